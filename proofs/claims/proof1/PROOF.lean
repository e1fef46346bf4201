import PyProof.Rows.All
import Wide.All
import OpenK.AllK
import Wide.FinOn
import PyProof.EqAt
import PyProof.EqKinds
import PyProof.TupleCall
import KE.BitLaws
import Open.SpecLaws
import KE.OsHead
import KE.OsGo
import PyFlatLaws
import PySem.Challenge.RW_cutstreams_s01_answers
section
set_option Elab.async false
set_option linter.all false
set_option maxRecDepth 100000
/-! THE HAND LAYER, for ints, bools, texts, own classes, lists, tuples, dicts, comprehensions, walks over dicts, enumerate, zip, reversed, texts, calls, loops. Paste it whole ahead of your own text; what your proof does not reach may be deleted. -/
namespace L2
open PySem PySem.Spec PyProof.Rows

/-- a key: an int or a str -/
abbrev Key := Sum Int Str
def keyIs : Key → Value → Bool
  | .inl k, v => Value.isInt k v
  | .inr x, v => Value.isStrOf x v
def keyH (w : World) : Key → Int
  | .inl k => hashInt k
  | .inr x => hashStr w x
theorem keyIs_shape : ∀ {k : Key} {v : Value}, keyIs k v = true → (∃ i t, k = Sum.inl i ∧ v = Value.int i t) ∨ (∃ x t, k = Sum.inr x ∧ v = Value.str x t)
  | .inl i, v, h => by
    obtain ⟨t, e⟩ := Value.isInt_shape (k := i) (v := v) h
    exact .inl ⟨i, t, rfl, e⟩
  | .inr x, v, h => by
    obtain ⟨t, e⟩ := Value.isStrOf_shape (x := x) (v := v) h
    exact .inr ⟨x, t, rfl, e⟩
theorem keyIs_int (i : Int) (t : Tok) : keyIs (.inl i) (.int i t) = true := by simp [keyIs, Value.isInt]
theorem keyIs_str (x : Str) (t : Tok) : keyIs (.inr x) (.str x t) = true := by simp [keyIs, Value.isStrOf]
theorem key_ll (a b : Int) : decide ((Sum.inl a : Key) = Sum.inl b) = (a == b) := by
  by_cases e : a = b
  · subst e; simp
  · have h : ¬ (Sum.inl a : Key) = Sum.inl b := fun q => e (Sum.inl.inj q)
    rw [decide_eq_false h]
    exact (beq_eq_false_iff_ne.mpr e).symm
theorem key_rr (a b : Str) : decide ((Sum.inr a : Key) = Sum.inr b) = decide (a = b) := by
  by_cases e : a = b
  · subst e; simp
  · have h : ¬ (Sum.inr a : Key) = Sum.inr b := fun q => e (Sum.inr.inj q)
    rw [decide_eq_false h, decide_eq_false e]
theorem key_lr (a : Int) (b : Str) : decide ((Sum.inl a : Key) = Sum.inr b) = false := decide_eq_false (fun q => nomatch q)
theorem key_rl (a : Str) (b : Int) : decide ((Sum.inr a : Key) = Sum.inl b) = false := decide_eq_false (fun q => nomatch q)

def mixKind (prog : Program) (w : World) : PySem.KeyKind prog w Key where
  is := keyIs
  hash := keyH w
  inj := fun v a b ha hb => by
    rcases keyIs_shape ha with ⟨i, t, rfl, rfl⟩ | ⟨x, t, rfl, rfl⟩
    · rcases keyIs_shape hb with ⟨j, u, rfl, e⟩ | ⟨y, u, rfl, e⟩
      · injection e with e1 _; rw [e1]
      · exact nomatch e
    · rcases keyIs_shape hb with ⟨j, u, rfl, e⟩ | ⟨y, u, rfl, e⟩
      · exact nomatch e
      · injection e with e1 _; rw [e1]
  byValue := fun k v h => by
    rcases keyIs_shape h with ⟨i, t, rfl, rfl⟩ | ⟨x, t, rfl, rfl⟩ <;> rfl
  pyHash := fun hv h => by
    rcases keyIs_shape hv with ⟨i, t, rfl, rfl⟩ | ⟨x, t, rfl, rfl⟩
    · exact wpAny_pyHash_int h
    · exact wpAny_pyHash_str h
  eqBool := fun hu hv h => by
    rcases keyIs_shape hu with ⟨i, t, rfl, rfl⟩ | ⟨x, t, rfl, rfl⟩
    · rcases keyIs_shape hv with ⟨j, u, rfl, rfl⟩ | ⟨y, u, rfl, rfl⟩
      · rw [key_ll] at h; exact wpAny_eqBool_int h
      · rw [key_lr] at h; exact SeqAt.EqAt.int_str i t y u _ _ _ _ h
    · rcases keyIs_shape hv with ⟨j, u, rfl, rfl⟩ | ⟨y, u, rfl, rfl⟩
      · rw [key_rl] at h; exact SeqAt.EqAt.str_int x t j u _ _ _ _ h
      · rw [key_rr] at h; exact wpAny_eqBool_str h
  «strs» := fun k x t v h => by
    rcases keyIs_shape h with ⟨i, u, rfl, e⟩ | ⟨y, u, rfl, e⟩
    · exact nomatch e
    · injection e with e1 _
      subst e1
      cases v <;> rfl

theorem mixKind_int (prog : Program) (w : World) (i : Int) (t : Tok) : (mixKind prog w).is (.inl i) (.int i t) = true := keyIs_int i t
theorem mixKind_str (prog : Program) (w : World) (x : Str) (t : Tok) : (mixKind prog w).is (.inr x) (.str x t) = true := keyIs_str x t
end L2

namespace L2
open PySem PySem.Spec PyProof.Rows

/-- a value, without the heap -/
inductive V where
  | non | bl (b : Bool) | int (i : Int) | str (x : Str) | byt (b : Array UInt8) | flt (b : UInt64) | ref (a : Addr) | ty (n : String)
  deriving DecidableEq

def RelV : V → Value → Prop
  | .non, u => u = Value.none
  | .bl b, u => u = Value.bool b
  | .int i, u => ∃ t, u = Value.int i t
  | .str x, u => ∃ t, u = Value.str x t
  | .byt b, u => ∃ t, u = Value.bytes b t
  | .flt b, u => ∃ t, u = Value.float b t
  | .ref a, u => u = Value.ref a
  | .ty n, u => u = Value.type n

abbrev Vals : List V → List Value → Prop := Paired RelV
theorem Vals.length {xs : List V} {us : List Value} (r : Vals xs us) : xs.length = us.length := Paired.length r
theorem Vals.get : ∀ {xs : List V} {us : List Value} {i : Nat} {x : V}, Vals xs us → xs[i]? = some x → ∃ u, us[i]? = some u ∧ RelV x u
  | _, _, _, _, .nil, e => by simp at e
  | _, _, 0, _, .cons r _, e => by simp at e; subst e; exact ⟨_, rfl, r⟩
  | _, _, i + 1, x, .cons _ t, e => by
    obtain ⟨u, h1, h2⟩ := Vals.get (i := i) (x := x) t (by simpa using e)
    exact ⟨u, by simpa using h1, h2⟩
theorem Vals.set {x : V} {u : Value} (r : RelV x u) : ∀ {xs : List V} {us : List Value} (i : Nat), Vals xs us → Vals (xs.set i x) (us.set i u)
  | _, _, _, .nil => .nil
  | _, _, 0, .cons _ t => .cons r t
  | _, _, i + 1, .cons q t => .cons q (Vals.set r i t)
theorem Vals.append : ∀ {xs ys : List V} {us ws : List Value}, Vals xs us → Vals ys ws → Vals (xs ++ ys) (us ++ ws)
  | _, _, _, _, .nil, s => s
  | _, _, _, _, .cons r t, s => .cons r (Vals.append t s)
theorem Vals.take : ∀ {xs : List V} {us : List Value} (n : Nat), Vals xs us → Vals (xs.take n) (us.take n)
  | _, _, 0, _ => .nil
  | _, _, _ + 1, .nil => .nil
  | _, _, n + 1, .cons r t => .cons r (Vals.take n t)
theorem Vals.drop : ∀ {xs : List V} {us : List Value} (n : Nat), Vals xs us → Vals (xs.drop n) (us.drop n)
  | _, _, 0, r => r
  | _, _, _ + 1, .nil => .nil
  | _, _, n + 1, .cons _ t => Vals.drop n t
def RelO : Option V → Option Value → Prop
  | some v, some u => RelV v u
  | none, none => True
  | _, _ => False
def KV {κ : Type} : List (κ × V) → List (κ × Value) → Prop := Paired fun (p : κ × V) (q : κ × Value) => p.1 = q.1 ∧ RelV p.2 q.2

/-- a key of a dict (00_mix): an int or a text -/
def kV : Key → V
  | .inl i => .int i
  | .inr x => .str x

/-- what stands at a tracked address -/
inductive HO where
  /-- a list -/
  | lst (xs : List V)
  /-- a tuple (never changes) -/
  | tup (xs : List V)
  /-- a dict whose keys are ints and texts; one whose keys are tuples of ints and texts (the empty one is both) -/
  | dK (kvs : List (Key × V)) | dT (kvs : List (List Key × V))
  /-- a set of ints: its members, its size -/
  | set (S : Int → Bool) (n : Nat)
  /-- an instance of the class at C, its dict at dx, its attributes -/
  | ins (C dx : Addr) (fs : List (Str × V))
  /-- the dict of the instance at x -/
  | own (x : Addr)
  /-- the dict of an exception -/
  | xd (fs : List (Str × V))
  /-- a bound method, f of x -/
  | met (f x : Addr)
  /-- a range object lo, lo + 1, .. below hi -/
  | rng (lo hi : Int)
  /-- a thing that is known to the object (the script; a dict while a loop walks it): read, never written while it is so -/
  | frz (o : Obj) (u : HO)
  /-- a code object's table -/
  | tbl (ps : Array Value)
  /-- any other thing, by what is true of its one object (a def of one's own: SetO a S n := HO.ext fun h => ..) -/
  | ext (φ : Heap → Prop)

abbrev Hp := Addr → Option HO
def upd (H : Hp) (a : Addr) (o : HO) : Hp := fun b => if b = a then some o else H b
theorem upd_same {H : Hp} {a : Addr} {o : HO} : upd H a o a = some o := by unfold upd; rw [if_pos rfl]
theorem upd_ne {H : Hp} {a b : Addr} {o : HO} (h : b ≠ a) : upd H a o b = H b := by unfold upd; rw [if_neg h]
theorem upd_upd {H : Hp} {a : Addr} {o u : HO} : upd (upd H a o) a u = upd H a u := by
  funext b; unfold upd; split <;> rfl
/-- two objects of different content stand apart -/
theorem ne_of {H : Hp} {a b : Addr} {o u : HO} (h : H a = some o) (h' : H b = some u) (d : o ≠ u) : a ≠ b := by
  intro e; subst e; rw [h] at h'; exact d (Option.some.inj h')
theorem ne_of_none {H : Hp} {a b : Addr} {o : HO} (h : H a = some o) (h' : H b = none) : a ≠ b := by
  intro e; subst e; rw [h] at h'; cases h'

section
variable (P : Program) (w : World)
def ObjOk (H : Hp) (h : Heap) (a : Addr) : HO → Prop
  | .lst xs => xs.length ≤ sizeLine ∧ ∃ (its : List Value) (n : Nat), Vals xs its ∧ h.get? a = some { cls := .type "list", data := .seq its.toArray n }
  | .tup xs => xs.length ≤ sizeLine ∧ ∃ its : List Value, Vals xs its ∧ IsTup h a its.toArray
  | .dK kvs => kvs.length ≤ sizeLine ∧ (a == sysModules) = false ∧ ∃ vs, KV kvs vs ∧ h.DictOf (mixKind P w) a vs
  | .dT kvs => kvs.length ≤ sizeLine ∧ (a == sysModules) = false ∧ ∃ xs : List (List Key × Addr × Value),
      Paired (fun (p : List Key × V) (q : List Key × Addr × Value) => p.1 = q.1 ∧ H q.2.1 = some (.tup (p.1.map kV)) ∧ RelV p.2 q.2.2) kvs xs ∧
      ∃ o es ep, h.get? a = some o ∧ o.ExactDict ∧ o.data = .dict es ep ∧ es.toList = xs.map (entryOfKey (tupleKind (mixKind P w))) ∧ (xs.map (·.1)).Nodup
  | .set S n => h.SetOf (intKind P w) a S n
  | .ins C dx fs => H dx = some (.own a) ∧ fs.length ≤ 1000 ∧ dx ≠ a ∧ h.get? a = some (PySem.W.instObj C dx) ∧
      ∃ mA, h.Ns1 dx mA ∧ (∀ f, RelO (fs.lookup f) (mA f)) ∧ PySem.Within mA (fs.map (·.1))
  | .own _ => ∃ o, h.get? a = some o
  | .xd fs => ∃ mA, h.Ns1 a mA ∧ ∀ f, RelO (fs.lookup f) (mA f)
  | .rng lo hi => ∃ t u v, h.get? a = some { cls := .type "range", data := .fields #[.int lo t, .int hi u, .int 1 v] }
  | .frz o u => h.get? a = some o ∧ ObjOk H h a u
  | .tbl ps => h.get? a = some { cls := .none, data := .fields ps }
  | .met f x => h.get? a = some (PySem.W.methodObj (.ref f) (.ref x))
  | .ext φ => φ h ∧ (∃ o, h.get? a = some o) ∧ ∀ h1 h2 : Heap, φ h1 → (∀ o, h1.get? a = some o → h2.get? a = some o) → φ h2
/-- the abstract heap is held -/
def HOk (H : Hp) (h : Heap) : Prop := ∀ a o, H a = some o → ObjOk P w H h a o
end

section
variable {P : Program} {w : World} {H H' : Hp} {h h' : Heap} {a : Addr} {o : HO}
theorem ObjOk.lt (x : ObjOk P w H h a o) : a < h.objs.size := by
  cases o with
  | lst xs => obtain ⟨_, _, _, _, e⟩ := x; exact Heap.lt_size e
  | tup xs => obtain ⟨_, _, _, p⟩ := x; exact p.lt
  | dK kvs => obtain ⟨_, _, _, _, o, _, _, e, _⟩ := x; exact Heap.lt_size e
  | dT kvs => obtain ⟨_, _, _, _, o, _, _, e, _⟩ := x; exact Heap.lt_size e
  | set S n => obtain ⟨o, _, _, _, e, _⟩ := x; exact Heap.lt_size e
  | ins C dx fs => obtain ⟨_, _, _, e, _⟩ := x; exact Heap.lt_size e
  | own y => obtain ⟨_, e⟩ := x; exact Heap.lt_size e
  | xd fs => obtain ⟨_, ⟨_, _, _, e, _⟩, _⟩ := x; exact Heap.lt_size e
  | rng lo hi => obtain ⟨_, _, _, e⟩ := x; exact Heap.lt_size e
  | frz ob u => obtain ⟨e, _⟩ := x; exact Heap.lt_size e
  | tbl ps => exact Heap.lt_size (show h.get? a = some _ from x)
  | met f y => exact Heap.lt_size (show h.get? a = some _ from x)
  | ext φ => obtain ⟨_, ⟨_, e⟩, _⟩ := x; exact Heap.lt_size e
theorem Paired.mapP {α β : Type} {F G : α → β → Prop} : ∀ {l₁ : List α} {l₂ : List β}, Paired F l₁ l₂ → (∀ a b, F a b → G a b) → Paired G l₁ l₂
  | _, _, .nil, _ => .nil
  | _, _, .cons r t, f => .cons (f _ _ r) (Paired.mapP t f)
/-- what an object's description leans on: its own object, its own dict, the tuples -/
theorem ObjOk.stay (x : ObjOk P w H h a o) (k : ∀ b u, (b = a ∨ H b = some (.own a)) → h.get? b = some u → h'.get? b = some u)
    (ho : ∀ b, H b = some (.own a) → H' b = some (.own a)) (ht : ∀ b xs, H b = some (.tup xs) → H' b = some (.tup xs)) : ObjOk P w H' h' a o := by
  induction o with
  | lst xs => obtain ⟨z, its, n, r, e⟩ := x; exact ⟨z, its, n, r, k _ _ (.inl rfl) e⟩
  | tup xs => obtain ⟨z, its, r, ob, e, c⟩ := x; exact ⟨z, its, r, ob, k _ _ (.inl rfl) e, c⟩
  | dK kvs => obtain ⟨z, y, vs, r, ob, es, ep, e, c⟩ := x; exact ⟨z, y, vs, r, ob, es, ep, k _ _ (.inl rfl) e, c⟩
  | dT kvs =>
    obtain ⟨z, y, xs, r, ob, es, ep, e, c⟩ := x
    exact ⟨z, y, xs, Paired.mapP r fun p q z => ⟨z.1, ht _ _ z.2.1, z.2.2⟩, ob, es, ep, k _ _ (.inl rfl) e, c⟩
  | set S n => obtain ⟨ob, es, ep, t, e, c⟩ := x; exact ⟨ob, es, ep, t, k _ _ (.inl rfl) e, c⟩
  | ins C dx fs =>
    obtain ⟨d, z, ne, e, mA, ⟨od, es, ep, e2, c⟩, r⟩ := x
    exact ⟨ho _ d, z, ne, k _ _ (.inl rfl) e, mA, ⟨od, es, ep, k _ _ (.inr d) e2, c⟩, r⟩
  | own y => obtain ⟨ob, e⟩ := x; exact ⟨ob, k _ _ (.inl rfl) e⟩
  | xd fs => obtain ⟨mA, ⟨od, es, ep, e, c⟩, r⟩ := x; exact ⟨mA, ⟨od, es, ep, k _ _ (.inl rfl) e, c⟩, r⟩
  | rng lo hi => obtain ⟨t, u, v, e⟩ := x; exact ⟨t, u, v, k _ _ (.inl rfl) e⟩
  | frz ob u ih => obtain ⟨e, q⟩ := x; exact ⟨k _ _ (.inl rfl) e, ih q⟩
  | tbl ps =>
    have e : h.get? a = some { cls := .none, data := .fields ps } := x
    show h'.get? a = some { cls := .none, data := .fields ps }
    exact k a _ (.inl rfl) e
  | met f y =>
    have e : h.get? a = some (PySem.W.methodObj (.ref f) (.ref y)) := x
    show h'.get? a = some (PySem.W.methodObj (.ref f) (.ref y))
    exact k a _ (.inl rfl) e
  | ext φ => obtain ⟨p, ⟨o, e⟩, st⟩ := x; exact ⟨st _ _ p fun o q => k _ _ (.inl rfl) q, ⟨o, k _ _ (.inl rfl) e⟩, st⟩
theorem HOk.lt (x : HOk P w H h) (e : H a = some o) : a < h.objs.size := (x a o e).lt
theorem HOk.fresh (x : HOk P w H h) (e : h.objs.size ≤ a) : H a = none := by
  cases q : H a with
  | none => rfl
  | some u => exact absurd (Nat.lt_of_lt_of_le (x.lt q) e) (Nat.lt_irrefl _)
/-- every object of the heap is kept -/
theorem HOk.kept (x : HOk P w H h) (k : ∀ b u, h.get? b = some u → h'.get? b = some u) : HOk P w H h' := fun a o e =>
  (x a o e).stay (fun b u _ q => k b u q) (fun _ q => q) fun _ _ q => q
/-- a new object is laid and tracked -/
theorem HOk.laid (x : HOk P w H h) (k : ∀ b u, h.get? b = some u → h'.get? b = some u) (hp : h.objs.size ≤ a) (new : ObjOk P w (upd H a o) h' a o) : HOk P w (upd H a o) h' := fun b u e => by
  have hn := x.fresh hp
  by_cases hb : b = a
  · subst hb; rw [upd_same] at e; cases e; exact new
  · rw [upd_ne hb] at e
    exact (x b u e).stay (fun c v _ q => k c v q) (fun c q => by rw [upd_ne (ne_of_none q hn)]; exact q) fun c xs q => by rw [upd_ne (ne_of_none q hn)]; exact q
end

/-- what may be read as u: it is u, or a known u -/
def Rd (H : Hp) (a : Addr) (u : HO) : Prop := H a = some u ∨ ∃ o, H a = some (.frz o u)
theorem Rd.ok {P : Program} {w : World} {H : Hp} {h : Heap} {a : Addr} {u : HO} (r : Rd H a u) (x : HOk P w H h) : ObjOk P w H h a u := by
  rcases r with r | ⟨o, r⟩
  · exact x a u r
  · obtain ⟨_, q⟩ := x a _ r
    exact q
/-- what may be written -/
def Mut : Option HO → Prop
  | some (.lst _) => True
  | some (.dK _) => True
  | some (.dT _) => True
  | some (.set _ _) => True
  | some (.ins _ _ _) => True
  | some (.ext _) => True
  | _ => False
section
variable {P : Program} {w : World} {H : Hp} {h h' : Heap} {x e : Addr} {o' : HO}
/-- the object at e is changed: x itself, or the dict of the instance x -/
theorem HOk.write (ok : HOk P w H h) (mu : Mut (H x)) (he : e = x ∨ H e = some (.own x)) (k : ∀ b u, b ≠ e → h.get? b = some u → h'.get? b = some u) (heo : ∃ u, h'.get? e = some u)
    (new : ObjOk P w (upd H x o') h' x o') : HOk P w (upd H x o') h' := fun b u q => by
  have nown : ∀ c y, H c = some (.own y) → c ≠ x := fun c y r z => by subst z; rw [r] at mu; exact mu
  have ntup : ∀ c xs, H c = some (.tup xs) → c ≠ x := fun c xs r z => by subst z; rw [r] at mu; exact mu
  by_cases hb : b = x
  · subst hb; rw [upd_same] at q; cases q; exact new
  · rw [upd_ne hb] at q
    by_cases hbe : b = e
    · have q' : H b = some (.own x) := by
        rcases he with z | z
        · exact absurd (hbe.trans z) hb
        · rw [hbe]; exact z
      rw [q] at q'; cases q'
      obtain ⟨v, hv⟩ := heo
      exact ⟨v, by rw [hbe]; exact hv⟩
    · refine (ok b u q).stay (fun c v hc r => k c v ?_ r) (fun c r => by rw [upd_ne (nown c b r)]; exact r) fun c xs r => by rw [upd_ne (ntup c xs r)]; exact r
      rcases hc with rfl | hc
      · exact hbe
      · rintro rfl
        rcases he with z | z
        · exact nown c b hc z
        · rw [hc] at z; cases z; exact hb rfl
end

/-! ### kept unless tracked; of the frames at fs (the callers') the slots may change (an exception that passes writes there); of the records at ex (iterators) nothing is said -/
structure Un (fs ex : List Addr) (H H' : Hp) (h h' : Heap) : Prop where
  keep : ∀ b o, h.get? b = some o → H b = none → b ∉ fs → b ∉ ex → h'.get? b = some o
  slot : ∀ b o, h.get? b = some o → H b = none → b ∈ fs → b ∉ ex → ∃ sl, h'.get? b = some { o with slots := sl }
  free : ∀ b o, h.get? b = some o → H b = none → b ∉ ex → H' b = none
  there : ∀ b o, h.get? b = some o → b ∉ ex → ∃ o', h'.get? b = some o'
  tups : ∀ b xs, H b = some (.tup xs) → H' b = some (.tup xs)
  frzs : ∀ b o u, H b = some (.frz o u) → H' b = some (.frz o u)
  tbls : ∀ b ps, H b = some (.tbl ps) → ∃ more, H' b = some (.tbl (ps ++ more))
section
variable {fs fs' ex ex' : List Addr} {H H1 H2 : Hp} {h h1 h2 h' : Heap} {a x e : Addr} {o : HO}
theorem Un.any (u : Un fs ex H H1 h h1) {b : Addr} {ob : Obj} (q : h.get? b = some ob) (n : H b = none) (hx : b ∉ ex) : ∃ sl, h1.get? b = some { ob with slots := sl } := by
  by_cases hb : b ∈ fs
  · exact u.slot b ob q n hb hx
  · exact ⟨ob.slots, u.keep b ob q n hb hx⟩
theorem Un.kept (k : ∀ b u, h.get? b = some u → h'.get? b = some u) : Un fs ex H H h h' :=
  ⟨fun b ob q _ _ _ => k b ob q, fun b ob q _ _ _ => ⟨ob.slots, k b ob q⟩, fun _ _ _ n _ => n, fun b ob q _ => ⟨ob, k b ob q⟩, fun _ _ q => q, fun _ _ _ q => q, fun _ ps q => ⟨#[], by rw [q]; simp⟩⟩
theorem Un.refl : Un fs ex H H h h := Un.kept fun _ _ q => q
theorem Un.laid (k : ∀ b u, h.get? b = some u → h'.get? b = some u) (hp : h.objs.size ≤ a) (hn : H a = none) : Un fs ex H (upd H a o) h h' where
  keep := fun b u q _ _ _ => k b u q
  slot := fun b u q _ _ _ => ⟨u.slots, k b u q⟩
  free := fun b u q n _ => by rw [upd_ne (Nat.ne_of_lt (Nat.lt_of_lt_of_le (Heap.lt_size q) hp))]; exact n
  there := fun b u q _ => ⟨u, k b u q⟩
  tups := fun b xs q => by rw [upd_ne (ne_of_none q hn)]; exact q
  frzs := fun b u xs q => by rw [upd_ne (ne_of_none q hn)]; exact q
  tbls := fun b ps q => ⟨#[], by rw [upd_ne (ne_of_none q hn), q]; simp⟩
theorem Un.write (mu : Mut (H x)) (he : e = x ∨ H e = some (.own x)) (k : ∀ b u, b ≠ e → h.get? b = some u → h'.get? b = some u) (heo : ∃ u, h'.get? e = some u) : Un fs ex H (upd H x o) h h' := by
  have hx : ∀ b, H b = none → b ≠ x := fun b n z => by subst z; rw [n] at mu; exact mu
  have hb : ∀ b, H b = none → b ≠ e := fun b n z => by
    subst z
    rcases he with r | r
    · exact hx b n r
    · rw [n] at r; cases r
  have hm : ∀ b u, H b = some u → ¬ Mut (some u) → b ≠ x := fun b u q nm z => by subst z; rw [q] at mu; exact nm mu
  refine ⟨fun b u q n _ _ => k b u (hb b n) q, fun b u q n _ _ => ⟨u.slots, k b u (hb b n) q⟩, fun b u q n _ => by rw [upd_ne (hx b n)]; exact n, fun b u q _ => ?_,
    fun b xs q => by rw [upd_ne (hm b _ q fun z => z)]; exact q, fun b u xs q => by rw [upd_ne (hm b _ q fun z => z)]; exact q, fun b ps q => ⟨#[], by rw [upd_ne (hm b _ q fun z => z), q]; simp⟩⟩
  by_cases hbe : b = e
  · subst hbe; exact heo
  · exact ⟨u, k b u hbe q⟩
end

/-! ### the heap without what is tracked -/
def trk (h : Heap) (H : Hp) : List Addr := (List.range h.objs.size).filter fun a => (H a).isSome
def hidT (h : Heap) (H : Hp) : Heap := PySem.W.hideAll h (trk h H)
theorem hidT_size (h : Heap) (H : Hp) : (hidT h H).objs.size = h.objs.size := PySem.W.hideAll_size _ _
theorem hidT_get {h : Heap} {H : Hp} {b : Addr} {o : Obj} (e : h.get? b = some o) (n : H b = none) : (hidT h H).get? b = some o :=
  PySem.W.hideAll_get _ e fun hm => by
    have q : (H b).isSome = true := (List.mem_filter.mp hm).2
    rw [n] at q; simp at q
theorem of_hidT {h : Heap} {H : Hp} {b : Addr} {o : Obj} (e : (hidT h H).get? b = some o) : h.get? b = some o ∧ H b = none := by
  have e' : h.get? b = some o := PySem.W.of_hideAll (trk h H) e
  refine ⟨e', ?_⟩
  cases q : H b with
  | none => rfl
  | some x =>
    have hm : b ∈ trk h H := List.mem_filter.mpr ⟨List.mem_range.mpr (Heap.lt_size e'), by simp [q]⟩
    have z : (hidT h H).get? b = none := PySem.W.hideAll_none (trk h H) hm
    rw [z] at e; cases e

/-! ### OpenK's ledger, filled with every new object but one -/
def allNews (g h : Heap) (L : Addr) : List (Addr × Obj) := (List.range h.objs.size).filterMap fun a => if a = L ∨ (g.get? a).isSome = true then none else (h.get? a).map fun o => (a, o)
def rest (g h : Heap) (L d : Addr) : List (Addr × Obj) := (allNews g h L).filter fun p => decide (p.1 ≠ d)
end L2

namespace L2
open PySem PySem.Spec PyProof.Rows

/-- the module's facts, over the base: the heap at the law's entry without what is tracked there -/
structure Mod (K : PySem.W.Frag) (mg : Str → Option Value) (base : Heap) : Prop where
  kin : K.In base
  glob : base.Ns mainGlobals mg
  blt : ∃ mb, base.Ns builtinsNs mb ∧ ∀ x : Str, x ≠ "__name__" → mb x = bootBuiltins x
  nolimit : base.NoLimit

/-- the context: a def's body (or a comprehension's block) running. base: fixed through the whole law; s₀, H₀: the entry; outer: the frames whose slots others may change (a def's callers); stack: all frames that run;
   ex: iterators that were made ahead of the entry and are walked here (a comprehension's); fn: the names whose cells were made at the entry (a def: all; a comprehension's block: its own); calm: not within an except suite; pn: pins that every state bears; xe: what is wanted of an exception that leaves the code -/
structure Cx where
  prog : Program
  w : World
  K : PySem.W.Frag
  mg : Str → Option Value
  base : Heap
  A : Around
  N : List Str
  s_0 : Shared
  H_0 : Hp
  env : Env
  outer : List Env
  stack : List Env
  ex : List Addr
  fn : Str → Bool
  calm : Bool
  pn : List (Addr × Obj)
  xe : Value → Shared → Prop
/-- the callers' frames -/
def frs (l : List Env) : List Addr := l.filterMap (·.frame)
abbrev Cx.fs (X : Cx) : List Addr := frs X.outer

def Vis (sc : Scope) (x : Str) : Prop := sc.names.lookup x = some .local ∨ sc.names.lookup x = some .cell ∨ sc.names.lookup x = some .free
def Loc (sc : Scope) (x : Str) : Prop := sc.names.lookup x = some .local ∨ sc.names.lookup x = some .cell
def Look (env : Env) (h : Heap) (m : Str → Option Value) (x : Str) (u : Value) : Prop :=
  (env.kindOf x = some .local ∧ m x = some u) ∨ ((env.kindOf x = some .cell ∨ env.kindOf x = some .free) ∧ ∃ c, env.cells.lookup x = some c ∧ h.IsCell c (some u))

structure Cx.Ok (X : Cx) : Prop where
  mod : Mod X.K X.mg X.base
  kind : X.env.scope.kind = .function
  glob : X.env.globals = mainGlobals
  blt : X.env.builtins = builtinsNs
  above : X.s_0.heap.objs.size ≤ X.env.locals
  inj : ∀ x y c, X.env.cells.lookup x = some c → X.env.cells.lookup y = some c → x = y
  has : ∀ x, (X.env.kindOf x = some .cell ∨ X.env.kindOf x = some .free) → ∃ c, X.env.cells.lookup x = some c
  cab : ∀ x c, X.fn x = true → X.env.cells.lookup x = some c → X.s_0.heap.objs.size ≤ c
  hd : X.calm = true → X.A.handled = none
  frames : X.A.frames = some X.stack
  stk : X.stack = X.outer ∨ (X.stack = X.env :: X.outer ∧ X.env.frame = some X.env.locals)
  exf : ∀ b ∈ X.ex, b ≠ X.env.locals ∧ ∀ x c, X.env.cells.lookup x = some c → c ≠ b
  bs : ∀ b o, X.base.get? b = some o → X.s_0.heap.get? b = some o ∧ X.H_0 b = none
  bsz : X.base.objs.size ≤ X.s_0.heap.objs.size
  noex : ∀ b o, X.base.get? b = some o → b ∉ X.ex
  exfs : ∀ b ∈ X.ex, b ∉ X.fs
  funs : X.s_0.heap.FunFrames X.base X.outer
  frf : ∀ b ∈ X.fs, X.H_0 b = none

structure Inv (X : Cx) (pins : List (Addr × Obj)) (σ : List (Option V)) (H : Hp) (s : Shared) : Prop where
  ok : X.Ok
  os : s.os = X.s_0.os
  bare : AllBare s.gens
  base : Un X.fs X.ex X.H_0 H X.s_0.heap s.heap
  loc : ∃ m, s.heap.Ns X.env.locals m ∧ ∀ (i : Nat) (x : Str) (v : V), X.N[i]? = some x → σ[i]? = some (some v) → Vis X.env.scope x → ∃ u, RelV v u ∧ Look X.env s.heap m x u
  cell : ∀ x c, X.env.cells.lookup x = some c → ∃ v, s.heap.IsCell c v
  free : H X.env.locals = none
  freeC : ∀ x c, X.env.cells.lookup x = some c → H c = none
  pin : ∀ p ∈ X.pn ++ pins, s.heap.get? p.1 = some p.2 ∧ H p.1 = none ∧ p.1 ≠ X.env.locals ∧ p.1 ∉ X.fs ∧ ∀ v, p.2.data ≠ .cell v
  hok : HOk X.prog X.w H s.heap
  len : σ.length = X.N.length

section
variable {X : Cx} {pins : List (Addr × Obj)} {σ : List (Option V)} {H H' : Hp} {s : Shared} {h' : Heap}

theorem Cx.Ok.nofr (ok : X.Ok) {b : Addr} {o : Obj} (e : X.base.get? b = some o) : b ∉ X.fs := fun hb => by
  have := (ok.funs.mem hb).1
  rw [e] at this; cases this
theorem Inv.bs (I : Inv X pins σ H s) : ∀ b o, X.base.get? b = some o → s.heap.get? b = some o ∧ H b = none := fun b o e =>
  ⟨I.base.keep b o (I.ok.bs b o e).1 (I.ok.bs b o e).2 (I.ok.nofr e) (I.ok.noex b o e), I.base.free b o (I.ok.bs b o e).1 (I.ok.bs b o e).2 (I.ok.noex b o e)⟩
theorem Inv.bk (I : Inv X pins σ H s) : ∀ b o, X.base.get? b = some o → s.heap.get? b = some o := fun b o e => (I.bs b o e).1
theorem Inv.mod (I : Inv X pins σ H s) : Mod X.K X.mg X.base := I.ok.mod
theorem Inv.kIn (I : Inv X pins σ H s) : X.K.In s.heap := I.ok.mod.kin.keeps I.bk
theorem Inv.lt (I : Inv X pins σ H s) : X.env.locals < s.heap.objs.size := let ⟨_, hn, _⟩ := I.loc; hn.lt
theorem Inv.sz (I : Inv X pins σ H s) : X.s_0.heap.objs.size ≤ s.heap.objs.size := Nat.le_trans I.ok.above (Nat.le_of_lt I.lt)
theorem Inv.nofs (I : Inv X pins σ H s) {a : Addr} (h : s.heap.objs.size ≤ a) : a ∉ X.fs := fun hb => by
  obtain ⟨_, o, ho, _⟩ := I.ok.funs.mem hb
  exact absurd (Nat.lt_of_lt_of_le (Heap.lt_size ho) (Nat.le_trans I.sz h)) (Nat.lt_irrefl _)
theorem Inv.cne (I : Inv X pins σ H s) : ∀ x c, X.env.cells.lookup x = some c → c ≠ X.env.locals := fun x c e z => by
  obtain ⟨v, o, ho, hd⟩ := I.cell x c e
  obtain ⟨m, ⟨o', es, ep, ho', hd', _⟩, _⟩ := I.loc
  rw [z, ho'] at ho; cases ho; rw [hd'] at hd; cases hd
theorem Inv.funs (I : Inv X pins σ H s) : s.heap.FunFrames X.base X.outer := by
  have all : ∀ (l : List Env), (∀ b ∈ frs l, b ∈ X.fs) → X.s_0.heap.FunFrames X.base l → s.heap.FunFrames X.base l := by
    intro l
    induction l with
    | nil => intro _ _; trivial
    | cons env r ih =>
      intro hs hl
      obtain ⟨hk, ⟨L, o, hf, hn, ho, hd⟩, hr⟩ := hl
      have hL : L ∈ X.fs := hs L (by unfold frs; rw [List.filterMap_cons, hf]; exact List.mem_cons_self)
      obtain ⟨sl, e⟩ := I.base.slot L o ho (I.ok.frf L hL) hL fun z => I.ok.exfs L z hL
      exact ⟨hk, ⟨L, _, hf, hn, e, hd⟩, ih (fun b hb => hs b (by unfold frs; rw [List.filterMap_cons, hf]; exact List.mem_cons_of_mem _ hb)) hr⟩
  exact all X.outer (fun _ hb => hb) I.ok.funs

/-- the frames that run, for a call -/
theorem Inv.stack (I : Inv X pins σ H s) : s.heap.FunFrames X.base X.stack := by
  rcases I.ok.stk with e | ⟨e, hf⟩
  · rw [e]; exact I.funs
  · rw [e]
    obtain ⟨m, hn, _⟩ := I.loc
    refine .cons (by rw [I.ok.kind]; decide) hf hn ?_ I.funs
    exact Heap.get?_none_of_le (Nat.le_trans I.ok.bsz I.ok.above)
theorem Inv.stkSub (I : Inv X pins σ H s) : ∀ b ∈ frs X.stack, b ∈ X.env.locals :: X.fs := fun b hb => by
  rcases I.ok.stk with e | ⟨e, hf⟩
  · rw [e] at hb; exact List.mem_cons_of_mem _ hb
  · rw [e] at hb
    unfold frs at hb
    rw [List.filterMap_cons, hf] at hb
    exact hb
theorem Inv.stkFree (I : Inv X pins σ H s) : ∀ b ∈ frs X.stack, H b = none := fun b hb => by
  rcases List.mem_cons.mp (I.stkSub b hb) with e | hb
  · rw [e]; exact I.free
  · obtain ⟨_, o, ho, _⟩ := I.ok.funs.mem hb
    exact I.base.free b o ho (I.ok.frf b hb) fun z => I.ok.exfs b z hb

/-- THE STEP: the untracked objects but the frame and the records at ch are kept (the callers' frames up to slots), the frame's map is kept, the new abstract heap is held -/
theorem Inv.step {g' : Array GenState} {t' : Nat} {d' : Drawn} {ch : List Addr} (I : Inv X pins σ H s)
    (hch : ∀ b ∈ ch, (b ∈ X.ex ∨ X.s_0.heap.objs.size ≤ b) ∧ b ≠ X.env.locals ∧ (∀ x c, X.env.cells.lookup x = some c → c ≠ b) ∧ ∀ p ∈ X.pn ++ pins, p.1 ≠ b)
    (keep : ∀ b o, b ≠ X.env.locals → b ∉ X.fs → b ∉ ch → s.heap.get? b = some o → H b = none → h'.get? b = some o)
    (slot : ∀ b o, b ≠ X.env.locals → b ∈ X.fs → b ∉ ch → s.heap.get? b = some o → H b = none → ∃ sl, h'.get? b = some { o with slots := sl }) (free : ∀ b o, b ∉ ch → s.heap.get? b = some o → H b = none → H' b = none)
    (there : ∀ b o, b ∉ ch → s.heap.get? b = some o → ∃ o', h'.get? b = some o')
    (tups : ∀ b xs, H b = some (.tup xs) → H' b = some (.tup xs)) (frzs : ∀ b o u, H b = some (.frz o u) → H' b = some (.frz o u)) (tbls : ∀ b ps, H b = some (.tbl ps) → ∃ more, H' b = some (.tbl (ps ++ more)))
    (ns : ∀ m, s.heap.Ns X.env.locals m → h'.Ns X.env.locals m) (hok : HOk X.prog X.w H' h') (hg : AllBare g') :
    Inv X pins σ H' { s with heap := h', gens := g', drawn := d', toks := t' } := by
  have neL : ∀ b o, X.s_0.heap.get? b = some o → b ≠ X.env.locals := fun b o e => Nat.ne_of_lt (Nat.lt_of_lt_of_le (Heap.lt_size e) I.ok.above)
  have neC : ∀ b o, X.s_0.heap.get? b = some o → b ∉ X.ex → b ∉ ch := fun b o e hx hb => by
    rcases (hch b hb).1 with z | z
    · exact hx z
    · exact absurd (Nat.lt_of_lt_of_le (Heap.lt_size e) z) (Nat.lt_irrefl _)
  have cellK : ∀ x c, X.env.cells.lookup x = some c → ∀ v, s.heap.IsCell c v → h'.IsCell c v := fun x c e v ⟨o, ho, hd⟩ => by
    have nch : c ∉ ch := fun z => (hch c z).2.2.1 x c e rfl
    by_cases hc : c ∈ X.fs
    · obtain ⟨sl, q⟩ := slot c o (I.cne x c e) hc nch ho (I.freeC x c e)
      exact ⟨_, q, hd⟩
    · exact ⟨o, keep c o (I.cne x c e) hc nch ho (I.freeC x c e), hd⟩
  refine ⟨I.ok, I.os, hg, ⟨fun b o e n hb hx => ?_, fun b o e n hb hx => ?_, fun b o e n hx => ?_, fun b o e hx => ?_, fun b xs e => tups b xs (I.base.tups b xs e), fun b o xs e => frzs b o xs (I.base.frzs b o xs e), fun b ps e => ?_⟩, ?_, fun x c e => ?_, ?_, fun x c e => ?_, fun p hp => ?_, hok, I.len⟩
  · exact keep b o (neL b o e) hb (neC b o e hx) (I.base.keep b o e n hb hx) (I.base.free b o e n hx)
  · obtain ⟨sl, e1⟩ := I.base.slot b o e n hb hx
    obtain ⟨sl', e2⟩ := slot b _ (neL b o e) hb (neC b o e hx) e1 (I.base.free b o e n hx)
    exact ⟨sl', e2⟩
  · obtain ⟨o', e1⟩ := I.base.there b o e hx
    exact free b o' (neC b o e hx) e1 (I.base.free b o e n hx)
  · obtain ⟨o', e1⟩ := I.base.there b o e hx
    exact there b o' (neC b o e hx) e1
  · obtain ⟨m1, e1⟩ := I.base.tbls b ps e
    obtain ⟨m2, e2⟩ := tbls b _ e1
    exact ⟨m1 ++ m2, by rw [e2, Array.append_assoc]⟩
  · obtain ⟨m, hn, hl⟩ := I.loc
    refine ⟨m, ns m hn, fun i x v e1 e2 e3 => ?_⟩
    obtain ⟨u, r, l⟩ := hl i x v e1 e2 e3
    refine ⟨u, r, ?_⟩
    rcases l with l | ⟨k, c, e, z⟩
    · exact .inl l
    · exact .inr ⟨k, c, e, cellK x c e _ z⟩
  · obtain ⟨v, z⟩ := I.cell x c e
    exact ⟨v, cellK x c e v z⟩
  · obtain ⟨m, ⟨o, _, _, ho, _⟩, _⟩ := I.loc
    exact free _ o (fun z => (hch _ z).2.1 rfl) ho I.free
  · obtain ⟨v, o, ho, hd⟩ := I.cell x c e
    exact free c o (fun z => (hch c z).2.2.1 x c e rfl) ho (I.freeC x c e)
  · obtain ⟨e, n, ne, nf, d⟩ := I.pin p hp
    have nch : p.1 ∉ ch := fun z => (hch p.1 z).2.2.2 p hp rfl
    exact ⟨keep p.1 p.2 ne nf nch e n, free p.1 p.2 nch e n, ne, nf, d⟩
/-- .. where the frame's own object is kept too -/
theorem Inv.un {t' : Nat} (I : Inv X pins σ H s) (u : Un X.fs [] H H' s.heap h') (hok : HOk X.prog X.w H' h') : Inv X pins σ H' { s with heap := h', toks := t' } := by
  obtain ⟨m, ⟨o, es, ep, ho, r⟩, _⟩ := id I.loc
  obtain ⟨sl, hL⟩ := u.any ho I.free (by simp)
  exact I.step (g' := s.gens) (d' := s.drawn) (ch := []) (fun _ z => nomatch z) (fun b o _ hb _ e n => u.keep b o e n hb (by simp)) (fun b o _ hb _ e n => u.slot b o e n hb (by simp)) (fun b o _ e n => u.free b o e n (by simp)) (fun b o _ e => u.there b o e (by simp)) u.tups u.frzs u.tbls (fun m' hm => by
    obtain ⟨o', es', ep', ho', r'⟩ := hm
    rw [ho] at ho'; cases ho'
    exact ⟨_, es', ep', hL, r'⟩) hok I.bare
/-- behind a call (or a comprehension's block): the slots of this frame may have changed too, the records at ch may have turned -/
theorem Inv.call {g' : Array GenState} {t' : Nat} {d' : Drawn} {ch : List Addr} (I : Inv X pins σ H s) (u : Un (frs X.stack) ch H H' s.heap h') (hok : HOk X.prog X.w H' h') (hg : AllBare g')
    (hch : ∀ b ∈ ch, (b ∈ X.ex ∨ X.s_0.heap.objs.size ≤ b) ∧ b ≠ X.env.locals ∧ (∀ x c, X.env.cells.lookup x = some c → c ≠ b) ∧ ∀ p ∈ X.pn ++ pins, p.1 ≠ b) :
    Inv X pins σ H' { s with heap := h', gens := g', drawn := d', toks := t' } := by
  obtain ⟨m, ⟨o, es, ep, ho, r⟩, _⟩ := id I.loc
  obtain ⟨sl, hL⟩ := u.any ho I.free fun z => (hch _ z).2.1 rfl
  exact I.step (ch := ch) hch (fun b o hL hb hc e n => u.keep b o e n (fun z => (List.mem_cons.mp (I.stkSub b z)).elim hL hb) hc) (fun b o _ _ hc e n => u.any e n hc) (fun b o hc e n => u.free b o e n hc) (fun b o hc e => u.there b o e hc) u.tups u.frzs u.tbls (fun m' hm => by
    obtain ⟨o', es', ep', ho', r'⟩ := hm
    rw [ho] at ho'; cases ho'
    exact ⟨_, es', ep', hL, r'⟩) hok hg
/-- an untracked record of ours (an iterator) has turned -/
theorem Inv.turned {t' : Nat} {it : Addr} (I : Inv X pins σ H s) (k : ∀ b o, b ≠ it → s.heap.get? b = some o → h'.get? b = some o) (hn : H it = none) (hL : it ≠ X.env.locals)
    (h1 : it ∈ X.ex ∨ X.s_0.heap.objs.size ≤ it) (h2 : ∀ x c, X.env.cells.lookup x = some c → c ≠ it) (h3 : ∀ p ∈ X.pn ++ pins, p.1 ≠ it) : Inv X pins σ H { s with heap := h', toks := t' } := by
  have nit : ∀ b u, H b = some u → b ≠ it := fun b u e z => by rw [z, hn] at e; cases e
  refine I.step (g' := s.gens) (d' := s.drawn) (ch := [it]) (fun b hb => ?_) (fun b o _ _ hc e _ => k b o (fun z => hc (by simp [z])) e) (fun b o _ _ hc e _ => ⟨o.slots, k b o (fun z => hc (by simp [z])) e⟩) (fun _ _ _ _ n => n)
    (fun b o hc e => ⟨o, k b o (fun z => hc (by simp [z])) e⟩) (fun _ _ e => e) (fun _ _ _ e => e) (fun b ps e => ⟨#[], by rw [e]; simp⟩) (fun m hm => ?_) (fun b u e => ?_) I.bare
  · have e : b = it := by simpa using hb
    subst e
    exact ⟨h1, hL, h2, h3⟩
  · obtain ⟨o, es, ep, ho, r⟩ := hm
    exact ⟨o, es, ep, k _ o (Ne.symm hL) ho, r⟩
  · refine (I.hok b u e).stay (fun c v hc q => k c v ?_ q) (fun _ q => q) fun _ _ q => q
    rcases hc with z | z
    · rw [z]; exact nit b u e
    · exact nit c _ z
theorem Inv.tok (I : Inv X pins σ H s) (t : Nat) : Inv X pins σ H { s with toks := t } := I.un (h' := s.heap) (t' := t) Un.refl I.hok
/-- all objects kept -/
theorem Inv.kept {t' : Nat} (I : Inv X pins σ H s) (k : ∀ b u, s.heap.get? b = some u → h'.get? b = some u) : Inv X pins σ H { s with heap := h', toks := t' } := I.un (Un.kept k) (I.hok.kept k)
/-- a new object laid and tracked -/
theorem Inv.laid {a : Addr} {o : HO} {t' : Nat} (I : Inv X pins σ H s) (k : ∀ b u, s.heap.get? b = some u → h'.get? b = some u) (hp : s.heap.objs.size ≤ a) (new : ObjOk X.prog X.w (upd H a o) h' a o) :
    Inv X pins σ (upd H a o) { s with heap := h', toks := t' } := I.un (Un.laid k hp (I.hok.fresh hp)) (I.hok.laid k hp new)
/-- an object written -/
theorem Inv.write {x e : Addr} {o : HO} {t' : Nat} (I : Inv X pins σ H s) (mu : Mut (H x)) (he : e = x ∨ H e = some (.own x)) (k : ∀ b u, b ≠ e → s.heap.get? b = some u → h'.get? b = some u) (heo : ∃ u, h'.get? e = some u)
    (new : ObjOk X.prog X.w (upd H x o) h' x o) : Inv X pins σ (upd H x o) { s with heap := h', toks := t' } := I.un (Un.write mu he k heo) (I.hok.write mu he k heo new)
/-- forgetting slots, pins -/
theorem Inv.weak {σ' : List (Option V)} (I : Inv X pins σ H s) (hl : σ'.length = σ.length) (w : ∀ (i : Nat) v, σ'[i]? = some (some v) → σ[i]? = some (some v)) : Inv X pins σ' H s :=
  ⟨I.ok, I.os, I.bare, I.base, let ⟨m, hn, hl'⟩ := I.loc; ⟨m, hn, fun i x v e1 e2 e3 => hl' i x v e1 (w i v e2) e3⟩, I.cell, I.free, I.freeC, I.pin, I.hok, hl.trans I.len⟩
theorem Inv.pins_of {pins' : List (Addr × Obj)} (I : Inv X pins σ H s) (h : ∀ p ∈ pins', s.heap.get? p.1 = some p.2 ∧ H p.1 = none ∧ p.1 ≠ X.env.locals ∧ p.1 ∉ X.fs ∧ ∀ v, p.2.data ≠ .cell v) : Inv X pins' σ H s :=
  ⟨I.ok, I.os, I.bare, I.base, I.loc, I.cell, I.free, I.freeC, fun p hp => (List.mem_append.mp hp).elim (fun z => I.pin p (List.mem_append_left _ z)) (h p), I.hok, I.len⟩

theorem nodup_ix {N : List Str} (hN : N.Nodup) {i j : Nat} {x : Str} (a : N[i]? = some x) (b : N[j]? = some x) : i = j := by
  obtain ⟨h1, e1⟩ := List.getElem?_eq_some_iff.mp a
  obtain ⟨h2, e2⟩ := List.getElem?_eq_some_iff.mp b
  exact (List.getElem_inj hN).mp (e1.trans e2.symm)

/-- a name is stored; what changed -/
theorem store_ok2 {M : Model} {A : Around} {E : Value → Shared → Prop} {i : Nat} {x : Str} {v : V} {u : Value} {Q : Unit → Shared → Prop} (I : Inv X pins σ H s) (hN : X.N.Nodup) (hi : X.N[i]? = some x) (hx : Loc X.env.scope x) (r : RelV v u)
    (h : ∀ s', Inv X pins (σ.set i (some v)) H s' → (∃ a, Heap.SameBut a s.heap s'.heap ∧ (a = X.env.locals ∨ X.env.cells.lookup x = some a)) → Q () s') (hf : X.fn x = true ∨ X.env.scope.names.lookup x = some .local := by first | exact .inl rfl | exact .inr rfl | assumption) : wpAny M A (storeName X.env x u) Q E s := by
  obtain ⟨m, hn, hl⟩ := id I.loc
  have hcls : (X.env.scope.kind == .class || (X.env.scope.kind == .module && X.env.locals != X.env.globals)) = false := by rw [I.ok.kind]; rfl
  have hiσ : i < σ.length := by rw [I.len]; exact (List.getElem?_eq_some_iff.mp hi).1
  have cne := I.cne
  have tracked : ∀ {a : Addr} {h' : Heap}, (∃ o, s.heap.get? a = some o ∧ H a = none) → Heap.SameBut a s.heap h' → HOk X.prog X.w H h' := fun {a h'} ha hs b ob e => by
    obtain ⟨_, _, hfree⟩ := ha
    refine (I.hok b ob e).stay (fun c w' hc q => (hs.2 c ?_).trans q) (fun _ q => q) fun _ _ q => q
    rintro rfl
    rcases hc with rfl | hc
    · rw [hfree] at e; cases e
    · rw [hfree] at hc; cases hc
  rcases hx with hk | hk
  · refine wpAny_storeName_local hk hn (fun h' hn' hs => ?_) hcls
    obtain ⟨oL, _, _, hoL, _⟩ := id hn
    refine h _ ⟨I.ok, I.os, I.bare, ⟨fun b o e n hb hx => ?_, fun b o e n hb hx => ?_, I.base.free, fun b o e hx => ?_, I.base.tups, I.base.frzs, I.base.tbls⟩, ⟨_, hn', fun j y v' e1 e2 e3 => ?_⟩, fun y c e => ?_, I.free, I.freeC, fun p hp => ?_, tracked ⟨oL, hoL, I.free⟩ hs, by simpa using I.len⟩ ⟨_, hs, .inl rfl⟩
    · exact (hs.2 b (Nat.ne_of_lt (Nat.lt_of_lt_of_le (Heap.lt_size e) I.ok.above))).trans (I.base.keep b o e n hb hx)
    · obtain ⟨sl, e1⟩ := I.base.slot b o e n hb hx
      exact ⟨sl, (hs.2 b (Nat.ne_of_lt (Nat.lt_of_lt_of_le (Heap.lt_size e) I.ok.above))).trans e1⟩
    · obtain ⟨o', e1⟩ := I.base.there b o e hx
      exact ⟨o', (hs.2 b (Nat.ne_of_lt (Nat.lt_of_lt_of_le (Heap.lt_size e) I.ok.above))).trans e1⟩
    · by_cases hj : j = i
      · subst hj
        rw [hi] at e1; cases e1
        rw [List.getElem?_set_self hiσ] at e2
        cases e2
        exact ⟨u, r, .inl ⟨hk, by simp⟩⟩
      · rw [List.getElem?_set_ne (Ne.symm hj)] at e2
        obtain ⟨u', r', q⟩ := hl j y v' e1 e2 e3
        refine ⟨u', r', ?_⟩
        rcases q with ⟨k, e⟩ | ⟨k, c, e, z⟩
        · refine .inl ⟨k, ?_⟩
          have : y ≠ x := fun e => hj (nodup_ix hN e1 (e ▸ hi))
          simp [this, e]
        · exact .inr ⟨k, c, e, z.sameBut hs (cne y c e)⟩
    · obtain ⟨w', z⟩ := I.cell y c e
      exact ⟨w', z.sameBut hs (cne y c e)⟩
    · obtain ⟨e, n, ne, nf, d⟩ := I.pin p hp
      exact ⟨(hs.2 p.1 ne).trans e, n, ne, nf, d⟩
  · have hfn : X.fn x = true := by
      rcases hf with z | z
      · exact z
      · rw [z] at hk; cases hk
    obtain ⟨c, hc⟩ := I.ok.has x (.inl hk)
    obtain ⟨w', z⟩ := I.cell x c hc
    refine wpAny_storeName_cell I.ok.kind hk hc z (fun h' hc' hs => ?_)
    obtain ⟨oc, hoc, hocd⟩ := id z
    refine h { s with heap := h' } ⟨I.ok, I.os, I.bare, ⟨fun b o e n hb hx => ?_, fun b o e n hb hx => ?_, I.base.free, fun b o e hx => ?_, I.base.tups, I.base.frzs, I.base.tbls⟩, ⟨m, hn.sameBut hs (Ne.symm (cne x c hc)), fun j y v' e1 e2 e3 => ?_⟩, fun y c' e => ?_, I.free, I.freeC, fun p hp => ?_, tracked ⟨oc, hoc, I.freeC x c hc⟩ hs, by simpa using I.len⟩ ⟨c, hs, .inr hc⟩
    · exact (hs.2 b (Nat.ne_of_lt (Nat.lt_of_lt_of_le (Heap.lt_size e) (I.ok.cab x c hfn hc)))).trans (I.base.keep b o e n hb hx)
    · obtain ⟨sl, e1⟩ := I.base.slot b o e n hb hx
      exact ⟨sl, (hs.2 b (Nat.ne_of_lt (Nat.lt_of_lt_of_le (Heap.lt_size e) (I.ok.cab x c hfn hc)))).trans e1⟩
    · obtain ⟨o', e1⟩ := I.base.there b o e hx
      exact ⟨o', (hs.2 b (Nat.ne_of_lt (Nat.lt_of_lt_of_le (Heap.lt_size e) (I.ok.cab x c hfn hc)))).trans e1⟩
    · by_cases hj : j = i
      · subst hj
        rw [hi] at e1; cases e1
        rw [List.getElem?_set_self hiσ] at e2
        cases e2
        exact ⟨u, r, .inr ⟨.inl hk, c, hc, hc'⟩⟩
      · rw [List.getElem?_set_ne (Ne.symm hj)] at e2
        obtain ⟨u', r', q⟩ := hl j y v' e1 e2 e3
        refine ⟨u', r', ?_⟩
        rcases q with q | ⟨k, c', e, z'⟩
        · exact .inl q
        · refine .inr ⟨k, c', e, z'.sameBut hs ?_⟩
          rintro rfl
          exact hj (nodup_ix hN e1 (I.ok.inj _ _ _ e hc ▸ hi))
    · by_cases hcc : c' = c
      · subst hcc; exact ⟨_, hc'⟩
      · obtain ⟨w2, z2⟩ := I.cell y c' e
        exact ⟨w2, z2.sameBut hs hcc⟩
    · obtain ⟨e, n, ne, nf, d⟩ := I.pin p hp
      refine ⟨(hs.2 p.1 ?_).trans e, n, ne, nf, d⟩
      intro q
      rw [q, hoc] at e
      have q' : oc = p.2 := Option.some.inj e
      exact d w' (by rw [← q']; exact hocd)
theorem store_ok {M : Model} {A : Around} {E : Value → Shared → Prop} {i : Nat} {x : Str} {v : V} {u : Value} {Q : Unit → Shared → Prop} (I : Inv X pins σ H s) (hN : X.N.Nodup) (hi : X.N[i]? = some x) (hx : Loc X.env.scope x) (r : RelV v u)
    (h : ∀ s', Inv X pins (σ.set i (some v)) H s' → Q () s') (hf : X.fn x = true ∨ X.env.scope.names.lookup x = some .local := by first | exact .inl rfl | exact .inr rfl | assumption) : wpAny M A (storeName X.env x u) Q E s :=
  store_ok2 I hN hi hx r (fun s' I' _ => h s' I') hf
/-- behind a call or a block, the state as it is -/
theorem Inv.call' {s' : Shared} {ch : List Addr} (I : Inv X pins σ H s) (ho : s'.os = s.os) (u : Un (frs X.stack) ch H H' s.heap s'.heap) (hok : HOk X.prog X.w H' s'.heap) (hg : AllBare s'.gens)
    (hch : ∀ b ∈ ch, (b ∈ X.ex ∨ X.s_0.heap.objs.size ≤ b) ∧ b ≠ X.env.locals ∧ (∀ x c, X.env.cells.lookup x = some c → c ≠ b) ∧ ∀ p ∈ X.pn ++ pins, p.1 ≠ b) : Inv X pins σ H' s' := by
  obtain ⟨h', g', d', t', o'⟩ := s'
  have e : o' = s.os := ho
  subst e
  exact I.call (g' := g') (t' := t') (d' := d') u hok hg hch
end

/-! ### the judgements -/
/-- an exception: its class, its own dict's address (where it has one), the abstract heap behind it -/
abbrev XK := Value → Option Addr → Hp → Prop
abbrev St := List (Option V)
abbrev VK := V → Hp → Prop
/-- an expression's reading; a test's; an argument list's -/
abbrev TE := St → Hp → VK → Prop
abbrev TT := St → Hp → (Bool → Hp → Prop) → Prop
abbrev TA := St → Hp → (List V → Hp → Prop) → Prop
/-- what is wanted behind a statement -/
structure Ends where
  nx : St → Hp → Prop
  rt : VK
  bk : St → Hp → Prop := fun _ _ => False
  ct : St → Hp → Prop := fun _ _ => False
abbrev TS := Ends → St → Hp → Prop

def EP (X : Cx) (pins : List (Addr × Obj)) (σ : St) (Q : VK) (u : Value) (s' : Shared) : Prop := ∃ v H', Inv X pins σ H' s' ∧ RelV v u ∧ Q v H'
def TP (X : Cx) (pins : List (Addr × Obj)) (σ : St) (Q : Bool → Hp → Prop) (b : Bool) (s' : Shared) : Prop := ∃ H', Inv X pins σ H' s' ∧ Q b H'
def AP (X : Cx) (pins : List (Addr × Obj)) (σ : St) (Q : List V → Hp → Prop) (us : List Value) (s' : Shared) : Prop := ∃ vs H', Inv X pins σ H' s' ∧ Vals vs us ∧ Q vs H'
def SP (X : Cx) (pins : List (Addr × Obj)) (D : Ends) (f : Flow) (s' : Shared) : Prop :=
  match f with
  | .next => ∃ σ' H', Inv X pins σ' H' s' ∧ D.nx σ' H'
  | .brk => ∃ σ' H', Inv X pins σ' H' s' ∧ D.bk σ' H'
  | .cont => ∃ σ' H', Inv X pins σ' H' s' ∧ D.ct σ' H'
  | .ret u => ∃ v σ' H', Inv X pins σ' H' s' ∧ RelV v u ∧ D.rt v H'

def PE (X : Cx) (e : Expr) (t : TE) : Prop :=
  ∀ (pins : List (Addr × Obj)) (s : Shared) (σ : St) (H : Hp) (Q : VK), Inv X pins σ H s → t σ H Q → wpAny (model X.prog X.w) X.A (eval e X.env) (EP X pins σ Q) X.xe s
def PT (X : Cx) (e : Expr) (t : TT) : Prop :=
  ∀ (pins : List (Addr × Obj)) (s : Shared) (σ : St) (H : Hp) (Q : Bool → Hp → Prop), Inv X pins σ H s → t σ H Q → wpAny (model X.prog X.w) X.A (isTrue e X.env (eval e X.env)) (TP X pins σ Q) X.xe s
/-- a test whatever its 'whole' is (and, or) -/
def PW (X : Cx) (e : Expr) (t : TT) : Prop :=
  ∀ (whole : Sem Value) (pins : List (Addr × Obj)) (s : Shared) (σ : St) (H : Hp) (Q : Bool → Hp → Prop), Inv X pins σ H s → t σ H Q → wpAny (model X.prog X.w) X.A (isTrue e X.env whole) (TP X pins σ Q) X.xe s
theorem PW.pt {X : Cx} {e : Expr} {t : TT} (h : PW X e t) : PT X e t := h _
/-- an argument list (no star), from the left -/
def PA (X : Cx) (es : List Expr) (t : TA) : Prop :=
  ∀ (pos : Pos) (pins : List (Addr × Obj)) (s : Shared) (σ : St) (H : Hp) (Q : List V → Hp → Prop), Inv X pins σ H s → t σ H Q → wpAny (model X.prog X.w) X.A (spliced (backTo pos (starEach es X.env))) (AP X pins σ Q) X.xe s
def PS (X : Cx) (st : Stmt) (t : TS) : Prop :=
  ∀ (pins : List (Addr × Obj)) (s : Shared) (σ : St) (H : Hp) (D : Ends), Inv X pins σ H s → t D σ H → wpAny (model X.prog X.w) X.A (exec st X.env) (SP X pins D) X.xe s
def PSs (X : Cx) (st : List Stmt) (t : TS) : Prop :=
  ∀ (pins : List (Addr × Obj)) (s : Shared) (σ : St) (H : Hp) (D : Ends), Inv X pins σ H s → t D σ H → wpAny (model X.prog X.w) X.A (execs st X.env) (SP X pins D) X.xe s
/-- weaken the end -/
theorem thn {α : Type} {t : Sem α} {Q Q' : α → Shared → Prop} {M : Model} {A : Around} {E : Value → Shared → Prop} {s : Shared} (h : wpAny M A t Q E s) (hQ : ∀ a s, Q a s → Q' a s) : wpAny M A t Q' E s := wpAny_mono h hQ fun _ _ x => x
end L2

namespace L2
open PySem PySem.Spec PyProof.Rows
section
variable {X : Cx}

/-! ### names and constants -/
def tVar (i : Nat) : TE := fun σ H Q => ∃ v, σ[i]? = some (some v) ∧ Q v H
def tC (v : V) : TE := fun _ H Q => Q v H
theorem pe_var {i : Nat} {x : Str} {pos : Pos} (hN : X.N[i]? = some x) (hv : Vis X.env.scope x) (hd : (x == ("__debug__" : Str)) = false := by decide) (hcd : (x == ("__classdict__" : Str)) = false := by decide) : PE X (.Name x pos) (tVar i) := by
  intro pins s σ H Q I h
  obtain ⟨v, e, h⟩ := h
  obtain ⟨m, hn, hl⟩ := I.loc
  obtain ⟨u, r, l⟩ := hl i x v hN e hv
  have fin : EP X pins σ Q u s := ⟨v, H, I, r, h⟩
  rcases l with ⟨hk, hm⟩ | ⟨hk, c, hc, hcell⟩
  · exact wpAny_Name (wpAny_loadName_local I.ok.kind hk hn hm fin) hd
  · rcases hk with hk | hk
    · exact wpAny_Name (wpAny_loadName_cell I.ok.kind hk hc hcell fin) hd
    · exact wpAny_Name (wpAny_loadName_free I.ok.kind hk hc hcell fin hcd) hd
theorem pe_int {i j pos} : PE X (.Constant (.int i) j pos) (tC (.int i)) := fun _ _ _ H _ I h => wpAny_Constant_int ⟨.int i, H, I.tok _, ⟨_, rfl⟩, h⟩
theorem pe_bl {b j pos} : PE X (.Constant (.bool b) j pos) (tC (.bl b)) := fun _ _ _ H _ I h => Constant_bool ⟨.bl b, H, I, rfl, h⟩
theorem pe_non {j pos} : PE X (.Constant .none j pos) (tC .non) := fun _ _ _ H _ I h => Constant_none ⟨.non, H, I, rfl, h⟩
/-- a global name of the def -/
def Gl (X : Cx) (x : Str) : Prop := X.env.kindOf x = some .globalImplicit
theorem ld_glob {E : Value → Shared → Prop} {pins : List (Addr × Obj)} {s : Shared} {σ : St} {H : Hp} {x : Str} {u : Value} {pos : Pos} {Q : Value → Shared → Prop} (I : Inv X pins σ H s) (hg : Gl X x) (hm : X.mg x = some u) (h : Q u s)
    (hd : (x == ("__debug__" : Str)) = false := by decide) : wpAny (model X.prog X.w) X.A (eval (.Name x pos) X.env) Q E s :=
  Calls.Name_function_global I.ok.kind hg (Calls.loadGlobal_global (by rw [I.ok.glob]; exact I.mod.glob.keeps I.bk) hm h) hd
theorem ld_blt {E : Value → Shared → Prop} {pins : List (Addr × Obj)} {s : Shared} {σ : St} {H : Hp} {x : Str} {u : Value} {pos : Pos} {Q : Value → Shared → Prop} (I : Inv X pins σ H s) (hg : Gl X x) (hm : X.mg x = none) (hv : bootBuiltins x = some u) (h : Q u s)
    (hn : x ≠ "__name__" := by decide) (hd : (x == ("__debug__" : Str)) = false := by decide) : wpAny (model X.prog X.w) X.A (eval (.Name x pos) X.env) Q E s := by
  obtain ⟨mb, h1, h2⟩ := I.mod.blt
  exact Calls.Name_function_global I.ok.kind hg (Calls.loadGlobal_builtin (by rw [I.ok.glob]; exact I.mod.glob.keeps I.bk) hm (by rw [I.ok.blt]; exact h1.keeps I.bk) ((h2 x hn).trans hv) h) hd
/-- a module's constant, a class, a function, as a value -/
theorem pe_glob {x : Str} {v : V} {u : Value} {pos : Pos} (hg : Gl X x) (hm : X.mg x = some u) (r : RelV v u) (hd : (x == ("__debug__" : Str)) = false := by decide) : PE X (.Name x pos) (tC v) :=
  fun _ _ _ H _ I h => ld_glob I hg hm ⟨v, H, I, r, h⟩ hd
/-! ### arithmetic -/
/-- two ints -/
def t2I (ta tb : TE) (k : Int → Int → Hp → Prop) : St → Hp → Prop := fun σ H => ta σ H fun x H1 => tb σ H1 fun y H2 => ∃ i j, x = .int i ∧ y = .int j ∧ k i j H2
def tAdd (ta tb : TE) : TE := fun σ H Q => t2I ta tb (fun i j H2 => Q (.int (i + j)) H2) σ H
def tSub (ta tb : TE) : TE := fun σ H Q => t2I ta tb (fun i j H2 => Q (.int (i - j)) H2) σ H
/-- the left factor below 2^64 -/
def tMul (ta tb : TE) : TE := fun σ H Q => t2I ta tb (fun i j H2 => (-(2 ^ 64) < i ∧ i < 2 ^ 64) ∧ Q (.int (i * j)) H2) σ H
variable {a b : Expr} {ta tb : TE} {pos : Pos}
/-! ### comparisons -/
def PC (X : Cx) (op : CmpOp) (a b : Expr) (t : TE) : Prop :=
  ∀ (pins : List (Addr × Obj)) (s : Shared) (σ : St) (H : Hp) (Q : VK), Inv X pins σ H s → t σ H Q →
    wpAny (model X.prog X.w) X.A (eval a X.env) (fun v s₁ => wpAny (model X.prog X.w) X.A (eval b X.env) (fun u s₂ => wpAny (model X.prog X.w) X.A (compareOp op v u) (EP X pins σ Q) X.xe s₂) X.xe s₁) X.xe s
def tCmp (p : Int → Int → Bool) (ta tb : TE) : TE := fun σ H Q => t2I ta tb (fun i j H2 => Q (.bl (p i j)) H2) σ H
abbrev tLt : TE → TE → TE := tCmp fun i j => decide (i < j)
abbrev tLe : TE → TE → TE := tCmp fun i j => decide (i ≤ j)
abbrev tGt : TE → TE → TE := tCmp fun i j => decide (j < i)
abbrev tGe : TE → TE → TE := tCmp fun i j => decide (j ≤ i)
abbrev tEqI : TE → TE → TE := tCmp fun i j => decide (i = j)
abbrev tNeI : TE → TE → TE := tCmp fun i j => !decide (i = j)
/-- is None -/
def tIsN (ta : TE) : TE := fun σ H Q => ta σ H fun x H1 => Q (.bl (decide (x = .non))) H1
def tNotN (ta : TE) : TE := fun σ H Q => ta σ H fun x H1 => Q (.bl (!decide (x = .non))) H1
/-- a comparison as a value, as a test -/
def tB (t : TE) : TT := fun σ H Q => t σ H fun x H1 => ∃ c, x = .bl c ∧ Q c H1
theorem pt_cmp {op : CmpOp} {t : TE} (h : PC X op a b t) (h1 : behindInMarks op b = false := by first | exact nobehind _ (by decide) (by decide) | rfl) : PT X (.Compare a [op] [b] pos) (tB t) := by
  intro pins s σ H Q I hw
  refine wpAny_isTrue_Compare1 (thn (h pins s σ H _ I hw) fun v s1 h1 => thn h1 fun u s2 h2 => thn h2 fun c s3 ⟨x, H1, I1, r1, q1⟩ => ?_) h1
  obtain ⟨d, rfl, q⟩ := q1
  cases r1
  exact wpAny_truthy_bool ⟨H1, I1, q⟩
/-- an expression whose value is a bool, as a test -/
theorem pt_val {e : Expr} {t : TE} (h : PE X e t) (he : ∀ whole, isTrue e X.env whole = (do let v ← whole; standAt e.pos; holding [v] (truthy v)) := by intro _; rfl) : PT X e (tB t) := by
  intro pins s σ H Q I hw
  refine isTrue_plain (thn (h pins s σ H _ I hw) fun v s1 ⟨x, H1, I1, r1, q1⟩ => ?_) (he _)
  obtain ⟨d, rfl, q⟩ := q1
  cases r1
  exact wpAny_truthy_bool ⟨H1, I1, q⟩

/-! ### and, or, not -/
variable {tA tB' : TT} {rest : List Expr}
def tAnd (t u : TT) : TT := fun σ H Q => t σ H fun c H1 => if c = true then u σ H1 Q else Q false H1
def tOr (t u : TT) : TT := fun σ H Q => t σ H fun c H1 => if c = true then Q true H1 else u σ H1 Q
def tNot (t : TT) : TT := fun σ H Q => t σ H fun c H1 => Q (!c) H1
theorem pw_or1 (ha : PT X a tA) : PW X (.BoolOp .Or [a] pos) tA := by
  intro wh pins s σ H Q I h
  refine isTrue_or (thn (ha pins s σ H Q I h) fun c s1 e => ?_)
  cases c with
  | false => exact isTrue_or_nil e
  | true => exact e
theorem pw_or (ha : PT X a tA) (hb : PW X (.BoolOp .Or (b :: rest) pos) tB') : PW X (.BoolOp .Or (a :: b :: rest) pos) (tOr tA tB') := by
  intro wh pins s σ H Q I h
  refine isTrue_or (thn (ha pins s σ H _ I h) fun c s1 ⟨H1, I1, q1⟩ => ?_)
  cases c with
  | true => exact ⟨H1, I1, q1⟩
  | false => exact hb wh pins s1 σ H1 Q I1 q1
theorem pt_not (ha : PT X a tA) : PT X (.UnaryOp .Not a pos) (tNot tA) := by
  intro pins s σ H Q I h
  exact isTrue_not (ha pins s σ H (fun c H1 => Q (!c) H1) I h)
/-- .. as values (bools) -/
def tAndV (ta tb : TE) : TE := fun σ H Q => ta σ H fun x H1 => ∃ c, x = .bl c ∧ if c = true then tb σ H1 Q else Q (.bl false) H1
def tOrV (ta tb : TE) : TE := fun σ H Q => ta σ H fun x H1 => ∃ c, x = .bl c ∧ if c = true then Q (.bl true) H1 else tb σ H1 Q
def tNotV (ta : TE) : TE := fun σ H Q => ta σ H fun x H1 => ∃ c, x = .bl c ∧ Q (.bl (!c)) H1
theorem pe_one {op} {t : TE} (h : PE X a t) : PE X (.BoolOp op [a] pos) t := fun pins s σ H Q I hw => BoolOp_one (h pins s σ H Q I hw)
theorem pe_and (ha : PE X a ta) (hb : PE X (.BoolOp .And (b :: rest) pos) tb) : PE X (.BoolOp .And (a :: b :: rest) pos) (tAndV ta tb) := by
  intro pins s σ H Q I h
  refine BoolOp_and (thn (ha pins s σ H _ I h) fun v s1 ⟨x, H1, I1, r1, q1⟩ => ?_)
  obtain ⟨c, rfl, q1⟩ := q1
  cases r1
  refine wpAny_truthy_bool ?_
  cases c with
  | true => exact hb pins s1 σ H1 Q I1 q1
  | false => exact ⟨.bl false, H1, I1, rfl, q1⟩
theorem pe_not (ha : PE X a ta) : PE X (.UnaryOp .Not a pos) (tNotV ta) := by
  intro pins s σ H Q I h
  refine UnaryOp_ (thn (ha pins s σ H _ I h) fun v s1 ⟨x, H1, I1, r1, q1⟩ => ?_)
  obtain ⟨c, rfl, q1⟩ := q1
  cases r1
  exact not_of (wpAny_truthy_bool ⟨.bl (!c), H1, I1, rfl, q1⟩)
/-- a if t else b -/
def tIf (t : TT) (ta tb : TE) : TE := fun σ H Q => t σ H fun c H1 => if c = true then ta σ H1 Q else tb σ H1 Q
theorem pe_ifExp {c : Expr} (hc : PT X c tA) (ha : PE X a ta) (hb : PE X b tb) : PE X (.IfExp c a b pos) (tIf tA ta tb) := by
  intro pins s σ H Q I h
  refine wpAny_IfExp (thn (hc pins s σ H _ I h) fun d s1 ⟨H1, I1, q1⟩ => ?_)
  cases d with
  | true => exact ha pins s1 σ H1 Q I1 q1
  | false => exact hb pins s1 σ H1 Q I1 q1
end
end L2

namespace L2
open PySem PySem.Spec PyProof.Rows

/-! ### a list, a tuple that is read: tracked, frozen, or an object of the module -/
def SqL (K : PySem.W.Frag) (H : Hp) (a : Addr) (xs : List V) : Prop :=
  Rd H a (.lst xs) ∨
    ∃ (o : Obj) (its : Array Value) (n : Nat), K.lookup a = some o ∧ o.cls = .type "list" ∧ o.dict = none ∧ o.data = .seq its n ∧ its.size ≤ sizeLine ∧ Vals xs its.toList
def SqT (K : PySem.W.Frag) (H : Hp) (a : Addr) (xs : List V) : Prop :=
  Rd H a (.tup xs) ∨
    ∃ (o : Obj) (its : Array Value) (n : Nat), K.lookup a = some o ∧ o.cls = .type "tuple" ∧ o.data = .seq its n ∧ its.size ≤ sizeLine ∧ Vals xs its.toList
def absV : Value → Option V
  | .none => some .non
  | .bool b => some (.bl b)
  | .int i _ => some (.int i)
  | .str x _ => some (.str x)
  | .bytes b _ => some (.byt b)
  | .float b _ => some (.flt b)
  | .ref a => some (.ref a)
  | .type n => some (.ty n)
  | _ => none
theorem RelV.abs {x : V} {u : Value} (r : RelV x u) : absV u = some x := by
  cases x with
  | non => cases r; rfl
  | bl _ => cases r; rfl
  | int _ => obtain ⟨t, rfl⟩ := r; rfl
  | str _ => obtain ⟨t, rfl⟩ := r; rfl
  | byt _ => obtain ⟨t, rfl⟩ := r; rfl
  | flt _ => obtain ⟨t, rfl⟩ := r; rfl
  | ref _ => cases r; rfl
  | ty _ => cases r; rfl
theorem RelV.inj {x y : V} {u : Value} (r : RelV x u) (q : RelV y u) : x = y := Option.some.inj (r.abs.symm.trans q.abs)
theorem Vals.inj : ∀ {xs ys : List V} {us : List Value}, Vals xs us → Vals ys us → xs = ys
  | _, _, _, .nil, .nil => rfl
  | _, _, _, .cons r t, .cons r' t' => by rw [r.inj r', Vals.inj t t']
section
variable {X : Cx} {pins : List (Addr × Obj)} {σ : St} {H : Hp} {s : Shared} {a : Addr} {xs ys : List V}
theorem SqL.of {K : PySem.W.Frag} (h : H a = some (.lst xs)) : SqL K H a xs := .inl (.inl h)
theorem Inv.list (I : Inv X pins σ H s) (h : SqL X.K H a xs) : ∃ its : List Value, Vals xs its ∧ PlainL s.heap a its.toArray ∧ xs.length ≤ sizeLine := by
  rcases h with h | ⟨o, its, n, hk, hc, hd, hs, hz, r⟩
  · obtain ⟨z, its, n, r, e⟩ := h.ok I.hok
    exact ⟨its, r, ⟨_, n, e, rfl, rfl, rfl⟩, z⟩
  · refine ⟨its.toList, r, ⟨o, n, I.kIn a o hk, hc, hd, by simpa using hs⟩, ?_⟩
    have e := r.length
    simp only [Array.length_toList] at e
    omega
theorem Inv.tuple (I : Inv X pins σ H s) (h : SqT X.K H a xs) : ∃ its : List Value, Vals xs its ∧ IsTup s.heap a its.toArray ∧ xs.length ≤ sizeLine := by
  rcases h with h | ⟨o, its, n, hk, hc, hs, hz, r⟩
  · obtain ⟨z, its, r, p⟩ := h.ok I.hok
    exact ⟨its, r, p, z⟩
  · refine ⟨its.toList, r, ⟨o, I.kIn a o hk, hc, n, by simpa using hs⟩, ?_⟩
    have e := r.length
    simp only [Array.length_toList] at e
    omega
theorem Inv.list_inj (I : Inv X pins σ H s) (h : SqL X.K H a xs) (h' : SqL X.K H a ys) : xs = ys := by
  obtain ⟨its, r, ⟨o, n, e, _, _, d⟩, _⟩ := I.list h
  obtain ⟨its', r', ⟨o', n', e', _, _, d'⟩, _⟩ := I.list h'
  rw [e] at e'; cases e'
  rw [d] at d'
  injection d' with d1 _
  have : its = its' := by simpa using congrArg Array.toList d1
  subst this
  exact r.inj r'
end

/-! ### another wish about exceptions -/
abbrev Cx.wish (X : Cx) (E : Value → Shared → Prop) : Cx := { X with xe := E }
/-- no exception leaves -/
abbrev Cx.nox (X : Cx) : Cx := X.wish fun _ _ => False
theorem Cx.Ok.wish {X : Cx} (ok : X.Ok) (E : Value → Shared → Prop) : (X.wish E).Ok :=
  ⟨ok.mod, ok.kind, ok.glob, ok.blt, ok.above, ok.inj, ok.has, ok.cab, ok.hd, ok.frames, ok.stk, ok.exf, ok.bs, ok.bsz, ok.noex, ok.exfs, ok.funs, ok.frf⟩
theorem Cx.Ok.unwish {X : Cx} {E : Value → Shared → Prop} (ok : (X.wish E).Ok) : X.Ok :=
  ⟨ok.mod, ok.kind, ok.glob, ok.blt, ok.above, ok.inj, ok.has, ok.cab, ok.hd, ok.frames, ok.stk, ok.exf, ok.bs, ok.bsz, ok.noex, ok.exfs, ok.funs, ok.frf⟩
section
variable {X : Cx} {pins : List (Addr × Obj)} {σ : St} {H : Hp} {s : Shared} {E : Value → Shared → Prop}
theorem Inv.wish (I : Inv X pins σ H s) (E : Value → Shared → Prop) : Inv (X.wish E) pins σ H s := ⟨I.ok.wish E, I.os, I.bare, I.base, I.loc, I.cell, I.free, I.freeC, I.pin, I.hok, I.len⟩
theorem Inv.unwish (I : Inv (X.wish E) pins σ H s) : Inv X pins σ H s := ⟨I.ok.unwish, I.os, I.bare, I.base, I.loc, I.cell, I.free, I.freeC, I.pin, I.hok, I.len⟩
theorem SP.unwish {D : Ends} {f : Flow} {s' : Shared} (h : SP (X.wish E) pins D f s') : SP X pins D f s' := by
  cases f with
  | next => obtain ⟨σ', H', I, q⟩ := h; exact ⟨σ', H', I.unwish, q⟩
  | brk => obtain ⟨σ', H', I, q⟩ := h; exact ⟨σ', H', I.unwish, q⟩
  | cont => obtain ⟨σ', H', I, q⟩ := h; exact ⟨σ', H', I.unwish, q⟩
  | ret u => obtain ⟨v, σ', H', I, r, q⟩ := h; exact ⟨v, σ', H', I.unwish, r, q⟩
theorem PSs.nox {st : List Stmt} {t : TS} (h : PSs X.nox st t) : PSs X st t := fun pins s σ H D I hw =>
  wpAny_mono (h pins s σ H D (I.wish _) hw) (fun _ _ q => q.unwish) fun _ _ z => False.elim z
end

/-! ### blocks and small statements -/
section
variable {X : Cx} {st : Stmt} {rest : List Stmt} {t u : TS} {e : Expr} {te : TE} {pos : Pos}
def tNext : TS := fun D σ H => D.nx σ H
def tSeq (t u : TS) : TS := fun D σ H => t { D with nx := u D } σ H
theorem pss_nil : PSs X [] tNext := fun _ _ σ H _ I h => wpAny_execs_nil ⟨σ, H, I, h⟩
theorem pss_cons (h1 : PS X st t) (h2 : PSs X rest u) : PSs X (st :: rest) (tSeq t u) := by
  intro pins s σ H D I h
  refine wpAny_execs_cons (thn (h1 pins s σ H { D with nx := u D } I h) fun f s1 q => ?_)
  cases f with
  | next =>
    obtain ⟨σ', H', I', q⟩ := q
    exact h2 pins s1 σ' H' D I' q
  | ret v => exact q
  | brk => exact q
  | cont => exact q
theorem pss_one (h1 : PS X st t) : PSs X [st] t := by
  intro pins s σ H D I h
  refine wpAny_execs_cons (thn (h1 pins s σ H D I h) fun f s1 q => ?_)
  cases f with
  | next => exact wpAny_execs_nil q
  | ret v => exact q
  | brk => exact q
  | cont => exact q
def tBreak : TS := fun D σ H => D.bk σ H
def tCont : TS := fun D σ H => D.ct σ H
/-- in a def's body nothing is shown -/
theorem Inv.quiet {pins : List (Addr × Obj)} {σ : St} {H : Hp} {s : Shared} (I : Inv X pins σ H s) : interactive X.env = false := by simp [interactive, I.ok.kind]
/-- an expression whose value is dropped -/
def tDrop (te : TE) : TS := fun D σ H => te σ H fun _ H1 => D.nx σ H1
theorem ps_expr (he : PE X e te) (hs : swapsWith e none pos.line X.env = pure false := by rfl) : PS X (.Expr e pos) (tDrop te) := by
  intro pins s σ H D I h
  exact wpAny_Expr_any (thn (he pins s σ H _ I h) fun v s1 ⟨x, H1, I1, r1, q1⟩ => ⟨σ, H1, I1, q1⟩) I.quiet hs
def tRet (te : TE) : TS := fun D σ H => te σ H D.rt
theorem ps_ret (he : PE X e te) : PS X (.Return (some e) pos) (tRet te) := by
  intro pins s σ H D I h
  exact wpAny_Return_some (thn (he pins s σ H _ I h) fun v s1 ⟨x, H1, I1, r1, q1⟩ => ⟨x, σ, H1, I1, r1, q1⟩)
def tRetN : TS := fun D _ H => D.rt .non H
def tIfS (c : TT) (t u : TS) : TS := fun D σ H => c σ H fun b H1 => if b = true then t D σ H1 else u D σ H1
theorem ps_if {c : Expr} {a b : List Stmt} {tc : TT} (hc : PT X c tc) (ha : PSs X a t) (hb : PSs X b u) : PS X (.If c a b pos) (tIfS tc t u) := by
  intro pins s σ H D I h
  refine wpAny_If (thn (hc pins s σ H _ I h) fun d s1 ⟨H1, I1, q1⟩ => ?_)
  cases d with
  | true => exact ha pins s1 σ H1 D I1 q1
  | false => exact hb pins s1 σ H1 D I1 q1
/-- code that the proof never comes to -/
def tNever : TS := fun _ _ _ => False
theorem ps_never : PS X st tNever := fun _ _ _ _ _ _ h => h.elim
end

/-! ### targets -/
abbrev TG := V → St → Hp → (St → Hp → Prop) → Prop
abbrev TGs := List V → St → Hp → (St → Hp → Prop) → Prop
def PG (X : Cx) (target : Expr) (t : TG) : Prop :=
  ∀ (pins : List (Addr × Obj)) (s : Shared) (σ : St) (H : Hp) (v : V) (u : Value) (Q : St → Hp → Prop), Inv X pins σ H s → RelV v u → t v σ H Q →
    wpAny (model X.prog X.w) X.A (assign target X.env u) (fun _ s' => ∃ σ' H', Inv X pins σ' H' s' ∧ Q σ' H') X.xe s
/-- several targets, one after another -/
def PGs (X : Cx) (ts : List Expr) (t : TGs) : Prop :=
  ∀ (pins : List (Addr × Obj)) (s : Shared) (σ : St) (H : Hp) (vs : List V) (us : List Value) (Q : St → Hp → Prop), Inv X pins σ H s → Vals vs us → t vs σ H Q →
    wpAny (model X.prog X.w) X.A (assignInOrder ((assignEach ts X.env).map (·.2)) us) (fun _ s' => ∃ σ' H', Inv X pins σ' H' s' ∧ Q σ' H') X.xe s
/-- o[i] = v, by values -/
abbrev TSet := V → V → V → Hp → (Hp → Prop) → Prop
def PSet (X : Cx) (t : TSet) : Prop :=
  ∀ (pins : List (Addr × Obj)) (s : Shared) (σ : St) (H : Hp) (o i v : V) (ov iv u : Value) (Q : Hp → Prop), Inv X pins σ H s → RelV o ov → RelV i iv → RelV v u → t o i v H Q →
    wpAny (model X.prog X.w) X.A (setItem ov iv u) (fun _ s' => ∃ H', Inv X pins σ H' s' ∧ Q H') X.xe s
/-- a op= b, by values -/
abbrev TIp := V → V → Hp → VK → Prop
def PIp (X : Cx) (op : Operator) (t : TIp) : Prop :=
  ∀ (pins : List (Addr × Obj)) (s : Shared) (σ : St) (H : Hp) (x y : V) (v u : Value) (Q : VK), Inv X pins σ H s → RelV x v → RelV y u → t x y H Q →
    wpAny (model X.prog X.w) X.A (inplaceOp op v u) (EP X pins σ Q) X.xe s
section
variable {X : Cx} {pos : Pos}
def gName (i : Nat) : TG := fun v σ H Q => Q (σ.set i (some v)) H
theorem pg_name {i : Nat} {x : Str} (hN : X.N.Nodup) (hi : X.N[i]? = some x) (hx : Loc X.env.scope x) (hf : X.fn x = true ∨ X.env.scope.names.lookup x = some .local := by first | exact .inl rfl | exact .inr rfl | assumption) : PG X (.Name x pos) (gName i) := by
  intro pins s σ H v u Q I r h
  exact wpAny_assign_Name (store_ok I hN hi hx r (fun s' I' => ⟨_, H, I', h⟩) hf)
def gNil : TGs := fun vs σ H Q => vs = [] ∧ Q σ H
def gCons (t : TG) (u : TGs) : TGs := fun vs σ H Q => ∃ v r, vs = v :: r ∧ t v σ H fun σ' H' => u r σ' H' Q
/-- (a, b, ..) = a tuple of that length -/
def gTup (K : PySem.W.Frag) (n : Nat) (t : TGs) : TG := fun v σ H Q => ∃ a xs, v = .ref a ∧ SqT K H a xs ∧ xs.length = n ∧ t xs σ H Q
/-- o[i] = .. -/
def gSub (to ti : TE) (t : TSet) : TG := fun v σ H Q => to σ H fun o H1 => ti σ H1 fun i H2 => t o i v H2 fun H3 => Q σ H3
theorem pg_sub {o i : Expr} {to ti : TE} {t : TSet} (ho : PE X o to) (hi : PE X i ti) (hs : PSet X t)
    (ha : ∀ v, assign (.Subscript o i pos) X.env v = (do
      let ov ← holding [v] (eval o X.env)
      let iv ← holding [v, ov] (eval i X.env)
      standAt pos
      holding [v, ov, iv] (setItem ov iv v)
      release [v, ov, iv] []) := by intro _; rfl) : PG X (.Subscript o i pos) (gSub to ti t) := by
  intro pins s σ H v u Q I r h
  rw [ha]
  refine wpAny_bind (wpAny_holding (thn (ho pins s σ H _ I h) fun ov s1 ⟨x, H1, I1, r1, q1⟩ => ?_))
  refine wpAny_bind (wpAny_holding (thn (hi pins s1 σ H1 _ I1 q1) fun iv s2 ⟨y, H2, I2, r2, q2⟩ => ?_))
  refine wpAny_bind (wpAny_standAt (wpAny_bind (wpAny_holding (thn (hs pins s2 σ H2 x y v ov iv u _ I2 r1 r2 r q2) fun _ s3 ⟨H3, I3, q3⟩ => ?_))))
  exact wpAny_release ⟨σ, H3, I3, q3⟩
/-- target = value -/
def tAsg (te : TE) (g : TG) : TS := fun D σ H => te σ H fun x H1 => g x σ H1 D.nx
theorem ps_asg {tg e : Expr} {te : TE} {g : TG} (he : PE X e te) (hg : PG X tg g) (hs : swapsWithSole [tg] e pos.line X.env = pure false := by rfl) (hw : swappedStores [tg] e X.env = pure none := by rfl)
    (h1 : (assignEach [tg] X.env).map (·.2) = [assign tg X.env] := by rfl) : PS X (.Assign [tg] e pos) (tAsg te g) := by
  intro pins s σ H D I h
  refine wpAny_Assign_stores (thn (he pins s σ H _ I h) fun v s1 ⟨x, H1, I1, r1, q1⟩ => ?_) hs hw
  rw [h1]
  exact thn (hg pins s1 σ H1 x v _ I1 r1 q1) fun _ s2 q => q
/-- name = value -/
theorem ps_set {i : Nat} {x : Str} {e : Expr} {te : TE} {pos' : Pos} (hN : X.N.Nodup) (hi : X.N[i]? = some x) (hx : Loc X.env.scope x) (he : PE X e te) (hs : swapsWith e (some (.Name x pos')) pos.line X.env = pure false := by rfl) (hf : X.fn x = true ∨ X.env.scope.names.lookup x = some .local := by first | exact .inl rfl | exact .inr rfl | assumption) :
    PS X (.Assign [.Name x pos'] e pos) (tAsg te (gName i)) := by
  intro pins s σ H D I h
  refine wpAny_Assign_Name (thn (he pins s σ H _ I h) fun v s1 ⟨y, H1, I1, r1, q1⟩ => ?_) hs
  exact store_ok I1 hN hi hx r1 (fun s2 I2 => ⟨_, H1, I2, q1⟩) hf
/-- a, b = x, y with plain local names: stored from the right; the pair itself is not tracked (the opening rows as in PyProof/Rows/TupAssign.lean:23) -/
def tPar (i j : Nat) (ta : TA) : TS := fun D σ H => ta σ H fun vs H1 => ∃ v w, vs = [v, w] ∧ D.nx ((σ.set i (some v)).set j (some w)) H1
/-- name op= e -/
def tAug (i : Nat) (te : TE) (ti : TIp) : TS := fun D σ H => ∃ x, σ[i]? = some (some x) ∧ te σ H fun y H1 => ti x y H1 fun z H2 => D.nx (σ.set i (some z)) H2
/-- o[i] op= e -/
def tAugS (to ti te : TE) (tget : V → V → Hp → VK → Prop) (tip : TIp) (tset : TSet) : TS := fun D σ H => to σ H fun o H1 => ti σ H1 fun i H2 => tget o i H2 fun x H3 => te σ H3 fun y H4 => tip x y H4 fun z H5 => tset o i z H5 fun H6 => D.nx σ H6
/-- o[i], by values -/
def PGet (X : Cx) (t : V → V → Hp → VK → Prop) : Prop :=
  ∀ (pins : List (Addr × Obj)) (s : Shared) (σ : St) (H : Hp) (o i : V) (ov iv : Value) (Q : VK), Inv X pins σ H s → RelV o ov → RelV i iv → t o i H Q →
    wpAny (model X.prog X.w) X.A (getItem ov iv) (EP X pins σ Q) X.xe s
/-- ints -/
def ipI (f : Int → Int → Int) : TIp := fun x y H Q => ∃ i j, x = .int i ∧ y = .int j ∧ Q (.int (f i j)) H
end

/-! ### while -/
section
variable {X : Cx} {pos : Pos}
/-- the invariant W with its measure -/
def tWhile (c : TT) (tb : TS) : TS := fun D σ H => ∃ W : Nat → St → Hp → Prop, (∃ m, W m σ H) ∧ ∀ m σ H, W m σ H →
  c σ H fun b H1 => if b = true then ∃ N : St → Hp → Prop, (∀ σ' H', N σ' H' → ∃ m', m' < m ∧ W m' σ' H') ∧ tb { D with nx := N, ct := N, bk := D.nx } σ H1 else D.nx σ H1
theorem ps_while {c : Expr} {body : List Stmt} {tc : TT} {tb : TS} (hp : PassesOwn (model X.prog X.w) X.A X.env X.xe) (hc : PT X c tc) (hb : PSs X body tb) : PS X (.While c body [] pos) (tWhile tc tb) := by
  intro pins s σ H D I h
  obtain ⟨W, ⟨m0, w0⟩, turn⟩ := h
  refine wpAny_While (codeAny_whileLoop (fun n s' => ∃ σ' H', Inv X pins σ' H' s' ∧ W n σ' H') ?_ m0 ⟨σ, H, I, w0⟩)
  rintro n s1 ⟨σ1, H1, I1, w1⟩
  refine wpAny_passesOwn hp (thn (hc pins s1 σ1 H1 _ I1 (turn n σ1 H1 w1)) fun b s2 ⟨H2, I2, q2⟩ => ?_)
  cases b with
  | true =>
    obtain ⟨N, hN, q2⟩ := q2
    rw [if_pos rfl]
    refine wpAny_passesOwn hp (thn (hb pins s2 σ1 H2 _ I2 q2) fun f s3 q3 => ?_)
    cases f with
    | next =>
      obtain ⟨σ3, H3, I3, n3⟩ := q3
      obtain ⟨m', hm, w3⟩ := hN σ3 H3 n3
      exact ⟨m', hm, σ3, H3, I3, w3⟩
    | cont =>
      obtain ⟨σ3, H3, I3, n3⟩ := q3
      obtain ⟨m', hm, w3⟩ := hN σ3 H3 n3
      exact ⟨m', hm, σ3, H3, I3, w3⟩
    | brk => exact q3
    | ret v => exact q3
  | false =>
    rw [if_neg Bool.false_ne_true]
    exact wpAny_execs_nil ⟨σ1, H2, I2, q2⟩
end

/-! ### what a loop or a comprehension walks -/
/-- at turn i: it yields x (the heap may grow), or it stops -/
structure It where
  go : Nat → Hp → Prop
  yld : Nat → Hp → V → Hp → Prop
  stop : Nat → Hp → Prop
/-- the iterator's own objects may turn: they are not the frame's, not pinned, younger than the entry (or a comprehension's own) -/
def FpOk (X : Cx) (pins : List (Addr × Obj)) (H : Hp) (b : Addr) : Prop :=
  H b = none ∧ b ≠ X.env.locals ∧ b ∉ X.fs ∧ (b ∈ X.ex ∨ X.s_0.heap.objs.size ≤ b) ∧ (∀ x c, X.env.cells.lookup x = some c → c ≠ b) ∧ ∀ p ∈ X.pn ++ pins, p.1 ≠ b
theorem Inv.fpOk {X : Cx} {pins : List (Addr × Obj)} {σ : St} {H H' : Hp} {s : Shared} {b : Addr} (I : Inv X pins σ H s) (hb : s.heap.objs.size ≤ b) (hn : H' b = none) : FpOk X pins H' b := by
  refine ⟨hn, Nat.ne_of_gt (Nat.lt_of_lt_of_le I.lt hb), I.nofs hb, .inr (Nat.le_trans I.sz hb), fun x c e z => ?_, fun p hp z => ?_⟩
  · obtain ⟨v, q⟩ := I.cell x c e
    exact absurd (Nat.lt_of_lt_of_le q.lt (by rw [z]; exact hb)) (Nat.lt_irrefl _)
  · exact absurd (Nat.lt_of_lt_of_le (Heap.lt_size (I.pin p hp).1) (by rw [z]; exact hb)) (Nat.lt_irrefl _)
structure Turn (P : Program) (w : World) (K : PySem.W.Frag) (tg : Expr) (J : It) (fp : List Addr) (it : Addr) (tn : Nat → Heap → Prop) : Prop where
  mem : it ∈ fp
  obj : ∀ i h, tn i h → ∀ b ∈ fp, ∃ o, h.get? b = some o ∧ ∀ v, o.data ≠ .cell v
  keep : ∀ i h h', tn i h → (∀ b ∈ fp, ∀ o, h.get? b = some o → h'.get? b = some o) → tn i h'
  item : ∀ (X : Cx), X.prog = P → X.w = w → X.K = K → X.calm = true → ∀ (i : Nat) (pins : List (Addr × Obj)) (s : Shared) (σ : St) (H : Hp) (E : Value → Shared → Prop), Inv X pins σ H s → (∀ b ∈ fp, FpOk X pins H b) → tn i s.heap → J.go i H →
    wpAny (model P w) X.A (pyNext (.ref it)) (fun r s1 => ∃ u, r = some u ∧
      wpAny (model P w) X.A (letOwnedTupleGo tg (.ref it) u) (fun _ s2 => ∃ x H', Inv X pins σ H' s2 ∧ RelV x u ∧ J.yld i H x H' ∧ tn (i + 1) s2.heap ∧ ∀ b ∈ fp, H' b = none) E s1) E s
  done : ∀ (X : Cx), X.prog = P → X.w = w → X.K = K → X.calm = true → ∀ (i : Nat) (pins : List (Addr × Obj)) (s : Shared) (σ : St) (H : Hp) (E : Value → Shared → Prop), Inv X pins σ H s → (∀ b ∈ fp, FpOk X pins H b) → tn i s.heap → J.stop i H →
    wpAny (model P w) X.A (pyNext (.ref it)) (fun r s1 => r = none ∧ Inv X pins σ H s1) E s
  self : ∀ (A : Around) (i : Nat) (s : Shared) (Q : Value → Shared → Prop) (E : Value → Shared → Prop), tn i s.heap → Q (.ref it) s → wpAny (model P w) A (pyIter (.ref it)) Q E s
abbrev TI := St → Hp → (It → Hp → Prop) → Prop
/-- an iterator has come -/
def PIE (X : Cx) (pins : List (Addr × Obj)) (σ : St) (tg : Expr) (R : It → Hp → Prop) (itv : Value) (s2 : Shared) : Prop :=
  ∃ (it : Addr) (fp : List Addr) (tn : Nat → Heap → Prop) (J : It) (H' : Hp), itv = .ref it ∧ Inv X pins σ H' s2 ∧ Turn X.prog X.w X.K tg J fp it tn ∧ tn 0 s2.heap ∧ (∀ b ∈ fp, FpOk X pins H' b) ∧ R J H'
def PI (X : Cx) (tg iter : Expr) (wi : TI) : Prop :=
  ∀ (pins : List (Addr × Obj)) (s : Shared) (σ : St) (H : Hp) (R : It → Hp → Prop), Inv X pins σ H s → wi σ H R →
    wpAny (model X.prog X.w) X.A (eval iter X.env) (fun v s1 => wpAny (model X.prog X.w) X.A (pyIter v) (PIE X pins σ tg R) X.xe s1) X.xe s

/-- the step ahead of the store is nothing for an iterator that keeps no tuple -/
theorem go_of {M : Model} {A : Around} {E : Value → Shared → Prop} {s : Shared} {tg : Expr} {it : Addr} {u : Value} {o : Obj} {n : String} {vs : Array Value} {Q : Unit → Shared → Prop} (ho : s.heap.get? it = some o) (hc : o.cls = .type n) (hd : o.data = .fields vs)
    (hn : ["enumerate", "zip", "dict_itemiterator", "dict_reverseitemiterator", "odict_iterator", "itertools.zip_longest", "itertools.pairwise"].contains n = false) (hQ : Q () s) : wpAny M A (letOwnedTupleGo tg (.ref it) u) Q E s := by
  unfold letOwnedTupleGo
  cases tg <;> first
    | exact wpAny_pure hQ
    | (cases u <;> first
        | exact wpAny_pure hQ
        | (refine wpAny_bind (wpAny_load ho ?_)
           rw [hc, hd]
           show wpAny M A (if (["enumerate", "zip", "dict_itemiterator", "dict_reverseitemiterator", "odict_iterator", "itertools.zip_longest", "itertools.pairwise"].contains n && vs[0]? == some (rawInt _)) = true then _ else _) Q E s
           rw [if_neg (by intro h; rw [hn, Bool.false_and] at h; cases h)]
           exact wpAny_pure hQ))

/-- the list at a, as it stands at each turn (a loop may append to it) -/
def Itl (K : PySem.W.Frag) (a : Addr) : It :=
  ⟨fun i H => ∃ xs x, SqL K H a xs ∧ xs[i]? = some x, fun i H x H' => H' = H ∧ ∀ xs, SqL K H a xs → xs[i]? = some x, fun i H => ∃ xs, SqL K H a xs ∧ xs.length ≤ i⟩
def Itt (K : PySem.W.Frag) (a : Addr) : It :=
  ⟨fun i H => ∃ xs x, SqT K H a xs ∧ xs[i]? = some x, fun i H x H' => H' = H ∧ ∀ xs, SqT K H a xs → xs[i]? = some x, fun i H => ∃ xs, SqT K H a xs ∧ xs.length ≤ i⟩
/-- lo, lo + 1, .. (n of them) -/
def Itr (lo : Int) (n : Nat) : It := ⟨fun i _ => i < n, fun i H x H' => H' = H ∧ x = .int (lo + i), fun i _ => n ≤ i⟩
theorem turn_list {P : Program} {w : World} {K : PySem.W.Frag} {tg : Expr} (a it : Addr) : Turn P w K tg (Itl K a) [it] it (fun i h => h.IsListIter it a i) where
  mem := by simp
  obj := fun i h st b hb => by
    have e : b = it := by simpa using hb
    subst e
    obtain ⟨o, e, c, d⟩ := st
    exact ⟨o, e, fun v z => by rw [d] at z; cases z⟩
  keep := fun i h h' st k => st.at fun o e => k it (by simp) o e
  item := by
    intro X hP hw hK hc i pins s σ H E I hf st hg
    subst hP hw hK
    obtain ⟨xs, x, hq, hx⟩ := hg
    obtain ⟨its, rv, p, hz⟩ := I.list hq
    obtain ⟨u, hu, ru⟩ := rv.get hx
    obtain ⟨f0, f1, f2, f3, f4, f5⟩ := hf it (by simp)
    refine wpAny_pyNext_list_item st p.isList (x := u) (by simpa using hu) fun h' st' sb => ?_
    have I1 : Inv X pins σ H { s with heap := h' } := I.turned (t' := s.toks) (fun b o hb e => (sb.2 b hb).trans e) f0 f1 f3 f4 f5
    obtain ⟨o, e, c, d⟩ := id st'
    exact ⟨u, rfl, go_of (s := { s with heap := h' }) e c d (by decide) ⟨x, H, I1, ru, ⟨rfl, fun ys hy => by rw [I.list_inj hy hq]; exact hx⟩, st', fun b hb => (hf b hb).1⟩⟩
  done := by
    intro X hP hw hK hc i pins s σ H E I hf st hg
    subst hP hw hK
    obtain ⟨xs, hq, hx⟩ := hg
    obtain ⟨its, rv, p, hz⟩ := I.list hq
    obtain ⟨f0, f1, f2, f3, f4, f5⟩ := hf it (by simp)
    have hl := rv.length
    exact wpAny_pyNext_list_end (I.ok.hd hc) st p.isList (by simp; omega) fun h' eb => ⟨rfl, I.turned (t' := s.toks) (fun b o hb e => eb b o hb e) f0 f1 f3 f4 f5⟩
  self := fun _ _ _ _ _ st h => wpAny_pyIter_listiter st h
theorem turn_range {P : Program} {w : World} {K : PySem.W.Frag} {tg : Expr} (it : Addr) (lo : Int) (n : Nat) : Turn P w K tg (Itr lo n) [it] it (fun i h => IsRangeIter h it (lo + (i : Nat) * 1) ((n : Int) - (i : Nat)) 1) where
  mem := by simp
  obj := fun i h st b hb => by
    have e : b = it := by simpa using hb
    subst e
    exact ⟨_, st, fun v z => by
      have z' : Data.fields _ = Data.cell v := z
      cases z'⟩
  keep := fun i h h' st k => k it (by simp) _ st
  item := by
    intro X hP hw hK hc i pins s σ H E I hf st hg
    subst hP hw hK
    obtain ⟨f0, f1, f2, f3, f4, f5⟩ := hf it (by simp)
    have W := Walks.range (prog := X.prog) (w := X.w) (I.ok.hd hc) it lo 1 n
    refine W.item i s _ _ hg st fun v h' tk hv st' kk => ?_
    obtain ⟨t, rfl⟩ := hv
    have I1 : Inv X pins σ H { s with heap := h', toks := tk } := I.turned (fun b o hb e => kk b o (by simpa using hb) e) f0 f1 f3 f4 f5
    refine ⟨_, rfl, go_of (s := { s with heap := h', toks := tk }) (n := "range_iterator") st' rfl rfl (by decide) ⟨.int (lo + i), H, I1, ⟨t, ?_⟩, ⟨rfl, rfl⟩, st', fun b hb => (hf b hb).1⟩⟩
    rw [Int.mul_one]
  done := by
    intro X hP hw hK hc i pins s σ H E I hf st hg
    subst hP hw hK
    obtain ⟨f0, f1, f2, f3, f4, f5⟩ := hf it (by simp)
    exact wpAny_pyNext_range_end (I.ok.hd hc) st (by have : n ≤ i := hg; omega) fun h' eb => ⟨rfl, I.turned (t' := s.toks) (fun b o hb e => eb b o hb e) f0 f1 f3 f4 f5⟩
  self := fun _ _ _ _ _ st h => wpAny_pyIter_rangeiter st h
end L2

namespace L2
open PySem PySem.Spec PyProof.Rows
section
variable {X : Cx} {tg : Expr}
def iList (K : PySem.W.Frag) (tl : TE) : TI := fun σ H R => tl σ H fun x H1 => ∃ a, x = .ref a ∧ (∃ xs, SqL K H1 a xs) ∧ R (Itl K a) H1
def iTup (K : PySem.W.Frag) (tl : TE) : TI := fun σ H R => tl σ H fun x H1 => ∃ a, x = .ref a ∧ (∃ xs, SqT K H1 a xs) ∧ R (Itt K a) H1
theorem pi_list {l : Expr} {tl : TE} (hl : PE X l tl) : PI X tg l (iList X.K tl) := by
  intro pins s σ H R I h
  refine thn (hl pins s σ H _ I h) fun v s1 ⟨x, H1, I1, r1, q1⟩ => ?_
  obtain ⟨a, e, ⟨xs, hq⟩, q⟩ := q1
  subst e
  cases r1
  obtain ⟨its, rv, p, hz⟩ := I1.list hq
  refine wpAny_pyIter_list p.isList ?_
  refine ⟨s1.heap.objs.size, [s1.heap.objs.size], _, _, H1, rfl, I1.kept (t' := s1.toks) fun b o e => Heap.get?_push_of_some _ e, turn_list a _, ⟨_, Heap.get?_push_size _ rfl, rfl, rfl⟩, fun b hb => ?_, q⟩
  have e : b = s1.heap.objs.size := by simpa using hb
  subst e
  exact I1.fpOk (Nat.le_refl _) (I1.hok.fresh (Nat.le_refl _))
/-- a range object just made, walked -/
theorem range_it {pins : List (Addr × Obj)} {σ : St} {H : Hp} {s : Shared} {R : It → Hp → Prop} {E : Value → Shared → Prop} {lo hi : Int} {t u v : Tok} {tk : Nat} (I : Inv X pins σ H s) (h1 : -(2 ^ 62) ≤ lo) (h2 : lo < 2 ^ 62) (h3 : -(2 ^ 62) ≤ hi) (h4 : hi < 2 ^ 62)
    (q : R (Itr lo (hi - lo).toNat) H) : wpAny (model X.prog X.w) X.A (pyIter (.ref s.heap.objs.size)) (PIE X pins σ tg R) E { s with heap := s.heap.push { cls := .type "range", data := .fields #[.int lo t, .int hi u, .int 1 v] }, toks := tk } := by
  refine wpAny_pyIter_range (IsRange.new ..) (small_one h1 h2 h3 h4) ?_
  have I1 : Inv X pins σ H { s with heap := s.heap.push { cls := .type "range", data := .fields #[.int lo t, .int hi u, .int 1 v] }, toks := tk } := I.kept fun b o e => Heap.get?_push_of_some _ e
  refine ⟨(s.heap.push { cls := .type "range", data := .fields #[.int lo t, .int hi u, .int 1 v] }).objs.size, [(s.heap.push { cls := .type "range", data := .fields #[.int lo t, .int hi u, .int 1 v] }).objs.size], _, _, H, rfl,
    I1.kept (t' := tk) fun b o e => Heap.get?_push_of_some _ e, turn_range _ lo (hi - lo).toNat, ?_, fun b hb => ?_, q⟩
  · have e1 : lo + ((0 : Nat) : Int) * 1 = lo := by simp
    have e2 : (((hi - lo).toNat : Nat) : Int) - ((0 : Nat) : Int) = Builtin.Range.rangeSize lo hi 1 := by rw [rangeSize_one]; split <;> omega
    show IsRangeIter _ _ (lo + ((0 : Nat) : Int) * 1) ((((hi - lo).toNat : Nat) : Int) - ((0 : Nat) : Int)) 1
    rw [e1, e2]
    exact Heap.get?_push_size _ rfl
  · have e : b = (s.heap.push { cls := .type "range", data := .fields #[.int lo t, .int hi u, .int 1 v] }).objs.size := by simpa using hb
    subst e
    exact I1.fpOk (Nat.le_refl _) (I1.hok.fresh (Nat.le_refl _))
def iRng1 (ta : TA) : TI := fun σ H R => ta σ H fun vs H1 => ∃ j : Int, vs = [.int j] ∧ -(2 ^ 62) ≤ j ∧ j < 2 ^ 62 ∧ R (Itr 0 j.toNat) H1
def iRng2 (ta : TA) : TI := fun σ H R => ta σ H fun vs H1 => ∃ i j : Int, vs = [.int i, .int j] ∧ (-(2 ^ 62) ≤ i ∧ i < 2 ^ 62 ∧ -(2 ^ 62) ≤ j ∧ j < 2 ^ 62) ∧ R (Itr i (j - i).toNat) H1
theorem pi_range1 {a : Expr} {ta : TA} {p pos : Pos} (hg : Gl X "range") (hm : X.mg "range" = none) (ha : PA X [a] ta) (hs : starEach [a] X.env = [(false, eval a X.env)] := by rfl) : PI X tg (.Call (.Name "range" p) [a] [] pos) (iRng1 ta) := by
  intro pins s σ H R I h
  refine Call_ (ld_blt I hg hm boot_range (PyProof.Rows.callWith_type1 (thn (ha pos pins s σ H _ I h) fun us s1 ⟨vs, H1, I1, r1, q1⟩ => ?_) hs rfl))
  obtain ⟨j, e, q1, q2, q⟩ := q1
  subst e
  cases r1 with
  | cons r rr =>
    cases rr
    obtain ⟨t, rfl⟩ := r
    exact call_range_1 (range_it I1 (by omega) (by omega) q1 q2 (by simpa using q))
/-! ### for -/
/-- W: the invariant by the turn and a measure; N: what the body is to reach -/
def tFor (wi : TI) (g : TG) (tb : TS) : TS := fun D σ H => wi σ H fun J H1 => ∃ W : Nat → Nat → St → Hp → Prop, (∃ m, W 0 m σ H1) ∧ ∀ i m σ H, W i m σ H →
  (J.stop i H ∧ D.nx σ H) ∨ (J.go i H ∧ ∃ N : St → Hp → Prop, (∀ σ' H', N σ' H' → ∃ m', m' < m ∧ W (i + 1) m' σ' H') ∧ ∀ x H', J.yld i H x H' → g x σ H' fun σ2 H2 => tb { D with nx := N, ct := N, bk := D.nx } σ2 H2)
/-- the records at fp as they stand -/
def pinsAt (fp : List Addr) (h : Heap) : List (Addr × Obj) := fp.filterMap fun b => (h.get? b).map fun o => (b, o)
theorem mem_pinsAt {fp : List Addr} {h : Heap} {b : Addr} {o : Obj} (hb : b ∈ fp) (e : h.get? b = some o) : (b, o) ∈ pinsAt fp h := List.mem_filterMap.mpr ⟨b, hb, by rw [e]; rfl⟩
theorem of_pinsAt {fp : List Addr} {h : Heap} {p : Addr × Obj} (hp : p ∈ pinsAt fp h) : p.1 ∈ fp ∧ h.get? p.1 = some p.2 := by
  obtain ⟨b, hb, e⟩ := List.mem_filterMap.mp hp
  cases q : h.get? b with
  | none => rw [q] at e; cases e
  | some o =>
    rw [q] at e
    have e' : (b, o) = p := Option.some.inj e
    subst e'
    exact ⟨hb, q⟩
theorem Inv.pinned {pins : List (Addr × Obj)} {σ : St} {H : Hp} {s : Shared} {fp : List Addr} (I : Inv X pins σ H s) (hf : ∀ b ∈ fp, FpOk X pins H b) (ho : ∀ b ∈ fp, ∃ o, s.heap.get? b = some o ∧ ∀ v, o.data ≠ .cell v) : Inv X (pins ++ pinsAt fp s.heap) σ H s :=
  I.pins_of fun p hp => (List.mem_append.mp hp).elim (fun z => I.pin p (List.mem_append_right _ z)) fun z => by
    obtain ⟨hb, e⟩ := of_pinsAt z
    obtain ⟨f0, f1, f2, _⟩ := hf p.1 hb
    obtain ⟨o, e', d⟩ := ho p.1 hb
    rw [e] at e'; cases e'
    exact ⟨e, f0, f1, f2, d⟩
theorem Inv.unpinned {pins pl : List (Addr × Obj)} {σ : St} {H : Hp} {s : Shared} (I : Inv X (pins ++ pl) σ H s) : Inv X pins σ H s := I.pins_of fun p hp => I.pin p (List.mem_append_right _ (List.mem_append_left _ hp))
theorem ps_for {iter : Expr} {body : List Stmt} {wi : TI} {g : TG} {tb : TS} {pos : Pos} (hp : PassesOwn (model X.prog X.w) X.A X.env X.xe) (hc : X.calm = true) (hi : PI X tg iter wi) (hg : PG X tg g) (hb : PSs X body tb)
    (hs : ∀ x, foldedSetIterable iter X.env x = pure x := by intro _; rfl) : PS X (.For tg iter body [] pos) (tFor wi g tb) := by
  intro pins s σ H D I h
  refine wpAny_For (thn (hi pins s σ H _ I h) fun v s1 h1 => thn h1 fun itv s2 h2 => ?_) hs
  obtain ⟨it, fp, tn, J, H2, e, I2, T, st2, f2, W, ⟨m0, w0⟩, turn⟩ := h2
  subst e
  -- what stays true of the iterator's objects through the loop
  have stat : ∀ {H' : Hp}, (∀ b ∈ fp, H' b = none) → ∀ b ∈ fp, FpOk X pins H' b := fun hn b hb => ⟨hn b hb, (f2 b hb).2⟩
  refine codeAny_forLoop_any (fun n s' => ∃ i σ' H', Inv X pins σ' H' s' ∧ tn i s'.heap ∧ (∀ b ∈ fp, H' b = none) ∧ W i n σ' H') ?_ m0 ⟨0, σ, H2, I2, st2, fun b hb => (f2 b hb).1, w0⟩
  rintro n s3 ⟨i, σ3, H3, I3, st3, fr3, w3⟩
  rcases turn i n σ3 H3 w3 with ⟨stop, qn⟩ | ⟨go, N, hN, step⟩
  · refine wpAny_passesOwn hp (thn (T.done X rfl rfl rfl hc i pins s3 σ3 H3 X.xe I3 (stat fr3) st3 stop) fun r s4 ⟨hr, I4⟩ => ?_)
    subst hr
    exact wpAny_execs_nil ⟨σ3, H3, I4, qn⟩
  · refine wpAny_passesOwn hp (thn (T.item X rfl rfl rfl hc i pins s3 σ3 H3 X.xe I3 (stat fr3) st3 go) fun r s4 ⟨u, hr, h4⟩ => ?_)
    subst hr
    refine wpAny_passesOwn hp (thn h4 fun _ s5 ⟨x, H5, I5, r5, y5, st5, fr5⟩ => ?_)
    have I5' := I5.pinned (stat fr5) (T.obj _ _ st5)
    refine wpAny_passesOwn hp (thn (hg _ s5 σ3 H5 x u _ I5' r5 (step x H5 y5)) fun _ s6 ⟨σ6, H6, I6, q6⟩ => ?_)
    refine wpAny_passesOwn hp (thn (hb _ s6 σ6 H6 _ I6 q6) fun f s7 q7 => ?_)
    have again : ∀ {σ7 : St} {H7 : Hp}, Inv X (pins ++ pinsAt fp s5.heap) σ7 H7 s7 → N σ7 H7 → ∃ m, m < n ∧ ∃ i σ' H', Inv X pins σ' H' s7 ∧ tn i s7.heap ∧ (∀ b ∈ fp, H' b = none) ∧ W i m σ' H' := fun {σ7 H7} I7 n7 => by
      obtain ⟨m', hm, w7⟩ := hN σ7 H7 n7
      refine ⟨m', hm, i + 1, σ7, H7, I7.unpinned, T.keep _ _ _ st5 fun b hb o e => (I7.pin (b, o) (List.mem_append_right _ (List.mem_append_right _ (mem_pinsAt hb e)))).1, fun b hb => ?_, w7⟩
      obtain ⟨o, e, d⟩ := T.obj _ _ st5 b hb
      exact (I7.pin (b, o) (List.mem_append_right _ (List.mem_append_right _ (mem_pinsAt hb e)))).2.1
    cases f with
    | next => obtain ⟨σ7, H7, I7, n7⟩ := q7; exact again I7 n7
    | cont => obtain ⟨σ7, H7, I7, n7⟩ := q7; exact again I7 n7
    | brk => obtain ⟨σ7, H7, I7, q7⟩ := q7; exact ⟨σ7, H7, I7.unpinned, q7⟩
    | ret v => obtain ⟨x7, σ7, H7, I7, r7, q7⟩ := q7; exact ⟨x7, σ7, H7, I7.unpinned, r7, q7⟩
end

/-! ### the forms one uses -/
/-- over a list that the body leaves as it is -/
theorem for_list {K : PySem.W.Frag} {a : Addr} {xs : List V} {g : TG} {tb : TS} {D : Ends} {σ : St} {H : Hp} (Pv : Nat → St → Hp → Prop) (h0 : Pv 0 σ H) (hl : ∀ i σ H, i ≤ xs.length → Pv i σ H → SqL K H a xs)
    (hs : ∀ i x σ H, xs[i]? = some x → Pv i σ H → g x σ H fun σ2 H2 => tb { D with nx := Pv (i + 1), ct := Pv (i + 1), bk := D.nx } σ2 H2) (hd : ∀ σ H, Pv xs.length σ H → D.nx σ H) :
    ∃ W : Nat → Nat → St → Hp → Prop, (∃ m, W 0 m σ H) ∧ ∀ i m σ H, W i m σ H →
      ((Itl K a).stop i H ∧ D.nx σ H) ∨ ((Itl K a).go i H ∧ ∃ N : St → Hp → Prop, (∀ σ' H', N σ' H' → ∃ m', m' < m ∧ W (i + 1) m' σ' H') ∧ ∀ x H', (Itl K a).yld i H x H' → g x σ H' fun σ2 H2 => tb { D with nx := N, ct := N, bk := D.nx } σ2 H2) := by
  refine ⟨fun i m σ H => m = xs.length - i ∧ i ≤ xs.length ∧ Pv i σ H, ⟨xs.length, by simp, Nat.zero_le _, h0⟩, ?_⟩
  rintro i m σ H ⟨rfl, hi, p⟩
  have q := hl i σ H hi p
  by_cases hlt : i < xs.length
  · refine .inr ⟨⟨xs, xs[i], q, by simp [hlt]⟩, Pv (i + 1), fun σ' H' p' => ⟨xs.length - (i + 1), by omega, rfl, hlt, p'⟩, fun x H' y => ?_⟩
    obtain ⟨e, y⟩ := y
    subst e
    exact hs i x σ _ (y xs q) p
  · have e : i = xs.length := by omega
    subst e
    exact .inl ⟨⟨xs, q, Nat.le_refl _⟩, hd σ H p⟩
end L2

namespace L2
open PySem PySem.Spec PyProof.Rows

abbrev R2 := V → V → Hp → VK → Prop
/-- a two-place operation on values: f is binaryOp op, inplaceOp op or compareOp op -/
def OpR (X : Cx) (f : Value → Value → Sem Value) (r : R2) : Prop :=
  ∀ (pins : List (Addr × Obj)) (s : Shared) (σ : St) (H : Hp) (x y : V) (v u : Value) (Q : VK), Inv X pins σ H s → RelV x v → RelV y u → r x y H Q →
    wpAny (model X.prog X.w) X.A (f v u) (EP X pins σ Q) X.xe s
/-- a one-place operation -/
def UnR (X : Cx) (f : Value → Sem Value) (r : V → Hp → VK → Prop) : Prop :=
  ∀ (pins : List (Addr × Obj)) (s : Shared) (σ : St) (H : Hp) (x : V) (v : Value) (Q : VK), Inv X pins σ H s → RelV x v → r x H Q →
    wpAny (model X.prog X.w) X.A (f v) (EP X pins σ Q) X.xe s
/-- a call of a value that is known (a builtin, a type) with values -/
def CallR (X : Cx) (f : Value) (r : List V → Hp → VK → Prop) : Prop :=
  ∀ (pins : List (Addr × Obj)) (s : Shared) (σ : St) (H : Hp) (xs : List V) (us : List Value) (Q : VK), Inv X pins σ H s → Vals xs us → r xs H Q →
    wpAny (model X.prog X.w) X.A (call f us) (EP X pins σ Q) X.xe s
/-- a value's truth -/
def TruR (X : Cx) (r : V → Hp → (Bool → Hp → Prop) → Prop) : Prop :=
  ∀ (pins : List (Addr × Obj)) (s : Shared) (σ : St) (H : Hp) (x : V) (v : Value) (Q : Bool → Hp → Prop), Inv X pins σ H s → RelV x v → r x H Q →
    wpAny (model X.prog X.w) X.A (truthy v) (TP X pins σ Q) X.xe s

def tOp (r : R2) (ta tb : TE) : TE := fun σ H Q => ta σ H fun x H1 => tb σ H1 fun y H2 => r x y H2 Q
def tUn (r : V → Hp → VK → Prop) (ta : TE) : TE := fun σ H Q => ta σ H fun x H1 => r x H1 Q
/-- ints in, under C, and a value out -/
def rI (C : Int → Int → Prop) (g : Int → Int → V) : R2 := fun x y H Q => ∃ i j, x = .int i ∧ y = .int j ∧ C i j ∧ Q (g i j) H
def rI0 (g : Int → Int → V) : R2 := fun x y H Q => ∃ i j, x = .int i ∧ y = .int j ∧ Q (g i j) H
def rU (g : Int → V) : V → Hp → VK → Prop := fun x H Q => ∃ i, x = .int i ∧ Q (g i) H

section
variable {X : Cx} {a b c : Expr} {ta tb tc : TE} {pos : Pos}

theorem binT (ha : PE X a ta) (hb : PE X b tb) {pins : List (Addr × Obj)} {s : Shared} {σ : St} {H : Hp} {R : V → V → Hp → Prop} (I : Inv X pins σ H s)
    (h : ta σ H fun x H1 => tb σ H1 fun y H2 => R x y H2) {Q : Value → Shared → Prop} {f : Value → Value → Sem Value}
    (hf : ∀ v u s2 x y H2, Inv X pins σ H2 s2 → RelV x v → RelV y u → R x y H2 → wpAny (model X.prog X.w) X.A (f v u) Q X.xe s2) :
    wpAny (model X.prog X.w) X.A (eval a X.env) (fun v s₁ => wpAny (model X.prog X.w) X.A (eval b X.env) (fun u s₂ => wpAny (model X.prog X.w) X.A (f v u) Q X.xe s₂) X.xe s₁) X.xe s := by
  refine thn (ha pins s σ H _ I h) fun v s1 ⟨x, H1, I1, r1, q1⟩ => ?_
  refine thn (hb pins s1 σ H1 _ I1 q1) fun u s2 ⟨y, H2, I2, r2, q2⟩ => ?_
  exact hf v u s2 x y H2 I2 r1 r2 q2

theorem pe_op {op : Operator} {r : R2} (ho : OpR X (binaryOp op) r) (ha : PE X a ta) (hb : PE X b tb) : PE X (.BinOp a op b pos) (tOp r ta tb) := by
  intro pins s σ H Q I h
  exact wpAny_BinOp (binT ha hb I h fun v u s2 x y H2 I2 rx ry q => ho pins s2 σ H2 x y v u Q I2 rx ry q)
theorem pe_un {op : UnaryOp} {r : V → Hp → VK → Prop} (ho : UnR X (unaryOp op) r) (ha : PE X a ta) : PE X (.UnaryOp op a pos) (tUn r ta) := by
  intro pins s σ H Q I h
  exact UnaryOp_ (thn (ha pins s σ H _ I h) fun v s1 ⟨x, H1, I1, r1, q1⟩ => ho pins s1 σ H1 x v Q I1 r1 q1)
/-! ### ints -/
theorem opI {f : Value → Value → Sem Value} {C : Int → Int → Prop} {g : Int → Int → Int}
    (rule : ∀ (i j : Int) (t u : Tok) (s : Shared) (Q : Value → Shared → Prop) (E : Value → Shared → Prop), C i j → Q (.int (g i j) s.toks) { s with toks := s.toks + 1 } → wpAny (model X.prog X.w) X.A (f (.int i t) (.int j u)) Q E s) :
    OpR X f (rI C fun i j => .int (g i j)) := by
  intro pins s σ H x y v u Q I rx ry h
  obtain ⟨i, j, rfl, rfl, hc, q⟩ := h
  obtain ⟨t, rfl⟩ := rx
  obtain ⟨t', rfl⟩ := ry
  exact rule i j t t' s _ _ hc ⟨.int (g i j), H, I.tok _, ⟨_, rfl⟩, q⟩
theorem opI0 {f : Value → Value → Sem Value} {g : Int → Int → Int}
    (rule : ∀ (i j : Int) (t u : Tok) (s : Shared) (Q : Value → Shared → Prop) (E : Value → Shared → Prop), Q (.int (g i j) s.toks) { s with toks := s.toks + 1 } → wpAny (model X.prog X.w) X.A (f (.int i t) (.int j u)) Q E s) :
    OpR X f (rI0 fun i j => .int (g i j)) := by
  intro pins s σ H x y v u Q I rx ry h
  obtain ⟨i, j, rfl, rfl, q⟩ := h
  obtain ⟨t, rfl⟩ := rx
  obtain ⟨t', rfl⟩ := ry
  exact rule i j t t' s _ _ ⟨.int (g i j), H, I.tok _, ⟨_, rfl⟩, q⟩
theorem opB0 {f : Value → Value → Sem Value} {g : Int → Int → Bool}
    (rule : ∀ (i j : Int) (t u : Tok) (s : Shared) (Q : Value → Shared → Prop) (E : Value → Shared → Prop), Q (.bool (g i j)) s → wpAny (model X.prog X.w) X.A (f (.int i t) (.int j u)) Q E s) :
    OpR X f (rI0 fun i j => .bl (g i j)) := by
  intro pins s σ H x y v u Q I rx ry h
  obtain ⟨i, j, rfl, rfl, q⟩ := h
  obtain ⟨t, rfl⟩ := rx
  obtain ⟨t', rfl⟩ := ry
  exact rule i j t t' s _ _ ⟨.bl (g i j), H, I, rfl, q⟩

def CDiv (i j : Int) : Prop := 0 < j ∧ j < 1073741824
def CDivN (i j : Int) : Prop := j ≠ 0 ∧ j.natAbs < 1073741824
def CPow (i j : Int) : Prop := 0 ≤ j ∧ j ≤ 1000000 ∧ i.natAbs < 2 ^ 64
def CMul (i j : Int) : Prop := (-(2 ^ 64) < i ∧ i < 2 ^ 64) ∨ (-(2 ^ 64) < j ∧ j < 2 ^ 64)
theorem CMul.ok {i j : Int} (h : CMul i j) : IntMulOk i j := by
  rcases h with ⟨h1, h2⟩ | ⟨h1, h2⟩
  · exact .of_left (intBits_le_64 h1 h2)
  · exact .of_right (intBits_le_64 h1 h2)
theorem two_pow_nn (k : Nat) : (0 : Int) ≤ 2 ^ k := by
  rw [two_pow_cast]
  exact Int.natCast_nonneg _

theorem op_add : OpR X (binaryOp .Add) (rI0 fun i j => .int (i + j)) := opI0 fun _ _ _ _ _ _ _ q => add_int q
theorem op_mul : OpR X (binaryOp .Mult) (rI CMul fun i j => .int (i * j)) := opI fun _ _ _ _ _ _ _ hc q => mul_int q hc.ok
/-- % by a positive divisor of any size -/
theorem op_mod : OpR X (binaryOp .Mod) (rI (fun _ j => 0 < j) fun i j => .int (i % j)) := opI fun i j _ _ _ _ _ hc q => by
  have h1 : (0 : Int) < j := hc
  exact mod_int' (by omega) (by rw [Int.fmod_eq_emod_of_nonneg i (by omega)]; exact q)
theorem op_shr : OpR X (binaryOp .RShift) (rI (fun _ j => 0 ≤ j) fun i j => .int (i / 2 ^ j.toNat)) := opI fun i j _ _ _ _ _ hc q =>
  rshift_int hc (by rw [Int.fdiv_eq_ediv_of_nonneg i (two_pow_nn _)]; exact q)
theorem unI {f : Value → Sem Value} {g : Int → Int}
    (rule : ∀ (i : Int) (t : Tok) (s : Shared) (Q : Value → Shared → Prop) (E : Value → Shared → Prop), Q (.int (g i) s.toks) { s with toks := s.toks + 1 } → wpAny (model X.prog X.w) X.A (f (.int i t)) Q E s) :
    UnR X f (rU fun i => .int (g i)) := by
  intro pins s σ H x v Q I rx h
  obtain ⟨i, rfl, q⟩ := h
  obtain ⟨t, rfl⟩ := rx
  exact rule i t s _ _ ⟨.int (g i), H, I.tok _, ⟨_, rfl⟩, q⟩
theorem un_neg : UnR X (unaryOp .USub) (rU fun i => .int (-i)) := unI fun _ _ _ _ _ q => neg_int q
/-! ### bools among ints: n += (a < b) -/
end

/-! ### comparisons -/
/-- the scalars that == tells apart as data does -/
def scal : V → V → Bool
  | .non, .non => true | .non, .int _ => true | .int _, .non => true | .non, .bl _ => true | .bl _, .non => true | .non, .str _ => true | .str _, .non => true
  | .int _, .int _ => true | .bl _, .bl _ => true | .str _, .str _ => true | .byt _, .byt _ => true
  | .int _, .str _ => true | .str _, .int _ => true | .bl _, .str _ => true | .str _, .bl _ => true
  | _, _ => false
def rEq : R2 := fun x y H Q => scal x y = true ∧ Q (.bl (decide (x = y))) H
def rNe : R2 := fun x y H Q => scal x y = true ∧ Q (.bl (!decide (x = y))) H

theorem dec_int {i j : Int} : decide (V.int i = V.int j) = (i == j) := by
  rw [Bool.eq_iff_iff]
  simp
theorem dec_bl {i j : Bool} : decide (V.bl i = V.bl j) = (i == j) := by
  rw [Bool.eq_iff_iff]
  simp
theorem dec_str {i j : Str} : decide (V.str i = V.str j) = (i == j) := by
  rw [Bool.eq_iff_iff]
  simp
theorem dec_byt {i j : Array UInt8} : decide (V.byt i = V.byt j) = (i.toList == j.toList) := by
  rw [Bool.eq_iff_iff]
  cases i
  cases j
  simp

section
variable {X : Cx} {a b c : Expr} {ta tb tc : TE} {pos : Pos}
theorem fin_bl {pins : List (Addr × Obj)} {σ : St} {H : Hp} {s : Shared} {Q : VK} {k k' : Bool} (I : Inv X pins σ H s) (q : Q (.bl k) H) (e : k = k') : EP X pins σ Q (.bool k') s := by
  subst e
  exact ⟨.bl k, H, I, rfl, q⟩
theorem op_eq : OpR X (compareOp .Eq) rEq := by
  intro pins s σ H x y v u Q I rx ry h
  obtain ⟨hs, q⟩ := h
  cases x with
  | non =>
    cases rx
    cases y with
    | non => cases ry; exact PySem.EqNone.eq_none_none (fin_bl I q (by simp))
    | bl j => cases ry; exact PySem.EqNone.eq_none_bool (fin_bl I q (by simp))
    | int j => obtain ⟨t', rfl⟩ := ry; exact PySem.EqNone.eq_none_int (fin_bl I q (by simp))
    | str j => obtain ⟨t', rfl⟩ := ry; exact PySem.EqNone.eq_none_str (fin_bl I q (by simp))
    | _ => exact absurd (show false = true from hs) Bool.false_ne_true
  | bl i =>
    cases rx
    cases y with
    | non => cases ry; exact PySem.EqNone.eq_bool_none (fin_bl I q (by simp))
    | bl j => cases ry; exact eq_bool (fin_bl I q dec_bl)
    | str j => obtain ⟨t', rfl⟩ := ry; exact PySem.EqMixed.eq_bool_str (fin_bl I q (by simp))
    | _ => exact absurd (show false = true from hs) Bool.false_ne_true
  | int i =>
    obtain ⟨t, rfl⟩ := rx
    cases y with
    | non => cases ry; exact PySem.EqNone.eq_int_none (fin_bl I q (by simp))
    | int j => obtain ⟨t', rfl⟩ := ry; exact eq_int (fin_bl I q dec_int)
    | str j => obtain ⟨t', rfl⟩ := ry; exact PySem.EqMixed.eq_int_str (fin_bl I q (by simp))
    | _ => exact absurd (show false = true from hs) Bool.false_ne_true
  | str i =>
    obtain ⟨t, rfl⟩ := rx
    cases y with
    | non => cases ry; exact PySem.EqNone.eq_str_none (fin_bl I q (by simp))
    | bl j => cases ry; exact PySem.EqMixed.eq_str_bool (fin_bl I q (by simp))
    | int j => obtain ⟨t', rfl⟩ := ry; exact PySem.EqMixed.eq_str_int (fin_bl I q (by simp))
    | str j => obtain ⟨t', rfl⟩ := ry; exact eq_str (fin_bl I q dec_str)
    | _ => exact absurd (show false = true from hs) Bool.false_ne_true
  | byt i =>
    obtain ⟨t, rfl⟩ := rx
    cases y with
    | byt j => obtain ⟨t', rfl⟩ := ry; exact PySem.W.eq_bytes (fin_bl I q dec_byt)
    | _ => exact absurd (show false = true from hs) Bool.false_ne_true
  | _ => cases y <;> exact absurd (show false = true from hs) Bool.false_ne_true
theorem op_ne : OpR X (compareOp .NotEq) rNe := by
  intro pins s σ H x y v u Q I rx ry h
  obtain ⟨hs, q⟩ := h
  cases x with
  | non =>
    cases rx
    cases y with
    | non => cases ry; exact PySem.EqNone.ne_none_none (fin_bl I q (by simp))
    | bl j => cases ry; exact PySem.EqNone.ne_none_bool (fin_bl I q (by simp))
    | int j => obtain ⟨t', rfl⟩ := ry; exact PySem.EqNone.ne_none_int (fin_bl I q (by simp))
    | str j => obtain ⟨t', rfl⟩ := ry; exact PySem.EqNone.ne_none_str (fin_bl I q (by simp))
    | _ => exact absurd (show false = true from hs) Bool.false_ne_true
  | bl i =>
    cases rx
    cases y with
    | non => cases ry; exact PySem.EqNone.ne_bool_none (fin_bl I q (by simp))
    | bl j => cases ry; exact ne_bool (fin_bl I q (congrArg not dec_bl))
    | str j => obtain ⟨t', rfl⟩ := ry; exact PySem.EqMixed.ne_bool_str (fin_bl I q (by simp))
    | _ => exact absurd (show false = true from hs) Bool.false_ne_true
  | int i =>
    obtain ⟨t, rfl⟩ := rx
    cases y with
    | non => cases ry; exact PySem.EqNone.ne_int_none (fin_bl I q (by simp))
    | int j => obtain ⟨t', rfl⟩ := ry; exact ne_int (fin_bl I q (congrArg not dec_int))
    | str j => obtain ⟨t', rfl⟩ := ry; exact PySem.EqMixed.ne_int_str (fin_bl I q (by simp))
    | _ => exact absurd (show false = true from hs) Bool.false_ne_true
  | str i =>
    obtain ⟨t, rfl⟩ := rx
    cases y with
    | non => cases ry; exact PySem.EqNone.ne_str_none (fin_bl I q (by simp))
    | bl j => cases ry; exact PySem.EqMixed.ne_str_bool (fin_bl I q (by simp))
    | int j => obtain ⟨t', rfl⟩ := ry; exact PySem.EqMixed.ne_str_int (fin_bl I q (by simp))
    | str j => obtain ⟨t', rfl⟩ := ry; exact ne_str (fin_bl I q (congrArg not dec_str))
    | _ => exact absurd (show false = true from hs) Bool.false_ne_true
  | byt i =>
    obtain ⟨t, rfl⟩ := rx
    cases y with
    | byt j => obtain ⟨t', rfl⟩ := ry; exact PySem.W.ne_bytes (fin_bl I q (congrArg not dec_byt))
    | _ => exact absurd (show false = true from hs) Bool.false_ne_true
  | _ => cases y <;> exact absurd (show false = true from hs) Bool.false_ne_true

theorem op_lt : OpR X (compareOp .Lt) (rI0 fun i j => .bl (decide (i < j))) := opB0 fun _ _ _ _ _ _ _ q => lt_int q
theorem op_le : OpR X (compareOp .LtE) (rI0 fun i j => .bl (decide (i ≤ j))) := opB0 fun _ _ _ _ _ _ _ q => le_int q
theorem op_gt : OpR X (compareOp .Gt) (rI0 fun i j => .bl (decide (j < i))) := opB0 fun _ _ _ _ _ _ _ q => gt_int q
theorem op_ge : OpR X (compareOp .GtE) (rI0 fun i j => .bl (decide (j ≤ i))) := opB0 fun _ _ _ _ _ _ _ q => ge_int q
/-- is None, is not None: the right side a value none -/
theorem op_isN : OpR X (compareOp .Is) (fun x y H Q => y = .non ∧ Q (.bl (decide (x = .non))) H) := by
  intro pins s σ H x y v u Q I rx ry h
  obtain ⟨rfl, q⟩ := h
  cases ry
  refine is_none_gen (fin_bl I q ?_)
  cases x <;> first
    | (cases rx; rfl)
    | (obtain ⟨t, rfl⟩ := rx; rfl)
theorem op_notN : OpR X (compareOp .IsNot) (fun x y H Q => y = .non ∧ Q (.bl (!decide (x = .non))) H) := by
  intro pins s σ H x y v u Q I rx ry h
  obtain ⟨rfl, q⟩ := h
  cases ry
  refine isnot_none_gen (fin_bl I q ?_)
  cases x <;> first
    | (cases rx; rfl)
    | (obtain ⟨t, rfl⟩ := rx; rfl)

/-- is, is not of two objects that are tracked lists or instances -/
def isObj : HO → Bool
  | .lst _ => true
  | .ins _ _ _ => true
  | _ => false
theorem nomark (b : Expr) {op : CmpOp} (h : op ≠ .In := by decide) (h2 : op ≠ .NotIn := by decide) : behindInMarks op b = false := by
  have e1 : (op == CmpOp.In) = false := by cases op <;> first | rfl | exact absurd rfl h
  have e2 : (op == CmpOp.NotIn) = false := by cases op <;> first | rfl | exact absurd rfl h2
  cases b <;> simp [behindInMarks, e1, e2]
/-- a comparison as a value; hm: nomark b, or (for in, not in) by with_unfolding_all rfl -/
theorem pe_cmpR {op : CmpOp} {r : R2} (ho : OpR X (compareOp op) r) (ha : PE X a ta) (hb : PE X b tb) (hm : behindInMarks op b = false) : PE X (.Compare a [op] [b] pos) (tOp r ta tb) := by
  intro pins s σ H Q I h
  exact wpAny_Compare1 (binT ha hb I h fun v u s2 x y H2 I2 rx ry q => ho pins s2 σ H2 x y v u Q I2 rx ry q) hm
/-- a reading of a value as a test -/
def tTest (t : TE) : TT := fun σ H Q => t σ H fun x H' => ∃ k, x = .bl k ∧ Q k H'
theorem pt_cmpR {op : CmpOp} {r : R2} (ho : OpR X (compareOp op) r) (ha : PE X a ta) (hb : PE X b tb) (hm : behindInMarks op b = false) : PT X (.Compare a [op] [b] pos) (tTest (tOp r ta tb)) := by
  intro pins s σ H Q I h
  refine wpAny_isTrue_Compare1 (thn (ha pins s σ H _ I h) fun v s1 ⟨x, H1, I1, r1, q1⟩ => thn (hb pins s1 σ H1 _ I1 q1) fun u s2 ⟨y, H2, I2, r2, q2⟩ =>
    thn (ho pins s2 σ H2 x y v u _ I2 r1 r2 q2) fun c s3 ⟨z, H3, I3, r3, k, e, q3⟩ => ?_) hm
  subst e
  cases r3
  exact wpAny_truthy_bool ⟨H3, I3, q3⟩
/-- a op1 b op2 c -/
def tChain (r r' : R2) (ta tb tc : TE) : TE := fun σ H Q => ta σ H fun x H1 => tb σ H1 fun y H2 => r x y H2 fun z H3 => ∃ k, z = .bl k ∧
  (if k = true then tc σ H3 fun w' H4 => r' y w' H4 Q else Q (.bl false) H3)
/-! ### truth -/
/-- a value's truth by the abstract heap -/
def TruV (K : PySem.W.Frag) (x : V) (H : Hp) (k : Bool) : Prop :=
  match x with
  | .non => k = false
  | .bl b => k = b
  | .int i => k = (i != 0)
  | .str y => y.length ≤ sizeLine ∧ k = ((y.length : Int) != 0)
  | .byt y => y.size ≤ sizeLine ∧ k = ((y.size : Int) != 0)
  | .ref p => (∃ xs, SqL K H p xs ∧ k = !xs.isEmpty) ∨ (∃ xs, SqT K H p xs ∧ k = !xs.isEmpty) ∨ ∃ kvs, H p = some (.dK kvs) ∧ k = !kvs.isEmpty
  | _ => False
theorem line63 : (sizeLine : Nat) < 2 ^ 63 := by rw [sizeLine_eq]; decide
/-! ### strs and bytes -/
def PlainIxT (b : Expr) : Prop := ∀ o i, subscripted b false o i = operate [o, i] (getItem o i)
/-! ### scalar builtins, by CallR -/
theorem vals1 {x : V} {us : List Value} (r : Vals [x] us) : ∃ u, us = [u] ∧ RelV x u := by
  cases r with
  | cons r1 r2 => cases r2; exact ⟨_, rfl, r1⟩
/-- len of a str, a bytes, a list, a tuple -/
def LenV (K : PySem.W.Frag) (x : V) (H : Hp) (n : Nat) : Prop :=
  match x with
  | .str y => y.length ≤ sizeLine ∧ n = y.length
  | .byt y => y.size ≤ sizeLine ∧ n = y.size
  | .ref p => (∃ xs, SqL K H p xs ∧ n = xs.length) ∨ ∃ xs, SqT K H p xs ∧ n = xs.length
  | _ => False
end
end L2

namespace L2
open PySem PySem.Spec PyProof.Rows

/-! ### an instance, its attributes a map -/
structure ObjM (h : Heap) (x dx C : Addr) (mA : Str → Option Value) : Prop where
  obj : h.get? x = some (PySem.W.instObj C dx)
  ns : h.Ns1 dx mA
  ne : dx ≠ x

theorem lookIn_ns {h : Heap} {dx : Addr} {mA : Str → Option Value} (n : h.Ns1 dx mA) : ∃ od, h.get? dx = some od ∧ ∀ name, PySem.W.lookIn name od = some (mA name) := by
  obtain ⟨o, es, ep, ho, hd, hk, _, hm⟩ := n
  refine ⟨o, ho, fun name => ?_⟩
  have e := hm name
  unfold nsFind findBy at e
  rw [← Array.find?_toList] at e
  unfold PySem.W.lookIn
  rw [hd]
  dsimp only
  split
  · rename_i y q
    rw [q] at e
    exact congrArg some e
  · rename_i q
    rw [q] at e
    have a : es.toList.any (·.refKey) = false := by
      rw [List.any_eq_false]
      intro y hy
      obtain ⟨z, t, hkey⟩ := hk y (Array.mem_toList_iff.mp hy)
      simp [DictEntry.refKey, hkey]
    have a' : ¬ es.toList.any (·.refKey) = true := by rw [a]; exact Bool.false_ne_true
    rw [if_neg a']
    exact congrArg some e

theorem ObjM.look {h : Heap} {x dx C : Addr} {mA : Str → Option Value} (I : ObjM h x dx C mA) : ∃ od, PySem.W.InstAt h x (PySem.W.instObj C dx) C (some od) ∧ ∀ name, PySem.W.lookIn name od = some (mA name) :=
  let ⟨od, ho, hl⟩ := lookIn_ns I.ns
  ⟨od, ⟨I.obj, rfl, rfl, ho⟩, hl⟩

section
variable {prog : Program} {w : World} {A : Around} {E : Value → Shared → Prop} {s : Shared} {K : PySem.W.Frag} {x dx C f : Addr} {mA : Str → Option Value} {name : Str} {v : Value}

theorem get_map {expr : Bool} {Q : Value → Shared → Prop} (X : K.In s.heap) (I : ObjM s.heap x dx C mA) (hg : PySem.W.plainGet K C name = true) (hh : PySem.W.hasDictIn K C = true)
    (ha : PySem.W.findIn K (.ref C) name = some none) (hv : mA name = some v) (hv' : PySem.W.handedIn v = true) (h : Q v { s with toks := s.toks + 1 }) :
    wpAny (model prog w) A (getAttr (.ref x) name expr) Q E s := by
  obtain ⟨od, J, hl⟩ := I.look
  exact PySem.W.get_value X J (PySem.W.plainGet_of hg).1 (PySem.W.findObj_own hh ha rfl (by rw [hl, hv])) hv' h

theorem get_meth {pl : Sem Bool} {Q : Value × List Value → Shared → Prop} (X : K.In s.heap) (I : ObjM s.heap x dx C mA) (hg : PySem.W.plainGet K C name = true)
    (hf : PySem.W.findIn K (.ref C) name = some (some (.ref f))) (ht : PySem.W.isFn K (.ref f) = true) (hv : mA name = none) (h : Q (.ref f, [.ref x]) s) :
    wpAny (model prog w) A (getMethod (.ref x) name pl) Q E s := by
  obtain ⟨od, J, hl⟩ := I.look
  exact PySem.W.method_fn X J (PySem.W.plainGet_of hg).1 (PySem.W.plainGet_of hg).2 hf (beq_iff_eq.mp ht) (by show (PySem.W.lookIn name od).map (·.isSome) = some false; rw [hl, hv]; rfl) h

theorem set_map {ns : List Str} {Q : Unit → Shared → Prop} (X : K.In s.heap) (I : ObjM s.heap x dx C mA)
    (hs : PySem.W.findIn K (.ref C) "__setattr__" = some (some (.builtin "object.__setattr__"))) (hp : PySem.W.plainOver K C = true) (ht : PySem.W.takerIn K C name = some none) (hh : PySem.W.hasDictIn K C = true)
    (hw : PySem.Within mA ns) (hsz : ns.length ≤ sizeLine)
    (h : ∀ h', ObjM h' x dx C (fun y => if y = name then some v else mA y) → Heap.SameBut dx s.heap h' → Q () { s with heap := h', toks := s.toks + 2 }) :
    wpAny (model prog w) A (setAttr (.ref x) name v) Q E s := by
  obtain ⟨od, J, hl⟩ := I.look
  refine PySem.W.set_plain X J hs (PySem.W.osa_open (s := { s with toks := s.toks + 1 }) (r := none) X J hp ht fun b => ?_)
  obtain ⟨cd, hc, hd'⟩ := PySem.W.any_some hh
  have hx : s.heap.get? x = some ⟨.ref C, some dx, .plain, #[]⟩ := I.obj
  refine wpAny_bind (wpAny_pure (wpAny_bind (wpAny_bind (wpAny_loadPart hx (wpAny_bind (PySem.W.Looks.here (s := { s with toks := s.toks + 1 }) (PySem.W.looks_clsIn X hc) ?_))))))
  rw [hd']
  refine wpAny_pure (a := some dx) (wpAny_bind (wpAny_pure (wpAny_bind ?_)))
  refine wpAny_nsSet1 (s := { s with toks := s.toks + 1 }) I.ns fun h' hn2 hs2 => ?_
  obtain ⟨oD, esD, epD, hoD, hdD, hcD⟩ := hn2.count (PySem.Within.cons name v hw)
  refine wpAny_bind (wpAny_lookBehind hoD (by rw [hdD]; exact pastItsLine_dict (Nat.le_trans hcD (by rw [List.length_cons]; omega))) ?_)
  exact wpAny_pure (h _ ⟨(hs2.2 _ (Ne.symm I.ne)).trans I.obj, hn2, I.ne⟩ hs2)

/-- C(..): the dict at the heap's end, the instance behind it; then its __init__ -/
theorem make_map {R : Result → Shared → Prop} {vs : List Value} {kw : List (Str × Value)} (X : K.In s.heap) (hm : PySem.W.makesIn K C = true)
    (hi : PySem.W.findIn K (.ref C) "__init__" = some (some (.ref f))) (hf : PySem.W.typeIn K (.ref f) = some (.type "function"))
    (h : codeAny (model prog w) (A.under (.builtin "type.__call__" ⟨.ref C :: vs, kw⟩)) (.call (.ref f) ⟨.ref (s.heap.objs.size + 1) :: vs, kw⟩) (PySem.W.InitBack (s.heap.objs.size + 1) R)
      { s with heap := (s.heap.push PySem.W.emptyDict).push (PySem.W.instObj C s.heap.objs.size) }) :
    codeAny (model prog w) A (.call (.ref C) ⟨vs, kw⟩) R s := by
  obtain ⟨hh, g, d, t, os⟩ := s
  exact PySem.W.make_core (PySem.W.makes_of X hm) (PySem.W.looks_findIn X hi) (fun self => PySem.W.bind_fn X self hf) (.inl rfl) h
end

/-! ### the attributes as a list of pairs -/
def putF (f : Str) (v : V) : List (Str × V) → List (Str × V)
  | [] => [(f, v)]
  | (g, x) :: r => if g = f then (g, v) :: r else (g, x) :: putF f v r
theorem lookup_putF (f g : Str) (v : V) : ∀ fs : List (Str × V), (putF f v fs).lookup g = if g = f then some v else fs.lookup g
  | [] => by
    show List.lookup g [(f, v)] = _
    by_cases h : g = f
    · have hb : (g == f) = true := beq_iff_eq.mpr h
      simp only [List.lookup, hb, if_pos h]
    · have hb : (g == f) = false := beq_eq_false_iff_ne.mpr h
      simp only [List.lookup, hb, if_neg h]
  | (k, x) :: r => by
    have ih := lookup_putF f g v r
    rw [show putF f v ((k, x) :: r) = (if k = f then (k, v) :: r else (k, x) :: putF f v r) from rfl]
    by_cases hk : k = f
    · rw [if_pos hk]
      by_cases h : g = k
      · have hb : (g == k) = true := beq_iff_eq.mpr h
        simp only [List.lookup, hb, if_pos (h.trans hk)]
      · have hb : (g == k) = false := beq_eq_false_iff_ne.mpr h
        simp only [List.lookup, hb, if_neg (fun e : g = f => h (e.trans hk.symm))]
    · rw [if_neg hk]
      by_cases h : g = k
      · have hb : (g == k) = true := beq_iff_eq.mpr h
        simp only [List.lookup, hb, if_neg (fun e : g = f => hk (h.symm.trans e))]
      · have hb : (g == k) = false := beq_eq_false_iff_ne.mpr h
        simp only [List.lookup, hb]
        exact ih
theorem keys_putF (f : Str) (v : V) : ∀ fs : List (Str × V), f ∈ (putF f v fs).map (·.1) ∧ ∀ g, g ∈ fs.map (·.1) → g ∈ (putF f v fs).map (·.1)
  | [] => ⟨by simp [putF], fun g h => by simp at h⟩
  | (k, x) :: r => by
    obtain ⟨i1, i2⟩ := keys_putF f v r
    rw [show putF f v ((k, x) :: r) = (if k = f then (k, v) :: r else (k, x) :: putF f v r) from rfl]
    by_cases hk : k = f
    · rw [if_pos hk]
      subst hk
      exact ⟨by simp, fun g h => by simpa using h⟩
    · rw [if_neg hk]
      refine ⟨?_, fun g h => ?_⟩
      · rw [List.map_cons]
        exact List.mem_cons_of_mem _ i1
      · rw [List.map_cons] at h ⊢
        rcases List.mem_cons.mp h with e | e
        · exact List.mem_cons.mpr (.inl e)
        · exact List.mem_cons_of_mem _ (i2 g e)
theorem length_putF (f : Str) (v : V) : ∀ fs : List (Str × V), (putF f v fs).length ≤ fs.length + 1
  | [] => by simp [putF]
  | (k, x) :: r => by
    have ih := length_putF f v r
    rw [show putF f v ((k, x) :: r) = (if k = f then (k, v) :: r else (k, x) :: putF f v r) from rfl]
    by_cases hk : k = f
    · rw [if_pos hk, List.length_cons, List.length_cons]; omega
    · rw [if_neg hk, List.length_cons, List.length_cons]; omega

theorem RelO.some_of {v : V} {o : Option Value} (r : RelO (some v) o) : ∃ u, o = some u ∧ RelV v u := by
  cases o with
  | none => exact (show False from r).elim
  | some u => exact ⟨u, rfl, r⟩
theorem RelO.none_of {o : Option Value} (r : RelO none o) : o = none := by
  cases o with
  | none => rfl
  | some u => exact (show False from r).elim
theorem handed_of {v : V} {u : Value} (r : RelV v u) : PySem.W.handedIn u = true := by
  cases v with
  | non => cases (show u = Value.none from r); rfl
  | bl b => cases (show u = Value.bool b from r); rfl
  | int i => obtain ⟨t, e⟩ := (show ∃ t, u = Value.int i t from r); cases e; rfl
  | str x => obtain ⟨t, e⟩ := (show ∃ t, u = Value.str x t from r); cases e; rfl
  | byt b => obtain ⟨t, e⟩ := (show ∃ t, u = Value.bytes b t from r); cases e; rfl
  | flt b => obtain ⟨t, e⟩ := (show ∃ t, u = Value.float b t from r); cases e; rfl
  | ref a => cases (show u = Value.ref a from r); rfl
  | ty n => cases (show u = Value.type n from r); rfl

section
variable {P : Program} {w : World} {H H' : Hp} {h h' : Heap} {a C dx : Addr} {fs fs' : List (Str × V)}
theorem ins_get (hok : HOk P w H h) (e : H a = some (.ins C dx fs)) : ∃ mA, ObjM h a dx C mA ∧ (∀ f, RelO (fs.lookup f) (mA f)) ∧ PySem.Within mA (fs.map (·.1)) ∧ fs.length ≤ 1000 ∧ H dx = some (.own a) := by
  obtain ⟨d, z, ne, ob, mA, n, r, q⟩ := (show ObjOk P w H h a (.ins C dx fs) from hok a _ e)
  exact ⟨mA, ⟨ob, n, ne⟩, r, q, z, d⟩
end

/-! ### what of the text a class must have -/
structure Cls (K : PySem.W.Frag) (C : Addr) : Prop where
  pg : PySem.W.plainGet K C Str.empty = true
  hd : PySem.W.hasDictIn K C = true
  po : PySem.W.plainOver K C = true
  sa : PySem.W.findIn K (.ref C) "__setattr__" = some (some (.builtin "object.__setattr__"))
theorem Cls.get {K : PySem.W.Frag} {C : Addr} (c : Cls K C) (f : Str) : PySem.W.plainGet K C f = true := c.pg
/-- no class of it has the name -/
def NoAttr (K : PySem.W.Frag) (C : Addr) (f : Str) : Prop := PySem.W.findIn K (.ref C) f = some none
theorem NoAttr.taker {K : PySem.W.Frag} {C : Addr} {f : Str} (n : NoAttr K C f) : PySem.W.takerIn K C f = some none := by
  unfold PySem.W.takerIn
  rw [show PySem.W.findIn K (.ref C) f = some none from n]
  rfl
/-- a constant of the class -/
structure Con (K : PySem.W.Frag) (C : Addr) (f : Str) (v : V) (u : Value) : Prop where
  at_ : PySem.W.findIn K (.ref C) f = some (some u)
  rel : RelV v u
  get : PySem.W.specialIn K u "__get__" = some none
  cp : PySem.W.copiedNames.contains f = false
/-- a method: a plain def of the class or of one above it -/
structure Meth (K : PySem.W.Frag) (C : Addr) (m : Str) (f : Addr) : Prop where
  at_ : PySem.W.findIn K (.ref C) m = some (some (.ref f))
  fn : PySem.W.isFn K (.ref f) = true
  kp : PySem.W.keepIn K (.ref f) = true

section
variable {X : Cx} {pins : List (Addr × Obj)} {σ : St} {H : Hp} {s : Shared} {a C dx : Addr} {fs : List (Str × V)} {f : Str} {v : V} {A : Around} {E : Value → Shared → Prop}

theorem getattr_ok {b : Bool} {Q : Value → Shared → Prop} (I : Inv X pins σ H s) (e : H a = some (.ins C dx fs)) (c : Cls X.K C) (n : NoAttr X.K C f) (l : fs.lookup f = some v)
    (h : ∀ u s', Inv X pins σ H s' → RelV v u → Q u s') : wpAny (model X.prog X.w) A (getAttr (.ref a) f b) Q E s := by
  obtain ⟨mA, O, r, _, _, _⟩ := ins_get I.hok e
  obtain ⟨u, hu, ru⟩ := RelO.some_of (v := v) (o := mA f) (by rw [← l]; exact r f)
  exact get_map I.kIn O (c.get f) c.hd n hu (handed_of ru) (h u _ (I.tok _) ru)

theorem getmeth_ok {m : Str} {g : Addr} {pl : Sem Bool} {Q : Value × List Value → Shared → Prop} (I : Inv X pins σ H s) (e : H a = some (.ins C dx fs)) (c : Cls X.K C) (k : Meth X.K C m g) (l : fs.lookup m = none)
    (h : Q (.ref g, [.ref a]) s) : wpAny (model X.prog X.w) A (getMethod (.ref a) m pl) Q E s := by
  obtain ⟨mA, O, r, _, _, _⟩ := ins_get I.hok e
  have hn : mA m = none := RelO.none_of (by rw [← l]; exact r m)
  exact get_meth I.kIn O (c.get m) k.at_ k.fn hn h

theorem setattr_ok {y : V} {u : Value} {Q : Unit → Shared → Prop} (I : Inv X pins σ H s) (e : H a = some (.ins C dx fs)) (c : Cls X.K C) (n : NoAttr X.K C f) (hl : fs.length < 1000) (ry : RelV y u)
    (h : ∀ s', Inv X pins σ (upd H a (.ins C dx (putF f y fs))) s' → Q () s') : wpAny (model X.prog X.w) A (setAttr (.ref a) f u) Q E s := by
  obtain ⟨mA, O, r, wi, _, ho⟩ := ins_get I.hok e
  have hz : (fs.map (·.1)).length ≤ sizeLine := by rw [List.length_map, sizeLine_eq]; omega
  refine set_map I.kIn O c.sa c.po n.taker c.hd wi hz fun h' O' sb => h _ ?_
  have hd : ∃ o, h'.get? dx = some o := let ⟨o, _, _, e', _⟩ := O'.ns; ⟨o, e'⟩
  refine I.write (x := a) (e := dx) (by rw [e]; exact True.intro) (.inr ho) (fun b q hb z => (sb.2 b hb).trans z) hd ?_
  refine ⟨by rw [upd_ne O.ne]; exact ho, ?_, O.ne, O'.obj, _, O'.ns, fun g => ?_, fun g hg => ?_⟩
  · have := length_putF f y fs; omega
  · show RelO ((putF f y fs).lookup g) (if g = f then some u else mA g)
    rw [lookup_putF]
    by_cases q : g = f
    · rw [if_pos q, if_pos q]; exact ry
    · rw [if_neg q, if_neg q]; exact r g
  · by_cases q : g = f
    · rw [q]; exact (keys_putF f y fs).1
    · refine (keys_putF f y fs).2 g (wi g fun z => hg ?_)
      show (if g = f then some u else mA g) = none
      rw [if_neg q]; exact z

/-- a new instance, tracked, without attributes -/
theorem Inv.made (I : Inv X pins σ H s) : Inv X pins σ (upd (upd H s.heap.objs.size (.own (s.heap.objs.size + 1))) (s.heap.objs.size + 1) (.ins C s.heap.objs.size []))
    { s with heap := (s.heap.push PySem.W.emptyDict).push (PySem.W.instObj C s.heap.objs.size) } := by
  have e1 : (s.heap.push PySem.W.emptyDict).get? s.heap.objs.size = some PySem.W.emptyDict := Heap.get?_push_size s.heap rfl
  have e2 : ((s.heap.push PySem.W.emptyDict).push (PySem.W.instObj C s.heap.objs.size)).get? (s.heap.objs.size + 1) = some (PySem.W.instObj C s.heap.objs.size) := by
    have := Heap.get?_push_size (s.heap.push PySem.W.emptyDict) (o := PySem.W.instObj C s.heap.objs.size) rfl
    rwa [Heap.size_push] at this
  have e3 : (s.heap.push PySem.W.emptyDict).Ns s.heap.objs.size (fun _ => none) := ⟨PySem.W.emptyDict, #[], _, e1, rfl, (fun e he => absurd he (by simp)), fun _ => rfl⟩
  have I1 := I.laid (a := s.heap.objs.size) (o := .own (s.heap.objs.size + 1)) (h' := s.heap.push PySem.W.emptyDict) (t' := s.toks) (fun b u q => Heap.get?_push_of_some _ q) (Nat.le_refl _) ⟨_, e1⟩
  refine I1.laid (a := s.heap.objs.size + 1) (o := .ins C s.heap.objs.size []) (t' := s.toks) (fun b u q => Heap.get?_push_of_some _ q) (Nat.le_of_eq (Heap.size_push _ _)) ?_
  have ne : s.heap.objs.size ≠ s.heap.objs.size + 1 := Nat.ne_of_lt (Nat.lt_succ_self _)
  refine ⟨by rw [upd_ne ne, upd_same], Nat.zero_le _, ne, e2, fun _ => none, (Heap.Ns1.of_empty e3).at fun o q => Heap.get?_push_of_some _ q, fun _ => True.intro, fun y hy => absurd rfl hy⟩

/-- e.f where nothing but the object is asked: through attributeBase (super) and the last hold -/
theorem attr_of {prog : Program} {w : World} {env : Env} {e : Expr} {f : Str} {pos : Pos} {s : Shared} {Q : Value → Shared → Prop} (hb : attributeBase e f env (eval e env) = eval e env)
    (h : wpAny (model prog w) A (eval e env) (fun o s₁ => wpAny (model prog w) A (getAttr o f true) Q E s₁) E s) : wpAny (model prog w) A (eval (.Attribute e f pos) env) Q E s :=
  Attribute_any_ h (by rw [arm_eval_Attribute, hb])
end

/-! ### readings and rules -/
/-- e.f, an attribute of the instance -/
def tFld (K : PySem.W.Frag) (ta : TE) (f : Str) : TE := fun σ H Q => ta σ H fun x H1 => ∃ a C dx fs v, x = .ref a ∧ H1 a = some (.ins C dx fs) ∧ Cls K C ∧ NoAttr K C f ∧ fs.lookup f = some v ∧ Q v H1
/-- e.f, a constant of the class -/
def tCon (K : PySem.W.Frag) (ta : TE) (f : Str) : TE := fun σ H Q => ta σ H fun x H1 => ∃ a C dx fs v u, x = .ref a ∧ H1 a = some (.ins C dx fs) ∧ Cls K C ∧ Con K C f v u ∧ fs.lookup f = none ∧ Q v H1
/-- e.f = value -/
def sFld (K : PySem.W.Frag) (ta tv : TE) (f : Str) : TS := fun D σ H => tv σ H fun y H1 => ta σ H1 fun x H2 => ∃ a C dx fs, x = .ref a ∧ H2 a = some (.ins C dx fs) ∧ Cls K C ∧ NoAttr K C f ∧ fs.length < 1000 ∧
  D.nx σ (upd H2 a (.ins C dx (putF f y fs)))
/-- an augmented operator on two values -/
def InOp (X : Cx) (op : Operator) (rd : V → V → Hp → VK → Prop) : Prop :=
  ∀ (pins : List (Addr × Obj)) (s : Shared) (σ : St) (H : Hp) (x y : V) (u v : Value) (Q : VK), Inv X pins σ H s → RelV x u → RelV y v → rd x y H Q → wpAny (model X.prog X.w) X.A (inplaceOp op u v) (EP X pins σ Q) X.xe s
/-- e.f op= value -/
def sFldAug (K : PySem.W.Frag) (ta tv : TE) (rd : V → V → Hp → VK → Prop) (f : Str) : TS := fun D σ H => ta σ H fun x H1 => ∃ a C dx fs v, x = .ref a ∧ H1 a = some (.ins C dx fs) ∧ Cls K C ∧ NoAttr K C f ∧ fs.lookup f = some v ∧
  tv σ H1 fun y H2 => rd v y H2 fun z H3 => ∃ dx' fs', H3 a = some (.ins C dx' fs') ∧ fs'.length < 1000 ∧ D.nx σ (upd H3 a (.ins C dx' (putF f z fs')))

section
variable {X : Cx} {o e value : Expr} {f : Str} {pos pos' tpos : Pos} {ta tv : TE}
theorem pe_fld (he : PE X e ta) (hb : attributeBase e f X.env (eval e X.env) = eval e X.env) : PE X (.Attribute e f pos) (tFld X.K ta f) := by
  intro pins s σ H Q I h
  refine attr_of hb (thn (he pins s σ H _ I h) fun u s1 ⟨x, H1, I1, rx, a, C, dx, fs, v, ex, ea, c, n, l, q⟩ => ?_)
  subst ex
  obtain rfl : u = Value.ref a := rx
  exact getattr_ok I1 ea c n l fun u' s2 I2 ru => ⟨v, H1, I2, ru, q⟩
theorem ps_fld (ha : PE X o ta) (hv : PE X value tv) (hs : swapsWith value (some (.Attribute o f pos')) pos.line X.env = pure false) : PS X (.Assign [.Attribute o f pos'] value pos) (sFld X.K ta tv f) := by
  intro pins s σ H D I h
  refine plainObj_wpAny_Assign_Attribute (thn (hv pins s σ H _ I h) fun u s1 ⟨y, H1, I1, ry, q⟩ => thn (ha pins s1 σ H1 _ I1 q) fun ov s2 ⟨x, H2, I2, rx, a, C, dx, fs, ex, ea, c, n, l, q2⟩ => ?_) hs
  subst ex
  obtain rfl : ov = Value.ref a := rx
  exact setattr_ok I2 ea c n l ry fun s3 I3 => ⟨σ, _, I3, q2⟩
theorem ps_fldaug {op : Operator} {rd : V → V → Hp → VK → Prop} (ha : PE X o ta) (hv : PE X value tv) (hop : InOp X op rd) : PS X (.AugAssign (.Attribute o f tpos) op value pos) (sFldAug X.K ta tv rd f) := by
  intro pins s σ H D I h
  refine wpAny_AugAssign_AttributeAny (thn (ha pins s σ H _ I h) fun ov s1 ⟨x, H1, I1, rx, a, C, dx, fs, v, ex, ea, c, n, l, q⟩ => ?_)
  subst ex
  obtain rfl : ov = Value.ref a := rx
  refine getattr_ok I1 ea c n l fun u s2 I2 ru => thn (hv pins s2 σ H1 _ I2 q) fun w3 s3 ⟨y, H2, I3, ry, q3⟩ => thn (hop pins s3 σ H2 v y u w3 _ I3 ru ry q3) fun w4 s4 ⟨z, H3, I4, rz, dx', fs', ea', l', q4⟩ => ?_
  exact setattr_ok I4 ea' c n l' rz fun s5 I5 => ⟨σ, _, I5, q4⟩
def rAdd : V → V → Hp → VK → Prop := fun x y H Q => ∃ i j, x = .int i ∧ y = .int j ∧ Q (.int (i + j)) H
def rSub : V → V → Hp → VK → Prop := fun x y H Q => ∃ i j, x = .int i ∧ y = .int j ∧ Q (.int (i - j)) H
theorem in_add : InOp X .Add rAdd := by
  rintro pins s σ H x y u v Q I rx ry ⟨i, j, rfl, rfl, q⟩
  obtain ⟨t, rfl⟩ := (show ∃ t, u = Value.int i t from rx)
  obtain ⟨t', rfl⟩ := (show ∃ t', v = Value.int j t' from ry)
  exact PyProof.Rows.iadd_int ⟨.int (i + j), H, I.tok _, ⟨_, rfl⟩, q⟩
end

/-! ### isinstance -/
section
variable {X : Cx} {pins : List (Addr × Obj)} {σ : St} {H : Hp} {s : Shared} {A : Around} {E : Value → Shared → Prop} {Q : Value → Shared → Prop} {c : Value} {b : Bool}
/-- the type of a value, as the fragment's deciders take it; for an instance its class -/
inductive TyOf (K : PySem.W.Frag) (H : Hp) : V → Value → Prop where
  | non : TyOf K H .non (.type "NoneType")
  | bl (x : Bool) : TyOf K H (.bl x) (.type "bool")
  | int (i : Int) : TyOf K H (.int i) (.type "int")
  | str (x : Str) : TyOf K H (.str x) (.type "str")
  | flt (x : UInt64) : TyOf K H (.flt x) (.type "float")
  | lst {a : Addr} {xs : List V} (e : H a = some (.lst xs)) : TyOf K H (.ref a) (.type "list")
  | frz {a : Addr} {o : Obj} {xs : List V} (e : H a = some (.frz o (.lst xs))) : TyOf K H (.ref a) (.type "list")
  | tup {a : Addr} {xs : List V} (e : H a = some (.tup xs)) : TyOf K H (.ref a) (.type "tuple")
  | dK {a : Addr} {kvs : List (Key × V)} (e : H a = some (.dK kvs)) : TyOf K H (.ref a) (.type "dict")
  | dT {a : Addr} {kvs : List (List Key × V)} (e : H a = some (.dT kvs)) : TyOf K H (.ref a) (.type "dict")
  | ins {a C dx : Addr} {fs : List (Str × V)} (e : H a = some (.ins C dx fs)) (cl : Cls K C) (ha : PySem.W.findIn K (.ref C) "__class__" = some (some (.builtin "object.__class__")))
      (hn : PySem.W.specialIn K (.builtin "object.__class__") "__get__" = some (some (.builtin "getset_descriptor.__get__"))) (htk : PySem.W.takesIn K (.builtin "object.__class__") = some true)
      (hm : PySem.W.mroIn K C (.type "object") = some true) : TyOf K H (.ref a) (.ref C)
end
end L2

namespace L2
open PySem PySem.Spec PyProof.Rows

/-! ### room -/
structure Room (k : Nat) (A : Around) : Prop where
  hd : A.handled = none
  dp : A.depth + 3 * k + 5 < recursionLimit
  un : A.units + 16 * k + 200 < cLine
theorem Room.mono {j k : Nat} {A : Around} (r : Room k A) (h : j ≤ k) : Room j A := ⟨r.hd, by have := r.dp; omega, by have := r.un; omega⟩
theorem Room.deeper {k : Nat} {A : Around} (r : Room (k + 1) A) (env : Env) : Room k (A.deeper env) :=
  ⟨r.hd, by have := r.dp; show A.depth + 1 + 3 * k + 5 < _; omega, by have := r.un; show A.units + 3 + 16 * k + 200 < _; omega⟩
theorem make_depth {A : Around} {C : Addr} {us : List Value} {kw : List (Str × Value)} : (A.under (.builtin "type.__call__" ⟨.ref C :: us, kw⟩)).depth = A.depth + 1 := by
  first | rfl | simp [Around.under, Code.weight, Code.isCreation, Code.isGuard, Code.isCaller, Code.frames, Code.isFrame, guardIds]
theorem make_units {A : Around} {C : Addr} {us : List Value} {kw : List (Str × Value)} : (A.under (.builtin "type.__call__" ⟨.ref C :: us, kw⟩)).units = A.units + 1 := by
  first | rfl | simp [Around.under, Code.cUnits, Code.frames, Code.isFrame]
theorem Room.make {k : Nat} {A : Around} (r : Room (k + 1) A) (C : Addr) (us : List Value) (kw : List (Str × Value)) : Room k (A.under (.builtin "type.__call__" ⟨.ref C :: us, kw⟩)) :=
  ⟨r.hd, by have := r.dp; rw [make_depth]; omega, by have := r.un; rw [make_units]; omega⟩
theorem Room.depth {k : Nat} {A : Around} (r : Room k A) : A.depth < recursionLimit := by have := r.dp; omega
theorem Room.units {k : Nat} {A : Around} (r : Room k A) : A.units + 64 < cLine := by have := r.un; omega
/-! ### argument lists and displays -/
def tNil : TA := fun _ H Q => Q [] H
def tCons (ta : TE) (tr : TA) : TA := fun σ H Q => ta σ H fun x H1 => tr σ H1 fun xs H2 => Q (x :: xs) H2
section
variable {X : Cx} {e : Expr} {es : List Expr} {te : TE} {t : TA} {pos : Pos}
theorem pa_nil : PA X [] tNil := fun _ _ _ _ H Q I h => Calls.spliced_nil ⟨[], H, I, .nil, h⟩
theorem pa_cons (ha : PE X e te) (hr : PA X es t) (hs : starEach (e :: es) X.env = (false, eval e X.env) :: starEach es X.env := by rfl) : PA X (e :: es) (tCons te t) := by
  intro pos pins s σ H Q I h
  rw [hs]
  show wpAny _ _ (spliced ((false, eval e X.env) :: backTo pos (starEach es X.env))) _ _ s
  refine Calls.spliced_cons (thn (ha pins s σ H _ I h) fun u s1 ⟨x, H1, I1, r1, q1⟩ => ?_)
  exact thn (hr pos pins s1 σ H1 _ I1 q1) fun us s2 ⟨xs, H2, I2, r2, q2⟩ => ⟨x :: xs, H2, I2, .cons r1 r2, q2⟩

/-- a tuple, a list of written items -/
def tTup (t : TA) : TE := fun σ H Q => t σ H fun xs H1 => xs.length ≤ sizeLine ∧ ∀ p, H1 p = none → Q (.ref p) (upd H1 p (.tup xs))
def tLst (t : TA) : TE := fun σ H Q => t σ H fun xs H1 => xs.length ≤ sizeLine ∧ ∀ p, H1 p = none → Q (.ref p) (upd H1 p (.lst xs))
theorem pe_tup {x1} (h : PA X es t) : PE X (.Tuple es x1 pos) (tTup t) := by
  intro pins s σ H Q I hq
  refine wpAny_Tuple_spliced (thn (h pos pins s σ H _ I hq) fun us s1 ⟨xs, H1, I1, r, z, q⟩ => ⟨by rw [← r.length]; exact z, ?_⟩)
  have hf : H1 s1.heap.objs.size = none := I1.hok.fresh (Nat.le_refl _)
  refine ⟨.ref s1.heap.objs.size, upd H1 s1.heap.objs.size (.tup xs), I1.laid (t' := s1.toks) (fun b u e => Heap.get?_push_of_some _ e) (Nat.le_refl _) ?_, rfl, q _ hf⟩
  exact ⟨z, us, r, ⟨_, Heap.get?_push_size _ rfl, rfl, _, rfl⟩⟩
theorem pe_lst (h : PA X es t) : PE X (.List es pos) (tLst t) := by
  intro pins s σ H Q I hq
  refine wpAny_List_spliced (thn (h pos pins s σ H _ I hq) fun us s1 ⟨xs, H1, I1, r, z, q⟩ => ⟨by rw [← r.length]; exact z, ?_⟩)
  have hf : H1 s1.heap.objs.size = none := I1.hok.fresh (Nat.le_refl _)
  refine ⟨.ref s1.heap.objs.size, upd H1 s1.heap.objs.size (.lst xs), I1.laid (t' := s1.toks) (fun b u e => Heap.get?_push_of_some _ e) (Nat.le_refl _) ?_, rfl, q _ hf⟩
  exact ⟨z, us, 0, r, Heap.get?_push_size _ rfl⟩
end

/-! ### what a def promises -/
/-- a def's promise: the bound arguments in the parameters' order, the heap, the wanted end, the wanted exception -/
abbrev Sp := List V → Hp → VK → XK → Prop
/-- how an exception lies behind a call (file 08 gives it): the callers' frames, abstract heap and state ahead of the call, the wish, the exception, the state -/
abbrev CXT := List Env → Hp → Shared → XK → Value → Shared → Prop

/-- the state at a call -/
structure Env0 (P : Program) (w : World) (K : PySem.W.Frag) (mg : Str → Option Value) (base : Heap) (A : Around) (outer : List Env) (s : Shared) (H : Hp) : Prop where
  frames : A.frames = some outer
  mod : Mod K mg base
  bs : ∀ b o, base.get? b = some o → s.heap.get? b = some o ∧ H b = none
  bsz : base.objs.size ≤ s.heap.objs.size
  funs : s.heap.FunFrames base outer
  frf : ∀ b ∈ frs outer, H b = none
  hok : HOk P w H s.heap
  bare : AllBare s.gens
/-- a call's end -/
def CE (outer : List Env) (P : Program) (w : World) (H : Hp) (s : Shared) (Q : VK) (u : Value) (s' : Shared) : Prop :=
  ∃ v H', s'.os = s.os ∧ AllBare s'.gens ∧ Un (frs outer) [] H H' s.heap s'.heap ∧ HOk P w H' s'.heap ∧ RelV v u ∧ Q v H'
def CR (CX : CXT) (outer : List Env) (P : Program) (w : World) (H : Hp) (s : Shared) (Q : VK) (E : XK) (r : Result) (s' : Shared) : Prop :=
  match r with
  | .ok (.ret u) => CE outer P w H s Q u s'
  | .ok _ => False
  | .error e => CX outer H s E e s'
structure FnOk (P : Program) (w : World) (K : PySem.W.Frag) (mg : Str → Option Value) (base : Heap) (CX : CXT) (k : Nat) (f : Addr) (fd : FuncData) (ps : List Str) (sp : Sp) : Prop where
  len : ∀ vs H Q E, sp vs H Q E → vs.length = ps.length
  run : ∀ (A : Around) (outer : List Env) (s : Shared) (H : Hp) (args : Args) (us : List Value) (vs : List V) (Q : VK) (E : XK), Room k A → Env0 P w K mg base A outer s H → BindsTo s fd args (ps.zip us) → Vals vs us → sp vs H Q E →
    codeAny (model P w) A (.call (.ref f) args) (CR CX outer P w H s Q E) s
theorem Env0.make {P : Program} {w : World} {K : PySem.W.Frag} {mg : Str → Option Value} {base : Heap} {A : Around} {outer : List Env} {s : Shared} {H : Hp} (e : Env0 P w K mg base A outer s H) (C : Addr) (us : List Value) (kw : List (Str × Value)) :
    Env0 P w K mg base (A.under (.builtin "type.__call__" ⟨.ref C :: us, kw⟩)) outer s H := ⟨by first | exact e.frames | (simpa [Around.under, Code.envs, Code.isFrame, pushEnvs] using e.frames), e.mod, e.bs, e.bsz, e.funs, e.frf, e.hok, e.bare⟩
section
variable {X : Cx} {pins : List (Addr × Obj)} {σ : St} {H : Hp} {s s' : Shared}
/-- from a body: what a callee wants -/
theorem Inv.env0 (I : Inv X pins σ H s) : Env0 X.prog X.w X.K X.mg X.base X.A X.stack s H :=
  ⟨I.ok.frames, I.ok.mod, I.bs, Nat.le_trans I.ok.bsz I.sz, I.stack, I.stkFree, I.hok, I.bare⟩
/-- behind a call -/
theorem Inv.after {Q : VK} {u : Value} (I : Inv X pins σ H s) (h : CE X.stack X.prog X.w H s Q u s') : EP X pins σ Q u s' := by
  obtain ⟨v, H', os, bare, un, hok, r, q⟩ := h
  obtain ⟨hh, g, d, t, os'⟩ := s'
  obtain rfl : os' = s.os := os
  exact ⟨v, H', I.call (h' := hh) (g' := g) (d' := d) (t' := t) (ch := []) un hok bare (fun b z => absurd z (by simp)), r, q⟩
end

/-! ### calls -/
/-- f(..): the written arguments, then the defaults dvs; E: what is wanted of an exception -/
def tCall (sp : Sp) (dvs : List V) (E : XK) (t : TA) : TE := fun σ H Q => t σ H fun vs H1 => sp (vs ++ dvs) H1 Q E
/-- o.m(..) of an instance of the class at C -/
def tMeth (C : Addr) (m : Str) (sp : Sp) (dvs : List V) (E : XK) (ta : TE) (t : TA) : TE := fun σ H Q => ta σ H fun x H1 => ∃ a dx fs, x = .ref a ∧ H1 a = some (.ins C dx fs) ∧ fs.lookup m = none ∧
  t σ H1 fun vs H2 => sp (x :: (vs ++ dvs)) H2 Q E
/-- C(..): a new instance and its dict, then __init__ -/
def tMake (C : Addr) (sp : Sp) (dvs : List V) (E : XK) (t : TA) : TE := fun σ H Q => t σ H fun vs H1 => ∀ x dx, H1 x = none → H1 dx = none → dx ≠ x →
  sp (.ref x :: (vs ++ dvs)) (upd (upd H1 dx (.own x)) x (.ins C dx [])) (fun v H2 => v = .non ∧ Q (.ref x) H2) E

/-- how the parameters are bound: us the positional arguments, kw the keywords' values by name, ds the defaults that fill up -/
def Binds (K : PySem.W.Frag) (fd : FuncData) (ps : List Str) (ds : List Value) : Prop :=
  ∀ (s : Shared) (us : List Value), K.In s.heap → (us ++ ds).length = ps.length → BindsTo s fd ⟨us, []⟩ (ps.zip (us ++ ds))
/-- every parameter is given -/
theorem Binds.all {K : PySem.W.Frag} {fd : FuncData} {ps : List Str} (h : ∀ us : List Value, us.length = ps.length → bindArgs fd ⟨us, []⟩ = pure (ps.zip us)) : Binds K fd ps [] := fun s us _ hl => by
  rw [List.append_nil] at hl ⊢
  exact .of_eq (h us hl)

/-- an exception of a callee reaches what this body wants of exceptions -/
def Passes (CX : CXT) (X : Cx) (E : XK) : Prop := ∀ (pins : List (Addr × Obj)) (σ : St) (H : Hp) (s : Shared) (e : Value) (s' : Shared), Inv X pins σ H s → CX X.stack H s E e s' → X.xe e s'

section
variable {X : Cx} {CX : CXT} {k : Nat} {f C : Addr} {fd : FuncData} {ps : List Str} {sp : Sp} {dvs : List V} {ds : List Value} {E : XK} {x m : Str} {p pos apos : Pos} {e o : Expr} {es : List Expr} {ta : TE} {t : TA}

/-- the callee runs -/
theorem run_fn {pins : List (Addr × Obj)} {σ : St} {H : Hp} {s : Shared} {Q : VK} {us : List Value} {vs : List V} (F : FnOk X.prog X.w X.K X.mg X.base CX k f fd ps sp) (hr : Room k X.A) (hb : Binds X.K fd ps ds) (hd : Vals dvs ds) (hx : Passes CX X E)
    (I : Inv X pins σ H s) (r : Vals vs us) (h : sp (vs ++ dvs) H Q E) : wpAny (model X.prog X.w) X.A (call (.ref f) us) (EP X pins σ Q) X.xe s := by
  have r2 : Vals (vs ++ dvs) (us ++ ds) := r.append hd
  have hl : (us ++ ds).length = ps.length := by rw [← r2.length]; exact F.len _ _ _ _ h
  refine wpAny_call (codeAny_mono (F.run X.A X.stack s H ⟨us, []⟩ (us ++ ds) (vs ++ dvs) Q E hr I.env0 (hb s us I.kIn hl) r2 h) fun r s' hq => ?_)
  cases r with
  | error e => exact hx pins σ H s e s' I hq
  | ok fl =>
    cases fl with
    | ret u => exact I.after hq
    | next => exact False.elim hq
    | brk => exact False.elim hq
    | cont => exact False.elim hq

theorem pe_call (F : FnOk X.prog X.w X.K X.mg X.base CX k f fd ps sp) (hr : Room k X.A) (hg : Gl X x) (hm : X.mg x = some (.ref f)) (hk : PySem.W.keepIn X.K (.ref f) = true) (hb : Binds X.K fd ps ds) (hd : Vals dvs ds) (hx : Passes CX X E)
    (ha : PA X (e :: es) t) (hdb : (x == ("__debug__" : Str)) = false := by decide) (he : starEach (e :: es) X.env = (false, eval e X.env) :: starEach es X.env := by rfl) (hpl : (backTo pos (starEach es X.env)).any (·.1) = false := by rfl) :
    PE X (.Call (.Name x p) (e :: es) [] pos) (tCall sp dvs E t) := by
  intro pins s σ H Q I h
  refine wpAny_Call_Name_kw (ld_glob I hg hm ?_ hdb)
  refine PySem.W.callWith_K (h₀ := X.base) I.ok.mod.kin hk (thn (ha pos pins s σ H _ I h) fun us s1 ⟨vs, H1, I1, r, q⟩ => ⟨I1.kIn, ?_⟩) he hpl
  exact run_fn F hr hb hd hx I1 r q
theorem pe_call0 (F : FnOk X.prog X.w X.K X.mg X.base CX k f fd ps sp) (hr : Room k X.A) (hg : Gl X x) (hm : X.mg x = some (.ref f)) (hk : PySem.W.keepIn X.K (.ref f) = true) (hb : Binds X.K fd ps ds) (hd : Vals dvs ds) (hx : Passes CX X E)
    (hdb : (x == ("__debug__" : Str)) = false := by decide) : PE X (.Call (.Name x p) [] [] pos) (tCall sp dvs E tNil) := by
  intro pins s σ H Q I h
  refine wpAny_Call_Name_kw (ld_glob I hg hm ?_ hdb)
  exact PySem.W.callWith_K0 I.kIn hk (run_fn (us := []) F hr hb hd hx I .nil h)

/-- o.m(e, ..) -/
theorem pe_meth {pl : Sem Bool} (he : PE X o ta) (c : Cls X.K C) (hm : Meth X.K C m f) (F : FnOk X.prog X.w X.K X.mg X.base CX k f fd ps sp) (hr : Room k X.A) (hb : Binds X.K fd ps ds) (hd : Vals dvs ds) (hx : Passes CX X E) (ha : PA X (e :: es) t)
    (hst : starEach (e :: es) X.env = (false, eval e X.env) :: starEach es X.env := by rfl) (hpl : (backTo pos (starEach es X.env)).any (·.1) = false := by rfl)
    (ht : eval (.Call (.Attribute o m apos) (e :: es) [] pos) X.env = (do
      let ov ← eval o X.env
      standAt apos.atName
      let (f, first) ← holding [ov] (getMethod ov m pl)
      callWith pos f first (backTo pos (starEach (e :: es) X.env)) (backToKw pos (keywordEach [] X.env))) := by rfl) :
    PE X (.Call (.Attribute o m apos) (e :: es) [] pos) (tMeth C m sp dvs E ta t) := by
  intro pins s σ H Q I h
  refine PySem.W.methodCall_KW (pl := pl) (thn (he pins s σ H _ I h) fun u s1 ⟨x, H1, I1, rx, a, dx, fs, ex, ea, l, q⟩ => ?_) ht
  subst ex
  obtain rfl : u = Value.ref a := rx
  refine getmeth_ok I1 ea c hm l ?_
  refine PySem.W.callWith_K (first := [.ref a]) (h₀ := X.base) I.ok.mod.kin hm.kp (thn (ha pos pins s1 σ H1 _ I1 q) fun us s2 ⟨vs, H2, I2, r, q2⟩ => ⟨I2.kIn, ?_⟩) hst hpl
  exact run_fn (us := .ref a :: us) (vs := .ref a :: vs) F hr hb hd hx I2 (.cons rfl r) q2
/-- o.m() -/
theorem pe_meth0 {pl : Sem Bool} (he : PE X o ta) (c : Cls X.K C) (hm : Meth X.K C m f) (F : FnOk X.prog X.w X.K X.mg X.base CX k f fd ps sp) (hr : Room k X.A) (hb : Binds X.K fd ps ds) (hd : Vals dvs ds) (hx : Passes CX X E)
    (ht : eval (.Call (.Attribute o m apos) [] [] pos) X.env = (do
      let ov ← eval o X.env
      standAt apos.atName
      let (f, first) ← holding [ov] (getMethod ov m pl)
      callWith pos f first (backTo pos (starEach [] X.env)) (backToKw pos (keywordEach [] X.env))) := by rfl) :
    PE X (.Call (.Attribute o m apos) [] [] pos) (tMeth C m sp dvs E ta tNil) := by
  intro pins s σ H Q I h
  refine PySem.W.methodCall_KW (pl := pl) (thn (he pins s σ H _ I h) fun u s1 ⟨x, H1, I1, rx, a, dx, fs, ex, ea, l, q⟩ => ?_) ht
  subst ex
  obtain rfl : u = Value.ref a := rx
  refine getmeth_ok I1 ea c hm l ?_
  exact PySem.W.callWith_K0 (first := [.ref a]) I1.kIn hm.kp (run_fn (us := [.ref a]) (vs := [.ref a]) F hr hb hd hx I1 (.cons rfl .nil) q)

/-- what a class must have to be made -/
structure Mk (K : PySem.W.Frag) (C f : Addr) : Prop where
  makes : PySem.W.makesIn K C = true
  init : PySem.W.findIn K (.ref C) "__init__" = some (some (.ref f))
  fn : PySem.W.isFn K (.ref f) = true
  kp : PySem.W.keepIn K (.ref C) = true

theorem run_make {pins : List (Addr × Obj)} {σ : St} {H : Hp} {s : Shared} {Q : VK} {us : List Value} {vs : List V} (M : Mk X.K C f) (F : FnOk X.prog X.w X.K X.mg X.base CX k f fd ps sp) (hr : Room (k + 1) X.A) (hb : Binds X.K fd ps ds) (hd : Vals dvs ds)
    (hx : Passes CX X E) (I : Inv X pins σ H s) (r : Vals vs us)
    (h : ∀ x dx, H x = none → H dx = none → dx ≠ x → sp (.ref x :: (vs ++ dvs)) (upd (upd H dx (.own x)) x (.ins C dx [])) (fun v H2 => v = .non ∧ Q (.ref x) H2) E) :
    wpAny (model X.prog X.w) X.A (call (.ref C) us) (EP X pins σ Q) X.xe s := by
  have hq := h (s.heap.objs.size + 1) s.heap.objs.size (I.hok.fresh (Nat.le_succ _)) (I.hok.fresh (Nat.le_refl _)) (Nat.ne_of_lt (Nat.lt_succ_self _))
  have I2 := Inv.made (C := C) I
  have r2 : Vals (V.ref (s.heap.objs.size + 1) :: (vs ++ dvs)) (Value.ref (s.heap.objs.size + 1) :: (us ++ ds)) := .cons rfl (r.append hd)
  have hl : (Value.ref (s.heap.objs.size + 1) :: us ++ ds).length = ps.length := by
    have e := r2.length
    rw [F.len _ _ _ _ hq] at e
    exact e.symm
  refine wpAny_call (make_map (f := f) I.kIn M.makes M.init (beq_iff_eq.mp M.fn) (codeAny_mono (F.run _ X.stack _ _ ⟨Value.ref (s.heap.objs.size + 1) :: us, []⟩ (Value.ref (s.heap.objs.size + 1) :: (us ++ ds)) _ _ E (hr.make C us [])
    (I2.env0.make C us []) (hb _ (Value.ref (s.heap.objs.size + 1) :: us) I2.kIn hl) r2 hq) fun r s' hq' => ?_))
  cases r with
  | error e => exact hx pins σ _ _ e s' I2 hq'
  | ok fl =>
    cases fl with
    | ret u =>
      obtain ⟨v, H', I3, rv, ev, q3⟩ := I2.after hq'
      subst ev
      exact ⟨rv, ⟨V.ref (s.heap.objs.size + 1), H', I3, rfl, q3⟩⟩
    | next => exact False.elim hq'
    | brk => exact False.elim hq'
    | cont => exact False.elim hq'
theorem pe_make (M : Mk X.K C f) (F : FnOk X.prog X.w X.K X.mg X.base CX k f fd ps sp) (hr : Room (k + 1) X.A) (hg : Gl X x) (hm : X.mg x = some (.ref C)) (hb : Binds X.K fd ps ds) (hd : Vals dvs ds) (hx : Passes CX X E)
    (ha : PA X (e :: es) t) (hdb : (x == ("__debug__" : Str)) = false := by decide) (he : starEach (e :: es) X.env = (false, eval e X.env) :: starEach es X.env := by rfl) (hpl : (backTo pos (starEach es X.env)).any (·.1) = false := by rfl) :
    PE X (.Call (.Name x p) (e :: es) [] pos) (tMake C sp dvs E t) := by
  intro pins s σ H Q I h
  refine wpAny_Call_Name_kw (ld_glob I hg hm ?_ hdb)
  refine PySem.W.callWith_K (h₀ := X.base) I.ok.mod.kin M.kp (thn (ha pos pins s σ H _ I h) fun us s1 ⟨vs, H1, I1, r, q⟩ => ⟨I1.kIn, ?_⟩) he hpl
  exact run_make M F hr hb hd hx I1 r q
theorem pe_make0 (M : Mk X.K C f) (F : FnOk X.prog X.w X.K X.mg X.base CX k f fd ps sp) (hr : Room (k + 1) X.A) (hg : Gl X x) (hm : X.mg x = some (.ref C)) (hb : Binds X.K fd ps ds) (hd : Vals dvs ds) (hx : Passes CX X E)
    (hdb : (x == ("__debug__" : Str)) = false := by decide) : PE X (.Call (.Name x p) [] [] pos) (tMake C sp dvs E tNil) := by
  intro pins s σ H Q I h
  refine wpAny_Call_Name_kw (ld_glob I hg hm ?_ hdb)
  exact PySem.W.callWith_K0 I.kIn M.kp (run_make (us := []) M F hr hb hd hx I .nil h)
end

/-! ### keywords -/
/-- the values of the keywords, from the left -/
def PK (X : Cx) (kws : List Keyword) (t : TA) : Prop :=
  ∀ (pos : Pos) (pins : List (Addr × Obj)) (s : Shared) (σ : St) (H : Hp) (Q : List V → Hp → Prop), Inv X pins σ H s → t σ H Q → wpAny (model X.prog X.w) X.A (evalAll ((backToKw pos (keywordEach kws X.env)).map (·.2))) (AP X pins σ Q) X.xe s
section
variable {X : Cx} {CX : CXT} {k : Nat} {f C : Addr} {fd : FuncData} {ps ks : List Str} {sp : Sp} {E : XK} {x m : Str} {p pos apos kpos : Pos} {e o : Expr} {es : List Expr} {kws : List Keyword} {te ta : TE} {t tk : TA} {nm : Option Str}
/-- how a call with keywords binds: g puts the positional values us and the keywords' values ws (names ks) in the parameters' order, defaults among them -/
structure KBinds (K : PySem.W.Frag) (fd : FuncData) (ps ks : List Str) (g : List Value → List Value → List Value) (gV : List V → List V → List V) : Prop where
  to : ∀ (s : Shared) (us ws : List Value), K.In s.heap → (g us ws).length = ps.length → BindsTo s fd ⟨us, ks.zip ws⟩ (ps.zip (g us ws))
  rel : ∀ {vs : List V} {us : List Value} {zs : List V} {ws : List Value}, Vals vs us → Vals zs ws → Vals (gV vs zs) (g us ws)
def tCallK (sp : Sp) (gV : List V → List V → List V) (E : XK) (t tk : TA) : TE := fun σ H Q => t σ H fun vs H1 => tk σ H1 fun zs H2 => sp (gV vs zs) H2 Q E
variable {g : List Value → List Value → List Value} {gV : List V → List V → List V}
end

/-! ### a def's body keeps its promise -/
/-- names: the parameters first -/
structure FnScope (N P : List Str) (sc : Scope) : Prop where
  kind : sc.kind = .function
  co : sc.isCoroutine = false
  gen : sc.isGenerator = false
  nd : N.Nodup
  pre : N.take P.length = P
  par : ∀ x ∈ P, sc.names.lookup x = some .local ∨ sc.names.lookup x = some .cell
  nofree : ∀ y ∈ sc.names, y.2 ≠ .free

theorem bindL_out {kindOf : Str → Option NameKind} {x : Str} : ∀ {binds : List (Str × Value)} {m : Str → Option Value}, (∀ v, (x, v) ∉ binds) → bindL kindOf binds m x = m x
  | [], _, _ => rfl
  | (n, v) :: r, m, h => by
    unfold bindL
    rw [bindL_out fun w hw => h w (List.mem_cons_of_mem _ hw)]
    split
    · have : x ≠ n := by rintro rfl; exact h v List.mem_cons_self
      simp [this]
    · rfl
theorem bindC_out {kindOf : Str → Option NameKind} {x : Str} : ∀ {binds : List (Str × Value)} {m : Str → Option Value}, (∀ v, (x, v) ∉ binds) → bindC kindOf binds m x = m x
  | [], _, _ => rfl
  | (n, v) :: r, m, h => by
    unfold bindC
    rw [bindC_out fun w hw => h w (List.mem_cons_of_mem _ hw)]
    split
    · rfl
    · have : x ≠ n := by rintro rfl; exact h v List.mem_cons_self
      simp [this]
theorem bindL_get {kindOf : Str → Option NameKind} {x : Str} {v : Value} : ∀ {P : List Str} {vs : List Value} {i : Nat} {m : Str → Option Value}, P.Nodup → P[i]? = some x → vs[i]? = some v → kindOf x = some .local →
    bindL kindOf (P.zip vs) m x = some v
  | [], _, _, _, _, h, _, _ => by simp at h
  | _ :: _, [], _, _, _, _, h, _ => by simp at h
  | p :: P, w :: vs, 0, m, nd, h1, h2, hk => by
    simp at h1 h2; subst h1; subst h2
    show bindL kindOf ((p, w) :: P.zip vs) m p = _
    unfold bindL
    rw [bindL_out fun v hv => (List.nodup_cons.mp nd).1 (List.of_mem_zip hv).1, if_pos hk]
    simp
  | p :: P, w :: vs, i + 1, m, nd, h1, h2, hk => by
    show bindL kindOf ((p, w) :: P.zip vs) m x = _
    unfold bindL
    exact bindL_get (i := i) (List.nodup_cons.mp nd).2 (by simpa using h1) (by simpa using h2) hk
theorem bindC_get {kindOf : Str → Option NameKind} {x : Str} {v : Value} : ∀ {P : List Str} {vs : List Value} {i : Nat} {m : Str → Option Value}, P.Nodup → P[i]? = some x → vs[i]? = some v → kindOf x ≠ some .local →
    bindC kindOf (P.zip vs) m x = some v
  | [], _, _, _, _, h, _, _ => by simp at h
  | _ :: _, [], _, _, _, _, h, _ => by simp at h
  | p :: P, w :: vs, 0, m, nd, h1, h2, hk => by
    simp at h1 h2; subst h1; subst h2
    show bindC kindOf ((p, w) :: P.zip vs) m p = _
    unfold bindC
    rw [bindC_out fun v hv => (List.nodup_cons.mp nd).1 (List.of_mem_zip hv).1, if_neg hk]
    simp
  | p :: P, w :: vs, i + 1, m, nd, h1, h2, hk => by
    show bindC kindOf ((p, w) :: P.zip vs) m x = _
    unfold bindC
    exact bindC_get (i := i) (List.nodup_cons.mp nd).2 (by simpa using h1) (by simpa using h2) hk

/-- the names' values at the entry -/
def start (N : List Str) (vs : List V) : St := vs.map some ++ List.replicate (N.length - vs.length) none

/-- the context of a def's body, at its entry; an exception leaves the frame, then lies as CX says -/
def cxOf (CX : CXT) (P : Program) (w : World) (K : PySem.W.Frag) (mg : Str → Option Value) (base : Heap) (N : List Str) (qual : Str) (scope : Scope) (f : Addr) (cd : Value) (A : Around) (outer : List Env) (s : Shared) (H : Hp) (E : XK) : Cx where
  prog := P
  w := w
  K := K
  mg := mg
  base := base
  A := A.deeper (envOfC qual scope s.heap.objs.size f cd)
  N := N
  s_0 := s
  H_0 := H
  env := envOfC qual scope s.heap.objs.size f cd
  outer := outer
  stack := envOfC qual scope s.heap.objs.size f cd :: outer
  ex := []
  calm := true
  fn := fun _ => true
  pn := []
  xe := fun e s' => wpAny (model P w) (A.deeper (envOfC qual scope s.heap.objs.size f cd)) (leaving (envOfC qual scope s.heap.objs.size f cd) e) (fun _ s'' => CX outer H s E e s'') (fun e' s'' => CX outer H s E e' s'') s'

theorem cell_has {sc : Scope} {n : Nat} {x : Str} (h : sc.names.lookup x = some .cell) : ∃ c, (cellsFrom n sc.names []).lookup x = some c := by
  have q := PySem.W.cellsFrom_some sc.names n [] (.inl h)
  exact Option.isSome_iff_exists.mp q

theorem inv_start {CX : CXT} {P : Program} {w : World} {K : PySem.W.Frag} {mg : Str → Option Value} {base : Heap} {N ps : List Str} {qual : Str} {scope : Scope} {f : Addr} {cd : Value} {A : Around} {outer : List Env} {s s1 : Shared} {H : Hp} {E : XK} {us : List Value} {vs : List V}
    (S : FnScope N ps scope) (hd : A.handled = none) (e0 : Env0 P w K mg base A outer s H) (hl : vs.length = ps.length) (r : Vals vs us)
    (x : InCallC s s.heap.objs.size (bindL (envOfC qual scope s.heap.objs.size f cd).kindOf (ps.zip us) fun _ => none) (cellsFrom (s.heap.objs.size + 1) scope.names []) (bindC (envOfC qual scope s.heap.objs.size f cd).kindOf (ps.zip us) fun _ => none) s1) :
    Inv (cxOf CX P w K mg base N qual scope f cd A outer s H E) [] (start N vs) H s1 := by
  have hpl : ps.length ≤ N.length := by have := congrArg List.length S.pre; rw [List.length_take] at this; omega
  obtain ⟨h1, tk, rfl, hk⟩ := x.done
  have noA : ∀ b : Addr, b ∉ (cxOf CX P w K mg base N qual scope f cd A outer s H E).ex := fun b z => absurd (show b ∈ ([] : List Addr) from z) (by simp)
  refine ⟨⟨e0.mod, S.kind, rfl, rfl, Nat.le_refl _, fun y z c h1 h2 => ?_, fun y hy => ?_, fun y c _ h => ?_, fun _ => hd, Around.frames_deeper e0.frames, .inr ⟨rfl, rfl⟩, fun b z => absurd z (noA b), e0.bs, e0.bsz, fun b _ _ => noA b, fun b z => absurd z (noA b), e0.funs, e0.frf⟩,
    rfl, e0.bare, Un.kept hk, ⟨_, x.toInCall.ns, fun i y v h1 h2 h3 => ?_⟩, fun y c h => ⟨_, x.cell y c h⟩, e0.hok.fresh (Nat.le_refl _), fun y c h => ?_, fun p hp => absurd (show p ∈ ([] : List (Addr × Obj)) from hp) (by simp), e0.hok.kept hk, ?_⟩
  · exact name_of_addr x.apart (PySem.mem_of_lookup h1) (PySem.mem_of_lookup h2)
  · have hy : scope.names.lookup y = some .cell ∨ scope.names.lookup y = some .free := hy
    rcases hy with hy | hy
    · exact cell_has hy
    · exact absurd rfl (S.nofree _ (PySem.mem_of_lookup hy))
  · exact Nat.le_of_lt (x.above y c (PySem.mem_of_lookup h))
  · have hi : i < vs.length := by
      unfold start at h2
      by_cases hi : i < vs.length
      · exact hi
      · rw [List.getElem?_append_right (by simpa using hi)] at h2
        rw [List.getElem?_replicate] at h2
        split at h2 <;> cases h2
    have ha : vs[i]? = some v := by
      unfold start at h2
      rw [List.getElem?_append_left (by simpa using hi), List.getElem?_map] at h2
      cases e : vs[i]? with
      | none => rw [e] at h2; cases h2
      | some a => rw [e] at h2; cases h2; rfl
    obtain ⟨u, hu, rv⟩ := r.get ha
    have hp : ps[i]? = some y := by
      rw [← S.pre, List.getElem?_take_of_lt (by omega)]; exact h1
    have ndP : ps.Nodup := by rw [← S.pre]; exact S.nd.sublist (List.take_sublist _ _)
    refine ⟨u, rv, ?_⟩
    rcases S.par y (List.mem_of_getElem? hp) with k | k
    · exact .inl ⟨k, bindL_get ndP hp hu k⟩
    · obtain ⟨c, e⟩ := cell_has (n := s.heap.objs.size + 1) k
      refine .inr ⟨.inl k, c, e, ?_⟩
      have q := x.cell y c e
      rw [bindC_get ndP hp hu (by show scope.names.lookup y ≠ _; rw [k]; decide)] at q
      exact q
  · exact e0.hok.fresh (Nat.le_of_lt (x.above y c (PySem.mem_of_lookup h)))
  · unfold start
    show _ = N.length
    rw [List.length_append, List.length_map, List.length_replicate]
    omega

/-- THE RULE: a def (or a method) of the text, by its body. The body's reading t is chosen for each entry; it is run at the parameters' values -/
theorem fn_of {CX : CXT} {P : Program} {w : World} {K : PySem.W.Frag} {mg : Str → Option Value} {base : Heap} {k : Nat} {f : Addr} {name qual : Str} {params : Arguments} {body : List Stmt} {scope : Scope} {dV kV doc pm cdv ct oc : Value} {an od : Option Addr}
    {osl : Array (Option Value)} {N ps : List Str} {sp : Sp} (lk : K.lookup f = some ⟨oc, od, .func (PySem.W.fnOf name qual params body scope dV kV doc pm an cdv ct), osl⟩) (hcd : PySem.W.codeIn K cdv qual = true) (S : FnScope N ps scope)
    (len : ∀ vs H Q E, sp vs H Q E → vs.length = ps.length)
    (hbody : ∀ (A : Around) (outer : List Env) (s : Shared) (H : Hp) (vs : List V) (Q : VK) (E : XK), Room k (A.deeper (envOfC qual scope s.heap.objs.size f cdv)) → sp vs H Q E →
      ∃ t, PSs (cxOf CX P w K mg base N qual scope f cdv A outer s H E) body t ∧ t { nx := fun _ H' => Q .non H', rt := Q } (start N vs) H) :
    FnOk P w K mg base CX (k + 1) f (PySem.W.fnOf name qual params body scope dV kV doc pm an cdv ct) ps sp := by
  refine ⟨len, fun A outer s H args us vs Q E hr e0 hb r hsp => ?_⟩
  have hl := len _ _ _ _ hsp
  have KX : K.In s.heap := e0.mod.kin.keeps fun b o e => (e0.bs b o e).1
  have lim : s.heap.NoLimit := e0.mod.nolimit.keeps fun b o e => (e0.bs b o e).1
  have hkind : ∀ y ∈ ps.zip us, scope.names.lookup y.1 = some .local ∨ (scope.names.lookup y.1 = some .cell ∧ ((cellsFrom (s.heap.objs.size + 1) scope.names []).lookup y.1).isSome = true) := fun ⟨n, v⟩ hy => by
    rcases S.par n (List.of_mem_zip hy).1 with q | q
    · exact .inl q
    · exact .inr ⟨q, PySem.W.cellsFrom_some _ _ _ (.inl q)⟩
  refine codeAny_call_function hr.depth (KX _ _ lk) rfl S.co S.gen rfl (PySem.W.codeRec_of KX hcd) (hb _ _ _ _ ?_)
  refine wpAny_newFunctionEnv_cells S.kind hkind fun env he s1 x => ?_
  subst he
  refine ⟨lim.keeps x.toInCall.keep, codeAny_func ?_⟩
  obtain ⟨t, ht, hq⟩ := hbody A outer s H vs Q E (hr.deeper _) hsp
  have I : Inv (cxOf CX P w K mg base N qual scope f cdv A outer s H E) [] (start N vs) H s1 := inv_start S hr.hd e0 hl r x
  refine wpAny_mono (ht [] s1 (start N vs) H _ I hq) (fun fl s' hs => ?_) fun e s' hs => hs
  have fin : ∀ {σ' : St} {H' : Hp} {v : V} {u : Value}, Inv (cxOf CX P w K mg base N qual scope f cdv A outer s H E) [] σ' H' s' → RelV v u → Q v H' → CE outer P w H s Q u s' :=
    fun {σ' H' v u} J rv q => ⟨v, H', J.os, J.bare, J.base, J.hok, rv, q⟩
  cases fl with
  | ret u =>
    obtain ⟨v, σ', H', J, rv, q⟩ := hs
    exact fin J rv q
  | next =>
    obtain ⟨σ', H', J, q⟩ := hs
    exact fin (v := V.non) (u := Value.none) J rfl q
  | brk =>
    obtain ⟨_, _, _, q⟩ := hs
    exact False.elim q
  | cont =>
    obtain ⟨_, _, _, q⟩ := hs
    exact False.elim q
end L2

namespace L2
open PySem PySem.Spec PyProof.Rows
section
variable {X : Cx} {x : Str} {p pos : Pos} {e : Expr} {es : List Expr} {t : TA} {id T : String} {r : List V → Hp → VK → Prop}

def tCB (r : List V → Hp → VK → Prop) (t : TA) : TE := fun σ H Q => t σ H fun vs H1 => r vs H1 Q
/-- f(e, ..), f a built-in function -/
theorem pe_callB (hc : CallR X (.builtin id) r) (hg : Gl X x) (hm : X.mg x = none) (hv : bootBuiltins x = some (.builtin id)) (ha : PA X (e :: es) t) (hn : x ≠ "__name__" := by decide) (hdb : (x == ("__debug__" : Str)) = false := by decide)
    (he : starEach (e :: es) X.env = (false, eval e X.env) :: starEach es X.env := by rfl) (hpl : (backTo pos (starEach es X.env)).any (·.1) = false := by rfl) : PE X (.Call (.Name x p) (e :: es) [] pos) (tCB r t) := by
  intro pins s σ H Q I h
  refine wpAny_Call_Name_kw (ld_blt I hg hm hv ?_ hn hdb)
  exact PyProof.Rows.callWith_builtin1 (thn (ha pos pins s σ H _ I h) fun us s1 ⟨vs, H1, I1, r1, q1⟩ => hc pins s1 σ H1 vs us Q I1 r1 q1) he hpl
/-- T(e, ..), T a built-in type -/
theorem pe_callTy (hc : CallR X (.type T) r) (hg : Gl X x) (hm : X.mg x = none) (hv : bootBuiltins x = some (.type T)) (ha : PA X (e :: es) t) (hn : x ≠ "__name__" := by decide) (hdb : (x == ("__debug__" : Str)) = false := by decide)
    (he : starEach (e :: es) X.env = (false, eval e X.env) :: starEach es X.env := by rfl) (hpl : (backTo pos (starEach es X.env)).any (·.1) = false := by rfl) : PE X (.Call (.Name x p) (e :: es) [] pos) (tCB r t) := by
  intro pins s σ H Q I h
  refine wpAny_Call_Name_kw (ld_blt I hg hm hv ?_ hn hdb)
  exact PyProof.Rows.callWith_type1 (thn (ha pos pins s σ H _ I h) fun us s1 ⟨vs, H1, I1, r1, q1⟩ => hc pins s1 σ H1 vs us Q I1 r1 q1) he hpl
end
end L2

namespace HT
open PySem PyProof.Rows

/-- t < u of tuples of ints -/
def lexLt : List Int → List Int → Bool
  | [], [] => false
  | [], _ :: _ => true
  | _ :: _, [] => false
  | x :: xs, y :: ys => if x = y then lexLt xs ys else decide (x < y)
section
open PySem.SeqAt
open PySem.AutoSeq1 (wpAny_loadPart')
open PySem.MeetsSeq PySem.MeetsSeq2 PySem.MeetsSeq3

end

section
variable {prog : Program} {w : World} {A : Around} {E : Value → Shared → Prop} {s : Shared}

/-! ### t[a:b], not the whole -/
/-- a slice's bound as a place among n (d where it is left out) -/
def sIx (n d : Nat) : Option Int → Nat
  | none => d
  | some v => if v < 0 then (v + (n : Int)).toNat else min v.toNat n
theorem sIx_nat (n d k : Nat) : sIx n d (some (k : Int)) = min k n := by
  show (if (k : Int) < 0 then ((k : Int) + (n : Int)).toNat else min (k : Int).toNat n) = min k n
  rw [if_neg (by omega), Int.toNat_natCast]
end
end HT

namespace L2
open PySem PySem.Spec PyProof.Rows

/-! ### the parts of a slice -/
abbrev TO := St → Hp → (Option Int → Hp → Prop) → Prop
/-- a slice's part (left out, or an int) -/
def PO (X : Cx) (e : Option Expr) (t : TO) : Prop :=
  ∀ (pins : List (Addr × Obj)) (s : Shared) (σ : St) (H : Hp) (Q : Option Int → Hp → Prop), Inv X pins σ H s → t σ H Q →
    wpAny (model X.prog X.w) X.A (evalPart e X.env) (fun u s' => ∃ o H', Inv X pins σ H' s' ∧ IsPart u o ∧ Q o H') X.xe s
def tNoPart : TO := fun _ H Q => Q none H
def tPart (t : TE) : TO := fun σ H Q => t σ H fun x H1 => ∃ i, x = .int i ∧ Q (some i) H1

section
variable {X : Cx} {e : Expr} {te : TE} {lo hi : Option Expr} {tl th : TO} {pos p2 : Pos}

theorem po_none : PO X none tNoPart := by
  intro pins s σ H Q I h
  rw [evalPart_none]
  exact wpAny_pure ⟨none, H, I, .none, h⟩
theorem po_some (h : PE X e te) : PO X (some e) (tPart te) := by
  intro pins s σ H Q I hw
  rw [evalPart_some]
  refine thn (h pins s σ H _ I hw) fun u s1 ⟨x, H1, I1, r1, q1⟩ => ?_
  obtain ⟨i, rfl, q⟩ := q1
  obtain ⟨t, rfl⟩ := r1
  exact ⟨some i, H1, I1, .int i t, q⟩

/-- what a slice of a value is, by values: the slice object stands at sl -/
def SlR (X : Cx) (r : V → Option Int → Option Int → Hp → VK → Prop) : Prop :=
  ∀ (pins : List (Addr × Obj)) (s : Shared) (σ : St) (H : Hp) (x : V) (v vl vu : Value) (lo hi : Option Int) (sl : Addr) (Q : VK), Inv X pins σ H s → RelV x v → s.heap.IsSliceOf sl vl vu .none → IsPart vl lo → IsPart vu hi → r x lo hi H Q →
    ∃ T id, typeLookup (.type T) "__getitem__" = pure (some (.builtin id)) ∧ s.TypeIs v T ∧ wpAny (model X.prog X.w) X.A (getItem v (.ref sl)) (EP X pins σ Q) X.xe s
def tSl (r : V → Option Int → Option Int → Hp → VK → Prop) (te : TE) (tl th : TO) : TE := fun σ H Q => te σ H fun x H1 => tl σ H1 fun l H2 => th σ H2 fun u H3 => r x l u H3 Q
/-- a[lo:hi], any a -/
theorem pe_slice {r : V → Option Int → Option Int → Hp → VK → Prop} (hr : SlR X r) (he : PE X e te) (hl : PO X lo tl) (hu : PO X hi th) : PE X (.Subscript e (.Slice lo hi none p2) pos) (tSl r te tl th) := by
  intro pins s σ H Q I h
  refine Subscript_ (thn (he pins s σ H _ I h) fun v s1 ⟨x, H1, I1, r1, q1⟩ => ?_)
  refine wpAny_Slice (thn (hl pins s1 σ H1 _ I1 q1) fun vl s2 ⟨l, H2, I2, pl, q2⟩ => thn (hu pins s2 σ H2 _ I2 q2) fun vu s3 ⟨u, H3, I3, pu, q3⟩ => ?_)
  rw [evalPart_none]
  refine wpAny_pure ?_
  have I4 : Inv X pins σ H3 { s3 with heap := s3.heap.push { cls := .type "slice", data := .fields #[vl, vu, .none] } } := I3.kept (t' := s3.toks) fun b ob q => Heap.get?_push_of_some _ q
  obtain ⟨T, id, hT, ht, hg⟩ := hr pins { s3 with heap := s3.heap.push { cls := .type "slice", data := .fields #[vl, vu, .none] } } σ H3 x v vl vu l u s3.heap.objs.size Q I4 r1 (Heap.IsSliceOf.new ..) pl pu q3
  show wpAny (model X.prog X.w) X.A (subscriptTail e (.Slice lo hi none p2) v (.ref s3.heap.objs.size)) (EP X pins σ Q) X.xe { s3 with heap := s3.heap.push { cls := .type "slice", data := .fields #[vl, vu, .none] } }
  exact tail_any (ops := [.ref s3.heap.objs.size, v]) ht hT hg (by with_unfolding_all rfl)

/-- the items of xs[lo:hi] -/
def cutV (xs : List V) (lo hi : Option Int) : List V := (xs.drop (HT.sIx xs.length 0 lo)).take (HT.sIx xs.length xs.length hi - HT.sIx xs.length 0 lo)
theorem cutV_length (xs : List V) (lo hi : Option Int) : (cutV xs lo hi).length ≤ xs.length := by
  unfold cutV
  rw [List.length_take, List.length_drop]
  omega
/-- t[lo:hi], not the whole of it (the whole would be t itself) -/
def rSlT (K : PySem.W.Frag) : V → Option Int → Option Int → Hp → VK → Prop := fun x lo hi H Q => ∃ a xs, x = .ref a ∧ SqT K H a xs ∧
  ¬ (HT.sIx xs.length 0 lo = 0 ∧ HT.sIx xs.length xs.length hi = xs.length) ∧ ∀ p, H p = none → Q (.ref p) (upd H p (.tup (cutV xs lo hi)))
/-! ### t < u, t + u -/
def rLtT (K : PySem.W.Frag) : R2 := fun x y H Q => ∃ a b ns ms, x = .ref a ∧ y = .ref b ∧ SqT K H a (ns.map V.int) ∧ SqT K H b (ms.map V.int) ∧ Q (.bl (HT.lexLt ns ms)) H
/-- t + u, t not empty: u empty gives t itself -/
def rCatT (K : PySem.W.Frag) : R2 := fun x y H Q => ∃ a b xs ys, x = .ref a ∧ y = .ref b ∧ SqT K H a xs ∧ SqT K H b ys ∧ xs ≠ [] ∧ xs.length + ys.length ≤ sizeLine ∧
  (ys = [] → Q (.ref a) H) ∧ (ys ≠ [] → ∀ p, H p = none → Q (.ref p) (upd H p (.tup (xs ++ ys))))
end
end L2

namespace L2
open PySem PySem.Spec PyProof.Rows

/-! ### places -/
/-- the place that an index of any sign means -/
def ixN (n : Nat) (i : Int) : Option Nat := if 0 ≤ i then (if i < n then some i.toNat else none) else if -(n : Int) ≤ i then some (i + n).toNat else none
def atI {α : Type} (xs : List α) (i : Int) : Option α := (ixN xs.length i).bind fun j => xs[j]?
theorem ixN_seq {n : Nat} {i : Int} {j : Nat} (h : ixN n i = some j) : seqIndex? i n = some j ∧ j < n ∧ -(n : Int) ≤ i ∧ i < n := by
  unfold ixN at h
  by_cases h0 : 0 ≤ i
  · rw [if_pos h0] at h
    by_cases h1 : i < n
    · rw [if_pos h1] at h
      have e : i.toNat = j := Option.some.inj h
      exact ⟨by rw [seqIndex_of h0 h1, e], by omega, by omega, h1⟩
    · rw [if_neg h1] at h; cases h
  · rw [if_neg h0] at h
    by_cases h1 : -(n : Int) ≤ i
    · rw [if_pos h1] at h
      have e : (i + n).toNat = j := Option.some.inj h
      exact ⟨by rw [seqIndex_neg (by omega) h1, e], by omega, h1, by omega⟩
    · rw [if_neg h1] at h; cases h
theorem atI_get {α : Type} {xs : List α} {i : Int} {v : α} (h : atI xs i = some v) : ∃ j, seqIndex? i xs.length = some j ∧ xs[j]? = some v ∧ j < xs.length ∧ -(xs.length : Int) ≤ i ∧ i < xs.length := by
  unfold atI at h
  cases e : ixN xs.length i with
  | none => rw [e] at h; cases h
  | some j =>
    rw [e] at h
    obtain ⟨h1, h2, h3, h4⟩ := ixN_seq e
    exact ⟨j, h1, h, h2, h3, h4⟩
theorem atI_nat {α : Type} {xs : List α} {j : Nat} {v : α} (h : xs[j]? = some v) : atI xs (j : Int) = some v := by
  have hj : j < xs.length := (List.getElem?_eq_some_iff.mp h).1
  have e : ixN xs.length (j : Int) = some j := by
    unfold ixN
    rw [if_pos (by omega), if_pos (by omega)]; simp
  unfold atI; rw [e]; exact h
/-! ### what may be subscripted -/
/-- what stands as an index of a plain subscript -/
def PlainIx (b : Expr) : Prop := ∀ o i, subscripted b false o i = operate [o, i] (getItem o i)
/-- a subscript by values -/
def IxR (X : Cx) (r : R2) : Prop :=
  ∀ (value slice : Expr) (pins : List (Addr × Obj)) (s : Shared) (σ : St) (H : Hp) (x y : V) (v u : Value) (Q : VK), Inv X pins σ H s → RelV x v → RelV y u → r x y H Q →
    subscripted slice false v u = operate [v, u] (getItem v u) → wpAny (model X.prog X.w) X.A (subscriptTail value slice v u) (EP X pins σ Q) X.xe s
/-- a call of a builtin's method by values: the receiver, the arguments -/
def MtR (X : Cx) (id : String) (r : V → List V → Hp → VK → Prop) : Prop :=
  ∀ (pins : List (Addr × Obj)) (s : Shared) (σ : St) (H : Hp) (x : V) (xs : List V) (v : Value) (us : List Value) (Q : VK), Inv X pins σ H s → RelV x v → Vals xs us → r x xs H Q →
    wpAny (model X.prog X.w) X.A (call (.builtin id) (v :: us)) (EP X pins σ Q) X.xe s
section
variable {X : Cx} {a b : Expr} {ta tb : TE} {pos : Pos}
/-- a[b] -/
theorem pe_ix {r : R2} (hr : IxR X r) (ha : PE X a ta) (hb : PE X b tb) (hs : PlainIx b) : PE X (.Subscript a b pos) (tOp r ta tb) := by
  intro pins s σ H Q I h
  exact Subscript_ (binT ha hb I h fun v u s2 x y H2 I2 rx ry q => hr a b pins s2 σ H2 x y v u Q I2 rx ry q (hs _ _))

def rIxL (K : PySem.W.Frag) : R2 := fun x y H Q => ∃ p xs i v, x = .ref p ∧ y = .int i ∧ SqL K H p xs ∧ atI xs i = some v ∧ Q v H
def rIxT (K : PySem.W.Frag) : R2 := fun x y H Q => ∃ p xs i v, x = .ref p ∧ y = .int i ∧ SqT K H p xs ∧ atI xs i = some v ∧ Q v H
def rIxS : R2 := fun x y H Q => ∃ z i c, x = .str z ∧ y = .int i ∧ z.length ≤ sizeLine ∧ atI z.cps.toList i = some c ∧ Q (.str ⟨#[c]⟩) H
theorem ix_list : IxR X (rIxL X.K) := by
  intro value slice pins s σ H x y v u Q I rx ry h hs
  obtain ⟨p, xs, i, z, rfl, rfl, hq, he, q⟩ := h
  cases rx
  obtain ⟨t, rfl⟩ := ry
  obtain ⟨its, r, pl, hz⟩ := I.list hq
  obtain ⟨j, h1, h2, h3, h4, h5⟩ := atI_get he
  obtain ⟨w, ew, rw'⟩ := r.get h2
  have hl := r.length
  have hn := line63
  have fin : EP X pins σ Q w s := ⟨z, H, I, rw', q⟩
  by_cases h0 : 0 ≤ i
  · have hj : i.toNat = j := by
      rw [seqIndex_of h0 h5] at h1
      exact Option.some.inj h1
    exact item_listR pl.isList h0 (by omega) (by rw [hj]; simpa using ew) fin hs
  · have hj : (i + (its.toArray.size : Int)).toNat = j := by
      rw [seqIndex_neg (by omega) h4] at h1
      rw [List.size_toArray, ← hl]
      exact Option.some.inj h1
    exact subscriptTail_builtinR (x := w) pl.isList.typeIs slot_list_getitem.lookup
      (wpAny_getItem_list_neg (Q := fun r s' => r = w ∧ EP X pins σ Q r s') pl.isList (by omega) (by rw [List.size_toArray] <;> omega) (by omega) (by rw [hj]; simpa using ew) ⟨rfl, fin⟩) hs
/-- list, tuple or str -/
def rIx (K : PySem.W.Frag) : R2 := fun x y H Q => rIxL K x y H Q ∨ rIxT K x y H Q ∨ rIxS x y H Q
/-! ### xs[i] = v, any sign -/
/-- the list's object behind a store -/
theorem mapSeq_set (its : List Value) (n j : Nat) (u : Value) : Obj.mapSeq (·.setIfInBounds j u) { cls := .type "list", data := .seq its.toArray n } = { cls := .type "list", data := .seq (its.set j u).toArray n } := by
  simp [Obj.mapSeq]
theorem Inv.lst {pins : List (Addr × Obj)} {σ : St} {H : Hp} {s : Shared} {p : Addr} {xs : List V} (I : Inv X pins σ H s) (h : H p = some (.lst xs)) :
    ∃ (its : List Value) (n : Nat), Vals xs its ∧ s.heap.get? p = some { cls := .type "list", data := .seq its.toArray n } ∧ xs.length ≤ sizeLine := by
  obtain ⟨z, its, n, r, e⟩ := I.hok p _ h
  exact ⟨its, n, r, e, z⟩
/-- the list at p is written by an update of its object -/
theorem Inv.lstUpd {pins : List (Addr × Obj)} {σ : St} {H : Hp} {s : Shared} {p : Addr} {xs ys : List V} {its its' : List Value} {n n' : Nat} {f : Obj → Obj} (I : Inv X pins σ H s) (h : H p = some (.lst xs))
    (ho : s.heap.get? p = some { cls := .type "list", data := .seq its.toArray n }) (hf : f { cls := .type "list", data := .seq its.toArray n } = { cls := .type "list", data := .seq its'.toArray n' }) (r : Vals ys its') (hz : ys.length ≤ sizeLine) (t : Nat) :
    Inv X pins σ (upd H p (.lst ys)) { s with heap := s.heap.update p f, toks := t } := by
  have e : (s.heap.update p f).get? p = some { cls := .type "list", data := .seq its'.toArray n' } := by
    rw [Heap.get?_update_self f ho (by rw [hf] <;> rfl), hf]
  refine I.write (x := p) (e := p) (by rw [h]; trivial) (.inl rfl) (fun b u hb q => (Heap.get?_update_other _ _ (Ne.symm hb)).trans q) ⟨_, e⟩ ?_
  exact ⟨hz, its', n', r, e⟩
def rSetL : V → V → V → Hp → (Hp → Prop) → Prop := fun o i v H Q => ∃ p xs k j, o = .ref p ∧ i = .int k ∧ H p = some (.lst xs) ∧ ixN xs.length k = some j ∧ Q (upd H p (.lst (xs.set j v)))
theorem set_list : PSet X rSetL := by
  intro pins s σ H o i v ov iv u Q I ro ri rv h
  obtain ⟨p, xs, k, j, rfl, rfl, hp, hj, q⟩ := h
  cases ro
  obtain ⟨t, rfl⟩ := ri
  obtain ⟨its, n, r, ho, hz⟩ := I.lst hp
  obtain ⟨h1, h2, h3, h4⟩ := ixN_seq hj
  have hl := r.length
  have hn := line63
  have I' : Inv X pins σ (upd H p (.lst (xs.set j v))) { s with heap := s.heap.update p (Obj.mapSeq (·.setIfInBounds j u)) } :=
    I.lstUpd hp ho (mapSeq_set its n j u) (r.set rv j) (by rw [List.length_set]; exact hz) s.toks
  by_cases h0 : 0 ≤ k
  · have hk : k.toNat = j := by
      rw [seqIndex_of h0 h4] at h1
      exact Option.some.inj h1
    exact PySem.W.ki_setAt ho h0 (by omega) (by rw [List.size_toArray, ← hl]; exact h4) (by rw [hk]; exact ⟨_, I', q⟩)
  · have hk : (k + (its.toArray.size : Int)).toNat = j := by
      rw [seqIndex_neg (by omega) h3] at h1
      rw [List.size_toArray, ← hl]
      exact Option.some.inj h1
    exact PySem.W.ki_setBack ho (by omega) (by rw [List.size_toArray, ← hl]; exact h3) (by omega) (by rw [hk]; exact ⟨_, I', q⟩)

/-! ### slices -/
theorem slice_bounds (lo hi : Option Int) (n : Nat) : (sliceBounds lo hi none n).1 = ((HT.sIx n 0 lo : Nat) : Int) ∧ (sliceBounds lo hi none n).2.1 = ((HT.sIx n n hi : Nat) : Int) ∧ (sliceBounds lo hi none n).2.2 = 1 := by
  refine ⟨?_, ?_, rfl⟩
  · cases lo with
    | none => simp [sliceBounds, HT.sIx]
    | some i =>
      simp only [sliceBounds, HT.sIx, Option.getD_none, show (1 : Int) > 0 by decide, if_true]
      by_cases h : i < 0
      · simp only [h, if_true] <;> omega
      · simp only [h, if_false] <;> omega
  · cases hi with
    | none => simp [sliceBounds, HT.sIx]
    | some i =>
      simp only [sliceBounds, HT.sIx, Option.getD_none, show (1 : Int) > 0 by decide, if_true]
      by_cases h : i < 0
      · simp only [h, if_true] <;> omega
      · simp only [h, if_false] <;> omega
theorem slicePick_cut (its : List Value) (lo hi : Option Int) : slicePick its.toArray lo hi none = ((its.drop (HT.sIx its.length 0 lo)).take (HT.sIx its.length its.length hi - HT.sIx its.length 0 lo)).toArray := by
  obtain ⟨h1, h2, h3⟩ := slice_bounds lo hi its.toArray.size
  unfold slicePick
  rw [h1, h2, h3]
  simp only [sliceRange_one, pick_run, List.size_toArray] <;> rfl
/-- xs[lo:hi] of a list: a new list -/
def rSlL (K : PySem.W.Frag) : V → Option Int → Option Int → Hp → VK → Prop := fun x lo hi H Q => ∃ a xs, x = .ref a ∧ SqL K H a xs ∧ ∀ p, H p = none → Q (.ref p) (upd H p (.lst (cutV xs lo hi)))
theorem sl_list : SlR X (rSlL X.K) := by
  intro pins s σ H x v vl vu lo hi sl Q I rx hs pl pu h
  obtain ⟨a, xs, rfl, hx, q⟩ := h
  cases rx
  obtain ⟨its, r, ht, hz⟩ := I.list hx
  have hlen := r.length
  refine ⟨"list", _, slot_list_getitem.lookup, ht.isList.typeIs, ?_⟩
  refine wpAny_getItem_list_slice ht.isList hs pl pu .none (by simp) ?_ (by rw [List.size_toArray] <;> omega)
  rw [slicePick_cut, ← hlen]
  refine ⟨.ref s.heap.objs.size, _, I.laid (t' := s.toks) (o := .lst (cutV xs lo hi)) (fun b ob q => Heap.get?_push_of_some _ q) (Nat.le_refl _) ?_, rfl, q _ (I.hok.fresh (Nat.le_refl _))⟩
  exact ⟨Nat.le_trans (cutV_length xs lo hi) hz, _, 0, (r.drop (HT.sIx xs.length 0 lo)).take (HT.sIx xs.length xs.length hi - HT.sIx xs.length 0 lo), Heap.get?_push_size _ rfl⟩

/-! ### in, not in: flat items -/
def flatV : V → Bool
  | .non => true
  | .bl _ => true
  | .int _ => true
  | .str _ => true
  | _ => false
/-- == of flat values -/
def eqV : V → V → Bool
  | .non, .non => true
  | .bl a, .bl b => a == b
  | .bl a, .int b => (if a then 1 else 0) == b
  | .int a, .bl b => a == (if b then 1 else 0)
  | .int a, .int b => a == b
  | .str a, .str b => a == b
  | _, _ => false
/-- the items' answers, read off the values (a value's own answer does not lean on its token) -/
def eqU (x : V) (u : Value) : Bool := match u with
  | .none => eqV .non x
  | .bool b => eqV (.bl b) x
  | .int i _ => eqV (.int i) x
  | .str z _ => eqV (.str z) x
  | _ => false
def inV (x : V) (xs : List V) : Bool := xs.any fun y => eqV y x
/-- x in a list or tuple of flat items -/
def rIn (K : PySem.W.Frag) (neg : Bool) : R2 := fun x y H Q => ∃ p xs, y = .ref p ∧ (SqL K H p xs ∨ SqT K H p xs) ∧ flatV x = true ∧ xs.all flatV = true ∧ Q (.bl (if neg then !inV x xs else inV x xs)) H
/-! ### len, list(x), tuple(x) of any list or tuple that is read -/
theorem call_len_seq : CallR X (.builtin "len") (fun xs H Q => ∃ p ys, xs = [.ref p] ∧ (SqL X.K H p ys ∨ SqT X.K H p ys) ∧ Q (.int ys.length) H) := by
  intro pins s σ H xs us Q I r h
  obtain ⟨p, ys, rfl, hq, q⟩ := h
  obtain ⟨u, rfl, rx⟩ := vals1 r
  cases rx
  have hn := line63
  rcases hq with hq | hq
  · obtain ⟨its, r', pl, hz⟩ := I.list hq
    have hlen := r'.length
    exact Calls.call_len_list pl.isList (by simp only [List.size_toArray] <;> omega) ⟨.int ys.length, H, I.tok _, ⟨s.toks + 1, by rw [List.size_toArray, hlen]⟩, q⟩
  · obtain ⟨its, r', pl, hz⟩ := I.tuple hq
    have hlen := r'.length
    exact len_tuple pl (by simp only [List.size_toArray] <;> omega) ⟨.int ys.length, H, I.tok _, ⟨s.toks + 1, by rw [List.size_toArray, hlen]⟩, q⟩
theorem call_list_of : CallR X (.type "list") (fun xs H Q => ∃ p ys, xs = [.ref p] ∧ (SqL X.K H p ys ∨ SqT X.K H p ys) ∧ ∀ l, H l = none → Q (.ref l) (upd H l (.lst ys))) := by
  intro pins s σ H xs us Q I r h
  obtain ⟨p, ys, rfl, hq, q⟩ := h
  obtain ⟨u, rfl, rx⟩ := vals1 r
  cases rx
  have fin : ∀ (its : List Value), Vals ys its → ys.length ≤ sizeLine → ∀ (h' : Heap) (c' : Nat), (∀ b o', s.heap.get? b = some o' → h'.get? b = some o') →
      h'.get? s.heap.objs.size = some { cls := .type "list", dict := none, data := .seq its.toArray c', slots := #[] } → EP X pins σ Q (.ref s.heap.objs.size) { s with heap := h' } := fun its r' hz h' c' kp e =>
    ⟨.ref s.heap.objs.size, _, I.laid (t' := s.toks) kp (Nat.le_refl _) (show ObjOk X.prog X.w _ h' _ (.lst ys) from ⟨hz, its, c', r', e⟩), rfl, q _ (I.hok.fresh (Nat.le_refl _))⟩
  rcases hq with hq | hq
  · obtain ⟨its, r', pl, hz⟩ := I.list hq
    have hlen := r'.length
    obtain ⟨o, ho, hc, n, hd⟩ := pl.isList
    exact call_list_seq p (.inl rfl) ho hc hd (fun h' c' kp e => fin its r' hz h' c' kp e) (by simp only [List.size_toArray] <;> omega)
  · obtain ⟨its, r', pl, hz⟩ := I.tuple hq
    have hlen := r'.length
    obtain ⟨o, ho, hc, n, hd⟩ := pl
    exact call_list_seq p (.inr rfl) ho hc hd (fun h' c' kp e => fin its r' hz h' c' kp e) (by simp only [List.size_toArray] <;> omega)
theorem call_tuple_of : CallR X (.type "tuple") (fun xs H Q => ∃ p ys, xs = [.ref p] ∧ ((SqL X.K H p ys ∧ ∀ l, H l = none → Q (.ref l) (upd H l (.tup ys))) ∨ (SqT X.K H p ys ∧ Q (.ref p) H))) := by
  intro pins s σ H xs us Q I r h
  obtain ⟨p, ys, rfl, h⟩ := h
  obtain ⟨u, rfl, rx⟩ := vals1 r
  cases rx
  rcases h with ⟨hq, q⟩ | ⟨hq, q⟩
  · obtain ⟨its, r', pl, hz⟩ := I.list hq
    have hlen := r'.length
    refine call_tuple_list pl.isList (fun h' kp => ?_) (by simp only [List.size_toArray] <;> omega)
    have I1 : Inv X pins σ H { s with heap := h' } := I.kept (t' := s.toks) kp
    have I2 : Inv X pins σ (upd H h'.objs.size (.tup ys)) { s with heap := h'.push { cls := .type "tuple", data := .seq its.toArray } } :=
      I1.laid (t' := s.toks) (fun b o e => Heap.get?_push_of_some _ e) (Nat.le_refl _) (show ObjOk X.prog X.w _ _ _ (.tup ys) from ⟨hz, its, r', IsTup.new _ _⟩)
    exact ⟨.ref h'.objs.size, _, I2, rfl, q _ (I1.hok.fresh (Nat.le_refl _))⟩
  · obtain ⟨its, r', pl, hz⟩ := I.tuple hq
    exact call_tuple_same pl ⟨.ref p, H, I, rfl, q⟩

/-! ### the call of a builtin's method: o.m(..) -/
/-- the value is of that builtin type -/
def tyV (K : PySem.W.Frag) (T : String) (x : V) (H : Hp) : Prop := match x with
  | .str _ => T = "str"
  | .int _ => T = "int"
  | .ref p => (T = "list" ∧ ∃ xs, SqL K H p xs) ∨ (T = "tuple" ∧ ∃ o, K.lookup p = some o ∧ o.cls = .type "tuple" ∧ o.dict = none) ∨
      (T = "dict" ∧ ((∃ kvs, H p = some (.dK kvs)) ∨ ∃ kvs, H p = some (.dT kvs))) ∨ (T = "set" ∧ ∃ S n, H p = some (.set S n))
  | _ => False
theorem tyV_is {pins : List (Addr × Obj)} {σ : St} {H : Hp} {s : Shared} {T : String} {x : V} {v : Value} (I : Inv X pins σ H s) (r : RelV x v) (ty : tyV X.K T x H) :
    s.TypeIs v T ∧ ∀ a, v = .ref a → ∃ ob, s.heap.get? a = some ob ∧ ob.dict = none := by
  cases x with
  | str z =>
    obtain ⟨t, rfl⟩ := r
    cases (show T = "str" from ty)
    exact ⟨typeIs_str s z t, fun _ e => nomatch e⟩
  | int i =>
    obtain ⟨t, rfl⟩ := r
    cases (show T = "int" from ty)
    exact ⟨typeIs_int s i t, fun _ e => nomatch e⟩
  | ref p =>
    cases r
    rcases ty with ⟨rfl, xs, hq⟩ | ⟨rfl, o, hk, hc, hd⟩ | ⟨rfl, hk⟩ | ⟨rfl, S, n, hk⟩
    · obtain ⟨its, _, pl, _⟩ := I.list hq
      refine ⟨pl.isList.typeIs, fun a e => ?_⟩
      cases e
      obtain ⟨o, n, e, c, hd, _⟩ := pl
      exact ⟨o, e, hd⟩
    · refine ⟨⟨o, I.kIn p o hk, hc⟩, fun a e => ?_⟩
      cases e
      exact ⟨o, I.kIn _ o hk, hd⟩
    · have z : ∃ o, s.heap.get? p = some o ∧ o.ExactDict := by
        rcases hk with ⟨kvs, hk⟩ | ⟨kvs, hk⟩
        · obtain ⟨_, _, _, _, o, _, _, e, ex, _⟩ := I.hok p _ hk
          exact ⟨o, e, ex⟩
        · obtain ⟨_, _, _, _, o, _, _, e, ex, _⟩ := I.hok p _ hk
          exact ⟨o, e, ex⟩
      obtain ⟨o, e, ex⟩ := z
      refine ⟨⟨o, e, ex.1⟩, fun a e2 => ?_⟩
      cases e2
      exact ⟨o, e, ex.2.1⟩
    · obtain ⟨o, _, _, _, e, ex, _⟩ := I.hok p _ hk
      refine ⟨⟨o, e, ex.1⟩, fun a e2 => ?_⟩
      cases e2
      exact ⟨o, e, ex.2.1⟩
  | _ => exact False.elim ty
def tBM0 (K : PySem.W.Frag) (T : String) (r : V → List V → Hp → VK → Prop) (to : TE) : TE := fun σ H Q => to σ H fun x H1 => tyV K T x H1 ∧ r x [] H1 Q
def tBM (K : PySem.W.Frag) (T : String) (r : V → List V → Hp → VK → Prop) (to : TE) (t : TA) : TE := fun σ H Q => to σ H fun x H1 => tyV K T x H1 ∧ t σ H1 fun xs H2 => r x xs H2 Q
variable {o e : Expr} {es : List Expr} {to : TE} {t : TA} {name : Str} {apos cpos : Pos} {T id : String} {r : V → List V → Hp → VK → Prop}
theorem pe_bm (pa : PlainAttrs T) (slot : Slot T name id) (hty : typeOf (.builtin id) = pure (.type "method_descriptor")) (hm : MtR X id r) (ho : PE X o to) (ha : PA X (e :: es) t)
    (hbase : attributeBase o name X.env (eval o X.env) = eval o X.env := by rfl)
    (hfew : ((backTo cpos (starEach (e :: es) X.env)).all (fun x => !x.1) && (backToKw cpos (keywordEach [] X.env)).all (fun x => x.1.isSome)
      && decide ((e :: es).length + ([] : List Keyword).length + (if ([] : List Keyword).isEmpty then 0 else 1) < 30)) = true := by rfl)
    (hline : (apos.endLine == cpos.line) = true := by rfl) (hs : starEach (e :: es) X.env = (false, eval e X.env) :: starEach es X.env := by rfl) (hplain : (backTo cpos (starEach es X.env)).any (·.1) = false := by rfl) :
    PE X (.Call (.Attribute o name apos) (e :: es) [] cpos) (tBM X.K T r to t) := by
  intro pins s σ H Q I h
  refine wpAny_Call_method_late hbase hfew hline rfl (thn (ho pins s σ H _ I h) fun v s1 ⟨x, H1, I1, r1, ty, q1⟩ => ?_)
  obtain ⟨h1, h2⟩ := tyV_is I1 r1 ty
  refine ⟨T, id, pa, slot, hty, h1, h2, ?_⟩
  have hA := ha cpos pins s1 σ H1 _ I1 q1
  rw [hs] at hA ⊢
  refine Calls.callWith_builtin (by show (false || (backTo cpos (starEach es X.env)).any (·.1)) = false; rw [hplain] <;> rfl) (Calls.evalArgs_plain ?_)
  exact thn hA fun us s2 ⟨vs, H2, I2, r2, q2⟩ => hm pins s2 σ H2 x vs v us Q I2 r1 r2 q2
/- xs.append(e), list.index on a module's tuple .. are MtR facts of 06m -/
end
end L2

namespace L2
open PySem PySem.Spec PyProof.Rows

def MtM (X : Cx) (id : String) (r : V → List V → Hp → VK → Prop) : Prop :=
  ∀ (pins : List (Addr × Obj)) (s : Shared) (σ : St) (H : Hp) (x : V) (xs : List V) (v : Value) (us : List Value) (Q : VK), Inv X pins σ H s → RelV x v → Vals xs us → r x xs H Q →
    wpAny (model X.prog X.w) X.A (call (.builtin id) (v :: us)) (EP X pins σ Q) X.xe s

/-! ### lists of values -/
theorem Vals.one : ∀ {x : V} {us : List Value}, Vals [x] us → ∃ u, us = [u] ∧ RelV x u
  | _, _, .cons r .nil => ⟨_, rfl, r⟩
theorem Vals.rep {xs : List V} {us : List Value} (h : Vals xs us) : ∀ k : Nat, Vals (List.replicate k xs).flatten (List.replicate k us).flatten
  | 0 => .nil
  | k + 1 => by
    rw [List.replicate_succ, List.replicate_succ, List.flatten_cons, List.flatten_cons]
    exact Vals.append h (Vals.rep h k)
theorem foldl_rep (its : List Value) : ∀ (k : Nat) (acc : List Value),
    List.foldl (fun x1 x2 => x1 ++ x2) acc.toArray (List.replicate k its.toArray) = (acc ++ (List.replicate k its).flatten).toArray
  | 0, acc => by simp
  | k + 1, acc => by
    have e : acc.toArray ++ its.toArray = (acc ++ its).toArray := by simp
    have e2 : (acc ++ its) ++ (List.replicate k its).flatten = acc ++ (List.replicate (k + 1) its).flatten := by
      rw [List.replicate_succ, List.flatten_cons, List.append_assoc]
    rw [← e2, ← foldl_rep its k (acc ++ its), ← e, List.replicate_succ, List.foldl_cons]

section
variable {X : Cx} {pins : List (Addr × Obj)} {σ : St} {H : Hp} {s : Shared} {l b : Addr} {xs ys zs : List V}

/-! ### the two steps: a tracked list is rewritten, a new list is laid -/
theorem Inv.lset {its its' : List Value} {n : Nat} {f : Array Value → Array Value} {t' : Nat} (I : Inv X pins σ H s) (hH : H l = some (.lst xs))
    (e : s.heap.get? l = some { cls := .type "list", data := .seq its.toArray n }) (hf : f its.toArray = its'.toArray) (hv : Vals ys its') (hz : ys.length ≤ sizeLine) :
    Inv X pins σ (upd H l (.lst ys)) { s with heap := s.heap.update l (Obj.mapSeq f), toks := t' } := by
  have q := PySem.IsL.update e f
  rw [hf] at q
  refine I.write (x := l) (e := l) (by rw [hH]; exact trivial) (.inl rfl) (fun b' u hb hu => (Heap.get?_update_other s.heap (Obj.mapSeq f) (Ne.symm hb)).trans hu) ⟨_, q⟩ ?_
  exact ⟨hz, its', _, hv, q⟩
theorem Inv.lnew {its : List Value} {t' : Nat} (I : Inv X pins σ H s) (hv : Vals ys its) (hz : ys.length ≤ sizeLine) :
    Inv X pins σ (upd H s.heap.objs.size (.lst ys)) { s with heap := s.heap.push { cls := .type "list", data := .seq its.toArray }, toks := t' } :=
  I.laid (fun _ _ q => Heap.get?_push_of_some _ q) (Nat.le_refl _) ⟨hz, its, 0, hv, Heap.get?_push_size _ rfl⟩
theorem Inv.fresh (I : Inv X pins σ H s) : H s.heap.objs.size = none := I.hok.fresh (Nat.le_refl _)
theorem Inv.lstM (I : Inv X pins σ H s) (hH : H l = some (.lst xs)) : xs.length ≤ sizeLine ∧ ∃ (its : List Value) (n : Nat), Vals xs its ∧ xs.length = its.length ∧ s.heap.get? l = some { cls := .type "list", data := .seq its.toArray n } := by
  obtain ⟨z, its, n, r, e⟩ := I.hok l _ hH
  exact ⟨z, its, n, r, r.length, e⟩

theorem notLongL {n : Nat} (h : n ≤ sizeLine) : Builtin.List.listTooLong n = false := by
  unfold Builtin.List.listTooLong
  exact decide_eq_false (by omega)
end

section
variable {X : Cx}

/-! ### methods -/
def rAppend : V → List V → Hp → VK → Prop := fun x vs H Q => ∃ l xs y, x = .ref l ∧ vs = [y] ∧ H l = some (.lst xs) ∧ xs.length < sizeLine ∧ Q .non (upd H l (.lst (xs ++ [y])))
theorem mt_append : MtM X "list.append" rAppend := by
  intro pins s σ H x vs v us Q I rx rv h
  obtain ⟨l, xs, y, rfl, rfl, hH, hz, q⟩ := h
  cases rx
  obtain ⟨u, rfl, ru⟩ := rv.one
  obtain ⟨z, its, n, r, hl, e⟩ := I.lstM hH
  refine call_meets F.slot_list_append ⟨_, e, rfl⟩ F.entry_list_append (F.args_list_append_2 _ _) (PySem.list_append l its.toArray n u (by rw [List.size_toArray]; omega)) ⟨e, ?_⟩
  refine ⟨.non, _, I.lset (its' := its ++ [u]) hH e (by simp) (r.append (.cons ru .nil)) ?_, rfl, q⟩
  rw [List.length_append, List.length_singleton]
  omega

def rExtend : V → List V → Hp → VK → Prop := fun x vs H Q => ∃ l b xs zs, x = .ref l ∧ vs = [.ref b] ∧ H l = some (.lst xs) ∧ H b = some (.lst zs) ∧ xs.length + zs.length ≤ sizeLine ∧ Q .non (upd H l (.lst (xs ++ zs)))
theorem mt_extend : MtM X "list.extend" rExtend := by
  intro pins s σ H x vs v us Q I rx rv h
  obtain ⟨l, b, xs, zs, rfl, rfl, hH, hB, hz, q⟩ := h
  cases rx
  obtain ⟨u, rfl, ru⟩ := rv.one
  cases ru
  obtain ⟨z, its, n, r, hl, e⟩ := I.lstM hH
  obtain ⟨z2, its2, n2, r2, hl2, e2⟩ := I.lstM hB
  have hsz : its.toArray.size + its2.toArray.size ≤ sizeLine := by rw [List.size_toArray, List.size_toArray]; omega
  have hlong : ¬ (!its.toArray.isEmpty && Builtin.List.listTooLong (its.toArray.size + its2.toArray.size)) = true := by
    rw [notLongL hsz, Bool.and_false]
    exact Bool.false_ne_true
  refine call_meets F.slot_list_extend ⟨_, e, rfl⟩ F.entry_list_extend (F.args_list_extend_2 _ _)
    (AutoSeq1.list_extend_list_list_0 l its.toArray n b its2.toArray n2 hlong (by rw [List.size_toArray]; omega) (by omega)) ⟨e, e2, ?_⟩
  refine ⟨.non, _, I.lset (its' := its ++ its2) hH e (by simp) (r.append r2) ?_, rfl, q⟩
  rw [List.length_append]
  omega

def rPop : V → List V → Hp → VK → Prop := fun x vs H Q => ∃ l xs y, x = .ref l ∧ vs = [] ∧ H l = some (.lst xs) ∧ xs[xs.length - 1]? = some y ∧ Q y (upd H l (.lst xs.dropLast))
def rPopAt : V → List V → Hp → VK → Prop := fun x vs H Q => ∃ l xs i k y, x = .ref l ∧ vs = [.int i] ∧ H l = some (.lst xs) ∧ -(2 ^ 63) ≤ i ∧ i < 2 ^ 63 ∧ seqIndex? i xs.length = some k ∧ xs[k]? = some y ∧ Q y (upd H l (.lst (xs.eraseIdx k)))
def rReverse : V → List V → Hp → VK → Prop := fun x vs H Q => ∃ l xs, x = .ref l ∧ vs = [] ∧ H l = some (.lst xs) ∧ Q .non (upd H l (.lst xs.reverse))
def rClear : V → List V → Hp → VK → Prop := fun x vs H Q => ∃ l xs, x = .ref l ∧ vs = [] ∧ H l = some (.lst xs) ∧ Q .non (upd H l (.lst []))
/-! ### list + list, list += list, list * int -/
def rCat : R2 := fun x y H Q => ∃ l b xs zs, x = .ref l ∧ y = .ref b ∧ H l = some (.lst xs) ∧ H b = some (.lst zs) ∧ xs.length + zs.length ≤ sizeLine ∧ ∀ p, H p = none → Q (.ref p) (upd H p (.lst (xs ++ zs)))
theorem op_cat : OpR X (binaryOp .Add) rCat := by
  intro pins s σ H x y v u Q I rx ry h
  obtain ⟨l, b, xs, zs, rfl, rfl, hH, hB, hz, q⟩ := h
  cases rx
  cases ry
  obtain ⟨z, its, n, r, hl, e⟩ := I.lstM hH
  obtain ⟨z2, its2, n2, r2, hl2, e2⟩ := I.lstM hB
  refine PySem.P.add_list e e2 ?_ (by rw [List.size_toArray, List.size_toArray]; omega)
  have ea : its.toArray ++ its2.toArray = (its ++ its2).toArray := by simp
  rw [ea]
  exact ⟨.ref _, _, I.lnew (t' := s.toks) (r.append r2) (by rw [List.length_append]; omega), rfl, q _ I.fresh⟩
/-- a list times an int (a negative one is nothing) -/
def rRep : R2 := fun x y H Q => ∃ l k xs, x = .ref l ∧ y = .int k ∧ H l = some (.lst xs) ∧ -(2 ^ 63) ≤ k ∧ k < 2 ^ 63 ∧ xs.length * k.toNat ≤ sizeLine ∧
  ∀ p, H p = none → Q (.ref p) (upd H p (.lst (List.replicate k.toNat xs).flatten))
theorem len_rep {α : Type} (xs : List α) (k : Nat) : (List.replicate k xs).flatten.length = k * xs.length := by
  induction k with
  | zero => simp
  | succ k ih => rw [List.replicate_succ, List.flatten_cons, List.length_append, ih, Nat.succ_mul, Nat.add_comm]
theorem op_rep : OpR X (binaryOp .Mult) rRep := by
  intro pins s σ H x y v u Q I rx ry h
  obtain ⟨l, k, xs, rfl, rfl, hH, h1, h2, hz, q⟩ := h
  cases rx
  obtain ⟨t, rfl⟩ := ry
  obtain ⟨z, its, n, r, hl, e⟩ := I.lstM hH
  have hlen : its.toArray.size * k.toNat ≤ sizeLine := by rw [List.size_toArray, ← hl]; exact hz
  have hcap : ¬ its.toArray.size * k.toNat > (2 ^ 63 - 1) / 8 := by
    have : (sizeLine : Nat) ≤ (2 ^ 63 - 1) / 8 := by decide
    omega
  have hfit : ¬ (!Builtin.List.listFitsIndex k) = true := by
    rw [fitsIndex_both h1 h2]
    exact Bool.false_ne_true
  have hlong : ¬ Builtin.List.listTooLong (its.toArray.size * k.toNat) = true := by
    rw [notLongL hlen]
    exact Bool.false_ne_true
  have hnew : List.foldl (fun x1 x2 => x1 ++ x2) #[] (List.replicate (if its.toArray.isEmpty = true then 0 else k.toNat) its.toArray) = (List.replicate k.toNat its).flatten.toArray := by
    have f0 : ∀ m : Nat, List.foldl (fun x1 x2 => x1 ++ x2) #[] (List.replicate m its.toArray) = (List.replicate m its).flatten.toArray := fun m => by
      have := foldl_rep its m []
      rw [List.nil_append] at this
      exact this
    rw [f0]
    cases its with
    | nil => simp
    | cons a r' => rw [if_neg (by simp)]
  refine wpAny_binaryOp_repeat_ref (T := "list") (U := "int") (by decide) ⟨_, e, rfl⟩ (fun s' => typeIs_int s' k t) noFill_list_mul F.fills_int_mul F.slot_int_rmul repeat_list F.slot_int_index.lookup
    (call_meets F.slot_int_rmul (typeIs_int s k t) F.entry_int_rmul (F.args_int_rmul_2 _ _) (int___rmul___int_list k t l its.toArray n)
      ⟨e, rfl, ⟨_, e, rfl⟩, call_meets F.slot_list_mul ⟨_, e, rfl⟩ F.entry_list_mul (F.args_list_mul_2 _ _) (AutoListH.list___mul___list_int_3 l its.toArray n k t hfit hcap hlong) ⟨e, ?_⟩⟩)
  rw [hnew]
  exact ⟨.ref _, _, I.lnew (t' := s.toks) (r.rep k.toNat) (by rw [len_rep, Nat.mul_comm]; exact hz), rfl, q _ I.fresh⟩

/-! ### del xs[i] -/
end

/-! ### xs[a:b] = ys -/
section
variable {prog : Program} {w : World} {A : Around} {E : Value → Shared → Prop} {s : Shared}
end

section
variable {X : Cx}
end
end L2

namespace L2
open PySem PySem.Spec PyProof.Rows

theorem Vals.ints : ∀ {ns : List Int} {us : List Value}, Vals (ns.map V.int) us → IntsAre us ns
  | [], us, h => by
    rw [List.map_nil] at h
    cases h
    exact IntsAre.nil
  | n :: ns, us, h => by
    rw [List.map_cons] at h
    cases h with
    | cons r t =>
      obtain ⟨k, rfl⟩ := r
      exact IntsAre.cons n k (Vals.ints t)
theorem Vals.bls : ∀ {bs : List Bool} {us : List Value}, Vals (bs.map V.bl) us → us = bs.map Value.bool
  | [], us, h => by
    rw [List.map_nil] at h
    cases h
    rfl
  | b :: bs, us, h => by
    rw [List.map_cons] at h
    cases h with
    | cons r t =>
      cases r
      rw [Vals.bls t, List.map_cons]
theorem Vals.ref1 {a : Addr} {us : List Value} (r : Vals [V.ref a] us) : us = [Value.ref a] := by
  cases r with
  | cons r t =>
    cases t
    cases r
    rfl
/-! ### the library's walks over a list of ints, kept objects alone -/
section
variable {prog : Program} {w : World} {A : Around} {E : Value → Shared → Prop} {s : Shared} {l : Addr} {its : List Value} {ns : List Int} {Q : Value → Shared → Prop}
theorem sum_raw (hh : A.handled = none) (hl : s.heap.IsList l its.toArray) (hi : IntsAre its ns)
    (h : ∀ h' tk t', (∀ b o, s.heap.get? b = some o → h'.get? b = some o) → Q (.int ns.sum t') { s with heap := h', toks := tk }) : wpAny (model prog w) A (call (.builtin "sum") [.ref l]) Q E s := by
  obtain ⟨xs, e⟩ := hi.allInts.items
  have hn : numsOf (intItems xs).toList = ns := by rw [← e]; exact hi.numsOf
  rw [nums_intItems] at hn
  rw [e] at hl
  refine PySem.sum_intListG hh hl fun h' tk t' hk => ?_
  have := h h' tk t' hk
  rw [preSum_eq, List.take_of_length_le (by simp), hn]; exact this
end

/-! ### the calls, by values (CallR of 03t; MtR of 06l) -/
section
variable {X : Cx}
/-- sum(xs) of a list of ints -/
def rSum (K : PySem.W.Frag) : List V → Hp → VK → Prop := fun vs H Q => ∃ (a : Addr) (ns : List Int), vs = [V.ref a] ∧ SqL K H a (ns.map V.int) ∧ Q (.int ns.sum) H
/-- max(xs), min(xs) of a list of ints -/
def rMax (K : PySem.W.Frag) : List V → Hp → VK → Prop := fun vs H Q => ∃ (a : Addr) (ns : List Int), vs = [V.ref a] ∧ SqL K H a (ns.map V.int) ∧ 0 < ns.length ∧ ∀ m, m ∈ ns → (∀ y, y ∈ ns → y ≤ m) → Q (.int m) H
def rMin (K : PySem.W.Frag) : List V → Hp → VK → Prop := fun vs H Q => ∃ (a : Addr) (ns : List Int), vs = [V.ref a] ∧ SqL K H a (ns.map V.int) ∧ 0 < ns.length ∧ ∀ m, m ∈ ns → (∀ y, y ∈ ns → m ≤ y) → Q (.int m) H
theorem cr_sum (hc : X.calm = true) : CallR X (.builtin "sum") (rSum X.K) := by
  intro pins s σ H vs us Q I r h
  obtain ⟨a, ns, rfl, hs, q⟩ := h
  obtain ⟨its, rv, hl, _⟩ := I.list hs
  rw [Vals.ref1 r]
  exact sum_raw (I.ok.hd hc) hl.isList rv.ints fun h' tk t' hk => ⟨.int _, H, I.kept hk, ⟨_, rfl⟩, q⟩
/-! sorted, sort (fewer than 64 items: the library's own bound) -/
def rSorted (K : PySem.W.Frag) : List V → Hp → VK → Prop := fun vs H Q => ∃ (a : Addr) (ns : List Int), vs = [V.ref a] ∧ SqL K H a (ns.map V.int) ∧ ns.length < 64 ∧
  ∀ (ns' : List Int) (p : Addr), ns'.Perm ns → ns'.Pairwise (· ≤ ·) → H p = none → Q (.ref p) (upd H p (.lst (ns'.map V.int)))
def rSortedS (K : PySem.W.Frag) : List V → Hp → VK → Prop := fun vs H Q => ∃ (a : Addr) (xs : List Str), vs = [V.ref a] ∧ SqL K H a (xs.map V.str) ∧ xs.length < 64 ∧
  ∀ (ys : List Str) (p : Addr), ys.Perm xs → sortedS ys = true → H p = none → Q (.ref p) (upd H p (.lst (ys.map V.str)))
/-- xs.sort(), ints -/
def rSort : V → List V → Hp → VK → Prop := fun x xs H Q => ∃ (a : Addr) (ns : List Int), x = V.ref a ∧ xs = [] ∧ H a = some (.lst (ns.map V.int)) ∧ ns.length < 64 ∧
  ∀ ns' : List Int, ns'.Perm ns → ns'.Pairwise (· ≤ ·) → Q .non (upd H a (.lst (ns'.map V.int)))
end

/-! ### list.index, flat items -/
section
variable {X : Cx}
def rIndex (K : PySem.W.Frag) : V → List V → Hp → VK → Prop := fun x xs H Q => ∃ (a : Addr) (ys : List V) (y : V) (j : Nat) (z : V), x = V.ref a ∧ xs = [y] ∧ SqL K H a ys ∧ flatV y = true ∧ ys.all flatV = true ∧ ys[j]? = some z ∧ eqV z y = true ∧
  (∀ (m : Nat) (z' : V), m < j → ys[m]? = some z' → eqV z' y = false) ∧ Q (.int (j : Nat)) H
end

/-! ### type(x) of an own instance; is, is not of a module's class -/
section
variable {X : Cx}
end

/-! ### any(xs), all(xs) of a list of bools -/
theorem iter_any {prog : Program} {w : World} {A : Around} {E : Value → Shared → Prop} {s : Shared} {l : Addr} {items : Array Value} {Q : Value → Shared → Prop} (hl : s.heap.IsList l items)
    (h : ∀ s₂ : Shared, s₂ = { s with heap := s.heap.push { cls := .type "list_iterator", data := .fields #[.ref l, .int 0 0] } } →
      (s₂.heap.IsListIter s.heap.objs.size l 0 ∧ s₂.heap.IsList l items) → l ≠ s.heap.objs.size → Q (.ref s.heap.objs.size) s₂) : wpAny (model prog w) A (pyIter (.ref l)) Q E s := by
  have hlt : l < s.heap.objs.size := by obtain ⟨_, e, _⟩ := hl; exact Heap.lt_size e
  exact wpAny_pyIter_list hl (h _ rfl ⟨⟨_, Heap.get?_push_size _ rfl, rfl, rfl⟩, hl.push _⟩ (Nat.ne_of_lt hlt))
theorem truth_bools {prog : Program} {w : World} {A : Around} {bs : List Bool} {its : List Value} (e : its = bs.map Value.bool) :
    TruthOf prog w A (fun i v => its.toArray[i]? = some v) (fun i => bs.getD i false) := fun i v s Q E hv hq => by
  have hv' : its[i]? = some v := by simpa using hv
  rw [e, List.getElem?_map] at hv'
  obtain ⟨b, hb, rfl⟩ := Option.map_eq_some_iff.mp hv'
  have hg : bs.getD i false = b := by rw [List.getD_eq_getElem?_getD, hb] <;> rfl
  have hq' : Q (bs.getD i false) s := hq
  rw [hg] at hq'
  exact wpAny_truthy_bool hq'
theorem all_range : ∀ bs : List Bool, (List.range bs.length).all (fun i => bs.getD i false) = bs.all id
  | [] => rfl
  | b :: bs => by
    rw [List.length_cons, List.range_succ_eq_map, List.all_cons, List.all_map, List.all_cons, ← all_range bs]
    all_goals rfl
section
variable {X : Cx}
def rAny (K : PySem.W.Frag) : List V → Hp → VK → Prop := fun vs H Q => ∃ (a : Addr) (bs : List Bool), vs = [V.ref a] ∧ SqL K H a (bs.map V.bl) ∧ Q (.bl (bs.any id)) H
def rAll (K : PySem.W.Frag) : List V → Hp → VK → Prop := fun vs H Q => ∃ (a : Addr) (bs : List Bool), vs = [V.ref a] ∧ SqL K H a (bs.map V.bl) ∧ Q (.bl (bs.all id)) H
theorem cr_all (hc : X.calm = true) : CallR X (.builtin "all") (rAll X.K) := by
  intro pins s σ H vs us Q I r h
  obtain ⟨a, bs, rfl, hs, q⟩ := h
  obtain ⟨its, rv, hl, _⟩ := I.list hs
  rw [Vals.ref1 r]
  have hb := rv.bls
  refine call_all_walk (iter_any hl.isList fun s₂ e2 st hne => ?_)
  subst e2
  refine ⟨_, _, _, _, _, _, _, rfl, Walks.list (A := X.A.in1) (I.ok.hd hc) _ a hne its.toArray, st, truth_bools hb, fun h' tk hk => ?_⟩
  refine ⟨.bl _, H, I.kept fun b o eo => hk b o (fun hmem => ?_) (Heap.get?_push_of_some _ eo), ?_, q⟩
  · rcases List.mem_cons.mp hmem with e1 | hmem
    · exact absurd (e1 ▸ Heap.lt_size eo) (Nat.lt_irrefl _)
    · cases hmem
  · show Value.bool _ = Value.bool _
    rw [← all_range, hb, List.size_toArray, List.length_map]
end

/-! ### == and != of data at any depth: none, bools, ints, texts, lists, tuples -/
mutual
inductive Dp (K : PySem.W.Frag) (H : Hp) : V → PyData → Prop
  | non : Dp K H .non .none
  | bl (b : Bool) : Dp K H (.bl b) (.bool b)
  | int (i : Int) : Dp K H (.int i) (.int i)
  | str (x : Str) : Dp K H (.str x) (.str x)
  | lst {a : Addr} {xs : List V} {ds : List PyData} : SqL K H a xs → DpAll K H xs ds → Dp K H (.ref a) (.list ds)
  | tup {a : Addr} {xs : List V} {ds : List PyData} : SqT K H a xs → DpAll K H xs ds → Dp K H (.ref a) (.tuple ds)
inductive DpAll (K : PySem.W.Frag) (H : Hp) : List V → List PyData → Prop
  | nil : DpAll K H [] []
  | cons {v : V} {vs : List V} {d : PyData} {ds : List PyData} : Dp K H v d → DpAll K H vs ds → DpAll K H (v :: vs) (d :: ds)
end
section
variable {X : Cx} {pins : List (Addr × Obj)} {σ : St} {H : Hp} {s : Shared}
mutual
theorem Dp.reads (I : Inv X pins σ H s) : ∀ (d : PyData) (v : V) (u : Value), Dp X.K H v d → RelV v u → ∃ as, Reads s.heap u d as
  | .none, _, _, h, r => by
    cases h
    cases r
    exact ⟨_, Reads.none⟩
  | .bool b, _, _, h, r => by
    cases h
    cases r
    exact ⟨_, Reads.bool b⟩
  | .int i, _, _, h, r => by
    cases h
    obtain ⟨t, rfl⟩ := r
    exact ⟨_, Reads.int i t⟩
  | .str x, _, _, h, r => by
    cases h
    obtain ⟨t, rfl⟩ := r
    exact ⟨_, Reads.str x t⟩
  | .list ds, _, _, h, r => by
    cases h with
    | lst hs ha =>
      cases r
      obtain ⟨its, rv, ⟨o, n, ho, hc, _, hd⟩, _⟩ := I.list hs
      obtain ⟨as, hr⟩ := Dp.readsAll I ds _ its ha rv
      exact ⟨_, Reads.list ho hc hd hr⟩
  | .tuple ds, _, _, h, r => by
    cases h with
    | tup hs ha =>
      cases r
      obtain ⟨its, rv, ⟨o, ho, hc, n, hd⟩, _⟩ := I.tuple hs
      obtain ⟨as, hr⟩ := Dp.readsAll I ds _ its ha rv
      exact ⟨_, Reads.tuple ho hc hd hr⟩
  | .dict _, _, _, h, _ => by cases h
theorem Dp.readsAll (I : Inv X pins σ H s) : ∀ (ds : List PyData) (vs : List V) (us : List Value), DpAll X.K H vs ds → Vals vs us → ∃ as, ReadsAll s.heap us ds as
  | [], _, _, h, r => by
    cases h
    cases r
    exact ⟨_, ReadsAll.nil⟩
  | d :: ds, _, _, h, r => by
    cases h with
    | cons h1 h2 =>
      cases r with
      | cons r1 r2 =>
        obtain ⟨as, q1⟩ := Dp.reads I d _ _ h1 r1
        obtain ⟨bs, q2⟩ := Dp.readsAll I ds _ _ h2 r2
        exact ⟨_, ReadsAll.cons q1 q2⟩
end
end
section
variable {X : Cx}
def rEqD (K : PySem.W.Frag) : R2 := fun x y H Q => ∃ d e, Dp K H x d ∧ Dp K H y e ∧ SeqAt.shaped d = true ∧ SeqAt.shaped e = true ∧ Q (.bl (PyData.eqv d e)) H
def rNeD (K : PySem.W.Frag) : R2 := fun x y H Q => ∃ d e, Dp K H x d ∧ Dp K H y e ∧ SeqAt.shaped d = true ∧ SeqAt.shaped e = true ∧ Q (.bl (!PyData.eqv d e)) H
end
end L2

namespace L2
open PySem PySem.Spec PyProof.Rows
abbrev CellAt (h : Heap) (c : Addr) (v : Option Value) : Prop := h.IsCell c v
def relS (scope sc : Scope) : Scope :=
  { scope with names := scope.names.map fun (n, k) => if (k == .free && sc.kind == .function && sc.names.lookup n == some .cell) then (n, .cell) else (n, k) }

def cloFrom (cells : List (Str × Addr)) : List (Str × NameKind) → List (Str × Addr) → List (Str × Addr)
  | [], acc => acc
  | (n, k) :: r, acc => if k == .free then cloFrom cells r ((n, (cells.lookup n).getD 0) :: acc) else cloFrom cells r acc

theorem closure_loop (env : Env) (f : Str × NameKind → List (Str × Addr) → Sem (ForInStep (List (Str × Addr))))
    (hf : ∀ n k c, f (n, k) c = if k == .free then (do let a ← cellOf env n; pure (.yield ((n, a) :: c))) else pure (.yield c)) :
    ∀ (names : List (Str × NameKind)) (acc : List (Str × Addr)), (∀ y ∈ names, y.2 = .free → ∃ c, env.cells.lookup y.1 = some c) → forIn names acc f = pure (cloFrom env.cells names acc)
  | [], acc, _ => by rw [List.forIn_nil]; rfl
  | (n, k) :: r, acc, h => by
    rw [List.forIn_cons, hf]
    have ih := fun acc => closure_loop env f hf r acc fun y hy => h y (List.mem_cons_of_mem _ hy)
    unfold cloFrom
    by_cases hk : (k == NameKind.free) = true
    · rw [if_pos hk, if_pos hk]
      obtain ⟨c, hc⟩ := h (n, k) List.mem_cons_self (by simpa using hk)
      have e : cellOf env n = pure c := by unfold cellOf; rw [hc]
      rw [e]
      have e2 : (env.cells.lookup n).getD 0 = c := by rw [hc]; rfl
      rw [e2]
      exact ih _
    · rw [if_neg hk, if_neg hk]
      exact ih _
theorem closure_ok {scope : Scope} {env : Env} (h : ∀ y ∈ scope.names, y.2 = .free → ∃ c, env.cells.lookup y.1 = some c) : closureFor scope env = pure (cloFrom env.cells scope.names []) := by
  simp only [closureFor]
  rw [closure_loop env _ (fun n k c => rfl) scope.names [] h]
  rfl

theorem mem_lookup {α : Type} : ∀ {l : List (Str × α)} {n : Str} {c : α}, (n, c) ∈ l → ∃ c', l.lookup n = some c'
  | (k, v) :: r, n, c, h => by
    rw [List.lookup_cons]
    cases hb : n == k with
    | true => exact ⟨_, rfl⟩
    | false =>
      rcases List.mem_cons.mp h with e | h
      · cases e; simp at hb
      · exact mem_lookup h

theorem cloFrom_mem {cells : List (Str × Addr)} : ∀ {names : List (Str × NameKind)} {acc : List (Str × Addr)} {n : Str} {c : Addr}, (n, c) ∈ cloFrom cells names acc → (n, c) ∈ acc ∨ ((n, .free) ∈ names ∧ c = (cells.lookup n).getD 0)
  | [], _, _, _, h => .inl h
  | (m, k) :: r, acc, n, c, h => by
    unfold cloFrom at h
    split at h
    · rename_i hk
      have hk : k = .free := by simpa using hk
      rcases cloFrom_mem h with h | ⟨h1, h2⟩
      · rcases List.mem_cons.mp h with e | h
        · cases e; exact .inr ⟨hk ▸ List.mem_cons_self, rfl⟩
        · exact .inl h
      · exact .inr ⟨List.mem_cons_of_mem _ h1, h2⟩
    · rcases cloFrom_mem h with h | ⟨h1, h2⟩
      · exact .inl h
      · exact .inr ⟨List.mem_cons_of_mem _ h1, h2⟩
theorem cloFrom_acc {cells : List (Str × Addr)} : ∀ {names : List (Str × NameKind)} {acc : List (Str × Addr)} {p : Str × Addr}, p ∈ acc → p ∈ cloFrom cells names acc
  | [], _, _, h => h
  | (m, k) :: r, acc, p, h => by
    unfold cloFrom
    split
    · exact cloFrom_acc (List.mem_cons_of_mem _ h)
    · exact cloFrom_acc h
theorem cloFrom_has {cells : List (Str × Addr)} : ∀ {names : List (Str × NameKind)} {acc : List (Str × Addr)} {n : Str}, (n, .free) ∈ names → (n, (cells.lookup n).getD 0) ∈ cloFrom cells names acc
  | (m, k) :: r, acc, n, h => by
    unfold cloFrom
    rcases List.mem_cons.mp h with e | h
    · cases e
      exact cloFrom_acc List.mem_cons_self
    · split
      · exact cloFrom_has h
      · exact cloFrom_has h

theorem cells_mem : ∀ {names : List (Str × NameKind)} {h : Heap} {acc : List (Str × Addr)} {x : Str} {c : Addr}, (x, c) ∈ cellsFrom h.objs.size names acc →
    (x, c) ∈ acc ∨ ((x, .cell) ∈ names ∧ h.objs.size ≤ c ∧ CellAt (pushCells h names) c none)
  | [], _, _, _, _, h => .inl h
  | (n, k) :: r, h, acc, x, c, hm => by
    unfold cellsFrom at hm
    unfold pushCells
    split at hm
    · rename_i hk
      rw [if_pos hk]
      have hk : k = .cell := by simpa using hk
      rw [← Heap.size_push h { cls := .type "cell", data := .cell none }] at hm
      rcases cells_mem hm with hm | ⟨h1, h2, h3⟩
      · rcases List.mem_cons.mp hm with e | hm
        · cases e
          exact .inr ⟨hk ▸ List.mem_cons_self, Nat.le_refl _, _, pushCells_keeps r _ _ _ (Heap.get?_push_size _ rfl), rfl⟩
        · exact .inl hm
      · rw [Heap.size_push] at h2
        exact .inr ⟨List.mem_cons_of_mem _ h1, Nat.le_of_succ_le h2, h3⟩
    · rename_i hk
      rw [if_neg hk]
      rcases cells_mem hm with hm | ⟨h1, h2, h3⟩
      · exact .inl hm
      · exact .inr ⟨List.mem_cons_of_mem _ h1, h2, h3⟩
theorem cells_acc : ∀ {names : List (Str × NameKind)} {n : Nat} {acc : List (Str × Addr)} {p : Str × Addr}, p ∈ acc → p ∈ cellsFrom n names acc
  | [], _, _, _, h => h
  | (m, k) :: r, n, acc, p, h => by
    unfold cellsFrom
    split
    · exact cells_acc (List.mem_cons_of_mem _ h)
    · exact cells_acc h
theorem cells_has : ∀ {names : List (Str × NameKind)} {n : Nat} {acc : List (Str × Addr)} {x : Str}, (x, .cell) ∈ names → ∃ c, (x, c) ∈ cellsFrom n names acc
  | (m, k) :: r, n, acc, x, h => by
    unfold cellsFrom
    rcases List.mem_cons.mp h with e | h
    · cases e
      exact ⟨n, cells_acc List.mem_cons_self⟩
    · split
      · exact cells_has h
      · exact cells_has h
theorem cells_inj : ∀ {names : List (Str × NameKind)} {h : Heap} {acc : List (Str × Addr)} {x y : Str} {c : Addr}, (∀ p ∈ acc, p.2 < h.objs.size) → (∀ x y c, (x, c) ∈ acc → (y, c) ∈ acc → x = y) →
    (x, c) ∈ cellsFrom h.objs.size names acc → (y, c) ∈ cellsFrom h.objs.size names acc → x = y
  | [], _, _, _, _, _, _, hi, h1, h2 => hi _ _ _ h1 h2
  | (n, k) :: r, h, acc, x, y, c, hl, hi, h1, h2 => by
    unfold cellsFrom at h1 h2
    split at h1
    · rename_i hk
      rw [if_pos hk] at h2
      rw [← Heap.size_push h { cls := .type "cell", data := .cell none }] at h1 h2
      refine cells_inj (h := h.push _) (fun p hp => ?_) (fun x y c a b => ?_) h1 h2
      · rw [Heap.size_push]
        rcases List.mem_cons.mp hp with rfl | hp
        · exact Nat.lt_succ_self _
        · exact Nat.lt_succ_of_lt (hl p hp)
      · rcases List.mem_cons.mp a with e | a <;> rcases List.mem_cons.mp b with e' | b
        · cases e; cases e'; rfl
        · cases e; exact absurd (hl _ b) (Nat.lt_irrefl _)
        · cases e'; exact absurd (hl _ a) (Nat.lt_irrefl _)
        · exact hi _ _ _ a b
    · rename_i hk
      rw [if_neg hk] at h2
      exact cells_inj hl hi h1 h2

theorem newEnv_comp {M : Model} {A : Around} {E : Value → Shared → Prop} {s : Shared} {scope : Scope} {globals : Addr} {closure : List (Str × Addr)} {qual : Str} {func : Option Addr} {code : Value} {around : Env} {builtins : Addr} {Q : Env → Shared → Prop}
    (h : Q (newEnv scope s.heap.objs.size globals (cellsFrom (s.heap.objs.size + 1) scope.names closure) qual func code (some around) builtins)
      { s with heap := pushCells (s.heap.push { cls := .type "dict", data := .dict #[] }) scope.names }) :
    wpAny M A (newFunctionEnv scope globals closure [] qual func code (some around) builtins) Q E s := by
  simp only [newFunctionEnv, Option.isSome_some, if_true]
  refine wpAny_bind (wpAny_alloc ?_)
  refine wpAny_bind (wpAny_layCells _ (fun n k c => rfl) scope.names closure _ _ ?_)
  rw [show ({ s with heap := s.heap.push { cls := .type "dict", data := .dict #[] } } : Shared).heap.objs.size = s.heap.objs.size + 1 from Heap.size_push ..]
  rw [List.forIn_nil]
  exact wpAny_bind (wpAny_pure (wpAny_pure h))

/-- every name of the written scope, in the scope that runs -/
theorem lookup_relS {sc : Scope} : ∀ {names : List (Str × NameKind)} {x : Str} {k : NameKind},
    (names.map fun (n, k) => if (k == NameKind.free && sc.kind == .function && sc.names.lookup n == some .cell) then (n, NameKind.cell) else (n, k)).lookup x = some k →
    ∃ k', names.lookup x = some k' ∧ (k = k' ∨ (k' = .free ∧ k = .cell))
  | [], _, _, h => by simp at h
  | (n, k₀) :: r, x, k, h => by
    have ih := @lookup_relS sc r x k
    have h' : List.lookup x ((if (k₀ == NameKind.free && sc.kind == .function && sc.names.lookup n == some .cell) = true then (n, NameKind.cell) else (n, k₀)) :: (r.map _)) = some k := h
    cases hx : x == n with
    | true =>
      simp only [List.lookup_cons, hx]
      by_cases hc : (k₀ == NameKind.free && sc.kind == .function && sc.names.lookup n == some .cell) = true
      · rw [if_pos hc] at h'
        simp only [List.lookup_cons, hx] at h'
        cases h'
        simp only [Bool.and_eq_true, beq_iff_eq] at hc
        exact ⟨k₀, rfl, .inr ⟨hc.1.1, rfl⟩⟩
      · rw [if_neg hc] at h'
        simp only [List.lookup_cons, hx] at h'
        cases h'
        exact ⟨_, rfl, .inl rfl⟩
    | false =>
      simp only [List.lookup_cons, hx]
      by_cases hc : (k₀ == NameKind.free && sc.kind == .function && sc.names.lookup n == some .cell) = true
      · rw [if_pos hc] at h'
        simp only [List.lookup_cons, hx] at h'
        exact ih h'
      · rw [if_neg hc] at h'
        simp only [List.lookup_cons, hx] at h'
        exact ih h'
/-- the names of a comprehension's block: its own (with their places in N), or captured -/
structure BlkOk (N : List Str) (sc scope : Scope) (own : List (Str × Nat)) : Prop where
  kind : scope.kind = .function
  uniq : ∀ y ∈ scope.names, scope.names.lookup y.1 = some y.2
  ix : ∀ p ∈ own, N[p.2]? = some p.1
  free : ∀ y ∈ scope.names, y.2 = .free → sc.names.lookup y.1 = some .cell ∨ sc.names.lookup y.1 = some .free
  own : ∀ y ∈ scope.names, y.2 = .local ∨ y.2 = .cell → y.1 ∈ own.map (·.1) ∨ y.1 ∉ N
/-- the slots of the block's own names forgotten -/
def wipe (σ : St) : List Nat → St
  | [] => σ
  | v :: vs => (wipe σ vs).set v none
theorem wipe_length (σ : St) : ∀ vs : List Nat, (wipe σ vs).length = σ.length
  | [] => rfl
  | v :: vs => by unfold wipe; rw [List.length_set, wipe_length σ vs]
theorem wipe_some {σ : St} {i : Nat} {x : V} : ∀ {vs : List Nat}, (wipe σ vs)[i]? = some (some x) → σ[i]? = some (some x) ∧ i ∉ vs
  | [], h => ⟨h, by simp⟩
  | v :: vs, h => by
    unfold wipe at h
    by_cases hi : v = i
    · subst hi
      by_cases hv : v < (wipe σ vs).length
      · rw [List.getElem?_set_self hv] at h; cases h
      · rw [List.getElem?_eq_none (by simpa using hv)] at h; cases h
    · rw [List.getElem?_set_ne hi] at h
      obtain ⟨h1, h2⟩ := wipe_some h
      exact ⟨h1, by simp only [List.mem_cons, not_or]; exact ⟨fun e => hi e.symm, h2⟩⟩

/-- the context of a block that starts at s, its iterator's objects at fp -/
abbrev Cx.blk (X : Cx) (s : Shared) (H : Hp) (scope : Scope) (cenv : Env) (fp : List Addr) : Cx := { X with s_0 := s, H_0 := H, env := cenv, outer := X.stack, ex := fp, fn := fun x => scope.names.lookup x == some .cell, pn := [], xe := fun _ _ => False }
section
variable {X : Cx} {pins : List (Addr × Obj)} {σ : St} {H : Hp} {s : Shared}
theorem block_start {scope : Scope} {own : List (Str × Nat)} {fp : List Addr} (I : Inv X pins σ H s) (ok : BlkOk X.N X.env.scope scope own) (hN : X.N.Nodup) (hfp : ∀ b ∈ fp, FpOk X pins H b ∧ b < s.heap.objs.size) :
    Inv (X.blk s H scope (compEnvC scope (cellsFrom (s.heap.objs.size + 1) scope.names (cloFrom X.env.cells scope.names [])) s.heap.objs.size X.env) fp) [] (wipe σ (own.map (·.2))) H { s with heap := pushCells (s.heap.push { cls := .type "dict", data := .dict #[] }) scope.names } := by
  have hfree : ∀ y ∈ scope.names, y.2 = .free → ∃ c, X.env.cells.lookup y.1 = some c := fun y hy e => by
    rcases ok.free y hy e with k | k
    · exact I.ok.has _ (.inl k)
    · exact I.ok.has _ (.inr k)
  generalize hcenv : compEnvC scope (cellsFrom (s.heap.objs.size + 1) scope.names (cloFrom X.env.cells scope.names [])) s.heap.objs.size X.env = cenv
  have kp : ∀ b o, s.heap.get? b = some o → (pushCells (s.heap.push { cls := .type "dict", data := .dict #[] }) scope.names).get? b = some o := fun b o e => pushCells_keeps _ _ _ _ (Heap.get?_push_of_some _ e)
  have hL : cenv.locals = s.heap.objs.size := by rw [← hcenv]; rfl
  have hcl : cenv.cells = cellsFrom (s.heap.objs.size + 1) scope.names (cloFrom X.env.cells scope.names []) := by rw [← hcenv]; rfl
  have hsc : cenv.scope = relS scope X.env.scope := by rw [← hcenv]; rfl
  rw [← Heap.size_push s.heap { cls := .type "dict", data := .dict #[] }] at hcl
  have cm : ∀ {y c}, (y, c) ∈ cloFrom X.env.cells scope.names [] → X.env.cells.lookup y = some c ∧ c < s.heap.objs.size := fun {y c} hm => by
    rcases cloFrom_mem hm with hm | ⟨h1, rfl⟩
    · cases hm
    · obtain ⟨c, hc⟩ := hfree _ h1 rfl
      rw [hc]
      obtain ⟨w, z⟩ := I.cell _ _ hc
      exact ⟨rfl, z.lt⟩
  have mem : ∀ {y c}, cenv.cells.lookup y = some c → (X.env.cells.lookup y = some c ∧ c < s.heap.objs.size) ∨ (s.heap.objs.size + 1 ≤ c ∧ CellAt (pushCells (s.heap.push { cls := .type "dict", data := .dict #[] }) scope.names) c none) := fun {y c} e => by
    rw [hcl] at e
    rcases cells_mem (PySem.mem_of_lookup e) with hm | ⟨_, h2, h3⟩
    · exact .inl (cm hm)
    · rw [Heap.size_push] at h2; exact .inr ⟨h2, h3⟩
  have look : ∀ {y}, scope.names.lookup y = some .free → ∃ c, cenv.cells.lookup y = some c ∧ X.env.cells.lookup y = some c := fun {y} hl => by
    have hy : (y, NameKind.free) ∈ scope.names := PySem.mem_of_lookup hl
    obtain ⟨c', e'⟩ := mem_lookup (cells_acc (names := scope.names) (n := (s.heap.push { cls := .type "dict", data := .dict #[] }).objs.size) (cloFrom_has (cells := X.env.cells) (acc := []) hy))
    rw [← hcl] at e'
    refine ⟨c', e', ?_⟩
    rw [hcl] at e'
    rcases cells_mem (PySem.mem_of_lookup e') with hm | ⟨h1, _, _⟩
    · exact (cm hm).1
    · have := ok.uniq _ h1
      rw [hl] at this; cases this
  have okB : (X.blk s H scope cenv fp).Ok := by
    refine ⟨I.ok.mod, by show cenv.scope.kind = _; rw [hsc]; exact ok.kind, by show cenv.globals = _; rw [← hcenv]; exact I.ok.glob, by show cenv.builtins = _; rw [← hcenv]; exact I.ok.blt, by show s.heap.objs.size ≤ cenv.locals; rw [hL]; exact Nat.le_refl _,
      fun y z c e1 e2 => ?_, fun y hy => ?_, fun y c z e => ?_, I.ok.hd, I.ok.frames, .inl rfl, fun b hb => ⟨?_, fun y c e z => ?_⟩, I.bs, Nat.le_trans I.ok.bsz I.sz, fun b o e hb => ?_, fun b hb z => ?_, I.stack, I.stkFree⟩
    · have e1 : cenv.cells.lookup y = some c := e1
      have e2 : cenv.cells.lookup z = some c := e2
      rw [hcl] at e1 e2
      refine cells_inj (fun p hp => ?_) (fun y z c a b => I.ok.inj y z c (cm a).1 (cm b).1) (PySem.mem_of_lookup e1) (PySem.mem_of_lookup e2)
      rw [Heap.size_push]
      exact Nat.lt_succ_of_lt (cm (y := p.1) (c := p.2) hp).2
    · show ∃ c, cenv.cells.lookup y = some c
      have key : ∀ k, cenv.kindOf y = some k → (k = .cell ∨ k = .free) → ∃ c, cenv.cells.lookup y = some c := fun k hk hk' => by
        unfold Env.kindOf at hk
        rw [hsc] at hk
        obtain ⟨k', e, r⟩ := lookup_relS hk
        have : k' = .cell ∨ k' = .free := by
          rcases r with rfl | ⟨rfl, _⟩
          · exact hk'
          · exact .inr rfl
        rcases this with rfl | rfl
        · obtain ⟨c, hm⟩ := cells_has (n := (s.heap.push { cls := .type "dict", data := .dict #[] }).objs.size) (acc := cloFrom X.env.cells scope.names []) (PySem.mem_of_lookup e)
          obtain ⟨c', e'⟩ := mem_lookup hm
          exact ⟨c', by rw [hcl]; exact e'⟩
        · obtain ⟨c, h1, _⟩ := look e
          exact ⟨c, h1⟩
      rcases hy with hy | hy
      · exact key _ hy (.inl rfl)
      · exact key _ hy (.inr rfl)
    · have z : (scope.names.lookup y == some NameKind.cell) = true := z
      have z : scope.names.lookup y = some .cell := by simpa using z
      have e : cenv.cells.lookup y = some c := e
      rw [hcl] at e
      rcases cells_mem (PySem.mem_of_lookup e) with hm | ⟨_, h2, _⟩
      · rcases cloFrom_mem hm with hm | ⟨h1, _⟩
        · cases hm
        · have q := ok.uniq _ h1
          rw [z] at q; cases q
      · rw [Heap.size_push] at h2
        exact Nat.le_of_succ_le h2
    · show b ≠ cenv.locals
      rw [hL]; exact Nat.ne_of_lt (hfp b hb).2
    · have e : cenv.cells.lookup y = some c := e
      rcases mem e with ⟨h1, _⟩ | ⟨h1, _⟩
      · exact (hfp b hb).1.2.2.2.2.1 y c h1 z
      · have h2 : s.heap.objs.size + 1 ≤ b := by rw [← z]; exact h1
        exact absurd (Nat.lt_of_lt_of_le (hfp b hb).2 (Nat.le_of_succ_le h2)) (Nat.lt_irrefl _)
    · rcases (hfp b hb).1.2.2.2.1 with z | z
      · exact I.ok.noex b o e z
      · exact absurd (Nat.lt_of_lt_of_le (Heap.lt_size e) (Nat.le_trans I.ok.bsz z)) (Nat.lt_irrefl _)
    · rcases List.mem_cons.mp (I.stkSub b z) with z | z
      · exact (hfp b hb).1.2.1 z
      · exact (hfp b hb).1.2.2.1 z
  refine ⟨okB, rfl, I.bare, Un.kept kp, ⟨fun _ => none, ?_, fun i y av e1 e2 e3 => ?_⟩, fun y c e => ?_, ?_, fun y c e => ?_, fun p hp => ?_, I.hok.kept kp, by rw [wipe_length]; exact I.len⟩
  · show Heap.Ns _ cenv.locals _
    rw [hL]
    exact Heap.Ns.keeps (Heap.Ns.new ..) fun b o e => pushCells_keeps _ _ _ _ e
  · obtain ⟨e2, hne⟩ := wipe_some e2
    have hfr : scope.names.lookup y = some .free ∧ (cenv.kindOf y = some .cell ∨ cenv.kindOf y = some .free) := by
      have key : ∀ k, cenv.scope.names.lookup y = some k → k = .local ∨ k = .cell ∨ k = .free → scope.names.lookup y = some .free ∧ (cenv.kindOf y = some .cell ∨ cenv.kindOf y = some .free) := fun k hk hk' => by
        have hk0 := hk
        rw [hsc] at hk
        obtain ⟨k', e, r⟩ := lookup_relS hk
        have no : ¬ (k' = .local ∨ k' = .cell) := fun hh => by
          rcases ok.own _ (PySem.mem_of_lookup e) hh with e' | e'
          · obtain ⟨p, hp, hpy⟩ := List.mem_map.mp e'
            have e3 := ok.ix p hp
            have : p.1 = y := hpy
            rw [this] at e3
            exact hne (List.mem_map.mpr ⟨p, hp, nodup_ix hN e3 e1⟩)
          · exact e' (List.mem_of_getElem? e1)
        rcases r with rfl | ⟨rfl, rfl⟩
        · rcases hk' with rfl | rfl | rfl
          · exact absurd (.inl rfl) no
          · exact absurd (.inr rfl) no
          · exact ⟨e, .inr hk0⟩
        · exact ⟨e, .inl hk0⟩
      have e3 : Vis cenv.scope y := e3
      rcases e3 with e3 | e3 | e3
      · exact key _ e3 (.inl rfl)
      · exact key _ e3 (.inr (.inl rfl))
      · exact key _ e3 (.inr (.inr rfl))
    obtain ⟨m, hn, hl⟩ := I.loc
    have hvis : Vis X.env.scope y := (ok.free _ (PySem.mem_of_lookup hfr.1) rfl).elim (fun k => .inr (.inl k)) (fun k => .inr (.inr k))
    obtain ⟨w, r, q⟩ := hl i y av e1 e2 hvis
    refine ⟨w, r, .inr ⟨hfr.2, ?_⟩⟩
    obtain ⟨c, h1, h2⟩ := look hfr.1
    rcases q with ⟨k, _⟩ | ⟨_, c', e', z⟩
    · have k : X.env.scope.names.lookup y = some .local := k
      rcases ok.free _ (PySem.mem_of_lookup hfr.1) rfl with k' | k' <;> rw [show X.env.scope.names.lookup y = _ from k'] at k <;> cases k
    · rw [h2] at e'; cases e'
      exact ⟨c, h1, z.keeps kp⟩
  · have e : cenv.cells.lookup y = some c := e
    rcases mem e with ⟨h1, _⟩ | ⟨_, z⟩
    · obtain ⟨w, z⟩ := I.cell y c h1
      exact ⟨w, z.keeps kp⟩
    · exact ⟨_, z⟩
  · show H cenv.locals = none
    rw [hL]; exact I.hok.fresh (Nat.le_refl _)
  · have e : cenv.cells.lookup y = some c := e
    rcases mem e with ⟨h1, _⟩ | ⟨h1, _⟩
    · exact I.freeC y c h1
    · exact I.hok.fresh (Nat.le_of_succ_le h1)
  · exact absurd (show p ∈ ([] : List (Addr × Obj)) ++ [] from hp) (by simp)

/-- an item appended to a tracked list -/
theorem app_ok {E : Value → Shared → Prop} {D : Addr} {xs : List V} {y : V} {v : Value} {Q : Value → Shared → Prop} (I : Inv X pins σ H s) (hD : H D = some (.lst xs)) (hz : xs.length < sizeLine) (r : RelV y v)
    (h : ∀ s', Inv X pins σ (upd H D (.lst (xs ++ [y]))) s' → Q .none s') : wpAny (model X.prog X.w) X.A (call (.builtin "list.append") [.ref D, v]) Q E s := by
  obtain ⟨hz', its, n, ri, e⟩ := I.hok D _ hD
  have hl := ri.length
  refine append_at (hsz := by rw [List.size_toArray]; omega) e fun h' sb ho' => ?_
  refine h { s with heap := h' } (I.write (t' := s.toks) (by rw [hD]; trivial) (.inl rfl) (fun b u hb q => (sb.2 b hb).trans q) ⟨_, ho'⟩ ⟨by rw [List.length_append]; exact hz, its ++ [v], n + 1, ri.append (.cons r .nil), ?_⟩)
  rw [ho']
  simp

/-- a clause's tests -/
def PTs (X : Cx) (ifs : List Expr) (t : TT) : Prop :=
  ∀ (pins : List (Addr × Obj)) (s : Shared) (σ : St) (H : Hp) (Q : Bool → Hp → Prop), Inv X pins σ H s → t σ H Q →
    wpAny (model X.prog X.w) X.A (forIn ifs true fun c r => if r = true then do let ok ← isTrue c X.env (eval c X.env); pure (ForInStep.yield ok) else pure (ForInStep.yield r)) (TP X pins σ Q) X.xe s
def tYes : TT := fun _ H Q => Q true H
theorem pts_nil : PTs X [] tYes := fun _ _ _ H _ I h => wpAny_tests_nil ⟨H, I, h⟩
theorem pts_one {c : Expr} {t : TT} (h : PT X c t) : PTs X [c] t := fun pins s σ H Q I hw => wpAny_tests_one (h pins s σ H Q I hw)
end

theorem thnF {α : Type} {t : Sem α} {Q Q' : α → Shared → Prop} {M : Model} {A : Around} {E : Value → Shared → Prop} {s : Shared} (h : wpAny M A t Q (fun _ _ => False) s) (hQ : ∀ a s, Q a s → Q' a s) : wpAny M A t Q' E s := wpAny_mono h hQ fun _ _ z => False.elim z

/-- the loop of a list comprehension's block, the target of any form (codeAny_compLoop_tests asks a target that no tuple goes to; statement and proof follow it, PyProof/CompMap.lean:41-61, with the step letOwnedTupleGo kept) -/
theorem compLoop_any {prog : Program} {w : World} {A : Around} {R : Result → Shared → Prop} {s : Shared} {elt target iter : Expr} {ifs : List Expr} {scope : Scope} {pos : Pos} {it acc : Value} {env : Env} (I : Nat → Shared → Prop)
    (turn : ∀ n s, I n s → wpAny (model prog w) A (pyNext it) (fun r s₁ => match r with
      | none => R (.ok .next) s₁
      | some v => wpAny (model prog w) A (letOwnedTupleGo target it v) (fun _ s₁' => wpAny (model prog w) A (assign target env v) (fun _ s₂ =>
          wpAny (model prog w) A (forIn ifs true fun c r => if r = true then do let ok ← isTrue c env (eval c env); pure (ForInStep.yield ok) else pure (ForInStep.yield r)) (fun ok s₃ =>
            if ok = true then wpAny (model prog w) A (eval elt env) (fun x s₄ =>
              wpAny (model prog w) A (call (.builtin "list.append") [acc, x]) (fun _ s₅ => ∃ m, m < n ∧ I m s₅) (notedBy (model prog w) A env fun e s' => R (.error e) s') s₄) (notedBy (model prog w) A env fun e s' => R (.error e) s') s₃
            else ∃ m, m < n ∧ I m s₃) (notedBy (model prog w) A env fun e s' => R (.error e) s') s₂) (notedBy (model prog w) A env fun e s' => R (.error e) s') s₁') (notedBy (model prog w) A env fun e s' => R (.error e) s') s₁) (notedBy (model prog w) A env fun e s' => R (.error e) s') s)
    (n : Nat) (h : I n s) :
    codeAny (model prog w) A (.compLoop (.ListComp elt [⟨target, iter, ifs, 0⟩] scope pos) 0 it acc env) R s := by
  refine codeAny_loop rfl I (fun n s hI => ?_) n h
  show wpAny _ A ((compTurn (.ListComp elt [⟨target, iter, ifs, 0⟩] scope pos) 0 it acc env).onRaise (fun x => do noteFrame x env; theTreesLotGoes x)) _ _ s
  refine wpAny_noted ?_
  rw [compTurn_list]
  refine wpAny_bind (wpAny_standAt (wpAny_bind (wpAny_mono (turn n s hI) (fun r s₁ h₁ => ?_) fun _ _ h' => h')))
  cases r with
  | none => exact wpAny_pure h₁
  | some v =>
    refine wpAny_bind (wpAny_mono h₁ (fun _ s₁' h₁' => ?_) fun _ _ h' => h')
    refine wpAny_bind (wpAny_mono h₁' (fun _ s₂ h₂ => wpAny_bind (wpAny_mono h₂ (fun ok s₃ h₃ => ?_) fun _ _ h' => h')) fun _ _ h' => h')
    cases ok with
    | false => exact wpAny_pure ⟨rfl, h₃⟩
    | true =>
      exact wpAny_bind (wpAny_bind (wpAny_mono h₃ (fun x s₄ h₄ => wpAny_bind (wpAny_mono h₄ (fun _ s₅ h₅ => wpAny_pure (wpAny_pure ⟨rfl, h₅⟩)) fun _ _ h' => h')) fun _ _ h' => h'))

section
variable {X : Cx}
/-- [elt for target in iter if ..]: D the new list; W by the turn and a measure, Nx what a turn is to reach -/
def tLc (wi : TI) (g : TG) (tt : TT) (te : TE) (vs : List Nat) : TE := fun σ H Q => wi σ H fun J H1 => ∀ D, H1 D = none → ∃ W : Nat → Nat → Hp → Prop, (∃ m, W 0 m (upd H1 D (.lst []))) ∧ ∀ i m H, W i m H →
  (J.stop i H ∧ Q (.ref D) H) ∨ (J.go i H ∧ ∃ Nx : Hp → Prop, (∀ H', Nx H' → ∃ m', m' < m ∧ W (i + 1) m' H') ∧ ∀ x H', J.yld i H x H' → g x (wipe σ vs) H' fun σ2 H2 => wipe σ2 vs = wipe σ vs ∧ tt σ2 H2 fun b H3 =>
    if b = true then te σ2 H3 fun y H4 => ∃ acc, H4 D = some (.lst acc) ∧ acc.length < sizeLine ∧ Nx (upd H4 D (.lst (acc ++ [y]))) else Nx H3)
theorem lc_core {pins : List (Addr × Obj)} {s : Shared} {σ : St} {H : Hp} {Q : VK} {elt tg iter : Expr} {ifs : List Expr} {scope : Scope} {own : List (Str × Nat)} {pos pos' : Pos} {wi : TI} {g : TG} {tt : TT} {te : TE} {use : Option (Value → Sem Unit)} {Qf : Value → Shared → Prop}
    (hc : X.calm = true) (hN : X.N.Nodup) (I : Inv X pins σ H s) (hi : PI X tg iter wi) (ok : BlkOk X.N X.env.scope scope own)
    (hg : ∀ (s : Shared) (H : Hp) (C : Addr) (cl : List (Str × Addr)) (fp : List Addr), PG (X.blk s H scope (compEnvC scope cl C X.env) fp) tg g) (ht : ∀ (s : Shared) (H : Hp) (C : Addr) (cl : List (Str × Addr)) (fp : List Addr), PTs (X.blk s H scope (compEnvC scope cl C X.env) fp) ifs tt)
    (he : ∀ (s : Shared) (H : Hp) (C : Addr) (cl : List (Str × Addr)) (fp : List Addr), PE (X.blk s H scope (compEnvC scope cl C X.env) fp) elt te) (hs : ∀ x, foldedSetIterable iter X.env x = pure x)
    (h : tLc wi g tt te (own.map (·.2)) σ H Q)
    (hRR : ∀ D C s' m H', Inv X pins σ H' s' → Q (.ref D) H' → s'.heap.Ns C m → FpOk X pins H' C → compPost (model X.prog X.w) X.A X.xe use Qf (.ref D) C (.ok .next) s') :
    wpAny (model X.prog X.w) X.A (comprehension (.ListComp elt [⟨tg, iter, ifs, 0⟩] scope pos) scope X.env pos' (newList []) false (eval iter X.env) use) Qf X.xe s := by
  have hfree : ∀ y ∈ scope.names, y.2 = .free → ∃ c, X.env.cells.lookup y.1 = some c := fun y hy e => by
    rcases ok.free y hy e with k | k
    · exact I.ok.has _ (.inl k)
    · exact I.ok.has _ (.inr k)
  refine wpAny_comprehension_free (use := use) rfl hs (closure_ok hfree) ok.kind (fun y hy e => by rw [ok.uniq y hy, e])
    (thn (hi pins s σ H _ I h) fun xv s1 hx => thn hx fun itv s2 h2 => ?_)
  obtain ⟨it, fp, tn, J, H2, e, I2, T, st2, f2, q⟩ := h2
  subst e
  refine wpAny_newObj_type (newEnv_comp ?_) (by show 0 ≤ sizeLine; decide)
  generalize hD : s2.heap.objs.size = D
  have hDn : H2 D = none := I2.hok.fresh (Nat.le_of_eq hD)
  obtain ⟨W, ⟨m0, w0⟩, turn⟩ := q D hDn
  -- the new list
  generalize hs3 : ({ s2 with heap := s2.heap.push { cls := .type "list", data := .seq ([] : List Value).toArray } } : Shared) = s3
  have I3 : Inv X pins σ (upd H2 D (.lst [])) s3 := by
    rw [← hs3]
    refine I2.laid (t' := s2.toks) (fun b o e => Heap.get?_push_of_some _ e) (Nat.le_of_eq hD) ⟨Nat.zero_le _, [], 0, .nil, ?_⟩
    rw [← hD]
    exact Heap.get?_push_size _ rfl
  have h3 : s3.heap = s2.heap.push { cls := .type "list", data := .seq ([] : List Value).toArray } := by rw [← hs3]
  have sz : ∀ b ∈ fp, b < s2.heap.objs.size := fun b hb => by
    obtain ⟨o, e, _⟩ := T.obj _ _ st2 b hb
    exact Heap.lt_size e
  have f3 : ∀ b ∈ fp, FpOk X pins (upd H2 D (.lst [])) b ∧ b < s3.heap.objs.size := fun b hb => by
    have hlt := sz b hb
    refine ⟨⟨?_, (f2 b hb).2⟩, by rw [h3, Heap.size_push]; exact Nat.lt_succ_of_lt hlt⟩
    rw [upd_ne (by rw [← hD]; exact Nat.ne_of_lt hlt)]
    exact (f2 b hb).1
  have st3 : tn 0 s3.heap := T.keep _ _ _ st2 fun b _ o e => by rw [h3]; exact Heap.get?_push_of_some _ e
  have I4 := block_start I3 ok hN f3
  have pg := hg s3 (upd H2 D (.lst [])) s3.heap.objs.size (cellsFrom (s3.heap.objs.size + 1) scope.names (cloFrom X.env.cells scope.names [])) fp
  have pt := ht s3 (upd H2 D (.lst [])) s3.heap.objs.size (cellsFrom (s3.heap.objs.size + 1) scope.names (cloFrom X.env.cells scope.names [])) fp
  have pe := he s3 (upd H2 D (.lst [])) s3.heap.objs.size (cellsFrom (s3.heap.objs.size + 1) scope.names (cloFrom X.env.cells scope.names [])) fp
  show codeAny _ _ (.compStart (.ListComp elt [⟨tg, iter, ifs, 0⟩] scope pos) 0 (.ref it) (.ref D) (compEnvC scope (cellsFrom (s3.heap.objs.size + 1) scope.names (cloFrom X.env.cells scope.names [])) s3.heap.objs.size X.env)) (compPost (model X.prog X.w) X.A X.xe use Qf (.ref D) s3.heap.objs.size) { s3 with heap := pushCells (s3.heap.push { cls := .type "dict", data := .dict #[] }) scope.names }
  have nfp : ∀ b ∈ fp, (upd H2 D (.lst [])) b = none := fun b hb => (f3 b hb).1.1
  generalize hce : compEnvC scope (cellsFrom (s3.heap.objs.size + 1) scope.names (cloFrom X.env.cells scope.names [])) s3.heap.objs.size X.env = ce at I4 pg pt pe ⊢
  have cL : ce.locals = s3.heap.objs.size := by subst hce; rfl
  generalize hH3 : upd H2 D (.lst []) = H3 at I3 I4 pg pt pe w0 nfp f3
  generalize hs4 : ({ s3 with heap := pushCells (s3.heap.push { cls := .type "dict", data := .dict #[] }) scope.names } : Shared) = s4 at I4 ⊢
  have st4 : tn 0 s4.heap := T.keep _ _ _ st3 fun b _ o e => by rw [← hs4]; exact pushCells_keeps _ _ _ _ (Heap.get?_push_of_some _ e)
  have stat : ∀ {σ' : St} {H' : Hp} {s' : Shared}, Inv (X.blk s3 H3 scope ce fp) [] σ' H' s' → (∀ b ∈ fp, H' b = none) → ∀ b ∈ fp, FpOk (X.blk s3 H3 scope ce fp) [] H' b := fun {σ' H' s'} I' hn b hb =>
    ⟨hn b hb, (I'.ok.exf b hb).1, I'.ok.exfs b hb, .inl hb, fun x c e => (I'.ok.exf b hb).2 x c e, fun p hp => absurd (show p ∈ ([] : List (Addr × Obj)) ++ [] from hp) (by simp)⟩
  have loop : codeAny (model X.prog X.w) X.A (.compLoop (.ListComp elt [⟨tg, iter, ifs, 0⟩] scope pos) 0 (.ref it) (.ref D) ce) (compPost (model X.prog X.w) X.A X.xe use Qf (.ref D) s3.heap.objs.size) s4 := by
    refine compLoop_any (fun n s' => ∃ i H', Inv (X.blk s3 H3 scope ce fp) [] (wipe σ (own.map (·.2))) H' s' ∧ tn i s'.heap ∧ (∀ b ∈ fp, H' b = none) ∧ W i n H') ?_ m0 ⟨0, H3, I4, st4, nfp, w0⟩
    rintro n s5 ⟨i, H5, I5, st5, n5, w5⟩
    rcases turn i n H5 w5 with ⟨stop, qq⟩ | ⟨go, Nx, hNx, step⟩
    · have td := T.done (X.blk s3 H3 scope ce fp) rfl rfl rfl hc i [] s5 _ H5 (fun _ _ => False) I5 (stat I5 n5) st5 stop
      refine thnF td fun r s6 ⟨hr, I6⟩ => ?_
      subst hr
      -- back in the def's context
      have I7 : Inv X pins σ H5 s6 := I3.call' (ch := fp) I6.os I6.base I6.hok I6.bare fun b hb => ⟨(f3 b hb).1.2.2.2.1, (f3 b hb).1.2.1, (f3 b hb).1.2.2.2.2.1, (f3 b hb).1.2.2.2.2.2⟩
      have nC : H5 s3.heap.objs.size = none := by
        have z : H5 ce.locals = none := I6.free
        rw [cL] at z
        exact z
      obtain ⟨m, hn, _⟩ := I6.loc
      have hn : s6.heap.Ns ce.locals m := hn
      rw [cL] at hn
      exact hRR D s3.heap.objs.size s6 m H5 I7 qq hn (I3.fpOk (Nat.le_refl _) nC)
    · have ti := T.item (X.blk s3 H3 scope ce fp) rfl rfl rfl hc i [] s5 _ H5 (fun _ _ => False) I5 (stat I5 n5) st5 go
      refine thnF ti fun r s6 ⟨u, hr, h6⟩ => ?_
      subst hr
      refine thnF h6 fun _ s7 ⟨x, H7, I7, r7, y7, st7, n7⟩ => ?_
      have I7' := I7.pinned (stat I7 n7) (T.obj _ _ st7)
      refine thnF (pg _ s7 _ H7 x u _ I7' r7 (step x H7 y7)) fun _ s8 ⟨σ8, H8, I8, hw8, q8⟩ => ?_
      refine thnF (pt _ s8 σ8 H8 _ I8 q8) fun b s9 ⟨H9, I9, q9⟩ => ?_
      -- the turn's end
      have fin : ∀ {s' : Shared} {H' : Hp}, Inv (X.blk s3 H3 scope ce fp) ([] ++ pinsAt fp s7.heap) σ8 H' s' → Nx H' → ∃ m, m < n ∧ ∃ i H', Inv (X.blk s3 H3 scope ce fp) [] (wipe σ (own.map (·.2))) H' s' ∧ tn i s'.heap ∧ (∀ b ∈ fp, H' b = none) ∧ W i m H' := fun {s' H'} I' nx => by
        obtain ⟨m', hm, w'⟩ := hNx H' nx
        have pin' : ∀ b ∈ fp, ∀ o, s7.heap.get? b = some o → s'.heap.get? b = some o ∧ H' b = none := fun b hb o e =>
          let z := I'.pin (b, o) (List.mem_append_right _ (List.mem_append_right _ (mem_pinsAt hb e)))
          ⟨z.1, z.2.1⟩
        have hl : (wipe σ (own.map (·.2))).length = σ8.length := by rw [← hw8, wipe_length]
        refine ⟨m', hm, i + 1, H', (I'.unpinned (pins := [])).weak hl (fun j v e => ?_), T.keep _ _ _ st7 fun b hb o e => (pin' b hb o e).1, fun b hb => ?_, w'⟩
        · rw [← hw8] at e
          exact (wipe_some e).1
        · obtain ⟨o, e, _⟩ := T.obj _ _ st7 b hb
          exact (pin' b hb o e).2
      cases b with
      | false =>
        simp only [Bool.false_eq_true, if_false] at q9 ⊢
        exact fin I9 q9
      | true =>
        simp only [if_true] at q9 ⊢
        refine thnF (pe _ s9 σ8 H9 _ I9 q9) fun z s10 ⟨yv, H10, I10, r10, acc, hD10, hz10, nx⟩ => ?_
        exact app_ok (X := X.blk s3 H3 scope ce fp) I10 hD10 hz10 r10 fun s11 I11 => fin I11 nx
  exact codeAny_compStart_list loop (T.self X.A 0 _ _ _ st4 loop)
/-- as a value -/
theorem pe_lc {elt tg iter : Expr} {ifs : List Expr} {scope : Scope} {own : List (Str × Nat)} {pos : Pos} {wi : TI} {g : TG} {tt : TT} {te : TE} (hc : X.calm = true) (hN : X.N.Nodup) (hi : PI X tg iter wi) (ok : BlkOk X.N X.env.scope scope own)
    (hg : ∀ (s : Shared) (H : Hp) (C : Addr) (cl : List (Str × Addr)) (fp : List Addr), PG (X.blk s H scope (compEnvC scope cl C X.env) fp) tg g) (ht : ∀ (s : Shared) (H : Hp) (C : Addr) (cl : List (Str × Addr)) (fp : List Addr), PTs (X.blk s H scope (compEnvC scope cl C X.env) fp) ifs tt)
    (he : ∀ (s : Shared) (H : Hp) (C : Addr) (cl : List (Str × Addr)) (fp : List Addr), PE (X.blk s H scope (compEnvC scope cl C X.env) fp) elt te) (hs : ∀ x, foldedSetIterable iter X.env x = pure x := by intro _; rfl) :
    PE X (.ListComp elt [⟨tg, iter, ifs, 0⟩] scope pos) (tLc wi g tt te (own.map (·.2))) := by
  intro pins s σ H Q I h
  rw [eval_ListComp]
  refine lc_core hc hN I hi ok hg ht he hs h fun D C s' m H' I' q hn f => ⟨m, hn, fun h'' sb => ?_⟩
  obtain ⟨f0, f1, f2, f3, f4, f5⟩ := f
  exact ⟨.ref D, H', I'.turned (t' := s'.toks) (fun b o hb e => (sb.2 b hb).trans e) f0 f1 f3 f4 f5, rfl, q⟩
end

/-! ### the forms one uses -/
def blkC (N : List Str) (sc scope : Scope) (own : List (Str × Nat)) : Bool :=
  (match scope.kind with | .function => true | _ => false) && (scope.names.all fun y => decide (scope.names.lookup y.1 = some y.2)) && (own.all fun p => decide (N[p.2]? = some p.1)) &&
    (scope.names.all fun y => match y.2 with
      | .free => (match sc.names.lookup y.1 with | some .cell => true | some .free => true | _ => false)
      | .local => decide (y.1 ∈ own.map (·.1)) || decide (y.1 ∉ N)
      | .cell => decide (y.1 ∈ own.map (·.1)) || decide (y.1 ∉ N)
      | _ => true)
theorem blkOk_by {N : List Str} {sc scope : Scope} {own : List (Str × Nat)} (h : blkC N sc scope own = true) : BlkOk N sc scope own := by
  unfold blkC at h
  simp only [Bool.and_eq_true, List.all_eq_true, decide_eq_true_eq] at h
  obtain ⟨⟨⟨h1, h2⟩, h3⟩, h4⟩ := h
  refine ⟨?_, h2, h3, fun y hy e => ?_, fun y hy e => ?_⟩
  · split at h1
    · assumption
    · cases h1
  · have q := h4 y hy
    simp only [e] at q
    split at q <;> first | exact .inl (by assumption) | exact .inr (by assumption) | cases q
  · have q := h4 y hy
    rcases e with e | e <;> (simp only [e, Bool.or_eq_true, decide_eq_true_eq] at q; exact q)
end L2

namespace L2
open PySem PySem.Spec PyProof.Rows

section
variable {prog : Program} {w : World} {A : Around} {R : Result → Shared → Prop} {s : Shared} {elt t0 i0 t1 i1 : Expr} {ifs0 ifs1 : List Expr} {scope : Scope} {pos : Pos} {it acc : Value} {env : Env}
end

section
variable {X : Cx}
/-- [elt for tg in iter if .. for tg1 in iter1 if ..]: behind the first clause's store and tests the second source's own loop, from which Nx is reached. vs: the block's names; vs1: those of the second target -/
def tLc2 (wi : TI) (g : TG) (tt : TT) (wi1 : TI) (g1 : TG) (tt1 : TT) (te : TE) (vs vs1 : List Nat) : TE := fun σ H Q => wi σ H fun J H1 => ∀ D, H1 D = none → ∃ W : Nat → Nat → Hp → Prop, (∃ m, W 0 m (upd H1 D (.lst []))) ∧ ∀ i m H, W i m H →
  (J.stop i H ∧ Q (.ref D) H) ∨ (J.go i H ∧ ∃ Nx : Hp → Prop, (∀ H', Nx H' → ∃ m', m' < m ∧ W (i + 1) m' H') ∧ ∀ x H', J.yld i H x H' → g x (wipe σ vs) H' fun σ2 H2 => wipe σ2 vs = wipe σ vs ∧ tt σ2 H2 fun b H3 =>
    if b = true then wi1 σ2 H3 fun J1 H4 => ∃ W1 : Nat → Nat → Hp → Prop, (∃ m, W1 0 m H4) ∧ ∀ j k H, W1 j k H →
      (J1.stop j H ∧ Nx H) ∨ (J1.go j H ∧ ∃ Nx1 : Hp → Prop, (∀ H', Nx1 H' → ∃ k', k' < k ∧ W1 (j + 1) k' H') ∧ ∀ x H', J1.yld j H x H' → g1 x (wipe σ2 vs1) H' fun σ3 H5 => wipe σ3 vs1 = wipe σ2 vs1 ∧ tt1 σ3 H5 fun b H6 =>
        if b = true then te σ3 H6 fun y H7 => ∃ acc, H7 D = some (.lst acc) ∧ acc.length < sizeLine ∧ Nx1 (upd H7 D (.lst (acc ++ [y]))) else Nx1 H6)
    else Nx H3)
end
end L2

namespace L2
open PySem PySem.Spec PyProof.Rows

/-! ### lists of pairs as tables -/
section
variable {κ : Type} [DecidableEq κ]
def valV (kvs : List (κ × V)) (k : κ) : Option V := (kvs.find? fun kv => decide (kv.1 = k)).map (·.2)
/-- in its place, or at the end -/
def putK (kvs : List (κ × V)) (k : κ) (v : V) : List (κ × V) :=
  if (kvs.any fun kv => decide (kv.1 = k)) = true then kvs.map (fun kv => if kv.1 = k then (kv.1, v) else kv) else kvs ++ [(k, v)]
def dropK (kvs : List (κ × V)) (k : κ) : List (κ × V) := kvs.filter fun kv => decide (kv.1 ≠ k)

theorem valV_pos {p : κ × V} {r : List (κ × V)} {k : κ} (e : p.1 = k) : valV (p :: r) k = some p.2 := by simp [valV, List.find?_cons, e]
theorem valV_neg {p : κ × V} {r : List (κ × V)} {k : κ} (e : ¬ p.1 = k) : valV (p :: r) k = valV r k := by simp [valV, List.find?_cons, e]
theorem valV_any (k : κ) : ∀ kvs : List (κ × V), (kvs.any fun kv => decide (kv.1 = k)) = (valV kvs k).isSome
  | [] => rfl
  | p :: r => by
    rw [List.any_cons]
    by_cases e : p.1 = k
    · simp only [valV_pos e, decide_eq_true e, Bool.true_or, Option.isSome_some]
    · rw [valV_neg e, decide_eq_false e, Bool.false_or]; exact valV_any k r
theorem length_putK (kvs : List (κ × V)) (k : κ) (v : V) : (putK kvs k v).length ≤ kvs.length + 1 := by
  unfold putK
  split
  · rw [List.length_map]; omega
  · rw [List.length_append, List.length_cons, List.length_nil]; omega
theorem RelO.isSome_eq {o : Option V} {u : Option Value} (r : RelO o u) : o.isSome = u.isSome := by
  cases o with
  | none => cases u with
    | none => rfl
    | some _ => exact (show False from r).elim
  | some _ => cases u with
    | none => exact (show False from r).elim
    | some _ => rfl
/-- raw tables of the same keys -/
theorem KV.val {kvs : List (κ × V)} {vs : List (κ × Value)} (r : KV kvs vs) (k : κ) : RelO (valV kvs k) (valueAt vs k) := by
  unfold KV at r
  induction r with
  | nil => exact True.intro
  | @cons p q ps qs h t ih =>
    obtain ⟨h1, h2⟩ := h
    by_cases e : p.1 = k
    · have e' : q.1 = k := h1.symm.trans e
      have b : valueAt (q :: qs) k = some q.2 := by simp [valueAt, List.find?_cons, e']
      rw [valV_pos e, b]; exact h2
    · have e' : ¬ q.1 = k := fun z => e (h1.trans z)
      have b : valueAt (q :: qs) k = valueAt qs k := by simp [valueAt, List.find?_cons, e']
      rw [valV_neg e, b]; exact ih
theorem KV.any {kvs : List (κ × V)} {vs : List (κ × Value)} (r : KV kvs vs) (k : κ) : (kvs.any fun kv => decide (kv.1 = k)) = vs.any fun kv => decide (kv.1 = k) := by
  unfold KV at r
  induction r with
  | nil => rfl
  | cons h t ih => rw [List.any_cons, List.any_cons, ih, h.1]
theorem KV.repl {kvs : List (κ × V)} {vs : List (κ × Value)} (r : KV kvs vs) (k : κ) {y : V} {u : Value} (ry : RelV y u) :
    KV (kvs.map fun kv => if kv.1 = k then (kv.1, y) else kv) (vs.map fun kv => if kv.1 = k then (kv.1, u) else kv) := by
  unfold KV at r ⊢
  induction r with
  | nil => exact .nil
  | @cons p q ps qs h t ih =>
    rw [List.map_cons, List.map_cons]
    refine .cons ?_ ih
    obtain ⟨h1, h2⟩ := h
    by_cases e : p.1 = k
    · rw [if_pos e, if_pos (h1.symm.trans e)]; exact ⟨h1, ry⟩
    · rw [if_neg e, if_neg (fun z => e (h1.trans z))]; exact ⟨h1, h2⟩
theorem KV.put {kvs : List (κ × V)} {vs : List (κ × Value)} (r : KV kvs vs) (k : κ) {y : V} {u : Value} (ry : RelV y u) : KV (putK kvs k y) (stored vs k u) := by
  unfold putK stored
  rw [r.any k]
  by_cases e : (vs.any fun kv => decide (kv.1 = k)) = true
  · rw [if_pos e, if_pos e]; exact r.repl k ry
  · rw [if_neg e, if_neg e]; exact Paired.snoc r ⟨rfl, ry⟩
theorem KV.length {kvs : List (κ × V)} {vs : List (κ × Value)} (r : KV kvs vs) : kvs.length = vs.length := Paired.length r
end


/-! ### a tracked dict, its keys ints and texts or tuples of these -/
theorem kV_is {P : Program} {w : World} {k : Key} {u : Value} (r : RelV (kV k) u) : (mixKind P w).is k u = true := by
  cases k with
  | inl i => obtain ⟨t, e⟩ := (show ∃ t, u = Value.int i t from r); subst e; exact mixKind_int P w i t
  | inr x => obtain ⟨t, e⟩ := (show ∃ t, u = Value.str x t from r); subst e; exact mixKind_str P w x t
theorem items_are {P : Program} {w : World} : ∀ {ks : List Key} {us : List Value}, Vals (ks.map kV) us → ItemsAre (mixKind P w) ks us
  | [], _, r => by rw [List.map_nil] at r; cases r; exact .nil
  | k :: ks, _, r => by
    rw [List.map_cons] at r
    cases r with
    | cons h t => exact .cons (kV_is h) (items_are t)

/-- raw entries of a dict with tuple keys -/
abbrev KT (H : Hp) : List (List Key × V) → List (List Key × Addr × Value) → Prop := Paired fun p q => p.1 = q.1 ∧ H q.2.1 = some (.tup (p.1.map kV)) ∧ RelV p.2 q.2.2
theorem KT.val {H : Hp} {kvs : List (List Key × V)} {xs : List (List Key × Addr × Value)} (r : KT H kvs xs) (k : List Key) : RelO (valV kvs k) ((atKey xs k).map (·.2)) := by
  induction r with
  | nil => exact True.intro
  | @cons p q ps qs h t ih =>
    obtain ⟨h1, _, h2⟩ := h
    by_cases e : p.1 = k
    · have e' : q.1 = k := h1.symm.trans e
      have b : atKey (q :: qs) k = some q.2 := by simp [atKey, List.find?_cons, e']
      rw [valV_pos e, b]; exact h2
    · have e' : ¬ q.1 = k := fun z => e (h1.trans z)
      have b : atKey (q :: qs) k = atKey qs k := by simp [atKey, List.find?_cons, e']
      rw [valV_neg e, b]; exact ih
theorem KT.repl {H : Hp} {kvs : List (List Key × V)} {xs : List (List Key × Addr × Value)} (r : KT H kvs xs) (k : List Key) {y : V} {u : Value} (ry : RelV y u) :
    KT H (kvs.map fun kv => if kv.1 = k then (kv.1, y) else kv) (xs.map (putAt k u)) := by
  induction r with
  | nil => exact .nil
  | @cons p q ps qs h t ih =>
    rw [List.map_cons, List.map_cons]
    refine .cons ?_ ih
    obtain ⟨h1, h2, h3⟩ := h
    unfold putAt
    by_cases e : p.1 = k
    · rw [if_pos e, if_pos (h1.symm.trans e)]; exact ⟨h1, h2, ry⟩
    · rw [if_neg e, if_neg (fun z => e (h1.trans z))]; exact ⟨h1, h2, h3⟩
theorem KT.put {H : Hp} {kvs : List (List Key × V)} {xs : List (List Key × Addr × Value)} (r : KT H kvs xs) (k : List Key) {b : Addr} {y : V} {u : Value} (hb : H b = some (.tup (k.map kV))) (ry : RelV y u) :
    KT H (putK kvs k y) (storedH xs k b u) := by
  have e : (kvs.any fun kv => decide (kv.1 = k)) = (atKey xs k).isSome := by
    rw [valV_any, (r.val k).isSome_eq, Option.isSome_map]
  unfold putK storedH
  rw [e]
  by_cases q : (atKey xs k).isSome = true
  · rw [if_pos q, if_pos q]; exact r.repl k ry
  · rw [if_neg q, if_neg q]; exact Paired.snoc r ⟨rfl, hb, ry⟩
theorem KT.keeps {H H' : Hp} {kvs : List (List Key × V)} {xs : List (List Key × Addr × Value)} (r : KT H kvs xs) (ht : ∀ b ys, H b = some (.tup ys) → H' b = some (.tup ys)) : KT H' kvs xs :=
  Paired.mapP r fun _ _ z => ⟨z.1, ht _ _ z.2.1, z.2.2⟩

section
variable {P : Program} {w : World} {H : Hp} {h : Heap} {a : Addr}
theorem rd_of {u : HO} (ok : HOk P w H h) (e : Rd H a u) : ObjOk P w H h a u := e.ok ok
theorem dk_rd {kvs : List (Key × V)} (ok : HOk P w H h) (e : Rd H a (.dK kvs)) : kvs.length ≤ sizeLine ∧ (a == sysModules) = false ∧ ∃ vs, KV kvs vs ∧ h.DictOf (mixKind P w) a vs :=
  show ObjOk P w H h a (.dK kvs) from rd_of ok e
theorem dk_of {kvs : List (Key × V)} (ok : HOk P w H h) (e : H a = some (.dK kvs)) : kvs.length ≤ sizeLine ∧ (a == sysModules) = false ∧ ∃ vs, KV kvs vs ∧ h.DictOf (mixKind P w) a vs := dk_rd ok (.inl e)
/-- a tracked tuple of ints and texts is a key -/
theorem key_of {ks : List Key} (ok : HOk P w H h) (e : H a = some (.tup (ks.map kV))) : (tupleKind (mixKind P w)).is h ks a := by
  obtain ⟨_, its, r, o, h1, h2, n, h3⟩ := (show ObjOk P w H h a (.tup (ks.map kV)) from ok a _ e)
  exact ⟨o, its.toArray, n, h1, h2, h3, by simpa using items_are r⟩
theorem dt_rd {kvs : List (List Key × V)} (ok : HOk P w H h) (e : Rd H a (.dT kvs)) : kvs.length ≤ sizeLine ∧ (a == sysModules) = false ∧
    ∃ xs, KT H kvs xs ∧ h.DictOfH (tupleKind (mixKind P w)) a xs := by
  obtain ⟨z, y, xs, r, o, es, ep, h1, h2, h3, h4, h5⟩ := (show ObjOk P w H h a (.dT kvs) from rd_of ok e)
  refine ⟨z, y, xs, r, o, es, ep, h1, h2, h3, h4, fun x hx => ?_, h5⟩
  have all : ∀ {l : List (List Key × V)} {m : List (List Key × Addr × Value)}, KT H l m → ∀ x ∈ m, (tupleKind (mixKind P w)).is h x.1 x.2.1 := by
    intro l m q
    induction q with
    | nil => intro x hx; exact nomatch hx
    | @cons p q ps qs hq t ih =>
      intro x hx
      rcases List.mem_cons.mp hx with e | hx
      · subst e
        exact key_of ok (by rw [← hq.1]; exact hq.2.1)
      · exact ih x hx
  exact all r x hx
theorem dt_of {kvs : List (List Key × V)} (ok : HOk P w H h) (e : H a = some (.dT kvs)) : kvs.length ≤ sizeLine ∧ (a == sysModules) = false ∧
    ∃ xs, KT H kvs xs ∧ h.DictOfH (tupleKind (mixKind P w)) a xs := dt_rd ok (.inl e)
end

/-- what the dict at a holds at the key y -/
def DGet (H : Hp) (a : Addr) (y : V) (r : Option V) : Prop :=
  (∃ kvs k, Rd H a (.dK kvs) ∧ y = kV k ∧ r = valV kvs k) ∨ ∃ kvs k b, Rd H a (.dT kvs) ∧ y = .ref b ∧ H b = some (.tup (k.map kV)) ∧ r = valV kvs k
/-- the heap behind a[y] = v -/
def DPut (H : Hp) (a : Addr) (y v : V) (H' : Hp) : Prop :=
  (∃ kvs k, H a = some (.dK kvs) ∧ y = kV k ∧ kvs.length < sizeLine ∧ H' = upd H a (.dK (putK kvs k v))) ∨
  ∃ kvs k b, H a = some (.dT kvs) ∧ y = .ref b ∧ H b = some (.tup (k.map kV)) ∧ kvs.length < sizeLine ∧ H' = upd H a (.dT (putK kvs k v))
theorem DGet.t {H : Hp} {a b : Addr} {kvs : List (List Key × V)} {k : List Key} (e : H a = some (.dT kvs)) (eb : H b = some (.tup (k.map kV))) : DGet H a (.ref b) (valV kvs k) := .inr ⟨kvs, k, b, .inl e, rfl, eb, rfl⟩
theorem DPut.t {H : Hp} {a b : Addr} {kvs : List (List Key × V)} {k : List Key} {v : V} (e : H a = some (.dT kvs)) (eb : H b = some (.tup (k.map kV))) (hl : kvs.length < sizeLine) :
    DPut H a (.ref b) v (upd H a (.dT (putK kvs k v))) := .inr ⟨kvs, k, b, e, rfl, eb, hl, rfl⟩


section
variable {X : Cx} {pins : List (Addr × Obj)} {σ : St} {H : Hp} {s : Shared} {a : Addr} {y v : V} {u r : Value} {o : Option V} {A : Around} {E : Value → Shared → Prop}

theorem Inv.big (I : Inv X pins σ H s) : sysModules < s.heap.objs.size := by
  have h : mainGlobals < s.heap.objs.size := (I.mod.glob.keeps I.bk).lt
  exact Nat.lt_trans (by decide) h

/-- y in d -/
theorem d_in {Q : Value → Shared → Prop} (hu : A.units + 1 < cLine) (I : Inv X pins σ H s) (g : DGet H a y o) (ry : RelV y u) (h : ∀ s', Inv X pins σ H s' → Q (.bool o.isSome) s') :
    wpAny (model X.prog X.w) A (compareOp .In u (.ref a)) Q E s := by
  rcases g with ⟨kvs, k, e, ey, l⟩ | ⟨kvs, k, b, e, ey, eb, l⟩
  · subst ey
    obtain ⟨z, hd, vs, rel, dd⟩ := dk_rd I.hok e
    refine wpAny_in_of (kV_is ry) hd dd.mapOf ?_
    rw [← (rel.val k).isSome_eq, ← l]
    exact h _ (I.tok _)
  · subst ey
    cases (show u = Value.ref b from ry)
    obtain ⟨z, hd, xs, rel, dd⟩ := dt_rd I.hok e
    refine wpAny_in_heap (tupleKind_room_in1 hu) (key_of I.hok eb) hd dd ?_
    have q := (rel.val k).isSome_eq
    rw [Option.isSome_map] at q
    rw [← q, ← l]
    exact h _ (I.tok _)
/-- a dict's object is replaced -/
theorem d_write {h' : Heap} {t' : Nat} {ob : HO} (I : Inv X pins σ H s) (mu : Mut (H a)) (hs : Heap.SameBut a s.heap h') (he : ∃ q, h'.get? a = some q) (new : ObjOk X.prog X.w (upd H a ob) h' a ob) :
    Inv X pins σ (upd H a ob) { s with heap := h', toks := t' } :=
  I.write (x := a) (e := a) mu (.inl rfl) (fun b q hb z => (hs.2 b hb).trans z) he new
theorem dk_new {P : Program} {w : World} {H' : Hp} {h' : Heap} {kvs : List (Key × V)} {vs : List (Key × Value)} (z : kvs.length ≤ sizeLine) (hd : (a == sysModules) = false) (rel : KV kvs vs) (dd : h'.DictOf (mixKind P w) a vs) :
    ObjOk P w H' h' a (.dK kvs) := ⟨z, hd, vs, rel, dd⟩
/-- d[y] = v -/
theorem d_setItem {H' : Hp} {Q : Unit → Shared → Prop} (hu : A.units + 1 < cLine) (I : Inv X pins σ H s) (g : DPut H a y v H') (ry : RelV y u) (rv : RelV v r) (h : ∀ s', Inv X pins σ H' s' → Q () s') :
    wpAny (model X.prog X.w) A (setItem (.ref a) u r) Q E s := by
  rcases g with ⟨kvs, k, e, ey, l, eH⟩ | ⟨kvs, k, b, e, ey, eb, l, eH⟩
  · subst ey eH
    obtain ⟨z, hd, vs, rel, dd⟩ := dk_of I.hok e
    have hz : vs.length ≤ sizeLine := by rw [← rel.length]; exact z
    have hl : (putK kvs k v).length ≤ sizeLine := by have := length_putK kvs k v; omega
    refine wpAny_setItem_pairs (hsz := hz) (kV_is ry) dd fun h' dd' hs => h _ ?_
    have he : ∃ q, h'.get? a = some q := let ⟨q, _, _, hq, _⟩ := dd'; ⟨q, hq⟩
    exact d_write I (by rw [e]; exact True.intro) hs he (dk_new hl hd (rel.put k rv) dd')
  · subst ey eH
    cases (show u = Value.ref b from ry)
    obtain ⟨z, hd, xs, rel, dd⟩ := dt_of I.hok e
    have hz : xs.length ≤ sizeLine := by rw [← Paired.length rel]; exact z
    have hl : (putK kvs k v).length ≤ sizeLine := by have := length_putK kvs k v; omega
    refine wpAny_setItem_heap (hsz := hz) (tupleKind_room_in1 hu) (key_of I.hok eb) dd fun h' dd' hs => h _ ?_
    obtain ⟨q, es, ep, hq, h2, h3, h4, _, h5⟩ := dd'
    refine d_write I (by rw [e]; exact True.intro) hs ⟨q, hq⟩ ⟨hl, hd, _, (rel.put k eb rv).keeps fun c ys ec => ?_, q, es, ep, hq, h2, h3, h4, h5⟩
    rw [upd_ne (ne_of ec e (fun z => nomatch z))]
    exact ec
end

section
variable {X : Cx} {pins : List (Addr × Obj)} {σ : St} {H : Hp} {s : Shared} {a : Addr} {kvs : List (Key × V)} {k : Key} {u : Value} {A : Around} {E : Value → Shared → Prop}
end


/-! ### readings and rules -/
/-- the element of a subscription, not a slice -/
def NoSl (i : Expr) : Prop := ∀ ov iv, subscripted i false ov iv = operate [ov, iv] (getItem ov iv)
/-- d[y] -/
def tDGet (td ty : TE) : TE := fun σ H Q => td σ H fun x H1 => ty σ H1 fun y H2 => ∃ a v, x = .ref a ∧ DGet H2 a y (some v) ∧ Q v H2
/-- y in d, y not in d -/
def tDIn (ty td : TE) : TE := fun σ H Q => ty σ H fun y H1 => td σ H1 fun x H2 => ∃ a o, x = .ref a ∧ DGet H2 a y o ∧ Q (.bl o.isSome) H2
def tDNotIn (ty td : TE) : TE := fun σ H Q => ty σ H fun y H1 => td σ H1 fun x H2 => ∃ a o, x = .ref a ∧ DGet H2 a y o ∧ Q (.bl (!o.isSome)) H2
/-- d[y] = v -/
def sDPut (td ty tv : TE) : TS := fun D σ H => tv σ H fun v H1 => td σ H1 fun x H2 => ty σ H2 fun y H3 => ∃ a H4, x = .ref a ∧ DPut H3 a y v H4 ∧ D.nx σ H4
/-- d[y] op= v -/
def sDAug (td ty tv : TE) (rd : V → V → Hp → VK → Prop) : TS := fun D σ H => td σ H fun x H1 => ty σ H1 fun y H2 => ∃ a v, x = .ref a ∧ DGet H2 a y (some v) ∧
  tv σ H2 fun y2 H3 => rd v y2 H3 fun z H4 => ∃ H5, DPut H4 a y z H5 ∧ D.nx σ H5
/-- del d[y] -/
def sDDel (td ty : TE) : TS := fun D σ H => td σ H fun x H1 => ty σ H1 fun y H2 => ∃ a kvs k, x = .ref a ∧ H2 a = some (.dK kvs) ∧ y = kV k ∧ (valV kvs k).isSome = true ∧ D.nx σ (upd H2 a (.dK (dropK kvs k)))

section
variable {X : Cx} {o i e value : Expr} {pos pos' tpos : Pos} {td ty tv : TE}
theorem pc_din (hu : X.A.units + 1 < cLine) (hi : PE X i ty) (ho : PE X o td) : PC X .In i o (tDIn ty td) := by
  intro pins s σ H Q I h
  refine thn (hi pins s σ H _ I h) fun iv s1 ⟨y, H1, I1, ry, q1⟩ => thn (ho pins s1 σ H1 _ I1 q1) fun u s2 ⟨x, H2, I2, rx, a, ov, ex, g, q2⟩ => ?_
  subst ex
  obtain rfl : u = Value.ref a := rx
  exact d_in hu I2 g ry fun s3 I3 => ⟨.bl ov.isSome, H2, I3, rfl, q2⟩
theorem ps_dput (hu : X.A.units + 1 < cLine) (ho : PE X o td) (hi : PE X i ty) (hv : PE X value tv) (hs : swapsWith value (some (.Subscript o i pos')) pos.line X.env = pure false) :
    PS X (.Assign [.Subscript o i pos'] value pos) (sDPut td ty tv) := by
  intro pins s σ H D I h
  refine wpAny_Assign_Subscript (thn (hv pins s σ H _ I h) fun r s1 ⟨v, H1, I1, rv, q1⟩ => thn (ho pins s1 σ H1 _ I1 q1) fun u s2 ⟨x, H2, I2, rx, q2⟩ => thn (hi pins s2 σ H2 _ I2 q2) fun iv s3 ⟨y, H3, I3, ry, a, H4, ex, g, q3⟩ => ?_) hs
  subst ex
  obtain rfl : u = Value.ref a := rx
  exact d_setItem hu I3 g ry rv fun s4 I4 => ⟨σ, H4, I4, q3⟩
end


/-! ### displays -/
theorem dt_empty {P : Program} {w : World} {H : Hp} (h : Heap) (hb : sysModules < h.objs.size) : ObjOk P w H (h.push { cls := .type "dict", data := .dict #[] }) h.objs.size (.dT []) :=
  ⟨Nat.zero_le _, beq_eq_false_iff_ne.mpr (Ne.symm (Nat.ne_of_lt hb)), [], .nil, _, #[], 0, Heap.get?_push_size _ rfl, ⟨rfl, rfl, rfl⟩, rfl, rfl, List.nodup_nil⟩
/-- {}, to be a dict of the kind that is wanted -/
def tDNewK : TE := fun _ H Q => ∀ p, H p = none → Q (.ref p) (upd H p (.dK []))
def tDNewT : TE := fun _ H Q => ∀ p, H p = none → Q (.ref p) (upd H p (.dT []))
section
variable {X : Cx} {pos : Pos}
theorem pe_dnewT : PE X (.Dict [] [] pos) tDNewT := fun pins s σ H Q I h =>
  wpAny_Dict_empty ⟨.ref s.heap.objs.size, _, I.laid (a := s.heap.objs.size) (o := .dT []) (t' := s.toks) (fun _ _ q => Heap.get?_push_of_some _ q) (Nat.le_refl _) (dt_empty s.heap I.big), rfl, h _ (I.hok.fresh (Nat.le_refl _))⟩
end

/-- the pairs of a display, from the left -/
def tPairs : List (TE × TE) → St → Hp → (List (V × V) → Hp → Prop) → Prop
  | [], _, H, Q => Q [] H
  | (tk, tv) :: r, σ, H, Q => tk σ H fun x H1 => tv σ H1 fun y H2 => tPairs r σ H2 fun ps H3 => Q ((x, y) :: ps) H3
abbrev VV : List (V × V) → List (Value × Value) → Prop := Paired fun p q => RelV p.1 q.1 ∧ RelV p.2 q.2
def PPs (X : Cx) (pos : Pos) (keys : List (Option Expr)) (values : List Expr) (trs : List (TE × TE)) : Prop :=
  ∀ (pins : List (Addr × Obj)) (s : Shared) (σ : St) (H : Hp) (Q : List (V × V) → Hp → Prop), Inv X pins σ H s → tPairs trs σ H Q →
    wpAny (model X.prog X.w) X.A (evalPairs (pairTrees keys values X.env pos)) (fun vs s' => ∃ ps H', Inv X pins σ H' s' ∧ VV ps vs ∧ Q ps H') X.xe s
def mergeK (kvs more : List (Key × V)) : List (Key × V) := more.foldl (fun acc kv => putK acc kv.1 kv.2) kvs
/-- {k: v, ..} with keys ints and texts; the new dict stands empty while the pairs are made -/
def tDisp (trs : List (TE × TE)) : TE := fun σ H Q => ∀ p, H p = none → tPairs trs σ (upd H p (.dK [])) fun ps H2 => H2 p = some (.dK []) ∧ ∃ kvs : List (Key × V), ps = kvs.map (fun kv => (kV kv.1, kv.2)) ∧ kvs.length ≤ 15 ∧ Q (.ref p) (upd H2 p (.dK (mergeK [] kvs)))
/-! ### methods -/
/-- a method call o.m(e) of a built-in, with one argument: what must be seen of the text -/
structure M1 (X : Cx) (o : Expr) (m : Str) (apos : Pos) (e : Expr) (cpos : Pos) : Prop where
  base : attributeBase o m X.env (eval o X.env) = eval o X.env
  few : ((backTo cpos (starEach [e] X.env)).all (fun x => !x.1) && (backToKw cpos (keywordEach [] X.env)).all (fun x => x.1.isSome)
    && decide (([e] : List Expr).length + ([] : List Keyword).length + (if ([] : List Keyword).isEmpty then 0 else 1) < 30)) = true
  line : (apos.endLine == cpos.line) = true
  trees : backTo cpos (starEach [e] X.env) = [(false, eval e X.env)]
structure M2 (X : Cx) (o : Expr) (m : Str) (apos : Pos) (e f : Expr) (cpos : Pos) : Prop where
  base : attributeBase o m X.env (eval o X.env) = eval o X.env
  few : ((backTo cpos (starEach [e, f] X.env)).all (fun x => !x.1) && (backToKw cpos (keywordEach [] X.env)).all (fun x => x.1.isSome)
    && decide (([e, f] : List Expr).length + ([] : List Keyword).length + (if ([] : List Keyword).isEmpty then 0 else 1) < 30)) = true
  line : (apos.endLine == cpos.line) = true
  trees : backTo cpos (starEach [e, f] X.env) = [(false, eval e X.env), (false, eval f X.env)]

/-- a is a dict, whatever its keys -/
def IsD (H : Hp) (a : Addr) : Prop := (∃ kvs, Rd H a (.dK kvs)) ∨ ∃ kvs, Rd H a (.dT kvs)
section
variable {X : Cx} {pins : List (Addr × Obj)} {σ : St} {H : Hp} {s : Shared} {a : Addr} {y d : V} {u r : Value} {o : Option V} {A : Around} {E : Value → Shared → Prop}
end

def tDGet1 (td ty : TE) : TE := fun σ H Q => td σ H fun x H1 => ∃ a, x = .ref a ∧ IsD H1 a ∧ ty σ H1 fun y H2 => ∃ o, DGet H2 a y o ∧ Q (o.getD .non) H2
def tDGet2 (td ty tx : TE) : TE := fun σ H Q => td σ H fun x H1 => ∃ a, x = .ref a ∧ IsD H1 a ∧ ty σ H1 fun y H2 => tx σ H2 fun z H3 => ∃ o, DGet H3 a y o ∧ Q (o.getD z) H3
/-- d.pop(k): there; d.pop(k, x): there or not -/
def tDPop1 (td ty : TE) : TE := fun σ H Q => td σ H fun x H1 => ∃ a, x = .ref a ∧ IsD H1 a ∧ ty σ H1 fun y H2 => ∃ kvs k v, H2 a = some (.dK kvs) ∧ y = kV k ∧ valV kvs k = some v ∧ Q v (upd H2 a (.dK (dropK kvs k)))
def tDPop2 (td ty tx : TE) : TE := fun σ H Q => td σ H fun x H1 => ∃ a, x = .ref a ∧ IsD H1 a ∧ ty σ H1 fun y H2 => tx σ H2 fun z H3 => ∃ kvs k, H3 a = some (.dK kvs) ∧ y = kV k ∧
  (∀ v, valV kvs k = some v → Q v (upd H3 a (.dK (dropK kvs k)))) ∧ (valV kvs k = none → Q z H3)
section
variable {X : Cx} {o e f : Expr} {apos cpos : Pos} {td ty tx : TE}
end

/-! ### dict(d): a copy -/
section
variable {X : Cx} {pins : List (Addr × Obj)} {σ : St} {H : Hp} {s : Shared} {a : Addr} {kvs : List (Key × V)} {A : Around} {E : Value → Shared → Prop}
end


section
variable {X : Cx} {pins : List (Addr × Obj)} {σ : St} {H : Hp} {s : Shared} {a : Addr} {y : V} {u : Value} {A : Around} {E : Value → Shared → Prop}
end
end L2

namespace L2
open PySem PySem.Spec PyProof.Rows

section
variable {prog : Program} {w : World} {A : Around} {E : Value → Shared → Prop}
end

section
variable {X : Cx}
end
end L2

namespace L2
open PySem PySem.Spec PyProof.Rows

section
variable {X : Cx} {pins : List (Addr × Obj)} {σ : St} {H : Hp} {s : Shared} {h' : Heap}
/-! ### locking a thing while a statement runs -/
theorem Inv.lock {d : Addr} {u : HO} (I : Inv X pins σ H s) (h : H d = some u) (mu : Mut (some u)) : ∃ od, Inv X pins σ (upd H d (.frz od u)) s := by
  have x := I.hok d u h
  have ex : ∃ od, s.heap.get? d = some od := by
    cases u with
    | lst xs => obtain ⟨_, _, _, _, e⟩ := x; exact ⟨_, e⟩
    | dK kvs => obtain ⟨_, _, _, _, o, _, _, e, _⟩ := x; exact ⟨o, e⟩
    | dT kvs => obtain ⟨_, _, _, _, o, _, _, e, _⟩ := x; exact ⟨o, e⟩
    | set S n => obtain ⟨o, _, _, _, e, _⟩ := x; exact ⟨o, e⟩
    | ins C dx fs => obtain ⟨_, _, _, e, _⟩ := x; exact ⟨_, e⟩
    | ext φ => obtain ⟨_, ⟨_, e⟩, _⟩ := x; exact ⟨_, e⟩
    | _ => exact False.elim mu
  obtain ⟨od, e⟩ := ex
  have new : ObjOk X.prog X.w (upd H d (.frz od u)) s.heap d (.frz od u) := by
    refine ⟨e, x.stay (fun b v _ q => q) (fun b q => ?_) fun b xs q => ?_⟩
    · rw [upd_ne (fun z => by rw [z, h] at q; cases q; exact mu)]; exact q
    · rw [upd_ne (fun z => by rw [z, h] at q; cases q; exact mu)]; exact q
  exact ⟨od, I.write (x := d) (e := d) (t' := s.toks) (h' := s.heap) (by rw [h]; exact mu) (.inl rfl) (fun b v _ q => q) ⟨od, e⟩ new⟩
end
/-- the statement runs while the thing at d is locked (read, not written); d and what stands there are the reading's choice -/
def tLock (t : TS) : TS := fun D σ H => ∃ d u, H d = some u ∧ Mut (some u) ∧ ∀ od, t ⟨fun σ' H' => H' d = some (.frz od u) ∧ D.nx σ' (upd H' d u), fun v H' => H' d = some (.frz od u) ∧ D.rt v (upd H' d u), fun σ' H' => H' d = some (.frz od u) ∧ D.bk σ' (upd H' d u), fun σ' H' => H' d = some (.frz od u) ∧ D.ct σ' (upd H' d u)⟩ σ (upd H d (.frz od u))
def tLockE (t : TE) : TE := fun σ H Q => ∃ d u, H d = some u ∧ Mut (some u) ∧ ∀ od, t σ (upd H d (.frz od u)) fun v H' => H' d = some (.frz od u) ∧ Q v (upd H' d u)
section
variable {X : Cx}
/-! ### one iterator just laid -/
theorem pi_one {tg : Expr} {pins : List (Addr × Obj)} {σ : St} {H : Hp} {s : Shared} {R : It → Hp → Prop} {J : It} {tn : Nat → Heap → Prop} {tk : Nat} (I : Inv X pins σ H s) (o : Obj)
    (T : Turn X.prog X.w X.K tg J [s.heap.objs.size] s.heap.objs.size tn) (st : tn 0 (s.heap.push o)) (q : R J H) : PIE X pins σ tg R (.ref s.heap.objs.size) { s with heap := s.heap.push o, toks := tk } := by
  refine ⟨s.heap.objs.size, [s.heap.objs.size], tn, J, H, rfl, I.kept fun b ob e => Heap.get?_push_of_some _ e, T, st, fun b hb => ?_, q⟩
  have e : b = s.heap.objs.size := by simpa using hb
  subst e
  exact I.fpOk (Nat.le_refl _) (I.hok.fresh (Nat.le_refl _))
end

/-! ### range with a step -/
/-- lo, lo + c, .. (n of them) -/
def Itc (lo c : Int) (n : Nat) : It := ⟨fun i _ => i < n, fun i H x H' => H' = H ∧ x = .int (lo + (i : Nat) * c), fun i _ => n ≤ i⟩
/-- range(i, j, c): small bounds, n items -/
def RgC (i j c : Int) (n : Nat) : Prop := c ≠ 0 ∧ c.natAbs < 1073741824 ∧ Builtin.Range.small i j c = true ∧ Builtin.Range.rangeSize i j c = n
def iRng3 (ta : TA) : TI := fun σ H R => ta σ H fun vs H1 => ∃ (i j c : Int) (n : Nat), vs = [.int i, .int j, .int c] ∧ RgC i j c n ∧ R (Itc i c n) H1
section
variable {X : Cx} {tg : Expr}
end
/-! ### reversed(list) -/
/-- the list at a (n items at the start, which the loop leaves there), from its end -/
def Itv (K : PySem.W.Frag) (a : Addr) (n : Nat) : It :=
  ⟨fun i H => i < n ∧ ∃ (xs : List V) (x : V), SqL K H a xs ∧ xs[n - 1 - i]? = some x, fun i H x H' => H' = H ∧ ∀ xs, SqL K H a xs → xs[n - 1 - i]? = some x, fun i _ => n ≤ i⟩
def iRev (K : PySem.W.Frag) (ta : TA) : TI := fun σ H R => ta σ H fun vs H1 => ∃ (a : Addr) (xs : List V), vs = [.ref a] ∧ SqL K H1 a xs ∧ R (Itv K a xs.length) H1
section
variable {X : Cx} {tg : Expr}
end

/-! ### a str -/
def Its (x : Str) : It := ⟨fun i _ => i < x.cps.size, fun i H v H' => H' = H ∧ ∃ c, x.cps[i]? = some c ∧ v = .str ⟨#[c]⟩, fun i _ => x.cps.size ≤ i⟩
def iStr (te : TE) : TI := fun σ H R => te σ H fun v H1 => ∃ x, v = .str x ∧ R (Its x) H1
/-! ### a dict's keys: any dict's entries -/
section
variable {prog : Program} {w : World} {A : Around} {E : Value → Shared → Prop} {s : Shared}
theorem iter_keys {d : Addr} {o : Obj} {es : Array DictEntry} {ep : Nat} {Q : Value → Shared → Prop} (hd : (d == sysModules) = false) (ho : s.heap.get? d = some o) (hc : o.ExactDict) (hdat : o.data = .dict es ep)
    (hQ : Q (.ref s.heap.objs.size) { s with heap := s.heap.push { cls := .type "dict_keyiterator", data := .fields #[.ref d, .int 0 0, .int es.size 0, .int ep 0] } }) :
    wpAny (model prog w) A (pyIter (.ref d)) Q E s := by
  have hT : s.TypeIs (.ref d) "dict" := ⟨o, ho, hc.1⟩
  refine wpAny_pyIter_slot hT F.slot_dict_iter (wpAny_call_entry F.slot_dict_iter hT F.entry_dict_iter ?_ (F.args_dict_iter_1 _))
  unfold Builtin.«dict.__iter__»
  refine wpAny_bind ?_
  unfold Builtin.Dict.dictSlotNone
  refine wpAny_bind (wpAny_notOrdered_dict hT ?_)
  show wpAny _ _ (pure (Value.ref d)) _ _ s
  refine wpAny_pure ?_
  show wpAny _ _ (Builtin.Dict.showsAll d >>= _) _ _ s
  unfold Builtin.Dict.showsAll
  rw [if_neg (by rw [hd]; exact Bool.false_ne_true)]
  refine wpAny_bind (wpAny_pure ?_)
  refine wpAny_bind (wpAny_dictEntries ho hdat ?_)
  refine wpAny_bind (wpAny_dictEpoch ho hdat ?_)
  refine wpAny_bind (wpAny_newObj_type (wpAny_pure ⟨_, rfl, "dict_keyiterator", _, ⟨_, Heap.get?_push_size _ rfl, rfl⟩, F.slot_dict_keyiterator_next.lookup, ?_⟩))
  simpa [rawInt] using hQ
theorem next_key_item {it d : Addr} {i n ep : Nat} {od : Obj} {es : Array DictEntry} {en : DictEntry} {Q : Option Value → Shared → Prop} (hit : s.heap.IsKeyIter it d i n ep) (hod : s.heap.get? d = some od) (hdd : od.data = .dict es ep)
    (hsz : es.size = n) (hx : es[i]? = some en) (hQ : ∀ h', h'.IsKeyIter it d (i + 1) n ep → Heap.SameBut it s.heap h' → Q (some en.key) { s with heap := h' }) : wpAny (model prog w) A (pyNext (.ref it)) Q E s := by
  obtain ⟨o, ho, hc, hd⟩ := id hit
  unfold pyNext
  refine wpAny_bind (wpAny_attempt (wpAny_callSpecial?_slot (name := Str.ofString "__next__") hit.typeIs F.slot_dict_keyiterator_next
    (wpAny_call_entry F.slot_dict_keyiterator_next hit.typeIs F.entry_dict_keyiterator_next ?_ (F.args_dict_keyiterator_next_1 _))))
  refine wpAny_bind (wpAny_pure ?_)
  refine wpAny_bind ?_
  refine wpAny_bind ?_
  first | refine wpAny_bind (wpAny_typeNameOfWhole_keyiter hit.typeIs (wpAny_pure ?_)) | refine wpAny_bind (wpAny_typeNameOf_keyiter hit.typeIs (wpAny_pure ?_))
  refine wpAny_bind (wpAny_fieldsOf ho hd ?_)
  have hown : Builtin.Dict_items.ownsTuple "dict_keyiterator" = false := by decide
  simp only [hown, Bool.false_eq_true, if_false]
  show wpAny _ _ (if (Value.ref d == Value.none) = true then _ else _) _ _ s
  rw [if_neg (show ¬ ((Value.ref d == Value.none) = true) from Bool.false_ne_true)]
  refine wpAny_bind (wpAny_pure ?_)
  refine wpAny_bind (wpAny_dictEntries hod hdd ?_)
  rw [if_neg (by rw [hsz]; simp)]
  refine wpAny_bind (wpAny_pure ?_)
  refine wpAny_bind (wpAny_dictEpoch hod hdd ?_)
  rw [if_neg (by simp)]
  refine wpAny_pure ?_
  obtain ⟨hlt', hen⟩ := Array.getElem?_eq_some_iff.mp hx
  simp only [show ¬ ((i : Int) < 0) from by omega, if_false, Int.toNat_natCast, Array.getElem?_eq_getElem hlt']
  refine wpAny_bind ?_
  first | refine wpAny_bind (wpAny_typeNameOfWhole_keyiter hit.typeIs (wpAny_pure ?_)) | refine wpAny_bind (wpAny_typeNameOf_keyiter hit.typeIs (wpAny_pure ?_))
  refine wpAny_bind (wpAny_isOneOf_keyiter hit.typeIs ?_)
  show wpAny _ _ (setField (.ref it) 1 (rawInt ((i : Int) + 1)) >>= _) _ _ s
  refine wpAny_bind (wpAny_setField ho hd (by simp) ?_)
  have hit' : (s.heap.update it (Obj.mapFields (·.setIfInBounds 1 (rawInt ((i : Int) + 1))))).IsKeyIter it d (i + 1) n ep :=
    ⟨_, Heap.get?_update_self _ ho (Obj.isFreed_of_fields (Obj.data_mapFields hd _)), (Obj.cls_mapFields ..).trans hc, by rw [Obj.data_mapFields hd]; simp [rawInt]⟩
  refine wpAny_bind (wpAny_holding ?_)
  refine wpAny_bind (wpAny_isOneOf_keyiter (s := { s with heap := s.heap.update it (Obj.mapFields (·.setIfInBounds 1 (rawInt ((i : Int) + 1)))) }) hit'.typeIs ?_)
  show wpAny _ _ (pure es[i].key) _ _ _
  rw [hen]
  exact wpAny_pure (wpAny_pure ⟨_, rfl, wpAny_pure (hQ _ hit' (Heap.SameBut.update ..))⟩)
theorem next_key_end {it d : Addr} {i n ep : Nat} {od : Obj} {es : Array DictEntry} {Q : Option Value → Shared → Prop} (hh : A.handled = none) (hit : s.heap.IsKeyIter it d i n ep) (hod : s.heap.get? d = some od) (hdd : od.data = .dict es ep)
    (hsz : es.size = n) (hge : n ≤ i) (hQ : ∀ h', Heap.ExtBut it s.heap h' → Q none { s with heap := h' }) : wpAny (model prog w) A (pyNext (.ref it)) Q E s := by
  obtain ⟨o, ho, hc, hd⟩ := id hit
  unfold pyNext
  refine wpAny_bind (wpAny_attempt (wpAny_callSpecial?_slot (name := Str.ofString "__next__") hit.typeIs F.slot_dict_keyiterator_next
    (wpAny_call_entry F.slot_dict_keyiterator_next hit.typeIs F.entry_dict_keyiterator_next ?_ (F.args_dict_keyiterator_next_1 _))))
  refine wpAny_bind (wpAny_pure ?_)
  refine wpAny_bind ?_
  refine wpAny_bind ?_
  first | refine wpAny_bind (wpAny_typeNameOfWhole_keyiter hit.typeIs (wpAny_pure ?_)) | refine wpAny_bind (wpAny_typeNameOf_keyiter hit.typeIs (wpAny_pure ?_))
  refine wpAny_bind (wpAny_fieldsOf ho hd ?_)
  have hown : Builtin.Dict_items.ownsTuple "dict_keyiterator" = false := by decide
  simp only [hown, Bool.false_eq_true, if_false]
  show wpAny _ _ (if (Value.ref d == Value.none) = true then _ else _) _ _ s
  rw [if_neg (show ¬ ((Value.ref d == Value.none) = true) from Bool.false_ne_true)]
  refine wpAny_bind (wpAny_pure ?_)
  refine wpAny_bind (wpAny_dictEntries hod hdd ?_)
  rw [if_neg (by rw [hsz]; simp)]
  refine wpAny_bind (wpAny_pure ?_)
  refine wpAny_bind (wpAny_dictEpoch hod hdd ?_)
  rw [if_neg (by simp)]
  refine wpAny_pure ?_
  have hge' : es.size ≤ i := by rw [hsz]; exact hge
  simp only [show ¬ ((i : Int) < 0) from by omega, if_false, Int.toNat_natCast, Array.getElem?_eq_none hge']
  refine wpAny_bind ?_
  first | refine wpAny_bind (wpAny_typeNameOfWhole_keyiter hit.typeIs (wpAny_pure ?_)) | refine wpAny_bind (wpAny_typeNameOf_keyiter hit.typeIs (wpAny_pure ?_))
  show wpAny _ _ (setField (.ref it) 0 .none >>= _) _ _ s
  refine wpAny_bind (wpAny_setField ho hd (by simp) ?_)
  show wpAny _ _ (newExc (.type "StopIteration") [] >>= _) _ _ _
  refine wpAny_bind ?_
  simp only [newExc, newTuple]
  refine wpAny_bind (wpAny_newObj_type ?_ (by size_fits))
  refine wpAny_bind (m := firstArgMember _ _) (wpAny_of_eq (a := Value.none) (by first | rfl | (simp only [firstArgMember]; rfl)) ?_)
  refine wpAny_newObj_type ?_ (by size_fits)
  simp only [raiseNew]
  refine wpAny_bind (wpAny_handled ?_)
  rw [show A.in1.handled = none from hh]
  refine wpAny_bind (wpAny_pure (wpAny_throw ?_))
  refine wpAny_bind (wpAny_isInstance (T := "StopIteration") (b := true) ⟨_, Heap.get?_push_size _ rfl, rfl⟩ isSubtype_stop ?_)
  exact wpAny_pure (hQ _ (((Heap.SameBut.update ..).extBut.push _).push _))
end

/-! ### a locked dict -/
theorem paired_get {α β : Type} {G : α → β → Prop} {l₁ : List α} {l₂ : List β} (h : Paired G l₁ l₂) : ∀ {i : Nat} {a : α}, l₁[i]? = some a → ∃ b, l₂[i]? = some b ∧ G a b := by
  induction h with
  | nil => intro i a e; simp at e
  | @cons a b l₁ l₂ r t ih =>
    intro i a' e
    cases i with
    | zero =>
      simp only [List.getElem?_cons_zero, Option.some.injEq] at e
      subst e
      exact ⟨b, rfl, r⟩
    | succ j =>
      simp only [List.getElem?_cons_succ] at e ⊢
      exact ih e
section
variable {X : Cx} {pins : List (Addr × Obj)} {σ : St} {H : Hp} {s : Shared} {d : Addr} {o : Obj}
/-- the same for tuple keys -/
theorem Inv.frzT {kvs : List (List Key × V)} (I : Inv X pins σ H s) (h : H d = some (.frz o (.dT kvs))) :
    (d == sysModules) = false ∧ s.heap.get? d = some o ∧ o.ExactDict ∧ ∃ (es : Array DictEntry) (ep : Nat), o.data = .dict es ep ∧ es.size = kvs.length ∧
      ∀ (i : Nat) (k : List Key) (v : V), kvs[i]? = some (k, v) → ∃ (en : DictEntry) (q : Addr), es[i]? = some en ∧ en.key = .ref q ∧ H q = some (.tup (k.map kV)) := by
  obtain ⟨hd, z, hs, xs, pr, o', es, ep, ho, hx, hdt, he, _⟩ := I.hok d _ h
  rw [hd] at ho
  cases ho
  refine ⟨hs, hd, hx, es, ep, hdt, ?_, fun i k v e => ?_⟩
  · have l1 : es.size = xs.length := size_of_entries he
    have l2 : kvs.length = xs.length := Paired.length pr
    omega
  · obtain ⟨b, hb, e1, e2, _⟩ := paired_get pr e
    have q := entry_at he i
    rw [hb] at q
    exact ⟨_, b.2.1, q, rfl, e2⟩
end

/-- the keys of the locked dict at d, in their order -/
def Itk (d : Addr) (o : Obj) (kvs : List (Key × V)) : It :=
  ⟨fun i H => H d = some (.frz o (.dK kvs)) ∧ i < kvs.length, fun i H x H' => H' = H ∧ ∃ k v, kvs[i]? = some (k, v) ∧ x = kV k, fun i H => H d = some (.frz o (.dK kvs)) ∧ kvs.length ≤ i⟩
/-- .. of tuple keys: the key's own tuple -/
def Itkt (d : Addr) (o : Obj) (kvs : List (List Key × V)) : It :=
  ⟨fun i H => H d = some (.frz o (.dT kvs)) ∧ i < kvs.length, fun i H x H' => H' = H ∧ ∃ (k : List Key) (v : V) (q : Addr), kvs[i]? = some (k, v) ∧ x = .ref q ∧ H q = some (.tup (k.map kV)), fun i H => H d = some (.frz o (.dT kvs)) ∧ kvs.length ≤ i⟩
/-- the values -/
def Itd (d : Addr) (o : Obj) (kvs : List (Key × V)) : It :=
  ⟨fun i H => H d = some (.frz o (.dK kvs)) ∧ i < kvs.length, fun i H x H' => H' = H ∧ ∃ k, kvs[i]? = some (k, x), fun i H => H d = some (.frz o (.dK kvs)) ∧ kvs.length ≤ i⟩
/-- the pairs, each a new tuple -/
def Iti (d : Addr) (o : Obj) (kvs : List (Key × V)) : It :=
  ⟨fun i H => H d = some (.frz o (.dK kvs)) ∧ i < kvs.length, fun i H x H' => ∃ T k v, kvs[i]? = some (k, v) ∧ x = .ref T ∧ H T = none ∧ H' = upd H T (.tup [kV k, v]), fun i H => H d = some (.frz o (.dK kvs)) ∧ kvs.length ≤ i⟩
theorem dict_ep {o : Obj} {es es' : Array DictEntry} {ep ep' : Nat} (h : o.data = .dict es ep) (h' : o.data = .dict es' ep') : es' = es ∧ ep' = ep := by
  rw [h] at h'
  cases h'
  exact ⟨rfl, rfl⟩
section
variable {P : Program} {w : World} {K : PySem.W.Frag} {tg : Expr} {d : Addr} {o : Obj} {es : Array DictEntry} {ep : Nat}
theorem turn_keysT {kvs : List (List Key × V)} (it : Addr) (hod : o.data = .dict es ep) : Turn P w K tg (Itkt d o kvs) [it] it (fun i h => h.IsKeyIter it d i kvs.length ep) where
  mem := by simp
  obj := fun i h st b hb => by
    have e : b = it := by simpa using hb
    subst e
    obtain ⟨oi, e, c, dd⟩ := st
    exact ⟨oi, e, fun v z => by rw [dd] at z; cases z⟩
  keep := fun i h h' st k => st.at fun oi e => k it (by simp) oi e
  item := by
    intro X hP hw hK hc i pins s σ H E I hf st hg
    subst hP hw hK
    obtain ⟨hd, hi⟩ := hg
    obtain ⟨f0, f1, f2, f3, f4, f5⟩ := hf it (by simp)
    obtain ⟨hs, hgd, hx, es', ep', hdt, hsz, ent⟩ := I.frzT hd
    obtain ⟨rfl, rfl⟩ := dict_ep hod hdt
    obtain ⟨⟨k, v⟩, hkv⟩ : ∃ p, kvs[i]? = some p := ⟨kvs[i], List.getElem?_eq_getElem hi⟩
    obtain ⟨en, q, hen, hkey, hq⟩ := ent i k v hkv
    refine next_key_item st hgd hdt hsz hen fun h' st' sb => ?_
    have I1 : Inv X pins σ H { s with heap := h' } := I.turned (t' := s.toks) (fun b ob hb e => (sb.2 b hb).trans e) f0 f1 f3 f4 f5
    obtain ⟨oi, e, c, dd⟩ := id st'
    exact ⟨en.key, rfl, go_of (s := { s with heap := h' }) e c dd (by decide) ⟨.ref q, H, I1, hkey, ⟨rfl, k, v, q, hkv, rfl, hq⟩, st', fun b hb => (hf b hb).1⟩⟩
  done := by
    intro X hP hw hK hc i pins s σ H E I hf st hg
    subst hP hw hK
    obtain ⟨hd, hi⟩ := hg
    obtain ⟨f0, f1, f2, f3, f4, f5⟩ := hf it (by simp)
    obtain ⟨hs, hgd, hx, es', ep', hdt, hsz, ent⟩ := I.frzT hd
    obtain ⟨rfl, rfl⟩ := dict_ep hod hdt
    exact next_key_end (I.ok.hd hc) st hgd hdt hsz hi fun h' eb => ⟨rfl, I.turned (t' := s.toks) (fun b ob hb e => eb b ob hb e) f0 f1 f3 f4 f5⟩
  self := fun A i s Q E st h => by
    refine wpAny_pyIter_slot st.typeIs F.slot_dict_keyiterator_iter (wpAny_call_entry F.slot_dict_keyiterator_iter st.typeIs F.entry_dict_keyiterator_iter ?_ (F.args_dict_keyiterator_iter_1 _))
    show wpAny _ _ (ret (.ref it)) _ _ s
    exact wpAny_pure ⟨_, rfl, "dict_keyiterator", _, st.typeIs, F.slot_dict_keyiterator_next.lookup, h⟩
end

/-! ### for k in d, d.keys(), d.values(), d.items() -/
/-- the dict is locked (tLock, or by the caller) -/
def iKeys (td : TE) : TI := fun σ H R => td σ H fun x H1 => ∃ d o, x = .ref d ∧ ((∃ kvs, H1 d = some (.frz o (.dK kvs)) ∧ R (Itk d o kvs) H1) ∨ ∃ kvs, H1 d = some (.frz o (.dT kvs)) ∧ R (Itkt d o kvs) H1)
def iVals (td : TE) : TI := fun σ H R => td σ H fun x H1 => ∃ d o kvs, x = .ref d ∧ H1 d = some (.frz o (.dK kvs)) ∧ R (Itd d o kvs) H1
def iItems (td : TE) : TI := fun σ H R => td σ H fun x H1 => ∃ d o kvs, x = .ref d ∧ H1 d = some (.frz o (.dK kvs)) ∧ R (Iti d o kvs) H1
def iKeysM (td : TE) : TI := fun σ H R => td σ H fun x H1 => ∃ d o kvs, x = .ref d ∧ H1 d = some (.frz o (.dK kvs)) ∧ R (Itk d o kvs) H1
section
variable {X : Cx} {tg e : Expr} {td : TE} {apos cpos : Pos}
end

/-! ### enumerate(list) -/
/-- the list at a as it stands at each turn, each item in a new pair -/
def Ite (K : PySem.W.Frag) (a : Addr) : It :=
  ⟨fun i H => ∃ (xs : List V) (x : V), SqL K H a xs ∧ xs[i]? = some x, fun i H v H' => ∃ T x, v = .ref T ∧ H T = none ∧ H' = upd H T (.tup [.int (i : Nat), x]) ∧ ∀ xs, SqL K H a xs → xs[i]? = some x, fun i H => ∃ xs : List V, SqL K H a xs ∧ xs.length ≤ i⟩
def iEnum (K : PySem.W.Frag) (ta : TA) : TI := fun σ H R => ta σ H fun vs H1 => ∃ a xs, vs = [.ref a] ∧ SqL K H1 a xs ∧ R (Ite K a) H1
/-! ### zip(list, list) -/
/-- the lists at a and b as they stand at each turn, the items in new pairs -/
def Itz (K : PySem.W.Frag) (a b : Addr) : It :=
  ⟨fun i H => ∃ (xs ys : List V) (x y : V), SqL K H a xs ∧ SqL K H b ys ∧ xs[i]? = some x ∧ ys[i]? = some y,
    fun i H v H' => ∃ T x y, v = .ref T ∧ H T = none ∧ H' = upd H T (.tup [x, y]) ∧ (∀ xs, SqL K H a xs → xs[i]? = some x) ∧ ∀ ys, SqL K H b ys → ys[i]? = some y,
    fun i H => ∃ xs ys : List V, SqL K H a xs ∧ SqL K H b ys ∧ (xs.length ≤ i ∨ ys.length ≤ i)⟩
def iZip (K : PySem.W.Frag) (ta : TA) : TI := fun σ H R => ta σ H fun vs H1 => ∃ a b xs ys, vs = [.ref a, .ref b] ∧ SqL K H1 a xs ∧ SqL K H1 b ys ∧ R (Itz K a b) H1
end L2

section 
namespace Bits
open PySem PyProof.Rows

end Bits
end 

section 
namespace TL
open PySem PySem.Builtin PySem.Builtin.Str PySem.StrLaws

abbrev tl (x : Str) : List Nat := x.cps.toList
/-! ### the list functions -/
/-- S stands at the head of l -/
def pre (S l : List Nat) : Bool := l.take S.length == S
/-- l cut at each S from the left; k signs are still to be passed over -/
def spl (S : List Nat) : Nat → List Nat → List Nat → List (List Nat)
  | _, acc, [] => [acc]
  | 0, acc, c :: r => if pre S (c :: r) = true then acc :: spl S (S.length - 1) [] r else spl S 0 (acc ++ [c]) r
  | k + 1, acc, _ :: r => spl S k acc r
/-- what stands before the first S, and behind it -/
def par (S : List Nat) : List Nat → List Nat → Option (List Nat × List Nat)
  | _, [] => none
  | acc, c :: r => if pre S (c :: r) = true then some (acc, (c :: r).drop S.length) else par S (acc ++ [c]) r

/-! ### the model's split and partition are these -/
/-! ### computing spl and par -/
/-- joined lists -/
def joinL (S : List Nat) : List (List Nat) → List Nat
  | [] => []
  | [p] => p
  | p :: q :: r => p ++ (S ++ joinL S (q :: r))
/-! ### digits -/
/-- the signs of a number -/
def numL (n : Nat) : List Nat := (Nat.toDigits 10 n).map Char.toNat
/-! ### words: x.split() -/
def wstep (st : List (List Nat) × List Nat) (c : Nat) : List (List Nat) × List Nat :=
  if Unicode.isSpace c = true then (if st.2 = [] then st else (st.1 ++ [st.2], [])) else (st.1, st.2 ++ [c])
def wfin (st : List (List Nat) × List Nat) : List (List Nat) := if st.2 = [] then st.1 else st.1 ++ [st.2]
end TL
end 

namespace L2
open PySem PySem.Spec PyProof.Rows

/-- a new list of texts, tracked -/
def rNewStrs (ys : List Str) : Hp → VK → Prop := fun H Q => ∀ p, H p = none → Q (.ref p) (upd H p (.lst (ys.map V.str)))

section
variable {X : Cx} {pins : List (Addr × Obj)} {σ : St} {H : Hp} {s : Shared} {Q : VK}
end

section
variable {X : Cx}

/-! ### of a text alone -/
/-! ### of a text and a text -/
end

section
variable {X : Cx} {o e : Expr} {to te : TE}
def tM0 (r : V → List V → Hp → VK → Prop) (to : TE) : TE := fun σ H Q => to σ H fun x H1 => (∃ a, x = .str a) ∧ r x [] H1 Q
def tM1 (r : V → List V → Hp → VK → Prop) (to te : TE) : TE := fun σ H Q => to σ H fun x H1 => (∃ a, x = .str a) ∧ te σ H1 fun y H2 => r x [y] H2 Q
end
end L2

namespace L2
open PySem PySem.Spec PyProof.Rows

section
variable {X : Cx}
end

/-! ### slices of a text -/
/-- a part, clipped, as the text's slice reckons it -/
def clipS (n d : Nat) : Option Int → Int
  | none => (d : Int)
  | some i => max 0 (min (if i < 0 then i + (n : Int) else i) (n : Int))
/-- z[lo:hi] -/
def cutS (z : Str) (lo hi : Option Int) : Str :=
  ⟨((z.cps.toList.drop (HT.sIx z.length 0 lo)).take (HT.sIx z.length z.length hi - HT.sIx z.length 0 lo)).toArray⟩
def rSlS : V → Option Int → Option Int → Hp → VK → Prop := fun x lo hi H Q => ∃ z, x = .str z ∧ z.length ≤ sizeLine ∧ Q (.str (cutS z lo hi)) H
end L2

namespace Att
open PySem PySem.W PySem.Calls PyProof.Rows

/-! ### the script -/
/-! ### the attachment: holds_open's last premise (the goal 'hc' behind k_head) from a wpAny of the law's body -/
/-! ### rules over ANY heap (no ledger) from facts about the written part K: the library's own take a ledger (News) for what they write -/
section
variable {prog : Program} {w : World} {A : Around} {E : Value → Shared → Prop} {s : Shared} {K : Frag}

/-! the whole heap as the ledger: makes every rule that writes through a ledger a rule over any heap -/
def noObjs (h : Heap) : Heap := { h with objs := #[] }
def ledger (h : Heap) (L d : Addr) : List (Addr × Obj) := (List.range h.objs.size).filterMap fun a => if a = L ∨ a = d then none else (h.get? a).map fun o => (a, o)
end
end Att

namespace L2
open PySem PySem.Spec PyProof.Rows

/-- nothing is tracked but the script, known to the object (or it is an object of the module) -/
def Only (H : Hp) : Prop := ∀ b, H b = none ∨ ∃ o xs, H b = some (.frz o (.lst xs))

end L2

namespace L2
open PySem PySem.Spec PyProof.Rows

abbrev KOf {K : PySem.W.Frag} {h : Heap} (_ : K.In h) : PySem.W.Frag := K

end L2


/-! SHORT WORDS over the layer: a def of the text, its body, what a loop and a test want. -/
namespace L2
open PySem PySem.Spec PyProof.Rows

/-! ### the text by places -/
/-- the j-th statement of a class's body -/
def inClass (s : Stmt) (j : Nat) : Stmt := match s with
  | .ClassDef _ _ _ body _ _ _ _ _ _ _ => body.getD j (.Pass ⟨0, 0, 0, 0⟩)
  | _ => .Pass ⟨0, 0, 0, 0⟩
def defArgs (s : Stmt) : Arguments := match s with
  | .FunctionDef _ a _ _ _ _ _ _ _ _ => a
  | _ => { posonlyargs := [], args := [], vararg := none, kwonlyargs := [], kw_defaults := [], kwarg := none, defaults := [] }
def defBody (s : Stmt) : List Stmt := match s with
  | .FunctionDef _ _ b _ _ _ _ _ _ _ => b
  | _ => []
def defScope (s : Stmt) : Scope := match s with
  | .FunctionDef _ _ _ _ _ _ sc _ _ _ => sc
  | _ => { kind := .function, names := [], isGenerator := false, isCoroutine := false }

/-! ### no exception leaves a def -/
abbrev CX0 : CXT := fun _ _ _ _ _ _ => False
abbrev E0 : XK := fun _ _ _ => False
theorem pass0 {X : Cx} : Passes CX0 X E0 := fun _ _ _ _ _ _ _ h => h.elim

/-! ### a def (or method) of the text as it stands behind the top -/
structure Fun (K : PySem.W.Frag) (x qual : Str) (st : Stmt) (f : Addr) (fd : FuncData) : Prop where
  ex : ∃ (oc : Value) (od : Option Addr) (kV doc pm : Value) (an : Option Addr) (cdv ct : Value) (osl : Array (Option Value)),
    fd = PySem.W.fnOf x qual (defArgs st) (defBody st) (defScope st) .none kV doc pm an cdv ct ∧ K.lookup f = some ⟨oc, od, .func fd, osl⟩ ∧ PySem.W.codeIn K cdv qual = true
  kp : PySem.W.keepIn K (.ref f) = true
section
variable {P : Program} {w : World} {K : PySem.W.Frag} {mg : Str → Option Value} {base : Heap}
/-- THE RULE for a def: its body as a term of rules, and the reading of that term -/
theorem Fun.ok {x qual : Str} {st : Stmt} {f : Addr} {fd : FuncData} {N ps : List Str} {k : Nat} {sp : Sp} (F : Fun K x qual st f fd) (S : FnScope N ps (defScope st)) (len : ∀ vs H Q E, sp vs H Q E → vs.length = ps.length)
    (hbody : ∀ (cdv : Value) (A : Around) (outer : List Env) (s : Shared) (H : Hp) (vs : List V) (Q : VK) (E : XK), Room k (A.deeper (envOfC qual (defScope st) s.heap.objs.size f cdv)) → sp vs H Q E →
      ∃ t, PSs (cxOf CX0 P w K mg base N qual (defScope st) f cdv A outer s H E).nox (defBody st) t ∧ t { nx := fun _ H' => Q .non H', rt := Q } (start N vs) H) : FnOk P w K mg base CX0 (k + 1) f fd ps sp := by
  obtain ⟨oc, od, kV, doc, pm, an, cdv, ct, osl, rfl, lk, hcd⟩ := F.ex
  refine fn_of lk hcd S len fun A outer s H vs Q E hr hsp => ?_
  obtain ⟨t, h, q⟩ := hbody cdv A outer s H vs Q E hr hsp
  exact ⟨t, h.nox, q⟩
/-- how its arguments bind (no defaults): h is «fun _ _ _ _ _ _ us hl => match us, hl with | [_, _], _ => rfl», one _ a parameter -/
theorem Fun.binds {x qual : Str} {st : Stmt} {f : Addr} {fd : FuncData} {ps : List Str} (F : Fun K x qual st f fd)
    (h : ∀ (kV doc pm : Value) (an : Option Addr) (cdv ct : Value) (us : List Value), us.length = ps.length → bindArgs (PySem.W.fnOf x qual (defArgs st) (defBody st) (defScope st) .none kV doc pm an cdv ct) ⟨us, []⟩ = pure (ps.zip us)) : Binds K fd ps [] := by
  obtain ⟨oc, od, kV, doc, pm, an, cdv, ct, osl, rfl, lk, hcd⟩ := F.ex
  exact .all (h kV doc pm an cdv ct)
theorem fun_mk {x qual : Str} {st : Stmt} {f : Addr} {oc : Value} {od an : Option Addr} {osl : Array (Option Value)} {kV doc pm cdv ct : Value} (l : K.lookup f = some ⟨oc, od, .func (PySem.W.fnOf x qual (defArgs st) (defBody st) (defScope st) .none kV doc pm an cdv ct), osl⟩)
    (c : PySem.W.codeIn K cdv qual = true) (k : PySem.W.keepIn K (.ref f) = true) : Fun K x qual st f (PySem.W.fnOf x qual (defArgs st) (defBody st) (defScope st) .none kV doc pm an cdv ct) := ⟨⟨oc, od, kV, doc, pm, an, cdv, ct, osl, rfl, l, c⟩, k⟩
end
theorem hu_of {A : Around} {k : Nat} (hr : Room k A) : A.units + 1 < cLine := Nat.lt_of_le_of_lt (Nat.add_le_add_left (by decide : 1 ≤ 64) _) hr.units
/-! ### expressions in short: the name that stands in the i-th slot -/
section
variable {X : Cx}
theorem pv (i : Nat) {x : Str} {pos : Pos} (hN : X.N[i]? = some x := by rfl) (hv : Vis X.env.scope x := by first | exact Or.inl rfl | exact Or.inr (Or.inl rfl) | exact Or.inr (Or.inr rfl)) (hd : (x == ("__debug__" : Str)) = false := by decide)
    (hcd : (x == ("__classdict__" : Str)) = false := by decide) : PE X (.Name x pos) (tVar i) := pe_var hN hv hd hcd
end

/-! ### tests -/
theorem iteT {A B : Prop} (h : A) : if true = true then A else B := by
  rw [if_pos rfl]
  exact h
theorem ite2 {c A B : Prop} [Decidable c] (h1 : c → A) (h2 : ¬ c → B) : if c then A else B := by
  by_cases h : c
  · rw [if_pos h]
    exact h1 h
  · rw [if_neg h]
    exact h2 h
/-! ### heaps -/
/-- all that was tracked is as it was -/
def Same (H H' : Hp) : Prop := ∀ b o, H b = some o → H' b = some o
theorem Same.refl (H : Hp) : Same H H := fun _ _ h => h
theorem Same.trans {H H1 H2 : Hp} (a : Same H H1) (b : Same H1 H2) : Same H H2 := fun c o h => b c o (a c o h)
theorem Same.free {H H' : Hp} (e : Same H H') {l : Addr} (h : H' l = Option.none) : H l = Option.none := by
  cases q : H l with
  | none => rfl
  | some o =>
    rw [e l o q] at h
    cases h
theorem Same.seq {K : PySem.W.Frag} {H H' : Hp} {a : Addr} {xs : List V} (e : Same H H') (h : SqL K H a xs) : SqL K H' a xs := by
  rcases h with (h | ⟨o, h⟩) | h
  · exact .inl (.inl (e _ _ h))
  · exact .inl (.inr ⟨o, e _ _ h⟩)
  · exact .inr h

/-! ### a dict's pairs: keys that differ -/
section
variable {κ : Type} [DecidableEq κ]
end
/-! ### lists -/
theorem at_of {xs : List V} {z : Int} {j : Nat} {v : V} (e : z = (j : Int)) (h : xs[j]? = some v) : atI xs z = some v := by
  rw [e]
  exact atI_nat h
/-- a new instance and its __init__ leave all that was tracked as it was -/
theorem Same.made {H H1 : Hp} {x dx C : Addr} (nx : H x = Option.none) (nd : H dx = Option.none) (k : ∀ b o, (upd (upd H dx (.own x)) x (.ins C dx [])) b = some o → b ≠ x → H1 b = some o) : Same H H1 := fun b o e =>
  k b o (by rw [upd_ne (ne_of_none e nx), upd_ne (ne_of_none e nd)]; exact e) (ne_of_none e nx)
end L2

end
section
set_option Elab.async false
set_option linter.all false
set_option maxRecDepth 100000
set_option maxHeartbeats 2000000
namespace L2
open PySem PySem.Spec PyProof.Rows
open PySem.W (WData Codec OpenSpec Well WellAll ReadsW ReadsAllW)
/-! ### an answer as data -/
mutual
/-- x stands for the datum d, lists and tuples all the way -/
inductive Dw (K : PySem.W.Frag) (H : Hp) : V → WData → Prop
  | non : Dw K H .non .none
  | bl (b : Bool) : Dw K H (.bl b) (.bool b)
  | int (i : Int) : Dw K H (.int i) (.int i)
  | str (x : Str) : Dw K H (.str x) (.str x)
  | byt (b : Array UInt8) : Dw K H (.byt b) (.bytes b.toList)
  | lst {a : Addr} {xs : List V} {ds : List WData} : SqL K H a xs → DwAll K H xs ds → Dw K H (.ref a) (.list ds)
  | tup {a : Addr} {xs : List V} {ds : List WData} : SqT K H a xs → DwAll K H xs ds → Dw K H (.ref a) (.tuple ds)
inductive DwAll (K : PySem.W.Frag) (H : Hp) : List V → List WData → Prop
  | nil : DwAll K H [] []
  | cons {v : V} {vs : List V} {d : WData} {ds : List WData} : Dw K H v d → DwAll K H vs ds → DwAll K H (v :: vs) (d :: ds)
end
theorem dw_ints {K : PySem.W.Frag} {H : Hp} : ∀ ns : List Int, DwAll K H (ns.map V.int) (ns.map WData.int)
  | [] => .nil
  | n :: r => .cons (.int n) (dw_ints r)
theorem ints_dw {K : PySem.W.Frag} {H : Hp} : ∀ (ns : List Int) (xs : List V), DwAll K H xs (ns.map WData.int) → xs = ns.map V.int
  | [], xs, h => by
    cases h
    rfl
  | n :: r, xs, h => by
    cases h with
    | cons h1 h2 =>
      cases h1
      rw [ints_dw r _ h2] <;> rfl
section
variable {P : Program} {w : World} {K : PySem.W.Frag} {H : Hp} {h : Heap} {R : PySem.W.WRecords} {cl : Str → Option Addr}
theorem sqL_at {a : Addr} {xs : List V} (hok : HOk P w H h) (KX : K.In h) (q : SqL K H a xs) : ∃ (its : List Value) (o : Obj) (n : Nat), Vals xs its ∧ h.get? a = some o ∧ o.cls = .type "list" ∧ o.data = .seq its.toArray n := by
  rcases q with q | ⟨o, its, n, e, hc, _, hd, _, hv⟩
  · obtain ⟨_, its, n, hv, e⟩ := (show ObjOk P w H h a (.lst xs) from q.ok hok)
    exact ⟨its, _, n, hv, e, rfl, rfl⟩
  · exact ⟨its.toList, o, n, hv, KX _ _ e, hc, by simp [hd]⟩
theorem sqT_at {a : Addr} {xs : List V} (hok : HOk P w H h) (KX : K.In h) (q : SqT K H a xs) : ∃ (its : List Value) (o : Obj) (n : Nat), Vals xs its ∧ h.get? a = some o ∧ o.cls = .type "tuple" ∧ o.data = .seq its.toArray n := by
  rcases q with q | ⟨o, its, n, e, hc, hd, _, hv⟩
  · obtain ⟨_, its, hv, o, e, hc, n, hd⟩ := (show ObjOk P w H h a (.tup xs) from q.ok hok)
    exact ⟨its, o, n, hv, e, hc, hd⟩
  · exact ⟨its.toList, o, n, hv, KX _ _ e, hc, by simp [hd]⟩
mutual
theorem Dw.reads (hok : HOk P w H h) (KX : K.In h) : ∀ (d : WData) (v : V) (u : Value), Dw K H v d → RelV v u → ∃ as, ReadsW R cl h u d as
  | .none, _, _, x, r => by
    cases x
    cases r
    exact ⟨_, ReadsW.none⟩
  | .bool b, _, _, x, r => by
    cases x
    cases r
    exact ⟨_, ReadsW.bool b⟩
  | .int i, _, _, x, r => by
    cases x
    obtain ⟨t, rfl⟩ := r
    exact ⟨_, ReadsW.int i t⟩
  | .str s, _, _, x, r => by
    cases x
    obtain ⟨t, rfl⟩ := r
    exact ⟨_, ReadsW.str s t⟩
  | .bytes b, _, _, x, r => by
    cases x
    obtain ⟨t, rfl⟩ := r
    exact ⟨_, ReadsW.bytes _ t⟩
  | .list ds, _, _, x, r => by
    cases x with
    | lst hs ha =>
      cases r
      obtain ⟨its, o, n, rv, ho, hc, hd⟩ := sqL_at hok KX hs
      obtain ⟨as, hr⟩ := Dw.readsAll hok KX ds _ its ha rv
      exact ⟨_, ReadsW.list ho hc hd hr⟩
  | .tuple ds, _, _, x, r => by
    cases x with
    | tup hs ha =>
      cases r
      obtain ⟨its, o, n, rv, ho, hc, hd⟩ := sqT_at hok KX hs
      obtain ⟨as, hr⟩ := Dw.readsAll hok KX ds _ its ha rv
      exact ⟨_, ReadsW.tuple ho hc hd hr⟩
  | .float _, _, _, x, _ => by cases x
  | .dict _, _, _, x, _ => by cases x
  | .bytearray _, _, _, x, _ => by cases x
  | .set _, _, _, x, _ => by cases x
  | .frozenset _, _, _, x, _ => by cases x
  | .obj _ _, _, _, x, _ => by cases x
theorem Dw.readsAll (hok : HOk P w H h) (KX : K.In h) : ∀ (ds : List WData) (vs : List V) (us : List Value), DwAll K H vs ds → Vals vs us → ∃ as, ReadsAllW R cl h us ds as
  | [], _, _, x, r => by
    cases x
    cases r
    exact ⟨_, ReadsAllW.nil⟩
  | d :: ds, _, _, x, r => by
    cases x with
    | cons h1 h2 =>
      cases r with
      | cons r1 r2 =>
        obtain ⟨as, q1⟩ := Dw.reads hok KX d _ _ h1 r1
        obtain ⟨bs, q2⟩ := Dw.readsAll hok KX ds _ _ h2 r2
        exact ⟨_, ReadsAllW.cons q1 q2⟩
end
end
/-! ### the arguments -/
mutual
/-- data that a codec tells -/
def plW : WData → Bool
  | .none => true
  | .bool _ => true
  | .int _ => true
  | .str _ => true
  | .bytes _ => true
  | .list xs => plWs xs
  | .tuple xs => plWs xs
  | _ => false
def plWs : List WData → Bool
  | [] => true
  | x :: r => plW x && plWs r
end
theorem plWs_map {α : Type} {f : α → WData} (h : ∀ a, plW (f a) = true) : ∀ l : List α, plWs (l.map f) = true
  | [] => rfl
  | x :: r => by
    show (plW (f x) && plWs (r.map f)) = true
    rw [h x, plWs_map h r] <;> rfl
theorem pl_enc : ∀ (c : Codec) (a : c.denote), plW (c.enc a) = true
  | .unit, _ => rfl
  | .bool, _ => rfl
  | .int _ _, _ => rfl
  | .nat _ _, _ => rfl
  | .u8, _ => rfl
  | .bytes _ _, _ => rfl
  | .text _ _ _ _, _ => rfl
  | .list _ _ c, a => plWs_map (fun x => pl_enc c x) a
  | .pair c d, a => by
    show (plW (c.enc a.1) && (plW (d.enc a.2) && true)) = true
    rw [pl_enc c a.1, pl_enc d a.2] <;> rfl
  | .triple c d e, a => by
    show (plW (c.enc a.1) && (plW (d.enc a.2.1) && (plW (e.enc a.2.2) && true))) = true
    rw [pl_enc c a.1, pl_enc d a.2.1, pl_enc e a.2.2] <;> rfl
  | .option c, none => rfl
  | .option c, some x => pl_enc c x
theorem pl_encAll : ∀ (cs : List Codec) (a : Codec.denoteAll cs), plWs (Codec.encAll cs a) = true
  | [], _ => rfl
  | c :: cs, a => by
    show (plW (c.enc a.1) && plWs (Codec.encAll cs a.2)) = true
    rw [pl_enc c a.1, pl_encAll cs a.2] <;> rfl
theorem weight_mem : ∀ {xs : List WData} {d : WData}, d ∈ xs → d.weight ≤ WData.weightAll xs
  | [], d, h => absurd h (by simp)
  | x :: r, d, h => by
    show d.weight ≤ x.weight + 1 + WData.weightAll r
    rcases List.mem_cons.mp h with e | m
    · rw [e]
      omega
    · have z := weight_mem m
      omega
def toV : Value → V
  | .none => .non
  | .bool b => .bl b
  | .int i _ => .int i
  | .str x _ => .str x
  | .bytes b _ => .byt b
  | .ref a => .ref a
  | _ => .non
/-- a value of the arguments, its objects among A -/
def OkU (A : List Addr) : Value → Prop
  | .none => True
  | .bool _ => True
  | .int _ _ => True
  | .str _ _ => True
  | .bytes _ _ => True
  | .ref a => a ∈ A
  | _ => False
theorem OkU.mono {A B : List Addr} (h : ∀ a ∈ A, a ∈ B) : ∀ {u : Value}, OkU A u → OkU B u := fun {u} x => by
  cases u with
  | ref a => exact h a x
  | none => trivial
  | bool b => trivial
  | int i t => trivial
  | str s t => trivial
  | bytes b t => trivial
  | _ => exact False.elim x
theorem relV_toV {A : List Addr} {u : Value} (x : OkU A u) : RelV (toV u) u := by
  cases u with
  | ref a => rfl
  | none => rfl
  | bool b => rfl
  | int i t => exact ⟨t, rfl⟩
  | str s t => exact ⟨t, rfl⟩
  | bytes b t => exact ⟨t, rfl⟩
  | _ => exact False.elim x
theorem vals_toV {A : List Addr} : ∀ {vs : List Value}, (∀ u ∈ vs, OkU A u) → Vals (vs.map toV) vs
  | [], _ => .nil
  | u :: r, h => .cons (relV_toV (h u (List.mem_cons_self ..))) (vals_toV fun x hx => h x (List.mem_cons_of_mem _ hx))
/-- an object of the arguments -/
def ArgOb (h : Heap) (A : List Addr) (a : Addr) : Prop := ∃ vs : List Value, vs.length ≤ sizeLine ∧ (∀ u ∈ vs, OkU A u) ∧
  (h.get? a = some { cls := .type "list", data := .seq vs.toArray } ∨ h.get? a = some { cls := .type "tuple", data := .seq vs.toArray })
theorem ArgOb.mono {h : Heap} {A B : List Addr} {a : Addr} (k : ∀ a ∈ A, a ∈ B) (x : ArgOb h A a) : ArgOb h B a := by
  obtain ⟨vs, h1, h2, h3⟩ := x
  exact ⟨vs, h1, fun u hu => (h2 u hu).mono k, h3⟩
theorem wellAll_len {P : Params} {h : Heap} : ∀ {vs : List Value} {ds : List WData}, WellAll P h vs ds → vs.length = ds.length
  | _, _, .nil => rfl
  | _, _, .cons _ b => by
    show _ + 1 = _ + 1
    rw [wellAll_len b]
theorem well_list {P : Params} {h : Heap} {v : Value} {ds : List WData} (x : Well P h v (.list ds)) : ∃ (a : Addr) (vs : List Value), v = .ref a ∧ h.get? a = some { cls := .type "list", data := .seq vs.toArray } ∧ WellAll P h vs ds := by
  cases x with
  | list ho hall => exact ⟨_, _, rfl, ho, hall⟩
theorem well_tuple {P : Params} {h : Heap} {v : Value} {ds : List WData} (x : Well P h v (.tuple ds)) : ∃ (a : Addr) (vs : List Value), v = .ref a ∧ h.get? a = some { cls := .type "tuple", data := .seq vs.toArray } ∧ WellAll P h vs ds := by
  cases x with
  | tuple ho hall => exact ⟨_, _, rfl, ho, hall⟩
theorem well_cons {P : Params} {h : Heap} {us : List Value} {d : WData} {ds : List WData} (x : WellAll P h us (d :: ds)) : ∃ (v : Value) (vs : List Value), us = v :: vs ∧ Well P h v d ∧ WellAll P h vs ds := by
  cases x with
  | cons a b => exact ⟨_, _, rfl, a, b⟩
theorem line_of {n : Nat} (h : n ≤ 1048576) : n ≤ sizeLine := Nat.le_trans h (by decide)
section
variable {P : Params} {h : Heap}
mutual
theorem area_one : ∀ (d : WData) (v : Value), Well P h v d → plW d = true → d.weight ≤ 1048576 → ∃ A : List Addr, OkU A v ∧ ∀ a ∈ A, ArgOb h A a
  | .none, _, x, _, _ => by
    cases x
    exact ⟨[], trivial, fun a m => absurd m (by simp)⟩
  | .bool b, _, x, _, _ => by
    cases x
    exact ⟨[], trivial, fun a m => absurd m (by simp)⟩
  | .int i, _, x, _, _ => by
    cases x
    exact ⟨[], trivial, fun a m => absurd m (by simp)⟩
  | .str s, _, x, _, _ => by
    cases x
    exact ⟨[], trivial, fun a m => absurd m (by simp)⟩
  | .bytes b, _, x, _, _ => by
    cases x
    exact ⟨[], trivial, fun a m => absurd m (by simp)⟩
  | .list ds, _, x, p, z => by
    obtain ⟨a, vs, rfl, ho, hall⟩ := well_list x
    have z2 : WData.weightAll ds ≤ 1048576 := z
    obtain ⟨A, h1, h2⟩ := area_all ds _ hall p fun d hd => Nat.le_trans (weight_mem hd) z2
    have k : ∀ b ∈ A, b ∈ a :: A := fun b hb => List.mem_cons_of_mem _ hb
    refine ⟨a :: A, List.mem_cons_self .., fun b hb => ?_⟩
    rcases List.mem_cons.mp hb with e | m
    · rw [e]
      exact ⟨vs, line_of (by rw [wellAll_len hall]; exact Nat.le_trans (PySem.W.length_le_weightAllW ds) z2), fun u hu => (h1 u hu).mono k, .inl ho⟩
    · exact (h2 b m).mono k
  | .tuple ds, _, x, p, z => by
    obtain ⟨a, vs, rfl, ho, hall⟩ := well_tuple x
    have z2 : WData.weightAll ds ≤ 1048576 := z
    obtain ⟨A, h1, h2⟩ := area_all ds _ hall p fun d hd => Nat.le_trans (weight_mem hd) z2
    have k : ∀ b ∈ A, b ∈ a :: A := fun b hb => List.mem_cons_of_mem _ hb
    refine ⟨a :: A, List.mem_cons_self .., fun b hb => ?_⟩
    rcases List.mem_cons.mp hb with e | m
    · rw [e]
      exact ⟨vs, line_of (by rw [wellAll_len hall]; exact Nat.le_trans (PySem.W.length_le_weightAllW ds) z2), fun u hu => (h1 u hu).mono k, .inr ho⟩
    · exact (h2 b m).mono k
  | .float _, _, _, p, _ => Bool.noConfusion (show false = true from p)
  | .dict _, _, _, p, _ => Bool.noConfusion (show false = true from p)
  | .bytearray _, _, _, p, _ => Bool.noConfusion (show false = true from p)
  | .set _, _, _, p, _ => Bool.noConfusion (show false = true from p)
  | .frozenset _, _, _, p, _ => Bool.noConfusion (show false = true from p)
  | .obj _ _, _, _, p, _ => Bool.noConfusion (show false = true from p)
theorem area_all : ∀ (ds : List WData) (vs : List Value), WellAll P h vs ds → plWs ds = true → (∀ d ∈ ds, d.weight ≤ 1048576) → ∃ A : List Addr, (∀ u ∈ vs, OkU A u) ∧ ∀ a ∈ A, ArgOb h A a
  | [], _, x, _, _ => by
    cases x
    exact ⟨[], fun u m => absurd m (by simp), fun a m => absurd m (by simp)⟩
  | d :: ds, _, x, p, z => by
    obtain ⟨v, vs, rfl, x1, x2⟩ := well_cons x
    have q : plW d = true ∧ plWs ds = true := Bool.and_eq_true_iff.mp p
    obtain ⟨A, a1, a2⟩ := area_one d v x1 q.1 (z d (List.mem_cons_self ..))
    obtain ⟨B, b1, b2⟩ := area_all ds vs x2 q.2 fun e he => z e (List.mem_cons_of_mem _ he)
    have kA : ∀ b ∈ A, b ∈ A ++ B := fun b hb => List.mem_append.mpr (.inl hb)
    have kB : ∀ b ∈ B, b ∈ A ++ B := fun b hb => List.mem_append.mpr (.inr hb)
    refine ⟨A ++ B, fun u hu => ?_, fun b hb => ?_⟩
    · rcases List.mem_cons.mp hu with e | m
      · rw [e]
        exact a1.mono kA
      · exact (b1 u m).mono kB
    · rcases List.mem_append.mp hb with m | m
      · exact (a2 b m).mono kA
      · exact (b2 b m).mono kB
end
end
/-- what is tracked of an argument's object -/
def hoOf (o : Obj) : Option HO := match o.data with
  | .seq vs _ => if (o.cls == Value.type "list") = true then some (.frz o (.lst (vs.toList.map toV))) else some (.frz o (.tup (vs.toList.map toV)))
  | _ => none
def argH (K : PySem.W.Frag) (h : Heap) (A : List Addr) : Hp := fun b => if b ∈ A then (if (K.lookup b).isNone = true then (h.get? b).bind hoOf else none) else none
/-- nothing is tracked but what is known to the object -/
def OnlyF (H : Hp) : Prop := ∀ b, H b = none ∨ ∃ o u, H b = some (.frz o u)
theorem hoOf_lst (vs : List Value) : hoOf { cls := .type "list", data := .seq vs.toArray } = some (.frz { cls := .type "list", data := .seq vs.toArray } (.lst (vs.map toV))) := by
  show (if (Value.type "list" == Value.type "list") = true then some (HO.frz { cls := .type "list", data := .seq vs.toArray } (.lst (vs.toArray.toList.map toV))) else some (HO.frz { cls := .type "list", data := .seq vs.toArray } (.tup (vs.toArray.toList.map toV)))) = _
  rw [if_pos (beq_self_eq_true _)]
theorem hoOf_tup (vs : List Value) : hoOf { cls := .type "tuple", data := .seq vs.toArray } = some (.frz { cls := .type "tuple", data := .seq vs.toArray } (.tup (vs.map toV))) := by
  show (if (Value.type "tuple" == Value.type "list") = true then some (HO.frz { cls := .type "tuple", data := .seq vs.toArray } (.lst (vs.toArray.toList.map toV))) else some (HO.frz { cls := .type "tuple", data := .seq vs.toArray } (.tup (vs.toArray.toList.map toV)))) = _
  rw [if_neg (by decide)]
section
variable {P : Program} {w : World} {K : PySem.W.Frag} {h : Heap} {A : List Addr}
theorem argH_at {b : Addr} {o : Obj} (hb : b ∈ A) (hk : K.lookup b = none) (e : h.get? b = some o) : argH K h A b = hoOf o := by
  unfold argH
  rw [if_pos hb, hk, if_pos (show (none : Option Obj).isNone = true from rfl), e] <;> rfl
theorem of_argH {b : Addr} {u : HO} (q : argH K h A b = some u) : b ∈ A ∧ K.lookup b = none := by
  unfold argH at q
  by_cases hb : b ∈ A
  · rw [if_pos hb] at q
    cases hk : K.lookup b with
    | none => exact ⟨hb, rfl⟩
    | some o =>
      rw [hk, if_neg (by simp)] at q
      cases q
  · rw [if_neg hb] at q
    cases q
/-- what stands tracked -/
theorem argH_is (ar : ∀ a ∈ A, ArgOb h A a) {b : Addr} {u : HO} (q : argH K h A b = some u) : K.lookup b = none ∧ ∃ vs : List Value, vs.length ≤ sizeLine ∧ (∀ u ∈ vs, OkU A u) ∧
    ((h.get? b = some { cls := .type "list", data := .seq vs.toArray } ∧ u = .frz { cls := .type "list", data := .seq vs.toArray } (.lst (vs.map toV))) ∨
     (h.get? b = some { cls := .type "tuple", data := .seq vs.toArray } ∧ u = .frz { cls := .type "tuple", data := .seq vs.toArray } (.tup (vs.map toV)))) := by
  obtain ⟨hb, hk⟩ := of_argH q
  obtain ⟨vs, h1, h2, h3⟩ := ar b hb
  refine ⟨hk, vs, h1, h2, ?_⟩
  rcases h3 with e | e
  · rw [argH_at hb hk e, hoOf_lst] at q
    exact .inl ⟨e, (Option.some.inj q).symm⟩
  · rw [argH_at hb hk e, hoOf_tup] at q
    exact .inr ⟨e, (Option.some.inj q).symm⟩
theorem argH_only (ar : ∀ a ∈ A, ArgOb h A a) : OnlyF (argH K h A) := fun b => by
  cases q : argH K h A b with
  | none => exact .inl rfl
  | some u =>
    obtain ⟨_, vs, _, _, ⟨_, e⟩ | ⟨_, e⟩⟩ := argH_is ar q
    · exact .inr ⟨_, _, by rw [e]⟩
    · exact .inr ⟨_, _, by rw [e]⟩
theorem argH_ok (ar : ∀ a ∈ A, ArgOb h A a) : HOk P w (argH K h A) h := fun b u q => by
  obtain ⟨_, vs, h1, h2, ⟨e, rfl⟩ | ⟨e, rfl⟩⟩ := argH_is ar q
  · exact ⟨e, by rw [List.length_map]; exact h1, vs, _, vals_toV h2, e⟩
  · exact ⟨e, by rw [List.length_map]; exact h1, vs, vals_toV h2, _, e, rfl, _, rfl⟩
theorem seq_inj {c c' : Value} {vs us : List Value} (e : (some { cls := c, data := .seq vs.toArray } : Option Obj) = some { cls := c', data := .seq us.toArray }) : c = c' ∧ vs = us := by
  have e1 := Option.some.inj e
  have e2 : c = c' := congrArg Obj.cls e1
  have e3 : Data.seq vs.toArray = Data.seq us.toArray := congrArg Obj.data e1
  injection e3 with e4
  refine ⟨e2, ?_⟩
  have e5 := congrArg Array.toList e4
  simpa using e5
/-- a list argument -/
theorem argL (KX : K.In h) (ar : ∀ a ∈ A, ArgOb h A a) {a : Addr} {vs : List Value} (ha : a ∈ A) (e : h.get? a = some { cls := .type "list", data := .seq vs.toArray }) : (∀ u ∈ vs, OkU A u) ∧ SqL K (argH K h A) a (vs.map toV) := by
  obtain ⟨us, h1, h2, h3⟩ := ar a ha
  have hu : us = vs := by
    rcases h3 with q | q
    · rw [e] at q
      exact (seq_inj q).2.symm
    · rw [e] at q
      exact absurd (Value.type.inj (seq_inj q).1) (by decide)
  subst hu
  refine ⟨h2, ?_⟩
  cases hk : K.lookup a with
  | none => exact .inl (.inr ⟨_, by rw [argH_at ha hk e, hoOf_lst]⟩)
  | some o =>
    have e2 := KX a o hk
    rw [e] at e2
    obtain rfl := Option.some.inj e2
    exact .inr ⟨_, us.toArray, _, hk, rfl, rfl, rfl, by rw [List.size_toArray]; exact h1, by simpa using vals_toV h2⟩
theorem argT (KX : K.In h) (ar : ∀ a ∈ A, ArgOb h A a) {a : Addr} {vs : List Value} (ha : a ∈ A) (e : h.get? a = some { cls := .type "tuple", data := .seq vs.toArray }) : (∀ u ∈ vs, OkU A u) ∧ SqT K (argH K h A) a (vs.map toV) := by
  obtain ⟨us, h1, h2, h3⟩ := ar a ha
  have hu : us = vs := by
    rcases h3 with q | q
    · rw [e] at q
      exact absurd (Value.type.inj (seq_inj q).1) (by decide)
    · rw [e] at q
      exact (seq_inj q).2.symm
  subst hu
  refine ⟨h2, ?_⟩
  cases hk : K.lookup a with
  | none => exact .inl (.inr ⟨_, by rw [argH_at ha hk e, hoOf_tup]⟩)
  | some o =>
    have e2 := KX a o hk
    rw [e] at e2
    obtain rfl := Option.some.inj e2
    exact .inr ⟨_, us.toArray, _, hk, rfl, rfl, by rw [List.size_toArray]; exact h1, by simpa using vals_toV h2⟩
mutual
theorem dw_one {Pm : Params} (KX : K.In h) (ar : ∀ a ∈ A, ArgOb h A a) : ∀ (d : WData) (v : Value), Well Pm h v d → plW d = true → OkU A v → Dw K (argH K h A) (toV v) d
  | .none, _, x, _, _ => by
    cases x
    exact .non
  | .bool b, _, x, _, _ => by
    cases x
    exact .bl b
  | .int i, _, x, _, _ => by
    cases x
    exact .int i
  | .str s, _, x, _, _ => by
    cases x
    exact .str s
  | .bytes b, _, x, _, _ => by
    cases x
    have z := Dw.byt (K := K) (H := argH K h A) b.toArray
    exact z
  | .list ds, _, x, p, hu => by
    obtain ⟨a, vs, rfl, ho, hall⟩ := well_list x
    obtain ⟨h2, hs⟩ := argL KX ar hu ho
    exact .lst hs (dw_all KX ar ds _ hall p h2)
  | .tuple ds, _, x, p, hu => by
    obtain ⟨a, vs, rfl, ho, hall⟩ := well_tuple x
    obtain ⟨h2, hs⟩ := argT KX ar hu ho
    exact .tup hs (dw_all KX ar ds _ hall p h2)
  | .float _, _, _, p, _ => Bool.noConfusion (show false = true from p)
  | .dict _, _, _, p, _ => Bool.noConfusion (show false = true from p)
  | .bytearray _, _, _, p, _ => Bool.noConfusion (show false = true from p)
  | .set _, _, _, p, _ => Bool.noConfusion (show false = true from p)
  | .frozenset _, _, _, p, _ => Bool.noConfusion (show false = true from p)
  | .obj _ _, _, _, p, _ => Bool.noConfusion (show false = true from p)
theorem dw_all {Pm : Params} (KX : K.In h) (ar : ∀ a ∈ A, ArgOb h A a) : ∀ (ds : List WData) (vs : List Value), WellAll Pm h vs ds → plWs ds = true → (∀ u ∈ vs, OkU A u) → DwAll K (argH K h A) (vs.map toV) ds
  | [], _, x, _, _ => by
    cases x
    exact .nil
  | d :: ds, _, x, p, hu => by
    obtain ⟨v, vs, rfl, x1, x2⟩ := well_cons x
    have q : plW d = true ∧ plWs ds = true := Bool.and_eq_true_iff.mp p
    exact .cons (dw_one KX ar d v x1 q.1 (hu _ (List.mem_cons_self ..))) (dw_all KX ar ds vs x2 q.2 fun u m => hu u (List.mem_cons_of_mem _ m))
end
end
/-! ### the call -/
theorem spec_call {P : Program} {w : World} {K : PySem.W.Frag} {mg mb : Str → Option Value} {CX : CXT} {k : Nat} {fa : Addr} {fd : FuncData} {ps : List Str} {sp : Sp} {s₁ : Shared} {vals : List Value} {ds : List WData} {R : PySem.W.WRecords} {cl : Str → Option Addr} {d0 : WData}
    (KX : K.In s₁.heap) (hns : s₁.heap.Ns mainGlobals mg) (hb : s₁.heap.Ns builtinsNs mb) (hbb : ∀ x : Str, x ≠ "__name__" → mb x = bootBuiltins x) (hlim : s₁.heap.NoLimit) (hg : s₁.gens = #[])
    (hwl : WellAll w.params s₁.heap vals ds) (hpl : plWs ds = true) (hwt : ∀ d ∈ ds, d.weight ≤ 1048576) (hr : Room k callerA)
    (F : ∀ base : Heap, K.In base → base.Ns mainGlobals mg → FnOk P w K mg base CX k fa fd ps sp) (hbind : ∀ (s : Shared) (us : List Value), us.length = ps.length → BindsTo s fd ⟨us, []⟩ (ps.zip us)) (hlen : ds.length = ps.length)
    (hsp : ∀ (H : Hp) (xs : List V), OnlyF H → DwAll K H xs ds → sp xs H (fun v H' => Dw K H' v d0) fun _ _ _ => False)
    (hCX : ∀ H e s', CX [] H s₁ (fun _ _ _ => False) e s' → False) :
    codeAny (model P w) callerA (.call (.ref fa) ⟨vals, []⟩) (fun r s' => ∃ u as, r = .ok (.ret u) ∧ ReadsW R cl s'.heap u d0 as ∧ OldK s₁.heap s'.heap ∧ s'.os = s₁.os ∧ AllBare s'.gens) s₁ := by
  obtain ⟨A, ho, ar⟩ := area_all ds vals hwl hpl hwt
  have hO : OnlyF (argH K s₁.heap A) := argH_only ar
  have hok : HOk P w (argH K s₁.heap A) s₁.heap := argH_ok ar
  have hS := dw_all KX ar ds vals hwl hpl ho
  have hV := vals_toV ho
  have hK : ∀ b u, argH K s₁.heap A b = some u → K.lookup b = none := fun b u q => (argH_is ar q).1
  have noA : ∀ {b : Addr} {o : Obj} {es : Array DictEntry} {ep : Nat}, s₁.heap.get? b = some o → o.data = .dict es ep → argH K s₁.heap A b = none := fun {b o es ep} e d => by
    cases q : argH K s₁.heap A b with
    | none => rfl
    | some u =>
      obtain ⟨_, vs, _, _, ⟨e2, _⟩ | ⟨e2, _⟩⟩ := argH_is ar q
      · rw [e2] at e
        cases e
        have d' : Data.seq vs.toArray _ = Data.dict es ep := d
        cases d'
      · rw [e2] at e
        cases e
        have d' : Data.seq vs.toArray _ = Data.dict es ep := d
        cases d'
  generalize argH K s₁.heap A = H at hO hok hS hK noA
  have base_of : ∀ {b : Addr} {o : Obj}, s₁.heap.get? b = some o → H b = none → (hidT s₁.heap H).get? b = some o := fun e n => hidT_get e n
  have nsK : ∀ {b : Addr} {m : Str → Option Value}, s₁.heap.Ns b m → (hidT s₁.heap H).Ns b m := fun {b m} ⟨o, es, ep, e, d, r⟩ => ⟨o, es, ep, base_of e (noA e d), d, r⟩
  have nK : ∀ b o, K.lookup b = some o → H b = none := fun b o e => by
    cases q : H b with
    | none => rfl
    | some u =>
      rw [hK b u q] at e
      cases e
  have hKb : K.In (hidT s₁.heap H) := fun b o e => base_of (KX b o e) (nK b o e)
  have hM : Mod K mg (hidT s₁.heap H) := ⟨hKb, nsK hns, ⟨mb, nsK hb, hbb⟩, let ⟨mc, h1, h2⟩ := hlim; ⟨mc, nsK h1, h2⟩⟩
  have e0 : Env0 P w K mg (hidT s₁.heap H) callerA [] s₁ H := ⟨rfl, hM, fun b o e => of_hidT e, Nat.le_of_eq (hidT_size _ _), trivial, fun b hb => absurd (show b ∈ ([] : List Addr) from hb) (by simp), hok, .of_eq hg⟩
  have hl : vals.length = ps.length := by rw [wellAll_len hwl]; exact hlen
  refine codeAny_mono ((F _ hKb (nsK hns)).run callerA [] s₁ H ⟨vals, []⟩ vals (vals.map toV) _ _ hr e0 (hbind s₁ vals hl) hV (hsp H _ hO hS)) fun r s' x => ?_
  cases r with
  | error e => exact (hCX H e s' x).elim
  | ok fl =>
    cases fl with
    | next => exact False.elim x
    | brk => exact False.elim x
    | cont => exact False.elim x
    | ret u =>
      obtain ⟨v, H', os, bare, un, hok', r', q⟩ := x
      have kept : ∀ b o, s₁.heap.get? b = some o → s'.heap.get? b = some o := fun b o e => by
        cases q2 : H b with
        | none => exact un.keep b o e q2 (by intro z; exact absurd (show b ∈ ([] : List Addr) from z) (by simp)) (by simp)
        | some u2 =>
          rcases hO b with z | ⟨ob, u3, z⟩
          · rw [q2] at z
            cases z
          · have z2 := un.frzs b ob _ z
            obtain ⟨e1, _⟩ := hok b _ z
            obtain ⟨e2, _⟩ := hok' b _ z2
            rw [e] at e1
            cases e1
            exact e2
      have KX' : K.In s'.heap := fun b o e => kept b o (KX b o e)
      obtain ⟨as, hrd⟩ := Dw.reads (R := R) (cl := cl) hok' KX' d0 v u q r'
      exact ⟨u, as, rfl, hrd, OldK.of_keep kept, os, bare⟩
/-! ### the row -/
theorem layable_weight {ds : List WData} (h : WData.layableAll ds = true) : ∀ d ∈ ds, d.weight ≤ 1048576 := fun d hd =>
  (PySem.W.layableW_iff.mp (List.all_eq_true.mp h d hd)).2.2
theorem encAll_len : ∀ (cs : List Codec) (a : Codec.denoteAll cs), (Codec.encAll cs a).length = cs.length
  | [], _ => rfl
  | c :: cs, a => by
    show (Codec.encAll cs a.2).length + 1 = cs.length + 1
    rw [encAll_len cs a.2]
/-- the goal that k_headS leaves (case hc), from the promise of the row's def: whatever the arguments that the codecs let and the row asks for, the def gives what stands for enc (f ..) -/
theorem walk_spec {r : OpenSpec} {k : Nat} {q : Program} {loose : List Str} {XP : (Str → Option Value) → Heap → Prop} {YP : World → Heap → Prop} {d : DefRec} {K : Params → PySem.W.Frag} {CX : World → CXT} {ps : List Str} {sp : World → Sp}
    (hwell : r.wellSaid = true) (hdf : d.params.defaults = []) (hlen : r.args.length = ps.length) (hr : Room k callerA)
    (hY : ∀ (w : World) (h : Heap), YP w h → (K w.params).In h)
    (F : ∀ (w : World) (mg : Str → Option Value) (fa : Addr) (h : Heap), YP w h → (K w.params).In h → h.Ns mainGlobals mg → mg d.name = some (.ref fa) →
      ∃ fd : FuncData, (∀ (s : Shared) (us : List Value), us.length = ps.length → BindsTo s fd ⟨us, []⟩ (ps.zip us)) ∧
        ∀ base : Heap, (K w.params).In base → base.Ns mainGlobals mg → FnOk r.prog w (K w.params) mg base (CX w) k fa fd ps (sp w))
    (hsp : ∀ (w : World) (H : Hp) (xs : List V) (a : Codec.denoteAll r.args), OnlyF H → Codec.withinAll r.args a = true → Codec.app r.args r.asked a = true → DwAll (K w.params) H xs (Codec.encAll r.args a) →
      sp w xs H (fun v H' => Dw (K w.params) H' v (r.ret.enc (Codec.app r.args r.f a))) fun _ _ _ => False)
    (hCX : ∀ (w : World) (H : Hp) (s : Shared) (e : Value) (s' : Shared), CX w [] H s (fun _ _ _ => False) e s' → False) :
    PySem.W.WalkOS q loose XP YP r d [] (fun f vs => PySem.call f vs) := by
  intro w s_0 s₁ mg mb G Y fa o pm cd doc dV kV ho hd hcd hD hmg hg args vals as hpre hlay hrd hwl hlo
  obtain ⟨a, e1, e2⟩ := PySem.W.os_pre_some hpre
  obtain ⟨e3, hwi⟩ := Codec.encAll_of_decAll r.args args a e1
  subst e3
  have KX := hY w _ Y
  obtain ⟨fd, hb, hF⟩ := F w mg fa _ Y KX G.T.g hmg
  refine PySem.W.enter_call (codeAny_mono (spec_call (R := []) (cl := classAt s_0.heap) (d0 := r.ret.enc (Codec.app r.args r.f a)) KX G.T.g G.T.b G.T.builtins G.T.nolimit hg hwl (pl_encAll _ _) (layable_weight hlay) hr hF hb (by rw [encAll_len]; exact hlen)
    (fun H xs hO hS => hsp w H xs a hO hwi e2 hS) fun H e s' => hCX w H s₁ e s') fun r' s' hq => ?_)
  obtain ⟨u, as', rfl, h1, h2, h3, h4⟩ := hq
  exact ⟨.inl ⟨u, _, as', rfl, fun _ => rfl, h1, (OpenSpec.post_iff hwell hwi _ _).mpr rfl, fun z => Bool.noConfusion (show false = true from z)⟩, h2, h3, h4⟩
/-- the same where the promise hangs on the written part alone -/
theorem walk_specK {r : OpenSpec} {k : Nat} {q : Program} {loose : List Str} {XP : (Str → Option Value) → Heap → Prop} {YP : World → Heap → Prop} {d : DefRec} {K : Params → PySem.W.Frag} {CX : CXT} {ps : List Str} {sp : PySem.W.Frag → Sp}
    (hwell : r.wellSaid = true) (hdf : d.params.defaults = []) (hlen : r.args.length = ps.length) (hr : Room k callerA)
    (hY : ∀ (w : World) (h : Heap), YP w h → (K w.params).In h)
    (F : ∀ (w : World) (mg : Str → Option Value) (fa : Addr) (h : Heap), YP w h → (K w.params).In h → h.Ns mainGlobals mg → mg d.name = some (.ref fa) →
      ∃ fd : FuncData, (∀ (s : Shared) (us : List Value), us.length = ps.length → BindsTo s fd ⟨us, []⟩ (ps.zip us)) ∧
        ∀ base : Heap, (K w.params).In base → base.Ns mainGlobals mg → FnOk r.prog w (K w.params) mg base CX k fa fd ps (sp (K w.params)))
    (hsp : ∀ (K : PySem.W.Frag) (H : Hp) (xs : List V) (a : Codec.denoteAll r.args), OnlyF H → Codec.withinAll r.args a = true → Codec.app r.args r.asked a = true → DwAll K H xs (Codec.encAll r.args a) →
      sp K xs H (fun v H' => Dw K H' v (r.ret.enc (Codec.app r.args r.f a))) fun _ _ _ => False)
    (hCX : ∀ (H : Hp) (s : Shared) (e : Value) (s' : Shared), CX [] H s (fun _ _ _ => False) e s' → False) :
    PySem.W.WalkOS q loose XP YP r d [] (fun f vs => PySem.call f vs) :=
  walk_spec (K := K) (CX := fun _ => CX) (sp := fun w => sp (K w.params)) hwell hdf hlen hr hY F (fun w H xs a h1 h2 h3 h4 => hsp (K w.params) H xs a h1 h2 h3 h4) fun _ H s e s' => hCX H s e s'
end L2
end
section
set_option linter.all false
namespace CM
open Ck

/-! ### the cut -/
theorem cutFrom_nil (r : Rule) (cur : Bytes) (n h : Nat) : cutFrom r cur n h [] = ⟨[], cur⟩ := by
  unfold cutFrom; rfl
theorem cutFrom_end (r : Rule) (cur : Bytes) (n h b : Nat) (s : Bytes) (e : endsBy r (n + 1) (onward r h b) = true) :
    cutFrom r cur n h (b :: s) = ⟨(cur ++ [b]) :: (cutFrom r [] 0 0 s).pieces, (cutFrom r [] 0 0 s).tail⟩ := by
  rw [cutFrom]; dsimp only; rw [if_pos e]
theorem cutFrom_on (r : Rule) (cur : Bytes) (n h b : Nat) (s : Bytes) (e : ¬ endsBy r (n + 1) (onward r h b) = true) :
    cutFrom r cur n h (b :: s) = cutFrom r (cur ++ [b]) (n + 1) (onward r h b) s := by
  rw [cutFrom]; dsimp only; rw [if_neg e]

/-- the row so far would be met again from its beginning -/
def Pend (r : Rule) (cur : Bytes) (n h : Nat) : Prop := ∀ x, cut r (cur ++ x) = cutFrom r cur n h x
theorem pend_nil (r : Rule) : Pend r [] 0 0 := fun _ => rfl
theorem pend_on {r : Rule} {cur : Bytes} {n h b : Nat} (p : Pend r cur n h) (e : ¬ endsBy r (n + 1) (onward r h b) = true) : Pend r (cur ++ [b]) (n + 1) (onward r h b) := fun x => by
  rw [List.append_assoc, p, List.singleton_append, cutFrom_on r cur n h b x e]
theorem cut_ap (r : Rule) : ∀ (a b : Bytes) (cur : Bytes) (n h : Nat), Pend r cur n h →
    cutFrom r cur n h (a ++ b) = ⟨(cutFrom r cur n h a).pieces ++ (cut r ((cutFrom r cur n h a).tail ++ b)).pieces, (cut r ((cutFrom r cur n h a).tail ++ b)).tail⟩
  | [], b, cur, n, h, p => by
    rw [cutFrom_nil, List.nil_append]
    show cutFrom r cur n h b = ⟨[] ++ (cut r (cur ++ b)).pieces, (cut r (cur ++ b)).tail⟩
    rw [p, List.nil_append]
  | c :: a, b, cur, n, h, p => by
    by_cases e : endsBy r (n + 1) (onward r h c) = true
    · rw [List.cons_append, cutFrom_end r cur n h c (a ++ b) e, cutFrom_end r cur n h c a e, cut_ap r a b [] 0 0 (pend_nil r)]
      rfl
    · rw [List.cons_append, cutFrom_on r cur n h c (a ++ b) e, cutFrom_on r cur n h c a e]
      exact cut_ap r a b _ _ _ (pend_on p e)
theorem cut_append (r : Rule) (a b : Bytes) : cut r (a ++ b) = ⟨(cut r a).pieces ++ (cut r ((cut r a).tail ++ b)).pieces, (cut r ((cut r a).tail ++ b)).tail⟩ :=
  cut_ap r a b [] 0 0 (pend_nil r)
theorem flat_from (r : Rule) : ∀ (s cur : Bytes) (n h : Nat), (cutFrom r cur n h s).pieces.flatten ++ (cutFrom r cur n h s).tail = cur ++ s
  | [], cur, n, h => by rw [cutFrom_nil]; simp
  | b :: s, cur, n, h => by
    by_cases e : endsBy r (n + 1) (onward r h b) = true
    · rw [cutFrom_end r cur n h b s e]
      have ih := flat_from r s [] 0 0
      dsimp only
      rw [List.flatten_cons, List.append_assoc, ih]
      simp
    · rw [cutFrom_on r cur n h b s e, flat_from r s]
      simp
theorem cut_flat (r : Rule) (s : Bytes) : (cut r s).pieces.flatten ++ (cut r s).tail = s := flat_from r s [] 0 0
theorem ne_from (r : Rule) : ∀ (s cur : Bytes) (n h : Nat), ∀ p ∈ (cutFrom r cur n h s).pieces, p ≠ []
  | [], cur, n, h => by rw [cutFrom_nil]; intro p hp; cases hp
  | b :: s, cur, n, h => by
    by_cases e : endsBy r (n + 1) (onward r h b) = true
    · rw [cutFrom_end r cur n h b s e]
      intro p hp
      rcases List.mem_cons.mp hp with rfl | hp
      · simp
      · exact ne_from r s [] 0 0 p hp
    · rw [cutFrom_on r cur n h b s e]
      exact ne_from r s _ _ _
theorem cut_ne (r : Rule) (s : Bytes) : ∀ p ∈ (cut r s).pieces, p ≠ [] := ne_from r s [] 0 0

/-! ### sums -/
theorem sum_cons (x : Nat) (l : List Nat) : Ck.sum (x :: l) = x + Ck.sum l := rfl
theorem total_nil : total [] = 0 := rfl
theorem total_cons (p : Bytes) (l : List Bytes) : total (p :: l) = p.length + total l := rfl
theorem total_append : ∀ a b : List Bytes, total (a ++ b) = total a + total b
  | [], b => by rw [List.nil_append, total_nil, Nat.zero_add]
  | p :: a, b => by rw [List.cons_append, total_cons, total_cons, total_append a b, Nat.add_assoc]
theorem total_flat : ∀ l : List Bytes, total l = l.flatten.length
  | [] => rfl
  | p :: l => by rw [total_cons, List.flatten_cons, List.length_append, total_flat l]
theorem total_rev : ∀ l : List Bytes, total l.reverse = total l
  | [] => rfl
  | p :: l => by rw [List.reverse_cons, total_append, total_rev l, total_cons, total_cons, total_nil]; omega
theorem len_le_total : ∀ l : List Bytes, (∀ p ∈ l, p ≠ []) → l.length ≤ total l
  | [], _ => Nat.le_refl _
  | p :: l, h => by
    have h1 : p ≠ [] := h p (List.mem_cons_self ..)
    have h2 := len_le_total l fun q hq => h q (List.mem_cons_of_mem _ hq)
    have h3 : 0 < p.length := List.length_pos_iff.mpr h1
    rw [total_cons, List.length_cons]; omega
/-- the program's sum of lengths -/
theorem sumI_total : ∀ l : List Bytes, (l.map fun p => (p.length : Int)).sum = ((total l : Nat) : Int)
  | [] => rfl
  | p :: l => by rw [List.map_cons, List.sum_cons, sumI_total l, total_cons]; omega
theorem sumI_sum : ∀ l : List Nat, (l.map fun (n : Nat) => (n : Int)).sum = ((Ck.sum l : Nat) : Int)
  | [] => rfl
  | p :: l => by rw [List.map_cons, List.sum_cons, sumI_sum l, sum_cons]; omega

/-! ### a stream -/
theorem st_flat (r : Rule) (x : Stream) : (Ck.pieces r x).flatten ++ Ck.tail r x = x.bytes := by
  have h := cut_flat r x.bytes
  unfold Ck.pieces Ck.tail
  dsimp only
  cases hc : x.closed with
  | false => simpa using h
  | true =>
    by_cases e : (cut r x.bytes).tail.isEmpty = true
    · rw [e]
      have e2 : (cut r x.bytes).tail = [] := List.isEmpty_iff.mp e
      rw [e2] at h
      simpa using h
    · have e2 : (cut r x.bytes).tail.isEmpty = false := by simpa using e
      rw [e2]
      simp only [Bool.not_false, Bool.and_self, if_true, List.flatten_append, List.flatten_cons, List.flatten_nil, List.append_nil]
      exact h
theorem st_total (r : Rule) (x : Stream) : total (Ck.pieces r x) + (Ck.tail r x).length = x.bytes.length := by
  have h := congrArg List.length (st_flat r x)
  rw [List.length_append, ← total_flat] at h
  exact h
theorem st_ne (r : Rule) (x : Stream) : ∀ p ∈ Ck.pieces r x, p ≠ [] := by
  intro p hp
  unfold Ck.pieces at hp
  dsimp only at hp
  split at hp
  · rename_i e
    rcases List.mem_append.mp hp with hp | hp
    · exact cut_ne r _ p hp
    · rw [List.mem_singleton] at hp
      subst hp
      intro q
      rw [q] at e
      simp at e
  · exact cut_ne r _ p hp
theorem st_count (r : Rule) (x : Stream) : (Ck.pieces r x).length ≤ x.bytes.length := by
  have h1 := len_le_total _ (st_ne r x)
  have h2 := st_total r x
  omega
theorem st_mem (r : Rule) (x : Stream) {p : Bytes} (hp : p ∈ Ck.pieces r x) {b : Nat} (hb : b ∈ p) : b ∈ x.bytes := by
  rw [← st_flat r x]
  exact List.mem_append_left _ (List.mem_flatten.mpr ⟨p, hp, hb⟩)
theorem st_tail_mem (r : Rule) (x : Stream) {b : Nat} (hb : b ∈ Ck.tail r x) : b ∈ x.bytes := by
  rw [← st_flat r x]
  exact List.mem_append_right _ hb
theorem open_new (r : Rule) : Ck.pieces r ⟨[], false⟩ = [] ∧ Ck.tail r ⟨[], false⟩ = [] := ⟨rfl, rfl⟩
theorem open_feed (r : Rule) (a b : Bytes) :
    Ck.pieces r ⟨a ++ b, false⟩ = Ck.pieces r ⟨a, false⟩ ++ (cut r (Ck.tail r ⟨a, false⟩ ++ b)).pieces ∧ Ck.tail r ⟨a ++ b, false⟩ = (cut r (Ck.tail r ⟨a, false⟩ ++ b)).tail := by
  have h := cut_append r a b
  constructor
  · show (cut r (a ++ b)).pieces = (cut r a).pieces ++ (cut r ((cut r a).tail ++ b)).pieces
    rw [h]
  · show (cut r (a ++ b)).tail = (cut r ((cut r a).tail ++ b)).tail
    rw [h]
theorem open_close (r : Rule) (a : Bytes) :
    Ck.pieces r ⟨a, true⟩ = (if (Ck.tail r ⟨a, false⟩).length = 0 then Ck.pieces r ⟨a, false⟩ else Ck.pieces r ⟨a, false⟩ ++ [Ck.tail r ⟨a, false⟩]) ∧ Ck.tail r ⟨a, true⟩ = [] := by
  refine ⟨?_, rfl⟩
  show (if (true && !(cut r a).tail.isEmpty) = true then (cut r a).pieces ++ [(cut r a).tail] else (cut r a).pieces) = (if (cut r a).tail.length = 0 then (cut r a).pieces else (cut r a).pieces ++ [(cut r a).tail])
  cases (cut r a).tail with
  | nil => rfl
  | cons x l => rfl

/-! ### each piece once, as a dict keeps its keys -/
def keysOn (ks : List Bytes) (p : Bytes) : List Bytes := if ks.contains p = true then ks else ks ++ [p]
def keysOf (l : List Bytes) : List Bytes := l.foldl keysOn []
theorem once_keys : ∀ (l had : List Bytes), once had l = (l.foldl keysOn had.reverse).reverse
  | [], had => by simp [once]
  | x :: l, had => by
    rw [once, once_keys l, List.foldl_cons]
    congr 2
    unfold keysOn
    have e : had.reverse.contains x = had.contains x := by
      rw [Bool.eq_iff_iff, List.contains_iff_mem, List.contains_iff_mem, List.mem_reverse]
    rw [e]
    split <;> simp
theorem once_total (l : List Bytes) : total (once [] l) = total (keysOf l) := by
  rw [once_keys, total_rev]; rfl
theorem once_length (l : List Bytes) : (once [] l).length = (keysOf l).length := by
  rw [once_keys, List.length_reverse]; rfl
theorem keysOf_snoc (l : List Bytes) (p : Bytes) : keysOf (l ++ [p]) = keysOn (keysOf l) p := by
  unfold keysOf; rw [List.foldl_append]; rfl
theorem keysOn_len (ks : List Bytes) (p : Bytes) : (keysOn ks p).length ≤ ks.length + 1 := by
  unfold keysOn; split <;> simp
theorem keysOf_len (l : List Bytes) : (keysOf l).length ≤ l.length := by
  have : ∀ (l ks : List Bytes), (l.foldl keysOn ks).length ≤ ks.length + l.length := by
    intro l
    induction l with
    | nil => intro ks; simp
    | cons x l ih =>
      intro ks
      have h1 := ih (keysOn ks x)
      have h2 := keysOn_len ks x
      rw [List.foldl_cons, List.length_cons]; omega
  have h := this l []
  rw [List.length_nil, Nat.zero_add] at h
  exact h
theorem keysOn_mem {ks : List Bytes} {p q : Bytes} : q ∈ keysOn ks p ↔ q ∈ ks ∨ q = p := by
  unfold keysOn
  split
  · rename_i h
    rw [List.contains_iff_mem] at h
    exact ⟨fun a => .inl a, fun a => a.elim id fun e => e ▸ h⟩
  · rw [List.mem_append, List.mem_singleton]
theorem keysOf_mem {l : List Bytes} {q : Bytes} : q ∈ keysOf l ↔ q ∈ l := by
  have : ∀ (l ks : List Bytes), q ∈ l.foldl keysOn ks ↔ q ∈ ks ∨ q ∈ l := by
    intro l
    induction l with
    | nil => intro ks; simp
    | cons x l ih =>
      intro ks
      rw [List.foldl_cons, ih, keysOn_mem, List.mem_cons, or_assoc]
  simpa [keysOf] using this l []
end CM
end
section
set_option linter.all false
namespace CM
open Ck Wrcutp

/-! ### what holds of every state that is met -/
structure RuleOk (r : Rule) : Prop where
  len : r.table.length = 256
  bits : r.bits ≤ 16
  least : 1 ≤ r.least
  lm : r.least ≤ r.most
  most : r.most ≤ 256
structure StreamOk (x : Stream) : Prop where
  len : x.bytes.length ≤ 2048
  byte : ∀ b ∈ x.bytes, b < 256
structure WF (s : State) : Prop where
  len : s.streams.length = 8
  rule : RuleOk s.rule
  st : ∀ x, some x ∈ s.streams → StreamOk x

theorem wf_start : WF Wrcutp.start := by
  refine ⟨List.length_replicate, ⟨List.length_replicate, by decide, by decide, by decide, by decide⟩, fun x hx => ?_⟩
  have := List.eq_of_mem_replicate (show some x ∈ List.replicate STREAMS none from hx)
  cases this
theorem at_some {s : State} {k : Nat} {x : Stream} (h : s.at_ k = some x) : s.streams[k]? = some (some x) := by
  unfold State.at_ at h
  rw [List.getD_eq_getElem?_getD] at h
  cases e : s.streams[k]? with
  | none => rw [e] at h; cases h
  | some o => rw [e] at h; exact congrArg some h
theorem at_none {s : State} {k : Nat} (h : s.at_ k = none) : s.streams[k]? = none ∨ s.streams[k]? = some none := by
  unfold State.at_ at h
  rw [List.getD_eq_getElem?_getD] at h
  cases e : s.streams[k]? with
  | none => exact .inl rfl
  | some o => rw [e] at h; exact .inr (congrArg some h)
theorem at_mem {s : State} {k : Nat} {x : Stream} (h : s.at_ k = some x) : some x ∈ s.streams := List.mem_of_getElem? (at_some h)
theorem at_lt {s : State} (W : WF s) {k : Nat} {x : Stream} (h : s.at_ k = some x) : k < 8 := by
  have := (List.getElem?_eq_some_iff.mp (at_some h)).1
  rw [W.len] at this; exact this
theorem wf_set {s : State} (W : WF s) (k : Nat) (o : Option Stream) (h : ∀ x, o = some x → StreamOk x) : WF (s.set k o) := by
  refine ⟨by show (s.streams.set k o).length = 8; rw [List.length_set]; exact W.len, W.rule, fun x hx => ?_⟩
  rcases List.mem_or_eq_of_mem_set (show some x ∈ s.streams.set k o from hx) with hx | hx
  · exact W.st x hx
  · exact h x hx.symm

/-! ### the calls -/
section
variable {s : State} {k : Nat} {x : Stream} {b : Bytes}
theorem table_no {bits least most : Nat} {t : List Nat} (h : t.length ≠ 256 ∨ 16 < bits ∨ least = 0 ∨ most < least ∨ 256 < most) : step s (.table bits least most t) = (s, .no (-2)) := by
  unfold step
  dsimp only
  rw [if_pos]
  rcases h with h | h | h | h | h
  · exact .inl h
  · exact .inr (.inr (.inl h))
  · exact .inr (.inr (.inr (.inl h)))
  · exact .inr (.inr (.inr (.inr (.inl h))))
  · exact .inr (.inr (.inr (.inr (.inr h))))
theorem table_yes {bits least most : Nat} {t : List Nat} (h1 : t.length = 256) (h2 : ∀ z ∈ t, z < 2 ^ 32) (h3 : bits ≤ 16) (h4 : 1 ≤ least) (h5 : least ≤ most) (h6 : most ≤ 256) :
    step s (.table bits least most t) = if (all s).isEmpty = false then (s, .no (-6)) else (⟨⟨t, bits, least, most⟩, s.streams⟩, .ok) := by
  unfold step
  dsimp only
  rw [if_neg]
  have e : t.all (fun (z : Nat) => decide (z < 2 ^ 32)) = true := by
    rw [List.all_eq_true]
    intro z hz
    exact decide_eq_true (h2 z hz)
  rw [e]
  rintro (q | q | q | q | q | q)
  · exact q h1
  · cases q
  · omega
  · omega
  · omega
  · omega
theorem feed_none (h : s.at_ k = none) : step s (.feed k b) = (s, .no (-1)) := by
  unfold step ofStream; dsimp only; rw [h]
theorem feed_no (h : s.at_ k = some x) (h2 : x.closed = true ∨ b.all isByte = false) : step s (.feed k b) = (s, .no (-1)) := by
  unfold step ofStream; dsimp only; rw [h]; dsimp only; rw [if_pos h2]
theorem feed_long (h : s.at_ k = some x) (hc : x.closed = false) (hb : b.all isByte = true) (hl : 2048 < x.bytes.length + b.length) : step s (.feed k b) = (s, .no (-3)) := by
  unfold step ofStream; dsimp only; rw [h]; dsimp only; rw [if_neg (by rw [hc, hb]; simp), if_pos (show LONG < _ from hl)]
theorem feed_room (h : s.at_ k = some x) (hc : x.closed = false) (hb : b.all isByte = true) (hl : ¬ 2048 < x.bytes.length + b.length) :
    step s (.feed k b) = if 4096 < kept (s.set k (some ⟨x.bytes ++ b, false⟩)) ∨ 256 < spots (s.set k (some ⟨x.bytes ++ b, false⟩)) then (s, .no (-5)) else (s.set k (some ⟨x.bytes ++ b, false⟩), .ok) := by
  unfold step ofStream; dsimp only; rw [h]; dsimp only; rw [if_neg (by rw [hc, hb]; simp), if_neg (show ¬ LONG < _ from hl)]
  unfold fed
  rw [hc]
  rfl
theorem close_none (h : s.at_ k = none) : step s (.close k) = (s, .no (-1)) := by
  unfold step ofStream; dsimp only; rw [h]
theorem close_no (h : s.at_ k = some x) (h2 : x.closed = true) : step s (.close k) = (s, .no (-1)) := by
  unfold step ofStream; dsimp only; rw [h]; dsimp only; rw [if_pos h2]
theorem close_yes (h : s.at_ k = some x) (h2 : x.closed = false) : step s (.close k) = (s.set k (some ⟨x.bytes, true⟩), .ok) := by
  unfold step ofStream; dsimp only; rw [h]; dsimp only; rw [if_neg (by rw [h2]; simp)]
theorem drop_none (h : s.at_ k = none) : step s (.drop k) = (s, .no (-1)) := by
  unfold step ofStream; dsimp only; rw [h]
theorem drop_yes (h : s.at_ k = some x) : step s (.drop k) = (s.set k none, .ok) := by
  unfold step ofStream; dsimp only; rw [h]
theorem size_none (h : s.at_ k = none) : step s (.size k) = (s, .no (-1)) := by
  unfold step ofStream; dsimp only; rw [h]
theorem size_yes (h : s.at_ k = some x) : step s (.size k) = (s, .nums [x.bytes.length, if x.closed = true then 1 else 0]) := by
  unfold step ofStream; dsimp only; rw [h]
theorem read_none {a c : Nat} (h : s.at_ k = none) : step s (.read k a c) = (s, .no (-1)) := by
  unfold step ofStream; dsimp only; rw [h]
theorem read_yes {a c : Nat} (h : s.at_ k = some x) : step s (.read k a c) = (s, .nums ((x.bytes.drop a).take c)) := by
  unfold step ofStream; dsimp only; rw [h]
theorem pieces_none (h : s.at_ k = none) : step s (.pieces k) = (s, .no (-1)) := by
  unfold step ofStream; dsimp only; rw [h]
theorem pieces_yes (h : s.at_ k = some x) : step s (.pieces k) = (s, .nums ((Ck.pieces s.rule x).map (fun (p : Bytes) => p.length))) := by
  unfold step ofStream; dsimp only; rw [h]
theorem tail_none (h : s.at_ k = none) : step s (.tail k) = (s, .no (-1)) := by
  unfold step ofStream; dsimp only; rw [h]
theorem tail_yes (h : s.at_ k = some x) : step s (.tail k) = (s, .nums (Ck.tail s.rule x)) := by
  unfold step ofStream; dsimp only; rw [h]
theorem shared_none1 {l : Nat} (h : s.at_ k = none) : step s (.shared k l) = (s, .no (-1)) := by
  unfold step ofStream; dsimp only; rw [h]
theorem shared_none2 {l : Nat} (h : s.at_ l = none) : step s (.shared k l) = (s, .no (-1)) := by
  unfold step ofStream
  dsimp only
  rw [h]
  cases s.at_ k with
  | none => rfl
  | some x => rfl
theorem shared_yes {l : Nat} {y : Stream} (h : s.at_ k = some x) (h2 : s.at_ l = some y) : step s (.shared k l) = (s, .nums [total ((Ck.pieces s.rule x).filter (fun (p : Bytes) => (Ck.pieces s.rule y).contains p))]) := by
  unfold step ofStream; dsimp only; rw [h]; dsimp only; rw [h2]
end

theorem wf_step {s : State} (W : WF s) (c : Call) : WF (step s c).1 := by
  cases c with
  | begin_ => exact wf_start
  | table bits least most t =>
    unfold step
    dsimp only
    split
    · exact W
    · rename_i h
      split
      · exact W
      · rename_i h2
        have e : s.streams = s.streams := rfl
        refine ⟨W.len, ⟨?_, ?_, ?_, ?_, ?_⟩, W.st⟩
        · show t.length = 256
          exact Classical.byContradiction fun q => h (.inl q)
        · show bits ≤ 16
          exact Classical.byContradiction fun q => h (.inr (.inr (.inl (by omega))))
        · show 1 ≤ least
          exact Classical.byContradiction fun q => h (.inr (.inr (.inr (.inl (by omega)))))
        · show least ≤ most
          exact Classical.byContradiction fun q => h (.inr (.inr (.inr (.inr (.inl (by omega))))))
        · show most ≤ 256
          exact Classical.byContradiction fun q => h (.inr (.inr (.inr (.inr (.inr (by omega))))))
  | open_ =>
    unfold step
    dsimp only
    split
    · exact wf_set W _ _ fun x hx => by cases hx; exact ⟨by simp, by simp⟩
    · exact W
  | feed k b =>
    cases e : s.at_ k with
    | none => rw [feed_none e]; exact W
    | some x =>
      cases hc : x.closed with
      | true => rw [feed_no e (.inl hc)]; exact W
      | false =>
        cases hb : b.all isByte with
        | false => rw [feed_no e (.inr hb)]; exact W
        | true =>
          by_cases hl : 2048 < x.bytes.length + b.length
          · rw [feed_long e hc hb hl]; exact W
          · rw [feed_room e hc hb hl]
            split
            · exact W
            · refine wf_set W _ _ fun y hy => ?_
              cases hy
              have X := W.st x (at_mem e)
              refine ⟨by show (x.bytes ++ b).length ≤ 2048; rw [List.length_append]; omega, fun z hz => ?_⟩
              rcases List.mem_append.mp (show z ∈ x.bytes ++ b from hz) with hz | hz
              · exact X.byte z hz
              · exact of_decide_eq_true (List.all_eq_true.mp hb z hz)
  | close k =>
    cases e : s.at_ k with
    | none => rw [close_none e]; exact W
    | some x =>
      cases hc : x.closed with
      | true => rw [close_no e hc]; exact W
      | false =>
        rw [close_yes e hc]
        refine wf_set W _ _ fun y hy => ?_
        cases hy
        have X := W.st x (at_mem e)
        exact ⟨X.len, X.byte⟩
  | drop k =>
    cases e : s.at_ k with
    | none => rw [drop_none e]; exact W
    | some x => rw [drop_yes e]; exact wf_set W _ _ fun y hy => by cases hy
  | size k =>
    cases e : s.at_ k with
    | none => rw [size_none e]; exact W
    | some x => rw [size_yes e]; exact W
  | read k a c =>
    cases e : s.at_ k with
    | none => rw [read_none e]; exact W
    | some x => rw [read_yes e]; exact W
  | pieces k =>
    cases e : s.at_ k with
    | none => rw [pieces_none e]; exact W
    | some x => rw [pieces_yes e]; exact W
  | tail k =>
    cases e : s.at_ k with
    | none => rw [tail_none e]; exact W
    | some x => rw [tail_yes e]; exact W
  | has b => exact W
  | shared k l =>
    cases e : s.at_ k with
    | none => rw [shared_none1 e]; exact W
    | some x =>
      cases e2 : s.at_ l with
      | none => rw [shared_none2 e2]; exact W
      | some y => rw [shared_yes e e2]; exact W
  | kept => exact W

/-! ### free streams -/
theorem all_empty {s : State} : (all s).isEmpty = true ↔ ∀ o ∈ s.streams, o = none := by
  unfold all
  rw [List.isEmpty_iff, List.filterMap_eq_nil_iff]
/-- the numbers of the free streams -/
def freeN (l : List (Option Stream)) : List Nat := (List.range l.length).filter fun i => (l.getD i none).isNone
theorem freeN_len {l : List (Option Stream)} : (freeN l).length = l.length ↔ ∀ o ∈ l, o = none := by
  unfold freeN
  have h : ((List.range l.length).filter fun i => (l.getD i none).isNone).length = (List.range l.length).length ↔ ∀ i ∈ List.range l.length, (l.getD i none).isNone = true := List.length_filter_eq_length_iff
  rw [List.length_range] at h
  rw [h]
  constructor
  · intro q o ho
    obtain ⟨i, hi, e⟩ := List.getElem_of_mem ho
    have := q i (List.mem_range.mpr hi)
    rw [List.getD_eq_getElem?_getD, List.getElem?_eq_getElem hi, e] at this
    cases o with
    | none => rfl
    | some x => cases this
  · intro q i hi
    have hi := List.mem_range.mp hi
    rw [List.getD_eq_getElem?_getD, List.getElem?_eq_getElem hi]
    have := q _ (List.getElem_mem hi)
    show (l[i]).isNone = true
    rw [this]; rfl
theorem find_free : ∀ (l : List (Option Stream)), l.findIdx? (fun o => o.isNone) = (freeN l).head? := by
  intro l
  unfold freeN
  rw [List.head?_filter]
  induction l with
  | nil => rfl
  | cons o l ih =>
    rw [List.findIdx?_cons, List.length_cons, List.range_succ_eq_map, List.find?_cons]
    cases o with
    | none => rfl
    | some x =>
      simp only [List.getD_cons_zero, Option.isNone_some, Bool.false_eq_true, if_false]
      rw [ih, List.find?_map]
      rfl
theorem find_lt {l : List (Option Stream)} {k : Nat} (h : (freeN l).head? = some k) : k < l.length ∧ l[k]? = some none := by
  have hm : k ∈ freeN l := List.mem_of_head? h
  unfold freeN at hm
  rw [List.mem_filter, List.mem_range] at hm
  refine ⟨hm.1, ?_⟩
  have h2 := hm.2
  rw [List.getD_eq_getElem?_getD, List.getElem?_eq_getElem hm.1] at h2
  rw [List.getElem?_eq_getElem hm.1]
  cases e : l[k] with
  | none => rfl
  | some x => rw [e] at h2; cases h2
theorem open_yes {s : State} {k : Nat} (h : (freeN s.streams).head? = some k) : step s .open_ = (s.set k (some ⟨[], false⟩), .nums [k]) := by
  unfold step; dsimp only; rw [find_free, h]
theorem open_no {s : State} (h : (freeN s.streams).head? = none) : step s .open_ = (s, .no (-4)) := by
  unfold step; dsimp only; rw [find_free, h]

/-! ### how long an answer is -/
theorem told_len {s : State} (W : WF s) (c : Call) : (WrcutpNeutral.told (step s c).2).length ≤ 2049 := by
  have num : ∀ l : List Nat, l.length ≤ 2048 → (WrcutpNeutral.told (.nums l)).length ≤ 2049 := fun l h => by
    show (0 :: l.map WrcutpNeutral.n).length ≤ 2049
    rw [List.length_cons, List.length_map]; omega
  have no : ∀ z, (WrcutpNeutral.told (.no z)).length ≤ 2049 := fun z => by show 1 ≤ 2049; decide
  have ok : (WrcutpNeutral.told .ok).length ≤ 2049 := by show 1 ≤ 2049; decide
  cases c with
  | begin_ => exact ok
  | table bits least most t =>
    unfold step
    dsimp only
    split
    · exact no _
    · split
      · exact no _
      · exact ok
  | open_ =>
    unfold step
    dsimp only
    split
    · exact num _ (by simp)
    · exact no _
  | feed k b =>
    cases e : s.at_ k with
    | none => rw [feed_none e]; exact no _
    | some x =>
      cases hc : x.closed with
      | true => rw [feed_no e (.inl hc)]; exact no _
      | false =>
        cases hb : b.all isByte with
        | false => rw [feed_no e (.inr hb)]; exact no _
        | true =>
          by_cases hl : 2048 < x.bytes.length + b.length
          · rw [feed_long e hc hb hl]; exact no _
          · rw [feed_room e hc hb hl]
            split
            · exact no _
            · exact ok
  | close k =>
    cases e : s.at_ k with
    | none => rw [close_none e]; exact no _
    | some x =>
      cases hc : x.closed with
      | true => rw [close_no e hc]; exact no _
      | false => rw [close_yes e hc]; exact ok
  | drop k =>
    cases e : s.at_ k with
    | none => rw [drop_none e]; exact no _
    | some x => rw [drop_yes e]; exact ok
  | size k =>
    cases e : s.at_ k with
    | none => rw [size_none e]; exact no _
    | some x => rw [size_yes e]; exact num _ (by simp)
  | read k a c =>
    cases e : s.at_ k with
    | none => rw [read_none e]; exact no _
    | some x =>
      rw [read_yes e]
      have := (W.st x (at_mem e)).len
      exact num _ (by rw [List.length_take, List.length_drop]; omega)
  | pieces k =>
    cases e : s.at_ k with
    | none => rw [pieces_none e]; exact no _
    | some x =>
      rw [pieces_yes e]
      have := (W.st x (at_mem e)).len
      have := st_count s.rule x
      exact num _ (by rw [List.length_map]; omega)
  | tail k =>
    cases e : s.at_ k with
    | none => rw [tail_none e]; exact no _
    | some x =>
      rw [tail_yes e]
      have := (W.st x (at_mem e)).len
      have := st_total s.rule x
      exact num _ (by omega)
  | has b => exact num _ (by simp)
  | shared k l =>
    cases e : s.at_ k with
    | none => rw [shared_none1 e]; exact no _
    | some x =>
      cases e2 : s.at_ l with
      | none => rw [shared_none2 e2]; exact no _
      | some y => rw [shared_yes e e2]; exact num _ (by simp)
  | kept => exact num _ (by simp)
end CM
end
section
set_option linter.all false
namespace CM
open Ck Wrcutp

def zints (l : List Nat) : List Int := l.map fun (n : Nat) => (n : Int)
/-- a call as it is written -/
def flat : Call → List Int
  | .begin_ => [1]
  | .table b l m t => 2 :: (b : Int) :: (l : Int) :: (m : Int) :: (t.length : Int) :: zints t
  | .open_ => [3]
  | .feed k b => 4 :: (k : Int) :: (b.length : Int) :: zints b
  | .close k => [5, (k : Int)]
  | .drop k => [6, (k : Int)]
  | .size k => [7, (k : Int)]
  | .read k a c => [8, (k : Int), (a : Int), (c : Int)]
  | .pieces k => [9, (k : Int)]
  | .tail k => [10, (k : Int)]
  | .has b => 11 :: (b.length : Int) :: zints b
  | .shared k l => [12, (k : Int), (l : Int)]
  | .kept => [13]
def Small (n : Nat) : Prop := n ≤ 1000000
def Words (t : List Nat) : Prop := ∀ z ∈ t, z < 2 ^ 32
/-- what may be asked -/
def Bd : Call → Prop
  | .table b l m t => Small b ∧ Small l ∧ Small m ∧ Words t
  | .feed k b => Small k ∧ Words b
  | .close k => Small k
  | .drop k => Small k
  | .size k => Small k
  | .read k a c => Small k ∧ Small a ∧ Small c
  | .pieces k => Small k
  | .tail k => Small k
  | .has b => Words b
  | .shared k l => Small k ∧ Small l
  | _ => True
def play : State → List Call → List Int
  | _, [] => []
  | s, d :: r => ((WrcutpNeutral.told (step s d).2).length : Int) :: (WrcutpNeutral.told (step s d).2 ++ play (step s d).1 r)

theorem ints_nats : ∀ l : List Int, (∀ z ∈ l, 0 ≤ z) → zints (WrcutpNeutral.nats l) = l
  | [], _ => rfl
  | z :: l, h => by
    have h1 := h z (List.mem_cons_self ..)
    have h2 := ints_nats l fun y hy => h y (List.mem_cons_of_mem _ hy)
    show ((z.toNat : Nat) : Int) :: zints (WrcutpNeutral.nats l) = z :: l
    rw [h2]
    congr 1
    omega
theorem num_of {z : Int} (h : WrcutpNeutral.num z = true) : ∃ n : Nat, z = (n : Int) ∧ z.toNat = n ∧ n ≤ 1000000 := by
  unfold WrcutpNeutral.num at h
  rw [Bool.and_eq_true] at h
  have h1 := of_decide_eq_true h.1
  have h2 := of_decide_eq_true h.2
  exact ⟨z.toNat, by omega, rfl, by omega⟩
theorem whole_of {l : List Int} (h : l.all WrcutpNeutral.whole32 = true) : zints (WrcutpNeutral.nats l) = l ∧ (WrcutpNeutral.nats l).length = l.length ∧ ∀ z ∈ WrcutpNeutral.nats l, z < 2 ^ 32 := by
  rw [List.all_eq_true] at h
  have h1 : ∀ z ∈ l, 0 ≤ z ∧ z ≤ 4294967295 := fun z hz => by
    have := h z hz
    unfold WrcutpNeutral.whole32 at this
    rw [Bool.and_eq_true] at this
    exact ⟨of_decide_eq_true this.1, of_decide_eq_true this.2⟩
  refine ⟨ints_nats l fun z hz => (h1 z hz).1, by unfold WrcutpNeutral.nats; rw [List.length_map], fun z hz => ?_⟩
  unfold WrcutpNeutral.nats at hz
  obtain ⟨y, hy, rfl⟩ := List.mem_map.mp hz
  have := h1 y hy
  omega
theorem call_form {c : List (List Int)} (h : WrcutpNeutral.asked1 c = true) : ∃ d, WrcutpNeutral.callOf c = some d ∧ PyFlat.put1 c = flat d ∧ Bd d := by
  unfold WrcutpNeutral.asked1 at h
  split at h
  · exact ⟨.begin_, rfl, rfl, trivial⟩
  · rename_i b l m t
    rw [Bool.and_eq_true, Bool.and_eq_true, Bool.and_eq_true] at h
    obtain ⟨h1, h2, h3, h4⟩ := h
    obtain ⟨b', rfl, _, hb⟩ := num_of h1
    obtain ⟨l', rfl, _, hl⟩ := num_of h2
    obtain ⟨m', rfl, _, hm⟩ := num_of h3
    obtain ⟨e1, e2, e3⟩ := whole_of h4
    refine ⟨.table b' l' m' (WrcutpNeutral.nats t), rfl, ?_, hb, hl, hm, e3⟩
    show [2, (b' : Int), (l' : Int), (m' : Int)] ++ (((t.length : Nat) : Int) :: t ++ []) = 2 :: (b' : Int) :: (l' : Int) :: (m' : Int) :: ((WrcutpNeutral.nats t).length : Int) :: zints (WrcutpNeutral.nats t)
    rw [e1, e2, List.append_nil]
    rfl
  · exact ⟨.open_, rfl, rfl, trivial⟩
  · rename_i k b
    rw [Bool.and_eq_true] at h
    obtain ⟨h1, h4⟩ := h
    obtain ⟨k', rfl, _, hk⟩ := num_of h1
    obtain ⟨e1, e2, e3⟩ := whole_of h4
    refine ⟨.feed k' (WrcutpNeutral.nats b), rfl, ?_, hk, e3⟩
    show [4, (k' : Int)] ++ (((b.length : Nat) : Int) :: b ++ []) = 4 :: (k' : Int) :: ((WrcutpNeutral.nats b).length : Int) :: zints (WrcutpNeutral.nats b)
    rw [e1, e2, List.append_nil]
    rfl
  · obtain ⟨k', rfl, _, hk⟩ := num_of h
    exact ⟨.close k', rfl, rfl, hk⟩
  · obtain ⟨k', rfl, _, hk⟩ := num_of h
    exact ⟨.drop k', rfl, rfl, hk⟩
  · obtain ⟨k', rfl, _, hk⟩ := num_of h
    exact ⟨.size k', rfl, rfl, hk⟩
  · rw [Bool.and_eq_true, Bool.and_eq_true] at h
    obtain ⟨k', rfl, _, hk⟩ := num_of h.1
    obtain ⟨a', rfl, _, ha⟩ := num_of h.2.1
    obtain ⟨c', rfl, _, hc⟩ := num_of h.2.2
    exact ⟨.read k' a' c', rfl, rfl, hk, ha, hc⟩
  · obtain ⟨k', rfl, _, hk⟩ := num_of h
    exact ⟨.pieces k', rfl, rfl, hk⟩
  · obtain ⟨k', rfl, _, hk⟩ := num_of h
    exact ⟨.tail k', rfl, rfl, hk⟩
  · rename_i b
    obtain ⟨e1, e2, e3⟩ := whole_of h
    refine ⟨.has (WrcutpNeutral.nats b), rfl, ?_, e3⟩
    show [11] ++ (((b.length : Nat) : Int) :: b ++ []) = 11 :: ((WrcutpNeutral.nats b).length : Int) :: zints (WrcutpNeutral.nats b)
    rw [e1, e2, List.append_nil]
    rfl
  · rw [Bool.and_eq_true] at h
    obtain ⟨k', rfl, _, hk⟩ := num_of h.1
    obtain ⟨l', rfl, _, hl⟩ := num_of h.2
    exact ⟨.shared k' l', rfl, rfl, hk, hl⟩
  · exact ⟨.kept, rfl, rfl, trivial⟩
  · cases h
theorem whole_id (c : List (List Int)) : PyWrcutp.whole c = c := by
  unfold PyWrcutp.whole
  split <;> rfl
theorem map_whole (cs : List (List (List Int))) : cs.map PyWrcutp.whole = cs := by
  rw [show PyWrcutp.whole = id from funext whole_id, List.map_id]
theorem told_play : ∀ (cs : List (List (List Int))) (s : State), (∀ c ∈ cs, WrcutpNeutral.asked1 c = true) →
    ∃ ds : List Call, PyFlat.put cs = ds.flatMap flat ∧ ds.length = cs.length ∧ (∀ d ∈ ds, Bd d) ∧ PyFlat.told (PyFlat.played WrcutpNeutral.step s cs) = play s ds
  | [], s, _ => ⟨[], rfl, rfl, fun d hd => (by cases hd), rfl⟩
  | c :: cs, s, h => by
    obtain ⟨d, e1, e2, e3⟩ := call_form (h c (List.mem_cons_self ..))
    have es : WrcutpNeutral.step s c = ((step s d).1, WrcutpNeutral.told (step s d).2) := by
      unfold WrcutpNeutral.step
      rw [e1]
    obtain ⟨ds, i1, i2, i3, i4⟩ := told_play cs (step s d).1 fun c' hc => h c' (List.mem_cons_of_mem _ hc)
    refine ⟨d :: ds, ?_, by rw [List.length_cons, List.length_cons, i2], fun d' hd => ?_, ?_⟩
    · show PyFlat.put1 c ++ PyFlat.put cs = _
      rw [e2, i1, List.flatMap_cons]
    · rcases List.mem_cons.mp hd with rfl | hd
      · exact e3
      · exact i3 d' hd
    · show PyFlat.told ((WrcutpNeutral.step s c).2 :: PyFlat.played WrcutpNeutral.step (WrcutpNeutral.step s c).1 cs) = _
      rw [es]
      unfold PyFlat.told at i4 ⊢
      rw [List.flatMap_cons, i4]
      rfl
/-- THE REQUEST: what is handed in, call by call; what is due -/
theorem request {l : List Int} (h : PyWrcutp.answers_asked l = true) : ∃ ds : List Call, l = ds.flatMap flat ∧ ds.length ≤ 60 ∧ (∀ d ∈ ds, Bd d) ∧ PyWrcutp.answers l = play Wrcutp.start ds := by
  unfold PyWrcutp.answers_asked PyWrcutp.calls at h
  unfold PyWrcutp.answers PyWrcutp.calls
  cases e : PyFlat.calls PyWrcutp.shape l.length l with
  | none => rw [e] at h; cases h
  | some cs =>
    rw [e] at h
    dsimp only at h ⊢
    rw [map_whole] at h ⊢
    rw [Bool.and_eq_true] at h
    obtain ⟨_, h2⟩ := h
    unfold WrcutpNeutral.asked at h2
    rw [Bool.and_eq_true, List.all_eq_true] at h2
    have h3 := of_decide_eq_true h2.2
    obtain ⟨ds, i1, i2, i3, i4⟩ := told_play cs WrcutpNeutral.start h2.1
    refine ⟨ds, ?_, by omega, i3, i4⟩
    rw [← i1]
    exact (PyFlat.put_calls _ _ _ e).1
end CM
end
section
set_option Elab.async false
set_option linter.all false
set_option maxRecDepth 100000
set_option maxHeartbeats 2000000
namespace CP
open PySem PySem.Spec PyProof.Rows L2

/-! ### rules that the layer has not -/
section
open PySem.AutoSeq1
theorem ext_tup (l b : Addr) (items items2 : Array Value) (n n2 : Nat) (dd : Option Addr) (sl : Array (Option Value))
    (hs0 : ¬(!items.isEmpty && Builtin.List.listTooLong (items.size + items2.size)) = true) (hs1 : items.size ≤ sizeLine) (hs2 : items.size + items2.size ≤ sizeLine + 1) :
    Meets (Builtin.«list.extend» ⟨[.ref l, .ref b], []⟩) (fun _ R s => s.heap.get? l = some { cls := .type "list", data := .seq items n } ∧
      s.heap.get? b = some { cls := .type "tuple", dict := dd, data := .seq items2 n2, slots := sl } ∧ R (.ok (.ret Value.none)) { s with heap := s.heap.update l (Obj.mapSeq fun x => x ++ items2) }) :=
  .of_wp fun prog w A R s h => by
    obtain ⟨hl, hb, h⟩ := h
    have hz' : (items ++ items2).size ≤ sizeLine + 1 := by rw [Array.size_append]; exact hs2
    show wpAny _ _ (Builtin.List.listExtendWith (.ref l) (.ref b) .none) _ _ s
    unfold Builtin.List.listExtendWith
    refine wpAny_bind (wpAny_typeOf ⟨_, hb, rfl⟩ ?_)
    have h1 : (Builtin.List.listSameRef (.ref l) (.ref b) || Value.type "tuple" == Value.type "list" || Value.type "tuple" == Value.type "tuple") = true := by simp
    simp only [h1, if_true]
    refine wpAny_bind ?_
    unfold Builtin.List.listItems
    refine wpAny_bind (wpAny_seqItems hb rfl (wpAny_pure ?_))
    refine wpAny_bind ?_
    refine wpAny_bind (wpAny_seqItems hl rfl (wpAny_pure ?_))
    rw [if_neg hs0]
    show wpAny _ _ (updateSeq l (· ++ items2) >>= fun _ => ret Value.none) _ _ s
    refine wpAny_bind (wpAny_updateSeq hl rfl ?_ (hz := hs1) (_hz' := hz'))
    exact wpAny_pure ⟨_, rfl, h⟩
end
section
variable {X : Cx}
/-- xs.extend(t), t a tuple -/
def rExtT (K : PySem.W.Frag) : V → List V → Hp → VK → Prop := fun x vs H Q => ∃ l b xs zs, x = .ref l ∧ vs = [.ref b] ∧ H l = some (.lst xs) ∧ SqT K H b zs ∧ xs.length + zs.length ≤ sizeLine ∧ Q .non (upd H l (.lst (xs ++ zs)))
theorem mt_extT : MtM X "list.extend" (rExtT X.K) := by
  intro pins s σ H x vs v us Q I rx rv h
  obtain ⟨l, b, xs, zs, rfl, rfl, hH, hB, hz, q⟩ := h
  cases rx
  obtain ⟨u, rfl, ru⟩ := rv.one
  cases ru
  obtain ⟨z, its, n, r, hl, e⟩ := I.lstM hH
  obtain ⟨its2, r2, pl, hz2⟩ := I.tuple hB
  have hl2 := r2.length
  obtain ⟨⟨cl, dd, dt, sl⟩, ho, hc, n2, hd⟩ := pl
  dsimp only at hc hd
  subst hc hd
  have hsz : its.toArray.size + its2.toArray.size ≤ sizeLine := by rw [List.size_toArray, List.size_toArray]; omega
  have hlong : ¬ (!its.toArray.isEmpty && Builtin.List.listTooLong (its.toArray.size + its2.toArray.size)) = true := by
    rw [notLongL hsz, Bool.and_false]
    exact Bool.false_ne_true
  refine call_meets F.slot_list_extend ⟨_, e, rfl⟩ F.entry_list_extend (F.args_list_extend_2 _ _)
    (ext_tup l b its.toArray its2.toArray n n2 dd sl hlong (by rw [List.size_toArray]; omega) (by omega)) ⟨e, ho, ?_⟩
  refine ⟨.non, _, I.lset (its' := its ++ its2) hH e (by simp) (r.append r2) ?_, rfl, q⟩
  rw [List.length_append]
  omega

theorem meets_len {prog : Program} {w : World} (d : Addr) (hd : (d == sysModules) = false) :
    MeetsIn prog w (Builtin.«dict.__len__» ⟨[.ref d], []⟩) (fun _ R s => ∃ o es ep, s.heap.get? d = some o ∧ o.data = .dict es ep ∧ R (.ok (.ret (.int (es.size : Nat) s.toks))) { s with toks := s.toks + 1 }) :=
  .of_wp fun A R s ⟨o, es, ep, ho, hdat, h⟩ => by
    show wpAny _ _ (dictSize d >>= fun n => Builtin.Dict.pendingCount d >>= _) _ _ s
    unfold dictSize
    refine wpAny_bind (wpAny_bind (wpAny_dictEntries ho hdat (wpAny_pure ?_)))
    refine wpAny_bind (wpAny_pendingCount_other hd ?_)
    refine wpAny_ret_mkInt ?_
    rw [Nat.add_zero]
    exact h
theorem len_dictT {prog : Program} {w : World} {A : Around} {E : Value → Shared → Prop} {s : Shared} {d : Addr} {o : Obj} {es : Array DictEntry} {ep : Nat} {Q : Value → Shared → Prop} (hd : (d == sysModules) = false)
    (ho : s.heap.get? d = some o) (hx : o.ExactDict) (hdat : o.data = .dict es ep) (hfit : es.size ≤ sizeLine) (h : ∀ t k, Q (.int (es.size : Nat) t) { s with toks := k }) :
    wpAny (model prog w) A (call (.builtin "len") [.ref d]) Q E s := by
  have hT : s.TypeIs (.ref d) "dict" := ⟨o, ho, hx.1⟩
  have hf : ((es.size : Nat) : Int) < 2 ^ 63 := by
    have : sizeLine = 16777216 := rfl
    omega
  refine Calls.call_function_entry kind_len plain_len entry_len (args_len1 _) ?_
  unfold Builtin.«len»
  refine wpAny_bind (m := oneArg "len" _) (wpAny_pure ?_)
  refine wpAny_bind (m := callSpecial? (.ref d) (Str.ofString "__len__")) (wpAny_callSpecial?_slot (name := Str.ofString "__len__") hT F.slot_dict_len
    (call_meetsIn F.slot_dict_len hT F.entry_dict_len (F.args_dict_len_1 _) (meets_len d hd) ⟨o, es, ep, ho, hdat, ?_⟩))
  show wpAny _ _ _ _ _ { s with toks := s.toks + 1 }
  refine wpAny_bind (wpAny_holding (wpAny_pure ?_))
  refine wpAny_bind (wpAny_letGo ?_)
  show wpAny _ _ (if ((es.size : Nat) : Int) < 0 then _ else _) _ _ _
  rw [if_neg (by omega)]
  show wpAny _ _ (if ((es.size : Nat) : Int) ≥ 2 ^ 63 then _ else _) _ _ _
  rw [if_neg (by omega)]
  exact wpAny_bind (wpAny_mkInt (wpAny_pure ⟨_, rfl, h _ _⟩))
/-- len of a dict with tuple keys -/
theorem call_lenT : CallR X (.builtin "len") (fun xs H Q => ∃ a kvs, xs = [V.ref a] ∧ H a = some (.dT kvs) ∧ Q (.int kvs.length) H) := by
  intro pins s σ H xs us Q I r h
  obtain ⟨a, kvs, rfl, ha, q⟩ := h
  obtain ⟨u, rfl, ru⟩ := vals1 r
  cases ru
  obtain ⟨z, hs, ys, pr, o, es, ep, ho, hx, hdt, he, _⟩ := I.hok a _ ha
  have l1 : es.size = ys.length := size_of_entries he
  have l2 : kvs.length = ys.length := Paired.length pr
  refine len_dictT hs ho hx hdt (by omega) fun t k => ⟨.int kvs.length, H, I.tok _, ⟨t, ?_⟩, q⟩
  rw [l1, ← l2]
/-- the keys of a dict that the iterable itself makes -/
def iKeysN (td : TE) : TI := fun σ H R => td σ H fun x H1 => ∃ d kvs, x = .ref d ∧ H1 d = some (.dT kvs) ∧ ∀ o, R (Itkt d o kvs) (upd H1 d (.frz o (.dT kvs)))
theorem pi_keysN {tg e : Expr} {td : TE} (he : PE X e td) : PI X tg e (iKeysN td) := by
  intro pins s σ H R I h
  refine thn (he pins s σ H _ I h) fun u s1 ⟨x, H1, I1, rx, d, kvs, ex, hd, q⟩ => ?_
  subst ex
  obtain rfl : u = Value.ref d := rx
  obtain ⟨o, I2⟩ := I1.lock hd True.intro
  obtain ⟨hs, hgd, hx, es, ep, hdt, hsz, ent⟩ := I2.frzT (d := d) (o := o) upd_same
  refine iter_keys hs hgd hx hdt (pi_one (tk := s1.toks) I2 _ (turn_keysT _ hdt) ⟨_, Heap.get?_push_size _ rfl, rfl, ?_⟩ (q o))
  rw [hsz] <;> rfl
end

/-! ### a global number; a def, a method, a class by its promise -/
def GI (mg : Str → Option Value) (x : Str) (i : Int) : Prop := ∃ t, mg x = some (.int i t)
structure GFn (P : Program) (w : World) (K : PySem.W.Frag) (mg : Str → Option Value) (base : Heap) (k : Nat) (x : Str) (ps : List Str) (sp : Sp) : Prop where
  ex : ∃ f fd, FnOk P w K mg base CX0 k f fd ps sp ∧ Binds K fd ps [] ∧ mg x = some (.ref f) ∧ PySem.W.keepIn K (.ref f) = true
structure MFn (P : Program) (w : World) (K : PySem.W.Frag) (mg : Str → Option Value) (base : Heap) (k : Nat) (C : Addr) (m : Str) (ps : List Str) (sp : Sp) : Prop where
  ex : ∃ f fd, FnOk P w K mg base CX0 k f fd ps sp ∧ Binds K fd ps [] ∧ Meth K C m f
structure CFn (P : Program) (w : World) (K : PySem.W.Frag) (mg : Str → Option Value) (base : Heap) (k : Nat) (C : Addr) (x : Str) (ps : List Str) (sp : Sp) : Prop where
  ex : ∃ f fd, FnOk P w K mg base CX0 k f fd ps sp ∧ Binds K fd ps [] ∧ Mk K C f ∧ mg x = some (.ref C)
section
variable {X : Cx} {k : Nat} {x m : Str} {ps : List Str} {sp : Sp} {p pos apos : Pos} {e o : Expr} {es : List Expr} {ta : TE} {t : TA} {C : Addr}
theorem pgi {i : Int} (h : GI X.mg x i) (hg : Gl X x := by rfl) (hd : (x == ("__debug__" : Str)) = false := by decide) : PE X (.Name x pos) (tC (.int i)) := by
  obtain ⟨u, h⟩ := h
  exact pe_glob hg h ⟨u, rfl⟩ hd
theorem pcall (g : GFn X.prog X.w X.K X.mg X.base k x ps sp) (hr : Room k X.A) (ha : PA X (e :: es) t) (hg : Gl X x := by rfl) (hdb : (x == ("__debug__" : Str)) = false := by decide)
    (he : starEach (e :: es) X.env = (false, eval e X.env) :: starEach es X.env := by rfl) (hpl : (backTo pos (starEach es X.env)).any (·.1) = false := by rfl) :
    PE X (.Call (.Name x p) (e :: es) [] pos) (tCall sp [] E0 t) := by
  obtain ⟨f, fd, F, b, hm, hk⟩ := g.ex
  exact pe_call F hr hg hm hk b .nil pass0 ha hdb he hpl
theorem pcall0 (g : GFn X.prog X.w X.K X.mg X.base k x ps sp) (hr : Room k X.A) (hg : Gl X x := by rfl) (hdb : (x == ("__debug__" : Str)) = false := by decide) : PE X (.Call (.Name x p) [] [] pos) (tCall sp [] E0 tNil) := by
  obtain ⟨f, fd, F, b, hm, hk⟩ := g.ex
  exact pe_call0 F hr hg hm hk b .nil pass0 hdb
theorem pmeth {pl : Sem Bool} (g : MFn X.prog X.w X.K X.mg X.base k C m ps sp) (c : Cls X.K C) (hr : Room k X.A) (he : PE X o ta) (ha : PA X (e :: es) t)
    (hst : starEach (e :: es) X.env = (false, eval e X.env) :: starEach es X.env := by rfl) (hpl : (backTo pos (starEach es X.env)).any (·.1) = false := by rfl)
    (ht : eval (.Call (.Attribute o m apos) (e :: es) [] pos) X.env = (do
      let ov ← eval o X.env
      standAt apos.atName
      let (f, first) ← holding [ov] (getMethod ov m pl)
      callWith pos f first (backTo pos (starEach (e :: es) X.env)) (backToKw pos (keywordEach [] X.env))) := by rfl) :
    PE X (.Call (.Attribute o m apos) (e :: es) [] pos) (tMeth C m sp [] E0 ta t) := by
  obtain ⟨f, fd, F, b, hm⟩ := g.ex
  exact pe_meth he c hm F hr b .nil pass0 ha hst hpl ht
theorem pmeth0 {pl : Sem Bool} (g : MFn X.prog X.w X.K X.mg X.base k C m ps sp) (c : Cls X.K C) (hr : Room k X.A) (he : PE X o ta)
    (ht : eval (.Call (.Attribute o m apos) [] [] pos) X.env = (do
      let ov ← eval o X.env
      standAt apos.atName
      let (f, first) ← holding [ov] (getMethod ov m pl)
      callWith pos f first (backTo pos (starEach [] X.env)) (backToKw pos (keywordEach [] X.env))) := by rfl) :
    PE X (.Call (.Attribute o m apos) [] [] pos) (tMeth C m sp [] E0 ta tNil) := by
  obtain ⟨f, fd, F, b, hm⟩ := g.ex
  exact pe_meth0 he c hm F hr b .nil pass0 ht
theorem pmake (g : CFn X.prog X.w X.K X.mg X.base k C x ps sp) (hr : Room (k + 1) X.A) (ha : PA X (e :: es) t) (hg : Gl X x := by rfl) (hdb : (x == ("__debug__" : Str)) = false := by decide)
    (he : starEach (e :: es) X.env = (false, eval e X.env) :: starEach es X.env := by rfl) (hpl : (backTo pos (starEach es X.env)).any (·.1) = false := by rfl) :
    PE X (.Call (.Name x p) (e :: es) [] pos) (tMake C sp [] E0 t) := by
  obtain ⟨f, fd, F, b, M, hm⟩ := g.ex
  exact pe_make M F hr hg hm b .nil pass0 ha hdb he hpl
theorem pmake0 (g : CFn X.prog X.w X.K X.mg X.base k C x ps sp) (hr : Room (k + 1) X.A) (hg : Gl X x := by rfl) (hdb : (x == ("__debug__" : Str)) = false := by decide) : PE X (.Call (.Name x p) [] [] pos) (tMake C sp [] E0 tNil) := by
  obtain ⟨f, fd, F, b, M, hm⟩ := g.ex
  exact pe_make0 M F hr hg hm b .nil pass0 hdb
/-- xs.append(e) -/
theorem papp {o e : Expr} {to te : TE} {apos cpos : Pos} (ho : PE X o to) (he : PE X e te)
    (hbase : attributeBase o "append" X.env (eval o X.env) = eval o X.env := by rfl)
    (hfew : ((backTo cpos (starEach [e] X.env)).all (fun x => !x.1) && (backToKw cpos (keywordEach [] X.env)).all (fun x => x.1.isSome)
      && decide (([e] : List Expr).length + ([] : List Keyword).length + (if ([] : List Keyword).isEmpty then 0 else 1) < 30)) = true := by rfl)
    (hline : (apos.endLine == cpos.line) = true := by rfl) (hs : starEach [e] X.env = (false, eval e X.env) :: starEach [] X.env := by rfl) (hplain : (backTo cpos (starEach [] X.env)).any (·.1) = false := by rfl) :
    PE X (.Call (.Attribute o "append" apos) [e] [] cpos) (tBM X.K "list" rAppend to (tCons te tNil)) :=
  pe_bm PySem.F.plainAttrs_list PySem.F.slot_list_append PySem.F.type_list_append mt_append ho (pa_cons he pa_nil hs) hbase hfew hline hs hplain
end
/-! ### the same within a comprehension's block, whose fragment is the def's -/
def rLen (K : PySem.W.Frag) : List V → Hp → VK → Prop := fun xs H Q => ∃ p ys, xs = [.ref p] ∧ (SqL K H p ys ∨ SqT K H p ys) ∧ Q (.int ys.length) H
theorem lenK {X : Cx} (K : PySem.W.Frag) (e : X.K = K := by rfl) : CallR X (.builtin "len") (rLen K) := by subst e; exact call_len_seq
theorem fldK {X : Cx} (K : PySem.W.Frag) {e : Expr} {f : Str} {pos : Pos} {ta : TE} (he : PE X e ta) (hb : attributeBase e f X.env (eval e X.env) = eval e X.env) (h : X.K = K := by rfl) : PE X (.Attribute e f pos) (tFld K ta f) := by subst h; exact pe_fld he hb
theorem ixK {X : Cx} (K : PySem.W.Frag) (e : X.K = K := by rfl) : IxR X (rIxL K) := by subst e; exact ix_list
/-- a comprehension's block within a def -/
theorem blkX {CX : CXT} {P : Program} {w : World} {K : PySem.W.Frag} {mg : Str → Option Value} {base : Heap} {N : List Str} {qual : Str} {st : Stmt} {f : Addr} {cd : Value} {A : Around} {outer : List Env} {s : Shared} {H : Hp} {E : XK} {scope : Scope} {own : List (Str × Nat)}
    (h : blkC N (defScope st) scope own = true) : BlkOk (cxOf CX P w K mg base N qual (defScope st) f cd A outer s H E).nox.N (cxOf CX P w K mg base N qual (defScope st) f cd A outer s H E).nox.env.scope scope own := blkOk_by h

/-! ### a comprehension whose turns change nothing -/
theorem yes_ {σ : L2.St} {H : Hp} {Q : Bool → Hp → Prop} (h : Q true H) : tYes σ H Q := h

theorem upd_lst {H : Hp} {D : Addr} {a b : HO} : upd (upd H D a) D b = upd H D b := upd_upd
theorem Same.upd {H : Hp} {D : Addr} {o : HO} (h : H D = none) : Same H (upd H D o) := fun b u e => by
  rw [upd_ne (ne_of_none e h)]; exact e
theorem take_succ' {α : Type} : ∀ {l : List α} {i : Nat} {x : α}, l[i]? = some x → l.take (i + 1) = l.take i ++ [x]
  | [], i, x, h => by simp at h
  | a :: l, 0, x, h => by
    have e : a = x := Option.some.inj h
    subst e
    rfl
  | a :: l, i + 1, x, h => by
    have ih := take_succ' (l := l) (i := i) (x := x) h
    show a :: l.take (i + 1) = a :: l.take i ++ [x]
    rw [ih]
    rfl
theorem len_fm {α β : Type} (f : α → Option β) (l : List α) : (l.filterMap f).length ≤ l.length := List.length_filterMap_le f l
theorem lc_gen {J : It} {g : TG} {tt : TT} {te : TE} {vs : List Nat} {σ : L2.St} {H1 : Hp} {D : Addr} {Qd : Hp → Prop} (ys : List (Option V)) (hz : ys.length ≤ 1000000)
    (go : ∀ i acc, i < ys.length → J.go i (upd H1 D (.lst acc))) (stop : ∀ acc, J.stop ys.length (upd H1 D (.lst acc)))
    (turn : ∀ (i : Nat) (x : V) (acc : List V) (H' : Hp) (y : Option V) (Y : V → Hp → Prop) (N : Hp → Prop), ys[i]? = some y → J.yld i (upd H1 D (.lst acc)) x H' → (∀ z, y = some z → Y z (upd H1 D (.lst acc))) → (y = none → N (upd H1 D (.lst acc))) →
      g x (wipe σ vs) H' fun σ2 H2 => wipe σ2 vs = wipe σ vs ∧ tt σ2 H2 fun b H3 => if b = true then te σ2 H3 Y else N H3)
    (hd : Qd (upd H1 D (.lst (ys.filterMap id)))) :
    ∃ W : Nat → Nat → Hp → Prop, (∃ m, W 0 m (upd H1 D (.lst []))) ∧ ∀ i m H, W i m H →
      (J.stop i H ∧ Qd H) ∨ (J.go i H ∧ ∃ Nx : Hp → Prop, (∀ H', Nx H' → ∃ m', m' < m ∧ W (i + 1) m' H') ∧ ∀ x H', J.yld i H x H' → g x (wipe σ vs) H' fun σ2 H2 => wipe σ2 vs = wipe σ vs ∧ tt σ2 H2 fun b H3 =>
        if b = true then te σ2 H3 fun y H4 => ∃ acc, H4 D = some (.lst acc) ∧ acc.length < sizeLine ∧ Nx (upd H4 D (.lst (acc ++ [y]))) else Nx H3) := by
  refine ⟨fun i m H => m = ys.length - i ∧ i ≤ ys.length ∧ H = upd H1 D (.lst ((ys.take i).filterMap id)), ⟨ys.length, by simp, Nat.zero_le _, rfl⟩, ?_⟩
  rintro i m H ⟨rfl, hi, rfl⟩
  by_cases hlt : i < ys.length
  · obtain ⟨y, hy⟩ : ∃ y, ys[i]? = some y := ⟨_, List.getElem?_eq_getElem hlt⟩
    refine .inr ⟨go i _ hlt, fun H' => H' = upd H1 D (.lst ((ys.take (i + 1)).filterMap id)), fun H' e => ⟨ys.length - (i + 1), by omega, rfl, hlt, e⟩, fun x H' hx => ?_⟩
    refine turn i x _ H' y _ _ hy hx (fun z e => ⟨_, upd_same, ?_, ?_⟩) fun e => ?_
    · have h1 := len_fm (id : Option V → Option V) (ys.take i)
      rw [List.length_take] at h1
      have : sizeLine = 16777216 := rfl
      omega
    · subst e
      rw [upd_upd, take_succ' hy, List.filterMap_append]
      rfl
    · subst e
      rw [take_succ' hy, List.filterMap_append]
      simp
  · have e : i = ys.length := by omega
    subst e
    refine .inl ⟨stop _, ?_⟩
    rw [List.take_length]
    exact hd
/-- over a list -/
theorem lc_lst {K : PySem.W.Frag} {a : Addr} {xs : List V} {g : TG} {tt : TT} {te : TE} {vs : List Nat} {σ : L2.St} {H1 : Hp} {D : Addr} {Qd : Hp → Prop} (ys : List (Option V)) (hlen : ys.length = xs.length) (hz : xs.length ≤ 1000000) (hS : SqL K H1 a xs) (hD : H1 D = none)
    (turn : ∀ (i : Nat) (x : V) (acc : List V) (y : Option V) (Y : V → Hp → Prop) (N : Hp → Prop), xs[i]? = some x → ys[i]? = some y → (∀ z, y = some z → Y z (upd H1 D (.lst acc))) → (y = none → N (upd H1 D (.lst acc))) →
      g x (wipe σ vs) (upd H1 D (.lst acc)) fun σ2 H2 => wipe σ2 vs = wipe σ vs ∧ tt σ2 H2 fun b H3 => if b = true then te σ2 H3 Y else N H3)
    (hd : Qd (upd H1 D (.lst (ys.filterMap id)))) :
    ∃ W : Nat → Nat → Hp → Prop, (∃ m, W 0 m (upd H1 D (.lst []))) ∧ ∀ i m H, W i m H →
      ((Itl K a).stop i H ∧ Qd H) ∨ ((Itl K a).go i H ∧ ∃ Nx : Hp → Prop, (∀ H', Nx H' → ∃ m', m' < m ∧ W (i + 1) m' H') ∧ ∀ x H', (Itl K a).yld i H x H' → g x (wipe σ vs) H' fun σ2 H2 => wipe σ2 vs = wipe σ vs ∧ tt σ2 H2 fun b H3 =>
        if b = true then te σ2 H3 fun y H4 => ∃ acc, H4 D = some (.lst acc) ∧ acc.length < sizeLine ∧ Nx (upd H4 D (.lst (acc ++ [y]))) else Nx H3) := by
  have sq : ∀ acc, SqL K (upd H1 D (.lst acc)) a xs := fun acc => (Same.upd hD).seq hS
  refine lc_gen (J := Itl K a) ys (by omega) (fun i acc h => ⟨xs, xs[i]'(by omega), sq acc, List.getElem?_eq_getElem (by omega)⟩) (fun acc => ⟨xs, sq acc, by omega⟩) (fun i x acc H' y Y N hy hx h1 h2 => ?_) hd
  obtain ⟨e, hx⟩ := hx
  subst e
  exact turn i x acc y Y N (hx xs (sq acc)) hy h1 h2
/-- over a range -/
theorem lc_rng {n : Nat} {g : TG} {tt : TT} {te : TE} {vs : List Nat} {σ : L2.St} {H1 : Hp} {D : Addr} {Qd : Hp → Prop} (ys : List (Option V)) (hlen : ys.length = n) (hz : n ≤ 1000000)
    (turn : ∀ (i : Nat) (acc : List V) (y : Option V) (Y : V → Hp → Prop) (N : Hp → Prop), ys[i]? = some y → (∀ z, y = some z → Y z (upd H1 D (.lst acc))) → (y = none → N (upd H1 D (.lst acc))) →
      g (.int (0 + (i : Int))) (wipe σ vs) (upd H1 D (.lst acc)) fun σ2 H2 => wipe σ2 vs = wipe σ vs ∧ tt σ2 H2 fun b H3 => if b = true then te σ2 H3 Y else N H3)
    (hd : Qd (upd H1 D (.lst (ys.filterMap id)))) :
    ∃ W : Nat → Nat → Hp → Prop, (∃ m, W 0 m (upd H1 D (.lst []))) ∧ ∀ i m H, W i m H →
      ((Itr 0 n).stop i H ∧ Qd H) ∨ ((Itr 0 n).go i H ∧ ∃ Nx : Hp → Prop, (∀ H', Nx H' → ∃ m', m' < m ∧ W (i + 1) m' H') ∧ ∀ x H', (Itr 0 n).yld i H x H' → g x (wipe σ vs) H' fun σ2 H2 => wipe σ2 vs = wipe σ vs ∧ tt σ2 H2 fun b H3 =>
        if b = true then te σ2 H3 fun y H4 => ∃ acc, H4 D = some (.lst acc) ∧ acc.length < sizeLine ∧ Nx (upd H4 D (.lst (acc ++ [y]))) else Nx H3) := by
  refine lc_gen (J := Itr 0 n) ys (by omega) (fun i acc h => by show i < n; omega) (fun acc => by show n ≤ ys.length; omega) (fun i x acc H' y Y N hy hx h1 h2 => ?_) hd
  obtain ⟨e, hx⟩ := hx
  subst e hx
  exact turn i acc y Y N hy h1 h2
/-- over the keys of a locked dict -/
theorem lc_key {d : Addr} {o : Obj} {kvs : List (List Key × V)} {g : TG} {tt : TT} {te : TE} {vs : List Nat} {σ : L2.St} {H1 : Hp} {D : Addr} {Qd : Hp → Prop} (ys : List (Option V)) (hlen : ys.length = kvs.length) (hz : kvs.length ≤ 1000000) (hS : H1 d = some (.frz o (.dT kvs))) (hD : H1 D = none)
    (turn : ∀ (i : Nat) (q : Addr) (k : List Key) (v : V) (acc : List V) (y : Option V) (Y : V → Hp → Prop) (N : Hp → Prop), kvs[i]? = some (k, v) → upd H1 D (.lst acc) q = some (.tup (k.map kV)) → ys[i]? = some y → (∀ z, y = some z → Y z (upd H1 D (.lst acc))) → (y = none → N (upd H1 D (.lst acc))) →
      g (.ref q) (wipe σ vs) (upd H1 D (.lst acc)) fun σ2 H2 => wipe σ2 vs = wipe σ vs ∧ tt σ2 H2 fun b H3 => if b = true then te σ2 H3 Y else N H3)
    (hd : Qd (upd H1 D (.lst (ys.filterMap id)))) :
    ∃ W : Nat → Nat → Hp → Prop, (∃ m, W 0 m (upd H1 D (.lst []))) ∧ ∀ i m H, W i m H →
      ((Itkt d o kvs).stop i H ∧ Qd H) ∨ ((Itkt d o kvs).go i H ∧ ∃ Nx : Hp → Prop, (∀ H', Nx H' → ∃ m', m' < m ∧ W (i + 1) m' H') ∧ ∀ x H', (Itkt d o kvs).yld i H x H' → g x (wipe σ vs) H' fun σ2 H2 => wipe σ2 vs = wipe σ vs ∧ tt σ2 H2 fun b H3 =>
        if b = true then te σ2 H3 fun y H4 => ∃ acc, H4 D = some (.lst acc) ∧ acc.length < sizeLine ∧ Nx (upd H4 D (.lst (acc ++ [y]))) else Nx H3) := by
  have sq : ∀ acc, upd H1 D (.lst acc) d = some (.frz o (.dT kvs)) := fun acc => Same.upd hD d _ hS
  refine lc_gen (J := Itkt d o kvs) ys (by omega) (fun i acc h => ⟨sq acc, by omega⟩) (fun acc => ⟨sq acc, by omega⟩) (fun i x acc H' y Y N hy hx h1 h2 => ?_) hd
  obtain ⟨e, k, v, q, hk, rfl, hq⟩ := hx
  subst e
  exact turn i q k v acc y Y N hk hq hy h1 h2
theorem fmS (a : V) (l : List (Option V)) : (some a :: l).filterMap id = a :: l.filterMap id := rfl
theorem fmN (l : List (Option V)) : ((none : Option V) :: l).filterMap id = l.filterMap id := rfl
theorem fm_some {α : Type} (f : α → V) : ∀ l : List α, (l.map fun a => some (f a)).filterMap id = l.map f
  | [] => rfl
  | a :: l => by rw [List.map_cons, fmS, fm_some f l]; rfl
theorem fm_if {α : Type} (c : α → Bool) (f : α → V) : ∀ l : List α, (l.map fun a => if c a = true then some (f a) else none).filterMap id = (l.filter c).map f
  | [] => rfl
  | a :: l => by
    rw [List.map_cons]
    by_cases h : c a = true
    · rw [if_pos h, fmS, fm_if c f l, List.filter_cons, if_pos h]; rfl
    · rw [if_neg h, fmN, fm_if c f l, List.filter_cons, if_neg h]
end CP
end
section
set_option Elab.async false
set_option linter.all false
set_option maxRecDepth 100000
set_option maxHeartbeats 2000000
namespace CP
open PySem PySem.Spec PyProof.Rows L2
open Ck (Bytes)

/-! ### the data as values -/
abbrev nv (n : Nat) : V := .int (n : Int)
def nvs (l : List Nat) : List V := l.map nv
theorem nvs_append (a b : List Nat) : nvs (a ++ b) = nvs a ++ nvs b := List.map_append
theorem nvs_len (a : List Nat) : (nvs a).length = a.length := List.length_map _
theorem nvs_get {a : List Nat} {i n : Nat} (h : a[i]? = some n) : (nvs a)[i]? = some (nv n) := by
  unfold nvs; rw [List.getElem?_map, h]; rfl
theorem nvs_get' {a : List Nat} {i : Nat} {x : V} (h : (nvs a)[i]? = some x) : ∃ n, a[i]? = some n ∧ x = nv n := by
  unfold nvs at h
  rw [List.getElem?_map] at h
  cases e : a[i]? with
  | none => rw [e] at h; cases h
  | some n => rw [e] at h; exact ⟨n, rfl, (Option.some.inj h).symm⟩
theorem ints_nvs (l : List Nat) : (CM.zints l).map V.int = nvs l := by
  unfold CM.zints nvs; rw [List.map_map]; rfl
def keyB (p : Bytes) : List Key := p.map fun (n : Nat) => (Sum.inl (n : Int) : Key)
theorem keyB_kV (p : Bytes) : (keyB p).map kV = nvs p := by
  unfold keyB nvs; rw [List.map_map]; rfl
theorem keyB_inj : ∀ {p q : Bytes}, keyB p = keyB q → p = q
  | [], [], _ => rfl
  | [], b :: q, h => nomatch h
  | a :: p, [], h => nomatch h
  | a :: p, b :: q, h => by
    have h : (Sum.inl (a : Int) : Key) :: keyB p = (Sum.inl (b : Int) : Key) :: keyB q := h
    injection h with h1 h2
    have h3 : (a : Int) = (b : Int) := Sum.inl.inj h1
    rw [keyB_inj h2, Int.ofNat.inj h3]
def TupAt (H : Hp) (a : Addr) (p : Bytes) : Prop := H a = some (.tup (nvs p))
theorem TupAt.key {H : Hp} {a : Addr} {p : Bytes} (h : TupAt H a p) : H a = some (.tup ((keyB p).map kV)) := by rw [keyB_kV]; exact h
theorem SqT.of' {K : PySem.W.Frag} {H : Hp} {a : Addr} {xs : List V} (h : H a = some (.tup xs)) : SqT K H a xs := .inl (.inl h)
theorem SqL.of' {K : PySem.W.Frag} {H : Hp} {a : Addr} {xs : List V} (h : H a = some (.lst xs)) : SqL K H a xs := .inl (.inl h)

/-! ### pairs -/
theorem pr_app {α β : Type} {F : α → β → Prop} : ∀ {a c : List α} {b d : List β}, Paired F a b → Paired F c d → Paired F (a ++ c) (b ++ d)
  | _, _, _, _, .nil, s => s
  | _, _, _, _, .cons r t, s => .cons r (pr_app t s)
theorem pr_len {α β : Type} {F : α → β → Prop} {a : List α} {b : List β} (h : Paired F a b) : a.length = b.length := Paired.length h
theorem pr_get {α β : Type} {F : α → β → Prop} : ∀ {a : List α} {b : List β} {i : Nat} {x : α}, Paired F a b → a[i]? = some x → ∃ y, b[i]? = some y ∧ F x y
  | _, _, _, _, .nil, e => by simp at e
  | _, _, 0, _, .cons r _, e => by simp at e; subst e; exact ⟨_, rfl, r⟩
  | _, _, i + 1, x, .cons _ t, e => by
    obtain ⟨y, h1, h2⟩ := pr_get (i := i) (x := x) t (by simpa using e)
    exact ⟨y, by simpa using h1, h2⟩
theorem pr_get2 {α β : Type} {F : α → β → Prop} : ∀ {a : List α} {b : List β} {i : Nat} {y : β}, Paired F a b → b[i]? = some y → ∃ x, a[i]? = some x ∧ F x y
  | _, _, _, _, .nil, e => by simp at e
  | _, _, 0, _, .cons r _, e => by simp at e; subst e; exact ⟨_, rfl, r⟩
  | _, _, i + 1, y, .cons _ t, e => by
    obtain ⟨x, h1, h2⟩ := pr_get2 (i := i) (y := y) t (by simpa using e)
    exact ⟨x, by simpa using h1, h2⟩
theorem pr_set {α β : Type} {F : α → β → Prop} {x : α} {y : β} (r : F x y) : ∀ {a : List α} {b : List β} (i : Nat), Paired F a b → Paired F (a.set i x) (b.set i y)
  | _, _, _, .nil => .nil
  | _, _, 0, .cons _ t => .cons r t
  | _, _, i + 1, .cons q t => .cons q (pr_set r i t)
theorem pr_imp {α β : Type} {F G : α → β → Prop} (f : ∀ a b, F a b → G a b) {a : List α} {b : List β} (h : Paired F a b) : Paired G a b := Paired.mapP h f
theorem pr_mapr {α β γ : Type} {F : α → γ → Prop} (f : β → γ) : ∀ {a : List α} {b : List β}, Paired (fun x y => F x (f y)) a b → Paired F a (b.map f)
  | _, _, .nil => .nil
  | _, _, .cons r t => .cons r (pr_mapr f t)

/-! ### what is kept -/
/-- all but what is in B is as it was -/
def Kb (B : Addr → Prop) (H H' : Hp) : Prop := ∀ b o, H b = some o → ¬ B b → H' b = some o
theorem Kb.of {B : Addr → Prop} {H H' : Hp} (h : Same H H') : Kb B H H' := fun b o e _ => h b o e
theorem Kb.trans {B : Addr → Prop} {H H1 H2 : Hp} (a : Kb B H H1) (b : Kb B H1 H2) : Kb B H H2 := fun c o e n => b c o (a c o e n) n
theorem Kb.mono {B B' : Addr → Prop} {H H' : Hp} (a : Kb B H H') (h : ∀ b, B b → B' b) : Kb B' H H' := fun c o e n => a c o e fun q => n (h c q)
theorem Kb.upd {B : Addr → Prop} {H : Hp} {p : Addr} {o : HO} (h : B p) : Kb B H (L2.upd H p o) := fun b u e n => by
  rw [upd_ne (fun q : b = p => n (by rw [q]; exact h))]; exact e
theorem Kb.upd1 {H : Hp} {p : Addr} {o : HO} : Kb (· = p) H (L2.upd H p o) := Kb.upd (B := (· = p)) rfl
theorem Same.tup {H H' : Hp} {a : Addr} {p : Bytes} (s : Same H H') (h : TupAt H a p) : TupAt H' a p := s a _ h
theorem Same.tups {H H' : Hp} {as : List Addr} {ps : List Bytes} (s : Same H H') (h : Paired (TupAt H) as ps) : Paired (TupAt H') as ps := pr_imp (fun _ _ q => Same.tup s q) h

/-! ### fields -/
theorem lk_hit {f : Str} {v : V} {fs : List (Str × V)} : (putF f v fs).lookup f = some v := by rw [lookup_putF, if_pos rfl]
theorem lk_miss {f g : Str} {v : V} {fs : List (Str × V)} {r : Option V} (h : ¬ g = f) (e : fs.lookup g = r) : (putF f v fs).lookup g = r := by rw [lookup_putF, if_neg h]; exact e
theorem put1 (f : Str) (v : V) : putF f v [] = [(f, v)] := rfl
theorem put_hit (f : Str) (v x : V) (r : List (Str × V)) : putF f v ((f, x) :: r) = (f, v) :: r := by
  show (if f = f then (f, v) :: r else _) = _
  rw [if_pos rfl]
theorem put_miss {f g : Str} (v x : V) (r : List (Str × V)) (h : ¬ g = f) : putF f v ((g, x) :: r) = (g, x) :: putF f v r := by
  show (if g = f then _ else (g, x) :: putF f v r) = _
  rw [if_neg h]
theorem lkc_hit (f : Str) (v : V) (r : List (Str × V)) : List.lookup f ((f, v) :: r) = some v := by
  simp [List.lookup]
theorem lkc_miss {f g : Str} (v : V) (r : List (Str × V)) (h : ¬ g = f) : List.lookup g ((f, v) :: r) = List.lookup g r := by
  have hb : (g == f) = false := beq_eq_false_iff_ne.mpr h
  simp only [List.lookup, hb]

/-- a Rule's -/
def ruF (r : Ck.Rule) (t : Addr) : List (Str × V) := [("limit", nv (2 ^ (32 - r.bits))), ("least", nv r.least), ("most", nv r.most), ("table", .ref t)]
/-- a Stream's -/
def stF (lp lt : Addr) (cl : Bool) : List (Str × V) := [("pieces", .ref lp), ("tail", .ref lt), ("closed", .bl cl)]
/-- a Store's -/
def soF (rp sl : Addr) : List (Str × V) := [("rule", .ref rp), ("streams", .ref sl)]
/-- a Reader's -/
def rdF (a : Addr) (i : Nat) : List (Str × V) := [("calls", .ref a), ("place", nv i)]
section
variable {r : Ck.Rule} {t lp lt rp sl a : Addr} {cl : Bool} {i : Nat}
theorem ru_limit : (ruF r t).lookup ("limit" : Str) = some (nv (2 ^ (32 - r.bits))) := lkc_hit _ _ _
theorem ru_least : (ruF r t).lookup ("least" : Str) = some (nv r.least) := by unfold ruF; rw [lkc_miss _ _ (by decide +kernel)]; exact lkc_hit _ _ _
theorem ru_most : (ruF r t).lookup ("most" : Str) = some (nv r.most) := by unfold ruF; rw [lkc_miss _ _ (by decide +kernel), lkc_miss _ _ (by decide +kernel)]; exact lkc_hit _ _ _
theorem ru_table : (ruF r t).lookup ("table" : Str) = some (.ref t) := by unfold ruF; rw [lkc_miss _ _ (by decide +kernel), lkc_miss _ _ (by decide +kernel), lkc_miss _ _ (by decide +kernel)]; exact lkc_hit _ _ _
theorem ru_no {m : Str} (h1 : ¬ m = "limit") (h2 : ¬ m = "least") (h3 : ¬ m = "most") (h4 : ¬ m = "table") : (ruF r t).lookup m = none := by
  unfold ruF; rw [lkc_miss _ _ h1, lkc_miss _ _ h2, lkc_miss _ _ h3, lkc_miss _ _ h4]; rfl
theorem st_pieces : (stF lp lt cl).lookup ("pieces" : Str) = some (.ref lp) := lkc_hit _ _ _
theorem st_tail : (stF lp lt cl).lookup ("tail" : Str) = some (.ref lt) := by unfold stF; rw [lkc_miss _ _ (by decide +kernel)]; exact lkc_hit _ _ _
theorem st_closed : (stF lp lt cl).lookup ("closed" : Str) = some (.bl cl) := by unfold stF; rw [lkc_miss _ _ (by decide +kernel), lkc_miss _ _ (by decide +kernel)]; exact lkc_hit _ _ _
theorem so_rule : (soF rp sl).lookup ("rule" : Str) = some (.ref rp) := lkc_hit _ _ _
theorem so_streams : (soF rp sl).lookup ("streams" : Str) = some (.ref sl) := by unfold soF; rw [lkc_miss _ _ (by decide +kernel)]; exact lkc_hit _ _ _
theorem so_no {m : Str} (h1 : ¬ m = "rule") (h2 : ¬ m = "streams") : (soF rp sl).lookup m = none := by
  unfold soF; rw [lkc_miss _ _ h1, lkc_miss _ _ h2]; rfl
theorem so_put1 (x : Addr) : putF "rule" (.ref x) (soF rp sl) = soF x sl := put_hit _ _ _ _
theorem so_put2 (x : Addr) : putF "streams" (.ref x) (soF rp sl) = soF rp x := by unfold soF; rw [put_miss _ _ _ (by decide +kernel), put_hit]
theorem rd_calls : (rdF a i).lookup ("calls" : Str) = some (.ref a) := lkc_hit _ _ _
theorem rd_place : (rdF a i).lookup ("place" : Str) = some (nv i) := by unfold rdF; rw [lkc_miss _ _ (by decide +kernel)]; exact lkc_hit _ _ _
theorem rd_no {m : Str} (h1 : ¬ m = "calls") (h2 : ¬ m = "place") : (rdF a i).lookup m = none := by
  unfold rdF; rw [lkc_miss _ _ h1, lkc_miss _ _ h2]; rfl
theorem rd_put (x : V) : putF "place" x (rdF a i) = ([("calls", .ref a), ("place", x)] : List (Str × V)) := by unfold rdF; rw [put_miss _ _ _ (by decide +kernel), put_hit]
theorem ru_made (a b c d : V) : putF "table" d (putF "most" c (putF "least" b (putF "limit" a []))) = ([("limit", a), ("least", b), ("most", c), ("table", d)] : List (Str × V)) := by
  repeat (first | rw [put1] | rw [put_miss _ _ _ (by decide +kernel)])
theorem st_made (a b c : V) : putF "closed" c (putF "tail" b (putF "pieces" a [])) = ([("pieces", a), ("tail", b), ("closed", c)] : List (Str × V)) := by
  repeat (first | rw [put1] | rw [put_miss _ _ _ (by decide +kernel)])
theorem so_made (a b : V) : putF "streams" b (putF "rule" a []) = ([("rule", a), ("streams", b)] : List (Str × V)) := by
  repeat (first | rw [put1] | rw [put_miss _ _ _ (by decide +kernel)])
theorem rd_made (a b : V) : putF "place" b (putF "calls" a []) = ([("calls", a), ("place", b)] : List (Str × V)) := by
  repeat (first | rw [put1] | rw [put_miss _ _ _ (by decide +kernel)])
end

/-! ### objects: c holds the classes' addresses; G: lists that others write -/
structure Cs where
  ru : Addr
  st : Addr
  so : Addr
  rd : Addr
/-- a stream, as the program has it -/
structure AS where
  ps : List Bytes
  tl : Bytes
  cl : Bool
def RuleAt (c : Cs) (G : Addr → Prop) (H : Hp) (p : Addr) (r : Ck.Rule) : Prop := ∃ dx t, H p = some (.ins c.ru dx (ruF r t)) ∧ H t = some (.lst (nvs r.table)) ∧ ¬ G t
def StAt (c : Cs) (G : Addr → Prop) (H : Hp) (p : Addr) (x : AS) : Prop := ∃ (dx lp lt : Addr) (as : List Addr), H p = some (.ins c.st dx (stF lp lt x.cl)) ∧ H lp = some (.lst (as.map V.ref)) ∧ ¬ G lp ∧ Paired (TupAt H) as x.ps ∧ TupAt H lt x.tl
/-- what of B may be changed under these objects -/
def Free (B G : Addr → Prop) (H : Hp) : Prop := ∀ b, B b → (∃ C dx fs, H b = some (.ins C dx fs) ∧ fs.lookup ("pieces" : Str) = none ∧ fs.lookup ("limit" : Str) = none) ∨ (G b ∧ ∃ xs, H b = some (.lst xs))
section
variable {c : Cs} {B G : Addr → Prop} {H H' : Hp} {p : Addr} {r : Ck.Rule} {x : AS}
theorem Free.tup (f : Free B G H) {a : Addr} {xs : List V} (h : H a = some (.tup xs)) : ¬ B a := fun q => by
  rcases f a q with ⟨_, _, _, e, _⟩ | ⟨_, _, e⟩
  · rw [h] at e; cases e
  · rw [h] at e; cases e
theorem Free.lst (f : Free B G H) {a : Addr} {xs : List V} (h : H a = some (.lst xs)) (g : ¬ G a) : ¬ B a := fun q => by
  rcases f a q with ⟨_, _, _, e, _⟩ | ⟨e, _⟩
  · rw [h] at e; cases e
  · exact g e
theorem Free.ins1 (f : Free B G H) {a C dx : Addr} {fs : List (Str × V)} (h : H a = some (.ins C dx fs)) {v : V} (g : fs.lookup ("pieces" : Str) = some v) : ¬ B a := fun q => by
  rcases f a q with ⟨_, _, _, e, e2, _⟩ | ⟨_, _, e⟩
  · rw [h] at e; cases e; rw [g] at e2; cases e2
  · rw [h] at e; cases e
theorem Free.ins2 (f : Free B G H) {a C dx : Addr} {fs : List (Str × V)} (h : H a = some (.ins C dx fs)) {v : V} (g : fs.lookup ("limit" : Str) = some v) : ¬ B a := fun q => by
  rcases f a q with ⟨_, _, _, e, _, e2⟩ | ⟨_, _, e⟩
  · rw [h] at e; cases e; rw [g] at e2; cases e2
  · rw [h] at e; cases e
theorem RuleAt.kb (h : RuleAt c G H p r) (f : Free B G H) (k : Kb B H H') : RuleAt c G H' p r := by
  obtain ⟨dx, t, h1, h2, h3⟩ := h
  exact ⟨dx, t, k _ _ h1 (f.ins2 h1 ru_limit), k _ _ h2 (f.lst h2 h3), h3⟩
theorem StAt.kb (h : StAt c G H p x) (f : Free B G H) (k : Kb B H H') : StAt c G H' p x := by
  obtain ⟨dx, lp, lt, as, h1, h2, h3, h4, h5⟩ := h
  exact ⟨dx, lp, lt, as, k _ _ h1 (f.ins1 h1 st_pieces), k _ _ h2 (f.lst h2 h3), h3, pr_imp (fun a b q => k _ _ q (f.tup q)) h4, k _ _ h5 (f.tup h5)⟩
theorem free0 : Free (fun _ => False) G H := fun _ q => q.elim
theorem RuleAt.same (h : RuleAt c G H p r) (k : Same H H') : RuleAt c G H' p r := h.kb (B := fun _ => False) free0 (.of k)
theorem StAt.same (h : StAt c G H p x) (k : Same H H') : StAt c G H' p x := h.kb (B := fun _ => False) free0 (.of k)
end

/-! ### the store's streams -/
def absS (r : Ck.Rule) (x : Ck.Stream) : AS := ⟨Ck.pieces r x, Ck.tail r x, x.closed⟩
def Slot (c : Cs) (G : Addr → Prop) (H : Hp) (r : Ck.Rule) : V → Option Ck.Stream → Prop
  | v, none => v = .non
  | v, some x => ∃ a, v = .ref a ∧ StAt c G H a (absS r x)
/-- a list of streams, None where one is free -/
def SlAt (c : Cs) (G : Addr → Prop) (H : Hp) (r : Ck.Rule) (l : Addr) (ss : List (Option Ck.Stream)) : Prop := ∃ os, H l = some (.lst os) ∧ Paired (Slot c G H r) os ss
def StoreAt (c : Cs) (G : Addr → Prop) (H : Hp) (p : Addr) (s : Wrcutp.State) : Prop := ∃ dx rp sl, H p = some (.ins c.so dx (soF rp sl)) ∧ RuleAt c G H rp s.rule ∧ ¬ G sl ∧ SlAt c G H s.rule sl s.streams
section
variable {c : Cs} {B G : Addr → Prop} {H H' : Hp} {p l : Addr} {r : Ck.Rule} {s : Wrcutp.State} {ss : List (Option Ck.Stream)}
theorem Slot.kb {v : V} {o : Option Ck.Stream} (h : Slot c G H r v o) (f : Free B G H) (k : Kb B H H') : Slot c G H' r v o := by
  cases o with
  | none => exact h
  | some x =>
    obtain ⟨a, e, q⟩ := h
    exact ⟨a, e, q.kb f k⟩
theorem SlAt.kb (h : SlAt c G H r l ss) (n : ¬ G l) (f : Free B G H) (k : Kb B H H') : SlAt c G H' r l ss := by
  obtain ⟨os, h1, h2⟩ := h
  exact ⟨os, k _ _ h1 (f.lst h1 n), pr_imp (fun _ _ q => q.kb f k) h2⟩
theorem SlAt.same (h : SlAt c G H r l ss) (k : Same H H') : SlAt c G H' r l ss := by
  obtain ⟨os, h1, h2⟩ := h
  exact ⟨os, k _ _ h1, pr_imp (fun _ _ q => q.kb (B := fun _ => False) free0 (.of k)) h2⟩
theorem StoreAt.kb (h : StoreAt c G H p s) (n : ¬ B p) (f : Free B G H) (k : Kb B H H') : StoreAt c G H' p s := by
  obtain ⟨dx, rp, sl, h1, h2, h3, h4⟩ := h
  exact ⟨dx, rp, sl, k _ _ h1 n, h2.kb f k, h3, h4.kb h3 f k⟩
theorem StoreAt.same (h : StoreAt c G H p s) (k : Same H H') : StoreAt c G H' p s := h.kb (B := fun _ => False) (fun q => q) free0 (.of k)
/-- the store itself may be changed under its parts -/
theorem free_store {dx rp sl : Addr} (h : H p = some (.ins c.so dx (soF rp sl))) : Free (· = p) G H := fun b e => by
  subst e
  exact .inl ⟨_, _, _, h, so_no (by decide +kernel) (by decide +kernel), so_no (by decide +kernel) (by decide +kernel)⟩
theorem free_reader {dx a : Addr} {i : Nat} (h : H p = some (.ins c.rd dx (rdF a i))) : Free (· = p) G H := fun b e => by
  subst e
  exact .inl ⟨_, _, _, h, rd_no (by decide +kernel) (by decide +kernel), rd_no (by decide +kernel) (by decide +kernel)⟩
end
/-- what stands is no new thing -/
def GOk (G : Addr → Prop) (H : Hp) : Prop := ∀ b, H b = none → ¬ G b
theorem GOk.same {G : Addr → Prop} {H H' : Hp} (g : GOk G H) (k : Same H H') : GOk G H' := fun b e => g b (k.free e)
theorem GOk.kb {B G : Addr → Prop} {H H' : Hp} (g : GOk G H) (k : Kb B H H') (hB : ∀ b, B b → H' b ≠ none) : GOk G H' := fun b e => by
  refine g b ?_
  cases q : H b with
  | none => rfl
  | some o =>
    have n : ¬ B b := fun z => hB b z e
    rw [k b o q n] at e
    cases e

/-! ### the reader -/
/-- what is handed in: it is known to the object, or one of the module's own -/
def Src (K : PySem.W.Frag) (H : Hp) (a : Addr) (xs : List V) : Prop := (∃ o, H a = some (.frz o (.lst xs))) ∨ ∀ H', SqL K H' a xs
theorem Src.sq {K : PySem.W.Frag} {H : Hp} {a : Addr} {xs : List V} (h : Src K H a xs) : SqL K H a xs := by
  rcases h with ⟨o, h⟩ | h
  · exact .inl (.inr ⟨o, h⟩)
  · exact h H
theorem Src.of {K : PySem.W.Frag} {H : Hp} {a : Addr} {xs : List V} (h : SqL K H a xs) (f : OnlyF H) : Src K H a xs := by
  rcases h with (h | ⟨o, h⟩) | h
  · rcases f a with q | ⟨_, _, q⟩
    · rw [h] at q; cases q
    · rw [h] at q; cases q
  · exact .inl ⟨o, h⟩
  · exact .inr fun _ => .inr h
theorem Src.kb {K : PySem.W.Frag} {B G : Addr → Prop} {H H' : Hp} {a : Addr} {xs : List V} (h : Src K H a xs) (f : Free B G H) (k : Kb B H H') : Src K H' a xs := by
  rcases h with ⟨o, h⟩ | h
  · refine .inl ⟨o, k _ _ h fun q => ?_⟩
    rcases f a q with ⟨_, _, _, e, _⟩ | ⟨_, _, e⟩
    · rw [h] at e; cases e
    · rw [h] at e; cases e
  · exact .inr h
def ReaderAt (K : PySem.W.Frag) (c : Cs) (H : Hp) (p : Addr) (rest : List Int) : Prop :=
  ∃ (dx a : Addr) (ns : List Int) (i : Nat), H p = some (.ins c.rd dx (rdF a i)) ∧ Src K H a (ns.map V.int) ∧ ns.drop i = rest ∧ i ≤ ns.length ∧ ns.length ≤ 31000
theorem ReaderAt.kb {K : PySem.W.Frag} {c : Cs} {B G : Addr → Prop} {H H' : Hp} {p : Addr} {rest : List Int} (h : ReaderAt K c H p rest) (n : ¬ B p) (f : Free B G H) (k : Kb B H H') : ReaderAt K c H' p rest := by
  obtain ⟨dx, a, ns, i, h1, h2, h3⟩ := h
  exact ⟨dx, a, ns, i, k _ _ h1 n, h2.kb f k, h3⟩
end CP
end
section
set_option Elab.async false
set_option linter.all false
set_option maxRecDepth 100000
set_option maxHeartbeats 2000000
namespace CP
open PySem PySem.Spec PyProof.Rows L2
open Ck (Bytes)

/-! ### the text by places -/
def top (i : Nat) : Stmt := PySem.Challenge.pw_cutstreams_s01_answers.main.body.getD i (.Pass ⟨0, 0, 0, 0⟩)
abbrev sRI : Stmt := inClass (top 6) 0
abbrev sNext : Stmt := inClass (top 6) 1
abbrev sEnds : Stmt := inClass (top 6) 2
abbrev sFirst : Stmt := top 7
abbrev sIsRule : Stmt := top 8
abbrev sCut : Stmt := top 9
abbrev sSI : Stmt := inClass (top 13) 0
abbrev sNewS : Stmt := top 14
abbrev sFed : Stmt := top 15
abbrev sClosed : Stmt := top 16
abbrev sCount : Stmt := top 17
abbrev sBytes : Stmt := top 18
abbrev sDiff : Stmt := top 19
abbrev sShared : Stmt := top 20
abbrev sRoom : Stmt := top 21
abbrev sPlaces : Stmt := top 22
abbrev sHasRoom : Stmt := top 23
abbrev sAreB : Stmt := top 34
abbrev sWithout : Stmt := top 35
abbrev sOI : Stmt := inClass (top 36) 0
abbrev sBegin : Stmt := inClass (top 36) 1
abbrev sSetRule : Stmt := inClass (top 36) 2
abbrev sStart : Stmt := inClass (top 36) 3
abbrev sFeed : Stmt := inClass (top 36) 4
abbrev sClose : Stmt := inClass (top 36) 5
abbrev sDrop : Stmt := inClass (top 36) 6
abbrev sSize : Stmt := inClass (top 36) 7
abbrev sBytesFrom : Stmt := inClass (top 36) 8
abbrev sPieceL : Stmt := inClass (top 36) 9
abbrev sTailB : Stmt := inClass (top 36) 10
abbrev sHasP : Stmt := inClass (top 36) 11
abbrev sSharedM : Stmt := inClass (top 36) 12
abbrev sKept : Stmt := inClass (top 36) 13
abbrev sTaken : Stmt := inClass (top 36) 14
abbrev sGrow : Stmt := inClass (top 36) 15
abbrev sFree : Stmt := inClass (top 36) 16
abbrev sWith : Stmt := inClass (top 36) 17
abbrev sDI : Stmt := inClass (top 52) 0
abbrev sAtEnd : Stmt := inClass (top 52) 1
abbrev sTake : Stmt := inClass (top 52) 2
abbrev sTakeRow : Stmt := inClass (top 52) 3
abbrev sATable : Stmt := top 53
abbrev sAFeed : Stmt := top 54
abbrev sARead : Stmt := top 55
abbrev sAShared : Stmt := top 56
abbrev sACall : Stmt := top 57
abbrev sAns : Stmt := top 58

/-- the text's facts -/
structure Txt (K : PySem.W.Frag) (mg : Str → Option Value) (c : Cs) : Prop where
  clR : Cls K c.ru
  clS : Cls K c.st
  clO : Cls K c.so
  clD : Cls K c.rd
  nLimit : NoAttr K c.ru "limit"
  nLeast : NoAttr K c.ru "least"
  nMost : NoAttr K c.ru "most"
  nTable : NoAttr K c.ru "table"
  nPieces : NoAttr K c.st "pieces"
  nTail : NoAttr K c.st "tail"
  nClosed : NoAttr K c.st "closed"
  nRule : NoAttr K c.so "rule"
  nStreams : NoAttr K c.so "streams"
  nCalls : NoAttr K c.rd "calls"
  nPlace : NoAttr K c.rd "place"
  len : mg "len" = none
  sum : mg "sum" = none
  all : mg "all" = none
  list : mg "list" = none
  tuple : mg "tuple" = none
  range : mg "range" = none
  cMOD : GI mg "MODULUS" 4294967296
  cTL : GI mg "TABLE_LENGTH" 256
  cMB : GI mg "MOST_BITS" 16
  cLP : GI mg "LARGEST_PIECE" 256
  cFS : GI mg "FIRST_SIZE" 64
  cMR : GI mg "MOST_ROOM" 4096
  cMP : GI mg "MOST_PLACES" 256
  cSC : GI mg "STREAM_COUNT" 8
  cBY : GI mg "MOST_BYTES" 2048
  cLB : GI mg "LARGEST_BYTE" 255
  cN1 : GI mg "NO_SUCH_STREAM" (-1)
  cN2 : GI mg "NO_RULE" (-2)
  cN3 : GI mg "TOO_LONG" (-3)
  cN4 : GI mg "NONE_FREE" (-4)
  cN5 : GI mg "NO_ROOM" (-5)
  cN6 : GI mg "NOT_ALL_FREE" (-6)
  c1 : GI mg "BEGIN" 1
  c2 : GI mg "TABLE" 2
  c3 : GI mg "OPEN" 3
  c4 : GI mg "FEED" 4
  c5 : GI mg "CLOSE" 5
  c6 : GI mg "DROP" 6
  c7 : GI mg "SIZE" 7
  c8 : GI mg "READ" 8
  c9 : GI mg "PIECES" 9
  c10 : GI mg "TAIL" 10
  c11 : GI mg "HAS" 11
  c12 : GI mg "SHARED" 12
  c13 : GI mg "KEPT" 13

/-! ### the rule -/
theorem put_len (f : Str) (v : V) : ∀ fs : List (Str × V), (putF f v fs).length ≤ fs.length + 1
  | [] => Nat.le_refl _
  | (g, x) :: r => by
    show (if g = f then (g, v) :: r else (g, x) :: putF f v r).length ≤ _
    split
    · exact Nat.le_succ _
    · exact Nat.succ_le_succ (put_len f v r)
theorem fl1 {f : Str} {v : V} : (putF f v []).length < 1000 := by show 1 < 1000; decide
theorem fl2 {f g : Str} {v w : V} : (putF f v (putF g w [])).length < 1000 := by
  have h := put_len f v (putF g w [])
  have e : (putF g w []).length = 1 := rfl
  omega
theorem fl3 {f g h : Str} {v w x : V} : (putF f v (putF g w (putF h x []))).length < 1000 := by
  have h1 := put_len f v (putF g w (putF h x []))
  have h2 := put_len g w (putF h x [])
  have e : (putF h x []).length = 1 := rfl
  omega
theorem lim_eq {b : Nat} (h : b ≤ 16) : (4294967296 : Int) / 2 ^ ((b : Int).toNat) = ((2 ^ (32 - b) : Nat) : Int) := by
  have all : ∀ i : _root_.Fin 17, (4294967296 : Int) / 2 ^ ((i.val : Int).toNat) = ((2 ^ (32 - i.val) : Nat) : Int) := by decide +kernel
  exact all ⟨b, by omega⟩
def spRI (c : Cs) : Sp := fun vs H Q _ => ∃ (p dx t : Addr) (r : Ck.Rule), vs = [.ref p, nv r.bits, nv r.least, nv r.most, .ref t] ∧ H p = some (.ins c.ru dx []) ∧ r.bits ≤ 16 ∧
  ∀ H', H' p = some (.ins c.ru dx (ruF r t)) → Kb (· = p) H H' → Q .non H'
def spNext (c : Cs) : Sp := fun vs H Q _ => ∃ (G : Addr → Prop) (p : Addr) (r : Ck.Rule) (h b : Nat), vs = [.ref p, nv h, nv b] ∧ RuleAt c G H p r ∧ r.table.length = 256 ∧ b < 256 ∧ Q (nv (Ck.onward r h b)) H
def spEnds (c : Cs) : Sp := fun vs H Q _ => ∃ (G : Addr → Prop) (p : Addr) (r : Ck.Rule) (n h : Nat), vs = [.ref p, nv n, nv h] ∧ RuleAt c G H p r ∧ Q (.bl (Ck.endsBy r n h)) H
def spFirst (c : Cs) : Sp := fun vs H Q _ => ∃ (G : Addr → Prop), vs = [] ∧ GOk G H ∧ ∀ H' p, Same H H' → H p = none → RuleAt c G H' p Wrcutp.start.rule → Q (.ref p) H'
def isRule (n bits least most : Nat) : Bool := decide (n = 256 ∧ bits ≤ 16 ∧ 1 ≤ least ∧ least ≤ most ∧ most ≤ 256)
def spIsRule : Sp := fun vs H Q _ => ∃ (t : Addr) (xs : List V) (bits least most : Nat), vs = [nv bits, nv least, nv most, .ref t] ∧ H t = some (.lst xs) ∧ Q (.bl (isRule xs.length bits least most)) H
def spCut (K : PySem.W.Frag) (c : Cs) : Sp := fun vs H Q _ => ∃ (G : Addr → Prop) (p l : Addr) (r : Ck.Rule) (s : Bytes), vs = [.ref p, .ref l] ∧ RuleAt c G H p r ∧ r.table.length = 256 ∧ H l = some (.lst (nvs s)) ∧ s.length ≤ 100000 ∧ (∀ b ∈ s, b < 256) ∧
  ∀ H' lr as at_, Same H H' → H lr = none → H' lr = some (.lst ((as ++ [at_]).map V.ref)) → Paired (TupAt H') as (Ck.cut r s).pieces → TupAt H' at_ (Ck.cut r s).tail → Q (.ref lr) H'

section
variable {P : Program} {w : World} {K : PySem.W.Frag} {mg : Str → Option Value} {base : Heap} {c : Cs} {f : Addr} {fd : FuncData}

theorem scRI : FnScope ["self", "bits", "least", "most", "table"] ["self", "bits", "least", "most", "table"] (defScope sRI) := ⟨rfl, rfl, rfl, by decide +kernel, rfl, by decide +kernel, by decide +kernel⟩
theorem ok_ri (F : Fun K "__init__" "Rule.__init__" sRI f fd) (T : Txt K mg c) : FnOk P w K mg base CX0 1 f fd ["self", "bits", "least", "most", "table"] (spRI c) := by
  refine F.ok scRI (fun vs H Q E h => ?_) (fun cdv A outer s H vs Q E hr h => ?_)
  · obtain ⟨p, dx, t, r, rfl, _⟩ := h
    rfl
  · obtain ⟨p, dx, t, r, rfl, hp, hb, k⟩ := h
    refine ⟨_, pss_cons (ps_fld (pv 0) (pe_op op_shr (pgi T.cMOD) (pv 1)) rfl) (pss_cons (ps_fld (pv 0) (pv 2) rfl) (pss_cons (ps_fld (pv 0) (pv 3) rfl) (pss_one (ps_fld (pv 0) (pv 4) rfl)))), ?_⟩
    refine ⟨_, rfl, _, _, rfl, rfl, Int.natCast_nonneg _, _, rfl, p, c.ru, dx, [], rfl, hp, T.clR, T.nLimit, (by show 0 < 1000; decide), ?_⟩
    refine ⟨_, rfl, _, rfl, p, c.ru, dx, _, rfl, upd_same, T.clR, T.nLeast, fl1, ?_⟩
    refine ⟨_, rfl, _, rfl, p, c.ru, dx, _, rfl, upd_same, T.clR, T.nMost, fl2, ?_⟩
    refine ⟨_, rfl, _, rfl, p, c.ru, dx, _, rfl, upd_same, T.clR, T.nTable, fl3, ?_⟩
    refine k _ (Eq.trans upd_same (congrArg (fun q => some (HO.ins c.ru dx q)) ?_)) (((Kb.trans (Kb.upd1) (Kb.upd1)).trans (Kb.upd1)).trans (Kb.upd1))
    rw [ru_made]
    dsimp only
    rw [lim_eq hb]
    rfl

theorem scNext : FnScope ["self", "number", "byte"] ["self", "number", "byte"] (defScope sNext) := ⟨rfl, rfl, rfl, by decide +kernel, rfl, by decide +kernel, by decide +kernel⟩
theorem onward_int (r : Ck.Rule) (h b n : Nat) (e : r.table[b]? = some n) : (2 * (h : Int) + (n : Int)) % 4294967296 = ((Ck.onward r h b : Nat) : Int) := by
  have e2 : r.table.getD b 0 = n := by rw [List.getD_eq_getElem?_getD, e]; rfl
  unfold Ck.onward
  rw [e2]
  omega
theorem ok_next (F : Fun K "next_number" "Rule.next_number" sNext f fd) (T : Txt K mg c) : FnOk P w K mg base CX0 1 f fd ["self", "number", "byte"] (spNext c) := by
  refine F.ok scNext (fun vs H Q E h => ?_) (fun cdv A outer s H vs Q E hr h => ?_)
  · obtain ⟨G, p, r, h, b, rfl, _⟩ := h
    rfl
  · obtain ⟨G, p, r, h, b, rfl, ⟨dx, t, h1, h2, h3⟩, hl, hb, k⟩ := h
    obtain ⟨n, hn⟩ : ∃ n, r.table[b]? = some n := ⟨_, List.getElem?_eq_getElem (by omega)⟩
    refine ⟨_, pss_one (ps_ret (pe_op op_mod (pe_op op_add (pe_op op_mul pe_int (pv 1)) (pe_ix ix_list (pe_fld (pv 0) rfl) (pv 2) (fun _ _ => rfl))) (pgi T.cMOD))), ?_⟩
    refine ⟨_, rfl, _, _, rfl, rfl, .inl ⟨by decide, by decide⟩, _, rfl, p, c.ru, dx, _, _, rfl, h1, T.clR, T.nTable, ru_table, _, rfl, t, _, _, _, rfl, rfl, SqL.of' h2, at_of (j := b) rfl (nvs_get hn), _, _, rfl, rfl, _, _, rfl, rfl, (by show (0 : Int) < 4294967296; decide), ?_⟩
    have e := onward_int r h b n hn
    show Q (.int ((2 * (h : Int) + (n : Int)) % 4294967296)) H
    rw [e]
    exact k

theorem scEnds : FnScope ["self", "length", "number"] ["self", "length", "number"] (defScope sEnds) := ⟨rfl, rfl, rfl, by decide +kernel, rfl, by decide +kernel, by decide +kernel⟩
theorem nv_eq {a b : Nat} : (nv a = nv b) ↔ a = b := ⟨fun h => by injection h with h; omega, fun h => by rw [h]⟩
theorem ok_ends (F : Fun K "ends_piece" "Rule.ends_piece" sEnds f fd) (T : Txt K mg c) : FnOk P w K mg base CX0 1 f fd ["self", "length", "number"] (spEnds c) := by
  refine F.ok scEnds (fun vs H Q E h => ?_) (fun cdv A outer s H vs Q E hr h => ?_)
  · obtain ⟨G, p, r, n, h, rfl, _⟩ := h
    rfl
  · obtain ⟨G, p, r, n, h, rfl, ⟨dx, t, h1, h2, h3⟩, k⟩ := h
    refine ⟨_, pss_cons (ps_if (pt_cmpR op_eq (pv 1) (pe_fld (pv 0) rfl) (nomark _)) (pss_one (ps_ret pe_bl)) pss_nil)
      (pss_one (ps_ret (pe_and (pe_cmpR op_ge (pv 1) (pe_fld (pv 0) rfl) (nomark _)) (pe_one (pe_cmpR op_lt (pv 2) (pe_fld (pv 0) rfl) (nomark _)))))), ?_⟩
    unfold Ck.endsBy at k
    refine ⟨_, rfl, _, rfl, p, c.ru, dx, _, _, rfl, h1, T.clR, T.nMost, ru_most, rfl, _, rfl, ite2 (fun e => ?_) (fun e => ?_)⟩
    · have e1 : n = r.most := nv_eq.mp (of_decide_eq_true e)
      have e2 : (n == r.most) = true := beq_iff_eq.mpr e1
      rw [e2] at k
      exact k
    · have e1 : ¬ n = r.most := fun q => e (decide_eq_true (nv_eq.mpr q))
      have e2 : (n == r.most) = false := beq_eq_false_iff_ne.mpr e1
      rw [e2, Bool.false_or] at k
      refine ⟨_, rfl, _, rfl, p, c.ru, dx, _, _, rfl, h1, T.clR, T.nLeast, ru_least, _, _, rfl, rfl, _, rfl, ite2 (fun e3 => ?_) (fun e3 => ?_)⟩
      · have e4 : r.least ≤ n := by have := of_decide_eq_true e3; omega
        rw [decide_eq_true e4, Bool.true_and] at k
        refine ⟨_, rfl, _, rfl, p, c.ru, dx, _, _, rfl, h1, T.clR, T.nLimit, ru_limit, _, _, rfl, rfl, ?_⟩
        have e5 : decide ((h : Int) < ((2 ^ (32 - r.bits) : Nat) : Int)) = decide (h < 2 ^ (32 - r.bits)) := by
          rw [decide_eq_decide]
          omega
        show Q (.bl (decide ((h : Int) < ((2 ^ (32 - r.bits) : Nat) : Int)))) H
        rw [e5]
        exact k
      · have e4 : ¬ r.least ≤ n := fun q => e3 (decide_eq_true (by omega))
        rw [decide_eq_false e4, Bool.false_and] at k
        exact k

theorem scFirst : FnScope [] [] (defScope sFirst) := ⟨rfl, rfl, rfl, by decide +kernel, rfl, by decide +kernel, by decide +kernel⟩
theorem rep_zero : ∀ n : Nat, (List.replicate n [V.int 0]).flatten = nvs (List.replicate n 0)
  | 0 => rfl
  | n + 1 => by
    rw [List.replicate_succ, List.flatten_cons, rep_zero n, List.replicate_succ]
    rfl
theorem made_same {H H2 : Hp} {x dx C : Addr} (nx : H x = none) (nd : H dx = none) (k : Kb (· = x) (upd (upd H dx (.own x)) x (.ins C dx [])) H2) : Same H H2 := Same.made (C := C) nx nd fun b o e n => k b o e n
theorem ok_first (F : Fun K "first_rule" "first_rule" sFirst f fd) (T : Txt K mg c) (g1 : CFn P w K mg base 1 c.ru "Rule" ["self", "bits", "least", "most", "table"] (spRI c)) : FnOk P w K mg base CX0 3 f fd [] (spFirst c) := by
  refine F.ok scFirst (fun vs H Q E h => ?_) (fun cdv A outer s H vs Q E hr h => ?_)
  · obtain ⟨G, rfl, _⟩ := h
    rfl
  · obtain ⟨G, rfl, hg, k⟩ := h
    refine ⟨_, pss_one (ps_ret (pmake g1 hr (pa_cons pe_int (pa_cons (pgi T.cFS) (pa_cons (pgi T.cFS) (pa_cons (pe_op op_rep (pe_lst (pa_cons pe_int pa_nil)) (pgi T.cTL)) pa_nil)))))), ?_⟩
    refine ⟨(by show 1 ≤ sizeLine; decide), fun l hl => ?_⟩
    refine ⟨l, _, _, rfl, rfl, upd_same, (by decide), (by decide), (by show 1 * 256 ≤ sizeLine; decide), fun t ht => ?_⟩
    intro x dx nx ndx nex
    have s1 : Same H (upd H l (.lst [V.int 0])) := Same.upd hl
    have s2 : Same (upd H l (.lst [V.int 0])) _ := Same.upd (o := .lst (List.replicate (256 : Int).toNat [V.int 0]).flatten) ht
    refine ⟨x, dx, t, Wrcutp.start.rule, rfl, upd_same, by decide, fun H' h1 h2 => ⟨rfl, ?_⟩⟩
    have s3 := made_same nx ndx h2
    have ht0 : H t = none := s1.free ht
    refine k H' x ((s1.trans s2).trans s3) ((s1.trans s2).free nx) ⟨dx, t, h1, s3 _ _ ?_, hg t ht0⟩
    rw [upd_same]
    exact congrArg (fun q => some (HO.lst q)) (rep_zero 256)

theorem scIsRule : FnScope ["bits", "least", "most", "numbers"] ["bits", "least", "most", "numbers"] (defScope sIsRule) := ⟨rfl, rfl, rfl, by decide +kernel, rfl, by decide +kernel, by decide +kernel⟩
theorem ok_isRule (F : Fun K "is_rule" "is_rule" sIsRule f fd) (T : Txt K mg c) : FnOk P w K mg base CX0 1 f fd ["bits", "least", "most", "numbers"] spIsRule := by
  refine F.ok scIsRule (fun vs H Q E h => ?_) (fun cdv A outer s H vs Q E hr h => ?_)
  · obtain ⟨t, xs, b, l, m, rfl, _⟩ := h
    rfl
  · obtain ⟨t, xs, b, l, m, rfl, ht, k⟩ := h
    refine ⟨_, pss_cons (ps_if (PW.pt (pw_or (pt_cmpR op_ne (pe_callB call_len_seq (by rfl) T.len PySem.boot_len (pa_cons (pv 3) pa_nil)) (pgi T.cTL) (nomark _)) (pw_or1 (pt_cmpR op_gt (pv 0) (pgi T.cMB) (nomark _)))))
        (pss_one (ps_ret pe_bl)) pss_nil)
      (pss_one (ps_ret (pe_and (pe_cmpR op_le pe_int (pv 1) (nomark _)) (pe_and (pe_cmpR op_le (pv 1) (pv 2) (nomark _)) (pe_one (pe_cmpR op_le (pv 2) (pgi T.cLP) (nomark _))))))), ?_⟩
    unfold isRule at k
    have no : ¬ (xs.length = 256 ∧ b ≤ 16 ∧ 1 ≤ l ∧ l ≤ m ∧ m ≤ 256) → Q (.bl false) H := fun q => by
      rw [decide_eq_false q] at k
      exact k
    refine ⟨_, rfl, t, _, rfl, .inl (SqL.of' ht), rfl, _, rfl, ite2 (fun e => ?_) (fun e => ?_)⟩
    · refine iteT (no fun q => ?_)
      have e1 : ¬ V.int (xs.length : Int) = V.int 256 := by simpa using e
      exact e1 (by rw [q.1]; rfl)
    · have e1 : V.int (xs.length : Int) = V.int 256 := by simpa using e
      have e2 : xs.length = 256 := by injection e1 with e1; omega
      refine ⟨_, rfl, _, _, rfl, rfl, _, rfl, ite2 (fun e => ?_) (fun e => ?_)⟩
      · refine no fun q => ?_
        have := of_decide_eq_true e
        omega
      · have e3 : b ≤ 16 := by
          have : ¬ ((16 : Int) < (b : Int)) := fun q => e (decide_eq_true q)
          omega
        refine ⟨_, rfl, _, _, rfl, rfl, _, rfl, ite2 (fun e => ?_) (fun e => ?_)⟩
        · have e4 : 1 ≤ l := by have := of_decide_eq_true e; omega
          refine ⟨_, rfl, _, rfl, _, _, rfl, rfl, _, rfl, ite2 (fun e => ?_) (fun e => ?_)⟩
          · have e5 : l ≤ m := by have := of_decide_eq_true e; omega
            refine ⟨_, rfl, _, _, rfl, rfl, ?_⟩
            have e6 : decide ((m : Int) ≤ 256) = decide (xs.length = 256 ∧ b ≤ 16 ∧ 1 ≤ l ∧ l ≤ m ∧ m ≤ 256) := by
              rw [decide_eq_decide]
              omega
            show Q (.bl (decide ((m : Int) ≤ 256))) H
            rw [e6]
            exact k
          · refine no fun q => e (decide_eq_true ?_)
            omega
        · refine no fun q => e (decide_eq_true ?_)
          omega

theorem scCut : FnScope ["rule", "some", "rows", "row", "number", "byte"] ["rule", "some"] (defScope sCut) := ⟨rfl, rfl, rfl, by decide +kernel, rfl, by decide +kernel, by decide +kernel⟩
theorem ok_cut (F : Fun K "cut" "cut" sCut f fd) (T : Txt K mg c) (g1 : MFn P w K mg base 1 c.ru "next_number" ["self", "number", "byte"] (spNext c)) (g2 : MFn P w K mg base 1 c.ru "ends_piece" ["self", "length", "number"] (spEnds c)) :
    FnOk P w K mg base CX0 2 f fd ["rule", "some"] (spCut K c) := by
  refine F.ok scCut (fun vs H Q E h => ?_) (fun cdv A outer s H vs Q E hr h => ?_)
  · obtain ⟨G, p, l, r, s, rfl, _⟩ := h
    rfl
  · obtain ⟨G, p, l, r, s, rfl, hR, htl, hS, hlen, hby, k⟩ := h
    refine ⟨_, pss_cons (ps_set (i := 2) scCut.nd rfl (Or.inl rfl) (pe_lst pa_nil))
      (pss_cons (ps_set (i := 3) scCut.nd rfl (Or.inl rfl) (pe_lst pa_nil))
      (pss_cons (ps_set (i := 4) scCut.nd rfl (Or.inl rfl) pe_int)
      (pss_cons (ps_for PassesOwn.never rfl (pi_list (pv 1)) (pg_name (i := 5) scCut.nd rfl (Or.inl rfl))
        (pss_cons (ps_expr (papp (pv 3) (pv 5)))
        (pss_cons (ps_set (i := 4) scCut.nd rfl (Or.inl rfl) (pmeth g1 T.clR hr (pv 0) (pa_cons (pv 4) (pa_cons (pv 5) pa_nil))))
        (pss_one (ps_if (pt_val (pmeth g2 T.clR hr (pv 0) (pa_cons (pe_callB call_len_seq (by rfl) T.len PySem.boot_len (pa_cons (pv 3) pa_nil)) (pa_cons (pv 4) pa_nil))))
          (pss_cons (ps_expr (papp (pv 2) (pe_callTy call_tuple_of (by rfl) T.tuple PyProof.Rows.boot_tuple (pa_cons (pv 3) pa_nil))))
          (pss_cons (ps_set (i := 3) scCut.nd rfl (Or.inl rfl) (pe_lst pa_nil))
          (pss_one (ps_set (i := 4) scCut.nd rfl (Or.inl rfl) pe_int))))
          pss_nil)))))
      (pss_cons (ps_expr (papp (pv 2) (pe_callTy call_tuple_of (by rfl) T.tuple PyProof.Rows.boot_tuple (pa_cons (pv 3) pa_nil))))
      (pss_one (ps_ret (pv 2))))))), ?_⟩
    refine ⟨Nat.zero_le _, fun lr hlr => ⟨Nat.zero_le _, fun lw hlw => ?_⟩⟩
    have s1 : Same H (upd H lr (.lst [])) := Same.upd hlr
    have s2 : Same (upd H lr (.lst [])) (upd (upd H lr (.lst [])) lw (.lst [])) := Same.upd hlw
    have nrw : lr ≠ lw := fun q => by rw [← q, upd_same] at hlw; cases hlw
    refine ⟨_, rfl, l, rfl, ⟨_, SqL.of' ((s1.trans s2) _ _ hS)⟩, for_list (K := K) (a := l) (xs := nvs s) (fun i σ H' => ∃ (v5 : Option V) (lw : Addr) (as : List Addr) (done : List Bytes) (cur : Bytes) (h : Nat),
        σ = [some (.ref p), some (.ref l), some (.ref lr), some (.ref lw), some (nv h), v5] ∧ Same H H' ∧ H lw = none ∧ lr ≠ lw ∧ H' lr = some (.lst (as.map V.ref)) ∧ H' lw = some (.lst (nvs cur)) ∧ Paired (TupAt H') as done ∧
        (∀ rest, Ck.cutFrom r [] 0 0 (s.take i ++ rest) = ⟨done ++ (Ck.cutFrom r cur cur.length h rest).pieces, (Ck.cutFrom r cur cur.length h rest).tail⟩) ∧ cur.length ≤ i ∧ done.length ≤ i)
      ⟨none, lw, [], [], [], 0, rfl, s1.trans s2, s1.free hlw, nrw, by rw [upd_ne nrw, upd_same]; rfl, upd_same, .nil, fun rest => rfl, Nat.le_refl _, Nat.le_refl _⟩
      (fun i σ H' _ ⟨_, _, _, _, _, _, _, s5, _⟩ => SqL.of' (s5 _ _ hS)) ?_ ?_⟩
    · rintro i y σ H' hi ⟨v5, lw, as, done, cur, h, rfl, s5, n1, n2, h1, h2, h3, h4, h5, h6⟩
      obtain ⟨b, hb, rfl⟩ := nvs_get' hi
      have hb256 : b < 256 := hby b (List.mem_of_getElem? hb)
      have hi' : i < s.length := (List.getElem?_eq_some_iff.mp hb).1
      have hz : sizeLine = 16777216 := rfl
      have s6 : Same H (upd H' lw (.lst (nvs cur ++ [nv b]))) := fun b' o e => by
        rw [upd_ne (ne_of_none e n1)]; exact s5 _ _ e
      obtain ⟨dx, t, r1, r2, r3⟩ := id (hR.same s6)
      refine ⟨_, rfl, .inl ⟨rfl, _, SqL.of' h2⟩, _, rfl, lw, _, _, rfl, rfl, h2, (by rw [nvs_len]; omega), ?_⟩
      refine ⟨_, rfl, p, dx, _, rfl, r1, ru_no (by decide +kernel) (by decide +kernel) (by decide +kernel) (by decide +kernel), _, rfl, _, rfl, G, p, r, h, b, rfl, hR.same s6, htl, hb256, ?_⟩
      refine ⟨_, rfl, p, dx, _, rfl, r1, ru_no (by decide +kernel) (by decide +kernel) (by decide +kernel) (by decide +kernel), _, rfl, lw, _, rfl, .inl (SqL.of' upd_same), _, rfl, G, p, r, cur.length + 1, Ck.onward r h b, ?_, hR.same s6, _, rfl, ?_⟩
      · show [V.ref p, V.int ((nvs cur ++ [nv b]).length : Int), nv (Ck.onward r h b)] = _
        rw [List.length_append, nvs_len]
        rfl
      have ecur : nvs cur ++ [nv b] = nvs (cur ++ [b]) := (nvs_append cur [b]).symm
      have h1' : upd H' lw (.lst (nvs cur ++ [nv b])) lr = some (.lst (as.map V.ref)) := by rw [upd_ne n2]; exact h1
      have h3' : Paired (TupAt (upd H' lw (.lst (nvs cur ++ [nv b])))) as done := pr_imp (fun a q z => by
        show upd H' lw _ a = _
        rw [upd_ne (ne_of z h2 (by intro q; cases q))]; exact z) h3
      have etake : s.take (i + 1) = s.take i ++ [b] := take_succ' hb
      refine ite2 (fun e => ?_) (fun e => ?_)
      · have e : Ck.endsBy r (cur.length + 1) (Ck.onward r h b) = true := e
        refine ⟨_, rfl, .inl ⟨rfl, _, SqL.of' h1'⟩, _, rfl, lw, _, rfl, .inl ⟨SqL.of' upd_same, fun tp htp => ?_⟩⟩
        have s7 := Same.upd (o := .tup (nvs cur ++ [nv b])) htp
        refine ⟨lr, _, _, rfl, rfl, s7 _ _ h1', (by rw [List.length_map, pr_len h3]; omega), ?_⟩
        have ntr : tp ≠ lr := (ne_of_none h1' htp).symm
        refine ⟨Nat.zero_le _, fun lw' hlw' => ?_⟩
        have nl' : lr ≠ lw' := fun q => by rw [← q, upd_same] at hlw'; cases hlw'
        have s8 : Same H (upd (upd (upd H' lw (.lst (nvs cur ++ [nv b]))) tp (.tup (nvs cur ++ [nv b]))) lr (.lst (as.map V.ref ++ [V.ref tp]))) := fun b' o e' => by
          rw [upd_ne (ne_of_none e' hlr)]
          exact s7 _ _ (s6 _ _ e')
        refine ⟨_, lw', as ++ [tp], done ++ [cur ++ [b]], [], 0, rfl, s8.trans (Same.upd hlw'), s8.free hlw', nl', ?_, upd_same, ?_, fun rest => ?_, Nat.zero_le _, ?_⟩
        · rw [upd_ne nl', upd_same, List.map_append]
          rfl
        · have kk : ∀ a q, TupAt (upd H' lw (.lst (nvs cur ++ [nv b]))) a q → TupAt (upd (upd (upd (upd H' lw (.lst (nvs cur ++ [nv b]))) tp (.tup (nvs cur ++ [nv b]))) lr (.lst (as.map V.ref ++ [V.ref tp]))) lw' (.lst [])) a q := fun a q z => by
            have z1 := s7 _ _ z
            have z2 : a ≠ lr := ne_of z h1' (by intro q; cases q)
            refine Same.upd hlw' _ _ ?_
            rw [upd_ne z2]
            exact z1
          refine pr_app (pr_imp kk h3') (.cons ?_ .nil)
          refine Same.upd hlw' _ _ ?_
          rw [upd_ne ntr, upd_same, ecur]
        · rw [etake, List.append_assoc, h4, List.singleton_append, CM.cutFrom_end r cur cur.length h b rest e, List.append_assoc]
          rfl
        · rw [List.length_append]
          show done.length + 1 ≤ i + 1
          omega
      · refine ⟨_, lw, as, done, cur ++ [b], Ck.onward r h b, rfl, s6, n1, n2, h1', by rw [upd_same, ecur], h3', fun rest => ?_, ?_, by omega⟩
        · rw [etake, List.append_assoc, h4, List.singleton_append, CM.cutFrom_on r cur cur.length h b rest e, List.length_append]
          rfl
        · rw [List.length_append]
          show cur.length + 1 ≤ i + 1
          omega
    · rintro σ H' ⟨v5, lw, as, done, cur, h, rfl, s5, n1, n2, h1, h2, h3, h4, h5, h6⟩
      have hz : sizeLine = 16777216 := rfl
      rw [nvs_len] at h4 h5 h6
      have e := h4 []
      rw [List.take_length, List.append_nil, CM.cutFrom_nil] at e
      have e1 : (Ck.cut r s).pieces = done := by show (Ck.cutFrom r [] 0 0 s).pieces = done; rw [e]; simp
      have e2 : (Ck.cut r s).tail = cur := by show (Ck.cutFrom r [] 0 0 s).tail = cur; rw [e]
      refine ⟨_, rfl, .inl ⟨rfl, _, SqL.of' h1⟩, _, rfl, lw, _, rfl, .inl ⟨SqL.of' h2, fun tp htp => ?_⟩⟩
      have s7 := Same.upd (o := .tup (nvs cur)) htp
      refine ⟨lr, _, _, rfl, rfl, s7 _ _ h1, (by rw [List.length_map, pr_len h3]; omega), ?_⟩
      have ntr : tp ≠ lr := (ne_of_none h1 htp).symm
      refine ⟨_, rfl, ?_⟩
      refine k _ lr as tp (fun b' o e' => ?_) hlr ?_ ?_ ?_
      · rw [upd_ne (ne_of_none e' hlr)]
        exact s7 _ _ (s5 _ _ e')
      · rw [upd_same, List.map_append]
        rfl
      · rw [e1]
        refine pr_imp (fun a q z => ?_) h3
        show upd _ lr _ a = _
        rw [upd_ne (ne_of z h1 (by intro q; cases q))]
        exact s7 _ _ z
      · rw [e2]
        show upd _ lr _ tp = _
        rw [upd_ne ntr, upd_same]
end
end CP
end
section
set_option Elab.async false
set_option linter.all false
set_option maxRecDepth 100000
set_option maxHeartbeats 2000000
namespace CP
open PySem PySem.Spec PyProof.Rows L2
open Ck (Bytes)

/-! ### streams -/
def kvOf (ks : List Bytes) : List (List Key × V) := ks.map fun p => (keyB p, V.bl true)
def pcs (xs : List AS) : List Bytes := xs.flatMap fun x => x.ps
def roomA (xs : List AS) : Nat := Ck.total (CM.keysOf (pcs xs)) + Ck.sum (xs.map fun x => x.tl.length)
def placesA (xs : List AS) : Nat := Ck.sum (xs.map fun x => x.ps.length) + (xs.filter fun x => decide (0 < x.tl.length)).length
theorem refs_get {as : List Addr} {i : Nat} {v : V} (h : (as.map V.ref)[i]? = some v) : ∃ a, as[i]? = some a ∧ v = .ref a := by
  rw [List.getElem?_map] at h
  cases e : as[i]? with
  | none => rw [e] at h; cases h
  | some a => rw [e] at h; exact ⟨a, rfl, (Option.some.inj h).symm⟩
theorem any_kv (ks : List Bytes) (p : Bytes) : ((kvOf ks).any fun kv => decide (kv.1 = keyB p)) = ks.contains p := by
  rw [Bool.eq_iff_iff, List.any_eq_true, List.contains_iff_mem]
  constructor
  · rintro ⟨kv, h1, h2⟩
    obtain ⟨q, hq, rfl⟩ := List.mem_map.mp h1
    rw [← keyB_inj (of_decide_eq_true h2)]
    exact hq
  · intro h
    exact ⟨_, List.mem_map.mpr ⟨p, h, rfl⟩, decide_eq_true rfl⟩
theorem val_kv (ks : List Bytes) (p : Bytes) : (valV (kvOf ks) (keyB p)).isSome = ks.contains p := by
  rw [← valV_any, any_kv]
theorem put_kv (ks : List Bytes) (p : Bytes) : putK (kvOf ks) (keyB p) (.bl true) = kvOf (CM.keysOn ks p) := by
  unfold putK CM.keysOn
  rw [any_kv]
  split
  · unfold kvOf
    rw [List.map_map]
    refine List.map_congr_left fun q _ => ?_
    show (if keyB q = keyB p then (keyB q, V.bl true) else (keyB q, V.bl true)) = _
    split <;> rfl
  · unfold kvOf
    rw [List.map_append]
    rfl
theorem cut_last (as : List Addr) (t : Addr) : cutV ((as ++ [t]).map V.ref) none (some (-1)) = as.map V.ref := by
  unfold cutV
  have e1 : HT.sIx ((as ++ [t]).map V.ref).length 0 none = 0 := rfl
  have e2 : HT.sIx ((as ++ [t]).map V.ref).length ((as ++ [t]).map V.ref).length (some (-1)) = as.length := by
    show (if (-1 : Int) < 0 then ((-1 : Int) + (((as ++ [t]).map V.ref).length : Int)).toNat else min (-1 : Int).toNat ((as ++ [t]).map V.ref).length) = as.length
    rw [if_pos (by decide), List.length_map, List.length_append]
    show ((-1 : Int) + ((as.length + 1 : Nat) : Int)).toNat = _
    omega
  rw [e1, e2, List.drop_zero, Nat.sub_zero, List.map_append]
  rw [List.take_append_of_le_length (by rw [List.length_map]; omega), List.take_of_length_le (by rw [List.length_map]; omega)]
theorem at_last (as : List Addr) (t : Addr) : atI ((as ++ [t]).map V.ref) (-1) = some (.ref t) := by
  have hl : ((as ++ [t]).map V.ref).length = as.length + 1 := by rw [List.length_map, List.length_append]; rfl
  have e : ixN ((as ++ [t]).map V.ref).length (-1) = some as.length := by
    unfold ixN
    rw [if_neg (by decide), if_pos (by omega), hl]
    congr 1
    omega
  unfold atI
  rw [e]
  show ((as ++ [t]).map V.ref)[as.length]? = _
  rw [List.getElem?_map, List.getElem?_append_right (Nat.le_refl _), Nat.sub_self]
  rfl
theorem sum_app : ∀ a b : List Nat, Ck.sum (a ++ b) = Ck.sum a + Ck.sum b
  | [], b => by rw [List.nil_append]; show _ = 0 + _; omega
  | x :: a, b => by rw [List.cons_append, CM.sum_cons, CM.sum_cons, sum_app a b]; omega
theorem fm_take {α β : Type} (f : α → List β) {l : List α} {i : Nat} {x : α} (h : l[i]? = some x) : (l.take (i + 1)).flatMap f = (l.take i).flatMap f ++ f x := by
  rw [take_succ' h, List.flatMap_append]
  simp
theorem fm_take_le {α β : Type} (f : α → List β) (l : List α) (i : Nat) : ((l.take i).flatMap f).length ≤ (l.flatMap f).length := by
  have h : (l.take i ++ l.drop i).flatMap f = l.flatMap f := by rw [List.take_append_drop]
  rw [← h, List.flatMap_append, List.length_append]
  omega

def spSI (c : Cs) : Sp := fun vs H Q _ => ∃ (p dx lp lt : Addr) (cl : Bool), vs = [.ref p, .ref lp, .ref lt, .bl cl] ∧ H p = some (.ins c.st dx []) ∧ ∀ H', H' p = some (.ins c.st dx (stF lp lt cl)) → Kb (· = p) H H' → Q .non H'
def spNewS (c : Cs) : Sp := fun vs H Q _ => ∃ (G : Addr → Prop), vs = [] ∧ GOk G H ∧ ∀ H' p, Same H H' → StAt c G H' p ⟨[], [], false⟩ → Q (.ref p) H'
def spFed (c : Cs) : Sp := fun vs H Q _ => ∃ (G : Addr → Prop) (p rp l : Addr) (x : AS) (r : Ck.Rule) (b : Bytes), vs = [.ref p, .ref rp, .ref l] ∧ GOk G H ∧ StAt c G H p x ∧ RuleAt c G H rp r ∧ r.table.length = 256 ∧ H l = some (.lst (nvs b)) ∧
  x.tl.length + b.length ≤ 100000 ∧ x.ps.length ≤ 100000 ∧ (∀ z ∈ x.tl ++ b, z < 256) ∧ ∀ H' q, Same H H' → StAt c G H' q ⟨x.ps ++ (Ck.cut r (x.tl ++ b)).pieces, (Ck.cut r (x.tl ++ b)).tail, false⟩ → Q (.ref q) H'
def spClosed (c : Cs) : Sp := fun vs H Q _ => ∃ (G : Addr → Prop) (p : Addr) (x : AS), vs = [.ref p] ∧ GOk G H ∧ StAt c G H p x ∧ x.ps.length ≤ 100000 ∧
  ∀ H' q, Same H H' → StAt c G H' q ⟨if x.tl.length = 0 then x.ps else x.ps ++ [x.tl], [], true⟩ → Q (.ref q) H'
def spCount (c : Cs) : Sp := fun vs H Q _ => ∃ (G : Addr → Prop) (p : Addr) (x : AS), vs = [.ref p] ∧ StAt c G H p x ∧ x.ps.length ≤ 100000 ∧ ∀ H', Same H H' → Q (nv (Ck.total x.ps + x.tl.length)) H'
def spBytes (c : Cs) : Sp := fun vs H Q _ => ∃ (G : Addr → Prop) (p : Addr) (x : AS), vs = [.ref p] ∧ StAt c G H p x ∧ (x.ps.flatten ++ x.tl).length ≤ 100000 ∧ ∀ H' l, Same H H' → H l = none → H' l = some (.lst (nvs (x.ps.flatten ++ x.tl))) → Q (.ref l) H'
/-- a list of streams -/
def LsAt (c : Cs) (G : Addr → Prop) (H : Hp) (l : Addr) (xs : List AS) : Prop := ∃ sps : List Addr, H l = some (.lst (sps.map V.ref)) ∧ Paired (StAt c G H) sps xs
theorem LsAt.same {c : Cs} {G : Addr → Prop} {H H' : Hp} {l : Addr} {xs : List AS} (h : LsAt c G H l xs) (k : Same H H') : LsAt c G H' l xs := by
  obtain ⟨sps, h1, h2⟩ := h
  exact ⟨sps, k _ _ h1, pr_imp (fun _ _ q => q.same k) h2⟩
def Few (xs : List AS) : Prop := xs.length ≤ 100000 ∧ (pcs xs).length ≤ 100000
def spDiff (c : Cs) : Sp := fun vs H Q _ => ∃ (G : Addr → Prop) (l : Addr) (xs : List AS), vs = [.ref l] ∧ LsAt c G H l xs ∧ Few xs ∧ ∀ H' d, Same H H' → H d = none → H' d = some (.dT (kvOf (CM.keysOf (pcs xs)))) → Q (.ref d) H'
def spShared (c : Cs) : Sp := fun vs H Q _ => ∃ (G : Addr → Prop) (p q : Addr) (x y : AS), vs = [.ref p, .ref q] ∧ StAt c G H p x ∧ StAt c G H q y ∧ x.ps.length ≤ 100000 ∧ y.ps.length ≤ 100000 ∧ ∀ H', Same H H' → Q (nv (Ck.total (x.ps.filter fun p => y.ps.contains p))) H'
def spRoom (c : Cs) : Sp := fun vs H Q _ => ∃ (G : Addr → Prop) (l : Addr) (xs : List AS), vs = [.ref l] ∧ LsAt c G H l xs ∧ Few xs ∧ ∀ H', Same H H' → Q (nv (roomA xs)) H'
def spPlaces (c : Cs) : Sp := fun vs H Q _ => ∃ (G : Addr → Prop) (l : Addr) (xs : List AS), vs = [.ref l] ∧ LsAt c G H l xs ∧ Few xs ∧ ∀ H', Same H H' → Q (nv (placesA xs)) H'
def spHasRoom (c : Cs) : Sp := fun vs H Q _ => ∃ (G : Addr → Prop) (l : Addr) (xs : List AS), vs = [.ref l] ∧ LsAt c G H l xs ∧ Few xs ∧ ∀ H', Same H H' → Q (.bl (decide (roomA xs ≤ 4096 ∧ placesA xs ≤ 256))) H'

section
variable {P : Program} {w : World} {K : PySem.W.Frag} {mg : Str → Option Value} {base : Heap} {c : Cs} {f : Addr} {fd : FuncData}

theorem scSI : FnScope ["self", "pieces", "tail", "closed"] ["self", "pieces", "tail", "closed"] (defScope sSI) := ⟨rfl, rfl, rfl, by decide +kernel, rfl, by decide +kernel, by decide +kernel⟩
theorem ok_si (F : Fun K "__init__" "Stream.__init__" sSI f fd) (T : Txt K mg c) : FnOk P w K mg base CX0 1 f fd ["self", "pieces", "tail", "closed"] (spSI c) := by
  refine F.ok scSI (fun vs H Q E h => ?_) (fun cdv A outer s H vs Q E hr h => ?_)
  · obtain ⟨p, dx, lp, lt, cl, rfl, _⟩ := h
    rfl
  · obtain ⟨p, dx, lp, lt, cl, rfl, hp, k⟩ := h
    refine ⟨_, pss_cons (ps_fld (pv 0) (pv 1) rfl) (pss_cons (ps_fld (pv 0) (pv 2) rfl) (pss_one (ps_fld (pv 0) (pv 3) rfl))), ?_⟩
    refine ⟨_, rfl, _, rfl, p, c.st, dx, [], rfl, hp, T.clS, T.nPieces, (by show 0 < 1000; decide), ?_⟩
    refine ⟨_, rfl, _, rfl, p, c.st, dx, _, rfl, upd_same, T.clS, T.nTail, fl1, ?_⟩
    refine ⟨_, rfl, _, rfl, p, c.st, dx, _, rfl, upd_same, T.clS, T.nClosed, fl2, ?_⟩
    refine k _ (Eq.trans upd_same (congrArg (fun q => some (HO.ins c.st dx q)) ?_)) ((Kb.trans (Kb.upd1) (Kb.upd1)).trans (Kb.upd1))
    rw [st_made]
    rfl

theorem scNewS : FnScope [] [] (defScope sNewS) := ⟨rfl, rfl, rfl, by decide +kernel, rfl, by decide +kernel, by decide +kernel⟩
theorem ok_newS (F : Fun K "new_stream" "new_stream" sNewS f fd) (T : Txt K mg c) (g1 : CFn P w K mg base 1 c.st "Stream" ["self", "pieces", "tail", "closed"] (spSI c)) : FnOk P w K mg base CX0 3 f fd [] (spNewS c) := by
  refine F.ok scNewS (fun vs H Q E h => ?_) (fun cdv A outer s H vs Q E hr h => ?_)
  · obtain ⟨G, rfl, _⟩ := h
    rfl
  · obtain ⟨G, rfl, hg, k⟩ := h
    refine ⟨_, pss_one (ps_ret (pmake g1 hr (pa_cons (pe_lst pa_nil) (pa_cons (pe_tup pa_nil) (pa_cons pe_bl pa_nil))))), ?_⟩
    refine ⟨Nat.zero_le _, fun lp hlp => ⟨Nat.zero_le _, fun lt hlt => ?_⟩⟩
    intro x dx nx ndx nex
    have s1 : Same H (upd H lp (.lst [])) := Same.upd hlp
    have s2 : Same (upd H lp (.lst [])) (upd (upd H lp (.lst [])) lt (.tup [])) := Same.upd hlt
    refine ⟨x, dx, lp, lt, false, rfl, upd_same, fun H' h1 h2 => ⟨rfl, ?_⟩⟩
    have s3 := made_same nx ndx h2
    exact k H' x ((s1.trans s2).trans s3) ⟨dx, lp, lt, [], h1, s3 _ _ (s2 _ _ upd_same), hg lp hlp, .nil, s3 _ _ upd_same⟩

theorem scFed : FnScope ["stream", "rule", "some", "rows"] ["stream", "rule", "some"] (defScope sFed) := ⟨rfl, rfl, rfl, by decide +kernel, rfl, by decide +kernel, by decide +kernel⟩
theorem pcs_len (r : Ck.Rule) (s : Bytes) : (Ck.cut r s).pieces.length ≤ s.length := by
  have h1 := CM.len_le_total _ (CM.cut_ne r s)
  have h2 := congrArg List.length (CM.cut_flat r s)
  rw [List.length_append, ← CM.total_flat] at h2
  omega
theorem ok_fed (F : Fun K "fed_stream" "fed_stream" sFed f fd) (T : Txt K mg c) (g1 : CFn P w K mg base 1 c.st "Stream" ["self", "pieces", "tail", "closed"] (spSI c)) (g2 : GFn P w K mg base 2 "cut" ["rule", "some"] (spCut K c)) :
    FnOk P w K mg base CX0 3 f fd ["stream", "rule", "some"] (spFed c) := by
  refine F.ok scFed (fun vs H Q E h => ?_) (fun cdv A outer s H vs Q E hr h => ?_)
  · obtain ⟨G, p, rp, l, x, r, b, rfl, _⟩ := h
    rfl
  · obtain ⟨G, p, rp, l, x, r, b, rfl, hg, hS, hR, htl, hl, z1, z2, hby, k⟩ := h
    obtain ⟨dx, lp, lt, as, h1, h2, h3, h4, h5⟩ := id hS
    have hz : sizeLine = 16777216 := rfl
    refine ⟨_, pss_cons (ps_set (i := 3) scFed.nd rfl (Or.inl rfl) (pcall g2 hr (pa_cons (pv 1) (pa_cons (pe_op op_cat (pe_callTy call_list_of (by rfl) T.list PyProof.Rows.boot_list (pa_cons (pe_fld (pv 0) rfl) pa_nil)) (pv 2)) pa_nil))))
      (pss_one (ps_ret (pmake g1 hr (pa_cons (pe_op op_cat (pe_fld (pv 0) rfl) (pe_slice sl_list (pv 3) po_none (po_some (pe_un un_neg pe_int)))) (pa_cons (pe_ix ix_list (pv 3) (pe_un un_neg pe_int) (fun _ _ => rfl)) (pa_cons pe_bl pa_nil)))))), ?_⟩
    refine ⟨_, rfl, _, rfl, p, c.st, dx, _, _, rfl, h1, T.clS, T.nTail, st_tail, lt, _, rfl, .inr (SqT.of' h5), fun l1 hl1 => ?_⟩
    have s1 := Same.upd (o := .lst (nvs x.tl)) hl1
    refine ⟨_, rfl, l1, l, _, _, rfl, rfl, upd_same, s1 _ _ hl, (by rw [nvs_len, nvs_len]; omega), fun l2 hl2 => ?_⟩
    have s2 := Same.upd (o := .lst (nvs x.tl ++ nvs b)) hl2
    refine ⟨G, rp, l2, r, x.tl ++ b, rfl, (hR.same s1).same s2, htl, by rw [upd_same, nvs_append], by rw [List.length_append]; exact z1, hby, fun H3 lr as3 at3 s3 n3 k1 k2 k3 => ?_⟩
    have s13 : Same H H3 := (s1.trans s2).trans s3
    have hpl := pcs_len r (x.tl ++ b)
    rw [List.length_append] at hpl
    have hal := pr_len k2
    refine ⟨_, rfl, p, c.st, dx, _, _, rfl, s13 _ _ h1, T.clS, T.nPieces, st_pieces, _, rfl, _, rfl, _, rfl, lr, _, rfl, SqL.of' k1, fun q4 hq4 => ?_⟩
    have e4 := cut_last as3 at3
    have s4 := Same.upd (o := .lst (cutV ((as3 ++ [at3]).map V.ref) none (some (-1)))) hq4
    refine ⟨lp, q4, _, _, rfl, rfl, s4 _ _ (s13 _ _ h2), upd_same, ?_, fun l5 hl5 => ?_⟩
    · show (as.map V.ref).length + (cutV ((as3 ++ [at3]).map V.ref) none (some (-1))).length ≤ sizeLine
      rw [e4, List.length_map, List.length_map, pr_len h4, hal]
      omega
    have s5 := Same.upd (o := .lst (as.map V.ref ++ cutV ((as3 ++ [at3]).map V.ref) none (some (-1)))) hl5
    refine ⟨_, rfl, _, rfl, lr, _, _, _, rfl, rfl, SqL.of' (s5 _ _ (s4 _ _ k1)), at_last as3 at3, ?_⟩
    intro x6 dx6 nx ndx nex
    refine ⟨x6, dx6, l5, at3, false, rfl, upd_same, fun H' e1 e2 => ⟨rfl, ?_⟩⟩
    have s6 := made_same nx ndx e2
    have s36 : Same H3 H' := (s4.trans s5).trans s6
    refine k H' x6 (s13.trans s36) ⟨dx6, l5, at3, as ++ as3, e1, s6 _ _ ?_, hg l5 ((s13.trans s4).free hl5), pr_app (Same.tups (s13.trans s36) h4) (Same.tups s36 k2), s36 _ _ k3⟩
    rw [upd_same, e4, List.map_append]

theorem scClosed : FnScope ["stream"] ["stream"] (defScope sClosed) := ⟨rfl, rfl, rfl, by decide +kernel, rfl, by decide +kernel, by decide +kernel⟩
theorem ok_closed (F : Fun K "closed_stream" "closed_stream" sClosed f fd) (T : Txt K mg c) (g1 : CFn P w K mg base 1 c.st "Stream" ["self", "pieces", "tail", "closed"] (spSI c)) : FnOk P w K mg base CX0 3 f fd ["stream"] (spClosed c) := by
  refine F.ok scClosed (fun vs H Q E h => ?_) (fun cdv A outer s H vs Q E hr h => ?_)
  · obtain ⟨G, p, x, rfl, _⟩ := h
    rfl
  · obtain ⟨G, p, x, rfl, hg, hS, z2, k⟩ := h
    obtain ⟨dx, lp, lt, as, h1, h2, h3, h4, h5⟩ := id hS
    have hz : sizeLine = 16777216 := rfl
    refine ⟨_, pss_cons (ps_if (pt_cmpR op_eq (pe_callB call_len_seq (by rfl) T.len PySem.boot_len (pa_cons (pe_fld (pv 0) rfl) pa_nil)) pe_int (nomark _))
        (pss_one (ps_ret (pmake g1 hr (pa_cons (pe_fld (pv 0) rfl) (pa_cons (pe_tup pa_nil) (pa_cons pe_bl pa_nil)))))) pss_nil)
      (pss_one (ps_ret (pmake g1 hr (pa_cons (pe_op op_cat (pe_fld (pv 0) rfl) (pe_lst (pa_cons (pe_fld (pv 0) rfl) pa_nil))) (pa_cons (pe_tup pa_nil) (pa_cons pe_bl pa_nil)))))), ?_⟩
    refine ⟨_, rfl, p, c.st, dx, _, _, rfl, h1, T.clS, T.nTail, st_tail, lt, _, rfl, .inr (SqT.of' h5), rfl, _, rfl, ite2 (fun e => ?_) (fun e => ?_)⟩
    · have e1 : V.int ((nvs x.tl).length : Int) = V.int 0 := of_decide_eq_true e
      have e2 : x.tl.length = 0 := by rw [nvs_len] at e1; injection e1 with e1; omega
      rw [if_pos e2] at k
      refine ⟨_, rfl, p, c.st, dx, _, _, rfl, h1, T.clS, T.nPieces, st_pieces, Nat.zero_le _, fun t ht => ?_⟩
      intro x6 dx6 nx ndx nex
      have s1 := Same.upd (o := .tup []) ht
      refine ⟨x6, dx6, lp, t, true, rfl, upd_same, fun H' e1 e2 => ⟨rfl, ?_⟩⟩
      have s6 := s1.trans (made_same nx ndx e2)
      exact k H' x6 s6 ⟨dx6, lp, t, as, e1, s6 _ _ h2, h3, Same.tups s6 h4, made_same nx ndx e2 _ _ upd_same⟩
    · have e2 : ¬ x.tl.length = 0 := fun q => e (decide_eq_true (by rw [nvs_len, q]; rfl))
      rw [if_neg e2] at k
      refine ⟨_, rfl, p, c.st, dx, _, _, rfl, h1, T.clS, T.nPieces, st_pieces, _, rfl, p, c.st, dx, _, _, rfl, h1, T.clS, T.nTail, st_tail, (by show 1 ≤ sizeLine; decide), fun l1 hl1 => ?_⟩
      have s1 := Same.upd (o := .lst [V.ref lt]) hl1
      refine ⟨lp, l1, _, _, rfl, rfl, s1 _ _ h2, upd_same, ?_, fun l2 hl2 => ?_⟩
      · show (as.map V.ref).length + 1 ≤ sizeLine
        rw [List.length_map, pr_len h4]
        omega
      have s2 := Same.upd (o := .lst (as.map V.ref ++ [V.ref lt])) hl2
      refine ⟨Nat.zero_le _, fun t ht => ?_⟩
      have s3 := Same.upd (o := .tup []) ht
      intro x6 dx6 nx ndx nex
      refine ⟨x6, dx6, l2, t, true, rfl, upd_same, fun H' e1 e2 => ⟨rfl, ?_⟩⟩
      have s4 := made_same nx ndx e2
      have s6 : Same H H' := ((s1.trans s2).trans s3).trans s4
      refine k H' x6 s6 ⟨dx6, l2, t, as ++ [lt], e1, s4 _ _ (s3 _ _ ?_), hg l2 (s1.free hl2), pr_app (Same.tups s6 h4) (.cons (s6 _ _ h5) .nil), s4 _ _ upd_same⟩
      rw [upd_same, List.map_append]
      rfl

theorem scCount : FnScope ["stream", "piece"] ["stream"] (defScope sCount) := ⟨rfl, rfl, rfl, by decide +kernel, rfl, by decide +kernel, by decide +kernel⟩
theorem ok_count (F : Fun K "count_bytes" "count_bytes" sCount f fd) (T : Txt K mg c) : FnOk P w K mg base CX0 1 f fd ["stream"] (spCount c) := by
  refine F.ok scCount (fun vs H Q E h => ?_) (fun cdv A outer s H vs Q E hr h => ?_)
  · obtain ⟨G, p, x, rfl, _⟩ := h
    rfl
  · obtain ⟨G, p, x, rfl, hS, z2, k⟩ := h
    obtain ⟨dx, lp, lt, as, h1, h2, h3, h4, h5⟩ := id hS
    refine ⟨_, pss_one (ps_ret (pe_op op_add (pe_callB (cr_sum rfl) (by rfl) T.sum PyProof.Rows.boot_sum (pa_cons
      (pe_lc rfl scCount.nd (pi_list (pe_fld (pv 0) rfl)) (blkX (own := [("piece", 1)]) (by decide +kernel)) (fun _ _ _ _ _ => pg_name (i := 1) scCount.nd rfl (Or.inl rfl)) (fun _ _ _ _ _ => pts_nil)
        (fun _ _ _ _ _ => pe_callB (lenK K) (by rfl) T.len PySem.boot_len (pa_cons (pv 1) pa_nil))) pa_nil))
      (pe_callB call_len_seq (by rfl) T.len PySem.boot_len (pa_cons (pe_fld (pv 0) rfl) pa_nil)))), ?_⟩
    refine ⟨_, rfl, p, c.st, dx, _, _, rfl, h1, T.clS, T.nPieces, st_pieces, lp, rfl, ⟨_, SqL.of' h2⟩, fun D hD => lc_lst (K := K) (a := lp) (xs := as.map V.ref) (x.ps.map fun q => some (nv q.length)) (by rw [List.length_map, List.length_map, pr_len h4]) (by rw [List.length_map, pr_len h4]; omega) (SqL.of' h2) hD ?_ ?_⟩
    · intro i v acc y Y N hx hy y1 y2
      obtain ⟨a, ha, rfl⟩ := refs_get hx
      obtain ⟨q, hq, ht⟩ := pr_get h4 ha
      have ey : y = some (nv q.length) := by rw [List.getElem?_map, hq] at hy; exact (Option.some.inj hy).symm
      have y1 := y1 _ ey
      refine ⟨rfl, yes_ (iteT ⟨_, rfl, a, _, rfl, .inr (SqT.of' (Same.upd hD _ _ ht)), ?_⟩)⟩
      rw [nvs_len]
      exact y1
    · have s1 := Same.upd (o := .lst ((x.ps.map fun q => some (nv q.length)).filterMap id)) hD
      refine ⟨D, x.ps.map fun q => (q.length : Int), rfl, SqL.of' ?_, _, rfl, p, c.st, dx, _, _, rfl, s1 _ _ h1, T.clS, T.nTail, st_tail, lt, _, rfl, .inr (SqT.of' (s1 _ _ h5)), _, _, rfl, rfl, ?_⟩
      · rw [upd_same, fm_some, List.map_map]
        rfl
      · have e := k _ s1
        have e2 : ((x.ps.map fun q => (q.length : Int)).sum + ((nvs x.tl).length : Int)) = ((Ck.total x.ps + x.tl.length : Nat) : Int) := by
          rw [CM.sumI_total, nvs_len]
          omega
        show Q (V.int ((x.ps.map fun q => (q.length : Int)).sum + ((nvs x.tl).length : Int))) _
        rw [e2]
        exact e

theorem scBytes : FnScope ["stream", "some", "piece"] ["stream"] (defScope sBytes) := ⟨rfl, rfl, rfl, by decide +kernel, rfl, by decide +kernel, by decide +kernel⟩
theorem flat_take {l : List Bytes} {i : Nat} {x : Bytes} (h : l[i]? = some x) : (l.take (i + 1)).flatten = (l.take i).flatten ++ x := by
  rw [take_succ' h, List.flatten_append]
  simp
theorem flat_take_le (l : List Bytes) (i : Nat) : (l.take i).flatten.length ≤ l.flatten.length := by
  have h : (l.take i ++ l.drop i).flatten = l.flatten := by rw [List.take_append_drop]
  rw [← h, List.flatten_append, List.length_append]
  omega
theorem ok_bytes (F : Fun K "bytes_of" "bytes_of" sBytes f fd) (T : Txt K mg c) : FnOk P w K mg base CX0 1 f fd ["stream"] (spBytes c) := by
  refine F.ok scBytes (fun vs H Q E h => ?_) (fun cdv A outer s H vs Q E hr h => ?_)
  · obtain ⟨G, p, x, rfl, _⟩ := h
    rfl
  · obtain ⟨G, p, x, rfl, hS, z1, k⟩ := h
    obtain ⟨dx, lp, lt, as, h1, h2, h3, h4, h5⟩ := id hS
    have hz : sizeLine = 16777216 := rfl
    rw [List.length_append] at z1
    refine ⟨_, pss_cons (ps_set (i := 1) scBytes.nd rfl (Or.inl rfl) (pe_lst pa_nil))
      (pss_cons (ps_for PassesOwn.never rfl (pi_list (pe_fld (pv 0) rfl)) (pg_name (i := 2) scBytes.nd rfl (Or.inl rfl))
        (pss_one (ps_expr (pe_bm PySem.F.plainAttrs_list PySem.F.slot_list_extend PySem.F.type_list_extend mt_extT (pv 1) (pa_cons (pv 2) pa_nil)))))
      (pss_cons (ps_expr (pe_bm PySem.F.plainAttrs_list PySem.F.slot_list_extend PySem.F.type_list_extend mt_extT (pv 1) (pa_cons (pe_fld (pv 0) rfl) pa_nil)))
      (pss_one (ps_ret (pv 1))))), ?_⟩
    refine ⟨Nat.zero_le _, fun l hl => ?_⟩
    have s1 := Same.upd (o := .lst []) hl
    refine ⟨_, rfl, p, c.st, dx, _, _, rfl, s1 _ _ h1, T.clS, T.nPieces, st_pieces, lp, rfl, ⟨_, SqL.of' (s1 _ _ h2)⟩, for_list (K := K) (a := lp) (xs := as.map V.ref)
      (fun i σ H' => ∃ v2 : Option V, σ = [some (.ref p), some (.ref l), v2] ∧ Same H H' ∧ H' l = some (.lst (nvs (x.ps.take i).flatten)))
      ⟨none, rfl, s1, upd_same⟩ (fun i σ H' _ ⟨_, _, s5, _⟩ => SqL.of' (s5 _ _ h2)) ?_ ?_⟩
    · rintro i y σ H' hi ⟨v2, rfl, s5, hl'⟩
      obtain ⟨a, ha, rfl⟩ := refs_get hi
      obtain ⟨q, hq, ht⟩ := pr_get h4 ha
      have e1 := flat_take hq
      have e2 := flat_take_le x.ps (i + 1)
      rw [e1, List.length_append] at e2
      refine ⟨_, rfl, .inl ⟨rfl, _, SqL.of' hl'⟩, _, rfl, l, a, _, _, rfl, rfl, hl', SqT.of' (s5 _ _ ht), (by rw [nvs_len, nvs_len]; omega), ?_⟩
      refine ⟨_, rfl, fun b o e => ?_, ?_⟩
      · rw [upd_ne (ne_of_none e hl)]
        exact s5 _ _ e
      · rw [upd_same, e1, nvs_append]
    · rintro σ H' ⟨v2, rfl, s5, hl'⟩
      rw [List.length_map, pr_len h4, List.take_length] at hl'
      refine ⟨_, rfl, .inl ⟨rfl, _, SqL.of' hl'⟩, _, rfl, p, c.st, dx, _, _, rfl, s5 _ _ h1, T.clS, T.nTail, st_tail, l, lt, _, _, rfl, rfl, hl', SqT.of' (s5 _ _ h5), (by rw [nvs_len, nvs_len]; omega), ?_⟩
      refine ⟨_, rfl, k _ l (fun b o e => ?_) hl ?_⟩
      · rw [upd_ne (ne_of_none e hl)]
        exact s5 _ _ e
      · rw [upd_same, nvs_append]

theorem scDiff : FnScope ["streams", "different", "stream", "piece"] ["streams"] (defScope sDiff) := ⟨rfl, rfl, rfl, by decide +kernel, rfl, by decide +kernel, by decide +kernel⟩
theorem keys_take (l : List Bytes) {i : Nat} {p : Bytes} (pre : List Bytes) (h : l[i]? = some p) : CM.keysOf (pre ++ l.take (i + 1)) = CM.keysOn (CM.keysOf (pre ++ l.take i)) p := by
  rw [take_succ' h, ← List.append_assoc, CM.keysOf_snoc]
theorem kv_len (ks : List Bytes) : (kvOf ks).length = ks.length := List.length_map _
theorem ok_diff (F : Fun K "different_pieces" "different_pieces" sDiff f fd) (T : Txt K mg c) : FnOk P w K mg base CX0 1 f fd ["streams"] (spDiff c) := by
  refine F.ok scDiff (fun vs H Q E h => ?_) (fun cdv A outer s H vs Q E hr h => ?_)
  · obtain ⟨G, l, xs, rfl, _⟩ := h
    rfl
  · obtain ⟨G, l, xs, rfl, ⟨sps, hl, hp⟩, ⟨z1, z2⟩, k⟩ := h
    have hz : sizeLine = 16777216 := rfl
    have hu := hu_of hr
    refine ⟨_, pss_cons (ps_set (i := 1) scDiff.nd rfl (Or.inl rfl) pe_dnewT)
      (pss_cons (ps_for PassesOwn.never rfl (pi_list (pv 0)) (pg_name (i := 2) scDiff.nd rfl (Or.inl rfl))
        (pss_one (ps_for PassesOwn.never rfl (pi_list (pe_fld (pv 2) rfl)) (pg_name (i := 3) scDiff.nd rfl (Or.inl rfl))
          (pss_one (ps_dput hu (pv 1) (pv 3) pe_bl rfl)))))
      (pss_one (ps_ret (pv 1)))), ?_⟩
    intro d hd
    have s1 := Same.upd (o := .dT []) hd
    refine ⟨_, rfl, l, rfl, ⟨_, SqL.of' (s1 _ _ hl)⟩, for_list (K := K) (a := l) (xs := sps.map V.ref)
      (fun i σ H' => ∃ v2 v3 : Option V, σ = [some (.ref l), some (.ref d), v2, v3] ∧ Same H H' ∧ H' d = some (.dT (kvOf (CM.keysOf (pcs (xs.take i))))))
      ⟨none, none, rfl, s1, upd_same⟩ (fun i σ H' _ ⟨_, _, _, s5, _⟩ => SqL.of' (s5 _ _ hl)) ?_ ?_⟩
    · rintro i y σ H' hi ⟨v2, v3, rfl, s5, hd'⟩
      obtain ⟨a, ha, rfl⟩ := refs_get hi
      obtain ⟨x, hx, dx, lp, lt, as, h1, h2, h3, h4, h5⟩ := pr_get hp ha
      have e1 : pcs (xs.take (i + 1)) = pcs (xs.take i) ++ x.ps := fm_take (fun x : AS => x.ps) hx
      have e2 : (pcs (xs.take (i + 1))).length ≤ (pcs xs).length := fm_take_le (fun x : AS => x.ps) xs (i + 1)
      rw [e1, List.length_append] at e2
      refine ⟨_, rfl, a, c.st, dx, _, _, rfl, s5 _ _ h1, T.clS, T.nPieces, st_pieces, lp, rfl, ⟨_, SqL.of' (s5 _ _ h2)⟩, for_list (K := K) (a := lp) (xs := as.map V.ref)
        (fun j σ H' => ∃ v3 : Option V, σ = [some (.ref l), some (.ref d), some (.ref a), v3] ∧ Same H H' ∧ H' d = some (.dT (kvOf (CM.keysOf (pcs (xs.take i) ++ x.ps.take j)))))
        ⟨v3, rfl, s5, by rw [List.take_zero, List.append_nil]; exact hd'⟩ (fun i σ H' _ ⟨_, _, s5, _⟩ => SqL.of' (s5 _ _ h2)) ?_ ?_⟩
      · rintro j y σ H2 hj ⟨v3, rfl, s6, hd2⟩
        obtain ⟨b, hb, rfl⟩ := refs_get hj
        obtain ⟨q, hq, ht⟩ := pr_get h4 hb
        have hlen : (kvOf (CM.keysOf (pcs (xs.take i) ++ x.ps.take j))).length < sizeLine := by
          rw [kv_len]
          have q1 := CM.keysOf_len (pcs (xs.take i) ++ x.ps.take j)
          rw [List.length_append, List.length_take] at q1
          omega
        refine ⟨_, rfl, _, rfl, d, _, rfl, DPut.t hd2 (TupAt.key (s6 _ _ ht)) hlen, _, rfl, fun b' o e => ?_, ?_⟩
        · rw [upd_ne (ne_of_none e hd)]
          exact s6 _ _ e
        · rw [upd_same, put_kv, keys_take x.ps _ hq]
      · rintro σ H2 ⟨v3, rfl, s6, hd2⟩
        rw [List.length_map, pr_len h4, List.take_length, ← e1] at hd2
        exact ⟨_, _, rfl, s6, hd2⟩
    · rintro σ H' ⟨v2, v3, rfl, s5, hd'⟩
      rw [List.length_map, pr_len hp, List.take_length] at hd'
      exact ⟨_, rfl, k H' d s5 hd hd'⟩

theorem scShared : FnScope ["stream", "other", "of_other", "piece"] ["stream", "other"] (defScope sShared) := ⟨rfl, rfl, rfl, by decide +kernel, rfl, by decide +kernel, by decide +kernel⟩
theorem keys_contains (l : List Bytes) (p : Bytes) : (CM.keysOf l).contains p = l.contains p := by
  rw [Bool.eq_iff_iff, List.contains_iff_mem, List.contains_iff_mem, CM.keysOf_mem]
theorem ok_shared (F : Fun K "count_shared" "count_shared" sShared f fd) (T : Txt K mg c) (g1 : GFn P w K mg base 1 "different_pieces" ["streams"] (spDiff c)) : FnOk P w K mg base CX0 2 f fd ["stream", "other"] (spShared c) := by
  refine F.ok scShared (fun vs H Q E h => ?_) (fun cdv A outer s H vs Q E hr h => ?_)
  · obtain ⟨G, p, q, x, y, rfl, _⟩ := h
    rfl
  · obtain ⟨G, p, q, x, y, rfl, hX, hY, z1, z2, k⟩ := h
    obtain ⟨dx, lp, lt, as, h1, h2, h3, h4, h5⟩ := id hX
    have hu := hu_of hr
    refine ⟨_, pss_cons (ps_set (i := 2) scShared.nd rfl (Or.inr rfl) (pcall g1 hr (pa_cons (pe_lst (pa_cons (pv 1) pa_nil)) pa_nil)))
      (pss_one (ps_ret (pe_callB (cr_sum rfl) (by rfl) T.sum PyProof.Rows.boot_sum (pa_cons
        (pe_lc rfl scShared.nd (pi_list (pe_fld (pv 0) rfl)) (blkX (own := [("piece", 3)]) (by decide +kernel)) (fun _ _ _ _ _ => pg_name (i := 3) scShared.nd rfl (Or.inl rfl)) (fun _ _ _ _ _ => pts_one (pt_cmp (pc_din hu (pv 3) (pv 2))))
          (fun _ _ _ _ _ => pe_callB (lenK K) (by rfl) T.len PySem.boot_len (pa_cons (pv 3) pa_nil))) pa_nil)))), ?_⟩
    refine ⟨_, rfl, (by show 1 ≤ sizeLine; decide), fun l hl => ?_⟩
    have s1 := Same.upd (o := .lst [V.ref q]) hl
    have e0 : pcs [y] = y.ps := by show y.ps ++ [] = _; rw [List.append_nil]
    refine ⟨G, l, [y], rfl, ⟨[q], upd_same, .cons (hY.same s1) .nil⟩, ⟨by show 1 ≤ 100000; decide, by rw [e0]; exact z2⟩, fun H2 d s2 hd1 hd2 => ?_⟩
    have s12 := s1.trans s2
    rw [e0] at hd2
    refine ⟨_, rfl, p, c.st, dx, _, _, rfl, s12 _ _ h1, T.clS, T.nPieces, st_pieces, lp, rfl, ⟨_, SqL.of' (s12 _ _ h2)⟩, fun D hD => lc_lst (K := K) (a := lp) (xs := as.map V.ref) (x.ps.map fun q => if y.ps.contains q = true then some (nv q.length) else none) (by rw [List.length_map, List.length_map, pr_len h4]) (by rw [List.length_map, pr_len h4]; omega) (SqL.of' (s12 _ _ h2)) hD ?_ ?_⟩
    · intro i v acc yy Y N hx hy y1 y2
      obtain ⟨a, ha, rfl⟩ := refs_get hx
      obtain ⟨q, hq, ht⟩ := pr_get h4 ha
      have ht' : TupAt (upd H2 D (.lst acc)) a q := Same.upd hD _ _ (s12 _ _ ht)
      have ey : (if y.ps.contains q = true then some (nv q.length) else none) = yy := by rw [List.getElem?_map, hq] at hy; exact Option.some.inj hy
      refine ⟨rfl, _, rfl, _, rfl, d, _, rfl, DGet.t (Same.upd hD _ _ hd2) (TupAt.key ht'), _, rfl, ?_⟩
      rw [val_kv, keys_contains]
      refine ite2 (fun e => ?_) (fun e => ?_)
      · rw [if_pos e] at ey
        refine ⟨_, rfl, a, _, rfl, .inr (SqT.of' ht'), ?_⟩
        rw [nvs_len]
        exact y1 _ ey.symm
      · rw [if_neg e] at ey
        exact y2 ey.symm
    · have s3 := Same.upd (o := .lst ((x.ps.map fun q => if y.ps.contains q = true then some (nv q.length) else none).filterMap id)) hD
      refine ⟨D, (x.ps.filter fun q => y.ps.contains q).map fun q => (q.length : Int), rfl, SqL.of' ?_, ?_⟩
      · rw [upd_same, fm_if (fun q => y.ps.contains q), List.map_map]
        rfl
      · rw [CM.sumI_total]
        exact k _ (s12.trans s3)

theorem scRoom : FnScope ["streams", "in_pieces", "in_tails", "piece", "stream"] ["streams"] (defScope sRoom) := ⟨rfl, rfl, rfl, by decide +kernel, rfl, by decide +kernel, by decide +kernel⟩
theorem sum_nat {α : Type} (f : α → Nat) (l : List α) : (l.map fun a => ((f a : Nat) : Int)).sum = ((Ck.sum (l.map f) : Nat) : Int) := by
  rw [← CM.sumI_sum, List.map_map]
  rfl
theorem ok_room (F : Fun K "room_taken" "room_taken" sRoom f fd) (T : Txt K mg c) (g1 : GFn P w K mg base 1 "different_pieces" ["streams"] (spDiff c)) : FnOk P w K mg base CX0 2 f fd ["streams"] (spRoom c) := by
  refine F.ok scRoom (fun vs H Q E h => ?_) (fun cdv A outer s H vs Q E hr h => ?_)
  · obtain ⟨G, l, xs, rfl, _⟩ := h
    rfl
  · obtain ⟨G, l, xs, rfl, hL, hF, k⟩ := h
    refine ⟨_, pss_cons (ps_set (i := 1) scRoom.nd rfl (Or.inl rfl) (pe_callB (cr_sum rfl) (by rfl) T.sum PyProof.Rows.boot_sum (pa_cons
        (pe_lc rfl scRoom.nd (pi_keysN (pcall g1 hr (pa_cons (pv 0) pa_nil))) (blkX (own := [("piece", 3)]) (by decide +kernel)) (fun _ _ _ _ _ => pg_name (i := 3) scRoom.nd rfl (Or.inl rfl)) (fun _ _ _ _ _ => pts_nil)
          (fun _ _ _ _ _ => pe_callB (lenK K) (by rfl) T.len PySem.boot_len (pa_cons (pv 3) pa_nil))) pa_nil)))
      (pss_cons (ps_set (i := 2) scRoom.nd rfl (Or.inl rfl) (pe_callB (cr_sum rfl) (by rfl) T.sum PyProof.Rows.boot_sum (pa_cons
        (pe_lc rfl scRoom.nd (pi_list (pv 0)) (blkX (own := [("stream", 4)]) (by decide +kernel)) (fun _ _ _ _ _ => pg_name (i := 4) scRoom.nd rfl (Or.inl rfl)) (fun _ _ _ _ _ => pts_nil)
          (fun _ _ _ _ _ => pe_callB (lenK K) (by rfl) T.len PySem.boot_len (pa_cons (fldK K (pv 4) rfl) pa_nil))) pa_nil)))
      (pss_one (ps_ret (pe_op op_add (pv 1) (pv 2))))), ?_⟩
    have hk := CM.keysOf_len (pcs xs)
    have hF2 := hF.2
    refine ⟨_, rfl, G, l, xs, rfl, hL, hF, fun H2 d s2 hd1 hd2 => ⟨d, _, rfl, hd2, fun o D hD => lc_key (o := o) (kvs := kvOf (CM.keysOf (pcs xs))) ((CM.keysOf (pcs xs)).map fun q => some (nv q.length)) (by rw [List.length_map, kv_len]) (by rw [kv_len]; omega) upd_same hD ?_ ?_⟩⟩
    · intro i q kk v acc y Y N hx hq hy y1 y2
      have e1 : (CM.keysOf (pcs xs))[i]?.map (fun p => (keyB p, V.bl true)) = some (kk, v) := by
        unfold kvOf at hx
        rw [List.getElem?_map] at hx
        exact hx
      cases e2 : (CM.keysOf (pcs xs))[i]? with
      | none => rw [e2] at e1; cases e1
      | some p =>
        rw [e2] at e1
        have e3 : keyB p = kk := congrArg (·.1) (Option.some.inj e1)
        subst e3
        have ey : y = some (nv p.length) := by rw [List.getElem?_map, e2] at hy; exact (Option.some.inj hy).symm
        refine ⟨rfl, yes_ (iteT ⟨_, rfl, q, _, rfl, .inr (SqT.of' hq), ?_⟩)⟩
        rw [keyB_kV, nvs_len]
        exact y1 _ ey
    · have s3 : Same H (upd (upd H2 d (.frz o (.dT (kvOf (CM.keysOf (pcs xs)))))) D (.lst (((CM.keysOf (pcs xs)).map fun q => some (nv q.length)).filterMap id))) := fun b u e => by
        refine Same.upd hD _ _ ?_
        rw [upd_ne (ne_of_none e hd1)]
        exact s2 _ _ e
      refine ⟨D, (CM.keysOf (pcs xs)).map fun q => (q.length : Int), rfl, SqL.of' ?_, ?_⟩
      · rw [upd_same, fm_some, List.map_map]
        rfl
      generalize hH3 : upd (upd H2 d (.frz o (.dT (kvOf (CM.keysOf (pcs xs)))))) D (.lst (((CM.keysOf (pcs xs)).map fun q => some (nv q.length)).filterMap id)) = H3 at s3
      obtain ⟨sps, hl, hp⟩ := hL.same s3
      refine ⟨_, rfl, l, rfl, ⟨_, SqL.of' hl⟩, fun D2 hD2 => lc_lst (K := K) (a := l) (xs := sps.map V.ref) (xs.map fun x => some (nv x.tl.length)) (by rw [List.length_map, List.length_map, pr_len hp]) (by rw [List.length_map, pr_len hp]; exact Nat.le_trans hF.1 (by decide)) (SqL.of' hl) hD2 ?_ ?_⟩
      · intro i v acc y Y N hx hy y1 y2
        obtain ⟨a, ha, rfl⟩ := refs_get hx
        obtain ⟨x, hx, hS⟩ := pr_get hp ha
        obtain ⟨dx, lp, lt, as, h1, h2, h3, h4, h5⟩ := hS.same (Same.upd (o := .lst acc) hD2)
        have ey : y = some (nv x.tl.length) := by rw [List.getElem?_map, hx] at hy; exact (Option.some.inj hy).symm
        refine ⟨rfl, yes_ (iteT ⟨_, rfl, a, c.st, dx, _, _, rfl, h1, T.clS, T.nTail, st_tail, lt, _, rfl, .inr (SqT.of' h5), ?_⟩)⟩
        rw [nvs_len]
        exact y1 _ ey
      · have s4 := Same.upd (o := .lst ((xs.map fun x => some (nv x.tl.length)).filterMap id)) hD2
        refine ⟨D2, xs.map fun x => ((x.tl.length : Nat) : Int), rfl, SqL.of' ?_, ?_⟩
        · rw [upd_same, fm_some, List.map_map]
          rfl
        · refine ⟨_, rfl, _, rfl, _, _, rfl, rfl, ?_⟩
          have e := k _ (s3.trans s4)
          have e2 : ((CM.keysOf (pcs xs)).map fun q => (q.length : Int)).sum + (xs.map fun x => ((x.tl.length : Nat) : Int)).sum = ((roomA xs : Nat) : Int) := by
            rw [CM.sumI_total, sum_nat]
            unfold roomA
            omega
          show Q (V.int (((CM.keysOf (pcs xs)).map fun q => (q.length : Int)).sum + (xs.map fun x => ((x.tl.length : Nat) : Int)).sum)) _
          rw [e2]
          exact e

theorem scPlaces : FnScope ["streams", "for_pieces", "for_tails", "stream"] ["streams"] (defScope sPlaces) := ⟨rfl, rfl, rfl, by decide +kernel, rfl, by decide +kernel, by decide +kernel⟩
theorem fm_len {α : Type} (cc : α → Bool) : ∀ (l : List α) (vs : List V), vs.length = l.length → ((l.zip vs).map fun p => if cc p.1 = true then some p.2 else none).filterMap id = (((l.zip vs).filter fun p => cc p.1).map fun p => p.2)
  | [], vs, _ => by simp
  | a :: l, [], h => by cases h
  | a :: l, v :: vs, h => by
    have ih := fm_len cc l vs (by simpa using h)
    rw [List.zip_cons_cons, List.map_cons, List.filter_cons]
    by_cases e : cc a = true
    · rw [if_pos e, if_pos e, fmS, ih]; rfl
    · rw [if_neg e, if_neg e, fmN, ih]
theorem zip_filter_len {α : Type} (cc : α → Bool) : ∀ (l : List α) (vs : List V), vs.length = l.length → ((l.zip vs).filter fun p => cc p.1).length = (l.filter cc).length
  | [], vs, _ => by simp
  | a :: l, [], h => by cases h
  | a :: l, v :: vs, h => by
    have ih := zip_filter_len cc l vs (by simpa using h)
    rw [List.zip_cons_cons, List.filter_cons, List.filter_cons]
    by_cases e : cc a = true
    · rw [if_pos e, if_pos e, List.length_cons, List.length_cons, ih]
    · rw [if_neg e, if_neg e, ih]
theorem ok_places (F : Fun K "places_taken" "places_taken" sPlaces f fd) (T : Txt K mg c) : FnOk P w K mg base CX0 1 f fd ["streams"] (spPlaces c) := by
  refine F.ok scPlaces (fun vs H Q E h => ?_) (fun cdv A outer s H vs Q E hr h => ?_)
  · obtain ⟨G, l, xs, rfl, _⟩ := h
    rfl
  · obtain ⟨G, l, xs, rfl, hL, hF, k⟩ := h
    refine ⟨_, pss_cons (ps_set (i := 1) scPlaces.nd rfl (Or.inl rfl) (pe_callB (cr_sum rfl) (by rfl) T.sum PyProof.Rows.boot_sum (pa_cons
        (pe_lc rfl scPlaces.nd (pi_list (pv 0)) (blkX (own := [("stream", 3)]) (by decide +kernel)) (fun _ _ _ _ _ => pg_name (i := 3) scPlaces.nd rfl (Or.inl rfl)) (fun _ _ _ _ _ => pts_nil)
          (fun _ _ _ _ _ => pe_callB (lenK K) (by rfl) T.len PySem.boot_len (pa_cons (fldK K (pv 3) rfl) pa_nil))) pa_nil)))
      (pss_cons (ps_set (i := 2) scPlaces.nd rfl (Or.inl rfl) (pe_callB call_len_seq (by rfl) T.len PySem.boot_len (pa_cons
        (pe_lc rfl scPlaces.nd (pi_list (pv 0)) (blkX (own := [("stream", 3)]) (by decide +kernel)) (fun _ _ _ _ _ => pg_name (i := 3) scPlaces.nd rfl (Or.inl rfl))
          (fun _ _ _ _ _ => pts_one (pt_cmpR op_gt (pe_callB (lenK K) (by rfl) T.len PySem.boot_len (pa_cons (fldK K (pv 3) rfl) pa_nil)) pe_int (nomark _)))
          (fun _ _ _ _ _ => pv 3)) pa_nil)))
      (pss_one (ps_ret (pe_op op_add (pv 1) (pv 2))))), ?_⟩
    obtain ⟨sps, hl, hp⟩ := id hL
    refine ⟨_, rfl, l, rfl, ⟨_, SqL.of' hl⟩, fun D hD => lc_lst (K := K) (a := l) (xs := sps.map V.ref) (xs.map fun x => some (nv x.ps.length)) (by rw [List.length_map, List.length_map, pr_len hp]) (by rw [List.length_map, pr_len hp]; exact Nat.le_trans hF.1 (by decide)) (SqL.of' hl) hD ?_ ?_⟩
    · intro i v acc y Y N hx hy y1 y2
      obtain ⟨a, ha, rfl⟩ := refs_get hx
      obtain ⟨x, hx, hS⟩ := pr_get hp ha
      obtain ⟨dx, lp, lt, as, h1, h2, h3, h4, h5⟩ := hS.same (Same.upd (o := .lst acc) hD)
      have ey : y = some (nv x.ps.length) := by rw [List.getElem?_map, hx] at hy; exact (Option.some.inj hy).symm
      refine ⟨rfl, yes_ (iteT ⟨_, rfl, a, c.st, dx, _, _, rfl, h1, T.clS, T.nPieces, st_pieces, lp, _, rfl, .inl (SqL.of' h2), ?_⟩)⟩
      rw [List.length_map, pr_len h4]
      exact y1 _ ey
    · have s3 := Same.upd (o := .lst ((xs.map fun x => some (nv x.ps.length)).filterMap id)) hD
      refine ⟨D, xs.map fun x => ((x.ps.length : Nat) : Int), rfl, SqL.of' ?_, ?_⟩
      · rw [upd_same, fm_some, List.map_map]
        rfl
      generalize upd H D (.lst ((xs.map fun x => some (nv x.ps.length)).filterMap id)) = H3 at s3
      obtain ⟨sps, hl, hp⟩ := hL.same s3
      have hlen : (sps.map V.ref).length = xs.length := by rw [List.length_map, pr_len hp]
      refine ⟨_, rfl, l, rfl, ⟨_, SqL.of' hl⟩, fun D2 hD2 => lc_lst (K := K) (a := l) (xs := sps.map V.ref) ((xs.zip (sps.map V.ref)).map fun p => if (fun x : AS => decide (0 < x.tl.length)) p.1 = true then some p.2 else none) (by rw [List.length_map, List.length_zip, hlen]; omega) (by rw [hlen]; exact Nat.le_trans hF.1 (by decide)) (SqL.of' hl) hD2 ?_ ?_⟩
      · intro i v acc y Y N hv hy y1 y2
        obtain ⟨a, ha, rfl⟩ := refs_get hv
        obtain ⟨x, hx, hS⟩ := pr_get hp ha
        obtain ⟨dx, lp, lt, as, h1, h2, h3, h4, h5⟩ := hS.same (Same.upd (o := .lst acc) hD2)
        have ez : (xs.zip (sps.map V.ref))[i]? = some (x, V.ref a) := by
          rw [List.getElem?_zip_eq_some]
          exact ⟨hx, hv⟩
        have ey : (if decide (0 < x.tl.length) = true then some (V.ref a) else none) = y := by rw [List.getElem?_map, ez] at hy; exact Option.some.inj hy
        refine ⟨rfl, _, rfl, a, c.st, dx, _, _, rfl, h1, T.clS, T.nTail, st_tail, lt, _, rfl, .inr (SqT.of' h5), _, _, rfl, rfl, _, rfl, ite2 (fun e => ?_) (fun e => ?_)⟩
        · have e1 : 0 < x.tl.length := by have := of_decide_eq_true e; rw [nvs_len] at this; omega
          rw [if_pos (decide_eq_true e1)] at ey
          exact ⟨_, rfl, y1 _ ey.symm⟩
        · have e1 : ¬ 0 < x.tl.length := fun q => e (decide_eq_true (by rw [nvs_len]; omega))
          rw [if_neg (fun q => e1 (of_decide_eq_true q))] at ey
          exact y2 ey.symm
      · have s4 := Same.upd (o := .lst (((xs.zip (sps.map V.ref)).map fun p => if (fun x : AS => decide (0 < x.tl.length)) p.1 = true then some p.2 else none).filterMap id)) hD2
        refine ⟨D2, _, rfl, .inl (SqL.of' upd_same), ?_⟩
        refine ⟨_, rfl, _, rfl, _, _, rfl, rfl, ?_⟩
        have e := k _ (s3.trans s4)
        have e2 : (xs.map fun x => ((x.ps.length : Nat) : Int)).sum + (((((xs.zip (sps.map V.ref)).map fun p => if (fun x : AS => decide (0 < x.tl.length)) p.1 = true then some p.2 else none).filterMap id).length : Nat) : Int) = ((placesA xs : Nat) : Int) := by
          rw [sum_nat, fm_len (fun x : AS => decide (0 < x.tl.length)) xs _ hlen, List.length_map, zip_filter_len (fun x : AS => decide (0 < x.tl.length)) xs _ hlen]
          unfold placesA
          omega
        show Q (V.int ((xs.map fun x => ((x.ps.length : Nat) : Int)).sum + (((((xs.zip (sps.map V.ref)).map fun p => if (fun x : AS => decide (0 < x.tl.length)) p.1 = true then some p.2 else none).filterMap id).length : Nat) : Int))) _
        rw [e2]
        exact e

theorem scHasRoom : FnScope ["streams"] ["streams"] (defScope sHasRoom) := ⟨rfl, rfl, rfl, by decide +kernel, rfl, by decide +kernel, by decide +kernel⟩
theorem ok_hasRoom (F : Fun K "has_room" "has_room" sHasRoom f fd) (T : Txt K mg c) (g1 : GFn P w K mg base 2 "room_taken" ["streams"] (spRoom c)) (g2 : GFn P w K mg base 1 "places_taken" ["streams"] (spPlaces c)) : FnOk P w K mg base CX0 3 f fd ["streams"] (spHasRoom c) := by
  refine F.ok scHasRoom (fun vs H Q E h => ?_) (fun cdv A outer s H vs Q E hr h => ?_)
  · obtain ⟨G, l, xs, rfl, _⟩ := h
    rfl
  · obtain ⟨G, l, xs, rfl, hL, hF, k⟩ := h
    refine ⟨_, pss_one (ps_ret (pe_and (pe_cmpR op_le (pcall g1 hr (pa_cons (pv 0) pa_nil)) (pgi T.cMR) (nomark _)) (pe_one (pe_cmpR op_le (pcall g2 (hr.mono (by decide)) (pa_cons (pv 0) pa_nil)) (pgi T.cMP) (nomark _))))), ?_⟩
    refine ⟨_, rfl, G, l, xs, rfl, hL, hF, fun H1 s1 => ⟨_, _, rfl, rfl, _, rfl, ite2 (fun e => ?_) (fun e => ?_)⟩⟩
    · have e1 : roomA xs ≤ 4096 := by have := of_decide_eq_true e; omega
      refine ⟨_, rfl, G, l, xs, rfl, hL.same s1, hF, fun H2 s2 => ⟨_, _, rfl, rfl, ?_⟩⟩
      have e2 := k H2 (s1.trans s2)
      have e3 : decide ((placesA xs : Int) ≤ 256) = decide (roomA xs ≤ 4096 ∧ placesA xs ≤ 256) := by
        rw [decide_eq_decide]
        omega
      show Q (.bl (decide ((placesA xs : Int) ≤ 256))) H2
      rw [e3]
      exact e2
    · have e1 : ¬ roomA xs ≤ 4096 := fun q => e (decide_eq_true (by omega))
      have e2 := k H1 s1
      rw [decide_eq_false (fun q => e1 q.1)] at e2
      exact e2
end
end CP
end
section
set_option Elab.async false
set_option linter.all false
set_option maxRecDepth 100000
set_option maxHeartbeats 2000000
namespace CP
open PySem PySem.Spec PyProof.Rows L2
open Ck (Bytes)
open Wrcutp (State Call)

/-! ### the store -/
def allS (ss : List (Option Ck.Stream)) : List Ck.Stream := ss.filterMap fun x => x
def absL (r : Ck.Rule) (ss : List (Option Ck.Stream)) : List AS := (allS ss).map (absS r)
theorem pcs_abs (r : Ck.Rule) : ∀ l : List Ck.Stream, pcs (l.map (absS r)) = l.flatMap fun x => Ck.pieces r x
  | [] => rfl
  | x :: l => by
    show Ck.pieces r x ++ pcs (l.map (absS r)) = Ck.pieces r x ++ l.flatMap fun x => Ck.pieces r x
    rw [pcs_abs r l]
theorem room_kept (s : State) : roomA (absL s.rule s.streams) = Wrcutp.kept s := by
  unfold roomA absL Wrcutp.kept
  rw [pcs_abs, CM.once_total, List.map_map]
  rfl
theorem places_spots (s : State) : placesA (absL s.rule s.streams) = Wrcutp.spots s := by
  unfold placesA absL Wrcutp.spots
  show _ = Ck.sum ((allS s.streams).map _)
  generalize allS s.streams = l
  induction l with
  | nil => rfl
  | cons x l ih =>
    rw [List.map_cons, List.map_cons, CM.sum_cons, List.filter_cons, List.map_cons, CM.sum_cons, ← ih]
    by_cases h : 0 < (Ck.tail s.rule x).length
    · have h2 : ¬ (Ck.tail s.rule x).isEmpty = true := fun q => by
        rw [List.isEmpty_iff.mp q] at h
        exact absurd h (by decide)
      rw [if_pos (show decide (0 < (absS s.rule x).tl.length) = true from decide_eq_true h), if_neg h2, List.length_cons]
      show (Ck.pieces s.rule x).length + _ + _ = _
      omega
    · have h2 : (Ck.tail s.rule x).isEmpty = true := List.isEmpty_iff.mpr (List.length_eq_zero_iff.mp (by omega))
      rw [if_neg (show ¬ decide (0 < (absS s.rule x).tl.length) = true from fun q => h (of_decide_eq_true q)), if_pos h2]
      show (Ck.pieces s.rule x).length + _ + _ = _
      omega
theorem few_abs {r : Ck.Rule} {ss : List (Option Ck.Stream)} (h1 : ss.length = 8) (h2 : ∀ x, some x ∈ ss → x.bytes.length ≤ 2048) : Few (absL r ss) := by
  have hl : (allS ss).length ≤ 8 := by
    have := List.length_filterMap_le (fun x : Option Ck.Stream => x) ss
    unfold allS
    omega
  have hm : ∀ x ∈ allS ss, x.bytes.length ≤ 2048 := fun x hx => by
    unfold allS at hx
    obtain ⟨o, ho, e⟩ := List.mem_filterMap.mp hx
    rw [e] at ho
    exact h2 x ho
  have hp : ∀ l : List Ck.Stream, (∀ x ∈ l, x.bytes.length ≤ 2048) → (pcs (l.map (absS r))).length ≤ l.length * 2048 := by
    intro l
    induction l with
    | nil => intro _; exact Nat.le_refl _
    | cons x l ih =>
      intro h
      have i1 := ih fun y hy => h y (List.mem_cons_of_mem _ hy)
      have i2 := h x (List.mem_cons_self ..)
      have i3 := CM.st_count r x
      show (Ck.pieces r x ++ pcs (l.map (absS r))).length ≤ (l.length + 1) * 2048
      rw [List.length_append]
      omega
  refine ⟨?_, ?_⟩
  · unfold absL
    rw [List.length_map]
    omega
  · have := hp _ hm
    unfold absL
    omega
theorem slots_ls {c : Cs} {G : Addr → Prop} {H : Hp} {r : Ck.Rule} : ∀ {os : List V} {ss : List (Option Ck.Stream)}, Paired (Slot c G H r) os ss →
    ∃ sps : List Addr, (os.map fun v => if (!decide (v = V.non)) = true then some v else none).filterMap id = sps.map V.ref ∧ Paired (StAt c G H) sps (absL r ss)
  | _, _, .nil => ⟨[], rfl, .nil⟩
  | _, _, @Paired.cons _ _ _ v o os ss h t => by
    obtain ⟨sps, e, q⟩ := slots_ls t
    cases o with
    | none =>
      have h : v = .non := h
      subst h
      refine ⟨sps, ?_, q⟩
      rw [List.map_cons, if_neg (by simp), fmN, e]
    | some x =>
      obtain ⟨a, rfl, hS⟩ := h
      refine ⟨a :: sps, ?_, .cons hS q⟩
      rw [List.map_cons, if_pos (by simp), fmS, e]
      rfl
section
variable {c : Cs} {G : Addr → Prop} {H H1 : Hp} {r : Ck.Rule} {os : List V} {ss : List (Option Ck.Stream)} {k : Nat} {x : Ck.Stream} {p l : Addr} {s : State}
theorem slot_some (h : Paired (Slot c G H r) os ss) (e : ss[k]? = some (some x)) : ∃ a, os[k]? = some (.ref a) ∧ StAt c G H a (absS r x) := by
  obtain ⟨v, h1, a, rfl, h2⟩ := pr_get2 h e
  exact ⟨a, h1, h2⟩
theorem slot_none (h : Paired (Slot c G H r) os ss) (e : ss[k]? = some none) : os[k]? = some .non := by
  obtain ⟨v, h1, h2⟩ := pr_get2 h e
  have h2 : v = .non := h2
  subst h2
  exact h1
/-- before a call -/
structure Pre (c : Cs) (G : Addr → Prop) (H : Hp) (p : Addr) (s : State) : Prop where
  st : StoreAt c G H p s
  wf : CM.WF s
  g : GOk G H
abbrev ansL (a : Wrcutp.Answer) : List V := (WrcutpNeutral.told a).map V.int
/-- behind a call -/
def Post (c : Cs) (G : Addr → Prop) (H : Hp) (p : Addr) (s : State) (d : Call) (Q : VK) : Prop := ∀ H' l, StoreAt c G H' p (Wrcutp.step s d).1 → Kb (· = p) H H' → ¬ G l → H' l = some (.lst (ansL (Wrcutp.step s d).2)) → Q (.ref l) H'
theorem same_ans {d : Call} {a : Wrcutp.Answer} {Q : VK} {xs : List V} (S : StoreAt c G H p s) (g : GOk G H) (e : Wrcutp.step s d = (s, a)) (po : Post c G H p s d Q) (s1 : Same H H1) (hl : H1 l = none) (h : xs = ansL a) : Q (.ref l) (upd H1 l (.lst xs)) :=
  po _ l (by rw [e]; exact S.same (s1.trans (Same.upd hl))) (Kb.of (s1.trans (Same.upd hl))) (g l (s1.free hl)) (by rw [e, upd_same, h])
theorem refused {d : Call} {z : Int} {Q : VK} (S : StoreAt c G H p s) (g : GOk G H) (e : Wrcutp.step s d = (s, .no z)) (po : Post c G H p s d Q) (s1 : Same H H1) (hl : H1 l = none) : Q (.ref l) (upd H1 l (.lst [V.int z])) :=
  same_ans S g e po s1 hl rfl
theorem Kb.fresh {o : HO} (k : Kb (· = p) H (L2.upd H1 p o)) (hl : L2.upd H1 p o l = none) : H l = none := by
  cases q : H l with
  | none => rfl
  | some u =>
    by_cases e : l = p
    · rw [e, upd_same] at hl
      cases hl
    · rw [k l u q e] at hl
      cases hl
theorem set_streams {dx rp sl : Addr} {ss : List (Option Ck.Stream)} (h : H1 p = some (.ins c.so dx (soF rp sl))) (hR : RuleAt c G H1 rp r) (nl : ¬ G l) (hs : SlAt c G H1 r l ss) :
    StoreAt c G (upd H1 p (.ins c.so dx (putF "streams" (.ref l) (soF rp sl)))) p ⟨r, ss⟩ := by
  have f : Free (· = p) G H1 := free_store h
  have k : Kb (· = p) H1 (upd H1 p (.ins c.so dx (putF "streams" (.ref l) (soF rp sl)))) := Kb.upd1
  exact ⟨dx, rp, l, by rw [upd_same, so_put2], hR.kb f k, nl, hs.kb nl f k⟩
theorem st_bounds (W : CM.WF s) (e : s.at_ k = some x) : x.bytes.length ≤ 2048 ∧ (absS s.rule x).ps.length ≤ 2048 ∧ (absS s.rule x).tl.length ≤ 2048 ∧ (∀ b ∈ x.bytes, b < 256) := by
  have h1 := W.st x (CM.at_mem e)
  have h2 := CM.st_count s.rule x
  have h3 := CM.st_total s.rule x
  refine ⟨h1.len, Nat.le_trans h2 h1.len, ?_, h1.byte⟩
  show (Ck.tail s.rule x).length ≤ 2048
  have := h1.len
  omega
end

def growB (s : State) (k : Nat) : Bool := match s.at_ k with
  | some x => !x.closed
  | none => false
def spAreB : Sp := fun vs H Q _ => ∃ (l : Addr) (b : Bytes), vs = [.ref l] ∧ H l = some (.lst (nvs b)) ∧ b.length ≤ 100000 ∧ ∀ H', Same H H' → Q (.bl (b.all Wrcutp.isByte)) H'
def spWithout (c : Cs) : Sp := fun vs H Q _ => ∃ (G : Addr → Prop) (l : Addr) (r : Ck.Rule) (ss : List (Option Ck.Stream)), vs = [.ref l] ∧ SlAt c G H r l ss ∧ ss.length = 8 ∧ ∀ H' l', Same H H' → LsAt c G H' l' (absL r ss) → Q (.ref l') H'
def spOI (c : Cs) : Sp := fun vs H Q _ => ∃ (G : Addr → Prop) (p dx : Addr), vs = [.ref p] ∧ H p = some (.ins c.so dx []) ∧ GOk G H ∧ ∀ H', StoreAt c G H' p Wrcutp.start → Kb (· = p) H H' → Q .non H'
def spBegin (c : Cs) : Sp := fun vs H Q _ => ∃ (G : Addr → Prop) (p : Addr) (s : State), vs = [.ref p] ∧ Pre c G H p s ∧ Post c G H p s .begin_ Q
def spSetRule (c : Cs) : Sp := fun vs H Q _ => ∃ (G : Addr → Prop) (p t : Addr) (s : State) (b l m : Nat) (tb : List Nat), vs = [.ref p, nv b, nv l, nv m, .ref t] ∧ Pre c G H p s ∧ H t = some (.lst (nvs tb)) ∧ ¬ G t ∧ CM.Words tb ∧ Post c G H p s (.table b l m tb) Q
def spStart (c : Cs) : Sp := fun vs H Q _ => ∃ (G : Addr → Prop) (p : Addr) (s : State), vs = [.ref p] ∧ Pre c G H p s ∧ Post c G H p s .open_ Q
def spFeed (c : Cs) : Sp := fun vs H Q _ => ∃ (G : Addr → Prop) (p t : Addr) (s : State) (k : Nat) (b : Bytes), vs = [.ref p, nv k, .ref t] ∧ Pre c G H p s ∧ H t = some (.lst (nvs b)) ∧ b.length ≤ 40000 ∧ Post c G H p s (.feed k b) Q
def spK (c : Cs) (d : Nat → Call) : Sp := fun vs H Q _ => ∃ (G : Addr → Prop) (p : Addr) (s : State) (k : Nat), vs = [.ref p, nv k] ∧ Pre c G H p s ∧ Post c G H p s (d k) Q
def spRead (c : Cs) : Sp := fun vs H Q _ => ∃ (G : Addr → Prop) (p : Addr) (s : State) (k a n : Nat), vs = [.ref p, nv k, nv a, nv n] ∧ Pre c G H p s ∧ Post c G H p s (.read k a n) Q
def spHas (c : Cs) : Sp := fun vs H Q _ => ∃ (G : Addr → Prop) (p t : Addr) (s : State) (b : Bytes), vs = [.ref p, .ref t] ∧ Pre c G H p s ∧ H t = some (.lst (nvs b)) ∧ b.length ≤ 40000 ∧ Post c G H p s (.has b) Q
def spSharedM (c : Cs) : Sp := fun vs H Q _ => ∃ (G : Addr → Prop) (p : Addr) (s : State) (k l : Nat), vs = [.ref p, nv k, nv l] ∧ Pre c G H p s ∧ Post c G H p s (.shared k l) Q
def spKept (c : Cs) : Sp := fun vs H Q _ => ∃ (G : Addr → Prop) (p : Addr) (s : State), vs = [.ref p] ∧ Pre c G H p s ∧ Post c G H p s .kept Q
def spTaken (c : Cs) : Sp := fun vs H Q _ => ∃ (G : Addr → Prop) (p : Addr) (s : State) (k : Nat), vs = [.ref p, nv k] ∧ StoreAt c G H p s ∧ CM.WF s ∧ Q (.bl (s.at_ k).isSome) H
def spGrow (c : Cs) : Sp := fun vs H Q _ => ∃ (G : Addr → Prop) (p : Addr) (s : State) (k : Nat), vs = [.ref p, nv k] ∧ StoreAt c G H p s ∧ CM.WF s ∧ Q (.bl (growB s k)) H
def spFree (c : Cs) : Sp := fun vs H Q _ => ∃ (G : Addr → Prop) (p : Addr) (s : State), vs = [.ref p] ∧ StoreAt c G H p s ∧ CM.WF s ∧ ∀ H' l, Same H H' → H' l = some (.lst (nvs (CM.freeN s.streams))) → Q (.ref l) H'
def spWith (c : Cs) : Sp := fun vs H Q _ => ∃ (G : Addr → Prop) (p : Addr) (s : State) (k : Nat) (v : V) (o : Option Ck.Stream), vs = [.ref p, nv k, v] ∧ StoreAt c G H p s ∧ CM.WF s ∧ k < 8 ∧ Slot c G H s.rule v o ∧
  ∀ H' l, Same H H' → H l = none → SlAt c G H' s.rule l (s.streams.set k o) → Q (.ref l) H'

section
variable {P : Program} {w : World} {K : PySem.W.Frag} {mg : Str → Option Value} {base : Heap} {c : Cs} {f : Addr} {fd : FuncData}

theorem scAreB : FnScope ["some", "number"] ["some"] (defScope sAreB) := ⟨rfl, rfl, rfl, by decide +kernel, rfl, by decide +kernel, by decide +kernel⟩
theorem ok_areB (F : Fun K "are_bytes" "are_bytes" sAreB f fd) (T : Txt K mg c) : FnOk P w K mg base CX0 1 f fd ["some"] spAreB := by
  refine F.ok scAreB (fun vs H Q E h => ?_) (fun cdv A outer s H vs Q E hr h => ?_)
  · obtain ⟨l, b, rfl, _⟩ := h
    rfl
  · obtain ⟨l, b, rfl, hl, z, k⟩ := h
    refine ⟨_, pss_one (ps_ret (pe_callB (cr_all rfl) (by rfl) T.all PyProof.Rows.boot_all (pa_cons
      (pe_lc rfl scAreB.nd (pi_list (pv 0)) (blkX (own := [("number", 1)]) (by decide +kernel)) (fun _ _ _ _ _ => pg_name (i := 1) scAreB.nd rfl (Or.inl rfl)) (fun _ _ _ _ _ => pts_nil)
        (fun _ _ _ _ _ => pe_cmpR op_le (pv 1) (pgi T.cLB) (nomark _))) pa_nil))), ?_⟩
    refine ⟨_, rfl, l, rfl, ⟨_, SqL.of' hl⟩, fun D hD => lc_lst (K := K) (a := l) (xs := nvs b) (b.map fun (n : Nat) => some (V.bl (decide ((n : Int) ≤ 255)))) (by rw [List.length_map, nvs_len]) (by rw [nvs_len]; omega) (SqL.of' hl) hD ?_ ?_⟩
    · intro i v acc y Y N hx hy y1 y2
      obtain ⟨n, hn, rfl⟩ := nvs_get' hx
      have ey : y = some (V.bl (decide ((n : Int) ≤ 255))) := by rw [List.getElem?_map, hn] at hy; exact (Option.some.inj hy).symm
      exact ⟨rfl, yes_ (iteT ⟨_, rfl, _, _, rfl, rfl, y1 _ ey⟩)⟩
    · have s1 := Same.upd (o := .lst ((b.map fun (n : Nat) => some (V.bl (decide ((n : Int) ≤ 255)))).filterMap id)) hD
      refine ⟨D, b.map fun (n : Nat) => decide ((n : Int) ≤ 255), rfl, SqL.of' ?_, ?_⟩
      · rw [upd_same, fm_some, List.map_map]
        rfl
      · have e : (b.map fun (n : Nat) => decide ((n : Int) ≤ 255)).all id = b.all Wrcutp.isByte := by
          rw [List.all_map]
          refine congrArg (fun q => b.all q) (funext fun n => ?_)
          show decide ((n : Int) ≤ 255) = decide (n < 256)
          rw [decide_eq_decide]
          omega
        rw [e]
        exact k _ s1

theorem scWithout : FnScope ["streams", "stream"] ["streams"] (defScope sWithout) := ⟨rfl, rfl, rfl, by decide +kernel, rfl, by decide +kernel, by decide +kernel⟩
theorem ok_without (F : Fun K "without_free" "without_free" sWithout f fd) (T : Txt K mg c) : FnOk P w K mg base CX0 1 f fd ["streams"] (spWithout c) := by
  refine F.ok scWithout (fun vs H Q E h => ?_) (fun cdv A outer s H vs Q E hr h => ?_)
  · obtain ⟨G, l, r, ss, rfl, _⟩ := h
    rfl
  · obtain ⟨G, l, r, ss, rfl, ⟨os, h1, h2⟩, z, k⟩ := h
    refine ⟨_, pss_one (ps_ret (pe_lc rfl scWithout.nd (pi_list (pv 0)) (blkX (own := [("stream", 1)]) (by decide +kernel)) (fun _ _ _ _ _ => pg_name (i := 1) scWithout.nd rfl (Or.inl rfl))
      (fun _ _ _ _ _ => pts_one (pt_cmpR op_notN (pv 1) pe_non (nomark _))) (fun _ _ _ _ _ => pv 1))), ?_⟩
    refine ⟨_, rfl, l, rfl, ⟨_, SqL.of' h1⟩, fun D hD => lc_lst (K := K) (a := l) (xs := os) (os.map fun v => if (!decide (v = V.non)) = true then some v else none) (by rw [List.length_map]) (by rw [pr_len h2]; omega) (SqL.of' h1) hD ?_ ?_⟩
    · intro i v acc y Y N hx hy y1 y2
      have ey : (if (!decide (v = V.non)) = true then some v else none) = y := by rw [List.getElem?_map, hx] at hy; exact Option.some.inj hy
      refine ⟨rfl, _, rfl, rfl, _, rfl, ite2 (fun e => ?_) (fun e => ?_)⟩
      · rw [if_pos e] at ey
        exact ⟨_, rfl, y1 _ ey.symm⟩
      · rw [if_neg e] at ey
        exact y2 ey.symm
    · have s1 := Same.upd (o := .lst ((os.map fun v => if (!decide (v = V.non)) = true then some v else none).filterMap id)) hD
      obtain ⟨sps, e, q⟩ := slots_ls h2
      exact k _ D s1 ⟨sps, by rw [upd_same, e], pr_imp (fun _ _ z => z.same s1) q⟩

theorem scOI : FnScope ["self"] ["self"] (defScope sOI) := ⟨rfl, rfl, rfl, by decide +kernel, rfl, by decide +kernel, by decide +kernel⟩
theorem slots8 {G : Addr → Prop} {H : Hp} {r : Ck.Rule} : Paired (Slot c G H r) (List.replicate (8 : Int).toNat [V.non]).flatten (List.replicate 8 none) :=
  show Paired (Slot c G H r) [V.non, V.non, V.non, V.non, V.non, V.non, V.non, V.non] [none, none, none, none, none, none, none, none] from
    .cons rfl (.cons rfl (.cons rfl (.cons rfl (.cons rfl (.cons rfl (.cons rfl (.cons rfl .nil)))))))
theorem ok_oi (F : Fun K "__init__" "Store.__init__" sOI f fd) (T : Txt K mg c) (g1 : GFn P w K mg base 3 "first_rule" [] (spFirst c)) : FnOk P w K mg base CX0 4 f fd ["self"] (spOI c) := by
  refine F.ok scOI (fun vs H Q E h => ?_) (fun cdv A outer s H vs Q E hr h => ?_)
  · obtain ⟨G, p, dx, rfl, _⟩ := h
    rfl
  · obtain ⟨G, p, dx, rfl, hp, hg, k⟩ := h
    refine ⟨_, pss_cons (ps_fld (pv 0) (pcall0 g1 hr) rfl) (pss_one (ps_fld (pv 0) (pe_op op_rep (pe_lst (pa_cons pe_non pa_nil)) (pgi T.cSC)) rfl)), ?_⟩
    refine ⟨G, rfl, hg, fun H1 rp s1 n1 hR => ⟨_, rfl, p, c.so, dx, [], rfl, s1 _ _ hp, T.clO, T.nRule, (by show 0 < 1000; decide), ?_⟩⟩
    refine ⟨(by show 1 ≤ sizeLine; decide), fun l hl => ⟨l, _, _, rfl, rfl, upd_same, (by decide), (by decide), (by show 1 * 8 ≤ sizeLine; decide), fun l2 hl2 => ?_⟩⟩
    have hp2 : upd H1 p (.ins c.so dx (putF "rule" (.ref rp) [])) p = some (.ins c.so dx (putF "rule" (.ref rp) [])) := upd_same
    have s2 := Same.upd (o := .lst [V.non]) hl
    have s3 := Same.upd (o := .lst (List.replicate (8 : Int).toNat [V.non]).flatten) hl2
    have hp4 := s3 _ _ (s2 _ _ hp2)
    refine ⟨_, rfl, p, c.so, dx, _, rfl, hp4, T.clO, T.nStreams, fl1, ?_⟩
    have k1 : Kb (· = p) H1 (upd H1 p (.ins c.so dx (putF "rule" (.ref rp) []))) := Kb.upd1
    have k2 := k1.trans (Kb.of (s2.trans s3))
    have k3 : Kb (· = p) _ (upd _ p (.ins c.so dx (putF "streams" (.ref l2) (putF "rule" (.ref rp) [])))) := k2.trans (Kb.upd1)
    have f1 : Free (· = p) G H1 := fun b e => by
      subst e
      exact .inl ⟨_, _, _, s1 _ _ hp, rfl, rfl⟩
    have np : l2 ≠ p := (ne_of_none (s2 _ _ hp2) hl2).symm
    have hl0 : H l2 = none := by
      cases q : H l2 with
      | none => rfl
      | some o =>
        have := s2 _ _ (k1 _ _ (s1 _ _ q) np)
        rw [this] at hl2
        cases hl2
    refine k _ ⟨dx, rp, l2, ?_, hR.kb f1 k3, hg l2 hl0, _, ?_, slots8⟩ ((Kb.of s1).trans k3)
    · rw [upd_same, so_made]
      rfl
    · rw [upd_ne np, upd_same]

theorem scBegin : FnScope ["self"] ["self"] (defScope sBegin) := ⟨rfl, rfl, rfl, by decide +kernel, rfl, by decide +kernel, by decide +kernel⟩
theorem ok_begin (F : Fun K "begin" "Store.begin" sBegin f fd) (T : Txt K mg c) (g1 : GFn P w K mg base 3 "first_rule" [] (spFirst c)) : FnOk P w K mg base CX0 4 f fd ["self"] (spBegin c) := by
  refine F.ok scBegin (fun vs H Q E h => ?_) (fun cdv A outer s H vs Q E hr h => ?_)
  · obtain ⟨G, p, s, rfl, _⟩ := h
    rfl
  · obtain ⟨G, p, s, rfl, ⟨⟨dx, rp0, sl0, hp, hR0, nG, hS0⟩, W, hg⟩, k⟩ := h
    refine ⟨_, pss_cons (ps_fld (pv 0) (pcall0 g1 hr) rfl) (pss_cons (ps_fld (pv 0) (pe_op op_rep (pe_lst (pa_cons pe_non pa_nil)) (pgi T.cSC)) rfl) (pss_one (ps_ret (pe_lst (pa_cons pe_int pa_nil))))), ?_⟩
    refine ⟨G, rfl, hg, fun H1 rp s1 n1 hR => ⟨_, rfl, p, c.so, dx, _, rfl, s1 _ _ hp, T.clO, T.nRule, (by show 2 < 1000; decide), ?_⟩⟩
    refine ⟨(by show 1 ≤ sizeLine; decide), fun l hl => ⟨l, _, _, rfl, rfl, upd_same, (by decide), (by decide), (by show 1 * 8 ≤ sizeLine; decide), fun l2 hl2 => ?_⟩⟩
    have hp2 : upd H1 p (.ins c.so dx (putF "rule" (.ref rp) (soF rp0 sl0))) p = some (.ins c.so dx (soF rp sl0)) := by rw [upd_same, so_put1]
    have s2 := Same.upd (o := .lst [V.non]) hl
    have s3 := Same.upd (o := .lst (List.replicate (8 : Int).toNat [V.non]).flatten) hl2
    have hp4 := s3 _ _ (s2 _ _ hp2)
    refine ⟨_, rfl, p, c.so, dx, _, rfl, hp4, T.clO, T.nStreams, (by show 2 < 1000; decide), ?_⟩
    refine ⟨(by show 1 ≤ sizeLine; decide), fun l3 hl3 => ?_⟩
    have k1 : Kb (· = p) H1 (upd H1 p (.ins c.so dx (putF "rule" (.ref rp) (soF rp0 sl0)))) := Kb.upd1
    have k2 := k1.trans (Kb.of (s2.trans s3))
    have f1 : Free (· = p) G H1 := free_store (s1 _ _ hp)
    have np : l2 ≠ p := (ne_of_none (s2 _ _ hp2) hl2).symm
    have hl0 : H l2 = none := by
      cases q : H l2 with
      | none => rfl
      | some o =>
        have := s2 _ _ (k1 _ _ (s1 _ _ q) np)
        rw [this] at hl2
        cases hl2
    have S := set_streams (ss := List.replicate 8 none) hp4 (hR.kb f1 k2) (hg l2 hl0) ⟨_, upd_same, slots8⟩
    have s5 := Same.upd (o := .lst [V.int 0]) hl3
    have k4 : Kb (· = p) H (upd _ p (.ins c.so dx (putF "streams" (.ref l2) (soF rp sl0)))) := ((Kb.of s1).trans k2).trans (Kb.upd1)
    exact k _ l3 (S.same s5) (k4.trans (Kb.of s5)) (hg l3 (k4.fresh hl3)) upd_same

theorem scFree : FnScope ["self", "number"] ["self"] (defScope sFree) := ⟨rfl, rfl, rfl, by decide +kernel, rfl, by decide +kernel, by decide +kernel⟩
theorem ok_free (F : Fun K "free_numbers" "Store.free_numbers" sFree f fd) (T : Txt K mg c) : FnOk P w K mg base CX0 1 f fd ["self"] (spFree c) := by
  refine F.ok scFree (fun vs H Q E h => ?_) (fun cdv A outer s H vs Q E hr h => ?_)
  · obtain ⟨G, p, s, rfl, _⟩ := h
    rfl
  · obtain ⟨G, p, s, rfl, ⟨dx, rp, sl, hp, hR, nG, os, h1, h2⟩, W, k⟩ := h
    refine ⟨_, pss_one (ps_ret (pe_lc rfl scFree.nd (pi_range1 (by rfl) T.range (pa_cons (pgi T.cSC) pa_nil)) (blkX (own := [("number", 1)]) (by decide +kernel)) (fun _ _ _ _ _ => pg_name (i := 1) scFree.nd rfl (Or.inl rfl))
      (fun _ _ _ _ _ => pts_one (pt_cmpR op_isN (pe_ix (ixK K) (fldK K (pv 0) rfl) (pv 1) (fun _ _ => rfl)) pe_non (nomark _))) (fun _ _ _ _ _ => pv 1))), ?_⟩
    have hlen : os.length = 8 := (pr_len h2).trans W.len
    refine ⟨8, rfl, (by decide), (by decide), fun D hD => lc_rng ((List.range 8).map fun i => if (s.streams.getD i none).isNone = true then some (nv i) else none) rfl (by decide) ?_ ?_⟩
    · intro i acc y Y N hy y1 y2
      have hi : i < 8 := by
        have := (List.getElem?_eq_some_iff.mp hy).1
        rw [List.length_map, List.length_range] at this
        exact this
      have ey : (if (s.streams.getD i none).isNone = true then some (nv i) else none) = y := by
        rw [List.getElem?_map, List.getElem?_range hi] at hy
        exact Option.some.inj hy
      have s1 := Same.upd (o := .lst acc) hD
      obtain ⟨v, hv⟩ : ∃ v, os[i]? = some v := ⟨_, List.getElem?_eq_getElem (by omega)⟩
      obtain ⟨o, ho, hS⟩ := pr_get h2 hv
      have eo : s.streams.getD i none = o := by rw [List.getD_eq_getElem?_getD, ho]; rfl
      rw [eo] at ey
      refine ⟨rfl, _, rfl, p, c.so, dx, _, _, rfl, s1 _ _ hp, T.clO, T.nStreams, so_streams, _, rfl, sl, _, _, _, rfl, rfl, SqL.of' (s1 _ _ h1), at_of (j := i) (by omega) hv, rfl, _, rfl, ite2 (fun e => ?_) (fun e => ?_)⟩
      · have e1 : v = .non := of_decide_eq_true e
        have e2 : o = none := by
          cases o with
          | none => rfl
          | some x =>
            obtain ⟨a, e3, _⟩ := hS
            rw [e1] at e3
            cases e3
        rw [e2] at ey
        refine ⟨_, rfl, ?_⟩
        have := y1 _ ey.symm
        rw [Int.zero_add]
        exact this
      · have e2 : ∃ x, o = some x := by
          cases o with
          | none => exact absurd (decide_eq_true (show v = .non from hS)) e
          | some x => exact ⟨x, rfl⟩
        obtain ⟨x, e2⟩ := e2
        rw [e2] at ey
        exact y2 ey.symm
    · have s1 := Same.upd (o := .lst (((List.range 8).map fun i => if (s.streams.getD i none).isNone = true then some (nv i) else none).filterMap id)) hD
      refine k _ D s1 ?_
      rw [upd_same, fm_if (fun i => (s.streams.getD i none).isNone)]
      unfold CM.freeN nvs
      rw [W.len]

theorem scWith : FnScope ["self", "number", "stream", "streams"] ["self", "number", "stream"] (defScope sWith) := ⟨rfl, rfl, rfl, by decide +kernel, rfl, by decide +kernel, by decide +kernel⟩
theorem ok_with (F : Fun K "streams_with" "Store.streams_with" sWith f fd) (T : Txt K mg c) : FnOk P w K mg base CX0 1 f fd ["self", "number", "stream"] (spWith c) := by
  refine F.ok scWith (fun vs H Q E h => ?_) (fun cdv A outer s H vs Q E hr h => ?_)
  · obtain ⟨G, p, s, k, v, o, rfl, _⟩ := h
    rfl
  · obtain ⟨G, p, s, n, v, o, rfl, ⟨dx, rp, sl, hp, hR, nG, os, h1, h2⟩, W, hn, hS, k⟩ := h
    refine ⟨_, pss_cons (ps_set (i := 3) scWith.nd rfl (Or.inl rfl) (pe_callTy call_list_of (by rfl) T.list PyProof.Rows.boot_list (pa_cons (pe_fld (pv 0) rfl) pa_nil)))
      (pss_cons (ps_asg (pv 2) (pg_sub (pv 3) (pv 1) set_list)) (pss_one (ps_ret (pv 3)))), ?_⟩
    have hlen : os.length = 8 := (pr_len h2).trans W.len
    refine ⟨_, rfl, p, c.so, dx, _, _, rfl, hp, T.clO, T.nStreams, so_streams, sl, _, rfl, .inl (SqL.of' h1), fun l hl => ?_⟩
    have s1 := Same.upd (o := .lst os) hl
    refine ⟨_, rfl, _, rfl, _, rfl, l, _, _, n, rfl, rfl, upd_same, ?_, ?_⟩
    · unfold ixN
      rw [if_pos (by omega), if_pos (by omega), Int.toNat_natCast]
    · have s2 : Same H (upd (upd H l (.lst os)) l (.lst (os.set n v))) := by rw [upd_upd]; exact Same.upd hl
      refine ⟨_, rfl, k _ l s2 hl ⟨_, upd_same, ?_⟩⟩
      exact pr_imp (fun _ _ q => q.kb (B := fun _ => False) free0 (.of s2)) (pr_set hS n h2)

theorem scTaken : FnScope ["self", "number"] ["self", "number"] (defScope sTaken) := ⟨rfl, rfl, rfl, by decide +kernel, rfl, by decide +kernel, by decide +kernel⟩
theorem ok_taken (F : Fun K "is_taken" "Store.is_taken" sTaken f fd) (T : Txt K mg c) : FnOk P w K mg base CX0 1 f fd ["self", "number"] (spTaken c) := by
  refine F.ok scTaken (fun vs H Q E h => ?_) (fun cdv A outer s H vs Q E hr h => ?_)
  · obtain ⟨G, p, s, k, rfl, _⟩ := h
    rfl
  · obtain ⟨G, p, s, n, rfl, ⟨dx, rp, sl, hp, hR, nG, os, h1, h2⟩, W, k⟩ := h
    refine ⟨_, pss_one (ps_ret (pe_and (pe_cmpR op_lt (pv 1) (pgi T.cSC) (nomark _)) (pe_one (pe_cmpR op_notN (pe_ix ix_list (pe_fld (pv 0) rfl) (pv 1) (fun _ _ => rfl)) pe_non (nomark _))))), ?_⟩
    have hlen : os.length = 8 := (pr_len h2).trans W.len
    refine ⟨_, rfl, _, _, rfl, rfl, _, rfl, ite2 (fun e => ?_) (fun e => ?_)⟩
    · have hn : n < 8 := by have := of_decide_eq_true e; omega
      obtain ⟨v, hv⟩ : ∃ v, os[n]? = some v := ⟨_, List.getElem?_eq_getElem (by omega)⟩
      obtain ⟨o, ho, hS⟩ := pr_get h2 hv
      have eo : s.at_ n = o := by unfold Wrcutp.State.at_; rw [List.getD_eq_getElem?_getD, ho]; rfl
      refine ⟨_, rfl, p, c.so, dx, _, _, rfl, hp, T.clO, T.nStreams, so_streams, _, rfl, sl, _, _, _, rfl, rfl, SqL.of' h1, at_of (j := n) rfl hv, rfl, ?_⟩
      rw [eo] at k
      cases o with
      | none =>
        have hS : v = .non := hS
        subst hS
        exact k
      | some x =>
        obtain ⟨a, rfl, _⟩ := hS
        exact k
    · have hn : ¬ n < 8 := fun q => e (decide_eq_true (by omega))
      have eo : s.at_ n = none := by unfold Wrcutp.State.at_; rw [List.getD_eq_getElem?_getD, List.getElem?_eq_none (by rw [W.len]; omega)]; rfl
      rw [eo] at k
      exact k

theorem scGrow : FnScope ["self", "number"] ["self", "number"] (defScope sGrow) := ⟨rfl, rfl, rfl, by decide +kernel, rfl, by decide +kernel, by decide +kernel⟩
theorem ok_grow (F : Fun K "can_grow" "Store.can_grow" sGrow f fd) (T : Txt K mg c) (g1 : MFn P w K mg base 1 c.so "is_taken" ["self", "number"] (spTaken c)) : FnOk P w K mg base CX0 2 f fd ["self", "number"] (spGrow c) := by
  refine F.ok scGrow (fun vs H Q E h => ?_) (fun cdv A outer s H vs Q E hr h => ?_)
  · obtain ⟨G, p, s, k, rfl, _⟩ := h
    rfl
  · obtain ⟨G, p, s, n, rfl, hS, W, k⟩ := h
    obtain ⟨dx, rp, sl, hp, hR, nG, os, h1, h2⟩ := id hS
    refine ⟨_, pss_one (ps_ret (pe_and (pmeth g1 T.clO hr (pv 0) (pa_cons (pv 1) pa_nil)) (pe_one (pe_not (pe_fld (pe_ix ix_list (pe_fld (pv 0) rfl) (pv 1) (fun _ _ => rfl)) rfl))))), ?_⟩
    refine ⟨_, rfl, p, dx, _, rfl, hp, so_no (by decide +kernel) (by decide +kernel), _, rfl, G, p, s, n, rfl, hS, W, _, rfl, ite2 (fun e => ?_) (fun e => ?_)⟩
    · obtain ⟨x, ex⟩ := Option.isSome_iff_exists.mp e
      obtain ⟨a, ha, sx, lp, lt, as, q1, q2, q3, q4, q5⟩ := slot_some h2 (CM.at_some ex)
      refine ⟨_, rfl, p, c.so, dx, _, _, rfl, hp, T.clO, T.nStreams, so_streams, _, rfl, sl, _, _, _, rfl, rfl, SqL.of' h1, at_of (j := n) rfl ha, a, c.st, sx, _, _, rfl, q1, T.clS, T.nClosed, st_closed, _, rfl, ?_⟩
      unfold growB at k
      rw [ex] at k
      exact k
    · have ex : s.at_ n = none := by
        cases q : s.at_ n with
        | none => rfl
        | some x => rw [q] at e; exact absurd rfl e
      unfold growB at k
      rw [ex] at k
      exact k

theorem scSetRule : FnScope ["self", "bits", "least", "most", "numbers"] ["self", "bits", "least", "most", "numbers"] (defScope sSetRule) := ⟨rfl, rfl, rfl, by decide +kernel, rfl, by decide +kernel, by decide +kernel⟩
theorem all_free {s : State} (W : CM.WF s) : (Wrcutp.all s).isEmpty = decide ((CM.freeN s.streams).length = 8) := by
  rw [Bool.eq_iff_iff, CM.all_empty, decide_eq_true_iff]
  have h := CM.freeN_len (l := s.streams)
  rw [W.len] at h
  exact h.symm
theorem free_le {s : State} (W : CM.WF s) : (CM.freeN s.streams).length ≤ 8 := by
  unfold CM.freeN
  have := List.length_filter_le (fun i => (s.streams.getD i none).isNone) (List.range s.streams.length)
  rw [List.length_range, W.len] at this
  rw [W.len]
  exact this
theorem ok_setRule (F : Fun K "set_rule" "Store.set_rule" sSetRule f fd) (T : Txt K mg c) (g1 : GFn P w K mg base 1 "is_rule" ["bits", "least", "most", "numbers"] spIsRule) (g2 : MFn P w K mg base 1 c.so "free_numbers" ["self"] (spFree c))
    (g3 : CFn P w K mg base 1 c.ru "Rule" ["self", "bits", "least", "most", "table"] (spRI c)) : FnOk P w K mg base CX0 3 f fd ["self", "bits", "least", "most", "numbers"] (spSetRule c) := by
  refine F.ok scSetRule (fun vs H Q E h => ?_) (fun cdv A outer s H vs Q E hr h => ?_)
  · obtain ⟨G, p, t, s, b, l, m, tb, rfl, _⟩ := h
    rfl
  · obtain ⟨G, p, t, s, b, l, m, tb, rfl, ⟨hS, W, hg⟩, ht, nt, hw, k⟩ := h
    obtain ⟨dx, rp, sl, hp, hR, nG, hSl⟩ := id hS
    refine ⟨_, pss_cons (ps_if (pt_not (pt_val (pcall g1 (hr.mono (by decide)) (pa_cons (pv 1) (pa_cons (pv 2) (pa_cons (pv 3) (pa_cons (pv 4) pa_nil))))))) (pss_one (ps_ret (pe_lst (pa_cons (pgi T.cN2) pa_nil)))) pss_nil)
      (pss_cons (ps_if (pt_cmpR op_lt (pe_callB call_len_seq (by rfl) T.len PySem.boot_len (pa_cons (pmeth0 g2 T.clO (hr.mono (by decide)) (pv 0)) pa_nil)) (pgi T.cSC) (nomark _)) (pss_one (ps_ret (pe_lst (pa_cons (pgi T.cN6) pa_nil)))) pss_nil)
      (pss_cons (ps_fld (pv 0) (pmake g3 hr (pa_cons (pv 1) (pa_cons (pv 2) (pa_cons (pv 3) (pa_cons (pv 4) pa_nil))))) rfl)
      (pss_one (ps_ret (pe_lst (pa_cons pe_int pa_nil)))))), ?_⟩
    refine ⟨_, rfl, _, rfl, _, rfl, _, rfl, t, _, b, l, m, rfl, ht, _, rfl, ?_⟩
    rw [nvs_len]
    refine ite2 (fun e => ?_) (fun e => ?_)
    · have e1 : isRule tb.length b l m = false := by simpa using e
      have e2 : ¬ (tb.length = 256 ∧ b ≤ 16 ∧ 1 ≤ l ∧ l ≤ m ∧ m ≤ 256) := of_decide_eq_false e1
      refine ⟨(by show 1 ≤ sizeLine; decide), fun l2 hl2 => ?_⟩
      refine refused hS hg (CM.table_no ?_) k (Same.refl H) hl2
      omega
    · have e1 : isRule tb.length b l m = true := by simpa using e
      obtain ⟨r1, r2, r3, r4, r5⟩ := of_decide_eq_true e1
      have est := CM.table_yes (s := s) r1 hw r2 r3 r4 r5
      rw [all_free W] at est
      refine ⟨_, rfl, p, dx, _, rfl, hp, so_no (by decide +kernel) (by decide +kernel), G, p, s, rfl, hS, W, fun H1 l1 s1 hl1 => ⟨l1, _, rfl, .inl (SqL.of' hl1), _, _, rfl, rfl, _, rfl, ?_⟩⟩
      rw [nvs_len]
      refine ite2 (fun e => ?_) (fun e => ?_)
      · have e2 : (CM.freeN s.streams).length < 8 := by have := of_decide_eq_true e; omega
        rw [if_pos (decide_eq_false (by omega))] at est
        exact ⟨(by show 1 ≤ sizeLine; decide), fun l2 hl2 => refused hS hg est k s1 hl2⟩
      · have e2 : (CM.freeN s.streams).length = 8 := by
          have h1 := free_le W
          have h2 : ¬ (((CM.freeN s.streams).length : Int) < 8) := fun q => e (decide_eq_true q)
          omega
        rw [if_neg (by rw [decide_eq_true e2]; simp)] at est
        refine ⟨_, rfl, _, rfl, _, rfl, _, rfl, ?_⟩
        intro x dx2 nx ndx nex
        refine ⟨x, dx2, t, ⟨tb, b, l, m⟩, rfl, upd_same, r2, fun H2 h1 h2 => ⟨rfl, ?_⟩⟩
        have s2 := s1.trans (made_same nx ndx h2)
        refine ⟨_, rfl, p, c.so, dx, _, rfl, s2 _ _ hp, T.clO, T.nRule, (by show 2 < 1000; decide), (by show 1 ≤ sizeLine; decide), fun l2 hl2 => ?_⟩
        have f1 : Free (· = p) G H2 := free_store (s2 _ _ hp)
        have k1 : Kb (· = p) H2 (upd H2 p (.ins c.so dx (putF "rule" (.ref x) (soF rp sl)))) := Kb.upd1
        have hR2 : RuleAt c G H2 x ⟨tb, b, l, m⟩ := ⟨dx2, t, h1, s2 _ _ ht, nt⟩
        have hfree : ∀ o ∈ s.streams, o = none := (CM.freeN_len (l := s.streams)).mp (by rw [W.len]; exact e2)
        have hSl2 : SlAt c G H2 (⟨tb, b, l, m⟩ : Ck.Rule) sl s.streams := by
          obtain ⟨os, q1, q2⟩ := hSl
          refine ⟨os, s2 _ _ q1, ?_⟩
          have all : ∀ {os : List V} {ss : List (Option Ck.Stream)}, Paired (Slot c G H s.rule) os ss → (∀ o ∈ ss, o = none) → Paired (Slot c G H2 (⟨tb, b, l, m⟩ : Ck.Rule)) os ss := by
            intro os ss q
            induction q with
            | nil => intro _; exact .nil
            | @cons v o os ss h t ih =>
              intro hn
              have e := hn o (List.mem_cons_self ..)
              subst e
              exact .cons h (ih fun o ho => hn o (List.mem_cons_of_mem _ ho))
          exact all q2 hfree
        have S2 : StoreAt c G (upd H2 p (.ins c.so dx (putF "rule" (.ref x) (soF rp sl)))) p ⟨⟨tb, b, l, m⟩, s.streams⟩ :=
          ⟨dx, x, sl, by rw [upd_same, so_put1], hR2.kb f1 k1, nG, hSl2.kb nG f1 k1⟩
        have s5 := Same.upd (o := .lst [V.int 0]) hl2
        refine k _ l2 ?_ (((Kb.of s2).trans k1).trans (Kb.of s5)) (hg l2 (((Kb.of s2).trans k1).fresh hl2)) ?_
        · rw [est]
          exact S2.same s5
        · rw [est]
          exact upd_same

theorem scStart : FnScope ["self", "free"] ["self"] (defScope sStart) := ⟨rfl, rfl, rfl, by decide +kernel, rfl, by decide +kernel, by decide +kernel⟩
theorem ok_start (F : Fun K "start_stream" "Store.start_stream" sStart f fd) (T : Txt K mg c) (g1 : MFn P w K mg base 1 c.so "free_numbers" ["self"] (spFree c)) (g2 : MFn P w K mg base 1 c.so "streams_with" ["self", "number", "stream"] (spWith c))
    (g3 : GFn P w K mg base 3 "new_stream" [] (spNewS c)) : FnOk P w K mg base CX0 4 f fd ["self"] (spStart c) := by
  refine F.ok scStart (fun vs H Q E h => ?_) (fun cdv A outer s H vs Q E hr h => ?_)
  · obtain ⟨G, p, s, rfl, _⟩ := h
    rfl
  · obtain ⟨G, p, s, rfl, ⟨hS, W, hg⟩, k⟩ := h
    obtain ⟨dx, rp, sl, hp, hR, nG, hSl⟩ := id hS
    refine ⟨_, pss_cons (ps_set (i := 1) scStart.nd rfl (Or.inl rfl) (pmeth0 g1 T.clO (hr.mono (by decide)) (pv 0)))
      (pss_cons (ps_if (pt_cmpR op_eq (pe_callB call_len_seq (by rfl) T.len PySem.boot_len (pa_cons (pv 1) pa_nil)) pe_int (nomark _)) (pss_one (ps_ret (pe_lst (pa_cons (pgi T.cN4) pa_nil)))) pss_nil)
      (pss_cons (ps_fld (pv 0) (pmeth g2 T.clO (hr.mono (by decide)) (pv 0) (pa_cons (pe_ix ix_list (pv 1) pe_int (fun _ _ => rfl)) (pa_cons (pcall0 g3 hr) pa_nil))) rfl)
      (pss_one (ps_ret (pe_lst (pa_cons pe_int (pa_cons (pe_ix ix_list (pv 1) pe_int (fun _ _ => rfl)) pa_nil))))))), ?_⟩
    refine ⟨_, rfl, p, dx, _, rfl, hp, so_no (by decide +kernel) (by decide +kernel), G, p, s, rfl, hS, W, fun H1 l1 s1 hl1 => ?_⟩
    refine ⟨_, rfl, l1, _, rfl, .inl (SqL.of' hl1), rfl, _, rfl, ite2 (fun e => ?_) (fun e => ?_)⟩
    · have e1 : V.int ((nvs (CM.freeN s.streams)).length : Int) = V.int 0 := of_decide_eq_true e
      have e2 : (CM.freeN s.streams) = [] := by
        rw [nvs_len] at e1
        injection e1 with e1
        exact List.length_eq_zero_iff.mp (by omega)
      exact ⟨(by show 1 ≤ sizeLine; decide), fun l2 hl2 => refused hS hg (CM.open_no (by rw [e2]; rfl)) k s1 hl2⟩
    · cases e2 : CM.freeN s.streams with
      | nil => exact absurd (decide_eq_true (by rw [e2]; rfl)) e
      | cons n rest =>
        have hh : (CM.freeN s.streams).head? = some n := by rw [e2]; rfl
        obtain ⟨q1, q2⟩ := CM.find_lt hh
        have hn : n < 8 := by rw [← W.len]; exact q1
        have est := CM.open_yes hh
        have hget : (nvs (CM.freeN s.streams))[0]? = some (nv n) := nvs_get (by rw [e2]; rfl)
        refine ⟨_, rfl, p, dx, _, rfl, s1 _ _ hp, so_no (by decide +kernel) (by decide +kernel), _, rfl, l1, _, _, _, rfl, rfl, SqL.of' hl1, at_of (j := 0) rfl hget, G, rfl, hg.same s1, fun H2 a s2 hA => ?_⟩
        have s12 := s1.trans s2
        refine ⟨G, p, s, n, _, some ⟨[], false⟩, rfl, hS.same s12, W, hn, ⟨a, rfl, hA⟩, fun H3 l3 s3 n3 hSl3 => ?_⟩
        have s13 := s12.trans s3
        refine ⟨_, rfl, p, c.so, dx, _, rfl, s13 _ _ hp, T.clO, T.nStreams, (by show 2 < 1000; decide), ?_⟩
        have S := set_streams (s13 _ _ hp) (hR.same s13) (hg l3 (s12.free n3)) hSl3
        have np1 : l1 ≠ p := ne_of hl1 (s1 _ _ hp) (by intro q; cases q)
        refine ⟨_, rfl, l1, _, _, _, rfl, rfl, SqL.of' ?_, at_of (j := 0) rfl hget, (by show 2 ≤ sizeLine; decide), fun l4 hl4 => ?_⟩
        · rw [upd_ne np1]
          exact s3 _ _ (s2 _ _ hl1)
        have s5 := Same.upd (o := .lst [V.int 0, nv n]) hl4
        have k4 : Kb (· = p) H (upd H3 p (.ins c.so dx (putF "streams" (.ref l3) (soF rp sl)))) := (Kb.of s13).trans (Kb.upd1)
        refine k _ l4 ?_ (k4.trans (Kb.of s5)) (hg l4 (k4.fresh hl4)) ?_
        · rw [est]
          exact S.same s5
        · rw [est]
          exact upd_same
end
end CP
end
section
set_option Elab.async false
set_option linter.all false
set_option maxRecDepth 100000
set_option maxHeartbeats 2000000
namespace CP
open PySem PySem.Spec PyProof.Rows L2
open Ck (Bytes)
open Wrcutp (State Call)
section
variable {P : Program} {w : World} {K : PySem.W.Frag} {mg : Str → Option Value} {base : Heap} {c : Cs} {f : Addr} {fd : FuncData}

theorem grow_true {s : State} {k : Nat} (h : growB s k = true) : ∃ x, s.at_ k = some x ∧ x.closed = false := by
  unfold growB at h
  cases e : s.at_ k with
  | none => rw [e] at h; cases h
  | some x =>
    rw [e] at h
    exact ⟨x, rfl, by simpa using h⟩
theorem grow_false {s : State} {k : Nat} (h : growB s k = false) : s.at_ k = none ∨ ∃ x, s.at_ k = some x ∧ x.closed = true := by
  unfold growB at h
  cases e : s.at_ k with
  | none => exact .inl rfl
  | some x =>
    rw [e] at h
    exact .inr ⟨x, rfl, by simpa using h⟩
theorem bnot {b : Bool} (h : ¬ (!b) = true) : b = true := by
  cases b with
  | true => rfl
  | false => exact absurd rfl h
theorem taken_none {s : State} {k : Nat} (h : ¬ (s.at_ k).isSome = true) : s.at_ k = none := by
  cases e : s.at_ k with
  | none => rfl
  | some x => rw [e] at h; exact absurd rfl h

theorem scFeed : FnScope ["self", "number", "some", "stream", "behind"] ["self", "number", "some"] (defScope sFeed) := ⟨rfl, rfl, rfl, by decide +kernel, rfl, by decide +kernel, by decide +kernel⟩
theorem set_abs {r : Ck.Rule} {x : Ck.Stream} {b : Bytes} (hc : x.closed = false) : (⟨(absS r x).ps ++ (Ck.cut r ((absS r x).tl ++ b)).pieces, (Ck.cut r ((absS r x).tl ++ b)).tail, false⟩ : AS) = absS r ⟨x.bytes ++ b, false⟩ := by
  obtain ⟨xb, xc⟩ := x
  dsimp only at hc
  subst hc
  obtain ⟨e1, e2⟩ := CM.open_feed r xb b
  unfold absS
  rw [e1, e2]
theorem ok_feed (F : Fun K "feed" "Store.feed" sFeed f fd) (T : Txt K mg c) (g1 : MFn P w K mg base 2 c.so "can_grow" ["self", "number"] (spGrow c)) (g2 : GFn P w K mg base 1 "are_bytes" ["some"] spAreB)
    (g3 : GFn P w K mg base 1 "count_bytes" ["stream"] (spCount c)) (g4 : MFn P w K mg base 1 c.so "streams_with" ["self", "number", "stream"] (spWith c)) (g5 : GFn P w K mg base 3 "fed_stream" ["stream", "rule", "some"] (spFed c))
    (g6 : GFn P w K mg base 3 "has_room" ["streams"] (spHasRoom c)) (g7 : GFn P w K mg base 1 "without_free" ["streams"] (spWithout c)) : FnOk P w K mg base CX0 4 f fd ["self", "number", "some"] (spFeed c) := by
  refine F.ok scFeed (fun vs H Q E h => ?_) (fun cdv A outer s H vs Q E hr h => ?_)
  · obtain ⟨G, p, t, s, n, b, rfl, _⟩ := h
    rfl
  · obtain ⟨G, p, t, s, n, b, rfl, ⟨hS, W, hg⟩, ht, hb, k⟩ := h
    obtain ⟨dx, rp, sl, hp, hR, nG, os, h1, h2⟩ := id hS
    refine ⟨_, pss_cons (ps_if (PW.pt (pw_or (pt_not (pt_val (pmeth g1 T.clO (hr.mono (by decide)) (pv 0) (pa_cons (pv 1) pa_nil)))) (pw_or1 (pt_not (pt_val (pcall g2 (hr.mono (by decide)) (pa_cons (pv 2) pa_nil)))))))
        (pss_one (ps_ret (pe_lst (pa_cons (pgi T.cN1) pa_nil)))) pss_nil)
      (pss_cons (ps_set (i := 3) scFeed.nd rfl (Or.inl rfl) (pe_ix ix_list (pe_fld (pv 0) rfl) (pv 1) (fun _ _ => rfl)))
      (pss_cons (ps_if (pt_cmpR op_gt (pe_op op_add (pcall g3 (hr.mono (by decide)) (pa_cons (pv 3) pa_nil)) (pe_callB call_len_seq (by rfl) T.len PySem.boot_len (pa_cons (pv 2) pa_nil))) (pgi T.cBY) (nomark _))
        (pss_one (ps_ret (pe_lst (pa_cons (pgi T.cN3) pa_nil)))) pss_nil)
      (pss_cons (ps_set (i := 4) scFeed.nd rfl (Or.inl rfl) (pmeth g4 T.clO (hr.mono (by decide)) (pv 0) (pa_cons (pv 1) (pa_cons (pcall g5 hr (pa_cons (pv 3) (pa_cons (pe_fld (pv 0) rfl) (pa_cons (pv 2) pa_nil)))) pa_nil))))
      (pss_cons (ps_if (pt_not (pt_val (pcall g6 hr (pa_cons (pcall g7 (hr.mono (by decide)) (pa_cons (pv 4) pa_nil)) pa_nil)))) (pss_one (ps_ret (pe_lst (pa_cons (pgi T.cN5) pa_nil)))) pss_nil)
      (pss_cons (ps_fld (pv 0) (pv 4) rfl)
      (pss_one (ps_ret (pe_lst (pa_cons pe_int pa_nil))))))))), ?_⟩
    refine ⟨_, rfl, p, dx, _, rfl, hp, so_no (by decide +kernel) (by decide +kernel), _, rfl, G, p, s, n, rfl, hS, W, _, rfl, ite2 (fun e => ?_) (fun e => ?_)⟩
    · have e1 : growB s n = false := by simpa using e
      refine iteT ⟨(by show 1 ≤ sizeLine; decide), fun l hl => ?_⟩
      rcases grow_false e1 with q | ⟨x, q, qc⟩
      · exact refused hS hg (CM.feed_none q) k (Same.refl H) hl
      · exact refused hS hg (CM.feed_no q (.inl qc)) k (Same.refl H) hl
    have e1 : growB s n = true := by simpa using e
    obtain ⟨x, ex, hc⟩ := grow_true e1
    refine ⟨_, rfl, t, b, rfl, ht, by omega, fun H1 s1 => ⟨_, rfl, ite2 (fun e => ?_) (fun e => ?_)⟩⟩
    · have e2 : b.all Wrcutp.isByte = false := by simpa using e
      exact ⟨(by show 1 ≤ sizeLine; decide), fun l hl => refused hS hg (CM.feed_no ex (.inr e2)) k s1 hl⟩
    have e2 : b.all Wrcutp.isByte = true := by simpa using e
    obtain ⟨a, ha, hA⟩ := slot_some h2 (CM.at_some ex)
    obtain ⟨b1, b2, b3, b4⟩ := st_bounds W ex
    have hn := CM.at_lt W ex
    have etot : Ck.total (absS s.rule x).ps + (absS s.rule x).tl.length = x.bytes.length := CM.st_total s.rule x
    refine ⟨_, rfl, p, c.so, dx, _, _, rfl, s1 _ _ hp, T.clO, T.nStreams, so_streams, _, rfl, sl, _, _, _, rfl, rfl, SqL.of' (s1 _ _ h1), at_of (j := n) rfl ha, ?_⟩
    refine ⟨_, rfl, G, a, absS s.rule x, rfl, hA.same s1, by omega, fun H2 s2 => ?_⟩
    have s12 := s1.trans s2
    rw [etot]
    refine ⟨_, rfl, t, _, rfl, .inl (SqL.of' (s12 _ _ ht)), _, _, rfl, rfl, _, _, rfl, rfl, _, rfl, ?_⟩
    rw [nvs_len]
    refine ite2 (fun e => ?_) (fun e => ?_)
    · have e3 : 2048 < x.bytes.length + b.length := by have := of_decide_eq_true e; omega
      exact ⟨(by show 1 ≤ sizeLine; decide), fun l hl => refused hS hg (CM.feed_long ex hc e2 e3) k s12 hl⟩
    have e3 : ¬ 2048 < x.bytes.length + b.length := fun q => e (decide_eq_true (by omega))
    have est := CM.feed_room ex hc e2 e3
    have hbb : ∀ z ∈ b, z < 256 := fun z hz => of_decide_eq_true (List.all_eq_true.mp e2 z hz)
    refine ⟨_, rfl, p, dx, _, rfl, s12 _ _ hp, so_no (by decide +kernel) (by decide +kernel), _, rfl, _, rfl, _, rfl, p, c.so, dx, _, _, rfl, s12 _ _ hp, T.clO, T.nRule, so_rule, _, rfl,
      G, a, rp, t, absS s.rule x, s.rule, b, rfl, hg.same s12, hA.same s12, hR.same s12, W.rule.len, s12 _ _ ht, by omega, by omega, ?_, fun H3 q s3 hq => ?_⟩
    · intro z hz
      rcases List.mem_append.mp hz with hz | hz
      · exact b4 z (CM.st_tail_mem s.rule x hz)
      · exact hbb z hz
    have s13 := s12.trans s3
    rw [set_abs hc] at hq
    refine ⟨G, p, s, n, _, some ⟨x.bytes ++ b, false⟩, rfl, hS.same s13, W, hn, ⟨q, rfl, hq⟩, fun H4 lb s4 n4 hSb => ?_⟩
    have s14 := s13.trans s4
    generalize hs' : s.set n (some ⟨x.bytes ++ b, false⟩) = s' at est
    have hst' : s'.streams = s.streams.set n (some ⟨x.bytes ++ b, false⟩) := by rw [← hs']; rfl
    have hru' : s'.rule = s.rule := by rw [← hs']; rfl
    have hlen' : s'.streams.length = 8 := by rw [hst', List.length_set]; exact W.len
    have hby' : ∀ y, some y ∈ s'.streams → y.bytes.length ≤ 2048 := fun y hy => by
      rw [hst'] at hy
      rcases List.mem_or_eq_of_mem_set hy with hy | hy
      · exact (W.st y hy).len
      · cases hy
        show (x.bytes ++ b).length ≤ 2048
        rw [List.length_append]
        omega
    rw [← hst', ← hru'] at hSb
    refine ⟨_, rfl, G, lb, s'.rule, s'.streams, rfl, hSb, hlen', fun H5 l5 s5 hL5 => ⟨G, l5, _, rfl, hL5, few_abs hlen' hby', fun H6 s6 => ⟨_, rfl, ?_⟩⟩⟩
    have s16 := (s14.trans s5).trans s6
    rw [room_kept, places_spots]
    refine ite2 (fun e => ?_) (fun e => ?_)
    · have e4 : ¬ (Wrcutp.kept s' ≤ 4096 ∧ Wrcutp.spots s' ≤ 256) := fun q => by
        rw [decide_eq_true q] at e
        cases e
      rw [if_pos (by omega)] at est
      exact ⟨(by show 1 ≤ sizeLine; decide), fun l hl => refused hS hg est k s16 hl⟩
    · have e4 : Wrcutp.kept s' ≤ 4096 ∧ Wrcutp.spots s' ≤ 256 := by simpa using e
      rw [if_neg (by omega)] at est
      refine ⟨_, rfl, _, rfl, p, c.so, dx, _, rfl, s16 _ _ hp, T.clO, T.nStreams, (by show 2 < 1000; decide), (by show 1 ≤ sizeLine; decide), fun l hl => ?_⟩
      have S := set_streams (r := s'.rule) (s16 _ _ hp) (by rw [hru']; exact hR.same s16) (hg lb (s13.free n4)) (hSb.same (s5.trans s6))
      have s7 := Same.upd (o := .lst [V.int 0]) hl
      have k4 : Kb (· = p) H (upd H6 p (.ins c.so dx (putF "streams" (.ref lb) (soF rp sl)))) := (Kb.of s16).trans (Kb.upd1)
      refine k _ l ?_ (k4.trans (Kb.of s7)) (hg l (k4.fresh hl)) ?_
      · rw [est]
        exact S.same s7
      · rw [est]
        exact upd_same

theorem scClose : FnScope ["self", "number"] ["self", "number"] (defScope sClose) := ⟨rfl, rfl, rfl, by decide +kernel, rfl, by decide +kernel, by decide +kernel⟩
theorem close_abs {r : Ck.Rule} {x : Ck.Stream} (hc : x.closed = false) : (⟨if (absS r x).tl.length = 0 then (absS r x).ps else (absS r x).ps ++ [(absS r x).tl], [], true⟩ : AS) = absS r ⟨x.bytes, true⟩ := by
  obtain ⟨xb, xc⟩ := x
  dsimp only at hc
  subst hc
  obtain ⟨e1, e2⟩ := CM.open_close r xb
  unfold absS
  rw [e1, e2]
theorem ok_close (F : Fun K "close" "Store.close" sClose f fd) (T : Txt K mg c) (g1 : MFn P w K mg base 2 c.so "can_grow" ["self", "number"] (spGrow c)) (g4 : MFn P w K mg base 1 c.so "streams_with" ["self", "number", "stream"] (spWith c))
    (g5 : GFn P w K mg base 3 "closed_stream" ["stream"] (spClosed c)) : FnOk P w K mg base CX0 4 f fd ["self", "number"] (spK c .close) := by
  refine F.ok scClose (fun vs H Q E h => ?_) (fun cdv A outer s H vs Q E hr h => ?_)
  · obtain ⟨G, p, s, n, rfl, _⟩ := h
    rfl
  · obtain ⟨G, p, s, n, rfl, ⟨hS, W, hg⟩, k⟩ := h
    obtain ⟨dx, rp, sl, hp, hR, nG, os, h1, h2⟩ := id hS
    refine ⟨_, pss_cons (ps_if (pt_not (pt_val (pmeth g1 T.clO (hr.mono (by decide)) (pv 0) (pa_cons (pv 1) pa_nil)))) (pss_one (ps_ret (pe_lst (pa_cons (pgi T.cN1) pa_nil)))) pss_nil)
      (pss_cons (ps_fld (pv 0) (pmeth g4 T.clO (hr.mono (by decide)) (pv 0) (pa_cons (pv 1) (pa_cons (pcall g5 hr (pa_cons (pe_ix ix_list (pe_fld (pv 0) rfl) (pv 1) (fun _ _ => rfl)) pa_nil)) pa_nil))) rfl)
      (pss_one (ps_ret (pe_lst (pa_cons pe_int pa_nil))))), ?_⟩
    refine ⟨_, rfl, p, dx, _, rfl, hp, so_no (by decide +kernel) (by decide +kernel), _, rfl, G, p, s, n, rfl, hS, W, _, rfl, ite2 (fun e => ?_) (fun e => ?_)⟩
    · have e1 : growB s n = false := by simpa using e
      refine ⟨(by show 1 ≤ sizeLine; decide), fun l hl => ?_⟩
      rcases grow_false e1 with q | ⟨x, q, qc⟩
      · exact refused hS hg (CM.close_none q) k (Same.refl H) hl
      · exact refused hS hg (CM.close_no q qc) k (Same.refl H) hl
    have e1 : growB s n = true := by simpa using e
    obtain ⟨x, ex, hc⟩ := grow_true e1
    have est := CM.close_yes ex hc
    obtain ⟨a, ha, hA⟩ := slot_some h2 (CM.at_some ex)
    obtain ⟨b1, b2, b3, b4⟩ := st_bounds W ex
    have hn := CM.at_lt W ex
    refine ⟨_, rfl, p, dx, _, rfl, hp, so_no (by decide +kernel) (by decide +kernel), _, rfl, _, rfl, p, c.so, dx, _, _, rfl, hp, T.clO, T.nStreams, so_streams, _, rfl, sl, _, _, _, rfl, rfl, SqL.of' h1, at_of (j := n) rfl ha,
      G, a, absS s.rule x, rfl, hg, hA, by omega, fun H3 q s3 hq => ?_⟩
    rw [close_abs hc] at hq
    refine ⟨G, p, s, n, _, some ⟨x.bytes, true⟩, rfl, hS.same s3, W, hn, ⟨q, rfl, hq⟩, fun H4 lb s4 n4 hSb => ?_⟩
    have s14 := s3.trans s4
    refine ⟨_, rfl, p, c.so, dx, _, rfl, s14 _ _ hp, T.clO, T.nStreams, (by show 2 < 1000; decide), (by show 1 ≤ sizeLine; decide), fun l hl => ?_⟩
    have S := set_streams (s14 _ _ hp) (hR.same s14) (hg lb (s3.free n4)) hSb
    have s7 := Same.upd (o := .lst [V.int 0]) hl
    have k4 : Kb (· = p) H (upd H4 p (.ins c.so dx (putF "streams" (.ref lb) (soF rp sl)))) := (Kb.of s14).trans (Kb.upd1)
    refine k _ l ?_ (k4.trans (Kb.of s7)) (hg l (k4.fresh hl)) ?_
    · rw [est]
      exact S.same s7
    · rw [est]
      exact upd_same

theorem scDrop : FnScope ["self", "number"] ["self", "number"] (defScope sDrop) := ⟨rfl, rfl, rfl, by decide +kernel, rfl, by decide +kernel, by decide +kernel⟩
theorem ok_drop (F : Fun K "drop" "Store.drop" sDrop f fd) (T : Txt K mg c) (g1 : MFn P w K mg base 1 c.so "is_taken" ["self", "number"] (spTaken c)) (g4 : MFn P w K mg base 1 c.so "streams_with" ["self", "number", "stream"] (spWith c)) :
    FnOk P w K mg base CX0 2 f fd ["self", "number"] (spK c .drop) := by
  refine F.ok scDrop (fun vs H Q E h => ?_) (fun cdv A outer s H vs Q E hr h => ?_)
  · obtain ⟨G, p, s, n, rfl, _⟩ := h
    rfl
  · obtain ⟨G, p, s, n, rfl, ⟨hS, W, hg⟩, k⟩ := h
    obtain ⟨dx, rp, sl, hp, hR, nG, os, h1, h2⟩ := id hS
    refine ⟨_, pss_cons (ps_if (pt_not (pt_val (pmeth g1 T.clO hr (pv 0) (pa_cons (pv 1) pa_nil)))) (pss_one (ps_ret (pe_lst (pa_cons (pgi T.cN1) pa_nil)))) pss_nil)
      (pss_cons (ps_fld (pv 0) (pmeth g4 T.clO hr (pv 0) (pa_cons (pv 1) (pa_cons pe_non pa_nil))) rfl)
      (pss_one (ps_ret (pe_lst (pa_cons pe_int pa_nil))))), ?_⟩
    refine ⟨_, rfl, p, dx, _, rfl, hp, so_no (by decide +kernel) (by decide +kernel), _, rfl, G, p, s, n, rfl, hS, W, _, rfl, ite2 (fun e => ?_) (fun e => ?_)⟩
    · have e1 := taken_none (s := s) (k := n) (by simpa using e)
      exact ⟨(by show 1 ≤ sizeLine; decide), fun l hl => refused hS hg (CM.drop_none e1) k (Same.refl H) hl⟩
    have e1 : (s.at_ n).isSome = true := bnot e
    obtain ⟨x, ex⟩ := Option.isSome_iff_exists.mp e1
    have est := CM.drop_yes ex
    have hn := CM.at_lt W ex
    refine ⟨_, rfl, p, dx, _, rfl, hp, so_no (by decide +kernel) (by decide +kernel), _, rfl, G, p, s, n, _, none, rfl, hS, W, hn, rfl, fun H4 lb s4 n4 hSb => ?_⟩
    refine ⟨_, rfl, p, c.so, dx, _, rfl, s4 _ _ hp, T.clO, T.nStreams, (by show 2 < 1000; decide), (by show 1 ≤ sizeLine; decide), fun l hl => ?_⟩
    have S := set_streams (s4 _ _ hp) (hR.same s4) (hg lb n4) hSb
    have s7 := Same.upd (o := .lst [V.int 0]) hl
    have k4 : Kb (· = p) H (upd H4 p (.ins c.so dx (putF "streams" (.ref lb) (soF rp sl)))) := (Kb.of s4).trans (Kb.upd1)
    refine k _ l ?_ (k4.trans (Kb.of s7)) (hg l (k4.fresh hl)) ?_
    · rw [est]
      exact S.same s7
    · rw [est]
      exact upd_same

theorem scSize : FnScope ["self", "number", "stream"] ["self", "number"] (defScope sSize) := ⟨rfl, rfl, rfl, by decide +kernel, rfl, by decide +kernel, by decide +kernel⟩
theorem ok_size (F : Fun K "size" "Store.size" sSize f fd) (T : Txt K mg c) (g1 : MFn P w K mg base 1 c.so "is_taken" ["self", "number"] (spTaken c)) (g3 : GFn P w K mg base 1 "count_bytes" ["stream"] (spCount c)) :
    FnOk P w K mg base CX0 2 f fd ["self", "number"] (spK c .size) := by
  refine F.ok scSize (fun vs H Q E h => ?_) (fun cdv A outer s H vs Q E hr h => ?_)
  · obtain ⟨G, p, s, n, rfl, _⟩ := h
    rfl
  · obtain ⟨G, p, s, n, rfl, ⟨hS, W, hg⟩, k⟩ := h
    obtain ⟨dx, rp, sl, hp, hR, nG, os, h1, h2⟩ := id hS
    refine ⟨_, pss_cons (ps_if (pt_not (pt_val (pmeth g1 T.clO hr (pv 0) (pa_cons (pv 1) pa_nil)))) (pss_one (ps_ret (pe_lst (pa_cons (pgi T.cN1) pa_nil)))) pss_nil)
      (pss_cons (ps_set (i := 2) scSize.nd rfl (Or.inl rfl) (pe_ix ix_list (pe_fld (pv 0) rfl) (pv 1) (fun _ _ => rfl)))
      (pss_one (ps_ret (pe_lst (pa_cons pe_int (pa_cons (pcall g3 hr (pa_cons (pv 2) pa_nil)) (pa_cons (pe_ifExp (pt_val (pe_fld (pv 2) rfl)) pe_int pe_int) pa_nil))))))), ?_⟩
    refine ⟨_, rfl, p, dx, _, rfl, hp, so_no (by decide +kernel) (by decide +kernel), _, rfl, G, p, s, n, rfl, hS, W, _, rfl, ite2 (fun e => ?_) (fun e => ?_)⟩
    · have e1 := taken_none (s := s) (k := n) (by simpa using e)
      exact ⟨(by show 1 ≤ sizeLine; decide), fun l hl => refused hS hg (CM.size_none e1) k (Same.refl H) hl⟩
    have e1 : (s.at_ n).isSome = true := bnot e
    obtain ⟨x, ex⟩ := Option.isSome_iff_exists.mp e1
    have est := CM.size_yes ex
    obtain ⟨a, ha, hA⟩ := slot_some h2 (CM.at_some ex)
    obtain ⟨b1, b2, b3, b4⟩ := st_bounds W ex
    have etot : Ck.total (absS s.rule x).ps + (absS s.rule x).tl.length = x.bytes.length := CM.st_total s.rule x
    refine ⟨_, rfl, p, c.so, dx, _, _, rfl, hp, T.clO, T.nStreams, so_streams, _, rfl, sl, _, _, _, rfl, rfl, SqL.of' h1, at_of (j := n) rfl ha, ?_⟩
    refine ⟨_, rfl, G, a, absS s.rule x, rfl, hA, by omega, fun H2 s2 => ?_⟩
    obtain ⟨sx, lp, lt, as, q1, q2, q3, q4, q5⟩ := hA.same s2
    rw [etot]
    refine ⟨_, rfl, a, c.st, sx, _, _, rfl, q1, T.clS, T.nClosed, st_closed, _, rfl, ite2 (fun e => ?_) (fun e => ?_)⟩
    · have e2 : x.closed = true := e
      rw [if_pos e2] at est
      exact ⟨(by show 3 ≤ sizeLine; decide), fun l hl => same_ans hS hg est k s2 hl rfl⟩
    · have e2 : ¬ x.closed = true := e
      rw [if_neg e2] at est
      exact ⟨(by show 3 ≤ sizeLine; decide), fun l hl => same_ans hS hg est k s2 hl rfl⟩

theorem nums_eq (l : List Nat) : ansL (.nums l) = V.int 0 :: nvs l := by
  show V.int 0 :: (List.map WrcutpNeutral.n l).map V.int = V.int 0 :: nvs l
  rw [List.map_map]
  rfl
theorem scBytesFrom : FnScope ["self", "number", "start", "cap"] ["self", "number", "start", "cap"] (defScope sBytesFrom) := ⟨rfl, rfl, rfl, by decide +kernel, rfl, by decide +kernel, by decide +kernel⟩
theorem cut_any (xs : List V) (a n : Nat) : cutV xs (some (a : Int)) (some ((a : Int) + (n : Int))) = (xs.drop a).take n := by
  have e1 : HT.sIx xs.length 0 (some (a : Int)) = min a xs.length := HT.sIx_nat _ _ _
  have e2 : HT.sIx xs.length xs.length (some ((a : Int) + (n : Int))) = min (a + n) xs.length := by
    have : ((a : Int) + (n : Int)) = ((a + n : Nat) : Int) := by omega
    rw [this]
    exact HT.sIx_nat _ _ _
  unfold cutV
  rw [e1, e2]
  by_cases h : a ≤ xs.length
  · rw [Nat.min_eq_left h]
    by_cases h2 : a + n ≤ xs.length
    · rw [Nat.min_eq_left h2, Nat.add_sub_cancel_left]
    · rw [Nat.min_eq_right (by omega)]
      rw [List.take_of_length_le (by rw [List.length_drop]; omega), List.take_of_length_le (by rw [List.length_drop]; omega)]
  · have m1 : min a xs.length = xs.length := Nat.min_eq_right (by omega)
    rw [m1, List.drop_eq_nil_of_le (Nat.le_refl _), List.drop_eq_nil_of_le (by omega)]
    simp
theorem cut_nvs (l : List Nat) (a n : Nat) : cutV (nvs l) (some (a : Int)) (some ((a : Int) + (n : Int))) = nvs ((l.drop a).take n) := by
  rw [cut_any]
  unfold nvs
  rw [← List.map_drop, ← List.map_take]
theorem ok_bytesFrom (F : Fun K "bytes_from" "Store.bytes_from" sBytesFrom f fd) (T : Txt K mg c) (g1 : MFn P w K mg base 1 c.so "is_taken" ["self", "number"] (spTaken c)) (g3 : GFn P w K mg base 1 "bytes_of" ["stream"] (spBytes c)) :
    FnOk P w K mg base CX0 2 f fd ["self", "number", "start", "cap"] (spRead c) := by
  refine F.ok scBytesFrom (fun vs H Q E h => ?_) (fun cdv A outer s H vs Q E hr h => ?_)
  · obtain ⟨G, p, s, n, a, m, rfl, _⟩ := h
    rfl
  · obtain ⟨G, p, s, n, st, cp, rfl, ⟨hS, W, hg⟩, k⟩ := h
    obtain ⟨dx, rp, sl, hp, hR, nG, os, h1, h2⟩ := id hS
    have hz : sizeLine = 16777216 := rfl
    refine ⟨_, pss_cons (ps_if (pt_not (pt_val (pmeth g1 T.clO hr (pv 0) (pa_cons (pv 1) pa_nil)))) (pss_one (ps_ret (pe_lst (pa_cons (pgi T.cN1) pa_nil)))) pss_nil)
      (pss_one (ps_ret (pe_op op_cat (pe_lst (pa_cons pe_int pa_nil)) (pe_slice sl_list (pcall g3 hr (pa_cons (pe_ix ix_list (pe_fld (pv 0) rfl) (pv 1) (fun _ _ => rfl)) pa_nil)) (po_some (pv 2)) (po_some (pe_op op_add (pv 2) (pv 3))))))), ?_⟩
    refine ⟨_, rfl, p, dx, _, rfl, hp, so_no (by decide +kernel) (by decide +kernel), _, rfl, G, p, s, n, rfl, hS, W, _, rfl, ite2 (fun e => ?_) (fun e => ?_)⟩
    · have e1 := taken_none (s := s) (k := n) (by simpa using e)
      exact ⟨(by show 1 ≤ sizeLine; decide), fun l hl => refused hS hg (CM.read_none e1) k (Same.refl H) hl⟩
    have e1 : (s.at_ n).isSome = true := bnot e
    obtain ⟨x, ex⟩ := Option.isSome_iff_exists.mp e1
    have est := CM.read_yes (a := st) (c := cp) ex
    obtain ⟨a, ha, hA⟩ := slot_some h2 (CM.at_some ex)
    obtain ⟨b1, b2, b3, b4⟩ := st_bounds W ex
    have ebytes : (absS s.rule x).ps.flatten ++ (absS s.rule x).tl = x.bytes := CM.st_flat s.rule x
    refine ⟨(by show 1 ≤ sizeLine; decide), fun l0 hl0 => ?_⟩
    have s0 := Same.upd (o := .lst [V.int 0]) hl0
    refine ⟨_, rfl, p, c.so, dx, _, _, rfl, s0 _ _ hp, T.clO, T.nStreams, so_streams, _, rfl, sl, _, _, _, rfl, rfl, SqL.of' (s0 _ _ h1), at_of (j := n) rfl ha, G, a, absS s.rule x, rfl, hA.same s0, by rw [ebytes]; omega, fun H2 l2 s2 n2 hl2 => ?_⟩
    rw [ebytes] at hl2
    refine ⟨_, rfl, _, rfl, _, rfl, _, rfl, _, _, rfl, rfl, _, rfl, l2, _, rfl, SqL.of' hl2, fun l3 hl3 => ?_⟩
    have e3 := cut_nvs x.bytes st cp
    have s3 := Same.upd (o := .lst (cutV (nvs x.bytes) (some (st : Int)) (some ((st : Int) + (cp : Int))))) hl3
    refine ⟨l0, l3, _, _, rfl, rfl, s3 _ _ (s2 _ _ upd_same), upd_same, ?_, fun l4 hl4 => ?_⟩
    · have := cutV_length (nvs x.bytes) (some (st : Int)) (some ((st : Int) + (cp : Int)))
      rw [nvs_len] at this
      show 1 + _ ≤ sizeLine
      omega
    · refine same_ans hS hg est k ((s0.trans s2).trans s3) hl4 ?_
      rw [e3, nums_eq]
      rfl

theorem scPieceL : FnScope ["self", "number", "piece"] ["self", "number"] (defScope sPieceL) := ⟨rfl, rfl, rfl, by decide +kernel, rfl, by decide +kernel, by decide +kernel⟩
theorem ok_pieceL (F : Fun K "piece_lengths" "Store.piece_lengths" sPieceL f fd) (T : Txt K mg c) (g1 : MFn P w K mg base 1 c.so "is_taken" ["self", "number"] (spTaken c)) : FnOk P w K mg base CX0 2 f fd ["self", "number"] (spK c .pieces) := by
  refine F.ok scPieceL (fun vs H Q E h => ?_) (fun cdv A outer s H vs Q E hr h => ?_)
  · obtain ⟨G, p, s, n, rfl, _⟩ := h
    rfl
  · obtain ⟨G, p, s, n, rfl, ⟨hS, W, hg⟩, k⟩ := h
    obtain ⟨dx, rp, sl, hp, hR, nG, os, h1, h2⟩ := id hS
    have hz : sizeLine = 16777216 := rfl
    refine ⟨_, pss_cons (ps_if (pt_not (pt_val (pmeth g1 T.clO hr (pv 0) (pa_cons (pv 1) pa_nil)))) (pss_one (ps_ret (pe_lst (pa_cons (pgi T.cN1) pa_nil)))) pss_nil)
      (pss_one (ps_ret (pe_op op_cat (pe_lst (pa_cons pe_int pa_nil))
        (pe_lc rfl scPieceL.nd (pi_list (pe_fld (pe_ix ix_list (pe_fld (pv 0) rfl) (pv 1) (fun _ _ => rfl)) rfl)) (blkX (own := [("piece", 2)]) (by decide +kernel)) (fun _ _ _ _ _ => pg_name (i := 2) scPieceL.nd rfl (Or.inl rfl)) (fun _ _ _ _ _ => pts_nil)
          (fun _ _ _ _ _ => pe_callB (lenK K) (by rfl) T.len PySem.boot_len (pa_cons (pv 2) pa_nil)))))), ?_⟩
    refine ⟨_, rfl, p, dx, _, rfl, hp, so_no (by decide +kernel) (by decide +kernel), _, rfl, G, p, s, n, rfl, hS, W, _, rfl, ite2 (fun e => ?_) (fun e => ?_)⟩
    · have e1 := taken_none (s := s) (k := n) (by simpa using e)
      exact ⟨(by show 1 ≤ sizeLine; decide), fun l hl => refused hS hg (CM.pieces_none e1) k (Same.refl H) hl⟩
    have e1 : (s.at_ n).isSome = true := bnot e
    obtain ⟨x, ex⟩ := Option.isSome_iff_exists.mp e1
    have est := CM.pieces_yes ex
    obtain ⟨a, ha, hA⟩ := slot_some h2 (CM.at_some ex)
    obtain ⟨b1, b2, b3, b4⟩ := st_bounds W ex
    refine ⟨(by show 1 ≤ sizeLine; decide), fun l0 hl0 => ?_⟩
    have s0 := Same.upd (o := .lst [V.int 0]) hl0
    obtain ⟨sx, lp, lt, as, q1, q2, q3, q4, q5⟩ := hA.same s0
    refine ⟨_, rfl, p, c.so, dx, _, _, rfl, s0 _ _ hp, T.clO, T.nStreams, so_streams, _, rfl, sl, _, _, _, rfl, rfl, SqL.of' (s0 _ _ h1), at_of (j := n) rfl ha, a, c.st, sx, _, _, rfl, q1, T.clS, T.nPieces, st_pieces, lp, rfl, ⟨_, SqL.of' q2⟩,
      fun D hD => lc_lst (K := K) (a := lp) (xs := as.map V.ref) ((absS s.rule x).ps.map fun q => some (nv q.length)) (by rw [List.length_map, List.length_map, pr_len q4]) (by rw [List.length_map, pr_len q4]; omega) (SqL.of' q2) hD ?_ ?_⟩
    · intro i v acc y Y N hx hy y1 y2
      obtain ⟨a, ha, rfl⟩ := refs_get hx
      obtain ⟨q, hq, ht⟩ := pr_get q4 ha
      have ey : y = some (nv q.length) := by rw [List.getElem?_map, hq] at hy; exact (Option.some.inj hy).symm
      refine ⟨rfl, yes_ (iteT ⟨_, rfl, a, _, rfl, .inr (SqT.of' (Same.upd hD _ _ ht)), ?_⟩)⟩
      rw [nvs_len]
      exact y1 _ ey
    · have s1 := Same.upd (o := .lst (((absS s.rule x).ps.map fun q => some (nv q.length)).filterMap id)) hD
      have e3 : ((absS s.rule x).ps.map fun q => some (nv q.length)).filterMap id = nvs ((absS s.rule x).ps.map fun q => q.length) := by
        rw [fm_some]
        unfold nvs
        rw [List.map_map]
        rfl
      refine ⟨l0, D, _, _, rfl, rfl, s1 _ _ upd_same, upd_same, ?_, fun l4 hl4 => ?_⟩
      · rw [e3, nvs_len, List.length_map]
        show 1 + _ ≤ sizeLine
        omega
      · refine same_ans hS hg est k (s0.trans s1) hl4 ?_
        rw [e3, nums_eq]
        rfl

theorem scTailB : FnScope ["self", "number"] ["self", "number"] (defScope sTailB) := ⟨rfl, rfl, rfl, by decide +kernel, rfl, by decide +kernel, by decide +kernel⟩
theorem ok_tailB (F : Fun K "tail_bytes" "Store.tail_bytes" sTailB f fd) (T : Txt K mg c) (g1 : MFn P w K mg base 1 c.so "is_taken" ["self", "number"] (spTaken c)) : FnOk P w K mg base CX0 2 f fd ["self", "number"] (spK c .tail) := by
  refine F.ok scTailB (fun vs H Q E h => ?_) (fun cdv A outer s H vs Q E hr h => ?_)
  · obtain ⟨G, p, s, n, rfl, _⟩ := h
    rfl
  · obtain ⟨G, p, s, n, rfl, ⟨hS, W, hg⟩, k⟩ := h
    obtain ⟨dx, rp, sl, hp, hR, nG, os, h1, h2⟩ := id hS
    have hz : sizeLine = 16777216 := rfl
    refine ⟨_, pss_cons (ps_if (pt_not (pt_val (pmeth g1 T.clO hr (pv 0) (pa_cons (pv 1) pa_nil)))) (pss_one (ps_ret (pe_lst (pa_cons (pgi T.cN1) pa_nil)))) pss_nil)
      (pss_one (ps_ret (pe_op op_cat (pe_lst (pa_cons pe_int pa_nil)) (pe_callTy call_list_of (by rfl) T.list PyProof.Rows.boot_list (pa_cons (pe_fld (pe_ix ix_list (pe_fld (pv 0) rfl) (pv 1) (fun _ _ => rfl)) rfl) pa_nil))))), ?_⟩
    refine ⟨_, rfl, p, dx, _, rfl, hp, so_no (by decide +kernel) (by decide +kernel), _, rfl, G, p, s, n, rfl, hS, W, _, rfl, ite2 (fun e => ?_) (fun e => ?_)⟩
    · have e1 := taken_none (s := s) (k := n) (by simpa using e)
      exact ⟨(by show 1 ≤ sizeLine; decide), fun l hl => refused hS hg (CM.tail_none e1) k (Same.refl H) hl⟩
    have e1 : (s.at_ n).isSome = true := bnot e
    obtain ⟨x, ex⟩ := Option.isSome_iff_exists.mp e1
    have est := CM.tail_yes ex
    obtain ⟨a, ha, hA⟩ := slot_some h2 (CM.at_some ex)
    obtain ⟨b1, b2, b3, b4⟩ := st_bounds W ex
    refine ⟨(by show 1 ≤ sizeLine; decide), fun l0 hl0 => ?_⟩
    have s0 := Same.upd (o := .lst [V.int 0]) hl0
    obtain ⟨sx, lp, lt, as, q1, q2, q3, q4, q5⟩ := hA.same s0
    refine ⟨_, rfl, p, c.so, dx, _, _, rfl, s0 _ _ hp, T.clO, T.nStreams, so_streams, _, rfl, sl, _, _, _, rfl, rfl, SqL.of' (s0 _ _ h1), at_of (j := n) rfl ha, a, c.st, sx, _, _, rfl, q1, T.clS, T.nTail, st_tail, lt, _, rfl, .inr (SqT.of' q5), fun l2 hl2 => ?_⟩
    have s2 := Same.upd (o := .lst (nvs (absS s.rule x).tl)) hl2
    refine ⟨l0, l2, _, _, rfl, rfl, s2 _ _ upd_same, upd_same, ?_, fun l4 hl4 => ?_⟩
    · rw [nvs_len]
      show 1 + _ ≤ sizeLine
      omega
    · refine same_ans hS hg est k (s0.trans s2) hl4 ?_
      rw [nums_eq]
      rfl

theorem scHasP : FnScope ["self", "some"] ["self", "some"] (defScope sHasP) := ⟨rfl, rfl, rfl, by decide +kernel, rfl, by decide +kernel, by decide +kernel⟩
theorem has_abs (s : State) (b : Bytes) : (pcs (absL s.rule s.streams)).contains b = (Wrcutp.all s).any fun x => (Ck.pieces s.rule x).contains b := by
  unfold absL
  rw [pcs_abs, Bool.eq_iff_iff, List.contains_iff_mem, List.mem_flatMap, List.any_eq_true]
  constructor
  · rintro ⟨x, h1, h2⟩
    exact ⟨x, h1, List.contains_iff_mem.mpr h2⟩
  · rintro ⟨x, h1, h2⟩
    exact ⟨x, h1, List.contains_iff_mem.mp h2⟩
theorem few_wf {s : State} (W : CM.WF s) : Few (absL s.rule s.streams) := few_abs W.len fun x hx => (W.st x hx).len
theorem ok_hasP (F : Fun K "has_piece" "Store.has_piece" sHasP f fd) (T : Txt K mg c) (g1 : GFn P w K mg base 1 "different_pieces" ["streams"] (spDiff c)) (g2 : GFn P w K mg base 1 "without_free" ["streams"] (spWithout c)) :
    FnOk P w K mg base CX0 2 f fd ["self", "some"] (spHas c) := by
  refine F.ok scHasP (fun vs H Q E h => ?_) (fun cdv A outer s H vs Q E hr h => ?_)
  · obtain ⟨G, p, t, s, b, rfl, _⟩ := h
    rfl
  · obtain ⟨G, p, t, s, b, rfl, ⟨hS, W, hg⟩, ht, hb, k⟩ := h
    obtain ⟨dx, rp, sl, hp, hR, nG, hSl⟩ := id hS
    have hu := hu_of hr
    refine ⟨_, pss_one (ps_ret (pe_lst (pa_cons pe_int (pa_cons (pe_ifExp (pt_cmp (pc_din hu (pe_callTy call_tuple_of (by rfl) T.tuple PyProof.Rows.boot_tuple (pa_cons (pv 1) pa_nil))
      (pcall g1 hr (pa_cons (pcall g2 hr (pa_cons (pe_fld (pv 0) rfl) pa_nil)) pa_nil)))) pe_int pe_int) pa_nil)))), ?_⟩
    refine ⟨_, rfl, t, _, rfl, .inl ⟨SqL.of' ht, fun tp htp => ?_⟩⟩
    have s1 := Same.upd (o := .tup (nvs b)) htp
    refine ⟨_, rfl, p, c.so, dx, _, _, rfl, s1 _ _ hp, T.clO, T.nStreams, so_streams, G, sl, s.rule, s.streams, rfl, hSl.same s1, W.len, fun H2 l2 s2 hL2 => ⟨G, l2, _, rfl, hL2, few_wf W, fun H3 d s3 n3 hd => ?_⟩⟩
    have ht3 : TupAt H3 tp b := s3 _ _ (s2 _ _ upd_same)
    refine ⟨d, _, rfl, DGet.t hd ht3.key, _, rfl, ?_⟩
    rw [val_kv, keys_contains, has_abs]
    have est : Wrcutp.step s (.has b) = (s, .nums [if (Wrcutp.all s).any (fun x => (Ck.pieces s.rule x).contains b) = true then 1 else 0]) := rfl
    have s13 := (s1.trans s2).trans s3
    refine ite2 (fun e => ?_) (fun e => ?_)
    · rw [if_pos e] at est
      exact ⟨(by show 2 ≤ sizeLine; decide), fun l hl => same_ans hS hg est k s13 hl rfl⟩
    · rw [if_neg e] at est
      exact ⟨(by show 2 ≤ sizeLine; decide), fun l hl => same_ans hS hg est k s13 hl rfl⟩

theorem scSharedM : FnScope ["self", "number", "other"] ["self", "number", "other"] (defScope sSharedM) := ⟨rfl, rfl, rfl, by decide +kernel, rfl, by decide +kernel, by decide +kernel⟩
theorem ok_sharedM (F : Fun K "shared" "Store.shared" sSharedM f fd) (T : Txt K mg c) (g1 : MFn P w K mg base 1 c.so "is_taken" ["self", "number"] (spTaken c)) (g2 : GFn P w K mg base 2 "count_shared" ["stream", "other"] (spShared c)) :
    FnOk P w K mg base CX0 3 f fd ["self", "number", "other"] (spSharedM c) := by
  refine F.ok scSharedM (fun vs H Q E h => ?_) (fun cdv A outer s H vs Q E hr h => ?_)
  · obtain ⟨G, p, s, n, m, rfl, _⟩ := h
    rfl
  · obtain ⟨G, p, s, n, m, rfl, ⟨hS, W, hg⟩, k⟩ := h
    obtain ⟨dx, rp, sl, hp, hR, nG, os, h1, h2⟩ := id hS
    refine ⟨_, pss_cons (ps_if (PW.pt (pw_or (pt_not (pt_val (pmeth g1 T.clO (hr.mono (by decide)) (pv 0) (pa_cons (pv 1) pa_nil)))) (pw_or1 (pt_not (pt_val (pmeth g1 T.clO (hr.mono (by decide)) (pv 0) (pa_cons (pv 2) pa_nil)))))))
        (pss_one (ps_ret (pe_lst (pa_cons (pgi T.cN1) pa_nil)))) pss_nil)
      (pss_one (ps_ret (pe_lst (pa_cons pe_int (pa_cons (pcall g2 hr (pa_cons (pe_ix ix_list (pe_fld (pv 0) rfl) (pv 1) (fun _ _ => rfl)) (pa_cons (pe_ix ix_list (pe_fld (pv 0) rfl) (pv 2) (fun _ _ => rfl)) pa_nil))) pa_nil))))), ?_⟩
    refine ⟨_, rfl, p, dx, _, rfl, hp, so_no (by decide +kernel) (by decide +kernel), _, rfl, G, p, s, n, rfl, hS, W, _, rfl, ite2 (fun e => ?_) (fun e => ?_)⟩
    · have e1 := taken_none (s := s) (k := n) (by simpa using e)
      exact iteT ⟨(by show 1 ≤ sizeLine; decide), fun l hl => refused hS hg (CM.shared_none1 e1) k (Same.refl H) hl⟩
    have e1 : (s.at_ n).isSome = true := bnot e
    obtain ⟨x, ex⟩ := Option.isSome_iff_exists.mp e1
    refine ⟨_, rfl, p, dx, _, rfl, hp, so_no (by decide +kernel) (by decide +kernel), _, rfl, G, p, s, m, rfl, hS, W, _, rfl, ite2 (fun e => ?_) (fun e => ?_)⟩
    · have e1 := taken_none (s := s) (k := m) (by simpa using e)
      exact ⟨(by show 1 ≤ sizeLine; decide), fun l hl => refused hS hg (CM.shared_none2 e1) k (Same.refl H) hl⟩
    have e2 : (s.at_ m).isSome = true := bnot e
    obtain ⟨y, ey⟩ := Option.isSome_iff_exists.mp e2
    have est := CM.shared_yes ex ey
    obtain ⟨a, ha, hA⟩ := slot_some h2 (CM.at_some ex)
    obtain ⟨b, hb, hB⟩ := slot_some h2 (CM.at_some ey)
    obtain ⟨b1, b2, b3, b4⟩ := st_bounds W ex
    obtain ⟨d1, d2, d3, d4⟩ := st_bounds W ey
    refine ⟨_, rfl, p, c.so, dx, _, _, rfl, hp, T.clO, T.nStreams, so_streams, _, rfl, sl, _, _, _, rfl, rfl, SqL.of' h1, at_of (j := n) rfl ha, _, rfl, p, c.so, dx, _, _, rfl, hp, T.clO, T.nStreams, so_streams, _, rfl, sl, _, _, _, rfl, rfl, SqL.of' h1, at_of (j := m) rfl hb,
      G, a, b, absS s.rule x, absS s.rule y, rfl, hA, hB, by omega, by omega, fun H2 s2 => ⟨(by show 2 ≤ sizeLine; decide), fun l hl => same_ans hS hg est k s2 hl rfl⟩⟩

theorem scKept : FnScope ["self", "streams"] ["self"] (defScope sKept) := ⟨rfl, rfl, rfl, by decide +kernel, rfl, by decide +kernel, by decide +kernel⟩
theorem ok_kept (F : Fun K "kept" "Store.kept" sKept f fd) (T : Txt K mg c) (g1 : GFn P w K mg base 1 "without_free" ["streams"] (spWithout c)) (g2 : GFn P w K mg base 2 "room_taken" ["streams"] (spRoom c))
    (g3 : GFn P w K mg base 1 "places_taken" ["streams"] (spPlaces c)) (g4 : GFn P w K mg base 1 "different_pieces" ["streams"] (spDiff c)) : FnOk P w K mg base CX0 3 f fd ["self"] (spKept c) := by
  refine F.ok scKept (fun vs H Q E h => ?_) (fun cdv A outer s H vs Q E hr h => ?_)
  · obtain ⟨G, p, s, rfl, _⟩ := h
    rfl
  · obtain ⟨G, p, s, rfl, ⟨hS, W, hg⟩, k⟩ := h
    obtain ⟨dx, rp, sl, hp, hR, nG, hSl⟩ := id hS
    refine ⟨_, pss_cons (ps_set (i := 1) scKept.nd rfl (Or.inl rfl) (pcall g1 (hr.mono (by decide)) (pa_cons (pe_fld (pv 0) rfl) pa_nil)))
      (pss_one (ps_ret (pe_lst (pa_cons pe_int (pa_cons (pcall g2 hr (pa_cons (pv 1) pa_nil)) (pa_cons (pcall g3 (hr.mono (by decide)) (pa_cons (pv 1) pa_nil))
        (pa_cons (pe_callB call_lenT (by rfl) T.len PySem.boot_len (pa_cons (pcall g4 (hr.mono (by decide)) (pa_cons (pv 1) pa_nil)) pa_nil)) pa_nil))))))), ?_⟩
    refine ⟨_, rfl, p, c.so, dx, _, _, rfl, hp, T.clO, T.nStreams, so_streams, G, sl, s.rule, s.streams, rfl, hSl, W.len, fun H1 l1 s1 hL1 => ?_⟩
    refine ⟨_, rfl, G, l1, _, rfl, hL1, few_wf W, fun H2 s2 => ⟨_, rfl, G, l1, _, rfl, hL1.same s2, few_wf W, fun H3 s3 => ⟨_, rfl, G, l1, _, rfl, hL1.same (s2.trans s3), few_wf W, fun H4 d s4 n4 hd => ⟨d, _, rfl, hd, ?_⟩⟩⟩⟩
    refine ⟨(by show 4 ≤ sizeLine; decide), fun l hl => ?_⟩
    have est : Wrcutp.step s .kept = (s, .nums [Wrcutp.kept s, Wrcutp.spots s, (Ck.once [] ((Wrcutp.all s).flatMap fun x => Ck.pieces s.rule x)).length]) := rfl
    refine same_ans hS hg est k ((s1.trans s2).trans (s3.trans s4)) hl ?_
    rw [room_kept, places_spots, kv_len, nums_eq, CM.once_length]
    unfold absL
    rw [pcs_abs]
    rfl
end
end CP
end
section
set_option Elab.async false
set_option linter.all false
set_option maxRecDepth 100000
set_option maxHeartbeats 2000000
namespace CP
open PySem PySem.Spec PyProof.Rows L2
open Ck (Bytes)
open Wrcutp (State Call)

/-! ### the reader -/
def spDI (c : Cs) : Sp := fun vs H Q _ => ∃ (p dx a : Addr), vs = [.ref p, .ref a] ∧ H p = some (.ins c.rd dx []) ∧ ∀ H', H' p = some (.ins c.rd dx (rdF a 0)) → Kb (· = p) H H' → Q .non H'
def spAtEnd (K : PySem.W.Frag) (c : Cs) : Sp := fun vs H Q _ => ∃ (p : Addr) (rest : List Int), vs = [.ref p] ∧ ReaderAt K c H p rest ∧ Q (.bl (decide (rest.length = 0))) H
def spTake (K : PySem.W.Frag) (c : Cs) : Sp := fun vs H Q _ => ∃ (p : Addr) (x : Int) (rest : List Int), vs = [.ref p] ∧ ReaderAt K c H p (x :: rest) ∧ ∀ H', ReaderAt K c H' p rest → Kb (· = p) H H' → Q (.int x) H'
def spTakeRow (K : PySem.W.Frag) (c : Cs) : Sp := fun vs H Q _ => ∃ (p : Addr) (b : List Nat) (rest : List Int), vs = [.ref p] ∧ ReaderAt K c H p ((b.length : Int) :: (CM.zints b ++ rest)) ∧
  ∀ H' l, ReaderAt K c H' p rest → Kb (· = p) H H' → H l = none → H' l = some (.lst (nvs b)) → Q (.ref l) H'
theorem Kb.free {H H1 : Hp} {p l : Addr} (k : Kb (· = p) H H1) (hp : H1 p ≠ none) (hl : H1 l = none) : H l = none := by
  cases q : H l with
  | none => rfl
  | some u =>
    by_cases e : l = p
    · rw [e] at hl
      exact absurd hl hp
    · rw [k l u q e] at hl
      cases hl
section
variable {P : Program} {w : World} {K : PySem.W.Frag} {mg : Str → Option Value} {base : Heap} {c : Cs} {f : Addr} {fd : FuncData}

theorem scDI : FnScope ["self", "calls"] ["self", "calls"] (defScope sDI) := ⟨rfl, rfl, rfl, by decide +kernel, rfl, by decide +kernel, by decide +kernel⟩
theorem ok_di (F : Fun K "__init__" "Reader.__init__" sDI f fd) (T : Txt K mg c) : FnOk P w K mg base CX0 1 f fd ["self", "calls"] (spDI c) := by
  refine F.ok scDI (fun vs H Q E h => ?_) (fun cdv A outer s H vs Q E hr h => ?_)
  · obtain ⟨p, dx, a, rfl, _⟩ := h
    rfl
  · obtain ⟨p, dx, a, rfl, hp, k⟩ := h
    refine ⟨_, pss_cons (ps_fld (pv 0) (pv 1) rfl) (pss_one (ps_fld (pv 0) pe_int rfl)), ?_⟩
    refine ⟨_, rfl, _, rfl, p, c.rd, dx, [], rfl, hp, T.clD, T.nCalls, (by show 0 < 1000; decide), ?_⟩
    refine ⟨_, rfl, p, c.rd, dx, _, rfl, upd_same, T.clD, T.nPlace, fl1, ?_⟩
    refine k _ (Eq.trans upd_same (congrArg (fun q => some (HO.ins c.rd dx q)) ?_)) (Kb.trans (Kb.upd1) (Kb.upd1))
    rw [rd_made]
    rfl

theorem scAtEnd : FnScope ["self"] ["self"] (defScope sAtEnd) := ⟨rfl, rfl, rfl, by decide +kernel, rfl, by decide +kernel, by decide +kernel⟩
theorem ok_atEnd (F : Fun K "at_end" "Reader.at_end" sAtEnd f fd) (T : Txt K mg c) : FnOk P w K mg base CX0 1 f fd ["self"] (spAtEnd K c) := by
  refine F.ok scAtEnd (fun vs H Q E h => ?_) (fun cdv A outer s H vs Q E hr h => ?_)
  · obtain ⟨p, rest, rfl, _⟩ := h
    rfl
  · obtain ⟨p, rest, rfl, ⟨dx, a, ns, i, hp, hs, hd, hi, hz⟩, k⟩ := h
    refine ⟨_, pss_one (ps_ret (pe_cmpR op_ge (pe_fld (pv 0) rfl) (pe_callB call_len_seq (by rfl) T.len PySem.boot_len (pa_cons (pe_fld (pv 0) rfl) pa_nil)) (nomark _))), ?_⟩
    refine ⟨_, rfl, p, c.rd, dx, _, _, rfl, hp, T.clD, T.nPlace, rd_place, _, rfl, p, c.rd, dx, _, _, rfl, hp, T.clD, T.nCalls, rd_calls, a, _, rfl, .inl hs.sq, _, _, rfl, rfl, ?_⟩
    have e : decide (((ns.map V.int).length : Int) ≤ (i : Int)) = decide (rest.length = 0) := by
      rw [decide_eq_decide, ← hd, List.length_drop, List.length_map]
      omega
    show Q (V.bl (decide (((ns.map V.int).length : Int) ≤ (i : Int)))) H
    rw [e]
    exact k

theorem scTake : FnScope ["self", "number"] ["self"] (defScope sTake) := ⟨rfl, rfl, rfl, by decide +kernel, rfl, by decide +kernel, by decide +kernel⟩
theorem drop_cons {ns rest : List Int} {i : Nat} {x : Int} (h : ns.drop i = x :: rest) : ns[i]? = some x ∧ ns.drop (i + 1) = rest ∧ i + 1 ≤ ns.length := by
  have hl : i < ns.length := by
    have := congrArg List.length h
    rw [List.length_drop, List.length_cons] at this
    omega
  have e := List.drop_eq_getElem_cons hl
  rw [h] at e
  injection e with e1 e2
  exact ⟨by rw [List.getElem?_eq_getElem hl, e1], e2.symm, hl⟩
theorem Src.off {H H1 : Hp} {a p C dx : Addr} {xs : List V} {fs : List (Str × V)} (h : Src K H a xs) (hp : H p = some (.ins C dx fs)) (k : Kb (· = p) H H1) : Src K H1 a xs := by
  rcases h with ⟨o, h⟩ | h
  · exact .inl ⟨o, k _ _ h (ne_of h hp (by intro q; cases q))⟩
  · exact .inr h
theorem ok_take (F : Fun K "take" "Reader.take" sTake f fd) (T : Txt K mg c) : FnOk P w K mg base CX0 1 f fd ["self"] (spTake K c) := by
  refine F.ok scTake (fun vs H Q E h => ?_) (fun cdv A outer s H vs Q E hr h => ?_)
  · obtain ⟨p, x, rest, rfl, _⟩ := h
    rfl
  · obtain ⟨p, x, rest, rfl, ⟨dx, a, ns, i, hp, hs, hd, hi, hz⟩, k⟩ := h
    obtain ⟨d1, d2, d3⟩ := drop_cons hd
    have hget : (ns.map V.int)[i]? = some (V.int x) := by rw [List.getElem?_map, d1]; rfl
    refine ⟨_, pss_cons (ps_set (i := 1) scTake.nd rfl (Or.inl rfl) (pe_ix ix_list (pe_fld (pv 0) rfl) (pe_fld (pv 0) rfl) (fun _ _ => rfl))) (pss_cons (ps_fldaug (pv 0) pe_int in_add) (pss_one (ps_ret (pv 1)))), ?_⟩
    refine ⟨_, rfl, p, c.rd, dx, _, _, rfl, hp, T.clD, T.nCalls, rd_calls, _, rfl, p, c.rd, dx, _, _, rfl, hp, T.clD, T.nPlace, rd_place, a, _, _, _, rfl, rfl, hs.sq, at_of (j := i) rfl hget, ?_⟩
    refine ⟨_, rfl, p, c.rd, dx, _, _, rfl, hp, T.clD, T.nPlace, rd_place, _, _, rfl, rfl, dx, _, hp, (by show 2 < 1000; decide), ?_⟩
    have k1 : Kb (· = p) H (upd H p (.ins c.rd dx (putF "place" (.int ((i : Int) + 1)) (rdF a i)))) := Kb.upd1
    refine ⟨_, rfl, k _ ⟨dx, a, ns, i + 1, ?_, hs.off hp k1, d2, d3, hz⟩ k1⟩
    rw [upd_same, rd_put]
    rfl

theorem scTakeRow : FnScope ["self", "length", "row"] ["self"] (defScope sTakeRow) := ⟨rfl, rfl, rfl, by decide +kernel, rfl, by decide +kernel, by decide +kernel⟩
theorem ints_len (b : List Nat) : (CM.zints b).length = b.length := List.length_map _
theorem ok_takeRow (F : Fun K "take_row" "Reader.take_row" sTakeRow f fd) (T : Txt K mg c) (g1 : MFn P w K mg base 1 c.rd "take" ["self"] (spTake K c)) : FnOk P w K mg base CX0 2 f fd ["self"] (spTakeRow K c) := by
  refine F.ok scTakeRow (fun vs H Q E h => ?_) (fun cdv A outer s H vs Q E hr h => ?_)
  · obtain ⟨p, b, rest, rfl, _⟩ := h
    rfl
  · obtain ⟨p, b, rest, rfl, hR, k⟩ := h
    obtain ⟨dx0, a0, ns0, i0, hp0, _⟩ := id hR
    refine ⟨_, pss_cons (ps_set (i := 1) scTakeRow.nd rfl (Or.inl rfl) (pmeth0 g1 T.clD hr (pv 0)))
      (pss_cons (ps_set (i := 2) scTakeRow.nd rfl (Or.inl rfl) (pe_slice sl_list (pe_fld (pv 0) rfl) (po_some (pe_fld (pv 0) rfl)) (po_some (pe_op op_add (pe_fld (pv 0) rfl) (pv 1)))))
      (pss_cons (ps_fldaug (pv 0) (pv 1) in_add) (pss_one (ps_ret (pv 2))))), ?_⟩
    refine ⟨_, rfl, p, dx0, _, rfl, hp0, rd_no (by decide +kernel) (by decide +kernel), p, (b.length : Int), CM.zints b ++ rest, rfl, hR, fun H1 hR1 k1 => ?_⟩
    obtain ⟨dx, a, ns, i, hp, hs, hd, hi, hz⟩ := id hR1
    refine ⟨_, rfl, p, c.rd, dx, _, _, rfl, hp, T.clD, T.nCalls, rd_calls, _, rfl, p, c.rd, dx, _, _, rfl, hp, T.clD, T.nPlace, rd_place, _, rfl, _, rfl, p, c.rd, dx, _, _, rfl, hp, T.clD, T.nPlace, rd_place, _, rfl, _, _, rfl, rfl, _, rfl,
      a, _, rfl, hs.sq, fun l hl => ?_⟩
    have e : cutV (ns.map V.int) (some (i : Int)) (some ((i : Int) + (b.length : Int))) = nvs b := by
      rw [cut_any, ← List.map_drop, ← List.map_take, hd, List.take_append_of_le_length (by rw [ints_len]; omega), List.take_of_length_le (by rw [ints_len]; omega), ints_nvs]
    have s2 := Same.upd (o := .lst (cutV (ns.map V.int) (some (i : Int)) (some ((i : Int) + (b.length : Int))))) hl
    refine ⟨_, rfl, p, c.rd, dx, _, _, rfl, s2 _ _ hp, T.clD, T.nPlace, rd_place, _, rfl, _, _, rfl, rfl, dx, _, s2 _ _ hp, (by show 2 < 1000; decide), ?_⟩
    generalize hH2 : upd H1 l (.lst (cutV (ns.map V.int) (some (i : Int)) (some ((i : Int) + (b.length : Int))))) = H2 at s2
    have hl2 : H2 l = some (.lst (nvs b)) := by rw [← hH2, upd_same, e]
    have k2 : Kb (· = p) H2 (upd H2 p (.ins c.rd dx (putF "place" (.int ((i : Int) + (b.length : Int))) (rdF a i)))) := Kb.upd1
    have hlen := congrArg List.length hd
    rw [List.length_drop, List.length_append, ints_len] at hlen
    have hs2 : Src K H2 a (ns.map V.int) := hs.off (p := p) hp (Kb.of s2)
    refine ⟨_, rfl, k _ l ⟨dx, a, ns, i + b.length, ?_, hs2.off (s2 _ _ hp) k2, ?_, by omega, hz⟩ ((k1.trans (Kb.of s2)).trans k2) (k1.free (by rw [hp]; simp) hl) ?_⟩
    · rw [upd_same, rd_put]
      unfold rdF
      have : ((i : Int) + (b.length : Int)) = ((i + b.length : Nat) : Int) := by omega
      rw [this]
    · rw [← List.drop_drop, hd, List.drop_append_of_le_length (by rw [ints_len]; omega), List.drop_of_length_le (by rw [ints_len]; omega)]
      rfl
    · rw [upd_ne (ne_of hl2 (s2 _ _ hp) (by intro q; cases q))]
      exact hl2
end

/-! ### the calls -/
theorem so_rd {c : Cs} {H : Hp} {ps pr dx dx' rp sl a : Addr} {i : Nat} (h : H ps = some (.ins c.so dx (soF rp sl))) (h' : H pr = some (.ins c.rd dx' (rdF a i))) : ps ≠ pr := fun e => by
  rw [e, h'] at h
  have h1 := Option.some.inj h
  injection h1 with _ _ h2
  have h3 : (rdF a i).lookup ("rule" : Str) = (soF rp sl).lookup ("rule" : Str) := by rw [h2]
  rw [so_rule, rd_no (by decide +kernel) (by decide +kernel)] at h3
  cases h3
theorem Pre.reader {K : PySem.W.Frag} {c : Cs} {G : Addr → Prop} {H H1 : Hp} {ps pr : Addr} {s : State} {r r' : List Int} (p : Pre c G H ps s) (R : ReaderAt K c H pr r) (R' : ReaderAt K c H1 pr r') (k : Kb (· = pr) H H1) : Pre c G H1 ps s := by
  obtain ⟨S, W, g⟩ := p
  obtain ⟨dx, rp, sl, hp, _⟩ := id S
  obtain ⟨dx', a, ns, i, hr, _⟩ := R
  obtain ⟨dx2, a2, ns2, i2, hr2, _⟩ := R'
  refine ⟨S.kb (B := (· = pr)) (so_rd hp hr) (free_reader hr) k, W, g.kb k fun b e => ?_⟩
  subst e
  rw [hr2]
  simp
theorem ReaderAt.store {K : PySem.W.Frag} {c : Cs} {G : Addr → Prop} {H H1 : Hp} {ps pr : Addr} {s : State} {r : List Int} (R : ReaderAt K c H pr r) (S : StoreAt c G H ps s) (k : Kb (· = ps) H H1) : ReaderAt K c H1 pr r := by
  obtain ⟨dx, rp, sl, hp, _⟩ := id S
  obtain ⟨dx', a, ns, i, hr, _⟩ := id R
  exact R.kb (B := (· = ps)) (fun e => so_rd hp hr e.symm) (free_store (G := G) hp) k
def Post2 (K : PySem.W.Frag) (c : Cs) (G : Addr → Prop) (H : Hp) (ps pr : Addr) (s : State) (d : Call) (rest : List Int) (Q : VK) : Prop :=
  ∀ H' l, StoreAt c G H' ps (Wrcutp.step s d).1 → ReaderAt K c H' pr rest → Kb (fun b => b = ps ∨ b = pr) H H' → ¬ G l → H' l = some (.lst (ansL (Wrcutp.step s d).2)) → Q (.ref l) H'
theorem Post2.from {K : PySem.W.Frag} {c : Cs} {G : Addr → Prop} {H H1 : Hp} {ps pr : Addr} {s : State} {d : Call} {rest : List Int} {Q : VK} (po : Post2 K c G H ps pr s d rest Q) (R : ReaderAt K c H1 pr rest) (S : StoreAt c G H1 ps s) (k : Kb (· = pr) H H1) : Post c G H1 ps s d Q :=
  fun H' l S' k' ng h => po H' l S' (R.store S k') ((k.mono fun _ e => .inr e).trans (k'.mono fun _ e => .inl e)) ng h
def spA (K : PySem.W.Frag) (c : Cs) (fl : Call → List Int) (ok : Call → Prop) : Sp := fun vs H Q _ => ∃ (G : Addr → Prop) (ps pr : Addr) (s : State) (d : Call) (rest : List Int), vs = [.ref ps, .ref pr] ∧ Pre c G H ps s ∧ ok d ∧ CM.Bd d ∧ (fl d ++ rest).length ≤ 31000 ∧ ReaderAt K c H pr (fl d ++ rest) ∧ Post2 K c G H ps pr s d rest Q
section
variable {P : Program} {w : World} {K : PySem.W.Frag} {mg : Str → Option Value} {base : Heap} {c : Cs} {f : Addr} {fd : FuncData}

theorem scATable : FnScope ["store", "reader", "bits", "least", "most"] ["store", "reader"] (defScope sATable) := ⟨rfl, rfl, rfl, by decide +kernel, rfl, by decide +kernel, by decide +kernel⟩
abbrev tlF (d : Call) : List Int := (CM.flat d).tail
theorem ok_aTable (F : Fun K "answer_table" "answer_table" sATable f fd) (T : Txt K mg c) (g1 : MFn P w K mg base 1 c.rd "take" ["self"] (spTake K c)) (g2 : MFn P w K mg base 2 c.rd "take_row" ["self"] (spTakeRow K c))
    (g3 : MFn P w K mg base 3 c.so "set_rule" ["self", "bits", "least", "most", "numbers"] (spSetRule c)) : FnOk P w K mg base CX0 4 f fd ["store", "reader"] (spA K c tlF fun d => ∃ b l m t, d = .table b l m t) := by
  refine F.ok scATable (fun vs H Q E h => ?_) (fun cdv A outer s H vs Q E hr h => ?_)
  · obtain ⟨G, ps, pr, s, d, rest, rfl, _⟩ := h
    rfl
  · obtain ⟨G, ps, pr, s, d, rest, rfl, hP, ⟨b, l, m, t, rfl⟩, hb, hz, hR, k⟩ := h
    refine ⟨_, pss_cons (ps_set (i := 2) scATable.nd rfl (Or.inl rfl) (pmeth0 g1 T.clD (hr.mono (by decide)) (pv 1)))
      (pss_cons (ps_set (i := 3) scATable.nd rfl (Or.inl rfl) (pmeth0 g1 T.clD (hr.mono (by decide)) (pv 1)))
      (pss_cons (ps_set (i := 4) scATable.nd rfl (Or.inl rfl) (pmeth0 g1 T.clD (hr.mono (by decide)) (pv 1)))
      (pss_one (ps_ret (pmeth g3 T.clO hr (pv 0) (pa_cons (pv 2) (pa_cons (pv 3) (pa_cons (pv 4) (pa_cons (pmeth0 g2 T.clD (hr.mono (by decide)) (pv 1)) pa_nil))))))))), ?_⟩
    obtain ⟨dx0, a0, ns0, i0, hp0, _⟩ := id hR
    refine ⟨_, rfl, pr, dx0, _, rfl, hp0, rd_no (by decide +kernel) (by decide +kernel), pr, _, _, rfl, hR, fun H1 hR1 k1 => ?_⟩
    obtain ⟨dx1, a1, ns1, i1, hp1, _⟩ := id hR1
    refine ⟨_, rfl, pr, dx1, _, rfl, hp1, rd_no (by decide +kernel) (by decide +kernel), pr, _, _, rfl, hR1, fun H2 hR2 k2 => ?_⟩
    obtain ⟨dx2, a2, ns2, i2, hp2, _⟩ := id hR2
    refine ⟨_, rfl, pr, dx2, _, rfl, hp2, rd_no (by decide +kernel) (by decide +kernel), pr, _, _, rfl, hR2, fun H3 hR3 k3 => ?_⟩
    obtain ⟨dx3, a3, ns3, i3, hp3, _⟩ := id hR3
    have hP3 := ((hP.reader hR hR1 k1).reader hR1 hR2 k2).reader hR2 hR3 k3
    obtain ⟨sx, rp, sl, sp, _⟩ := id hP3.st
    refine ⟨_, rfl, ps, sx, _, rfl, sp, so_no (by decide +kernel) (by decide +kernel), _, rfl, _, rfl, _, rfl, _, rfl, pr, dx3, _, rfl, hp3, rd_no (by decide +kernel) (by decide +kernel), pr, t, rest, rfl, hR3, fun H4 lt hR4 k4 n4 h4 => ?_⟩
    have hP4 := hP3.reader hR3 hR4 k4
    exact ⟨G, ps, lt, s, b, l, m, t, rfl, hP4, h4, hP3.g lt n4, hb.2.2.2, k.from hR4 hP4.st (((k1.trans k2).trans k3).trans k4)⟩

theorem scAFeed : FnScope ["store", "reader", "number"] ["store", "reader"] (defScope sAFeed) := ⟨rfl, rfl, rfl, by decide +kernel, rfl, by decide +kernel, by decide +kernel⟩
theorem ok_aFeed (F : Fun K "answer_feed" "answer_feed" sAFeed f fd) (T : Txt K mg c) (g1 : MFn P w K mg base 1 c.rd "take" ["self"] (spTake K c)) (g2 : MFn P w K mg base 2 c.rd "take_row" ["self"] (spTakeRow K c))
    (g3 : MFn P w K mg base 4 c.so "feed" ["self", "number", "some"] (spFeed c)) : FnOk P w K mg base CX0 5 f fd ["store", "reader"] (spA K c tlF fun d => ∃ n b, d = .feed n b) := by
  refine F.ok scAFeed (fun vs H Q E h => ?_) (fun cdv A outer s H vs Q E hr h => ?_)
  · obtain ⟨G, ps, pr, s, d, rest, rfl, _⟩ := h
    rfl
  · obtain ⟨G, ps, pr, s, d, rest, rfl, hP, ⟨n, b, rfl⟩, hb, hz, hR, k⟩ := h
    refine ⟨_, pss_cons (ps_set (i := 2) scAFeed.nd rfl (Or.inl rfl) (pmeth0 g1 T.clD (hr.mono (by decide)) (pv 1)))
      (pss_one (ps_ret (pmeth g3 T.clO hr (pv 0) (pa_cons (pv 2) (pa_cons (pmeth0 g2 T.clD (hr.mono (by decide)) (pv 1)) pa_nil))))), ?_⟩
    have hbl : b.length ≤ 31000 := by
      have e : (tlF (.feed n b) ++ rest).length = (CM.zints b).length + 2 + rest.length := by
        rw [List.length_append]
        rfl
      rw [ints_len] at e
      omega
    obtain ⟨dx0, a0, ns0, i0, hp0, _⟩ := id hR
    refine ⟨_, rfl, pr, dx0, _, rfl, hp0, rd_no (by decide +kernel) (by decide +kernel), pr, _, _, rfl, hR, fun H1 hR1 k1 => ?_⟩
    obtain ⟨dx1, a1, ns1, i1, hp1, _⟩ := id hR1
    have hP1 := hP.reader hR hR1 k1
    obtain ⟨sx, rp, sl, sp, _⟩ := id hP1.st
    refine ⟨_, rfl, ps, sx, _, rfl, sp, so_no (by decide +kernel) (by decide +kernel), _, rfl, _, rfl, pr, dx1, _, rfl, hp1, rd_no (by decide +kernel) (by decide +kernel), pr, b, rest, rfl, hR1, fun H4 lt hR4 k4 n4 h4 => ?_⟩
    have hP4 := hP1.reader hR1 hR4 k4
    exact ⟨G, ps, lt, s, n, b, rfl, hP4, h4, by omega, k.from hR4 hP4.st (k1.trans k4)⟩

theorem scARead : FnScope ["store", "reader", "number", "start"] ["store", "reader"] (defScope sARead) := ⟨rfl, rfl, rfl, by decide +kernel, rfl, by decide +kernel, by decide +kernel⟩
theorem ok_aRead (F : Fun K "answer_read" "answer_read" sARead f fd) (T : Txt K mg c) (g1 : MFn P w K mg base 1 c.rd "take" ["self"] (spTake K c))
    (g3 : MFn P w K mg base 2 c.so "bytes_from" ["self", "number", "start", "cap"] (spRead c)) : FnOk P w K mg base CX0 3 f fd ["store", "reader"] (spA K c tlF fun d => ∃ n a m, d = .read n a m) := by
  refine F.ok scARead (fun vs H Q E h => ?_) (fun cdv A outer s H vs Q E hr h => ?_)
  · obtain ⟨G, ps, pr, s, d, rest, rfl, _⟩ := h
    rfl
  · obtain ⟨G, ps, pr, s, d, rest, rfl, hP, ⟨n, a, m, rfl⟩, hb, hz, hR, k⟩ := h
    refine ⟨_, pss_cons (ps_set (i := 2) scARead.nd rfl (Or.inl rfl) (pmeth0 g1 T.clD (hr.mono (by decide)) (pv 1)))
      (pss_cons (ps_set (i := 3) scARead.nd rfl (Or.inl rfl) (pmeth0 g1 T.clD (hr.mono (by decide)) (pv 1)))
      (pss_one (ps_ret (pmeth g3 T.clO hr (pv 0) (pa_cons (pv 2) (pa_cons (pv 3) (pa_cons (pmeth0 g1 T.clD (hr.mono (by decide)) (pv 1)) pa_nil))))))), ?_⟩
    obtain ⟨dx0, a0, ns0, i0, hp0, _⟩ := id hR
    refine ⟨_, rfl, pr, dx0, _, rfl, hp0, rd_no (by decide +kernel) (by decide +kernel), pr, _, _, rfl, hR, fun H1 hR1 k1 => ?_⟩
    obtain ⟨dx1, a1, ns1, i1, hp1, _⟩ := id hR1
    refine ⟨_, rfl, pr, dx1, _, rfl, hp1, rd_no (by decide +kernel) (by decide +kernel), pr, _, _, rfl, hR1, fun H2 hR2 k2 => ?_⟩
    obtain ⟨dx2, a2, ns2, i2, hp2, _⟩ := id hR2
    have hP2 := (hP.reader hR hR1 k1).reader hR1 hR2 k2
    obtain ⟨sx, rp, sl, sp, _⟩ := id hP2.st
    refine ⟨_, rfl, ps, sx, _, rfl, sp, so_no (by decide +kernel) (by decide +kernel), _, rfl, _, rfl, _, rfl, pr, dx2, _, rfl, hp2, rd_no (by decide +kernel) (by decide +kernel), pr, _, _, rfl, hR2, fun H3 hR3 k3 => ?_⟩
    have hP3 := hP2.reader hR2 hR3 k3
    exact ⟨G, ps, s, n, a, m, rfl, hP3, k.from hR3 hP3.st ((k1.trans k2).trans k3)⟩

theorem scAShared : FnScope ["store", "reader", "number"] ["store", "reader"] (defScope sAShared) := ⟨rfl, rfl, rfl, by decide +kernel, rfl, by decide +kernel, by decide +kernel⟩
theorem ok_aShared (F : Fun K "answer_shared" "answer_shared" sAShared f fd) (T : Txt K mg c) (g1 : MFn P w K mg base 1 c.rd "take" ["self"] (spTake K c))
    (g3 : MFn P w K mg base 3 c.so "shared" ["self", "number", "other"] (spSharedM c)) : FnOk P w K mg base CX0 4 f fd ["store", "reader"] (spA K c tlF fun d => ∃ n m, d = .shared n m) := by
  refine F.ok scAShared (fun vs H Q E h => ?_) (fun cdv A outer s H vs Q E hr h => ?_)
  · obtain ⟨G, ps, pr, s, d, rest, rfl, _⟩ := h
    rfl
  · obtain ⟨G, ps, pr, s, d, rest, rfl, hP, ⟨n, m, rfl⟩, hb, hz, hR, k⟩ := h
    refine ⟨_, pss_cons (ps_set (i := 2) scAShared.nd rfl (Or.inl rfl) (pmeth0 g1 T.clD (hr.mono (by decide)) (pv 1)))
      (pss_one (ps_ret (pmeth g3 T.clO hr (pv 0) (pa_cons (pv 2) (pa_cons (pmeth0 g1 T.clD (hr.mono (by decide)) (pv 1)) pa_nil))))), ?_⟩
    obtain ⟨dx0, a0, ns0, i0, hp0, _⟩ := id hR
    refine ⟨_, rfl, pr, dx0, _, rfl, hp0, rd_no (by decide +kernel) (by decide +kernel), pr, _, _, rfl, hR, fun H1 hR1 k1 => ?_⟩
    obtain ⟨dx1, a1, ns1, i1, hp1, _⟩ := id hR1
    have hP1 := hP.reader hR hR1 k1
    obtain ⟨sx, rp, sl, sp, _⟩ := id hP1.st
    refine ⟨_, rfl, ps, sx, _, rfl, sp, so_no (by decide +kernel) (by decide +kernel), _, rfl, _, rfl, pr, dx1, _, rfl, hp1, rd_no (by decide +kernel) (by decide +kernel), pr, _, _, rfl, hR1, fun H3 hR3 k3 => ?_⟩
    have hP3 := hP1.reader hR1 hR3 k3
    exact ⟨G, ps, s, n, m, rfl, hP3, k.from hR3 hP3.st (k1.trans k3)⟩
end
end CP
end
section
set_option Elab.async false
set_option linter.all false
set_option maxRecDepth 100000
set_option maxHeartbeats 4000000
namespace CP
open PySem PySem.Spec PyProof.Rows L2
open Ck (Bytes)
open Wrcutp (State Call)
theorem neq_step {A B : Prop} {i j : Int} (h : i ≠ j) (b : B) : if decide (V.int i = V.int j) = true then A else B := by
  rw [if_neg]
  · exact b
  · intro e
    have := of_decide_eq_true e
    injection this with this
    exact h this
theorem eq_step {A B : Prop} {i : Int} (a : A) : if decide (V.int i = V.int i) = true then A else B := by
  rw [if_pos (decide_eq_true rfl)]
  exact a
section
variable {P : Program} {w : World} {K : PySem.W.Frag} {mg : Str → Option Value} {base : Heap} {c : Cs} {f : Addr} {fd : FuncData}
/-- what the calls lean on -/
structure Calls (P : Program) (w : World) (K : PySem.W.Frag) (mg : Str → Option Value) (base : Heap) (c : Cs) : Prop where
  take : MFn P w K mg base 1 c.rd "take" ["self"] (spTake K c)
  takeRow : MFn P w K mg base 2 c.rd "take_row" ["self"] (spTakeRow K c)
  begin_ : MFn P w K mg base 4 c.so "begin" ["self"] (spBegin c)
  start : MFn P w K mg base 4 c.so "start_stream" ["self"] (spStart c)
  close : MFn P w K mg base 4 c.so "close" ["self", "number"] (spK c .close)
  drop : MFn P w K mg base 2 c.so "drop" ["self", "number"] (spK c .drop)
  size : MFn P w K mg base 2 c.so "size" ["self", "number"] (spK c .size)
  pieces : MFn P w K mg base 2 c.so "piece_lengths" ["self", "number"] (spK c .pieces)
  tail : MFn P w K mg base 2 c.so "tail_bytes" ["self", "number"] (spK c .tail)
  has : MFn P w K mg base 2 c.so "has_piece" ["self", "some"] (spHas c)
  kept : MFn P w K mg base 3 c.so "kept" ["self"] (spKept c)
  aTable : GFn P w K mg base 4 "answer_table" ["store", "reader"] (spA K c tlF fun d => ∃ b l m t, d = .table b l m t)
  aFeed : GFn P w K mg base 5 "answer_feed" ["store", "reader"] (spA K c tlF fun d => ∃ n b, d = .feed n b)
  aRead : GFn P w K mg base 3 "answer_read" ["store", "reader"] (spA K c tlF fun d => ∃ n a m, d = .read n a m)
  aShared : GFn P w K mg base 4 "answer_shared" ["store", "reader"] (spA K c tlF fun d => ∃ n m, d = .shared n m)
theorem scACall : FnScope ["store", "reader", "call"] ["store", "reader"] (defScope sACall) := ⟨rfl, rfl, rfl, by decide +kernel, rfl, by decide +kernel, by decide +kernel⟩
def Post3 (K : PySem.W.Frag) (c : Cs) (G : Addr → Prop) (H : Hp) (ps pr : Addr) (s : State) (d : Call) (rest : List Int) (Q : VK) : Prop := Post2 K c G H ps pr s d rest Q
theorem Post2.step {G : Addr → Prop} {H H1 : Hp} {ps pr : Addr} {s : State} {d : Call} {rest : List Int} {Q : VK} (po : Post2 K c G H ps pr s d rest Q) (k : Kb (· = pr) H H1) : Post2 K c G H1 ps pr s d rest Q :=
  fun H' l S' R' k' ng h => po H' l S' R' ((k.mono fun _ e => .inr e).trans k') ng h
theorem ok_aCall (F : Fun K "answer_call" "answer_call" sACall f fd) (T : Txt K mg c) (g : Calls P w K mg base c) : FnOk P w K mg base CX0 6 f fd ["store", "reader"] (spA K c CM.flat fun _ => True) := by
  refine F.ok scACall (fun vs H Q E h => ?_) (fun cdv A outer s H vs Q E hr h => ?_)
  · obtain ⟨G, ps, pr, s, d, rest, rfl, _⟩ := h
    rfl
  · obtain ⟨G, ps, pr, s, d, rest, rfl, hP, _, hb, hz, hR, k⟩ := h
    have hr1 := hr.mono (show 1 ≤ 5 by decide)
    have hr2 := hr.mono (show 2 ≤ 5 by decide)
    have hr3 := hr.mono (show 3 ≤ 5 by decide)
    have hr4 := hr.mono (show 4 ≤ 5 by decide)
    refine ⟨_, pss_cons (ps_set (i := 2) scACall.nd rfl (Or.inl rfl) (pmeth0 g.take T.clD hr1 (pv 1)))
      (pss_cons (ps_if (pt_cmpR op_eq (pv 2) (pgi T.c1) (nomark _)) (pss_one (ps_ret (pmeth0 g.begin_ T.clO hr4 (pv 0)))) pss_nil)
      (pss_cons (ps_if (pt_cmpR op_eq (pv 2) (pgi T.c2) (nomark _)) (pss_one (ps_ret (pcall g.aTable hr4 (pa_cons (pv 0) (pa_cons (pv 1) pa_nil))))) pss_nil)
      (pss_cons (ps_if (pt_cmpR op_eq (pv 2) (pgi T.c3) (nomark _)) (pss_one (ps_ret (pmeth0 g.start T.clO hr4 (pv 0)))) pss_nil)
      (pss_cons (ps_if (pt_cmpR op_eq (pv 2) (pgi T.c4) (nomark _)) (pss_one (ps_ret (pcall g.aFeed hr (pa_cons (pv 0) (pa_cons (pv 1) pa_nil))))) pss_nil)
      (pss_cons (ps_if (pt_cmpR op_eq (pv 2) (pgi T.c5) (nomark _)) (pss_one (ps_ret (pmeth g.close T.clO hr4 (pv 0) (pa_cons (pmeth0 g.take T.clD hr1 (pv 1)) pa_nil)))) pss_nil)
      (pss_cons (ps_if (pt_cmpR op_eq (pv 2) (pgi T.c6) (nomark _)) (pss_one (ps_ret (pmeth g.drop T.clO hr2 (pv 0) (pa_cons (pmeth0 g.take T.clD hr1 (pv 1)) pa_nil)))) pss_nil)
      (pss_cons (ps_if (pt_cmpR op_eq (pv 2) (pgi T.c7) (nomark _)) (pss_one (ps_ret (pmeth g.size T.clO hr2 (pv 0) (pa_cons (pmeth0 g.take T.clD hr1 (pv 1)) pa_nil)))) pss_nil)
      (pss_cons (ps_if (pt_cmpR op_eq (pv 2) (pgi T.c8) (nomark _)) (pss_one (ps_ret (pcall g.aRead hr3 (pa_cons (pv 0) (pa_cons (pv 1) pa_nil))))) pss_nil)
      (pss_cons (ps_if (pt_cmpR op_eq (pv 2) (pgi T.c9) (nomark _)) (pss_one (ps_ret (pmeth g.pieces T.clO hr2 (pv 0) (pa_cons (pmeth0 g.take T.clD hr1 (pv 1)) pa_nil)))) pss_nil)
      (pss_cons (ps_if (pt_cmpR op_eq (pv 2) (pgi T.c10) (nomark _)) (pss_one (ps_ret (pmeth g.tail T.clO hr2 (pv 0) (pa_cons (pmeth0 g.take T.clD hr1 (pv 1)) pa_nil)))) pss_nil)
      (pss_cons (ps_if (pt_cmpR op_eq (pv 2) (pgi T.c11) (nomark _)) (pss_one (ps_ret (pmeth g.has T.clO hr2 (pv 0) (pa_cons (pmeth0 g.takeRow T.clD hr2 (pv 1)) pa_nil)))) pss_nil)
      (pss_cons (ps_if (pt_cmpR op_eq (pv 2) (pgi T.c12) (nomark _)) (pss_one (ps_ret (pcall g.aShared hr4 (pa_cons (pv 0) (pa_cons (pv 1) pa_nil))))) pss_nil)
      (pss_cons (ps_if (pt_cmpR op_eq (pv 2) (pgi T.c13) (nomark _)) (pss_one (ps_ret (pmeth0 g.kept T.clO hr3 (pv 0)))) pss_nil)
      (pss_one ps_never)))))))))))))), ?_⟩
    obtain ⟨x, rest1, hfl⟩ : ∃ x r, CM.flat d ++ rest = x :: r := by cases d <;> exact ⟨_, _, rfl⟩
    have hx : CM.flat d = x :: tlF d := by
      cases d <;> (injection hfl with h1 h2; rw [← h1]; rfl)
    have hr1e : rest1 = tlF d ++ rest := by
      rw [hx] at hfl
      injection hfl with _ h2
      exact h2.symm
    subst hr1e
    rw [hfl] at hR hz
    obtain ⟨dx0, a0, ns0, i0, hp0, _⟩ := id hR
    refine ⟨_, rfl, pr, dx0, _, rfl, hp0, rd_no (by decide +kernel) (by decide +kernel), pr, _, _, rfl, hR, fun H1 hR1 k1 => ?_⟩
    have hP1 := hP.reader hR hR1 k1
    have k' := k.step k1
    have hz1 : (tlF d ++ rest).length ≤ 31000 := by rw [List.length_cons] at hz; omega
    obtain ⟨dx1, a1, ns1, i1, hp1, _⟩ := id hR1
    obtain ⟨sx, rp, sl, sp, _⟩ := id hP1.st
    have self1 : Kb (· = pr) H1 H1 := Kb.of (Same.refl H1)
    -- a call with one number
    have one : ∀ {m : Str} {dd : Nat → Call} {n : Nat}, ¬ m = "rule" → ¬ m = "streams" → d = dd n → tlF d = [(n : Int)] → 
        (∃ v, ([some (V.ref ps), some (V.ref pr), some (V.int x)] : L2.St)[0]? = some (some v) ∧ ∃ a dx fs, v = .ref a ∧ H1 a = some (.ins c.so dx fs) ∧ fs.lookup m = none ∧
          ∃ v2, ([some (V.ref ps), some (V.ref pr), some (V.int x)] : L2.St)[1]? = some (some v2) ∧ ∃ a2 dx2 fs2, v2 = .ref a2 ∧ H1 a2 = some (.ins c.rd dx2 fs2) ∧ fs2.lookup ("take" : Str) = none ∧
            spTake K c [v2] H1 (fun y H2 => spK c dd [v, y] H2 Q E0) E0) := fun {m dd n} m1 m2 ed et =>
      ⟨_, rfl, ps, sx, _, rfl, sp, so_no m1 m2, _, rfl, pr, dx1, _, rfl, hp1, rd_no (by decide +kernel) (by decide +kernel), pr, (n : Int), rest, rfl, by rw [et] at hR1; exact hR1, fun H2 hR2 k2 =>
        have hP2 := hP1.reader hR1 hR2 k2
        ⟨G, ps, s, n, rfl, hP2, by rw [← ed]; exact k'.from hR2 hP2.st k2⟩⟩
    cases d with
    | begin_ =>
      obtain rfl : (1 : Int) = x := by injection hfl
      refine ⟨_, rfl, rfl, _, rfl, eq_step ?_⟩
      exact ⟨_, rfl, ps, sx, _, rfl, sp, so_no (by decide +kernel) (by decide +kernel), G, ps, s, rfl, hP1, k'.from hR1 hP1.st self1⟩
    | table b l m t =>
      obtain rfl : (2 : Int) = x := by injection hfl
      refine ⟨_, rfl, rfl, _, rfl, neq_step (by decide) ?_⟩
      refine ⟨_, rfl, rfl, _, rfl, eq_step ?_⟩
      exact ⟨_, rfl, _, rfl, G, ps, pr, s, _, rest, rfl, hP1, ⟨b, l, m, t, rfl⟩, hb, hz1, hR1, k'⟩
    | open_ =>
      obtain rfl : (3 : Int) = x := by injection hfl
      iterate 2 refine ⟨_, rfl, rfl, _, rfl, neq_step (by decide) ?_⟩
      refine ⟨_, rfl, rfl, _, rfl, eq_step ?_⟩
      exact ⟨_, rfl, ps, sx, _, rfl, sp, so_no (by decide +kernel) (by decide +kernel), G, ps, s, rfl, hP1, k'.from hR1 hP1.st self1⟩
    | feed n b =>
      obtain rfl : (4 : Int) = x := by injection hfl
      iterate 3 refine ⟨_, rfl, rfl, _, rfl, neq_step (by decide) ?_⟩
      refine ⟨_, rfl, rfl, _, rfl, eq_step ?_⟩
      exact ⟨_, rfl, _, rfl, G, ps, pr, s, _, rest, rfl, hP1, ⟨n, b, rfl⟩, hb, hz1, hR1, k'⟩
    | close n =>
      obtain rfl : (5 : Int) = x := by injection hfl
      iterate 4 refine ⟨_, rfl, rfl, _, rfl, neq_step (by decide) ?_⟩
      refine ⟨_, rfl, rfl, _, rfl, eq_step ?_⟩
      exact one (m := "close") (dd := .close) (n := n) (by decide +kernel) (by decide +kernel) rfl rfl
    | drop n =>
      obtain rfl : (6 : Int) = x := by injection hfl
      iterate 5 refine ⟨_, rfl, rfl, _, rfl, neq_step (by decide) ?_⟩
      refine ⟨_, rfl, rfl, _, rfl, eq_step ?_⟩
      exact one (m := "drop") (dd := .drop) (n := n) (by decide +kernel) (by decide +kernel) rfl rfl
    | size n =>
      obtain rfl : (7 : Int) = x := by injection hfl
      iterate 6 refine ⟨_, rfl, rfl, _, rfl, neq_step (by decide) ?_⟩
      refine ⟨_, rfl, rfl, _, rfl, eq_step ?_⟩
      exact one (m := "size") (dd := .size) (n := n) (by decide +kernel) (by decide +kernel) rfl rfl
    | read n a m =>
      obtain rfl : (8 : Int) = x := by injection hfl
      iterate 7 refine ⟨_, rfl, rfl, _, rfl, neq_step (by decide) ?_⟩
      refine ⟨_, rfl, rfl, _, rfl, eq_step ?_⟩
      exact ⟨_, rfl, _, rfl, G, ps, pr, s, _, rest, rfl, hP1, ⟨n, a, m, rfl⟩, hb, hz1, hR1, k'⟩
    | pieces n =>
      obtain rfl : (9 : Int) = x := by injection hfl
      iterate 8 refine ⟨_, rfl, rfl, _, rfl, neq_step (by decide) ?_⟩
      refine ⟨_, rfl, rfl, _, rfl, eq_step ?_⟩
      exact one (m := "piece_lengths") (dd := .pieces) (n := n) (by decide +kernel) (by decide +kernel) rfl rfl
    | tail n =>
      obtain rfl : (10 : Int) = x := by injection hfl
      iterate 9 refine ⟨_, rfl, rfl, _, rfl, neq_step (by decide) ?_⟩
      refine ⟨_, rfl, rfl, _, rfl, eq_step ?_⟩
      exact one (m := "tail_bytes") (dd := .tail) (n := n) (by decide +kernel) (by decide +kernel) rfl rfl
    | has b =>
      obtain rfl : (11 : Int) = x := by injection hfl
      iterate 10 refine ⟨_, rfl, rfl, _, rfl, neq_step (by decide) ?_⟩
      refine ⟨_, rfl, rfl, _, rfl, eq_step ?_⟩
      have hbl : b.length ≤ 31000 := by
        have e : (tlF (.has b) ++ rest).length = (CM.zints b).length + 1 + rest.length := by
          rw [List.length_append]
          rfl
        rw [ints_len] at e
        omega
      refine ⟨_, rfl, ps, sx, _, rfl, sp, so_no (by decide +kernel) (by decide +kernel), _, rfl, pr, dx1, _, rfl, hp1, rd_no (by decide +kernel) (by decide +kernel), pr, b, rest, rfl, hR1, fun H2 lt hR2 k2 n2 h2 => ?_⟩
      have hP2 := hP1.reader hR1 hR2 k2
      exact ⟨G, ps, lt, s, b, rfl, hP2, h2, by omega, k'.from hR2 hP2.st k2⟩
    | shared n m =>
      obtain rfl : (12 : Int) = x := by injection hfl
      iterate 11 refine ⟨_, rfl, rfl, _, rfl, neq_step (by decide) ?_⟩
      refine ⟨_, rfl, rfl, _, rfl, eq_step ?_⟩
      exact ⟨_, rfl, _, rfl, G, ps, pr, s, _, rest, rfl, hP1, ⟨n, m, rfl⟩, hb, hz1, hR1, k'⟩
    | kept =>
      obtain rfl : (13 : Int) = x := by injection hfl
      iterate 12 refine ⟨_, rfl, rfl, _, rfl, neq_step (by decide) ?_⟩
      refine ⟨_, rfl, rfl, _, rfl, eq_step ?_⟩
      exact ⟨_, rfl, ps, sx, _, rfl, sp, so_no (by decide +kernel) (by decide +kernel), G, ps, s, rfl, hP1, k'.from hR1 hP1.st self1⟩

/-! ### the whole -/
theorem RuleAt.guard {H : Hp} {p g : Addr} {r : Ck.Rule} (h : RuleAt c (fun _ => False) H p r) (hg : H g = none) : RuleAt c (· = g) H p r := by
  obtain ⟨dx, t, h1, h2, _⟩ := h
  exact ⟨dx, t, h1, h2, ne_of_none h2 hg⟩
theorem StAt.guard {H : Hp} {p g : Addr} {x : AS} (h : StAt c (fun _ => False) H p x) (hg : H g = none) : StAt c (· = g) H p x := by
  obtain ⟨dx, lp, lt, as, h1, h2, _, h4, h5⟩ := h
  exact ⟨dx, lp, lt, as, h1, h2, ne_of_none h2 hg, h4, h5⟩
theorem StoreAt.guard {H : Hp} {p g : Addr} {s : State} (h : StoreAt c (fun _ => False) H p s) (hg : H g = none) : StoreAt c (· = g) H p s := by
  obtain ⟨dx, rp, sl, h1, h2, _, os, h3, h4⟩ := h
  refine ⟨dx, rp, sl, h1, h2.guard hg, ne_of_none h3 hg, os, h3, pr_imp (fun v o q => ?_) h4⟩
  cases o with
  | none => exact q
  | some x =>
    obtain ⟨a, e, q⟩ := q
    exact ⟨a, e, q.guard hg⟩
def spAns (K : PySem.W.Frag) : Sp := fun vs H Q _ => ∃ (a : Addr) (ds : List Call), vs = [.ref a] ∧ Src K H a ((ds.flatMap CM.flat).map V.int) ∧ (ds.flatMap CM.flat).length ≤ 31000 ∧ ds.length ≤ 60 ∧ (∀ d ∈ ds, CM.Bd d) ∧
  ∀ (H' : Hp) (p : Addr), H' p = some (.lst ((CM.play Wrcutp.start ds).map V.int)) → Q (.ref p) H'
/-- between two turns -/
def Wd (K : PySem.W.Frag) (c : Cs) (a ps pr g : Addr) (ds : List Call) (m : Nat) (σ : L2.St) (H' : Hp) : Prop := ∃ (v4 : Option V) (es : List Call) (s : State) (acc : List Int), es.length = m ∧ σ = [some (.ref a), some (.ref ps), some (.ref pr), some (.ref g), v4] ∧ Pre c (· = g) H' ps s ∧
  ReaderAt K c H' pr (es.flatMap CM.flat) ∧ (es.flatMap CM.flat).length ≤ 31000 ∧ (∀ d ∈ es, CM.Bd d) ∧ H' g = some (.lst (acc.map V.int)) ∧ acc ++ CM.play s es = CM.play Wrcutp.start ds ∧ acc.length + 2050 * es.length ≤ 123000
theorem scAns : FnScope ["calls", "store", "reader", "given", "answer"] ["calls"] (defScope sAns) := ⟨rfl, rfl, rfl, by decide +kernel, rfl, by decide +kernel, by decide +kernel⟩
theorem flat_pos (d : Call) : 0 < (CM.flat d).length := by cases d <;> exact Nat.succ_pos _
theorem flats_nil {ds : List Call} (h : (ds.flatMap CM.flat).length = 0) : ds = [] := by
  cases ds with
  | nil => rfl
  | cons d ds =>
    rw [List.flatMap_cons, List.length_append] at h
    have := flat_pos d
    omega
theorem ok_ans (F : Fun K "answers" "answers" sAns f fd) (T : Txt K mg c) (g1 : CFn P w K mg base 4 c.so "Store" ["self"] (spOI c)) (g2 : CFn P w K mg base 1 c.rd "Reader" ["self", "calls"] (spDI c))
    (g3 : MFn P w K mg base 1 c.rd "at_end" ["self"] (spAtEnd K c)) (g4 : GFn P w K mg base 6 "answer_call" ["store", "reader"] (spA K c CM.flat fun _ => True)) : FnOk P w K mg base CX0 7 f fd ["calls"] (spAns K) := by
  refine F.ok scAns (fun vs H Q E h => ?_) (fun cdv A outer s H vs Q E hr h => ?_)
  · obtain ⟨a, ds, rfl, _⟩ := h
    rfl
  · obtain ⟨a, ds, rfl, hsrc, hz, hn, hbd, k⟩ := h
    have hz0 : sizeLine = 16777216 := rfl
    refine ⟨_, pss_cons (ps_set (i := 1) scAns.nd rfl (Or.inl rfl) (pmake0 g1 (hr.mono (by decide))))
      (pss_cons (ps_set (i := 2) scAns.nd rfl (Or.inl rfl) (pmake g2 (hr.mono (by decide)) (pa_cons (pv 0) pa_nil)))
      (pss_cons (ps_set (i := 3) scAns.nd rfl (Or.inl rfl) (pe_lst pa_nil))
      (pss_cons (ps_while PassesOwn.never (pt_not (pt_val (pmeth0 g3 T.clD (hr.mono (by decide)) (pv 2))))
        (pss_cons (ps_set (i := 4) scAns.nd rfl (Or.inl rfl) (pcall g4 hr (pa_cons (pv 1) (pa_cons (pv 2) pa_nil))))
        (pss_cons (ps_expr (papp (pv 3) (pe_callB call_len_seq (by rfl) T.len PySem.boot_len (pa_cons (pv 4) pa_nil))))
        (pss_one (ps_expr (pe_bm PySem.F.plainAttrs_list PySem.F.slot_list_extend PySem.F.type_list_extend mt_extend (pv 3) (pa_cons (pv 4) pa_nil)))))))
      (pss_one (ps_ret (pv 3)))))), ?_⟩
    intro ps dx nx ndx nex
    refine ⟨fun _ => False, ps, dx, rfl, upd_same, fun _ _ q => q, fun H1 hS1 k1 => ⟨rfl, ?_⟩⟩
    have s1 := made_same nx ndx k1
    refine ⟨_, rfl, ?_⟩
    intro pr dx2 nx2 ndx2 nex2
    refine ⟨pr, dx2, a, rfl, upd_same, fun H2 h2 k2 => ⟨rfl, ?_⟩⟩
    have s2 := made_same nx2 ndx2 k2
    refine ⟨Nat.zero_le _, fun g hg => ?_⟩
    have s3 := Same.upd (o := .lst []) hg
    have hS3 : StoreAt c (· = g) (upd H2 g (.lst [])) ps Wrcutp.start := ((hS1.same s2).guard hg).same s3
    have hsrc3 : Src K (upd H2 g (.lst [])) a ((ds.flatMap CM.flat).map V.int) := hsrc.kb (B := fun _ => False) (G := fun _ => False) free0 (.of ((s1.trans s2).trans s3))
    refine ⟨Wd K c a ps pr g ds, ⟨ds.length, none, ds, Wrcutp.start, [], rfl, rfl, ⟨hS3, CM.wf_start, fun b e q => ?_⟩, ⟨dx2, a, ds.flatMap CM.flat, 0, s3 _ _ h2, hsrc3, rfl, Nat.zero_le _, hz⟩, hz, hbd, upd_same, rfl, ?_⟩, ?_⟩
    · subst q
      rw [upd_same] at e
      cases e
    · show 0 + 2050 * ds.length ≤ 123000
      omega
    rintro m σ H' ⟨v4, es, s, acc, rfl, rfl, hP, hR, hze, hbe, hgl, hacc, hlen⟩
    obtain ⟨dxr, ar, nsr, ir, hpr, _⟩ := id hR
    obtain ⟨sx, rp, sl, hps, _⟩ := id hP.st
    refine ⟨_, rfl, pr, dxr, _, rfl, hpr, rd_no (by decide +kernel) (by decide +kernel), pr, _, rfl, hR, _, rfl, ite2 (fun e => ?_) (fun e => ?_)⟩
    · cases es with
      | nil => exact absurd e (by decide)
      | cons d es =>
        rw [List.flatMap_cons] at hR hze
        have hze' := hze
        rw [List.length_append] at hze'
        rw [List.length_cons] at hlen
        refine ⟨Wd K c a ps pr g ds es.length, fun σ' H'' h => ⟨es.length, Nat.lt_succ_self _, h⟩, ?_⟩
        refine ⟨_, rfl, _, rfl, (· = g), ps, pr, s, d, es.flatMap CM.flat, rfl, hP, trivial, hbe d (List.mem_cons_self ..), hze, hR, fun H4 l S4 R4 k4 ng hl => ?_⟩
        have ngp : g ≠ ps := ne_of hgl hps (by intro q; cases q)
        have ngr : g ≠ pr := ne_of hgl hpr (by intro q; cases q)
        have hg4 : H4 g = some (.lst (acc.map V.int)) := k4 _ _ hgl (fun q => q.elim ngp ngr)
        have htl := CM.told_len hP.wf d
        refine ⟨_, rfl, .inl ⟨rfl, _, SqL.of' hg4⟩, _, rfl, l, _, rfl, .inl (SqL.of' hl), g, _, _, rfl, rfl, hg4, (by rw [List.length_map]; omega), ?_⟩
        refine ⟨_, rfl, .inl ⟨rfl, _, SqL.of' upd_same⟩, _, rfl, g, l, _, _, rfl, rfl, upd_same, (by rw [upd_ne ng]; exact hl), ?_, ?_⟩
        · rw [List.length_append, List.length_map, List.length_map, List.length_singleton]
          omega
        · have kk : Kb (· = g) H4 (upd (upd H4 g (.lst (acc.map V.int ++ [V.int ((ansL (Wrcutp.step s d).2).length : Int)]))) g (.lst (acc.map V.int ++ [V.int ((ansL (Wrcutp.step s d).2).length : Int)] ++ ansL (Wrcutp.step s d).2))) := (Kb.upd1).trans (Kb.upd1)
          have ff : Free (· = g) (· = g) H4 := fun b q => .inr ⟨q, acc.map V.int, (congrArg H4 (show b = g from q)).trans hg4⟩
          refine ⟨some (.ref l), es, (Wrcutp.step s d).1, acc ++ (((WrcutpNeutral.told (Wrcutp.step s d).2).length : Int) :: WrcutpNeutral.told (Wrcutp.step s d).2), rfl, rfl,
            ⟨S4.kb ngp.symm ff kk, CM.wf_step hP.wf d, fun b q z => ?_⟩, R4.kb ngr.symm ff kk, by omega, fun d' hd => hbe d' (List.mem_cons_of_mem _ hd), ?_, ?_, ?_⟩
          · subst z
            rw [upd_same] at q
            cases q
          · rw [upd_same, List.map_append, List.append_assoc, List.map_cons]
            show some (HO.lst (acc.map V.int ++ (V.int (((WrcutpNeutral.told (Wrcutp.step s d).2).map V.int).length : Int) :: (WrcutpNeutral.told (Wrcutp.step s d).2).map V.int))) = _
            rw [List.length_map]
          · rw [← hacc, List.append_assoc]
            rfl
          · rw [List.length_append, List.length_cons]
            omega
    · have e1 : (es.flatMap CM.flat).length = 0 := by simpa using e
      have e2 := flats_nil e1
      subst e2
      have e3 : acc = CM.play Wrcutp.start ds := by rw [← hacc]; exact (List.append_nil _).symm
      subst e3
      exact ⟨_, rfl, k H' g hgl⟩
end
end CP
end
section
set_option Elab.async false
set_option linter.all false
set_option maxRecDepth 100000
set_option maxHeartbeats 4000000
namespace CP
open PySem PySem.Spec PyProof.Rows L2
open Ck (Bytes)
open Wrcutp (State Call)

/-! ### what the top has written -/
structure Fx (K : PySem.W.Frag) (x qual : Str) (st : Stmt) : Prop where
  ex : ∃ f fd, Fun K x qual st f fd ∧ PySem.W.nsIn K mainGlobals x = some (some (.ref f))
structure Mx (K : PySem.W.Frag) (C : Addr) (m qual : Str) (st : Stmt) : Prop where
  ex : ∃ f fd, Fun K m qual st f fd ∧ Meth K C m f
structure Ix (K : PySem.W.Frag) (C : Addr) (x qual : Str) (st : Stmt) : Prop where
  ex : ∃ f fd, Fun K "__init__" qual st f fd ∧ Mk K C f ∧ PySem.W.nsIn K mainGlobals x = some (some (.ref C))
section
variable {K : PySem.W.Frag} {x m qual : Str} {st : Stmt} {f C : Addr} {oc : Value} {od an : Option Addr} {osl : Array (Option Value)} {kV doc pm cdv ct : Value}
theorem fx_mk (a : PySem.W.nsIn K mainGlobals x = some (some (.ref f))) (l : K.lookup f = some ⟨oc, od, .func (PySem.W.fnOf x qual (defArgs st) (defBody st) (defScope st) .none kV doc pm an cdv ct), osl⟩)
    (c : PySem.W.codeIn K cdv qual = true) (k : PySem.W.keepIn K (.ref f) = true) : Fx K x qual st := ⟨f, _, fun_mk l c k, a⟩
theorem mx_mk (a : PySem.W.findIn K (.ref C) m = some (some (.ref f))) (i : PySem.W.isFn K (.ref f) = true) (l : K.lookup f = some ⟨oc, od, .func (PySem.W.fnOf m qual (defArgs st) (defBody st) (defScope st) .none kV doc pm an cdv ct), osl⟩)
    (c : PySem.W.codeIn K cdv qual = true) (k : PySem.W.keepIn K (.ref f) = true) : Mx K C m qual st := ⟨f, _, fun_mk l c k, ⟨a, i, k⟩⟩
theorem ix_mk (n : PySem.W.nsIn K mainGlobals x = some (some (.ref C))) (a : PySem.W.findIn K (.ref C) "__init__" = some (some (.ref f))) (i : PySem.W.isFn K (.ref f) = true)
    (l : K.lookup f = some ⟨oc, od, .func (PySem.W.fnOf "__init__" qual (defArgs st) (defBody st) (defScope st) .none kV doc pm an cdv ct), osl⟩) (c : PySem.W.codeIn K cdv qual = true) (k : PySem.W.keepIn K (.ref f) = true)
    (mk : PySem.W.makesIn K C = true) (kc : PySem.W.keepIn K (.ref C) = true) : Ix K C x qual st := ⟨f, _, fun_mk l c k, ⟨mk, a, i, kc⟩, n⟩
end
/-- all defs of the text -/
structure Fall (K : PySem.W.Frag) (c : Cs) : Prop where
  ri : Ix K c.ru "Rule" "Rule.__init__" sRI
  next : Mx K c.ru "next_number" "Rule.next_number" sNext
  ends : Mx K c.ru "ends_piece" "Rule.ends_piece" sEnds
  first : Fx K "first_rule" "first_rule" sFirst
  isRule : Fx K "is_rule" "is_rule" sIsRule
  cut : Fx K "cut" "cut" sCut
  si : Ix K c.st "Stream" "Stream.__init__" sSI
  newS : Fx K "new_stream" "new_stream" sNewS
  fed : Fx K "fed_stream" "fed_stream" sFed
  closed : Fx K "closed_stream" "closed_stream" sClosed
  count : Fx K "count_bytes" "count_bytes" sCount
  bytes : Fx K "bytes_of" "bytes_of" sBytes
  diff : Fx K "different_pieces" "different_pieces" sDiff
  shared : Fx K "count_shared" "count_shared" sShared
  room : Fx K "room_taken" "room_taken" sRoom
  places : Fx K "places_taken" "places_taken" sPlaces
  hasRoom : Fx K "has_room" "has_room" sHasRoom
  areB : Fx K "are_bytes" "are_bytes" sAreB
  without : Fx K "without_free" "without_free" sWithout
  oi : Ix K c.so "Store" "Store.__init__" sOI
  begin_ : Mx K c.so "begin" "Store.begin" sBegin
  setRule : Mx K c.so "set_rule" "Store.set_rule" sSetRule
  start : Mx K c.so "start_stream" "Store.start_stream" sStart
  feed : Mx K c.so "feed" "Store.feed" sFeed
  close : Mx K c.so "close" "Store.close" sClose
  drop : Mx K c.so "drop" "Store.drop" sDrop
  size : Mx K c.so "size" "Store.size" sSize
  bytesFrom : Mx K c.so "bytes_from" "Store.bytes_from" sBytesFrom
  pieceL : Mx K c.so "piece_lengths" "Store.piece_lengths" sPieceL
  tailB : Mx K c.so "tail_bytes" "Store.tail_bytes" sTailB
  hasP : Mx K c.so "has_piece" "Store.has_piece" sHasP
  sharedM : Mx K c.so "shared" "Store.shared" sSharedM
  kept : Mx K c.so "kept" "Store.kept" sKept
  taken : Mx K c.so "is_taken" "Store.is_taken" sTaken
  grow : Mx K c.so "can_grow" "Store.can_grow" sGrow
  free : Mx K c.so "free_numbers" "Store.free_numbers" sFree
  with_ : Mx K c.so "streams_with" "Store.streams_with" sWith
  di : Ix K c.rd "Reader" "Reader.__init__" sDI
  atEnd : Mx K c.rd "at_end" "Reader.at_end" sAtEnd
  take : Mx K c.rd "take" "Reader.take" sTake
  takeRow : Mx K c.rd "take_row" "Reader.take_row" sTakeRow
  aTable : Fx K "answer_table" "answer_table" sATable
  aFeed : Fx K "answer_feed" "answer_feed" sAFeed
  aRead : Fx K "answer_read" "answer_read" sARead
  aShared : Fx K "answer_shared" "answer_shared" sAShared
  aCall : Fx K "answer_call" "answer_call" sACall
section
variable {P : Program} {w : World} {K : PySem.W.Frag} {mg : Str → Option Value} {base h : Heap} {c : Cs} {k : Nat} {x m qual : Str} {st : Stmt} {ps : List Str} {sp : Sp} {C : Addr}
abbrev BindOk (x qual : Str) (st : Stmt) (ps : List Str) : Prop := ∀ (kV doc pm : Value) (an : Option Addr) (cdv ct : Value) (us : List Value), us.length = ps.length → bindArgs (PySem.W.fnOf x qual (defArgs st) (defBody st) (defScope st) .none kV doc pm an cdv ct) ⟨us, []⟩ = pure (ps.zip us)
theorem gfn (X : K.In h) (N : h.Ns mainGlobals mg) (F : Fx K x qual st) (b : BindOk x qual st ps) (ok : ∀ {f fd}, Fun K x qual st f fd → FnOk P w K mg base CX0 k f fd ps sp) : GFn P w K mg base k x ps sp := by
  obtain ⟨f, fd, F, a⟩ := F.ex
  exact ⟨f, fd, ok F, F.binds b, PySem.W.mg_of X N a, F.kp⟩
theorem mfn (F : Mx K C m qual st) (b : BindOk m qual st ps) (ok : ∀ {f fd}, Fun K m qual st f fd → FnOk P w K mg base CX0 k f fd ps sp) : MFn P w K mg base k C m ps sp := by
  obtain ⟨f, fd, F, M⟩ := F.ex
  exact ⟨f, fd, ok F, F.binds b, M⟩
theorem cfn (X : K.In h) (N : h.Ns mainGlobals mg) (F : Ix K C x qual st) (b : BindOk "__init__" qual st ps) (ok : ∀ {f fd}, Fun K "__init__" qual st f fd → FnOk P w K mg base CX0 k f fd ps sp) : CFn P w K mg base k C x ps sp := by
  obtain ⟨f, fd, F, M, n⟩ := F.ex
  exact ⟨f, fd, ok F, F.binds b, M, PySem.W.mg_of X N n⟩
theorem b0 {x qual : Str} {st : Stmt} (h : ∀ (kV doc pm : Value) (an : Option Addr) (cdv ct : Value), bindArgs (PySem.W.fnOf x qual (defArgs st) (defBody st) (defScope st) .none kV doc pm an cdv ct) ⟨[], []⟩ = pure (([] : List Str).zip [])) : BindOk x qual st [] := fun kV doc pm an cdv ct us hl => match us, hl with | [], _ => h kV doc pm an cdv ct
set_option maxHeartbeats 8000000 in
theorem all_ok (X : K.In h) (N : h.Ns mainGlobals mg) (T : Txt K mg c) (A : Fall K c) {f : Addr} {fd : FuncData} (F : Fun K "answers" "answers" sAns f fd) : FnOk P w K mg base CX0 7 f fd ["calls"] (spAns K) := by
  have ri := cfn (P := P) (w := w) (mg := mg) (base := base) X N A.ri (ps := ["self", "bits", "least", "most", "table"]) (fun _ _ _ _ _ _ us hl => match us, hl with | [_, _, _, _, _], _ => rfl) fun F => ok_ri F T
  have next := mfn (P := P) (w := w) (mg := mg) (base := base) A.next (ps := ["self", "number", "byte"]) (fun _ _ _ _ _ _ us hl => match us, hl with | [_, _, _], _ => rfl) fun F => ok_next F T
  have ends := mfn (P := P) (w := w) (mg := mg) (base := base) A.ends (ps := ["self", "length", "number"]) (fun _ _ _ _ _ _ us hl => match us, hl with | [_, _, _], _ => rfl) fun F => ok_ends F T
  have first := gfn (P := P) (w := w) (base := base) X N A.first (ps := []) (fun _ _ _ _ _ _ us hl => match us, hl with | [], _ => rfl) fun F => ok_first F T ri
  have isRule := gfn (P := P) (w := w) (base := base) X N A.isRule (ps := ["bits", "least", "most", "numbers"]) (fun _ _ _ _ _ _ us hl => match us, hl with | [_, _, _, _], _ => rfl) fun F => ok_isRule F T
  have cut := gfn (P := P) (w := w) (base := base) X N A.cut (ps := ["rule", "some"]) (fun _ _ _ _ _ _ us hl => match us, hl with | [_, _], _ => rfl) fun F => ok_cut F T next ends
  have si := cfn (P := P) (w := w) (mg := mg) (base := base) X N A.si (ps := ["self", "pieces", "tail", "closed"]) (fun _ _ _ _ _ _ us hl => match us, hl with | [_, _, _, _], _ => rfl) fun F => ok_si F T
  have newS := gfn (P := P) (w := w) (base := base) X N A.newS (ps := []) (fun _ _ _ _ _ _ us hl => match us, hl with | [], _ => rfl) fun F => ok_newS F T si
  have fed := gfn (P := P) (w := w) (base := base) X N A.fed (ps := ["stream", "rule", "some"]) (fun _ _ _ _ _ _ us hl => match us, hl with | [_, _, _], _ => rfl) fun F => ok_fed F T si cut
  have closed := gfn (P := P) (w := w) (base := base) X N A.closed (ps := ["stream"]) (fun _ _ _ _ _ _ us hl => match us, hl with | [_], _ => rfl) fun F => ok_closed F T si
  have count := gfn (P := P) (w := w) (base := base) X N A.count (ps := ["stream"]) (fun _ _ _ _ _ _ us hl => match us, hl with | [_], _ => rfl) fun F => ok_count F T
  have bytes := gfn (P := P) (w := w) (base := base) X N A.bytes (ps := ["stream"]) (fun _ _ _ _ _ _ us hl => match us, hl with | [_], _ => rfl) fun F => ok_bytes F T
  have diff := gfn (P := P) (w := w) (base := base) X N A.diff (ps := ["streams"]) (fun _ _ _ _ _ _ us hl => match us, hl with | [_], _ => rfl) fun F => ok_diff F T
  have shared := gfn (P := P) (w := w) (base := base) X N A.shared (ps := ["stream", "other"]) (fun _ _ _ _ _ _ us hl => match us, hl with | [_, _], _ => rfl) fun F => ok_shared F T diff
  have room := gfn (P := P) (w := w) (base := base) X N A.room (ps := ["streams"]) (fun _ _ _ _ _ _ us hl => match us, hl with | [_], _ => rfl) fun F => ok_room F T diff
  have places := gfn (P := P) (w := w) (base := base) X N A.places (ps := ["streams"]) (fun _ _ _ _ _ _ us hl => match us, hl with | [_], _ => rfl) fun F => ok_places F T
  have hasRoom := gfn (P := P) (w := w) (base := base) X N A.hasRoom (ps := ["streams"]) (fun _ _ _ _ _ _ us hl => match us, hl with | [_], _ => rfl) fun F => ok_hasRoom F T room places
  have areB := gfn (P := P) (w := w) (base := base) X N A.areB (ps := ["some"]) (fun _ _ _ _ _ _ us hl => match us, hl with | [_], _ => rfl) fun F => ok_areB F T
  have without := gfn (P := P) (w := w) (base := base) X N A.without (ps := ["streams"]) (fun _ _ _ _ _ _ us hl => match us, hl with | [_], _ => rfl) fun F => ok_without F T
  have oi := cfn (P := P) (w := w) (mg := mg) (base := base) X N A.oi (ps := ["self"]) (fun _ _ _ _ _ _ us hl => match us, hl with | [_], _ => rfl) fun F => ok_oi F T first
  have free := mfn (P := P) (w := w) (mg := mg) (base := base) A.free (ps := ["self"]) (fun _ _ _ _ _ _ us hl => match us, hl with | [_], _ => rfl) fun F => ok_free F T
  have with_ := mfn (P := P) (w := w) (mg := mg) (base := base) A.with_ (ps := ["self", "number", "stream"]) (fun _ _ _ _ _ _ us hl => match us, hl with | [_, _, _], _ => rfl) fun F => ok_with F T
  have taken := mfn (P := P) (w := w) (mg := mg) (base := base) A.taken (ps := ["self", "number"]) (fun _ _ _ _ _ _ us hl => match us, hl with | [_, _], _ => rfl) fun F => ok_taken F T
  have grow := mfn (P := P) (w := w) (mg := mg) (base := base) A.grow (ps := ["self", "number"]) (fun _ _ _ _ _ _ us hl => match us, hl with | [_, _], _ => rfl) fun F => ok_grow F T taken
  have begin_ := mfn (P := P) (w := w) (mg := mg) (base := base) A.begin_ (ps := ["self"]) (fun _ _ _ _ _ _ us hl => match us, hl with | [_], _ => rfl) fun F => ok_begin F T first
  have setRule := mfn (P := P) (w := w) (mg := mg) (base := base) A.setRule (ps := ["self", "bits", "least", "most", "numbers"]) (fun _ _ _ _ _ _ us hl => match us, hl with | [_, _, _, _, _], _ => rfl) fun F => ok_setRule F T isRule free ri
  have start := mfn (P := P) (w := w) (mg := mg) (base := base) A.start (ps := ["self"]) (fun _ _ _ _ _ _ us hl => match us, hl with | [_], _ => rfl) fun F => ok_start F T free with_ newS
  have feed := mfn (P := P) (w := w) (mg := mg) (base := base) A.feed (ps := ["self", "number", "some"]) (fun _ _ _ _ _ _ us hl => match us, hl with | [_, _, _], _ => rfl) fun F => ok_feed F T grow areB count with_ fed hasRoom without
  have close := mfn (P := P) (w := w) (mg := mg) (base := base) A.close (ps := ["self", "number"]) (fun _ _ _ _ _ _ us hl => match us, hl with | [_, _], _ => rfl) fun F => ok_close F T grow with_ closed
  have drop := mfn (P := P) (w := w) (mg := mg) (base := base) A.drop (ps := ["self", "number"]) (fun _ _ _ _ _ _ us hl => match us, hl with | [_, _], _ => rfl) fun F => ok_drop F T taken with_
  have size := mfn (P := P) (w := w) (mg := mg) (base := base) A.size (ps := ["self", "number"]) (fun _ _ _ _ _ _ us hl => match us, hl with | [_, _], _ => rfl) fun F => ok_size F T taken count
  have bytesFrom := mfn (P := P) (w := w) (mg := mg) (base := base) A.bytesFrom (ps := ["self", "number", "start", "cap"]) (fun _ _ _ _ _ _ us hl => match us, hl with | [_, _, _, _], _ => rfl) fun F => ok_bytesFrom F T taken bytes
  have pieceL := mfn (P := P) (w := w) (mg := mg) (base := base) A.pieceL (ps := ["self", "number"]) (fun _ _ _ _ _ _ us hl => match us, hl with | [_, _], _ => rfl) fun F => ok_pieceL F T taken
  have tailB := mfn (P := P) (w := w) (mg := mg) (base := base) A.tailB (ps := ["self", "number"]) (fun _ _ _ _ _ _ us hl => match us, hl with | [_, _], _ => rfl) fun F => ok_tailB F T taken
  have hasP := mfn (P := P) (w := w) (mg := mg) (base := base) A.hasP (ps := ["self", "some"]) (fun _ _ _ _ _ _ us hl => match us, hl with | [_, _], _ => rfl) fun F => ok_hasP F T diff without
  have sharedM := mfn (P := P) (w := w) (mg := mg) (base := base) A.sharedM (ps := ["self", "number", "other"]) (fun _ _ _ _ _ _ us hl => match us, hl with | [_, _, _], _ => rfl) fun F => ok_sharedM F T taken shared
  have kept := mfn (P := P) (w := w) (mg := mg) (base := base) A.kept (ps := ["self"]) (fun _ _ _ _ _ _ us hl => match us, hl with | [_], _ => rfl) fun F => ok_kept F T without room places diff
  have di := cfn (P := P) (w := w) (mg := mg) (base := base) X N A.di (ps := ["self", "calls"]) (fun _ _ _ _ _ _ us hl => match us, hl with | [_, _], _ => rfl) fun F => ok_di F T
  have atEnd := mfn (P := P) (w := w) (mg := mg) (base := base) A.atEnd (ps := ["self"]) (fun _ _ _ _ _ _ us hl => match us, hl with | [_], _ => rfl) fun F => ok_atEnd F T
  have take := mfn (P := P) (w := w) (mg := mg) (base := base) A.take (ps := ["self"]) (fun _ _ _ _ _ _ us hl => match us, hl with | [_], _ => rfl) fun F => ok_take F T
  have takeRow := mfn (P := P) (w := w) (mg := mg) (base := base) A.takeRow (ps := ["self"]) (fun _ _ _ _ _ _ us hl => match us, hl with | [_], _ => rfl) fun F => ok_takeRow F T take
  have aTable := gfn (P := P) (w := w) (base := base) X N A.aTable (ps := ["store", "reader"]) (fun _ _ _ _ _ _ us hl => match us, hl with | [_, _], _ => rfl) fun F => ok_aTable F T take takeRow setRule
  have aFeed := gfn (P := P) (w := w) (base := base) X N A.aFeed (ps := ["store", "reader"]) (fun _ _ _ _ _ _ us hl => match us, hl with | [_, _], _ => rfl) fun F => ok_aFeed F T take takeRow feed
  have aRead := gfn (P := P) (w := w) (base := base) X N A.aRead (ps := ["store", "reader"]) (fun _ _ _ _ _ _ us hl => match us, hl with | [_, _], _ => rfl) fun F => ok_aRead F T take bytesFrom
  have aShared := gfn (P := P) (w := w) (base := base) X N A.aShared (ps := ["store", "reader"]) (fun _ _ _ _ _ _ us hl => match us, hl with | [_, _], _ => rfl) fun F => ok_aShared F T take sharedM
  have aCall := gfn (P := P) (w := w) (base := base) X N A.aCall (ps := ["store", "reader"]) (fun _ _ _ _ _ _ us hl => match us, hl with | [_, _], _ => rfl) fun F =>
    ok_aCall F T ⟨take, takeRow, begin_, start, close, drop, size, pieceL, tailB, hasP, kept, aTable, aFeed, aRead, aShared⟩
  exact ok_ans F T oi di atEnd aCall
end
end CP
end
set_option Elab.async false
set_option linter.all false
set_option maxRecDepth 100000
set_option maxHeartbeats 4000000
namespace CP
open PySem PySem.Spec PyProof.Rows L2
open PySem.W (nsIn findIn plainGet hasDictIn plainOver)
section
variable {P : Program} {w : World} {K : PySem.W.Frag} {mg : Str → Option Value} {h : Heap} {fa C ru st so rd : Addr}
theorem gi_mk {x : Str} {i : Int} {t : Tok} (X : K.In h) (N : h.Ns mainGlobals mg) (e : nsIn K mainGlobals x = some (some (.int i t))) : GI mg x i := ⟨t, PySem.W.mg_of X N e⟩
theorem cls_mk (pg : plainGet K C Str.empty = true) (hd : hasDictIn K C = true) (po : plainOver K C = true) (sa : findIn K (.ref C) "__setattr__" = some (some (.builtin "object.__setattr__"))) : Cls K C := ⟨pg, hd, po, sa⟩

theorem txt_mk (clR : Cls K ru)
    (clS : Cls K st)
    (clO : Cls K so)
    (clD : Cls K rd)
    (nLimit : findIn K (.ref ru) "limit" = some none)
    (nLeast : findIn K (.ref ru) "least" = some none)
    (nMost : findIn K (.ref ru) "most" = some none)
    (nTable : findIn K (.ref ru) "table" = some none)
    (nPieces : findIn K (.ref st) "pieces" = some none)
    (nTail : findIn K (.ref st) "tail" = some none)
    (nClosed : findIn K (.ref st) "closed" = some none)
    (nRule : findIn K (.ref so) "rule" = some none)
    (nStreams : findIn K (.ref so) "streams" = some none)
    (nCalls : findIn K (.ref rd) "calls" = some none)
    (nPlace : findIn K (.ref rd) "place" = some none)
    (n_len : mg "len" = none)
    (n_sum : mg "sum" = none)
    (n_all : mg "all" = none)
    (n_list : mg "list" = none)
    (n_tuple : mg "tuple" = none)
    (n_range : mg "range" = none)
    (cMOD : GI mg "MODULUS" 4294967296)
    (cTL : GI mg "TABLE_LENGTH" 256)
    (cMB : GI mg "MOST_BITS" 16)
    (cLP : GI mg "LARGEST_PIECE" 256)
    (cFS : GI mg "FIRST_SIZE" 64)
    (cMR : GI mg "MOST_ROOM" 4096)
    (cMP : GI mg "MOST_PLACES" 256)
    (cSC : GI mg "STREAM_COUNT" 8)
    (cBY : GI mg "MOST_BYTES" 2048)
    (cLB : GI mg "LARGEST_BYTE" 255)
    (cN1 : GI mg "NO_SUCH_STREAM" (-1))
    (cN2 : GI mg "NO_RULE" (-2))
    (cN3 : GI mg "TOO_LONG" (-3))
    (cN4 : GI mg "NONE_FREE" (-4))
    (cN5 : GI mg "NO_ROOM" (-5))
    (cN6 : GI mg "NOT_ALL_FREE" (-6))
    (c1 : GI mg "BEGIN" 1)
    (c2 : GI mg "TABLE" 2)
    (c3 : GI mg "OPEN" 3)
    (c4 : GI mg "FEED" 4)
    (c5 : GI mg "CLOSE" 5)
    (c6 : GI mg "DROP" 6)
    (c7 : GI mg "SIZE" 7)
    (c8 : GI mg "READ" 8)
    (c9 : GI mg "PIECES" 9)
    (c10 : GI mg "TAIL" 10)
    (c11 : GI mg "HAS" 11)
    (c12 : GI mg "SHARED" 12)
    (c13 : GI mg "KEPT" 13) : Txt K mg ⟨ru, st, so, rd⟩ :=
  ⟨clR, clS, clO, clD, nLimit, nLeast, nMost, nTable, nPieces, nTail, nClosed, nRule, nStreams, nCalls, nPlace, n_len, n_sum, n_all, n_list, n_tuple, n_range, cMOD, cTL, cMB, cLP, cFS, cMR, cMP, cSC, cBY, cLB, cN1, cN2, cN3, cN4, cN5, cN6, c1, c2, c3, c4, c5, c6, c7, c8, c9, c10, c11, c12, c13⟩

theorem fall_mk (f_ri : Ix K ru "Rule" "Rule.__init__" sRI)
    (f_next : Mx K ru "next_number" "Rule.next_number" sNext)
    (f_ends : Mx K ru "ends_piece" "Rule.ends_piece" sEnds)
    (f_first : Fx K "first_rule" "first_rule" sFirst)
    (f_isRule : Fx K "is_rule" "is_rule" sIsRule)
    (f_cut : Fx K "cut" "cut" sCut)
    (f_si : Ix K st "Stream" "Stream.__init__" sSI)
    (f_newS : Fx K "new_stream" "new_stream" sNewS)
    (f_fed : Fx K "fed_stream" "fed_stream" sFed)
    (f_closed : Fx K "closed_stream" "closed_stream" sClosed)
    (f_count : Fx K "count_bytes" "count_bytes" sCount)
    (f_bytes : Fx K "bytes_of" "bytes_of" sBytes)
    (f_diff : Fx K "different_pieces" "different_pieces" sDiff)
    (f_shared : Fx K "count_shared" "count_shared" sShared)
    (f_room : Fx K "room_taken" "room_taken" sRoom)
    (f_places : Fx K "places_taken" "places_taken" sPlaces)
    (f_hasRoom : Fx K "has_room" "has_room" sHasRoom)
    (f_areB : Fx K "are_bytes" "are_bytes" sAreB)
    (f_without : Fx K "without_free" "without_free" sWithout)
    (f_oi : Ix K so "Store" "Store.__init__" sOI)
    (f_begin_ : Mx K so "begin" "Store.begin" sBegin)
    (f_setRule : Mx K so "set_rule" "Store.set_rule" sSetRule)
    (f_start : Mx K so "start_stream" "Store.start_stream" sStart)
    (f_feed : Mx K so "feed" "Store.feed" sFeed)
    (f_close : Mx K so "close" "Store.close" sClose)
    (f_drop : Mx K so "drop" "Store.drop" sDrop)
    (f_size : Mx K so "size" "Store.size" sSize)
    (f_bytesFrom : Mx K so "bytes_from" "Store.bytes_from" sBytesFrom)
    (f_pieceL : Mx K so "piece_lengths" "Store.piece_lengths" sPieceL)
    (f_tailB : Mx K so "tail_bytes" "Store.tail_bytes" sTailB)
    (f_hasP : Mx K so "has_piece" "Store.has_piece" sHasP)
    (f_sharedM : Mx K so "shared" "Store.shared" sSharedM)
    (f_kept : Mx K so "kept" "Store.kept" sKept)
    (f_taken : Mx K so "is_taken" "Store.is_taken" sTaken)
    (f_grow : Mx K so "can_grow" "Store.can_grow" sGrow)
    (f_free : Mx K so "free_numbers" "Store.free_numbers" sFree)
    (f_with_ : Mx K so "streams_with" "Store.streams_with" sWith)
    (f_di : Ix K rd "Reader" "Reader.__init__" sDI)
    (f_atEnd : Mx K rd "at_end" "Reader.at_end" sAtEnd)
    (f_take : Mx K rd "take" "Reader.take" sTake)
    (f_takeRow : Mx K rd "take_row" "Reader.take_row" sTakeRow)
    (f_aTable : Fx K "answer_table" "answer_table" sATable)
    (f_aFeed : Fx K "answer_feed" "answer_feed" sAFeed)
    (f_aRead : Fx K "answer_read" "answer_read" sARead)
    (f_aShared : Fx K "answer_shared" "answer_shared" sAShared)
    (f_aCall : Fx K "answer_call" "answer_call" sACall) : Fall K ⟨ru, st, so, rd⟩ :=
  ⟨f_ri, f_next, f_ends, f_first, f_isRule, f_cut, f_si, f_newS, f_fed, f_closed, f_count, f_bytes, f_diff, f_shared, f_room, f_places, f_hasRoom, f_areB, f_without, f_oi, f_begin_, f_setRule, f_start, f_feed, f_close, f_drop, f_size, f_bytesFrom, f_pieceL, f_tailB, f_hasP, f_sharedM, f_kept, f_taken, f_grow, f_free, f_with_, f_di, f_atEnd, f_take, f_takeRow, f_aTable, f_aFeed, f_aRead, f_aShared, f_aCall⟩

theorem fin (X : K.In h) (N : h.Ns mainGlobals mg) (hfa : mg "answers" = some (.ref fa)) (A : Fall K ⟨ru, st, so, rd⟩) (T : Txt K mg ⟨ru, st, so, rd⟩) (a : Fx K "answers" "answers" sAns) :
    ∃ fd : FuncData, (∀ (s : Shared) (us : List Value), us.length = (["calls"] : List Str).length → BindsTo s fd ⟨us, []⟩ ((["calls"] : List Str).zip us)) ∧
      ∀ base : Heap, K.In base → base.Ns mainGlobals mg → FnOk P w K mg base CX0 7 fa fd ["calls"] (spAns K) := by
  obtain ⟨f, fd, F, n⟩ := a.ex
  have e := hfa.symm.trans (PySem.W.mg_of X N n)
  cases e
  obtain ⟨oc, od, kV, doc, pm, an, cdv, ct, osl, rfl, lk, hcd⟩ := id F.ex
  exact ⟨_, fun s us hu => match us, hu with | [_], _ => .of_eq rfl, fun base _ _ => all_ok X N T A F⟩
end
end CP
/-! The head makes a twin of each of its heaps, with an equation as long as many copies of the heap; where the twin's name is taken it goes on without that twin. Seven names are taken here, for the compiled file's size alone: the statement and what is proved are the same with and without these rows. -/
def PySem.W.Fast.tw16426119598722003759 : Unit := ()
def PySem.W.Fast.tw7851779880555251146 : Unit := ()
def PySem.W.Fast.tw6585720975476278318 : Unit := ()
def PySem.W.Fast.tw1923817880816627000 : Unit := ()
def PySem.W.Fast.tw5542579019451613479 : Unit := ()
def PySem.W.Fast.tw7501329003834598937 : Unit := ()
def PySem.W.Fast.tw17187207948929300287 : Unit := ()
open PySem PySem.W PyProof.Rows
set_option maxRecDepth 100000 in
set_option maxHeartbeats 0 in
theorem PySem.Challenge.cw_cutstreams_s01_answers_holds : PySem.Challenge.rw_cutstreams_s01_answers.Holds := by
  w_on; k_headS; (case hw => exact ⟨[.list []], by decide +kernel, by decide +kernel⟩)
  k_fillS
  refine L2.walk_specK (r := PySem.Challenge.rw_cutstreams_s01_answers) (k := 7) (CX := L2.CX0) (ps := ["calls"]) (sp := CP.spAns) (by decide +kernel) rfl rfl ⟨rfl, by decide, by decide⟩ (fun w h Y => PySem.W.kIn_of Y) ?F ?S (fun _ _ _ _ z => z)
  case F =>
    intro w mg fa h Y KX G hmg
    refine' CP.fin KX G hmg ?A ?T ?an
    case A =>
      refine' CP.fall_mk ?f_ri ?f_next ?f_ends ?f_first ?f_isRule ?f_cut ?f_si ?f_newS ?f_fed ?f_closed ?f_count ?f_bytes ?f_diff ?f_shared ?f_room ?f_places ?f_hasRoom ?f_areB ?f_without ?f_oi ?f_begin_ ?f_setRule ?f_start ?f_feed ?f_close ?f_drop ?f_size ?f_bytesFrom ?f_pieceL ?f_tailB ?f_hasP ?f_sharedM ?f_kept ?f_taken ?f_grow ?f_free ?f_with_ ?f_di ?f_atEnd ?f_take ?f_takeRow ?f_aTable ?f_aFeed ?f_aRead ?f_aShared ?f_aCall
      (case f_ri => (refine' CP.ix_mk ?ri_n ?ri_a ?ri_i ?ri_l ?ri_c ?ri_k ?ri_mk ?ri_kc; (case ri_n => k_is); (case ri_a => k_is); (case ri_i => k_is); (case ri_l => k_is); (case ri_c => k_is); (case ri_k => k_is); (case ri_mk => k_is); (case ri_kc => k_is)))
      (case f_si => (refine' CP.ix_mk ?si_n ?si_a ?si_i ?si_l ?si_c ?si_k ?si_mk ?si_kc; (case si_n => k_is); (case si_a => k_is); (case si_i => k_is); (case si_l => k_is); (case si_c => k_is); (case si_k => k_is); (case si_mk => k_is); (case si_kc => k_is)))
      (case f_oi => (refine' CP.ix_mk ?oi_n ?oi_a ?oi_i ?oi_l ?oi_c ?oi_k ?oi_mk ?oi_kc; (case oi_n => k_is); (case oi_a => k_is); (case oi_i => k_is); (case oi_l => k_is); (case oi_c => k_is); (case oi_k => k_is); (case oi_mk => k_is); (case oi_kc => k_is)))
      (case f_di => (refine' CP.ix_mk ?di_n ?di_a ?di_i ?di_l ?di_c ?di_k ?di_mk ?di_kc; (case di_n => k_is); (case di_a => k_is); (case di_i => k_is); (case di_l => k_is); (case di_c => k_is); (case di_k => k_is); (case di_mk => k_is); (case di_kc => k_is)))
      (case f_next => (refine' CP.mx_mk ?next_a ?next_i ?next_l ?next_c ?next_k; (case next_a => k_is); (case next_i => k_is); (case next_l => k_is); (case next_c => k_is); (case next_k => k_is)))
      (case f_ends => (refine' CP.mx_mk ?ends_a ?ends_i ?ends_l ?ends_c ?ends_k; (case ends_a => k_is); (case ends_i => k_is); (case ends_l => k_is); (case ends_c => k_is); (case ends_k => k_is)))
      (case f_first => (refine' CP.fx_mk ?first_a ?first_l ?first_c ?first_k; (case first_a => k_is); (case first_l => k_is); (case first_c => k_is); (case first_k => k_is)))
      (case f_isRule => (refine' CP.fx_mk ?isRule_a ?isRule_l ?isRule_c ?isRule_k; (case isRule_a => k_is); (case isRule_l => k_is); (case isRule_c => k_is); (case isRule_k => k_is)))
      (case f_cut => (refine' CP.fx_mk ?cut_a ?cut_l ?cut_c ?cut_k; (case cut_a => k_is); (case cut_l => k_is); (case cut_c => k_is); (case cut_k => k_is)))
      (case f_newS => (refine' CP.fx_mk ?newS_a ?newS_l ?newS_c ?newS_k; (case newS_a => k_is); (case newS_l => k_is); (case newS_c => k_is); (case newS_k => k_is)))
      (case f_fed => (refine' CP.fx_mk ?fed_a ?fed_l ?fed_c ?fed_k; (case fed_a => k_is); (case fed_l => k_is); (case fed_c => k_is); (case fed_k => k_is)))
      (case f_closed => (refine' CP.fx_mk ?closed_a ?closed_l ?closed_c ?closed_k; (case closed_a => k_is); (case closed_l => k_is); (case closed_c => k_is); (case closed_k => k_is)))
      (case f_count => (refine' CP.fx_mk ?count_a ?count_l ?count_c ?count_k; (case count_a => k_is); (case count_l => k_is); (case count_c => k_is); (case count_k => k_is)))
      (case f_bytes => (refine' CP.fx_mk ?bytes_a ?bytes_l ?bytes_c ?bytes_k; (case bytes_a => k_is); (case bytes_l => k_is); (case bytes_c => k_is); (case bytes_k => k_is)))
      (case f_diff => (refine' CP.fx_mk ?diff_a ?diff_l ?diff_c ?diff_k; (case diff_a => k_is); (case diff_l => k_is); (case diff_c => k_is); (case diff_k => k_is)))
      (case f_shared => (refine' CP.fx_mk ?shared_a ?shared_l ?shared_c ?shared_k; (case shared_a => k_is); (case shared_l => k_is); (case shared_c => k_is); (case shared_k => k_is)))
      (case f_room => (refine' CP.fx_mk ?room_a ?room_l ?room_c ?room_k; (case room_a => k_is); (case room_l => k_is); (case room_c => k_is); (case room_k => k_is)))
      (case f_places => (refine' CP.fx_mk ?places_a ?places_l ?places_c ?places_k; (case places_a => k_is); (case places_l => k_is); (case places_c => k_is); (case places_k => k_is)))
      (case f_hasRoom => (refine' CP.fx_mk ?hasRoom_a ?hasRoom_l ?hasRoom_c ?hasRoom_k; (case hasRoom_a => k_is); (case hasRoom_l => k_is); (case hasRoom_c => k_is); (case hasRoom_k => k_is)))
      (case f_areB => (refine' CP.fx_mk ?areB_a ?areB_l ?areB_c ?areB_k; (case areB_a => k_is); (case areB_l => k_is); (case areB_c => k_is); (case areB_k => k_is)))
      (case f_without => (refine' CP.fx_mk ?without_a ?without_l ?without_c ?without_k; (case without_a => k_is); (case without_l => k_is); (case without_c => k_is); (case without_k => k_is)))
      (case f_begin_ => (refine' CP.mx_mk ?begin__a ?begin__i ?begin__l ?begin__c ?begin__k; (case begin__a => k_is); (case begin__i => k_is); (case begin__l => k_is); (case begin__c => k_is); (case begin__k => k_is)))
      (case f_setRule => (refine' CP.mx_mk ?setRule_a ?setRule_i ?setRule_l ?setRule_c ?setRule_k; (case setRule_a => k_is); (case setRule_i => k_is); (case setRule_l => k_is); (case setRule_c => k_is); (case setRule_k => k_is)))
      (case f_start => (refine' CP.mx_mk ?start_a ?start_i ?start_l ?start_c ?start_k; (case start_a => k_is); (case start_i => k_is); (case start_l => k_is); (case start_c => k_is); (case start_k => k_is)))
      (case f_feed => (refine' CP.mx_mk ?feed_a ?feed_i ?feed_l ?feed_c ?feed_k; (case feed_a => k_is); (case feed_i => k_is); (case feed_l => k_is); (case feed_c => k_is); (case feed_k => k_is)))
      (case f_close => (refine' CP.mx_mk ?close_a ?close_i ?close_l ?close_c ?close_k; (case close_a => k_is); (case close_i => k_is); (case close_l => k_is); (case close_c => k_is); (case close_k => k_is)))
      (case f_drop => (refine' CP.mx_mk ?drop_a ?drop_i ?drop_l ?drop_c ?drop_k; (case drop_a => k_is); (case drop_i => k_is); (case drop_l => k_is); (case drop_c => k_is); (case drop_k => k_is)))
      (case f_size => (refine' CP.mx_mk ?size_a ?size_i ?size_l ?size_c ?size_k; (case size_a => k_is); (case size_i => k_is); (case size_l => k_is); (case size_c => k_is); (case size_k => k_is)))
      (case f_bytesFrom => (refine' CP.mx_mk ?bytesFrom_a ?bytesFrom_i ?bytesFrom_l ?bytesFrom_c ?bytesFrom_k; (case bytesFrom_a => k_is); (case bytesFrom_i => k_is); (case bytesFrom_l => k_is); (case bytesFrom_c => k_is); (case bytesFrom_k => k_is)))
      (case f_pieceL => (refine' CP.mx_mk ?pieceL_a ?pieceL_i ?pieceL_l ?pieceL_c ?pieceL_k; (case pieceL_a => k_is); (case pieceL_i => k_is); (case pieceL_l => k_is); (case pieceL_c => k_is); (case pieceL_k => k_is)))
      (case f_tailB => (refine' CP.mx_mk ?tailB_a ?tailB_i ?tailB_l ?tailB_c ?tailB_k; (case tailB_a => k_is); (case tailB_i => k_is); (case tailB_l => k_is); (case tailB_c => k_is); (case tailB_k => k_is)))
      (case f_hasP => (refine' CP.mx_mk ?hasP_a ?hasP_i ?hasP_l ?hasP_c ?hasP_k; (case hasP_a => k_is); (case hasP_i => k_is); (case hasP_l => k_is); (case hasP_c => k_is); (case hasP_k => k_is)))
      (case f_sharedM => (refine' CP.mx_mk ?sharedM_a ?sharedM_i ?sharedM_l ?sharedM_c ?sharedM_k; (case sharedM_a => k_is); (case sharedM_i => k_is); (case sharedM_l => k_is); (case sharedM_c => k_is); (case sharedM_k => k_is)))
      (case f_kept => (refine' CP.mx_mk ?kept_a ?kept_i ?kept_l ?kept_c ?kept_k; (case kept_a => k_is); (case kept_i => k_is); (case kept_l => k_is); (case kept_c => k_is); (case kept_k => k_is)))
      (case f_taken => (refine' CP.mx_mk ?taken_a ?taken_i ?taken_l ?taken_c ?taken_k; (case taken_a => k_is); (case taken_i => k_is); (case taken_l => k_is); (case taken_c => k_is); (case taken_k => k_is)))
      (case f_grow => (refine' CP.mx_mk ?grow_a ?grow_i ?grow_l ?grow_c ?grow_k; (case grow_a => k_is); (case grow_i => k_is); (case grow_l => k_is); (case grow_c => k_is); (case grow_k => k_is)))
      (case f_free => (refine' CP.mx_mk ?free_a ?free_i ?free_l ?free_c ?free_k; (case free_a => k_is); (case free_i => k_is); (case free_l => k_is); (case free_c => k_is); (case free_k => k_is)))
      (case f_with_ => (refine' CP.mx_mk ?with__a ?with__i ?with__l ?with__c ?with__k; (case with__a => k_is); (case with__i => k_is); (case with__l => k_is); (case with__c => k_is); (case with__k => k_is)))
      (case f_atEnd => (refine' CP.mx_mk ?atEnd_a ?atEnd_i ?atEnd_l ?atEnd_c ?atEnd_k; (case atEnd_a => k_is); (case atEnd_i => k_is); (case atEnd_l => k_is); (case atEnd_c => k_is); (case atEnd_k => k_is)))
      (case f_take => (refine' CP.mx_mk ?take_a ?take_i ?take_l ?take_c ?take_k; (case take_a => k_is); (case take_i => k_is); (case take_l => k_is); (case take_c => k_is); (case take_k => k_is)))
      (case f_takeRow => (refine' CP.mx_mk ?takeRow_a ?takeRow_i ?takeRow_l ?takeRow_c ?takeRow_k; (case takeRow_a => k_is); (case takeRow_i => k_is); (case takeRow_l => k_is); (case takeRow_c => k_is); (case takeRow_k => k_is)))
      (case f_aTable => (refine' CP.fx_mk ?aTable_a ?aTable_l ?aTable_c ?aTable_k; (case aTable_a => k_is); (case aTable_l => k_is); (case aTable_c => k_is); (case aTable_k => k_is)))
      (case f_aFeed => (refine' CP.fx_mk ?aFeed_a ?aFeed_l ?aFeed_c ?aFeed_k; (case aFeed_a => k_is); (case aFeed_l => k_is); (case aFeed_c => k_is); (case aFeed_k => k_is)))
      (case f_aRead => (refine' CP.fx_mk ?aRead_a ?aRead_l ?aRead_c ?aRead_k; (case aRead_a => k_is); (case aRead_l => k_is); (case aRead_c => k_is); (case aRead_k => k_is)))
      (case f_aShared => (refine' CP.fx_mk ?aShared_a ?aShared_l ?aShared_c ?aShared_k; (case aShared_a => k_is); (case aShared_l => k_is); (case aShared_c => k_is); (case aShared_k => k_is)))
      (case f_aCall => (refine' CP.fx_mk ?aCall_a ?aCall_l ?aCall_c ?aCall_k; (case aCall_a => k_is); (case aCall_l => k_is); (case aCall_c => k_is); (case aCall_k => k_is)))
    case T =>
      refine' CP.txt_mk ?clR ?clS ?clO ?clD ?nLimit ?nLeast ?nMost ?nTable ?nPieces ?nTail ?nClosed ?nRule ?nStreams ?nCalls ?nPlace ?n_len ?n_sum ?n_all ?n_list ?n_tuple ?n_range ?cMOD ?cTL ?cMB ?cLP ?cFS ?cMR ?cMP ?cSC ?cBY ?cLB ?cN1 ?cN2 ?cN3 ?cN4 ?cN5 ?cN6 ?c1 ?c2 ?c3 ?c4 ?c5 ?c6 ?c7 ?c8 ?c9 ?c10 ?c11 ?c12 ?c13
      (case clR => (refine' CP.cls_mk ?pgR ?hdR ?poR ?saR; (case pgR => k_is); (case hdR => k_is); (case poR => k_is); (case saR => k_is)))
      (case clS => (refine' CP.cls_mk ?pgS ?hdS ?poS ?saS; (case pgS => k_is); (case hdS => k_is); (case poS => k_is); (case saS => k_is)))
      (case clO => (refine' CP.cls_mk ?pgO ?hdO ?poO ?saO; (case pgO => k_is); (case hdO => k_is); (case poO => k_is); (case saO => k_is)))
      (case clD => (refine' CP.cls_mk ?pgD ?hdD ?poD ?saD; (case pgD => k_is); (case hdD => k_is); (case poD => k_is); (case saD => k_is)))
      (case nLimit => k_is)
      (case nLeast => k_is)
      (case nMost => k_is)
      (case nTable => k_is)
      (case nPieces => k_is)
      (case nTail => k_is)
      (case nClosed => k_is)
      (case nRule => k_is)
      (case nStreams => k_is)
      (case nCalls => k_is)
      (case nPlace => k_is)
      (case n_len => (refine' PySem.W.mg_none_of KX G ?e_len; (case e_len => k_is)))
      (case n_sum => (refine' PySem.W.mg_none_of KX G ?e_sum; (case e_sum => k_is)))
      (case n_all => (refine' PySem.W.mg_none_of KX G ?e_all; (case e_all => k_is)))
      (case n_list => (refine' PySem.W.mg_none_of KX G ?e_list; (case e_list => k_is)))
      (case n_tuple => (refine' PySem.W.mg_none_of KX G ?e_tuple; (case e_tuple => k_is)))
      (case n_range => (refine' PySem.W.mg_none_of KX G ?e_range; (case e_range => k_is)))
      (case cMOD => (refine' CP.gi_mk KX G ?e_cMOD; (case e_cMOD => k_is)))
      (case cTL => (refine' CP.gi_mk KX G ?e_cTL; (case e_cTL => k_is)))
      (case cMB => (refine' CP.gi_mk KX G ?e_cMB; (case e_cMB => k_is)))
      (case cLP => (refine' CP.gi_mk KX G ?e_cLP; (case e_cLP => k_is)))
      (case cFS => (refine' CP.gi_mk KX G ?e_cFS; (case e_cFS => k_is)))
      (case cMR => (refine' CP.gi_mk KX G ?e_cMR; (case e_cMR => k_is)))
      (case cMP => (refine' CP.gi_mk KX G ?e_cMP; (case e_cMP => k_is)))
      (case cSC => (refine' CP.gi_mk KX G ?e_cSC; (case e_cSC => k_is)))
      (case cBY => (refine' CP.gi_mk KX G ?e_cBY; (case e_cBY => k_is)))
      (case cLB => (refine' CP.gi_mk KX G ?e_cLB; (case e_cLB => k_is)))
      (case cN1 => (refine' CP.gi_mk KX G ?e_cN1; (case e_cN1 => k_is)))
      (case cN2 => (refine' CP.gi_mk KX G ?e_cN2; (case e_cN2 => k_is)))
      (case cN3 => (refine' CP.gi_mk KX G ?e_cN3; (case e_cN3 => k_is)))
      (case cN4 => (refine' CP.gi_mk KX G ?e_cN4; (case e_cN4 => k_is)))
      (case cN5 => (refine' CP.gi_mk KX G ?e_cN5; (case e_cN5 => k_is)))
      (case cN6 => (refine' CP.gi_mk KX G ?e_cN6; (case e_cN6 => k_is)))
      (case c1 => (refine' CP.gi_mk KX G ?e_c1; (case e_c1 => k_is)))
      (case c2 => (refine' CP.gi_mk KX G ?e_c2; (case e_c2 => k_is)))
      (case c3 => (refine' CP.gi_mk KX G ?e_c3; (case e_c3 => k_is)))
      (case c4 => (refine' CP.gi_mk KX G ?e_c4; (case e_c4 => k_is)))
      (case c5 => (refine' CP.gi_mk KX G ?e_c5; (case e_c5 => k_is)))
      (case c6 => (refine' CP.gi_mk KX G ?e_c6; (case e_c6 => k_is)))
      (case c7 => (refine' CP.gi_mk KX G ?e_c7; (case e_c7 => k_is)))
      (case c8 => (refine' CP.gi_mk KX G ?e_c8; (case e_c8 => k_is)))
      (case c9 => (refine' CP.gi_mk KX G ?e_c9; (case e_c9 => k_is)))
      (case c10 => (refine' CP.gi_mk KX G ?e_c10; (case e_c10 => k_is)))
      (case c11 => (refine' CP.gi_mk KX G ?e_c11; (case e_c11 => k_is)))
      (case c12 => (refine' CP.gi_mk KX G ?e_c12; (case e_c12 => k_is)))
      (case c13 => (refine' CP.gi_mk KX G ?e_c13; (case e_c13 => k_is)))
    case an => (refine' CP.fx_mk ?an_a ?an_l ?an_c ?an_k; (case an_a => k_is); (case an_l => k_is); (case an_c => k_is); (case an_k => k_is))
  case S =>
    intro K H xs a hO hwi hask hx
    cases hx with
    | cons h1 h2 =>
      cases h2
      cases h1 with
      | lst hs ha =>
        have e := L2.ints_dw a.1 _ ha
        subst e
        have q : ((Codec.inLen 0 31000 a.1 && a.1.all (Codec.inInt 0 4294967295)) && true) = true := hwi
        rw [Bool.and_eq_true, Bool.and_eq_true] at q
        obtain ⟨ds, e1, e2, e3, e4⟩ := CM.request (l := a.1) hask
        have hlen : a.1.length ≤ 31000 := (Codec.inNat_iff.mp q.1.1).2
        refine ⟨_, ds, rfl, ?_, ?_, e2, e3, fun H' p hp => ?_⟩
        · rw [← e1]
          exact CP.Src.of hs hO
        · rw [← e1]
          exact hlen
        · show L2.Dw K H' (.ref p) (.list ((PyWrcutp.answers a.1).map WData.int))
          rw [e4]
          exact .lst (L2.SqL.of hp) (L2.dw_ints _)
#print axioms PySem.Challenge.cw_cutstreams_s01_answers_holds
