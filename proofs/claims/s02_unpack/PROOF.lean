import PyProof.Rows.All
import Wide.All
import OpenK.AllK
import Wide.FinOn
import PyProof.EqAt
import PyProof.EqKinds
import PyProof.TupleCall
import KE.BitLaws
import KE.OsGo
import Open.SpecLaws
import PySem.Challenge.RW_shorttexts_s02_unpack
import PyKg18
set_option Elab.async false
set_option linter.all false
set_option maxRecDepth 100000
set_option maxHeartbeats 4000000

-- CHANGE: your row's module here, as the last of these rows
set_option Elab.async false
set_option linter.all false
set_option maxRecDepth 100000
/-! THE HAND LAYER, for ints, bools, texts, own classes, lists, tuples, dicts, comprehensions, walks over dicts, enumerate, zip, reversed, texts, calls, loops. Paste it whole ahead of your own text; what your proof does not reach may be deleted. -/
namespace L2
open PySem PySem.Spec PyProof.Rows

/-- a key: an int or a str -/
abbrev Key := Sum Int Str
def keyIs : Key → Value → Bool
  | .inl k, v => Value.isInt k v
  | .inr x, v => Value.isStrOf x v
def keyH (w : World) : Key → Int
  | .inl k => hashInt k
  | .inr x => hashStr w x
theorem keyIs_shape : ∀ {k : Key} {v : Value}, keyIs k v = true → (∃ i t, k = Sum.inl i ∧ v = Value.int i t) ∨ (∃ x t, k = Sum.inr x ∧ v = Value.str x t)
  | .inl i, v, h => by
    obtain ⟨t, e⟩ := Value.isInt_shape (k := i) (v := v) h
    exact .inl ⟨i, t, rfl, e⟩
  | .inr x, v, h => by
    obtain ⟨t, e⟩ := Value.isStrOf_shape (x := x) (v := v) h
    exact .inr ⟨x, t, rfl, e⟩
theorem keyIs_int (i : Int) (t : Tok) : keyIs (.inl i) (.int i t) = true := by simp [keyIs, Value.isInt]
theorem keyIs_str (x : Str) (t : Tok) : keyIs (.inr x) (.str x t) = true := by simp [keyIs, Value.isStrOf]
theorem key_ll (a b : Int) : decide ((Sum.inl a : Key) = Sum.inl b) = (a == b) := by
  by_cases e : a = b
  · subst e; simp
  · have h : ¬ (Sum.inl a : Key) = Sum.inl b := fun q => e (Sum.inl.inj q)
    rw [decide_eq_false h]
    exact (beq_eq_false_iff_ne.mpr e).symm
theorem key_rr (a b : Str) : decide ((Sum.inr a : Key) = Sum.inr b) = decide (a = b) := by
  by_cases e : a = b
  · subst e; simp
  · have h : ¬ (Sum.inr a : Key) = Sum.inr b := fun q => e (Sum.inr.inj q)
    rw [decide_eq_false h, decide_eq_false e]
theorem key_lr (a : Int) (b : Str) : decide ((Sum.inl a : Key) = Sum.inr b) = false := decide_eq_false (fun q => nomatch q)
theorem key_rl (a : Str) (b : Int) : decide ((Sum.inr a : Key) = Sum.inl b) = false := decide_eq_false (fun q => nomatch q)

def mixKind (prog : Program) (w : World) : PySem.KeyKind prog w Key where
  is := keyIs
  hash := keyH w
  inj := fun v a b ha hb => by
    rcases keyIs_shape ha with ⟨i, t, rfl, rfl⟩ | ⟨x, t, rfl, rfl⟩
    · rcases keyIs_shape hb with ⟨j, u, rfl, e⟩ | ⟨y, u, rfl, e⟩
      · injection e with e1 _; rw [e1]
      · exact nomatch e
    · rcases keyIs_shape hb with ⟨j, u, rfl, e⟩ | ⟨y, u, rfl, e⟩
      · exact nomatch e
      · injection e with e1 _; rw [e1]
  byValue := fun k v h => by
    rcases keyIs_shape h with ⟨i, t, rfl, rfl⟩ | ⟨x, t, rfl, rfl⟩ <;> rfl
  pyHash := fun hv h => by
    rcases keyIs_shape hv with ⟨i, t, rfl, rfl⟩ | ⟨x, t, rfl, rfl⟩
    · exact wpAny_pyHash_int h
    · exact wpAny_pyHash_str h
  eqBool := fun hu hv h => by
    rcases keyIs_shape hu with ⟨i, t, rfl, rfl⟩ | ⟨x, t, rfl, rfl⟩
    · rcases keyIs_shape hv with ⟨j, u, rfl, rfl⟩ | ⟨y, u, rfl, rfl⟩
      · rw [key_ll] at h; exact wpAny_eqBool_int h
      · rw [key_lr] at h; exact SeqAt.EqAt.int_str i t y u _ _ _ _ h
    · rcases keyIs_shape hv with ⟨j, u, rfl, rfl⟩ | ⟨y, u, rfl, rfl⟩
      · rw [key_rl] at h; exact SeqAt.EqAt.str_int x t j u _ _ _ _ h
      · rw [key_rr] at h; exact wpAny_eqBool_str h
  «strs» := fun k x t v h => by
    rcases keyIs_shape h with ⟨i, u, rfl, e⟩ | ⟨y, u, rfl, e⟩
    · exact nomatch e
    · injection e with e1 _
      subst e1
      cases v <;> rfl

theorem mixKind_int (prog : Program) (w : World) (i : Int) (t : Tok) : (mixKind prog w).is (.inl i) (.int i t) = true := keyIs_int i t
theorem mixKind_str (prog : Program) (w : World) (x : Str) (t : Tok) : (mixKind prog w).is (.inr x) (.str x t) = true := keyIs_str x t
end L2

namespace L2
open PySem PySem.Spec PyProof.Rows

/-- a value, without the heap -/
inductive V where
  | non | bl (b : Bool) | int (i : Int) | str (x : Str) | byt (b : Array UInt8) | flt (b : UInt64) | ref (a : Addr) | ty (n : String)
  deriving DecidableEq

def RelV : V → Value → Prop
  | .non, u => u = Value.none
  | .bl b, u => u = Value.bool b
  | .int i, u => ∃ t, u = Value.int i t
  | .str x, u => ∃ t, u = Value.str x t
  | .byt b, u => ∃ t, u = Value.bytes b t
  | .flt b, u => ∃ t, u = Value.float b t
  | .ref a, u => u = Value.ref a
  | .ty n, u => u = Value.type n

abbrev Vals : List V → List Value → Prop := Paired RelV
theorem Vals.length {xs : List V} {us : List Value} (r : Vals xs us) : xs.length = us.length := Paired.length r
theorem Vals.get : ∀ {xs : List V} {us : List Value} {i : Nat} {x : V}, Vals xs us → xs[i]? = some x → ∃ u, us[i]? = some u ∧ RelV x u
  | _, _, _, _, .nil, e => by simp at e
  | _, _, 0, _, .cons r _, e => by simp at e; subst e; exact ⟨_, rfl, r⟩
  | _, _, i + 1, x, .cons _ t, e => by
    obtain ⟨u, h1, h2⟩ := Vals.get (i := i) (x := x) t (by simpa using e)
    exact ⟨u, by simpa using h1, h2⟩
theorem Vals.set {x : V} {u : Value} (r : RelV x u) : ∀ {xs : List V} {us : List Value} (i : Nat), Vals xs us → Vals (xs.set i x) (us.set i u)
  | _, _, _, .nil => .nil
  | _, _, 0, .cons _ t => .cons r t
  | _, _, i + 1, .cons q t => .cons q (Vals.set r i t)
theorem Vals.append : ∀ {xs ys : List V} {us ws : List Value}, Vals xs us → Vals ys ws → Vals (xs ++ ys) (us ++ ws)
  | _, _, _, _, .nil, s => s
  | _, _, _, _, .cons r t, s => .cons r (Vals.append t s)
theorem Vals.take : ∀ {xs : List V} {us : List Value} (n : Nat), Vals xs us → Vals (xs.take n) (us.take n)
  | _, _, 0, _ => .nil
  | _, _, _ + 1, .nil => .nil
  | _, _, n + 1, .cons r t => .cons r (Vals.take n t)
theorem Vals.drop : ∀ {xs : List V} {us : List Value} (n : Nat), Vals xs us → Vals (xs.drop n) (us.drop n)
  | _, _, 0, r => r
  | _, _, _ + 1, .nil => .nil
  | _, _, n + 1, .cons _ t => Vals.drop n t
def RelO : Option V → Option Value → Prop
  | some v, some u => RelV v u
  | none, none => True
  | _, _ => False
def KV {κ : Type} : List (κ × V) → List (κ × Value) → Prop := Paired fun (p : κ × V) (q : κ × Value) => p.1 = q.1 ∧ RelV p.2 q.2

/-- a key of a dict (00_mix): an int or a text -/
def kV : Key → V
  | .inl i => .int i
  | .inr x => .str x

/-- what stands at a tracked address -/
inductive HO where
  /-- a list -/
  | lst (xs : List V)
  /-- a tuple (never changes) -/
  | tup (xs : List V)
  /-- a dict whose keys are ints and texts; one whose keys are tuples of ints and texts (the empty one is both) -/
  | dK (kvs : List (Key × V)) | dT (kvs : List (List Key × V))
  /-- a set of ints: its members, its size -/
  | set (S : Int → Bool) (n : Nat)
  /-- an instance of the class at C, its dict at dx, its attributes -/
  | ins (C dx : Addr) (fs : List (Str × V))
  /-- the dict of the instance at x -/
  | own (x : Addr)
  /-- the dict of an exception -/
  | xd (fs : List (Str × V))
  /-- a bound method, f of x -/
  | met (f x : Addr)
  /-- a range object lo, lo + 1, .. below hi -/
  | rng (lo hi : Int)
  /-- a thing that is known to the object (the script; a dict while a loop walks it): read, never written while it is so -/
  | frz (o : Obj) (u : HO)
  /-- a code object's table -/
  | tbl (ps : Array Value)
  /-- any other thing, by what is true of its one object (a def of one's own: SetO a S n := HO.ext fun h => ..) -/
  | ext (φ : Heap → Prop)

abbrev Hp := Addr → Option HO
def upd (H : Hp) (a : Addr) (o : HO) : Hp := fun b => if b = a then some o else H b
theorem upd_same {H : Hp} {a : Addr} {o : HO} : upd H a o a = some o := by unfold upd; rw [if_pos rfl]
theorem upd_ne {H : Hp} {a b : Addr} {o : HO} (h : b ≠ a) : upd H a o b = H b := by unfold upd; rw [if_neg h]
/-- two objects of different content stand apart -/
theorem ne_of {H : Hp} {a b : Addr} {o u : HO} (h : H a = some o) (h' : H b = some u) (d : o ≠ u) : a ≠ b := by
  intro e; subst e; rw [h] at h'; exact d (Option.some.inj h')
theorem ne_of_none {H : Hp} {a b : Addr} {o : HO} (h : H a = some o) (h' : H b = none) : a ≠ b := by
  intro e; subst e; rw [h] at h'; cases h'

section
variable (P : Program) (w : World)
def ObjOk (H : Hp) (h : Heap) (a : Addr) : HO → Prop
  | .lst xs => xs.length ≤ sizeLine ∧ ∃ (its : List Value) (n : Nat), Vals xs its ∧ h.get? a = some { cls := .type "list", data := .seq its.toArray n }
  | .tup xs => xs.length ≤ sizeLine ∧ ∃ its : List Value, Vals xs its ∧ IsTup h a its.toArray
  | .dK kvs => kvs.length ≤ sizeLine ∧ (a == sysModules) = false ∧ ∃ vs, KV kvs vs ∧ h.DictOf (mixKind P w) a vs
  | .dT kvs => kvs.length ≤ sizeLine ∧ (a == sysModules) = false ∧ ∃ xs : List (List Key × Addr × Value),
      Paired (fun (p : List Key × V) (q : List Key × Addr × Value) => p.1 = q.1 ∧ H q.2.1 = some (.tup (p.1.map kV)) ∧ RelV p.2 q.2.2) kvs xs ∧
      ∃ o es ep, h.get? a = some o ∧ o.ExactDict ∧ o.data = .dict es ep ∧ es.toList = xs.map (entryOfKey (tupleKind (mixKind P w))) ∧ (xs.map (·.1)).Nodup
  | .set S n => h.SetOf (intKind P w) a S n
  | .ins C dx fs => H dx = some (.own a) ∧ fs.length ≤ 1000 ∧ dx ≠ a ∧ h.get? a = some (PySem.W.instObj C dx) ∧
      ∃ mA, h.Ns1 dx mA ∧ (∀ f, RelO (fs.lookup f) (mA f)) ∧ PySem.Within mA (fs.map (·.1))
  | .own _ => ∃ o, h.get? a = some o
  | .xd fs => ∃ mA, h.Ns1 a mA ∧ ∀ f, RelO (fs.lookup f) (mA f)
  | .rng lo hi => ∃ t u v, h.get? a = some { cls := .type "range", data := .fields #[.int lo t, .int hi u, .int 1 v] }
  | .frz o u => h.get? a = some o ∧ ObjOk H h a u
  | .tbl ps => h.get? a = some { cls := .none, data := .fields ps }
  | .met f x => h.get? a = some (PySem.W.methodObj (.ref f) (.ref x))
  | .ext φ => φ h ∧ (∃ o, h.get? a = some o) ∧ ∀ h1 h2 : Heap, φ h1 → (∀ o, h1.get? a = some o → h2.get? a = some o) → φ h2
/-- the abstract heap is held -/
def HOk (H : Hp) (h : Heap) : Prop := ∀ a o, H a = some o → ObjOk P w H h a o
end

section
variable {P : Program} {w : World} {H H' : Hp} {h h' : Heap} {a : Addr} {o : HO}
theorem ObjOk.lt (x : ObjOk P w H h a o) : a < h.objs.size := by
  cases o with
  | lst xs => obtain ⟨_, _, _, _, e⟩ := x; exact Heap.lt_size e
  | tup xs => obtain ⟨_, _, _, p⟩ := x; exact p.lt
  | dK kvs => obtain ⟨_, _, _, _, o, _, _, e, _⟩ := x; exact Heap.lt_size e
  | dT kvs => obtain ⟨_, _, _, _, o, _, _, e, _⟩ := x; exact Heap.lt_size e
  | set S n => obtain ⟨o, _, _, _, e, _⟩ := x; exact Heap.lt_size e
  | ins C dx fs => obtain ⟨_, _, _, e, _⟩ := x; exact Heap.lt_size e
  | own y => obtain ⟨_, e⟩ := x; exact Heap.lt_size e
  | xd fs => obtain ⟨_, ⟨_, _, _, e, _⟩, _⟩ := x; exact Heap.lt_size e
  | rng lo hi => obtain ⟨_, _, _, e⟩ := x; exact Heap.lt_size e
  | frz ob u => obtain ⟨e, _⟩ := x; exact Heap.lt_size e
  | tbl ps => exact Heap.lt_size (show h.get? a = some _ from x)
  | met f y => exact Heap.lt_size (show h.get? a = some _ from x)
  | ext φ => obtain ⟨_, ⟨_, e⟩, _⟩ := x; exact Heap.lt_size e
theorem Paired.mapP {α β : Type} {F G : α → β → Prop} : ∀ {l₁ : List α} {l₂ : List β}, Paired F l₁ l₂ → (∀ a b, F a b → G a b) → Paired G l₁ l₂
  | _, _, .nil, _ => .nil
  | _, _, .cons r t, f => .cons (f _ _ r) (Paired.mapP t f)
/-- what an object's description leans on: its own object, its own dict, the tuples -/
theorem ObjOk.stay (x : ObjOk P w H h a o) (k : ∀ b u, (b = a ∨ H b = some (.own a)) → h.get? b = some u → h'.get? b = some u)
    (ho : ∀ b, H b = some (.own a) → H' b = some (.own a)) (ht : ∀ b xs, H b = some (.tup xs) → H' b = some (.tup xs)) : ObjOk P w H' h' a o := by
  induction o with
  | lst xs => obtain ⟨z, its, n, r, e⟩ := x; exact ⟨z, its, n, r, k _ _ (.inl rfl) e⟩
  | tup xs => obtain ⟨z, its, r, ob, e, c⟩ := x; exact ⟨z, its, r, ob, k _ _ (.inl rfl) e, c⟩
  | dK kvs => obtain ⟨z, y, vs, r, ob, es, ep, e, c⟩ := x; exact ⟨z, y, vs, r, ob, es, ep, k _ _ (.inl rfl) e, c⟩
  | dT kvs =>
    obtain ⟨z, y, xs, r, ob, es, ep, e, c⟩ := x
    exact ⟨z, y, xs, Paired.mapP r fun p q z => ⟨z.1, ht _ _ z.2.1, z.2.2⟩, ob, es, ep, k _ _ (.inl rfl) e, c⟩
  | set S n => obtain ⟨ob, es, ep, t, e, c⟩ := x; exact ⟨ob, es, ep, t, k _ _ (.inl rfl) e, c⟩
  | ins C dx fs =>
    obtain ⟨d, z, ne, e, mA, ⟨od, es, ep, e2, c⟩, r⟩ := x
    exact ⟨ho _ d, z, ne, k _ _ (.inl rfl) e, mA, ⟨od, es, ep, k _ _ (.inr d) e2, c⟩, r⟩
  | own y => obtain ⟨ob, e⟩ := x; exact ⟨ob, k _ _ (.inl rfl) e⟩
  | xd fs => obtain ⟨mA, ⟨od, es, ep, e, c⟩, r⟩ := x; exact ⟨mA, ⟨od, es, ep, k _ _ (.inl rfl) e, c⟩, r⟩
  | rng lo hi => obtain ⟨t, u, v, e⟩ := x; exact ⟨t, u, v, k _ _ (.inl rfl) e⟩
  | frz ob u ih => obtain ⟨e, q⟩ := x; exact ⟨k _ _ (.inl rfl) e, ih q⟩
  | tbl ps =>
    have e : h.get? a = some { cls := .none, data := .fields ps } := x
    show h'.get? a = some { cls := .none, data := .fields ps }
    exact k a _ (.inl rfl) e
  | met f y =>
    have e : h.get? a = some (PySem.W.methodObj (.ref f) (.ref y)) := x
    show h'.get? a = some (PySem.W.methodObj (.ref f) (.ref y))
    exact k a _ (.inl rfl) e
  | ext φ => obtain ⟨p, ⟨o, e⟩, st⟩ := x; exact ⟨st _ _ p fun o q => k _ _ (.inl rfl) q, ⟨o, k _ _ (.inl rfl) e⟩, st⟩
theorem HOk.lt (x : HOk P w H h) (e : H a = some o) : a < h.objs.size := (x a o e).lt
theorem HOk.fresh (x : HOk P w H h) (e : h.objs.size ≤ a) : H a = none := by
  cases q : H a with
  | none => rfl
  | some u => exact absurd (Nat.lt_of_lt_of_le (x.lt q) e) (Nat.lt_irrefl _)
/-- every object of the heap is kept -/
theorem HOk.kept (x : HOk P w H h) (k : ∀ b u, h.get? b = some u → h'.get? b = some u) : HOk P w H h' := fun a o e =>
  (x a o e).stay (fun b u _ q => k b u q) (fun _ q => q) fun _ _ q => q
/-- a new object is laid and tracked -/
theorem HOk.laid (x : HOk P w H h) (k : ∀ b u, h.get? b = some u → h'.get? b = some u) (hp : h.objs.size ≤ a) (new : ObjOk P w (upd H a o) h' a o) : HOk P w (upd H a o) h' := fun b u e => by
  have hn := x.fresh hp
  by_cases hb : b = a
  · subst hb; rw [upd_same] at e; cases e; exact new
  · rw [upd_ne hb] at e
    exact (x b u e).stay (fun c v _ q => k c v q) (fun c q => by rw [upd_ne (ne_of_none q hn)]; exact q) fun c xs q => by rw [upd_ne (ne_of_none q hn)]; exact q
end

/-- what may be read as u: it is u, or a known u -/
def Rd (H : Hp) (a : Addr) (u : HO) : Prop := H a = some u ∨ ∃ o, H a = some (.frz o u)
theorem Rd.ok {P : Program} {w : World} {H : Hp} {h : Heap} {a : Addr} {u : HO} (r : Rd H a u) (x : HOk P w H h) : ObjOk P w H h a u := by
  rcases r with r | ⟨o, r⟩
  · exact x a u r
  · obtain ⟨_, q⟩ := x a _ r
    exact q
/-- what may be written -/
def Mut : Option HO → Prop
  | some (.lst _) => True
  | some (.dK _) => True
  | some (.dT _) => True
  | some (.set _ _) => True
  | some (.ins _ _ _) => True
  | some (.ext _) => True
  | _ => False
section
variable {P : Program} {w : World} {H : Hp} {h h' : Heap} {x e : Addr} {o' : HO}
/-- the object at e is changed: x itself, or the dict of the instance x -/
theorem HOk.write (ok : HOk P w H h) (mu : Mut (H x)) (he : e = x ∨ H e = some (.own x)) (k : ∀ b u, b ≠ e → h.get? b = some u → h'.get? b = some u) (heo : ∃ u, h'.get? e = some u)
    (new : ObjOk P w (upd H x o') h' x o') : HOk P w (upd H x o') h' := fun b u q => by
  have nown : ∀ c y, H c = some (.own y) → c ≠ x := fun c y r z => by subst z; rw [r] at mu; exact mu
  have ntup : ∀ c xs, H c = some (.tup xs) → c ≠ x := fun c xs r z => by subst z; rw [r] at mu; exact mu
  by_cases hb : b = x
  · subst hb; rw [upd_same] at q; cases q; exact new
  · rw [upd_ne hb] at q
    by_cases hbe : b = e
    · have q' : H b = some (.own x) := by
        rcases he with z | z
        · exact absurd (hbe.trans z) hb
        · rw [hbe]; exact z
      rw [q] at q'; cases q'
      obtain ⟨v, hv⟩ := heo
      exact ⟨v, by rw [hbe]; exact hv⟩
    · refine (ok b u q).stay (fun c v hc r => k c v ?_ r) (fun c r => by rw [upd_ne (nown c b r)]; exact r) fun c xs r => by rw [upd_ne (ntup c xs r)]; exact r
      rcases hc with rfl | hc
      · exact hbe
      · rintro rfl
        rcases he with z | z
        · exact nown c b hc z
        · rw [hc] at z; cases z; exact hb rfl
end

/-! ### kept unless tracked; of the frames at fs (the callers') the slots may change (an exception that passes writes there); of the records at ex (iterators) nothing is said -/
structure Un (fs ex : List Addr) (H H' : Hp) (h h' : Heap) : Prop where
  keep : ∀ b o, h.get? b = some o → H b = none → b ∉ fs → b ∉ ex → h'.get? b = some o
  slot : ∀ b o, h.get? b = some o → H b = none → b ∈ fs → b ∉ ex → ∃ sl, h'.get? b = some { o with slots := sl }
  free : ∀ b o, h.get? b = some o → H b = none → b ∉ ex → H' b = none
  there : ∀ b o, h.get? b = some o → b ∉ ex → ∃ o', h'.get? b = some o'
  tups : ∀ b xs, H b = some (.tup xs) → H' b = some (.tup xs)
  frzs : ∀ b o u, H b = some (.frz o u) → H' b = some (.frz o u)
  tbls : ∀ b ps, H b = some (.tbl ps) → ∃ more, H' b = some (.tbl (ps ++ more))
section
variable {fs fs' ex ex' : List Addr} {H H1 H2 : Hp} {h h1 h2 h' : Heap} {a x e : Addr} {o : HO}
theorem Un.any (u : Un fs ex H H1 h h1) {b : Addr} {ob : Obj} (q : h.get? b = some ob) (n : H b = none) (hx : b ∉ ex) : ∃ sl, h1.get? b = some { ob with slots := sl } := by
  by_cases hb : b ∈ fs
  · exact u.slot b ob q n hb hx
  · exact ⟨ob.slots, u.keep b ob q n hb hx⟩
theorem Un.kept (k : ∀ b u, h.get? b = some u → h'.get? b = some u) : Un fs ex H H h h' :=
  ⟨fun b ob q _ _ _ => k b ob q, fun b ob q _ _ _ => ⟨ob.slots, k b ob q⟩, fun _ _ _ n _ => n, fun b ob q _ => ⟨ob, k b ob q⟩, fun _ _ q => q, fun _ _ _ q => q, fun _ ps q => ⟨#[], by rw [q]; simp⟩⟩
theorem Un.refl : Un fs ex H H h h := Un.kept fun _ _ q => q
theorem Un.laid (k : ∀ b u, h.get? b = some u → h'.get? b = some u) (hp : h.objs.size ≤ a) (hn : H a = none) : Un fs ex H (upd H a o) h h' where
  keep := fun b u q _ _ _ => k b u q
  slot := fun b u q _ _ _ => ⟨u.slots, k b u q⟩
  free := fun b u q n _ => by rw [upd_ne (Nat.ne_of_lt (Nat.lt_of_lt_of_le (Heap.lt_size q) hp))]; exact n
  there := fun b u q _ => ⟨u, k b u q⟩
  tups := fun b xs q => by rw [upd_ne (ne_of_none q hn)]; exact q
  frzs := fun b u xs q => by rw [upd_ne (ne_of_none q hn)]; exact q
  tbls := fun b ps q => ⟨#[], by rw [upd_ne (ne_of_none q hn), q]; simp⟩
theorem Un.write (mu : Mut (H x)) (he : e = x ∨ H e = some (.own x)) (k : ∀ b u, b ≠ e → h.get? b = some u → h'.get? b = some u) (heo : ∃ u, h'.get? e = some u) : Un fs ex H (upd H x o) h h' := by
  have hx : ∀ b, H b = none → b ≠ x := fun b n z => by subst z; rw [n] at mu; exact mu
  have hb : ∀ b, H b = none → b ≠ e := fun b n z => by
    subst z
    rcases he with r | r
    · exact hx b n r
    · rw [n] at r; cases r
  have hm : ∀ b u, H b = some u → ¬ Mut (some u) → b ≠ x := fun b u q nm z => by subst z; rw [q] at mu; exact nm mu
  refine ⟨fun b u q n _ _ => k b u (hb b n) q, fun b u q n _ _ => ⟨u.slots, k b u (hb b n) q⟩, fun b u q n _ => by rw [upd_ne (hx b n)]; exact n, fun b u q _ => ?_,
    fun b xs q => by rw [upd_ne (hm b _ q fun z => z)]; exact q, fun b u xs q => by rw [upd_ne (hm b _ q fun z => z)]; exact q, fun b ps q => ⟨#[], by rw [upd_ne (hm b _ q fun z => z), q]; simp⟩⟩
  by_cases hbe : b = e
  · subst hbe; exact heo
  · exact ⟨u, k b u hbe q⟩
end

/-! ### the heap without what is tracked -/
def trk (h : Heap) (H : Hp) : List Addr := (List.range h.objs.size).filter fun a => (H a).isSome
def hidT (h : Heap) (H : Hp) : Heap := PySem.W.hideAll h (trk h H)
theorem hidT_size (h : Heap) (H : Hp) : (hidT h H).objs.size = h.objs.size := PySem.W.hideAll_size _ _
theorem hidT_get {h : Heap} {H : Hp} {b : Addr} {o : Obj} (e : h.get? b = some o) (n : H b = none) : (hidT h H).get? b = some o :=
  PySem.W.hideAll_get _ e fun hm => by
    have q : (H b).isSome = true := (List.mem_filter.mp hm).2
    rw [n] at q; simp at q
theorem of_hidT {h : Heap} {H : Hp} {b : Addr} {o : Obj} (e : (hidT h H).get? b = some o) : h.get? b = some o ∧ H b = none := by
  have e' : h.get? b = some o := PySem.W.of_hideAll (trk h H) e
  refine ⟨e', ?_⟩
  cases q : H b with
  | none => rfl
  | some x =>
    have hm : b ∈ trk h H := List.mem_filter.mpr ⟨List.mem_range.mpr (Heap.lt_size e'), by simp [q]⟩
    have z : (hidT h H).get? b = none := PySem.W.hideAll_none (trk h H) hm
    rw [z] at e; cases e

/-! ### OpenK's ledger, filled with every new object but one -/
end L2

namespace L2
open PySem PySem.Spec PyProof.Rows

/-- the module's facts, over the base: the heap at the law's entry without what is tracked there -/
structure Mod (K : PySem.W.Frag) (mg : Str → Option Value) (base : Heap) : Prop where
  kin : K.In base
  glob : base.Ns mainGlobals mg
  blt : ∃ mb, base.Ns builtinsNs mb ∧ ∀ x : Str, x ≠ "__name__" → mb x = bootBuiltins x
  nolimit : base.NoLimit

/-- the context: a def's body (or a comprehension's block) running. base: fixed through the whole law; s₀, H₀: the entry; outer: the frames whose slots others may change (a def's callers); stack: all frames that run;
   ex: iterators that were made ahead of the entry and are walked here (a comprehension's); fn: the names whose cells were made at the entry (a def: all; a comprehension's block: its own); calm: not within an except suite; pn: pins that every state bears; xe: what is wanted of an exception that leaves the code -/
structure Cx where
  prog : Program
  w : World
  K : PySem.W.Frag
  mg : Str → Option Value
  base : Heap
  A : Around
  N : List Str
  s_0 : Shared
  H_0 : Hp
  env : Env
  outer : List Env
  stack : List Env
  ex : List Addr
  fn : Str → Bool
  calm : Bool
  pn : List (Addr × Obj)
  xe : Value → Shared → Prop
/-- the callers' frames -/
def frs (l : List Env) : List Addr := l.filterMap (·.frame)
abbrev Cx.fs (X : Cx) : List Addr := frs X.outer

def Vis (sc : Scope) (x : Str) : Prop := sc.names.lookup x = some .local ∨ sc.names.lookup x = some .cell ∨ sc.names.lookup x = some .free
def Loc (sc : Scope) (x : Str) : Prop := sc.names.lookup x = some .local ∨ sc.names.lookup x = some .cell
def Look (env : Env) (h : Heap) (m : Str → Option Value) (x : Str) (u : Value) : Prop :=
  (env.kindOf x = some .local ∧ m x = some u) ∨ ((env.kindOf x = some .cell ∨ env.kindOf x = some .free) ∧ ∃ c, env.cells.lookup x = some c ∧ h.IsCell c (some u))

structure Cx.Ok (X : Cx) : Prop where
  mod : Mod X.K X.mg X.base
  kind : X.env.scope.kind = .function
  glob : X.env.globals = mainGlobals
  blt : X.env.builtins = builtinsNs
  above : X.s_0.heap.objs.size ≤ X.env.locals
  inj : ∀ x y c, X.env.cells.lookup x = some c → X.env.cells.lookup y = some c → x = y
  has : ∀ x, (X.env.kindOf x = some .cell ∨ X.env.kindOf x = some .free) → ∃ c, X.env.cells.lookup x = some c
  cab : ∀ x c, X.fn x = true → X.env.cells.lookup x = some c → X.s_0.heap.objs.size ≤ c
  hd : X.calm = true → X.A.handled = none
  frames : X.A.frames = some X.stack
  stk : X.stack = X.outer ∨ (X.stack = X.env :: X.outer ∧ X.env.frame = some X.env.locals)
  exf : ∀ b ∈ X.ex, b ≠ X.env.locals ∧ ∀ x c, X.env.cells.lookup x = some c → c ≠ b
  bs : ∀ b o, X.base.get? b = some o → X.s_0.heap.get? b = some o ∧ X.H_0 b = none
  bsz : X.base.objs.size ≤ X.s_0.heap.objs.size
  noex : ∀ b o, X.base.get? b = some o → b ∉ X.ex
  exfs : ∀ b ∈ X.ex, b ∉ X.fs
  funs : X.s_0.heap.FunFrames X.base X.outer
  frf : ∀ b ∈ X.fs, X.H_0 b = none

structure Inv (X : Cx) (pins : List (Addr × Obj)) (σ : List (Option V)) (H : Hp) (s : Shared) : Prop where
  ok : X.Ok
  os : s.os = X.s_0.os
  bare : AllBare s.gens
  base : Un X.fs X.ex X.H_0 H X.s_0.heap s.heap
  loc : ∃ m, s.heap.Ns X.env.locals m ∧ ∀ (i : Nat) (x : Str) (v : V), X.N[i]? = some x → σ[i]? = some (some v) → Vis X.env.scope x → ∃ u, RelV v u ∧ Look X.env s.heap m x u
  cell : ∀ x c, X.env.cells.lookup x = some c → ∃ v, s.heap.IsCell c v
  free : H X.env.locals = none
  freeC : ∀ x c, X.env.cells.lookup x = some c → H c = none
  pin : ∀ p ∈ X.pn ++ pins, s.heap.get? p.1 = some p.2 ∧ H p.1 = none ∧ p.1 ≠ X.env.locals ∧ p.1 ∉ X.fs ∧ ∀ v, p.2.data ≠ .cell v
  hok : HOk X.prog X.w H s.heap
  len : σ.length = X.N.length

section
variable {X : Cx} {pins : List (Addr × Obj)} {σ : List (Option V)} {H H' : Hp} {s : Shared} {h' : Heap}

theorem Cx.Ok.nofr (ok : X.Ok) {b : Addr} {o : Obj} (e : X.base.get? b = some o) : b ∉ X.fs := fun hb => by
  have := (ok.funs.mem hb).1
  rw [e] at this; cases this
theorem Inv.bs (I : Inv X pins σ H s) : ∀ b o, X.base.get? b = some o → s.heap.get? b = some o ∧ H b = none := fun b o e =>
  ⟨I.base.keep b o (I.ok.bs b o e).1 (I.ok.bs b o e).2 (I.ok.nofr e) (I.ok.noex b o e), I.base.free b o (I.ok.bs b o e).1 (I.ok.bs b o e).2 (I.ok.noex b o e)⟩
theorem Inv.bk (I : Inv X pins σ H s) : ∀ b o, X.base.get? b = some o → s.heap.get? b = some o := fun b o e => (I.bs b o e).1
theorem Inv.mod (I : Inv X pins σ H s) : Mod X.K X.mg X.base := I.ok.mod
theorem Inv.kIn (I : Inv X pins σ H s) : X.K.In s.heap := I.ok.mod.kin.keeps I.bk
theorem Inv.lt (I : Inv X pins σ H s) : X.env.locals < s.heap.objs.size := let ⟨_, hn, _⟩ := I.loc; hn.lt
theorem Inv.sz (I : Inv X pins σ H s) : X.s_0.heap.objs.size ≤ s.heap.objs.size := Nat.le_trans I.ok.above (Nat.le_of_lt I.lt)
theorem Inv.nofs (I : Inv X pins σ H s) {a : Addr} (h : s.heap.objs.size ≤ a) : a ∉ X.fs := fun hb => by
  obtain ⟨_, o, ho, _⟩ := I.ok.funs.mem hb
  exact absurd (Nat.lt_of_lt_of_le (Heap.lt_size ho) (Nat.le_trans I.sz h)) (Nat.lt_irrefl _)
theorem Inv.cne (I : Inv X pins σ H s) : ∀ x c, X.env.cells.lookup x = some c → c ≠ X.env.locals := fun x c e z => by
  obtain ⟨v, o, ho, hd⟩ := I.cell x c e
  obtain ⟨m, ⟨o', es, ep, ho', hd', _⟩, _⟩ := I.loc
  rw [z, ho'] at ho; cases ho; rw [hd'] at hd; cases hd
theorem Inv.funs (I : Inv X pins σ H s) : s.heap.FunFrames X.base X.outer := by
  have all : ∀ (l : List Env), (∀ b ∈ frs l, b ∈ X.fs) → X.s_0.heap.FunFrames X.base l → s.heap.FunFrames X.base l := by
    intro l
    induction l with
    | nil => intro _ _; trivial
    | cons env r ih =>
      intro hs hl
      obtain ⟨hk, ⟨L, o, hf, hn, ho, hd⟩, hr⟩ := hl
      have hL : L ∈ X.fs := hs L (by unfold frs; rw [List.filterMap_cons, hf]; exact List.mem_cons_self)
      obtain ⟨sl, e⟩ := I.base.slot L o ho (I.ok.frf L hL) hL fun z => I.ok.exfs L z hL
      exact ⟨hk, ⟨L, _, hf, hn, e, hd⟩, ih (fun b hb => hs b (by unfold frs; rw [List.filterMap_cons, hf]; exact List.mem_cons_of_mem _ hb)) hr⟩
  exact all X.outer (fun _ hb => hb) I.ok.funs

/-- the frames that run, for a call -/
theorem Inv.stack (I : Inv X pins σ H s) : s.heap.FunFrames X.base X.stack := by
  rcases I.ok.stk with e | ⟨e, hf⟩
  · rw [e]; exact I.funs
  · rw [e]
    obtain ⟨m, hn, _⟩ := I.loc
    refine .cons (by rw [I.ok.kind]; decide) hf hn ?_ I.funs
    exact Heap.get?_none_of_le (Nat.le_trans I.ok.bsz I.ok.above)
theorem Inv.stkSub (I : Inv X pins σ H s) : ∀ b ∈ frs X.stack, b ∈ X.env.locals :: X.fs := fun b hb => by
  rcases I.ok.stk with e | ⟨e, hf⟩
  · rw [e] at hb; exact List.mem_cons_of_mem _ hb
  · rw [e] at hb
    unfold frs at hb
    rw [List.filterMap_cons, hf] at hb
    exact hb
theorem Inv.stkFree (I : Inv X pins σ H s) : ∀ b ∈ frs X.stack, H b = none := fun b hb => by
  rcases List.mem_cons.mp (I.stkSub b hb) with e | hb
  · rw [e]; exact I.free
  · obtain ⟨_, o, ho, _⟩ := I.ok.funs.mem hb
    exact I.base.free b o ho (I.ok.frf b hb) fun z => I.ok.exfs b z hb

/-- THE STEP: the untracked objects but the frame and the records at ch are kept (the callers' frames up to slots), the frame's map is kept, the new abstract heap is held -/
theorem Inv.step {g' : Array GenState} {t' : Nat} {d' : Drawn} {ch : List Addr} (I : Inv X pins σ H s)
    (hch : ∀ b ∈ ch, (b ∈ X.ex ∨ X.s_0.heap.objs.size ≤ b) ∧ b ≠ X.env.locals ∧ (∀ x c, X.env.cells.lookup x = some c → c ≠ b) ∧ ∀ p ∈ X.pn ++ pins, p.1 ≠ b)
    (keep : ∀ b o, b ≠ X.env.locals → b ∉ X.fs → b ∉ ch → s.heap.get? b = some o → H b = none → h'.get? b = some o)
    (slot : ∀ b o, b ≠ X.env.locals → b ∈ X.fs → b ∉ ch → s.heap.get? b = some o → H b = none → ∃ sl, h'.get? b = some { o with slots := sl }) (free : ∀ b o, b ∉ ch → s.heap.get? b = some o → H b = none → H' b = none)
    (there : ∀ b o, b ∉ ch → s.heap.get? b = some o → ∃ o', h'.get? b = some o')
    (tups : ∀ b xs, H b = some (.tup xs) → H' b = some (.tup xs)) (frzs : ∀ b o u, H b = some (.frz o u) → H' b = some (.frz o u)) (tbls : ∀ b ps, H b = some (.tbl ps) → ∃ more, H' b = some (.tbl (ps ++ more)))
    (ns : ∀ m, s.heap.Ns X.env.locals m → h'.Ns X.env.locals m) (hok : HOk X.prog X.w H' h') (hg : AllBare g') :
    Inv X pins σ H' { s with heap := h', gens := g', drawn := d', toks := t' } := by
  have neL : ∀ b o, X.s_0.heap.get? b = some o → b ≠ X.env.locals := fun b o e => Nat.ne_of_lt (Nat.lt_of_lt_of_le (Heap.lt_size e) I.ok.above)
  have neC : ∀ b o, X.s_0.heap.get? b = some o → b ∉ X.ex → b ∉ ch := fun b o e hx hb => by
    rcases (hch b hb).1 with z | z
    · exact hx z
    · exact absurd (Nat.lt_of_lt_of_le (Heap.lt_size e) z) (Nat.lt_irrefl _)
  have cellK : ∀ x c, X.env.cells.lookup x = some c → ∀ v, s.heap.IsCell c v → h'.IsCell c v := fun x c e v ⟨o, ho, hd⟩ => by
    have nch : c ∉ ch := fun z => (hch c z).2.2.1 x c e rfl
    by_cases hc : c ∈ X.fs
    · obtain ⟨sl, q⟩ := slot c o (I.cne x c e) hc nch ho (I.freeC x c e)
      exact ⟨_, q, hd⟩
    · exact ⟨o, keep c o (I.cne x c e) hc nch ho (I.freeC x c e), hd⟩
  refine ⟨I.ok, I.os, hg, ⟨fun b o e n hb hx => ?_, fun b o e n hb hx => ?_, fun b o e n hx => ?_, fun b o e hx => ?_, fun b xs e => tups b xs (I.base.tups b xs e), fun b o xs e => frzs b o xs (I.base.frzs b o xs e), fun b ps e => ?_⟩, ?_, fun x c e => ?_, ?_, fun x c e => ?_, fun p hp => ?_, hok, I.len⟩
  · exact keep b o (neL b o e) hb (neC b o e hx) (I.base.keep b o e n hb hx) (I.base.free b o e n hx)
  · obtain ⟨sl, e1⟩ := I.base.slot b o e n hb hx
    obtain ⟨sl', e2⟩ := slot b _ (neL b o e) hb (neC b o e hx) e1 (I.base.free b o e n hx)
    exact ⟨sl', e2⟩
  · obtain ⟨o', e1⟩ := I.base.there b o e hx
    exact free b o' (neC b o e hx) e1 (I.base.free b o e n hx)
  · obtain ⟨o', e1⟩ := I.base.there b o e hx
    exact there b o' (neC b o e hx) e1
  · obtain ⟨m1, e1⟩ := I.base.tbls b ps e
    obtain ⟨m2, e2⟩ := tbls b _ e1
    exact ⟨m1 ++ m2, by rw [e2, Array.append_assoc]⟩
  · obtain ⟨m, hn, hl⟩ := I.loc
    refine ⟨m, ns m hn, fun i x v e1 e2 e3 => ?_⟩
    obtain ⟨u, r, l⟩ := hl i x v e1 e2 e3
    refine ⟨u, r, ?_⟩
    rcases l with l | ⟨k, c, e, z⟩
    · exact .inl l
    · exact .inr ⟨k, c, e, cellK x c e _ z⟩
  · obtain ⟨v, z⟩ := I.cell x c e
    exact ⟨v, cellK x c e v z⟩
  · obtain ⟨m, ⟨o, _, _, ho, _⟩, _⟩ := I.loc
    exact free _ o (fun z => (hch _ z).2.1 rfl) ho I.free
  · obtain ⟨v, o, ho, hd⟩ := I.cell x c e
    exact free c o (fun z => (hch c z).2.2.1 x c e rfl) ho (I.freeC x c e)
  · obtain ⟨e, n, ne, nf, d⟩ := I.pin p hp
    have nch : p.1 ∉ ch := fun z => (hch p.1 z).2.2.2 p hp rfl
    exact ⟨keep p.1 p.2 ne nf nch e n, free p.1 p.2 nch e n, ne, nf, d⟩
/-- .. where the frame's own object is kept too -/
theorem Inv.un {t' : Nat} (I : Inv X pins σ H s) (u : Un X.fs [] H H' s.heap h') (hok : HOk X.prog X.w H' h') : Inv X pins σ H' { s with heap := h', toks := t' } := by
  obtain ⟨m, ⟨o, es, ep, ho, r⟩, _⟩ := id I.loc
  obtain ⟨sl, hL⟩ := u.any ho I.free (by simp)
  exact I.step (g' := s.gens) (d' := s.drawn) (ch := []) (fun _ z => nomatch z) (fun b o _ hb _ e n => u.keep b o e n hb (by simp)) (fun b o _ hb _ e n => u.slot b o e n hb (by simp)) (fun b o _ e n => u.free b o e n (by simp)) (fun b o _ e => u.there b o e (by simp)) u.tups u.frzs u.tbls (fun m' hm => by
    obtain ⟨o', es', ep', ho', r'⟩ := hm
    rw [ho] at ho'; cases ho'
    exact ⟨_, es', ep', hL, r'⟩) hok I.bare
/-- behind a call (or a comprehension's block): the slots of this frame may have changed too, the records at ch may have turned -/
theorem Inv.call {g' : Array GenState} {t' : Nat} {d' : Drawn} {ch : List Addr} (I : Inv X pins σ H s) (u : Un (frs X.stack) ch H H' s.heap h') (hok : HOk X.prog X.w H' h') (hg : AllBare g')
    (hch : ∀ b ∈ ch, (b ∈ X.ex ∨ X.s_0.heap.objs.size ≤ b) ∧ b ≠ X.env.locals ∧ (∀ x c, X.env.cells.lookup x = some c → c ≠ b) ∧ ∀ p ∈ X.pn ++ pins, p.1 ≠ b) :
    Inv X pins σ H' { s with heap := h', gens := g', drawn := d', toks := t' } := by
  obtain ⟨m, ⟨o, es, ep, ho, r⟩, _⟩ := id I.loc
  obtain ⟨sl, hL⟩ := u.any ho I.free fun z => (hch _ z).2.1 rfl
  exact I.step (ch := ch) hch (fun b o hL hb hc e n => u.keep b o e n (fun z => (List.mem_cons.mp (I.stkSub b z)).elim hL hb) hc) (fun b o _ _ hc e n => u.any e n hc) (fun b o hc e n => u.free b o e n hc) (fun b o hc e => u.there b o e hc) u.tups u.frzs u.tbls (fun m' hm => by
    obtain ⟨o', es', ep', ho', r'⟩ := hm
    rw [ho] at ho'; cases ho'
    exact ⟨_, es', ep', hL, r'⟩) hok hg
/-- an untracked record of ours (an iterator) has turned -/
theorem Inv.turned {t' : Nat} {it : Addr} (I : Inv X pins σ H s) (k : ∀ b o, b ≠ it → s.heap.get? b = some o → h'.get? b = some o) (hn : H it = none) (hL : it ≠ X.env.locals)
    (h1 : it ∈ X.ex ∨ X.s_0.heap.objs.size ≤ it) (h2 : ∀ x c, X.env.cells.lookup x = some c → c ≠ it) (h3 : ∀ p ∈ X.pn ++ pins, p.1 ≠ it) : Inv X pins σ H { s with heap := h', toks := t' } := by
  have nit : ∀ b u, H b = some u → b ≠ it := fun b u e z => by rw [z, hn] at e; cases e
  refine I.step (g' := s.gens) (d' := s.drawn) (ch := [it]) (fun b hb => ?_) (fun b o _ _ hc e _ => k b o (fun z => hc (by simp [z])) e) (fun b o _ _ hc e _ => ⟨o.slots, k b o (fun z => hc (by simp [z])) e⟩) (fun _ _ _ _ n => n)
    (fun b o hc e => ⟨o, k b o (fun z => hc (by simp [z])) e⟩) (fun _ _ e => e) (fun _ _ _ e => e) (fun b ps e => ⟨#[], by rw [e]; simp⟩) (fun m hm => ?_) (fun b u e => ?_) I.bare
  · have e : b = it := by simpa using hb
    subst e
    exact ⟨h1, hL, h2, h3⟩
  · obtain ⟨o, es, ep, ho, r⟩ := hm
    exact ⟨o, es, ep, k _ o (Ne.symm hL) ho, r⟩
  · refine (I.hok b u e).stay (fun c v hc q => k c v ?_ q) (fun _ q => q) fun _ _ q => q
    rcases hc with z | z
    · rw [z]; exact nit b u e
    · exact nit c _ z
theorem Inv.tok (I : Inv X pins σ H s) (t : Nat) : Inv X pins σ H { s with toks := t } := I.un (h' := s.heap) (t' := t) Un.refl I.hok
/-- all objects kept -/
theorem Inv.kept {t' : Nat} (I : Inv X pins σ H s) (k : ∀ b u, s.heap.get? b = some u → h'.get? b = some u) : Inv X pins σ H { s with heap := h', toks := t' } := I.un (Un.kept k) (I.hok.kept k)
/-- a new object laid and tracked -/
theorem Inv.laid {a : Addr} {o : HO} {t' : Nat} (I : Inv X pins σ H s) (k : ∀ b u, s.heap.get? b = some u → h'.get? b = some u) (hp : s.heap.objs.size ≤ a) (new : ObjOk X.prog X.w (upd H a o) h' a o) :
    Inv X pins σ (upd H a o) { s with heap := h', toks := t' } := I.un (Un.laid k hp (I.hok.fresh hp)) (I.hok.laid k hp new)
/-- an object written -/
theorem Inv.write {x e : Addr} {o : HO} {t' : Nat} (I : Inv X pins σ H s) (mu : Mut (H x)) (he : e = x ∨ H e = some (.own x)) (k : ∀ b u, b ≠ e → s.heap.get? b = some u → h'.get? b = some u) (heo : ∃ u, h'.get? e = some u)
    (new : ObjOk X.prog X.w (upd H x o) h' x o) : Inv X pins σ (upd H x o) { s with heap := h', toks := t' } := I.un (Un.write mu he k heo) (I.hok.write mu he k heo new)
/-- forgetting slots, pins -/
theorem Inv.weak {σ' : List (Option V)} (I : Inv X pins σ H s) (hl : σ'.length = σ.length) (w : ∀ (i : Nat) v, σ'[i]? = some (some v) → σ[i]? = some (some v)) : Inv X pins σ' H s :=
  ⟨I.ok, I.os, I.bare, I.base, let ⟨m, hn, hl'⟩ := I.loc; ⟨m, hn, fun i x v e1 e2 e3 => hl' i x v e1 (w i v e2) e3⟩, I.cell, I.free, I.freeC, I.pin, I.hok, hl.trans I.len⟩
theorem Inv.pins_of {pins' : List (Addr × Obj)} (I : Inv X pins σ H s) (h : ∀ p ∈ pins', s.heap.get? p.1 = some p.2 ∧ H p.1 = none ∧ p.1 ≠ X.env.locals ∧ p.1 ∉ X.fs ∧ ∀ v, p.2.data ≠ .cell v) : Inv X pins' σ H s :=
  ⟨I.ok, I.os, I.bare, I.base, I.loc, I.cell, I.free, I.freeC, fun p hp => (List.mem_append.mp hp).elim (fun z => I.pin p (List.mem_append_left _ z)) (h p), I.hok, I.len⟩

theorem nodup_ix {N : List Str} (hN : N.Nodup) {i j : Nat} {x : Str} (a : N[i]? = some x) (b : N[j]? = some x) : i = j := by
  obtain ⟨h1, e1⟩ := List.getElem?_eq_some_iff.mp a
  obtain ⟨h2, e2⟩ := List.getElem?_eq_some_iff.mp b
  exact (List.getElem_inj hN).mp (e1.trans e2.symm)

/-- a name is stored; what changed -/
theorem store_ok2 {M : Model} {A : Around} {E : Value → Shared → Prop} {i : Nat} {x : Str} {v : V} {u : Value} {Q : Unit → Shared → Prop} (I : Inv X pins σ H s) (hN : X.N.Nodup) (hi : X.N[i]? = some x) (hx : Loc X.env.scope x) (r : RelV v u)
    (h : ∀ s', Inv X pins (σ.set i (some v)) H s' → (∃ a, Heap.SameBut a s.heap s'.heap ∧ (a = X.env.locals ∨ X.env.cells.lookup x = some a)) → Q () s') (hf : X.fn x = true ∨ X.env.scope.names.lookup x = some .local := by first | exact .inl rfl | exact .inr rfl | assumption) : wpAny M A (storeName X.env x u) Q E s := by
  obtain ⟨m, hn, hl⟩ := id I.loc
  have hcls : (X.env.scope.kind == .class || (X.env.scope.kind == .module && X.env.locals != X.env.globals)) = false := by rw [I.ok.kind]; rfl
  have hiσ : i < σ.length := by rw [I.len]; exact (List.getElem?_eq_some_iff.mp hi).1
  have cne := I.cne
  have tracked : ∀ {a : Addr} {h' : Heap}, (∃ o, s.heap.get? a = some o ∧ H a = none) → Heap.SameBut a s.heap h' → HOk X.prog X.w H h' := fun {a h'} ha hs b ob e => by
    obtain ⟨_, _, hfree⟩ := ha
    refine (I.hok b ob e).stay (fun c w' hc q => (hs.2 c ?_).trans q) (fun _ q => q) fun _ _ q => q
    rintro rfl
    rcases hc with rfl | hc
    · rw [hfree] at e; cases e
    · rw [hfree] at hc; cases hc
  rcases hx with hk | hk
  · refine wpAny_storeName_local hk hn (fun h' hn' hs => ?_) hcls
    obtain ⟨oL, _, _, hoL, _⟩ := id hn
    refine h _ ⟨I.ok, I.os, I.bare, ⟨fun b o e n hb hx => ?_, fun b o e n hb hx => ?_, I.base.free, fun b o e hx => ?_, I.base.tups, I.base.frzs, I.base.tbls⟩, ⟨_, hn', fun j y v' e1 e2 e3 => ?_⟩, fun y c e => ?_, I.free, I.freeC, fun p hp => ?_, tracked ⟨oL, hoL, I.free⟩ hs, by simpa using I.len⟩ ⟨_, hs, .inl rfl⟩
    · exact (hs.2 b (Nat.ne_of_lt (Nat.lt_of_lt_of_le (Heap.lt_size e) I.ok.above))).trans (I.base.keep b o e n hb hx)
    · obtain ⟨sl, e1⟩ := I.base.slot b o e n hb hx
      exact ⟨sl, (hs.2 b (Nat.ne_of_lt (Nat.lt_of_lt_of_le (Heap.lt_size e) I.ok.above))).trans e1⟩
    · obtain ⟨o', e1⟩ := I.base.there b o e hx
      exact ⟨o', (hs.2 b (Nat.ne_of_lt (Nat.lt_of_lt_of_le (Heap.lt_size e) I.ok.above))).trans e1⟩
    · by_cases hj : j = i
      · subst hj
        rw [hi] at e1; cases e1
        rw [List.getElem?_set_self hiσ] at e2
        cases e2
        exact ⟨u, r, .inl ⟨hk, by simp⟩⟩
      · rw [List.getElem?_set_ne (Ne.symm hj)] at e2
        obtain ⟨u', r', q⟩ := hl j y v' e1 e2 e3
        refine ⟨u', r', ?_⟩
        rcases q with ⟨k, e⟩ | ⟨k, c, e, z⟩
        · refine .inl ⟨k, ?_⟩
          have : y ≠ x := fun e => hj (nodup_ix hN e1 (e ▸ hi))
          simp [this, e]
        · exact .inr ⟨k, c, e, z.sameBut hs (cne y c e)⟩
    · obtain ⟨w', z⟩ := I.cell y c e
      exact ⟨w', z.sameBut hs (cne y c e)⟩
    · obtain ⟨e, n, ne, nf, d⟩ := I.pin p hp
      exact ⟨(hs.2 p.1 ne).trans e, n, ne, nf, d⟩
  · have hfn : X.fn x = true := by
      rcases hf with z | z
      · exact z
      · rw [z] at hk; cases hk
    obtain ⟨c, hc⟩ := I.ok.has x (.inl hk)
    obtain ⟨w', z⟩ := I.cell x c hc
    refine wpAny_storeName_cell I.ok.kind hk hc z (fun h' hc' hs => ?_)
    obtain ⟨oc, hoc, hocd⟩ := id z
    refine h { s with heap := h' } ⟨I.ok, I.os, I.bare, ⟨fun b o e n hb hx => ?_, fun b o e n hb hx => ?_, I.base.free, fun b o e hx => ?_, I.base.tups, I.base.frzs, I.base.tbls⟩, ⟨m, hn.sameBut hs (Ne.symm (cne x c hc)), fun j y v' e1 e2 e3 => ?_⟩, fun y c' e => ?_, I.free, I.freeC, fun p hp => ?_, tracked ⟨oc, hoc, I.freeC x c hc⟩ hs, by simpa using I.len⟩ ⟨c, hs, .inr hc⟩
    · exact (hs.2 b (Nat.ne_of_lt (Nat.lt_of_lt_of_le (Heap.lt_size e) (I.ok.cab x c hfn hc)))).trans (I.base.keep b o e n hb hx)
    · obtain ⟨sl, e1⟩ := I.base.slot b o e n hb hx
      exact ⟨sl, (hs.2 b (Nat.ne_of_lt (Nat.lt_of_lt_of_le (Heap.lt_size e) (I.ok.cab x c hfn hc)))).trans e1⟩
    · obtain ⟨o', e1⟩ := I.base.there b o e hx
      exact ⟨o', (hs.2 b (Nat.ne_of_lt (Nat.lt_of_lt_of_le (Heap.lt_size e) (I.ok.cab x c hfn hc)))).trans e1⟩
    · by_cases hj : j = i
      · subst hj
        rw [hi] at e1; cases e1
        rw [List.getElem?_set_self hiσ] at e2
        cases e2
        exact ⟨u, r, .inr ⟨.inl hk, c, hc, hc'⟩⟩
      · rw [List.getElem?_set_ne (Ne.symm hj)] at e2
        obtain ⟨u', r', q⟩ := hl j y v' e1 e2 e3
        refine ⟨u', r', ?_⟩
        rcases q with q | ⟨k, c', e, z'⟩
        · exact .inl q
        · refine .inr ⟨k, c', e, z'.sameBut hs ?_⟩
          rintro rfl
          exact hj (nodup_ix hN e1 (I.ok.inj _ _ _ e hc ▸ hi))
    · by_cases hcc : c' = c
      · subst hcc; exact ⟨_, hc'⟩
      · obtain ⟨w2, z2⟩ := I.cell y c' e
        exact ⟨w2, z2.sameBut hs hcc⟩
    · obtain ⟨e, n, ne, nf, d⟩ := I.pin p hp
      refine ⟨(hs.2 p.1 ?_).trans e, n, ne, nf, d⟩
      intro q
      rw [q, hoc] at e
      have q' : oc = p.2 := Option.some.inj e
      exact d w' (by rw [← q']; exact hocd)
theorem store_ok {M : Model} {A : Around} {E : Value → Shared → Prop} {i : Nat} {x : Str} {v : V} {u : Value} {Q : Unit → Shared → Prop} (I : Inv X pins σ H s) (hN : X.N.Nodup) (hi : X.N[i]? = some x) (hx : Loc X.env.scope x) (r : RelV v u)
    (h : ∀ s', Inv X pins (σ.set i (some v)) H s' → Q () s') (hf : X.fn x = true ∨ X.env.scope.names.lookup x = some .local := by first | exact .inl rfl | exact .inr rfl | assumption) : wpAny M A (storeName X.env x u) Q E s :=
  store_ok2 I hN hi hx r (fun s' I' _ => h s' I') hf
/-- behind a call or a block, the state as it is -/
theorem Inv.call' {s' : Shared} {ch : List Addr} (I : Inv X pins σ H s) (ho : s'.os = s.os) (u : Un (frs X.stack) ch H H' s.heap s'.heap) (hok : HOk X.prog X.w H' s'.heap) (hg : AllBare s'.gens)
    (hch : ∀ b ∈ ch, (b ∈ X.ex ∨ X.s_0.heap.objs.size ≤ b) ∧ b ≠ X.env.locals ∧ (∀ x c, X.env.cells.lookup x = some c → c ≠ b) ∧ ∀ p ∈ X.pn ++ pins, p.1 ≠ b) : Inv X pins σ H' s' := by
  obtain ⟨h', g', d', t', o'⟩ := s'
  have e : o' = s.os := ho
  subst e
  exact I.call (g' := g') (t' := t') (d' := d') u hok hg hch
end

/-! ### the judgements -/
/-- an exception: its class, its own dict's address (where it has one), the abstract heap behind it -/
abbrev XK := Value → Option Addr → Hp → Prop
abbrev St := List (Option V)
abbrev VK := V → Hp → Prop
/-- an expression's reading; a test's; an argument list's -/
abbrev TE := St → Hp → VK → Prop
abbrev TT := St → Hp → (Bool → Hp → Prop) → Prop
abbrev TA := St → Hp → (List V → Hp → Prop) → Prop
/-- what is wanted behind a statement -/
structure Ends where
  nx : St → Hp → Prop
  rt : VK
  bk : St → Hp → Prop := fun _ _ => False
  ct : St → Hp → Prop := fun _ _ => False
abbrev TS := Ends → St → Hp → Prop

def EP (X : Cx) (pins : List (Addr × Obj)) (σ : St) (Q : VK) (u : Value) (s' : Shared) : Prop := ∃ v H', Inv X pins σ H' s' ∧ RelV v u ∧ Q v H'
def TP (X : Cx) (pins : List (Addr × Obj)) (σ : St) (Q : Bool → Hp → Prop) (b : Bool) (s' : Shared) : Prop := ∃ H', Inv X pins σ H' s' ∧ Q b H'
def AP (X : Cx) (pins : List (Addr × Obj)) (σ : St) (Q : List V → Hp → Prop) (us : List Value) (s' : Shared) : Prop := ∃ vs H', Inv X pins σ H' s' ∧ Vals vs us ∧ Q vs H'
def SP (X : Cx) (pins : List (Addr × Obj)) (D : Ends) (f : Flow) (s' : Shared) : Prop :=
  match f with
  | .next => ∃ σ' H', Inv X pins σ' H' s' ∧ D.nx σ' H'
  | .brk => ∃ σ' H', Inv X pins σ' H' s' ∧ D.bk σ' H'
  | .cont => ∃ σ' H', Inv X pins σ' H' s' ∧ D.ct σ' H'
  | .ret u => ∃ v σ' H', Inv X pins σ' H' s' ∧ RelV v u ∧ D.rt v H'

def PE (X : Cx) (e : Expr) (t : TE) : Prop :=
  ∀ (pins : List (Addr × Obj)) (s : Shared) (σ : St) (H : Hp) (Q : VK), Inv X pins σ H s → t σ H Q → wpAny (model X.prog X.w) X.A (eval e X.env) (EP X pins σ Q) X.xe s
def PT (X : Cx) (e : Expr) (t : TT) : Prop :=
  ∀ (pins : List (Addr × Obj)) (s : Shared) (σ : St) (H : Hp) (Q : Bool → Hp → Prop), Inv X pins σ H s → t σ H Q → wpAny (model X.prog X.w) X.A (isTrue e X.env (eval e X.env)) (TP X pins σ Q) X.xe s
/-- a test whatever its 'whole' is (and, or) -/
def PW (X : Cx) (e : Expr) (t : TT) : Prop :=
  ∀ (whole : Sem Value) (pins : List (Addr × Obj)) (s : Shared) (σ : St) (H : Hp) (Q : Bool → Hp → Prop), Inv X pins σ H s → t σ H Q → wpAny (model X.prog X.w) X.A (isTrue e X.env whole) (TP X pins σ Q) X.xe s
theorem PW.pt {X : Cx} {e : Expr} {t : TT} (h : PW X e t) : PT X e t := h _
/-- an argument list (no star), from the left -/
def PA (X : Cx) (es : List Expr) (t : TA) : Prop :=
  ∀ (pos : Pos) (pins : List (Addr × Obj)) (s : Shared) (σ : St) (H : Hp) (Q : List V → Hp → Prop), Inv X pins σ H s → t σ H Q → wpAny (model X.prog X.w) X.A (spliced (backTo pos (starEach es X.env))) (AP X pins σ Q) X.xe s
def PS (X : Cx) (st : Stmt) (t : TS) : Prop :=
  ∀ (pins : List (Addr × Obj)) (s : Shared) (σ : St) (H : Hp) (D : Ends), Inv X pins σ H s → t D σ H → wpAny (model X.prog X.w) X.A (exec st X.env) (SP X pins D) X.xe s
def PSs (X : Cx) (st : List Stmt) (t : TS) : Prop :=
  ∀ (pins : List (Addr × Obj)) (s : Shared) (σ : St) (H : Hp) (D : Ends), Inv X pins σ H s → t D σ H → wpAny (model X.prog X.w) X.A (execs st X.env) (SP X pins D) X.xe s
/-- weaken the end -/
theorem thn {α : Type} {t : Sem α} {Q Q' : α → Shared → Prop} {M : Model} {A : Around} {E : Value → Shared → Prop} {s : Shared} (h : wpAny M A t Q E s) (hQ : ∀ a s, Q a s → Q' a s) : wpAny M A t Q' E s := wpAny_mono h hQ fun _ _ x => x
end L2

namespace L2
open PySem PySem.Spec PyProof.Rows
section
variable {X : Cx}

/-! ### names and constants -/
def tVar (i : Nat) : TE := fun σ H Q => ∃ v, σ[i]? = some (some v) ∧ Q v H
def tC (v : V) : TE := fun _ H Q => Q v H
theorem pe_var {i : Nat} {x : Str} {pos : Pos} (hN : X.N[i]? = some x) (hv : Vis X.env.scope x) (hd : (x == ("__debug__" : Str)) = false := by decide) (hcd : (x == ("__classdict__" : Str)) = false := by decide) : PE X (.Name x pos) (tVar i) := by
  intro pins s σ H Q I h
  obtain ⟨v, e, h⟩ := h
  obtain ⟨m, hn, hl⟩ := I.loc
  obtain ⟨u, r, l⟩ := hl i x v hN e hv
  have fin : EP X pins σ Q u s := ⟨v, H, I, r, h⟩
  rcases l with ⟨hk, hm⟩ | ⟨hk, c, hc, hcell⟩
  · exact wpAny_Name (wpAny_loadName_local I.ok.kind hk hn hm fin) hd
  · rcases hk with hk | hk
    · exact wpAny_Name (wpAny_loadName_cell I.ok.kind hk hc hcell fin) hd
    · exact wpAny_Name (wpAny_loadName_free I.ok.kind hk hc hcell fin hcd) hd
theorem pe_int {i j pos} : PE X (.Constant (.int i) j pos) (tC (.int i)) := fun _ _ _ H _ I h => wpAny_Constant_int ⟨.int i, H, I.tok _, ⟨_, rfl⟩, h⟩
theorem pe_bl {b j pos} : PE X (.Constant (.bool b) j pos) (tC (.bl b)) := fun _ _ _ H _ I h => Constant_bool ⟨.bl b, H, I, rfl, h⟩
/-- a global name of the def -/
def Gl (X : Cx) (x : Str) : Prop := X.env.kindOf x = some .globalImplicit
theorem ld_glob {E : Value → Shared → Prop} {pins : List (Addr × Obj)} {s : Shared} {σ : St} {H : Hp} {x : Str} {u : Value} {pos : Pos} {Q : Value → Shared → Prop} (I : Inv X pins σ H s) (hg : Gl X x) (hm : X.mg x = some u) (h : Q u s)
    (hd : (x == ("__debug__" : Str)) = false := by decide) : wpAny (model X.prog X.w) X.A (eval (.Name x pos) X.env) Q E s :=
  Calls.Name_function_global I.ok.kind hg (Calls.loadGlobal_global (by rw [I.ok.glob]; exact I.mod.glob.keeps I.bk) hm h) hd
theorem ld_blt {E : Value → Shared → Prop} {pins : List (Addr × Obj)} {s : Shared} {σ : St} {H : Hp} {x : Str} {u : Value} {pos : Pos} {Q : Value → Shared → Prop} (I : Inv X pins σ H s) (hg : Gl X x) (hm : X.mg x = none) (hv : bootBuiltins x = some u) (h : Q u s)
    (hn : x ≠ "__name__" := by decide) (hd : (x == ("__debug__" : Str)) = false := by decide) : wpAny (model X.prog X.w) X.A (eval (.Name x pos) X.env) Q E s := by
  obtain ⟨mb, h1, h2⟩ := I.mod.blt
  exact Calls.Name_function_global I.ok.kind hg (Calls.loadGlobal_builtin (by rw [I.ok.glob]; exact I.mod.glob.keeps I.bk) hm (by rw [I.ok.blt]; exact h1.keeps I.bk) ((h2 x hn).trans hv) h) hd
/-- a module's constant, a class, a function, as a value -/
theorem pe_glob {x : Str} {v : V} {u : Value} {pos : Pos} (hg : Gl X x) (hm : X.mg x = some u) (r : RelV v u) (hd : (x == ("__debug__" : Str)) = false := by decide) : PE X (.Name x pos) (tC v) :=
  fun _ _ _ H _ I h => ld_glob I hg hm ⟨v, H, I, r, h⟩ hd
/-! ### arithmetic -/
variable {a b : Expr} {ta tb : TE} {pos : Pos}
/-! ### comparisons -/
def PC (X : Cx) (op : CmpOp) (a b : Expr) (t : TE) : Prop :=
  ∀ (pins : List (Addr × Obj)) (s : Shared) (σ : St) (H : Hp) (Q : VK), Inv X pins σ H s → t σ H Q →
    wpAny (model X.prog X.w) X.A (eval a X.env) (fun v s₁ => wpAny (model X.prog X.w) X.A (eval b X.env) (fun u s₂ => wpAny (model X.prog X.w) X.A (compareOp op v u) (EP X pins σ Q) X.xe s₂) X.xe s₁) X.xe s
/-- a comparison as a value, as a test -/
def tB (t : TE) : TT := fun σ H Q => t σ H fun x H1 => ∃ c, x = .bl c ∧ Q c H1
theorem pt_cmp {op : CmpOp} {t : TE} (h : PC X op a b t) (h1 : behindInMarks op b = false := by first | exact nobehind _ (by decide) (by decide) | rfl) : PT X (.Compare a [op] [b] pos) (tB t) := by
  intro pins s σ H Q I hw
  refine wpAny_isTrue_Compare1 (thn (h pins s σ H _ I hw) fun v s1 h1 => thn h1 fun u s2 h2 => thn h2 fun c s3 ⟨x, H1, I1, r1, q1⟩ => ?_) h1
  obtain ⟨d, rfl, q⟩ := q1
  cases r1
  exact wpAny_truthy_bool ⟨H1, I1, q⟩
/-- an expression whose value is a bool, as a test -/
theorem pt_val {e : Expr} {t : TE} (h : PE X e t) (he : ∀ whole, isTrue e X.env whole = (do let v ← whole; standAt e.pos; holding [v] (truthy v)) := by intro _; rfl) : PT X e (tB t) := by
  intro pins s σ H Q I hw
  refine isTrue_plain (thn (h pins s σ H _ I hw) fun v s1 ⟨x, H1, I1, r1, q1⟩ => ?_) (he _)
  obtain ⟨d, rfl, q⟩ := q1
  cases r1
  exact wpAny_truthy_bool ⟨H1, I1, q⟩

/-! ### and, or, not -/
variable {tA tB' : TT} {rest : List Expr}
def tAnd (t u : TT) : TT := fun σ H Q => t σ H fun c H1 => if c = true then u σ H1 Q else Q false H1
def tOr (t u : TT) : TT := fun σ H Q => t σ H fun c H1 => if c = true then Q true H1 else u σ H1 Q
def tNot (t : TT) : TT := fun σ H Q => t σ H fun c H1 => Q (!c) H1
theorem pw_and1 (ha : PT X a tA) : PW X (.BoolOp .And [a] pos) tA := by
  intro wh pins s σ H Q I h
  refine isTrue_and (thn (ha pins s σ H Q I h) fun c s1 e => ?_)
  cases c with
  | true => exact isTrue_and_nil e
  | false => exact e
theorem pw_or1 (ha : PT X a tA) : PW X (.BoolOp .Or [a] pos) tA := by
  intro wh pins s σ H Q I h
  refine isTrue_or (thn (ha pins s σ H Q I h) fun c s1 e => ?_)
  cases c with
  | false => exact isTrue_or_nil e
  | true => exact e
theorem pw_and (ha : PT X a tA) (hb : PW X (.BoolOp .And (b :: rest) pos) tB') : PW X (.BoolOp .And (a :: b :: rest) pos) (tAnd tA tB') := by
  intro wh pins s σ H Q I h
  refine isTrue_and (thn (ha pins s σ H _ I h) fun c s1 ⟨H1, I1, q1⟩ => ?_)
  cases c with
  | true => exact hb wh pins s1 σ H1 Q I1 q1
  | false => exact ⟨H1, I1, q1⟩
theorem pw_or (ha : PT X a tA) (hb : PW X (.BoolOp .Or (b :: rest) pos) tB') : PW X (.BoolOp .Or (a :: b :: rest) pos) (tOr tA tB') := by
  intro wh pins s σ H Q I h
  refine isTrue_or (thn (ha pins s σ H _ I h) fun c s1 ⟨H1, I1, q1⟩ => ?_)
  cases c with
  | true => exact ⟨H1, I1, q1⟩
  | false => exact hb wh pins s1 σ H1 Q I1 q1
theorem pt_not (ha : PT X a tA) : PT X (.UnaryOp .Not a pos) (tNot tA) := by
  intro pins s σ H Q I h
  exact isTrue_not (ha pins s σ H (fun c H1 => Q (!c) H1) I h)
/-- a if t else b -/
def tIf (t : TT) (ta tb : TE) : TE := fun σ H Q => t σ H fun c H1 => if c = true then ta σ H1 Q else tb σ H1 Q
theorem pe_ifExp {c : Expr} (hc : PT X c tA) (ha : PE X a ta) (hb : PE X b tb) : PE X (.IfExp c a b pos) (tIf tA ta tb) := by
  intro pins s σ H Q I h
  refine wpAny_IfExp (thn (hc pins s σ H _ I h) fun d s1 ⟨H1, I1, q1⟩ => ?_)
  cases d with
  | true => exact ha pins s1 σ H1 Q I1 q1
  | false => exact hb pins s1 σ H1 Q I1 q1
end
end L2

namespace L2
open PySem PySem.Spec PyProof.Rows

/-! ### a list, a tuple that is read: tracked, frozen, or an object of the module -/
def SqL (K : PySem.W.Frag) (H : Hp) (a : Addr) (xs : List V) : Prop :=
  Rd H a (.lst xs) ∨
    ∃ (o : Obj) (its : Array Value) (n : Nat), K.lookup a = some o ∧ o.cls = .type "list" ∧ o.dict = none ∧ o.data = .seq its n ∧ its.size ≤ sizeLine ∧ Vals xs its.toList
def SqT (K : PySem.W.Frag) (H : Hp) (a : Addr) (xs : List V) : Prop :=
  Rd H a (.tup xs) ∨
    ∃ (o : Obj) (its : Array Value) (n : Nat), K.lookup a = some o ∧ o.cls = .type "tuple" ∧ o.data = .seq its n ∧ its.size ≤ sizeLine ∧ Vals xs its.toList
def absV : Value → Option V
  | .none => some .non
  | .bool b => some (.bl b)
  | .int i _ => some (.int i)
  | .str x _ => some (.str x)
  | .bytes b _ => some (.byt b)
  | .float b _ => some (.flt b)
  | .ref a => some (.ref a)
  | .type n => some (.ty n)
  | _ => none
theorem RelV.abs {x : V} {u : Value} (r : RelV x u) : absV u = some x := by
  cases x with
  | non => cases r; rfl
  | bl _ => cases r; rfl
  | int _ => obtain ⟨t, rfl⟩ := r; rfl
  | str _ => obtain ⟨t, rfl⟩ := r; rfl
  | byt _ => obtain ⟨t, rfl⟩ := r; rfl
  | flt _ => obtain ⟨t, rfl⟩ := r; rfl
  | ref _ => cases r; rfl
  | ty _ => cases r; rfl
theorem RelV.inj {x y : V} {u : Value} (r : RelV x u) (q : RelV y u) : x = y := Option.some.inj (r.abs.symm.trans q.abs)
theorem Vals.inj : ∀ {xs ys : List V} {us : List Value}, Vals xs us → Vals ys us → xs = ys
  | _, _, _, .nil, .nil => rfl
  | _, _, _, .cons r t, .cons r' t' => by rw [r.inj r', Vals.inj t t']
section
variable {X : Cx} {pins : List (Addr × Obj)} {σ : St} {H : Hp} {s : Shared} {a : Addr} {xs ys : List V}
theorem SqL.of {K : PySem.W.Frag} (h : H a = some (.lst xs)) : SqL K H a xs := .inl (.inl h)
theorem Inv.list (I : Inv X pins σ H s) (h : SqL X.K H a xs) : ∃ its : List Value, Vals xs its ∧ PlainL s.heap a its.toArray ∧ xs.length ≤ sizeLine := by
  rcases h with h | ⟨o, its, n, hk, hc, hd, hs, hz, r⟩
  · obtain ⟨z, its, n, r, e⟩ := h.ok I.hok
    exact ⟨its, r, ⟨_, n, e, rfl, rfl, rfl⟩, z⟩
  · refine ⟨its.toList, r, ⟨o, n, I.kIn a o hk, hc, hd, by simpa using hs⟩, ?_⟩
    have e := r.length
    simp only [Array.length_toList] at e
    omega
theorem Inv.tuple (I : Inv X pins σ H s) (h : SqT X.K H a xs) : ∃ its : List Value, Vals xs its ∧ IsTup s.heap a its.toArray ∧ xs.length ≤ sizeLine := by
  rcases h with h | ⟨o, its, n, hk, hc, hs, hz, r⟩
  · obtain ⟨z, its, r, p⟩ := h.ok I.hok
    exact ⟨its, r, p, z⟩
  · refine ⟨its.toList, r, ⟨o, I.kIn a o hk, hc, n, by simpa using hs⟩, ?_⟩
    have e := r.length
    simp only [Array.length_toList] at e
    omega
theorem Inv.list_inj (I : Inv X pins σ H s) (h : SqL X.K H a xs) (h' : SqL X.K H a ys) : xs = ys := by
  obtain ⟨its, r, ⟨o, n, e, _, _, d⟩, _⟩ := I.list h
  obtain ⟨its', r', ⟨o', n', e', _, _, d'⟩, _⟩ := I.list h'
  rw [e] at e'; cases e'
  rw [d] at d'
  injection d' with d1 _
  have : its = its' := by simpa using congrArg Array.toList d1
  subst this
  exact r.inj r'
end

/-! ### another wish about exceptions -/
abbrev Cx.wish (X : Cx) (E : Value → Shared → Prop) : Cx := { X with xe := E }
/-- no exception leaves -/
abbrev Cx.nox (X : Cx) : Cx := X.wish fun _ _ => False
theorem Cx.Ok.wish {X : Cx} (ok : X.Ok) (E : Value → Shared → Prop) : (X.wish E).Ok :=
  ⟨ok.mod, ok.kind, ok.glob, ok.blt, ok.above, ok.inj, ok.has, ok.cab, ok.hd, ok.frames, ok.stk, ok.exf, ok.bs, ok.bsz, ok.noex, ok.exfs, ok.funs, ok.frf⟩
theorem Cx.Ok.unwish {X : Cx} {E : Value → Shared → Prop} (ok : (X.wish E).Ok) : X.Ok :=
  ⟨ok.mod, ok.kind, ok.glob, ok.blt, ok.above, ok.inj, ok.has, ok.cab, ok.hd, ok.frames, ok.stk, ok.exf, ok.bs, ok.bsz, ok.noex, ok.exfs, ok.funs, ok.frf⟩
section
variable {X : Cx} {pins : List (Addr × Obj)} {σ : St} {H : Hp} {s : Shared} {E : Value → Shared → Prop}
theorem Inv.wish (I : Inv X pins σ H s) (E : Value → Shared → Prop) : Inv (X.wish E) pins σ H s := ⟨I.ok.wish E, I.os, I.bare, I.base, I.loc, I.cell, I.free, I.freeC, I.pin, I.hok, I.len⟩
theorem Inv.unwish (I : Inv (X.wish E) pins σ H s) : Inv X pins σ H s := ⟨I.ok.unwish, I.os, I.bare, I.base, I.loc, I.cell, I.free, I.freeC, I.pin, I.hok, I.len⟩
theorem SP.unwish {D : Ends} {f : Flow} {s' : Shared} (h : SP (X.wish E) pins D f s') : SP X pins D f s' := by
  cases f with
  | next => obtain ⟨σ', H', I, q⟩ := h; exact ⟨σ', H', I.unwish, q⟩
  | brk => obtain ⟨σ', H', I, q⟩ := h; exact ⟨σ', H', I.unwish, q⟩
  | cont => obtain ⟨σ', H', I, q⟩ := h; exact ⟨σ', H', I.unwish, q⟩
  | ret u => obtain ⟨v, σ', H', I, r, q⟩ := h; exact ⟨v, σ', H', I.unwish, r, q⟩
theorem PSs.nox {st : List Stmt} {t : TS} (h : PSs X.nox st t) : PSs X st t := fun pins s σ H D I hw =>
  wpAny_mono (h pins s σ H D (I.wish _) hw) (fun _ _ q => q.unwish) fun _ _ z => False.elim z
end

/-! ### blocks and small statements -/
section
variable {X : Cx} {st : Stmt} {rest : List Stmt} {t u : TS} {e : Expr} {te : TE} {pos : Pos}
def tNext : TS := fun D σ H => D.nx σ H
def tSeq (t u : TS) : TS := fun D σ H => t { D with nx := u D } σ H
theorem pss_nil : PSs X [] tNext := fun _ _ σ H _ I h => wpAny_execs_nil ⟨σ, H, I, h⟩
theorem pss_cons (h1 : PS X st t) (h2 : PSs X rest u) : PSs X (st :: rest) (tSeq t u) := by
  intro pins s σ H D I h
  refine wpAny_execs_cons (thn (h1 pins s σ H { D with nx := u D } I h) fun f s1 q => ?_)
  cases f with
  | next =>
    obtain ⟨σ', H', I', q⟩ := q
    exact h2 pins s1 σ' H' D I' q
  | ret v => exact q
  | brk => exact q
  | cont => exact q
theorem pss_one (h1 : PS X st t) : PSs X [st] t := by
  intro pins s σ H D I h
  refine wpAny_execs_cons (thn (h1 pins s σ H D I h) fun f s1 q => ?_)
  cases f with
  | next => exact wpAny_execs_nil q
  | ret v => exact q
  | brk => exact q
  | cont => exact q
/-- in a def's body nothing is shown -/
theorem Inv.quiet {pins : List (Addr × Obj)} {σ : St} {H : Hp} {s : Shared} (I : Inv X pins σ H s) : interactive X.env = false := by simp [interactive, I.ok.kind]
/-- an expression whose value is dropped -/
def tDrop (te : TE) : TS := fun D σ H => te σ H fun _ H1 => D.nx σ H1
theorem ps_expr (he : PE X e te) (hs : swapsWith e none pos.line X.env = pure false := by rfl) : PS X (.Expr e pos) (tDrop te) := by
  intro pins s σ H D I h
  exact wpAny_Expr_any (thn (he pins s σ H _ I h) fun v s1 ⟨x, H1, I1, r1, q1⟩ => ⟨σ, H1, I1, q1⟩) I.quiet hs
def tRet (te : TE) : TS := fun D σ H => te σ H D.rt
theorem ps_ret (he : PE X e te) : PS X (.Return (some e) pos) (tRet te) := by
  intro pins s σ H D I h
  exact wpAny_Return_some (thn (he pins s σ H _ I h) fun v s1 ⟨x, H1, I1, r1, q1⟩ => ⟨x, σ, H1, I1, r1, q1⟩)
def tIfS (c : TT) (t u : TS) : TS := fun D σ H => c σ H fun b H1 => if b = true then t D σ H1 else u D σ H1
theorem ps_if {c : Expr} {a b : List Stmt} {tc : TT} (hc : PT X c tc) (ha : PSs X a t) (hb : PSs X b u) : PS X (.If c a b pos) (tIfS tc t u) := by
  intro pins s σ H D I h
  refine wpAny_If (thn (hc pins s σ H _ I h) fun d s1 ⟨H1, I1, q1⟩ => ?_)
  cases d with
  | true => exact ha pins s1 σ H1 D I1 q1
  | false => exact hb pins s1 σ H1 D I1 q1
end

/-! ### targets -/
abbrev TG := V → St → Hp → (St → Hp → Prop) → Prop
def PG (X : Cx) (target : Expr) (t : TG) : Prop :=
  ∀ (pins : List (Addr × Obj)) (s : Shared) (σ : St) (H : Hp) (v : V) (u : Value) (Q : St → Hp → Prop), Inv X pins σ H s → RelV v u → t v σ H Q →
    wpAny (model X.prog X.w) X.A (assign target X.env u) (fun _ s' => ∃ σ' H', Inv X pins σ' H' s' ∧ Q σ' H') X.xe s
/-- o[i] = v, by values -/
abbrev TSet := V → V → V → Hp → (Hp → Prop) → Prop
def PSet (X : Cx) (t : TSet) : Prop :=
  ∀ (pins : List (Addr × Obj)) (s : Shared) (σ : St) (H : Hp) (o i v : V) (ov iv u : Value) (Q : Hp → Prop), Inv X pins σ H s → RelV o ov → RelV i iv → RelV v u → t o i v H Q →
    wpAny (model X.prog X.w) X.A (setItem ov iv u) (fun _ s' => ∃ H', Inv X pins σ H' s' ∧ Q H') X.xe s
/-- a op= b, by values -/
abbrev TIp := V → V → Hp → VK → Prop
def PIp (X : Cx) (op : Operator) (t : TIp) : Prop :=
  ∀ (pins : List (Addr × Obj)) (s : Shared) (σ : St) (H : Hp) (x y : V) (v u : Value) (Q : VK), Inv X pins σ H s → RelV x v → RelV y u → t x y H Q →
    wpAny (model X.prog X.w) X.A (inplaceOp op v u) (EP X pins σ Q) X.xe s
section
variable {X : Cx} {pos : Pos}
def gName (i : Nat) : TG := fun v σ H Q => Q (σ.set i (some v)) H
theorem pg_name {i : Nat} {x : Str} (hN : X.N.Nodup) (hi : X.N[i]? = some x) (hx : Loc X.env.scope x) (hf : X.fn x = true ∨ X.env.scope.names.lookup x = some .local := by first | exact .inl rfl | exact .inr rfl | assumption) : PG X (.Name x pos) (gName i) := by
  intro pins s σ H v u Q I r h
  exact wpAny_assign_Name (store_ok I hN hi hx r (fun s' I' => ⟨_, H, I', h⟩) hf)
/-- o[i] = .. -/
def gSub (to ti : TE) (t : TSet) : TG := fun v σ H Q => to σ H fun o H1 => ti σ H1 fun i H2 => t o i v H2 fun H3 => Q σ H3
theorem pg_sub {o i : Expr} {to ti : TE} {t : TSet} (ho : PE X o to) (hi : PE X i ti) (hs : PSet X t)
    (ha : ∀ v, assign (.Subscript o i pos) X.env v = (do
      let ov ← holding [v] (eval o X.env)
      let iv ← holding [v, ov] (eval i X.env)
      standAt pos
      holding [v, ov, iv] (setItem ov iv v)
      release [v, ov, iv] []) := by intro _; rfl) : PG X (.Subscript o i pos) (gSub to ti t) := by
  intro pins s σ H v u Q I r h
  rw [ha]
  refine wpAny_bind (wpAny_holding (thn (ho pins s σ H _ I h) fun ov s1 ⟨x, H1, I1, r1, q1⟩ => ?_))
  refine wpAny_bind (wpAny_holding (thn (hi pins s1 σ H1 _ I1 q1) fun iv s2 ⟨y, H2, I2, r2, q2⟩ => ?_))
  refine wpAny_bind (wpAny_standAt (wpAny_bind (wpAny_holding (thn (hs pins s2 σ H2 x y v ov iv u _ I2 r1 r2 r q2) fun _ s3 ⟨H3, I3, q3⟩ => ?_))))
  exact wpAny_release ⟨σ, H3, I3, q3⟩
/-- target = value -/
def tAsg (te : TE) (g : TG) : TS := fun D σ H => te σ H fun x H1 => g x σ H1 D.nx
theorem ps_asg {tg e : Expr} {te : TE} {g : TG} (he : PE X e te) (hg : PG X tg g) (hs : swapsWithSole [tg] e pos.line X.env = pure false := by rfl) (hw : swappedStores [tg] e X.env = pure none := by rfl)
    (h1 : (assignEach [tg] X.env).map (·.2) = [assign tg X.env] := by rfl) : PS X (.Assign [tg] e pos) (tAsg te g) := by
  intro pins s σ H D I h
  refine wpAny_Assign_stores (thn (he pins s σ H _ I h) fun v s1 ⟨x, H1, I1, r1, q1⟩ => ?_) hs hw
  rw [h1]
  exact thn (hg pins s1 σ H1 x v _ I1 r1 q1) fun _ s2 q => q
/-- name = value -/
theorem ps_set {i : Nat} {x : Str} {e : Expr} {te : TE} {pos' : Pos} (hN : X.N.Nodup) (hi : X.N[i]? = some x) (hx : Loc X.env.scope x) (he : PE X e te) (hs : swapsWith e (some (.Name x pos')) pos.line X.env = pure false := by rfl) (hf : X.fn x = true ∨ X.env.scope.names.lookup x = some .local := by first | exact .inl rfl | exact .inr rfl | assumption) :
    PS X (.Assign [.Name x pos'] e pos) (tAsg te (gName i)) := by
  intro pins s σ H D I h
  refine wpAny_Assign_Name (thn (he pins s σ H _ I h) fun v s1 ⟨y, H1, I1, r1, q1⟩ => ?_) hs
  exact store_ok I1 hN hi hx r1 (fun s2 I2 => ⟨_, H1, I2, q1⟩) hf
/-- name op= e -/
def tAug (i : Nat) (te : TE) (ti : TIp) : TS := fun D σ H => ∃ x, σ[i]? = some (some x) ∧ te σ H fun y H1 => ti x y H1 fun z H2 => D.nx (σ.set i (some z)) H2
theorem ps_aug {i : Nat} {x : Str} {e : Expr} {te : TE} {op : Operator} {ti : TIp} {pos' : Pos} (hN : X.N.Nodup) (hi : X.N[i]? = some x) (hx : Loc X.env.scope x) (he : PE X e te) (ho : PIp X op ti) (hf : X.fn x = true ∨ X.env.scope.names.lookup x = some .local := by first | exact .inl rfl | exact .inr rfl | assumption) :
    PS X (.AugAssign (.Name x pos') op e pos) (tAug i te ti) := by
  intro pins s σ H D I h
  obtain ⟨v, e1, h⟩ := h
  obtain ⟨m, hn, hl⟩ := I.loc
  have vis : Vis X.env.scope x := by rcases hx with k | k; exact .inl k; exact .inr (.inl k)
  obtain ⟨u, r, l⟩ := hl i x v hi e1 vis
  refine wpAny_AugAssign_Name ?_
  have go : wpAny (model X.prog X.w) X.A (eval e X.env) (fun w s₂ => wpAny (model X.prog X.w) X.A (inplaceOp op u w) (fun r s₃ => wpAny (model X.prog X.w) X.A (storeName X.env x r) (fun _ => SP X pins D .next) X.xe s₃) X.xe s₂) X.xe s := by
    refine thn (he pins s σ H _ I h) fun w s1 ⟨y, H1, I1, r1, q1⟩ => ?_
    refine thn (ho pins s1 σ H1 v y u w _ I1 r r1 q1) fun z s2 ⟨zv, H2, I2, r2, q2⟩ => ?_
    exact store_ok I2 hN hi hx r2 (fun s3 I3 => ⟨_, H2, I3, q2⟩) hf
  rcases l with ⟨hk, hm⟩ | ⟨hk, c, hc, hcell⟩
  · exact wpAny_loadName_local I.ok.kind hk hn hm go
  · rcases hk with hk | hk
    · exact wpAny_loadName_cell I.ok.kind hk hc hcell go
    · rcases hx with k | k
      · have : X.env.scope.names.lookup x = some .free := hk
        rw [k] at this; cases this
      · have : X.env.scope.names.lookup x = some .free := hk
        rw [k] at this; cases this
/-- ints -/
def ipI (f : Int → Int → Int) : TIp := fun x y H Q => ∃ i j, x = .int i ∧ y = .int j ∧ Q (.int (f i j)) H
theorem ip_add : PIp X .Add (ipI fun i j => i + j) := by
  intro pins s σ H x y v u Q I r1 r2 h
  obtain ⟨i, j, e1, e2, q⟩ := h
  subst e1; subst e2
  obtain ⟨t, rfl⟩ := r1
  obtain ⟨t', rfl⟩ := r2
  exact iadd_int ⟨.int _, H, I.tok _, ⟨_, rfl⟩, q⟩
end

/-! ### while -/
section
variable {X : Cx} {pos : Pos}
/-- the invariant W with its measure -/
def tWhile (c : TT) (tb : TS) : TS := fun D σ H => ∃ W : Nat → St → Hp → Prop, (∃ m, W m σ H) ∧ ∀ m σ H, W m σ H →
  c σ H fun b H1 => if b = true then ∃ N : St → Hp → Prop, (∀ σ' H', N σ' H' → ∃ m', m' < m ∧ W m' σ' H') ∧ tb { D with nx := N, ct := N, bk := D.nx } σ H1 else D.nx σ H1
theorem ps_while {c : Expr} {body : List Stmt} {tc : TT} {tb : TS} (hp : PassesOwn (model X.prog X.w) X.A X.env X.xe) (hc : PT X c tc) (hb : PSs X body tb) : PS X (.While c body [] pos) (tWhile tc tb) := by
  intro pins s σ H D I h
  obtain ⟨W, ⟨m0, w0⟩, turn⟩ := h
  refine wpAny_While (codeAny_whileLoop (fun n s' => ∃ σ' H', Inv X pins σ' H' s' ∧ W n σ' H') ?_ m0 ⟨σ, H, I, w0⟩)
  rintro n s1 ⟨σ1, H1, I1, w1⟩
  refine wpAny_passesOwn hp (thn (hc pins s1 σ1 H1 _ I1 (turn n σ1 H1 w1)) fun b s2 ⟨H2, I2, q2⟩ => ?_)
  cases b with
  | true =>
    obtain ⟨N, hN, q2⟩ := q2
    rw [if_pos rfl]
    refine wpAny_passesOwn hp (thn (hb pins s2 σ1 H2 _ I2 q2) fun f s3 q3 => ?_)
    cases f with
    | next =>
      obtain ⟨σ3, H3, I3, n3⟩ := q3
      obtain ⟨m', hm, w3⟩ := hN σ3 H3 n3
      exact ⟨m', hm, σ3, H3, I3, w3⟩
    | cont =>
      obtain ⟨σ3, H3, I3, n3⟩ := q3
      obtain ⟨m', hm, w3⟩ := hN σ3 H3 n3
      exact ⟨m', hm, σ3, H3, I3, w3⟩
    | brk => exact q3
    | ret v => exact q3
  | false =>
    rw [if_neg Bool.false_ne_true]
    exact wpAny_execs_nil ⟨σ1, H2, I2, q2⟩
end

/-! ### what a loop or a comprehension walks -/
/-- at turn i: it yields x (the heap may grow), or it stops -/
structure It where
  go : Nat → Hp → Prop
  yld : Nat → Hp → V → Hp → Prop
  stop : Nat → Hp → Prop
/-- the iterator's own objects may turn: they are not the frame's, not pinned, younger than the entry (or a comprehension's own) -/
def FpOk (X : Cx) (pins : List (Addr × Obj)) (H : Hp) (b : Addr) : Prop :=
  H b = none ∧ b ≠ X.env.locals ∧ b ∉ X.fs ∧ (b ∈ X.ex ∨ X.s_0.heap.objs.size ≤ b) ∧ (∀ x c, X.env.cells.lookup x = some c → c ≠ b) ∧ ∀ p ∈ X.pn ++ pins, p.1 ≠ b
theorem Inv.fpOk {X : Cx} {pins : List (Addr × Obj)} {σ : St} {H H' : Hp} {s : Shared} {b : Addr} (I : Inv X pins σ H s) (hb : s.heap.objs.size ≤ b) (hn : H' b = none) : FpOk X pins H' b := by
  refine ⟨hn, Nat.ne_of_gt (Nat.lt_of_lt_of_le I.lt hb), I.nofs hb, .inr (Nat.le_trans I.sz hb), fun x c e z => ?_, fun p hp z => ?_⟩
  · obtain ⟨v, q⟩ := I.cell x c e
    exact absurd (Nat.lt_of_lt_of_le q.lt (by rw [z]; exact hb)) (Nat.lt_irrefl _)
  · exact absurd (Nat.lt_of_lt_of_le (Heap.lt_size (I.pin p hp).1) (by rw [z]; exact hb)) (Nat.lt_irrefl _)
structure Turn (P : Program) (w : World) (K : PySem.W.Frag) (tg : Expr) (J : It) (fp : List Addr) (it : Addr) (tn : Nat → Heap → Prop) : Prop where
  mem : it ∈ fp
  obj : ∀ i h, tn i h → ∀ b ∈ fp, ∃ o, h.get? b = some o ∧ ∀ v, o.data ≠ .cell v
  keep : ∀ i h h', tn i h → (∀ b ∈ fp, ∀ o, h.get? b = some o → h'.get? b = some o) → tn i h'
  item : ∀ (X : Cx), X.prog = P → X.w = w → X.K = K → X.calm = true → ∀ (i : Nat) (pins : List (Addr × Obj)) (s : Shared) (σ : St) (H : Hp) (E : Value → Shared → Prop), Inv X pins σ H s → (∀ b ∈ fp, FpOk X pins H b) → tn i s.heap → J.go i H →
    wpAny (model P w) X.A (pyNext (.ref it)) (fun r s1 => ∃ u, r = some u ∧
      wpAny (model P w) X.A (letOwnedTupleGo tg (.ref it) u) (fun _ s2 => ∃ x H', Inv X pins σ H' s2 ∧ RelV x u ∧ J.yld i H x H' ∧ tn (i + 1) s2.heap ∧ ∀ b ∈ fp, H' b = none) E s1) E s
  done : ∀ (X : Cx), X.prog = P → X.w = w → X.K = K → X.calm = true → ∀ (i : Nat) (pins : List (Addr × Obj)) (s : Shared) (σ : St) (H : Hp) (E : Value → Shared → Prop), Inv X pins σ H s → (∀ b ∈ fp, FpOk X pins H b) → tn i s.heap → J.stop i H →
    wpAny (model P w) X.A (pyNext (.ref it)) (fun r s1 => r = none ∧ Inv X pins σ H s1) E s
  self : ∀ (A : Around) (i : Nat) (s : Shared) (Q : Value → Shared → Prop) (E : Value → Shared → Prop), tn i s.heap → Q (.ref it) s → wpAny (model P w) A (pyIter (.ref it)) Q E s
abbrev TI := St → Hp → (It → Hp → Prop) → Prop
/-- an iterator has come -/
def PIE (X : Cx) (pins : List (Addr × Obj)) (σ : St) (tg : Expr) (R : It → Hp → Prop) (itv : Value) (s2 : Shared) : Prop :=
  ∃ (it : Addr) (fp : List Addr) (tn : Nat → Heap → Prop) (J : It) (H' : Hp), itv = .ref it ∧ Inv X pins σ H' s2 ∧ Turn X.prog X.w X.K tg J fp it tn ∧ tn 0 s2.heap ∧ (∀ b ∈ fp, FpOk X pins H' b) ∧ R J H'
def PI (X : Cx) (tg iter : Expr) (wi : TI) : Prop :=
  ∀ (pins : List (Addr × Obj)) (s : Shared) (σ : St) (H : Hp) (R : It → Hp → Prop), Inv X pins σ H s → wi σ H R →
    wpAny (model X.prog X.w) X.A (eval iter X.env) (fun v s1 => wpAny (model X.prog X.w) X.A (pyIter v) (PIE X pins σ tg R) X.xe s1) X.xe s

/-- the step ahead of the store is nothing for an iterator that keeps no tuple -/
theorem go_of {M : Model} {A : Around} {E : Value → Shared → Prop} {s : Shared} {tg : Expr} {it : Addr} {u : Value} {o : Obj} {n : String} {vs : Array Value} {Q : Unit → Shared → Prop} (ho : s.heap.get? it = some o) (hc : o.cls = .type n) (hd : o.data = .fields vs)
    (hn : ["enumerate", "zip", "dict_itemiterator", "dict_reverseitemiterator", "odict_iterator", "itertools.zip_longest", "itertools.pairwise"].contains n = false) (hQ : Q () s) : wpAny M A (letOwnedTupleGo tg (.ref it) u) Q E s := by
  unfold letOwnedTupleGo
  cases tg <;> first
    | exact wpAny_pure hQ
    | (cases u <;> first
        | exact wpAny_pure hQ
        | (refine wpAny_bind (wpAny_load ho ?_)
           rw [hc, hd]
           show wpAny M A (if (["enumerate", "zip", "dict_itemiterator", "dict_reverseitemiterator", "odict_iterator", "itertools.zip_longest", "itertools.pairwise"].contains n && vs[0]? == some (rawInt _)) = true then _ else _) Q E s
           rw [if_neg (by intro h; rw [hn, Bool.false_and] at h; cases h)]
           exact wpAny_pure hQ))

/-- lo, lo + 1, .. (n of them) -/
def Itr (lo : Int) (n : Nat) : It := ⟨fun i _ => i < n, fun i H x H' => H' = H ∧ x = .int (lo + i), fun i _ => n ≤ i⟩
theorem turn_range {P : Program} {w : World} {K : PySem.W.Frag} {tg : Expr} (it : Addr) (lo : Int) (n : Nat) : Turn P w K tg (Itr lo n) [it] it (fun i h => IsRangeIter h it (lo + (i : Nat) * 1) ((n : Int) - (i : Nat)) 1) where
  mem := by simp
  obj := fun i h st b hb => by
    have e : b = it := by simpa using hb
    subst e
    exact ⟨_, st, fun v z => by
      have z' : Data.fields _ = Data.cell v := z
      cases z'⟩
  keep := fun i h h' st k => k it (by simp) _ st
  item := by
    intro X hP hw hK hc i pins s σ H E I hf st hg
    subst hP hw hK
    obtain ⟨f0, f1, f2, f3, f4, f5⟩ := hf it (by simp)
    have W := Walks.range (prog := X.prog) (w := X.w) (I.ok.hd hc) it lo 1 n
    refine W.item i s _ _ hg st fun v h' tk hv st' kk => ?_
    obtain ⟨t, rfl⟩ := hv
    have I1 : Inv X pins σ H { s with heap := h', toks := tk } := I.turned (fun b o hb e => kk b o (by simpa using hb) e) f0 f1 f3 f4 f5
    refine ⟨_, rfl, go_of (s := { s with heap := h', toks := tk }) (n := "range_iterator") st' rfl rfl (by decide) ⟨.int (lo + i), H, I1, ⟨t, ?_⟩, ⟨rfl, rfl⟩, st', fun b hb => (hf b hb).1⟩⟩
    rw [Int.mul_one]
  done := by
    intro X hP hw hK hc i pins s σ H E I hf st hg
    subst hP hw hK
    obtain ⟨f0, f1, f2, f3, f4, f5⟩ := hf it (by simp)
    exact wpAny_pyNext_range_end (I.ok.hd hc) st (by have : n ≤ i := hg; omega) fun h' eb => ⟨rfl, I.turned (t' := s.toks) (fun b o hb e => eb b o hb e) f0 f1 f3 f4 f5⟩
  self := fun _ _ _ _ _ st h => wpAny_pyIter_rangeiter st h
end L2

namespace L2
open PySem PySem.Spec PyProof.Rows
section
variable {X : Cx} {tg : Expr}
/-- a range object just made, walked -/
theorem range_it {pins : List (Addr × Obj)} {σ : St} {H : Hp} {s : Shared} {R : It → Hp → Prop} {E : Value → Shared → Prop} {lo hi : Int} {t u v : Tok} {tk : Nat} (I : Inv X pins σ H s) (h1 : -(2 ^ 62) ≤ lo) (h2 : lo < 2 ^ 62) (h3 : -(2 ^ 62) ≤ hi) (h4 : hi < 2 ^ 62)
    (q : R (Itr lo (hi - lo).toNat) H) : wpAny (model X.prog X.w) X.A (pyIter (.ref s.heap.objs.size)) (PIE X pins σ tg R) E { s with heap := s.heap.push { cls := .type "range", data := .fields #[.int lo t, .int hi u, .int 1 v] }, toks := tk } := by
  refine wpAny_pyIter_range (IsRange.new ..) (small_one h1 h2 h3 h4) ?_
  have I1 : Inv X pins σ H { s with heap := s.heap.push { cls := .type "range", data := .fields #[.int lo t, .int hi u, .int 1 v] }, toks := tk } := I.kept fun b o e => Heap.get?_push_of_some _ e
  refine ⟨(s.heap.push { cls := .type "range", data := .fields #[.int lo t, .int hi u, .int 1 v] }).objs.size, [(s.heap.push { cls := .type "range", data := .fields #[.int lo t, .int hi u, .int 1 v] }).objs.size], _, _, H, rfl,
    I1.kept (t' := tk) fun b o e => Heap.get?_push_of_some _ e, turn_range _ lo (hi - lo).toNat, ?_, fun b hb => ?_, q⟩
  · have e1 : lo + ((0 : Nat) : Int) * 1 = lo := by simp
    have e2 : (((hi - lo).toNat : Nat) : Int) - ((0 : Nat) : Int) = Builtin.Range.rangeSize lo hi 1 := by rw [rangeSize_one]; split <;> omega
    show IsRangeIter _ _ (lo + ((0 : Nat) : Int) * 1) ((((hi - lo).toNat : Nat) : Int) - ((0 : Nat) : Int)) 1
    rw [e1, e2]
    exact Heap.get?_push_size _ rfl
  · have e : b = (s.heap.push { cls := .type "range", data := .fields #[.int lo t, .int hi u, .int 1 v] }).objs.size := by simpa using hb
    subst e
    exact I1.fpOk (Nat.le_refl _) (I1.hok.fresh (Nat.le_refl _))
def iRng1 (ta : TA) : TI := fun σ H R => ta σ H fun vs H1 => ∃ j : Int, vs = [.int j] ∧ -(2 ^ 62) ≤ j ∧ j < 2 ^ 62 ∧ R (Itr 0 j.toNat) H1
theorem pi_range1 {a : Expr} {ta : TA} {p pos : Pos} (hg : Gl X "range") (hm : X.mg "range" = none) (ha : PA X [a] ta) (hs : starEach [a] X.env = [(false, eval a X.env)] := by rfl) : PI X tg (.Call (.Name "range" p) [a] [] pos) (iRng1 ta) := by
  intro pins s σ H R I h
  refine Call_ (ld_blt I hg hm boot_range (PyProof.Rows.callWith_type1 (thn (ha pos pins s σ H _ I h) fun us s1 ⟨vs, H1, I1, r1, q1⟩ => ?_) hs rfl))
  obtain ⟨j, e, q1, q2, q⟩ := q1
  subst e
  cases r1 with
  | cons r rr =>
    cases rr
    obtain ⟨t, rfl⟩ := r
    exact call_range_1 (range_it I1 (by omega) (by omega) q1 q2 (by simpa using q))
/-! ### for -/
/-- W: the invariant by the turn and a measure; N: what the body is to reach -/
def tFor (wi : TI) (g : TG) (tb : TS) : TS := fun D σ H => wi σ H fun J H1 => ∃ W : Nat → Nat → St → Hp → Prop, (∃ m, W 0 m σ H1) ∧ ∀ i m σ H, W i m σ H →
  (J.stop i H ∧ D.nx σ H) ∨ (J.go i H ∧ ∃ N : St → Hp → Prop, (∀ σ' H', N σ' H' → ∃ m', m' < m ∧ W (i + 1) m' σ' H') ∧ ∀ x H', J.yld i H x H' → g x σ H' fun σ2 H2 => tb { D with nx := N, ct := N, bk := D.nx } σ2 H2)
/-- the records at fp as they stand -/
def pinsAt (fp : List Addr) (h : Heap) : List (Addr × Obj) := fp.filterMap fun b => (h.get? b).map fun o => (b, o)
theorem mem_pinsAt {fp : List Addr} {h : Heap} {b : Addr} {o : Obj} (hb : b ∈ fp) (e : h.get? b = some o) : (b, o) ∈ pinsAt fp h := List.mem_filterMap.mpr ⟨b, hb, by rw [e]; rfl⟩
theorem of_pinsAt {fp : List Addr} {h : Heap} {p : Addr × Obj} (hp : p ∈ pinsAt fp h) : p.1 ∈ fp ∧ h.get? p.1 = some p.2 := by
  obtain ⟨b, hb, e⟩ := List.mem_filterMap.mp hp
  cases q : h.get? b with
  | none => rw [q] at e; cases e
  | some o =>
    rw [q] at e
    have e' : (b, o) = p := Option.some.inj e
    subst e'
    exact ⟨hb, q⟩
theorem Inv.pinned {pins : List (Addr × Obj)} {σ : St} {H : Hp} {s : Shared} {fp : List Addr} (I : Inv X pins σ H s) (hf : ∀ b ∈ fp, FpOk X pins H b) (ho : ∀ b ∈ fp, ∃ o, s.heap.get? b = some o ∧ ∀ v, o.data ≠ .cell v) : Inv X (pins ++ pinsAt fp s.heap) σ H s :=
  I.pins_of fun p hp => (List.mem_append.mp hp).elim (fun z => I.pin p (List.mem_append_right _ z)) fun z => by
    obtain ⟨hb, e⟩ := of_pinsAt z
    obtain ⟨f0, f1, f2, _⟩ := hf p.1 hb
    obtain ⟨o, e', d⟩ := ho p.1 hb
    rw [e] at e'; cases e'
    exact ⟨e, f0, f1, f2, d⟩
theorem Inv.unpinned {pins pl : List (Addr × Obj)} {σ : St} {H : Hp} {s : Shared} (I : Inv X (pins ++ pl) σ H s) : Inv X pins σ H s := I.pins_of fun p hp => I.pin p (List.mem_append_right _ (List.mem_append_left _ hp))
theorem ps_for {iter : Expr} {body : List Stmt} {wi : TI} {g : TG} {tb : TS} {pos : Pos} (hp : PassesOwn (model X.prog X.w) X.A X.env X.xe) (hc : X.calm = true) (hi : PI X tg iter wi) (hg : PG X tg g) (hb : PSs X body tb)
    (hs : ∀ x, foldedSetIterable iter X.env x = pure x := by intro _; rfl) : PS X (.For tg iter body [] pos) (tFor wi g tb) := by
  intro pins s σ H D I h
  refine wpAny_For (thn (hi pins s σ H _ I h) fun v s1 h1 => thn h1 fun itv s2 h2 => ?_) hs
  obtain ⟨it, fp, tn, J, H2, e, I2, T, st2, f2, W, ⟨m0, w0⟩, turn⟩ := h2
  subst e
  -- what stays true of the iterator's objects through the loop
  have stat : ∀ {H' : Hp}, (∀ b ∈ fp, H' b = none) → ∀ b ∈ fp, FpOk X pins H' b := fun hn b hb => ⟨hn b hb, (f2 b hb).2⟩
  refine codeAny_forLoop_any (fun n s' => ∃ i σ' H', Inv X pins σ' H' s' ∧ tn i s'.heap ∧ (∀ b ∈ fp, H' b = none) ∧ W i n σ' H') ?_ m0 ⟨0, σ, H2, I2, st2, fun b hb => (f2 b hb).1, w0⟩
  rintro n s3 ⟨i, σ3, H3, I3, st3, fr3, w3⟩
  rcases turn i n σ3 H3 w3 with ⟨stop, qn⟩ | ⟨go, N, hN, step⟩
  · refine wpAny_passesOwn hp (thn (T.done X rfl rfl rfl hc i pins s3 σ3 H3 X.xe I3 (stat fr3) st3 stop) fun r s4 ⟨hr, I4⟩ => ?_)
    subst hr
    exact wpAny_execs_nil ⟨σ3, H3, I4, qn⟩
  · refine wpAny_passesOwn hp (thn (T.item X rfl rfl rfl hc i pins s3 σ3 H3 X.xe I3 (stat fr3) st3 go) fun r s4 ⟨u, hr, h4⟩ => ?_)
    subst hr
    refine wpAny_passesOwn hp (thn h4 fun _ s5 ⟨x, H5, I5, r5, y5, st5, fr5⟩ => ?_)
    have I5' := I5.pinned (stat fr5) (T.obj _ _ st5)
    refine wpAny_passesOwn hp (thn (hg _ s5 σ3 H5 x u _ I5' r5 (step x H5 y5)) fun _ s6 ⟨σ6, H6, I6, q6⟩ => ?_)
    refine wpAny_passesOwn hp (thn (hb _ s6 σ6 H6 _ I6 q6) fun f s7 q7 => ?_)
    have again : ∀ {σ7 : St} {H7 : Hp}, Inv X (pins ++ pinsAt fp s5.heap) σ7 H7 s7 → N σ7 H7 → ∃ m, m < n ∧ ∃ i σ' H', Inv X pins σ' H' s7 ∧ tn i s7.heap ∧ (∀ b ∈ fp, H' b = none) ∧ W i m σ' H' := fun {σ7 H7} I7 n7 => by
      obtain ⟨m', hm, w7⟩ := hN σ7 H7 n7
      refine ⟨m', hm, i + 1, σ7, H7, I7.unpinned, T.keep _ _ _ st5 fun b hb o e => (I7.pin (b, o) (List.mem_append_right _ (List.mem_append_right _ (mem_pinsAt hb e)))).1, fun b hb => ?_, w7⟩
      obtain ⟨o, e, d⟩ := T.obj _ _ st5 b hb
      exact (I7.pin (b, o) (List.mem_append_right _ (List.mem_append_right _ (mem_pinsAt hb e)))).2.1
    cases f with
    | next => obtain ⟨σ7, H7, I7, n7⟩ := q7; exact again I7 n7
    | cont => obtain ⟨σ7, H7, I7, n7⟩ := q7; exact again I7 n7
    | brk => obtain ⟨σ7, H7, I7, q7⟩ := q7; exact ⟨σ7, H7, I7.unpinned, q7⟩
    | ret v => obtain ⟨x7, σ7, H7, I7, r7, q7⟩ := q7; exact ⟨x7, σ7, H7, I7.unpinned, r7, q7⟩
end

/-! ### the forms one uses -/
theorem for_range {lo : Int} {n : Nat} {g : TG} {tb : TS} {D : Ends} {σ : St} {H : Hp} (Pv : Nat → St → Hp → Prop) (h0 : Pv 0 σ H)
    (hs : ∀ i σ H, i < n → Pv i σ H → g (.int (lo + i)) σ H fun σ2 H2 => tb { D with nx := Pv (i + 1), ct := Pv (i + 1), bk := D.nx } σ2 H2) (hd : ∀ σ H, Pv n σ H → D.nx σ H) :
    ∃ W : Nat → Nat → St → Hp → Prop, (∃ m, W 0 m σ H) ∧ ∀ i m σ H, W i m σ H →
      ((Itr lo n).stop i H ∧ D.nx σ H) ∨ ((Itr lo n).go i H ∧ ∃ N : St → Hp → Prop, (∀ σ' H', N σ' H' → ∃ m', m' < m ∧ W (i + 1) m' σ' H') ∧ ∀ x H', (Itr lo n).yld i H x H' → g x σ H' fun σ2 H2 => tb { D with nx := N, ct := N, bk := D.nx } σ2 H2) := by
  refine ⟨fun i m σ H => m = n - i ∧ i ≤ n ∧ Pv i σ H, ⟨n, by simp, Nat.zero_le _, h0⟩, ?_⟩
  rintro i m σ H ⟨rfl, hi, p⟩
  by_cases hlt : i < n
  · refine .inr ⟨hlt, Pv (i + 1), fun σ' H' p' => ⟨n - (i + 1), by omega, rfl, hlt, p'⟩, fun x H' y => ?_⟩
    obtain ⟨e, y⟩ := y
    subst e y
    exact hs i σ _ hlt p
  · have e : i = n := by omega
    subst e
    exact .inl ⟨Nat.le_refl _, hd σ H p⟩
end L2

namespace L2
open PySem PySem.Spec PyProof.Rows

abbrev R2 := V → V → Hp → VK → Prop
/-- a two-place operation on values: f is binaryOp op, inplaceOp op or compareOp op -/
def OpR (X : Cx) (f : Value → Value → Sem Value) (r : R2) : Prop :=
  ∀ (pins : List (Addr × Obj)) (s : Shared) (σ : St) (H : Hp) (x y : V) (v u : Value) (Q : VK), Inv X pins σ H s → RelV x v → RelV y u → r x y H Q →
    wpAny (model X.prog X.w) X.A (f v u) (EP X pins σ Q) X.xe s
/-- a one-place operation -/
def UnR (X : Cx) (f : Value → Sem Value) (r : V → Hp → VK → Prop) : Prop :=
  ∀ (pins : List (Addr × Obj)) (s : Shared) (σ : St) (H : Hp) (x : V) (v : Value) (Q : VK), Inv X pins σ H s → RelV x v → r x H Q →
    wpAny (model X.prog X.w) X.A (f v) (EP X pins σ Q) X.xe s
/-- a call of a value that is known (a builtin, a type) with values -/
def CallR (X : Cx) (f : Value) (r : List V → Hp → VK → Prop) : Prop :=
  ∀ (pins : List (Addr × Obj)) (s : Shared) (σ : St) (H : Hp) (xs : List V) (us : List Value) (Q : VK), Inv X pins σ H s → Vals xs us → r xs H Q →
    wpAny (model X.prog X.w) X.A (call f us) (EP X pins σ Q) X.xe s
def tOp (r : R2) (ta tb : TE) : TE := fun σ H Q => ta σ H fun x H1 => tb σ H1 fun y H2 => r x y H2 Q
def tUn (r : V → Hp → VK → Prop) (ta : TE) : TE := fun σ H Q => ta σ H fun x H1 => r x H1 Q
/-- ints in, under C, and a value out -/
def rI (C : Int → Int → Prop) (g : Int → Int → V) : R2 := fun x y H Q => ∃ i j, x = .int i ∧ y = .int j ∧ C i j ∧ Q (g i j) H
def rI0 (g : Int → Int → V) : R2 := fun x y H Q => ∃ i j, x = .int i ∧ y = .int j ∧ Q (g i j) H
def rU (g : Int → V) : V → Hp → VK → Prop := fun x H Q => ∃ i, x = .int i ∧ Q (g i) H

section
variable {X : Cx} {a b c : Expr} {ta tb tc : TE} {pos : Pos}

theorem binT (ha : PE X a ta) (hb : PE X b tb) {pins : List (Addr × Obj)} {s : Shared} {σ : St} {H : Hp} {R : V → V → Hp → Prop} (I : Inv X pins σ H s)
    (h : ta σ H fun x H1 => tb σ H1 fun y H2 => R x y H2) {Q : Value → Shared → Prop} {f : Value → Value → Sem Value}
    (hf : ∀ v u s2 x y H2, Inv X pins σ H2 s2 → RelV x v → RelV y u → R x y H2 → wpAny (model X.prog X.w) X.A (f v u) Q X.xe s2) :
    wpAny (model X.prog X.w) X.A (eval a X.env) (fun v s₁ => wpAny (model X.prog X.w) X.A (eval b X.env) (fun u s₂ => wpAny (model X.prog X.w) X.A (f v u) Q X.xe s₂) X.xe s₁) X.xe s := by
  refine thn (ha pins s σ H _ I h) fun v s1 ⟨x, H1, I1, r1, q1⟩ => ?_
  refine thn (hb pins s1 σ H1 _ I1 q1) fun u s2 ⟨y, H2, I2, r2, q2⟩ => ?_
  exact hf v u s2 x y H2 I2 r1 r2 q2

theorem pe_op {op : Operator} {r : R2} (ho : OpR X (binaryOp op) r) (ha : PE X a ta) (hb : PE X b tb) : PE X (.BinOp a op b pos) (tOp r ta tb) := by
  intro pins s σ H Q I h
  exact wpAny_BinOp (binT ha hb I h fun v u s2 x y H2 I2 rx ry q => ho pins s2 σ H2 x y v u Q I2 rx ry q)
theorem pe_un {op : UnaryOp} {r : V → Hp → VK → Prop} (ho : UnR X (unaryOp op) r) (ha : PE X a ta) : PE X (.UnaryOp op a pos) (tUn r ta) := by
  intro pins s σ H Q I h
  exact UnaryOp_ (thn (ha pins s σ H _ I h) fun v s1 ⟨x, H1, I1, r1, q1⟩ => ho pins s1 σ H1 x v Q I1 r1 q1)
/-! ### ints -/
theorem opI {f : Value → Value → Sem Value} {C : Int → Int → Prop} {g : Int → Int → Int}
    (rule : ∀ (i j : Int) (t u : Tok) (s : Shared) (Q : Value → Shared → Prop) (E : Value → Shared → Prop), C i j → Q (.int (g i j) s.toks) { s with toks := s.toks + 1 } → wpAny (model X.prog X.w) X.A (f (.int i t) (.int j u)) Q E s) :
    OpR X f (rI C fun i j => .int (g i j)) := by
  intro pins s σ H x y v u Q I rx ry h
  obtain ⟨i, j, rfl, rfl, hc, q⟩ := h
  obtain ⟨t, rfl⟩ := rx
  obtain ⟨t', rfl⟩ := ry
  exact rule i j t t' s _ _ hc ⟨.int (g i j), H, I.tok _, ⟨_, rfl⟩, q⟩
theorem opI0 {f : Value → Value → Sem Value} {g : Int → Int → Int}
    (rule : ∀ (i j : Int) (t u : Tok) (s : Shared) (Q : Value → Shared → Prop) (E : Value → Shared → Prop), Q (.int (g i j) s.toks) { s with toks := s.toks + 1 } → wpAny (model X.prog X.w) X.A (f (.int i t) (.int j u)) Q E s) :
    OpR X f (rI0 fun i j => .int (g i j)) := by
  intro pins s σ H x y v u Q I rx ry h
  obtain ⟨i, j, rfl, rfl, q⟩ := h
  obtain ⟨t, rfl⟩ := rx
  obtain ⟨t', rfl⟩ := ry
  exact rule i j t t' s _ _ ⟨.int (g i j), H, I.tok _, ⟨_, rfl⟩, q⟩
theorem opB0 {f : Value → Value → Sem Value} {g : Int → Int → Bool}
    (rule : ∀ (i j : Int) (t u : Tok) (s : Shared) (Q : Value → Shared → Prop) (E : Value → Shared → Prop), Q (.bool (g i j)) s → wpAny (model X.prog X.w) X.A (f (.int i t) (.int j u)) Q E s) :
    OpR X f (rI0 fun i j => .bl (g i j)) := by
  intro pins s σ H x y v u Q I rx ry h
  obtain ⟨i, j, rfl, rfl, q⟩ := h
  obtain ⟨t, rfl⟩ := rx
  obtain ⟨t', rfl⟩ := ry
  exact rule i j t t' s _ _ ⟨.bl (g i j), H, I, rfl, q⟩

def CDiv (i j : Int) : Prop := 0 < j ∧ j < 1073741824
def CPow (i j : Int) : Prop := 0 ≤ j ∧ j ≤ 1000000 ∧ i.natAbs < 2 ^ 64
def CMul (i j : Int) : Prop := (-(2 ^ 64) < i ∧ i < 2 ^ 64) ∨ (-(2 ^ 64) < j ∧ j < 2 ^ 64)
theorem CMul.ok {i j : Int} (h : CMul i j) : IntMulOk i j := by
  rcases h with ⟨h1, h2⟩ | ⟨h1, h2⟩
  · exact .of_left (intBits_le_64 h1 h2)
  · exact .of_right (intBits_le_64 h1 h2)
theorem two_pow_nn (k : Nat) : (0 : Int) ≤ 2 ^ k := by
  rw [two_pow_cast]
  exact Int.natCast_nonneg _

theorem op_add : OpR X (binaryOp .Add) (rI0 fun i j => .int (i + j)) := opI0 fun _ _ _ _ _ _ _ q => add_int q
theorem op_sub : OpR X (binaryOp .Sub) (rI0 fun i j => .int (i - j)) := opI0 fun _ _ _ _ _ _ _ q => sub_int q
theorem op_mul : OpR X (binaryOp .Mult) (rI CMul fun i j => .int (i * j)) := opI fun _ _ _ _ _ _ _ hc q => mul_int q hc.ok
/-- // by a positive divisor -/
theorem op_fdiv : OpR X (binaryOp .FloorDiv) (rI CDiv fun i j => .int (i / j)) := opI fun i j _ _ _ _ _ hc q => by
  have h1 : (0 : Int) < j := hc.1
  have h2 : j < 1073741824 := hc.2
  exact floordiv_int (by omega) (by rw [Int.fdiv_eq_ediv_of_nonneg i (by omega)]; exact q) (.inl (PyProof.noPylong_small (by omega)))
/-- % by a positive divisor of any size -/
theorem op_mod : OpR X (binaryOp .Mod) (rI (fun _ j => 0 < j) fun i j => .int (i % j)) := opI fun i j _ _ _ _ _ hc q => by
  have h1 : (0 : Int) < j := hc
  exact mod_int' (by omega) (by rw [Int.fmod_eq_emod_of_nonneg i (by omega)]; exact q)
theorem op_shl : OpR X (binaryOp .LShift) (rI CPow fun i j => .int (i * 2 ^ j.toNat)) := opI fun _ _ _ _ _ _ _ hc q => lshift_int_small hc.1 hc.2.1 hc.2.2 q
theorem op_shr : OpR X (binaryOp .RShift) (rI (fun _ j => 0 ≤ j) fun i j => .int (i / 2 ^ j.toNat)) := opI fun i j _ _ _ _ _ hc q =>
  rshift_int hc (by rw [Int.fdiv_eq_ediv_of_nonneg i (two_pow_nn _)]; exact q)
theorem op_and : OpR X (binaryOp .BitAnd) (rI0 fun i j => .int (Builtin.bitAnd i j)) := opI0 fun _ _ _ _ _ _ _ q => and_int q
theorem op_or : OpR X (binaryOp .BitOr) (rI0 fun i j => .int (Builtin.bitOr i j)) := opI0 fun _ _ _ _ _ _ _ q => or_int q
theorem op_xor : OpR X (binaryOp .BitXor) (rI0 fun i j => .int (Builtin.bitXor i j)) := opI0 fun _ _ _ _ _ _ _ q => xor_int q

theorem unI {f : Value → Sem Value} {g : Int → Int}
    (rule : ∀ (i : Int) (t : Tok) (s : Shared) (Q : Value → Shared → Prop) (E : Value → Shared → Prop), Q (.int (g i) s.toks) { s with toks := s.toks + 1 } → wpAny (model X.prog X.w) X.A (f (.int i t)) Q E s) :
    UnR X f (rU fun i => .int (g i)) := by
  intro pins s σ H x v Q I rx h
  obtain ⟨i, rfl, q⟩ := h
  obtain ⟨t, rfl⟩ := rx
  exact rule i t s _ _ ⟨.int (g i), H, I.tok _, ⟨_, rfl⟩, q⟩
theorem un_neg : UnR X (unaryOp .USub) (rU fun i => .int (-i)) := unI fun _ _ _ _ _ q => neg_int q
/-! ### bools among ints: n += (a < b) -/
end

/-! ### comparisons -/
/-- the scalars that == tells apart as data does -/
def scal : V → V → Bool
  | .non, .non => true | .non, .int _ => true | .int _, .non => true | .non, .bl _ => true | .bl _, .non => true | .non, .str _ => true | .str _, .non => true
  | .int _, .int _ => true | .bl _, .bl _ => true | .str _, .str _ => true | .byt _, .byt _ => true
  | .int _, .str _ => true | .str _, .int _ => true | .bl _, .str _ => true | .str _, .bl _ => true
  | _, _ => false
def rEq : R2 := fun x y H Q => scal x y = true ∧ Q (.bl (decide (x = y))) H
def rNe : R2 := fun x y H Q => scal x y = true ∧ Q (.bl (!decide (x = y))) H

theorem dec_int {i j : Int} : decide (V.int i = V.int j) = (i == j) := by
  rw [Bool.eq_iff_iff]
  simp
theorem dec_bl {i j : Bool} : decide (V.bl i = V.bl j) = (i == j) := by
  rw [Bool.eq_iff_iff]
  simp
theorem dec_str {i j : Str} : decide (V.str i = V.str j) = (i == j) := by
  rw [Bool.eq_iff_iff]
  simp
theorem dec_byt {i j : Array UInt8} : decide (V.byt i = V.byt j) = (i.toList == j.toList) := by
  rw [Bool.eq_iff_iff]
  cases i
  cases j
  simp

section
variable {X : Cx} {a b c : Expr} {ta tb tc : TE} {pos : Pos}
theorem fin_bl {pins : List (Addr × Obj)} {σ : St} {H : Hp} {s : Shared} {Q : VK} {k k' : Bool} (I : Inv X pins σ H s) (q : Q (.bl k) H) (e : k = k') : EP X pins σ Q (.bool k') s := by
  subst e
  exact ⟨.bl k, H, I, rfl, q⟩
theorem op_eq : OpR X (compareOp .Eq) rEq := by
  intro pins s σ H x y v u Q I rx ry h
  obtain ⟨hs, q⟩ := h
  cases x with
  | non =>
    cases rx
    cases y with
    | non => cases ry; exact PySem.EqNone.eq_none_none (fin_bl I q (by simp))
    | bl j => cases ry; exact PySem.EqNone.eq_none_bool (fin_bl I q (by simp))
    | int j => obtain ⟨t', rfl⟩ := ry; exact PySem.EqNone.eq_none_int (fin_bl I q (by simp))
    | str j => obtain ⟨t', rfl⟩ := ry; exact PySem.EqNone.eq_none_str (fin_bl I q (by simp))
    | _ => exact absurd (show false = true from hs) Bool.false_ne_true
  | bl i =>
    cases rx
    cases y with
    | non => cases ry; exact PySem.EqNone.eq_bool_none (fin_bl I q (by simp))
    | bl j => cases ry; exact eq_bool (fin_bl I q dec_bl)
    | str j => obtain ⟨t', rfl⟩ := ry; exact PySem.EqMixed.eq_bool_str (fin_bl I q (by simp))
    | _ => exact absurd (show false = true from hs) Bool.false_ne_true
  | int i =>
    obtain ⟨t, rfl⟩ := rx
    cases y with
    | non => cases ry; exact PySem.EqNone.eq_int_none (fin_bl I q (by simp))
    | int j => obtain ⟨t', rfl⟩ := ry; exact eq_int (fin_bl I q dec_int)
    | str j => obtain ⟨t', rfl⟩ := ry; exact PySem.EqMixed.eq_int_str (fin_bl I q (by simp))
    | _ => exact absurd (show false = true from hs) Bool.false_ne_true
  | str i =>
    obtain ⟨t, rfl⟩ := rx
    cases y with
    | non => cases ry; exact PySem.EqNone.eq_str_none (fin_bl I q (by simp))
    | bl j => cases ry; exact PySem.EqMixed.eq_str_bool (fin_bl I q (by simp))
    | int j => obtain ⟨t', rfl⟩ := ry; exact PySem.EqMixed.eq_str_int (fin_bl I q (by simp))
    | str j => obtain ⟨t', rfl⟩ := ry; exact eq_str (fin_bl I q dec_str)
    | _ => exact absurd (show false = true from hs) Bool.false_ne_true
  | byt i =>
    obtain ⟨t, rfl⟩ := rx
    cases y with
    | byt j => obtain ⟨t', rfl⟩ := ry; exact PySem.W.eq_bytes (fin_bl I q dec_byt)
    | _ => exact absurd (show false = true from hs) Bool.false_ne_true
  | _ => cases y <;> exact absurd (show false = true from hs) Bool.false_ne_true
theorem op_ne : OpR X (compareOp .NotEq) rNe := by
  intro pins s σ H x y v u Q I rx ry h
  obtain ⟨hs, q⟩ := h
  cases x with
  | non =>
    cases rx
    cases y with
    | non => cases ry; exact PySem.EqNone.ne_none_none (fin_bl I q (by simp))
    | bl j => cases ry; exact PySem.EqNone.ne_none_bool (fin_bl I q (by simp))
    | int j => obtain ⟨t', rfl⟩ := ry; exact PySem.EqNone.ne_none_int (fin_bl I q (by simp))
    | str j => obtain ⟨t', rfl⟩ := ry; exact PySem.EqNone.ne_none_str (fin_bl I q (by simp))
    | _ => exact absurd (show false = true from hs) Bool.false_ne_true
  | bl i =>
    cases rx
    cases y with
    | non => cases ry; exact PySem.EqNone.ne_bool_none (fin_bl I q (by simp))
    | bl j => cases ry; exact ne_bool (fin_bl I q (congrArg not dec_bl))
    | str j => obtain ⟨t', rfl⟩ := ry; exact PySem.EqMixed.ne_bool_str (fin_bl I q (by simp))
    | _ => exact absurd (show false = true from hs) Bool.false_ne_true
  | int i =>
    obtain ⟨t, rfl⟩ := rx
    cases y with
    | non => cases ry; exact PySem.EqNone.ne_int_none (fin_bl I q (by simp))
    | int j => obtain ⟨t', rfl⟩ := ry; exact ne_int (fin_bl I q (congrArg not dec_int))
    | str j => obtain ⟨t', rfl⟩ := ry; exact PySem.EqMixed.ne_int_str (fin_bl I q (by simp))
    | _ => exact absurd (show false = true from hs) Bool.false_ne_true
  | str i =>
    obtain ⟨t, rfl⟩ := rx
    cases y with
    | non => cases ry; exact PySem.EqNone.ne_str_none (fin_bl I q (by simp))
    | bl j => cases ry; exact PySem.EqMixed.ne_str_bool (fin_bl I q (by simp))
    | int j => obtain ⟨t', rfl⟩ := ry; exact PySem.EqMixed.ne_str_int (fin_bl I q (by simp))
    | str j => obtain ⟨t', rfl⟩ := ry; exact ne_str (fin_bl I q (congrArg not dec_str))
    | _ => exact absurd (show false = true from hs) Bool.false_ne_true
  | byt i =>
    obtain ⟨t, rfl⟩ := rx
    cases y with
    | byt j => obtain ⟨t', rfl⟩ := ry; exact PySem.W.ne_bytes (fin_bl I q (congrArg not dec_byt))
    | _ => exact absurd (show false = true from hs) Bool.false_ne_true
  | _ => cases y <;> exact absurd (show false = true from hs) Bool.false_ne_true

theorem op_lt : OpR X (compareOp .Lt) (rI0 fun i j => .bl (decide (i < j))) := opB0 fun _ _ _ _ _ _ _ q => lt_int q
theorem op_le : OpR X (compareOp .LtE) (rI0 fun i j => .bl (decide (i ≤ j))) := opB0 fun _ _ _ _ _ _ _ q => le_int q
theorem op_gt : OpR X (compareOp .Gt) (rI0 fun i j => .bl (decide (j < i))) := opB0 fun _ _ _ _ _ _ _ q => gt_int q
theorem op_ge : OpR X (compareOp .GtE) (rI0 fun i j => .bl (decide (j ≤ i))) := opB0 fun _ _ _ _ _ _ _ q => ge_int q
theorem nomark (b : Expr) {op : CmpOp} (h : op ≠ .In := by decide) (h2 : op ≠ .NotIn := by decide) : behindInMarks op b = false := by
  have e1 : (op == CmpOp.In) = false := by cases op <;> first | rfl | exact absurd rfl h
  have e2 : (op == CmpOp.NotIn) = false := by cases op <;> first | rfl | exact absurd rfl h2
  cases b <;> simp [behindInMarks, e1, e2]
/-- a comparison as a value; hm: nomark b, or (for in, not in) by with_unfolding_all rfl -/
theorem pe_cmpR {op : CmpOp} {r : R2} (ho : OpR X (compareOp op) r) (ha : PE X a ta) (hb : PE X b tb) (hm : behindInMarks op b = false) : PE X (.Compare a [op] [b] pos) (tOp r ta tb) := by
  intro pins s σ H Q I h
  exact wpAny_Compare1 (binT ha hb I h fun v u s2 x y H2 I2 rx ry q => ho pins s2 σ H2 x y v u Q I2 rx ry q) hm
/-- a reading of a value as a test -/
def tTest (t : TE) : TT := fun σ H Q => t σ H fun x H' => ∃ k, x = .bl k ∧ Q k H'
theorem pt_cmpR {op : CmpOp} {r : R2} (ho : OpR X (compareOp op) r) (ha : PE X a ta) (hb : PE X b tb) (hm : behindInMarks op b = false) : PT X (.Compare a [op] [b] pos) (tTest (tOp r ta tb)) := by
  intro pins s σ H Q I h
  refine wpAny_isTrue_Compare1 (thn (ha pins s σ H _ I h) fun v s1 ⟨x, H1, I1, r1, q1⟩ => thn (hb pins s1 σ H1 _ I1 q1) fun u s2 ⟨y, H2, I2, r2, q2⟩ =>
    thn (ho pins s2 σ H2 x y v u _ I2 r1 r2 q2) fun c s3 ⟨z, H3, I3, r3, k, e, q3⟩ => ?_) hm
  subst e
  cases r3
  exact wpAny_truthy_bool ⟨H3, I3, q3⟩
/-! ### truth -/
theorem line63 : (sizeLine : Nat) < 2 ^ 63 := by rw [sizeLine_eq]; decide
/-! ### strs and bytes -/
/-! ### scalar builtins, by CallR -/
theorem vals1 {x : V} {us : List Value} (r : Vals [x] us) : ∃ u, us = [u] ∧ RelV x u := by
  cases r with
  | cons r1 r2 => cases r2; exact ⟨_, rfl, r1⟩
theorem vals2 {x y : V} {us : List Value} (r : Vals [x, y] us) : ∃ u w', us = [u, w'] ∧ RelV x u ∧ RelV y w' := by
  cases r with
  | cons r1 r2 =>
    cases r2 with
    | cons r3 r4 => cases r4; exact ⟨_, _, rfl, r1, r3⟩
theorem call_max2 (hc : X.calm = true) : CallR X (.builtin "max") (fun xs H Q => ∃ i j, xs = [.int i, .int j] ∧ Q (.int (if j > i then j else i)) H) := by
  intro pins s σ H xs us Q I r h
  obtain ⟨i, j, rfl, q⟩ := h
  obtain ⟨u, w', rfl, ⟨t, rfl⟩, ⟨t', rfl⟩⟩ := vals2 r
  refine max_two_ints (I.ok.hd hc) fun h' tk k => ⟨_, H, I.kept k, ?_, q⟩
  by_cases hj : j > i
  · rw [if_pos hj, if_pos hj]; exact ⟨_, rfl⟩
  · rw [if_neg hj, if_neg hj]; exact ⟨_, rfl⟩
theorem call_min2 (hc : X.calm = true) : CallR X (.builtin "min") (fun xs H Q => ∃ i j, xs = [.int i, .int j] ∧ Q (.int (if j < i then j else i)) H) := by
  intro pins s σ H xs us Q I r h
  obtain ⟨i, j, rfl, q⟩ := h
  obtain ⟨u, w', rfl, ⟨t, rfl⟩, ⟨t', rfl⟩⟩ := vals2 r
  refine min_two_ints (I.ok.hd hc) fun h' tk k => ⟨_, H, I.kept k, ?_, q⟩
  by_cases hj : j < i
  · rw [if_pos hj, if_pos hj]; exact ⟨_, rfl⟩
  · rw [if_neg hj, if_neg hj]; exact ⟨_, rfl⟩
end
end L2

namespace L2
open PySem PySem.Spec PyProof.Rows

/-! ### an instance, its attributes a map -/
structure ObjM (h : Heap) (x dx C : Addr) (mA : Str → Option Value) : Prop where
  obj : h.get? x = some (PySem.W.instObj C dx)
  ns : h.Ns1 dx mA
  ne : dx ≠ x

theorem lookIn_ns {h : Heap} {dx : Addr} {mA : Str → Option Value} (n : h.Ns1 dx mA) : ∃ od, h.get? dx = some od ∧ ∀ name, PySem.W.lookIn name od = some (mA name) := by
  obtain ⟨o, es, ep, ho, hd, hk, _, hm⟩ := n
  refine ⟨o, ho, fun name => ?_⟩
  have e := hm name
  unfold nsFind findBy at e
  rw [← Array.find?_toList] at e
  unfold PySem.W.lookIn
  rw [hd]
  dsimp only
  split
  · rename_i y q
    rw [q] at e
    exact congrArg some e
  · rename_i q
    rw [q] at e
    have a : es.toList.any (·.refKey) = false := by
      rw [List.any_eq_false]
      intro y hy
      obtain ⟨z, t, hkey⟩ := hk y (Array.mem_toList_iff.mp hy)
      simp [DictEntry.refKey, hkey]
    have a' : ¬ es.toList.any (·.refKey) = true := by rw [a]; exact Bool.false_ne_true
    rw [if_neg a']
    exact congrArg some e

theorem ObjM.look {h : Heap} {x dx C : Addr} {mA : Str → Option Value} (I : ObjM h x dx C mA) : ∃ od, PySem.W.InstAt h x (PySem.W.instObj C dx) C (some od) ∧ ∀ name, PySem.W.lookIn name od = some (mA name) :=
  let ⟨od, ho, hl⟩ := lookIn_ns I.ns
  ⟨od, ⟨I.obj, rfl, rfl, ho⟩, hl⟩

section
variable {prog : Program} {w : World} {A : Around} {E : Value → Shared → Prop} {s : Shared} {K : PySem.W.Frag} {x dx C f : Addr} {mA : Str → Option Value} {name : Str} {v : Value}

theorem get_map {expr : Bool} {Q : Value → Shared → Prop} (X : K.In s.heap) (I : ObjM s.heap x dx C mA) (hg : PySem.W.plainGet K C name = true) (hh : PySem.W.hasDictIn K C = true)
    (ha : PySem.W.findIn K (.ref C) name = some none) (hv : mA name = some v) (hv' : PySem.W.handedIn v = true) (h : Q v { s with toks := s.toks + 1 }) :
    wpAny (model prog w) A (getAttr (.ref x) name expr) Q E s := by
  obtain ⟨od, J, hl⟩ := I.look
  exact PySem.W.get_value X J (PySem.W.plainGet_of hg).1 (PySem.W.findObj_own hh ha rfl (by rw [hl, hv])) hv' h

theorem get_meth {pl : Sem Bool} {Q : Value × List Value → Shared → Prop} (X : K.In s.heap) (I : ObjM s.heap x dx C mA) (hg : PySem.W.plainGet K C name = true)
    (hf : PySem.W.findIn K (.ref C) name = some (some (.ref f))) (ht : PySem.W.isFn K (.ref f) = true) (hv : mA name = none) (h : Q (.ref f, [.ref x]) s) :
    wpAny (model prog w) A (getMethod (.ref x) name pl) Q E s := by
  obtain ⟨od, J, hl⟩ := I.look
  exact PySem.W.method_fn X J (PySem.W.plainGet_of hg).1 (PySem.W.plainGet_of hg).2 hf (beq_iff_eq.mp ht) (by show (PySem.W.lookIn name od).map (·.isSome) = some false; rw [hl, hv]; rfl) h

theorem set_map {ns : List Str} {Q : Unit → Shared → Prop} (X : K.In s.heap) (I : ObjM s.heap x dx C mA)
    (hs : PySem.W.findIn K (.ref C) "__setattr__" = some (some (.builtin "object.__setattr__"))) (hp : PySem.W.plainOver K C = true) (ht : PySem.W.takerIn K C name = some none) (hh : PySem.W.hasDictIn K C = true)
    (hw : PySem.Within mA ns) (hsz : ns.length ≤ sizeLine)
    (h : ∀ h', ObjM h' x dx C (fun y => if y = name then some v else mA y) → Heap.SameBut dx s.heap h' → Q () { s with heap := h', toks := s.toks + 2 }) :
    wpAny (model prog w) A (setAttr (.ref x) name v) Q E s := by
  obtain ⟨od, J, hl⟩ := I.look
  refine PySem.W.set_plain X J hs (PySem.W.osa_open (s := { s with toks := s.toks + 1 }) (r := none) X J hp ht fun b => ?_)
  obtain ⟨cd, hc, hd'⟩ := PySem.W.any_some hh
  have hx : s.heap.get? x = some ⟨.ref C, some dx, .plain, #[]⟩ := I.obj
  refine wpAny_bind (wpAny_pure (wpAny_bind (wpAny_bind (wpAny_loadPart hx (wpAny_bind (PySem.W.Looks.here (s := { s with toks := s.toks + 1 }) (PySem.W.looks_clsIn X hc) ?_))))))
  rw [hd']
  refine wpAny_pure (a := some dx) (wpAny_bind (wpAny_pure (wpAny_bind ?_)))
  refine wpAny_nsSet1 (s := { s with toks := s.toks + 1 }) I.ns fun h' hn2 hs2 => ?_
  obtain ⟨oD, esD, epD, hoD, hdD, hcD⟩ := hn2.count (PySem.Within.cons name v hw)
  refine wpAny_bind (wpAny_lookBehind hoD (by rw [hdD]; exact pastItsLine_dict (Nat.le_trans hcD (by rw [List.length_cons]; omega))) ?_)
  exact wpAny_pure (h _ ⟨(hs2.2 _ (Ne.symm I.ne)).trans I.obj, hn2, I.ne⟩ hs2)

/-- C(..): the dict at the heap's end, the instance behind it; then its __init__ -/
theorem make_map {R : Result → Shared → Prop} {vs : List Value} {kw : List (Str × Value)} (X : K.In s.heap) (hm : PySem.W.makesIn K C = true)
    (hi : PySem.W.findIn K (.ref C) "__init__" = some (some (.ref f))) (hf : PySem.W.typeIn K (.ref f) = some (.type "function"))
    (h : codeAny (model prog w) (A.under (.builtin "type.__call__" ⟨.ref C :: vs, kw⟩)) (.call (.ref f) ⟨.ref (s.heap.objs.size + 1) :: vs, kw⟩) (PySem.W.InitBack (s.heap.objs.size + 1) R)
      { s with heap := (s.heap.push PySem.W.emptyDict).push (PySem.W.instObj C s.heap.objs.size) }) :
    codeAny (model prog w) A (.call (.ref C) ⟨vs, kw⟩) R s := by
  obtain ⟨hh, g, d, t, os⟩ := s
  exact PySem.W.make_core (PySem.W.makes_of X hm) (PySem.W.looks_findIn X hi) (fun self => PySem.W.bind_fn X self hf) (.inl rfl) h
end

/-! ### the attributes as a list of pairs -/
def putF (f : Str) (v : V) : List (Str × V) → List (Str × V)
  | [] => [(f, v)]
  | (g, x) :: r => if g = f then (g, v) :: r else (g, x) :: putF f v r
theorem lookup_putF (f g : Str) (v : V) : ∀ fs : List (Str × V), (putF f v fs).lookup g = if g = f then some v else fs.lookup g
  | [] => by
    show List.lookup g [(f, v)] = _
    by_cases h : g = f
    · have hb : (g == f) = true := beq_iff_eq.mpr h
      simp only [List.lookup, hb, if_pos h]
    · have hb : (g == f) = false := beq_eq_false_iff_ne.mpr h
      simp only [List.lookup, hb, if_neg h]
  | (k, x) :: r => by
    have ih := lookup_putF f g v r
    rw [show putF f v ((k, x) :: r) = (if k = f then (k, v) :: r else (k, x) :: putF f v r) from rfl]
    by_cases hk : k = f
    · rw [if_pos hk]
      by_cases h : g = k
      · have hb : (g == k) = true := beq_iff_eq.mpr h
        simp only [List.lookup, hb, if_pos (h.trans hk)]
      · have hb : (g == k) = false := beq_eq_false_iff_ne.mpr h
        simp only [List.lookup, hb, if_neg (fun e : g = f => h (e.trans hk.symm))]
    · rw [if_neg hk]
      by_cases h : g = k
      · have hb : (g == k) = true := beq_iff_eq.mpr h
        simp only [List.lookup, hb, if_neg (fun e : g = f => hk (h.symm.trans e))]
      · have hb : (g == k) = false := beq_eq_false_iff_ne.mpr h
        simp only [List.lookup, hb]
        exact ih
theorem keys_putF (f : Str) (v : V) : ∀ fs : List (Str × V), f ∈ (putF f v fs).map (·.1) ∧ ∀ g, g ∈ fs.map (·.1) → g ∈ (putF f v fs).map (·.1)
  | [] => ⟨by simp [putF], fun g h => by simp at h⟩
  | (k, x) :: r => by
    obtain ⟨i1, i2⟩ := keys_putF f v r
    rw [show putF f v ((k, x) :: r) = (if k = f then (k, v) :: r else (k, x) :: putF f v r) from rfl]
    by_cases hk : k = f
    · rw [if_pos hk]
      subst hk
      exact ⟨by simp, fun g h => by simpa using h⟩
    · rw [if_neg hk]
      refine ⟨?_, fun g h => ?_⟩
      · rw [List.map_cons]
        exact List.mem_cons_of_mem _ i1
      · rw [List.map_cons] at h ⊢
        rcases List.mem_cons.mp h with e | e
        · exact List.mem_cons.mpr (.inl e)
        · exact List.mem_cons_of_mem _ (i2 g e)
theorem length_putF (f : Str) (v : V) : ∀ fs : List (Str × V), (putF f v fs).length ≤ fs.length + 1
  | [] => by simp [putF]
  | (k, x) :: r => by
    have ih := length_putF f v r
    rw [show putF f v ((k, x) :: r) = (if k = f then (k, v) :: r else (k, x) :: putF f v r) from rfl]
    by_cases hk : k = f
    · rw [if_pos hk, List.length_cons, List.length_cons]; omega
    · rw [if_neg hk, List.length_cons, List.length_cons]; omega

theorem RelO.some_of {v : V} {o : Option Value} (r : RelO (some v) o) : ∃ u, o = some u ∧ RelV v u := by
  cases o with
  | none => exact (show False from r).elim
  | some u => exact ⟨u, rfl, r⟩
theorem RelO.none_of {o : Option Value} (r : RelO none o) : o = none := by
  cases o with
  | none => rfl
  | some u => exact (show False from r).elim
theorem handed_of {v : V} {u : Value} (r : RelV v u) : PySem.W.handedIn u = true := by
  cases v with
  | non => cases (show u = Value.none from r); rfl
  | bl b => cases (show u = Value.bool b from r); rfl
  | int i => obtain ⟨t, e⟩ := (show ∃ t, u = Value.int i t from r); cases e; rfl
  | str x => obtain ⟨t, e⟩ := (show ∃ t, u = Value.str x t from r); cases e; rfl
  | byt b => obtain ⟨t, e⟩ := (show ∃ t, u = Value.bytes b t from r); cases e; rfl
  | flt b => obtain ⟨t, e⟩ := (show ∃ t, u = Value.float b t from r); cases e; rfl
  | ref a => cases (show u = Value.ref a from r); rfl
  | ty n => cases (show u = Value.type n from r); rfl

section
variable {P : Program} {w : World} {H H' : Hp} {h h' : Heap} {a C dx : Addr} {fs fs' : List (Str × V)}
theorem ins_get (hok : HOk P w H h) (e : H a = some (.ins C dx fs)) : ∃ mA, ObjM h a dx C mA ∧ (∀ f, RelO (fs.lookup f) (mA f)) ∧ PySem.Within mA (fs.map (·.1)) ∧ fs.length ≤ 1000 ∧ H dx = some (.own a) := by
  obtain ⟨d, z, ne, ob, mA, n, r, q⟩ := (show ObjOk P w H h a (.ins C dx fs) from hok a _ e)
  exact ⟨mA, ⟨ob, n, ne⟩, r, q, z, d⟩
end

/-! ### what of the text a class must have -/
structure Cls (K : PySem.W.Frag) (C : Addr) : Prop where
  pg : PySem.W.plainGet K C Str.empty = true
  hd : PySem.W.hasDictIn K C = true
  po : PySem.W.plainOver K C = true
  sa : PySem.W.findIn K (.ref C) "__setattr__" = some (some (.builtin "object.__setattr__"))
theorem Cls.get {K : PySem.W.Frag} {C : Addr} (c : Cls K C) (f : Str) : PySem.W.plainGet K C f = true := c.pg
/-- no class of it has the name -/
def NoAttr (K : PySem.W.Frag) (C : Addr) (f : Str) : Prop := PySem.W.findIn K (.ref C) f = some none
theorem NoAttr.taker {K : PySem.W.Frag} {C : Addr} {f : Str} (n : NoAttr K C f) : PySem.W.takerIn K C f = some none := by
  unfold PySem.W.takerIn
  rw [show PySem.W.findIn K (.ref C) f = some none from n]
  rfl
/-- a constant of the class -/
structure Con (K : PySem.W.Frag) (C : Addr) (f : Str) (v : V) (u : Value) : Prop where
  at_ : PySem.W.findIn K (.ref C) f = some (some u)
  rel : RelV v u
  get : PySem.W.specialIn K u "__get__" = some none
  cp : PySem.W.copiedNames.contains f = false
/-- a method: a plain def of the class or of one above it -/
structure Meth (K : PySem.W.Frag) (C : Addr) (m : Str) (f : Addr) : Prop where
  at_ : PySem.W.findIn K (.ref C) m = some (some (.ref f))
  fn : PySem.W.isFn K (.ref f) = true
  kp : PySem.W.keepIn K (.ref f) = true

section
variable {X : Cx} {pins : List (Addr × Obj)} {σ : St} {H : Hp} {s : Shared} {a C dx : Addr} {fs : List (Str × V)} {f : Str} {v : V} {A : Around} {E : Value → Shared → Prop}

theorem getattr_ok {b : Bool} {Q : Value → Shared → Prop} (I : Inv X pins σ H s) (e : H a = some (.ins C dx fs)) (c : Cls X.K C) (n : NoAttr X.K C f) (l : fs.lookup f = some v)
    (h : ∀ u s', Inv X pins σ H s' → RelV v u → Q u s') : wpAny (model X.prog X.w) A (getAttr (.ref a) f b) Q E s := by
  obtain ⟨mA, O, r, _, _, _⟩ := ins_get I.hok e
  obtain ⟨u, hu, ru⟩ := RelO.some_of (v := v) (o := mA f) (by rw [← l]; exact r f)
  exact get_map I.kIn O (c.get f) c.hd n hu (handed_of ru) (h u _ (I.tok _) ru)

theorem getmeth_ok {m : Str} {g : Addr} {pl : Sem Bool} {Q : Value × List Value → Shared → Prop} (I : Inv X pins σ H s) (e : H a = some (.ins C dx fs)) (c : Cls X.K C) (k : Meth X.K C m g) (l : fs.lookup m = none)
    (h : Q (.ref g, [.ref a]) s) : wpAny (model X.prog X.w) A (getMethod (.ref a) m pl) Q E s := by
  obtain ⟨mA, O, r, _, _, _⟩ := ins_get I.hok e
  have hn : mA m = none := RelO.none_of (by rw [← l]; exact r m)
  exact get_meth I.kIn O (c.get m) k.at_ k.fn hn h

theorem setattr_ok {y : V} {u : Value} {Q : Unit → Shared → Prop} (I : Inv X pins σ H s) (e : H a = some (.ins C dx fs)) (c : Cls X.K C) (n : NoAttr X.K C f) (hl : fs.length < 1000) (ry : RelV y u)
    (h : ∀ s', Inv X pins σ (upd H a (.ins C dx (putF f y fs))) s' → Q () s') : wpAny (model X.prog X.w) A (setAttr (.ref a) f u) Q E s := by
  obtain ⟨mA, O, r, wi, _, ho⟩ := ins_get I.hok e
  have hz : (fs.map (·.1)).length ≤ sizeLine := by rw [List.length_map, sizeLine_eq]; omega
  refine set_map I.kIn O c.sa c.po n.taker c.hd wi hz fun h' O' sb => h _ ?_
  have hd : ∃ o, h'.get? dx = some o := let ⟨o, _, _, e', _⟩ := O'.ns; ⟨o, e'⟩
  refine I.write (x := a) (e := dx) (by rw [e]; exact True.intro) (.inr ho) (fun b q hb z => (sb.2 b hb).trans z) hd ?_
  refine ⟨by rw [upd_ne O.ne]; exact ho, ?_, O.ne, O'.obj, _, O'.ns, fun g => ?_, fun g hg => ?_⟩
  · have := length_putF f y fs; omega
  · show RelO ((putF f y fs).lookup g) (if g = f then some u else mA g)
    rw [lookup_putF]
    by_cases q : g = f
    · rw [if_pos q, if_pos q]; exact ry
    · rw [if_neg q, if_neg q]; exact r g
  · by_cases q : g = f
    · rw [q]; exact (keys_putF f y fs).1
    · refine (keys_putF f y fs).2 g (wi g fun z => hg ?_)
      show (if g = f then some u else mA g) = none
      rw [if_neg q]; exact z

/-- a new instance, tracked, without attributes -/
theorem Inv.made (I : Inv X pins σ H s) : Inv X pins σ (upd (upd H s.heap.objs.size (.own (s.heap.objs.size + 1))) (s.heap.objs.size + 1) (.ins C s.heap.objs.size []))
    { s with heap := (s.heap.push PySem.W.emptyDict).push (PySem.W.instObj C s.heap.objs.size) } := by
  have e1 : (s.heap.push PySem.W.emptyDict).get? s.heap.objs.size = some PySem.W.emptyDict := Heap.get?_push_size s.heap rfl
  have e2 : ((s.heap.push PySem.W.emptyDict).push (PySem.W.instObj C s.heap.objs.size)).get? (s.heap.objs.size + 1) = some (PySem.W.instObj C s.heap.objs.size) := by
    have := Heap.get?_push_size (s.heap.push PySem.W.emptyDict) (o := PySem.W.instObj C s.heap.objs.size) rfl
    rwa [Heap.size_push] at this
  have e3 : (s.heap.push PySem.W.emptyDict).Ns s.heap.objs.size (fun _ => none) := ⟨PySem.W.emptyDict, #[], _, e1, rfl, (fun e he => absurd he (by simp)), fun _ => rfl⟩
  have I1 := I.laid (a := s.heap.objs.size) (o := .own (s.heap.objs.size + 1)) (h' := s.heap.push PySem.W.emptyDict) (t' := s.toks) (fun b u q => Heap.get?_push_of_some _ q) (Nat.le_refl _) ⟨_, e1⟩
  refine I1.laid (a := s.heap.objs.size + 1) (o := .ins C s.heap.objs.size []) (t' := s.toks) (fun b u q => Heap.get?_push_of_some _ q) (Nat.le_of_eq (Heap.size_push _ _)) ?_
  have ne : s.heap.objs.size ≠ s.heap.objs.size + 1 := Nat.ne_of_lt (Nat.lt_succ_self _)
  refine ⟨by rw [upd_ne ne, upd_same], Nat.zero_le _, ne, e2, fun _ => none, (Heap.Ns1.of_empty e3).at fun o q => Heap.get?_push_of_some _ q, fun _ => True.intro, fun y hy => absurd rfl hy⟩

/-- e.f where nothing but the object is asked: through attributeBase (super) and the last hold -/
theorem attr_of {prog : Program} {w : World} {env : Env} {e : Expr} {f : Str} {pos : Pos} {s : Shared} {Q : Value → Shared → Prop} (hb : attributeBase e f env (eval e env) = eval e env)
    (h : wpAny (model prog w) A (eval e env) (fun o s₁ => wpAny (model prog w) A (getAttr o f true) Q E s₁) E s) : wpAny (model prog w) A (eval (.Attribute e f pos) env) Q E s :=
  Attribute_any_ h (by rw [arm_eval_Attribute, hb])
end

/-! ### readings and rules -/
/-- e.f, an attribute of the instance -/
def tFld (K : PySem.W.Frag) (ta : TE) (f : Str) : TE := fun σ H Q => ta σ H fun x H1 => ∃ a C dx fs v, x = .ref a ∧ H1 a = some (.ins C dx fs) ∧ Cls K C ∧ NoAttr K C f ∧ fs.lookup f = some v ∧ Q v H1
/-- e.f = value -/
def sFld (K : PySem.W.Frag) (ta tv : TE) (f : Str) : TS := fun D σ H => tv σ H fun y H1 => ta σ H1 fun x H2 => ∃ a C dx fs, x = .ref a ∧ H2 a = some (.ins C dx fs) ∧ Cls K C ∧ NoAttr K C f ∧ fs.length < 1000 ∧
  D.nx σ (upd H2 a (.ins C dx (putF f y fs)))
/-- an augmented operator on two values -/
def InOp (X : Cx) (op : Operator) (rd : V → V → Hp → VK → Prop) : Prop :=
  ∀ (pins : List (Addr × Obj)) (s : Shared) (σ : St) (H : Hp) (x y : V) (u v : Value) (Q : VK), Inv X pins σ H s → RelV x u → RelV y v → rd x y H Q → wpAny (model X.prog X.w) X.A (inplaceOp op u v) (EP X pins σ Q) X.xe s
/-- e.f op= value -/
def sFldAug (K : PySem.W.Frag) (ta tv : TE) (rd : V → V → Hp → VK → Prop) (f : Str) : TS := fun D σ H => ta σ H fun x H1 => ∃ a C dx fs v, x = .ref a ∧ H1 a = some (.ins C dx fs) ∧ Cls K C ∧ NoAttr K C f ∧ fs.lookup f = some v ∧
  tv σ H1 fun y H2 => rd v y H2 fun z H3 => ∃ dx' fs', H3 a = some (.ins C dx' fs') ∧ fs'.length < 1000 ∧ D.nx σ (upd H3 a (.ins C dx' (putF f z fs')))

section
variable {X : Cx} {o e value : Expr} {f : Str} {pos pos' tpos : Pos} {ta tv : TE}
theorem pe_fld (he : PE X e ta) (hb : attributeBase e f X.env (eval e X.env) = eval e X.env) : PE X (.Attribute e f pos) (tFld X.K ta f) := by
  intro pins s σ H Q I h
  refine attr_of hb (thn (he pins s σ H _ I h) fun u s1 ⟨x, H1, I1, rx, a, C, dx, fs, v, ex, ea, c, n, l, q⟩ => ?_)
  subst ex
  obtain rfl : u = Value.ref a := rx
  exact getattr_ok I1 ea c n l fun u' s2 I2 ru => ⟨v, H1, I2, ru, q⟩
theorem ps_fld (ha : PE X o ta) (hv : PE X value tv) (hs : swapsWith value (some (.Attribute o f pos')) pos.line X.env = pure false) : PS X (.Assign [.Attribute o f pos'] value pos) (sFld X.K ta tv f) := by
  intro pins s σ H D I h
  refine plainObj_wpAny_Assign_Attribute (thn (hv pins s σ H _ I h) fun u s1 ⟨y, H1, I1, ry, q⟩ => thn (ha pins s1 σ H1 _ I1 q) fun ov s2 ⟨x, H2, I2, rx, a, C, dx, fs, ex, ea, c, n, l, q2⟩ => ?_) hs
  subst ex
  obtain rfl : ov = Value.ref a := rx
  exact setattr_ok I2 ea c n l ry fun s3 I3 => ⟨σ, _, I3, q2⟩
theorem ps_fldaug {op : Operator} {rd : V → V → Hp → VK → Prop} (ha : PE X o ta) (hv : PE X value tv) (hop : InOp X op rd) : PS X (.AugAssign (.Attribute o f tpos) op value pos) (sFldAug X.K ta tv rd f) := by
  intro pins s σ H D I h
  refine wpAny_AugAssign_AttributeAny (thn (ha pins s σ H _ I h) fun ov s1 ⟨x, H1, I1, rx, a, C, dx, fs, v, ex, ea, c, n, l, q⟩ => ?_)
  subst ex
  obtain rfl : ov = Value.ref a := rx
  refine getattr_ok I1 ea c n l fun u s2 I2 ru => thn (hv pins s2 σ H1 _ I2 q) fun w3 s3 ⟨y, H2, I3, ry, q3⟩ => thn (hop pins s3 σ H2 v y u w3 _ I3 ru ry q3) fun w4 s4 ⟨z, H3, I4, rz, dx', fs', ea', l', q4⟩ => ?_
  exact setattr_ok I4 ea' c n l' rz fun s5 I5 => ⟨σ, _, I5, q4⟩
def rAdd : V → V → Hp → VK → Prop := fun x y H Q => ∃ i j, x = .int i ∧ y = .int j ∧ Q (.int (i + j)) H
theorem in_add : InOp X .Add rAdd := by
  rintro pins s σ H x y u v Q I rx ry ⟨i, j, rfl, rfl, q⟩
  obtain ⟨t, rfl⟩ := (show ∃ t, u = Value.int i t from rx)
  obtain ⟨t', rfl⟩ := (show ∃ t', v = Value.int j t' from ry)
  exact PyProof.Rows.iadd_int ⟨.int (i + j), H, I.tok _, ⟨_, rfl⟩, q⟩
end

/-! ### isinstance -/
section
variable {X : Cx} {pins : List (Addr × Obj)} {σ : St} {H : Hp} {s : Shared} {A : Around} {E : Value → Shared → Prop} {Q : Value → Shared → Prop} {c : Value} {b : Bool}
/-- the type of a value, as the fragment's deciders take it; for an instance its class -/
inductive TyOf (K : PySem.W.Frag) (H : Hp) : V → Value → Prop where
  | non : TyOf K H .non (.type "NoneType")
  | bl (x : Bool) : TyOf K H (.bl x) (.type "bool")
  | int (i : Int) : TyOf K H (.int i) (.type "int")
  | str (x : Str) : TyOf K H (.str x) (.type "str")
  | flt (x : UInt64) : TyOf K H (.flt x) (.type "float")
  | lst {a : Addr} {xs : List V} (e : H a = some (.lst xs)) : TyOf K H (.ref a) (.type "list")
  | frz {a : Addr} {o : Obj} {xs : List V} (e : H a = some (.frz o (.lst xs))) : TyOf K H (.ref a) (.type "list")
  | tup {a : Addr} {xs : List V} (e : H a = some (.tup xs)) : TyOf K H (.ref a) (.type "tuple")
  | dK {a : Addr} {kvs : List (Key × V)} (e : H a = some (.dK kvs)) : TyOf K H (.ref a) (.type "dict")
  | dT {a : Addr} {kvs : List (List Key × V)} (e : H a = some (.dT kvs)) : TyOf K H (.ref a) (.type "dict")
  | ins {a C dx : Addr} {fs : List (Str × V)} (e : H a = some (.ins C dx fs)) (cl : Cls K C) (ha : PySem.W.findIn K (.ref C) "__class__" = some (some (.builtin "object.__class__")))
      (hn : PySem.W.specialIn K (.builtin "object.__class__") "__get__" = some (some (.builtin "getset_descriptor.__get__"))) (htk : PySem.W.takesIn K (.builtin "object.__class__") = some true)
      (hm : PySem.W.mroIn K C (.type "object") = some true) : TyOf K H (.ref a) (.ref C)
end
end L2

namespace L2
open PySem PySem.Spec PyProof.Rows

/-! ### room -/
structure Room (k : Nat) (A : Around) : Prop where
  hd : A.handled = none
  dp : A.depth + 3 * k + 5 < recursionLimit
  un : A.units + 16 * k + 200 < cLine
theorem Room.mono {j k : Nat} {A : Around} (r : Room k A) (h : j ≤ k) : Room j A := ⟨r.hd, by have := r.dp; omega, by have := r.un; omega⟩
theorem Room.deeper {k : Nat} {A : Around} (r : Room (k + 1) A) (env : Env) : Room k (A.deeper env) :=
  ⟨r.hd, by have := r.dp; show A.depth + 1 + 3 * k + 5 < _; omega, by have := r.un; show A.units + 3 + 16 * k + 200 < _; omega⟩
theorem make_depth {A : Around} {C : Addr} {us : List Value} {kw : List (Str × Value)} : (A.under (.builtin "type.__call__" ⟨.ref C :: us, kw⟩)).depth = A.depth + 1 := by
  first | rfl | simp [Around.under, Code.weight, Code.isCreation, Code.isGuard, Code.isCaller, Code.frames, Code.isFrame, guardIds]
theorem make_units {A : Around} {C : Addr} {us : List Value} {kw : List (Str × Value)} : (A.under (.builtin "type.__call__" ⟨.ref C :: us, kw⟩)).units = A.units + 1 := by
  first | rfl | simp [Around.under, Code.cUnits, Code.frames, Code.isFrame]
theorem Room.make {k : Nat} {A : Around} (r : Room (k + 1) A) (C : Addr) (us : List Value) (kw : List (Str × Value)) : Room k (A.under (.builtin "type.__call__" ⟨.ref C :: us, kw⟩)) :=
  ⟨r.hd, by have := r.dp; rw [make_depth]; omega, by have := r.un; rw [make_units]; omega⟩
theorem Room.depth {k : Nat} {A : Around} (r : Room k A) : A.depth < recursionLimit := by have := r.dp; omega
theorem Room.units {k : Nat} {A : Around} (r : Room k A) : A.units + 64 < cLine := by have := r.un; omega
/-! ### argument lists and displays -/
def tNil : TA := fun _ H Q => Q [] H
def tCons (ta : TE) (tr : TA) : TA := fun σ H Q => ta σ H fun x H1 => tr σ H1 fun xs H2 => Q (x :: xs) H2
section
variable {X : Cx} {e : Expr} {es : List Expr} {te : TE} {t : TA} {pos : Pos}
theorem pa_nil : PA X [] tNil := fun _ _ _ _ H Q I h => Calls.spliced_nil ⟨[], H, I, .nil, h⟩
theorem pa_cons (ha : PE X e te) (hr : PA X es t) (hs : starEach (e :: es) X.env = (false, eval e X.env) :: starEach es X.env := by rfl) : PA X (e :: es) (tCons te t) := by
  intro pos pins s σ H Q I h
  rw [hs]
  show wpAny _ _ (spliced ((false, eval e X.env) :: backTo pos (starEach es X.env))) _ _ s
  refine Calls.spliced_cons (thn (ha pins s σ H _ I h) fun u s1 ⟨x, H1, I1, r1, q1⟩ => ?_)
  exact thn (hr pos pins s1 σ H1 _ I1 q1) fun us s2 ⟨xs, H2, I2, r2, q2⟩ => ⟨x :: xs, H2, I2, .cons r1 r2, q2⟩

def tLst (t : TA) : TE := fun σ H Q => t σ H fun xs H1 => xs.length ≤ sizeLine ∧ ∀ p, H1 p = none → Q (.ref p) (upd H1 p (.lst xs))
theorem pe_lst (h : PA X es t) : PE X (.List es pos) (tLst t) := by
  intro pins s σ H Q I hq
  refine wpAny_List_spliced (thn (h pos pins s σ H _ I hq) fun us s1 ⟨xs, H1, I1, r, z, q⟩ => ⟨by rw [← r.length]; exact z, ?_⟩)
  have hf : H1 s1.heap.objs.size = none := I1.hok.fresh (Nat.le_refl _)
  refine ⟨.ref s1.heap.objs.size, upd H1 s1.heap.objs.size (.lst xs), I1.laid (t' := s1.toks) (fun b u e => Heap.get?_push_of_some _ e) (Nat.le_refl _) ?_, rfl, q _ hf⟩
  exact ⟨z, us, 0, r, Heap.get?_push_size _ rfl⟩
end

/-! ### what a def promises -/
/-- a def's promise: the bound arguments in the parameters' order, the heap, the wanted end, the wanted exception -/
abbrev Sp := List V → Hp → VK → XK → Prop
/-- how an exception lies behind a call (file 08 gives it): the callers' frames, abstract heap and state ahead of the call, the wish, the exception, the state -/
abbrev CXT := List Env → Hp → Shared → XK → Value → Shared → Prop

/-- the state at a call -/
structure Env0 (P : Program) (w : World) (K : PySem.W.Frag) (mg : Str → Option Value) (base : Heap) (A : Around) (outer : List Env) (s : Shared) (H : Hp) : Prop where
  frames : A.frames = some outer
  mod : Mod K mg base
  bs : ∀ b o, base.get? b = some o → s.heap.get? b = some o ∧ H b = none
  bsz : base.objs.size ≤ s.heap.objs.size
  funs : s.heap.FunFrames base outer
  frf : ∀ b ∈ frs outer, H b = none
  hok : HOk P w H s.heap
  bare : AllBare s.gens
/-- a call's end -/
def CE (outer : List Env) (P : Program) (w : World) (H : Hp) (s : Shared) (Q : VK) (u : Value) (s' : Shared) : Prop :=
  ∃ v H', s'.os = s.os ∧ AllBare s'.gens ∧ Un (frs outer) [] H H' s.heap s'.heap ∧ HOk P w H' s'.heap ∧ RelV v u ∧ Q v H'
def CR (CX : CXT) (outer : List Env) (P : Program) (w : World) (H : Hp) (s : Shared) (Q : VK) (E : XK) (r : Result) (s' : Shared) : Prop :=
  match r with
  | .ok (.ret u) => CE outer P w H s Q u s'
  | .ok _ => False
  | .error e => CX outer H s E e s'
structure FnOk (P : Program) (w : World) (K : PySem.W.Frag) (mg : Str → Option Value) (base : Heap) (CX : CXT) (k : Nat) (f : Addr) (fd : FuncData) (ps : List Str) (sp : Sp) : Prop where
  len : ∀ vs H Q E, sp vs H Q E → vs.length = ps.length
  run : ∀ (A : Around) (outer : List Env) (s : Shared) (H : Hp) (args : Args) (us : List Value) (vs : List V) (Q : VK) (E : XK), Room k A → Env0 P w K mg base A outer s H → BindsTo s fd args (ps.zip us) → Vals vs us → sp vs H Q E →
    codeAny (model P w) A (.call (.ref f) args) (CR CX outer P w H s Q E) s
theorem Env0.make {P : Program} {w : World} {K : PySem.W.Frag} {mg : Str → Option Value} {base : Heap} {A : Around} {outer : List Env} {s : Shared} {H : Hp} (e : Env0 P w K mg base A outer s H) (C : Addr) (us : List Value) (kw : List (Str × Value)) :
    Env0 P w K mg base (A.under (.builtin "type.__call__" ⟨.ref C :: us, kw⟩)) outer s H := ⟨by first | exact e.frames | (simpa [Around.under, Code.envs, Code.isFrame, pushEnvs] using e.frames), e.mod, e.bs, e.bsz, e.funs, e.frf, e.hok, e.bare⟩
section
variable {X : Cx} {pins : List (Addr × Obj)} {σ : St} {H : Hp} {s s' : Shared}
/-- from a body: what a callee wants -/
theorem Inv.env0 (I : Inv X pins σ H s) : Env0 X.prog X.w X.K X.mg X.base X.A X.stack s H :=
  ⟨I.ok.frames, I.ok.mod, I.bs, Nat.le_trans I.ok.bsz I.sz, I.stack, I.stkFree, I.hok, I.bare⟩
/-- behind a call -/
theorem Inv.after {Q : VK} {u : Value} (I : Inv X pins σ H s) (h : CE X.stack X.prog X.w H s Q u s') : EP X pins σ Q u s' := by
  obtain ⟨v, H', os, bare, un, hok, r, q⟩ := h
  obtain ⟨hh, g, d, t, os'⟩ := s'
  obtain rfl : os' = s.os := os
  exact ⟨v, H', I.call (h' := hh) (g' := g) (d' := d) (t' := t) (ch := []) un hok bare (fun b z => absurd z (by simp)), r, q⟩
end

/-! ### calls -/
/-- f(..): the written arguments, then the defaults dvs; E: what is wanted of an exception -/
def tCall (sp : Sp) (dvs : List V) (E : XK) (t : TA) : TE := fun σ H Q => t σ H fun vs H1 => sp (vs ++ dvs) H1 Q E
/-- o.m(..) of an instance of the class at C -/
def tMeth (C : Addr) (m : Str) (sp : Sp) (dvs : List V) (E : XK) (ta : TE) (t : TA) : TE := fun σ H Q => ta σ H fun x H1 => ∃ a dx fs, x = .ref a ∧ H1 a = some (.ins C dx fs) ∧ fs.lookup m = none ∧
  t σ H1 fun vs H2 => sp (x :: (vs ++ dvs)) H2 Q E
/-- C(..): a new instance and its dict, then __init__ -/
def tMake (C : Addr) (sp : Sp) (dvs : List V) (E : XK) (t : TA) : TE := fun σ H Q => t σ H fun vs H1 => ∀ x dx, H1 x = none → H1 dx = none → dx ≠ x →
  sp (.ref x :: (vs ++ dvs)) (upd (upd H1 dx (.own x)) x (.ins C dx [])) (fun v H2 => v = .non ∧ Q (.ref x) H2) E

/-- how the parameters are bound: us the positional arguments, kw the keywords' values by name, ds the defaults that fill up -/
def Binds (K : PySem.W.Frag) (fd : FuncData) (ps : List Str) (ds : List Value) : Prop :=
  ∀ (s : Shared) (us : List Value), K.In s.heap → (us ++ ds).length = ps.length → BindsTo s fd ⟨us, []⟩ (ps.zip (us ++ ds))
/-- every parameter is given -/
theorem Binds.all {K : PySem.W.Frag} {fd : FuncData} {ps : List Str} (h : ∀ us : List Value, us.length = ps.length → bindArgs fd ⟨us, []⟩ = pure (ps.zip us)) : Binds K fd ps [] := fun s us _ hl => by
  rw [List.append_nil] at hl ⊢
  exact .of_eq (h us hl)

/-- an exception of a callee reaches what this body wants of exceptions -/
def Passes (CX : CXT) (X : Cx) (E : XK) : Prop := ∀ (pins : List (Addr × Obj)) (σ : St) (H : Hp) (s : Shared) (e : Value) (s' : Shared), Inv X pins σ H s → CX X.stack H s E e s' → X.xe e s'

section
variable {X : Cx} {CX : CXT} {k : Nat} {f C : Addr} {fd : FuncData} {ps : List Str} {sp : Sp} {dvs : List V} {ds : List Value} {E : XK} {x m : Str} {p pos apos : Pos} {e o : Expr} {es : List Expr} {ta : TE} {t : TA}

/-- the callee runs -/
theorem run_fn {pins : List (Addr × Obj)} {σ : St} {H : Hp} {s : Shared} {Q : VK} {us : List Value} {vs : List V} (F : FnOk X.prog X.w X.K X.mg X.base CX k f fd ps sp) (hr : Room k X.A) (hb : Binds X.K fd ps ds) (hd : Vals dvs ds) (hx : Passes CX X E)
    (I : Inv X pins σ H s) (r : Vals vs us) (h : sp (vs ++ dvs) H Q E) : wpAny (model X.prog X.w) X.A (call (.ref f) us) (EP X pins σ Q) X.xe s := by
  have r2 : Vals (vs ++ dvs) (us ++ ds) := r.append hd
  have hl : (us ++ ds).length = ps.length := by rw [← r2.length]; exact F.len _ _ _ _ h
  refine wpAny_call (codeAny_mono (F.run X.A X.stack s H ⟨us, []⟩ (us ++ ds) (vs ++ dvs) Q E hr I.env0 (hb s us I.kIn hl) r2 h) fun r s' hq => ?_)
  cases r with
  | error e => exact hx pins σ H s e s' I hq
  | ok fl =>
    cases fl with
    | ret u => exact I.after hq
    | next => exact False.elim hq
    | brk => exact False.elim hq
    | cont => exact False.elim hq

theorem pe_call (F : FnOk X.prog X.w X.K X.mg X.base CX k f fd ps sp) (hr : Room k X.A) (hg : Gl X x) (hm : X.mg x = some (.ref f)) (hk : PySem.W.keepIn X.K (.ref f) = true) (hb : Binds X.K fd ps ds) (hd : Vals dvs ds) (hx : Passes CX X E)
    (ha : PA X (e :: es) t) (hdb : (x == ("__debug__" : Str)) = false := by decide) (he : starEach (e :: es) X.env = (false, eval e X.env) :: starEach es X.env := by rfl) (hpl : (backTo pos (starEach es X.env)).any (·.1) = false := by rfl) :
    PE X (.Call (.Name x p) (e :: es) [] pos) (tCall sp dvs E t) := by
  intro pins s σ H Q I h
  refine wpAny_Call_Name_kw (ld_glob I hg hm ?_ hdb)
  refine PySem.W.callWith_K (h₀ := X.base) I.ok.mod.kin hk (thn (ha pos pins s σ H _ I h) fun us s1 ⟨vs, H1, I1, r, q⟩ => ⟨I1.kIn, ?_⟩) he hpl
  exact run_fn F hr hb hd hx I1 r q
/-- o.m(e, ..) -/
theorem pe_meth {pl : Sem Bool} (he : PE X o ta) (c : Cls X.K C) (hm : Meth X.K C m f) (F : FnOk X.prog X.w X.K X.mg X.base CX k f fd ps sp) (hr : Room k X.A) (hb : Binds X.K fd ps ds) (hd : Vals dvs ds) (hx : Passes CX X E) (ha : PA X (e :: es) t)
    (hst : starEach (e :: es) X.env = (false, eval e X.env) :: starEach es X.env := by rfl) (hpl : (backTo pos (starEach es X.env)).any (·.1) = false := by rfl)
    (ht : eval (.Call (.Attribute o m apos) (e :: es) [] pos) X.env = (do
      let ov ← eval o X.env
      standAt apos.atName
      let (f, first) ← holding [ov] (getMethod ov m pl)
      callWith pos f first (backTo pos (starEach (e :: es) X.env)) (backToKw pos (keywordEach [] X.env))) := by rfl) :
    PE X (.Call (.Attribute o m apos) (e :: es) [] pos) (tMeth C m sp dvs E ta t) := by
  intro pins s σ H Q I h
  refine PySem.W.methodCall_KW (pl := pl) (thn (he pins s σ H _ I h) fun u s1 ⟨x, H1, I1, rx, a, dx, fs, ex, ea, l, q⟩ => ?_) ht
  subst ex
  obtain rfl : u = Value.ref a := rx
  refine getmeth_ok I1 ea c hm l ?_
  refine PySem.W.callWith_K (first := [.ref a]) (h₀ := X.base) I.ok.mod.kin hm.kp (thn (ha pos pins s1 σ H1 _ I1 q) fun us s2 ⟨vs, H2, I2, r, q2⟩ => ⟨I2.kIn, ?_⟩) hst hpl
  exact run_fn (us := .ref a :: us) (vs := .ref a :: vs) F hr hb hd hx I2 (.cons rfl r) q2
/-- o.m() -/
theorem pe_meth0 {pl : Sem Bool} (he : PE X o ta) (c : Cls X.K C) (hm : Meth X.K C m f) (F : FnOk X.prog X.w X.K X.mg X.base CX k f fd ps sp) (hr : Room k X.A) (hb : Binds X.K fd ps ds) (hd : Vals dvs ds) (hx : Passes CX X E)
    (ht : eval (.Call (.Attribute o m apos) [] [] pos) X.env = (do
      let ov ← eval o X.env
      standAt apos.atName
      let (f, first) ← holding [ov] (getMethod ov m pl)
      callWith pos f first (backTo pos (starEach [] X.env)) (backToKw pos (keywordEach [] X.env))) := by rfl) :
    PE X (.Call (.Attribute o m apos) [] [] pos) (tMeth C m sp dvs E ta tNil) := by
  intro pins s σ H Q I h
  refine PySem.W.methodCall_KW (pl := pl) (thn (he pins s σ H _ I h) fun u s1 ⟨x, H1, I1, rx, a, dx, fs, ex, ea, l, q⟩ => ?_) ht
  subst ex
  obtain rfl : u = Value.ref a := rx
  refine getmeth_ok I1 ea c hm l ?_
  exact PySem.W.callWith_K0 (first := [.ref a]) I1.kIn hm.kp (run_fn (us := [.ref a]) (vs := [.ref a]) F hr hb hd hx I1 (.cons rfl .nil) q)

/-- what a class must have to be made -/
structure Mk (K : PySem.W.Frag) (C f : Addr) : Prop where
  makes : PySem.W.makesIn K C = true
  init : PySem.W.findIn K (.ref C) "__init__" = some (some (.ref f))
  fn : PySem.W.isFn K (.ref f) = true
  kp : PySem.W.keepIn K (.ref C) = true

theorem run_make {pins : List (Addr × Obj)} {σ : St} {H : Hp} {s : Shared} {Q : VK} {us : List Value} {vs : List V} (M : Mk X.K C f) (F : FnOk X.prog X.w X.K X.mg X.base CX k f fd ps sp) (hr : Room (k + 1) X.A) (hb : Binds X.K fd ps ds) (hd : Vals dvs ds)
    (hx : Passes CX X E) (I : Inv X pins σ H s) (r : Vals vs us)
    (h : ∀ x dx, H x = none → H dx = none → dx ≠ x → sp (.ref x :: (vs ++ dvs)) (upd (upd H dx (.own x)) x (.ins C dx [])) (fun v H2 => v = .non ∧ Q (.ref x) H2) E) :
    wpAny (model X.prog X.w) X.A (call (.ref C) us) (EP X pins σ Q) X.xe s := by
  have hq := h (s.heap.objs.size + 1) s.heap.objs.size (I.hok.fresh (Nat.le_succ _)) (I.hok.fresh (Nat.le_refl _)) (Nat.ne_of_lt (Nat.lt_succ_self _))
  have I2 := Inv.made (C := C) I
  have r2 : Vals (V.ref (s.heap.objs.size + 1) :: (vs ++ dvs)) (Value.ref (s.heap.objs.size + 1) :: (us ++ ds)) := .cons rfl (r.append hd)
  have hl : (Value.ref (s.heap.objs.size + 1) :: us ++ ds).length = ps.length := by
    have e := r2.length
    rw [F.len _ _ _ _ hq] at e
    exact e.symm
  refine wpAny_call (make_map (f := f) I.kIn M.makes M.init (beq_iff_eq.mp M.fn) (codeAny_mono (F.run _ X.stack _ _ ⟨Value.ref (s.heap.objs.size + 1) :: us, []⟩ (Value.ref (s.heap.objs.size + 1) :: (us ++ ds)) _ _ E (hr.make C us [])
    (I2.env0.make C us []) (hb _ (Value.ref (s.heap.objs.size + 1) :: us) I2.kIn hl) r2 hq) fun r s' hq' => ?_))
  cases r with
  | error e => exact hx pins σ _ _ e s' I2 hq'
  | ok fl =>
    cases fl with
    | ret u =>
      obtain ⟨v, H', I3, rv, ev, q3⟩ := I2.after hq'
      subst ev
      exact ⟨rv, ⟨V.ref (s.heap.objs.size + 1), H', I3, rfl, q3⟩⟩
    | next => exact False.elim hq'
    | brk => exact False.elim hq'
    | cont => exact False.elim hq'
theorem pe_make (M : Mk X.K C f) (F : FnOk X.prog X.w X.K X.mg X.base CX k f fd ps sp) (hr : Room (k + 1) X.A) (hg : Gl X x) (hm : X.mg x = some (.ref C)) (hb : Binds X.K fd ps ds) (hd : Vals dvs ds) (hx : Passes CX X E)
    (ha : PA X (e :: es) t) (hdb : (x == ("__debug__" : Str)) = false := by decide) (he : starEach (e :: es) X.env = (false, eval e X.env) :: starEach es X.env := by rfl) (hpl : (backTo pos (starEach es X.env)).any (·.1) = false := by rfl) :
    PE X (.Call (.Name x p) (e :: es) [] pos) (tMake C sp dvs E t) := by
  intro pins s σ H Q I h
  refine wpAny_Call_Name_kw (ld_glob I hg hm ?_ hdb)
  refine PySem.W.callWith_K (h₀ := X.base) I.ok.mod.kin M.kp (thn (ha pos pins s σ H _ I h) fun us s1 ⟨vs, H1, I1, r, q⟩ => ⟨I1.kIn, ?_⟩) he hpl
  exact run_make M F hr hb hd hx I1 r q
end

/-! ### keywords -/
section
variable {X : Cx} {CX : CXT} {k : Nat} {f C : Addr} {fd : FuncData} {ps ks : List Str} {sp : Sp} {E : XK} {x m : Str} {p pos apos kpos : Pos} {e o : Expr} {es : List Expr} {kws : List Keyword} {te ta : TE} {t tk : TA} {nm : Option Str}
/-- how a call with keywords binds: g puts the positional values us and the keywords' values ws (names ks) in the parameters' order, defaults among them -/
structure KBinds (K : PySem.W.Frag) (fd : FuncData) (ps ks : List Str) (g : List Value → List Value → List Value) (gV : List V → List V → List V) : Prop where
  to : ∀ (s : Shared) (us ws : List Value), K.In s.heap → (g us ws).length = ps.length → BindsTo s fd ⟨us, ks.zip ws⟩ (ps.zip (g us ws))
  rel : ∀ {vs : List V} {us : List Value} {zs : List V} {ws : List Value}, Vals vs us → Vals zs ws → Vals (gV vs zs) (g us ws)
variable {g : List Value → List Value → List Value} {gV : List V → List V → List V}
end

/-! ### a def's body keeps its promise -/
/-- names: the parameters first -/
structure FnScope (N P : List Str) (sc : Scope) : Prop where
  kind : sc.kind = .function
  co : sc.isCoroutine = false
  gen : sc.isGenerator = false
  nd : N.Nodup
  pre : N.take P.length = P
  par : ∀ x ∈ P, sc.names.lookup x = some .local ∨ sc.names.lookup x = some .cell
  nofree : ∀ y ∈ sc.names, y.2 ≠ .free

theorem bindL_out {kindOf : Str → Option NameKind} {x : Str} : ∀ {binds : List (Str × Value)} {m : Str → Option Value}, (∀ v, (x, v) ∉ binds) → bindL kindOf binds m x = m x
  | [], _, _ => rfl
  | (n, v) :: r, m, h => by
    unfold bindL
    rw [bindL_out fun w hw => h w (List.mem_cons_of_mem _ hw)]
    split
    · have : x ≠ n := by rintro rfl; exact h v List.mem_cons_self
      simp [this]
    · rfl
theorem bindC_out {kindOf : Str → Option NameKind} {x : Str} : ∀ {binds : List (Str × Value)} {m : Str → Option Value}, (∀ v, (x, v) ∉ binds) → bindC kindOf binds m x = m x
  | [], _, _ => rfl
  | (n, v) :: r, m, h => by
    unfold bindC
    rw [bindC_out fun w hw => h w (List.mem_cons_of_mem _ hw)]
    split
    · rfl
    · have : x ≠ n := by rintro rfl; exact h v List.mem_cons_self
      simp [this]
theorem bindL_get {kindOf : Str → Option NameKind} {x : Str} {v : Value} : ∀ {P : List Str} {vs : List Value} {i : Nat} {m : Str → Option Value}, P.Nodup → P[i]? = some x → vs[i]? = some v → kindOf x = some .local →
    bindL kindOf (P.zip vs) m x = some v
  | [], _, _, _, _, h, _, _ => by simp at h
  | _ :: _, [], _, _, _, _, h, _ => by simp at h
  | p :: P, w :: vs, 0, m, nd, h1, h2, hk => by
    simp at h1 h2; subst h1; subst h2
    show bindL kindOf ((p, w) :: P.zip vs) m p = _
    unfold bindL
    rw [bindL_out fun v hv => (List.nodup_cons.mp nd).1 (List.of_mem_zip hv).1, if_pos hk]
    simp
  | p :: P, w :: vs, i + 1, m, nd, h1, h2, hk => by
    show bindL kindOf ((p, w) :: P.zip vs) m x = _
    unfold bindL
    exact bindL_get (i := i) (List.nodup_cons.mp nd).2 (by simpa using h1) (by simpa using h2) hk
theorem bindC_get {kindOf : Str → Option NameKind} {x : Str} {v : Value} : ∀ {P : List Str} {vs : List Value} {i : Nat} {m : Str → Option Value}, P.Nodup → P[i]? = some x → vs[i]? = some v → kindOf x ≠ some .local →
    bindC kindOf (P.zip vs) m x = some v
  | [], _, _, _, _, h, _, _ => by simp at h
  | _ :: _, [], _, _, _, _, h, _ => by simp at h
  | p :: P, w :: vs, 0, m, nd, h1, h2, hk => by
    simp at h1 h2; subst h1; subst h2
    show bindC kindOf ((p, w) :: P.zip vs) m p = _
    unfold bindC
    rw [bindC_out fun v hv => (List.nodup_cons.mp nd).1 (List.of_mem_zip hv).1, if_neg hk]
    simp
  | p :: P, w :: vs, i + 1, m, nd, h1, h2, hk => by
    show bindC kindOf ((p, w) :: P.zip vs) m x = _
    unfold bindC
    exact bindC_get (i := i) (List.nodup_cons.mp nd).2 (by simpa using h1) (by simpa using h2) hk

/-- the names' values at the entry -/
def start (N : List Str) (vs : List V) : St := vs.map some ++ List.replicate (N.length - vs.length) none

/-- the context of a def's body, at its entry; an exception leaves the frame, then lies as CX says -/
def cxOf (CX : CXT) (P : Program) (w : World) (K : PySem.W.Frag) (mg : Str → Option Value) (base : Heap) (N : List Str) (qual : Str) (scope : Scope) (f : Addr) (cd : Value) (A : Around) (outer : List Env) (s : Shared) (H : Hp) (E : XK) : Cx where
  prog := P
  w := w
  K := K
  mg := mg
  base := base
  A := A.deeper (envOfC qual scope s.heap.objs.size f cd)
  N := N
  s_0 := s
  H_0 := H
  env := envOfC qual scope s.heap.objs.size f cd
  outer := outer
  stack := envOfC qual scope s.heap.objs.size f cd :: outer
  ex := []
  calm := true
  fn := fun _ => true
  pn := []
  xe := fun e s' => wpAny (model P w) (A.deeper (envOfC qual scope s.heap.objs.size f cd)) (leaving (envOfC qual scope s.heap.objs.size f cd) e) (fun _ s'' => CX outer H s E e s'') (fun e' s'' => CX outer H s E e' s'') s'

theorem cell_has {sc : Scope} {n : Nat} {x : Str} (h : sc.names.lookup x = some .cell) : ∃ c, (cellsFrom n sc.names []).lookup x = some c := by
  have q := PySem.W.cellsFrom_some sc.names n [] (.inl h)
  exact Option.isSome_iff_exists.mp q

theorem inv_start {CX : CXT} {P : Program} {w : World} {K : PySem.W.Frag} {mg : Str → Option Value} {base : Heap} {N ps : List Str} {qual : Str} {scope : Scope} {f : Addr} {cd : Value} {A : Around} {outer : List Env} {s s1 : Shared} {H : Hp} {E : XK} {us : List Value} {vs : List V}
    (S : FnScope N ps scope) (hd : A.handled = none) (e0 : Env0 P w K mg base A outer s H) (hl : vs.length = ps.length) (r : Vals vs us)
    (x : InCallC s s.heap.objs.size (bindL (envOfC qual scope s.heap.objs.size f cd).kindOf (ps.zip us) fun _ => none) (cellsFrom (s.heap.objs.size + 1) scope.names []) (bindC (envOfC qual scope s.heap.objs.size f cd).kindOf (ps.zip us) fun _ => none) s1) :
    Inv (cxOf CX P w K mg base N qual scope f cd A outer s H E) [] (start N vs) H s1 := by
  have hpl : ps.length ≤ N.length := by have := congrArg List.length S.pre; rw [List.length_take] at this; omega
  obtain ⟨h1, tk, rfl, hk⟩ := x.done
  have noA : ∀ b : Addr, b ∉ (cxOf CX P w K mg base N qual scope f cd A outer s H E).ex := fun b z => absurd (show b ∈ ([] : List Addr) from z) (by simp)
  refine ⟨⟨e0.mod, S.kind, rfl, rfl, Nat.le_refl _, fun y z c h1 h2 => ?_, fun y hy => ?_, fun y c _ h => ?_, fun _ => hd, Around.frames_deeper e0.frames, .inr ⟨rfl, rfl⟩, fun b z => absurd z (noA b), e0.bs, e0.bsz, fun b _ _ => noA b, fun b z => absurd z (noA b), e0.funs, e0.frf⟩,
    rfl, e0.bare, Un.kept hk, ⟨_, x.toInCall.ns, fun i y v h1 h2 h3 => ?_⟩, fun y c h => ⟨_, x.cell y c h⟩, e0.hok.fresh (Nat.le_refl _), fun y c h => ?_, fun p hp => absurd (show p ∈ ([] : List (Addr × Obj)) from hp) (by simp), e0.hok.kept hk, ?_⟩
  · exact name_of_addr x.apart (PySem.mem_of_lookup h1) (PySem.mem_of_lookup h2)
  · have hy : scope.names.lookup y = some .cell ∨ scope.names.lookup y = some .free := hy
    rcases hy with hy | hy
    · exact cell_has hy
    · exact absurd rfl (S.nofree _ (PySem.mem_of_lookup hy))
  · exact Nat.le_of_lt (x.above y c (PySem.mem_of_lookup h))
  · have hi : i < vs.length := by
      unfold start at h2
      by_cases hi : i < vs.length
      · exact hi
      · rw [List.getElem?_append_right (by simpa using hi)] at h2
        rw [List.getElem?_replicate] at h2
        split at h2 <;> cases h2
    have ha : vs[i]? = some v := by
      unfold start at h2
      rw [List.getElem?_append_left (by simpa using hi), List.getElem?_map] at h2
      cases e : vs[i]? with
      | none => rw [e] at h2; cases h2
      | some a => rw [e] at h2; cases h2; rfl
    obtain ⟨u, hu, rv⟩ := r.get ha
    have hp : ps[i]? = some y := by
      rw [← S.pre, List.getElem?_take_of_lt (by omega)]; exact h1
    have ndP : ps.Nodup := by rw [← S.pre]; exact S.nd.sublist (List.take_sublist _ _)
    refine ⟨u, rv, ?_⟩
    rcases S.par y (List.mem_of_getElem? hp) with k | k
    · exact .inl ⟨k, bindL_get ndP hp hu k⟩
    · obtain ⟨c, e⟩ := cell_has (n := s.heap.objs.size + 1) k
      refine .inr ⟨.inl k, c, e, ?_⟩
      have q := x.cell y c e
      rw [bindC_get ndP hp hu (by show scope.names.lookup y ≠ _; rw [k]; decide)] at q
      exact q
  · exact e0.hok.fresh (Nat.le_of_lt (x.above y c (PySem.mem_of_lookup h)))
  · unfold start
    show _ = N.length
    rw [List.length_append, List.length_map, List.length_replicate]
    omega

/-- THE RULE: a def (or a method) of the text, by its body. The body's reading t is chosen for each entry; it is run at the parameters' values -/
theorem fn_of {CX : CXT} {P : Program} {w : World} {K : PySem.W.Frag} {mg : Str → Option Value} {base : Heap} {k : Nat} {f : Addr} {name qual : Str} {params : Arguments} {body : List Stmt} {scope : Scope} {dV kV doc pm cdv ct oc : Value} {an od : Option Addr}
    {osl : Array (Option Value)} {N ps : List Str} {sp : Sp} (lk : K.lookup f = some ⟨oc, od, .func (PySem.W.fnOf name qual params body scope dV kV doc pm an cdv ct), osl⟩) (hcd : PySem.W.codeIn K cdv qual = true) (S : FnScope N ps scope)
    (len : ∀ vs H Q E, sp vs H Q E → vs.length = ps.length)
    (hbody : ∀ (A : Around) (outer : List Env) (s : Shared) (H : Hp) (vs : List V) (Q : VK) (E : XK), Room k (A.deeper (envOfC qual scope s.heap.objs.size f cdv)) → sp vs H Q E →
      ∃ t, PSs (cxOf CX P w K mg base N qual scope f cdv A outer s H E) body t ∧ t { nx := fun _ H' => Q .non H', rt := Q } (start N vs) H) :
    FnOk P w K mg base CX (k + 1) f (PySem.W.fnOf name qual params body scope dV kV doc pm an cdv ct) ps sp := by
  refine ⟨len, fun A outer s H args us vs Q E hr e0 hb r hsp => ?_⟩
  have hl := len _ _ _ _ hsp
  have KX : K.In s.heap := e0.mod.kin.keeps fun b o e => (e0.bs b o e).1
  have lim : s.heap.NoLimit := e0.mod.nolimit.keeps fun b o e => (e0.bs b o e).1
  have hkind : ∀ y ∈ ps.zip us, scope.names.lookup y.1 = some .local ∨ (scope.names.lookup y.1 = some .cell ∧ ((cellsFrom (s.heap.objs.size + 1) scope.names []).lookup y.1).isSome = true) := fun ⟨n, v⟩ hy => by
    rcases S.par n (List.of_mem_zip hy).1 with q | q
    · exact .inl q
    · exact .inr ⟨q, PySem.W.cellsFrom_some _ _ _ (.inl q)⟩
  refine codeAny_call_function hr.depth (KX _ _ lk) rfl S.co S.gen rfl (PySem.W.codeRec_of KX hcd) (hb _ _ _ _ ?_)
  refine wpAny_newFunctionEnv_cells S.kind hkind fun env he s1 x => ?_
  subst he
  refine ⟨lim.keeps x.toInCall.keep, codeAny_func ?_⟩
  obtain ⟨t, ht, hq⟩ := hbody A outer s H vs Q E (hr.deeper _) hsp
  have I : Inv (cxOf CX P w K mg base N qual scope f cdv A outer s H E) [] (start N vs) H s1 := inv_start S hr.hd e0 hl r x
  refine wpAny_mono (ht [] s1 (start N vs) H _ I hq) (fun fl s' hs => ?_) fun e s' hs => hs
  have fin : ∀ {σ' : St} {H' : Hp} {v : V} {u : Value}, Inv (cxOf CX P w K mg base N qual scope f cdv A outer s H E) [] σ' H' s' → RelV v u → Q v H' → CE outer P w H s Q u s' :=
    fun {σ' H' v u} J rv q => ⟨v, H', J.os, J.bare, J.base, J.hok, rv, q⟩
  cases fl with
  | ret u =>
    obtain ⟨v, σ', H', J, rv, q⟩ := hs
    exact fin J rv q
  | next =>
    obtain ⟨σ', H', J, q⟩ := hs
    exact fin (v := V.non) (u := Value.none) J rfl q
  | brk =>
    obtain ⟨_, _, _, q⟩ := hs
    exact False.elim q
  | cont =>
    obtain ⟨_, _, _, q⟩ := hs
    exact False.elim q
end L2

namespace L2
open PySem PySem.Spec PyProof.Rows
section
variable {X : Cx} {x : Str} {p pos : Pos} {e : Expr} {es : List Expr} {t : TA} {id T : String} {r : List V → Hp → VK → Prop}

def tCB (r : List V → Hp → VK → Prop) (t : TA) : TE := fun σ H Q => t σ H fun vs H1 => r vs H1 Q
/-- f(e, ..), f a built-in function -/
theorem pe_callB (hc : CallR X (.builtin id) r) (hg : Gl X x) (hm : X.mg x = none) (hv : bootBuiltins x = some (.builtin id)) (ha : PA X (e :: es) t) (hn : x ≠ "__name__" := by decide) (hdb : (x == ("__debug__" : Str)) = false := by decide)
    (he : starEach (e :: es) X.env = (false, eval e X.env) :: starEach es X.env := by rfl) (hpl : (backTo pos (starEach es X.env)).any (·.1) = false := by rfl) : PE X (.Call (.Name x p) (e :: es) [] pos) (tCB r t) := by
  intro pins s σ H Q I h
  refine wpAny_Call_Name_kw (ld_blt I hg hm hv ?_ hn hdb)
  exact PyProof.Rows.callWith_builtin1 (thn (ha pos pins s σ H _ I h) fun us s1 ⟨vs, H1, I1, r1, q1⟩ => hc pins s1 σ H1 vs us Q I1 r1 q1) he hpl
/-- T(e, ..), T a built-in type -/
theorem pe_callTy (hc : CallR X (.type T) r) (hg : Gl X x) (hm : X.mg x = none) (hv : bootBuiltins x = some (.type T)) (ha : PA X (e :: es) t) (hn : x ≠ "__name__" := by decide) (hdb : (x == ("__debug__" : Str)) = false := by decide)
    (he : starEach (e :: es) X.env = (false, eval e X.env) :: starEach es X.env := by rfl) (hpl : (backTo pos (starEach es X.env)).any (·.1) = false := by rfl) : PE X (.Call (.Name x p) (e :: es) [] pos) (tCB r t) := by
  intro pins s σ H Q I h
  refine wpAny_Call_Name_kw (ld_blt I hg hm hv ?_ hn hdb)
  exact PyProof.Rows.callWith_type1 (thn (ha pos pins s σ H _ I h) fun us s1 ⟨vs, H1, I1, r1, q1⟩ => hc pins s1 σ H1 vs us Q I1 r1 q1) he hpl
end
end L2

namespace HT
open PySem PyProof.Rows

section
open PySem.SeqAt
open PySem.AutoSeq1 (wpAny_loadPart')
open PySem.MeetsSeq PySem.MeetsSeq2 PySem.MeetsSeq3

end

section
variable {prog : Program} {w : World} {A : Around} {E : Value → Shared → Prop} {s : Shared}

/-! ### t[a:b], not the whole -/
/-- a slice's bound as a place among n (d where it is left out) -/
def sIx (n d : Nat) : Option Int → Nat
  | none => d
  | some v => if v < 0 then (v + (n : Int)).toNat else min v.toNat n
theorem sIx_none (n d : Nat) : sIx n d none = d := rfl
theorem sIx_nat (n d k : Nat) : sIx n d (some (k : Int)) = min k n := by
  show (if (k : Int) < 0 then ((k : Int) + (n : Int)).toNat else min (k : Int).toNat n) = min k n
  rw [if_neg (by omega), Int.toNat_natCast]
end
end HT

namespace L2
open PySem PySem.Spec PyProof.Rows

/-! ### the parts of a slice -/
abbrev TO := St → Hp → (Option Int → Hp → Prop) → Prop
/-- a slice's part (left out, or an int) -/
def PO (X : Cx) (e : Option Expr) (t : TO) : Prop :=
  ∀ (pins : List (Addr × Obj)) (s : Shared) (σ : St) (H : Hp) (Q : Option Int → Hp → Prop), Inv X pins σ H s → t σ H Q →
    wpAny (model X.prog X.w) X.A (evalPart e X.env) (fun u s' => ∃ o H', Inv X pins σ H' s' ∧ IsPart u o ∧ Q o H') X.xe s
def tNoPart : TO := fun _ H Q => Q none H
def tPart (t : TE) : TO := fun σ H Q => t σ H fun x H1 => ∃ i, x = .int i ∧ Q (some i) H1

section
variable {X : Cx} {e : Expr} {te : TE} {lo hi : Option Expr} {tl th : TO} {pos p2 : Pos}

theorem po_none : PO X none tNoPart := by
  intro pins s σ H Q I h
  rw [evalPart_none]
  exact wpAny_pure ⟨none, H, I, .none, h⟩
theorem po_some (h : PE X e te) : PO X (some e) (tPart te) := by
  intro pins s σ H Q I hw
  rw [evalPart_some]
  refine thn (h pins s σ H _ I hw) fun u s1 ⟨x, H1, I1, r1, q1⟩ => ?_
  obtain ⟨i, rfl, q⟩ := q1
  obtain ⟨t, rfl⟩ := r1
  exact ⟨some i, H1, I1, .int i t, q⟩

/-- what a slice of a value is, by values: the slice object stands at sl -/
def SlR (X : Cx) (r : V → Option Int → Option Int → Hp → VK → Prop) : Prop :=
  ∀ (pins : List (Addr × Obj)) (s : Shared) (σ : St) (H : Hp) (x : V) (v vl vu : Value) (lo hi : Option Int) (sl : Addr) (Q : VK), Inv X pins σ H s → RelV x v → s.heap.IsSliceOf sl vl vu .none → IsPart vl lo → IsPart vu hi → r x lo hi H Q →
    ∃ T id, typeLookup (.type T) "__getitem__" = pure (some (.builtin id)) ∧ s.TypeIs v T ∧ wpAny (model X.prog X.w) X.A (getItem v (.ref sl)) (EP X pins σ Q) X.xe s
def tSl (r : V → Option Int → Option Int → Hp → VK → Prop) (te : TE) (tl th : TO) : TE := fun σ H Q => te σ H fun x H1 => tl σ H1 fun l H2 => th σ H2 fun u H3 => r x l u H3 Q
/-- a[lo:hi], any a -/
theorem pe_slice {r : V → Option Int → Option Int → Hp → VK → Prop} (hr : SlR X r) (he : PE X e te) (hl : PO X lo tl) (hu : PO X hi th) : PE X (.Subscript e (.Slice lo hi none p2) pos) (tSl r te tl th) := by
  intro pins s σ H Q I h
  refine Subscript_ (thn (he pins s σ H _ I h) fun v s1 ⟨x, H1, I1, r1, q1⟩ => ?_)
  refine wpAny_Slice (thn (hl pins s1 σ H1 _ I1 q1) fun vl s2 ⟨l, H2, I2, pl, q2⟩ => thn (hu pins s2 σ H2 _ I2 q2) fun vu s3 ⟨u, H3, I3, pu, q3⟩ => ?_)
  rw [evalPart_none]
  refine wpAny_pure ?_
  have I4 : Inv X pins σ H3 { s3 with heap := s3.heap.push { cls := .type "slice", data := .fields #[vl, vu, .none] } } := I3.kept (t' := s3.toks) fun b ob q => Heap.get?_push_of_some _ q
  obtain ⟨T, id, hT, ht, hg⟩ := hr pins { s3 with heap := s3.heap.push { cls := .type "slice", data := .fields #[vl, vu, .none] } } σ H3 x v vl vu l u s3.heap.objs.size Q I4 r1 (Heap.IsSliceOf.new ..) pl pu q3
  show wpAny (model X.prog X.w) X.A (subscriptTail e (.Slice lo hi none p2) v (.ref s3.heap.objs.size)) (EP X pins σ Q) X.xe { s3 with heap := s3.heap.push { cls := .type "slice", data := .fields #[vl, vu, .none] } }
  exact tail_any (ops := [.ref s3.heap.objs.size, v]) ht hT hg (by with_unfolding_all rfl)

/-- the items of xs[lo:hi] -/
def cutV (xs : List V) (lo hi : Option Int) : List V := (xs.drop (HT.sIx xs.length 0 lo)).take (HT.sIx xs.length xs.length hi - HT.sIx xs.length 0 lo)
theorem cutV_length (xs : List V) (lo hi : Option Int) : (cutV xs lo hi).length ≤ xs.length := by
  unfold cutV
  rw [List.length_take, List.length_drop]
  omega
/-! ### t < u, t + u -/
end
end L2

namespace L2
open PySem PySem.Spec PyProof.Rows

/-! ### places -/
/-- the place that an index of any sign means -/
def ixN (n : Nat) (i : Int) : Option Nat := if 0 ≤ i then (if i < n then some i.toNat else none) else if -(n : Int) ≤ i then some (i + n).toNat else none
def atI {α : Type} (xs : List α) (i : Int) : Option α := (ixN xs.length i).bind fun j => xs[j]?
theorem ixN_seq {n : Nat} {i : Int} {j : Nat} (h : ixN n i = some j) : seqIndex? i n = some j ∧ j < n ∧ -(n : Int) ≤ i ∧ i < n := by
  unfold ixN at h
  by_cases h0 : 0 ≤ i
  · rw [if_pos h0] at h
    by_cases h1 : i < n
    · rw [if_pos h1] at h
      have e : i.toNat = j := Option.some.inj h
      exact ⟨by rw [seqIndex_of h0 h1, e], by omega, by omega, h1⟩
    · rw [if_neg h1] at h; cases h
  · rw [if_neg h0] at h
    by_cases h1 : -(n : Int) ≤ i
    · rw [if_pos h1] at h
      have e : (i + n).toNat = j := Option.some.inj h
      exact ⟨by rw [seqIndex_neg (by omega) h1, e], by omega, h1, by omega⟩
    · rw [if_neg h1] at h; cases h
theorem atI_get {α : Type} {xs : List α} {i : Int} {v : α} (h : atI xs i = some v) : ∃ j, seqIndex? i xs.length = some j ∧ xs[j]? = some v ∧ j < xs.length ∧ -(xs.length : Int) ≤ i ∧ i < xs.length := by
  unfold atI at h
  cases e : ixN xs.length i with
  | none => rw [e] at h; cases h
  | some j =>
    rw [e] at h
    obtain ⟨h1, h2, h3, h4⟩ := ixN_seq e
    exact ⟨j, h1, h, h2, h3, h4⟩
theorem atI_nat {α : Type} {xs : List α} {j : Nat} {v : α} (h : xs[j]? = some v) : atI xs (j : Int) = some v := by
  have hj : j < xs.length := (List.getElem?_eq_some_iff.mp h).1
  have e : ixN xs.length (j : Int) = some j := by
    unfold ixN
    rw [if_pos (by omega), if_pos (by omega)]; simp
  unfold atI; rw [e]; exact h
/-! ### what may be subscripted -/
/-- what stands as an index of a plain subscript -/
def PlainIx (b : Expr) : Prop := ∀ o i, subscripted b false o i = operate [o, i] (getItem o i)
/-- a subscript by values -/
def IxR (X : Cx) (r : R2) : Prop :=
  ∀ (value slice : Expr) (pins : List (Addr × Obj)) (s : Shared) (σ : St) (H : Hp) (x y : V) (v u : Value) (Q : VK), Inv X pins σ H s → RelV x v → RelV y u → r x y H Q →
    subscripted slice false v u = operate [v, u] (getItem v u) → wpAny (model X.prog X.w) X.A (subscriptTail value slice v u) (EP X pins σ Q) X.xe s
/-- a call of a builtin's method by values: the receiver, the arguments -/
def MtR (X : Cx) (id : String) (r : V → List V → Hp → VK → Prop) : Prop :=
  ∀ (pins : List (Addr × Obj)) (s : Shared) (σ : St) (H : Hp) (x : V) (xs : List V) (v : Value) (us : List Value) (Q : VK), Inv X pins σ H s → RelV x v → Vals xs us → r x xs H Q →
    wpAny (model X.prog X.w) X.A (call (.builtin id) (v :: us)) (EP X pins σ Q) X.xe s
section
variable {X : Cx} {a b : Expr} {ta tb : TE} {pos : Pos}
/-- a[b] -/
theorem pe_ix {r : R2} (hr : IxR X r) (ha : PE X a ta) (hb : PE X b tb) (hs : PlainIx b) : PE X (.Subscript a b pos) (tOp r ta tb) := by
  intro pins s σ H Q I h
  exact Subscript_ (binT ha hb I h fun v u s2 x y H2 I2 rx ry q => hr a b pins s2 σ H2 x y v u Q I2 rx ry q (hs _ _))

def rIxL (K : PySem.W.Frag) : R2 := fun x y H Q => ∃ p xs i v, x = .ref p ∧ y = .int i ∧ SqL K H p xs ∧ atI xs i = some v ∧ Q v H
theorem ix_list : IxR X (rIxL X.K) := by
  intro value slice pins s σ H x y v u Q I rx ry h hs
  obtain ⟨p, xs, i, z, rfl, rfl, hq, he, q⟩ := h
  cases rx
  obtain ⟨t, rfl⟩ := ry
  obtain ⟨its, r, pl, hz⟩ := I.list hq
  obtain ⟨j, h1, h2, h3, h4, h5⟩ := atI_get he
  obtain ⟨w, ew, rw'⟩ := r.get h2
  have hl := r.length
  have hn := line63
  have fin : EP X pins σ Q w s := ⟨z, H, I, rw', q⟩
  by_cases h0 : 0 ≤ i
  · have hj : i.toNat = j := by
      rw [seqIndex_of h0 h5] at h1
      exact Option.some.inj h1
    exact item_listR pl.isList h0 (by omega) (by rw [hj]; simpa using ew) fin hs
  · have hj : (i + (its.toArray.size : Int)).toNat = j := by
      rw [seqIndex_neg (by omega) h4] at h1
      rw [List.size_toArray, ← hl]
      exact Option.some.inj h1
    exact subscriptTail_builtinR (x := w) pl.isList.typeIs slot_list_getitem.lookup
      (wpAny_getItem_list_neg (Q := fun r s' => r = w ∧ EP X pins σ Q r s') pl.isList (by omega) (by rw [List.size_toArray] <;> omega) (by omega) (by rw [hj]; simpa using ew) ⟨rfl, fin⟩) hs
/-! ### xs[i] = v, any sign -/
/-- the list's object behind a store -/
theorem mapSeq_set (its : List Value) (n j : Nat) (u : Value) : Obj.mapSeq (·.setIfInBounds j u) { cls := .type "list", data := .seq its.toArray n } = { cls := .type "list", data := .seq (its.set j u).toArray n } := by
  simp [Obj.mapSeq]
theorem Inv.lst {pins : List (Addr × Obj)} {σ : St} {H : Hp} {s : Shared} {p : Addr} {xs : List V} (I : Inv X pins σ H s) (h : H p = some (.lst xs)) :
    ∃ (its : List Value) (n : Nat), Vals xs its ∧ s.heap.get? p = some { cls := .type "list", data := .seq its.toArray n } ∧ xs.length ≤ sizeLine := by
  obtain ⟨z, its, n, r, e⟩ := I.hok p _ h
  exact ⟨its, n, r, e, z⟩
/-- the list at p is written by an update of its object -/
theorem Inv.lstUpd {pins : List (Addr × Obj)} {σ : St} {H : Hp} {s : Shared} {p : Addr} {xs ys : List V} {its its' : List Value} {n n' : Nat} {f : Obj → Obj} (I : Inv X pins σ H s) (h : H p = some (.lst xs))
    (ho : s.heap.get? p = some { cls := .type "list", data := .seq its.toArray n }) (hf : f { cls := .type "list", data := .seq its.toArray n } = { cls := .type "list", data := .seq its'.toArray n' }) (r : Vals ys its') (hz : ys.length ≤ sizeLine) (t : Nat) :
    Inv X pins σ (upd H p (.lst ys)) { s with heap := s.heap.update p f, toks := t } := by
  have e : (s.heap.update p f).get? p = some { cls := .type "list", data := .seq its'.toArray n' } := by
    rw [Heap.get?_update_self f ho (by rw [hf] <;> rfl), hf]
  refine I.write (x := p) (e := p) (by rw [h]; trivial) (.inl rfl) (fun b u hb q => (Heap.get?_update_other _ _ (Ne.symm hb)).trans q) ⟨_, e⟩ ?_
  exact ⟨hz, its', n', r, e⟩
def rSetL : V → V → V → Hp → (Hp → Prop) → Prop := fun o i v H Q => ∃ p xs k j, o = .ref p ∧ i = .int k ∧ H p = some (.lst xs) ∧ ixN xs.length k = some j ∧ Q (upd H p (.lst (xs.set j v)))
theorem set_list : PSet X rSetL := by
  intro pins s σ H o i v ov iv u Q I ro ri rv h
  obtain ⟨p, xs, k, j, rfl, rfl, hp, hj, q⟩ := h
  cases ro
  obtain ⟨t, rfl⟩ := ri
  obtain ⟨its, n, r, ho, hz⟩ := I.lst hp
  obtain ⟨h1, h2, h3, h4⟩ := ixN_seq hj
  have hl := r.length
  have hn := line63
  have I' : Inv X pins σ (upd H p (.lst (xs.set j v))) { s with heap := s.heap.update p (Obj.mapSeq (·.setIfInBounds j u)) } :=
    I.lstUpd hp ho (mapSeq_set its n j u) (r.set rv j) (by rw [List.length_set]; exact hz) s.toks
  by_cases h0 : 0 ≤ k
  · have hk : k.toNat = j := by
      rw [seqIndex_of h0 h4] at h1
      exact Option.some.inj h1
    exact PySem.W.ki_setAt ho h0 (by omega) (by rw [List.size_toArray, ← hl]; exact h4) (by rw [hk]; exact ⟨_, I', q⟩)
  · have hk : (k + (its.toArray.size : Int)).toNat = j := by
      rw [seqIndex_neg (by omega) h3] at h1
      rw [List.size_toArray, ← hl]
      exact Option.some.inj h1
    exact PySem.W.ki_setBack ho (by omega) (by rw [List.size_toArray, ← hl]; exact h3) (by omega) (by rw [hk]; exact ⟨_, I', q⟩)

/-! ### slices -/
theorem slice_bounds (lo hi : Option Int) (n : Nat) : (sliceBounds lo hi none n).1 = ((HT.sIx n 0 lo : Nat) : Int) ∧ (sliceBounds lo hi none n).2.1 = ((HT.sIx n n hi : Nat) : Int) ∧ (sliceBounds lo hi none n).2.2 = 1 := by
  refine ⟨?_, ?_, rfl⟩
  · cases lo with
    | none => simp [sliceBounds, HT.sIx]
    | some i =>
      simp only [sliceBounds, HT.sIx, Option.getD_none, show (1 : Int) > 0 by decide, if_true]
      by_cases h : i < 0
      · simp only [h, if_true] <;> omega
      · simp only [h, if_false] <;> omega
  · cases hi with
    | none => simp [sliceBounds, HT.sIx]
    | some i =>
      simp only [sliceBounds, HT.sIx, Option.getD_none, show (1 : Int) > 0 by decide, if_true]
      by_cases h : i < 0
      · simp only [h, if_true] <;> omega
      · simp only [h, if_false] <;> omega
theorem slicePick_cut (its : List Value) (lo hi : Option Int) : slicePick its.toArray lo hi none = ((its.drop (HT.sIx its.length 0 lo)).take (HT.sIx its.length its.length hi - HT.sIx its.length 0 lo)).toArray := by
  obtain ⟨h1, h2, h3⟩ := slice_bounds lo hi its.toArray.size
  unfold slicePick
  rw [h1, h2, h3]
  simp only [sliceRange_one, pick_run, List.size_toArray] <;> rfl
/-- xs[lo:hi] of a list: a new list -/
def rSlL (K : PySem.W.Frag) : V → Option Int → Option Int → Hp → VK → Prop := fun x lo hi H Q => ∃ a xs, x = .ref a ∧ SqL K H a xs ∧ ∀ p, H p = none → Q (.ref p) (upd H p (.lst (cutV xs lo hi)))
theorem sl_list : SlR X (rSlL X.K) := by
  intro pins s σ H x v vl vu lo hi sl Q I rx hs pl pu h
  obtain ⟨a, xs, rfl, hx, q⟩ := h
  cases rx
  obtain ⟨its, r, ht, hz⟩ := I.list hx
  have hlen := r.length
  refine ⟨"list", _, slot_list_getitem.lookup, ht.isList.typeIs, ?_⟩
  refine wpAny_getItem_list_slice ht.isList hs pl pu .none (by simp) ?_ (by rw [List.size_toArray] <;> omega)
  rw [slicePick_cut, ← hlen]
  refine ⟨.ref s.heap.objs.size, _, I.laid (t' := s.toks) (o := .lst (cutV xs lo hi)) (fun b ob q => Heap.get?_push_of_some _ q) (Nat.le_refl _) ?_, rfl, q _ (I.hok.fresh (Nat.le_refl _))⟩
  exact ⟨Nat.le_trans (cutV_length xs lo hi) hz, _, 0, (r.drop (HT.sIx xs.length 0 lo)).take (HT.sIx xs.length xs.length hi - HT.sIx xs.length 0 lo), Heap.get?_push_size _ rfl⟩

/-! ### in, not in: flat items -/
/-! ### len, list(x), tuple(x) of any list or tuple that is read -/
theorem call_len_seq : CallR X (.builtin "len") (fun xs H Q => ∃ p ys, xs = [.ref p] ∧ (SqL X.K H p ys ∨ SqT X.K H p ys) ∧ Q (.int ys.length) H) := by
  intro pins s σ H xs us Q I r h
  obtain ⟨p, ys, rfl, hq, q⟩ := h
  obtain ⟨u, rfl, rx⟩ := vals1 r
  cases rx
  have hn := line63
  rcases hq with hq | hq
  · obtain ⟨its, r', pl, hz⟩ := I.list hq
    have hlen := r'.length
    exact Calls.call_len_list pl.isList (by simp only [List.size_toArray] <;> omega) ⟨.int ys.length, H, I.tok _, ⟨s.toks + 1, by rw [List.size_toArray, hlen]⟩, q⟩
  · obtain ⟨its, r', pl, hz⟩ := I.tuple hq
    have hlen := r'.length
    exact len_tuple pl (by simp only [List.size_toArray] <;> omega) ⟨.int ys.length, H, I.tok _, ⟨s.toks + 1, by rw [List.size_toArray, hlen]⟩, q⟩
theorem call_list_of : CallR X (.type "list") (fun xs H Q => ∃ p ys, xs = [.ref p] ∧ (SqL X.K H p ys ∨ SqT X.K H p ys) ∧ ∀ l, H l = none → Q (.ref l) (upd H l (.lst ys))) := by
  intro pins s σ H xs us Q I r h
  obtain ⟨p, ys, rfl, hq, q⟩ := h
  obtain ⟨u, rfl, rx⟩ := vals1 r
  cases rx
  have fin : ∀ (its : List Value), Vals ys its → ys.length ≤ sizeLine → ∀ (h' : Heap) (c' : Nat), (∀ b o', s.heap.get? b = some o' → h'.get? b = some o') →
      h'.get? s.heap.objs.size = some { cls := .type "list", dict := none, data := .seq its.toArray c', slots := #[] } → EP X pins σ Q (.ref s.heap.objs.size) { s with heap := h' } := fun its r' hz h' c' kp e =>
    ⟨.ref s.heap.objs.size, _, I.laid (t' := s.toks) kp (Nat.le_refl _) (show ObjOk X.prog X.w _ h' _ (.lst ys) from ⟨hz, its, c', r', e⟩), rfl, q _ (I.hok.fresh (Nat.le_refl _))⟩
  rcases hq with hq | hq
  · obtain ⟨its, r', pl, hz⟩ := I.list hq
    have hlen := r'.length
    obtain ⟨o, ho, hc, n, hd⟩ := pl.isList
    exact call_list_seq p (.inl rfl) ho hc hd (fun h' c' kp e => fin its r' hz h' c' kp e) (by simp only [List.size_toArray] <;> omega)
  · obtain ⟨its, r', pl, hz⟩ := I.tuple hq
    have hlen := r'.length
    obtain ⟨o, ho, hc, n, hd⟩ := pl
    exact call_list_seq p (.inr rfl) ho hc hd (fun h' c' kp e => fin its r' hz h' c' kp e) (by simp only [List.size_toArray] <;> omega)
/-! ### the call of a builtin's method: o.m(..) -/
/-- the value is of that builtin type -/
def tyV (K : PySem.W.Frag) (T : String) (x : V) (H : Hp) : Prop := match x with
  | .str _ => T = "str"
  | .int _ => T = "int"
  | .ref p => (T = "list" ∧ ∃ xs, SqL K H p xs) ∨ (T = "tuple" ∧ ∃ o, K.lookup p = some o ∧ o.cls = .type "tuple" ∧ o.dict = none) ∨
      (T = "dict" ∧ ((∃ kvs, H p = some (.dK kvs)) ∨ ∃ kvs, H p = some (.dT kvs))) ∨ (T = "set" ∧ ∃ S n, H p = some (.set S n))
  | _ => False
theorem tyV_is {pins : List (Addr × Obj)} {σ : St} {H : Hp} {s : Shared} {T : String} {x : V} {v : Value} (I : Inv X pins σ H s) (r : RelV x v) (ty : tyV X.K T x H) :
    s.TypeIs v T ∧ ∀ a, v = .ref a → ∃ ob, s.heap.get? a = some ob ∧ ob.dict = none := by
  cases x with
  | str z =>
    obtain ⟨t, rfl⟩ := r
    cases (show T = "str" from ty)
    exact ⟨typeIs_str s z t, fun _ e => nomatch e⟩
  | int i =>
    obtain ⟨t, rfl⟩ := r
    cases (show T = "int" from ty)
    exact ⟨typeIs_int s i t, fun _ e => nomatch e⟩
  | ref p =>
    cases r
    rcases ty with ⟨rfl, xs, hq⟩ | ⟨rfl, o, hk, hc, hd⟩ | ⟨rfl, hk⟩ | ⟨rfl, S, n, hk⟩
    · obtain ⟨its, _, pl, _⟩ := I.list hq
      refine ⟨pl.isList.typeIs, fun a e => ?_⟩
      cases e
      obtain ⟨o, n, e, c, hd, _⟩ := pl
      exact ⟨o, e, hd⟩
    · refine ⟨⟨o, I.kIn p o hk, hc⟩, fun a e => ?_⟩
      cases e
      exact ⟨o, I.kIn _ o hk, hd⟩
    · have z : ∃ o, s.heap.get? p = some o ∧ o.ExactDict := by
        rcases hk with ⟨kvs, hk⟩ | ⟨kvs, hk⟩
        · obtain ⟨_, _, _, _, o, _, _, e, ex, _⟩ := I.hok p _ hk
          exact ⟨o, e, ex⟩
        · obtain ⟨_, _, _, _, o, _, _, e, ex, _⟩ := I.hok p _ hk
          exact ⟨o, e, ex⟩
      obtain ⟨o, e, ex⟩ := z
      refine ⟨⟨o, e, ex.1⟩, fun a e2 => ?_⟩
      cases e2
      exact ⟨o, e, ex.2.1⟩
    · obtain ⟨o, _, _, _, e, ex, _⟩ := I.hok p _ hk
      refine ⟨⟨o, e, ex.1⟩, fun a e2 => ?_⟩
      cases e2
      exact ⟨o, e, ex.2.1⟩
  | _ => exact False.elim ty
def tBM (K : PySem.W.Frag) (T : String) (r : V → List V → Hp → VK → Prop) (to : TE) (t : TA) : TE := fun σ H Q => to σ H fun x H1 => tyV K T x H1 ∧ t σ H1 fun xs H2 => r x xs H2 Q
variable {o e : Expr} {es : List Expr} {to : TE} {t : TA} {name : Str} {apos cpos : Pos} {T id : String} {r : V → List V → Hp → VK → Prop}
theorem pe_bm (pa : PlainAttrs T) (slot : Slot T name id) (hty : typeOf (.builtin id) = pure (.type "method_descriptor")) (hm : MtR X id r) (ho : PE X o to) (ha : PA X (e :: es) t)
    (hbase : attributeBase o name X.env (eval o X.env) = eval o X.env := by rfl)
    (hfew : ((backTo cpos (starEach (e :: es) X.env)).all (fun x => !x.1) && (backToKw cpos (keywordEach [] X.env)).all (fun x => x.1.isSome)
      && decide ((e :: es).length + ([] : List Keyword).length + (if ([] : List Keyword).isEmpty then 0 else 1) < 30)) = true := by rfl)
    (hline : (apos.endLine == cpos.line) = true := by rfl) (hs : starEach (e :: es) X.env = (false, eval e X.env) :: starEach es X.env := by rfl) (hplain : (backTo cpos (starEach es X.env)).any (·.1) = false := by rfl) :
    PE X (.Call (.Attribute o name apos) (e :: es) [] cpos) (tBM X.K T r to t) := by
  intro pins s σ H Q I h
  refine wpAny_Call_method_late hbase hfew hline rfl (thn (ho pins s σ H _ I h) fun v s1 ⟨x, H1, I1, r1, ty, q1⟩ => ?_)
  obtain ⟨h1, h2⟩ := tyV_is I1 r1 ty
  refine ⟨T, id, pa, slot, hty, h1, h2, ?_⟩
  have hA := ha cpos pins s1 σ H1 _ I1 q1
  rw [hs] at hA ⊢
  refine Calls.callWith_builtin (by show (false || (backTo cpos (starEach es X.env)).any (·.1)) = false; rw [hplain] <;> rfl) (Calls.evalArgs_plain ?_)
  exact thn hA fun us s2 ⟨vs, H2, I2, r2, q2⟩ => hm pins s2 σ H2 x vs v us Q I2 r1 r2 q2
/- xs.append(e), list.index on a module's tuple .. are MtR facts of 06m -/
end
end L2

namespace L2
open PySem PySem.Spec PyProof.Rows

def MtM (X : Cx) (id : String) (r : V → List V → Hp → VK → Prop) : Prop :=
  ∀ (pins : List (Addr × Obj)) (s : Shared) (σ : St) (H : Hp) (x : V) (xs : List V) (v : Value) (us : List Value) (Q : VK), Inv X pins σ H s → RelV x v → Vals xs us → r x xs H Q →
    wpAny (model X.prog X.w) X.A (call (.builtin id) (v :: us)) (EP X pins σ Q) X.xe s

/-! ### lists of values -/
theorem Vals.one : ∀ {x : V} {us : List Value}, Vals [x] us → ∃ u, us = [u] ∧ RelV x u
  | _, _, .cons r .nil => ⟨_, rfl, r⟩
theorem Vals.rep {xs : List V} {us : List Value} (h : Vals xs us) : ∀ k : Nat, Vals (List.replicate k xs).flatten (List.replicate k us).flatten
  | 0 => .nil
  | k + 1 => by
    rw [List.replicate_succ, List.replicate_succ, List.flatten_cons, List.flatten_cons]
    exact Vals.append h (Vals.rep h k)
theorem foldl_rep (its : List Value) : ∀ (k : Nat) (acc : List Value),
    List.foldl (fun x1 x2 => x1 ++ x2) acc.toArray (List.replicate k its.toArray) = (acc ++ (List.replicate k its).flatten).toArray
  | 0, acc => by simp
  | k + 1, acc => by
    have e : acc.toArray ++ its.toArray = (acc ++ its).toArray := by simp
    have e2 : (acc ++ its) ++ (List.replicate k its).flatten = acc ++ (List.replicate (k + 1) its).flatten := by
      rw [List.replicate_succ, List.flatten_cons, List.append_assoc]
    rw [← e2, ← foldl_rep its k (acc ++ its), ← e, List.replicate_succ, List.foldl_cons]

section
variable {X : Cx} {pins : List (Addr × Obj)} {σ : St} {H : Hp} {s : Shared} {l b : Addr} {xs ys zs : List V}

/-! ### the two steps: a tracked list is rewritten, a new list is laid -/
theorem Inv.lset {its its' : List Value} {n : Nat} {f : Array Value → Array Value} {t' : Nat} (I : Inv X pins σ H s) (hH : H l = some (.lst xs))
    (e : s.heap.get? l = some { cls := .type "list", data := .seq its.toArray n }) (hf : f its.toArray = its'.toArray) (hv : Vals ys its') (hz : ys.length ≤ sizeLine) :
    Inv X pins σ (upd H l (.lst ys)) { s with heap := s.heap.update l (Obj.mapSeq f), toks := t' } := by
  have q := PySem.IsL.update e f
  rw [hf] at q
  refine I.write (x := l) (e := l) (by rw [hH]; exact trivial) (.inl rfl) (fun b' u hb hu => (Heap.get?_update_other s.heap (Obj.mapSeq f) (Ne.symm hb)).trans hu) ⟨_, q⟩ ?_
  exact ⟨hz, its', _, hv, q⟩
theorem Inv.lnew {its : List Value} {t' : Nat} (I : Inv X pins σ H s) (hv : Vals ys its) (hz : ys.length ≤ sizeLine) :
    Inv X pins σ (upd H s.heap.objs.size (.lst ys)) { s with heap := s.heap.push { cls := .type "list", data := .seq its.toArray }, toks := t' } :=
  I.laid (fun _ _ q => Heap.get?_push_of_some _ q) (Nat.le_refl _) ⟨hz, its, 0, hv, Heap.get?_push_size _ rfl⟩
theorem Inv.fresh (I : Inv X pins σ H s) : H s.heap.objs.size = none := I.hok.fresh (Nat.le_refl _)
theorem Inv.lstM (I : Inv X pins σ H s) (hH : H l = some (.lst xs)) : xs.length ≤ sizeLine ∧ ∃ (its : List Value) (n : Nat), Vals xs its ∧ xs.length = its.length ∧ s.heap.get? l = some { cls := .type "list", data := .seq its.toArray n } := by
  obtain ⟨z, its, n, r, e⟩ := I.hok l _ hH
  exact ⟨z, its, n, r, r.length, e⟩

theorem notLongL {n : Nat} (h : n ≤ sizeLine) : Builtin.List.listTooLong n = false := by
  unfold Builtin.List.listTooLong
  exact decide_eq_false (by omega)
end

section
variable {X : Cx}

/-! ### methods -/
def rExtend : V → List V → Hp → VK → Prop := fun x vs H Q => ∃ l b xs zs, x = .ref l ∧ vs = [.ref b] ∧ H l = some (.lst xs) ∧ H b = some (.lst zs) ∧ xs.length + zs.length ≤ sizeLine ∧ Q .non (upd H l (.lst (xs ++ zs)))
theorem mt_extend : MtM X "list.extend" rExtend := by
  intro pins s σ H x vs v us Q I rx rv h
  obtain ⟨l, b, xs, zs, rfl, rfl, hH, hB, hz, q⟩ := h
  cases rx
  obtain ⟨u, rfl, ru⟩ := rv.one
  cases ru
  obtain ⟨z, its, n, r, hl, e⟩ := I.lstM hH
  obtain ⟨z2, its2, n2, r2, hl2, e2⟩ := I.lstM hB
  have hsz : its.toArray.size + its2.toArray.size ≤ sizeLine := by rw [List.size_toArray, List.size_toArray]; omega
  have hlong : ¬ (!its.toArray.isEmpty && Builtin.List.listTooLong (its.toArray.size + its2.toArray.size)) = true := by
    rw [notLongL hsz, Bool.and_false]
    exact Bool.false_ne_true
  refine call_meets F.slot_list_extend ⟨_, e, rfl⟩ F.entry_list_extend (F.args_list_extend_2 _ _)
    (AutoSeq1.list_extend_list_list_0 l its.toArray n b its2.toArray n2 hlong (by rw [List.size_toArray]; omega) (by omega)) ⟨e, e2, ?_⟩
  refine ⟨.non, _, I.lset (its' := its ++ its2) hH e (by simp) (r.append r2) ?_, rfl, q⟩
  rw [List.length_append]
  omega

/-! ### list + list, list += list, list * int -/
def rCat : R2 := fun x y H Q => ∃ l b xs zs, x = .ref l ∧ y = .ref b ∧ H l = some (.lst xs) ∧ H b = some (.lst zs) ∧ xs.length + zs.length ≤ sizeLine ∧ ∀ p, H p = none → Q (.ref p) (upd H p (.lst (xs ++ zs)))
theorem op_cat : OpR X (binaryOp .Add) rCat := by
  intro pins s σ H x y v u Q I rx ry h
  obtain ⟨l, b, xs, zs, rfl, rfl, hH, hB, hz, q⟩ := h
  cases rx
  cases ry
  obtain ⟨z, its, n, r, hl, e⟩ := I.lstM hH
  obtain ⟨z2, its2, n2, r2, hl2, e2⟩ := I.lstM hB
  refine PySem.P.add_list e e2 ?_ (by rw [List.size_toArray, List.size_toArray]; omega)
  have ea : its.toArray ++ its2.toArray = (its ++ its2).toArray := by simp
  rw [ea]
  exact ⟨.ref _, _, I.lnew (t' := s.toks) (r.append r2) (by rw [List.length_append]; omega), rfl, q _ I.fresh⟩
/-- a list times an int (a negative one is nothing) -/
def rRep : R2 := fun x y H Q => ∃ l k xs, x = .ref l ∧ y = .int k ∧ H l = some (.lst xs) ∧ -(2 ^ 63) ≤ k ∧ k < 2 ^ 63 ∧ xs.length * k.toNat ≤ sizeLine ∧
  ∀ p, H p = none → Q (.ref p) (upd H p (.lst (List.replicate k.toNat xs).flatten))
theorem len_rep {α : Type} (xs : List α) (k : Nat) : (List.replicate k xs).flatten.length = k * xs.length := by
  induction k with
  | zero => simp
  | succ k ih => rw [List.replicate_succ, List.flatten_cons, List.length_append, ih, Nat.succ_mul, Nat.add_comm]
theorem op_rep : OpR X (binaryOp .Mult) rRep := by
  intro pins s σ H x y v u Q I rx ry h
  obtain ⟨l, k, xs, rfl, rfl, hH, h1, h2, hz, q⟩ := h
  cases rx
  obtain ⟨t, rfl⟩ := ry
  obtain ⟨z, its, n, r, hl, e⟩ := I.lstM hH
  have hlen : its.toArray.size * k.toNat ≤ sizeLine := by rw [List.size_toArray, ← hl]; exact hz
  have hcap : ¬ its.toArray.size * k.toNat > (2 ^ 63 - 1) / 8 := by
    have : (sizeLine : Nat) ≤ (2 ^ 63 - 1) / 8 := by decide
    omega
  have hfit : ¬ (!Builtin.List.listFitsIndex k) = true := by
    rw [fitsIndex_both h1 h2]
    exact Bool.false_ne_true
  have hlong : ¬ Builtin.List.listTooLong (its.toArray.size * k.toNat) = true := by
    rw [notLongL hlen]
    exact Bool.false_ne_true
  have hnew : List.foldl (fun x1 x2 => x1 ++ x2) #[] (List.replicate (if its.toArray.isEmpty = true then 0 else k.toNat) its.toArray) = (List.replicate k.toNat its).flatten.toArray := by
    have f0 : ∀ m : Nat, List.foldl (fun x1 x2 => x1 ++ x2) #[] (List.replicate m its.toArray) = (List.replicate m its).flatten.toArray := fun m => by
      have := foldl_rep its m []
      rw [List.nil_append] at this
      exact this
    rw [f0]
    cases its with
    | nil => simp
    | cons a r' => rw [if_neg (by simp)]
  refine wpAny_binaryOp_repeat_ref (T := "list") (U := "int") (by decide) ⟨_, e, rfl⟩ (fun s' => typeIs_int s' k t) noFill_list_mul F.fills_int_mul F.slot_int_rmul repeat_list F.slot_int_index.lookup
    (call_meets F.slot_int_rmul (typeIs_int s k t) F.entry_int_rmul (F.args_int_rmul_2 _ _) (int___rmul___int_list k t l its.toArray n)
      ⟨e, rfl, ⟨_, e, rfl⟩, call_meets F.slot_list_mul ⟨_, e, rfl⟩ F.entry_list_mul (F.args_list_mul_2 _ _) (AutoListH.list___mul___list_int_3 l its.toArray n k t hfit hcap hlong) ⟨e, ?_⟩⟩)
  rw [hnew]
  exact ⟨.ref _, _, I.lnew (t' := s.toks) (r.rep k.toNat) (by rw [len_rep, Nat.mul_comm]; exact hz), rfl, q _ I.fresh⟩

/-! ### del xs[i] -/
end

/-! ### xs[a:b] = ys -/
section
variable {prog : Program} {w : World} {A : Around} {E : Value → Shared → Prop} {s : Shared}
set_option maxRecDepth 100000 in
end

section
variable {X : Cx}
end
end L2

namespace L2
open PySem PySem.Spec PyProof.Rows

/-! ### the library's walks over a list of ints, kept objects alone -/
section
variable {prog : Program} {w : World} {A : Around} {E : Value → Shared → Prop} {s : Shared} {l : Addr} {its : List Value} {ns : List Int} {Q : Value → Shared → Prop}
end

/-! ### the calls, by values (CallR of 03t; MtR of 06l) -/
section
variable {X : Cx}
/-! sorted, sort (fewer than 64 items: the library's own bound) -/
end

/-! ### list.index, flat items -/
section
variable {X : Cx}
end

/-! ### type(x) of an own instance; is, is not of a module's class -/
section
variable {X : Cx}
end

/-! ### any(xs), all(xs) of a list of bools -/
section
variable {X : Cx}
end

/-! ### == and != of data at any depth: none, bools, ints, texts, lists, tuples -/
mutual
inductive Dp (K : PySem.W.Frag) (H : Hp) : V → PyData → Prop
  | non : Dp K H .non .none
  | bl (b : Bool) : Dp K H (.bl b) (.bool b)
  | int (i : Int) : Dp K H (.int i) (.int i)
  | str (x : Str) : Dp K H (.str x) (.str x)
  | lst {a : Addr} {xs : List V} {ds : List PyData} : SqL K H a xs → DpAll K H xs ds → Dp K H (.ref a) (.list ds)
  | tup {a : Addr} {xs : List V} {ds : List PyData} : SqT K H a xs → DpAll K H xs ds → Dp K H (.ref a) (.tuple ds)
inductive DpAll (K : PySem.W.Frag) (H : Hp) : List V → List PyData → Prop
  | nil : DpAll K H [] []
  | cons {v : V} {vs : List V} {d : PyData} {ds : List PyData} : Dp K H v d → DpAll K H vs ds → DpAll K H (v :: vs) (d :: ds)
end
section
variable {X : Cx} {pins : List (Addr × Obj)} {σ : St} {H : Hp} {s : Shared}
mutual
theorem Dp.reads (I : Inv X pins σ H s) : ∀ (d : PyData) (v : V) (u : Value), Dp X.K H v d → RelV v u → ∃ as, Reads s.heap u d as
  | .none, _, _, h, r => by
    cases h
    cases r
    exact ⟨_, Reads.none⟩
  | .bool b, _, _, h, r => by
    cases h
    cases r
    exact ⟨_, Reads.bool b⟩
  | .int i, _, _, h, r => by
    cases h
    obtain ⟨t, rfl⟩ := r
    exact ⟨_, Reads.int i t⟩
  | .str x, _, _, h, r => by
    cases h
    obtain ⟨t, rfl⟩ := r
    exact ⟨_, Reads.str x t⟩
  | .list ds, _, _, h, r => by
    cases h with
    | lst hs ha =>
      cases r
      obtain ⟨its, rv, ⟨o, n, ho, hc, _, hd⟩, _⟩ := I.list hs
      obtain ⟨as, hr⟩ := Dp.readsAll I ds _ its ha rv
      exact ⟨_, Reads.list ho hc hd hr⟩
  | .tuple ds, _, _, h, r => by
    cases h with
    | tup hs ha =>
      cases r
      obtain ⟨its, rv, ⟨o, ho, hc, n, hd⟩, _⟩ := I.tuple hs
      obtain ⟨as, hr⟩ := Dp.readsAll I ds _ its ha rv
      exact ⟨_, Reads.tuple ho hc hd hr⟩
  | .dict _, _, _, h, _ => by cases h
theorem Dp.readsAll (I : Inv X pins σ H s) : ∀ (ds : List PyData) (vs : List V) (us : List Value), DpAll X.K H vs ds → Vals vs us → ∃ as, ReadsAll s.heap us ds as
  | [], _, _, h, r => by
    cases h
    cases r
    exact ⟨_, ReadsAll.nil⟩
  | d :: ds, _, _, h, r => by
    cases h with
    | cons h1 h2 =>
      cases r with
      | cons r1 r2 =>
        obtain ⟨as, q1⟩ := Dp.reads I d _ _ h1 r1
        obtain ⟨bs, q2⟩ := Dp.readsAll I ds _ _ h2 r2
        exact ⟨_, ReadsAll.cons q1 q2⟩
end
end
section
variable {X : Cx}
def rNeD (K : PySem.W.Frag) : R2 := fun x y H Q => ∃ d e, Dp K H x d ∧ Dp K H y e ∧ SeqAt.shaped d = true ∧ SeqAt.shaped e = true ∧ Q (.bl (!PyData.eqv d e)) H
theorem op_neD (hu : X.A.units + 64 < cLine) : OpR X (compareOp .NotEq) (rNeD X.K) := by
  intro pins s σ H x y v u Q I rx ry h
  obtain ⟨d, e, hd, he, sd, se, q⟩ := h
  obtain ⟨as, r1⟩ := Dp.reads I d x v hd rx
  obtain ⟨bs, r2⟩ := Dp.reads I e y u he ry
  exact SeqAt.compareNe_shaped r1 r2 sd se hu ⟨.bl _, H, I, rfl, q⟩
end
end L2

namespace L2
open PySem PySem.Spec PyProof.Rows
abbrev CellAt (h : Heap) (c : Addr) (v : Option Value) : Prop := h.IsCell c v
def relS (scope sc : Scope) : Scope :=
  { scope with names := scope.names.map fun (n, k) => if (k == .free && sc.kind == .function && sc.names.lookup n == some .cell) then (n, .cell) else (n, k) }

def cloFrom (cells : List (Str × Addr)) : List (Str × NameKind) → List (Str × Addr) → List (Str × Addr)
  | [], acc => acc
  | (n, k) :: r, acc => if k == .free then cloFrom cells r ((n, (cells.lookup n).getD 0) :: acc) else cloFrom cells r acc

theorem closure_loop (env : Env) (f : Str × NameKind → List (Str × Addr) → Sem (ForInStep (List (Str × Addr))))
    (hf : ∀ n k c, f (n, k) c = if k == .free then (do let a ← cellOf env n; pure (.yield ((n, a) :: c))) else pure (.yield c)) :
    ∀ (names : List (Str × NameKind)) (acc : List (Str × Addr)), (∀ y ∈ names, y.2 = .free → ∃ c, env.cells.lookup y.1 = some c) → forIn names acc f = pure (cloFrom env.cells names acc)
  | [], acc, _ => by rw [List.forIn_nil]; rfl
  | (n, k) :: r, acc, h => by
    rw [List.forIn_cons, hf]
    have ih := fun acc => closure_loop env f hf r acc fun y hy => h y (List.mem_cons_of_mem _ hy)
    unfold cloFrom
    by_cases hk : (k == NameKind.free) = true
    · rw [if_pos hk, if_pos hk]
      obtain ⟨c, hc⟩ := h (n, k) List.mem_cons_self (by simpa using hk)
      have e : cellOf env n = pure c := by unfold cellOf; rw [hc]
      rw [e]
      have e2 : (env.cells.lookup n).getD 0 = c := by rw [hc]; rfl
      rw [e2]
      exact ih _
    · rw [if_neg hk, if_neg hk]
      exact ih _
theorem closure_ok {scope : Scope} {env : Env} (h : ∀ y ∈ scope.names, y.2 = .free → ∃ c, env.cells.lookup y.1 = some c) : closureFor scope env = pure (cloFrom env.cells scope.names []) := by
  simp only [closureFor]
  rw [closure_loop env _ (fun n k c => rfl) scope.names [] h]
  rfl

theorem mem_lookup {α : Type} : ∀ {l : List (Str × α)} {n : Str} {c : α}, (n, c) ∈ l → ∃ c', l.lookup n = some c'
  | (k, v) :: r, n, c, h => by
    rw [List.lookup_cons]
    cases hb : n == k with
    | true => exact ⟨_, rfl⟩
    | false =>
      rcases List.mem_cons.mp h with e | h
      · cases e; simp at hb
      · exact mem_lookup h

theorem cloFrom_mem {cells : List (Str × Addr)} : ∀ {names : List (Str × NameKind)} {acc : List (Str × Addr)} {n : Str} {c : Addr}, (n, c) ∈ cloFrom cells names acc → (n, c) ∈ acc ∨ ((n, .free) ∈ names ∧ c = (cells.lookup n).getD 0)
  | [], _, _, _, h => .inl h
  | (m, k) :: r, acc, n, c, h => by
    unfold cloFrom at h
    split at h
    · rename_i hk
      have hk : k = .free := by simpa using hk
      rcases cloFrom_mem h with h | ⟨h1, h2⟩
      · rcases List.mem_cons.mp h with e | h
        · cases e; exact .inr ⟨hk ▸ List.mem_cons_self, rfl⟩
        · exact .inl h
      · exact .inr ⟨List.mem_cons_of_mem _ h1, h2⟩
    · rcases cloFrom_mem h with h | ⟨h1, h2⟩
      · exact .inl h
      · exact .inr ⟨List.mem_cons_of_mem _ h1, h2⟩
theorem cloFrom_acc {cells : List (Str × Addr)} : ∀ {names : List (Str × NameKind)} {acc : List (Str × Addr)} {p : Str × Addr}, p ∈ acc → p ∈ cloFrom cells names acc
  | [], _, _, h => h
  | (m, k) :: r, acc, p, h => by
    unfold cloFrom
    split
    · exact cloFrom_acc (List.mem_cons_of_mem _ h)
    · exact cloFrom_acc h
theorem cloFrom_has {cells : List (Str × Addr)} : ∀ {names : List (Str × NameKind)} {acc : List (Str × Addr)} {n : Str}, (n, .free) ∈ names → (n, (cells.lookup n).getD 0) ∈ cloFrom cells names acc
  | (m, k) :: r, acc, n, h => by
    unfold cloFrom
    rcases List.mem_cons.mp h with e | h
    · cases e
      exact cloFrom_acc List.mem_cons_self
    · split
      · exact cloFrom_has h
      · exact cloFrom_has h

theorem cells_mem : ∀ {names : List (Str × NameKind)} {h : Heap} {acc : List (Str × Addr)} {x : Str} {c : Addr}, (x, c) ∈ cellsFrom h.objs.size names acc →
    (x, c) ∈ acc ∨ ((x, .cell) ∈ names ∧ h.objs.size ≤ c ∧ CellAt (pushCells h names) c none)
  | [], _, _, _, _, h => .inl h
  | (n, k) :: r, h, acc, x, c, hm => by
    unfold cellsFrom at hm
    unfold pushCells
    split at hm
    · rename_i hk
      rw [if_pos hk]
      have hk : k = .cell := by simpa using hk
      rw [← Heap.size_push h { cls := .type "cell", data := .cell none }] at hm
      rcases cells_mem hm with hm | ⟨h1, h2, h3⟩
      · rcases List.mem_cons.mp hm with e | hm
        · cases e
          exact .inr ⟨hk ▸ List.mem_cons_self, Nat.le_refl _, _, pushCells_keeps r _ _ _ (Heap.get?_push_size _ rfl), rfl⟩
        · exact .inl hm
      · rw [Heap.size_push] at h2
        exact .inr ⟨List.mem_cons_of_mem _ h1, Nat.le_of_succ_le h2, h3⟩
    · rename_i hk
      rw [if_neg hk]
      rcases cells_mem hm with hm | ⟨h1, h2, h3⟩
      · exact .inl hm
      · exact .inr ⟨List.mem_cons_of_mem _ h1, h2, h3⟩
theorem cells_acc : ∀ {names : List (Str × NameKind)} {n : Nat} {acc : List (Str × Addr)} {p : Str × Addr}, p ∈ acc → p ∈ cellsFrom n names acc
  | [], _, _, _, h => h
  | (m, k) :: r, n, acc, p, h => by
    unfold cellsFrom
    split
    · exact cells_acc (List.mem_cons_of_mem _ h)
    · exact cells_acc h
theorem cells_has : ∀ {names : List (Str × NameKind)} {n : Nat} {acc : List (Str × Addr)} {x : Str}, (x, .cell) ∈ names → ∃ c, (x, c) ∈ cellsFrom n names acc
  | (m, k) :: r, n, acc, x, h => by
    unfold cellsFrom
    rcases List.mem_cons.mp h with e | h
    · cases e
      exact ⟨n, cells_acc List.mem_cons_self⟩
    · split
      · exact cells_has h
      · exact cells_has h
theorem cells_inj : ∀ {names : List (Str × NameKind)} {h : Heap} {acc : List (Str × Addr)} {x y : Str} {c : Addr}, (∀ p ∈ acc, p.2 < h.objs.size) → (∀ x y c, (x, c) ∈ acc → (y, c) ∈ acc → x = y) →
    (x, c) ∈ cellsFrom h.objs.size names acc → (y, c) ∈ cellsFrom h.objs.size names acc → x = y
  | [], _, _, _, _, _, _, hi, h1, h2 => hi _ _ _ h1 h2
  | (n, k) :: r, h, acc, x, y, c, hl, hi, h1, h2 => by
    unfold cellsFrom at h1 h2
    split at h1
    · rename_i hk
      rw [if_pos hk] at h2
      rw [← Heap.size_push h { cls := .type "cell", data := .cell none }] at h1 h2
      refine cells_inj (h := h.push _) (fun p hp => ?_) (fun x y c a b => ?_) h1 h2
      · rw [Heap.size_push]
        rcases List.mem_cons.mp hp with rfl | hp
        · exact Nat.lt_succ_self _
        · exact Nat.lt_succ_of_lt (hl p hp)
      · rcases List.mem_cons.mp a with e | a <;> rcases List.mem_cons.mp b with e' | b
        · cases e; cases e'; rfl
        · cases e; exact absurd (hl _ b) (Nat.lt_irrefl _)
        · cases e'; exact absurd (hl _ a) (Nat.lt_irrefl _)
        · exact hi _ _ _ a b
    · rename_i hk
      rw [if_neg hk] at h2
      exact cells_inj hl hi h1 h2

theorem newEnv_comp {M : Model} {A : Around} {E : Value → Shared → Prop} {s : Shared} {scope : Scope} {globals : Addr} {closure : List (Str × Addr)} {qual : Str} {func : Option Addr} {code : Value} {around : Env} {builtins : Addr} {Q : Env → Shared → Prop}
    (h : Q (newEnv scope s.heap.objs.size globals (cellsFrom (s.heap.objs.size + 1) scope.names closure) qual func code (some around) builtins)
      { s with heap := pushCells (s.heap.push { cls := .type "dict", data := .dict #[] }) scope.names }) :
    wpAny M A (newFunctionEnv scope globals closure [] qual func code (some around) builtins) Q E s := by
  simp only [newFunctionEnv, Option.isSome_some, if_true]
  refine wpAny_bind (wpAny_alloc ?_)
  refine wpAny_bind (wpAny_layCells _ (fun n k c => rfl) scope.names closure _ _ ?_)
  rw [show ({ s with heap := s.heap.push { cls := .type "dict", data := .dict #[] } } : Shared).heap.objs.size = s.heap.objs.size + 1 from Heap.size_push ..]
  rw [List.forIn_nil]
  exact wpAny_bind (wpAny_pure (wpAny_pure h))

/-- every name of the written scope, in the scope that runs -/
theorem lookup_relS {sc : Scope} : ∀ {names : List (Str × NameKind)} {x : Str} {k : NameKind},
    (names.map fun (n, k) => if (k == NameKind.free && sc.kind == .function && sc.names.lookup n == some .cell) then (n, NameKind.cell) else (n, k)).lookup x = some k →
    ∃ k', names.lookup x = some k' ∧ (k = k' ∨ (k' = .free ∧ k = .cell))
  | [], _, _, h => by simp at h
  | (n, k₀) :: r, x, k, h => by
    have ih := @lookup_relS sc r x k
    have h' : List.lookup x ((if (k₀ == NameKind.free && sc.kind == .function && sc.names.lookup n == some .cell) = true then (n, NameKind.cell) else (n, k₀)) :: (r.map _)) = some k := h
    cases hx : x == n with
    | true =>
      simp only [List.lookup_cons, hx]
      by_cases hc : (k₀ == NameKind.free && sc.kind == .function && sc.names.lookup n == some .cell) = true
      · rw [if_pos hc] at h'
        simp only [List.lookup_cons, hx] at h'
        cases h'
        simp only [Bool.and_eq_true, beq_iff_eq] at hc
        exact ⟨k₀, rfl, .inr ⟨hc.1.1, rfl⟩⟩
      · rw [if_neg hc] at h'
        simp only [List.lookup_cons, hx] at h'
        cases h'
        exact ⟨_, rfl, .inl rfl⟩
    | false =>
      simp only [List.lookup_cons, hx]
      by_cases hc : (k₀ == NameKind.free && sc.kind == .function && sc.names.lookup n == some .cell) = true
      · rw [if_pos hc] at h'
        simp only [List.lookup_cons, hx] at h'
        exact ih h'
      · rw [if_neg hc] at h'
        simp only [List.lookup_cons, hx] at h'
        exact ih h'
/-- the names of a comprehension's block: its own (with their places in N), or captured -/
structure BlkOk (N : List Str) (sc scope : Scope) (own : List (Str × Nat)) : Prop where
  kind : scope.kind = .function
  uniq : ∀ y ∈ scope.names, scope.names.lookup y.1 = some y.2
  ix : ∀ p ∈ own, N[p.2]? = some p.1
  free : ∀ y ∈ scope.names, y.2 = .free → sc.names.lookup y.1 = some .cell ∨ sc.names.lookup y.1 = some .free
  own : ∀ y ∈ scope.names, y.2 = .local ∨ y.2 = .cell → y.1 ∈ own.map (·.1) ∨ y.1 ∉ N
/-- the slots of the block's own names forgotten -/
def wipe (σ : St) : List Nat → St
  | [] => σ
  | v :: vs => (wipe σ vs).set v none
theorem wipe_length (σ : St) : ∀ vs : List Nat, (wipe σ vs).length = σ.length
  | [] => rfl
  | v :: vs => by unfold wipe; rw [List.length_set, wipe_length σ vs]
theorem wipe_some {σ : St} {i : Nat} {x : V} : ∀ {vs : List Nat}, (wipe σ vs)[i]? = some (some x) → σ[i]? = some (some x) ∧ i ∉ vs
  | [], h => ⟨h, by simp⟩
  | v :: vs, h => by
    unfold wipe at h
    by_cases hi : v = i
    · subst hi
      by_cases hv : v < (wipe σ vs).length
      · rw [List.getElem?_set_self hv] at h; cases h
      · rw [List.getElem?_eq_none (by simpa using hv)] at h; cases h
    · rw [List.getElem?_set_ne hi] at h
      obtain ⟨h1, h2⟩ := wipe_some h
      exact ⟨h1, by simp only [List.mem_cons, not_or]; exact ⟨fun e => hi e.symm, h2⟩⟩

/-- the context of a block that starts at s, its iterator's objects at fp -/
abbrev Cx.blk (X : Cx) (s : Shared) (H : Hp) (scope : Scope) (cenv : Env) (fp : List Addr) : Cx := { X with s_0 := s, H_0 := H, env := cenv, outer := X.stack, ex := fp, fn := fun x => scope.names.lookup x == some .cell, pn := [], xe := fun _ _ => False }
section
variable {X : Cx} {pins : List (Addr × Obj)} {σ : St} {H : Hp} {s : Shared}
theorem block_start {scope : Scope} {own : List (Str × Nat)} {fp : List Addr} (I : Inv X pins σ H s) (ok : BlkOk X.N X.env.scope scope own) (hN : X.N.Nodup) (hfp : ∀ b ∈ fp, FpOk X pins H b ∧ b < s.heap.objs.size) :
    Inv (X.blk s H scope (compEnvC scope (cellsFrom (s.heap.objs.size + 1) scope.names (cloFrom X.env.cells scope.names [])) s.heap.objs.size X.env) fp) [] (wipe σ (own.map (·.2))) H { s with heap := pushCells (s.heap.push { cls := .type "dict", data := .dict #[] }) scope.names } := by
  have hfree : ∀ y ∈ scope.names, y.2 = .free → ∃ c, X.env.cells.lookup y.1 = some c := fun y hy e => by
    rcases ok.free y hy e with k | k
    · exact I.ok.has _ (.inl k)
    · exact I.ok.has _ (.inr k)
  generalize hcenv : compEnvC scope (cellsFrom (s.heap.objs.size + 1) scope.names (cloFrom X.env.cells scope.names [])) s.heap.objs.size X.env = cenv
  have kp : ∀ b o, s.heap.get? b = some o → (pushCells (s.heap.push { cls := .type "dict", data := .dict #[] }) scope.names).get? b = some o := fun b o e => pushCells_keeps _ _ _ _ (Heap.get?_push_of_some _ e)
  have hL : cenv.locals = s.heap.objs.size := by rw [← hcenv]; rfl
  have hcl : cenv.cells = cellsFrom (s.heap.objs.size + 1) scope.names (cloFrom X.env.cells scope.names []) := by rw [← hcenv]; rfl
  have hsc : cenv.scope = relS scope X.env.scope := by rw [← hcenv]; rfl
  rw [← Heap.size_push s.heap { cls := .type "dict", data := .dict #[] }] at hcl
  have cm : ∀ {y c}, (y, c) ∈ cloFrom X.env.cells scope.names [] → X.env.cells.lookup y = some c ∧ c < s.heap.objs.size := fun {y c} hm => by
    rcases cloFrom_mem hm with hm | ⟨h1, rfl⟩
    · cases hm
    · obtain ⟨c, hc⟩ := hfree _ h1 rfl
      rw [hc]
      obtain ⟨w, z⟩ := I.cell _ _ hc
      exact ⟨rfl, z.lt⟩
  have mem : ∀ {y c}, cenv.cells.lookup y = some c → (X.env.cells.lookup y = some c ∧ c < s.heap.objs.size) ∨ (s.heap.objs.size + 1 ≤ c ∧ CellAt (pushCells (s.heap.push { cls := .type "dict", data := .dict #[] }) scope.names) c none) := fun {y c} e => by
    rw [hcl] at e
    rcases cells_mem (PySem.mem_of_lookup e) with hm | ⟨_, h2, h3⟩
    · exact .inl (cm hm)
    · rw [Heap.size_push] at h2; exact .inr ⟨h2, h3⟩
  have look : ∀ {y}, scope.names.lookup y = some .free → ∃ c, cenv.cells.lookup y = some c ∧ X.env.cells.lookup y = some c := fun {y} hl => by
    have hy : (y, NameKind.free) ∈ scope.names := PySem.mem_of_lookup hl
    obtain ⟨c', e'⟩ := mem_lookup (cells_acc (names := scope.names) (n := (s.heap.push { cls := .type "dict", data := .dict #[] }).objs.size) (cloFrom_has (cells := X.env.cells) (acc := []) hy))
    rw [← hcl] at e'
    refine ⟨c', e', ?_⟩
    rw [hcl] at e'
    rcases cells_mem (PySem.mem_of_lookup e') with hm | ⟨h1, _, _⟩
    · exact (cm hm).1
    · have := ok.uniq _ h1
      rw [hl] at this; cases this
  have okB : (X.blk s H scope cenv fp).Ok := by
    refine ⟨I.ok.mod, by show cenv.scope.kind = _; rw [hsc]; exact ok.kind, by show cenv.globals = _; rw [← hcenv]; exact I.ok.glob, by show cenv.builtins = _; rw [← hcenv]; exact I.ok.blt, by show s.heap.objs.size ≤ cenv.locals; rw [hL]; exact Nat.le_refl _,
      fun y z c e1 e2 => ?_, fun y hy => ?_, fun y c z e => ?_, I.ok.hd, I.ok.frames, .inl rfl, fun b hb => ⟨?_, fun y c e z => ?_⟩, I.bs, Nat.le_trans I.ok.bsz I.sz, fun b o e hb => ?_, fun b hb z => ?_, I.stack, I.stkFree⟩
    · have e1 : cenv.cells.lookup y = some c := e1
      have e2 : cenv.cells.lookup z = some c := e2
      rw [hcl] at e1 e2
      refine cells_inj (fun p hp => ?_) (fun y z c a b => I.ok.inj y z c (cm a).1 (cm b).1) (PySem.mem_of_lookup e1) (PySem.mem_of_lookup e2)
      rw [Heap.size_push]
      exact Nat.lt_succ_of_lt (cm (y := p.1) (c := p.2) hp).2
    · show ∃ c, cenv.cells.lookup y = some c
      have key : ∀ k, cenv.kindOf y = some k → (k = .cell ∨ k = .free) → ∃ c, cenv.cells.lookup y = some c := fun k hk hk' => by
        unfold Env.kindOf at hk
        rw [hsc] at hk
        obtain ⟨k', e, r⟩ := lookup_relS hk
        have : k' = .cell ∨ k' = .free := by
          rcases r with rfl | ⟨rfl, _⟩
          · exact hk'
          · exact .inr rfl
        rcases this with rfl | rfl
        · obtain ⟨c, hm⟩ := cells_has (n := (s.heap.push { cls := .type "dict", data := .dict #[] }).objs.size) (acc := cloFrom X.env.cells scope.names []) (PySem.mem_of_lookup e)
          obtain ⟨c', e'⟩ := mem_lookup hm
          exact ⟨c', by rw [hcl]; exact e'⟩
        · obtain ⟨c, h1, _⟩ := look e
          exact ⟨c, h1⟩
      rcases hy with hy | hy
      · exact key _ hy (.inl rfl)
      · exact key _ hy (.inr rfl)
    · have z : (scope.names.lookup y == some NameKind.cell) = true := z
      have z : scope.names.lookup y = some .cell := by simpa using z
      have e : cenv.cells.lookup y = some c := e
      rw [hcl] at e
      rcases cells_mem (PySem.mem_of_lookup e) with hm | ⟨_, h2, _⟩
      · rcases cloFrom_mem hm with hm | ⟨h1, _⟩
        · cases hm
        · have q := ok.uniq _ h1
          rw [z] at q; cases q
      · rw [Heap.size_push] at h2
        exact Nat.le_of_succ_le h2
    · show b ≠ cenv.locals
      rw [hL]; exact Nat.ne_of_lt (hfp b hb).2
    · have e : cenv.cells.lookup y = some c := e
      rcases mem e with ⟨h1, _⟩ | ⟨h1, _⟩
      · exact (hfp b hb).1.2.2.2.2.1 y c h1 z
      · have h2 : s.heap.objs.size + 1 ≤ b := by rw [← z]; exact h1
        exact absurd (Nat.lt_of_lt_of_le (hfp b hb).2 (Nat.le_of_succ_le h2)) (Nat.lt_irrefl _)
    · rcases (hfp b hb).1.2.2.2.1 with z | z
      · exact I.ok.noex b o e z
      · exact absurd (Nat.lt_of_lt_of_le (Heap.lt_size e) (Nat.le_trans I.ok.bsz z)) (Nat.lt_irrefl _)
    · rcases List.mem_cons.mp (I.stkSub b z) with z | z
      · exact (hfp b hb).1.2.1 z
      · exact (hfp b hb).1.2.2.1 z
  refine ⟨okB, rfl, I.bare, Un.kept kp, ⟨fun _ => none, ?_, fun i y av e1 e2 e3 => ?_⟩, fun y c e => ?_, ?_, fun y c e => ?_, fun p hp => ?_, I.hok.kept kp, by rw [wipe_length]; exact I.len⟩
  · show Heap.Ns _ cenv.locals _
    rw [hL]
    exact Heap.Ns.keeps (Heap.Ns.new ..) fun b o e => pushCells_keeps _ _ _ _ e
  · obtain ⟨e2, hne⟩ := wipe_some e2
    have hfr : scope.names.lookup y = some .free ∧ (cenv.kindOf y = some .cell ∨ cenv.kindOf y = some .free) := by
      have key : ∀ k, cenv.scope.names.lookup y = some k → k = .local ∨ k = .cell ∨ k = .free → scope.names.lookup y = some .free ∧ (cenv.kindOf y = some .cell ∨ cenv.kindOf y = some .free) := fun k hk hk' => by
        have hk0 := hk
        rw [hsc] at hk
        obtain ⟨k', e, r⟩ := lookup_relS hk
        have no : ¬ (k' = .local ∨ k' = .cell) := fun hh => by
          rcases ok.own _ (PySem.mem_of_lookup e) hh with e' | e'
          · obtain ⟨p, hp, hpy⟩ := List.mem_map.mp e'
            have e3 := ok.ix p hp
            have : p.1 = y := hpy
            rw [this] at e3
            exact hne (List.mem_map.mpr ⟨p, hp, nodup_ix hN e3 e1⟩)
          · exact e' (List.mem_of_getElem? e1)
        rcases r with rfl | ⟨rfl, rfl⟩
        · rcases hk' with rfl | rfl | rfl
          · exact absurd (.inl rfl) no
          · exact absurd (.inr rfl) no
          · exact ⟨e, .inr hk0⟩
        · exact ⟨e, .inl hk0⟩
      have e3 : Vis cenv.scope y := e3
      rcases e3 with e3 | e3 | e3
      · exact key _ e3 (.inl rfl)
      · exact key _ e3 (.inr (.inl rfl))
      · exact key _ e3 (.inr (.inr rfl))
    obtain ⟨m, hn, hl⟩ := I.loc
    have hvis : Vis X.env.scope y := (ok.free _ (PySem.mem_of_lookup hfr.1) rfl).elim (fun k => .inr (.inl k)) (fun k => .inr (.inr k))
    obtain ⟨w, r, q⟩ := hl i y av e1 e2 hvis
    refine ⟨w, r, .inr ⟨hfr.2, ?_⟩⟩
    obtain ⟨c, h1, h2⟩ := look hfr.1
    rcases q with ⟨k, _⟩ | ⟨_, c', e', z⟩
    · have k : X.env.scope.names.lookup y = some .local := k
      rcases ok.free _ (PySem.mem_of_lookup hfr.1) rfl with k' | k' <;> rw [show X.env.scope.names.lookup y = _ from k'] at k <;> cases k
    · rw [h2] at e'; cases e'
      exact ⟨c, h1, z.keeps kp⟩
  · have e : cenv.cells.lookup y = some c := e
    rcases mem e with ⟨h1, _⟩ | ⟨_, z⟩
    · obtain ⟨w, z⟩ := I.cell y c h1
      exact ⟨w, z.keeps kp⟩
    · exact ⟨_, z⟩
  · show H cenv.locals = none
    rw [hL]; exact I.hok.fresh (Nat.le_refl _)
  · have e : cenv.cells.lookup y = some c := e
    rcases mem e with ⟨h1, _⟩ | ⟨h1, _⟩
    · exact I.freeC y c h1
    · exact I.hok.fresh (Nat.le_of_succ_le h1)
  · exact absurd (show p ∈ ([] : List (Addr × Obj)) ++ [] from hp) (by simp)

/-- an item appended to a tracked list -/
theorem app_ok {E : Value → Shared → Prop} {D : Addr} {xs : List V} {y : V} {v : Value} {Q : Value → Shared → Prop} (I : Inv X pins σ H s) (hD : H D = some (.lst xs)) (hz : xs.length < sizeLine) (r : RelV y v)
    (h : ∀ s', Inv X pins σ (upd H D (.lst (xs ++ [y]))) s' → Q .none s') : wpAny (model X.prog X.w) X.A (call (.builtin "list.append") [.ref D, v]) Q E s := by
  obtain ⟨hz', its, n, ri, e⟩ := I.hok D _ hD
  have hl := ri.length
  refine append_at (hsz := by rw [List.size_toArray]; omega) e fun h' sb ho' => ?_
  refine h { s with heap := h' } (I.write (t' := s.toks) (by rw [hD]; trivial) (.inl rfl) (fun b u hb q => (sb.2 b hb).trans q) ⟨_, ho'⟩ ⟨by rw [List.length_append]; exact hz, its ++ [v], n + 1, ri.append (.cons r .nil), ?_⟩)
  rw [ho']
  simp

/-- a clause's tests -/
def PTs (X : Cx) (ifs : List Expr) (t : TT) : Prop :=
  ∀ (pins : List (Addr × Obj)) (s : Shared) (σ : St) (H : Hp) (Q : Bool → Hp → Prop), Inv X pins σ H s → t σ H Q →
    wpAny (model X.prog X.w) X.A (forIn ifs true fun c r => if r = true then do let ok ← isTrue c X.env (eval c X.env); pure (ForInStep.yield ok) else pure (ForInStep.yield r)) (TP X pins σ Q) X.xe s
def tYes : TT := fun _ H Q => Q true H
theorem pts_nil : PTs X [] tYes := fun _ _ _ H _ I h => wpAny_tests_nil ⟨H, I, h⟩
end

theorem thnF {α : Type} {t : Sem α} {Q Q' : α → Shared → Prop} {M : Model} {A : Around} {E : Value → Shared → Prop} {s : Shared} (h : wpAny M A t Q (fun _ _ => False) s) (hQ : ∀ a s, Q a s → Q' a s) : wpAny M A t Q' E s := wpAny_mono h hQ fun _ _ z => False.elim z

/-- the loop of a list comprehension's block, the target of any form (codeAny_compLoop_tests asks a target that no tuple goes to; statement and proof follow it, PyProof/CompMap.lean:41-61, with the step letOwnedTupleGo kept) -/
theorem compLoop_any {prog : Program} {w : World} {A : Around} {R : Result → Shared → Prop} {s : Shared} {elt target iter : Expr} {ifs : List Expr} {scope : Scope} {pos : Pos} {it acc : Value} {env : Env} (I : Nat → Shared → Prop)
    (turn : ∀ n s, I n s → wpAny (model prog w) A (pyNext it) (fun r s₁ => match r with
      | none => R (.ok .next) s₁
      | some v => wpAny (model prog w) A (letOwnedTupleGo target it v) (fun _ s₁' => wpAny (model prog w) A (assign target env v) (fun _ s₂ =>
          wpAny (model prog w) A (forIn ifs true fun c r => if r = true then do let ok ← isTrue c env (eval c env); pure (ForInStep.yield ok) else pure (ForInStep.yield r)) (fun ok s₃ =>
            if ok = true then wpAny (model prog w) A (eval elt env) (fun x s₄ =>
              wpAny (model prog w) A (call (.builtin "list.append") [acc, x]) (fun _ s₅ => ∃ m, m < n ∧ I m s₅) (notedBy (model prog w) A env fun e s' => R (.error e) s') s₄) (notedBy (model prog w) A env fun e s' => R (.error e) s') s₃
            else ∃ m, m < n ∧ I m s₃) (notedBy (model prog w) A env fun e s' => R (.error e) s') s₂) (notedBy (model prog w) A env fun e s' => R (.error e) s') s₁') (notedBy (model prog w) A env fun e s' => R (.error e) s') s₁) (notedBy (model prog w) A env fun e s' => R (.error e) s') s)
    (n : Nat) (h : I n s) :
    codeAny (model prog w) A (.compLoop (.ListComp elt [⟨target, iter, ifs, 0⟩] scope pos) 0 it acc env) R s := by
  refine codeAny_loop rfl I (fun n s hI => ?_) n h
  show wpAny _ A ((compTurn (.ListComp elt [⟨target, iter, ifs, 0⟩] scope pos) 0 it acc env).onRaise (fun x => do noteFrame x env; theTreesLotGoes x)) _ _ s
  refine wpAny_noted ?_
  rw [compTurn_list]
  refine wpAny_bind (wpAny_standAt (wpAny_bind (wpAny_mono (turn n s hI) (fun r s₁ h₁ => ?_) fun _ _ h' => h')))
  cases r with
  | none => exact wpAny_pure h₁
  | some v =>
    refine wpAny_bind (wpAny_mono h₁ (fun _ s₁' h₁' => ?_) fun _ _ h' => h')
    refine wpAny_bind (wpAny_mono h₁' (fun _ s₂ h₂ => wpAny_bind (wpAny_mono h₂ (fun ok s₃ h₃ => ?_) fun _ _ h' => h')) fun _ _ h' => h')
    cases ok with
    | false => exact wpAny_pure ⟨rfl, h₃⟩
    | true =>
      exact wpAny_bind (wpAny_bind (wpAny_mono h₃ (fun x s₄ h₄ => wpAny_bind (wpAny_mono h₄ (fun _ s₅ h₅ => wpAny_pure (wpAny_pure ⟨rfl, h₅⟩)) fun _ _ h' => h')) fun _ _ h' => h'))

section
variable {X : Cx}
/-- [elt for target in iter if ..]: D the new list; W by the turn and a measure, Nx what a turn is to reach -/
def tLc (wi : TI) (g : TG) (tt : TT) (te : TE) (vs : List Nat) : TE := fun σ H Q => wi σ H fun J H1 => ∀ D, H1 D = none → ∃ W : Nat → Nat → Hp → Prop, (∃ m, W 0 m (upd H1 D (.lst []))) ∧ ∀ i m H, W i m H →
  (J.stop i H ∧ Q (.ref D) H) ∨ (J.go i H ∧ ∃ Nx : Hp → Prop, (∀ H', Nx H' → ∃ m', m' < m ∧ W (i + 1) m' H') ∧ ∀ x H', J.yld i H x H' → g x (wipe σ vs) H' fun σ2 H2 => wipe σ2 vs = wipe σ vs ∧ tt σ2 H2 fun b H3 =>
    if b = true then te σ2 H3 fun y H4 => ∃ acc, H4 D = some (.lst acc) ∧ acc.length < sizeLine ∧ Nx (upd H4 D (.lst (acc ++ [y]))) else Nx H3)
theorem lc_core {pins : List (Addr × Obj)} {s : Shared} {σ : St} {H : Hp} {Q : VK} {elt tg iter : Expr} {ifs : List Expr} {scope : Scope} {own : List (Str × Nat)} {pos pos' : Pos} {wi : TI} {g : TG} {tt : TT} {te : TE} {use : Option (Value → Sem Unit)} {Qf : Value → Shared → Prop}
    (hc : X.calm = true) (hN : X.N.Nodup) (I : Inv X pins σ H s) (hi : PI X tg iter wi) (ok : BlkOk X.N X.env.scope scope own)
    (hg : ∀ (s : Shared) (H : Hp) (C : Addr) (cl : List (Str × Addr)) (fp : List Addr), PG (X.blk s H scope (compEnvC scope cl C X.env) fp) tg g) (ht : ∀ (s : Shared) (H : Hp) (C : Addr) (cl : List (Str × Addr)) (fp : List Addr), PTs (X.blk s H scope (compEnvC scope cl C X.env) fp) ifs tt)
    (he : ∀ (s : Shared) (H : Hp) (C : Addr) (cl : List (Str × Addr)) (fp : List Addr), PE (X.blk s H scope (compEnvC scope cl C X.env) fp) elt te) (hs : ∀ x, foldedSetIterable iter X.env x = pure x)
    (h : tLc wi g tt te (own.map (·.2)) σ H Q)
    (hRR : ∀ D C s' m H', Inv X pins σ H' s' → Q (.ref D) H' → s'.heap.Ns C m → FpOk X pins H' C → compPost (model X.prog X.w) X.A X.xe use Qf (.ref D) C (.ok .next) s') :
    wpAny (model X.prog X.w) X.A (comprehension (.ListComp elt [⟨tg, iter, ifs, 0⟩] scope pos) scope X.env pos' (newList []) false (eval iter X.env) use) Qf X.xe s := by
  have hfree : ∀ y ∈ scope.names, y.2 = .free → ∃ c, X.env.cells.lookup y.1 = some c := fun y hy e => by
    rcases ok.free y hy e with k | k
    · exact I.ok.has _ (.inl k)
    · exact I.ok.has _ (.inr k)
  refine wpAny_comprehension_free (use := use) rfl hs (closure_ok hfree) ok.kind (fun y hy e => by rw [ok.uniq y hy, e])
    (thn (hi pins s σ H _ I h) fun xv s1 hx => thn hx fun itv s2 h2 => ?_)
  obtain ⟨it, fp, tn, J, H2, e, I2, T, st2, f2, q⟩ := h2
  subst e
  refine wpAny_newObj_type (newEnv_comp ?_) (by show 0 ≤ sizeLine; decide)
  generalize hD : s2.heap.objs.size = D
  have hDn : H2 D = none := I2.hok.fresh (Nat.le_of_eq hD)
  obtain ⟨W, ⟨m0, w0⟩, turn⟩ := q D hDn
  -- the new list
  generalize hs3 : ({ s2 with heap := s2.heap.push { cls := .type "list", data := .seq ([] : List Value).toArray } } : Shared) = s3
  have I3 : Inv X pins σ (upd H2 D (.lst [])) s3 := by
    rw [← hs3]
    refine I2.laid (t' := s2.toks) (fun b o e => Heap.get?_push_of_some _ e) (Nat.le_of_eq hD) ⟨Nat.zero_le _, [], 0, .nil, ?_⟩
    rw [← hD]
    exact Heap.get?_push_size _ rfl
  have h3 : s3.heap = s2.heap.push { cls := .type "list", data := .seq ([] : List Value).toArray } := by rw [← hs3]
  have sz : ∀ b ∈ fp, b < s2.heap.objs.size := fun b hb => by
    obtain ⟨o, e, _⟩ := T.obj _ _ st2 b hb
    exact Heap.lt_size e
  have f3 : ∀ b ∈ fp, FpOk X pins (upd H2 D (.lst [])) b ∧ b < s3.heap.objs.size := fun b hb => by
    have hlt := sz b hb
    refine ⟨⟨?_, (f2 b hb).2⟩, by rw [h3, Heap.size_push]; exact Nat.lt_succ_of_lt hlt⟩
    rw [upd_ne (by rw [← hD]; exact Nat.ne_of_lt hlt)]
    exact (f2 b hb).1
  have st3 : tn 0 s3.heap := T.keep _ _ _ st2 fun b _ o e => by rw [h3]; exact Heap.get?_push_of_some _ e
  have I4 := block_start I3 ok hN f3
  have pg := hg s3 (upd H2 D (.lst [])) s3.heap.objs.size (cellsFrom (s3.heap.objs.size + 1) scope.names (cloFrom X.env.cells scope.names [])) fp
  have pt := ht s3 (upd H2 D (.lst [])) s3.heap.objs.size (cellsFrom (s3.heap.objs.size + 1) scope.names (cloFrom X.env.cells scope.names [])) fp
  have pe := he s3 (upd H2 D (.lst [])) s3.heap.objs.size (cellsFrom (s3.heap.objs.size + 1) scope.names (cloFrom X.env.cells scope.names [])) fp
  show codeAny _ _ (.compStart (.ListComp elt [⟨tg, iter, ifs, 0⟩] scope pos) 0 (.ref it) (.ref D) (compEnvC scope (cellsFrom (s3.heap.objs.size + 1) scope.names (cloFrom X.env.cells scope.names [])) s3.heap.objs.size X.env)) (compPost (model X.prog X.w) X.A X.xe use Qf (.ref D) s3.heap.objs.size) { s3 with heap := pushCells (s3.heap.push { cls := .type "dict", data := .dict #[] }) scope.names }
  have nfp : ∀ b ∈ fp, (upd H2 D (.lst [])) b = none := fun b hb => (f3 b hb).1.1
  generalize hce : compEnvC scope (cellsFrom (s3.heap.objs.size + 1) scope.names (cloFrom X.env.cells scope.names [])) s3.heap.objs.size X.env = ce at I4 pg pt pe ⊢
  have cL : ce.locals = s3.heap.objs.size := by subst hce; rfl
  generalize hH3 : upd H2 D (.lst []) = H3 at I3 I4 pg pt pe w0 nfp f3
  generalize hs4 : ({ s3 with heap := pushCells (s3.heap.push { cls := .type "dict", data := .dict #[] }) scope.names } : Shared) = s4 at I4 ⊢
  have st4 : tn 0 s4.heap := T.keep _ _ _ st3 fun b _ o e => by rw [← hs4]; exact pushCells_keeps _ _ _ _ (Heap.get?_push_of_some _ e)
  have stat : ∀ {σ' : St} {H' : Hp} {s' : Shared}, Inv (X.blk s3 H3 scope ce fp) [] σ' H' s' → (∀ b ∈ fp, H' b = none) → ∀ b ∈ fp, FpOk (X.blk s3 H3 scope ce fp) [] H' b := fun {σ' H' s'} I' hn b hb =>
    ⟨hn b hb, (I'.ok.exf b hb).1, I'.ok.exfs b hb, .inl hb, fun x c e => (I'.ok.exf b hb).2 x c e, fun p hp => absurd (show p ∈ ([] : List (Addr × Obj)) ++ [] from hp) (by simp)⟩
  have loop : codeAny (model X.prog X.w) X.A (.compLoop (.ListComp elt [⟨tg, iter, ifs, 0⟩] scope pos) 0 (.ref it) (.ref D) ce) (compPost (model X.prog X.w) X.A X.xe use Qf (.ref D) s3.heap.objs.size) s4 := by
    refine compLoop_any (fun n s' => ∃ i H', Inv (X.blk s3 H3 scope ce fp) [] (wipe σ (own.map (·.2))) H' s' ∧ tn i s'.heap ∧ (∀ b ∈ fp, H' b = none) ∧ W i n H') ?_ m0 ⟨0, H3, I4, st4, nfp, w0⟩
    rintro n s5 ⟨i, H5, I5, st5, n5, w5⟩
    rcases turn i n H5 w5 with ⟨stop, qq⟩ | ⟨go, Nx, hNx, step⟩
    · have td := T.done (X.blk s3 H3 scope ce fp) rfl rfl rfl hc i [] s5 _ H5 (fun _ _ => False) I5 (stat I5 n5) st5 stop
      refine thnF td fun r s6 ⟨hr, I6⟩ => ?_
      subst hr
      -- back in the def's context
      have I7 : Inv X pins σ H5 s6 := I3.call' (ch := fp) I6.os I6.base I6.hok I6.bare fun b hb => ⟨(f3 b hb).1.2.2.2.1, (f3 b hb).1.2.1, (f3 b hb).1.2.2.2.2.1, (f3 b hb).1.2.2.2.2.2⟩
      have nC : H5 s3.heap.objs.size = none := by
        have z : H5 ce.locals = none := I6.free
        rw [cL] at z
        exact z
      obtain ⟨m, hn, _⟩ := I6.loc
      have hn : s6.heap.Ns ce.locals m := hn
      rw [cL] at hn
      exact hRR D s3.heap.objs.size s6 m H5 I7 qq hn (I3.fpOk (Nat.le_refl _) nC)
    · have ti := T.item (X.blk s3 H3 scope ce fp) rfl rfl rfl hc i [] s5 _ H5 (fun _ _ => False) I5 (stat I5 n5) st5 go
      refine thnF ti fun r s6 ⟨u, hr, h6⟩ => ?_
      subst hr
      refine thnF h6 fun _ s7 ⟨x, H7, I7, r7, y7, st7, n7⟩ => ?_
      have I7' := I7.pinned (stat I7 n7) (T.obj _ _ st7)
      refine thnF (pg _ s7 _ H7 x u _ I7' r7 (step x H7 y7)) fun _ s8 ⟨σ8, H8, I8, hw8, q8⟩ => ?_
      refine thnF (pt _ s8 σ8 H8 _ I8 q8) fun b s9 ⟨H9, I9, q9⟩ => ?_
      -- the turn's end
      have fin : ∀ {s' : Shared} {H' : Hp}, Inv (X.blk s3 H3 scope ce fp) ([] ++ pinsAt fp s7.heap) σ8 H' s' → Nx H' → ∃ m, m < n ∧ ∃ i H', Inv (X.blk s3 H3 scope ce fp) [] (wipe σ (own.map (·.2))) H' s' ∧ tn i s'.heap ∧ (∀ b ∈ fp, H' b = none) ∧ W i m H' := fun {s' H'} I' nx => by
        obtain ⟨m', hm, w'⟩ := hNx H' nx
        have pin' : ∀ b ∈ fp, ∀ o, s7.heap.get? b = some o → s'.heap.get? b = some o ∧ H' b = none := fun b hb o e =>
          let z := I'.pin (b, o) (List.mem_append_right _ (List.mem_append_right _ (mem_pinsAt hb e)))
          ⟨z.1, z.2.1⟩
        have hl : (wipe σ (own.map (·.2))).length = σ8.length := by rw [← hw8, wipe_length]
        refine ⟨m', hm, i + 1, H', (I'.unpinned (pins := [])).weak hl (fun j v e => ?_), T.keep _ _ _ st7 fun b hb o e => (pin' b hb o e).1, fun b hb => ?_, w'⟩
        · rw [← hw8] at e
          exact (wipe_some e).1
        · obtain ⟨o, e, _⟩ := T.obj _ _ st7 b hb
          exact (pin' b hb o e).2
      cases b with
      | false =>
        simp only [Bool.false_eq_true, if_false] at q9 ⊢
        exact fin I9 q9
      | true =>
        simp only [if_true] at q9 ⊢
        refine thnF (pe _ s9 σ8 H9 _ I9 q9) fun z s10 ⟨yv, H10, I10, r10, acc, hD10, hz10, nx⟩ => ?_
        exact app_ok (X := X.blk s3 H3 scope ce fp) I10 hD10 hz10 r10 fun s11 I11 => fin I11 nx
  exact codeAny_compStart_list loop (T.self X.A 0 _ _ _ st4 loop)
/-- as a value -/
theorem pe_lc {elt tg iter : Expr} {ifs : List Expr} {scope : Scope} {own : List (Str × Nat)} {pos : Pos} {wi : TI} {g : TG} {tt : TT} {te : TE} (hc : X.calm = true) (hN : X.N.Nodup) (hi : PI X tg iter wi) (ok : BlkOk X.N X.env.scope scope own)
    (hg : ∀ (s : Shared) (H : Hp) (C : Addr) (cl : List (Str × Addr)) (fp : List Addr), PG (X.blk s H scope (compEnvC scope cl C X.env) fp) tg g) (ht : ∀ (s : Shared) (H : Hp) (C : Addr) (cl : List (Str × Addr)) (fp : List Addr), PTs (X.blk s H scope (compEnvC scope cl C X.env) fp) ifs tt)
    (he : ∀ (s : Shared) (H : Hp) (C : Addr) (cl : List (Str × Addr)) (fp : List Addr), PE (X.blk s H scope (compEnvC scope cl C X.env) fp) elt te) (hs : ∀ x, foldedSetIterable iter X.env x = pure x := by intro _; rfl) :
    PE X (.ListComp elt [⟨tg, iter, ifs, 0⟩] scope pos) (tLc wi g tt te (own.map (·.2))) := by
  intro pins s σ H Q I h
  rw [eval_ListComp]
  refine lc_core hc hN I hi ok hg ht he hs h fun D C s' m H' I' q hn f => ⟨m, hn, fun h'' sb => ?_⟩
  obtain ⟨f0, f1, f2, f3, f4, f5⟩ := f
  exact ⟨.ref D, H', I'.turned (t' := s'.toks) (fun b o hb e => (sb.2 b hb).trans e) f0 f1 f3 f4 f5, rfl, q⟩
end

/-! ### the forms one uses -/
/-- over a range: Pv by the turn and the heap (the new list at D within) -/
theorem lc_range {lo : Int} {n : Nat} {g : TG} {tt : TT} {te : TE} {vs : List Nat} {σ : St} {H1 : Hp} {D : Addr} {Qd : Hp → Prop} (Pv : Nat → Hp → Prop) (h0 : Pv 0 (upd H1 D (.lst [])))
    (hs : ∀ i H, i < n → Pv i H → g (.int (lo + i)) (wipe σ vs) H fun σ2 H2 => wipe σ2 vs = wipe σ vs ∧ tt σ2 H2 fun b H3 =>
      if b = true then te σ2 H3 fun y H4 => ∃ acc, H4 D = some (.lst acc) ∧ acc.length < sizeLine ∧ Pv (i + 1) (upd H4 D (.lst (acc ++ [y]))) else Pv (i + 1) H3) (hd : ∀ H, Pv n H → Qd H) :
    ∃ W : Nat → Nat → Hp → Prop, (∃ m, W 0 m (upd H1 D (.lst []))) ∧ ∀ i m H, W i m H →
      ((Itr lo n).stop i H ∧ Qd H) ∨ ((Itr lo n).go i H ∧ ∃ Nx : Hp → Prop, (∀ H', Nx H' → ∃ m', m' < m ∧ W (i + 1) m' H') ∧ ∀ x H', (Itr lo n).yld i H x H' → g x (wipe σ vs) H' fun σ2 H2 => wipe σ2 vs = wipe σ vs ∧ tt σ2 H2 fun b H3 =>
        if b = true then te σ2 H3 fun y H4 => ∃ acc, H4 D = some (.lst acc) ∧ acc.length < sizeLine ∧ Nx (upd H4 D (.lst (acc ++ [y]))) else Nx H3) := by
  refine ⟨fun i m H => m = n - i ∧ i ≤ n ∧ Pv i H, ⟨n, by simp, Nat.zero_le _, h0⟩, ?_⟩
  rintro i m H ⟨rfl, hi, p⟩
  by_cases hlt : i < n
  · refine .inr ⟨hlt, Pv (i + 1), fun H' p' => ⟨n - (i + 1), by omega, rfl, hlt, p'⟩, fun x H' y => ?_⟩
    obtain ⟨e, y⟩ := y
    subst e y
    exact hs i _ hlt p
  · have e : i = n := by omega
    subst e
    exact .inl ⟨Nat.le_refl _, hd H p⟩
def blkC (N : List Str) (sc scope : Scope) (own : List (Str × Nat)) : Bool :=
  (match scope.kind with | .function => true | _ => false) && (scope.names.all fun y => decide (scope.names.lookup y.1 = some y.2)) && (own.all fun p => decide (N[p.2]? = some p.1)) &&
    (scope.names.all fun y => match y.2 with
      | .free => (match sc.names.lookup y.1 with | some .cell => true | some .free => true | _ => false)
      | .local => decide (y.1 ∈ own.map (·.1)) || decide (y.1 ∉ N)
      | .cell => decide (y.1 ∈ own.map (·.1)) || decide (y.1 ∉ N)
      | _ => true)
theorem blkOk_by {N : List Str} {sc scope : Scope} {own : List (Str × Nat)} (h : blkC N sc scope own = true) : BlkOk N sc scope own := by
  unfold blkC at h
  simp only [Bool.and_eq_true, List.all_eq_true, decide_eq_true_eq] at h
  obtain ⟨⟨⟨h1, h2⟩, h3⟩, h4⟩ := h
  refine ⟨?_, h2, h3, fun y hy e => ?_, fun y hy e => ?_⟩
  · split at h1
    · assumption
    · cases h1
  · have q := h4 y hy
    simp only [e] at q
    split at q <;> first | exact .inl (by assumption) | exact .inr (by assumption) | cases q
  · have q := h4 y hy
    rcases e with e | e <;> (simp only [e, Bool.or_eq_true, decide_eq_true_eq] at q; exact q)
end L2

namespace L2
open PySem PySem.Spec PyProof.Rows

section
variable {prog : Program} {w : World} {A : Around} {R : Result → Shared → Prop} {s : Shared} {elt t0 i0 t1 i1 : Expr} {ifs0 ifs1 : List Expr} {scope : Scope} {pos : Pos} {it acc : Value} {env : Env}
end

section
variable {X : Cx}
end
end L2

namespace L2
open PySem PySem.Spec PyProof.Rows

/-! ### lists of pairs as tables -/
section
variable {κ : Type} [DecidableEq κ]
def valV (kvs : List (κ × V)) (k : κ) : Option V := (kvs.find? fun kv => decide (kv.1 = k)).map (·.2)
theorem valV_pos {p : κ × V} {r : List (κ × V)} {k : κ} (e : p.1 = k) : valV (p :: r) k = some p.2 := by simp [valV, List.find?_cons, e]
theorem valV_neg {p : κ × V} {r : List (κ × V)} {k : κ} (e : ¬ p.1 = k) : valV (p :: r) k = valV r k := by simp [valV, List.find?_cons, e]
theorem RelO.isSome_eq {o : Option V} {u : Option Value} (r : RelO o u) : o.isSome = u.isSome := by
  cases o with
  | none => cases u with
    | none => rfl
    | some _ => exact (show False from r).elim
  | some _ => cases u with
    | none => exact (show False from r).elim
    | some _ => rfl
/-- raw tables of the same keys -/
theorem KV.val {kvs : List (κ × V)} {vs : List (κ × Value)} (r : KV kvs vs) (k : κ) : RelO (valV kvs k) (valueAt vs k) := by
  unfold KV at r
  induction r with
  | nil => exact True.intro
  | @cons p q ps qs h t ih =>
    obtain ⟨h1, h2⟩ := h
    by_cases e : p.1 = k
    · have e' : q.1 = k := h1.symm.trans e
      have b : valueAt (q :: qs) k = some q.2 := by simp [valueAt, List.find?_cons, e']
      rw [valV_pos e, b]; exact h2
    · have e' : ¬ q.1 = k := fun z => e (h1.trans z)
      have b : valueAt (q :: qs) k = valueAt qs k := by simp [valueAt, List.find?_cons, e']
      rw [valV_neg e, b]; exact ih
end


/-! ### a tracked dict, its keys ints and texts or tuples of these -/
theorem kV_is {P : Program} {w : World} {k : Key} {u : Value} (r : RelV (kV k) u) : (mixKind P w).is k u = true := by
  cases k with
  | inl i => obtain ⟨t, e⟩ := (show ∃ t, u = Value.int i t from r); subst e; exact mixKind_int P w i t
  | inr x => obtain ⟨t, e⟩ := (show ∃ t, u = Value.str x t from r); subst e; exact mixKind_str P w x t
section
variable {P : Program} {w : World} {H : Hp} {h : Heap} {a : Addr}
end

section
variable {X : Cx} {pins : List (Addr × Obj)} {σ : St} {H : Hp} {s : Shared} {a : Addr} {y v : V} {u r : Value} {o : Option V} {A : Around} {E : Value → Shared → Prop}

end

section
variable {X : Cx} {pins : List (Addr × Obj)} {σ : St} {H : Hp} {s : Shared} {a : Addr} {kvs : List (Key × V)} {k : Key} {u : Value} {A : Around} {E : Value → Shared → Prop}
end


/-! ### readings and rules -/
/-- the element of a subscription, not a slice -/
def NoSl (i : Expr) : Prop := ∀ ov iv, subscripted i false ov iv = operate [ov, iv] (getItem ov iv)
theorem subD_of {prog : Program} {w : World} {A : Around} {E : Value → Shared → Prop} {s : Shared} {env : Env} {value slice : Expr} {pos : Pos} {T id : String} {Q : Value → Shared → Prop}
    (hl : typeLookup (.type T) "__getitem__" = pure (some (.builtin id))) (hs : NoSl slice)
    (h : wpAny (model prog w) A (eval value env) (fun o s₁ => wpAny (model prog w) A (eval slice env) (fun i s₂ => s₂.TypeIs o T ∧ wpAny (model prog w) A (getItem o i) Q E s₂) E s₁) E s) :
    wpAny (model prog w) A (eval (.Subscript value slice pos) env) Q E s := by
  refine Subscript_ (wpAny_mono h (fun o s₁ h₁ => wpAny_mono h₁ (fun i s₂ h₂ => ?_) fun _ _ x => x) fun _ _ x => x)
  obtain ⟨hT, h₂⟩ := h₂
  unfold subscriptTail
  refine wpAny_bind ?_
  rw [getitemInPython_of_ne hT.not_modules]
  refine wpAny_bind (wpAny_specialOf hT hl ?_)
  have fin : wpAny (model prog w) A (subscripted slice false o i) (fun r s₃ => wpAny (model prog w) A (letTemporaryGo value o r >>= fun _ => pure r) Q E s₃) E s₂ := by
    rw [hs o i]
    exact wpAny_operating (wpAny_mono h₂ (fun r s₃ h₃ => wpAny_bind (wpAny_letTemporaryGo (wpAny_pure h₃))) fun _ _ x => x)
  first
    | exact wpAny_pure (wpAny_bind fin)
    | exact wpAny_bind (wpAny_pure (wpAny_bind fin))
    | exact wpAny_bind fin

section
variable {X : Cx} {o i e value : Expr} {pos pos' tpos : Pos} {td ty tv : TE}
end


/-! ### displays -/
section
variable {X : Cx} {pos : Pos}
end

/-! ### methods -/
/-- a method call o.m(e) of a built-in, with one argument: what must be seen of the text -/
structure M1 (X : Cx) (o : Expr) (m : Str) (apos : Pos) (e : Expr) (cpos : Pos) : Prop where
  base : attributeBase o m X.env (eval o X.env) = eval o X.env
  few : ((backTo cpos (starEach [e] X.env)).all (fun x => !x.1) && (backToKw cpos (keywordEach [] X.env)).all (fun x => x.1.isSome)
    && decide (([e] : List Expr).length + ([] : List Keyword).length + (if ([] : List Keyword).isEmpty then 0 else 1) < 30)) = true
  line : (apos.endLine == cpos.line) = true
  trees : backTo cpos (starEach [e] X.env) = [(false, eval e X.env)]
structure M2 (X : Cx) (o : Expr) (m : Str) (apos : Pos) (e f : Expr) (cpos : Pos) : Prop where
  base : attributeBase o m X.env (eval o X.env) = eval o X.env
  few : ((backTo cpos (starEach [e, f] X.env)).all (fun x => !x.1) && (backToKw cpos (keywordEach [] X.env)).all (fun x => x.1.isSome)
    && decide (([e, f] : List Expr).length + ([] : List Keyword).length + (if ([] : List Keyword).isEmpty then 0 else 1) < 30)) = true
  line : (apos.endLine == cpos.line) = true
  trees : backTo cpos (starEach [e, f] X.env) = [(false, eval e X.env), (false, eval f X.env)]

section
variable {X : Cx} {pins : List (Addr × Obj)} {σ : St} {H : Hp} {s : Shared} {a : Addr} {y d : V} {u r : Value} {o : Option V} {A : Around} {E : Value → Shared → Prop}
end

section
variable {X : Cx} {o e f : Expr} {apos cpos : Pos} {td ty tx : TE}
end

/-! ### dict(d): a copy -/
section
variable {X : Cx} {pins : List (Addr × Obj)} {σ : St} {H : Hp} {s : Shared} {a : Addr} {kvs : List (Key × V)} {A : Around} {E : Value → Shared → Prop}
end


section
variable {X : Cx} {pins : List (Addr × Obj)} {σ : St} {H : Hp} {s : Shared} {a : Addr} {y : V} {u : Value} {A : Around} {E : Value → Shared → Prop}
end
end L2

namespace L2
open PySem PySem.Spec PyProof.Rows

section
variable {prog : Program} {w : World} {A : Around} {E : Value → Shared → Prop}
end

section
variable {X : Cx}
end
end L2

namespace L2
open PySem PySem.Spec PyProof.Rows

theorem boot_reversed5 : bootBuiltins "reversed" = some (.type "reversed") := by decide +kernel

section
variable {X : Cx} {pins : List (Addr × Obj)} {σ : St} {H : Hp} {s : Shared} {h' : Heap}
/-! ### locking a thing while a statement runs -/
end
section
variable {X : Cx}
/-! ### one iterator just laid -/
theorem pi_one {tg : Expr} {pins : List (Addr × Obj)} {σ : St} {H : Hp} {s : Shared} {R : It → Hp → Prop} {J : It} {tn : Nat → Heap → Prop} {tk : Nat} (I : Inv X pins σ H s) (o : Obj)
    (T : Turn X.prog X.w X.K tg J [s.heap.objs.size] s.heap.objs.size tn) (st : tn 0 (s.heap.push o)) (q : R J H) : PIE X pins σ tg R (.ref s.heap.objs.size) { s with heap := s.heap.push o, toks := tk } := by
  refine ⟨s.heap.objs.size, [s.heap.objs.size], tn, J, H, rfl, I.kept fun b ob e => Heap.get?_push_of_some _ e, T, st, fun b hb => ?_, q⟩
  have e : b = s.heap.objs.size := by simpa using hb
  subst e
  exact I.fpOk (Nat.le_refl _) (I.hok.fresh (Nat.le_refl _))
end

/-! ### range with a step -/
/-- lo, lo + c, .. (n of them) -/
def Itc (lo c : Int) (n : Nat) : It := ⟨fun i _ => i < n, fun i H x H' => H' = H ∧ x = .int (lo + (i : Nat) * c), fun i _ => n ≤ i⟩
theorem turn_rangeC {P : Program} {w : World} {K : PySem.W.Frag} {tg : Expr} (it : Addr) (lo c : Int) (n : Nat) : Turn P w K tg (Itc lo c n) [it] it (fun i h => IsRangeIter h it (lo + (i : Nat) * c) ((n : Int) - (i : Nat)) c) where
  mem := by simp
  obj := fun i h st b hb => by
    have e : b = it := by simpa using hb
    subst e
    exact ⟨_, st, fun v z => nomatch z⟩
  keep := fun i h h' st k => k it (by simp) _ st
  item := by
    intro X hP hw hK hc i pins s σ H E I hf st hg
    subst hP hw hK
    obtain ⟨f0, f1, f2, f3, f4, f5⟩ := hf it (by simp)
    have W := Walks.range (prog := X.prog) (w := X.w) (I.ok.hd hc) it lo c n
    refine W.item i s _ _ hg st fun v h' tk hv st' kk => ?_
    obtain ⟨t, rfl⟩ := hv
    have I1 : Inv X pins σ H { s with heap := h', toks := tk } := I.turned (fun b o hb e => kk b o (by simpa using hb) e) f0 f1 f3 f4 f5
    exact ⟨_, rfl, go_of (s := { s with heap := h', toks := tk }) (n := "range_iterator") st' rfl rfl (by decide) ⟨.int (lo + (i : Nat) * c), H, I1, ⟨t, rfl⟩, ⟨rfl, rfl⟩, st', fun b hb => (hf b hb).1⟩⟩
  done := by
    intro X hP hw hK hc i pins s σ H E I hf st hg
    subst hP hw hK
    obtain ⟨f0, f1, f2, f3, f4, f5⟩ := hf it (by simp)
    exact wpAny_pyNext_range_end (I.ok.hd hc) st (by have : n ≤ i := hg; omega) fun h' eb => ⟨rfl, I.turned (t' := s.toks) (fun b o hb e => eb b o hb e) f0 f1 f3 f4 f5⟩
  self := fun A i s Q E st h => wpAny_pyIter_rangeiter st h
/-- range(i, j, c): small bounds, n items -/
def RgC (i j c : Int) (n : Nat) : Prop := c ≠ 0 ∧ c.natAbs < 1073741824 ∧ Builtin.Range.small i j c = true ∧ Builtin.Range.rangeSize i j c = n
def iRng3 (ta : TA) : TI := fun σ H R => ta σ H fun vs H1 => ∃ (i j c : Int) (n : Nat), vs = [.int i, .int j, .int c] ∧ RgC i j c n ∧ R (Itc i c n) H1
section
variable {X : Cx} {tg : Expr}
theorem pi_range3 {a b c : Expr} {ta : TA} {p pos : Pos} (hg : Gl X "range") (hm : X.mg "range" = none) (ha : PA X [a, b, c] ta)
    (hs : starEach [a, b, c] X.env = (false, eval a X.env) :: starEach [b, c] X.env := by rfl) (hpl : (backTo pos (starEach [b, c] X.env)).any (·.1) = false := by rfl) :
    PI X tg (.Call (.Name "range" p) [a, b, c] [] pos) (iRng3 ta) := by
  intro pins s σ H R I h
  refine Call_ (ld_blt I hg hm boot_range (PyProof.Rows.callWith_type1 (thn (ha pos pins s σ H _ I h) fun us s1 ⟨vs, H1, I1, r1, q1⟩ => ?_) hs hpl))
  obtain ⟨i, j, k, n, e, ⟨c0, c1, c2, c3⟩, q⟩ := q1
  subst e
  cases r1 with
  | cons r rr =>
    cases rr with
    | cons r' rr =>
      cases rr with
      | cons r'' rr =>
        cases rr
        obtain ⟨t, rfl⟩ := r
        obtain ⟨t', rfl⟩ := r'
        obtain ⟨t'', rfl⟩ := r''
        refine call_range_3 c0 ?_ (.inl (PyProof.noPylong_small c1))
        refine wpAny_pyIter_range (IsRange.new ..) c2 ?_
        have I2 : Inv X pins σ H1 { s1 with heap := s1.heap.push { cls := .type "range", data := .fields #[.int i t, .int j t', .int k t''] } } := I1.kept (t' := s1.toks) fun b o e => Heap.get?_push_of_some _ e
        refine pi_one (tk := s1.toks) I2 _ (turn_rangeC _ i k n) ?_ q
        have e1 : i + ((0 : Nat) : Int) * k = i := by simp
        have e2 : (n : Int) - ((0 : Nat) : Int) = Builtin.Range.rangeSize i j k := by rw [c3]; simp
        show IsRangeIter _ _ (i + ((0 : Nat) : Int) * k) ((n : Int) - ((0 : Nat) : Int)) k
        rw [e1, e2]
        exact Heap.get?_push_size _ rfl
end
/-- the turns of a step range, for the for loop -/
theorem for_rangeC {lo c : Int} {n : Nat} {g : TG} {tb : TS} {D : Ends} {σ : St} {H : Hp} (Pv : Nat → St → Hp → Prop) (h0 : Pv 0 σ H)
    (hs : ∀ i σ H, i < n → Pv i σ H → g (.int (lo + (i : Nat) * c)) σ H fun σ2 H2 => tb { D with nx := Pv (i + 1), ct := Pv (i + 1), bk := D.nx } σ2 H2) (hd : ∀ σ H, Pv n σ H → D.nx σ H) :
    ∃ W : Nat → Nat → St → Hp → Prop, (∃ m, W 0 m σ H) ∧ ∀ i m σ H, W i m σ H →
      ((Itc lo c n).stop i H ∧ D.nx σ H) ∨ ((Itc lo c n).go i H ∧ ∃ N : St → Hp → Prop, (∀ σ' H', N σ' H' → ∃ m', m' < m ∧ W (i + 1) m' σ' H') ∧ ∀ x H', (Itc lo c n).yld i H x H' → g x σ H' fun σ2 H2 => tb { D with nx := N, ct := N, bk := D.nx } σ2 H2) := by
  refine ⟨fun i m σ H => m = n - i ∧ i ≤ n ∧ Pv i σ H, ⟨n, by simp, Nat.zero_le _, h0⟩, ?_⟩
  rintro i m σ H ⟨rfl, hi, p⟩
  by_cases hlt : i < n
  · refine .inr ⟨hlt, Pv (i + 1), fun σ' H' p' => ⟨n - (i + 1), by omega, rfl, hlt, p'⟩, fun x H' y => ?_⟩
    obtain ⟨e, y⟩ := y
    subst e y
    exact hs i σ _ hlt p
  · have e : i = n := by omega
    subst e
    exact .inl ⟨Nat.le_refl _, hd σ H p⟩

/-! ### reversed(list) -/
/-- the list at a (n items at the start, which the loop leaves there), from its end -/
def Itv (K : PySem.W.Frag) (a : Addr) (n : Nat) : It :=
  ⟨fun i H => i < n ∧ ∃ (xs : List V) (x : V), SqL K H a xs ∧ xs[n - 1 - i]? = some x, fun i H x H' => H' = H ∧ ∀ xs, SqL K H a xs → xs[n - 1 - i]? = some x, fun i _ => n ≤ i⟩
theorem turn_rev {P : Program} {w : World} {K : PySem.W.Frag} {tg : Expr} (a it : Addr) (n : Nat) : Turn P w K tg (Itv K a n) [it] it (fun i h => i ≤ n ∧ h.IsRevIter it a ((n : Int) - 1 - (i : Nat))) where
  mem := by simp
  obj := fun i h st b hb => by
    have e : b = it := by simpa using hb
    subst e
    obtain ⟨_, o, e, c, d⟩ := st
    exact ⟨o, e, fun v z => by rw [d] at z; cases z⟩
  keep := fun i h h' st k => ⟨st.1, st.2.at fun o e => k it (by simp) o e⟩
  item := by
    intro X hP hw hK hc i pins s σ H E I hf st hg
    subst hP hw hK
    obtain ⟨hin, xs, x, hq, hx⟩ := hg
    obtain ⟨its, rv, p, hz⟩ := I.list hq
    obtain ⟨u, hu, ru⟩ := rv.get hx
    obtain ⟨f0, f1, f2, f3, f4, f5⟩ := hf it (by simp)
    obtain ⟨_, hit⟩ := st
    have e1 : (n : Int) - 1 - ((i : Nat) : Int) = ((n - 1 - i : Nat) : Int) := by omega
    rw [e1] at hit
    refine wpAny_pyNext_rev_item hit p.isList (x := u) (by simpa using hu) fun h' st' sb => ?_
    have e2 : ((n - 1 - i : Nat) : Int) - 1 = (n : Int) - 1 - ((i + 1 : Nat) : Int) := by omega
    rw [e2] at st'
    have I1 : Inv X pins σ H { s with heap := h' } := I.turned (t' := s.toks) (fun b o hb e => (sb.2 b hb).trans e) f0 f1 f3 f4 f5
    obtain ⟨o, e, c, d⟩ := id st'
    exact ⟨u, rfl, go_of (s := { s with heap := h' }) e c d (by decide) ⟨x, H, I1, ru, ⟨rfl, fun ys hy => by rw [I.list_inj hy hq]; exact hx⟩, ⟨hin, st'⟩, fun b hb => (hf b hb).1⟩⟩
  done := by
    intro X hP hw hK hc i pins s σ H E I hf st hg
    subst hP hw hK
    obtain ⟨f0, f1, f2, f3, f4, f5⟩ := hf it (by simp)
    obtain ⟨hin, hit⟩ := st
    have hge : n ≤ i := hg
    have e1 : (n : Int) - 1 - ((i : Nat) : Int) = -1 := by omega
    rw [e1] at hit
    exact wpAny_pyNext_rev_end (I.ok.hd hc) hit fun h' eb => ⟨rfl, I.turned (t' := s.toks) (fun b o hb e => eb b o hb e) f0 f1 f3 f4 f5⟩
  self := fun A i s Q E st h => wpAny_pyIter_revIter st.2 h
def iRev (K : PySem.W.Frag) (ta : TA) : TI := fun σ H R => ta σ H fun vs H1 => ∃ (a : Addr) (xs : List V), vs = [.ref a] ∧ SqL K H1 a xs ∧ R (Itv K a xs.length) H1
section
variable {X : Cx} {tg : Expr}
theorem pi_reversed {e : Expr} {ta : TA} {p pos : Pos} (hg : Gl X "reversed") (hm : X.mg "reversed" = none) (ha : PA X [e] ta) (hs : starEach [e] X.env = [(false, eval e X.env)] := by rfl) : PI X tg (.Call (.Name "reversed" p) [e] [] pos) (iRev X.K ta) := by
  intro pins s σ H R I h
  refine Call_ (ld_blt I hg hm boot_reversed5 (PyProof.Rows.callWith_type1 (thn (ha pos pins s σ H _ I h) fun us s1 ⟨vs, H1, I1, r1, q1⟩ => ?_) hs rfl))
  obtain ⟨a, xs, e, hq, q⟩ := q1
  subst e
  cases r1 with
  | cons r rr =>
    cases rr
    cases r
    obtain ⟨its, rv, p', hz⟩ := I1.list hq
    have hl := rv.length
    have e1 : ((its.toArray.size : Nat) : Int) - 1 = (xs.length : Int) - 1 - ((0 : Nat) : Int) := by simp only [List.size_toArray]; omega
    refine call_reversed_list p'.isList (wpAny_pyIter_revIter (l := a) (i := ((its.toArray.size : Nat) : Int) - 1) ⟨_, Heap.get?_push_size _ rfl, rfl, rfl⟩ ?_)
    refine pi_one (tk := s1.toks) I1 _ (turn_rev a _ xs.length) ⟨Nat.zero_le _, ?_⟩ q
    rw [← e1]
    exact ⟨_, Heap.get?_push_size _ rfl, rfl, rfl⟩
end

/-! ### a str -/
/-! ### a dict's keys: any dict's entries -/
section
variable {prog : Program} {w : World} {A : Around} {E : Value → Shared → Prop} {s : Shared}
end

/-! ### a locked dict -/
section
variable {X : Cx} {pins : List (Addr × Obj)} {σ : St} {H : Hp} {s : Shared} {d : Addr} {o : Obj}
end

section
variable {P : Program} {w : World} {K : PySem.W.Frag} {tg : Expr} {d : Addr} {o : Obj} {es : Array DictEntry} {ep : Nat}
end

/-! ### for k in d, d.keys(), d.values(), d.items() -/
section
variable {X : Cx} {tg e : Expr} {td : TE} {apos cpos : Pos}
end

/-! ### enumerate(list) -/
/-! ### zip(list, list) -/
end L2

section 
namespace Bits
open PySem PyProof.Rows

theorem nat_and_mul_pow (k : Nat) : ∀ a b : Nat, a < 2 ^ k → a &&& (b * 2 ^ k) = 0 := by
  induction k with
  | zero =>
    intro a b h
    have h0 : a = 0 := by
      rw [Nat.pow_zero] at h
      omega
    subst h0
    simp
  | succ k ih =>
    intro a b h
    have hm : (b * 2 ^ (k + 1)) = (b * 2 ^ k) * 2 := by rw [Nat.pow_succ, Nat.mul_assoc]
    have hlt : a / 2 < 2 ^ k := by
      rw [Nat.pow_succ] at h
      generalize 2 ^ k = m at h ⊢
      omega
    have i := ih (a / 2) b hlt
    rw [hm]
    generalize b * 2 ^ k = B at i ⊢
    have e : (a &&& (B * 2)) / 2 = a / 2 &&& (B * 2) / 2 := Nat.and_div_two
    have e2 : (B * 2) / 2 = B := by omega
    have o := @Nat.and_mod_two_eq_one a (B * 2)
    rw [e2, i] at e
    omega

theorem natCast_mul_pow (m k : Nat) : (m : Int) * 2 ^ k = ((m * 2 ^ k : Nat) : Int) := by
  rw [two_pow_cast]
  first
    | exact (Int.natCast_mul _ _).symm
    | simp

/-- low bits a, high part b: (b << k) | a -/
theorem bitOr_join {a b : Int} {k : Nat} (h0 : 0 ≤ a) (h1 : a < 2 ^ k) (hb : 0 ≤ b) : Builtin.bitOr a (b * 2 ^ k) = a + b * 2 ^ k := by
  obtain ⟨n, rfl⟩ := Int.eq_ofNat_of_zero_le h0
  obtain ⟨m, rfl⟩ := Int.eq_ofNat_of_zero_le hb
  have hn : n < 2 ^ k := by
    rw [two_pow_cast] at h1
    omega
  have e : Builtin.bitAnd (n : Int) ((m * 2 ^ k : Nat) : Int) = 0 := by
    rw [bitAnd_pp (by omega) (by omega), Int.toNat_natCast, Int.toNat_natCast, nat_and_mul_pow k n m hn] <;> rfl
  rw [natCast_mul_pow, bitOr_and, e]
  omega
theorem bitOr_join' {a b : Int} {k : Nat} (h0 : 0 ≤ a) (h1 : a < 2 ^ k) (hb : 0 ≤ b) : Builtin.bitOr (b * 2 ^ k) a = a + b * 2 ^ k := by
  rw [bitOr_comm]
  exact bitOr_join h0 h1 hb

/-- x & ((1 << k) - 1) -/
theorem bitAnd_mask {x : Int} (k : Nat) (hx : 0 ≤ x) : Builtin.bitAnd x (2 ^ k - 1) = x % 2 ^ k := by
  obtain ⟨n, rfl⟩ := Int.eq_ofNat_of_zero_le hx
  have hp : 0 < 2 ^ k := Nat.two_pow_pos k
  rw [two_pow_cast]
  have e : ((2 ^ k : Nat) : Int) - 1 = ((2 ^ k - 1 : Nat) : Int) := by
    generalize (2 : Nat) ^ k = m at hp
    omega
  rw [e, bitAnd_pp (by omega) (by omega), Int.toNat_natCast, Int.toNat_natCast, Nat.and_two_pow_sub_one_eq_mod]
  first
    | rfl
    | exact Int.natCast_emod _ _
    | simp

theorem nat_xor_add_and (m : Nat) : ∀ n : Nat, (m ^^^ n) + 2 * (m &&& n) = m + n := by
  induction m using Nat.strongRecOn with
  | _ m ih =>
    intro n
    by_cases h0 : m = 0
    · subst h0
      simp
    · have ih' := ih (m / 2) (by omega) (n / 2)
      rw [← Nat.xor_div_two, ← Nat.and_div_two] at ih'
      have o1 := @Nat.xor_mod_two_eq_one m n
      have a1 := @Nat.and_mod_two_eq_one m n
      omega

theorem bitXor_pp {x y : Int} (hx : 0 ≤ x) (hy : 0 ≤ y) : Builtin.bitXor x y = ((x.toNat ^^^ y.toNat : Nat) : Int) := by
  have e := nat_xor_add_and x.toNat y.toNat
  rw [bitXor_and, bitAnd_pp hx hy]
  omega
end Bits
end 

section 
namespace TL
open PySem PySem.Builtin PySem.Builtin.Str PySem.StrLaws

abbrev tl (x : Str) : List Nat := x.cps.toList
theorem len_tl (x : Str) : x.length = (tl x).length := by simp [tl, Str.length]
/-! ### the list functions -/
/-! ### the model's split and partition are these -/
/-! ### computing spl and par -/
/-! ### digits -/
/-! ### words: x.split() -/
end TL
end 

namespace L2
open PySem PySem.Spec PyProof.Rows

section
variable {X : Cx} {pins : List (Addr × Obj)} {σ : St} {H : Hp} {s : Shared} {Q : VK}
end

section
variable {X : Cx}

/-! ### of a text alone -/
/-! ### of a text and a text -/
end

section
variable {X : Cx} {o e : Expr} {to te : TE}
end
end L2

namespace L2
open PySem PySem.Spec PyProof.Rows

section
variable {X : Cx}
end

/-! ### slices of a text -/
end L2

namespace Att
open PySem PySem.W PySem.Calls PyProof.Rows

/-! ### the script -/
theorem ints_of_wellAll {P : Params} {h : Heap} : ∀ (ns : List Int) (vs : List Value), WellAll P h vs (ns.map WData.int) → IntsAre vs ns := by
  intro ns
  induction ns with
  | nil =>
    intro vs w
    rw [List.map_nil] at w
    cases w
    exact .nil
  | cons n ns ih =>
    intro vs w
    rw [List.map_cons] at w
    cases w with
    | cons a b =>
      cases a
      exact .cons _ _ (ih _ b)

/-! ### the attachment: holds_open's last premise (the goal 'hc' behind k_head) from a wpAny of the law's body -/
/-! ### rules over ANY heap (no ledger) from facts about the written part K: the library's own take a ledger (News) for what they write -/
section
variable {prog : Program} {w : World} {A : Around} {E : Value → Shared → Prop} {s : Shared} {K : Frag}

/-! the whole heap as the ledger: makes every rule that writes through a ledger a rule over any heap -/
end
end Att

namespace L2
open PySem PySem.Spec PyProof.Rows

theorem vals_ints : ∀ {vs : List Value} {ns : List Int}, IntsAre vs ns → Vals (ns.map V.int) vs
  | _, _, .nil => .nil
  | _, _, .cons n t h => .cons ⟨t, rfl⟩ (vals_ints h)

/-- nothing is tracked but the script, known to the object (or it is an object of the module) -/
def Only (H : Hp) : Prop := ∀ b, H b = none ∨ ∃ o xs, H b = some (.frz o (.lst xs))

end L2

namespace L2
open PySem PySem.Spec PyProof.Rows

end L2

/- THE LAST THEOREM (shape; LID, My.* are yours):
   My.Adr: a structure of the addresses that your layer names (classes, functions); My.Txt K t: a structure (Prop) of the equations over K;
   My.txt_mk : {K} {implicit addresses ..} (e1 : nsIn K mainGlobals "law" = some (some (.ref f))) (e2 : K.lookup f = some ⟨oc, od, .func (fnOf "law" "law" params body scope dV kV doc pm an cdv ct), sl⟩) (e3 : codeIn K cdv "law" = true) .. : ∃ t, My.Txt K t

set_option maxRecDepth 100000 in
set_option maxHeartbeats 0 in
theorem PySem.Challenge.cw_LID_holds : PySem.Challenge.rw_LID.Holds := by
  w_on; o_law; k_head; (case hw => w_witness2)
  k_fill
  refine L2.walk_of (l := PySem.Challenge.rw_LID) (n := 63) (k := 40) (x := "script") (CX := fun w => ..) (sp := fun _ => My.sp_law) rfl (by decide) rfl ⟨rfl, by decide, by decide⟩ (fun w h Y => PySem.W.kIn_of Y) ?F ?S ?C
  case F =>
    intro w mg fa h KX G hmg
    have T : ∃ t, My.Txt (L2.KOf KX) t := by
      dsimp only [L2.KOf]                          -- K must stand as «<heap const> w.params» for k_is
      refine' My.txt_mk ?e1 ?e2 ?e3 ..
      (case e1 => PySem.W.k_is)                    -- in the order: a name -> its address -> its object -> its parts
      (case e2 => PySem.W.k_is)
      ..
    obtain ⟨t, T⟩ := T
    have e0 := hmg.symm.trans (PySem.W.mg_of KX G T.law)
    cases e0                                       -- fa is the law's own address
    exact ⟨_, fun s u => .of_eq rfl, fun base kb nb => My.law_fn T kb nb⟩     -- if «.of_eq rfl» comes too early: refine' ⟨_, ?b, fun base kb nb => My.law_fn T kb nb⟩; exact fun s u => .of_eq rfl
  case S => exact fun w H a ns hl hO hS => ..
  case C => exact ..
(the tactic k_is has no namespace: write k_is) -/

/-! SHORT WORDS over the layer: a def of the text, its body, what a loop and a test want. -/
namespace L2
open PySem PySem.Spec PyProof.Rows

/-! ### the text by places -/
/-- the j-th statement of a class's body -/
def inClass (s : Stmt) (j : Nat) : Stmt := match s with
  | .ClassDef _ _ _ body _ _ _ _ _ _ _ => body.getD j (.Pass ⟨0, 0, 0, 0⟩)
  | _ => .Pass ⟨0, 0, 0, 0⟩
def defArgs (s : Stmt) : Arguments := match s with
  | .FunctionDef _ a _ _ _ _ _ _ _ _ => a
  | _ => { posonlyargs := [], args := [], vararg := none, kwonlyargs := [], kw_defaults := [], kwarg := none, defaults := [] }
def defBody (s : Stmt) : List Stmt := match s with
  | .FunctionDef _ _ b _ _ _ _ _ _ _ => b
  | _ => []
def defScope (s : Stmt) : Scope := match s with
  | .FunctionDef _ _ _ _ _ _ sc _ _ _ => sc
  | _ => { kind := .function, names := [], isGenerator := false, isCoroutine := false }

/-! ### no exception leaves a def -/
abbrev CX0 : CXT := fun _ _ _ _ _ _ => False
abbrev E0 : XK := fun _ _ _ => False
theorem pass0 {X : Cx} : Passes CX0 X E0 := fun _ _ _ _ _ _ _ h => h.elim

/-! ### a def (or method) of the text as it stands behind the top -/
structure Fun (K : PySem.W.Frag) (x qual : Str) (st : Stmt) (f : Addr) (fd : FuncData) : Prop where
  ex : ∃ (oc : Value) (od : Option Addr) (kV doc pm : Value) (an : Option Addr) (cdv ct : Value) (osl : Array (Option Value)),
    fd = PySem.W.fnOf x qual (defArgs st) (defBody st) (defScope st) .none kV doc pm an cdv ct ∧ K.lookup f = some ⟨oc, od, .func fd, osl⟩ ∧ PySem.W.codeIn K cdv qual = true
  kp : PySem.W.keepIn K (.ref f) = true
section
variable {P : Program} {w : World} {K : PySem.W.Frag} {mg : Str → Option Value} {base : Heap}
/-- THE RULE for a def: its body as a term of rules, and the reading of that term -/
theorem Fun.ok {x qual : Str} {st : Stmt} {f : Addr} {fd : FuncData} {N ps : List Str} {k : Nat} {sp : Sp} (F : Fun K x qual st f fd) (S : FnScope N ps (defScope st)) (len : ∀ vs H Q E, sp vs H Q E → vs.length = ps.length)
    (hbody : ∀ (cdv : Value) (A : Around) (outer : List Env) (s : Shared) (H : Hp) (vs : List V) (Q : VK) (E : XK), Room k (A.deeper (envOfC qual (defScope st) s.heap.objs.size f cdv)) → sp vs H Q E →
      ∃ t, PSs (cxOf CX0 P w K mg base N qual (defScope st) f cdv A outer s H E).nox (defBody st) t ∧ t { nx := fun _ H' => Q .non H', rt := Q } (start N vs) H) : FnOk P w K mg base CX0 (k + 1) f fd ps sp := by
  obtain ⟨oc, od, kV, doc, pm, an, cdv, ct, osl, rfl, lk, hcd⟩ := F.ex
  refine fn_of lk hcd S len fun A outer s H vs Q E hr hsp => ?_
  obtain ⟨t, h, q⟩ := hbody cdv A outer s H vs Q E hr hsp
  exact ⟨t, h.nox, q⟩
/-- how its arguments bind (no defaults): h is «fun _ _ _ _ _ _ us hl => match us, hl with | [_, _], _ => rfl», one _ a parameter -/
theorem Fun.binds {x qual : Str} {st : Stmt} {f : Addr} {fd : FuncData} {ps : List Str} (F : Fun K x qual st f fd)
    (h : ∀ (kV doc pm : Value) (an : Option Addr) (cdv ct : Value) (us : List Value), us.length = ps.length → bindArgs (PySem.W.fnOf x qual (defArgs st) (defBody st) (defScope st) .none kV doc pm an cdv ct) ⟨us, []⟩ = pure (ps.zip us)) : Binds K fd ps [] := by
  obtain ⟨oc, od, kV, doc, pm, an, cdv, ct, osl, rfl, lk, hcd⟩ := F.ex
  exact .all (h kV doc pm an cdv ct)
theorem fun_mk {x qual : Str} {st : Stmt} {f : Addr} {oc : Value} {od an : Option Addr} {osl : Array (Option Value)} {kV doc pm cdv ct : Value} (l : K.lookup f = some ⟨oc, od, .func (PySem.W.fnOf x qual (defArgs st) (defBody st) (defScope st) .none kV doc pm an cdv ct), osl⟩)
    (c : PySem.W.codeIn K cdv qual = true) (k : PySem.W.keepIn K (.ref f) = true) : Fun K x qual st f (PySem.W.fnOf x qual (defArgs st) (defBody st) (defScope st) .none kV doc pm an cdv ct) := ⟨⟨oc, od, kV, doc, pm, an, cdv, ct, osl, rfl, l, c⟩, k⟩
end
/-! ### expressions in short: the name that stands in the i-th slot -/
section
variable {X : Cx}
theorem pv (i : Nat) {x : Str} {pos : Pos} (hN : X.N[i]? = some x := by rfl) (hv : Vis X.env.scope x := by first | exact Or.inl rfl | exact Or.inr (Or.inl rfl) | exact Or.inr (Or.inr rfl)) (hd : (x == ("__debug__" : Str)) = false := by decide)
    (hcd : (x == ("__classdict__" : Str)) = false := by decide) : PE X (.Name x pos) (tVar i) := pe_var hN hv hd hcd
end

/-! ### tests -/
theorem iteF {A B : Prop} (h : B) : if false = true then A else B := by
  rw [if_neg Bool.false_ne_true]
  exact h
theorem iteT {A B : Prop} (h : A) : if true = true then A else B := by
  rw [if_pos rfl]
  exact h
theorem ite2 {c A B : Prop} [Decidable c] (h1 : c → A) (h2 : ¬ c → B) : if c then A else B := by
  by_cases h : c
  · rw [if_pos h]
    exact h1 h
  · rw [if_neg h]
    exact h2 h
/-! ### heaps -/
/-- all that was tracked is as it was -/
def Same (H H' : Hp) : Prop := ∀ b o, H b = some o → H' b = some o
theorem Same.refl (H : Hp) : Same H H := fun _ _ h => h
theorem Same.trans {H H1 H2 : Hp} (a : Same H H1) (b : Same H1 H2) : Same H H2 := fun c o h => b c o (a c o h)
theorem Same.free {H H' : Hp} (e : Same H H') {l : Addr} (h : H' l = Option.none) : H l = Option.none := by
  cases q : H l with
  | none => rfl
  | some o =>
    rw [e l o q] at h
    cases h
theorem Same.seq {K : PySem.W.Frag} {H H' : Hp} {a : Addr} {xs : List V} (e : Same H H') (h : SqL K H a xs) : SqL K H' a xs := by
  rcases h with (h | ⟨o, h⟩) | h
  · exact .inl (.inl (e _ _ h))
  · exact .inl (.inr ⟨o, e _ _ h⟩)
  · exact .inr h

/-! ### a dict's pairs: keys that differ -/
section
variable {κ : Type} [DecidableEq κ]
end
/-! ### lists -/
theorem at_of {xs : List V} {z : Int} {j : Nat} {v : V} (e : z = (j : Int)) (h : xs[j]? = some v) : atI xs z = some v := by
  rw [e]
  exact atI_nat h
end L2

/-! the head of a specification's row over the layer -/
namespace Sx
open PySem PySem.W PySem.Calls PyProof.Rows L2

theorem reads_ints {R : WRecords} {cl : Str → Option Addr} {h : Heap} : ∀ {out : List Int} {its : List Value}, Vals (out.map V.int) its → ReadsAllW R cl h its (out.map WData.int) []
  | [], its, r => by
    cases r
    exact .nil
  | n :: out, its, r => by
    cases r with
    | cons r1 r2 =>
      obtain ⟨t, rfl⟩ := r1
      have z := ReadsAllW.cons (ReadsW.int (R := R) (cl := cl) (h := h) n t) (reads_ints (R := R) (cl := cl) (h := h) r2)
      exact z

theorem spec_call {P : Program} {w : World} {K : PySem.W.Frag} {mg mb : Str → Option Value} {k : Nat} {fa a : Addr} {fd : FuncData} {ps : List Str} {sp : Sp} {s₁ : Shared} {ws us : List Value} {vs : List V} {ns out : List Int}
    (KX : K.In s₁.heap) (hns : s₁.heap.Ns mainGlobals mg) (hb : s₁.heap.Ns builtinsNs mb) (hbb : ∀ x : Str, x ≠ "__name__" → mb x = bootBuiltins x) (hlim : s₁.heap.NoLimit) (hg : s₁.gens = #[])
    (ha : s₁.heap.get? a = some { cls := .type "list", data := .seq ws.toArray }) (hi : IntsAre ws ns) (hl : ns.length ≤ sizeLine) (hr : Room k callerA)
    (F : ∀ base : Heap, K.In base → base.Ns mainGlobals mg → FnOk P w K mg base CX0 k fa fd ps sp) (hbind : BindsTo s₁ fd ⟨us, []⟩ (ps.zip us)) (hv : Vals vs us)
    (hsp : ∀ H : Hp, Only H → SqL K H a (ns.map V.int) → sp vs H (fun v H' => ∃ l, v = .ref l ∧ H' l = some (.lst (out.map V.int))) fun _ _ _ => False) :
    codeAny (model P w) callerA (.call (.ref fa) ⟨us, []⟩) (fun r s' => ∃ (l : Addr) (its : List Value) (n : Nat), r = .ok (.ret (.ref l)) ∧ s'.heap.get? l = some { cls := .type "list", data := .seq its.toArray n } ∧ Vals (out.map V.int) its ∧ OldK s₁.heap s'.heap ∧ s'.os = s₁.os ∧ AllBare s'.gens) s₁ := by
  have rv := vals_ints hi
  have lenV := hi.length
  have core : ∀ H : Hp, Only H → SqL K H a (ns.map V.int) → HOk P w H s₁.heap → (∀ b, H b ≠ none → b = a) → (H a ≠ none → K.lookup a = none) →
      codeAny (model P w) callerA (.call (.ref fa) ⟨us, []⟩) (fun r s' => ∃ (l : Addr) (its : List Value) (n : Nat), r = .ok (.ret (.ref l)) ∧ s'.heap.get? l = some { cls := .type "list", data := .seq its.toArray n } ∧ Vals (out.map V.int) its ∧ OldK s₁.heap s'.heap ∧ s'.os = s₁.os ∧ AllBare s'.gens) s₁ := by
    intro H hO hS hok hA hK
    have base_of : ∀ {b : Addr} {o : Obj}, s₁.heap.get? b = some o → H b = none → (hidT s₁.heap H).get? b = some o := fun e n => hidT_get e n
    have noA : ∀ {b : Addr} {o : Obj} {es : Array DictEntry} {ep : Nat}, s₁.heap.get? b = some o → o.data = .dict es ep → H b = none := fun {b o es ep} e d => by
      cases q : H b with
      | none => rfl
      | some u =>
        have e' : b = a := hA b (by rw [q]; simp)
        subst e'
        rw [ha] at e; cases e
        have d' : Data.seq ws.toArray _ = Data.dict es ep := d
        cases d'
    have nsK : ∀ {b : Addr} {m : Str → Option Value}, s₁.heap.Ns b m → (hidT s₁.heap H).Ns b m := fun {b m} ⟨o, es, ep, e, d, r⟩ => ⟨o, es, ep, base_of e (noA e d), d, r⟩
    have hKb : K.In (hidT s₁.heap H) := fun b o e => base_of (KX b o e) (by
      cases q : H b with
      | none => rfl
      | some u =>
        have e' : b = a := hA b (by rw [q]; simp)
        subst e'
        rw [hK (by rw [q]; simp)] at e; cases e)
    have hM : Mod K mg (hidT s₁.heap H) := ⟨hKb, nsK hns, ⟨mb, nsK hb, hbb⟩, let ⟨mc, h1, h2⟩ := hlim; ⟨mc, nsK h1, h2⟩⟩
    have e0 : Env0 P w K mg (hidT s₁.heap H) callerA [] s₁ H := ⟨rfl, hM, fun b o e => of_hidT e, Nat.le_of_eq (hidT_size _ _), trivial, fun b hb => absurd (show b ∈ ([] : List Addr) from hb) (by simp), hok, .of_eq hg⟩
    refine codeAny_mono ((F _ hKb (nsK hns)).run callerA [] s₁ H ⟨us, []⟩ us vs _ _ hr e0 hbind hv (hsp H hO hS)) fun r s' h => ?_
    cases r with
    | error e => exact False.elim h
    | ok fl =>
      cases fl with
      | next => exact False.elim h
      | brk => exact False.elim h
      | cont => exact False.elim h
      | ret u =>
        obtain ⟨v, H', os, bare, un, hok', r', q⟩ := h
        obtain ⟨l, rfl, hl'⟩ := q
        obtain rfl : u = Value.ref l := r'
        obtain ⟨_, its, n, hv', hget⟩ := hok' l _ hl'
        refine ⟨l, its, n, rfl, hget, hv', OldK.of_keep fun b o e => ?_, os, bare⟩
        cases q : H b with
        | none => exact un.keep b o e q (by intro z; exact absurd (show b ∈ ([] : List Addr) from z) (by simp)) (by simp)
        | some u =>
          rcases hO b with z | ⟨ob, xs, z⟩
          · rw [q] at z; cases z
          · have z2 := un.frzs b ob _ z
            obtain ⟨e1, _⟩ := hok b _ z
            obtain ⟨e2, _⟩ := hok' b _ z2
            rw [e] at e1; cases e1
            exact e2
  cases hk : K.lookup a with
  | some o =>
    have e := KX a o hk
    rw [ha] at e
    cases e
    refine core (fun _ => none) (fun _ => .inl rfl) (.inr ⟨_, ws.toArray, _, hk, rfl, rfl, rfl, by rw [List.size_toArray, lenV]; exact hl, by simpa using rv⟩) (fun b u z => by have z' : (none : Option HO) = some u := z; cases z') (fun b z => absurd rfl z) fun z => absurd rfl z
  | none =>
    refine core (fun b => if b = a then some (.frz { cls := .type "list", data := .seq ws.toArray } (.lst (ns.map V.int))) else none) (fun b => ?_) (.inl (.inr ⟨{ cls := .type "list", data := .seq ws.toArray }, if_pos rfl⟩)) (fun b u z => ?_) (fun b z => ?_) fun _ => hk
    · by_cases hb : b = a
      · exact .inr ⟨_, _, if_pos hb⟩
      · exact .inl (if_neg hb)
    · by_cases hb : b = a
      · have z' := (if_pos hb).symm.trans z
        cases z'
        subst hb
        exact ⟨ha, by rw [List.length_map]; exact hl, ws, _, rv, ha⟩
      · have z' := (if_neg hb).symm.trans z
        cases z'
    · by_cases hb : b = a
      · exact hb
      · exact absurd (if_neg hb) z

/-- the answer, as the row asks it -/
theorem good_of {r : OpenSpec} (said : r.wellSaid = true) {a : Codec.denoteAll r.args} (hw : Codec.withinAll r.args a = true) {cl : Str → Option Addr} {mean : ExcName → Option Value} {s₁ s' : Shared} {res : Result} {out : List Int} {l : Addr} {its : List Value} {n : Nat}
    (he : WData.list (out.map WData.int) = r.ret.enc (Codec.app r.args r.f a)) (h1 : res = .ok (.ret (.ref l))) (h2 : s'.heap.get? l = some { cls := .type "list", data := .seq its.toArray n }) (h3 : Vals (out.map V.int) its) (h4 : OldK s₁.heap s'.heap) (h5 : s'.os = s₁.os) (h6 : AllBare s'.gens) :
    GoodWG r.claim cl mean (Codec.encAll r.args a) s₁ res s' := by
  refine ⟨.inl ⟨.ref l, .list (out.map WData.int), [l], h1, fun _ => rfl, ?_, (OpenSpec.post_iff said hw _ _).mpr he, fun h => by cases h⟩, h4, h5, h6⟩
  have z := reads_ints (R := r.claim.records) (cl := cl) (h := s'.heap) h3
  exact .list h2 rfl rfl (by rw [List.toList_toArray]; exact z)

/-- [whole number, whole number, list of whole numbers] -/
theorem walk3 {prog : Program} {name : Str} {l1 h1 l2 h2 l3 h3 lo hi : Int} {n least most : Nat} {asked : Int → Int → List Int → Bool} {f : Int → Int → List Int → List Int}
    {q : Program} {loose : List Str} {XP : (Str → Option Value) → Heap → Prop} {YP : World → Heap → Prop} {d : DefRec} {K : Params → PySem.W.Frag} {sp : World → Sp} {x y z : Str} {k : Nat}
    (said : (OpenSpec.mk prog name [.int l1 h1, .int l2 h2, .list 0 n (.int l3 h3)] (.list least most (.int lo hi)) asked f).wellSaid = true)
    (hn2 : n ≤ sizeLine) (hdf : d.params.defaults = []) (hr : Room k callerA)
    (hY : ∀ (w : World) (h : Heap), YP w h → (K w.params).In h)
    (F : ∀ (w : World) (mg : Str → Option Value) (fa : Addr) (h : Heap), (K w.params).In h → h.Ns mainGlobals mg → mg d.name = some (.ref fa) →
      ∃ fd : FuncData, (∀ (s : Shared) (u1 u2 u3 : Value), BindsTo s fd ⟨[u1, u2, u3], []⟩ [(x, u1), (y, u2), (z, u3)]) ∧
        ∀ base : Heap, (K w.params).In base → base.Ns mainGlobals mg → FnOk prog w (K w.params) mg base CX0 k fa fd [x, y, z] (sp w))
    (hsp : ∀ (w : World) (H : Hp) (a : Addr) (i j : Int) (ns : List Int), l1 ≤ i → i ≤ h1 → l2 ≤ j → j ≤ h2 → ns.length ≤ n → (∀ v ∈ ns, l3 ≤ v ∧ v ≤ h3) → asked i j ns = true → Only H → SqL (K w.params) H a (ns.map V.int) →
      sp w [.int i, .int j, .ref a] H (fun v H' => ∃ l, v = .ref l ∧ H' l = some (.lst ((f i j ns).map V.int))) fun _ _ _ => False) :
    WalkOS q loose XP YP (OpenSpec.mk prog name [.int l1 h1, .int l2 h2, .list 0 n (.int l3 h3)] (.list least most (.int lo hi)) asked f) d [] (fun f vs => PySem.call f vs) := by
  intro w s₀ s₁ mg mb G Y fa o pm cd doc dV kV ho hd hcd hD hmg hg args vals as hpre hlay hrd hwl hlo
  obtain ⟨⟨i, j, ns, u⟩, hw, hask, rfl⟩ := (OpenSpec.pre_iff said _).mp hpre
  have KX := hY w _ Y
  obtain ⟨fd, hbd, hF⟩ := F w mg fa _ KX G.T.g hmg
  have e1 : Codec.encAll [.int l1 h1, .int l2 h2, .list 0 n (.int l3 h3)] (i, j, ns, u) = [WData.int i, WData.int j, WData.list (ns.map WData.int)] := rfl
  have hwl' : WellAll w.params s₁.heap vals [WData.int i, WData.int j, WData.list (ns.map WData.int)] := hwl
  have hb : (l1 ≤ i ∧ i ≤ h1) ∧ (l2 ≤ j ∧ j ≤ h2) ∧ ns.length ≤ n ∧ ∀ v ∈ ns, l3 ≤ v ∧ v ≤ h3 := by
    have hw' : (Codec.inInt l1 h1 i && (Codec.inInt l2 h2 j && ((Codec.inLen 0 n ns && ns.all (Codec.inInt l3 h3)) && true))) = true := hw
    simp only [Bool.and_eq_true, Codec.inLen, Codec.inInt_iff, Codec.inNat_iff, List.all_eq_true] at hw'
    exact ⟨hw'.1, hw'.2.1, hw'.2.2.1.1.2, hw'.2.2.1.2⟩
  cases hwl' with
  | cons w1 w2 =>
    cases w2 with
    | cons w2 w3 =>
      cases w3 with
      | cons w3 w4 =>
        cases w4
        cases w1
        cases w2
        cases w3 with
        | list hobj hall =>
          rename_i t t' a ws
          have hints := Att.ints_of_wellAll ns _ hall
          refine enter_call (codeAny_mono (spec_call (out := f i j ns) KX G.T.g G.T.b G.T.builtins G.T.nolimit hg hobj hints (Nat.le_trans hb.2.2.1 hn2) hr hF (hbd s₁ _ _ _) (vs := [.int i, .int j, .ref a]) (.cons ⟨_, rfl⟩ (.cons ⟨_, rfl⟩ (.cons rfl .nil)))
            (fun H hO hS => hsp w H a i j ns hb.1.1 hb.1.2 hb.2.1.1 hb.2.1.2 hb.2.2.1 hb.2.2.2 hask hO hS)) fun r s' hq => ?_)
          obtain ⟨l, its, m, rfl, h2, h3, h4, h5, h6⟩ := hq
          exact good_of said hw rfl rfl h2 h3 h4 h5 h6

/-- [whole number, list of whole numbers] -/
theorem walk2 {prog : Program} {name : Str} {l1 h1 l3 h3 lo hi : Int} {n least most : Nat} {asked : Int → List Int → Bool} {f : Int → List Int → List Int}
    {q : Program} {loose : List Str} {XP : (Str → Option Value) → Heap → Prop} {YP : World → Heap → Prop} {d : DefRec} {K : Params → PySem.W.Frag} {sp : World → Sp} {x z : Str} {k : Nat}
    (said : (OpenSpec.mk prog name [.int l1 h1, .list 0 n (.int l3 h3)] (.list least most (.int lo hi)) asked f).wellSaid = true)
    (hn2 : n ≤ sizeLine) (hdf : d.params.defaults = []) (hr : Room k callerA)
    (hY : ∀ (w : World) (h : Heap), YP w h → (K w.params).In h)
    (F : ∀ (w : World) (mg : Str → Option Value) (fa : Addr) (h : Heap), (K w.params).In h → h.Ns mainGlobals mg → mg d.name = some (.ref fa) →
      ∃ fd : FuncData, (∀ (s : Shared) (u1 u3 : Value), BindsTo s fd ⟨[u1, u3], []⟩ [(x, u1), (z, u3)]) ∧
        ∀ base : Heap, (K w.params).In base → base.Ns mainGlobals mg → FnOk prog w (K w.params) mg base CX0 k fa fd [x, z] (sp w))
    (hsp : ∀ (w : World) (H : Hp) (a : Addr) (i : Int) (ns : List Int), l1 ≤ i → i ≤ h1 → ns.length ≤ n → (∀ v ∈ ns, l3 ≤ v ∧ v ≤ h3) → asked i ns = true → Only H → SqL (K w.params) H a (ns.map V.int) →
      sp w [.int i, .ref a] H (fun v H' => ∃ l, v = .ref l ∧ H' l = some (.lst ((f i ns).map V.int))) fun _ _ _ => False) :
    WalkOS q loose XP YP (OpenSpec.mk prog name [.int l1 h1, .list 0 n (.int l3 h3)] (.list least most (.int lo hi)) asked f) d [] (fun f vs => PySem.call f vs) := by
  intro w s₀ s₁ mg mb G Y fa o pm cd doc dV kV ho hd hcd hD hmg hg args vals as hpre hlay hrd hwl hlo
  obtain ⟨⟨i, ns, u⟩, hw, hask, rfl⟩ := (OpenSpec.pre_iff said _).mp hpre
  have KX := hY w _ Y
  obtain ⟨fd, hbd, hF⟩ := F w mg fa _ KX G.T.g hmg
  have hwl' : WellAll w.params s₁.heap vals [WData.int i, WData.list (ns.map WData.int)] := hwl
  have hb : (l1 ≤ i ∧ i ≤ h1) ∧ ns.length ≤ n ∧ ∀ v ∈ ns, l3 ≤ v ∧ v ≤ h3 := by
    have hw' : (Codec.inInt l1 h1 i && ((Codec.inLen 0 n ns && ns.all (Codec.inInt l3 h3)) && true)) = true := hw
    simp only [Bool.and_eq_true, Codec.inLen, Codec.inInt_iff, Codec.inNat_iff, List.all_eq_true] at hw'
    exact ⟨hw'.1, hw'.2.1.1.2, hw'.2.1.2⟩
  cases hwl' with
  | cons w1 w2 =>
    cases w2 with
    | cons w3 w4 =>
      cases w4
      cases w1
      cases w3 with
      | list hobj hall =>
        rename_i t a ws
        have hints := Att.ints_of_wellAll ns _ hall
        refine enter_call (codeAny_mono (spec_call (out := f i ns) KX G.T.g G.T.b G.T.builtins G.T.nolimit hg hobj hints (Nat.le_trans hb.2.1 hn2) hr hF (hbd s₁ _ _) (vs := [.int i, .ref a]) (.cons ⟨_, rfl⟩ (.cons rfl .nil))
          (fun H hO hS => hsp w H a i ns hb.1.1 hb.1.2 hb.2.1 hb.2.2 hask hO hS)) fun r s' hq => ?_)
        obtain ⟨l, its, m, rfl, h2, h3, h4, h5, h6⟩ := hq
        exact good_of said hw rfl rfl h2 h3 h4 h5 h6
end Sx

namespace MU
open Kg18

/-- the bytes of a list of whole numbers -/
def toB (ns : List Int) : Bytes := ns.map fun (z : Int) => UInt8.ofNat z.toNat
/-- the whole numbers of bytes -/
def zs (b : Bytes) : List Int := b.map fun (c : UInt8) => (c.toNat : Int)

theorem zs_toB {ns : List Int} (h : ∀ v ∈ ns, 0 ≤ v ∧ v ≤ 255) : zs (toB ns) = ns := by
  unfold zs toB
  rw [List.map_map]
  conv => rhs; rw [← List.map_id ns]
  apply List.map_congr_left
  intro v hv
  obtain ⟨h0, h1⟩ := h v hv
  simp only [Function.comp_apply, id]
  rw [UInt8.toNat_ofNat']
  have : v.toNat < 256 := by omega
  rw [Nat.mod_eq_of_lt this]
  omega

theorem toB_length (ns : List Int) : (toB ns).length = ns.length := List.length_map _
theorem zs_length (b : Bytes) : (zs b).length = b.length := List.length_map _

theorem unsigned_small {n : Nat} (h : n < 2 ^ 31) : Kg18Neutral.unsigned 32 (n : Int) = n := by
  unfold Kg18Neutral.unsigned
  omega

theorem i32_unsigned {z : Int} (h0 : -2147483648 ≤ z) (h1 : z ≤ 2147483647) : Kg18Neutral.i32 (Kg18Neutral.unsigned 32 z) = z := by
  unfold Kg18Neutral.i32 Kg18Neutral.unsigned
  split <;> omega

theorem counted_eq {n : Nat} {hi : Int} {l r : List Nat} (hl : l.length = n) (hn : n ≤ 116000) (hh : 1048576 ≤ hi) :
    Kg18Neutral.counted 0 hi 1 (Kg18Neutral.unsigned 32 (n : Int) :: (l ++ r)) = (some l, r) := by
  have e : Kg18Neutral.h32 (Kg18Neutral.unsigned 32 (n : Int) :: (l ++ r)) = (n : Int) := by
    show Kg18Neutral.i32 (Kg18Neutral.unsigned 32 (n : Int)) = n
    exact i32_unsigned (by omega) (by omega)
  unfold Kg18Neutral.counted
  simp only [e]
  rw [if_pos (by omega)]
  have e2 : 1 * (n : Int).toNat = l.length := by omega
  rw [e2]
  have e3 : 1 + l.length = l.length + 1 := by omega
  simp [e3]

theorem bytes_eq (ns : List Int) : Kg18Neutral.bytes (some (ns.map Int.toNat)) = some (toB ns) := by
  unfold Kg18Neutral.bytes toB
  simp [Function.comp_def]

theorem sum_of_eq {seed : Int} {ns : List Int} (hn : ns.length ≤ 116000) :
    PyKg18.sum_of seed ns = [((Kg18.sum seed.toNat (toB ns) : Nat) : Int)] := by
  have e : Kg18Neutral.numbers [[4, seed, (ns.length : Int)], ns] = 4 :: seed.toNat :: Kg18Neutral.unsigned 32 (ns.length : Int) :: (ns.map Int.toNat ++ []) := rfl
  unfold PyKg18.sum_of Kg18Neutral.f
  rw [e]
  have e2 : Kg18Neutral.callOf (4 :: seed.toNat :: Kg18Neutral.unsigned 32 (ns.length : Int) :: (ns.map Int.toNat ++ [])) = .sum (some (toB ns)) seed.toNat := by
    show Call.sum (Kg18Neutral.bytes (Kg18Neutral.counted 0 1048576 1 (Kg18Neutral.unsigned 32 (ns.length : Int) :: (ns.map Int.toNat ++ []))).1) seed.toNat = _
    rw [counted_eq (by rw [List.length_map]) hn (by omega), bytes_eq]
  rw [e2]
  rfl

/-- an answer: how many, then these; or too many -/
def put (most : Int) (t : Bytes) : List Int := if most < (t.length : Int) then [-7] else (t.length : Int) :: zs t

theorem put_eq (r : Int) (t : Bytes) : (Kg18.put r t).value :: Kg18Neutral.ofBytes (Kg18.put r t).out = put r t := by
  unfold Kg18.put put
  split <;> rfl

theorem pack_block_eq {most : Int} {ns : List Int} (h0 : -2147483648 ≤ most) (h1 : most ≤ 2147483647) (hn : ns.length ≤ 116000) :
    PyKg18.pack_block most ns = if most < 0 then [-8] else put most (packed (toB ns) 0 0 ns.length) := by
  have e : Kg18Neutral.numbers [[2, (ns.length : Int), most], ns] = 2 :: Kg18Neutral.unsigned 32 (ns.length : Int) :: (ns.map Int.toNat ++ [Kg18Neutral.unsigned 32 most]) := rfl
  unfold PyKg18.pack_block Kg18Neutral.f
  rw [e]
  have e2 : Kg18Neutral.callOf (2 :: Kg18Neutral.unsigned 32 (ns.length : Int) :: (ns.map Int.toNat ++ [Kg18Neutral.unsigned 32 most])) = .packBlock (some (toB ns)) most := by
    show Call.packBlock (Kg18Neutral.bytes (Kg18Neutral.counted 0 1048576 1 (Kg18Neutral.unsigned 32 (ns.length : Int) :: (ns.map Int.toNat ++ [Kg18Neutral.unsigned 32 most]))).1) (Kg18Neutral.h32 (Kg18Neutral.counted 0 1048576 1 (Kg18Neutral.unsigned 32 (ns.length : Int) :: (ns.map Int.toNat ++ [Kg18Neutral.unsigned 32 most]))).2) = _
    rw [counted_eq (by rw [List.length_map]) hn (by omega), bytes_eq]
    show Call.packBlock _ (Kg18Neutral.i32 (Kg18Neutral.unsigned 32 most)) = _
    rw [i32_unsigned h0 h1]
  rw [e2]
  show (let a := (if most < 0 then num (-8) else Kg18.put most (packed (toB ns) 0 0 (toB ns).length)); a.value :: Kg18Neutral.ofBytes a.out) = _
  rw [toB_length]
  by_cases hm : most < 0
  · simp only [if_pos hm]; rfl
  · simp only [if_neg hm]; exact put_eq _ _

theorem unpack_block_eq {most : Int} {ns : List Int} (h0 : -2147483648 ≤ most) (h1 : most ≤ 2147483647) (hn : ns.length ≤ 116000) :
    PyKg18.unpack_block most ns = if most < 0 then [-8] else match unpacked (ns.length + 1) 0 1048576 [] (toB ns) with
      | none => [-5]
      | some t => put most t := by
  have e : Kg18Neutral.numbers [[3, (ns.length : Int), most], ns] = 3 :: Kg18Neutral.unsigned 32 (ns.length : Int) :: (ns.map Int.toNat ++ [Kg18Neutral.unsigned 32 most]) := rfl
  unfold PyKg18.unpack_block Kg18Neutral.f
  rw [e]
  have e2 : Kg18Neutral.callOf (3 :: Kg18Neutral.unsigned 32 (ns.length : Int) :: (ns.map Int.toNat ++ [Kg18Neutral.unsigned 32 most])) = .unpackBlock (some (toB ns)) most := by
    show Call.unpackBlock (Kg18Neutral.bytes (Kg18Neutral.counted 0 2097152 1 (Kg18Neutral.unsigned 32 (ns.length : Int) :: (ns.map Int.toNat ++ [Kg18Neutral.unsigned 32 most]))).1) (Kg18Neutral.h32 (Kg18Neutral.counted 0 2097152 1 (Kg18Neutral.unsigned 32 (ns.length : Int) :: (ns.map Int.toNat ++ [Kg18Neutral.unsigned 32 most]))).2) = _
    rw [counted_eq (by rw [List.length_map]) hn (by omega), bytes_eq]
    show Call.unpackBlock _ (Kg18Neutral.i32 (Kg18Neutral.unsigned 32 most)) = _
    rw [i32_unsigned h0 h1]
  rw [e2]
  show (let a := (if most < 0 then num (-8) else match unpacked ((toB ns).length + 1) 0 MOST [] (toB ns) with
      | none => num (-5)
      | some t => Kg18.put most t); a.value :: Kg18Neutral.ofBytes a.out) = _
  rw [toB_length]
  by_cases hm : most < 0
  · simp only [if_pos hm]; rfl
  · simp only [if_neg hm]
    show _ = match unpacked (ns.length + 1) 0 MOST [] (toB ns) with | none => [-5] | some t => put most t
    cases unpacked (ns.length + 1) 0 MOST [] (toB ns) with
    | none => rfl
    | some t => exact put_eq _ _

theorem unpack_eq {most : Int} {ns : List Int} (h0 : -2147483648 ≤ most) (h1 : most ≤ 2147483647) (hn : ns.length ≤ 116000) :
    PyKg18.unpack most ns = if most < 0 then [-8] else match frame 1048576 (toB ns) with
      | .error k => [-(k : Int)]
      | .ok t => put most t := by
  have e : Kg18Neutral.numbers [[1, (ns.length : Int), most], ns] = 1 :: Kg18Neutral.unsigned 32 (ns.length : Int) :: (ns.map Int.toNat ++ [Kg18Neutral.unsigned 32 most]) := rfl
  unfold PyKg18.unpack Kg18Neutral.f
  rw [e]
  have e2 : Kg18Neutral.callOf (1 :: Kg18Neutral.unsigned 32 (ns.length : Int) :: (ns.map Int.toNat ++ [Kg18Neutral.unsigned 32 most])) = .unpack (some (toB ns)) most := by
    show Call.unpack (Kg18Neutral.bytes (Kg18Neutral.counted 0 2097152 1 (Kg18Neutral.unsigned 32 (ns.length : Int) :: (ns.map Int.toNat ++ [Kg18Neutral.unsigned 32 most]))).1) (Kg18Neutral.h32 (Kg18Neutral.counted 0 2097152 1 (Kg18Neutral.unsigned 32 (ns.length : Int) :: (ns.map Int.toNat ++ [Kg18Neutral.unsigned 32 most]))).2) = _
    rw [counted_eq (by rw [List.length_map]) hn (by omega), bytes_eq]
    show Call.unpack _ (Kg18Neutral.i32 (Kg18Neutral.unsigned 32 most)) = _
    rw [i32_unsigned h0 h1]
  rw [e2]
  show (let a := (if most < 0 then num (-8) else match frame MOST (toB ns) with
      | .error k => num (-(k : Int))
      | .ok t => Kg18.put most t); a.value :: Kg18Neutral.ofBytes a.out) = _
  by_cases hm : most < 0
  · simp only [if_pos hm]; rfl
  · simp only [if_neg hm]
    show _ = match frame MOST (toB ns) with | .error k => [-(k : Int)] | .ok t => put most t
    cases frame MOST (toB ns) with
    | error k => rfl
    | ok t => exact put_eq _ _

theorem pack_eq {flags most : Int} {ns : List Int} (f0 : -2147483648 ≤ flags) (f1 : flags ≤ 2147483647) (h0 : -2147483648 ≤ most) (h1 : most ≤ 2147483647) (hn : ns.length ≤ 116000) :
    PyKg18.pack flags most ns = if flags < 0 ∨ 15 < flags ∨ most < 0 then [-8] else put most (framed flags.toNat (toB ns)) := by
  have e : Kg18Neutral.numbers [[0, (ns.length : Int), flags, most], ns] = 0 :: Kg18Neutral.unsigned 32 (ns.length : Int) :: (ns.map Int.toNat ++ [Kg18Neutral.unsigned 32 flags, Kg18Neutral.unsigned 32 most]) := rfl
  unfold PyKg18.pack Kg18Neutral.f
  rw [e]
  have e2 : Kg18Neutral.callOf (0 :: Kg18Neutral.unsigned 32 (ns.length : Int) :: (ns.map Int.toNat ++ [Kg18Neutral.unsigned 32 flags, Kg18Neutral.unsigned 32 most])) = .pack (some (toB ns)) flags most := by
    show Call.pack (Kg18Neutral.bytes (Kg18Neutral.counted 0 1048576 1 (Kg18Neutral.unsigned 32 (ns.length : Int) :: (ns.map Int.toNat ++ [Kg18Neutral.unsigned 32 flags, Kg18Neutral.unsigned 32 most]))).1)
      (Kg18Neutral.h32 (Kg18Neutral.counted 0 1048576 1 (Kg18Neutral.unsigned 32 (ns.length : Int) :: (ns.map Int.toNat ++ [Kg18Neutral.unsigned 32 flags, Kg18Neutral.unsigned 32 most]))).2)
      (Kg18Neutral.h32 ((Kg18Neutral.counted 0 1048576 1 (Kg18Neutral.unsigned 32 (ns.length : Int) :: (ns.map Int.toNat ++ [Kg18Neutral.unsigned 32 flags, Kg18Neutral.unsigned 32 most]))).2.drop 1)) = _
    rw [counted_eq (by rw [List.length_map]) hn (by omega), bytes_eq]
    show Call.pack _ (Kg18Neutral.i32 (Kg18Neutral.unsigned 32 flags)) (Kg18Neutral.i32 (Kg18Neutral.unsigned 32 most)) = _
    rw [i32_unsigned h0 h1, i32_unsigned f0 f1]
  rw [e2]
  show (let a := (if flags < 0 ∨ 15 < flags ∨ most < 0 then num (-8) else Kg18.put most (framed flags.toNat (toB ns))); a.value :: Kg18Neutral.ofBytes a.out) = _
  by_cases hm : flags < 0 ∨ 15 < flags ∨ most < 0
  · simp only [if_pos hm]; rfl
  · simp only [if_neg hm]; exact put_eq _ _
end MU

namespace MS
open Kg18

/-- the number at a place -/
def bat (b : Bytes) (i : Nat) : Nat := (b.getD i 0).toNat

theorem bat_lt (b : Bytes) (i : Nat) : bat b i < 256 := (b.getD i 0).toNat_lt

theorem drop_bat {b : Bytes} {p : Nat} (h : p < b.length) : ∃ c : UInt8, b.drop p = c :: b.drop (p + 1) ∧ c.toNat = bat b p := by
  refine ⟨b[p], List.drop_eq_getElem_cons h, ?_⟩
  unfold bat
  rw [List.getD_eq_getElem?_getD, List.getElem?_eq_getElem h]
  rfl

theorem le_four {b : Bytes} {p : Nat} (h : p + 4 ≤ b.length) : le (b.drop p) 4 = bat b p + bat b (p + 1) * 2 ^ 8 + bat b (p + 2) * 2 ^ 16 + bat b (p + 3) * 2 ^ 24 := by
  obtain ⟨c0, e0, f0⟩ := drop_bat (b := b) (p := p) (by omega)
  obtain ⟨c1, e1, f1⟩ := drop_bat (b := b) (p := p + 1) (by omega)
  obtain ⟨c2, e2, f2⟩ := drop_bat (b := b) (p := p + 2) (by omega)
  obtain ⟨c3, e3, f3⟩ := drop_bat (b := b) (p := p + 3) (by omega)
  rw [e0, e1, e2, e3]
  show c0.toNat + 256 * (c1.toNat + 256 * (c2.toNat + 256 * (c3.toNat + 256 * 0))) = _
  rw [f0, f1, f2, f3]
  omega

theorem le_four_lt {b : Bytes} {p : Nat} (h : p + 4 ≤ b.length) : le (b.drop p) 4 < 2 ^ 32 := by
  rw [le_four h]
  have := bat_lt b p
  have := bat_lt b (p + 1)
  have := bat_lt b (p + 2)
  have := bat_lt b (p + 3)
  omega

/-- one number mixed into another -/
def mix (z : Int) (t f : Nat) : Nat := rotl (z % 4294967296).toNat t * f % M

theorem mix_lt (z : Int) (t f : Nat) : mix z t f < 4294967296 := Nat.mod_lt _ (by decide)

theorem mix_round {a : Int} {s x : Nat} (h : a % 4294967296 = ((s % M : Nat) : Int)) : mix (a + (x : Int) * 2246822519) 13 2654435761 = round s x := by
  have e : ((a + (x : Int) * 2246822519) % 4294967296).toNat = (s + x * P2) % M := by
    have hM : M = 4294967296 := by decide
    have hP : P2 = 2246822519 := rfl
    rw [hM] at h
    rw [hM, hP]
    omega
  unfold mix round P1
  rw [e]

abbrev S4 := Nat × Nat × Nat × Nat
def one (s : S4) (b : Bytes) : S4 := (round s.1 (le b 4), round s.2.1 (le (b.drop 4) 4), round s.2.2.1 (le (b.drop 8) 4), round s.2.2.2 (le (b.drop 12) 4))

theorem stripes_step {k : Nat} {s : S4} {b : Bytes} (h : 16 ≤ b.length) : stripes (k + 1) s b = stripes k (one s b) (b.drop 16) := by
  obtain ⟨p, q, r, s⟩ := s
  rw [stripes, if_neg (by omega)]
  rfl

theorem stripes_end {k : Nat} {s : S4} {b : Bytes} (h : b.length < 16) : stripes k s b = (s, b) := by
  cases k with
  | zero => rfl
  | succ k =>
    obtain ⟨p, q, r, s⟩ := s
    rw [stripes, if_pos h]

def after (s0 : S4) (b : Bytes) : Nat → S4
  | 0 => s0
  | i + 1 => one (after s0 b i) (b.drop (16 * i))

theorem stripes_after {s0 : S4} {b : Bytes} {K : Nat} : ∀ i, 16 * i ≤ b.length → i ≤ K → stripes K s0 b = stripes (K - i) (after s0 b i) (b.drop (16 * i))
  | 0, _, _ => by simp [after]
  | i + 1, h, hk => by
    rw [stripes_after i (by omega) (by omega)]
    have e : K - i = (K - (i + 1)) + 1 := by omega
    rw [e, stripes_step (by rw [List.length_drop]; omega), List.drop_drop]
    rfl

theorem stripes_all {s0 : S4} {b : Bytes} : stripes (b.length + 1) s0 b = (after s0 b (b.length / 16), b.drop (16 * (b.length / 16))) := by
  rw [stripes_after (b.length / 16) (by omega) (by omega)]
  exact stripes_end (by rw [List.length_drop]; omega)

/-- what is left -/
theorem tail_big {k h : Nat} {b : Bytes} (c : 4 ≤ b.length) : tail (k + 1) h b = tail k (rotl ((h + le b 4 * P3) % M) 17 * P4 % M) (b.drop 4) := by
  rw [tail.eq_def]
  simp only [if_pos c]
theorem tail_nil {k h : Nat} : tail k h [] = h := by
  cases k with
  | zero => rfl
  | succ k =>
    rw [tail.eq_def]
    simp
theorem tail_cons {k h : Nat} {c : UInt8} {r : Bytes} (q : ¬ 4 ≤ (c :: r).length) : tail (k + 1) h (c :: r) = tail k (rotl ((h + c.toNat * P5) % M) 11 * P1 % M) r := by
  rw [tail.eq_def]
  simp only [if_neg q]
theorem tail_fuel : ∀ (k k' h : Nat) (b : Bytes), b.length < k → b.length < k' → tail k h b = tail k' h b
  | 0, _, _, _, h, _ => by omega
  | _ + 1, 0, _, _, _, h => by omega
  | k + 1, k' + 1, h, b, h1, h2 => by
    by_cases c : 4 ≤ b.length
    · rw [tail_big c, tail_big c]
      exact tail_fuel k k' _ _ (by rw [List.length_drop]; omega) (by rw [List.length_drop]; omega)
    · cases b with
      | nil => rw [tail_nil, tail_nil]
      | cons c r =>
        rw [tail_cons (by assumption), tail_cons (by assumption)]
        have h1' : r.length + 1 < k + 1 := h1
        have h2' : r.length + 1 < k' + 1 := h2
        exact tail_fuel k k' _ _ (by omega) (by omega)

def T (h : Nat) (b : Bytes) : Nat := tail (b.length + 1) h b

theorem T_nil (h : Nat) : T h [] = h := tail_nil

theorem T_four {h : Nat} {b : Bytes} {p : Nat} (hp : p + 4 ≤ b.length) : T h (b.drop p) = T (mix ((h : Int) + (le (b.drop p) 4 : Nat) * 3266489917) 17 668265263) (b.drop (p + 4)) := by
  have hl : (b.drop p).length = b.length - p := List.length_drop
  unfold T
  rw [tail_big (by omega), List.drop_drop]
  have e : ((((h : Int) + (le (b.drop p) 4 : Nat) * 3266489917)) % 4294967296).toNat = (h + le (b.drop p) 4 * P3) % M := by
    have hM : M = 4294967296 := by decide
    have hP : P3 = 3266489917 := rfl
    rw [hM, hP]
    omega
  have e2 : mix ((h : Int) + (le (b.drop p) 4 : Nat) * 3266489917) 17 668265263 = rotl ((h + le (b.drop p) 4 * P3) % M) 17 * P4 % M := by
    unfold mix P4
    rw [e]
  rw [e2]
  exact tail_fuel _ _ _ _ (by rw [List.length_drop, List.length_drop]; omega) (by rw [List.length_drop]; omega)

theorem e5 (h x : Nat) : ((((h : Int) + (x : Int) * 374761393)) % 4294967296).toNat = (h + x * P5) % M := by
  have hM : M = 4294967296 := by decide
  have hP : P5 = 374761393 := rfl
  rw [hM, hP]
  omega
theorem T_one {h : Nat} {b : Bytes} {p : Nat} (hp : p < b.length) (hq : b.length < p + 4) : T h (b.drop p) = T (mix ((h : Int) + (bat b p : Nat) * 374761393) 11 2654435761) (b.drop (p + 1)) := by
  have hl : (b.drop p).length = b.length - p := List.length_drop
  obtain ⟨c, e0, f0⟩ := drop_bat hp
  have e := e5 h (bat b p)
  have e2 : mix ((h : Int) + (bat b p : Nat) * 374761393) 11 2654435761 = rotl ((h + bat b p * P5) % M) 11 * P1 % M := by
    unfold mix P1
    rw [e]
  have hlen : (c :: b.drop (p + 1)).length = b.length - p := by rw [← e0]; exact hl
  have e3 : T h (c :: b.drop (p + 1)) = tail (c :: b.drop (p + 1)).length (rotl ((h + c.toNat * P5) % M) 11 * P1 % M) (b.drop (p + 1)) := tail_cons (by rw [hlen]; omega)
  rw [e0, e3, e2, f0]
  unfold T
  exact tail_fuel _ _ _ _ (by rw [List.length_cons]; exact Nat.lt_succ_self _) (Nat.lt_succ_self _)

def start (seed : Nat) : S4 := ((seed + P1 + P2) % M, (seed + P2) % M, seed % M, (seed + M - P1) % M)

/-- of sixteen and more; of fewer -/
def begun (seed : Nat) (b : Bytes) : Nat :=
  if 16 ≤ b.length then
    let s := after (start seed) b (b.length / 16)
    rotl s.1 1 + rotl s.2.1 7 + rotl s.2.2.1 12 + rotl s.2.2.2 18
  else seed + P5

def fin1 (h : Nat) : Nat := (h ^^^ h / 2 ^ 15) * P2 % M
def fin2 (h : Nat) : Nat := (h ^^^ h / 2 ^ 13) * P3 % M
def fin3 (h : Nat) : Nat := h ^^^ h / 2 ^ 16

theorem sum_eq (seed : Nat) (b : Bytes) : Kg18.sum seed b = fin3 (fin2 (fin1 (T ((begun seed b + b.length) % M) (b.drop (16 * (b.length / 16)))))) := by
  have e : stripes (b.length + 1) ((seed + P1 + P2) % M, (seed + P2) % M, seed % M, (seed + M - P1) % M) b = (after (start seed) b (b.length / 16), b.drop (16 * (b.length / 16))) := stripes_all
  unfold Kg18.sum begun
  simp only [e]
  unfold fin1 fin2 fin3
  rfl

theorem round_lt (a x : Nat) : round a x < 4294967296 := Nat.mod_lt _ (by decide)
theorem one_lt (s : S4) (b : Bytes) : (one s b).1 < 4294967296 ∧ (one s b).2.1 < 4294967296 ∧ (one s b).2.2.1 < 4294967296 ∧ (one s b).2.2.2 < 4294967296 :=
  ⟨round_lt _ _, round_lt _ _, round_lt _ _, round_lt _ _⟩

theorem rotl_lt (x k : Nat) : rotl x k < 4294967296 := Nat.mod_lt _ (by decide)
theorem fin3_lt {y : Nat} (h : y < 2 ^ 32) : fin3 y < 2 ^ 32 := Nat.xor_lt_two_pow h (Nat.lt_of_le_of_lt (Nat.div_le_self _ _) h)
theorem sum_lt (seed : Nat) (b : Bytes) : Kg18.sum seed b < 2 ^ 32 := by
  rw [sum_eq]
  exact fin3_lt (Nat.mod_lt _ (by decide))
end MS

namespace MB
open Kg18 MS

theorem long_drop : ∀ {k n : Nat} {b : Bytes} {m : Nat} {w : Bytes}, long k n b = some (m, w) → ∃ j, w = b.drop j ∧ j ≤ b.length
  | 0, _, _, _, _, h => by rw [long.eq_def] at h; cases h
  | k + 1, _, [], _, _, h => by rw [long.eq_def] at h; cases h
  | k + 1, n, c :: r, m, w, h => by
    have e : long (k + 1) n (c :: r) = if c = 255 then long k (n + 255) r else some (n + c.toNat, r) := by rw [long.eq_def]
    rw [e] at h
    by_cases hc : c = 255
    · rw [if_pos hc] at h
      obtain ⟨j, e1, e2⟩ := long_drop h
      exact ⟨j + 1, by rw [List.drop_succ_cons]; exact e1, by rw [List.length_cons]; omega⟩
    · rw [if_neg hc] at h
      injection h with h
      injection h with h1 h2
      exact ⟨1, h2.symm, by rw [List.length_cons]; omega⟩

theorem lengthOf_drop {n : Nat} {b : Bytes} {m : Nat} {w : Bytes} (h : lengthOf n b = some (m, w)) : ∃ j, w = b.drop j ∧ j ≤ b.length := by
  unfold lengthOf at h
  by_cases hc : n = 15
  · rw [if_pos hc] at h
    exact long_drop h
  · rw [if_neg hc] at h
    injection h with h
    injection h with h1 h2
    exact ⟨0, h2.symm, Nat.zero_le _⟩

theorem lengthOf_le {n : Nat} {b : Bytes} {m : Nat} {w : Bytes} (h : lengthOf n b = some (m, w)) : w.length ≤ b.length := by
  obtain ⟨j, e, _⟩ := lengthOf_drop h
  rw [e, List.length_drop]
  omega

/-- what follows the first byte of a part -/
def partU (go : Bytes → Bytes → Option Bytes) (from_ most : Nat) (t : Bytes) (c : UInt8) (r : Bytes) : Option Bytes :=
  (lengthOf (c.toNat / 16) r).bind fun (n, s) =>
    if s.length < n then none
    else
      let u := t ++ s.take n
      let v := s.drop n
      if most < u.length then none
      else if v = [] then some u
      else if v.length < 2 then none
      else
        let d := le v 2
        (lengthOf (c.toNat % 16) (v.drop 2)).bind fun (m, w) =>
          if d = 0 ∨ u.length < from_ + d ∨ most < u.length + m + 4 then none else go (copied (m + 4) d u) w

theorem unpacked_cons {k from_ most : Nat} {t : Bytes} {c : UInt8} {r : Bytes} : unpacked (k + 1) from_ most t (c :: r) = partU (unpacked k from_ most) from_ most t c r := by
  rw [unpacked.eq_def]
  rfl

theorem partU_congr {go go' : Bytes → Bytes → Option Bytes} {from_ most : Nat} {t : Bytes} {c : UInt8} {r : Bytes} (h : ∀ u w, w.length ≤ r.length → go u w = go' u w) : partU go from_ most t c r = partU go' from_ most t c r := by
  unfold partU
  cases e : lengthOf (c.toNat / 16) r with
  | none => rfl
  | some p =>
    obtain ⟨n, s⟩ := p
    have hs := lengthOf_le e
    simp only [Option.bind_some]
    by_cases c1 : s.length < n
    · rw [if_pos c1, if_pos c1]
    · rw [if_neg c1, if_neg c1]
      by_cases c2 : most < (t ++ s.take n).length
      · rw [if_pos c2, if_pos c2]
      · rw [if_neg c2, if_neg c2]
        by_cases c3 : s.drop n = []
        · rw [if_pos c3, if_pos c3]
        · rw [if_neg c3, if_neg c3]
          by_cases c4 : (s.drop n).length < 2
          · rw [if_pos c4, if_pos c4]
          · rw [if_neg c4, if_neg c4]
            cases e2 : lengthOf (c.toNat % 16) ((s.drop n).drop 2) with
            | none => rfl
            | some p2 =>
              obtain ⟨m, w⟩ := p2
              have hw := lengthOf_le e2
              rw [List.length_drop, List.length_drop] at hw
              simp only [Option.bind_some]
              by_cases c5 : le (s.drop n) 2 = 0 ∨ (t ++ s.take n).length < from_ + le (s.drop n) 2 ∨ most < (t ++ s.take n).length + m + 4
              · rw [if_pos c5, if_pos c5]
              · rw [if_neg c5, if_neg c5]
                exact h _ _ (by omega)

theorem unpacked_fuel : ∀ (k k' from_ most : Nat) (t b : Bytes), b.length < k → b.length < k' → unpacked k from_ most t b = unpacked k' from_ most t b
  | 0, _, _, _, _, _, h, _ => by omega
  | _ + 1, 0, _, _, _, _, _, h => by omega
  | k + 1, k' + 1, from_, most, t, [], _, _ => by rw [unpacked.eq_def, unpacked.eq_def]
  | k + 1, k' + 1, from_, most, t, c :: r, h1, h2 => by
    rw [unpacked_cons, unpacked_cons]
    rw [List.length_cons] at h1 h2
    exact partU_congr fun u w hw => unpacked_fuel k k' from_ most u w (by omega) (by omega)

/-- a block's text -/
def U (from_ most : Nat) (t b : Bytes) : Option Bytes := unpacked (b.length + 1) from_ most t b
theorem U_nil (from_ most : Nat) (t : Bytes) : U from_ most t [] = none := by
  unfold U
  rw [unpacked.eq_def]
theorem U_cons (from_ most : Nat) (t : Bytes) (c : UInt8) (r : Bytes) : U from_ most t (c :: r) = partU (U from_ most) from_ most t c r := by
  unfold U
  rw [unpacked_cons]
  exact partU_congr fun u w hw => unpacked_fuel _ _ _ _ _ _ (by rw [List.length_cons]; omega) (Nat.lt_succ_self _)

/-! ### a match -/
theorem copied_length : ∀ (n d : Nat) (t : Bytes), (copied n d t).length = t.length + n
  | 0, _, _ => rfl
  | n + 1, d, t => by
    rw [copied, copied_length n, List.length_append]
    simp
    omega

/-- n bytes, the last d over and over -/
def cyc (u : Bytes) (n : Nat) : Bytes := (List.range n).map fun (i : Nat) => u.getD (i % u.length) 0

theorem cyc_length (u : Bytes) (n : Nat) : (cyc u n).length = n := by unfold cyc; simp
theorem cyc_get {u : Bytes} {n i : Nat} (h : i < n) : (cyc u n)[i]? = some (u.getD (i % u.length) 0) := by
  unfold cyc
  rw [List.getElem?_map, List.getElem?_range h]
  rfl

/-- byte i behind the text's last d -/
theorem copied_eq {d : Nat} : ∀ (n : Nat) (k : Nat) (t : Bytes), 0 < d → d ≤ t.length → copied n d (t ++ cyc (t.drop (t.length - d)) k) = t ++ cyc (t.drop (t.length - d)) (k + n)
  | 0, k, t, _, _ => rfl
  | n + 1, k, t, h0, h1 => by
    have hu : (t.drop (t.length - d)).length = d := by rw [List.length_drop]; omega
    rw [copied]
    have e : (t ++ cyc (t.drop (t.length - d)) k) ++ [(t ++ cyc (t.drop (t.length - d)) k).getD ((t ++ cyc (t.drop (t.length - d)) k).length - d) 0] = t ++ cyc (t.drop (t.length - d)) (k + 1) := by
      have e1 : cyc (t.drop (t.length - d)) (k + 1) = cyc (t.drop (t.length - d)) k ++ [(t.drop (t.length - d)).getD (k % d) 0] := by
        unfold cyc
        rw [List.range_succ, List.map_append, hu]
        rfl
      rw [e1, List.append_assoc]
      congr 2
      rw [List.length_append, cyc_length]
      congr 1
      simp only [List.getD_eq_getElem?_getD]
      congr 1
      by_cases c : k < d
      · rw [List.getElem?_append_left (by omega), List.getElem?_drop, Nat.mod_eq_of_lt c]
        congr 1
        omega
      · rw [List.getElem?_append_right (by omega), cyc_get (by omega), hu, List.getD_eq_getElem?_getD]
        have e2 : t.length + k - d - t.length = k - d := by omega
        rw [e2]
        have e3 : (k - d) % d = k % d := by
          rw [Nat.mod_eq_sub_mod (show d ≤ k by omega)]
        rw [e3]
        have hk : k % d < d := Nat.mod_lt _ h0
        rw [List.getElem?_eq_getElem (by omega)]
        rfl
    rw [e, copied_eq n (k + 1) t h0 h1]
    congr 2
    omega

theorem copied_cyc {n d : Nat} {t : Bytes} (h0 : 0 < d) (h1 : d ≤ t.length) : copied n d t = t ++ cyc (t.drop (t.length - d)) n := by
  have e := copied_eq n 0 t h0 h1
  have e0 : cyc (t.drop (t.length - d)) 0 = [] := rfl
  rw [e0, List.append_nil, Nat.zero_add] at e
  exact e

/-- one that does not reach into itself -/
theorem cyc_take {u : Bytes} {n : Nat} (h : n ≤ u.length) : cyc u n = u.take n := by
  apply List.ext_getElem?
  intro i
  by_cases c : i < n
  · rw [cyc_get c, Nat.mod_eq_of_lt (by omega), List.getElem?_take_of_lt c, List.getD_eq_getElem?_getD, List.getElem?_eq_getElem (by omega)]
    rfl
  · rw [List.getElem?_eq_none (by rw [cyc_length]; omega), List.getElem?_eq_none (by rw [List.length_take]; omega)]

theorem rep_length (u : Bytes) (k : Nat) : (List.replicate k u).flatten.length = k * u.length := by
  induction k with
  | zero => simp
  | succ k ih => rw [List.replicate_succ, List.flatten_cons, List.length_append, ih, Nat.add_mul]; omega

theorem rep_get {u : Bytes} : ∀ (k i : Nat), i < k * u.length → (List.replicate k u).flatten[i]? = some (u.getD (i % u.length) 0)
  | 0, i, h => by omega
  | k + 1, i, h => by
    rw [List.replicate_succ, List.flatten_cons]
    have h' : i < k * u.length + u.length := by rw [Nat.add_mul] at h; omega
    by_cases c : i < u.length
    · rw [List.getElem?_append_left c, Nat.mod_eq_of_lt c, List.getD_eq_getElem?_getD, List.getElem?_eq_getElem c]
      rfl
    · rw [List.getElem?_append_right (by omega), rep_get k (i - u.length) (by omega), Nat.mod_eq_sub_mod (show u.length ≤ i by omega)]

theorem cyc_rep {u : Bytes} {n k : Nat} (h : n ≤ k * u.length) : cyc u n = (List.replicate k u).flatten.take n := by
  apply List.ext_getElem?
  intro i
  by_cases c : i < n
  · rw [cyc_get c, List.getElem?_take_of_lt c, rep_get k i (by omega)]
  · rw [List.getElem?_eq_none (by rw [cyc_length]; omega), List.getElem?_eq_none (by rw [List.length_take]; omega)]
end MB

namespace MP
open Kg18 MS MB

/-! ### the first of the largest -/
def bst (f : Nat → Nat) (N : Nat) : Nat × Nat := (List.range N).foldl (fun (b : Nat × Nat) (k : Nat) => if b.1 < f k then (f k, k + 1) else b) (0, 0)
theorem bst_succ (f : Nat → Nat) (N : Nat) : bst f (N + 1) = if (bst f N).1 < f N then (f N, N + 1) else bst f N := by
  unfold bst
  rw [List.range_succ, List.foldl_append]
  rfl
theorem best_bst (t : Bytes) (from_ i last : Nat) : best t from_ i last = bst (fun k => agree t i (i - (k + 1)) last) (min 65535 (i - from_)) := rfl
theorem bst_lt {f : Nat → Nat} {L : Nat} (h0 : 0 < L) : ∀ N, (∀ j, j < N → f j < L) → (bst f N).1 < L
  | 0, _ => h0
  | N + 1, h => by
    rw [bst_succ]
    split
    · exact h N (Nat.lt_succ_self N)
    · exact bst_lt h0 N fun j hj => h j (Nat.lt_succ_of_lt hj)
theorem bst_first {f : Nat → Nat} {k L : Nat} (h0 : 0 < L) (e : f k = L) (h1 : ∀ j, j < k → f j < L) : ∀ N, k < N → (∀ j, k < j → j < N → f j ≤ L) → bst f N = (L, k + 1)
  | 0, h, _ => by omega
  | N + 1, h, h2 => by
    rw [bst_succ]
    by_cases c : k = N
    · subst c
      rw [if_pos (by rw [e]; exact bst_lt h0 _ h1), e]
    · have ih := bst_first h0 e h1 N (by omega) fun j a b => h2 j a (Nat.lt_succ_of_lt b)
      rw [ih, if_neg]
      have := h2 N (by omega) (Nat.lt_succ_self N)
      show ¬ L < f N
      omega

/-! ### how far two places agree -/
theorem tw_list {α : Type} (p : α → Bool) : ∀ (l : List α), (l.takeWhile p).length ≤ l.length ∧ (∀ k x, k < (l.takeWhile p).length → l[k]? = some x → p x = true) ∧ (∀ x, l[(l.takeWhile p).length]? = some x → p x = false)
  | [] => ⟨Nat.le_refl _, fun k x h => by simp at h, fun x h => by simp at h⟩
  | a :: r => by
    obtain ⟨h1, h2, h3⟩ := tw_list p r
    cases e : p a with
    | true =>
      rw [List.takeWhile_cons_of_pos e]
      refine ⟨by simp; exact h1, fun k x hk hx => ?_, fun x hx => ?_⟩
      · cases k with
        | zero =>
          have : a = x := Option.some.inj hx
          rw [← this]; exact e
        | succ k => exact h2 k x (by simpa using hk) (by simpa using hx)
      · exact h3 x (by simpa using hx)
    | false =>
      rw [List.takeWhile_cons_of_neg (by simp [e])]
      refine ⟨by simp, fun k x hk => by simp at hk, fun x hx => ?_⟩
      have : a = x := Option.some.inj (by simpa using hx)
      rw [← this]; exact e

/-- the same w bytes at two places -/
def eqn (t : Bytes) (q i w : Nat) : Prop := ∀ k, k < w → t.getD (i + k) 0 = t.getD (q + k) 0

theorem agree_le (t : Bytes) (i j last : Nat) : agree t i j last ≤ last - i := by
  unfold agree
  have h := (tw_list (fun k => t.getD (i + k) 0 == t.getD (j + k) 0) (List.range (last - i))).1
  simpa using h
theorem agree_eqn (t : Bytes) (i j last : Nat) : eqn t j i (agree t i j last) := by
  intro k hk
  have hl := agree_le t i j last
  have h := (tw_list (fun k => t.getD (i + k) 0 == t.getD (j + k) 0) (List.range (last - i))).2.1 k k hk (List.getElem?_range (by omega))
  exact eq_of_beq h
theorem agree_stop {t : Bytes} {i j last : Nat} (h : agree t i j last < last - i) : t.getD (i + agree t i j last) 0 ≠ t.getD (j + agree t i j last) 0 := by
  have h := (tw_list (fun k => t.getD (i + k) 0 == t.getD (j + k) 0) (List.range (last - i))).2.2 (agree t i j last) (List.getElem?_range h)
  intro z
  have z' := beq_iff_eq.mpr z
  rw [z'] at h
  cases h
theorem agree_ge {t : Bytes} {i j last w : Nat} (hw : w ≤ last - i) (h : eqn t j i w) : w ≤ agree t i j last := by
  by_cases c : agree t i j last < w
  · exact absurd (h _ c) (agree_stop (by omega))
  · omega
theorem agree_lt {t : Bytes} {i j last w : Nat} (h : ¬ eqn t j i w) : agree t i j last < w := by
  by_cases c : agree t i j last < w
  · exact c
  · exact absurd (fun k hk => agree_eqn t i j last k (by omega)) h
/-- the counting loop's end -/
theorem agree_is {t : Bytes} {i j last L : Nat} (hl : L ≤ last - i) (h : eqn t j i L) (hs : L < last - i → t.getD (i + L) 0 ≠ t.getD (j + L) 0) : agree t i j last = L := by
  have h1 := agree_ge hl h
  by_cases c : L < agree t i j last
  · have h2 := agree_le t i j last
    exact absurd (agree_eqn t i j last L c) (hs (by omega))
  · omega
theorem eqn_succ {t : Bytes} {q i w : Nat} (h : eqn t q i w) (e : t.getD (i + w) 0 = t.getD (q + w) 0) : eqn t q i (w + 1) := fun k hk => by
  by_cases c : k = w
  · rw [c]; exact e
  · exact h k (by omega)

/-! ### the search -/
/-- a place's match is so long; every nearer one is shorter; if the step is used up no farther one is longer -/
structure Srch (t : Bytes) (i lowest last source length step : Nat) : Prop where
  lo : lowest ≤ source
  hi : source < i
  four : 4 ≤ length
  top : length ≤ last - i
  ag : agree t i source last = length
  near : ∀ q, source < q → q < i → agree t i q last < length
  far : step = 0 → ∀ q, lowest ≤ q → q < source → agree t i q last ≤ length

theorem Srch.begin {t : Bytes} {i lowest last source step : Nat} (lo : lowest ≤ source) (hi : source < i) (hm : 4 ≤ last - i) (h4 : eqn t source i 4) (hn : ∀ q, source < q → q < i → ¬ eqn t q i 4) (hs : 0 < step) :
    Srch t i lowest last source (agree t i source last) step :=
  ⟨lo, hi, agree_ge hm h4, agree_le _ _ _ _, rfl, fun q a b => Nat.lt_of_lt_of_le (agree_lt (hn q a b)) (agree_ge hm h4), fun h => by omega⟩

theorem Srch.found {t : Bytes} {i lowest last source length step step' wanted q : Nat} (S : Srch t i lowest last source length step) (hw : length < wanted) (hw2 : wanted ≤ last - i)
    (q0 : lowest ≤ q) (q1 : q < source) (he : eqn t q i wanted) (hn : ∀ p, q < p → p < source → ¬ eqn t p i wanted) (hs : 0 < step') :
    Srch t i lowest last q (agree t i q last) step' := by
  have hg := agree_ge hw2 he
  have hf := S.four
  refine ⟨q0, Nat.lt_trans q1 S.hi, by omega, agree_le _ _ _ _, rfl, fun p a b => ?_, fun h => by omega⟩
  by_cases c : p < source
  · have := agree_lt (last := last) (hn p a c)
    omega
  · by_cases d : p = source
    · rw [d, S.ag]; omega
    · have := S.near p (by omega) b
      omega

theorem Srch.miss {t : Bytes} {i lowest last source length step : Nat} (S : Srch t i lowest last source length step) (hs : 0 < step) (hl : length < last - i)
    (hn : ∀ q, lowest ≤ q → q < source → ¬ eqn t q i (min (length + step) (last - i))) : Srch t i lowest last source length (step / 2) :=
  ⟨S.lo, S.hi, S.four, S.top, S.ag, S.near, fun h q a b => by
    have e : step = 1 := by omega
    have h2 := agree_lt (last := last) (hn q a b)
    rw [e] at h2
    omega⟩

theorem Srch.best {t : Bytes} {i lowest last source length step from_ : Nat} (S : Srch t i lowest last source length step) (hlow : lowest = i - min 65535 (i - from_)) (hend : ¬ (0 < step ∧ length < last - i)) :
    best t from_ i last = (length, i - source) := by
  have h1 := S.lo
  have h2 := S.hi
  have h3 := S.four
  have h4 := S.top
  rw [best_bst]
  have e : i - source = (i - source - 1) + 1 := by omega
  rw [e]
  have es : i - (i - source - 1 + 1) = source := by omega
  refine bst_first (by omega) (by show agree t i (i - (i - source - 1 + 1)) last = length; rw [es]; exact S.ag) (fun j hj => ?_) _ (by omega) (fun j a b => ?_)
  · exact S.near _ (by omega) (by omega)
  · by_cases c : step = 0
    · exact S.far c _ (by omega) (by omega)
    · have : ¬ length < last - i := fun h => hend ⟨by omega, h⟩
      have h5 := agree_le t i (i - (j + 1)) last
      show agree t i (i - (j + 1)) last ≤ length
      omega

/-- no match -/
theorem best_none {t : Bytes} {i lowest last from_ : Nat} (hlow : lowest = i - min 65535 (i - from_)) (h : ∀ q, lowest ≤ q → q < i → ¬ eqn t q i 4) : (best t from_ i last).1 < 4 := by
  rw [best_bst]
  exact bst_lt (by omega) _ fun j hj => agree_lt (h _ (by omega) (by omega))

theorem lowest_eq {from_ i : Nat} (h : from_ ≤ i) : max from_ (i - 65535) = i - min 65535 (i - from_) := by omega

/-! ### four bytes -/
def four (t : Bytes) (p : Nat) : Nat := bat t p + bat t (p + 1) * 2 ^ 8 + bat t (p + 2) * 2 ^ 16 + bat t (p + 3) * 2 ^ 24
theorem bat_inj {t : Bytes} {i j : Nat} (h : bat t i = bat t j) : t.getD i 0 = t.getD j 0 := UInt8.toNat_inj.mp h
theorem four_eqn {t : Bytes} {q i : Nat} : four t i = four t q ↔ eqn t q i 4 := by
  constructor
  · intro h
    unfold four at h
    have a0 := bat_lt t i
    have a1 := bat_lt t (i + 1)
    have a2 := bat_lt t (i + 2)
    have a3 := bat_lt t (i + 3)
    have b0 := bat_lt t q
    have b1 := bat_lt t (q + 1)
    have b2 := bat_lt t (q + 2)
    have b3 := bat_lt t (q + 3)
    intro k hk
    match k, hk with
    | 0, _ => exact bat_inj (show bat t i = bat t q by omega)
    | 1, _ => exact bat_inj (by omega)
    | 2, _ => exact bat_inj (by omega)
    | 3, _ => exact bat_inj (by omega)
    | k + 4, hk => omega
  · intro h
    have h0 : bat t i = bat t q := congrArg UInt8.toNat (h 0 (by omega))
    have h1 : bat t (i + 1) = bat t (q + 1) := congrArg UInt8.toNat (h 1 (by omega))
    have h2 : bat t (i + 2) = bat t (q + 2) := congrArg UInt8.toNat (h 2 (by omega))
    have h3 : bat t (i + 3) = bat t (q + 3) := congrArg UInt8.toNat (h 3 (by omega))
    unfold four
    rw [h0, h1, h2, h3]

/-! ### the mirrored letters -/
def two (c : UInt8) : List Nat := [65 + c.toNat / 16, 97 + c.toNat % 16]
def mir (t : Bytes) : List Nat := t.reverse.flatMap two
theorem flat2_length : ∀ l : Bytes, (l.flatMap two).length = 2 * l.length
  | [] => rfl
  | c :: r => by
    rw [List.flatMap_cons, List.length_append, flat2_length r]
    show 2 + 2 * r.length = 2 * (r.length + 1)
    omega
theorem mir_length (t : Bytes) : (mir t).length = 2 * t.length := by
  unfold mir
  rw [flat2_length, List.length_reverse]
theorem flat2_get : ∀ (l : Bytes) (m : Nat), m < l.length → (l.flatMap two)[2 * m]? = some (65 + bat l m / 16) ∧ (l.flatMap two)[2 * m + 1]? = some (97 + bat l m % 16)
  | [], m, h => by simp at h
  | c :: r, 0, h => ⟨rfl, rfl⟩
  | c :: r, m + 1, h => by
    have ih := flat2_get r m (by simpa using h)
    have e : bat (c :: r) (m + 1) = bat r m := rfl
    rw [e, List.flatMap_cons]
    have e1 : 2 * (m + 1) = (2 * m) + 1 + 1 := by omega
    have e2 : 2 * (m + 1) + 1 = (2 * m + 1) + 1 + 1 := by omega
    rw [e1]
    exact ih
theorem bat_reverse {t : Bytes} {m : Nat} (h : m < t.length) : bat t.reverse m = bat t (t.length - 1 - m) := by
  unfold bat
  rw [List.getD_eq_getElem?_getD, List.getD_eq_getElem?_getD, List.getElem?_reverse h]
theorem mir_even {t : Bytes} {m : Nat} (h : m < t.length) : (mir t)[2 * m]? = some (65 + bat t (t.length - 1 - m) / 16) := by
  rw [← bat_reverse h]
  exact (flat2_get t.reverse m (by rw [List.length_reverse]; exact h)).1
theorem mir_odd {t : Bytes} {m : Nat} (h : m < t.length) : (mir t)[2 * m + 1]? = some (97 + bat t (t.length - 1 - m) % 16) := by
  rw [← bat_reverse h]
  exact (flat2_get t.reverse m (by rw [List.length_reverse]; exact h)).2

/-- the same letters at two places of the mirror -/
def sameL (s : List Nat) (f g w : Nat) : Prop := ∀ x, x < w → s[f + x]? = s[g + x]?

/-- an even place in the mirror where the letters are those of i's w bytes: the place that is mirrored there has the same bytes -/
theorem mir_same {t : Bytes} {q i w : Nat} (hq : q + w ≤ t.length) (hi : i + w ≤ t.length) : sameL (mir t) (2 * (t.length - (q + w))) (2 * (t.length - (i + w))) (2 * w) ↔ eqn t q i w := by
  constructor
  · intro h k hk
    apply bat_inj
    have hx : ∀ y, y < w → bat t (q + w - 1 - y) = bat t (i + w - 1 - y) := fun y hy => by
      have h0 := h (2 * y) (by omega)
      have h1 := h (2 * y + 1) (by omega)
      have a : 2 * (t.length - (q + w)) + 2 * y = 2 * (t.length - (q + w) + y) := by omega
      have b : 2 * (t.length - (i + w)) + 2 * y = 2 * (t.length - (i + w) + y) := by omega
      have c : 2 * (t.length - (q + w)) + (2 * y + 1) = 2 * (t.length - (q + w) + y) + 1 := by omega
      have d : 2 * (t.length - (i + w)) + (2 * y + 1) = 2 * (t.length - (i + w) + y) + 1 := by omega
      rw [a, b, mir_even (by omega), mir_even (by omega)] at h0
      rw [c, d, mir_odd (by omega), mir_odd (by omega)] at h1
      have e1 : t.length - 1 - (t.length - (q + w) + y) = q + w - 1 - y := by omega
      have e2 : t.length - 1 - (t.length - (i + w) + y) = i + w - 1 - y := by omega
      rw [e1, e2] at h0 h1
      injection h0 with h0
      injection h1 with h1
      omega
    have := hx (w - 1 - k) (by omega)
    have e1 : q + w - 1 - (w - 1 - k) = q + k := by omega
    have e2 : i + w - 1 - (w - 1 - k) = i + k := by omega
    rw [e1, e2] at this
    exact this.symm
  · intro h x hx
    obtain ⟨y, hy, e⟩ : ∃ y, y < w ∧ (x = 2 * y ∨ x = 2 * y + 1) := ⟨x / 2, by omega, by omega⟩
    have hb : bat t (q + w - 1 - y) = bat t (i + w - 1 - y) := by
      have := h (w - 1 - y) (by omega)
      have e1 : q + w - 1 - y = q + (w - 1 - y) := by omega
      have e2 : i + w - 1 - y = i + (w - 1 - y) := by omega
      rw [e1, e2]
      exact congrArg UInt8.toNat this.symm
    have e1 : t.length - 1 - (t.length - (q + w) + y) = q + w - 1 - y := by omega
    have e2 : t.length - 1 - (t.length - (i + w) + y) = i + w - 1 - y := by omega
    rcases e with e | e
    · have a : 2 * (t.length - (q + w)) + x = 2 * (t.length - (q + w) + y) := by omega
      have b : 2 * (t.length - (i + w)) + x = 2 * (t.length - (i + w) + y) := by omega
      rw [a, b, mir_even (by omega), mir_even (by omega), e1, e2, hb]
    · have a : 2 * (t.length - (q + w)) + x = 2 * (t.length - (q + w) + y) + 1 := by omega
      have b : 2 * (t.length - (i + w)) + x = 2 * (t.length - (i + w) + y) + 1 := by omega
      rw [a, b, mir_odd (by omega), mir_odd (by omega), e1, e2, hb]

/-- nothing begins in the middle of a byte -/
theorem mir_parity {t : Bytes} {m i w : Nat} (hw : 0 < w) (hm : 2 * m + 1 < 2 * t.length) (hi : i + w ≤ t.length) : ¬ sameL (mir t) (2 * m + 1) (2 * (t.length - (i + w))) (2 * w) := fun h => by
  have h0 : (mir t)[2 * m + 1]? = (mir t)[2 * (t.length - (i + w))]? := h 0 (by omega)
  rw [mir_odd (by omega), mir_even (by omega)] at h0
  injection h0 with h0
  have := bat_lt t (t.length - 1 - (t.length - (i + w)))
  omega

/-! ### the parts -/
theorem more_length (n : Nat) : (more n).length ≤ n / 255 + 1 := by
  unfold more
  split
  · simp
  · rw [List.length_append, List.length_replicate]
    simp
    omega
theorem spelled_length (w n : Nat) : (spelled w n).length = w := by unfold spelled; simp

theorem parts_end {t : Bytes} {from_ last k since i : Nat} (h : last < i + 12) : parts t from_ last (k + 1) since i = part ((t.take last).drop since) none := by
  rw [parts, if_pos h]
theorem parts_hit {t : Bytes} {from_ last k since i n d : Nat} (h : ¬ last < i + 12) (hb : best t from_ i (last - 5) = (n, d)) (h4 : 4 ≤ n) :
    parts t from_ last (k + 1) since i = part ((t.take i).drop since) (some (n, d)) ++ parts t from_ last k (i + n) (i + n) := by
  rw [parts, if_neg h]
  simp only [hb, if_pos h4]
theorem parts_miss {t : Bytes} {from_ last k since i : Nat} (h : ¬ last < i + 12) (hb : (best t from_ i (last - 5)).1 < 4) :
    parts t from_ last (k + 1) since i = parts t from_ last k since (i + 1) := by
  rw [parts, if_neg h]
  simp only [if_neg (show ¬ 4 ≤ (best t from_ i (last - 5)).1 by omega)]

theorem part_hit_length (l : Bytes) (n d : Nat) (h : 4 ≤ n) : (part l (some (n, d))).length ≤ 3 * (l.length + n) := by
  show (UInt8.ofNat _ :: (more l.length ++ l ++ spelled 2 d ++ more (n - 4))).length ≤ _
  have a := more_length l.length
  have b := more_length (n - 4)
  simp only [List.length_cons, List.length_append, spelled_length]
  omega
theorem part_last_length (l : Bytes) : (part l none).length ≤ 3 * l.length + 2 := by
  show (UInt8.ofNat _ :: (more l.length ++ l)).length ≤ _
  have a := more_length l.length
  simp only [List.length_cons, List.length_append]
  omega
end MP

namespace MR
open Kg18 MS MB

/-! ### numbers of several bytes -/
def lev (l : Bytes) : Nat := l.foldr (fun c n => c.toNat + 256 * n) 0
theorem le_lev (b : Bytes) (w : Nat) : le b w = lev (b.take w) := rfl
theorem lev_nil : lev [] = 0 := rfl
theorem lev_cons (c : UInt8) (l : Bytes) : lev (c :: l) = c.toNat + 256 * lev l := rfl
theorem lev_step {l : Bytes} {i : Nat} (h : i < l.length) : lev (l.drop (l.length - (i + 1))) = 256 * lev (l.drop (l.length - i)) + bat l (l.length - 1 - i) := by
  obtain ⟨c, e, f⟩ := drop_bat (b := l) (p := l.length - (i + 1)) (by omega)
  have e1 : l.length - (i + 1) + 1 = l.length - i := by omega
  have e2 : l.length - (i + 1) = l.length - 1 - i := by omega
  rw [e, lev_cons, e1, f, e2]
  omega
theorem lev_lt : ∀ l : Bytes, lev l < 256 ^ l.length
  | [] => by decide
  | c :: r => by
    have ih := lev_lt r
    have hc := c.toNat_lt
    rw [lev_cons, List.length_cons, Nat.pow_succ]
    omega
theorem le_one {b : Bytes} {p : Nat} (h : p < b.length) : le (b.drop p) 1 = bat b p := by
  obtain ⟨c, e, f⟩ := drop_bat h
  rw [e, le_lev]
  show c.toNat + 256 * 0 = _
  rw [f]
  omega
theorem le_two_lt (b : Bytes) : le b 2 < 65536 := by
  rw [le_lev]
  have h := lev_lt (b.take 2)
  have hl : (b.take 2).length ≤ 2 := by rw [List.length_take]; omega
  have : 256 ^ (b.take 2).length ≤ 256 ^ 2 := Nat.pow_le_pow_right (by decide) hl
  omega
theorem le_lt (b : Bytes) (w : Nat) : le b w < 256 ^ w := by
  rw [le_lev]
  have h := lev_lt (b.take w)
  have hl : (b.take w).length ≤ w := by rw [List.length_take]; omega
  have : 256 ^ (b.take w).length ≤ 256 ^ w := Nat.pow_le_pow_right (by decide) hl
  omega

/-! ### lengths that are carried on -/
theorem long_nil (k n : Nat) : long k n [] = none := by cases k <;> rw [long.eq_def]
theorem long_cons (k n : Nat) (c : UInt8) (r : Bytes) : long (k + 1) n (c :: r) = if c = 255 then long k (n + 255) r else some (n + c.toNat, r) := by rw [long.eq_def]
theorem long_fuel : ∀ (k k' n : Nat) (b : Bytes), b.length < k → b.length < k' → long k n b = long k' n b
  | 0, _, _, _, h, _ => by omega
  | _ + 1, 0, _, _, _, h => by omega
  | k + 1, k' + 1, n, [], _, _ => by rw [long_nil, long_nil]
  | k + 1, k' + 1, n, c :: r, h1, h2 => by
    rw [List.length_cons] at h1 h2
    rw [long_cons, long_cons, long_fuel k k' (n + 255) r (by omega) (by omega)]
def LL (n : Nat) (b : Bytes) : Option (Nat × Bytes) := long (b.length + 1) n b
theorem LL_nil (n : Nat) : LL n [] = none := long_nil _ _
theorem LL_cons (n : Nat) (c : UInt8) (r : Bytes) : LL n (c :: r) = if c = 255 then LL (n + 255) r else some (n + c.toNat, r) := by
  unfold LL
  rw [long_cons, List.length_cons, long_fuel (r.length + 1) (r.length + 1) _ _ (by omega) (by omega)]
theorem lengthOf_15 (b : Bytes) : lengthOf 15 b = LL 15 b := rfl
theorem lengthOf_lt {n : Nat} (b : Bytes) (h : n < 15) : lengthOf n b = some (n, b) := by
  unfold lengthOf
  rw [if_neg (by omega)]
theorem LL_at {n : Nat} {b : Bytes} {p : Nat} (h : p < b.length) : LL n (b.drop p) = if bat b p = 255 then LL (n + 255) (b.drop (p + 1)) else some (n + bat b p, b.drop (p + 1)) := by
  obtain ⟨c, e, f⟩ := drop_bat h
  rw [e, LL_cons, ← f]
  by_cases hc : c = 255
  · rw [if_pos hc, if_pos (by rw [hc]; rfl)]
  · rw [if_neg hc, if_neg]
    intro z
    exact hc (UInt8.toNat_inj.mp z)
theorem LL_le : ∀ {b : Bytes} {m : Nat} {w : Bytes} {n : Nat}, LL n b = some (m, w) → m ≤ n + 255 * b.length
  | [], m, w, n, h => by rw [LL_nil] at h; cases h
  | c :: r, m, w, n, h => by
    rw [LL_cons] at h
    rw [List.length_cons]
    by_cases hc : c = 255
    · rw [if_pos hc] at h
      have := LL_le h
      omega
    · rw [if_neg hc] at h
      injection h with h
      injection h with h1 h2
      have := c.toNat_lt
      omega
theorem lengthOf_bound {n : Nat} {b : Bytes} {m : Nat} {w : Bytes} (hn : n ≤ 15) (h : lengthOf n b = some (m, w)) : m ≤ 15 + 255 * b.length := by
  by_cases c : n = 15
  · rw [c, lengthOf_15] at h
    exact LL_le h
  · rw [lengthOf_lt b (by omega)] at h
    injection h with h
    injection h with h1 h2
    omega
/-! ### a part, case by case -/
section
variable {go : Bytes → Bytes → Option Bytes} {from_ most n m : Nat} {t s w r : Bytes} {c : UInt8}
theorem partU_none (h : lengthOf (c.toNat / 16) r = none) : partU go from_ most t c r = none := by
  unfold partU
  rw [h]
  rfl
theorem partU_short (h : lengthOf (c.toNat / 16) r = some (n, s)) (h1 : s.length < n) : partU go from_ most t c r = none := by
  unfold partU
  rw [h]
  simp only [Option.bind_some, if_pos h1]
theorem partU_last (h : lengthOf (c.toNat / 16) r = some (n, s)) (h1 : ¬ s.length < n) (h2 : s.drop n = []) : partU go from_ most t c r = if most < (t ++ s.take n).length then none else some (t ++ s.take n) := by
  unfold partU
  rw [h]
  simp only [Option.bind_some, if_neg h1, if_pos h2]
theorem partU_cut (h : lengthOf (c.toNat / 16) r = some (n, s)) (h1 : ¬ s.length < n) (h2 : s.drop n ≠ []) (h3 : (s.drop n).length < 2) : partU go from_ most t c r = none := by
  unfold partU
  rw [h]
  simp only [Option.bind_some, if_neg h1, if_neg h2, if_pos h3]
  split <;> rfl
theorem partU_none2 (h : lengthOf (c.toNat / 16) r = some (n, s)) (h1 : ¬ s.length < n) (h2 : s.drop n ≠ []) (h3 : ¬ (s.drop n).length < 2) (h4 : lengthOf (c.toNat % 16) ((s.drop n).drop 2) = none) : partU go from_ most t c r = none := by
  unfold partU
  rw [h]
  simp only [Option.bind_some, if_neg h1, if_neg h2, if_neg h3, h4]
  split <;> rfl
theorem partU_bad (h : lengthOf (c.toNat / 16) r = some (n, s)) (h1 : ¬ s.length < n) (h2 : s.drop n ≠ []) (h3 : ¬ (s.drop n).length < 2) (h4 : lengthOf (c.toNat % 16) ((s.drop n).drop 2) = some (m, w))
    (h5 : le (s.drop n) 2 = 0 ∨ (t ++ s.take n).length < from_ + le (s.drop n) 2 ∨ most < (t ++ s.take n).length + m + 4) : partU go from_ most t c r = none := by
  unfold partU
  rw [h]
  simp only [Option.bind_some, if_neg h1, if_neg h2, if_neg h3, h4, if_pos h5]
  split <;> rfl
theorem partU_go (h : lengthOf (c.toNat / 16) r = some (n, s)) (h1 : ¬ s.length < n) (h2 : s.drop n ≠ []) (h3 : ¬ (s.drop n).length < 2) (h4 : lengthOf (c.toNat % 16) ((s.drop n).drop 2) = some (m, w))
    (h5 : ¬ (le (s.drop n) 2 = 0 ∨ (t ++ s.take n).length < from_ + le (s.drop n) 2 ∨ most < (t ++ s.take n).length + m + 4)) : partU go from_ most t c r = go (copied (m + 4) (le (s.drop n) 2) (t ++ s.take n)) w := by
  have h6 : ¬ most < (t ++ s.take n).length := fun z => h5 (.inr (.inr (by omega)))
  unfold partU
  rw [h]
  simp only [Option.bind_some, if_neg h1, if_neg h2, if_neg h3, h4, if_neg h5, if_neg h6]
end
end MR

namespace MF
open Kg18 MS MB MP

/-- the head's flags -/
def headF (f : Nat) : Nat := 64 + (if f.testBit 3 = true then 0 else 32) + (if f.testBit 1 = true then 16 else 0) + (if f.testBit 2 = true then 8 else 0) + (if f.testBit 0 = true then 4 else 0)
theorem headF_lt (f : Nat) : headF f < 256 := by
  unfold headF
  split <;> split <;> split <;> split <;> omega
/-- what is summed of a head -/
def headD (f n : Nat) : Bytes := [UInt8.ofNat (headF f), 0x40] ++ (if f.testBit 2 = true then spelled 8 n else [])
theorem head_eq (f n : Nat) : head f n = spelled 4 0x184D2204 ++ headD f n ++ [UInt8.ofNat (Kg18.sum 0 (headD f n) / 256)] := rfl
theorem magic : spelled 4 0x184D2204 = [4, 34, 77, 24] := by decide
theorem headD_length (f n : Nat) : (headD f n).length ≤ 10 := by
  unfold headD
  rw [List.length_append]
  split
  · rw [spelled_length]; simp
  · simp
theorem head_length (f n : Nat) : (head f n).length ≤ 15 := by
  rw [head_eq, List.length_append, List.length_append, spelled_length]
  have := headD_length f n
  simp
  omega

/-! ### a block of a frame -/
def zOf (t : Bytes) (a : Nat) : Nat := min t.length (a + 65536)
def frOf (f a : Nat) : Nat := if f.testBit 3 = true then a - 65536 else a
def pOf (f : Nat) (t : Bytes) (a : Nat) : Bytes := packed t (frOf f a) a (zOf t a)
def dOf (f : Nat) (t : Bytes) (a : Nat) : Bytes := if (pOf f t a).length < zOf t a - a then pOf f t a else (t.take (zOf t a)).drop a
def toldOf (f : Nat) (t : Bytes) (a : Nat) : Nat := (dOf f t a).length + if (pOf f t a).length < zOf t a - a then 0 else 2 ^ 31
def blockA (f : Nat) (t : Bytes) (a : Nat) : Bytes := spelled 4 (toldOf f t a) ++ dOf f t a ++ if f.testBit 1 = true then spelled 4 (Kg18.sum 0 (dOf f t a)) else []
theorem block_eq (f : Nat) (t : Bytes) (i : Nat) : block f t i = blockA f t (65536 * i) := rfl
theorem dOf_length (f : Nat) (t : Bytes) (a : Nat) : (dOf f t a).length ≤ 65536 := by
  unfold dOf
  split
  · unfold zOf at *; omega
  · rw [List.length_drop, List.length_take]
    unfold zOf
    omega
theorem blockA_length (f : Nat) (t : Bytes) (a : Nat) : (blockA f t a).length ≤ 65544 := by
  have h := dOf_length f t a
  unfold blockA
  rw [List.length_append, List.length_append, spelled_length]
  split
  · rw [spelled_length]; omega
  · simp; omega

/-- a frame as far as its blocks have come -/
def sofar (f : Nat) (t : Bytes) (i : Nat) : Bytes := head f t.length ++ (List.range i).flatMap (block f t)
theorem sofar_zero (f : Nat) (t : Bytes) : sofar f t 0 = head f t.length := by
  unfold sofar
  simp
theorem sofar_succ (f : Nat) (t : Bytes) (i : Nat) : sofar f t (i + 1) = sofar f t i ++ blockA f t (65536 * i) := by
  unfold sofar
  rw [List.range_succ, List.flatMap_append, ← List.append_assoc]
  congr 1
  simp [block_eq]
theorem sofar_length (f : Nat) (t : Bytes) : ∀ i, (sofar f t i).length ≤ 15 + 65544 * i
  | 0 => by rw [sofar_zero]; exact head_length _ _
  | i + 1 => by
    have h1 := sofar_length f t i
    have h2 := blockA_length f t (65536 * i)
    rw [sofar_succ, List.length_append]
    omega
theorem framed_eq (f : Nat) (t : Bytes) : framed f t = sofar f t ((t.length + 65535) / 65536) ++ [0, 0, 0, 0] ++ if f.testBit 0 = true then spelled 4 (Kg18.sum 0 t) else [] := rfl

/-- a bit of the flags -/
theorem and_bit (f i : Nat) : f &&& 2 ^ i = if f.testBit i = true then 2 ^ i else 0 := by
  apply Nat.eq_of_testBit_eq
  intro j
  rw [Nat.testBit_and, Nat.testBit_two_pow]
  by_cases c : i = j
  · subst c
    cases h : f.testBit i
    · simp
    · simp [Nat.testBit_two_pow]
  · have e : decide (i = j) = false := decide_eq_false c
    rw [e, Bool.and_false]
    split
    · rw [Nat.testBit_two_pow, e]
    · exact (Nat.zero_testBit j).symm
end MF

namespace MG
open Kg18 MS MB MP MR

/-! ### the head -/
def magicAt (b : Bytes) : Prop := bat b 0 = 4 ∧ bat b 1 = 34 ∧ bat b 2 = 77 ∧ bat b 3 = 24
theorem magic_iff {b : Bytes} (h : 4 ≤ b.length) : le b 4 = 0x184D2204 ↔ magicAt b := by
  have e := le_four (b := b) (p := 0) (by omega)
  rw [List.drop_zero] at e
  have h0 := bat_lt b 0
  have h1 := bat_lt b 1
  have h2 := bat_lt b 2
  have h3 := bat_lt b 3
  unfold magicAt
  rw [e]
  simp only [Nat.zero_add]
  omega
def badHead (f g : Nat) : Prop := f / 64 ≠ 1 ∨ f.testBit 0 = true ∨ f.testBit 1 = true ∨ g % 16 ≠ 0 ∨ 128 ≤ g ∨ g / 16 < 4
def headN (f : Nat) : Nat := if f.testBit 3 = true then 14 else 6
def headH (b : Bytes) : Head := ⟨!(bat b 4).testBit 5, (bat b 4).testBit 4, if (bat b 4).testBit 3 = true then some (le (b.drop 6) 8) else none, (bat b 4).testBit 2, 2 ^ (8 + 2 * (bat b 5 / 16))⟩
theorem head_short {b : Bytes} (h : b.length < 7 ∨ ¬ magicAt b) : headOf b = .error 1 := by
  unfold headOf
  rw [if_pos]
  by_cases c : b.length < 7
  · exact .inl c
  · rcases h with h | h
    · exact .inl h
    · exact .inr fun z => h ((magic_iff (by omega)).mp z)
theorem head_go {b : Bytes} (h1 : ¬ b.length < 7) (h2 : magicAt b) : ¬ (b.length < 7 ∨ le b 4 ≠ 0x184D2204) := fun z => z.elim h1 fun z => z ((magic_iff (by omega)).mpr h2)
theorem head_bad {b : Bytes} (h1 : ¬ b.length < 7) (h2 : magicAt b) (h3 : badHead (bat b 4) (bat b 5)) : headOf b = .error 2 := by
  unfold headOf
  rw [if_neg (head_go h1 h2)]
  exact if_pos h3
theorem head_cut {b : Bytes} (h1 : ¬ b.length < 7) (h2 : magicAt b) (h3 : ¬ badHead (bat b 4) (bat b 5)) (h4 : b.length ≤ headN (bat b 4)) : headOf b = .error 1 := by
  unfold headOf
  rw [if_neg (head_go h1 h2)]
  exact (if_neg h3).trans (if_pos h4)
theorem head_sum {b : Bytes} (h1 : ¬ b.length < 7) (h2 : magicAt b) (h3 : ¬ badHead (bat b 4) (bat b 5)) (h4 : ¬ b.length ≤ headN (bat b 4)) (h5 : bat b (headN (bat b 4)) ≠ Kg18.sum 0 ((b.take (headN (bat b 4))).drop 4) / 256 % 256) : headOf b = .error 3 := by
  unfold headOf
  rw [if_neg (head_go h1 h2)]
  exact (if_neg h3).trans ((if_neg h4).trans (if_pos h5))
theorem head_ok {b : Bytes} (h1 : ¬ b.length < 7) (h2 : magicAt b) (h3 : ¬ badHead (bat b 4) (bat b 5)) (h4 : ¬ b.length ≤ headN (bat b 4)) (h5 : ¬ bat b (headN (bat b 4)) ≠ Kg18.sum 0 ((b.take (headN (bat b 4))).drop 4) / 256 % 256) : headOf b = .ok (headH b, b.drop (headN (bat b 4) + 1)) := by
  unfold headOf
  rw [if_neg (head_go h1 h2)]
  exact (if_neg h3).trans ((if_neg h4).trans (if_neg h5))
/-- how much a block holds, by the other byte -/
def bsz (g : Nat) : Option Nat := if g = 64 then some 65536 else if g = 80 then some 262144 else if g = 96 then some 1048576 else if g = 112 then some 4194304 else none
theorem flags_iff : ∀ f, f < 256 → ((f &&& 195 = 64) ↔ ¬ (f / 64 ≠ 1 ∨ f.testBit 0 = true ∨ f.testBit 1 = true)) := by decide +kernel
theorem bsz_iff : ∀ g, g < 256 → ((bsz g).isSome = true ↔ ¬ (g % 16 ≠ 0 ∨ 128 ≤ g ∨ g / 16 < 4)) := by decide +kernel
theorem bsz_val : ∀ g, g < 256 → bsz g = none ∨ bsz g = some (2 ^ (8 + 2 * (g / 16))) := by decide +kernel
theorem bsz_le : ∀ g, g < 256 → bsz g = none ∨ 2 ^ (8 + 2 * (g / 16)) ≤ 4194304 := by decide +kernel
theorem good_iff {f g : Nat} (hf : f < 256) (hg : g < 256) : ¬ badHead f g ↔ (f &&& 195 = 64) ∧ (bsz g).isSome = true := by
  rw [flags_iff f hf, bsz_iff g hg]
  unfold badHead
  constructor
  · intro h
    exact ⟨fun z => h (by rcases z with z | z | z; exact .inl z; exact .inr (.inl z); exact .inr (.inr (.inl z))), fun z => h (.inr (.inr (.inr z)))⟩
  · rintro ⟨h1, h2⟩ z
    rcases z with z | z | z | z
    · exact h1 (.inl z)
    · exact h1 (.inr (.inl z))
    · exact h1 (.inr (.inr z))
    · exact h2 z

/-! ### spelling what was read -/
theorem spelled_lev : ∀ (l : Bytes), spelled l.length (lev l) = l
  | [] => rfl
  | c :: r => by
    have ih := spelled_lev r
    have hc := c.toNat_lt
    apply List.ext_getElem?
    intro i
    by_cases h : i < (c :: r).length
    · unfold spelled
      rw [List.getElem?_map, List.getElem?_range h, lev_cons]
      show some (UInt8.ofNat ((c.toNat + 256 * lev r) / 256 ^ i)) = _
      cases i with
      | zero =>
        show some (UInt8.ofNat ((c.toNat + 256 * lev r) / 1)) = some c
        rw [Nat.div_one]
        congr 1
        apply UInt8.toNat_inj.mp
        rw [UInt8.toNat_ofNat']
        omega
      | succ i =>
        have e : (c.toNat + 256 * lev r) / 256 ^ (i + 1) = lev r / 256 ^ i := by
          rw [Nat.pow_succ, Nat.mul_comm (256 ^ i) 256, ← Nat.div_div_eq_div_mul]
          congr 1
          omega
        rw [e]
        have hi : i < r.length := by simpa using h
        have q : (spelled r.length (lev r))[i]? = r[i]? := by rw [ih]
        unfold spelled at q
        rw [List.getElem?_map, List.getElem?_range hi] at q
        simpa using q
    · rw [List.getElem?_eq_none (by rw [spelled_length]; omega), List.getElem?_eq_none (by omega)]
theorem spelled_le {b : Bytes} {w : Nat} (h : w ≤ b.length) : spelled w (le b w) = b.take w := by
  have e := spelled_lev (b.take w)
  rw [List.length_take, Nat.min_eq_left h] at e
  exact e

/-! ### one block -/
def stepB (h : Head) (most : Nat) (t b : Bytes) (s : Nat) : Except Nat (Bytes × Bytes) :=
  if h.most < s % 2 ^ 31 ∨ b.length < s % 2 ^ 31 ∨ (h.sums = true ∧ (b.drop (s % 2 ^ 31)).length < 4) then .error 4
  else if h.sums = true ∧ le (b.drop (s % 2 ^ 31)) 4 ≠ Kg18.sum 0 (b.take (s % 2 ^ 31)) then .error 3
  else if 2 ^ 31 ≤ s then (if most < t.length + s % 2 ^ 31 then .error 6 else .ok (t ++ b.take (s % 2 ^ 31), if h.sums = true then (b.drop (s % 2 ^ 31)).drop 4 else b.drop (s % 2 ^ 31)))
  else match U (if h.linked = true then t.length - 65536 else t.length) (t.length + h.most) t (b.take (s % 2 ^ 31)) with
    | none => .error 5
    | some u => if most < u.length then .error 6 else .ok (u, if h.sums = true then (b.drop (s % 2 ^ 31)).drop 4 else b.drop (s % 2 ^ 31))

theorem blocks_step {h : Head} {most k : Nat} {t b : Bytes} : blocks h most (k + 1) t b = if b.length < 4 then .error 4 else if le b 4 = 0 then .ok (t, b.drop 4) else
    match stepB h most t (b.drop 4) (le b 4) with
    | .error e => .error e
    | .ok (t', r) => blocks h most k t' r := by
  rw [blocks]
  by_cases c1 : b.length < 4
  · rw [if_pos c1, if_pos c1]
  rw [if_neg c1, if_neg c1]
  by_cases c2 : le b 4 = 0
  · simp only [if_pos c2]
  simp only [if_neg c2]
  have e1 : b.drop (4 + le b 4 % 2 ^ 31) = (b.drop 4).drop (le b 4 % 2 ^ 31) := by rw [List.drop_drop]
  have e2 : (b.drop 4).length = b.length - 4 := List.length_drop
  unfold stepB
  rw [e1]
  by_cases c3 : h.most < le b 4 % 2 ^ 31 ∨ (b.drop 4).length < le b 4 % 2 ^ 31 ∨ (h.sums = true ∧ ((b.drop 4).drop (le b 4 % 2 ^ 31)).length < 4)
  · have c3' : h.most < le b 4 % 2 ^ 31 ∨ b.length < 4 + le b 4 % 2 ^ 31 ∨ (h.sums = true ∧ ((b.drop 4).drop (le b 4 % 2 ^ 31)).length < 4) := by
      rcases c3 with c | c | c
      · exact .inl c
      · exact .inr (.inl (by omega))
      · exact .inr (.inr c)
    rw [if_pos c3, if_pos c3']
  have c3' : ¬ (h.most < le b 4 % 2 ^ 31 ∨ b.length < 4 + le b 4 % 2 ^ 31 ∨ (h.sums = true ∧ ((b.drop 4).drop (le b 4 % 2 ^ 31)).length < 4)) := fun z => by
    rcases z with c | c | c
    · exact c3 (.inl c)
    · exact c3 (.inr (.inl (by omega)))
    · exact c3 (.inr (.inr c))
  rw [if_neg c3, if_neg c3']
  by_cases c4 : h.sums = true ∧ le ((b.drop 4).drop (le b 4 % 2 ^ 31)) 4 ≠ Kg18.sum 0 ((b.drop 4).take (le b 4 % 2 ^ 31))
  · rw [if_pos c4, if_pos c4]
  rw [if_neg c4, if_neg c4]
  by_cases c5 : 2 ^ 31 ≤ le b 4
  · simp only [if_pos c5]
    by_cases c6 : most < t.length + le b 4 % 2 ^ 31
    · rw [if_pos c6, if_pos c6]
    · rw [if_neg c6, if_neg c6]
  simp only [if_neg c5]
  have hd : ((b.drop 4).take (le b 4 % 2 ^ 31)).length = le b 4 % 2 ^ 31 := by
    rw [List.length_take]
    omega
  have eU : unpacked (le b 4 % 2 ^ 31 + 1) (if h.linked = true then t.length - 65536 else t.length) (t.length + h.most) t ((b.drop 4).take (le b 4 % 2 ^ 31)) = U (if h.linked = true then t.length - 65536 else t.length) (t.length + h.most) t ((b.drop 4).take (le b 4 % 2 ^ 31)) := by
    unfold U
    rw [hd]
  rw [eU]
  cases U (if h.linked = true then t.length - 65536 else t.length) (t.length + h.most) t ((b.drop 4).take (le b 4 % 2 ^ 31)) with
  | none => rfl
  | some u =>
    by_cases c6 : most < u.length
    · simp only [if_pos c6]
    · simp only [if_neg c6]

theorem stepB_rest {h : Head} {most : Nat} {t b : Bytes} {s : Nat} {t' r : Bytes} (e : stepB h most t b s = .ok (t', r)) : r.length ≤ b.length := by
  have hr : (if h.sums = true then (b.drop (s % 2 ^ 31)).drop 4 else b.drop (s % 2 ^ 31)).length ≤ b.length := by
    split
    · rw [List.length_drop, List.length_drop]; omega
    · rw [List.length_drop]; omega
  unfold stepB at e
  split at e
  · cases e
  split at e
  · cases e
  split at e
  · split at e
    · cases e
    · injection e with e
      injection e with e1 e2
      rw [← e2]
      exact hr
  · split at e
    · cases e
    · split at e
      · cases e
      · injection e with e
        injection e with e1 e2
        rw [← e2]
        exact hr

theorem blocks_fuel {h : Head} {most : Nat} : ∀ (k k' : Nat) (t b : Bytes), b.length < k → b.length < k' → blocks h most k t b = blocks h most k' t b
  | 0, _, _, _, h, _ => by omega
  | _ + 1, 0, _, _, _, h => by omega
  | k + 1, k' + 1, t, b, h1, h2 => by
    rw [blocks_step, blocks_step]
    by_cases c1 : b.length < 4
    · rw [if_pos c1, if_pos c1]
    rw [if_neg c1, if_neg c1]
    by_cases c2 : le b 4 = 0
    · rw [if_pos c2, if_pos c2]
    rw [if_neg c2, if_neg c2]
    cases e : stepB h most t (b.drop 4) (le b 4) with
    | error e => rfl
    | ok p =>
      obtain ⟨t', r⟩ := p
      have hr := stepB_rest e
      rw [List.length_drop] at hr
      exact blocks_fuel k k' t' r (by omega) (by omega)

/-- blocks up to the end's mark -/
def BL (h : Head) (most : Nat) (t b : Bytes) : Except Nat (Bytes × Bytes) := blocks h most (b.length + 1) t b
theorem BL_short {h : Head} {most : Nat} {t b : Bytes} (c : b.length < 4) : BL h most t b = .error 4 := by
  unfold BL
  rw [blocks_step, if_pos c]
theorem BL_end {h : Head} {most : Nat} {t b : Bytes} (c : ¬ b.length < 4) (c2 : le b 4 = 0) : BL h most t b = .ok (t, b.drop 4) := by
  unfold BL
  rw [blocks_step, if_neg c, if_pos c2]
theorem BL_err {h : Head} {most e : Nat} {t b : Bytes} (c : ¬ b.length < 4) (c2 : ¬ le b 4 = 0) (c3 : stepB h most t (b.drop 4) (le b 4) = .error e) : BL h most t b = .error e := by
  unfold BL
  rw [blocks_step, if_neg c, if_neg c2, c3]
theorem BL_go {h : Head} {most : Nat} {t b t' r : Bytes} (c : ¬ b.length < 4) (c2 : ¬ le b 4 = 0) (c3 : stepB h most t (b.drop 4) (le b 4) = .ok (t', r)) : BL h most t b = BL h most t' r := by
  unfold BL
  rw [blocks_step, if_neg c, if_neg c2, c3]
  have hr := stepB_rest c3
  rw [List.length_drop] at hr
  exact blocks_fuel _ _ _ _ (by omega) (by omega)

/-! ### how far a linked block reaches -/
theorem U_from {fr mx : Nat} : ∀ (n : Nat) (b t : Bytes), b.length ≤ n → (fr = 0 ∨ fr + 65536 ≤ t.length) → U fr mx t b = U 0 mx t b
  | n, [], t, _, _ => by rw [U_nil, U_nil]
  | 0, c :: r, t, h, _ => by simp at h
  | n + 1, c :: r, t, hn, hf => by
    rw [U_cons, U_cons]
    have hn' : r.length ≤ n := by simpa using hn
    cases e : lengthOf (c.toNat / 16) r with
    | none => rw [partU_none e, partU_none e]
    | some p =>
      obtain ⟨k, s⟩ := p
      have hs := lengthOf_le e
      by_cases c1 : s.length < k
      · rw [partU_short e c1, partU_short e c1]
      by_cases c2 : s.drop k = []
      · rw [partU_last e c1 c2, partU_last e c1 c2]
      by_cases c3 : (s.drop k).length < 2
      · rw [partU_cut e c1 c2 c3, partU_cut e c1 c2 c3]
      cases e2 : lengthOf (c.toNat % 16) ((s.drop k).drop 2) with
      | none => rw [partU_none2 e c1 c2 c3 e2, partU_none2 e c1 c2 c3 e2]
      | some p2 =>
        obtain ⟨m, w⟩ := p2
        have hw := lengthOf_le e2
        rw [List.length_drop, List.length_drop] at hw
        have hd := le_two_lt (s.drop k)
        have hl : (t ++ s.take k).length = t.length + (s.take k).length := List.length_append
        by_cases c5 : le (s.drop k) 2 = 0 ∨ (t ++ s.take k).length < fr + le (s.drop k) 2 ∨ mx < (t ++ s.take k).length + m + 4
        · have c5' : le (s.drop k) 2 = 0 ∨ (t ++ s.take k).length < 0 + le (s.drop k) 2 ∨ mx < (t ++ s.take k).length + m + 4 := by omega
          rw [partU_bad e c1 c2 c3 e2 c5, partU_bad e c1 c2 c3 e2 c5']
        · have c5' : ¬ (le (s.drop k) 2 = 0 ∨ (t ++ s.take k).length < 0 + le (s.drop k) 2 ∨ mx < (t ++ s.take k).length + m + 4) := by omega
          rw [partU_go e c1 c2 c3 e2 c5, partU_go e c1 c2 c3 e2 c5']
          refine U_from n w _ (by omega) ?_
          rw [copied_length]
          omega
end MG

/-! ### what all the laws share -/
namespace C
open PySem L2 Kg18 MS
/-- bytes as the heap holds them -/
def bv (b : Bytes) : List V := (MU.zs b).map V.int
theorem bv_length (b : Bytes) : (bv b).length = b.length := by unfold bv; rw [List.length_map, MU.zs_length]
theorem bv_get {b : Bytes} {p : Nat} (h : p < b.length) : (bv b)[p]? = some (.int (bat b p : Nat)) := by
  unfold bv MU.zs bat
  rw [List.getElem?_map, List.getElem?_map, List.getElem?_eq_getElem h, List.getD_eq_getElem?_getD, List.getElem?_eq_getElem h]
  rfl
theorem bv_at {b : Bytes} {p : Nat} {z : Int} (e : z = (p : Int)) (h : p < b.length) : atI (bv b) z = some (.int (bat b p : Nat)) := at_of e (bv_get h)
theorem qint {Q : VK} {x y : Int} {H : Hp} (h : Q (.int y) H) (e : x = y) : Q (.int x) H := by rw [e]; exact h
theorem qv {Q : VK} {v : V} {y : Int} {H : Hp} (e : v = .int y) (h : Q (.int y) H) : Q v H := by rw [e]; exact h
theorem bv_append (a b : Bytes) : bv (a ++ b) = bv a ++ bv b := by unfold bv MU.zs; rw [List.map_append, List.map_append]
theorem bv_take (b : Bytes) (n : Nat) : (bv b).take n = bv (b.take n) := by unfold bv MU.zs; rw [List.map_take, List.map_take]
theorem bv_drop (b : Bytes) (n : Nat) : (bv b).drop n = bv (b.drop n) := by unfold bv MU.zs; rw [List.map_drop, List.map_drop]
theorem same_new {H : Hp} {p : Addr} (h : H p = none) (o : HO) : Same H (upd H p o) := fun b u q => by rw [upd_ne (ne_of_none q h)]; exact q
theorem line {n : Nat} (h : n ≤ 16777216) : n ≤ sizeLine := by rw [sizeLine_eq]; exact h
/-- a whole number of the top's -/
theorem pe_gint {X : Cx} {x : Str} {n : Int} {pos : Pos} (hg : Gl X x) (hm : ∃ t, X.mg x = some (.int n t)) (hd : (x == ("__debug__" : Str)) = false := by decide) : PE X (.Name x pos) (tC (.int n)) := by
  obtain ⟨t, h⟩ := hm
  exact pe_glob hg h ⟨t, rfl⟩ hd
abbrev GInt (mg : Str → Option Value) (x : Str) (n : Int) : Prop := ∃ t, mg x = some (.int n t)
theorem shl_ok {x : Nat} {k : Int} (h0 : 0 ≤ k) (h1 : k ≤ 64) (hx : x < 2 ^ 64) : CPow (x : Int) k := ⟨h0, by omega, by omega⟩

theorem p32 : (0 : Int) < 4294967296 := by decide
theorem nn (n : Nat) : (0 : Int) ≤ OfNat.ofNat n := Int.natCast_nonneg n
/-- an operator's answer, told by an equation -/
def rE (C : Int → Int → Prop) (g : Int → Int → Int) : R2 := fun x y H Q => ∃ k i j, x = .int i ∧ y = .int j ∧ C i j ∧ g i j = k ∧ Q (.int k) H
def rE0 (g : Int → Int → Int) : R2 := fun x y H Q => ∃ k i j, x = .int i ∧ y = .int j ∧ g i j = k ∧ Q (.int k) H
theorem eI {X : Cx} {f : Value → Value → Sem Value} {C : Int → Int → Prop} {g : Int → Int → Int} (h : OpR X f (rI C fun i j => .int (g i j))) : OpR X f (rE C g) := by
  intro pins s σ H x y u v Q I rx ry hq
  obtain ⟨k, i, j, e1, e2, c, e, q⟩ := hq
  subst e
  exact h pins s σ H x y u v Q I rx ry ⟨i, j, e1, e2, c, q⟩
theorem eI0 {X : Cx} {f : Value → Value → Sem Value} {g : Int → Int → Int} (h : OpR X f (rI0 fun i j => .int (g i j))) : OpR X f (rE0 g) := by
  intro pins s σ H x y u v Q I rx ry hq
  obtain ⟨k, i, j, e1, e2, e, q⟩ := hq
  subst e
  exact h pins s σ H x y u v Q I rx ry ⟨i, j, e1, e2, q⟩
/-- the length of bytes -/
theorem call_len_bv {X : Cx} : CallR X (.builtin "len") (fun xs H Q => ∃ p b, xs = [.ref p] ∧ SqL X.K H p (bv b) ∧ Q (.int (b.length : Nat)) H) := by
  intro pins s σ H xs us Q I r h
  obtain ⟨p, b, e, hS, q⟩ := h
  exact call_len_seq pins s σ H xs us Q I r ⟨p, bv b, e, .inl hS, by rw [bv_length]; exact q⟩
/-- what holds behind a statement, whatever way it went -/
def tCut (t : TS) : TS := fun D σ H => ∃ J : St → Hp → Prop, t { D with nx := J } σ H ∧ ∀ σ' H', J σ' H' → D.nx σ' H'
theorem ps_cut {X : Cx} {st : Stmt} {t : TS} (h : PS X st t) : PS X st (tCut t) := by
  intro pins s σ H D I hw
  obtain ⟨J, h1, h2⟩ := hw
  refine thn (h pins s σ H _ I h1) fun f s' q => ?_
  cases f with
  | next =>
    obtain ⟨σ', H', I', j⟩ := q
    exact ⟨σ', H', I', h2 _ _ j⟩
  | brk => exact q
  | cont => exact q
  | ret u => exact q
/-! the sum's arithmetic -/
theorem rot_or {x k : Nat} (hx : x < 4294967296) (h0 : 0 < k) (h1 : k < 32) :
    Builtin.bitOr ((x : Int) * 2 ^ ((k : Int)).toNat) ((x : Int) / 2 ^ ((32 - (k : Int))).toNat) % 4294967296 = ((rotl x k : Nat) : Int) := by
  have e1 : ((k : Int)).toNat = k := rfl
  have e2 : ((32 - (k : Int))).toNat = 32 - k := by omega
  have e3 : (x : Int) / 2 ^ (32 - k) = ((x / 2 ^ (32 - k) : Nat) : Int) := by
    rw [Int.natCast_ediv, Int.natCast_pow]
    rfl
  have hs : 2 ^ (32 - k) * 2 ^ k = 4294967296 := by
    rw [← Nat.pow_add]
    have : 32 - k + k = 32 := by omega
    rw [this]
  have hlt : x / 2 ^ (32 - k) < 2 ^ k := by
    apply Nat.div_lt_of_lt_mul
    rw [hs]
    exact hx
  rw [e1, e2, e3]
  have hlt' : ((x / 2 ^ (32 - k) : Nat) : Int) < 2 ^ k := by
    have q : ((x / 2 ^ (32 - k) : Nat) : Int) < ((2 ^ k : Nat) : Int) := Int.ofNat_lt.mpr hlt
    rw [Int.natCast_pow] at q
    exact q
  rw [Bits.bitOr_join' (Int.natCast_nonneg _) hlt' (Int.natCast_nonneg _)]
  unfold rotl
  have hM : M = 4294967296 := by decide
  rw [hM, Int.natCast_emod, Int.natCast_add, Int.natCast_mul, Int.natCast_pow, Int.add_comm]
  rfl
theorem shr_nat {x : Nat} {k : Nat} : (x : Int) / 2 ^ ((k : Int)).toNat = ((x / 2 ^ k : Nat) : Int) := by
  have e1 : ((k : Int)).toNat = k := rfl
  rw [e1, Int.natCast_ediv, Int.natCast_pow]
  rfl
theorem xor_nat {x y : Nat} : Builtin.bitXor (x : Int) (y : Int) = ((x ^^^ y : Nat) : Int) := by
  rw [Bits.bitXor_pp (Int.natCast_nonneg _) (Int.natCast_nonneg _)]
  rfl
/-- the four sums while one stripe is taken: the first j are new -/
def L4 (a n : Nat → Int) (j : Nat) : List Int := [if 0 < j then n 0 else a 0, if 1 < j then n 1 else a 1, if 2 < j then n 2 else a 2, if 3 < j then n 3 else a 3]
theorem L4_get {a n : Nat → Int} {j : Nat} (h : j < 4) : (L4 a n j)[j]? = some (a j) := by
  match j, h with
  | 0, _ => rfl
  | 1, _ => rfl
  | 2, _ => rfl
  | 3, _ => rfl
theorem L4_set {a n : Nat → Int} {j : Nat} (h : j < 4) : (L4 a n j).set j (n j) = L4 a n (j + 1) := by
  match j, h with
  | 0, _ => rfl
  | 1, _ => rfl
  | 2, _ => rfl
  | 3, _ => rfl
def sel (s : S4) : Nat → Nat
  | 0 => s.1
  | 1 => s.2.1
  | 2 => s.2.2.1
  | _ => s.2.2.2
theorem sel0 (s : S4) : sel s 0 = s.1 := rfl
theorem sel1 (s : S4) : sel s 1 = s.2.1 := rfl
theorem sel2 (s : S4) : sel s 2 = s.2.2.1 := rfl
theorem sel3 (s : S4) : sel s 3 = s.2.2.2 := rfl
theorem one0 (s : S4) (b : Bytes) : (one s b).1 = round s.1 (le b 4) := by unfold one; exact Eq.refl _
theorem one1 (s : S4) (b : Bytes) : (one s b).2.1 = round s.2.1 (le (b.drop 4) 4) := by unfold one; exact Eq.refl _
theorem one2 (s : S4) (b : Bytes) : (one s b).2.2.1 = round s.2.2.1 (le (b.drop 8) 4) := by unfold one; exact Eq.refl _
theorem one3 (s : S4) (b : Bytes) : (one s b).2.2.2 = round s.2.2.2 (le (b.drop 12) 4) := by unfold one; exact Eq.refl _
theorem sel_one {s : S4} {b : Bytes} {j : Nat} (h : j < 4) : sel (one s b) j = round (sel s j) (le (b.drop (4 * j)) 4) := by
  match j, h with
  | 0, _ => rw [sel0, sel0, one0, Nat.mul_zero, List.drop_zero]
  | 1, _ => rw [sel1, sel1, one1]
  | 2, _ => rw [sel2, sel2, one2]
  | 3, _ => rw [sel3, sel3, one3]
theorem sel_one_lt {s : S4} {b : Bytes} {j : Nat} (h : j < 4) : sel (one s b) j < 4294967296 := by
  rw [sel_one h]
  exact round_lt _ _
theorem rg16 {n : Nat} (h : 16 ≤ n) (h2 : n ≤ 16777216) : RgC 0 ((n : Int) - 15) 16 (n / 16) := by
  have e : Builtin.Range.rangeSize 0 ((n : Int) - 15) 16 = ((n / 16 : Nat) : Int) := by
    unfold Builtin.Range.rangeSize
    rw [if_pos (by decide), if_pos (by omega)]
    omega
  refine ⟨by decide, by decide, ?_, e⟩
  unfold Builtin.Range.small
  rw [e]
  simp only [Builtin.Range.rangeFitsLong, Bool.and_eq_true, Bool.or_eq_true, decide_eq_true_eq, beq_iff_eq, show (16 : Int) > 0 by decide, if_true]
  omega
end C

/-! ### more of what the laws share -/
namespace C
open PySem L2 Kg18 MS
/-- the turns of reversed(list) -/
theorem for_rev {K : PySem.W.Frag} {a : Addr} {xs : List V} {g : TG} {tb : TS} {D : Ends} {σ : St} {H : Hp} (Pv : Nat → St → Hp → Prop) (h0 : Pv 0 σ H) (hl : ∀ i σ H, i ≤ xs.length → Pv i σ H → SqL K H a xs)
    (hs : ∀ i x σ H, i < xs.length → xs[xs.length - 1 - i]? = some x → Pv i σ H → g x σ H fun σ2 H2 => tb { D with nx := Pv (i + 1), ct := Pv (i + 1), bk := D.nx } σ2 H2) (hd : ∀ σ H, Pv xs.length σ H → D.nx σ H) :
    ∃ W : Nat → Nat → St → Hp → Prop, (∃ m, W 0 m σ H) ∧ ∀ i m σ H, W i m σ H →
      ((Itv K a xs.length).stop i H ∧ D.nx σ H) ∨ ((Itv K a xs.length).go i H ∧ ∃ N : St → Hp → Prop, (∀ σ' H', N σ' H' → ∃ m', m' < m ∧ W (i + 1) m' σ' H') ∧ ∀ x H', (Itv K a xs.length).yld i H x H' → g x σ H' fun σ2 H2 => tb { D with nx := N, ct := N, bk := D.nx } σ2 H2) := by
  refine ⟨fun i m σ H => m = xs.length - i ∧ i ≤ xs.length ∧ Pv i σ H, ⟨xs.length, by simp, Nat.zero_le _, h0⟩, ?_⟩
  rintro i m σ H ⟨rfl, hi, p⟩
  have q := hl i σ H hi p
  by_cases hlt : i < xs.length
  · refine .inr ⟨⟨hlt, xs, xs[xs.length - 1 - i]'(by omega), q, List.getElem?_eq_getElem (by omega)⟩, Pv (i + 1), fun σ' H' p' => ⟨xs.length - (i + 1), by omega, rfl, hlt, p'⟩, fun x H' y => ?_⟩
    obtain ⟨e, y⟩ := y
    subst e
    exact hs i x σ _ hlt (y xs q) p
  · have e : i = xs.length := by omega
    subst e
    exact .inl ⟨Nat.le_refl _, hd σ H p⟩
/-- all stands but what lies at one place -/
def But (r : Addr) (H H' : Hp) : Prop := ∀ c o, H c = some o → c ≠ r → H' c = some o
theorem But.refl (r : Addr) (H : Hp) : But r H H := fun _ _ h _ => h
theorem But.trans {r : Addr} {H H1 H2 : Hp} (a : But r H H1) (b : But r H1 H2) : But r H H2 := fun c o h n => b c o (a c o h n) n
theorem But.of {r : Addr} {H H' : Hp} (a : Same H H') : But r H H' := fun c o h _ => a c o h
theorem But.upd {r : Addr} {H : Hp} (o : HO) : But r H (upd H r o) := fun c u h n => by rw [upd_ne n]; exact h
theorem But.free {r : Addr} {H H' : Hp} (a : But r H H') {l : Addr} (h : H' l = none) (n : l ≠ r) : H l = none := by
  cases e : H l with
  | none => rfl
  | some o => rw [a l o e n] at h; cases h
/-- a list stays where something else was changed -/
theorem But.seq {K : PySem.W.Frag} {r : Addr} {H H' : Hp} (a : But r H H') {l : Addr} {xs : List V} (h : SqL K H l xs) (n : l ≠ r) : SqL K H' l xs := by
  rcases h with h | h
  · rcases h with h | ⟨o, h⟩
    · exact .inl (.inl (a l _ h n))
    · exact .inl (.inr ⟨o, a l _ h n⟩)
  · exact .inr h
/-- whatever is done at t, at a stands this list -/
def Fix (K : PySem.W.Frag) (H : Hp) (a t : Addr) (xs : List V) : Prop := ∀ H', But t H H' → SqL K H' a xs
theorem Fix.of {K : PySem.W.Frag} {H : Hp} {a t : Addr} {xs : List V} (h : SqL K H a xs) (n : a ≠ t) : Fix K H a t xs := fun _ k => k.seq h n
theorem Fix.new {K : PySem.W.Frag} {H0 H : Hp} {a t : Addr} {xs : List V} (h : SqL K H0 a xs) (n : H0 t = none) (s : Same H0 H) : Fix K H a t xs := fun H' k => by
  rcases h with h | h
  · rcases h with h | ⟨o, h⟩
    · exact .inl (.inl (k a _ (s _ _ h) (ne_of_none h n)))
    · exact .inl (.inr ⟨o, k a _ (s _ _ h) (ne_of_none h n)⟩)
  · exact .inr h
theorem Fix.seq {K : PySem.W.Frag} {H : Hp} {a t : Addr} {xs : List V} (h : Fix K H a t xs) : SqL K H a xs := h H (But.refl _ _)
theorem Fix.then {K : PySem.W.Frag} {H H' : Hp} {a t : Addr} {xs : List V} (h : Fix K H a t xs) (k : But t H H') : Fix K H' a t xs := fun H2 k2 => h H2 (k.trans k2)
/-- .. an object -/
theorem But.seqI {K : PySem.W.Frag} {r : Addr} {H H' : Hp} (a : But r H H') {l C dx : Addr} {fs : List (Str × V)} {xs : List V} (hr : H r = some (.ins C dx fs)) (h : SqL K H l xs) : SqL K H' l xs := by
  rcases h with h | h
  · rcases h with h | ⟨o, h⟩
    · exact .inl (.inl (a l _ h (ne_of h hr (by intro z; cases z))))
    · exact .inl (.inr ⟨o, a l _ h (ne_of h hr (by intro z; cases z))⟩)
  · exact .inr h
/-- what was made since does not count -/
theorem But.skip {t r : Addr} {H H1 H2 : Hp} (a : But t H H1) (hr : H r = none) (b : But r H1 H2) : But t H H2 := fun c o h n => b c o (a c o h n) (ne_of_none h hr)
theorem But.same {t : Addr} {H H1 H2 : Hp} (a : But t H H1) (b : Same H1 H2) : But t H H2 := fun c o h n => b c o (a c o h n)
theorem and15 {x : Nat} : Builtin.bitAnd (x : Int) 15 = ((x % 16 : Nat) : Int) := by
  have e := Bits.bitAnd_mask (x := (x : Int)) 4 (Int.natCast_nonneg _)
  have e1 : ((2 : Int) ^ 4 - 1) = 15 := by decide
  have e2 : ((2 : Int) ^ 4) = 16 := by decide
  rw [e1, e2] at e
  rw [e]
  omega
theorem shr4 {x : Nat} : (x : Int) / 2 ^ ((4 : Int)).toNat = ((x / 16 : Nat) : Int) := by
  have e : (x : Int) / 2 ^ ((4 : Int)).toNat = ((x / 2 ^ 4 : Nat) : Int) := shr_nat (k := 4)
  exact e
theorem cut_bv {b : Bytes} {lo hi : Int} {p q : Nat} (e1 : lo = (p : Int)) (e2 : hi = (q : Int)) (h1 : p ≤ q) (h2 : q ≤ b.length) : cutV (bv b) (some lo) (some hi) = bv ((b.drop p).take (q - p)) := by
  unfold cutV
  rw [e1, e2, HT.sIx_nat, HT.sIx_nat, bv_length, Nat.min_eq_left h2, Nat.min_eq_left (Nat.le_trans h1 h2), bv_drop, bv_take]
theorem cut_from {b : Bytes} {lo : Int} {p : Nat} (e1 : lo = (p : Int)) (h1 : p ≤ b.length) : cutV (bv b) (some lo) none = bv (b.drop p) := by
  unfold cutV
  rw [e1, HT.sIx_nat, HT.sIx_none, bv_length, Nat.min_eq_left h1, bv_drop, List.take_of_length_le]
  rw [bv_length, List.length_drop]
  exact Nat.le_refl _
theorem cut_to {b : Bytes} {hi : Int} {q : Nat} (e2 : hi = (q : Int)) (h2 : q ≤ b.length) : cutV (bv b) none (some hi) = bv (b.take q) := by
  unfold cutV
  rw [e2, HT.sIx_nat, HT.sIx_none, bv_length, Nat.min_eq_left h2, List.drop_zero, Nat.sub_zero, bv_take]
theorem bv_rep (u : Bytes) (k : Nat) : (List.replicate k (bv u)).flatten = bv (List.replicate k u).flatten := by
  induction k with
  | zero => rfl
  | succ k ih => rw [List.replicate_succ, List.flatten_cons, ih, List.replicate_succ, List.flatten_cons, bv_append]
end C

/-! ### what packing shares -/
namespace C
open PySem L2 Kg18 MS
theorem boot_mx : bootBuiltins "max" = some (.builtin "max") := by decide +kernel
theorem boot_mn : bootBuiltins "min" = some (.builtin "min") := by decide +kernel
theorem call_minE {X : Cx} (hc : X.calm = true) : CallR X (.builtin "min") (fun xs H Q => ∃ k i j, xs = [.int i, .int j] ∧ min i j = k ∧ Q (.int k) H) := by
  intro pins s σ H xs us Q I r h
  obtain ⟨k, i, j, e, ek, q⟩ := h
  subst ek
  refine call_min2 hc pins s σ H xs us Q I r ⟨i, j, e, ?_⟩
  have e1 : (if j < i then j else i) = min i j := by split <;> omega
  rw [e1]
  exact q
theorem call_maxE {X : Cx} (hc : X.calm = true) : CallR X (.builtin "max") (fun xs H Q => ∃ k i j, xs = [.int i, .int j] ∧ max i j = k ∧ Q (.int k) H) := by
  intro pins s σ H xs us Q I r h
  obtain ⟨k, i, j, e, ek, q⟩ := h
  subst ek
  refine call_max2 hc pins s σ H xs us Q I r ⟨i, j, e, ?_⟩
  have e1 : (if j > i then j else i) = max i j := by split <;> omega
  rw [e1]
  exact q
abbrev GStr (mg : Str → Option Value) (x : Str) (s : Str) : Prop := ∃ t, mg x = some (.str s t)
theorem pe_gstr {X : Cx} {x z : Str} {pos : Pos} (hg : Gl X x) (hm : ∃ t, X.mg x = some (.str z t)) (hd : (x == ("__debug__" : Str)) = false := by decide) : PE X (.Name x pos) (tC (.str z)) := by
  obtain ⟨t, h⟩ := hm
  exact pe_glob hg h ⟨t, rfl⟩ hd
/-- over reversed(list) -/
theorem lc_rev {K : PySem.W.Frag} {a : Addr} {xs : List V} {g : TG} {tt : TT} {te : TE} {vs : List Nat} {σ : St} {H1 : Hp} {D : Addr} {Qd : Hp → Prop} (Pv : Nat → Hp → Prop) (h0 : Pv 0 (upd H1 D (.lst []))) (hl : ∀ i H, i ≤ xs.length → Pv i H → SqL K H a xs)
    (hs : ∀ i x H, i < xs.length → xs[xs.length - 1 - i]? = some x → Pv i H → g x (wipe σ vs) H fun σ2 H2 => wipe σ2 vs = wipe σ vs ∧ tt σ2 H2 fun b H3 =>
      if b = true then te σ2 H3 fun y H4 => ∃ acc, H4 D = some (.lst acc) ∧ acc.length < sizeLine ∧ Pv (i + 1) (upd H4 D (.lst (acc ++ [y]))) else Pv (i + 1) H3) (hd : ∀ H, Pv xs.length H → Qd H) :
    ∃ W : Nat → Nat → Hp → Prop, (∃ m, W 0 m (upd H1 D (.lst []))) ∧ ∀ i m H, W i m H →
      ((Itv K a xs.length).stop i H ∧ Qd H) ∨ ((Itv K a xs.length).go i H ∧ ∃ Nx : Hp → Prop, (∀ H', Nx H' → ∃ m', m' < m ∧ W (i + 1) m' H') ∧ ∀ x H', (Itv K a xs.length).yld i H x H' → g x (wipe σ vs) H' fun σ2 H2 => wipe σ2 vs = wipe σ vs ∧ tt σ2 H2 fun b H3 =>
        if b = true then te σ2 H3 fun y H4 => ∃ acc, H4 D = some (.lst acc) ∧ acc.length < sizeLine ∧ Nx (upd H4 D (.lst (acc ++ [y]))) else Nx H3) := by
  refine ⟨fun i m H => m = xs.length - i ∧ i ≤ xs.length ∧ Pv i H, ⟨xs.length, by simp, Nat.zero_le _, h0⟩, ?_⟩
  rintro i m H ⟨rfl, hi, p⟩
  have q := hl i H hi p
  by_cases hlt : i < xs.length
  · refine .inr ⟨⟨hlt, xs, xs[xs.length - 1 - i]'(by omega), q, List.getElem?_eq_getElem (by omega)⟩, Pv (i + 1), fun H' p' => ⟨xs.length - (i + 1), by omega, rfl, hlt, p'⟩, fun x H' y => ?_⟩
    obtain ⟨e, y⟩ := y
    subst e
    exact hs i x _ hlt (y xs q) p
  · have e : i = xs.length := by omega
    subst e
    exact .inl ⟨Nat.le_refl _, hd H p⟩
theorem at_N {α : Type} {xs : List α} {j : Nat} {v : α} (h : xs[j]? = some v) : atI xs ((j : Nat) : Int) = some v := atI_nat h
theorem tyes {σ : St} {H : Hp} {A B : Hp → Prop} (h : A H) : tYes σ H (fun b H3 => if b = true then A H3 else B H3) := by
  show if true = true then A H else B H
  exact iteT h
theorem and255 {x : Nat} : Builtin.bitAnd (x : Int) 255 = ((x % 256 : Nat) : Int) := by
  have e := Bits.bitAnd_mask (x := (x : Int)) 8 (Int.natCast_nonneg _)
  have e1 : ((2 : Int) ^ 8 - 1) = 255 := by decide
  have e2 : ((2 : Int) ^ 8) = 256 := by decide
  rw [e1, e2] at e
  rw [e]
  omega
theorem low_val {n i : Nat} {z : Int} (e : z = 8 * (i : Int)) : Builtin.bitAnd ((n : Int) / 2 ^ z.toNat) 255 = ((n / 256 ^ i % 256 : Nat) : Int) := by
  have e1 : z.toNat = 8 * i := by omega
  have e2 : (n : Int) / 2 ^ (8 * i) = ((n / 256 ^ i : Nat) : Int) := by
    rw [Int.natCast_ediv, Int.natCast_pow, Int.pow_mul]
    rfl
  rw [e1, e2, and255]
theorem spelled_get {w n i : Nat} (h : i < w) : (spelled w n)[i]? = some (UInt8.ofNat (n / 256 ^ i)) := by
  unfold spelled
  rw [List.getElem?_map, List.getElem?_range h]
  rfl
theorem spelled_at {w n i : Nat} (h : i < w) : (bv (spelled w n))[i]? = some (.int ((n / 256 ^ i % 256 : Nat) : Int)) := by
  unfold bv MU.zs
  rw [List.getElem?_map, List.getElem?_map, spelled_get h]
  show some (V.int ((UInt8.ofNat (n / 256 ^ i)).toNat : Int)) = _
  rw [UInt8.toNat_ofNat']
theorem take_succ_at {xs : List V} {i : Nat} {v : V} (h : xs[i]? = some v) : xs.take i ++ [v] = xs.take (i + 1) := by
  rw [List.take_add_one, h]
  rfl
theorem bv_one (n : Nat) (h : n < 256) : bv [UInt8.ofNat n] = [V.int (n : Int)] := by
  show [V.int ((UInt8.ofNat n).toNat : Int)] = _
  rw [UInt8.toNat_ofNat', Nat.mod_eq_of_lt h]
end C

/-! ### flags -/
namespace C
open PySem L2 Kg18 MS
theorem boot_ls : bootBuiltins "list" = some (.type "list") := by decide +kernel
theorem and_flag {f : Nat} {n : Int} (i : Nat) (e : n = ((2 ^ i : Nat) : Int)) : Builtin.bitAnd (f : Int) n = ((if f.testBit i = true then 2 ^ i else 0 : Nat) : Int) := by
  rw [e, PyProof.Rows.bitAnd_pp (Int.natCast_nonneg _) (Int.natCast_nonneg _), Int.toNat_natCast, Int.toNat_natCast, MF.and_bit]
theorem and_nat {x n : Nat} : Builtin.bitAnd (x : Int) (OfNat.ofNat n) = ((x &&& n : Nat) : Int) := by
  have e : (OfNat.ofNat n : Int) = ((n : Nat) : Int) := rfl
  rw [e, PyProof.Rows.bitAnd_pp (Int.natCast_nonneg _) (Int.natCast_nonneg _), Int.toNat_natCast, Int.toNat_natCast]
theorem ne_flag {b : Bool} {n : Nat} (h : 0 < n) : (!decide (V.int ((if b = true then n else 0 : Nat) : Int) = V.int 0)) = b := by
  cases b with
  | true =>
    have e : ¬ V.int ((if true = true then n else 0 : Nat) : Int) = V.int 0 := fun z => by
      injection z with z
      rw [if_pos rfl] at z
      omega
    rw [decide_eq_false e]
    rfl
  | false => rfl
theorem eq_flag {b : Bool} {n : Nat} (h : 0 < n) : (decide (V.int ((if b = true then n else 0 : Nat) : Int) = V.int 0)) = !b := by
  have e := congrArg (fun x => !x) (ne_flag (b := b) h)
  simpa using e
theorem pe_gref {X : Cx} {x : Str} {q : Addr} {pos : Pos} (hg : Gl X x) (hm : X.mg x = some (.ref q)) (hd : (x == ("__debug__" : Str)) = false := by decide) : PE X (.Name x pos) (tC (.ref q)) := pe_glob (v := .ref q) hg hm rfl hd
/-- a tuple of the top's -/
theorem sqT_top {K : PySem.W.Frag} {H : Hp} {q : Addr} {od : Option Addr} {its : Array Value} {n : Nat} {sl : Array (Option Value)} {xs : List V} (h : K.lookup q = some ⟨.type "tuple", od, .seq its n, sl⟩) (hz : its.size ≤ sizeLine) (hv : Vals xs its.toList) : SqT K H q xs :=
  .inr ⟨_, its, n, h, rfl, rfl, hz, hv⟩
end C

/-! ### a dict of the top's -/
namespace C
open PySem PySem.Spec L2
structure KD (K : PySem.W.Frag) (q : Addr) (kvs : List (Key × V)) : Prop where
  ns : (q == sysModules) = false
  ob : ∃ o es ep, K.lookup q = some o ∧ o.ExactDict ∧ o.data = .dict es ep ∧ ∀ (P : Program) (w : World), PySem.KeysOf (mixKind P w) es ∧ ∃ vs, PySem.Pairs (mixKind P w) es.toList vs ∧ KV kvs vs ∧ (vs.map (·.1)).Nodup
section
variable {X : Cx} {pins : List (Addr × Obj)} {σ : L2.St} {H : Hp} {s : Shared} {q : Addr} {kvs : List (Key × V)} {n : Int} {u : Value} {A : Around} {E : Value → Shared → Prop}
theorem KD.at (I : Inv X pins σ H s) (kd : KD X.K q kvs) : ∃ vs, KV kvs vs ∧ s.heap.DictOf (mixKind X.prog X.w) q vs := by
  obtain ⟨o, es, ep, h1, h2, h3, h4⟩ := kd.ob
  obtain ⟨h5, vs, h6, h7, h8⟩ := h4 X.prog X.w
  exact ⟨vs, h7, o, es, ep, I.kIn q o h1, h2, h3, h5, h6, h8⟩
def tGNotIn (q : Addr) (kvs : List (Key × V)) (ty td : TE) : TE := fun σ H Q => ty σ H fun y H1 => td σ H1 fun x H2 => ∃ n : Int, y = .int n ∧ x = .ref q ∧ Q (.bl (!(valV kvs (Sum.inl n : Key)).isSome)) H2
def tGGet (q : Addr) (kvs : List (Key × V)) (td ty : TE) : TE := fun σ H Q => td σ H fun x H1 => ty σ H1 fun y H2 => ∃ (n : Int) (v : V), x = .ref q ∧ y = .int n ∧ valV kvs (Sum.inl n : Key) = some v ∧ Q v H2
variable {o i : Expr} {pos : Pos} {td ty : TE}
theorem pc_gnotin (kd : KD X.K q kvs) (hi : PE X i ty) (ho : PE X o td) : PC X .NotIn i o (tGNotIn q kvs ty td) := by
  intro pins s σ H Q I h
  refine thn (hi pins s σ H _ I h) fun iv s1 ⟨y, H1, I1, ry, q1⟩ => thn (ho pins s1 σ H1 _ I1 q1) fun u s2 ⟨x, H2, I2, rx, n, ey, ex, q2⟩ => ?_
  subst ex ey
  obtain rfl : u = Value.ref q := rx
  obtain ⟨vs, rel, dd⟩ := kd.at I2
  refine wpAny_notIn_of (kV_is (k := Sum.inl n) ry) kd.ns dd.mapOf ?_
  rw [← (rel.val (Sum.inl n)).isSome_eq]
  exact ⟨.bl (!(valV kvs (Sum.inl n : Key)).isSome), H2, I2.tok _, rfl, q2⟩
theorem pe_gget (kd : KD X.K q kvs) (ho : PE X o td) (hi : PE X i ty) (hs : NoSl i) : PE X (.Subscript o i pos) (tGGet q kvs td ty) := by
  intro pins s σ H Q I h
  refine subD_of PySem.F.slot_dict_getitem.lookup hs (thn (ho pins s σ H _ I h) fun u s1 ⟨x, H1, I1, rx, q1⟩ => thn (hi pins s1 σ H1 _ I1 q1) fun iv s2 ⟨y, H2, I2, ry, n, v, ex, ey, g, q2⟩ => ?_)
  subst ex ey
  obtain rfl : u = Value.ref q := rx
  obtain ⟨vs, rel, dd⟩ := kd.at I2
  obtain ⟨w', hw, rw'⟩ := RelO.some_of (v := v) (o := valueAt vs (Sum.inl n : Key)) (by rw [← g]; exact rel.val (Sum.inl n))
  exact ⟨dd.typeIs, wpAny_getItem_of (kV_is (k := Sum.inl n) ry) dd.mapOf hw ⟨v, H2, I2.tok _, rw', q2⟩⟩
end
/-- how much a block holds -/
def sizes : List (Key × V) := [(Sum.inl 64, .int 65536), (Sum.inl 80, .int 262144), (Sum.inl 96, .int 1048576), (Sum.inl 112, .int 4194304)]
theorem sizes_val (g : Nat) : valV sizes (Sum.inl (g : Int) : Key) = (MG.bsz g).map fun (n : Nat) => V.int (n : Int) := by
  have e : ∀ (a b : Int), ((Sum.inl a : Key) = Sum.inl b) ↔ a = b := fun a b => ⟨Sum.inl.inj, fun h => by rw [h]⟩
  unfold sizes MG.bsz
  by_cases h1 : g = 64
  · subst h1; rfl
  rw [if_neg h1, valV_neg (fun z => h1 (by have := (e _ _).mp z; omega))]
  by_cases h2 : g = 80
  · subst h2; rfl
  rw [if_neg h2, valV_neg (fun z => h2 (by have := (e _ _).mp z; omega))]
  by_cases h3 : g = 96
  · subst h3; rfl
  rw [if_neg h3, valV_neg (fun z => h3 (by have := (e _ _).mp z; omega))]
  by_cases h4 : g = 112
  · subst h4; rfl
  rw [if_neg h4, valV_neg (fun z => h4 (by have := (e _ _).mp z; omega))]
  rfl
theorem sizes_top {K : PySem.W.Frag} {q : Addr} {ep : Nat} {t0 t1 t2 t3 u0 u1 u2 u3 : Tok} (hq : (q == sysModules) = false)
    (h : K.lookup q = some ⟨.type "dict", none, .dict #[⟨64, .int 64 t0, .int 65536 u0⟩, ⟨80, .int 80 t1, .int 262144 u1⟩, ⟨96, .int 96 t2, .int 1048576 u2⟩, ⟨112, .int 112 t3, .int 4194304 u3⟩] ep, #[]⟩) : KD K q sizes := by
  refine ⟨hq, _, _, ep, h, ⟨rfl, rfl, rfl⟩, rfl, fun P w => ⟨fun e he => ?_, [(Sum.inl 64, .int 65536 u0), (Sum.inl 80, .int 262144 u1), (Sum.inl 96, .int 1048576 u2), (Sum.inl 112, .int 4194304 u3)], ?_, ?_, ?_⟩⟩
  · have he' : e = ⟨64, .int 64 t0, .int 65536 u0⟩ ∨ e = ⟨80, .int 80 t1, .int 262144 u1⟩ ∨ e = ⟨96, .int 96 t2, .int 1048576 u2⟩ ∨ e = ⟨112, .int 112 t3, .int 4194304 u3⟩ := by simpa using he
    rcases he' with rfl | rfl | rfl | rfl
    · exact ⟨Sum.inl 64, mixKind_int P w 64 t0, rfl⟩
    · exact ⟨Sum.inl 80, mixKind_int P w 80 t1, rfl⟩
    · exact ⟨Sum.inl 96, mixKind_int P w 96 t2, rfl⟩
    · exact ⟨Sum.inl 112, mixKind_int P w 112 t3, rfl⟩
  · exact .cons (mixKind_int P w 64 t0) rfl (.cons (mixKind_int P w 80 t1) rfl (.cons (mixKind_int P w 96 t2) rfl (.cons (mixKind_int P w 112 t3) rfl .nil)))
  · exact .cons ⟨rfl, ⟨_, rfl⟩⟩ (.cons ⟨rfl, ⟨_, rfl⟩⟩ (.cons ⟨rfl, ⟨_, rfl⟩⟩ (.cons ⟨rfl, ⟨_, rfl⟩⟩ .nil)))
  · show ([Sum.inl 64, Sum.inl 80, Sum.inl 96, Sum.inl 112] : List Key).Nodup
    decide
end C

/-! ### the text by places -/
open PySem L2
def top (i : Nat) : Stmt := PySem.Challenge.pw_shorttexts_s02_unpack.main.body.getD i (.Pass ⟨0, 0, 0, 0⟩)
abbrev sLow : Stmt := top 7
abbrev sFour : Stmt := top 8
abbrev sTurn : Stmt := top 9
abbrev sMix : Stmt := top 10
abbrev sSix : Stmt := top 11
abbrev sLeft : Stmt := top 12
abbrev sSum : Stmt := top 13
abbrev s_head_sum : Stmt := top 37
abbrev sReader_init : Stmt := inClass (top 38) 0
abbrev sReader_left : Stmt := inClass (top 38) 1
abbrev sReader_taken : Stmt := inClass (top 38) 2
abbrev sReader_number : Stmt := inClass (top 38) 3
abbrev sReader_carried : Stmt := inClass (top 38) 4
abbrev s_matched_bytes : Stmt := top 39
abbrev s_unpack_parts : Stmt := top 40
abbrev sFrameReader_init : Stmt := inClass (top 41) 0
abbrev sFrameReader_says : Stmt := inClass (top 41) 1
abbrev sFrameReader_read_head : Stmt := inClass (top 41) 2
abbrev sFrameReader_read_block : Stmt := inClass (top 41) 3
abbrev sFrameReader_read_blocks : Stmt := inClass (top 41) 4
abbrev sFrameReader_read_end : Stmt := inClass (top 41) 5
abbrev sFrameReader_read_all : Stmt := inClass (top 41) 6
abbrev sAns : Stmt := top 42
abbrev s_unpack : Stmt := top 43

/-! ### four bytes as a number -/
namespace C
open PySem L2 Kg18 MS
def spFour (K : PySem.W.Frag) : Sp := fun vs H Q _ => ∃ (a : Addr) (b : Bytes) (p : Nat), vs = [.ref a, .int p] ∧ SqL K H a (bv b) ∧ p + 4 ≤ b.length ∧ Q (.int (le (b.drop p) 4 : Nat)) H
section
variable {P : Program} {w : World} {K : PySem.W.Frag} {mg : Str → Option Value} {base : Heap}
theorem scFour : FnScope ["text", "place"] ["text", "place"] (defScope sFour) := ⟨rfl, rfl, rfl, by decide +kernel, rfl, by decide +kernel, by decide +kernel⟩
theorem ok_four {f : Addr} {fd : FuncData} (F : Fun K "four_bytes_at" "four_bytes_at" sFour f fd) : FnOk P w K mg base CX0 1 f fd ["text", "place"] (spFour K) := by
  refine F.ok scFour (fun vs H Q E h => ?_) (fun cdv A outer s H vs Q E hr h => ?_)
  · obtain ⟨a, b, p, rfl, _⟩ := h
    rfl
  obtain ⟨a, b, p, rfl, hS, hp, q⟩ := h
  refine ⟨_, pss_one (ps_ret (pe_op op_add (pe_op op_add (pe_op op_add (pe_ix ix_list (pv 0) (pv 1) (fun _ _ => rfl)) (pe_op op_shl (pe_ix ix_list (pv 0) (pe_op op_add (pv 1) pe_int) (fun _ _ => rfl)) pe_int)) (pe_op op_shl (pe_ix ix_list (pv 0) (pe_op op_add (pv 1) pe_int) (fun _ _ => rfl)) pe_int)) (pe_op op_shl (pe_ix ix_list (pv 0) (pe_op op_add (pv 1) pe_int) (fun _ _ => rfl)) pe_int))), ?_⟩
  have h0 : atI (bv b) (p : Int) = some (.int (bat b p : Nat)) := bv_at rfl (by omega)
  have h1 : atI (bv b) ((p : Int) + 1) = some (.int (bat b (p + 1) : Nat)) := bv_at (by omega) (by omega)
  have h2 : atI (bv b) ((p : Int) + 2) = some (.int (bat b (p + 2) : Nat)) := bv_at (by omega) (by omega)
  have h3 : atI (bv b) ((p : Int) + 3) = some (.int (bat b (p + 3) : Nat)) := bv_at (by omega) (by omega)
  have cp : ∀ (i : Nat) (k : Int), 0 ≤ k → k ≤ 64 → CPow ((bat b i : Nat) : Int) k := fun i k a c => shl_ok a c (Nat.lt_trans (bat_lt b i) (by decide))
  refine ⟨_, rfl, _, rfl, a, _, _, _, rfl, rfl, hS, h0, _, rfl, _, rfl, _, _, rfl, rfl, a, _, _, _, rfl, rfl, hS, h1, _, _, rfl, rfl, cp _ _ (by decide) (by decide), _, _, rfl, rfl,
    _, rfl, _, rfl, _, _, rfl, rfl, a, _, _, _, rfl, rfl, hS, h2, _, _, rfl, rfl, cp _ _ (by decide) (by decide), _, _, rfl, rfl,
    _, rfl, _, rfl, _, _, rfl, rfl, a, _, _, _, rfl, rfl, hS, h3, _, _, rfl, rfl, cp _ _ (by decide) (by decide), _, _, rfl, rfl, ?_⟩
  refine qint q ?_
  rw [le_four hp]
  generalize bat b p = x0
  generalize bat b (p + 1) = x1
  generalize bat b (p + 2) = x2
  generalize bat b (p + 3) = x3
  show (x0 : Int) + x1 * 2 ^ 8 + x2 * 2 ^ 16 + x3 * 2 ^ 24 = _
  omega
end
end C

/-! ### the sum -/
namespace S
open PySem L2 Kg18 MS C
/-- what the top says -/
structure G (mg : Str → Option Value) : Prop where
  mM : GInt mg "MODULUS" 4294967296
  p1 : GInt mg "PRIME_1" 2654435761
  p2 : GInt mg "PRIME_2" 2246822519
  p3 : GInt mg "PRIME_3" 3266489917
  p4 : GInt mg "PRIME_4" 668265263
  p5 : GInt mg "PRIME_5" 374761393
  len : mg "len" = none
  range : mg "range" = none
def spTurn : Sp := fun vs H Q _ => ∃ (x k : Nat), vs = [.int x, .int k] ∧ x < 4294967296 ∧ 0 < k ∧ k < 32 ∧ Q (.int (rotl x k : Nat)) H
def spMix : Sp := fun vs H Q _ => ∃ (z y : Int) (t f : Nat), vs = [.int z, .int y, .int t, .int f] ∧ 0 < t ∧ t < 32 ∧ Q (.int (mix (z + y) t f : Nat)) H
def spSix (K : PySem.W.Frag) : Sp := fun vs H Q _ => ∃ (a : Addr) (b : Bytes) (seed : Nat), vs = [.int seed, .ref a] ∧ SqL K H a (bv b) ∧ 16 ≤ b.length ∧ b.length ≤ 16777216 ∧ seed < 4294967296 ∧ ∀ H', Same H H' → Q (.int (begun seed b : Nat)) H'
def spLeft (K : PySem.W.Frag) : Sp := fun vs H Q _ => ∃ (a : Addr) (b : Bytes) (h : Nat), vs = [.int h, .ref a] ∧ SqL K H a (bv b) ∧ h < 4294967296 ∧ Q (.int (T h (b.drop (16 * (b.length / 16))) : Nat)) H
def spSum (K : PySem.W.Frag) : Sp := fun vs H Q _ => ∃ (a : Addr) (b : Bytes) (seed : Nat), vs = [.int seed, .ref a] ∧ SqL K H a (bv b) ∧ b.length ≤ 16777216 ∧ seed < 4294967296 ∧ ∀ H', Same H H' → Q (.int (Kg18.sum seed b : Nat)) H'
section
variable {P : Program} {w : World} {K : PySem.W.Frag} {mg : Str → Option Value} {base : Heap}
theorem scTurn : FnScope ["number", "count"] ["number", "count"] (defScope sTurn) := ⟨rfl, rfl, rfl, by decide +kernel, rfl, by decide +kernel, by decide +kernel⟩
theorem ok_turn {f : Addr} {fd : FuncData} (F : Fun K "turned_left" "turned_left" sTurn f fd) (g : G mg) : FnOk P w K mg base CX0 1 f fd ["number", "count"] spTurn := by
  refine F.ok scTurn (fun vs H Q E h => ?_) (fun cdv A outer s H vs Q E hr h => ?_)
  · obtain ⟨x, k, rfl, _⟩ := h
    rfl
  obtain ⟨x, k, rfl, hx, h0, h1, q⟩ := h
  refine ⟨_, pss_one (ps_ret (pe_op op_mod (pe_op op_or (pe_op op_shl (pv 0) (pv 1)) (pe_op op_shr (pv 0) (pe_op op_sub pe_int (pv 1)))) (pe_gint rfl g.mM))), ?_⟩
  refine ⟨_, rfl, _, rfl, _, _, rfl, rfl, shl_ok (by omega) (by omega) (by omega), _, rfl, _, rfl, _, _, rfl, rfl, _, _, rfl, rfl, (by omega), _, _, rfl, rfl, _, _, rfl, rfl, p32, ?_⟩
  exact qint q (rot_or hx h0 h1)
theorem scMix : FnScope ["total", "added", "turn", "factor"] ["total", "added", "turn", "factor"] (defScope sMix) := ⟨rfl, rfl, rfl, by decide +kernel, rfl, by decide +kernel, by decide +kernel⟩
theorem ok_mix {f fT : Addr} {fd fdT : FuncData} (F : Fun K "mixed" "mixed" sMix f fd) (g : G mg) (FT : Fun K "turned_left" "turned_left" sTurn fT fdT) (bT : Binds K fdT ["number", "count"] []) (mT : mg "turned_left" = some (.ref fT)) :
    FnOk P w K mg base CX0 2 f fd ["total", "added", "turn", "factor"] spMix := by
  have GT : FnOk P w K mg base CX0 1 fT fdT ["number", "count"] spTurn := ok_turn FT g
  refine F.ok scMix (fun vs H Q E h => ?_) (fun cdv A outer s H vs Q E hr h => ?_)
  · obtain ⟨z, y, t, f, rfl, _⟩ := h
    rfl
  obtain ⟨z, y, t, f, rfl, h0, h1, q⟩ := h
  refine ⟨_, pss_one (ps_ret (pe_op op_mod (pe_op op_mul (pe_call GT hr rfl mT FT.kp bT .nil pass0 (pa_cons (pe_op op_mod (pe_op op_add (pv 0) (pv 1)) (pe_gint rfl g.mM)) (pa_cons (pv 2) pa_nil))) (pv 3)) (pe_gint rfl g.mM))), ?_⟩
  have hz : ((z + y) % 4294967296) = (((z + y) % 4294967296).toNat : Int) := (Int.toNat_of_nonneg (Int.emod_nonneg _ (by decide))).symm
  have hlt : ((z + y) % 4294967296).toNat < 4294967296 := by
    have := Int.emod_lt_of_pos (z + y) (show (0 : Int) < 4294967296 by decide)
    omega
  have hrl := rotl_lt ((z + y) % 4294967296).toNat t
  refine ⟨_, rfl, _, rfl, _, _, rfl, rfl, _, _, rfl, rfl, p32, _, rfl, ((z + y) % 4294967296).toNat, t, ?_, hlt, h0, h1, _, rfl, _, _, rfl, rfl, .inl ⟨by omega, by omega⟩, _, _, rfl, rfl, p32, ?_⟩
  · show [V.int ((z + y) % 4294967296), V.int (t : Int)] ++ [] = [V.int (((z + y) % 4294967296).toNat : Int), V.int (t : Int)]
    rw [← hz]
    rfl
  · refine qint q ?_
    unfold mix
    have hM : M = 4294967296 := by decide
    rw [hM, Int.natCast_emod, Int.natCast_mul]
    rfl
theorem scSix : FnScope ["seed", "text", "sums", "begin", "k"] ["seed", "text"] (defScope sSix) := ⟨rfl, rfl, rfl, by decide +kernel, rfl, by decide +kernel, by decide +kernel⟩
def av0 (seed : Nat) : Nat → Int
  | 0 => (seed : Int) + 2654435761 + 2246822519
  | 1 => (seed : Int) + 2246822519
  | 2 => (seed : Int)
  | _ => (seed : Int) - 2654435761
theorem a0 (seed : Nat) : av0 seed 0 = (seed : Int) + 2654435761 + 2246822519 := rfl
theorem a1 (seed : Nat) : av0 seed 1 = (seed : Int) + 2246822519 := rfl
theorem a2 (seed : Nat) : av0 seed 2 = (seed : Int) := rfl
theorem a3 (seed : Nat) : av0 seed 3 = (seed : Int) - 2654435761 := rfl
theorem st0 (seed : Nat) : (MS.start seed).1 = (seed + P1 + P2) % M := by unfold MS.start; exact Eq.refl _
theorem st1 (seed : Nat) : (MS.start seed).2.1 = (seed + P2) % M := by unfold MS.start; exact Eq.refl _
theorem st2 (seed : Nat) : (MS.start seed).2.2.1 = seed % M := by unfold MS.start; exact Eq.refl _
theorem st3 (seed : Nat) : (MS.start seed).2.2.2 = (seed + M - P1) % M := by unfold MS.start; exact Eq.refl _
theorem start_sel {seed : Nat} {j : Nat} (hs : seed < 4294967296) (h : j < 4) : av0 seed j % 4294967296 = ((sel (start seed) j % M : Nat) : Int) := by
  have hM : M = 4294967296 := by decide
  have hP1 : P1 = 2654435761 := rfl
  have hP2 : P2 = 2246822519 := rfl
  match j, h with
  | 0, _ =>
    rw [sel0, st0, hM, hP1, hP2, a0]
    omega
  | 1, _ =>
    rw [sel1, st1, hM, hP2, a1]
    omega
  | 2, _ =>
    rw [sel2, st2, hM, a2]
    omega
  | 3, _ =>
    rw [sel3, st3, hM, hP1, a3]
    omega
theorem ok_six {f fT fM f4 : Addr} {fd fdT fdM fd4 : FuncData} (F : Fun K "sum_of_sixteens" "sum_of_sixteens" sSix f fd) (g : G mg) (FT : Fun K "turned_left" "turned_left" sTurn fT fdT) (bT : Binds K fdT ["number", "count"] []) (mT : mg "turned_left" = some (.ref fT))
    (FM : Fun K "mixed" "mixed" sMix fM fdM) (bM : Binds K fdM ["total", "added", "turn", "factor"] []) (mM : mg "mixed" = some (.ref fM)) (F4 : Fun K "four_bytes_at" "four_bytes_at" sFour f4 fd4) (b4 : Binds K fd4 ["text", "place"] []) (m4 : mg "four_bytes_at" = some (.ref f4)) :
    FnOk P w K mg base CX0 3 f fd ["seed", "text"] (spSix K) := by
  have GT : FnOk P w K mg base CX0 1 fT fdT ["number", "count"] spTurn := ok_turn FT g
  have GM : FnOk P w K mg base CX0 2 fM fdM ["total", "added", "turn", "factor"] spMix := ok_mix FM g FT bT mT
  have G4 : FnOk P w K mg base CX0 1 f4 fd4 ["text", "place"] (spFour K) := ok_four F4
  refine F.ok scSix (fun vs H Q E h => ?_) (fun cdv A outer s H vs Q E hr h => ?_)
  · obtain ⟨a, b, seed, rfl, _⟩ := h
    rfl
  obtain ⟨a, b, seed, rfl, hS, h16, hmx, hseed, q⟩ := h
  have hr1 : Room 1 _ := hr.mono (by decide)
  refine ⟨_, pss_cons (ps_set (i := 2) scSix.nd rfl (Or.inl rfl) (pe_lst (pa_cons (pe_op op_add (pe_op op_add (pv 0) (pe_gint rfl g.p1)) (pe_gint rfl g.p2)) (pa_cons (pe_op op_add (pv 0) (pe_gint rfl g.p2)) (pa_cons (pv 0) (pa_cons (pe_op op_sub (pv 0) (pe_gint rfl g.p1)) pa_nil))))))
    (pss_cons (ps_for PassesOwn.never rfl (pi_range3 rfl g.range (pa_cons pe_int (pa_cons (pe_op op_sub (pe_callB call_len_seq rfl g.len PySem.boot_len (pa_cons (pv 1) pa_nil)) pe_int) (pa_cons pe_int pa_nil)))) (pg_name (i := 3) scSix.nd rfl (Or.inl rfl))
      (pss_one (ps_for PassesOwn.never rfl (pi_range1 rfl g.range (pa_cons pe_int pa_nil)) (pg_name (i := 4) scSix.nd rfl (Or.inl rfl))
        (pss_one (ps_asg (pe_call GM hr rfl mM FM.kp bM .nil pass0 (pa_cons (pe_ix ix_list (pv 2) (pv 4) (fun _ _ => rfl)) (pa_cons (pe_op op_mul (pe_call G4 hr1 rfl m4 F4.kp b4 .nil pass0 (pa_cons (pv 1) (pa_cons (pe_op op_add (pv 3) (pe_op op_mul pe_int (pv 4))) pa_nil))) (pe_gint rfl g.p2)) (pa_cons pe_int (pa_cons (pe_gint rfl g.p1) pa_nil)))))
          (pg_sub (pv 2) (pv 4) set_list))))))
    (pss_one (ps_ret (pe_op op_add (pe_op op_add (pe_op op_add
      (pe_call GT hr1 rfl mT FT.kp bT .nil pass0 (pa_cons (pe_ix ix_list (pv 2) pe_int (fun _ _ => rfl)) (pa_cons pe_int pa_nil)))
      (pe_call GT hr1 rfl mT FT.kp bT .nil pass0 (pa_cons (pe_ix ix_list (pv 2) pe_int (fun _ _ => rfl)) (pa_cons pe_int pa_nil))))
      (pe_call GT hr1 rfl mT FT.kp bT .nil pass0 (pa_cons (pe_ix ix_list (pv 2) pe_int (fun _ _ => rfl)) (pa_cons pe_int pa_nil))))
      (pe_call GT hr1 rfl mT FT.kp bT .nil pass0 (pa_cons (pe_ix ix_list (pv 2) pe_int (fun _ _ => rfl)) (pa_cons pe_int pa_nil))))))), ?_⟩
  have hlen : (((bv b).length : Nat) : Int) - 15 = (b.length : Int) - 15 := by rw [bv_length]
  -- sums = [...]
  refine ⟨_, rfl, _, _, rfl, rfl, _, _, rfl, rfl, _, rfl, _, _, rfl, rfl, _, rfl, _, rfl, _, _, rfl, rfl, line (by show 4 ≤ 16777216; decide), fun p hp => ?_⟩
  have s1 : Same H (upd H p (.lst [.int ((seed : Int) + 2654435761 + 2246822519), .int ((seed : Int) + 2246822519), .int (seed : Int), .int ((seed : Int) - 2654435761)])) := same_new hp _
  -- for begin in range(0, len(text) - 15, 16)
  refine ⟨_, rfl, a, _, rfl, .inl (s1.seq hS), _, _, rfl, rfl, _, _, _, b.length / 16, rfl, (by rw [hlen]; exact rg16 h16 hmx), for_rangeC (fun i σ H2 => ∃ (av : Nat → Int) (v3 v4 : Option V), σ = [some (.int seed), some (.ref a), some (.ref p), v3, v4] ∧ Same H H2 ∧ H2 p = some (.lst ((L4 av av 0).map V.int)) ∧
      (∀ j, j < 4 → av j % 4294967296 = ((sel (after (start seed) b i) j % M : Nat) : Int)) ∧ (0 < i → ∀ j, j < 4 → av j = ((sel (after (start seed) b i) j : Nat) : Int)))
    ⟨av0 seed, none, none, rfl, s1, upd_same, fun j hj => start_sel hseed hj, fun h => absurd h (by decide)⟩ ?_ ?_⟩
  · rintro i σ H2 hi ⟨av, v3, v4, rfl, s2, hp2, hm, _⟩
    -- for k in range(4)
    refine ⟨_, rfl, by decide, by decide, for_range (n := 4) (fun j σ H3 => ∃ (v4 : Option V), σ = [some (.int seed), some (.ref a), some (.ref p), some (.int (0 + (i : Nat) * 16)), v4] ∧ Same H H3 ∧ H3 p = some (.lst ((L4 av (fun j => ((sel (after (start seed) b (i + 1)) j : Nat) : Int)) j).map V.int)))
      ⟨v4, rfl, s2, hp2⟩ ?_ ?_⟩
    · rintro j σ H3 hj ⟨v4', rfl, s3, hp3⟩
      have hg : atI ((L4 av (fun j => ((sel (after (start seed) b (i + 1)) j : Nat) : Int)) j).map V.int) (0 + (j : Int)) = some (.int (av j)) := at_of (j := j) (by omega) (by rw [List.getElem?_map, L4_get hj]; rfl)
      have hpl : 16 * i + 4 * j + 4 ≤ b.length := by omega
      have hle := le_four_lt hpl
      refine ⟨_, rfl, _, rfl, p, _, _, _, rfl, rfl, SqL.of hp3, hg, _, rfl, _, rfl, _, rfl, _, _, rfl, rfl, .inl ⟨by decide, by decide⟩, _, _, rfl, rfl, a, b, 16 * i + 4 * j, ?_, s3.seq hS, hpl, _, _, rfl, rfl, .inl ⟨by omega, by omega⟩,
        av j, _, 13, 2654435761, rfl, by decide, by decide, _, rfl, _, rfl, p, _, _, j, rfl, rfl, hp3, ?_, _, rfl, ?_, ?_⟩
      · show [V.ref a, V.int (0 + (i : Int) * 16 + 4 * (0 + (j : Int)))] ++ [] = [V.ref a, V.int ((16 * i + 4 * j : Nat) : Int)]
        rw [show (0 + (i : Int) * 16 + 4 * (0 + (j : Int))) = ((16 * i + 4 * j : Nat) : Int) by omega]
        rfl
      · rw [List.length_map]
        show ixN 4 (0 + (j : Int)) = some j
        unfold ixN
        rw [if_pos (by omega), if_pos (by omega)]
        congr 1
        omega
      · intro c o e
        rw [upd_ne (ne_of_none e hp)]
        exact s3 c o e
      · have e1 : mix (av j + ((le (b.drop (16 * i + 4 * j)) 4 : Nat) : Int) * 2246822519) 13 2654435761 = sel (after (start seed) b (i + 1)) j := by
          rw [mix_round (hm j hj)]
          show _ = sel (one (after (start seed) b i) (b.drop (16 * i))) j
          rw [sel_one hj, List.drop_drop]
        rw [upd_same, e1, ← List.map_set, ← L4_set hj]
    · rintro σ H3 ⟨v4', rfl, s3, hp3⟩
      refine ⟨fun j => ((sel (after (start seed) b (i + 1)) j : Nat) : Int), _, v4', rfl, s3, hp3, fun j hj => ?_, fun _ j hj => rfl⟩
      have hM : M = 4294967296 := by decide
      have := sel_one_lt (s := after (start seed) b i) (b := b.drop (16 * i)) hj
      show ((sel (after (start seed) b (i + 1)) j : Nat) : Int) % 4294967296 = _
      rw [hM, Int.natCast_emod]
      rfl
  · rintro σ H2 ⟨av, v3, v4, rfl, s2, hp2, _, hfin⟩
    have hn : 0 < b.length / 16 := by omega
    obtain ⟨n1, hn1⟩ : ∃ n1, b.length / 16 = n1 + 1 := ⟨b.length / 16 - 1, by omega⟩
    have hlt : ∀ j, j < 4 → sel (after (start seed) b (b.length / 16)) j < 4294967296 := fun j hj => by
      rw [hn1]
      exact sel_one_lt (s := after (start seed) b n1) (b := b.drop (16 * n1)) hj
    have hf := hfin hn
    have ga : ∀ j : Nat, j < 4 → atI ((L4 av av 0).map V.int) (j : Int) = some (.int ((sel (after (start seed) b (b.length / 16)) j : Nat) : Int)) := fun j hj => by
      refine at_of rfl ?_
      rw [List.getElem?_map, ← hf j hj]
      match j, hj with
      | 0, _ => rfl
      | 1, _ => rfl
      | 2, _ => rfl
      | 3, _ => rfl
    refine ⟨_, rfl, p, _, _, _, rfl, rfl, SqL.of hp2, ga 0 (by decide), _, 1, rfl, hlt 0 (by decide), by decide, by decide,
      _, rfl, p, _, _, _, rfl, rfl, SqL.of hp2, ga 1 (by decide), _, 7, rfl, hlt 1 (by decide), by decide, by decide, _, _, rfl, rfl,
      _, rfl, p, _, _, _, rfl, rfl, SqL.of hp2, ga 2 (by decide), _, 12, rfl, hlt 2 (by decide), by decide, by decide, _, _, rfl, rfl,
      _, rfl, p, _, _, _, rfl, rfl, SqL.of hp2, ga 3 (by decide), _, 18, rfl, hlt 3 (by decide), by decide, by decide, _, _, rfl, rfl, ?_⟩
    refine qint (q H2 s2) ?_
    unfold begun
    rw [if_pos h16]
    simp only [Int.natCast_add]
    rfl
theorem scLeft : FnScope ["total", "text", "place"] ["total", "text"] (defScope sLeft) := ⟨rfl, rfl, rfl, by decide +kernel, rfl, by decide +kernel, by decide +kernel⟩
theorem ok_left {f fT fM f4 : Addr} {fd fdT fdM fd4 : FuncData} (F : Fun K "with_bytes_left" "with_bytes_left" sLeft f fd) (g : G mg) (FT : Fun K "turned_left" "turned_left" sTurn fT fdT) (bT : Binds K fdT ["number", "count"] []) (mT : mg "turned_left" = some (.ref fT))
    (FM : Fun K "mixed" "mixed" sMix fM fdM) (bM : Binds K fdM ["total", "added", "turn", "factor"] []) (mM : mg "mixed" = some (.ref fM)) (F4 : Fun K "four_bytes_at" "four_bytes_at" sFour f4 fd4) (b4 : Binds K fd4 ["text", "place"] []) (m4 : mg "four_bytes_at" = some (.ref f4)) :
    FnOk P w K mg base CX0 3 f fd ["total", "text"] (spLeft K) := by
  have GM : FnOk P w K mg base CX0 2 fM fdM ["total", "added", "turn", "factor"] spMix := ok_mix FM g FT bT mT
  have G4 : FnOk P w K mg base CX0 1 f4 fd4 ["text", "place"] (spFour K) := ok_four F4
  refine F.ok scLeft (fun vs H Q E h => ?_) (fun cdv A outer s H vs Q E hr h => ?_)
  · obtain ⟨a, b, h, rfl, _⟩ := h
    rfl
  obtain ⟨a, b, h0, rfl, hS, hlt, q⟩ := h
  have hr1 : Room 1 _ := hr.mono (by decide)
  refine ⟨_, pss_cons (ps_set (i := 2) scLeft.nd rfl (Or.inl rfl) (pe_op op_mul (pe_op op_fdiv (pe_callB call_len_seq rfl g.len PySem.boot_len (pa_cons (pv 1) pa_nil)) pe_int) pe_int))
    (pss_cons (ps_while PassesOwn.never (pt_cmpR op_le (pe_op op_add (pv 2) pe_int) (pe_callB call_len_seq rfl g.len PySem.boot_len (pa_cons (pv 1) pa_nil)) (nomark _))
      (pss_cons (ps_set (i := 0) scLeft.nd rfl (Or.inl rfl) (pe_call GM hr rfl mM FM.kp bM .nil pass0 (pa_cons (pv 0) (pa_cons (pe_op op_mul (pe_call G4 hr1 rfl m4 F4.kp b4 .nil pass0 (pa_cons (pv 1) (pa_cons (pv 2) pa_nil))) (pe_gint rfl g.p3)) (pa_cons pe_int (pa_cons (pe_gint rfl g.p4) pa_nil))))))
      (pss_one (ps_aug (i := 2) scLeft.nd rfl (Or.inl rfl) pe_int ip_add))))
    (pss_cons (ps_while PassesOwn.never (pt_cmpR op_lt (pv 2) (pe_callB call_len_seq rfl g.len PySem.boot_len (pa_cons (pv 1) pa_nil)) (nomark _))
      (pss_cons (ps_set (i := 0) scLeft.nd rfl (Or.inl rfl) (pe_call GM hr rfl mM FM.kp bM .nil pass0 (pa_cons (pv 0) (pa_cons (pe_op op_mul (pe_ix ix_list (pv 1) (pv 2) (fun _ _ => rfl)) (pe_gint rfl g.p5)) (pa_cons pe_int (pa_cons (pe_gint rfl g.p1) pa_nil))))))
      (pss_one (ps_aug (i := 2) scLeft.nd rfl (Or.inl rfl) pe_int ip_add))))
    (pss_one (ps_ret (pv 0))))), ?_⟩
  have hl : (((bv b).length : Nat) : Int) = (b.length : Int) := by rw [bv_length]
  -- place = len(text) // 16 * 16
  refine ⟨_, rfl, a, _, rfl, .inl hS, _, _, rfl, rfl, ⟨by decide, by decide⟩, _, _, rfl, rfl, .inr ⟨by decide, by decide⟩, ?_⟩
  refine ⟨fun m σ H' => ∃ (h p : Nat), σ = [some (.int h), some (.ref a), some (.int p)] ∧ H = H' ∧ m = b.length - p ∧ p ≤ b.length ∧ h < 4294967296 ∧ T h (b.drop p) = T h0 (b.drop (16 * (b.length / 16))),
    ⟨_, h0, 16 * (b.length / 16), ?_, rfl, rfl, by omega, hlt, rfl⟩, ?_⟩
  · show [some (V.int (h0 : Int)), some (V.ref a), some (V.int (((bv b).length : Int) / 16 * 16))] = _
    rw [hl, show ((b.length : Int) / 16 * 16) = ((16 * (b.length / 16) : Nat) : Int) by omega]
  rintro m σ H' ⟨h, p, rfl, rfl, rfl, hp, hh, ht⟩
  refine ⟨_, rfl, _, _, rfl, rfl, _, rfl, a, _, rfl, .inl hS, _, _, rfl, rfl, _, rfl, ?_⟩
  refine ite2 (fun c => ?_) (fun c => ?_)
  · have c' : (p : Int) + 4 ≤ (((bv b).length : Nat) : Int) := of_decide_eq_true c
    rw [hl] at c'
    have hp4 : p + 4 ≤ b.length := by omega
    have hle := le_four_lt hp4
    refine ⟨_, fun σ' H' z => z, ?_⟩
    refine ⟨_, rfl, _, rfl, _, rfl, a, b, p, rfl, hS, hp4, _, _, rfl, rfl, .inl ⟨by omega, by omega⟩, (h : Int), _, 17, 668265263, rfl, by decide, by decide, _, rfl, _, _, rfl, rfl, ?_⟩
    refine ⟨b.length - (p + 4), by omega, mix ((h : Int) + ((le (b.drop p) 4 : Nat) : Int) * 3266489917) 17 668265263, p + 4, rfl, rfl, rfl, hp4, mix_lt _ _ _, ?_⟩
    rw [← ht, T_four hp4]
  -- the bytes that are left
  have c' : ¬ (p : Int) + 4 ≤ (((bv b).length : Nat) : Int) := of_decide_eq_false (Bool.eq_false_iff.mpr c)
  rw [hl] at c'
  have hp4 : b.length < p + 4 := by omega
  refine ⟨fun m σ H' => ∃ (h p : Nat), σ = [some (.int h), some (.ref a), some (.int p)] ∧ H = H' ∧ m = b.length - p ∧ p ≤ b.length ∧ b.length < p + 4 ∧ h < 4294967296 ∧ T h (b.drop p) = T h0 (b.drop (16 * (b.length / 16))),
    ⟨_, h, p, rfl, rfl, rfl, hp, hp4, hh, ht⟩, ?_⟩
  rintro m σ H' ⟨h, p, rfl, rfl, rfl, hp, hp4, hh, ht⟩
  refine ⟨_, rfl, _, rfl, a, _, rfl, .inl hS, _, _, rfl, rfl, _, rfl, ?_⟩
  refine ite2 (fun c => ?_) (fun c => ?_)
  · have c' : (p : Int) < (((bv b).length : Nat) : Int) := of_decide_eq_true c
    rw [hl] at c'
    have hp1 : p < b.length := by omega
    have hb := bat_lt b p
    refine ⟨_, fun σ' H' z => z, ?_⟩
    refine ⟨_, rfl, _, rfl, _, rfl, a, _, _, _, rfl, rfl, hS, bv_at rfl hp1, _, _, rfl, rfl, .inl ⟨by omega, by omega⟩, (h : Int), _, 11, 2654435761, rfl, by decide, by decide, _, rfl, _, _, rfl, rfl, ?_⟩
    refine ⟨b.length - (p + 1), by omega, mix ((h : Int) + ((bat b p : Nat) : Int) * 374761393) 11 2654435761, p + 1, rfl, rfl, rfl, hp1, by omega, mix_lt _ _ _, ?_⟩
    rw [← ht, T_one hp1 hp4]
  · have c' : ¬ (p : Int) < (((bv b).length : Nat) : Int) := of_decide_eq_false (Bool.eq_false_iff.mpr c)
    rw [hl] at c'
    refine ⟨_, rfl, ?_⟩
    rw [List.drop_eq_nil_of_le (by omega), T_nil] at ht
    rw [ht]
    exact q
theorem scSum : FnScope ["seed", "text", "total"] ["seed", "text"] (defScope sSum) := ⟨rfl, rfl, rfl, by decide +kernel, rfl, by decide +kernel, by decide +kernel⟩
theorem fin_step {x k p : Nat} : (Builtin.bitXor (x : Int) ((x : Int) / 2 ^ ((k : Int)).toNat) * (p : Int)) % 4294967296 = (((x ^^^ x / 2 ^ k) * p % M : Nat) : Int) := by
  have hM : M = 4294967296 := by decide
  rw [shr_nat, xor_nat, hM, Int.natCast_emod, Int.natCast_mul]
  rfl
theorem T_lt {h : Nat} {b : Bytes} : h < 4294967296 → T h b < 4294967296 := by
  suffices H : ∀ k, ∀ (b : Bytes) (h : Nat), h < 4294967296 → tail k h b < 4294967296 from H _ b h
  intro k
  induction k with
  | zero => intro b h hh; exact hh
  | succ k ih =>
    intro b h hh
    by_cases c : 4 ≤ b.length
    · rw [tail_big c]
      exact ih _ _ (Nat.mod_lt _ (by decide))
    · cases b with
      | nil => rw [tail_nil]; exact hh
      | cons x r =>
        rw [tail_cons c]
        exact ih _ _ (Nat.mod_lt _ (by decide))
/-- what text_sum leans on -/
structure Fs (K : PySem.W.Frag) (mg : Str → Option Value) (f4 fT fM f6 fL fS : Addr) (fd4 fdT fdM fd6 fdL fdS : FuncData) : Prop where
  g : G mg
  F4 : Fun K "four_bytes_at" "four_bytes_at" sFour f4 fd4
  b4 : Binds K fd4 ["text", "place"] []
  m4 : mg "four_bytes_at" = some (.ref f4)
  FT : Fun K "turned_left" "turned_left" sTurn fT fdT
  bT : Binds K fdT ["number", "count"] []
  mT : mg "turned_left" = some (.ref fT)
  FM : Fun K "mixed" "mixed" sMix fM fdM
  bM : Binds K fdM ["total", "added", "turn", "factor"] []
  mM : mg "mixed" = some (.ref fM)
  F6 : Fun K "sum_of_sixteens" "sum_of_sixteens" sSix f6 fd6
  b6 : Binds K fd6 ["seed", "text"] []
  m6 : mg "sum_of_sixteens" = some (.ref f6)
  FL : Fun K "with_bytes_left" "with_bytes_left" sLeft fL fdL
  bL : Binds K fdL ["total", "text"] []
  mL : mg "with_bytes_left" = some (.ref fL)
  FS : Fun K "text_sum" "text_sum" sSum fS fdS
  bS : Binds K fdS ["seed", "text"] []
  mS : mg "text_sum" = some (.ref fS)
theorem ok_sum {f4 fT fM f6 fL fS : Addr} {fd4 fdT fdM fd6 fdL fdS : FuncData} (A : Fs K mg f4 fT fM f6 fL fS fd4 fdT fdM fd6 fdL fdS) : FnOk P w K mg base CX0 4 fS fdS ["seed", "text"] (spSum K) := by
  have g := A.g
  have G6 : FnOk P w K mg base CX0 3 f6 fd6 ["seed", "text"] (spSix K) := ok_six A.F6 A.g A.FT A.bT A.mT A.FM A.bM A.mM A.F4 A.b4 A.m4
  have GL : FnOk P w K mg base CX0 3 fL fdL ["total", "text"] (spLeft K) := ok_left A.FL A.g A.FT A.bT A.mT A.FM A.bM A.mM A.F4 A.b4 A.m4
  refine A.FS.ok scSum (fun vs H Q E h => ?_) (fun cdv Ar outer s H vs Q E hr h => ?_)
  · obtain ⟨a, b, seed, rfl, _⟩ := h
    rfl
  obtain ⟨a, b, seed, rfl, hS, hmx, hseed, q⟩ := h
  refine ⟨_, pss_cons (ps_cut (ps_if (pt_cmpR op_ge (pe_callB call_len_seq rfl g.len PySem.boot_len (pa_cons (pv 1) pa_nil)) pe_int (nomark _))
      (pss_one (ps_set (i := 2) scSum.nd rfl (Or.inl rfl) (pe_call G6 hr rfl A.m6 A.F6.kp A.b6 .nil pass0 (pa_cons (pv 0) (pa_cons (pv 1) pa_nil)))))
      (pss_one (ps_set (i := 2) scSum.nd rfl (Or.inl rfl) (pe_op op_add (pv 0) (pe_gint rfl g.p5))))))
    (pss_cons (ps_set (i := 2) scSum.nd rfl (Or.inl rfl) (pe_call GL hr rfl A.mL A.FL.kp A.bL .nil pass0 (pa_cons (pe_op op_mod (pe_op op_add (pv 2) (pe_callB call_len_seq rfl g.len PySem.boot_len (pa_cons (pv 1) pa_nil))) (pe_gint rfl g.mM)) (pa_cons (pv 1) pa_nil))))
    (pss_cons (ps_set (i := 2) scSum.nd rfl (Or.inl rfl) (pe_op (eI op_mod) (pe_op op_mul (pe_op op_xor (pv 2) (pe_op op_shr (pv 2) pe_int)) (pe_gint rfl g.p2)) (pe_gint rfl g.mM)))
    (pss_cons (ps_set (i := 2) scSum.nd rfl (Or.inl rfl) (pe_op (eI op_mod) (pe_op op_mul (pe_op op_xor (pv 2) (pe_op op_shr (pv 2) pe_int)) (pe_gint rfl g.p3)) (pe_gint rfl g.mM)))
    (pss_one (ps_ret (pe_op op_xor (pv 2) (pe_op op_shr (pv 2) pe_int))))))), ?_⟩
  have hl : (((bv b).length : Nat) : Int) = (b.length : Int) := by rw [bv_length]
  have hM : M = 4294967296 := by decide
  refine ⟨fun σ' H' => ∃ t : Nat, σ' = [some (.int seed), some (.ref a), some (.int t)] ∧ Same H H' ∧ t = begun seed b, ⟨_, rfl, a, _, rfl, .inl hS, _, _, rfl, rfl, _, rfl, ite2 (fun c => ?_) (fun c => ?_)⟩, ?_⟩
  · have c' : (16 : Int) ≤ (((bv b).length : Nat) : Int) := of_decide_eq_true c
    rw [hl] at c'
    exact ⟨_, rfl, _, rfl, a, b, seed, rfl, hS, by omega, hmx, hseed, fun H' sm => ⟨_, rfl, sm, rfl⟩⟩
  · have c' : ¬ (16 : Int) ≤ (((bv b).length : Nat) : Int) := of_decide_eq_false (Bool.eq_false_iff.mpr c)
    rw [hl] at c'
    refine ⟨_, rfl, _, _, rfl, rfl, seed + 374761393, rfl, Same.refl H, ?_⟩
    unfold begun
    rw [if_neg (by omega)]
    rfl
  rintro σ' H' ⟨t, rfl, sm, et⟩
  have hS' := sm.seq hS
  have e1 : ((t : Int) + (((bv b).length : Nat) : Int)) % 4294967296 = (((begun seed b + b.length) % M : Nat) : Int) := by
    rw [hl, et, hM]
    omega
  have hh : (begun seed b + b.length) % M < 4294967296 := by rw [← hM]; exact Nat.mod_lt _ (by decide)
  have hT := T_lt (b := b.drop (16 * (b.length / 16))) hh
  have hx : ∀ x : Nat, x < 4294967296 → ∀ k : Nat, x ^^^ x / 2 ^ k < 4294967296 := fun x hx k => Nat.xor_lt_two_pow (n := 32) hx (Nat.lt_of_le_of_lt (Nat.div_le_self _ _) hx)
  refine ⟨_, rfl, _, rfl, a, _, rfl, .inl hS', _, _, rfl, rfl, _, _, rfl, rfl, p32, _, rfl, a, b, (begun seed b + b.length) % M, ?_, hS', hh, ?_⟩
  · show [V.int (((t : Int) + (((bv b).length : Nat) : Int)) % 4294967296), V.ref a] ++ [] = _
    rw [e1]
    rfl
  have hq := q H' sm
  rw [sum_eq] at hq
  generalize T ((begun seed b + b.length) % M) (b.drop (16 * (b.length / 16))) = y at hT hq ⊢
  have x1 : Builtin.bitXor (y : Int) ((y : Int) / 2 ^ ((15 : Int)).toNat) = ((y ^^^ y / 2 ^ 15 : Nat) : Int) := by
    rw [show (y : Int) / 2 ^ ((15 : Int)).toNat = ((y / 2 ^ 15 : Nat) : Int) from shr_nat (k := 15), xor_nat]
  have l1 := hx y hT 15
  refine ⟨_, rfl, _, rfl, _, _, rfl, rfl, nn _, _, _, rfl, rfl, _, _, rfl, rfl, .inr ⟨by decide, by decide⟩, ((fin1 y : Nat) : Int), _, _, rfl, rfl, p32, fin_step (k := 15) (p := 2246822519), ?_⟩
  refine ⟨_, rfl, _, rfl, _, _, rfl, rfl, nn _, _, _, rfl, rfl, _, _, rfl, rfl, .inr ⟨by decide, by decide⟩, ((fin2 (fin1 y) : Nat) : Int), _, _, rfl, rfl, p32, fin_step (k := 13) (p := 3266489917), ?_⟩
  refine ⟨_, rfl, _, rfl, _, _, rfl, rfl, nn _, _, _, rfl, rfl, ?_⟩
  refine qint hq ?_
  rw [show ((fin2 (fin1 y) : Nat) : Int) / 2 ^ ((16 : Int)).toNat = ((fin2 (fin1 y) / 2 ^ 16 : Nat) : Int) from shr_nat (k := 16), xor_nat]
  rfl
end
end S

/-! ### a number's bytes -/
namespace PK
open PySem L2 Kg18 MS C
def spLow : Sp := fun vs H Q _ => ∃ (n k : Nat), vs = [.int n, .int k] ∧ k ≤ 16 ∧ ∀ (l : Addr) (H' : Hp), Same H H' → H l = none → H' l = some (.lst (bv (spelled k n))) → Q (.ref l) H'
section
variable {P : Program} {w : World} {K : PySem.W.Frag} {mg : Str → Option Value} {base : Heap}
theorem scLow : FnScope ["number", "count", "k"] ["number", "count"] (defScope sLow) := ⟨rfl, rfl, rfl, by decide +kernel, rfl, by decide +kernel, by decide +kernel⟩
theorem ok_low {f : Addr} {fd : FuncData} (F : Fun K "low_first" "low_first" sLow f fd) (hrange : mg "range" = none) : FnOk P w K mg base CX0 1 f fd ["number", "count"] spLow := by
  refine F.ok scLow (fun vs H Q E h => ?_) (fun cdv A outer s H vs Q E hr h => ?_)
  · obtain ⟨n, k, rfl, _⟩ := h
    rfl
  obtain ⟨n, k, rfl, hk, q⟩ := h
  refine ⟨_, pss_one (ps_ret (pe_lc rfl scLow.nd (pi_range1 rfl hrange (pa_cons (pv 1) pa_nil)) (blkOk_by (own := [("k", 2)]) (by show blkC ["number", "count", "k"] (defScope sLow) _ _ = true; decide +kernel)) (fun s H C cl fp => pg_name (i := 2) scLow.nd rfl (Or.inl rfl)) (fun s H C cl fp => pts_nil) (fun s H C cl fp => pe_op (eI0 op_and) (pe_op (eI op_shr) (pv 0) (pe_op (eI op_mul) pe_int (pv 2))) pe_int))), ?_⟩
  refine ⟨_, rfl, (k : Int), rfl, by omega, by omega, fun D hD => lc_range (fun i H' => Same H H' ∧ H' D = some (.lst ((bv (spelled k n)).take i))) ⟨same_new hD _, upd_same⟩ (fun i H2 hi ⟨s2, h2⟩ => ?_) (fun H2 ⟨s2, h2⟩ => ?_)⟩
  · have hi' : i < k := by omega
    refine ⟨rfl, tyes ?_⟩
    refine ⟨_, rfl, _, rfl, 8 * (i : Int), _, _, rfl, rfl, .inl ⟨by decide, by decide⟩, by omega, _, _, _, rfl, rfl, by omega, rfl, ((n / 256 ^ i % 256 : Nat) : Int), _, _, rfl, rfl, low_val rfl, _, h2, ?_, fun c o e => ?_, ?_⟩
    · rw [List.length_take]
      have : (16 : Nat) < sizeLine := by rw [sizeLine_eq]; decide
      omega
    · rw [upd_ne (ne_of_none e hD)]
      exact s2 c o e
    · rw [upd_same, take_succ_at (spelled_at hi')]
  · refine q D H2 s2 hD ?_
    rw [h2, List.take_of_length_le]
    rw [bv_length, MP.spelled_length]
    omega
end
end PK

/-! ### a head's sum -/
namespace FR
open PySem L2 Kg18 MS C
def spHS (K : PySem.W.Frag) : Sp := fun vs H Q _ => ∃ (a : Addr) (b : Bytes), vs = [.ref a] ∧ SqL K H a (bv b) ∧ b.length ≤ 16777216 ∧ ∀ H', Same H H' → Q (.int (Kg18.sum 0 b / 256 % 256 : Nat)) H'
section
variable {P : Program} {w : World} {K : PySem.W.Frag} {mg : Str → Option Value} {base : Heap}
theorem scHS : FnScope ["summed"] ["summed"] (defScope s_head_sum) := ⟨rfl, rfl, rfl, by decide +kernel, rfl, by decide +kernel, by decide +kernel⟩
theorem ok_hs {f fS : Addr} {fd fdS : FuncData} (F : Fun K "head_sum" "head_sum" s_head_sum f fd) (GS : FnOk P w K mg base CX0 4 fS fdS ["seed", "text"] (S.spSum K)) (kS : PySem.W.keepIn K (.ref fS) = true) (bS : Binds K fdS ["seed", "text"] []) (mS : mg "text_sum" = some (.ref fS)) : FnOk P w K mg base CX0 5 f fd ["summed"] (spHS K) := by
  refine F.ok scHS (fun vs H Q E h => ?_) (fun cdv A outer s H vs Q E hr h => ?_)
  · obtain ⟨a, b, rfl, _⟩ := h
    rfl
  obtain ⟨a, b, rfl, hS, hz, k⟩ := h
  refine ⟨_, pss_one (ps_ret (pe_op (eI0 op_and) (pe_op (eI op_shr) (pe_call GS hr rfl mS kS bS .nil pass0 (pa_cons pe_int (pa_cons (pv 0) pa_nil))) pe_int) pe_int)), ?_⟩
  refine ⟨_, rfl, a, b, 0, rfl, hS, hz, by decide, fun H' sm => ?_⟩
  have e : ((Kg18.sum 0 b : Nat) : Int) / 2 ^ ((8 : Int)).toNat = ((Kg18.sum 0 b / 256 : Nat) : Int) := shr_nat (k := 8)
  exact ⟨((Kg18.sum 0 b / 256 : Nat) : Int), _, _, rfl, rfl, nn _, e, ((Kg18.sum 0 b / 256 % 256 : Nat) : Int), _, _, rfl, rfl, and255, k H' sm⟩
end
end FR

/-! ### the reader, and a block's parts -/
namespace U
open PySem L2 Kg18 MS MB MR C
theorem ks : ¬ (("source" : Str) = "place") := by decide +kernel
def rf (a : Addr) (p : Int) : List (Str × V) := putF "place" (.int p) (putF "source" (.ref a) [])
theorem rf_eq (a : Addr) (p : Int) : rf a p = ([("source", V.ref a), ("place", V.int p)] : List (Str × V)) := by
  show (if ("source" : Str) = "place" then [(("source" : Str), V.int p)] else (("source" : Str), V.ref a) :: putF "place" (V.int p) []) = ([("source", V.ref a), ("place", V.int p)] : List (Str × V))
  rw [if_neg ks]
  all_goals rfl
theorem rf_source (a : Addr) (p : Int) : (rf a p).lookup ("source" : Str) = some (.ref a) := by
  unfold rf
  rw [lookup_putF, if_neg ks, lookup_putF, if_pos rfl]
theorem rf_place (a : Addr) (p : Int) : (rf a p).lookup ("place" : Str) = some (.int p) := by
  unfold rf
  rw [lookup_putF, if_pos rfl]
theorem rf_no (a : Addr) (p : Int) {m : Str} (h1 : ¬ m = "place") (h2 : ¬ m = "source") : (rf a p).lookup m = none := by
  unfold rf
  rw [lookup_putF, if_neg h1, lookup_putF, if_neg h2]
  all_goals rfl
theorem rf_put (a : Addr) (p y : Int) : putF "place" (.int y) (rf a p) = rf a y := by
  rw [rf_eq, rf_eq]
  show (if ("source" : Str) = "place" then _ else (("source" : Str), V.ref a) :: (if ("place" : Str) = "place" then [(("place" : Str), V.int y)] else _)) = ([("source", V.ref a), ("place", V.int y)] : List (Str × V))
  rw [if_neg ks, if_pos rfl]
/-- a reader stands at r: its bytes at a, it has read p of them -/
def RdAt (C : Addr) (H : Hp) (r a : Addr) (p : Nat) : Prop := ∃ dx, H r = some (.ins C dx (rf a (p : Int)))
/-- what the top says -/
structure G (K : PySem.W.Frag) (mg : Str → Option Value) (C : Addr) : Prop where
  cl : Cls K C
  nS : NoAttr K C "source"
  nP : NoAttr K C "place"
  mgC : mg "Reader" = some (.ref C)
  len : mg "len" = none
  rev : mg "reversed" = none
  m4 : GInt mg "SHORTEST_MATCH" 4
/-- the reader and its bytes -/
structure Rr (K : PySem.W.Frag) (C : Addr) (H : Hp) (r a : Addr) (b : Bytes) (p : Nat) : Prop where
  at_ : RdAt C H r a p
  sq : SqL K H a (bv b)
  le : p ≤ b.length
theorem Rr.of {K : PySem.W.Frag} {C : Addr} {H H' : Hp} {r a : Addr} {b : Bytes} {p p' : Nat} (R : Rr K C H r a b p) (h : RdAt C H' r a p') (k : But r H H') (l : p' ≤ b.length) : Rr K C H' r a b p' := by
  obtain ⟨dx, e⟩ := R.at_
  exact ⟨h, k.seqI e R.sq, l⟩
def spInit (C : Addr) : Sp := fun vs H Q _ => ∃ (x dx a : Addr), vs = [.ref x, .ref a] ∧ H x = some (.ins C dx []) ∧ ∀ H' : Hp, RdAt C H' x a 0 → But x H H' → Q .non H'
def spLeft (K : PySem.W.Frag) (C : Addr) : Sp := fun vs H Q _ => ∃ (r a : Addr) (b : Bytes) (p : Nat), vs = [.ref r] ∧ Rr K C H r a b p ∧ Q (.int ((b.length - p : Nat) : Int)) H
def spTaken (K : PySem.W.Frag) (C : Addr) : Sp := fun vs H Q _ => ∃ (r a : Addr) (b : Bytes) (p n : Nat), vs = [.ref r, .int n] ∧ Rr K C H r a b p ∧ p + n ≤ b.length ∧
  ∀ (l : Addr) (H' : Hp), RdAt C H' r a (p + n) → But r H H' → H l = none → l ≠ r → H' l = some (.lst (bv ((b.drop p).take n))) → Q (.ref l) H'
def spNum (K : PySem.W.Frag) (C : Addr) : Sp := fun vs H Q _ => ∃ (r a : Addr) (b : Bytes) (p n : Nat), vs = [.ref r, .int n] ∧ Rr K C H r a b p ∧ p + n ≤ b.length ∧
  ∀ (H' : Hp), RdAt C H' r a (p + n) → But r H H' → Q (.int (le (b.drop p) n : Nat)) H'
def spCar (K : PySem.W.Frag) (C : Addr) : Sp := fun vs H Q _ => ∃ (r a : Addr) (b : Bytes) (p n : Nat), vs = [.ref r, .int n] ∧ Rr K C H r a b p ∧ n ≤ 15 ∧
  ∀ (H' : Hp) (p' : Nat), RdAt C H' r a p' → But r H H' → p ≤ p' → p' ≤ b.length → (∀ m v, lengthOf n (b.drop p) = some (m, v) → v = b.drop p' → Q (.int m) H') ∧ (lengthOf n (b.drop p) = none → Q (.int (-1)) H')
section
variable {P : Program} {w : World} {K : PySem.W.Frag} {mg : Str → Option Value} {base : Heap}
theorem scInit : FnScope ["self", "source"] ["self", "source"] (defScope sReader_init) := ⟨rfl, rfl, rfl, by decide +kernel, rfl, by decide +kernel, by decide +kernel⟩
theorem ok_init {f C : Addr} {fd : FuncData} (F : Fun K "__init__" "Reader.__init__" sReader_init f fd) (g : G K mg C) : FnOk P w K mg base CX0 1 f fd ["self", "source"] (spInit C) := by
  refine F.ok scInit (fun vs H Q E h => ?_) (fun cdv A outer s H vs Q E hr h => ?_)
  · obtain ⟨x, dx, a, rfl, _⟩ := h
    rfl
  obtain ⟨x, dx, a, rfl, hx, k⟩ := h
  refine ⟨_, pss_cons (ps_fld (pv 0) (pv 1) rfl) (pss_one (ps_fld (pv 0) pe_int rfl)), ?_⟩
  refine ⟨_, rfl, _, rfl, x, C, dx, [], rfl, hx, g.cl, g.nS, (by show 0 < 1000; decide), _, rfl, x, C, dx, _, rfl, upd_same, g.cl, g.nP, (by show 1 < 1000; decide), ?_⟩
  exact k _ ⟨dx, upd_same⟩ fun b o e hb => by rw [upd_ne hb, upd_ne hb]; exact e
theorem scLeft : FnScope ["self"] ["self"] (defScope sReader_left) := ⟨rfl, rfl, rfl, by decide +kernel, rfl, by decide +kernel, by decide +kernel⟩
theorem ok_left {f C : Addr} {fd : FuncData} (F : Fun K "left" "Reader.left" sReader_left f fd) (g : G K mg C) : FnOk P w K mg base CX0 1 f fd ["self"] (spLeft K C) := by
  refine F.ok scLeft (fun vs H Q E h => ?_) (fun cdv A outer s H vs Q E hr h => ?_)
  · obtain ⟨r, a, b, p, rfl, _⟩ := h
    rfl
  obtain ⟨r, a, b, p, rfl, R, q⟩ := h
  obtain ⟨dx, h1⟩ := R.at_
  refine ⟨_, pss_one (ps_ret (pe_op op_sub (pe_callB call_len_seq rfl g.len PySem.boot_len (pa_cons (pe_fld (pv 0) rfl) pa_nil)) (pe_fld (pv 0) rfl))), ?_⟩
  refine ⟨_, rfl, r, C, dx, _, _, rfl, h1, g.cl, g.nS, rf_source _ _, a, _, rfl, .inl R.sq, _, rfl, r, C, dx, _, _, rfl, h1, g.cl, g.nP, rf_place _ _, _, _, rfl, rfl, ?_⟩
  have hl := R.le
  exact qint q (by rw [bv_length]; omega)
theorem scTaken : FnScope ["self", "count"] ["self", "count"] (defScope sReader_taken) := ⟨rfl, rfl, rfl, by decide +kernel, rfl, by decide +kernel, by decide +kernel⟩
theorem ok_taken {f C : Addr} {fd : FuncData} (F : Fun K "taken" "Reader.taken" sReader_taken f fd) (g : G K mg C) : FnOk P w K mg base CX0 1 f fd ["self", "count"] (spTaken K C) := by
  refine F.ok scTaken (fun vs H Q E h => ?_) (fun cdv A outer s H vs Q E hr h => ?_)
  · obtain ⟨r, a, b, p, n, rfl, _⟩ := h
    rfl
  obtain ⟨r, a, b, p, n, rfl, R, hn, q⟩ := h
  obtain ⟨dx, h1⟩ := R.at_
  refine ⟨_, pss_cons (ps_fldaug (pv 0) (pv 1) in_add) (pss_one (ps_ret (pe_slice sl_list (pe_fld (pv 0) rfl) (po_some (pe_op op_sub (pe_fld (pv 0) rfl) (pv 1))) (po_some (pe_fld (pv 0) rfl))))), ?_⟩
  refine ⟨_, rfl, r, C, dx, _, _, rfl, h1, g.cl, g.nP, rf_place _ _, _, rfl, _, _, rfl, rfl, dx, _, h1, (by rw [rf_eq]; show 2 < 1000; decide), ?_⟩
  have e1 : putF "place" (V.int ((p : Int) + (n : Int))) (rf a (p : Int)) = rf a ((p + n : Nat) : Int) := by rw [rf_put]; rfl
  have h2 : upd H r (.ins C dx (putF "place" (V.int ((p : Int) + (n : Int))) (rf a (p : Int)))) r = some (.ins C dx (rf a ((p + n : Nat) : Int))) := by rw [upd_same, e1]
  have kp : But r H (upd H r (.ins C dx (putF "place" (V.int ((p : Int) + (n : Int))) (rf a (p : Int))))) := But.upd _
  have sq := kp.seqI h1 R.sq
  generalize upd H r (.ins C dx (putF "place" (V.int ((p : Int) + (n : Int))) (rf a (p : Int)))) = H1 at h2 kp sq ⊢
  refine ⟨_, rfl, r, C, dx, _, _, rfl, h2, g.cl, g.nS, rf_source _ _, _, rfl, r, C, dx, _, _, rfl, h2, g.cl, g.nP, rf_place _ _, _, rfl, _, _, rfl, rfl, _, rfl, _, rfl, r, C, dx, _, _, rfl, h2, g.cl, g.nP, rf_place _ _, _, rfl, a, _, rfl, sq, fun l hl => ?_⟩
  have nlr : l ≠ r := fun z => by rw [z, h2] at hl; cases hl
  have ec : cutV (bv b) (some (((p + n : Nat) : Int) - (n : Int))) (some ((p + n : Nat) : Int)) = bv ((b.drop p).take n) := by
    rw [cut_bv (p := p) (q := p + n) (by omega) rfl (by omega) hn, Nat.add_sub_cancel_left]
  rw [ec]
  exact q l _ ⟨dx, by rw [upd_ne nlr.symm]; exact h2⟩ (kp.trans (But.of (same_new hl _))) (kp.free hl nlr) nlr upd_same
theorem scNum : FnScope ["self", "count", "total", "byte"] ["self", "count"] (defScope sReader_number) := ⟨rfl, rfl, rfl, by decide +kernel, rfl, by decide +kernel, by decide +kernel⟩
theorem ok_num {f fT C : Addr} {fd fdT : FuncData} (F : Fun K "number" "Reader.number" sReader_number f fd) (g : G K mg C) (FT : Fun K "taken" "Reader.taken" sReader_taken fT fdT) (bT : Binds K fdT ["self", "count"] []) (mT : Meth K C "taken" fT) :
    FnOk P w K mg base CX0 2 f fd ["self", "count"] (spNum K C) := by
  have GT : FnOk P w K mg base CX0 1 fT fdT ["self", "count"] (spTaken K C) := ok_taken FT g
  refine F.ok scNum (fun vs H Q E h => ?_) (fun cdv A outer s H vs Q E hr h => ?_)
  · obtain ⟨r, a, b, p, n, rfl, _⟩ := h
    rfl
  obtain ⟨r, a, b, p, n, rfl, R, hn, q⟩ := h
  obtain ⟨dx, h1⟩ := R.at_
  refine ⟨_, pss_cons (ps_set (i := 2) scNum.nd rfl (Or.inl rfl) pe_int)
    (pss_cons (ps_for PassesOwn.never rfl (pi_reversed rfl g.rev (pa_cons (pe_meth (pv 0) g.cl mT GT hr bT .nil pass0 (pa_cons (pv 1) pa_nil)) pa_nil)) (pg_name (i := 3) scNum.nd rfl (Or.inl rfl))
      (pss_one (ps_set (i := 2) scNum.nd rfl (Or.inl rfl) (pe_op op_add (pe_op op_mul pe_int (pv 2)) (pv 3)))))
    (pss_one (ps_ret (pv 2)))), ?_⟩
  refine ⟨_, rfl, r, dx, _, rfl, h1, rf_no _ _ (by decide +kernel) (by decide +kernel), _, rfl, r, a, b, p, n, rfl, R, hn, fun l H' hr' kp nl nlr hl => ?_⟩
  have hlen : ((b.drop p).take n).length = n := by rw [List.length_take, List.length_drop]; omega
  refine ⟨l, _, rfl, SqL.of hl, for_rev (K := K) (a := l) (xs := bv ((b.drop p).take n)) (fun i σ H2 => ∃ v : Option V, σ = [some (.ref r), some (.int n), some (.int (lev (((b.drop p).take n).drop (((b.drop p).take n).length - i)) : Nat)), v] ∧ H2 = H')
    ⟨none, ?_, rfl⟩ (fun i σ H2 _ ⟨_, _, e⟩ => by rw [e]; exact SqL.of hl) ?_ ?_⟩
  · rw [Nat.sub_zero, List.drop_length]
    rfl
  · rintro i y σ H2 hi hy ⟨v, rfl, rfl⟩
    rw [bv_length] at hi hy
    rw [bv_get (by omega)] at hy
    cases hy
    refine ⟨_, rfl, _, _, rfl, rfl, .inl ⟨by decide, by decide⟩, _, rfl, _, _, rfl, rfl, ?_⟩
    refine ⟨some (.int (bat ((b.drop p).take n) (((b.drop p).take n).length - 1 - i) : Nat)), ?_, rfl⟩
    rw [lev_step hi]
    rfl
  · rintro σ H2 ⟨v, rfl, rfl⟩
    refine ⟨_, rfl, ?_⟩
    refine qint (q _ hr' kp) ?_
    rw [bv_length, Nat.sub_self, List.drop_zero]
    rfl
theorem scCar : FnScope ["self", "half", "total", "more"] ["self", "half"] (defScope sReader_carried) := ⟨rfl, rfl, rfl, by decide +kernel, rfl, by decide +kernel, by decide +kernel⟩
theorem ok_car {f fT fL fN C : Addr} {fd fdT fdL fdN : FuncData} (F : Fun K "carried" "Reader.carried" sReader_carried f fd) (g : G K mg C) (FT : Fun K "taken" "Reader.taken" sReader_taken fT fdT) (bT : Binds K fdT ["self", "count"] []) (mT : Meth K C "taken" fT)
    (FL : Fun K "left" "Reader.left" sReader_left fL fdL) (bL : Binds K fdL ["self"] []) (mL : Meth K C "left" fL) (FN : Fun K "number" "Reader.number" sReader_number fN fdN) (bN : Binds K fdN ["self", "count"] []) (mN : Meth K C "number" fN) :
    FnOk P w K mg base CX0 3 f fd ["self", "half"] (spCar K C) := by
  have GL : FnOk P w K mg base CX0 1 fL fdL ["self"] (spLeft K C) := ok_left FL g
  have GN : FnOk P w K mg base CX0 2 fN fdN ["self", "count"] (spNum K C) := ok_num FN g FT bT mT
  refine F.ok scCar (fun vs H Q E h => ?_) (fun cdv A outer s H vs Q E hr h => ?_)
  · obtain ⟨r, a, b, p, n, rfl, _⟩ := h
    rfl
  obtain ⟨r, a, b, p, n, rfl, R, hn, q⟩ := h
  have hr1 : Room 1 _ := hr.mono (by decide)
  refine ⟨_, pss_cons (ps_if (pt_cmpR op_lt (pv 1) pe_int (nomark _)) (pss_one (ps_ret (pv 1))) pss_nil)
    (pss_cons (ps_set (i := 2) scCar.nd rfl (Or.inl rfl) (pv 1))
    (pss_cons (ps_while PassesOwn.never (pt_cmpR op_gt (pe_meth0 (pv 0) g.cl mL GL hr1 bL .nil pass0) pe_int (nomark _))
      (pss_cons (ps_set (i := 3) scCar.nd rfl (Or.inl rfl) (pe_meth (pv 0) g.cl mN GN hr bN .nil pass0 (pa_cons pe_int pa_nil)))
      (pss_cons (ps_aug (i := 2) scCar.nd rfl (Or.inl rfl) (pv 3) ip_add)
      (pss_one (ps_if (pt_cmpR op_lt (pv 3) pe_int (nomark _)) (pss_one (ps_ret (pv 2))) pss_nil)))))
    (pss_one (ps_ret (pe_un un_neg pe_int))))), ?_⟩
  refine ⟨_, rfl, _, _, rfl, rfl, _, rfl, ?_⟩
  refine ite2 (fun c => ?_) (fun c => ?_)
  · have c' : (n : Int) < 15 := of_decide_eq_true c
    exact ⟨_, rfl, (q H p R.at_ (But.refl _ _) (Nat.le_refl _) R.le).1 n _ (lengthOf_lt _ (by omega)) rfl⟩
  have c' : ¬ (n : Int) < 15 := of_decide_eq_false (Bool.eq_false_iff.mpr c)
  have en : n = 15 := by omega
  subst en
  refine ⟨_, rfl, ?_⟩
  refine ⟨fun m σ H' => ∃ (t p' : Nat) (v : Option V), σ = [some (.ref r), some (.int (15 : Nat)), some (.int t), v] ∧ RdAt C H' r a p' ∧ But r H H' ∧ m = b.length - p' ∧ p ≤ p' ∧ p' ≤ b.length ∧ LL 15 (b.drop p) = LL t (b.drop p'),
    ⟨_, 15, p, none, rfl, R.at_, But.refl _ _, rfl, Nat.le_refl _, R.le, rfl⟩, ?_⟩
  rintro m σ H' ⟨t, p', v, rfl, hr', kp, rfl, h1, h2, h3⟩
  have R' : Rr K C H' r a b p' := R.of hr' kp h2
  obtain ⟨dx, e1⟩ := id hr'
  refine ⟨_, rfl, r, dx, _, rfl, e1, rf_no _ _ (by decide +kernel) (by decide +kernel), r, a, b, p', rfl, R', _, _, rfl, rfl, _, rfl, ?_⟩
  refine ite2 (fun c => ?_) (fun c => ?_)
  · have c' : (0 : Int) < ((b.length - p' : Nat) : Int) := of_decide_eq_true c
    have hp : p' < b.length := by omega
    refine ⟨_, fun σ' H' z => z, ?_⟩
    refine ⟨_, rfl, r, dx, _, rfl, e1, rf_no _ _ (by decide +kernel) (by decide +kernel), r, a, b, p', 1, rfl, R', hp, fun H2 hr2 kp2 => ?_⟩
    rw [le_one hp]
    refine ⟨_, rfl, _, rfl, _, _, rfl, rfl, _, rfl, _, _, rfl, rfl, _, rfl, ?_⟩
    have hb := bat_lt b p'
    refine ite2 (fun c => ?_) (fun c => ?_)
    · have c' : ((bat b p' : Nat) : Int) < 255 := of_decide_eq_true c
      refine ⟨_, rfl, ?_⟩
      have e4 : LL 15 (b.drop p) = some (t + bat b p', b.drop (p' + 1)) := by rw [h3, LL_at hp, if_neg (by omega)]
      exact (q H2 (p' + 1) hr2 (kp.trans kp2) (by omega) hp).1 _ _ e4 rfl
    · have c' : ¬ ((bat b p' : Nat) : Int) < 255 := of_decide_eq_false (Bool.eq_false_iff.mpr c)
      have eb : bat b p' = 255 := by omega
      refine ⟨b.length - (p' + 1), by omega, t + 255, p' + 1, some (.int (bat b p' : Nat)), ?_, hr2, kp.trans kp2, rfl, by omega, hp, ?_⟩
      · rw [eb]
        rfl
      · rw [h3, LL_at hp, if_pos eb]
  · have c' : ¬ (0 : Int) < ((b.length - p' : Nat) : Int) := of_decide_eq_false (Bool.eq_false_iff.mpr c)
    have e5 : b.drop p' = [] := List.drop_eq_nil_of_le (by omega)
    refine ⟨_, rfl, ?_⟩
    have e4 : lengthOf 15 (b.drop p) = none := by rw [lengthOf_15, h3, e5, LL_nil]
    exact (q H' p' hr' kp h1 h2).2 e4
/-! a match's bytes -/
def spMat (K : PySem.W.Frag) : Sp := fun vs H Q _ => ∃ (a : Addr) (t : Bytes) (d n : Nat), vs = [.ref a, .int d, .int n] ∧ SqL K H a (bv t) ∧ 0 < d ∧ d ≤ t.length ∧ d ≤ 65535 ∧ n + d ≤ 16777216 ∧
  ∀ (l : Addr) (H' : Hp), Same H H' → H l = none → H' l = some (.lst (bv (cyc (t.drop (t.length - d)) n))) → Q (.ref l) H'
theorem scMat : FnScope ["text", "back", "length", "begin"] ["text", "back", "length"] (defScope s_matched_bytes) := ⟨rfl, rfl, rfl, by decide +kernel, rfl, by decide +kernel, by decide +kernel⟩
theorem ok_mat {f C : Addr} {fd : FuncData} (F : Fun K "matched_bytes" "matched_bytes" s_matched_bytes f fd) (g : G K mg C) : FnOk P w K mg base CX0 1 f fd ["text", "back", "length"] (spMat K) := by
  refine F.ok scMat (fun vs H Q E h => ?_) (fun cdv A outer s H vs Q E hr h => ?_)
  · obtain ⟨a, t, d, n, rfl, _⟩ := h
    rfl
  obtain ⟨a, t, d, n, rfl, hS, h0, h1, h2, h3, q⟩ := h
  refine ⟨_, pss_cons (ps_set (i := 3) scMat.nd rfl (Or.inl rfl) (pe_op (eI0 op_sub) (pe_callB call_len_bv rfl g.len PySem.boot_len (pa_cons (pv 0) pa_nil)) (pv 1)))
    (pss_cons (ps_if (pt_cmpR op_le (pv 2) (pv 1) (nomark _)) (pss_one (ps_ret (pe_slice sl_list (pv 0) (po_some (pv 3)) (po_some (pe_op op_add (pv 3) (pv 2)))))) pss_nil)
    (pss_one (ps_ret (pe_slice sl_list (pe_op op_rep (pe_slice sl_list (pv 0) (po_some (pv 3)) po_none) (pe_op (eI0 op_add) (pe_op op_fdiv (pv 2) (pv 1)) pe_int)) po_none (po_some (pv 2)))))), ?_⟩
  have hu : (t.drop (t.length - d)).length = d := by rw [List.length_drop]; omega
  refine ⟨_, rfl, a, t, rfl, hS, _, rfl, ((t.length - d : Nat) : Int), _, _, rfl, rfl, by omega, ?_⟩
  refine ⟨_, rfl, _, rfl, _, _, rfl, rfl, _, rfl, ?_⟩
  refine ite2 (fun c => ?_) (fun c => ?_)
  · have c' : (n : Int) ≤ (d : Int) := of_decide_eq_true c
    refine ⟨_, rfl, _, rfl, _, rfl, _, rfl, _, rfl, _, _, rfl, rfl, _, rfl, a, _, rfl, hS, fun l hl => ?_⟩
    refine q l _ (same_new hl _) hl ?_
    rw [upd_same, cut_bv (p := t.length - d) (q := t.length - d + n) rfl (by omega) (by omega) (by omega), Nat.add_sub_cancel_left, cyc_take (by omega)]
  · have c' : ¬ (n : Int) ≤ (d : Int) := of_decide_eq_false (Bool.eq_false_iff.mpr c)
    refine ⟨_, rfl, _, rfl, _, rfl, a, _, rfl, hS, fun l hl => ?_⟩
    rw [cut_from (p := t.length - d) rfl (by omega)]
    have ek : ((n : Int) / (d : Int) + 1) = ((n / d + 1 : Nat) : Int) := by
      rw [Int.natCast_add, Int.natCast_ediv]
      rfl
    have hk : (n / d + 1) * d ≤ n + d := by
      rw [Nat.add_mul, Nat.one_mul]
      have := Nat.div_mul_le_self n d
      omega
    have hn : n ≤ (n / d + 1) * d := by
      have h4 := Nat.div_add_mod n d
      have h5 := Nat.mod_lt n h0
      rw [Nat.add_mul, Nat.one_mul, Nat.mul_comm (n / d) d]
      omega
    refine ⟨_, rfl, _, rfl, _, _, rfl, rfl, ⟨by omega, by omega⟩, ((n / d + 1 : Nat) : Int), _, _, rfl, rfl, ek, ?_⟩
    have hlen : (List.replicate (n / d + 1) (t.drop (t.length - d))).flatten.length = (n / d + 1) * d := by rw [rep_length, hu]
    refine ⟨l, _, _, rfl, rfl, upd_same, Int.le_trans (by decide) (Int.natCast_nonneg _), ?_, ?_, fun l2 hl2 => ?_⟩
    · have h6 : n / d ≤ n := Nat.div_le_self _ _
      have h7 : n / d + 1 ≤ 16777217 := by omega
      exact Int.lt_of_le_of_lt (Int.ofNat_le.mpr h7) (by decide)
    · rw [bv_length, hu, Int.toNat_natCast, Nat.mul_comm]
      exact line (by omega)
    rw [Int.toNat_natCast, bv_rep]
    refine ⟨_, rfl, _, rfl, l2, _, rfl, SqL.of upd_same, fun l3 hl3 => ?_⟩
    rw [cut_to (q := n) rfl (by omega)]
    have s1 := same_new hl (.lst (bv (t.drop (t.length - d))))
    have s2 := s1.trans (same_new hl2 (.lst (bv (List.replicate (n / d + 1) (t.drop (t.length - d))).flatten)))
    refine q l3 _ (s2.trans (same_new hl3 _)) (s2.free hl3) ?_
    rw [upd_same, cyc_rep (k := n / d + 1) (by rw [hu]; exact hn)]
/-! the parts -/
def spParts (K : PySem.W.Frag) : Sp := fun vs H Q _ => ∃ (ba ta : Addr) (b t : Bytes) (fr mx : Nat), vs = [.ref ba, .ref ta, .int fr, .int mx] ∧ Fix K H ba ta (bv b) ∧ H ta = some (.lst (bv t)) ∧ t.length + mx + b.length + 65536 ≤ 16777216 ∧
  ∀ H' : Hp, But ta H H' → (∀ u, U fr (t.length + mx) t b = some u → H' ta = some (.lst (bv u)) → Q (.bl true) H') ∧ (U fr (t.length + mx) t b = none → Q (.bl false) H')
structure Fs (K : PySem.W.Frag) (mg : Str → Option Value) (C fI fL fT fN fC fM : Addr) (fdI fdL fdT fdN fdC fdM : FuncData) : Prop where
  g : G K mg C
  M : Mk K C fI
  FI : Fun K "__init__" "Reader.__init__" sReader_init fI fdI
  bI : Binds K fdI ["self", "source"] []
  FL : Fun K "left" "Reader.left" sReader_left fL fdL
  bL : Binds K fdL ["self"] []
  mL : Meth K C "left" fL
  FT : Fun K "taken" "Reader.taken" sReader_taken fT fdT
  bT : Binds K fdT ["self", "count"] []
  mT : Meth K C "taken" fT
  FN : Fun K "number" "Reader.number" sReader_number fN fdN
  bN : Binds K fdN ["self", "count"] []
  mN : Meth K C "number" fN
  FC : Fun K "carried" "Reader.carried" sReader_carried fC fdC
  bC : Binds K fdC ["self", "half"] []
  mC : Meth K C "carried" fC
  FM : Fun K "matched_bytes" "matched_bytes" s_matched_bytes fM fdM
  bM : Binds K fdM ["text", "back", "length"] []
  mM : mg "matched_bytes" = some (.ref fM)
theorem scParts : FnScope ["block", "text", "first", "most", "longest", "reader", "halves", "own", "back", "more"] ["block", "text", "first", "most"] (defScope s_unpack_parts) := ⟨rfl, rfl, rfl, by decide +kernel, rfl, by decide +kernel, by decide +kernel⟩
theorem ok_parts {f C fI fL fT fN fC fM : Addr} {fd fdI fdL fdT fdN fdC fdM : FuncData} (F : Fun K "unpack_parts" "unpack_parts" s_unpack_parts f fd) (A : Fs K mg C fI fL fT fN fC fM fdI fdL fdT fdN fdC fdM) :
    FnOk P w K mg base CX0 4 f fd ["block", "text", "first", "most"] (spParts K) := by
  have g := A.g
  have GI : FnOk P w K mg base CX0 1 fI fdI ["self", "source"] (spInit C) := ok_init A.FI g
  have GL : FnOk P w K mg base CX0 1 fL fdL ["self"] (spLeft K C) := ok_left A.FL g
  have GT : FnOk P w K mg base CX0 1 fT fdT ["self", "count"] (spTaken K C) := ok_taken A.FT g
  have GN : FnOk P w K mg base CX0 2 fN fdN ["self", "count"] (spNum K C) := ok_num A.FN g A.FT A.bT A.mT
  have GC : FnOk P w K mg base CX0 3 fC fdC ["self", "half"] (spCar K C) := ok_car A.FC g A.FT A.bT A.mT A.FL A.bL A.mL A.FN A.bN A.mN
  have GM : FnOk P w K mg base CX0 1 fM fdM ["text", "back", "length"] (spMat K) := ok_mat A.FM g
  refine F.ok scParts (fun vs H Q E h => ?_) (fun cdv Ar outer s H vs Q E hr h => ?_)
  · obtain ⟨ba, ta, b, t, fr, mx, rfl, _⟩ := h
    rfl
  obtain ⟨ba, ta, b, t, fr, mx, rfl, hF, hT, hsz, q⟩ := h
  have hr1 : Room 1 _ := hr.mono (by decide)
  have hr2 : Room 2 _ := hr.mono (by decide)
  refine ⟨_, pss_cons (ps_set (i := 4) scParts.nd rfl (Or.inl rfl) (pe_op (eI0 op_add) (pe_callB call_len_bv rfl g.len PySem.boot_len (pa_cons (pv 1) pa_nil)) (pv 3)))
    (pss_cons (ps_set (i := 5) scParts.nd rfl (Or.inl rfl) (pe_make A.M GI hr2 rfl g.mgC A.bI .nil pass0 (pa_cons (pv 0) pa_nil)))
    (pss_cons (ps_while PassesOwn.never (pt_cmpR op_gt (pe_meth0 (pv 5) g.cl A.mL GL hr1 A.bL .nil pass0) pe_int (nomark _)) (pss_cons (ps_set (i := 6) scParts.nd rfl (Or.inl rfl) (pe_meth (pv 5) g.cl A.mN GN hr2 A.bN .nil pass0 (pa_cons pe_int pa_nil)))
    (pss_cons (ps_set (i := 7) scParts.nd rfl (Or.inl rfl) (pe_meth (pv 5) g.cl A.mC GC hr A.bC .nil pass0 (pa_cons (pe_op (eI op_shr) (pv 6) pe_int) pa_nil)))
    (pss_cons (ps_if (PW.pt (pw_or (pt_cmpR op_lt (pv 7) pe_int (nomark _)) (pw_or1 (pt_cmpR op_gt (pv 7) (pe_meth0 (pv 5) g.cl A.mL GL hr1 A.bL .nil pass0) (nomark _))))) (pss_one (ps_ret pe_bl)) pss_nil)
    (pss_cons (ps_expr (pe_bm PySem.F.plainAttrs_list PySem.F.slot_list_extend PySem.F.type_list_extend mt_extend (pv 1) (pa_cons (pe_meth (pv 5) g.cl A.mT GT hr1 A.bT .nil pass0 (pa_cons (pv 7) pa_nil)) pa_nil)))
    (pss_cons (ps_if (pt_cmpR op_eq (pe_meth0 (pv 5) g.cl A.mL GL hr1 A.bL .nil pass0) pe_int (nomark _)) (pss_one (ps_ret (pe_cmpR op_le (pe_callB call_len_bv rfl g.len PySem.boot_len (pa_cons (pv 1) pa_nil)) (pv 4) (nomark _)))) pss_nil)
    (pss_cons (ps_if (pt_cmpR op_lt (pe_meth0 (pv 5) g.cl A.mL GL hr1 A.bL .nil pass0) pe_int (nomark _)) (pss_one (ps_ret pe_bl)) pss_nil)
    (pss_cons (ps_set (i := 8) scParts.nd rfl (Or.inl rfl) (pe_meth (pv 5) g.cl A.mN GN hr2 A.bN .nil pass0 (pa_cons pe_int pa_nil)))
    (pss_cons (ps_set (i := 9) scParts.nd rfl (Or.inl rfl) (pe_meth (pv 5) g.cl A.mC GC hr A.bC .nil pass0 (pa_cons (pe_op (eI0 op_and) (pv 6) pe_int) pa_nil)))
    (pss_cons (ps_if (PW.pt (pw_or (pt_cmpR op_lt (pv 9) pe_int (nomark _)) (pw_or (pt_cmpR op_eq (pv 8) pe_int (nomark _)) (pw_or1 (pt_cmpR op_gt (pv 8) (pe_op (eI0 op_sub) (pe_callB call_len_bv rfl g.len PySem.boot_len (pa_cons (pv 1) pa_nil)) (pv 2)) (nomark _)))))) (pss_one (ps_ret pe_bl)) pss_nil)
    (pss_cons (ps_if (pt_cmpR op_gt (pe_op (eI0 op_add) (pe_op (eI0 op_add) (pe_callB call_len_bv rfl g.len PySem.boot_len (pa_cons (pv 1) pa_nil)) (pe_gint rfl g.m4)) (pv 9)) (pv 4) (nomark _)) (pss_one (ps_ret pe_bl)) pss_nil)
    (pss_one (ps_expr (pe_bm PySem.F.plainAttrs_list PySem.F.slot_list_extend PySem.F.type_list_extend mt_extend (pv 1) (pa_cons (pe_call GM hr1 rfl A.mM A.FM.kp A.bM .nil pass0 (pa_cons (pv 1) (pa_cons (pv 8) (pa_cons (pe_op (eI0 op_add) (pe_gint rfl g.m4) (pv 9)) pa_nil)))) pa_nil)))))))))))))))
    (pss_one (ps_ret pe_bl)))), ?_⟩
  have no : ∀ (a : Addr) (p : Int) (m : Str), ¬ m = "place" → ¬ m = "source" → (rf a p).lookup m = none := fun a p m h1 h2 => rf_no a p h1 h2
  have noL : ∀ (a : Addr) (p : Int), (rf a p).lookup ("left" : Str) = none := fun a p => rf_no a p (by decide +kernel) (by decide +kernel)
  have noN : ∀ (a : Addr) (p : Int), (rf a p).lookup ("number" : Str) = none := fun a p => rf_no a p (by decide +kernel) (by decide +kernel)
  have noC : ∀ (a : Addr) (p : Int), (rf a p).lookup ("carried" : Str) = none := fun a p => rf_no a p (by decide +kernel) (by decide +kernel)
  have noT : ∀ (a : Addr) (p : Int), (rf a p).lookup ("taken" : Str) = none := fun a p => rf_no a p (by decide +kernel) (by decide +kernel)
  -- longest = len(text) + most; reader = Reader(block)
  refine ⟨_, rfl, ta, t, rfl, SqL.of hT, _, rfl, ((t.length + mx : Nat) : Int), _, _, rfl, rfl, rfl, ?_⟩
  refine ⟨_, rfl, ?_⟩
  intro r dx nr ndx nrd
  refine ⟨r, dx, ba, rfl, upd_same, fun H1 hrd1 kp1 => ⟨rfl, ?_⟩⟩
  have s0 : Same H (upd (upd H dx (.own r)) r (.ins C dx [])) := fun c o e => by
    rw [upd_ne (ne_of_none e nr), upd_ne (ne_of_none e ndx)]
    exact e
  have s1 : Same H H1 := fun c o e => kp1 c o (s0 c o e) (ne_of_none e nr)
  refine ⟨fun m σ H' => ∃ (t' : Bytes) (p : Nat) (v6 v7 v8 v9 : Option V), σ = [some (.ref ba), some (.ref ta), some (.int fr), some (.int mx), some (.int ((t.length + mx : Nat) : Int)), some (.ref r), v6, v7, v8, v9] ∧ RdAt C H' r ba p ∧
      H' ta = some (.lst (bv t')) ∧ But ta H H' ∧ m = b.length - p ∧ p ≤ b.length ∧ t'.length ≤ t.length + mx ∧ U fr (t.length + mx) t' (b.drop p) = U fr (t.length + mx) t b,
    ⟨_, t, 0, none, none, none, none, rfl, hrd1, s1 _ _ hT, But.of s1, rfl, Nat.zero_le _, Nat.le_add_right _ _, rfl⟩, ?_⟩
  rintro m σ H' ⟨t', p, v6, v7, v8, v9, rfl, hrd, hta, kp, rfl, hp, htl, hU⟩
  have R : Rr K C H' r ba b p := ⟨hrd, hF _ kp, hp⟩
  obtain ⟨dy, e1⟩ := id hrd
  have ntr : ta ≠ r := ne_of hta e1 (by intro z; cases z)
  refine ⟨_, rfl, r, dy, _, rfl, e1, noL _ _, r, ba, b, p, rfl, R, _, _, rfl, rfl, _, rfl, ?_⟩
  refine ite2 (fun c => ?_) (fun c => ?_)
  rotate_left
  · have c' : ¬ (0 : Int) < ((b.length - p : Nat) : Int) := of_decide_eq_false (Bool.eq_false_iff.mpr c)
    have e5 : b.drop p = [] := List.drop_eq_nil_of_le (by omega)
    exact (q H' kp).2 (by rw [← hU, e5, U_nil])
  have c' : (0 : Int) < ((b.length - p : Nat) : Int) := of_decide_eq_true c
  have hp1 : p < b.length := by omega
  obtain ⟨c0, ec, fc⟩ := drop_bat hp1
  rw [ec, U_cons] at hU
  have hb := bat_lt b p
  refine ⟨_, fun σ' H' z => z, ?_⟩
  -- halves = reader.number(1)
  refine ⟨_, rfl, r, dy, _, rfl, e1, noN _ _, r, ba, b, p, 1, rfl, R, hp1, fun H2 hrd2 kp2 => ?_⟩
  rw [le_one hp1]
  have R2 := R.of hrd2 kp2 hp1
  have kq2 : But ta H H2 := kp.skip nr kp2
  have hta2 := kp2 _ _ hta ntr
  obtain ⟨d2, e2⟩ := id hrd2
  -- own = reader.carried(halves >> 4)
  refine ⟨_, rfl, r, d2, _, rfl, e2, noC _ _, _, rfl, ((bat b p / 16 : Nat) : Int), _, _, rfl, rfl, nn _, shr4, r, ba, b, p + 1, bat b p / 16, rfl, R2, by omega, fun H3 p3 hrd3 kp3 l3 u3 => ?_⟩
  have R3 := R2.of hrd3 kp3 u3
  have kq3 : But ta H H3 := kq2.skip nr kp3
  have hta3 := kp3 _ _ hta2 ntr
  obtain ⟨d3, e3⟩ := id hrd3
  rw [← fc]
  refine ⟨fun own sv ev es => ?_, fun ev => ?_⟩
  rotate_left
  · -- -1
    refine ⟨_, rfl, _, _, rfl, rfl, _, rfl, ite2 (fun _ => ?_) (fun c => absurd rfl c)⟩
    exact iteT ((q H3 kq3).2 (by rw [← hU]; exact partU_none ev))
  refine ⟨_, rfl, _, _, rfl, rfl, _, rfl, ite2 (fun c => ?_) (fun _ => ?_)⟩
  · have c' : (own : Int) < 0 := of_decide_eq_true c
    omega
  refine ⟨_, rfl, _, rfl, r, d3, _, rfl, e3, noL _ _, r, ba, b, p3, rfl, R3, _, _, rfl, rfl, _, rfl, ?_⟩
  have hsl : sv.length = b.length - p3 := by rw [es, List.length_drop]
  refine ite2 (fun c => ?_) (fun c => ?_)
  · have c' : ((b.length - p3 : Nat) : Int) < (own : Int) := of_decide_eq_true c
    exact (q H3 kq3).2 (by rw [← hU]; exact partU_short ev (by omega))
  have c1 : ¬ ((b.length - p3 : Nat) : Int) < (own : Int) := of_decide_eq_false (Bool.eq_false_iff.mpr c)
  have n1 : ¬ sv.length < own := by omega
  -- text.extend(reader.taken(own))
  refine ⟨_, rfl, .inl ⟨rfl, _, SqL.of hta3⟩, _, rfl, r, d3, _, rfl, e3, noT _ _, _, rfl, r, ba, b, p3, own, rfl, R3, by omega, fun l H4 hrd4 kp4 nl nlr hl => ?_⟩
  have hta4 := kp4 _ _ hta3 ntr
  rw [← es] at hl
  have hst : (sv.take own).length = own := by rw [List.length_take]; omega
  refine ⟨ta, l, _, _, rfl, rfl, hta4, hl, ?_, ?_⟩
  · rw [bv_length, bv_length, hst]
    exact line (by omega)
  rw [← bv_append]
  have R4 := R3.of hrd4 kp4 (by omega)
  have kq4 : But ta H H4 := kq3.skip nr kp4
  have hrd5 : RdAt C (upd H4 ta (.lst (bv (t' ++ sv.take own)))) r ba (p3 + own) := by
    obtain ⟨d4, e4⟩ := hrd4
    exact ⟨d4, by rw [upd_ne ntr.symm]; exact e4⟩
  have kq5 : But ta H (upd H4 ta (.lst (bv (t' ++ sv.take own)))) := kq4.trans (But.upd _)
  have hta5 : upd H4 ta (.lst (bv (t' ++ sv.take own))) ta = some (.lst (bv (t' ++ sv.take own))) := upd_same
  have hul : (t' ++ sv.take own).length = t'.length + own := by rw [List.length_append, hst]
  have esd : sv.drop own = b.drop (p3 + own) := by rw [es, List.drop_drop]
  generalize upd H4 ta (.lst (bv (t' ++ sv.take own))) = H5 at hrd5 kq5 hta5 ⊢
  have R5 : Rr K C H5 r ba b (p3 + own) := ⟨hrd5, hF _ kq5, by omega⟩
  obtain ⟨d5, e5⟩ := id hrd5
  -- if reader.left() == 0
  refine ⟨_, rfl, r, d5, _, rfl, e5, noL _ _, r, ba, b, p3 + own, rfl, R5, rfl, _, rfl, ?_⟩
  refine ite2 (fun c => ?_) (fun c => ?_)
  · have c' : V.int ((b.length - (p3 + own) : Nat) : Int) = V.int 0 := of_decide_eq_true c
    injection c' with c'
    have e6 : sv.drop own = [] := by rw [esd]; exact List.drop_eq_nil_of_le (by omega)
    refine ⟨_, rfl, ta, _, rfl, SqL.of hta5, _, rfl, _, _, rfl, rfl, ?_⟩
    have hz := partU_last (go := U fr (t.length + mx)) (from_ := fr) (most := t.length + mx) (t := t') ev n1 e6
    rw [hU] at hz
    by_cases c2 : t.length + mx < (t' ++ sv.take own).length
    · rw [if_pos c2] at hz
      have hd : decide (((t' ++ sv.take own).length : Int) ≤ ((t.length + mx : Nat) : Int)) = false := decide_eq_false (by omega)
      show Q (.bl (decide (((t' ++ sv.take own).length : Int) ≤ ((t.length + mx : Nat) : Int)))) H5
      rw [hd]
      exact (q H5 kq5).2 hz
    · rw [if_neg c2] at hz
      have hd : decide (((t' ++ sv.take own).length : Int) ≤ ((t.length + mx : Nat) : Int)) = true := decide_eq_true (by omega)
      show Q (.bl (decide (((t' ++ sv.take own).length : Int) ≤ ((t.length + mx : Nat) : Int)))) H5
      rw [hd]
      exact (q H5 kq5).1 _ hz hta5
  have c2 : ¬ V.int ((b.length - (p3 + own) : Nat) : Int) = V.int 0 := of_decide_eq_false (Bool.eq_false_iff.mpr c)
  have h0 : 0 < b.length - (p3 + own) := by
    rcases Nat.eq_zero_or_pos (b.length - (p3 + own)) with z | z
    · exact absurd (by rw [z]; rfl) c2
    · exact z
  have hdl : (sv.drop own).length = b.length - (p3 + own) := by rw [esd, List.length_drop]
  have n2 : sv.drop own ≠ [] := fun z => by rw [z] at hdl; simp at hdl; omega
  -- if reader.left() < 2
  refine ⟨_, rfl, r, d5, _, rfl, e5, noL _ _, r, ba, b, p3 + own, rfl, R5, _, _, rfl, rfl, _, rfl, ?_⟩
  refine ite2 (fun c => ?_) (fun c => ?_)
  · have c' : ((b.length - (p3 + own) : Nat) : Int) < 2 := of_decide_eq_true c
    exact (q H5 kq5).2 (by rw [← hU]; exact partU_cut ev n1 n2 (by omega))
  have c3 : ¬ ((b.length - (p3 + own) : Nat) : Int) < 2 := of_decide_eq_false (Bool.eq_false_iff.mpr c)
  have n3 : ¬ (sv.drop own).length < 2 := by omega
  -- back = reader.number(2)
  refine ⟨_, rfl, r, d5, _, rfl, e5, noN _ _, r, ba, b, p3 + own, 2, rfl, R5, by omega, fun H6 hrd6 kp6 => ?_⟩
  rw [← esd]
  have R6 := R5.of hrd6 kp6 (by omega)
  have kq6 : But ta H H6 := kq5.skip nr kp6
  have hta6 := kp6 _ _ hta5 ntr
  obtain ⟨d6, e6⟩ := id hrd6
  -- more = reader.carried(halves & 15)
  refine ⟨_, rfl, r, d6, _, rfl, e6, noC _ _, _, rfl, ((c0.toNat % 16 : Nat) : Int), _, _, rfl, rfl, and15, r, ba, b, p3 + own + 2, c0.toNat % 16, rfl, R6, by omega, fun H7 p7 hrd7 kp7 l7 u7 => ?_⟩
  have kq7 : But ta H H7 := kq6.skip nr kp7
  have hta7 := kp7 _ _ hta6 ntr
  obtain ⟨d7, e7⟩ := id hrd7
  have esd2 : (sv.drop own).drop 2 = b.drop (p3 + own + 2) := by rw [esd, List.drop_drop]
  rw [← esd2]
  refine ⟨fun mo wv ev2 ew => ?_, fun ev2 => ?_⟩
  rotate_left
  · refine ⟨_, rfl, _, _, rfl, rfl, _, rfl, ite2 (fun _ => ?_) (fun c => absurd rfl c)⟩
    exact iteT ((q H7 kq7).2 (by rw [← hU]; exact partU_none2 ev n1 n2 n3 ev2))
  refine ⟨_, rfl, _, _, rfl, rfl, _, rfl, ite2 (fun c => ?_) (fun _ => ?_)⟩
  · have c' : (mo : Int) < 0 := of_decide_eq_true c
    omega
  have hd2 := le_two_lt (sv.drop own)
  -- back == 0
  refine ⟨_, rfl, rfl, _, rfl, ite2 (fun c => ?_) (fun c => ?_)⟩
  · have c' : V.int ((Kg18.le (sv.drop own) 2 : Nat) : Int) = V.int 0 := of_decide_eq_true c
    injection c' with c'
    exact iteT ((q H7 kq7).2 (by rw [← hU]; exact partU_bad ev n1 n2 n3 ev2 (.inl (by omega))))
  have c4 : ¬ V.int ((Kg18.le (sv.drop own) 2 : Nat) : Int) = V.int 0 := of_decide_eq_false (Bool.eq_false_iff.mpr c)
  have hd0 : 0 < Kg18.le (sv.drop own) 2 := by
    rcases Nat.eq_zero_or_pos (Kg18.le (sv.drop own) 2) with z | z
    · exact absurd (by rw [z]; rfl) c4
    · exact z
  -- back > len(text) - first
  refine ⟨_, rfl, _, rfl, ta, _, rfl, SqL.of hta7, _, rfl, _, _, _, rfl, rfl, rfl, _, _, rfl, rfl, _, rfl, ?_⟩
  refine ite2 (fun c => ?_) (fun c => ?_)
  · have c' : ((t' ++ sv.take own).length : Int) - (fr : Int) < ((Kg18.le (sv.drop own) 2 : Nat) : Int) := of_decide_eq_true c
    exact (q H7 kq7).2 (by rw [← hU]; exact partU_bad ev n1 n2 n3 ev2 (.inr (.inl (by omega))))
  have c5 : ¬ ((t' ++ sv.take own).length : Int) - (fr : Int) < ((Kg18.le (sv.drop own) 2 : Nat) : Int) := of_decide_eq_false (Bool.eq_false_iff.mpr c)
  -- len(text) + SHORTEST_MATCH + more > longest
  refine ⟨_, rfl, ta, _, rfl, SqL.of hta7, _, _, _, rfl, rfl, rfl, _, rfl, _, _, _, rfl, rfl, rfl, _, rfl, _, _, rfl, rfl, _, rfl, ?_⟩
  refine ite2 (fun c => ?_) (fun c => ?_)
  · have c' : ((t.length + mx : Nat) : Int) < ((t' ++ sv.take own).length : Int) + 4 + (mo : Int) := of_decide_eq_true c
    exact (q H7 kq7).2 (by rw [← hU]; exact partU_bad ev n1 n2 n3 ev2 (.inr (.inr (by omega))))
  have c6 : ¬ ((t.length + mx : Nat) : Int) < ((t' ++ sv.take own).length : Int) + 4 + (mo : Int) := of_decide_eq_false (Bool.eq_false_iff.mpr c)
  have hgo := partU_go (go := U fr (t.length + mx)) (from_ := fr) (most := t.length + mx) (t := t') ev n1 n2 n3 ev2 (by omega)
  rw [hU] at hgo
  -- text.extend(matched_bytes(text, back, SHORTEST_MATCH + more))
  refine ⟨_, rfl, .inl ⟨rfl, _, SqL.of hta7⟩, _, rfl, _, rfl, _, rfl, ((mo + 4 : Nat) : Int), _, _, rfl, rfl, by omega, ta, t' ++ sv.take own, Kg18.le (sv.drop own) 2, mo + 4, rfl, SqL.of hta7, hd0, by omega, by omega, by omega, fun l8 H8 s8 nl8 hl8 => ?_⟩
  have hta8 := s8 _ _ hta7
  refine ⟨ta, l8, _, _, rfl, rfl, hta8, hl8, ?_, ?_⟩
  · rw [bv_length, bv_length, cyc_length]
    exact line (by omega)
  rw [← bv_append, ← copied_cyc hd0 (by omega)]
  refine ⟨b.length - p7, by omega, copied (mo + 4) (Kg18.le (sv.drop own) 2) (t' ++ sv.take own), p7, _, _, _, _, rfl, ?_, upd_same, (kq7.same s8).trans (But.upd _), rfl, u7, ?_, ?_⟩
  · exact ⟨d7, by rw [upd_ne ntr.symm]; exact s8 _ _ e7⟩
  · rw [copied_length]
    omega
  · rw [← ew]
    exact hgo.symm
end
end U

/-! ### the answer -/
namespace AN
open PySem L2 Kg18 MS C
structure G (mg : Str → Option Value) : Prop where
  long : GInt mg "TOO_LONG" (-7)
  arg : GInt mg "WRONG_ARGUMENT" (-8)
  len : mg "len" = none
def spAns : Sp := fun vs H Q _ => ∃ (m : Int) (l : Addr) (t : Bytes), vs = [.int m, .ref l] ∧ H l = some (.lst (bv t)) ∧ t.length < 16777216 ∧ ∀ (r : Addr) (H' : Hp), H' r = some (.lst ((MU.put m t).map V.int)) → Q (.ref r) H'
section
variable {P : Program} {w : World} {K : PySem.W.Frag} {mg : Str → Option Value} {base : Heap}
theorem scAns : FnScope ["most", "found"] ["most", "found"] (defScope sAns) := ⟨rfl, rfl, rfl, by decide +kernel, rfl, by decide +kernel, by decide +kernel⟩
theorem ok_ans {f : Addr} {fd : FuncData} (F : Fun K "answered" "answered" sAns f fd) (g : G mg) : FnOk P w K mg base CX0 1 f fd ["most", "found"] spAns := by
  refine F.ok scAns (fun vs H Q E h => ?_) (fun cdv A outer s H vs Q E hr h => ?_)
  · obtain ⟨m, l, t, rfl, _⟩ := h
    rfl
  obtain ⟨m, l, t, rfl, hl, hsz, q⟩ := h
  refine ⟨_, pss_cons (ps_if (pt_cmpR op_gt (pe_callB call_len_seq rfl g.len PySem.boot_len (pa_cons (pv 1) pa_nil)) (pv 0) (nomark _)) (pss_one (ps_ret (pe_lst (pa_cons (pe_gint rfl g.long) pa_nil)))) pss_nil)
    (pss_one (ps_ret (pe_op op_cat (pe_lst (pa_cons (pe_callB call_len_seq rfl g.len PySem.boot_len (pa_cons (pv 1) pa_nil)) pa_nil)) (pv 1)))), ?_⟩
  refine ⟨_, rfl, l, _, rfl, .inl (SqL.of hl), _, rfl, _, _, rfl, rfl, _, rfl, ?_⟩
  refine ite2 (fun c => ?_) (fun c => ?_)
  · have c' : m < (((bv t).length : Nat) : Int) := of_decide_eq_true c
    rw [bv_length] at c'
    refine ⟨line (by show 1 ≤ 16777216; decide), fun r hr' => q r _ ?_⟩
    unfold MU.put
    rw [upd_same, if_pos c']
    rfl
  · have c' : ¬ m < (((bv t).length : Nat) : Int) := of_decide_eq_false (Bool.eq_false_iff.mpr c)
    rw [bv_length] at c'
    refine ⟨_, rfl, l, _, rfl, .inl (SqL.of hl), line (by show 1 ≤ 16777216; decide), fun p hp => ?_⟩
    refine ⟨_, rfl, p, l, _, _, rfl, rfl, upd_same, same_new hp _ _ _ hl, ?_, fun r hr' => q r _ ?_⟩
    · show 1 + (bv t).length ≤ sizeLine
      rw [bv_length]
      exact line (by omega)
    · unfold MU.put
      rw [upd_same, if_neg c', bv_length]
      rfl
end
end AN

/-! ### frames read -/
namespace FX
open PySem L2 Kg18 MS MB MR MG C
theorem putF_nil (f : Str) (v : V) : putF f v [] = [(f, v)] := rfl
theorem putF_ne {f g : Str} {v x : V} {r : List (Str × V)} (h : ¬ g = f) : putF f v ((g, x) :: r) = (g, x) :: putF f v r := by
  show (if g = f then _ else _) = _
  rw [if_neg h]
theorem putF_hit {f : Str} {v x : V} {r : List (Str × V)} : putF f v ((f, x) :: r) = (f, v) :: r := by
  show (if f = f then _ else _) = _
  rw [if_pos rfl]
theorem lk_hit {x : Str} {v : V} {r : List (Str × V)} : List.lookup x ((x, v) :: r) = some v := by simp [List.lookup]
theorem lk_ne {x g : Str} {v : V} {r : List (Str × V)} (h : ¬ x = g) : List.lookup x ((g, v) :: r) = List.lookup x r := by
  have e : (x == g) = false := beq_false_of_ne h
  simp [List.lookup, e]
def ff (r ta : Addr) (fl bs ln : Int) : List (Str × V) := [("reader", .ref r), ("flags", .int fl), ("block_size", .int bs), ("length", .int ln), ("text", .ref ta)]
section
variable (r ta : Addr) (fl bs ln v : Int)
theorem ff_reader : (ff r ta fl bs ln).lookup ("reader" : Str) = some (.ref r) := lk_hit
theorem ff_flags : (ff r ta fl bs ln).lookup ("flags" : Str) = some (.int fl) := by
  unfold ff
  rw [lk_ne (by decide +kernel), lk_hit]
theorem ff_size : (ff r ta fl bs ln).lookup ("block_size" : Str) = some (.int bs) := by
  unfold ff
  rw [lk_ne (by decide +kernel), lk_ne (by decide +kernel), lk_hit]
theorem ff_length : (ff r ta fl bs ln).lookup ("length" : Str) = some (.int ln) := by
  unfold ff
  rw [lk_ne (by decide +kernel), lk_ne (by decide +kernel), lk_ne (by decide +kernel), lk_hit]
theorem ff_text : (ff r ta fl bs ln).lookup ("text" : Str) = some (.ref ta) := by
  unfold ff
  rw [lk_ne (by decide +kernel), lk_ne (by decide +kernel), lk_ne (by decide +kernel), lk_ne (by decide +kernel), lk_hit]
theorem ff_no {m : Str} (h1 : ¬ m = "reader") (h2 : ¬ m = "flags") (h3 : ¬ m = "block_size") (h4 : ¬ m = "length") (h5 : ¬ m = "text") : (ff r ta fl bs ln).lookup m = none := by
  unfold ff
  rw [lk_ne h1, lk_ne h2, lk_ne h3, lk_ne h4, lk_ne h5]
  rfl
theorem put_flags : putF "flags" (.int v) (ff r ta fl bs ln) = ff r ta v bs ln := by
  unfold ff
  rw [putF_ne (by decide +kernel), putF_hit]
theorem put_size : putF "block_size" (.int v) (ff r ta fl bs ln) = ff r ta fl v ln := by
  unfold ff
  rw [putF_ne (by decide +kernel), putF_ne (by decide +kernel), putF_hit]
theorem put_length : putF "length" (.int v) (ff r ta fl bs ln) = ff r ta fl bs v := by
  unfold ff
  rw [putF_ne (by decide +kernel), putF_ne (by decide +kernel), putF_ne (by decide +kernel), putF_hit]
end
theorem ff_len (r ta : Addr) (fl bs ln : Int) : (ff r ta fl bs ln).length < 1000 := by show 5 < 1000; decide
/-- all stands but what lies at three places -/
def Keep (y r t : Addr) (H H' : Hp) : Prop := ∀ c o, H c = some o → c ≠ y → c ≠ r → c ≠ t → H' c = some o
theorem Keep.refl {y r t : Addr} {H : Hp} : Keep y r t H H := fun _ _ h _ _ _ => h
theorem Keep.trans {y r t : Addr} {H H1 H2 : Hp} (a : Keep y r t H H1) (b : Keep y r t H1 H2) : Keep y r t H H2 := fun c o h n1 n2 n3 => b c o (a c o h n1 n2 n3) n1 n2 n3
/-- a frame's reader between two calls -/
structure Fr (K : PySem.W.Frag) (C CR : Addr) (H : Hp) (y r fa ta : Addr) (fm t : Bytes) (p fl bs ln : Nat) : Prop where
  ob : ∃ dx, H y = some (.ins C dx (ff r ta fl bs ln))
  rd : U.RdAt CR H r fa p
  pl : p ≤ fm.length
  tx : H ta = some (.lst (bv t))
  fx : ∀ H', Keep y r ta H H' → SqL K H' fa (bv fm)
  nyr : y ≠ r
section
variable {K : PySem.W.Frag} {C CR : Addr} {H H' : Hp} {y r fa ta : Addr} {fm t : Bytes} {p fl bs ln : Nat}
theorem Fr.nyt (F : Fr K C CR H y r fa ta fm t p fl bs ln) : y ≠ ta := by
  obtain ⟨dx, e⟩ := F.ob
  exact ne_of e F.tx (by intro z; cases z)
theorem Fr.nrt (F : Fr K C CR H y r fa ta fm t p fl bs ln) : r ≠ ta := by
  obtain ⟨dx, e⟩ := F.rd
  exact ne_of e F.tx (by intro z; cases z)
theorem Fr.rr (F : Fr K C CR H y r fa ta fm t p fl bs ln) : U.Rr K CR H r fa fm p := ⟨F.rd, F.fx H Keep.refl, F.pl⟩
theorem Fr.read {p' : Nat} (F : Fr K C CR H y r fa ta fm t p fl bs ln) (h : U.RdAt CR H' r fa p') (k : But r H H') (l : p' ≤ fm.length) : Fr K C CR H' y r fa ta fm t p' fl bs ln := by
  obtain ⟨dx, e⟩ := F.ob
  exact ⟨⟨dx, k _ _ e F.nyr⟩, h, l, k _ _ F.tx F.nrt.symm, fun H2 k2 => F.fx H2 (Keep.trans (fun c o z _ n _ => k c o z n) k2), F.nyr⟩
theorem Fr.same (F : Fr K C CR H y r fa ta fm t p fl bs ln) (s : Same H H') : Fr K C CR H' y r fa ta fm t p fl bs ln := by
  obtain ⟨dx, e⟩ := F.ob
  obtain ⟨dy, e2⟩ := F.rd
  exact ⟨⟨dx, s _ _ e⟩, ⟨dy, s _ _ e2⟩, F.pl, s _ _ F.tx, fun H2 k2 => F.fx H2 (Keep.trans (fun c o z _ _ _ => s c o z) k2), F.nyr⟩
theorem Fr.text {t' : Bytes} (F : Fr K C CR H y r fa ta fm t p fl bs ln) (k : But ta H H') (h : H' ta = some (.lst (bv t'))) : Fr K C CR H' y r fa ta fm t' p fl bs ln := by
  obtain ⟨dx, e⟩ := F.ob
  obtain ⟨dy, e2⟩ := F.rd
  exact ⟨⟨dx, k _ _ e F.nyt⟩, ⟨dy, k _ _ e2 F.nrt⟩, F.pl, h, fun H2 k2 => F.fx H2 (Keep.trans (fun c o z _ _ n => k c o z n) k2), F.nyr⟩
theorem Fr.fld {fl' bs' ln' : Nat} {dx : Addr} (F : Fr K C CR H y r fa ta fm t p fl bs ln) : Fr K C CR (upd H y (.ins C dx (ff r ta fl' bs' ln'))) y r fa ta fm t p fl' bs' ln' := by
  obtain ⟨dy, e2⟩ := F.rd
  exact ⟨⟨dx, upd_same⟩, ⟨dy, by rw [upd_ne F.nyr.symm]; exact e2⟩, F.pl, by rw [upd_ne F.nyt.symm]; exact F.tx, fun H2 k2 => F.fx H2 (Keep.trans (fun c o z n _ _ => by rw [upd_ne n]; exact z) k2), F.nyr⟩
end
theorem Keep.r {y r t : Addr} {H H' : Hp} (k : But r H H') : Keep y r t H H' := fun c o z _ n _ => k c o z n
theorem Keep.y {y r t : Addr} {H H' : Hp} (k : But y H H') : Keep y r t H H' := fun c o z n _ _ => k c o z n
theorem Keep.t {y r t : Addr} {H H' : Hp} (k : But t H H') : Keep y r t H H' := fun c o z _ _ n => k c o z n
theorem Keep.s {y r t : Addr} {H H' : Hp} (k : Same H H') : Keep y r t H H' := fun c o z _ _ _ => k c o z
/-- a list that was made since is changed -/
theorem Fr.late {K : PySem.W.Frag} {C CR : Addr} {H0 H H' : Hp} {y r fa ta ls : Addr} {fm t0 t : Bytes} {p0 fl0 bs0 ln0 p fl bs ln : Nat} (F0 : Fr K C CR H0 y r fa ta fm t0 p0 fl0 bs0 ln0) (F : Fr K C CR H y r fa ta fm t p fl bs ln) (k0 : Keep y r ta H0 H) (nls : H0 ls = none) (b : But ls H H') :
    Fr K C CR H' y r fa ta fm t p fl bs ln := by
  obtain ⟨d1, e1⟩ := F.ob
  obtain ⟨d2, e2⟩ := F.rd
  obtain ⟨d3, e3⟩ := F0.ob
  obtain ⟨d4, e4⟩ := F0.rd
  exact ⟨⟨d1, b _ _ e1 (ne_of_none e3 nls)⟩, ⟨d2, b _ _ e2 (ne_of_none e4 nls)⟩, F.pl, b _ _ F.tx (ne_of_none F0.tx nls), fun H2 k2 => F0.fx H2 fun c o z a1 a2 a3 => k2 c o (b c o (k0 c o z a1 a2 a3) (ne_of_none z nls)) a1 a2 a3, F.nyr⟩
/-- what the top says -/
structure G (K : PySem.W.Frag) (mg : Str → Option Value) (C q qd : Addr) : Prop where
  cl : Cls K C
  nR : NoAttr K C "reader"
  nF : NoAttr K C "flags"
  nB : NoAttr K C "block_size"
  nL : NoAttr K C "length"
  nT : NoAttr K C "text"
  mgC : mg "FrameReader" = some (.ref C)
  len : mg "len" = none
  ls : mg "list" = none
  first : mg "FIRST_FOUR" = some (.ref q)
  tup : ∀ H : Hp, SqT K H q [.int 4, .int 34, .int 77, .int 24]
  sz : mg "BLOCK_SIZES" = some (.ref qd)
  kd : KD K qd sizes
  e0 : GInt mg "NOTHING_WRONG" 0
  e1 : GInt mg "NO_WHOLE_HEAD" (-1)
  e2 : GInt mg "WRONG_HEAD" (-2)
  e3 : GInt mg "WRONG_SUM" (-3)
  e4 : GInt mg "WRONG_BLOCKS" (-4)
  e5 : GInt mg "WRONG_PARTS" (-5)
  e6 : GInt mg "TEXT_TOO_LONG" (-6)
  e9 : GInt mg "WRONG_LENGTH" (-9)
  longest : GInt mg "LONGEST_TEXT" 1048576
  self : GInt mg "STANDS_FOR_ITSELF" 2147483648
  short : GInt mg "SHORTEST_HEAD" 7
  fixed : GInt mg "HEAD_FIXED_BITS" 195
  ver : GInt mg "HEAD_VERSION" 64
  alone : GInt mg "HEAD_ALONE" 32
  bsum : GInt mg "HEAD_BLOCK_SUMS" 16
  leng : GInt mg "HEAD_LENGTH" 8
  tsum : GInt mg "HEAD_TEXT_SUM" 4
/-- the defs that it leans on -/
structure Fs (K : PySem.W.Frag) (mg : Str → Option Value) (C CR q qd fI fL fT fN fC fM fS fH fP fW fY : Addr) (fdI fdL fdT fdN fdC fdM fdS fdH fdP fdW fdY : FuncData) : Prop where
  g : G K mg C q qd
  A : U.Fs K mg CR fI fL fT fN fC fM fdI fdL fdT fdN fdC fdM
  kS : PySem.W.keepIn K (.ref fS) = true
  bS : Binds K fdS ["seed", "text"] []
  mS : mg "text_sum" = some (.ref fS)
  kH : PySem.W.keepIn K (.ref fH) = true
  bH : Binds K fdH ["summed"] []
  mH : mg "head_sum" = some (.ref fH)
  FP : Fun K "unpack_parts" "unpack_parts" s_unpack_parts fP fdP
  bP : Binds K fdP ["block", "text", "first", "most"] []
  mP : mg "unpack_parts" = some (.ref fP)
  FW : Fun K "low_first" "low_first" sLow fW fdW
  bW : Binds K fdW ["number", "count"] []
  mW : mg "low_first" = some (.ref fW)
  range : mg "range" = none
  FY : Fun K "says" "FrameReader.says" sFrameReader_says fY fdY
  bY : Binds K fdY ["self", "flag"] []
  mY : Meth K C "says" fY
def spInit (K : PySem.W.Frag) (C CR : Addr) : Sp := fun vs H Q _ => ∃ (y dx fa : Addr) (fm : Bytes), vs = [.ref y, .ref fa] ∧ H y = some (.ins C dx []) ∧ SqL K H fa (bv fm) ∧ ∀ (H' : Hp) (r ta : Addr), Fr K C CR H' y r fa ta fm [] 0 0 0 0 → Q .non H'
def spSays (C : Addr) : Sp := fun vs H Q _ => ∃ (y dx r ta : Addr) (fl : Nat) (bs ln n : Int) (i : Nat), vs = [.ref y, .int n] ∧ H y = some (.ins C dx (ff r ta fl bs ln)) ∧ n = ((2 ^ i : Nat) : Int) ∧ Q (.bl (fl.testBit i)) H
section
variable {P : Program} {w : World} {K : PySem.W.Frag} {mg : Str → Option Value} {base : Heap}
theorem scSays : FnScope ["self", "flag"] ["self", "flag"] (defScope sFrameReader_says) := ⟨rfl, rfl, rfl, by decide +kernel, rfl, by decide +kernel, by decide +kernel⟩
theorem ok_says {f C q qd : Addr} {fd : FuncData} (F : Fun K "says" "FrameReader.says" sFrameReader_says f fd) (g : G K mg C q qd) : FnOk P w K mg base CX0 1 f fd ["self", "flag"] (spSays C) := by
  refine F.ok scSays (fun vs H Q E h => ?_) (fun cdv A outer s H vs Q E hr h => ?_)
  · obtain ⟨y, dx, r, ta, fl, bs, ln, n, i, rfl, _⟩ := h
    rfl
  obtain ⟨y, dx, r, ta, fl, bs, ln, n, i, rfl, h1, en, k⟩ := h
  refine ⟨_, pss_one (ps_ret (pe_cmpR op_ne (pe_op (eI0 op_and) (pe_fld (pv 0) rfl) (pv 1)) pe_int (nomark _))), ?_⟩
  refine ⟨_, rfl, y, C, dx, _, _, rfl, h1, g.cl, g.nF, ff_flags _ _ _ _ _, _, rfl, _, _, _, rfl, rfl, and_flag i en, rfl, ?_⟩
  show Q (.bl (!decide (V.int ((if fl.testBit i = true then 2 ^ i else 0 : Nat) : Int) = V.int 0))) H
  rw [ne_flag (Nat.two_pow_pos i)]
  exact k
theorem scInit : FnScope ["self", "frame"] ["self", "frame"] (defScope sFrameReader_init) := ⟨rfl, rfl, rfl, by decide +kernel, rfl, by decide +kernel, by decide +kernel⟩
theorem ok_init {f C CR q qd fI : Addr} {fd fdI : FuncData} (F : Fun K "__init__" "FrameReader.__init__" sFrameReader_init f fd) (g : G K mg C q qd) (gu : U.G K mg CR) (M : Mk K CR fI) (FI : Fun K "__init__" "Reader.__init__" sReader_init fI fdI) (bI : Binds K fdI ["self", "source"] []) :
    FnOk P w K mg base CX0 3 f fd ["self", "frame"] (spInit K C CR) := by
  have GI : FnOk P w K mg base CX0 1 fI fdI ["self", "source"] (U.spInit CR) := U.ok_init FI gu
  refine F.ok scInit (fun vs H Q E h => ?_) (fun cdv A outer s H vs Q E hr h => ?_)
  · obtain ⟨y, dx, fa, fm, rfl, _⟩ := h
    rfl
  obtain ⟨y, dx, fa, fm, rfl, hy, hS, k⟩ := h
  refine ⟨_, pss_cons (ps_fld (pv 0) (pe_make M GI hr rfl gu.mgC bI .nil pass0 (pa_cons (pv 1) pa_nil)) rfl)
    (pss_cons (ps_fld (pv 0) pe_int rfl)
    (pss_cons (ps_fld (pv 0) pe_int rfl)
    (pss_cons (ps_fld (pv 0) pe_int rfl)
    (pss_one (ps_fld (pv 0) (pe_lst pa_nil) rfl))))), ?_⟩
  refine ⟨_, rfl, ?_⟩
  intro r dr nr ndr nrd
  have s0 : Same H (upd (upd H dr (.own r)) r (.ins CR dr [])) := fun c o e => by
    rw [upd_ne (ne_of_none e nr), upd_ne (ne_of_none e ndr)]
    exact e
  refine ⟨r, dr, fa, rfl, upd_same, fun H1 hrd1 kp1 => ⟨rfl, ?_⟩⟩
  have s1 : Same H H1 := fun c o e => kp1 c o (s0 c o e) (ne_of_none e nr)
  have nyr : y ≠ r := ne_of_none hy nr
  -- the fields, one by one
  refine ⟨_, rfl, y, C, dx, [], rfl, s1 _ _ hy, g.cl, g.nR, (by show 0 < 1000; decide), ?_⟩
  refine ⟨_, rfl, y, C, dx, _, rfl, upd_same, g.cl, g.nF, (by show 1 < 1000; decide), ?_⟩
  refine ⟨_, rfl, y, C, dx, _, rfl, upd_same, g.cl, g.nB, ?_, ?_⟩
  · rw [putF_nil, putF_ne (by decide +kernel), putF_nil]
    show 2 < 1000
    decide
  refine ⟨_, rfl, y, C, dx, _, rfl, upd_same, g.cl, g.nL, ?_, ?_⟩
  · have a1 : putF "flags" (V.int 0) (putF "reader" (V.ref r) []) = ([("reader", V.ref r), ("flags", V.int 0)] : List (Str × V)) := by rw [putF_nil, putF_ne (by decide +kernel), putF_nil]
    rw [a1, putF_ne (by decide +kernel), putF_ne (by decide +kernel), putF_nil]
    show 3 < 1000
    decide
  refine ⟨line (by show 0 ≤ 16777216; decide), fun ta hta => ?_⟩
  have e4 : putF "length" (V.int 0) (putF "block_size" (V.int 0) (putF "flags" (V.int 0) (putF "reader" (V.ref r) []))) = ([("reader", V.ref r), ("flags", V.int 0), ("block_size", V.int 0), ("length", V.int 0)] : List (Str × V)) := by
    have a1 : putF "flags" (V.int 0) (putF "reader" (V.ref r) []) = ([("reader", V.ref r), ("flags", V.int 0)] : List (Str × V)) := by rw [putF_nil, putF_ne (by decide +kernel), putF_nil]
    have a2 : putF "block_size" (V.int 0) ([("reader", V.ref r), ("flags", V.int 0)] : List (Str × V)) = ([("reader", V.ref r), ("flags", V.int 0), ("block_size", V.int 0)] : List (Str × V)) := by rw [putF_ne (by decide +kernel), putF_ne (by decide +kernel), putF_nil]
    have a3 : putF "length" (V.int 0) ([("reader", V.ref r), ("flags", V.int 0), ("block_size", V.int 0)] : List (Str × V)) = ([("reader", V.ref r), ("flags", V.int 0), ("block_size", V.int 0), ("length", V.int 0)] : List (Str × V)) := by rw [putF_ne (by decide +kernel), putF_ne (by decide +kernel), putF_ne (by decide +kernel), putF_nil]
    rw [a1, a2, a3]
  rw [e4] at hta ⊢
  have nty : ta ≠ y := fun z => by rw [z, upd_same] at hta; cases hta
  have hta1 : H1 ta = none := by
    rw [upd_ne nty, upd_ne nty, upd_ne nty, upd_ne nty] at hta
    exact hta
  refine ⟨_, rfl, y, C, dx, _, rfl, by rw [upd_ne nty.symm, upd_same], g.cl, g.nT, (by show 4 < 1000; decide), ?_⟩
  obtain ⟨dd, er⟩ := hrd1
  have ntr : ta ≠ r := (ne_of_none er hta1).symm
  refine k _ r ta ⟨⟨dx, ?_⟩, ⟨dd, ?_⟩, Nat.zero_le _, ?_, fun H' kp => ?_, nyr⟩
  · rw [upd_same]
    have e5 : putF "text" (V.ref ta) ([("reader", V.ref r), ("flags", V.int 0), ("block_size", V.int 0), ("length", V.int 0)] : List (Str × V)) = ff r ta 0 0 0 := by
      rw [putF_ne (by decide +kernel), putF_ne (by decide +kernel), putF_ne (by decide +kernel), putF_ne (by decide +kernel), putF_nil]
      rfl
    rw [e5]
    rfl
  · rw [upd_ne nyr.symm, upd_ne ntr.symm, upd_ne nyr.symm, upd_ne nyr.symm, upd_ne nyr.symm, upd_ne nyr.symm]
    exact er
  · rw [upd_ne nty, upd_same]
    rfl
  · rcases hS with hS | hS
    · have key : ∀ u, H fa = some u → (∀ z, u ≠ .ins C dx z) → H' fa = some u := fun u hu hk => by
        have n1 : fa ≠ y := fun z => by rw [z, hy] at hu; injection hu with hu; exact hk [] hu.symm
        have n2 : fa ≠ r := ne_of_none hu nr
        have n3 : fa ≠ ta := ne_of_none (s1 _ _ hu) hta1
        refine kp fa u ?_ n1 n2 n3
        rw [upd_ne n1, upd_ne n3, upd_ne n1, upd_ne n1, upd_ne n1, upd_ne n1]
        exact s1 _ _ hu
      rcases hS with hS | ⟨o, hS⟩
      · exact .inl (.inl (key _ hS (fun z e => by cases e)))
      · exact .inl (.inr ⟨o, key _ hS (fun z e => by cases e)⟩)
    · exact .inr hS
end
end FX

/-! ### its methods -/
namespace FX
open PySem L2 Kg18 MS MB MR MG C
section
variable {P : Program} {w : World} {K : PySem.W.Frag} {mg : Str → Option Value} {base : Heap}
def spHd (K : PySem.W.Frag) (C CR : Addr) : Sp := fun vs H Q _ => ∃ (y r fa ta : Addr) (fm : Bytes), vs = [.ref y] ∧ Fr K C CR H y r fa ta fm [] 0 0 0 0 ∧ fm.length ≤ 116000 ∧
  (∀ (k : Nat) H', headOf fm = .error k → Q (.int (-(k : Int))) H') ∧ ∀ H' ln, headOf fm = .ok (headH fm, fm.drop (headN (bat fm 4) + 1)) → (headH fm).most ≤ 4194304 → ((bat fm 4).testBit 3 = true → ln = Kg18.le (fm.drop 6) 8) →
    Fr K C CR H' y r fa ta fm [] (headN (bat fm 4) + 1) (bat fm 4) (headH fm).most ln → Q (.int 0) H'
theorem four_of {b : Bytes} (h : 4 ≤ b.length) : bv ((b.drop 0).take 4) = [.int (bat b 0 : Nat), .int (bat b 1 : Nat), .int (bat b 2 : Nat), .int (bat b 3 : Nat)] := by
  obtain ⟨c0, e0, f0⟩ := drop_bat (b := b) (p := 0) (by omega)
  obtain ⟨c1, e1, f1⟩ := drop_bat (b := b) (p := 0 + 1) (by omega)
  obtain ⟨c2, e2, f2⟩ := drop_bat (b := b) (p := 0 + 1 + 1) (by omega)
  obtain ⟨c3, e3, f3⟩ := drop_bat (b := b) (p := 0 + 1 + 1 + 1) (by omega)
  rw [e0, e1, e2, e3]
  show [V.int (c0.toNat : Int), V.int (c1.toNat : Int), V.int (c2.toNat : Int), V.int (c3.toNat : Int)] = _
  rw [f0, f1, f2, f3]
theorem two_of {b : Bytes} {p : Nat} (h : p + 2 ≤ b.length) : bv ((b.drop p).take 2) = [.int (bat b p : Nat), .int (bat b (p + 1) : Nat)] := by
  obtain ⟨c0, e0, f0⟩ := drop_bat (b := b) (p := p) (by omega)
  obtain ⟨c1, e1, f1⟩ := drop_bat (b := b) (p := p + 1) (by omega)
  rw [e0, e1]
  show [V.int (c0.toNat : Int), V.int (c1.toNat : Int)] = _
  rw [f0, f1]
theorem eqv4 (a b c d : Int) : PyData.eqv (.list [.int a, .int b, .int c, .int d]) (.list [.int 4, .int 34, .int 77, .int 24]) = (a == 4 && (b == 34 && (c == 77 && (d == 24 && true)))) := by
  simp [PyData.eqv, PyData.eqvAll]
theorem shaped4 (a b c d : Int) : SeqAt.shaped (.list [.int a, .int b, .int c, .int d]) = true := by
  rfl
theorem scHd : FnScope ["self", "reader", "summed"] ["self"] (defScope sFrameReader_read_head) := ⟨rfl, rfl, rfl, by decide +kernel, rfl, by decide +kernel, by decide +kernel⟩
theorem ok_hd {f C CR q qd fI fL fT fN fC fM fS fH fP fW fY : Addr} {fd fdI fdL fdT fdN fdC fdM fdS fdH fdP fdW fdY : FuncData} (F : Fun K "read_head" "FrameReader.read_head" sFrameReader_read_head f fd)
    (Z : Fs K mg C CR q qd fI fL fT fN fC fM fS fH fP fW fY fdI fdL fdT fdN fdC fdM fdS fdH fdP fdW fdY) (GH : FnOk P w K mg base CX0 5 fH fdH ["summed"] (FR.spHS K)) : FnOk P w K mg base CX0 6 f fd ["self"] (spHd K C CR) := by
  have g := Z.g
  have gu := Z.A.g
  have GY : FnOk P w K mg base CX0 1 fY fdY ["self", "flag"] (spSays C) := ok_says Z.FY g
  have GW : FnOk P w K mg base CX0 1 fW fdW ["number", "count"] PK.spLow := PK.ok_low Z.FW Z.range
  have GL : FnOk P w K mg base CX0 1 fL fdL ["self"] (U.spLeft K CR) := U.ok_left Z.A.FL gu
  have GT : FnOk P w K mg base CX0 1 fT fdT ["self", "count"] (U.spTaken K CR) := U.ok_taken Z.A.FT gu
  have GN : FnOk P w K mg base CX0 2 fN fdN ["self", "count"] (U.spNum K CR) := U.ok_num Z.A.FN gu Z.A.FT Z.A.bT Z.A.mT
  refine F.ok scHd (fun vs H Q E h => ?_) (fun cdv A outer s H vs Q E hr h => ?_)
  · obtain ⟨y, r, fa, ta, fm, rfl, _⟩ := h
    rfl
  obtain ⟨y, r, fa, ta, fm, rfl, R, hfm, kE, kO⟩ := h
  have hr1 : Room 1 _ := hr.mono (by decide)
  have hr2 : Room 2 _ := hr.mono (by decide)
  have noL : ∀ (a : Addr) (p : Int), (U.rf a p).lookup ("left" : Str) = none := fun a p => U.rf_no a p (by decide +kernel) (by decide +kernel)
  have noN : ∀ (a : Addr) (p : Int), (U.rf a p).lookup ("number" : Str) = none := fun a p => U.rf_no a p (by decide +kernel) (by decide +kernel)
  have noT : ∀ (a : Addr) (p : Int), (U.rf a p).lookup ("taken" : Str) = none := fun a p => U.rf_no a p (by decide +kernel) (by decide +kernel)
  have noY : ∀ (a b : Addr) (i j k : Int), (ff a b i j k).lookup ("says" : Str) = none := fun a b i j k => ff_no _ _ _ _ _ (by decide +kernel) (by decide +kernel) (by decide +kernel) (by decide +kernel) (by decide +kernel)
  refine ⟨_, pss_cons (ps_set (i := 1) scHd.nd rfl (Or.inl rfl) (pe_fld (pv 0) rfl))
    (pss_cons (ps_cut (ps_if (PW.pt (pw_or (pt_cmpR op_lt (pe_meth0 (pv 1) gu.cl Z.A.mL GL hr1 Z.A.bL .nil pass0) (pe_gint rfl g.short) (nomark _)) (pw_or1 (pt_cmpR (op_neD (hr.units)) (pe_meth (pv 1) gu.cl Z.A.mT GT hr1 Z.A.bT .nil pass0 (pa_cons pe_int pa_nil)) (pe_callTy call_list_of rfl g.ls boot_ls (pa_cons (pe_gref rfl g.first) pa_nil)) (nomark _))))) (pss_one (ps_ret (pe_gint rfl g.e1))) pss_nil))
    (pss_cons (ps_set (i := 2) scHd.nd rfl (Or.inl rfl) (pe_meth (pv 1) gu.cl Z.A.mT GT hr1 Z.A.bT .nil pass0 (pa_cons pe_int pa_nil)))
    (pss_cons (ps_cut (ps_if (PW.pt (pw_or (pt_cmpR op_ne (pe_op (eI0 op_and) (pe_ix ix_list (pv 2) pe_int (fun _ _ => rfl)) (pe_gint rfl g.fixed)) (pe_gint rfl g.ver) (nomark _)) (pw_or1 (pt_cmp (pc_gnotin g.kd (pe_ix ix_list (pv 2) pe_int (fun _ _ => rfl)) (pe_gref rfl g.sz)))))) (pss_one (ps_ret (pe_gint rfl g.e2))) pss_nil))
    (pss_cons (ps_fld (pv 0) (pe_ix ix_list (pv 2) pe_int (fun _ _ => rfl)) rfl)
    (pss_cons (ps_fld (pv 0) (pe_gget g.kd (pe_gref rfl g.sz) (pe_ix ix_list (pv 2) pe_int (fun _ _ => rfl)) (fun _ _ => rfl)) rfl)
    (pss_cons (ps_cut (ps_if (pt_val (pe_meth (pv 0) g.cl Z.mY GY hr1 Z.bY .nil pass0 (pa_cons (pe_gint rfl g.leng) pa_nil))) (pss_cons (ps_cut (ps_if (pt_cmpR op_lt (pe_meth0 (pv 1) gu.cl Z.A.mL GL hr1 Z.A.bL .nil pass0) pe_int (nomark _)) (pss_one (ps_ret (pe_gint rfl g.e1))) pss_nil))
    (pss_cons (ps_fld (pv 0) (pe_meth (pv 1) gu.cl Z.A.mN GN hr2 Z.A.bN .nil pass0 (pa_cons pe_int pa_nil)) rfl)
    (pss_one (ps_expr (pe_bm PySem.F.plainAttrs_list PySem.F.slot_list_extend PySem.F.type_list_extend mt_extend (pv 2) (pa_cons (pe_call GW hr1 rfl Z.mW Z.FW.kp Z.bW .nil pass0 (pa_cons (pe_fld (pv 0) rfl) (pa_cons pe_int pa_nil))) pa_nil)))))) pss_nil))
    (pss_cons (ps_cut (ps_if (pt_cmpR op_ne (pe_meth (pv 1) gu.cl Z.A.mN GN hr2 Z.A.bN .nil pass0 (pa_cons pe_int pa_nil)) (pe_call GH hr rfl Z.mH Z.kH Z.bH .nil pass0 (pa_cons (pv 2) pa_nil)) (nomark _)) (pss_one (ps_ret (pe_gint rfl g.e3))) pss_nil))
    (pss_one (ps_ret (pe_gint rfl g.e0)))))))))), ?_⟩
  obtain ⟨dy, oy⟩ := R.ob
  refine ⟨_, rfl, y, C, dy, _, _, rfl, oy, g.cl, g.nR, ff_reader _ _ _ _ _, ?_⟩
  obtain ⟨d0, o0⟩ := R.rd
  -- the first seven, the first four
  refine ⟨fun σ' H' => σ' = [some (.ref y), some (.ref r), none] ∧ ¬ fm.length < 7 ∧ magicAt fm ∧ Fr K C CR H' y r fa ta fm [] 4 0 0 0,
    ⟨_, rfl, r, d0, _, rfl, o0, noL _ _, r, fa, fm, 0, rfl, R.rr, _, _, rfl, rfl, _, rfl, ite2 (fun c => ?_) (fun c => ?_)⟩, ?_⟩
  · have c' : ((fm.length - 0 : Nat) : Int) < 7 := of_decide_eq_true c
    exact iteT (kE 1 _ (head_short (.inl (by omega))))
  · have c' : ¬ ((fm.length - 0 : Nat) : Int) < 7 := of_decide_eq_false (Bool.eq_false_iff.mpr c)
    refine ⟨_, rfl, r, d0, _, rfl, o0, noT _ _, r, fa, fm, 0, 4, rfl, R.rr, by omega, fun l1 H1 hrd1 kp1 nl1 nlr1 hl1 => ?_⟩
    rw [four_of (by omega)] at hl1
    refine ⟨q, _, rfl, .inr (g.tup _), fun l2 hl2 => ?_⟩
    have s2 := same_new hl2 (.lst [.int 4, .int 34, .int 77, .int 24])
    refine ⟨.list [.int (bat fm 0 : Nat), .int (bat fm 1 : Nat), .int (bat fm 2 : Nat), .int (bat fm 3 : Nat)], .list [.int 4, .int 34, .int 77, .int 24],
      .lst (SqL.of (s2 _ _ hl1)) (.cons (.int _) (.cons (.int _) (.cons (.int _) (.cons (.int _) .nil)))), .lst (SqL.of upd_same) (.cons (.int _) (.cons (.int _) (.cons (.int _) (.cons (.int _) .nil)))), shaped4 _ _ _ _, shaped4 _ _ _ _, _, rfl, ?_⟩
    rw [eqv4]
    refine ite2 (fun c => ?_) (fun c => ?_)
    · refine kE 1 _ (head_short (.inr fun z => ?_))
      obtain ⟨z0, z1, z2, z3⟩ := z
      rw [z0, z1, z2, z3] at c
      cases c
    · have hm : magicAt fm := by
        have c2 : (((bat fm 0 : Nat) : Int) == 4 && (((bat fm 1 : Nat) : Int) == 34 && (((bat fm 2 : Nat) : Int) == 77 && (((bat fm 3 : Nat) : Int) == 24 && true)))) = true := by
          simpa using c
        simp only [Bool.and_eq_true, beq_iff_eq] at c2
        obtain ⟨z0, z1, z2, z3, _⟩ := c2
        exact ⟨by omega, by omega, by omega, by omega⟩
      exact ⟨rfl, by omega, hm, (R.read hrd1 kp1 (by omega)).same s2⟩
  rintro σ' H1 ⟨rfl, h7, hmag, R1⟩
  obtain ⟨d1, o1⟩ := R1.rd
  -- summed = reader.taken(2)
  refine ⟨_, rfl, r, d1, _, rfl, o1, noT _ _, r, fa, fm, 4, 2, rfl, R1.rr, by omega, fun ls H2 hrd2 kp2 nls nlsr hls => ?_⟩
  have R2 := R1.read hrd2 kp2 (by omega)
  have k12 : Keep y r ta H1 H2 := Keep.r kp2
  have hls0 := hls
  rw [two_of (by omega)] at hls
  have a0 : atI [V.int ((bat fm 4 : Nat) : Int), V.int ((bat fm (4 + 1) : Nat) : Int)] 0 = some (.int (bat fm 4 : Nat)) := rfl
  have a1 : atI [V.int ((bat fm 4 : Nat) : Int), V.int ((bat fm (4 + 1) : Nat) : Int)] 1 = some (.int (bat fm 5 : Nat)) := rfl
  have hf := bat_lt fm 4
  have hg := bat_lt fm 5
  -- the flags and the other byte
  refine ⟨fun σ' H' => σ' = [some (.ref y), some (.ref r), some (.ref ls)] ∧ H2 = H' ∧ ¬ badHead (bat fm 4) (bat fm 5),
    ⟨_, rfl, ls, _, _, _, rfl, rfl, SqL.of hls, a0, ((bat fm 4 &&& 195 : Nat) : Int), _, _, rfl, rfl, and_nat, rfl, _, rfl, ite2 (fun c => ?_) (fun c => ?_)⟩, ?_⟩
  · refine iteT (kE 2 _ (head_bad h7 hmag ?_))
    refine Classical.byContradiction fun z => ?_
    have hgood := (good_iff hf hg).mp z
    rw [hgood.1] at c
    cases c
  · have c1 : bat fm 4 &&& 195 = 64 := by
      refine Decidable.byContradiction fun z => c ?_
      have e : ¬ V.int ((bat fm 4 &&& 195 : Nat) : Int) = V.int 64 := fun h => by injection h with h; omega
      rw [decide_eq_false e]
      rfl
    refine ⟨_, rfl, ls, _, _, _, rfl, rfl, SqL.of hls, a1, _, rfl, rfl, _, rfl, ?_⟩
    rw [sizes_val, Option.isSome_map]
    refine ite2 (fun c => ?_) (fun c => ?_)
    · refine kE 2 _ (head_bad h7 hmag ?_)
      refine Classical.byContradiction fun z => ?_
      have hgood := (good_iff hf hg).mp z
      rw [hgood.2] at c
      cases c
    · have c2 : (bsz (bat fm 5)).isSome = true := by
        cases e : (bsz (bat fm 5)).isSome with
        | true => rfl
        | false => rw [e] at c; exact absurd rfl c
      exact ⟨rfl, rfl, (good_iff hf hg).mpr ⟨c1, c2⟩⟩
  rintro σ' H2' ⟨rfl, rfl, hgd⟩
  have hsome := ((good_iff hf hg).mp hgd).2
  have hbs : bsz (bat fm 5) = some (headH fm).most := by
    rcases bsz_val _ hg with z | z
    · rw [z] at hsome; cases hsome
    · exact z
  have hmost : (headH fm).most ≤ 4194304 := by
    rcases bsz_le _ hg with z | z
    · rw [z] at hsome; cases hsome
    · exact z
  obtain ⟨d2, o2⟩ := R2.ob
  have nyl : ls ≠ y := ne_of hls o2 (by intro z; cases z)
  -- self.flags = summed[0]
  refine ⟨_, rfl, ls, _, _, _, rfl, rfl, SqL.of hls, a0, _, rfl, y, C, d2, _, rfl, o2, g.cl, g.nF, ff_len _ _ _ _ _, ?_⟩
  rw [put_flags]
  have R3 : Fr K C CR (upd H2 y (.ins C d2 (ff r ta (bat fm 4 : Nat) (0 : Nat) (0 : Nat)))) y r fa ta fm [] (4 + 2) (bat fm 4) 0 0 := R2.fld
  have o3 : upd H2 y (.ins C d2 (ff r ta (bat fm 4 : Nat) (0 : Nat) (0 : Nat))) y = some (.ins C d2 (ff r ta (bat fm 4 : Nat) (0 : Nat) (0 : Nat))) := upd_same
  have hls3 : upd H2 y (.ins C d2 (ff r ta (bat fm 4 : Nat) (0 : Nat) (0 : Nat))) ls = some (.lst [.int (bat fm 4 : Nat), .int (bat fm (4 + 1) : Nat)]) := by rw [upd_ne nyl]; exact hls
  have k13 : Keep y r ta H1 (upd H2 y (.ins C d2 (ff r ta (bat fm 4 : Nat) (0 : Nat) (0 : Nat)))) := k12.trans (Keep.y (But.upd _))
  generalize upd H2 y (.ins C d2 (ff r ta (bat fm 4 : Nat) (0 : Nat) (0 : Nat))) = H3 at R3 o3 hls3 k13 ⊢
  -- self.block_size = BLOCK_SIZES[summed[1]]
  refine ⟨_, rfl, ls, _, _, _, rfl, rfl, SqL.of hls3, a1, _, .int ((headH fm).most : Nat), rfl, rfl, by rw [sizes_val, hbs]; rfl, _, rfl, y, C, d2, _, rfl, o3, g.cl, g.nB, ff_len _ _ _ _ _, ?_⟩
  rw [put_size]
  have R4 : Fr K C CR (upd H3 y (.ins C d2 (ff r ta (bat fm 4 : Nat) ((headH fm).most : Nat) (0 : Nat)))) y r fa ta fm [] (4 + 2) (bat fm 4) (headH fm).most 0 := R3.fld
  have o4 : upd H3 y (.ins C d2 (ff r ta (bat fm 4 : Nat) ((headH fm).most : Nat) (0 : Nat))) y = some (.ins C d2 (ff r ta (bat fm 4 : Nat) ((headH fm).most : Nat) (0 : Nat))) := upd_same
  have hls4 : upd H3 y (.ins C d2 (ff r ta (bat fm 4 : Nat) ((headH fm).most : Nat) (0 : Nat))) ls = some (.lst [.int (bat fm 4 : Nat), .int (bat fm (4 + 1) : Nat)]) := by rw [upd_ne nyl]; exact hls3
  have k14 : Keep y r ta H1 (upd H3 y (.ins C d2 (ff r ta (bat fm 4 : Nat) ((headH fm).most : Nat) (0 : Nat)))) := k13.trans (Keep.y (But.upd _))
  generalize upd H3 y (.ins C d2 (ff r ta (bat fm 4 : Nat) ((headH fm).most : Nat) (0 : Nat))) = H4 at R4 o4 hls4 k14 ⊢
  have hls4' : H4 ls = some (.lst (bv ((fm.drop 4).take 2))) := by rw [two_of (by omega)]; exact hls4
  -- if self.says(HEAD_LENGTH)
  refine ⟨fun σ' H' => ∃ ln : Nat, σ' = [some (.ref y), some (.ref r), some (.ref ls)] ∧ Fr K C CR H' y r fa ta fm [] (headN (bat fm 4)) (bat fm 4) (headH fm).most ln ∧ H' ls = some (.lst (bv ((fm.take (headN (bat fm 4))).drop 4))) ∧ ¬ fm.length ≤ headN (bat fm 4) ∧ ((bat fm 4).testBit 3 = true → ln = Kg18.le (fm.drop 6) 8),
    ⟨_, rfl, y, d2, _, rfl, o4, noY _ _ _ _ _, y, d2, r, ta, bat fm 4, _, _, 8, 3, rfl, o4, rfl, _, rfl, ite2 (fun c => ?_) (fun c => ?_)⟩, ?_⟩
  · have eN : headN (bat fm 4) = 14 := by unfold headN; rw [if_pos c]
    obtain ⟨e4, oe4⟩ := R4.rd
    refine ⟨fun σ' H' => σ' = [some (.ref y), some (.ref r), some (.ref ls)] ∧ H4 = H' ∧ 15 ≤ fm.length, ⟨_, rfl, r, e4, _, rfl, oe4, noL _ _, r, fa, fm, 4 + 2, rfl, R4.rr, _, _, rfl, rfl, _, rfl, ite2 (fun c => ?_) (fun c => ?_)⟩, ?_⟩
    · have c' : ((fm.length - (4 + 2) : Nat) : Int) < 9 := of_decide_eq_true c
      exact kE 1 _ (head_cut h7 hmag hgd (by rw [eN]; omega))
    · have c' : ¬ ((fm.length - (4 + 2) : Nat) : Int) < 9 := of_decide_eq_false (Bool.eq_false_iff.mpr c)
      exact ⟨rfl, rfl, by omega⟩
    rintro σ' H4' ⟨rfl, rfl, h15⟩
    refine ⟨_, rfl, r, e4, _, rfl, oe4, noN _ _, r, fa, fm, 4 + 2, 8, rfl, R4.rr, by omega, fun H5 hrd5 kp5 => ?_⟩
    have R5 := R4.read hrd5 kp5 (by omega)
    have o5 := kp5 _ _ o4 R4.nyr
    have nlr : ls ≠ r := ne_of hls4 oe4 (by intro z; cases z)
    have hls5 := kp5 _ _ hls4' nlr
    refine ⟨_, rfl, y, C, d2, _, rfl, o5, g.cl, g.nL, ff_len _ _ _ _ _, ?_⟩
    rw [put_length]
    have R6 : Fr K C CR (upd H5 y (.ins C d2 (ff r ta (bat fm 4 : Nat) ((headH fm).most : Nat) (Kg18.le (fm.drop (4 + 2)) 8 : Nat)))) y r fa ta fm [] (4 + 2 + 8) (bat fm 4) (headH fm).most (Kg18.le (fm.drop (4 + 2)) 8) := R5.fld
    have o6 : upd H5 y (.ins C d2 (ff r ta (bat fm 4 : Nat) ((headH fm).most : Nat) (Kg18.le (fm.drop (4 + 2)) 8 : Nat))) y = some (.ins C d2 (ff r ta (bat fm 4 : Nat) ((headH fm).most : Nat) (Kg18.le (fm.drop (4 + 2)) 8 : Nat))) := upd_same
    have hls6 : upd H5 y (.ins C d2 (ff r ta (bat fm 4 : Nat) ((headH fm).most : Nat) (Kg18.le (fm.drop (4 + 2)) 8 : Nat))) ls = some (.lst (bv ((fm.drop 4).take 2))) := by rw [upd_ne nyl]; exact hls5
    have k16 : Keep y r ta H1 (upd H5 y (.ins C d2 (ff r ta (bat fm 4 : Nat) ((headH fm).most : Nat) (Kg18.le (fm.drop (4 + 2)) 8 : Nat)))) := (k14.trans (Keep.r kp5)).trans (Keep.y (But.upd _))
    generalize upd H5 y (.ins C d2 (ff r ta (bat fm 4 : Nat) ((headH fm).most : Nat) (Kg18.le (fm.drop (4 + 2)) 8 : Nat))) = H6 at R6 o6 hls6 k16 ⊢
    -- summed.extend(low_first(self.length, 8))
    refine ⟨_, rfl, .inl ⟨rfl, _, SqL.of hls6⟩, _, rfl, y, C, d2, _, _, rfl, o6, g.cl, g.nL, ff_length _ _ _ _ _, Kg18.le (fm.drop (4 + 2)) 8, 8, rfl, by decide, fun l7 H7 s7 nl7 hl7 => ?_⟩
    have e8 : spelled 8 (Kg18.le (fm.drop (4 + 2)) 8) = (fm.drop 6).take 8 := spelled_le (by rw [List.length_drop]; omega)
    have e10 : (fm.drop 4).take 2 ++ (fm.drop 6).take 8 = (fm.take 14).drop 4 := by
      rw [List.drop_take]
      have q1 : (fm.drop 6) = (fm.drop 4).drop 2 := by rw [List.drop_drop]
      rw [q1]
      have q2 := List.take_append_drop 2 ((fm.drop 4).take 10)
      rw [← q2, List.take_take, List.drop_take]
      rfl
    rw [e8] at hl7
    refine ⟨ls, l7, _, _, rfl, rfl, s7 _ _ hls6, hl7, ?_, Kg18.le (fm.drop (4 + 2)) 8, rfl, ?_, ?_, by rw [eN]; omega, fun _ => rfl⟩
    · rw [bv_length, bv_length, List.length_take, List.length_take]
      exact line (by omega)
    · rw [eN]
      exact R1.late (R6.same s7) (k16.trans (Keep.s s7)) nls (But.upd _)
    · rw [upd_same, eN, ← bv_append, e10]
  · have c' : ¬ (bat fm 4).testBit 3 = true := c
    have eN : headN (bat fm 4) = 6 := by unfold headN; rw [if_neg c']
    refine ⟨0, rfl, by rw [eN]; exact R4, ?_, by rw [eN]; omega, fun z => absurd z c'⟩
    rw [eN, hls4', List.drop_take]
  rintro σ' H8 ⟨ln, rfl, R8, hls8, hlen8, hln⟩
  obtain ⟨d8, o8⟩ := R8.rd
  -- if reader.number(1) != head_sum(summed)
  refine ⟨fun σ' H' => Fr K C CR H' y r fa ta fm [] (headN (bat fm 4) + 1) (bat fm 4) (headH fm).most ln ∧ ¬ bat fm (headN (bat fm 4)) ≠ Kg18.sum 0 ((fm.take (headN (bat fm 4))).drop 4) / 256 % 256,
    ⟨_, rfl, r, d8, _, rfl, o8, noN _ _, r, fa, fm, headN (bat fm 4), 1, rfl, R8.rr, by omega, fun H9 hrd9 kp9 => ?_⟩, ?_⟩
  · rw [le_one (by omega)]
    have nlr : ls ≠ r := ne_of hls8 o8 (by intro z; cases z)
    have hls9 := kp9 _ _ hls8 nlr
    refine ⟨_, rfl, ls, _, rfl, SqL.of hls9, ?_, fun H10 s10 => ?_⟩
    · rw [List.length_drop, List.length_take]
      omega
    refine ⟨rfl, _, rfl, ite2 (fun c => ?_) (fun c => ?_)⟩
    · refine kE 3 _ (head_sum h7 hmag hgd hlen8 fun z => ?_)
      rw [z] at c
      rw [decide_eq_true rfl] at c
      cases c
    · refine ⟨(R8.read hrd9 kp9 (by omega)).same s10, fun z => c ?_⟩
      have e : ¬ V.int ((bat fm (headN (bat fm 4)) : Nat) : Int) = V.int ((Kg18.sum 0 ((fm.take (headN (bat fm 4))).drop 4) / 256 % 256 : Nat) : Int) := fun h => by injection h with h; exact z (by omega)
      rw [decide_eq_false e]
      rfl
  rintro σ' H11 ⟨R11, hsum⟩
  exact kO H11 ln (head_ok h7 hmag hgd hlen8 hsum) hmost hln R11
end
end FX

/-! ### its methods, on -/
namespace FX
open PySem L2 Kg18 MS MB MR MG C
/-- what the head says, as the fields hold it -/
structure HeadIs (h : Head) (fl bs ln : Nat) : Prop where
  most : h.most = bs
  sums : h.sums = fl.testBit 4
  linked : h.linked = !fl.testBit 5
  sum : h.sum = fl.testBit 2
  size : h.size = if fl.testBit 3 = true then some ln else none
theorem headIs {fm : Bytes} {ln : Nat} (h : (bat fm 4).testBit 3 = true → ln = Kg18.le (fm.drop 6) 8) : HeadIs (headH fm) (bat fm 4) (headH fm).most ln := by
  refine ⟨rfl, rfl, rfl, rfl, ?_⟩
  show (if (bat fm 4).testBit 3 = true then some (Kg18.le (fm.drop 6) 8) else none) = _
  by_cases c : (bat fm 4).testBit 3 = true
  · rw [if_pos c, if_pos c, h c]
  · rw [if_neg c, if_neg c]
section
variable {P : Program} {w : World} {K : PySem.W.Frag} {mg : Str → Option Value} {base : Heap}
def spBlk (K : PySem.W.Frag) (C CR : Addr) : Sp := fun vs H Q _ => ∃ (y r fa ta : Addr) (fm t : Bytes) (p fl bs ln s : Nat) (h : Head), vs = [.ref y, .int s] ∧ Fr K C CR H y r fa ta fm t p fl bs ln ∧ HeadIs h fl bs ln ∧ bs ≤ 4194304 ∧ t.length ≤ 1048576 ∧ fm.length ≤ 116000 ∧
  (∀ (k : Nat) H', 0 < k → stepB h 1048576 t (fm.drop p) s = .error k → Q (.int (-(k : Int))) H') ∧ ∀ H' t' p', stepB h 1048576 t (fm.drop p) s = .ok (t', fm.drop p') → p ≤ p' → t'.length ≤ 1048576 → Fr K C CR H' y r fa ta fm t' p' fl bs ln → Q (.int 0) H'
theorem scBlk : FnScope ["self", "told", "length", "with_sum", "block", "first"] ["self", "told"] (defScope sFrameReader_read_block) := ⟨rfl, rfl, rfl, by decide +kernel, rfl, by decide +kernel, by decide +kernel⟩
theorem ok_blk {f C CR q qd fI fL fT fN fC fM fS fH fP fW fY : Addr} {fd fdI fdL fdT fdN fdC fdM fdS fdH fdP fdW fdY : FuncData} (F : Fun K "read_block" "FrameReader.read_block" sFrameReader_read_block f fd)
    (Z : Fs K mg C CR q qd fI fL fT fN fC fM fS fH fP fW fY fdI fdL fdT fdN fdC fdM fdS fdH fdP fdW fdY) (GS : FnOk P w K mg base CX0 4 fS fdS ["seed", "text"] (S.spSum K)) : FnOk P w K mg base CX0 5 f fd ["self", "told"] (spBlk K C CR) := by
  have g := Z.g
  have gu := Z.A.g
  have GY : FnOk P w K mg base CX0 1 fY fdY ["self", "flag"] (spSays C) := ok_says Z.FY g
  have GL : FnOk P w K mg base CX0 1 fL fdL ["self"] (U.spLeft K CR) := U.ok_left Z.A.FL gu
  have GT : FnOk P w K mg base CX0 1 fT fdT ["self", "count"] (U.spTaken K CR) := U.ok_taken Z.A.FT gu
  have GN : FnOk P w K mg base CX0 2 fN fdN ["self", "count"] (U.spNum K CR) := U.ok_num Z.A.FN gu Z.A.FT Z.A.bT Z.A.mT
  have GP : FnOk P w K mg base CX0 4 fP fdP ["block", "text", "first", "most"] (U.spParts K) := U.ok_parts Z.FP Z.A
  refine F.ok scBlk (fun vs H Q E h => ?_) (fun cdv A outer s H vs Q E hr h => ?_)
  · obtain ⟨y, r, fa, ta, fm, t, p, fl, bs, ln, s, h, rfl, _⟩ := h
    rfl
  obtain ⟨y, r, fa, ta, fm, t, p, fl, bs, ln, s, h, rfl, R, HI, hbs, htl, hfm, kE, kO⟩ := h
  have hr1 : Room 1 _ := hr.mono (by decide)
  have hr2 : Room 2 _ := hr.mono (by decide)
  have noL : ∀ (a : Addr) (p : Int), (U.rf a p).lookup ("left" : Str) = none := fun a p => U.rf_no a p (by decide +kernel) (by decide +kernel)
  have noN : ∀ (a : Addr) (p : Int), (U.rf a p).lookup ("number" : Str) = none := fun a p => U.rf_no a p (by decide +kernel) (by decide +kernel)
  have noT : ∀ (a : Addr) (p : Int), (U.rf a p).lookup ("taken" : Str) = none := fun a p => U.rf_no a p (by decide +kernel) (by decide +kernel)
  have noY : ∀ (a b : Addr) (i j k : Int), (ff a b i j k).lookup ("says" : Str) = none := fun a b i j k => ff_no _ _ _ _ _ (by decide +kernel) (by decide +kernel) (by decide +kernel) (by decide +kernel) (by decide +kernel)
  refine ⟨_, pss_cons (ps_set (i := 2) scBlk.nd rfl (Or.inl rfl) (pe_op (eI op_mod) (pv 1) (pe_gint rfl g.self)))
    (pss_cons (ps_cut (ps_set (i := 3) scBlk.nd rfl (Or.inl rfl) (pe_ifExp (pt_val (pe_meth (pv 0) g.cl Z.mY GY hr1 Z.bY .nil pass0 (pa_cons (pe_gint rfl g.bsum) pa_nil))) (pe_op (eI0 op_add) (pv 2) pe_int) (pv 2))))
    (pss_cons (ps_cut (ps_if (PW.pt (pw_or (pt_cmpR op_gt (pv 2) (pe_fld (pv 0) rfl) (nomark _)) (pw_or1 (pt_cmpR op_gt (pv 3) (pe_meth0 (pe_fld (pv 0) rfl) gu.cl Z.A.mL GL hr1 Z.A.bL .nil pass0) (nomark _))))) (pss_one (ps_ret (pe_gint rfl g.e4))) pss_nil))
    (pss_cons (ps_set (i := 4) scBlk.nd rfl (Or.inl rfl) (pe_meth (pe_fld (pv 0) rfl) gu.cl Z.A.mT GT hr1 Z.A.bT .nil pass0 (pa_cons (pv 2) pa_nil)))
    (pss_cons (ps_cut (ps_if (PW.pt (pw_and (pt_val (pe_meth (pv 0) g.cl Z.mY GY hr1 Z.bY .nil pass0 (pa_cons (pe_gint rfl g.bsum) pa_nil))) (pw_and1 (pt_cmpR op_ne (pe_meth (pe_fld (pv 0) rfl) gu.cl Z.A.mN GN hr2 Z.A.bN .nil pass0 (pa_cons pe_int pa_nil)) (pe_call GS hr rfl Z.mS Z.kS Z.bS .nil pass0 (pa_cons pe_int (pa_cons (pv 4) pa_nil))) (nomark _))))) (pss_one (ps_ret (pe_gint rfl g.e3))) pss_nil))
    (pss_cons (ps_cut (ps_set (i := 5) scBlk.nd rfl (Or.inl rfl) (pe_ifExp (pt_val (pe_meth (pv 0) g.cl Z.mY GY hr1 Z.bY .nil pass0 (pa_cons (pe_gint rfl g.alone) pa_nil))) (pe_callB call_len_bv rfl g.len PySem.boot_len (pa_cons (pe_fld (pv 0) rfl) pa_nil)) pe_int)))
    (pss_cons (ps_cut (ps_if (pt_cmpR op_ge (pv 1) (pe_gint rfl g.self) (nomark _)) (pss_one (ps_expr (pe_bm PySem.F.plainAttrs_list PySem.F.slot_list_extend PySem.F.type_list_extend mt_extend (pe_fld (pv 0) rfl) (pa_cons (pv 4) pa_nil)))) (pss_one (ps_cut (ps_if (pt_not (pt_val (pe_call GP hr rfl Z.mP Z.FP.kp Z.bP .nil pass0 (pa_cons (pv 4) (pa_cons (pe_fld (pv 0) rfl) (pa_cons (pv 5) (pa_cons (pe_fld (pv 0) rfl) pa_nil))))))) (pss_one (ps_ret (pe_gint rfl g.e5))) pss_nil)))))
    (pss_one (ps_ret (pe_ifExp (pt_cmpR op_gt (pe_callB call_len_bv rfl g.len PySem.boot_len (pa_cons (pe_fld (pv 0) rfl) pa_nil)) (pe_gint rfl g.longest) (nomark _)) (pe_gint rfl g.e6) (pe_gint rfl g.e0)))))))))), ?_⟩
  obtain ⟨dy, oy⟩ := R.ob
  obtain ⟨d0, o0⟩ := R.rd
  have hpl := R.pl
  have hs1 := HI.sums
  have hm1 := HI.most
  have hbl : (fm.drop p).length = fm.length - p := List.length_drop
  have eN : (s : Int) % 2147483648 = ((s % 2 ^ 31 : Nat) : Int) := by omega
  -- length = told % STANDS_FOR_ITSELF
  refine ⟨_, rfl, ((s % 2 ^ 31 : Nat) : Int), _, _, rfl, rfl, (by show (0 : Int) < 2147483648; decide), eN, ?_⟩
  generalize hN : s % 2 ^ 31 = n
  -- with_sum
  refine ⟨fun σ' H' => σ' = [some (.ref y), some (.int s), some (.int n), some (.int (n + (if fl.testBit 4 = true then 4 else 0) : Nat)), none, none] ∧ H = H',
    ⟨_, rfl, y, dy, _, rfl, oy, noY _ _ _ _ _, y, dy, r, ta, fl, _, _, 16, 4, rfl, oy, rfl, _, rfl, ite2 (fun c => ?_) (fun c => ?_)⟩, ?_⟩
  · rw [if_pos c]
    exact ⟨_, rfl, ((n + 4 : Nat) : Int), _, _, rfl, rfl, rfl, rfl, rfl⟩
  · rw [if_neg c]
    exact ⟨_, rfl, rfl, rfl⟩
  rintro σ' H' ⟨rfl, rfl⟩
  -- a block longer than it may be, or than what is left
  refine ⟨fun σ' H' => σ' = [some (.ref y), some (.int s), some (.int n), some (.int (n + (if fl.testBit 4 = true then 4 else 0) : Nat)), none, none] ∧ H = H' ∧ n ≤ bs ∧ n + (if fl.testBit 4 = true then 4 else 0) ≤ fm.length - p,
    ⟨_, rfl, _, rfl, y, C, dy, _, _, rfl, oy, g.cl, g.nB, ff_size _ _ _ _ _, _, _, rfl, rfl, _, rfl, ite2 (fun c => ?_) (fun c => ?_)⟩, ?_⟩
  · have c' : (bs : Int) < (n : Int) := of_decide_eq_true c
    refine iteT (kE 4 _ (by decide) ?_)
    unfold stepB
    rw [hN, if_pos (.inl (by omega))]
  · have c' : ¬ (bs : Int) < (n : Int) := of_decide_eq_false (Bool.eq_false_iff.mpr c)
    refine ⟨_, rfl, _, rfl, y, C, dy, _, _, rfl, oy, g.cl, g.nR, ff_reader _ _ _ _ _, r, d0, _, rfl, o0, noL _ _, r, fa, fm, p, rfl, R.rr, _, _, rfl, rfl, _, rfl, ite2 (fun c => ?_) (fun c => ?_)⟩
    · have c2 : ((fm.length - p : Nat) : Int) < ((n + (if fl.testBit 4 = true then 4 else 0) : Nat) : Int) := of_decide_eq_true c
      refine kE 4 _ (by decide) ?_
      unfold stepB
      rw [hN, if_pos]
      by_cases c3 : fm.length - p < n
      · exact .inr (.inl (by omega))
      · refine .inr (.inr ⟨?_, ?_⟩)
        · rw [hs1]
          refine Classical.byContradiction fun z => ?_
          rw [if_neg z] at c2
          omega
        · rw [List.length_drop]
          split at c2 <;> omega
    · have c2 : ¬ ((fm.length - p : Nat) : Int) < ((n + (if fl.testBit 4 = true then 4 else 0) : Nat) : Int) := of_decide_eq_false (Bool.eq_false_iff.mpr c)
      exact ⟨rfl, rfl, by omega, by omega⟩
  rintro σ' H' ⟨rfl, rfl, hnb, hws⟩
  have hnl : n ≤ fm.length - p := by omega
  have ok1 : ¬ (h.most < s % 2 ^ 31 ∨ (fm.drop p).length < s % 2 ^ 31 ∨ (h.sums = true ∧ ((fm.drop p).drop (s % 2 ^ 31)).length < 4)) := by
    rw [hN, hs1]
    rintro (z | z | ⟨z1, z2⟩)
    · omega
    · omega
    · rw [if_pos z1] at hws
      rw [List.length_drop] at z2
      omega
  -- block = self.reader.taken(length)
  refine ⟨_, rfl, y, C, dy, _, _, rfl, oy, g.cl, g.nR, ff_reader _ _ _ _ _, r, d0, _, rfl, o0, noT _ _, _, rfl, r, fa, fm, p, n, rfl, R.rr, by omega, fun lb H1 hrd1 kp1 nlb nlbr hlb => ?_⟩
  have R1 := R.read hrd1 kp1 (by omega)
  have ntb : lb ≠ ta := (ne_of_none R.tx nlb).symm
  obtain ⟨d1, o1⟩ := R1.rd
  have oy1 := kp1 _ _ oy R.nyr
  have hdl : ((fm.drop p).take n).length = n := by rw [List.length_take]; omega
  have edd : (fm.drop p).drop n = fm.drop (p + n) := by rw [List.drop_drop]
  -- the block's sum
  refine ⟨fun σ' H' => σ' = [some (.ref y), some (.int s), some (.int n), some (.int (n + (if fl.testBit 4 = true then 4 else 0) : Nat)), some (.ref lb), none] ∧ H' lb = some (.lst (bv ((fm.drop p).take n))) ∧
      Fr K C CR H' y r fa ta fm t (p + n + (if fl.testBit 4 = true then 4 else 0)) fl bs ln ∧ ¬ (h.sums = true ∧ Kg18.le ((fm.drop p).drop n) 4 ≠ Kg18.sum 0 ((fm.drop p).take n)),
    ⟨_, rfl, y, dy, _, rfl, oy1, noY _ _ _ _ _, y, dy, r, ta, fl, _, _, 16, 4, rfl, oy1, rfl, _, rfl, ite2 (fun c => ?_) (fun c => ?_)⟩, ?_⟩
  · have c4 : n + 4 ≤ fm.length - p := by rw [if_pos c] at hws; exact hws
    refine ⟨_, rfl, y, C, dy, _, _, rfl, oy1, g.cl, g.nR, ff_reader _ _ _ _ _, r, d1, _, rfl, o1, noN _ _, r, fa, fm, p + n, 4, rfl, R1.rr, by omega, fun H2 hrd2 kp2 => ?_⟩
    have R2 := R1.read hrd2 kp2 (by omega)
    have hlb2 := kp2 _ _ hlb nlbr
    rw [← edd]
    refine ⟨_, rfl, lb, (fm.drop p).take n, 0, rfl, SqL.of hlb2, by omega, by decide, fun H3 s3 => ?_⟩
    refine ⟨rfl, _, rfl, ite2 (fun c2 => ?_) (fun c2 => ?_)⟩
    · refine kE 3 _ (by decide) ?_
      unfold stepB
      rw [if_neg ok1, hN, if_pos]
      refine ⟨by rw [hs1]; exact c, fun z => ?_⟩
      rw [z, decide_eq_true rfl] at c2
      cases c2
    · refine ⟨rfl, s3 _ _ hlb2, ?_, fun z => c2 ?_⟩
      · rw [if_pos c]
        exact R2.same s3
      · have e : ¬ V.int ((Kg18.le ((fm.drop p).drop n) 4 : Nat) : Int) = V.int ((Kg18.sum 0 ((fm.drop p).take n) : Nat) : Int) := fun hh => by injection hh with hh; exact z.2 (by omega)
        rw [decide_eq_false e]
        rfl
  · refine iteF ⟨rfl, hlb, ?_, fun z => c (by rw [← hs1]; exact z.1)⟩
    rw [if_neg c]
    exact R1
  rintro σ' H4 ⟨rfl, hlb4, R4, ok2⟩
  obtain ⟨d4, oy4⟩ := R4.ob
  -- first
  refine ⟨fun σ' H' => σ' = [some (.ref y), some (.int s), some (.int n), some (.int (n + (if fl.testBit 4 = true then 4 else 0) : Nat)), some (.ref lb), some (.int (if fl.testBit 5 = true then t.length else 0 : Nat))] ∧ H4 = H',
    ⟨_, rfl, y, d4, _, rfl, oy4, noY _ _ _ _ _, y, d4, r, ta, fl, _, _, 32, 5, rfl, oy4, rfl, _, rfl, ite2 (fun c => ?_) (fun c => ?_)⟩, ?_⟩
  · rw [if_pos c]
    exact ⟨_, rfl, y, C, d4, _, _, rfl, oy4, g.cl, g.nT, ff_text _ _ _ _ _, ta, t, rfl, SqL.of R4.tx, rfl, rfl⟩
  · rw [if_neg c]
    exact ⟨rfl, rfl⟩
  rintro σ' H' ⟨rfl, rfl⟩
  have hrest : (if h.sums = true then ((fm.drop p).drop n).drop 4 else (fm.drop p).drop n) = fm.drop (p + n + (if fl.testBit 4 = true then 4 else 0)) := by
    rw [hs1, edd]
    by_cases c : fl.testBit 4 = true
    · rw [if_pos c, if_pos c, List.drop_drop]
    · rw [if_neg c, if_neg c]
      rfl
  -- the text
  refine ⟨fun σ' H' => ∃ t' : Bytes, σ'[0]? = some (some (.ref y)) ∧ Fr K C CR H' y r fa ta fm t' (p + n + (if fl.testBit 4 = true then 4 else 0)) fl bs ln ∧ stepB h 1048576 t (fm.drop p) s = if 1048576 < t'.length then .error 6 else .ok (t', fm.drop (p + n + (if fl.testBit 4 = true then 4 else 0))),
    ⟨_, rfl, _, _, rfl, rfl, _, rfl, ite2 (fun c => ?_) (fun c => ?_)⟩, ?_⟩
  · have c' : (2147483648 : Int) ≤ (s : Int) := of_decide_eq_true c
    refine ⟨_, rfl, y, C, d4, _, _, rfl, oy4, g.cl, g.nT, ff_text _ _ _ _ _, .inl ⟨rfl, _, SqL.of R4.tx⟩, _, rfl, ta, lb, _, _, rfl, rfl, R4.tx, hlb4, ?_, ?_⟩
    · rw [bv_length, bv_length]
      exact line (by omega)
    rw [← bv_append]
    refine ⟨t ++ (fm.drop p).take n, rfl, R4.text (But.upd _) upd_same, ?_⟩
    unfold stepB
    rw [if_neg ok1, hN, if_neg ok2, if_pos (by omega), hrest, List.length_append, hdl]
  · have c' : ¬ (2147483648 : Int) ≤ (s : Int) := of_decide_eq_false (Bool.eq_false_iff.mpr c)
    refine ⟨_, ?_, fun _ _ z => z⟩
    have hU : U (if h.linked = true then t.length - 65536 else t.length) (t.length + h.most) t ((fm.drop p).take n) = U (if fl.testBit 5 = true then t.length else 0) (t.length + bs) t ((fm.drop p).take n) := by
      rw [HI.linked, hm1]
      cases e : fl.testBit 5 with
      | true => rfl
      | false => exact U_from _ _ _ (Nat.le_refl _) (by show t.length - 65536 = 0 ∨ t.length - 65536 + 65536 ≤ t.length; omega)
    refine ⟨_, rfl, _, rfl, y, C, d4, _, _, rfl, oy4, g.cl, g.nT, ff_text _ _ _ _ _, _, rfl, _, rfl, y, C, d4, _, _, rfl, oy4, g.cl, g.nB, ff_size _ _ _ _ _, lb, ta, (fm.drop p).take n, t, (if fl.testBit 5 = true then t.length else 0), bs, rfl, Fix.of (SqL.of hlb4) ntb, R4.tx, by omega, fun H5 kp5 => ⟨fun u eu hu => ⟨true, rfl, ?_⟩, fun eu => ⟨false, rfl, ?_⟩⟩⟩
    · refine iteF ⟨u, rfl, R4.text kp5 hu, ?_⟩
      unfold stepB
      rw [if_neg ok1, hN, if_neg ok2, if_neg (by omega), hrest, hU, eu]
    · refine iteT (kE 5 _ (by decide) ?_)
      unfold stepB
      rw [if_neg ok1, hN, if_neg ok2, if_neg (by omega), hU, eu]
  rintro σ' H6 ⟨t', e0, R6, hst⟩
  obtain ⟨d6, oy6⟩ := R6.ob
  refine ⟨_, e0, y, C, d6, _, _, rfl, oy6, g.cl, g.nT, ff_text _ _ _ _ _, ta, t', rfl, SqL.of R6.tx, _, _, rfl, rfl, _, rfl, ite2 (fun c => ?_) (fun c => ?_)⟩
  · have c' : (1048576 : Int) < (t'.length : Int) := of_decide_eq_true c
    exact kE 6 _ (by decide) (by rw [hst, if_pos (by omega)])
  · have c' : ¬ (1048576 : Int) < (t'.length : Int) := of_decide_eq_false (Bool.eq_false_iff.mpr c)
    exact kO H6 t' _ (by rw [hst, if_neg (by omega)]) (by omega) (by omega) R6
end
end FX

/-! ### the whole frame -/
namespace FX
open PySem L2 Kg18 MS MB MR MG C
section
variable {P : Program} {w : World} {K : PySem.W.Frag} {mg : Str → Option Value} {base : Heap}
theorem noRL (a : Addr) (p : Int) : (U.rf a p).lookup ("left" : Str) = none := U.rf_no a p (by decide +kernel) (by decide +kernel)
theorem noRN (a : Addr) (p : Int) : (U.rf a p).lookup ("number" : Str) = none := U.rf_no a p (by decide +kernel) (by decide +kernel)
theorem noFY (a b : Addr) (i j k : Int) : (ff a b i j k).lookup ("says" : Str) = none := ff_no _ _ _ _ _ (by decide +kernel) (by decide +kernel) (by decide +kernel) (by decide +kernel) (by decide +kernel)
theorem noFB (a b : Addr) (i j k : Int) : (ff a b i j k).lookup ("read_block" : Str) = none := ff_no _ _ _ _ _ (by decide +kernel) (by decide +kernel) (by decide +kernel) (by decide +kernel) (by decide +kernel)
theorem noFH (a b : Addr) (i j k : Int) : (ff a b i j k).lookup ("read_head" : Str) = none := ff_no _ _ _ _ _ (by decide +kernel) (by decide +kernel) (by decide +kernel) (by decide +kernel) (by decide +kernel)
theorem noFS (a b : Addr) (i j k : Int) : (ff a b i j k).lookup ("read_blocks" : Str) = none := ff_no _ _ _ _ _ (by decide +kernel) (by decide +kernel) (by decide +kernel) (by decide +kernel) (by decide +kernel)
theorem noFE (a b : Addr) (i j k : Int) : (ff a b i j k).lookup ("read_end" : Str) = none := ff_no _ _ _ _ _ (by decide +kernel) (by decide +kernel) (by decide +kernel) (by decide +kernel) (by decide +kernel)
theorem noFA (a b : Addr) (i j k : Int) : (ff a b i j k).lookup ("read_all" : Str) = none := ff_no _ _ _ _ _ (by decide +kernel) (by decide +kernel) (by decide +kernel) (by decide +kernel) (by decide +kernel)
def spBls (K : PySem.W.Frag) (C CR : Addr) : Sp := fun vs H Q _ => ∃ (y r fa ta : Addr) (fm t : Bytes) (p fl bs ln : Nat) (h : Head), vs = [.ref y] ∧ Fr K C CR H y r fa ta fm t p fl bs ln ∧ HeadIs h fl bs ln ∧ bs ≤ 4194304 ∧ t.length ≤ 1048576 ∧ fm.length ≤ 116000 ∧
  (∀ (k : Nat) H', 0 < k → BL h 1048576 t (fm.drop p) = .error k → Q (.int (-(k : Int))) H') ∧ ∀ H' t' p', BL h 1048576 t (fm.drop p) = .ok (t', fm.drop p') → t'.length ≤ 1048576 → Fr K C CR H' y r fa ta fm t' p' fl bs ln → Q (.int 0) H'
theorem scBls : FnScope ["self", "told", "wrong"] ["self"] (defScope sFrameReader_read_blocks) := ⟨rfl, rfl, rfl, by decide +kernel, rfl, by decide +kernel, by decide +kernel⟩
theorem ok_bls {f fB C CR q qd fI fL fT fN fC fM fS fH fP fW fY : Addr} {fd fdB fdI fdL fdT fdN fdC fdM fdS fdH fdP fdW fdY : FuncData} (F : Fun K "read_blocks" "FrameReader.read_blocks" sFrameReader_read_blocks f fd)
    (Z : Fs K mg C CR q qd fI fL fT fN fC fM fS fH fP fW fY fdI fdL fdT fdN fdC fdM fdS fdH fdP fdW fdY) (GB : FnOk P w K mg base CX0 5 fB fdB ["self", "told"] (spBlk K C CR)) (bB : Binds K fdB ["self", "told"] []) (mB : Meth K C "read_block" fB) : FnOk P w K mg base CX0 6 f fd ["self"] (spBls K C CR) := by
  have g := Z.g
  have gu := Z.A.g
  have GL : FnOk P w K mg base CX0 1 fL fdL ["self"] (U.spLeft K CR) := U.ok_left Z.A.FL gu
  have GN : FnOk P w K mg base CX0 2 fN fdN ["self", "count"] (U.spNum K CR) := U.ok_num Z.A.FN gu Z.A.FT Z.A.bT Z.A.mT
  refine F.ok scBls (fun vs H Q E h => ?_) (fun cdv A outer s H vs Q E hr h => ?_)
  · obtain ⟨y, r, fa, ta, fm, t, p, fl, bs, ln, h, rfl, _⟩ := h
    rfl
  obtain ⟨y, r, fa, ta, fm, t, p, fl, bs, ln, h, rfl, R, HI, hbs, htl, hfm, kE, kO⟩ := h
  have hr1 : Room 1 _ := hr.mono (by decide)
  have hr2 : Room 2 _ := hr.mono (by decide)
  refine ⟨_, pss_cons (ps_while PassesOwn.never (pt_cmpR op_ge (pe_meth0 (pe_fld (pv 0) rfl) gu.cl Z.A.mL GL hr1 Z.A.bL .nil pass0) pe_int (nomark _)) (pss_cons (ps_set (i := 1) scBls.nd rfl (Or.inl rfl) (pe_meth (pe_fld (pv 0) rfl) gu.cl Z.A.mN GN hr2 Z.A.bN .nil pass0 (pa_cons pe_int pa_nil)))
    (pss_cons (ps_if (pt_cmpR op_eq (pv 1) pe_int (nomark _)) (pss_one (ps_ret (pe_gint rfl g.e0))) pss_nil)
    (pss_cons (ps_set (i := 2) scBls.nd rfl (Or.inl rfl) (pe_meth (pv 0) g.cl mB GB hr bB .nil pass0 (pa_cons (pv 1) pa_nil)))
    (pss_one (ps_if (pt_cmpR op_ne (pv 2) (pe_gint rfl g.e0) (nomark _)) (pss_one (ps_ret (pv 2))) pss_nil))))))
    (pss_one (ps_ret (pe_gint rfl g.e4))), ?_⟩
  refine ⟨fun m σ H' => ∃ (t' : Bytes) (p' : Nat) (v1 v2 : Option V), σ = [some (.ref y), v1, v2] ∧ Fr K C CR H' y r fa ta fm t' p' fl bs ln ∧ m = fm.length - p' ∧ t'.length ≤ 1048576 ∧ BL h 1048576 t' (fm.drop p') = BL h 1048576 t (fm.drop p),
    ⟨_, t, p, none, none, rfl, R, rfl, htl, rfl⟩, ?_⟩
  rintro m σ H' ⟨t', p', v1, v2, rfl, R1, rfl, htl1, hBL⟩
  obtain ⟨dy, oy⟩ := R1.ob
  obtain ⟨d0, o0⟩ := R1.rd
  have hpl := R1.pl
  have hdl : (fm.drop p').length = fm.length - p' := List.length_drop
  refine ⟨_, rfl, y, C, dy, _, _, rfl, oy, g.cl, g.nR, ff_reader _ _ _ _ _, r, d0, _, rfl, o0, noRL _ _, r, fa, fm, p', rfl, R1.rr, _, _, rfl, rfl, _, rfl, ite2 (fun c => ?_) (fun c => ?_)⟩
  rotate_left
  · have c' : ¬ (4 : Int) ≤ ((fm.length - p' : Nat) : Int) := of_decide_eq_false (Bool.eq_false_iff.mpr c)
    exact kE 4 _ (by decide) (by rw [← hBL]; exact BL_short (by omega))
  have c1 : (4 : Int) ≤ ((fm.length - p' : Nat) : Int) := of_decide_eq_true c
  have n4 : ¬ (fm.drop p').length < 4 := by omega
  refine ⟨_, fun σ' H' z => z, ?_⟩
  refine ⟨_, rfl, y, C, dy, _, _, rfl, oy, g.cl, g.nR, ff_reader _ _ _ _ _, r, d0, _, rfl, o0, noRN _ _, r, fa, fm, p', 4, rfl, R1.rr, by omega, fun H2 hrd2 kp2 => ?_⟩
  have R2 := R1.read hrd2 kp2 (by omega)
  have oy2 := kp2 _ _ oy R1.nyr
  refine ⟨_, rfl, rfl, _, rfl, ite2 (fun c => ?_) (fun c => ?_)⟩
  · have c' : V.int ((Kg18.le (fm.drop p') 4 : Nat) : Int) = V.int 0 := of_decide_eq_true c
    injection c' with c'
    have e := BL_end (h := h) (most := 1048576) (t := t') n4 (by omega)
    rw [hBL, List.drop_drop] at e
    exact kO H2 t' (p' + 4) e htl1 R2
  have c2 : ¬ V.int ((Kg18.le (fm.drop p') 4 : Nat) : Int) = V.int 0 := of_decide_eq_false (Bool.eq_false_iff.mpr c)
  have n0 : ¬ Kg18.le (fm.drop p') 4 = 0 := fun z => c2 (by rw [z]; rfl)
  have edd : (fm.drop p').drop 4 = fm.drop (p' + 4) := by rw [List.drop_drop]
  refine ⟨_, rfl, y, dy, _, rfl, oy2, noFB _ _ _ _ _, _, rfl, y, r, fa, ta, fm, t', p' + 4, fl, bs, ln, Kg18.le (fm.drop p') 4, h, rfl, R2, HI, hbs, htl1, hfm, fun k H3 hk e => ?_, fun H3 t3 p3 e hp3 ht3 R3 => ?_⟩
  · refine ⟨_, rfl, rfl, _, rfl, ite2 (fun _ => ?_) (fun c => ?_)⟩
    · exact ⟨_, rfl, kE k H3 hk (by rw [← hBL]; exact BL_err n4 n0 (by rw [edd]; exact e))⟩
    · refine absurd ?_ c
      have e2 : ¬ V.int (-(k : Int)) = V.int 0 := fun z => by injection z with z; omega
      rw [decide_eq_false e2]
      rfl
  · refine ⟨_, rfl, rfl, _, rfl, ite2 (fun c => ?_) (fun _ => ?_)⟩
    · rw [decide_eq_true rfl] at c
      cases c
    · have hp3l := R3.pl
      refine ⟨fm.length - p3, by omega, t3, p3, _, _, rfl, R3, rfl, ht3, ?_⟩
      rw [← hBL]
      exact (BL_go n4 n0 (by rw [edd]; exact e)).symm
/-- the end, as it is told -/
def endK (h : Head) (t s : Bytes) : Nat := if s.length ≠ (if h.sum = true then 4 else 0) then 4 else if h.sum = true ∧ Kg18.le s 4 ≠ Kg18.sum 0 t then 3 else if h.size ≠ none ∧ h.size ≠ some t.length then 9 else 0
def spEnd (K : PySem.W.Frag) (C CR : Addr) : Sp := fun vs H Q _ => ∃ (y r fa ta : Addr) (fm t : Bytes) (p fl bs ln : Nat) (h : Head), vs = [.ref y] ∧ Fr K C CR H y r fa ta fm t p fl bs ln ∧ HeadIs h fl bs ln ∧ t.length ≤ 1048576 ∧
  ∀ H' p', Fr K C CR H' y r fa ta fm t p' fl bs ln → Q (.int (-(endK h t (fm.drop p) : Nat) : Int)) H'
theorem scEnd : FnScope ["self"] ["self"] (defScope sFrameReader_read_end) := ⟨rfl, rfl, rfl, by decide +kernel, rfl, by decide +kernel, by decide +kernel⟩
theorem ok_end {f C CR q qd fI fL fT fN fC fM fS fH fP fW fY : Addr} {fd fdI fdL fdT fdN fdC fdM fdS fdH fdP fdW fdY : FuncData} (F : Fun K "read_end" "FrameReader.read_end" sFrameReader_read_end f fd)
    (Z : Fs K mg C CR q qd fI fL fT fN fC fM fS fH fP fW fY fdI fdL fdT fdN fdC fdM fdS fdH fdP fdW fdY) (GS : FnOk P w K mg base CX0 4 fS fdS ["seed", "text"] (S.spSum K)) : FnOk P w K mg base CX0 5 f fd ["self"] (spEnd K C CR) := by
  have g := Z.g
  have gu := Z.A.g
  have GY : FnOk P w K mg base CX0 1 fY fdY ["self", "flag"] (spSays C) := ok_says Z.FY g
  have GL : FnOk P w K mg base CX0 1 fL fdL ["self"] (U.spLeft K CR) := U.ok_left Z.A.FL gu
  have GN : FnOk P w K mg base CX0 2 fN fdN ["self", "count"] (U.spNum K CR) := U.ok_num Z.A.FN gu Z.A.FT Z.A.bT Z.A.mT
  refine F.ok scEnd (fun vs H Q E h => ?_) (fun cdv A outer s H vs Q E hr h => ?_)
  · obtain ⟨y, r, fa, ta, fm, t, p, fl, bs, ln, h, rfl, _⟩ := h
    rfl
  obtain ⟨y, r, fa, ta, fm, t, p, fl, bs, ln, h, rfl, R, HI, htl, k⟩ := h
  have hr1 : Room 1 _ := hr.mono (by decide)
  have hr2 : Room 2 _ := hr.mono (by decide)
  refine ⟨_, pss_cons (ps_cut (ps_if (pt_cmpR op_ne (pe_meth0 (pe_fld (pv 0) rfl) gu.cl Z.A.mL GL hr1 Z.A.bL .nil pass0) (pe_ifExp (pt_val (pe_meth (pv 0) g.cl Z.mY GY hr1 Z.bY .nil pass0 (pa_cons (pe_gint rfl g.tsum) pa_nil))) pe_int pe_int) (nomark _)) (pss_one (ps_ret (pe_gint rfl g.e4))) pss_nil))
    (pss_cons (ps_cut (ps_if (PW.pt (pw_and (pt_val (pe_meth (pv 0) g.cl Z.mY GY hr1 Z.bY .nil pass0 (pa_cons (pe_gint rfl g.tsum) pa_nil))) (pw_and1 (pt_cmpR op_ne (pe_meth (pe_fld (pv 0) rfl) gu.cl Z.A.mN GN hr2 Z.A.bN .nil pass0 (pa_cons pe_int pa_nil)) (pe_call GS hr rfl Z.mS Z.kS Z.bS .nil pass0 (pa_cons pe_int (pa_cons (pe_fld (pv 0) rfl) pa_nil))) (nomark _))))) (pss_one (ps_ret (pe_gint rfl g.e3))) pss_nil))
    (pss_cons (ps_cut (ps_if (PW.pt (pw_and (pt_val (pe_meth (pv 0) g.cl Z.mY GY hr1 Z.bY .nil pass0 (pa_cons (pe_gint rfl g.leng) pa_nil))) (pw_and1 (pt_cmpR op_ne (pe_fld (pv 0) rfl) (pe_callB call_len_bv rfl g.len PySem.boot_len (pa_cons (pe_fld (pv 0) rfl) pa_nil)) (nomark _))))) (pss_one (ps_ret (pe_gint rfl g.e9))) pss_nil))
    (pss_one (ps_ret (pe_gint rfl g.e0))))), ?_⟩
  obtain ⟨dy, oy⟩ := R.ob
  obtain ⟨d0, o0⟩ := R.rd
  have hpl := R.pl
  have hdl : (fm.drop p).length = fm.length - p := List.length_drop
  have hsm := HI.sum
  have hsz := HI.size
  -- what is left
  have first : ∀ (e4 : Nat), (if h.sum = true then 4 else 0) = e4 → ∀ c : Bool, c = (!decide (V.int ((fm.length - p : Nat) : Int) = V.int (e4 : Int))) → (c = true → Q (.int (-4)) H) ∧ (c = false → (fm.drop p).length = (if h.sum = true then 4 else 0)) := by
    intro e4 he c hc
    refine ⟨fun h1 => ?_, fun h1 => ?_⟩
    · have e : endK h t (fm.drop p) = 4 := by
        unfold endK
        rw [if_pos]
        intro z
        rw [he, hdl] at z
        rw [z, decide_eq_true rfl] at hc
        rw [hc] at h1
        cases h1
      have := k H p R
      rw [e] at this
      exact this
    · rw [h1] at hc
      have hd : decide (V.int ((fm.length - p : Nat) : Int) = V.int (e4 : Int)) = true := by simpa using hc.symm
      have z := of_decide_eq_true hd
      injection z with z
      rw [he, hdl]
      omega
  refine ⟨fun σ' H' => σ' = [some (.ref y)] ∧ H = H' ∧ (fm.drop p).length = (if h.sum = true then 4 else 0),
    ⟨_, rfl, y, C, dy, _, _, rfl, oy, g.cl, g.nR, ff_reader _ _ _ _ _, r, d0, _, rfl, o0, noRL _ _, r, fa, fm, p, rfl, R.rr, _, rfl, y, dy, _, rfl, oy, noFY _ _ _ _ _, y, dy, r, ta, fl, _, _, 4, 2, rfl, oy, rfl, _, rfl, ite2 (fun c => ?_) (fun c => ?_)⟩, ?_⟩
  · obtain ⟨f1, f2⟩ := first 4 (by rw [hsm, if_pos c]) _ rfl
    refine ⟨rfl, _, rfl, ite2 (fun c2 => f1 c2) (fun c2 => ⟨rfl, rfl, f2 (Bool.eq_false_iff.mpr c2)⟩)⟩
  · obtain ⟨f1, f2⟩ := first 0 (by rw [hsm, if_neg c]) _ rfl
    refine ⟨rfl, _, rfl, ite2 (fun c2 => f1 c2) (fun c2 => ⟨rfl, rfl, f2 (Bool.eq_false_iff.mpr c2)⟩)⟩
  rintro σ' H' ⟨rfl, rfl, hleft⟩
  -- the text's sum
  refine ⟨fun σ' H' => σ' = [some (.ref y)] ∧ (∃ p', Fr K C CR H' y r fa ta fm t p' fl bs ln) ∧ ¬ (h.sum = true ∧ Kg18.le (fm.drop p) 4 ≠ Kg18.sum 0 t),
    ⟨_, rfl, y, dy, _, rfl, oy, noFY _ _ _ _ _, y, dy, r, ta, fl, _, _, 4, 2, rfl, oy, rfl, _, rfl, ite2 (fun c => ?_) (fun c => ?_)⟩, ?_⟩
  · have hs4 : fm.length - p = 4 := by rw [hdl, hsm, if_pos c] at hleft; exact hleft
    refine ⟨_, rfl, y, C, dy, _, _, rfl, oy, g.cl, g.nR, ff_reader _ _ _ _ _, r, d0, _, rfl, o0, noRN _ _, r, fa, fm, p, 4, rfl, R.rr, by omega, fun H2 hrd2 kp2 => ?_⟩
    have R2 := R.read hrd2 kp2 (by omega)
    have oy2 := kp2 _ _ oy R.nyr
    refine ⟨_, rfl, y, C, dy, _, _, rfl, oy2, g.cl, g.nT, ff_text _ _ _ _ _, ta, t, 0, rfl, SqL.of R2.tx, by omega, by decide, fun H3 s3 => ?_⟩
    refine ⟨rfl, _, rfl, ite2 (fun c2 => ?_) (fun c2 => ?_)⟩
    · have e : endK h t (fm.drop p) = 3 := by
        unfold endK
        rw [if_neg (fun z => z hleft), if_pos]
        refine ⟨by rw [hsm]; exact c, fun z => ?_⟩
        rw [z, decide_eq_true rfl] at c2
        cases c2
      have := k H3 _ (R2.same s3)
      rw [e] at this
      exact this
    · refine ⟨rfl, ⟨_, R2.same s3⟩, fun z => c2 ?_⟩
      have e : ¬ V.int ((Kg18.le (fm.drop p) 4 : Nat) : Int) = V.int ((Kg18.sum 0 t : Nat) : Int) := fun hh => by injection hh with hh; exact z.2 (by omega)
      rw [decide_eq_false e]
      rfl
  · exact iteF ⟨rfl, ⟨p, R⟩, fun z => c (by rw [← hsm]; exact z.1)⟩
  rintro σ' H4 ⟨rfl, ⟨p4, R4⟩, hsum⟩
  obtain ⟨d4, oy4⟩ := R4.ob
  -- the length
  refine ⟨fun σ' H' => H4 = H' ∧ ¬ (h.size ≠ none ∧ h.size ≠ some t.length), ⟨_, rfl, y, d4, _, rfl, oy4, noFY _ _ _ _ _, y, d4, r, ta, fl, _, _, 8, 3, rfl, oy4, rfl, _, rfl, ite2 (fun c => ?_) (fun c => ?_)⟩, ?_⟩
  · refine ⟨_, rfl, y, C, d4, _, _, rfl, oy4, g.cl, g.nL, ff_length _ _ _ _ _, _, rfl, y, C, d4, _, _, rfl, oy4, g.cl, g.nT, ff_text _ _ _ _ _, ta, t, rfl, SqL.of R4.tx, rfl, _, rfl, ite2 (fun c2 => ?_) (fun c2 => ?_)⟩
    · have e : endK h t (fm.drop p) = 9 := by
        unfold endK
        rw [if_neg (fun z => z hleft), if_neg hsum, if_pos]
        rw [hsz, if_pos c]
        refine ⟨by simp, fun z => ?_⟩
        injection z with z
        rw [z, decide_eq_true rfl] at c2
        cases c2
      have := k H4 _ R4
      rw [e] at this
      exact this
    · refine ⟨rfl, fun z => c2 ?_⟩
      rw [hsz, if_pos c] at z
      have e : ¬ V.int (ln : Int) = V.int ((t.length : Nat) : Int) := fun hh => by
        injection hh with hh
        exact z.2 (by congr 1; omega)
      rw [decide_eq_false e]
      rfl
  · refine iteF ⟨rfl, fun z => ?_⟩
    rw [hsz, if_neg c] at z
    exact z.1 rfl
  rintro σ' H5 ⟨rfl, hsize⟩
  have e : endK h t (fm.drop p) = 0 := by
    unfold endK
    rw [if_neg (fun z => z hleft), if_neg hsum, if_neg hsize]
  have := k H4 _ R4
  rw [e] at this
  exact this
def spAll (K : PySem.W.Frag) (C CR : Addr) : Sp := fun vs H Q _ => ∃ (y r fa ta : Addr) (fm : Bytes), vs = [.ref y] ∧ Fr K C CR H y r fa ta fm [] 0 0 0 0 ∧ fm.length ≤ 116000 ∧
  (∀ (k : Nat) H', 0 < k → frame 1048576 fm = .error k → Q (.int (-(k : Int))) H') ∧ ∀ H' t p fl bs ln, frame 1048576 fm = .ok t → t.length ≤ 1048576 → Fr K C CR H' y r fa ta fm t p fl bs ln → Q (.int 0) H'
theorem head_pos {b : Bytes} {k : Nat} (h : headOf b = .error k) : 0 < k := by
  have one : ∀ n : Nat, 0 < n → headOf b = .error n → 0 < k := fun n hn e => by
    rw [e] at h
    injection h with h
    omega
  by_cases c1 : b.length < 7 ∨ ¬ magicAt b
  · exact one 1 (by decide) (head_short c1)
  have h7 : ¬ b.length < 7 := fun z => c1 (.inl z)
  have hm : magicAt b := Classical.byContradiction fun z => c1 (.inr z)
  by_cases c2 : badHead (bat b 4) (bat b 5)
  · exact one 2 (by decide) (head_bad h7 hm c2)
  by_cases c3 : b.length ≤ headN (bat b 4)
  · exact one 1 (by decide) (head_cut h7 hm c2 c3)
  by_cases c4 : bat b (headN (bat b 4)) ≠ Kg18.sum 0 ((b.take (headN (bat b 4))).drop 4) / 256 % 256
  · exact one 3 (by decide) (head_sum h7 hm c2 c3 c4)
  · rw [head_ok h7 hm c2 c3 c4] at h
    cases h
theorem frame_eq {fm : Bytes} {h : Head} {rest : Bytes} (hh : headOf fm = .ok (h, rest)) : frame 1048576 fm = match BL h 1048576 [] rest with
    | .error k => .error k
    | .ok (t, s) => if endK h t s = 0 then .ok t else .error (endK h t s) := by
  unfold frame
  rw [hh]
  show (match blocks h 1048576 (rest.length + 1) [] rest with | .error k => _ | .ok (t, s) => _) = _
  unfold BL
  cases blocks h 1048576 (rest.length + 1) [] rest with
  | error k => rfl
  | ok p =>
    obtain ⟨t, s⟩ := p
    show (if s.length ≠ (if h.sum = true then 4 else 0) then Except.error 4 else if h.sum = true ∧ Kg18.le s 4 ≠ Kg18.sum 0 t then .error 3 else if h.size ≠ none ∧ h.size ≠ some t.length then .error 9 else .ok t) = if endK h t s = 0 then .ok t else .error (endK h t s)
    unfold endK
    by_cases c1 : s.length ≠ (if h.sum = true then 4 else 0)
    · simp only [if_pos c1]; rfl
    simp only [if_neg c1]
    by_cases c2 : h.sum = true ∧ Kg18.le s 4 ≠ Kg18.sum 0 t
    · simp only [if_pos c2]; rfl
    simp only [if_neg c2]
    by_cases c3 : h.size ≠ none ∧ h.size ≠ some t.length
    · simp only [if_pos c3]; rfl
    simp only [if_neg c3]
    rfl
theorem scAll : FnScope ["self", "wrong"] ["self"] (defScope sFrameReader_read_all) := ⟨rfl, rfl, rfl, by decide +kernel, rfl, by decide +kernel, by decide +kernel⟩
theorem ok_all {f fA fB fE C CR q qd : Addr} {fd fdA fdB fdE : FuncData} (F : Fun K "read_all" "FrameReader.read_all" sFrameReader_read_all f fd) (g : G K mg C q qd) (GA : FnOk P w K mg base CX0 6 fA fdA ["self"] (spHd K C CR)) (bA : Binds K fdA ["self"] []) (mA : Meth K C "read_head" fA)
    (GB : FnOk P w K mg base CX0 6 fB fdB ["self"] (spBls K C CR)) (bB : Binds K fdB ["self"] []) (mB : Meth K C "read_blocks" fB) (GE : FnOk P w K mg base CX0 5 fE fdE ["self"] (spEnd K C CR)) (bE : Binds K fdE ["self"] []) (mE : Meth K C "read_end" fE) : FnOk P w K mg base CX0 7 f fd ["self"] (spAll K C CR) := by
  refine F.ok scAll (fun vs H Q E h => ?_) (fun cdv A outer s H vs Q E hr h => ?_)
  · obtain ⟨y, r, fa, ta, fm, rfl, _⟩ := h
    rfl
  obtain ⟨y, r, fa, ta, fm, rfl, R, hfm, kE, kO⟩ := h
  have hr5 : Room 5 _ := hr.mono (by decide)
  refine ⟨_, pss_cons (ps_set (i := 1) scAll.nd rfl (Or.inl rfl) (pe_meth0 (pv 0) g.cl mA GA hr bA .nil pass0))
    (pss_cons (ps_cut (ps_if (pt_cmpR op_eq (pv 1) (pe_gint rfl g.e0) (nomark _)) (pss_one (ps_set (i := 1) scAll.nd rfl (Or.inl rfl) (pe_meth0 (pv 0) g.cl mB GB hr bB .nil pass0))) pss_nil))
    (pss_cons (ps_cut (ps_if (pt_cmpR op_eq (pv 1) (pe_gint rfl g.e0) (nomark _)) (pss_one (ps_set (i := 1) scAll.nd rfl (Or.inl rfl) (pe_meth0 (pv 0) g.cl mE GE hr5 bE .nil pass0))) pss_nil))
    (pss_one (ps_ret (pv 1))))), ?_⟩
  obtain ⟨dy, oy⟩ := R.ob
  have neg : ∀ k : Nat, 0 < k → decide (V.int (-(k : Int)) = V.int 0) = false := fun k hk => decide_eq_false fun z => by injection z with z; omega
  -- what is wrong already stays
  have stay : ∀ (k : Nat) H', 0 < k → frame 1048576 fm = .error k → ∀ σ' : St, σ' = [some (.ref y), some (.int (-(k : Int)))] → ∃ v, σ'[1]? = some (some v) ∧ Q v H' := fun k H' hk e σ' es => ⟨_, by rw [es]; rfl, kE k H' hk e⟩
  refine ⟨_, rfl, y, dy, _, rfl, oy, noFH _ _ _ _ _, y, r, fa, ta, fm, rfl, R, hfm, fun k H1 e => ?_, fun H1 ln e hm hln R1 => ?_⟩
  · have hk := head_pos e
    have ef : frame 1048576 fm = .error k := by unfold frame; rw [e]
    refine ⟨fun σ' H' => σ' = [some (.ref y), some (.int (-(k : Int)))], ⟨_, rfl, rfl, _, rfl, ite2 (fun c => ?_) (fun _ => rfl)⟩, ?_⟩
    · rw [neg k hk] at c
      cases c
    rintro σ' H2 rfl
    refine ⟨fun σ' H' => σ' = [some (.ref y), some (.int (-(k : Int)))], ⟨_, rfl, rfl, _, rfl, ite2 (fun c => ?_) (fun _ => rfl)⟩, ?_⟩
    · rw [neg k hk] at c
      cases c
    rintro σ' H3 rfl
    exact ⟨_, rfl, kE k H3 hk ef⟩
  have hfr := frame_eq e
  have HI := headIs (fm := fm) hln
  obtain ⟨d1, o1⟩ := R1.ob
  refine ⟨fun σ' H' => (∃ k : Nat, 0 < k ∧ σ' = [some (.ref y), some (.int (-(k : Int)))] ∧ frame 1048576 fm = .error k) ∨ ∃ (t : Bytes) (p : Nat), σ' = [some (.ref y), some (.int 0)] ∧ t.length ≤ 1048576 ∧ Fr K C CR H' y r fa ta fm t p (bat fm 4) (headH fm).most ln ∧ BL (headH fm) 1048576 [] (fm.drop (headN (bat fm 4) + 1)) = .ok (t, fm.drop p),
    ⟨_, rfl, rfl, _, rfl, ite2 (fun _ => ?_) (fun c => absurd rfl c)⟩, ?_⟩
  · refine ⟨_, rfl, y, d1, _, rfl, o1, noFS _ _ _ _ _, y, r, fa, ta, fm, [], _, _, _, _, headH fm, rfl, R1, HI, hm, by simp, hfm, fun k H2 hk e2 => ?_, fun H2 t p e2 ht R2 => ?_⟩
    · exact .inl ⟨k, hk, rfl, by rw [hfr, e2]⟩
    · exact .inr ⟨t, p, rfl, ht, R2, e2⟩
  rintro σ' H2 (⟨k, hk, rfl, ef⟩ | ⟨t, p, rfl, ht, R2, eb⟩)
  · refine ⟨fun σ' H' => σ' = [some (.ref y), some (.int (-(k : Int)))], ⟨_, rfl, rfl, _, rfl, ite2 (fun c => ?_) (fun _ => rfl)⟩, ?_⟩
    · rw [neg k hk] at c
      cases c
    rintro σ' H3 rfl
    exact ⟨_, rfl, kE k H3 hk ef⟩
  obtain ⟨d2, o2⟩ := R2.ob
  rw [eb] at hfr
  have hfr' : frame 1048576 fm = if endK (headH fm) t (fm.drop p) = 0 then .ok t else .error (endK (headH fm) t (fm.drop p)) := hfr
  refine ⟨fun σ' H' => ∃ p', σ' = [some (.ref y), some (.int (-(endK (headH fm) t (fm.drop p) : Nat) : Int))] ∧ Fr K C CR H' y r fa ta fm t p' (bat fm 4) (headH fm).most ln, ⟨_, rfl, rfl, _, rfl, ite2 (fun _ => ?_) (fun c => absurd rfl c)⟩, ?_⟩
  · refine ⟨_, rfl, y, d2, _, rfl, o2, noFE _ _ _ _ _, y, r, fa, ta, fm, t, p, _, _, _, headH fm, rfl, R2, HI, ht, fun H3 p' R3 => ⟨p', rfl, R3⟩⟩
  rintro σ' H3 ⟨p', rfl, R3⟩
  refine ⟨_, rfl, ?_⟩
  by_cases c : endK (headH fm) t (fm.drop p) = 0
  · rw [if_pos c] at hfr'
    rw [c]
    exact kO H3 t p' _ _ _ hfr' ht R3
  · rw [if_neg c] at hfr'
    exact kE _ H3 (Nat.pos_of_ne_zero c) hfr'
end
end FX

/-! ### unpack, and the law -/
namespace Law
open PySem L2 Kg18 MS MB MR MG C
def due (m : Int) (b : Bytes) : List Int := if m < 0 then [-8] else match frame 1048576 b with
  | .error k => [-(k : Int)]
  | .ok t => MU.put m t
def spUp (K : PySem.W.Frag) : Sp := fun vs H Q _ => ∃ (m : Int) (a : Addr) (b : Bytes), vs = [.int m, .ref a] ∧ SqL K H a (bv b) ∧ b.length ≤ 116000 ∧ ∀ (l : Addr) (H' : Hp), H' l = some (.lst ((due m b).map V.int)) → Q (.ref l) H'
section
variable {P : Program} {w : World} {K : PySem.W.Frag} {mg : Str → Option Value} {base : Heap}
theorem scUp : FnScope ["most", "frame", "reader", "wrong"] ["most", "frame"] (defScope s_unpack) := ⟨rfl, rfl, rfl, by decide +kernel, rfl, by decide +kernel, by decide +kernel⟩
theorem ok_up {f fA fI fR C CR q qd : Addr} {fd fdA fdI fdR : FuncData} (F : Fun K "unpack" "unpack" s_unpack f fd) (ga : AN.G mg) (g : FX.G K mg C q qd) (FA : Fun K "answered" "answered" sAns fA fdA) (bA : Binds K fdA ["most", "found"] []) (mA : mg "answered" = some (.ref fA))
    (M : Mk K C fI) (GI : FnOk P w K mg base CX0 3 fI fdI ["self", "frame"] (FX.spInit K C CR)) (bI : Binds K fdI ["self", "frame"] []) (GR : FnOk P w K mg base CX0 7 fR fdR ["self"] (FX.spAll K C CR)) (bR : Binds K fdR ["self"] []) (mR : Meth K C "read_all" fR) : FnOk P w K mg base CX0 8 f fd ["most", "frame"] (spUp K) := by
  have GA : FnOk P w K mg base CX0 1 fA fdA ["most", "found"] AN.spAns := AN.ok_ans FA ga
  refine F.ok scUp (fun vs H Q E h => ?_) (fun cdv Ar outer s H vs Q E hr h => ?_)
  · obtain ⟨m, a, b, rfl, _⟩ := h
    rfl
  obtain ⟨m, a, b, rfl, hS, hmx, k⟩ := h
  have hr1 : Room 1 _ := hr.mono (by decide)
  have hr4 : Room 4 _ := hr.mono (by decide)
  refine ⟨_, pss_cons (ps_if (pt_cmpR op_lt (pv 0) pe_int (nomark _)) (pss_one (ps_ret (pe_lst (pa_cons (pe_gint rfl ga.arg) pa_nil)))) pss_nil)
    (pss_cons (ps_set (i := 2) scUp.nd rfl (Or.inl rfl) (pe_make M GI hr4 rfl g.mgC bI .nil pass0 (pa_cons (pv 1) pa_nil)))
    (pss_cons (ps_set (i := 3) scUp.nd rfl (Or.inl rfl) (pe_meth0 (pv 2) g.cl mR GR hr bR .nil pass0))
    (pss_cons (ps_if (pt_cmpR op_ne (pv 3) (pe_gint rfl g.e0) (nomark _)) (pss_one (ps_ret (pe_lst (pa_cons (pv 3) pa_nil)))) pss_nil)
    (pss_one (ps_ret (pe_call GA hr1 rfl mA FA.kp bA .nil pass0 (pa_cons (pv 0) (pa_cons (pe_fld (pv 2) rfl) pa_nil)))))))), ?_⟩
  refine ⟨_, rfl, _, _, rfl, rfl, _, rfl, ite2 (fun c => ?_) (fun c => ?_)⟩
  · have c' : m < 0 := of_decide_eq_true c
    refine ⟨line (by show 1 ≤ 16777216; decide), fun l hl => k l _ ?_⟩
    unfold due
    rw [upd_same, if_pos c']
    rfl
  have c' : ¬ m < 0 := of_decide_eq_false (Bool.eq_false_iff.mpr c)
  refine ⟨_, rfl, ?_⟩
  intro y dx ny ndx nyd
  have s0 : Same H (upd (upd H dx (.own y)) y (.ins C dx [])) := fun c o e => by
    rw [upd_ne (ne_of_none e ny), upd_ne (ne_of_none e ndx)]
    exact e
  refine ⟨y, dx, a, b, rfl, upd_same, s0.seq hS, fun H1 r ta R1 => ⟨rfl, ?_⟩⟩
  obtain ⟨d1, o1⟩ := R1.ob
  refine ⟨_, rfl, y, d1, _, rfl, o1, FX.noFA _ _ _ _ _, y, r, a, ta, b, rfl, R1, hmx, fun n H2 hn e => ?_, fun H2 t p fl bs ln e ht R2 => ?_⟩
  · refine ⟨_, rfl, rfl, _, rfl, ite2 (fun _ => ?_) (fun c => ?_)⟩
    · refine ⟨_, rfl, line (by show 1 ≤ 16777216; decide), fun l hl => k l _ ?_⟩
      unfold due
      rw [upd_same, if_neg c', e]
      rfl
    · refine absurd ?_ c
      have e2 : ¬ V.int (-(n : Int)) = V.int 0 := fun z => by injection z with z; omega
      rw [decide_eq_false e2]
      rfl
  · refine ⟨_, rfl, rfl, _, rfl, ite2 (fun c => ?_) (fun _ => ?_)⟩
    · rw [decide_eq_true rfl] at c
      cases c
    obtain ⟨d2, o2⟩ := R2.ob
    refine ⟨_, rfl, _, rfl, y, C, d2, _, _, rfl, o2, g.cl, g.nT, FX.ff_text _ _ _ _ _, m, ta, t, rfl, R2.tx, by omega, fun l H3 e3 => k l H3 ?_⟩
    unfold due
    rw [if_neg c', e]
    exact e3
end
theorem walk {q : Program} {loose : List Str} {XP : (Str → Option Value) → Heap → Prop} {YP : World → Heap → Prop} {d : DefRec} {K : Params → PySem.W.Frag} (said : PySem.Challenge.rw_shorttexts_s02_unpack.wellSaid = true) (hdf : d.params.defaults = [])
    (hY : ∀ (w : World) (h : Heap), YP w h → (K w.params).In h)
    (F : ∀ (w : World) (mg : Str → Option Value) (fa : Addr) (h : Heap), (K w.params).In h → h.Ns mainGlobals mg → mg d.name = some (.ref fa) →
      ∃ fd : FuncData, (∀ (s : Shared) (u1 u3 : Value), BindsTo s fd ⟨[u1, u3], []⟩ [("most", u1), ("frame", u3)]) ∧ ∀ base : Heap, (K w.params).In base → base.Ns mainGlobals mg → FnOk PySem.Challenge.pw_shorttexts_s02_unpack w (K w.params) mg base CX0 8 fa fd ["most", "frame"] (spUp (K w.params))) :
    PySem.W.WalkOS q loose XP YP PySem.Challenge.rw_shorttexts_s02_unpack d [] (fun f vs => PySem.call f vs) :=
  Sx.walk2 (n := 116000) (k := 8) (x := "most") (z := "frame") (sp := fun w => spUp (K w.params)) said (by decide) hdf ⟨rfl, by decide, by decide⟩ hY F
    (fun w H a i ns h0 h1 hl hb hask hO hS => by
      have h0' : (-2147483648 : Int) ≤ i := h0
      have h1' : i ≤ 2147483647 := h1
      have e : bv (MU.toB ns) = ns.map V.int := by unfold bv; rw [MU.zs_toB hb]
      refine ⟨i, a, MU.toB ns, rfl, by rw [e]; exact hS, by rw [MU.toB_length]; exact hl, fun l H' z => ⟨l, rfl, ?_⟩⟩
      rw [z, MU.unpack_eq h0' h1' hl]
      rfl)
end Law

namespace Law
open PySem L2 Kg18 C
theorem all_mk {w : World} {K : PySem.W.Frag} {h : Heap} {mg : Str → Option Value} {fa CReader f1 f2 f3 f4 f5 CFrameReader f6 f7 f8 f9 f10 f11 f12 f13 f14 f15 f16 f17 f18 f19 f20 f21 f22 f23 f24 q_FIRST_FOUR q_BLOCK_SIZES : Addr} (X : K.In h) (G : h.Ns mainGlobals mg) (hfa : mg "unpack" = some (.ref fa))
    {od1 an1 od2 an2 od3 an3 od4 an4 od5 an5 od6 an6 od7 an7 od8 an8 od9 an9 od10 an10 od11 an11 od12 an12 od13 an13 od14 an14 od15 an15 od16 an16 od17 an17 od18 an18 od19 an19 od20 an20 od21 an21 od22 an22 od23 an23 od24 an24 od_FIRST_FOUR : Option Addr} {sl1 sl2 sl3 sl4 sl5 sl6 sl7 sl8 sl9 sl10 sl11 sl12 sl13 sl14 sl15 sl16 sl17 sl18 sl19 sl20 sl21 sl22 sl23 sl24 sl_FIRST_FOUR : Array (Option Value)} {oc1 kV1 dc1 pm1 cd1 ct1 oc2 kV2 dc2 pm2 cd2 ct2 oc3 kV3 dc3 pm3 cd3 ct3 oc4 kV4 dc4 pm4 cd4 ct4 oc5 kV5 dc5 pm5 cd5 ct5 oc6 kV6 dc6 pm6 cd6 ct6 oc7 kV7 dc7 pm7 cd7 ct7 oc8 kV8 dc8 pm8 cd8 ct8 oc9 kV9 dc9 pm9 cd9 ct9 oc10 kV10 dc10 pm10 cd10 ct10 oc11 kV11 dc11 pm11 cd11 ct11 oc12 kV12 dc12 pm12 cd12 ct12 oc13 kV13 dc13 pm13 cd13 ct13 oc14 kV14 dc14 pm14 cd14 ct14 oc15 kV15 dc15 pm15 cd15 ct15 oc16 kV16 dc16 pm16 cd16 ct16 oc17 kV17 dc17 pm17 cd17 ct17 oc18 kV18 dc18 pm18 cd18 ct18 oc19 kV19 dc19 pm19 cd19 ct19 oc20 kV20 dc20 pm20 cd20 ct20 oc21 kV21 dc21 pm21 cd21 ct21 oc22 kV22 dc22 pm22 cd22 ct22 oc23 kV23 dc23 pm23 cd23 ct23 oc24 kV24 dc24 pm24 cd24 ct24 : Value} {t_MODULUS t_PRIME_1 t_PRIME_2 t_PRIME_3 t_PRIME_4 t_PRIME_5 t_NOTHING_WRONG t_NO_WHOLE_HEAD t_WRONG_HEAD t_WRONG_SUM t_WRONG_BLOCKS t_WRONG_PARTS t_TEXT_TOO_LONG t_TOO_LONG t_WRONG_ARGUMENT t_WRONG_LENGTH t_LONGEST_TEXT t_SHORTEST_MATCH t_STANDS_FOR_ITSELF t_SHORTEST_HEAD t_HEAD_FIXED_BITS t_HEAD_VERSION t_HEAD_ALONE t_HEAD_BLOCK_SUMS t_HEAD_LENGTH t_HEAD_TEXT_SUM t_FIRST_FOUR0 t_FIRST_FOUR1 t_FIRST_FOUR2 t_FIRST_FOUR3 t_BLOCK_SIZES0 t_BLOCK_SIZES1 t_BLOCK_SIZES2 t_BLOCK_SIZES3 u_BLOCK_SIZES0 u_BLOCK_SIZES1 u_BLOCK_SIZES2 u_BLOCK_SIZES3 : Tok} {n_FIRST_FOUR n_BLOCK_SIZES : Nat}
    (aCReader : PySem.W.nsIn K mainGlobals "Reader" = some (some (.ref CReader)))
    (a1 : PySem.W.findIn K (.ref CReader) "__init__" = some (some (.ref f1))) (i1 : PySem.W.isFn K (.ref f1) = true)
    (l1 : K.lookup f1 = some ⟨oc1, od1, .func (PySem.W.fnOf "__init__" "Reader.__init__" (defArgs sReader_init) (defBody sReader_init) (defScope sReader_init) .none kV1 dc1 pm1 an1 cd1 ct1), sl1⟩) (c1 : PySem.W.codeIn K cd1 "Reader.__init__" = true) (k1 : PySem.W.keepIn K (.ref f1) = true)
    (a2 : PySem.W.findIn K (.ref CReader) "left" = some (some (.ref f2))) (i2 : PySem.W.isFn K (.ref f2) = true)
    (l2 : K.lookup f2 = some ⟨oc2, od2, .func (PySem.W.fnOf "left" "Reader.left" (defArgs sReader_left) (defBody sReader_left) (defScope sReader_left) .none kV2 dc2 pm2 an2 cd2 ct2), sl2⟩) (c2 : PySem.W.codeIn K cd2 "Reader.left" = true) (k2 : PySem.W.keepIn K (.ref f2) = true)
    (a3 : PySem.W.findIn K (.ref CReader) "taken" = some (some (.ref f3))) (i3 : PySem.W.isFn K (.ref f3) = true)
    (l3 : K.lookup f3 = some ⟨oc3, od3, .func (PySem.W.fnOf "taken" "Reader.taken" (defArgs sReader_taken) (defBody sReader_taken) (defScope sReader_taken) .none kV3 dc3 pm3 an3 cd3 ct3), sl3⟩) (c3 : PySem.W.codeIn K cd3 "Reader.taken" = true) (k3 : PySem.W.keepIn K (.ref f3) = true)
    (a4 : PySem.W.findIn K (.ref CReader) "number" = some (some (.ref f4))) (i4 : PySem.W.isFn K (.ref f4) = true)
    (l4 : K.lookup f4 = some ⟨oc4, od4, .func (PySem.W.fnOf "number" "Reader.number" (defArgs sReader_number) (defBody sReader_number) (defScope sReader_number) .none kV4 dc4 pm4 an4 cd4 ct4), sl4⟩) (c4 : PySem.W.codeIn K cd4 "Reader.number" = true) (k4 : PySem.W.keepIn K (.ref f4) = true)
    (a5 : PySem.W.findIn K (.ref CReader) "carried" = some (some (.ref f5))) (i5 : PySem.W.isFn K (.ref f5) = true)
    (l5 : K.lookup f5 = some ⟨oc5, od5, .func (PySem.W.fnOf "carried" "Reader.carried" (defArgs sReader_carried) (defBody sReader_carried) (defScope sReader_carried) .none kV5 dc5 pm5 an5 cd5 ct5), sl5⟩) (c5 : PySem.W.codeIn K cd5 "Reader.carried" = true) (k5 : PySem.W.keepIn K (.ref f5) = true)
    (pgReader : PySem.W.plainGet K CReader Str.empty = true) (hdReader : PySem.W.hasDictIn K CReader = true) (poReader : PySem.W.plainOver K CReader = true) (saReader : PySem.W.findIn K (.ref CReader) "__setattr__" = some (some (.builtin "object.__setattr__"))) (mkReader : PySem.W.makesIn K CReader = true) (kcReader : PySem.W.keepIn K (.ref CReader) = true)
    (nReader_place : PySem.W.findIn K (.ref CReader) "place" = some none)
    (nReader_source : PySem.W.findIn K (.ref CReader) "source" = some none)
    (aCFrameReader : PySem.W.nsIn K mainGlobals "FrameReader" = some (some (.ref CFrameReader)))
    (a6 : PySem.W.findIn K (.ref CFrameReader) "__init__" = some (some (.ref f6))) (i6 : PySem.W.isFn K (.ref f6) = true)
    (l6 : K.lookup f6 = some ⟨oc6, od6, .func (PySem.W.fnOf "__init__" "FrameReader.__init__" (defArgs sFrameReader_init) (defBody sFrameReader_init) (defScope sFrameReader_init) .none kV6 dc6 pm6 an6 cd6 ct6), sl6⟩) (c6 : PySem.W.codeIn K cd6 "FrameReader.__init__" = true) (k6 : PySem.W.keepIn K (.ref f6) = true)
    (a7 : PySem.W.findIn K (.ref CFrameReader) "says" = some (some (.ref f7))) (i7 : PySem.W.isFn K (.ref f7) = true)
    (l7 : K.lookup f7 = some ⟨oc7, od7, .func (PySem.W.fnOf "says" "FrameReader.says" (defArgs sFrameReader_says) (defBody sFrameReader_says) (defScope sFrameReader_says) .none kV7 dc7 pm7 an7 cd7 ct7), sl7⟩) (c7 : PySem.W.codeIn K cd7 "FrameReader.says" = true) (k7 : PySem.W.keepIn K (.ref f7) = true)
    (a8 : PySem.W.findIn K (.ref CFrameReader) "read_head" = some (some (.ref f8))) (i8 : PySem.W.isFn K (.ref f8) = true)
    (l8 : K.lookup f8 = some ⟨oc8, od8, .func (PySem.W.fnOf "read_head" "FrameReader.read_head" (defArgs sFrameReader_read_head) (defBody sFrameReader_read_head) (defScope sFrameReader_read_head) .none kV8 dc8 pm8 an8 cd8 ct8), sl8⟩) (c8 : PySem.W.codeIn K cd8 "FrameReader.read_head" = true) (k8 : PySem.W.keepIn K (.ref f8) = true)
    (a9 : PySem.W.findIn K (.ref CFrameReader) "read_block" = some (some (.ref f9))) (i9 : PySem.W.isFn K (.ref f9) = true)
    (l9 : K.lookup f9 = some ⟨oc9, od9, .func (PySem.W.fnOf "read_block" "FrameReader.read_block" (defArgs sFrameReader_read_block) (defBody sFrameReader_read_block) (defScope sFrameReader_read_block) .none kV9 dc9 pm9 an9 cd9 ct9), sl9⟩) (c9 : PySem.W.codeIn K cd9 "FrameReader.read_block" = true) (k9 : PySem.W.keepIn K (.ref f9) = true)
    (a10 : PySem.W.findIn K (.ref CFrameReader) "read_blocks" = some (some (.ref f10))) (i10 : PySem.W.isFn K (.ref f10) = true)
    (l10 : K.lookup f10 = some ⟨oc10, od10, .func (PySem.W.fnOf "read_blocks" "FrameReader.read_blocks" (defArgs sFrameReader_read_blocks) (defBody sFrameReader_read_blocks) (defScope sFrameReader_read_blocks) .none kV10 dc10 pm10 an10 cd10 ct10), sl10⟩) (c10 : PySem.W.codeIn K cd10 "FrameReader.read_blocks" = true) (k10 : PySem.W.keepIn K (.ref f10) = true)
    (a11 : PySem.W.findIn K (.ref CFrameReader) "read_end" = some (some (.ref f11))) (i11 : PySem.W.isFn K (.ref f11) = true)
    (l11 : K.lookup f11 = some ⟨oc11, od11, .func (PySem.W.fnOf "read_end" "FrameReader.read_end" (defArgs sFrameReader_read_end) (defBody sFrameReader_read_end) (defScope sFrameReader_read_end) .none kV11 dc11 pm11 an11 cd11 ct11), sl11⟩) (c11 : PySem.W.codeIn K cd11 "FrameReader.read_end" = true) (k11 : PySem.W.keepIn K (.ref f11) = true)
    (a12 : PySem.W.findIn K (.ref CFrameReader) "read_all" = some (some (.ref f12))) (i12 : PySem.W.isFn K (.ref f12) = true)
    (l12 : K.lookup f12 = some ⟨oc12, od12, .func (PySem.W.fnOf "read_all" "FrameReader.read_all" (defArgs sFrameReader_read_all) (defBody sFrameReader_read_all) (defScope sFrameReader_read_all) .none kV12 dc12 pm12 an12 cd12 ct12), sl12⟩) (c12 : PySem.W.codeIn K cd12 "FrameReader.read_all" = true) (k12 : PySem.W.keepIn K (.ref f12) = true)
    (pgFrameReader : PySem.W.plainGet K CFrameReader Str.empty = true) (hdFrameReader : PySem.W.hasDictIn K CFrameReader = true) (poFrameReader : PySem.W.plainOver K CFrameReader = true) (saFrameReader : PySem.W.findIn K (.ref CFrameReader) "__setattr__" = some (some (.builtin "object.__setattr__"))) (mkFrameReader : PySem.W.makesIn K CFrameReader = true) (kcFrameReader : PySem.W.keepIn K (.ref CFrameReader) = true)
    (nFrameReader_block_size : PySem.W.findIn K (.ref CFrameReader) "block_size" = some none)
    (nFrameReader_flags : PySem.W.findIn K (.ref CFrameReader) "flags" = some none)
    (nFrameReader_length : PySem.W.findIn K (.ref CFrameReader) "length" = some none)
    (nFrameReader_reader : PySem.W.findIn K (.ref CFrameReader) "reader" = some none)
    (nFrameReader_text : PySem.W.findIn K (.ref CFrameReader) "text" = some none)
    (a13 : PySem.W.nsIn K mainGlobals "low_first" = some (some (.ref f13)))
    (l13 : K.lookup f13 = some ⟨oc13, od13, .func (PySem.W.fnOf "low_first" "low_first" (defArgs sLow) (defBody sLow) (defScope sLow) .none kV13 dc13 pm13 an13 cd13 ct13), sl13⟩) (c13 : PySem.W.codeIn K cd13 "low_first" = true) (k13 : PySem.W.keepIn K (.ref f13) = true)
    (a14 : PySem.W.nsIn K mainGlobals "four_bytes_at" = some (some (.ref f14)))
    (l14 : K.lookup f14 = some ⟨oc14, od14, .func (PySem.W.fnOf "four_bytes_at" "four_bytes_at" (defArgs sFour) (defBody sFour) (defScope sFour) .none kV14 dc14 pm14 an14 cd14 ct14), sl14⟩) (c14 : PySem.W.codeIn K cd14 "four_bytes_at" = true) (k14 : PySem.W.keepIn K (.ref f14) = true)
    (a15 : PySem.W.nsIn K mainGlobals "turned_left" = some (some (.ref f15)))
    (l15 : K.lookup f15 = some ⟨oc15, od15, .func (PySem.W.fnOf "turned_left" "turned_left" (defArgs sTurn) (defBody sTurn) (defScope sTurn) .none kV15 dc15 pm15 an15 cd15 ct15), sl15⟩) (c15 : PySem.W.codeIn K cd15 "turned_left" = true) (k15 : PySem.W.keepIn K (.ref f15) = true)
    (a16 : PySem.W.nsIn K mainGlobals "mixed" = some (some (.ref f16)))
    (l16 : K.lookup f16 = some ⟨oc16, od16, .func (PySem.W.fnOf "mixed" "mixed" (defArgs sMix) (defBody sMix) (defScope sMix) .none kV16 dc16 pm16 an16 cd16 ct16), sl16⟩) (c16 : PySem.W.codeIn K cd16 "mixed" = true) (k16 : PySem.W.keepIn K (.ref f16) = true)
    (a17 : PySem.W.nsIn K mainGlobals "sum_of_sixteens" = some (some (.ref f17)))
    (l17 : K.lookup f17 = some ⟨oc17, od17, .func (PySem.W.fnOf "sum_of_sixteens" "sum_of_sixteens" (defArgs sSix) (defBody sSix) (defScope sSix) .none kV17 dc17 pm17 an17 cd17 ct17), sl17⟩) (c17 : PySem.W.codeIn K cd17 "sum_of_sixteens" = true) (k17 : PySem.W.keepIn K (.ref f17) = true)
    (a18 : PySem.W.nsIn K mainGlobals "with_bytes_left" = some (some (.ref f18)))
    (l18 : K.lookup f18 = some ⟨oc18, od18, .func (PySem.W.fnOf "with_bytes_left" "with_bytes_left" (defArgs sLeft) (defBody sLeft) (defScope sLeft) .none kV18 dc18 pm18 an18 cd18 ct18), sl18⟩) (c18 : PySem.W.codeIn K cd18 "with_bytes_left" = true) (k18 : PySem.W.keepIn K (.ref f18) = true)
    (a19 : PySem.W.nsIn K mainGlobals "text_sum" = some (some (.ref f19)))
    (l19 : K.lookup f19 = some ⟨oc19, od19, .func (PySem.W.fnOf "text_sum" "text_sum" (defArgs sSum) (defBody sSum) (defScope sSum) .none kV19 dc19 pm19 an19 cd19 ct19), sl19⟩) (c19 : PySem.W.codeIn K cd19 "text_sum" = true) (k19 : PySem.W.keepIn K (.ref f19) = true)
    (a20 : PySem.W.nsIn K mainGlobals "head_sum" = some (some (.ref f20)))
    (l20 : K.lookup f20 = some ⟨oc20, od20, .func (PySem.W.fnOf "head_sum" "head_sum" (defArgs s_head_sum) (defBody s_head_sum) (defScope s_head_sum) .none kV20 dc20 pm20 an20 cd20 ct20), sl20⟩) (c20 : PySem.W.codeIn K cd20 "head_sum" = true) (k20 : PySem.W.keepIn K (.ref f20) = true)
    (a21 : PySem.W.nsIn K mainGlobals "matched_bytes" = some (some (.ref f21)))
    (l21 : K.lookup f21 = some ⟨oc21, od21, .func (PySem.W.fnOf "matched_bytes" "matched_bytes" (defArgs s_matched_bytes) (defBody s_matched_bytes) (defScope s_matched_bytes) .none kV21 dc21 pm21 an21 cd21 ct21), sl21⟩) (c21 : PySem.W.codeIn K cd21 "matched_bytes" = true) (k21 : PySem.W.keepIn K (.ref f21) = true)
    (a22 : PySem.W.nsIn K mainGlobals "unpack_parts" = some (some (.ref f22)))
    (l22 : K.lookup f22 = some ⟨oc22, od22, .func (PySem.W.fnOf "unpack_parts" "unpack_parts" (defArgs s_unpack_parts) (defBody s_unpack_parts) (defScope s_unpack_parts) .none kV22 dc22 pm22 an22 cd22 ct22), sl22⟩) (c22 : PySem.W.codeIn K cd22 "unpack_parts" = true) (k22 : PySem.W.keepIn K (.ref f22) = true)
    (a23 : PySem.W.nsIn K mainGlobals "answered" = some (some (.ref f23)))
    (l23 : K.lookup f23 = some ⟨oc23, od23, .func (PySem.W.fnOf "answered" "answered" (defArgs sAns) (defBody sAns) (defScope sAns) .none kV23 dc23 pm23 an23 cd23 ct23), sl23⟩) (c23 : PySem.W.codeIn K cd23 "answered" = true) (k23 : PySem.W.keepIn K (.ref f23) = true)
    (a24 : PySem.W.nsIn K mainGlobals "unpack" = some (some (.ref f24)))
    (l24 : K.lookup f24 = some ⟨oc24, od24, .func (PySem.W.fnOf "unpack" "unpack" (defArgs s_unpack) (defBody s_unpack) (defScope s_unpack) .none kV24 dc24 pm24 an24 cd24 ct24), sl24⟩) (c24 : PySem.W.codeIn K cd24 "unpack" = true) (k24 : PySem.W.keepIn K (.ref f24) = true)
    (z_MODULUS : PySem.W.nsIn K mainGlobals "MODULUS" = some (some (.int 4294967296 t_MODULUS)))
    (z_PRIME_1 : PySem.W.nsIn K mainGlobals "PRIME_1" = some (some (.int 2654435761 t_PRIME_1)))
    (z_PRIME_2 : PySem.W.nsIn K mainGlobals "PRIME_2" = some (some (.int 2246822519 t_PRIME_2)))
    (z_PRIME_3 : PySem.W.nsIn K mainGlobals "PRIME_3" = some (some (.int 3266489917 t_PRIME_3)))
    (z_PRIME_4 : PySem.W.nsIn K mainGlobals "PRIME_4" = some (some (.int 668265263 t_PRIME_4)))
    (z_PRIME_5 : PySem.W.nsIn K mainGlobals "PRIME_5" = some (some (.int 374761393 t_PRIME_5)))
    (z_NOTHING_WRONG : PySem.W.nsIn K mainGlobals "NOTHING_WRONG" = some (some (.int 0 t_NOTHING_WRONG)))
    (z_NO_WHOLE_HEAD : PySem.W.nsIn K mainGlobals "NO_WHOLE_HEAD" = some (some (.int (-1) t_NO_WHOLE_HEAD)))
    (z_WRONG_HEAD : PySem.W.nsIn K mainGlobals "WRONG_HEAD" = some (some (.int (-2) t_WRONG_HEAD)))
    (z_WRONG_SUM : PySem.W.nsIn K mainGlobals "WRONG_SUM" = some (some (.int (-3) t_WRONG_SUM)))
    (z_WRONG_BLOCKS : PySem.W.nsIn K mainGlobals "WRONG_BLOCKS" = some (some (.int (-4) t_WRONG_BLOCKS)))
    (z_WRONG_PARTS : PySem.W.nsIn K mainGlobals "WRONG_PARTS" = some (some (.int (-5) t_WRONG_PARTS)))
    (z_TEXT_TOO_LONG : PySem.W.nsIn K mainGlobals "TEXT_TOO_LONG" = some (some (.int (-6) t_TEXT_TOO_LONG)))
    (z_TOO_LONG : PySem.W.nsIn K mainGlobals "TOO_LONG" = some (some (.int (-7) t_TOO_LONG)))
    (z_WRONG_ARGUMENT : PySem.W.nsIn K mainGlobals "WRONG_ARGUMENT" = some (some (.int (-8) t_WRONG_ARGUMENT)))
    (z_WRONG_LENGTH : PySem.W.nsIn K mainGlobals "WRONG_LENGTH" = some (some (.int (-9) t_WRONG_LENGTH)))
    (z_LONGEST_TEXT : PySem.W.nsIn K mainGlobals "LONGEST_TEXT" = some (some (.int 1048576 t_LONGEST_TEXT)))
    (z_SHORTEST_MATCH : PySem.W.nsIn K mainGlobals "SHORTEST_MATCH" = some (some (.int 4 t_SHORTEST_MATCH)))
    (z_STANDS_FOR_ITSELF : PySem.W.nsIn K mainGlobals "STANDS_FOR_ITSELF" = some (some (.int 2147483648 t_STANDS_FOR_ITSELF)))
    (z_SHORTEST_HEAD : PySem.W.nsIn K mainGlobals "SHORTEST_HEAD" = some (some (.int 7 t_SHORTEST_HEAD)))
    (z_HEAD_FIXED_BITS : PySem.W.nsIn K mainGlobals "HEAD_FIXED_BITS" = some (some (.int 195 t_HEAD_FIXED_BITS)))
    (z_HEAD_VERSION : PySem.W.nsIn K mainGlobals "HEAD_VERSION" = some (some (.int 64 t_HEAD_VERSION)))
    (z_HEAD_ALONE : PySem.W.nsIn K mainGlobals "HEAD_ALONE" = some (some (.int 32 t_HEAD_ALONE)))
    (z_HEAD_BLOCK_SUMS : PySem.W.nsIn K mainGlobals "HEAD_BLOCK_SUMS" = some (some (.int 16 t_HEAD_BLOCK_SUMS)))
    (z_HEAD_LENGTH : PySem.W.nsIn K mainGlobals "HEAD_LENGTH" = some (some (.int 8 t_HEAD_LENGTH)))
    (z_HEAD_TEXT_SUM : PySem.W.nsIn K mainGlobals "HEAD_TEXT_SUM" = some (some (.int 4 t_HEAD_TEXT_SUM)))
    (z_FIRST_FOUR : PySem.W.nsIn K mainGlobals "FIRST_FOUR" = some (some (.ref q_FIRST_FOUR))) (y_FIRST_FOUR : K.lookup q_FIRST_FOUR = some ⟨.type "tuple", od_FIRST_FOUR, .seq #[.int 4 t_FIRST_FOUR0, .int 34 t_FIRST_FOUR1, .int 77 t_FIRST_FOUR2, .int 24 t_FIRST_FOUR3] n_FIRST_FOUR, sl_FIRST_FOUR⟩)
    (z_BLOCK_SIZES : PySem.W.nsIn K mainGlobals "BLOCK_SIZES" = some (some (.ref q_BLOCK_SIZES))) (s_BLOCK_SIZES : (q_BLOCK_SIZES == sysModules) = false) (y_BLOCK_SIZES : K.lookup q_BLOCK_SIZES = some ⟨.type "dict", none, .dict #[⟨64, .int 64 t_BLOCK_SIZES0, .int 65536 u_BLOCK_SIZES0⟩, ⟨80, .int 80 t_BLOCK_SIZES1, .int 262144 u_BLOCK_SIZES1⟩, ⟨96, .int 96 t_BLOCK_SIZES2, .int 1048576 u_BLOCK_SIZES2⟩, ⟨112, .int 112 t_BLOCK_SIZES3, .int 4194304 u_BLOCK_SIZES3⟩] n_BLOCK_SIZES, #[]⟩)
    (zb_len : PySem.W.nsIn K mainGlobals "len" = some none)
    (zb_range : PySem.W.nsIn K mainGlobals "range" = some none)
    (zb_reversed : PySem.W.nsIn K mainGlobals "reversed" = some none)
    (zb_list : PySem.W.nsIn K mainGlobals "list" = some none)
    : ∃ fd : FuncData, (∀ (s : Shared) (u0 u1 : Value), BindsTo s fd ⟨[u0, u1], []⟩ [("most", u0), ("frame", u1)]) ∧ ∀ base : Heap, K.In base → base.Ns mainGlobals mg → FnOk PySem.Challenge.pw_shorttexts_s02_unpack w K mg base CX0 8 fa fd ["most", "frame"] (spUp K) := by
  have e := hfa.symm.trans (PySem.W.mg_of X G a24)
  cases e
  have F_Reader_init := fun_mk (st := sReader_init) l1 c1 k1
  have b_Reader_init := F_Reader_init.binds (ps := ["self", "source"]) fun _ _ _ _ _ _ us hl => match us, hl with | [_, _], _ => rfl
  have m_Reader_init : Meth K CReader "__init__" f1 := ⟨a1, i1, k1⟩
  have F_Reader_left := fun_mk (st := sReader_left) l2 c2 k2
  have b_Reader_left := F_Reader_left.binds (ps := ["self"]) fun _ _ _ _ _ _ us hl => match us, hl with | [_], _ => rfl
  have m_Reader_left : Meth K CReader "left" f2 := ⟨a2, i2, k2⟩
  have F_Reader_taken := fun_mk (st := sReader_taken) l3 c3 k3
  have b_Reader_taken := F_Reader_taken.binds (ps := ["self", "count"]) fun _ _ _ _ _ _ us hl => match us, hl with | [_, _], _ => rfl
  have m_Reader_taken : Meth K CReader "taken" f3 := ⟨a3, i3, k3⟩
  have F_Reader_number := fun_mk (st := sReader_number) l4 c4 k4
  have b_Reader_number := F_Reader_number.binds (ps := ["self", "count"]) fun _ _ _ _ _ _ us hl => match us, hl with | [_, _], _ => rfl
  have m_Reader_number : Meth K CReader "number" f4 := ⟨a4, i4, k4⟩
  have F_Reader_carried := fun_mk (st := sReader_carried) l5 c5 k5
  have b_Reader_carried := F_Reader_carried.binds (ps := ["self", "half"]) fun _ _ _ _ _ _ us hl => match us, hl with | [_, _], _ => rfl
  have m_Reader_carried : Meth K CReader "carried" f5 := ⟨a5, i5, k5⟩
  have clReader : Cls K CReader := ⟨pgReader, hdReader, poReader, saReader⟩
  have mk_Reader : Mk K CReader f1 := ⟨mkReader, a1, i1, kcReader⟩
  have mg_Reader := PySem.W.mg_of X G aCReader
  have F_FrameReader_init := fun_mk (st := sFrameReader_init) l6 c6 k6
  have b_FrameReader_init := F_FrameReader_init.binds (ps := ["self", "frame"]) fun _ _ _ _ _ _ us hl => match us, hl with | [_, _], _ => rfl
  have m_FrameReader_init : Meth K CFrameReader "__init__" f6 := ⟨a6, i6, k6⟩
  have F_FrameReader_says := fun_mk (st := sFrameReader_says) l7 c7 k7
  have b_FrameReader_says := F_FrameReader_says.binds (ps := ["self", "flag"]) fun _ _ _ _ _ _ us hl => match us, hl with | [_, _], _ => rfl
  have m_FrameReader_says : Meth K CFrameReader "says" f7 := ⟨a7, i7, k7⟩
  have F_FrameReader_read_head := fun_mk (st := sFrameReader_read_head) l8 c8 k8
  have b_FrameReader_read_head := F_FrameReader_read_head.binds (ps := ["self"]) fun _ _ _ _ _ _ us hl => match us, hl with | [_], _ => rfl
  have m_FrameReader_read_head : Meth K CFrameReader "read_head" f8 := ⟨a8, i8, k8⟩
  have F_FrameReader_read_block := fun_mk (st := sFrameReader_read_block) l9 c9 k9
  have b_FrameReader_read_block := F_FrameReader_read_block.binds (ps := ["self", "told"]) fun _ _ _ _ _ _ us hl => match us, hl with | [_, _], _ => rfl
  have m_FrameReader_read_block : Meth K CFrameReader "read_block" f9 := ⟨a9, i9, k9⟩
  have F_FrameReader_read_blocks := fun_mk (st := sFrameReader_read_blocks) l10 c10 k10
  have b_FrameReader_read_blocks := F_FrameReader_read_blocks.binds (ps := ["self"]) fun _ _ _ _ _ _ us hl => match us, hl with | [_], _ => rfl
  have m_FrameReader_read_blocks : Meth K CFrameReader "read_blocks" f10 := ⟨a10, i10, k10⟩
  have F_FrameReader_read_end := fun_mk (st := sFrameReader_read_end) l11 c11 k11
  have b_FrameReader_read_end := F_FrameReader_read_end.binds (ps := ["self"]) fun _ _ _ _ _ _ us hl => match us, hl with | [_], _ => rfl
  have m_FrameReader_read_end : Meth K CFrameReader "read_end" f11 := ⟨a11, i11, k11⟩
  have F_FrameReader_read_all := fun_mk (st := sFrameReader_read_all) l12 c12 k12
  have b_FrameReader_read_all := F_FrameReader_read_all.binds (ps := ["self"]) fun _ _ _ _ _ _ us hl => match us, hl with | [_], _ => rfl
  have m_FrameReader_read_all : Meth K CFrameReader "read_all" f12 := ⟨a12, i12, k12⟩
  have clFrameReader : Cls K CFrameReader := ⟨pgFrameReader, hdFrameReader, poFrameReader, saFrameReader⟩
  have mk_FrameReader : Mk K CFrameReader f6 := ⟨mkFrameReader, a6, i6, kcFrameReader⟩
  have mg_FrameReader := PySem.W.mg_of X G aCFrameReader
  have F_low_first := fun_mk (st := sLow) l13 c13 k13
  have b_low_first := F_low_first.binds (ps := ["number", "count"]) fun _ _ _ _ _ _ us hl => match us, hl with | [_, _], _ => rfl
  have m_low_first := PySem.W.mg_of X G a13
  have F_four_bytes_at := fun_mk (st := sFour) l14 c14 k14
  have b_four_bytes_at := F_four_bytes_at.binds (ps := ["text", "place"]) fun _ _ _ _ _ _ us hl => match us, hl with | [_, _], _ => rfl
  have m_four_bytes_at := PySem.W.mg_of X G a14
  have F_turned_left := fun_mk (st := sTurn) l15 c15 k15
  have b_turned_left := F_turned_left.binds (ps := ["number", "count"]) fun _ _ _ _ _ _ us hl => match us, hl with | [_, _], _ => rfl
  have m_turned_left := PySem.W.mg_of X G a15
  have F_mixed := fun_mk (st := sMix) l16 c16 k16
  have b_mixed := F_mixed.binds (ps := ["total", "added", "turn", "factor"]) fun _ _ _ _ _ _ us hl => match us, hl with | [_, _, _, _], _ => rfl
  have m_mixed := PySem.W.mg_of X G a16
  have F_sum_of_sixteens := fun_mk (st := sSix) l17 c17 k17
  have b_sum_of_sixteens := F_sum_of_sixteens.binds (ps := ["seed", "text"]) fun _ _ _ _ _ _ us hl => match us, hl with | [_, _], _ => rfl
  have m_sum_of_sixteens := PySem.W.mg_of X G a17
  have F_with_bytes_left := fun_mk (st := sLeft) l18 c18 k18
  have b_with_bytes_left := F_with_bytes_left.binds (ps := ["total", "text"]) fun _ _ _ _ _ _ us hl => match us, hl with | [_, _], _ => rfl
  have m_with_bytes_left := PySem.W.mg_of X G a18
  have F_text_sum := fun_mk (st := sSum) l19 c19 k19
  have b_text_sum := F_text_sum.binds (ps := ["seed", "text"]) fun _ _ _ _ _ _ us hl => match us, hl with | [_, _], _ => rfl
  have m_text_sum := PySem.W.mg_of X G a19
  have F_head_sum := fun_mk (st := s_head_sum) l20 c20 k20
  have b_head_sum := F_head_sum.binds (ps := ["summed"]) fun _ _ _ _ _ _ us hl => match us, hl with | [_], _ => rfl
  have m_head_sum := PySem.W.mg_of X G a20
  have F_matched_bytes := fun_mk (st := s_matched_bytes) l21 c21 k21
  have b_matched_bytes := F_matched_bytes.binds (ps := ["text", "back", "length"]) fun _ _ _ _ _ _ us hl => match us, hl with | [_, _, _], _ => rfl
  have m_matched_bytes := PySem.W.mg_of X G a21
  have F_unpack_parts := fun_mk (st := s_unpack_parts) l22 c22 k22
  have b_unpack_parts := F_unpack_parts.binds (ps := ["block", "text", "first", "most"]) fun _ _ _ _ _ _ us hl => match us, hl with | [_, _, _, _], _ => rfl
  have m_unpack_parts := PySem.W.mg_of X G a22
  have F_answered := fun_mk (st := sAns) l23 c23 k23
  have b_answered := F_answered.binds (ps := ["most", "found"]) fun _ _ _ _ _ _ us hl => match us, hl with | [_, _], _ => rfl
  have m_answered := PySem.W.mg_of X G a23
  have F_unpack := fun_mk (st := s_unpack) l24 c24 k24
  have b_unpack := F_unpack.binds (ps := ["most", "frame"]) fun _ _ _ _ _ _ us hl => match us, hl with | [_, _], _ => rfl
  have m_unpack := PySem.W.mg_of X G a24
  have g_MODULUS : GInt mg "MODULUS" 4294967296 := ⟨_, PySem.W.mg_of X G z_MODULUS⟩
  have g_PRIME_1 : GInt mg "PRIME_1" 2654435761 := ⟨_, PySem.W.mg_of X G z_PRIME_1⟩
  have g_PRIME_2 : GInt mg "PRIME_2" 2246822519 := ⟨_, PySem.W.mg_of X G z_PRIME_2⟩
  have g_PRIME_3 : GInt mg "PRIME_3" 3266489917 := ⟨_, PySem.W.mg_of X G z_PRIME_3⟩
  have g_PRIME_4 : GInt mg "PRIME_4" 668265263 := ⟨_, PySem.W.mg_of X G z_PRIME_4⟩
  have g_PRIME_5 : GInt mg "PRIME_5" 374761393 := ⟨_, PySem.W.mg_of X G z_PRIME_5⟩
  have g_NOTHING_WRONG : GInt mg "NOTHING_WRONG" 0 := ⟨_, PySem.W.mg_of X G z_NOTHING_WRONG⟩
  have g_NO_WHOLE_HEAD : GInt mg "NO_WHOLE_HEAD" (-1) := ⟨_, PySem.W.mg_of X G z_NO_WHOLE_HEAD⟩
  have g_WRONG_HEAD : GInt mg "WRONG_HEAD" (-2) := ⟨_, PySem.W.mg_of X G z_WRONG_HEAD⟩
  have g_WRONG_SUM : GInt mg "WRONG_SUM" (-3) := ⟨_, PySem.W.mg_of X G z_WRONG_SUM⟩
  have g_WRONG_BLOCKS : GInt mg "WRONG_BLOCKS" (-4) := ⟨_, PySem.W.mg_of X G z_WRONG_BLOCKS⟩
  have g_WRONG_PARTS : GInt mg "WRONG_PARTS" (-5) := ⟨_, PySem.W.mg_of X G z_WRONG_PARTS⟩
  have g_TEXT_TOO_LONG : GInt mg "TEXT_TOO_LONG" (-6) := ⟨_, PySem.W.mg_of X G z_TEXT_TOO_LONG⟩
  have g_TOO_LONG : GInt mg "TOO_LONG" (-7) := ⟨_, PySem.W.mg_of X G z_TOO_LONG⟩
  have g_WRONG_ARGUMENT : GInt mg "WRONG_ARGUMENT" (-8) := ⟨_, PySem.W.mg_of X G z_WRONG_ARGUMENT⟩
  have g_WRONG_LENGTH : GInt mg "WRONG_LENGTH" (-9) := ⟨_, PySem.W.mg_of X G z_WRONG_LENGTH⟩
  have g_LONGEST_TEXT : GInt mg "LONGEST_TEXT" 1048576 := ⟨_, PySem.W.mg_of X G z_LONGEST_TEXT⟩
  have g_SHORTEST_MATCH : GInt mg "SHORTEST_MATCH" 4 := ⟨_, PySem.W.mg_of X G z_SHORTEST_MATCH⟩
  have g_STANDS_FOR_ITSELF : GInt mg "STANDS_FOR_ITSELF" 2147483648 := ⟨_, PySem.W.mg_of X G z_STANDS_FOR_ITSELF⟩
  have g_SHORTEST_HEAD : GInt mg "SHORTEST_HEAD" 7 := ⟨_, PySem.W.mg_of X G z_SHORTEST_HEAD⟩
  have g_HEAD_FIXED_BITS : GInt mg "HEAD_FIXED_BITS" 195 := ⟨_, PySem.W.mg_of X G z_HEAD_FIXED_BITS⟩
  have g_HEAD_VERSION : GInt mg "HEAD_VERSION" 64 := ⟨_, PySem.W.mg_of X G z_HEAD_VERSION⟩
  have g_HEAD_ALONE : GInt mg "HEAD_ALONE" 32 := ⟨_, PySem.W.mg_of X G z_HEAD_ALONE⟩
  have g_HEAD_BLOCK_SUMS : GInt mg "HEAD_BLOCK_SUMS" 16 := ⟨_, PySem.W.mg_of X G z_HEAD_BLOCK_SUMS⟩
  have g_HEAD_LENGTH : GInt mg "HEAD_LENGTH" 8 := ⟨_, PySem.W.mg_of X G z_HEAD_LENGTH⟩
  have g_HEAD_TEXT_SUM : GInt mg "HEAD_TEXT_SUM" 4 := ⟨_, PySem.W.mg_of X G z_HEAD_TEXT_SUM⟩
  have g_FIRST_FOUR := PySem.W.mg_of X G z_FIRST_FOUR
  have g_BLOCK_SIZES := PySem.W.mg_of X G z_BLOCK_SIZES
  have nb_len := PySem.W.mg_none_of X G zb_len
  have nb_range := PySem.W.mg_none_of X G zb_range
  have nb_reversed := PySem.W.mg_none_of X G zb_reversed
  have nb_list := PySem.W.mg_none_of X G zb_list
  have gu : U.G K mg CReader := ⟨clReader, nReader_source, nReader_place, mg_Reader, nb_len, nb_reversed, g_SHORTEST_MATCH⟩
  have AU := U.Fs.mk gu mk_Reader F_Reader_init b_Reader_init F_Reader_left b_Reader_left m_Reader_left F_Reader_taken b_Reader_taken m_Reader_taken F_Reader_number b_Reader_number m_Reader_number F_Reader_carried b_Reader_carried m_Reader_carried F_matched_bytes b_matched_bytes m_matched_bytes
  have gS : S.G mg := ⟨g_MODULUS, g_PRIME_1, g_PRIME_2, g_PRIME_3, g_PRIME_4, g_PRIME_5, nb_len, nb_range⟩
  have AZ := S.Fs.mk gS F_four_bytes_at b_four_bytes_at m_four_bytes_at F_turned_left b_turned_left m_turned_left F_mixed b_mixed m_mixed F_sum_of_sixteens b_sum_of_sixteens m_sum_of_sixteens F_with_bytes_left b_with_bytes_left m_with_bytes_left F_text_sum b_text_sum m_text_sum
  have gx : FX.G K mg CFrameReader q_FIRST_FOUR q_BLOCK_SIZES := ⟨clFrameReader, nFrameReader_reader, nFrameReader_flags, nFrameReader_block_size, nFrameReader_length, nFrameReader_text, mg_FrameReader, nb_len, nb_list, g_FIRST_FOUR, (fun H => sqT_top y_FIRST_FOUR (line (by show 4 ≤ 16777216; decide)) (.cons ⟨_, rfl⟩ (.cons ⟨_, rfl⟩ (.cons ⟨_, rfl⟩ (.cons ⟨_, rfl⟩ .nil))))), g_BLOCK_SIZES, sizes_top s_BLOCK_SIZES y_BLOCK_SIZES, g_NOTHING_WRONG, g_NO_WHOLE_HEAD, g_WRONG_HEAD, g_WRONG_SUM, g_WRONG_BLOCKS, g_WRONG_PARTS, g_TEXT_TOO_LONG, g_WRONG_LENGTH, g_LONGEST_TEXT, g_STANDS_FOR_ITSELF, g_SHORTEST_HEAD, g_HEAD_FIXED_BITS, g_HEAD_VERSION, g_HEAD_ALONE, g_HEAD_BLOCK_SUMS, g_HEAD_LENGTH, g_HEAD_TEXT_SUM⟩
  refine ⟨PySem.W.fnOf "unpack" "unpack" (defArgs s_unpack) (defBody s_unpack) (defScope s_unpack) .none kV24 dc24 pm24 an24 cd24 ct24, fun s u0 u1 => .of_eq rfl, fun base _ _ => ?_⟩
  have GS := S.ok_sum (P := PySem.Challenge.pw_shorttexts_s02_unpack) (w := w) (base := base) AZ
  have GH := FR.ok_hs F_head_sum GS F_text_sum.kp b_text_sum m_text_sum
  have Z := FX.Fs.mk gx AU F_text_sum.kp b_text_sum m_text_sum F_head_sum.kp b_head_sum m_head_sum F_unpack_parts b_unpack_parts m_unpack_parts F_low_first b_low_first m_low_first nb_range F_FrameReader_says b_FrameReader_says m_FrameReader_says
  have GHd := FX.ok_hd F_FrameReader_read_head Z GH
  have GB := FX.ok_blk F_FrameReader_read_block Z GS
  have GBs := FX.ok_bls F_FrameReader_read_blocks Z GB b_FrameReader_read_block m_FrameReader_read_block
  have GE := FX.ok_end F_FrameReader_read_end Z GS
  have GAl := FX.ok_all F_FrameReader_read_all gx GHd b_FrameReader_read_head m_FrameReader_read_head GBs b_FrameReader_read_blocks m_FrameReader_read_blocks GE b_FrameReader_read_end m_FrameReader_read_end
  exact ok_up F_unpack ⟨g_TOO_LONG, g_WRONG_ARGUMENT, nb_len⟩ gx F_answered b_answered m_answered mk_FrameReader (FX.ok_init F_FrameReader_init gx gu mk_Reader F_Reader_init b_Reader_init) b_FrameReader_init GAl b_FrameReader_read_all m_FrameReader_read_all
end Law
open PySem PySem.W PyProof.Rows
set_option maxRecDepth 100000 in
set_option maxHeartbeats 0 in
theorem PySem.Challenge.cw_shorttexts_s02_unpack_holds : PySem.Challenge.rw_shorttexts_s02_unpack.Holds := by
  w_on; k_headS; (case hw => exact ⟨[.int 0, .list []], by decide +kernel, by decide +kernel⟩)
  k_fillS
  refine Law.walk (by decide +kernel) rfl (fun w h Y => PySem.W.kIn_of Y) ?F
  case F =>
    intro w mg fa h KX G hmg
    refine' Law.all_mk KX G hmg ?aCReader ?a1 ?i1 ?l1 ?c1 ?k1 ?a2 ?i2 ?l2 ?c2 ?k2 ?a3 ?i3 ?l3 ?c3 ?k3 ?a4 ?i4 ?l4 ?c4 ?k4 ?a5 ?i5 ?l5 ?c5 ?k5 ?pgReader ?hdReader ?poReader ?saReader ?mkReader ?kcReader ?nReader_place ?nReader_source ?aCFrameReader ?a6 ?i6 ?l6 ?c6 ?k6 ?a7 ?i7 ?l7 ?c7 ?k7 ?a8 ?i8 ?l8 ?c8 ?k8 ?a9 ?i9 ?l9 ?c9 ?k9 ?a10 ?i10 ?l10 ?c10 ?k10 ?a11 ?i11 ?l11 ?c11 ?k11 ?a12 ?i12 ?l12 ?c12 ?k12 ?pgFrameReader ?hdFrameReader ?poFrameReader ?saFrameReader ?mkFrameReader ?kcFrameReader ?nFrameReader_block_size ?nFrameReader_flags ?nFrameReader_length ?nFrameReader_reader ?nFrameReader_text ?a13 ?l13 ?c13 ?k13 ?a14 ?l14 ?c14 ?k14 ?a15 ?l15 ?c15 ?k15 ?a16 ?l16 ?c16 ?k16 ?a17 ?l17 ?c17 ?k17 ?a18 ?l18 ?c18 ?k18 ?a19 ?l19 ?c19 ?k19 ?a20 ?l20 ?c20 ?k20 ?a21 ?l21 ?c21 ?k21 ?a22 ?l22 ?c22 ?k22 ?a23 ?l23 ?c23 ?k23 ?a24 ?l24 ?c24 ?k24 ?z_MODULUS ?z_PRIME_1 ?z_PRIME_2 ?z_PRIME_3 ?z_PRIME_4 ?z_PRIME_5 ?z_NOTHING_WRONG ?z_NO_WHOLE_HEAD ?z_WRONG_HEAD ?z_WRONG_SUM ?z_WRONG_BLOCKS ?z_WRONG_PARTS ?z_TEXT_TOO_LONG ?z_TOO_LONG ?z_WRONG_ARGUMENT ?z_WRONG_LENGTH ?z_LONGEST_TEXT ?z_SHORTEST_MATCH ?z_STANDS_FOR_ITSELF ?z_SHORTEST_HEAD ?z_HEAD_FIXED_BITS ?z_HEAD_VERSION ?z_HEAD_ALONE ?z_HEAD_BLOCK_SUMS ?z_HEAD_LENGTH ?z_HEAD_TEXT_SUM ?z_FIRST_FOUR ?y_FIRST_FOUR ?z_BLOCK_SIZES ?s_BLOCK_SIZES ?y_BLOCK_SIZES ?zb_len ?zb_range ?zb_reversed ?zb_list
    (case aCReader => k_is)
    (case a1 => k_is)
    (case i1 => k_is)
    (case l1 => k_is)
    (case c1 => k_is)
    (case k1 => k_is)
    (case a2 => k_is)
    (case i2 => k_is)
    (case l2 => k_is)
    (case c2 => k_is)
    (case k2 => k_is)
    (case a3 => k_is)
    (case i3 => k_is)
    (case l3 => k_is)
    (case c3 => k_is)
    (case k3 => k_is)
    (case a4 => k_is)
    (case i4 => k_is)
    (case l4 => k_is)
    (case c4 => k_is)
    (case k4 => k_is)
    (case a5 => k_is)
    (case i5 => k_is)
    (case l5 => k_is)
    (case c5 => k_is)
    (case k5 => k_is)
    (case pgReader => k_is)
    (case hdReader => k_is)
    (case poReader => k_is)
    (case saReader => k_is)
    (case mkReader => k_is)
    (case kcReader => k_is)
    (case nReader_place => k_is)
    (case nReader_source => k_is)
    (case aCFrameReader => k_is)
    (case a6 => k_is)
    (case i6 => k_is)
    (case l6 => k_is)
    (case c6 => k_is)
    (case k6 => k_is)
    (case a7 => k_is)
    (case i7 => k_is)
    (case l7 => k_is)
    (case c7 => k_is)
    (case k7 => k_is)
    (case a8 => k_is)
    (case i8 => k_is)
    (case l8 => k_is)
    (case c8 => k_is)
    (case k8 => k_is)
    (case a9 => k_is)
    (case i9 => k_is)
    (case l9 => k_is)
    (case c9 => k_is)
    (case k9 => k_is)
    (case a10 => k_is)
    (case i10 => k_is)
    (case l10 => k_is)
    (case c10 => k_is)
    (case k10 => k_is)
    (case a11 => k_is)
    (case i11 => k_is)
    (case l11 => k_is)
    (case c11 => k_is)
    (case k11 => k_is)
    (case a12 => k_is)
    (case i12 => k_is)
    (case l12 => k_is)
    (case c12 => k_is)
    (case k12 => k_is)
    (case pgFrameReader => k_is)
    (case hdFrameReader => k_is)
    (case poFrameReader => k_is)
    (case saFrameReader => k_is)
    (case mkFrameReader => k_is)
    (case kcFrameReader => k_is)
    (case nFrameReader_block_size => k_is)
    (case nFrameReader_flags => k_is)
    (case nFrameReader_length => k_is)
    (case nFrameReader_reader => k_is)
    (case nFrameReader_text => k_is)
    (case a13 => k_is)
    (case l13 => k_is)
    (case c13 => k_is)
    (case k13 => k_is)
    (case a14 => k_is)
    (case l14 => k_is)
    (case c14 => k_is)
    (case k14 => k_is)
    (case a15 => k_is)
    (case l15 => k_is)
    (case c15 => k_is)
    (case k15 => k_is)
    (case a16 => k_is)
    (case l16 => k_is)
    (case c16 => k_is)
    (case k16 => k_is)
    (case a17 => k_is)
    (case l17 => k_is)
    (case c17 => k_is)
    (case k17 => k_is)
    (case a18 => k_is)
    (case l18 => k_is)
    (case c18 => k_is)
    (case k18 => k_is)
    (case a19 => k_is)
    (case l19 => k_is)
    (case c19 => k_is)
    (case k19 => k_is)
    (case a20 => k_is)
    (case l20 => k_is)
    (case c20 => k_is)
    (case k20 => k_is)
    (case a21 => k_is)
    (case l21 => k_is)
    (case c21 => k_is)
    (case k21 => k_is)
    (case a22 => k_is)
    (case l22 => k_is)
    (case c22 => k_is)
    (case k22 => k_is)
    (case a23 => k_is)
    (case l23 => k_is)
    (case c23 => k_is)
    (case k23 => k_is)
    (case a24 => k_is)
    (case l24 => k_is)
    (case c24 => k_is)
    (case k24 => k_is)
    (case z_MODULUS => k_is)
    (case z_PRIME_1 => k_is)
    (case z_PRIME_2 => k_is)
    (case z_PRIME_3 => k_is)
    (case z_PRIME_4 => k_is)
    (case z_PRIME_5 => k_is)
    (case z_NOTHING_WRONG => k_is)
    (case z_NO_WHOLE_HEAD => k_is)
    (case z_WRONG_HEAD => k_is)
    (case z_WRONG_SUM => k_is)
    (case z_WRONG_BLOCKS => k_is)
    (case z_WRONG_PARTS => k_is)
    (case z_TEXT_TOO_LONG => k_is)
    (case z_TOO_LONG => k_is)
    (case z_WRONG_ARGUMENT => k_is)
    (case z_WRONG_LENGTH => k_is)
    (case z_LONGEST_TEXT => k_is)
    (case z_SHORTEST_MATCH => k_is)
    (case z_STANDS_FOR_ITSELF => k_is)
    (case z_SHORTEST_HEAD => k_is)
    (case z_HEAD_FIXED_BITS => k_is)
    (case z_HEAD_VERSION => k_is)
    (case z_HEAD_ALONE => k_is)
    (case z_HEAD_BLOCK_SUMS => k_is)
    (case z_HEAD_LENGTH => k_is)
    (case z_HEAD_TEXT_SUM => k_is)
    (case z_FIRST_FOUR => k_is)
    (case y_FIRST_FOUR => k_is)
    (case z_BLOCK_SIZES => k_is)
    (case s_BLOCK_SIZES => decide)
    (case y_BLOCK_SIZES => k_is)
    (case zb_len => k_is)
    (case zb_range => k_is)
    (case zb_reversed => k_is)
    (case zb_list => k_is)
#print axioms PySem.Challenge.cw_shorttexts_s02_unpack_holds
