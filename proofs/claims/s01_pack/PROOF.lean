import PyProof.Rows.All
import Wide.All
import OpenK.AllK
import Wide.FinOn
import PyProof.EqAt
import PyProof.EqKinds
import PyProof.TupleCall
import KE.BitLaws
import KE.OsGo
import Open.SpecLaws
import PySem.Challenge.RW_shorttexts_s01_pack
import PyKg18
set_option Elab.async false
set_option linter.all false
set_option maxRecDepth 100000
set_option maxHeartbeats 4000000

-- CHANGE: your row's module here, as the last of these rows
set_option Elab.async false
set_option linter.all false
set_option maxRecDepth 100000
/-! THE HAND LAYER, for ints, bools, texts, own classes, lists, tuples, dicts, comprehensions, walks over dicts, enumerate, zip, reversed, texts, calls, loops. Paste it whole ahead of your own text; what your proof does not reach may be deleted. -/
namespace L2
open PySem PySem.Spec PyProof.Rows

/-- a key: an int or a str -/
abbrev Key := Sum Int Str
def keyIs : Key → Value → Bool
  | .inl k, v => Value.isInt k v
  | .inr x, v => Value.isStrOf x v
def keyH (w : World) : Key → Int
  | .inl k => hashInt k
  | .inr x => hashStr w x
theorem keyIs_shape : ∀ {k : Key} {v : Value}, keyIs k v = true → (∃ i t, k = Sum.inl i ∧ v = Value.int i t) ∨ (∃ x t, k = Sum.inr x ∧ v = Value.str x t)
  | .inl i, v, h => by
    obtain ⟨t, e⟩ := Value.isInt_shape (k := i) (v := v) h
    exact .inl ⟨i, t, rfl, e⟩
  | .inr x, v, h => by
    obtain ⟨t, e⟩ := Value.isStrOf_shape (x := x) (v := v) h
    exact .inr ⟨x, t, rfl, e⟩
theorem keyIs_int (i : Int) (t : Tok) : keyIs (.inl i) (.int i t) = true := by simp [keyIs, Value.isInt]
theorem keyIs_str (x : Str) (t : Tok) : keyIs (.inr x) (.str x t) = true := by simp [keyIs, Value.isStrOf]
theorem key_ll (a b : Int) : decide ((Sum.inl a : Key) = Sum.inl b) = (a == b) := by
  by_cases e : a = b
  · subst e; simp
  · have h : ¬ (Sum.inl a : Key) = Sum.inl b := fun q => e (Sum.inl.inj q)
    rw [decide_eq_false h]
    exact (beq_eq_false_iff_ne.mpr e).symm
theorem key_rr (a b : Str) : decide ((Sum.inr a : Key) = Sum.inr b) = decide (a = b) := by
  by_cases e : a = b
  · subst e; simp
  · have h : ¬ (Sum.inr a : Key) = Sum.inr b := fun q => e (Sum.inr.inj q)
    rw [decide_eq_false h, decide_eq_false e]
theorem key_lr (a : Int) (b : Str) : decide ((Sum.inl a : Key) = Sum.inr b) = false := decide_eq_false (fun q => nomatch q)
theorem key_rl (a : Str) (b : Int) : decide ((Sum.inr a : Key) = Sum.inl b) = false := decide_eq_false (fun q => nomatch q)

def mixKind (prog : Program) (w : World) : PySem.KeyKind prog w Key where
  is := keyIs
  hash := keyH w
  inj := fun v a b ha hb => by
    rcases keyIs_shape ha with ⟨i, t, rfl, rfl⟩ | ⟨x, t, rfl, rfl⟩
    · rcases keyIs_shape hb with ⟨j, u, rfl, e⟩ | ⟨y, u, rfl, e⟩
      · injection e with e1 _; rw [e1]
      · exact nomatch e
    · rcases keyIs_shape hb with ⟨j, u, rfl, e⟩ | ⟨y, u, rfl, e⟩
      · exact nomatch e
      · injection e with e1 _; rw [e1]
  byValue := fun k v h => by
    rcases keyIs_shape h with ⟨i, t, rfl, rfl⟩ | ⟨x, t, rfl, rfl⟩ <;> rfl
  pyHash := fun hv h => by
    rcases keyIs_shape hv with ⟨i, t, rfl, rfl⟩ | ⟨x, t, rfl, rfl⟩
    · exact wpAny_pyHash_int h
    · exact wpAny_pyHash_str h
  eqBool := fun hu hv h => by
    rcases keyIs_shape hu with ⟨i, t, rfl, rfl⟩ | ⟨x, t, rfl, rfl⟩
    · rcases keyIs_shape hv with ⟨j, u, rfl, rfl⟩ | ⟨y, u, rfl, rfl⟩
      · rw [key_ll] at h; exact wpAny_eqBool_int h
      · rw [key_lr] at h; exact SeqAt.EqAt.int_str i t y u _ _ _ _ h
    · rcases keyIs_shape hv with ⟨j, u, rfl, rfl⟩ | ⟨y, u, rfl, rfl⟩
      · rw [key_rl] at h; exact SeqAt.EqAt.str_int x t j u _ _ _ _ h
      · rw [key_rr] at h; exact wpAny_eqBool_str h
  «strs» := fun k x t v h => by
    rcases keyIs_shape h with ⟨i, u, rfl, e⟩ | ⟨y, u, rfl, e⟩
    · exact nomatch e
    · injection e with e1 _
      subst e1
      cases v <;> rfl

theorem mixKind_int (prog : Program) (w : World) (i : Int) (t : Tok) : (mixKind prog w).is (.inl i) (.int i t) = true := keyIs_int i t
theorem mixKind_str (prog : Program) (w : World) (x : Str) (t : Tok) : (mixKind prog w).is (.inr x) (.str x t) = true := keyIs_str x t
end L2

namespace L2
open PySem PySem.Spec PyProof.Rows

/-- a value, without the heap -/
inductive V where
  | non | bl (b : Bool) | int (i : Int) | str (x : Str) | byt (b : Array UInt8) | flt (b : UInt64) | ref (a : Addr) | ty (n : String)
  deriving DecidableEq

def RelV : V → Value → Prop
  | .non, u => u = Value.none
  | .bl b, u => u = Value.bool b
  | .int i, u => ∃ t, u = Value.int i t
  | .str x, u => ∃ t, u = Value.str x t
  | .byt b, u => ∃ t, u = Value.bytes b t
  | .flt b, u => ∃ t, u = Value.float b t
  | .ref a, u => u = Value.ref a
  | .ty n, u => u = Value.type n

abbrev Vals : List V → List Value → Prop := Paired RelV
theorem Vals.length {xs : List V} {us : List Value} (r : Vals xs us) : xs.length = us.length := Paired.length r
theorem Vals.get : ∀ {xs : List V} {us : List Value} {i : Nat} {x : V}, Vals xs us → xs[i]? = some x → ∃ u, us[i]? = some u ∧ RelV x u
  | _, _, _, _, .nil, e => by simp at e
  | _, _, 0, _, .cons r _, e => by simp at e; subst e; exact ⟨_, rfl, r⟩
  | _, _, i + 1, x, .cons _ t, e => by
    obtain ⟨u, h1, h2⟩ := Vals.get (i := i) (x := x) t (by simpa using e)
    exact ⟨u, by simpa using h1, h2⟩
theorem Vals.set {x : V} {u : Value} (r : RelV x u) : ∀ {xs : List V} {us : List Value} (i : Nat), Vals xs us → Vals (xs.set i x) (us.set i u)
  | _, _, _, .nil => .nil
  | _, _, 0, .cons _ t => .cons r t
  | _, _, i + 1, .cons q t => .cons q (Vals.set r i t)
theorem Vals.append : ∀ {xs ys : List V} {us ws : List Value}, Vals xs us → Vals ys ws → Vals (xs ++ ys) (us ++ ws)
  | _, _, _, _, .nil, s => s
  | _, _, _, _, .cons r t, s => .cons r (Vals.append t s)
theorem Vals.take : ∀ {xs : List V} {us : List Value} (n : Nat), Vals xs us → Vals (xs.take n) (us.take n)
  | _, _, 0, _ => .nil
  | _, _, _ + 1, .nil => .nil
  | _, _, n + 1, .cons r t => .cons r (Vals.take n t)
theorem Vals.drop : ∀ {xs : List V} {us : List Value} (n : Nat), Vals xs us → Vals (xs.drop n) (us.drop n)
  | _, _, 0, r => r
  | _, _, _ + 1, .nil => .nil
  | _, _, n + 1, .cons _ t => Vals.drop n t
def RelO : Option V → Option Value → Prop
  | some v, some u => RelV v u
  | none, none => True
  | _, _ => False
def KV {κ : Type} : List (κ × V) → List (κ × Value) → Prop := Paired fun (p : κ × V) (q : κ × Value) => p.1 = q.1 ∧ RelV p.2 q.2

/-- a key of a dict (00_mix): an int or a text -/
def kV : Key → V
  | .inl i => .int i
  | .inr x => .str x

/-- what stands at a tracked address -/
inductive HO where
  /-- a list -/
  | lst (xs : List V)
  /-- a tuple (never changes) -/
  | tup (xs : List V)
  /-- a dict whose keys are ints and texts; one whose keys are tuples of ints and texts (the empty one is both) -/
  | dK (kvs : List (Key × V)) | dT (kvs : List (List Key × V))
  /-- a set of ints: its members, its size -/
  | set (S : Int → Bool) (n : Nat)
  /-- an instance of the class at C, its dict at dx, its attributes -/
  | ins (C dx : Addr) (fs : List (Str × V))
  /-- the dict of the instance at x -/
  | own (x : Addr)
  /-- the dict of an exception -/
  | xd (fs : List (Str × V))
  /-- a bound method, f of x -/
  | met (f x : Addr)
  /-- a range object lo, lo + 1, .. below hi -/
  | rng (lo hi : Int)
  /-- a thing that is known to the object (the script; a dict while a loop walks it): read, never written while it is so -/
  | frz (o : Obj) (u : HO)
  /-- a code object's table -/
  | tbl (ps : Array Value)
  /-- any other thing, by what is true of its one object (a def of one's own: SetO a S n := HO.ext fun h => ..) -/
  | ext (φ : Heap → Prop)

abbrev Hp := Addr → Option HO
def upd (H : Hp) (a : Addr) (o : HO) : Hp := fun b => if b = a then some o else H b
theorem upd_same {H : Hp} {a : Addr} {o : HO} : upd H a o a = some o := by unfold upd; rw [if_pos rfl]
theorem upd_ne {H : Hp} {a b : Addr} {o : HO} (h : b ≠ a) : upd H a o b = H b := by unfold upd; rw [if_neg h]
/-- two objects of different content stand apart -/
theorem ne_of {H : Hp} {a b : Addr} {o u : HO} (h : H a = some o) (h' : H b = some u) (d : o ≠ u) : a ≠ b := by
  intro e; subst e; rw [h] at h'; exact d (Option.some.inj h')
theorem ne_of_none {H : Hp} {a b : Addr} {o : HO} (h : H a = some o) (h' : H b = none) : a ≠ b := by
  intro e; subst e; rw [h] at h'; cases h'

section
variable (P : Program) (w : World)
def ObjOk (H : Hp) (h : Heap) (a : Addr) : HO → Prop
  | .lst xs => xs.length ≤ sizeLine ∧ ∃ (its : List Value) (n : Nat), Vals xs its ∧ h.get? a = some { cls := .type "list", data := .seq its.toArray n }
  | .tup xs => xs.length ≤ sizeLine ∧ ∃ its : List Value, Vals xs its ∧ IsTup h a its.toArray
  | .dK kvs => kvs.length ≤ sizeLine ∧ (a == sysModules) = false ∧ ∃ vs, KV kvs vs ∧ h.DictOf (mixKind P w) a vs
  | .dT kvs => kvs.length ≤ sizeLine ∧ (a == sysModules) = false ∧ ∃ xs : List (List Key × Addr × Value),
      Paired (fun (p : List Key × V) (q : List Key × Addr × Value) => p.1 = q.1 ∧ H q.2.1 = some (.tup (p.1.map kV)) ∧ RelV p.2 q.2.2) kvs xs ∧
      ∃ o es ep, h.get? a = some o ∧ o.ExactDict ∧ o.data = .dict es ep ∧ es.toList = xs.map (entryOfKey (tupleKind (mixKind P w))) ∧ (xs.map (·.1)).Nodup
  | .set S n => h.SetOf (intKind P w) a S n
  | .ins C dx fs => H dx = some (.own a) ∧ fs.length ≤ 1000 ∧ dx ≠ a ∧ h.get? a = some (PySem.W.instObj C dx) ∧
      ∃ mA, h.Ns1 dx mA ∧ (∀ f, RelO (fs.lookup f) (mA f)) ∧ PySem.Within mA (fs.map (·.1))
  | .own _ => ∃ o, h.get? a = some o
  | .xd fs => ∃ mA, h.Ns1 a mA ∧ ∀ f, RelO (fs.lookup f) (mA f)
  | .rng lo hi => ∃ t u v, h.get? a = some { cls := .type "range", data := .fields #[.int lo t, .int hi u, .int 1 v] }
  | .frz o u => h.get? a = some o ∧ ObjOk H h a u
  | .tbl ps => h.get? a = some { cls := .none, data := .fields ps }
  | .met f x => h.get? a = some (PySem.W.methodObj (.ref f) (.ref x))
  | .ext φ => φ h ∧ (∃ o, h.get? a = some o) ∧ ∀ h1 h2 : Heap, φ h1 → (∀ o, h1.get? a = some o → h2.get? a = some o) → φ h2
/-- the abstract heap is held -/
def HOk (H : Hp) (h : Heap) : Prop := ∀ a o, H a = some o → ObjOk P w H h a o
end

section
variable {P : Program} {w : World} {H H' : Hp} {h h' : Heap} {a : Addr} {o : HO}
theorem ObjOk.lt (x : ObjOk P w H h a o) : a < h.objs.size := by
  cases o with
  | lst xs => obtain ⟨_, _, _, _, e⟩ := x; exact Heap.lt_size e
  | tup xs => obtain ⟨_, _, _, p⟩ := x; exact p.lt
  | dK kvs => obtain ⟨_, _, _, _, o, _, _, e, _⟩ := x; exact Heap.lt_size e
  | dT kvs => obtain ⟨_, _, _, _, o, _, _, e, _⟩ := x; exact Heap.lt_size e
  | set S n => obtain ⟨o, _, _, _, e, _⟩ := x; exact Heap.lt_size e
  | ins C dx fs => obtain ⟨_, _, _, e, _⟩ := x; exact Heap.lt_size e
  | own y => obtain ⟨_, e⟩ := x; exact Heap.lt_size e
  | xd fs => obtain ⟨_, ⟨_, _, _, e, _⟩, _⟩ := x; exact Heap.lt_size e
  | rng lo hi => obtain ⟨_, _, _, e⟩ := x; exact Heap.lt_size e
  | frz ob u => obtain ⟨e, _⟩ := x; exact Heap.lt_size e
  | tbl ps => exact Heap.lt_size (show h.get? a = some _ from x)
  | met f y => exact Heap.lt_size (show h.get? a = some _ from x)
  | ext φ => obtain ⟨_, ⟨_, e⟩, _⟩ := x; exact Heap.lt_size e
theorem Paired.mapP {α β : Type} {F G : α → β → Prop} : ∀ {l₁ : List α} {l₂ : List β}, Paired F l₁ l₂ → (∀ a b, F a b → G a b) → Paired G l₁ l₂
  | _, _, .nil, _ => .nil
  | _, _, .cons r t, f => .cons (f _ _ r) (Paired.mapP t f)
/-- what an object's description leans on: its own object, its own dict, the tuples -/
theorem ObjOk.stay (x : ObjOk P w H h a o) (k : ∀ b u, (b = a ∨ H b = some (.own a)) → h.get? b = some u → h'.get? b = some u)
    (ho : ∀ b, H b = some (.own a) → H' b = some (.own a)) (ht : ∀ b xs, H b = some (.tup xs) → H' b = some (.tup xs)) : ObjOk P w H' h' a o := by
  induction o with
  | lst xs => obtain ⟨z, its, n, r, e⟩ := x; exact ⟨z, its, n, r, k _ _ (.inl rfl) e⟩
  | tup xs => obtain ⟨z, its, r, ob, e, c⟩ := x; exact ⟨z, its, r, ob, k _ _ (.inl rfl) e, c⟩
  | dK kvs => obtain ⟨z, y, vs, r, ob, es, ep, e, c⟩ := x; exact ⟨z, y, vs, r, ob, es, ep, k _ _ (.inl rfl) e, c⟩
  | dT kvs =>
    obtain ⟨z, y, xs, r, ob, es, ep, e, c⟩ := x
    exact ⟨z, y, xs, Paired.mapP r fun p q z => ⟨z.1, ht _ _ z.2.1, z.2.2⟩, ob, es, ep, k _ _ (.inl rfl) e, c⟩
  | set S n => obtain ⟨ob, es, ep, t, e, c⟩ := x; exact ⟨ob, es, ep, t, k _ _ (.inl rfl) e, c⟩
  | ins C dx fs =>
    obtain ⟨d, z, ne, e, mA, ⟨od, es, ep, e2, c⟩, r⟩ := x
    exact ⟨ho _ d, z, ne, k _ _ (.inl rfl) e, mA, ⟨od, es, ep, k _ _ (.inr d) e2, c⟩, r⟩
  | own y => obtain ⟨ob, e⟩ := x; exact ⟨ob, k _ _ (.inl rfl) e⟩
  | xd fs => obtain ⟨mA, ⟨od, es, ep, e, c⟩, r⟩ := x; exact ⟨mA, ⟨od, es, ep, k _ _ (.inl rfl) e, c⟩, r⟩
  | rng lo hi => obtain ⟨t, u, v, e⟩ := x; exact ⟨t, u, v, k _ _ (.inl rfl) e⟩
  | frz ob u ih => obtain ⟨e, q⟩ := x; exact ⟨k _ _ (.inl rfl) e, ih q⟩
  | tbl ps =>
    have e : h.get? a = some { cls := .none, data := .fields ps } := x
    show h'.get? a = some { cls := .none, data := .fields ps }
    exact k a _ (.inl rfl) e
  | met f y =>
    have e : h.get? a = some (PySem.W.methodObj (.ref f) (.ref y)) := x
    show h'.get? a = some (PySem.W.methodObj (.ref f) (.ref y))
    exact k a _ (.inl rfl) e
  | ext φ => obtain ⟨p, ⟨o, e⟩, st⟩ := x; exact ⟨st _ _ p fun o q => k _ _ (.inl rfl) q, ⟨o, k _ _ (.inl rfl) e⟩, st⟩
theorem HOk.lt (x : HOk P w H h) (e : H a = some o) : a < h.objs.size := (x a o e).lt
theorem HOk.fresh (x : HOk P w H h) (e : h.objs.size ≤ a) : H a = none := by
  cases q : H a with
  | none => rfl
  | some u => exact absurd (Nat.lt_of_lt_of_le (x.lt q) e) (Nat.lt_irrefl _)
/-- every object of the heap is kept -/
theorem HOk.kept (x : HOk P w H h) (k : ∀ b u, h.get? b = some u → h'.get? b = some u) : HOk P w H h' := fun a o e =>
  (x a o e).stay (fun b u _ q => k b u q) (fun _ q => q) fun _ _ q => q
/-- a new object is laid and tracked -/
theorem HOk.laid (x : HOk P w H h) (k : ∀ b u, h.get? b = some u → h'.get? b = some u) (hp : h.objs.size ≤ a) (new : ObjOk P w (upd H a o) h' a o) : HOk P w (upd H a o) h' := fun b u e => by
  have hn := x.fresh hp
  by_cases hb : b = a
  · subst hb; rw [upd_same] at e; cases e; exact new
  · rw [upd_ne hb] at e
    exact (x b u e).stay (fun c v _ q => k c v q) (fun c q => by rw [upd_ne (ne_of_none q hn)]; exact q) fun c xs q => by rw [upd_ne (ne_of_none q hn)]; exact q
end

/-- what may be read as u: it is u, or a known u -/
def Rd (H : Hp) (a : Addr) (u : HO) : Prop := H a = some u ∨ ∃ o, H a = some (.frz o u)
theorem Rd.ok {P : Program} {w : World} {H : Hp} {h : Heap} {a : Addr} {u : HO} (r : Rd H a u) (x : HOk P w H h) : ObjOk P w H h a u := by
  rcases r with r | ⟨o, r⟩
  · exact x a u r
  · obtain ⟨_, q⟩ := x a _ r
    exact q
/-- what may be written -/
def Mut : Option HO → Prop
  | some (.lst _) => True
  | some (.dK _) => True
  | some (.dT _) => True
  | some (.set _ _) => True
  | some (.ins _ _ _) => True
  | some (.ext _) => True
  | _ => False
section
variable {P : Program} {w : World} {H : Hp} {h h' : Heap} {x e : Addr} {o' : HO}
/-- the object at e is changed: x itself, or the dict of the instance x -/
theorem HOk.write (ok : HOk P w H h) (mu : Mut (H x)) (he : e = x ∨ H e = some (.own x)) (k : ∀ b u, b ≠ e → h.get? b = some u → h'.get? b = some u) (heo : ∃ u, h'.get? e = some u)
    (new : ObjOk P w (upd H x o') h' x o') : HOk P w (upd H x o') h' := fun b u q => by
  have nown : ∀ c y, H c = some (.own y) → c ≠ x := fun c y r z => by subst z; rw [r] at mu; exact mu
  have ntup : ∀ c xs, H c = some (.tup xs) → c ≠ x := fun c xs r z => by subst z; rw [r] at mu; exact mu
  by_cases hb : b = x
  · subst hb; rw [upd_same] at q; cases q; exact new
  · rw [upd_ne hb] at q
    by_cases hbe : b = e
    · have q' : H b = some (.own x) := by
        rcases he with z | z
        · exact absurd (hbe.trans z) hb
        · rw [hbe]; exact z
      rw [q] at q'; cases q'
      obtain ⟨v, hv⟩ := heo
      exact ⟨v, by rw [hbe]; exact hv⟩
    · refine (ok b u q).stay (fun c v hc r => k c v ?_ r) (fun c r => by rw [upd_ne (nown c b r)]; exact r) fun c xs r => by rw [upd_ne (ntup c xs r)]; exact r
      rcases hc with rfl | hc
      · exact hbe
      · rintro rfl
        rcases he with z | z
        · exact nown c b hc z
        · rw [hc] at z; cases z; exact hb rfl
end

/-! ### kept unless tracked; of the frames at fs (the callers') the slots may change (an exception that passes writes there); of the records at ex (iterators) nothing is said -/
structure Un (fs ex : List Addr) (H H' : Hp) (h h' : Heap) : Prop where
  keep : ∀ b o, h.get? b = some o → H b = none → b ∉ fs → b ∉ ex → h'.get? b = some o
  slot : ∀ b o, h.get? b = some o → H b = none → b ∈ fs → b ∉ ex → ∃ sl, h'.get? b = some { o with slots := sl }
  free : ∀ b o, h.get? b = some o → H b = none → b ∉ ex → H' b = none
  there : ∀ b o, h.get? b = some o → b ∉ ex → ∃ o', h'.get? b = some o'
  tups : ∀ b xs, H b = some (.tup xs) → H' b = some (.tup xs)
  frzs : ∀ b o u, H b = some (.frz o u) → H' b = some (.frz o u)
  tbls : ∀ b ps, H b = some (.tbl ps) → ∃ more, H' b = some (.tbl (ps ++ more))
section
variable {fs fs' ex ex' : List Addr} {H H1 H2 : Hp} {h h1 h2 h' : Heap} {a x e : Addr} {o : HO}
theorem Un.any (u : Un fs ex H H1 h h1) {b : Addr} {ob : Obj} (q : h.get? b = some ob) (n : H b = none) (hx : b ∉ ex) : ∃ sl, h1.get? b = some { ob with slots := sl } := by
  by_cases hb : b ∈ fs
  · exact u.slot b ob q n hb hx
  · exact ⟨ob.slots, u.keep b ob q n hb hx⟩
theorem Un.kept (k : ∀ b u, h.get? b = some u → h'.get? b = some u) : Un fs ex H H h h' :=
  ⟨fun b ob q _ _ _ => k b ob q, fun b ob q _ _ _ => ⟨ob.slots, k b ob q⟩, fun _ _ _ n _ => n, fun b ob q _ => ⟨ob, k b ob q⟩, fun _ _ q => q, fun _ _ _ q => q, fun _ ps q => ⟨#[], by rw [q]; simp⟩⟩
theorem Un.refl : Un fs ex H H h h := Un.kept fun _ _ q => q
theorem Un.laid (k : ∀ b u, h.get? b = some u → h'.get? b = some u) (hp : h.objs.size ≤ a) (hn : H a = none) : Un fs ex H (upd H a o) h h' where
  keep := fun b u q _ _ _ => k b u q
  slot := fun b u q _ _ _ => ⟨u.slots, k b u q⟩
  free := fun b u q n _ => by rw [upd_ne (Nat.ne_of_lt (Nat.lt_of_lt_of_le (Heap.lt_size q) hp))]; exact n
  there := fun b u q _ => ⟨u, k b u q⟩
  tups := fun b xs q => by rw [upd_ne (ne_of_none q hn)]; exact q
  frzs := fun b u xs q => by rw [upd_ne (ne_of_none q hn)]; exact q
  tbls := fun b ps q => ⟨#[], by rw [upd_ne (ne_of_none q hn), q]; simp⟩
theorem Un.write (mu : Mut (H x)) (he : e = x ∨ H e = some (.own x)) (k : ∀ b u, b ≠ e → h.get? b = some u → h'.get? b = some u) (heo : ∃ u, h'.get? e = some u) : Un fs ex H (upd H x o) h h' := by
  have hx : ∀ b, H b = none → b ≠ x := fun b n z => by subst z; rw [n] at mu; exact mu
  have hb : ∀ b, H b = none → b ≠ e := fun b n z => by
    subst z
    rcases he with r | r
    · exact hx b n r
    · rw [n] at r; cases r
  have hm : ∀ b u, H b = some u → ¬ Mut (some u) → b ≠ x := fun b u q nm z => by subst z; rw [q] at mu; exact nm mu
  refine ⟨fun b u q n _ _ => k b u (hb b n) q, fun b u q n _ _ => ⟨u.slots, k b u (hb b n) q⟩, fun b u q n _ => by rw [upd_ne (hx b n)]; exact n, fun b u q _ => ?_,
    fun b xs q => by rw [upd_ne (hm b _ q fun z => z)]; exact q, fun b u xs q => by rw [upd_ne (hm b _ q fun z => z)]; exact q, fun b ps q => ⟨#[], by rw [upd_ne (hm b _ q fun z => z), q]; simp⟩⟩
  by_cases hbe : b = e
  · subst hbe; exact heo
  · exact ⟨u, k b u hbe q⟩
end

/-! ### the heap without what is tracked -/
def trk (h : Heap) (H : Hp) : List Addr := (List.range h.objs.size).filter fun a => (H a).isSome
def hidT (h : Heap) (H : Hp) : Heap := PySem.W.hideAll h (trk h H)
theorem hidT_size (h : Heap) (H : Hp) : (hidT h H).objs.size = h.objs.size := PySem.W.hideAll_size _ _
theorem hidT_get {h : Heap} {H : Hp} {b : Addr} {o : Obj} (e : h.get? b = some o) (n : H b = none) : (hidT h H).get? b = some o :=
  PySem.W.hideAll_get _ e fun hm => by
    have q : (H b).isSome = true := (List.mem_filter.mp hm).2
    rw [n] at q; simp at q
theorem of_hidT {h : Heap} {H : Hp} {b : Addr} {o : Obj} (e : (hidT h H).get? b = some o) : h.get? b = some o ∧ H b = none := by
  have e' : h.get? b = some o := PySem.W.of_hideAll (trk h H) e
  refine ⟨e', ?_⟩
  cases q : H b with
  | none => rfl
  | some x =>
    have hm : b ∈ trk h H := List.mem_filter.mpr ⟨List.mem_range.mpr (Heap.lt_size e'), by simp [q]⟩
    have z : (hidT h H).get? b = none := PySem.W.hideAll_none (trk h H) hm
    rw [z] at e; cases e

/-! ### OpenK's ledger, filled with every new object but one -/
end L2

namespace L2
open PySem PySem.Spec PyProof.Rows

/-- the module's facts, over the base: the heap at the law's entry without what is tracked there -/
structure Mod (K : PySem.W.Frag) (mg : Str → Option Value) (base : Heap) : Prop where
  kin : K.In base
  glob : base.Ns mainGlobals mg
  blt : ∃ mb, base.Ns builtinsNs mb ∧ ∀ x : Str, x ≠ "__name__" → mb x = bootBuiltins x
  nolimit : base.NoLimit

/-- the context: a def's body (or a comprehension's block) running. base: fixed through the whole law; s₀, H₀: the entry; outer: the frames whose slots others may change (a def's callers); stack: all frames that run;
   ex: iterators that were made ahead of the entry and are walked here (a comprehension's); fn: the names whose cells were made at the entry (a def: all; a comprehension's block: its own); calm: not within an except suite; pn: pins that every state bears; xe: what is wanted of an exception that leaves the code -/
structure Cx where
  prog : Program
  w : World
  K : PySem.W.Frag
  mg : Str → Option Value
  base : Heap
  A : Around
  N : List Str
  s_0 : Shared
  H_0 : Hp
  env : Env
  outer : List Env
  stack : List Env
  ex : List Addr
  fn : Str → Bool
  calm : Bool
  pn : List (Addr × Obj)
  xe : Value → Shared → Prop
/-- the callers' frames -/
def frs (l : List Env) : List Addr := l.filterMap (·.frame)
abbrev Cx.fs (X : Cx) : List Addr := frs X.outer

def Vis (sc : Scope) (x : Str) : Prop := sc.names.lookup x = some .local ∨ sc.names.lookup x = some .cell ∨ sc.names.lookup x = some .free
def Loc (sc : Scope) (x : Str) : Prop := sc.names.lookup x = some .local ∨ sc.names.lookup x = some .cell
def Look (env : Env) (h : Heap) (m : Str → Option Value) (x : Str) (u : Value) : Prop :=
  (env.kindOf x = some .local ∧ m x = some u) ∨ ((env.kindOf x = some .cell ∨ env.kindOf x = some .free) ∧ ∃ c, env.cells.lookup x = some c ∧ h.IsCell c (some u))

structure Cx.Ok (X : Cx) : Prop where
  mod : Mod X.K X.mg X.base
  kind : X.env.scope.kind = .function
  glob : X.env.globals = mainGlobals
  blt : X.env.builtins = builtinsNs
  above : X.s_0.heap.objs.size ≤ X.env.locals
  inj : ∀ x y c, X.env.cells.lookup x = some c → X.env.cells.lookup y = some c → x = y
  has : ∀ x, (X.env.kindOf x = some .cell ∨ X.env.kindOf x = some .free) → ∃ c, X.env.cells.lookup x = some c
  cab : ∀ x c, X.fn x = true → X.env.cells.lookup x = some c → X.s_0.heap.objs.size ≤ c
  hd : X.calm = true → X.A.handled = none
  frames : X.A.frames = some X.stack
  stk : X.stack = X.outer ∨ (X.stack = X.env :: X.outer ∧ X.env.frame = some X.env.locals)
  exf : ∀ b ∈ X.ex, b ≠ X.env.locals ∧ ∀ x c, X.env.cells.lookup x = some c → c ≠ b
  bs : ∀ b o, X.base.get? b = some o → X.s_0.heap.get? b = some o ∧ X.H_0 b = none
  bsz : X.base.objs.size ≤ X.s_0.heap.objs.size
  noex : ∀ b o, X.base.get? b = some o → b ∉ X.ex
  exfs : ∀ b ∈ X.ex, b ∉ X.fs
  funs : X.s_0.heap.FunFrames X.base X.outer
  frf : ∀ b ∈ X.fs, X.H_0 b = none

structure Inv (X : Cx) (pins : List (Addr × Obj)) (σ : List (Option V)) (H : Hp) (s : Shared) : Prop where
  ok : X.Ok
  os : s.os = X.s_0.os
  bare : AllBare s.gens
  base : Un X.fs X.ex X.H_0 H X.s_0.heap s.heap
  loc : ∃ m, s.heap.Ns X.env.locals m ∧ ∀ (i : Nat) (x : Str) (v : V), X.N[i]? = some x → σ[i]? = some (some v) → Vis X.env.scope x → ∃ u, RelV v u ∧ Look X.env s.heap m x u
  cell : ∀ x c, X.env.cells.lookup x = some c → ∃ v, s.heap.IsCell c v
  free : H X.env.locals = none
  freeC : ∀ x c, X.env.cells.lookup x = some c → H c = none
  pin : ∀ p ∈ X.pn ++ pins, s.heap.get? p.1 = some p.2 ∧ H p.1 = none ∧ p.1 ≠ X.env.locals ∧ p.1 ∉ X.fs ∧ ∀ v, p.2.data ≠ .cell v
  hok : HOk X.prog X.w H s.heap
  len : σ.length = X.N.length

section
variable {X : Cx} {pins : List (Addr × Obj)} {σ : List (Option V)} {H H' : Hp} {s : Shared} {h' : Heap}

theorem Cx.Ok.nofr (ok : X.Ok) {b : Addr} {o : Obj} (e : X.base.get? b = some o) : b ∉ X.fs := fun hb => by
  have := (ok.funs.mem hb).1
  rw [e] at this; cases this
theorem Inv.bs (I : Inv X pins σ H s) : ∀ b o, X.base.get? b = some o → s.heap.get? b = some o ∧ H b = none := fun b o e =>
  ⟨I.base.keep b o (I.ok.bs b o e).1 (I.ok.bs b o e).2 (I.ok.nofr e) (I.ok.noex b o e), I.base.free b o (I.ok.bs b o e).1 (I.ok.bs b o e).2 (I.ok.noex b o e)⟩
theorem Inv.bk (I : Inv X pins σ H s) : ∀ b o, X.base.get? b = some o → s.heap.get? b = some o := fun b o e => (I.bs b o e).1
theorem Inv.mod (I : Inv X pins σ H s) : Mod X.K X.mg X.base := I.ok.mod
theorem Inv.kIn (I : Inv X pins σ H s) : X.K.In s.heap := I.ok.mod.kin.keeps I.bk
theorem Inv.lt (I : Inv X pins σ H s) : X.env.locals < s.heap.objs.size := let ⟨_, hn, _⟩ := I.loc; hn.lt
theorem Inv.sz (I : Inv X pins σ H s) : X.s_0.heap.objs.size ≤ s.heap.objs.size := Nat.le_trans I.ok.above (Nat.le_of_lt I.lt)
theorem Inv.nofs (I : Inv X pins σ H s) {a : Addr} (h : s.heap.objs.size ≤ a) : a ∉ X.fs := fun hb => by
  obtain ⟨_, o, ho, _⟩ := I.ok.funs.mem hb
  exact absurd (Nat.lt_of_lt_of_le (Heap.lt_size ho) (Nat.le_trans I.sz h)) (Nat.lt_irrefl _)
theorem Inv.cne (I : Inv X pins σ H s) : ∀ x c, X.env.cells.lookup x = some c → c ≠ X.env.locals := fun x c e z => by
  obtain ⟨v, o, ho, hd⟩ := I.cell x c e
  obtain ⟨m, ⟨o', es, ep, ho', hd', _⟩, _⟩ := I.loc
  rw [z, ho'] at ho; cases ho; rw [hd'] at hd; cases hd
theorem Inv.funs (I : Inv X pins σ H s) : s.heap.FunFrames X.base X.outer := by
  have all : ∀ (l : List Env), (∀ b ∈ frs l, b ∈ X.fs) → X.s_0.heap.FunFrames X.base l → s.heap.FunFrames X.base l := by
    intro l
    induction l with
    | nil => intro _ _; trivial
    | cons env r ih =>
      intro hs hl
      obtain ⟨hk, ⟨L, o, hf, hn, ho, hd⟩, hr⟩ := hl
      have hL : L ∈ X.fs := hs L (by unfold frs; rw [List.filterMap_cons, hf]; exact List.mem_cons_self)
      obtain ⟨sl, e⟩ := I.base.slot L o ho (I.ok.frf L hL) hL fun z => I.ok.exfs L z hL
      exact ⟨hk, ⟨L, _, hf, hn, e, hd⟩, ih (fun b hb => hs b (by unfold frs; rw [List.filterMap_cons, hf]; exact List.mem_cons_of_mem _ hb)) hr⟩
  exact all X.outer (fun _ hb => hb) I.ok.funs

/-- the frames that run, for a call -/
theorem Inv.stack (I : Inv X pins σ H s) : s.heap.FunFrames X.base X.stack := by
  rcases I.ok.stk with e | ⟨e, hf⟩
  · rw [e]; exact I.funs
  · rw [e]
    obtain ⟨m, hn, _⟩ := I.loc
    refine .cons (by rw [I.ok.kind]; decide) hf hn ?_ I.funs
    exact Heap.get?_none_of_le (Nat.le_trans I.ok.bsz I.ok.above)
theorem Inv.stkSub (I : Inv X pins σ H s) : ∀ b ∈ frs X.stack, b ∈ X.env.locals :: X.fs := fun b hb => by
  rcases I.ok.stk with e | ⟨e, hf⟩
  · rw [e] at hb; exact List.mem_cons_of_mem _ hb
  · rw [e] at hb
    unfold frs at hb
    rw [List.filterMap_cons, hf] at hb
    exact hb
theorem Inv.stkFree (I : Inv X pins σ H s) : ∀ b ∈ frs X.stack, H b = none := fun b hb => by
  rcases List.mem_cons.mp (I.stkSub b hb) with e | hb
  · rw [e]; exact I.free
  · obtain ⟨_, o, ho, _⟩ := I.ok.funs.mem hb
    exact I.base.free b o ho (I.ok.frf b hb) fun z => I.ok.exfs b z hb

/-- THE STEP: the untracked objects but the frame and the records at ch are kept (the callers' frames up to slots), the frame's map is kept, the new abstract heap is held -/
theorem Inv.step {g' : Array GenState} {t' : Nat} {d' : Drawn} {ch : List Addr} (I : Inv X pins σ H s)
    (hch : ∀ b ∈ ch, (b ∈ X.ex ∨ X.s_0.heap.objs.size ≤ b) ∧ b ≠ X.env.locals ∧ (∀ x c, X.env.cells.lookup x = some c → c ≠ b) ∧ ∀ p ∈ X.pn ++ pins, p.1 ≠ b)
    (keep : ∀ b o, b ≠ X.env.locals → b ∉ X.fs → b ∉ ch → s.heap.get? b = some o → H b = none → h'.get? b = some o)
    (slot : ∀ b o, b ≠ X.env.locals → b ∈ X.fs → b ∉ ch → s.heap.get? b = some o → H b = none → ∃ sl, h'.get? b = some { o with slots := sl }) (free : ∀ b o, b ∉ ch → s.heap.get? b = some o → H b = none → H' b = none)
    (there : ∀ b o, b ∉ ch → s.heap.get? b = some o → ∃ o', h'.get? b = some o')
    (tups : ∀ b xs, H b = some (.tup xs) → H' b = some (.tup xs)) (frzs : ∀ b o u, H b = some (.frz o u) → H' b = some (.frz o u)) (tbls : ∀ b ps, H b = some (.tbl ps) → ∃ more, H' b = some (.tbl (ps ++ more)))
    (ns : ∀ m, s.heap.Ns X.env.locals m → h'.Ns X.env.locals m) (hok : HOk X.prog X.w H' h') (hg : AllBare g') :
    Inv X pins σ H' { s with heap := h', gens := g', drawn := d', toks := t' } := by
  have neL : ∀ b o, X.s_0.heap.get? b = some o → b ≠ X.env.locals := fun b o e => Nat.ne_of_lt (Nat.lt_of_lt_of_le (Heap.lt_size e) I.ok.above)
  have neC : ∀ b o, X.s_0.heap.get? b = some o → b ∉ X.ex → b ∉ ch := fun b o e hx hb => by
    rcases (hch b hb).1 with z | z
    · exact hx z
    · exact absurd (Nat.lt_of_lt_of_le (Heap.lt_size e) z) (Nat.lt_irrefl _)
  have cellK : ∀ x c, X.env.cells.lookup x = some c → ∀ v, s.heap.IsCell c v → h'.IsCell c v := fun x c e v ⟨o, ho, hd⟩ => by
    have nch : c ∉ ch := fun z => (hch c z).2.2.1 x c e rfl
    by_cases hc : c ∈ X.fs
    · obtain ⟨sl, q⟩ := slot c o (I.cne x c e) hc nch ho (I.freeC x c e)
      exact ⟨_, q, hd⟩
    · exact ⟨o, keep c o (I.cne x c e) hc nch ho (I.freeC x c e), hd⟩
  refine ⟨I.ok, I.os, hg, ⟨fun b o e n hb hx => ?_, fun b o e n hb hx => ?_, fun b o e n hx => ?_, fun b o e hx => ?_, fun b xs e => tups b xs (I.base.tups b xs e), fun b o xs e => frzs b o xs (I.base.frzs b o xs e), fun b ps e => ?_⟩, ?_, fun x c e => ?_, ?_, fun x c e => ?_, fun p hp => ?_, hok, I.len⟩
  · exact keep b o (neL b o e) hb (neC b o e hx) (I.base.keep b o e n hb hx) (I.base.free b o e n hx)
  · obtain ⟨sl, e1⟩ := I.base.slot b o e n hb hx
    obtain ⟨sl', e2⟩ := slot b _ (neL b o e) hb (neC b o e hx) e1 (I.base.free b o e n hx)
    exact ⟨sl', e2⟩
  · obtain ⟨o', e1⟩ := I.base.there b o e hx
    exact free b o' (neC b o e hx) e1 (I.base.free b o e n hx)
  · obtain ⟨o', e1⟩ := I.base.there b o e hx
    exact there b o' (neC b o e hx) e1
  · obtain ⟨m1, e1⟩ := I.base.tbls b ps e
    obtain ⟨m2, e2⟩ := tbls b _ e1
    exact ⟨m1 ++ m2, by rw [e2, Array.append_assoc]⟩
  · obtain ⟨m, hn, hl⟩ := I.loc
    refine ⟨m, ns m hn, fun i x v e1 e2 e3 => ?_⟩
    obtain ⟨u, r, l⟩ := hl i x v e1 e2 e3
    refine ⟨u, r, ?_⟩
    rcases l with l | ⟨k, c, e, z⟩
    · exact .inl l
    · exact .inr ⟨k, c, e, cellK x c e _ z⟩
  · obtain ⟨v, z⟩ := I.cell x c e
    exact ⟨v, cellK x c e v z⟩
  · obtain ⟨m, ⟨o, _, _, ho, _⟩, _⟩ := I.loc
    exact free _ o (fun z => (hch _ z).2.1 rfl) ho I.free
  · obtain ⟨v, o, ho, hd⟩ := I.cell x c e
    exact free c o (fun z => (hch c z).2.2.1 x c e rfl) ho (I.freeC x c e)
  · obtain ⟨e, n, ne, nf, d⟩ := I.pin p hp
    have nch : p.1 ∉ ch := fun z => (hch p.1 z).2.2.2 p hp rfl
    exact ⟨keep p.1 p.2 ne nf nch e n, free p.1 p.2 nch e n, ne, nf, d⟩
/-- .. where the frame's own object is kept too -/
theorem Inv.un {t' : Nat} (I : Inv X pins σ H s) (u : Un X.fs [] H H' s.heap h') (hok : HOk X.prog X.w H' h') : Inv X pins σ H' { s with heap := h', toks := t' } := by
  obtain ⟨m, ⟨o, es, ep, ho, r⟩, _⟩ := id I.loc
  obtain ⟨sl, hL⟩ := u.any ho I.free (by simp)
  exact I.step (g' := s.gens) (d' := s.drawn) (ch := []) (fun _ z => nomatch z) (fun b o _ hb _ e n => u.keep b o e n hb (by simp)) (fun b o _ hb _ e n => u.slot b o e n hb (by simp)) (fun b o _ e n => u.free b o e n (by simp)) (fun b o _ e => u.there b o e (by simp)) u.tups u.frzs u.tbls (fun m' hm => by
    obtain ⟨o', es', ep', ho', r'⟩ := hm
    rw [ho] at ho'; cases ho'
    exact ⟨_, es', ep', hL, r'⟩) hok I.bare
/-- behind a call (or a comprehension's block): the slots of this frame may have changed too, the records at ch may have turned -/
theorem Inv.call {g' : Array GenState} {t' : Nat} {d' : Drawn} {ch : List Addr} (I : Inv X pins σ H s) (u : Un (frs X.stack) ch H H' s.heap h') (hok : HOk X.prog X.w H' h') (hg : AllBare g')
    (hch : ∀ b ∈ ch, (b ∈ X.ex ∨ X.s_0.heap.objs.size ≤ b) ∧ b ≠ X.env.locals ∧ (∀ x c, X.env.cells.lookup x = some c → c ≠ b) ∧ ∀ p ∈ X.pn ++ pins, p.1 ≠ b) :
    Inv X pins σ H' { s with heap := h', gens := g', drawn := d', toks := t' } := by
  obtain ⟨m, ⟨o, es, ep, ho, r⟩, _⟩ := id I.loc
  obtain ⟨sl, hL⟩ := u.any ho I.free fun z => (hch _ z).2.1 rfl
  exact I.step (ch := ch) hch (fun b o hL hb hc e n => u.keep b o e n (fun z => (List.mem_cons.mp (I.stkSub b z)).elim hL hb) hc) (fun b o _ _ hc e n => u.any e n hc) (fun b o hc e n => u.free b o e n hc) (fun b o hc e => u.there b o e hc) u.tups u.frzs u.tbls (fun m' hm => by
    obtain ⟨o', es', ep', ho', r'⟩ := hm
    rw [ho] at ho'; cases ho'
    exact ⟨_, es', ep', hL, r'⟩) hok hg
/-- an untracked record of ours (an iterator) has turned -/
theorem Inv.turned {t' : Nat} {it : Addr} (I : Inv X pins σ H s) (k : ∀ b o, b ≠ it → s.heap.get? b = some o → h'.get? b = some o) (hn : H it = none) (hL : it ≠ X.env.locals)
    (h1 : it ∈ X.ex ∨ X.s_0.heap.objs.size ≤ it) (h2 : ∀ x c, X.env.cells.lookup x = some c → c ≠ it) (h3 : ∀ p ∈ X.pn ++ pins, p.1 ≠ it) : Inv X pins σ H { s with heap := h', toks := t' } := by
  have nit : ∀ b u, H b = some u → b ≠ it := fun b u e z => by rw [z, hn] at e; cases e
  refine I.step (g' := s.gens) (d' := s.drawn) (ch := [it]) (fun b hb => ?_) (fun b o _ _ hc e _ => k b o (fun z => hc (by simp [z])) e) (fun b o _ _ hc e _ => ⟨o.slots, k b o (fun z => hc (by simp [z])) e⟩) (fun _ _ _ _ n => n)
    (fun b o hc e => ⟨o, k b o (fun z => hc (by simp [z])) e⟩) (fun _ _ e => e) (fun _ _ _ e => e) (fun b ps e => ⟨#[], by rw [e]; simp⟩) (fun m hm => ?_) (fun b u e => ?_) I.bare
  · have e : b = it := by simpa using hb
    subst e
    exact ⟨h1, hL, h2, h3⟩
  · obtain ⟨o, es, ep, ho, r⟩ := hm
    exact ⟨o, es, ep, k _ o (Ne.symm hL) ho, r⟩
  · refine (I.hok b u e).stay (fun c v hc q => k c v ?_ q) (fun _ q => q) fun _ _ q => q
    rcases hc with z | z
    · rw [z]; exact nit b u e
    · exact nit c _ z
theorem Inv.tok (I : Inv X pins σ H s) (t : Nat) : Inv X pins σ H { s with toks := t } := I.un (h' := s.heap) (t' := t) Un.refl I.hok
/-- all objects kept -/
theorem Inv.kept {t' : Nat} (I : Inv X pins σ H s) (k : ∀ b u, s.heap.get? b = some u → h'.get? b = some u) : Inv X pins σ H { s with heap := h', toks := t' } := I.un (Un.kept k) (I.hok.kept k)
/-- a new object laid and tracked -/
theorem Inv.laid {a : Addr} {o : HO} {t' : Nat} (I : Inv X pins σ H s) (k : ∀ b u, s.heap.get? b = some u → h'.get? b = some u) (hp : s.heap.objs.size ≤ a) (new : ObjOk X.prog X.w (upd H a o) h' a o) :
    Inv X pins σ (upd H a o) { s with heap := h', toks := t' } := I.un (Un.laid k hp (I.hok.fresh hp)) (I.hok.laid k hp new)
/-- an object written -/
theorem Inv.write {x e : Addr} {o : HO} {t' : Nat} (I : Inv X pins σ H s) (mu : Mut (H x)) (he : e = x ∨ H e = some (.own x)) (k : ∀ b u, b ≠ e → s.heap.get? b = some u → h'.get? b = some u) (heo : ∃ u, h'.get? e = some u)
    (new : ObjOk X.prog X.w (upd H x o) h' x o) : Inv X pins σ (upd H x o) { s with heap := h', toks := t' } := I.un (Un.write mu he k heo) (I.hok.write mu he k heo new)
/-- forgetting slots, pins -/
theorem Inv.weak {σ' : List (Option V)} (I : Inv X pins σ H s) (hl : σ'.length = σ.length) (w : ∀ (i : Nat) v, σ'[i]? = some (some v) → σ[i]? = some (some v)) : Inv X pins σ' H s :=
  ⟨I.ok, I.os, I.bare, I.base, let ⟨m, hn, hl'⟩ := I.loc; ⟨m, hn, fun i x v e1 e2 e3 => hl' i x v e1 (w i v e2) e3⟩, I.cell, I.free, I.freeC, I.pin, I.hok, hl.trans I.len⟩
theorem Inv.pins_of {pins' : List (Addr × Obj)} (I : Inv X pins σ H s) (h : ∀ p ∈ pins', s.heap.get? p.1 = some p.2 ∧ H p.1 = none ∧ p.1 ≠ X.env.locals ∧ p.1 ∉ X.fs ∧ ∀ v, p.2.data ≠ .cell v) : Inv X pins' σ H s :=
  ⟨I.ok, I.os, I.bare, I.base, I.loc, I.cell, I.free, I.freeC, fun p hp => (List.mem_append.mp hp).elim (fun z => I.pin p (List.mem_append_left _ z)) (h p), I.hok, I.len⟩

theorem nodup_ix {N : List Str} (hN : N.Nodup) {i j : Nat} {x : Str} (a : N[i]? = some x) (b : N[j]? = some x) : i = j := by
  obtain ⟨h1, e1⟩ := List.getElem?_eq_some_iff.mp a
  obtain ⟨h2, e2⟩ := List.getElem?_eq_some_iff.mp b
  exact (List.getElem_inj hN).mp (e1.trans e2.symm)

/-- a name is stored; what changed -/
theorem store_ok2 {M : Model} {A : Around} {E : Value → Shared → Prop} {i : Nat} {x : Str} {v : V} {u : Value} {Q : Unit → Shared → Prop} (I : Inv X pins σ H s) (hN : X.N.Nodup) (hi : X.N[i]? = some x) (hx : Loc X.env.scope x) (r : RelV v u)
    (h : ∀ s', Inv X pins (σ.set i (some v)) H s' → (∃ a, Heap.SameBut a s.heap s'.heap ∧ (a = X.env.locals ∨ X.env.cells.lookup x = some a)) → Q () s') (hf : X.fn x = true ∨ X.env.scope.names.lookup x = some .local := by first | exact .inl rfl | exact .inr rfl | assumption) : wpAny M A (storeName X.env x u) Q E s := by
  obtain ⟨m, hn, hl⟩ := id I.loc
  have hcls : (X.env.scope.kind == .class || (X.env.scope.kind == .module && X.env.locals != X.env.globals)) = false := by rw [I.ok.kind]; rfl
  have hiσ : i < σ.length := by rw [I.len]; exact (List.getElem?_eq_some_iff.mp hi).1
  have cne := I.cne
  have tracked : ∀ {a : Addr} {h' : Heap}, (∃ o, s.heap.get? a = some o ∧ H a = none) → Heap.SameBut a s.heap h' → HOk X.prog X.w H h' := fun {a h'} ha hs b ob e => by
    obtain ⟨_, _, hfree⟩ := ha
    refine (I.hok b ob e).stay (fun c w' hc q => (hs.2 c ?_).trans q) (fun _ q => q) fun _ _ q => q
    rintro rfl
    rcases hc with rfl | hc
    · rw [hfree] at e; cases e
    · rw [hfree] at hc; cases hc
  rcases hx with hk | hk
  · refine wpAny_storeName_local hk hn (fun h' hn' hs => ?_) hcls
    obtain ⟨oL, _, _, hoL, _⟩ := id hn
    refine h _ ⟨I.ok, I.os, I.bare, ⟨fun b o e n hb hx => ?_, fun b o e n hb hx => ?_, I.base.free, fun b o e hx => ?_, I.base.tups, I.base.frzs, I.base.tbls⟩, ⟨_, hn', fun j y v' e1 e2 e3 => ?_⟩, fun y c e => ?_, I.free, I.freeC, fun p hp => ?_, tracked ⟨oL, hoL, I.free⟩ hs, by simpa using I.len⟩ ⟨_, hs, .inl rfl⟩
    · exact (hs.2 b (Nat.ne_of_lt (Nat.lt_of_lt_of_le (Heap.lt_size e) I.ok.above))).trans (I.base.keep b o e n hb hx)
    · obtain ⟨sl, e1⟩ := I.base.slot b o e n hb hx
      exact ⟨sl, (hs.2 b (Nat.ne_of_lt (Nat.lt_of_lt_of_le (Heap.lt_size e) I.ok.above))).trans e1⟩
    · obtain ⟨o', e1⟩ := I.base.there b o e hx
      exact ⟨o', (hs.2 b (Nat.ne_of_lt (Nat.lt_of_lt_of_le (Heap.lt_size e) I.ok.above))).trans e1⟩
    · by_cases hj : j = i
      · subst hj
        rw [hi] at e1; cases e1
        rw [List.getElem?_set_self hiσ] at e2
        cases e2
        exact ⟨u, r, .inl ⟨hk, by simp⟩⟩
      · rw [List.getElem?_set_ne (Ne.symm hj)] at e2
        obtain ⟨u', r', q⟩ := hl j y v' e1 e2 e3
        refine ⟨u', r', ?_⟩
        rcases q with ⟨k, e⟩ | ⟨k, c, e, z⟩
        · refine .inl ⟨k, ?_⟩
          have : y ≠ x := fun e => hj (nodup_ix hN e1 (e ▸ hi))
          simp [this, e]
        · exact .inr ⟨k, c, e, z.sameBut hs (cne y c e)⟩
    · obtain ⟨w', z⟩ := I.cell y c e
      exact ⟨w', z.sameBut hs (cne y c e)⟩
    · obtain ⟨e, n, ne, nf, d⟩ := I.pin p hp
      exact ⟨(hs.2 p.1 ne).trans e, n, ne, nf, d⟩
  · have hfn : X.fn x = true := by
      rcases hf with z | z
      · exact z
      · rw [z] at hk; cases hk
    obtain ⟨c, hc⟩ := I.ok.has x (.inl hk)
    obtain ⟨w', z⟩ := I.cell x c hc
    refine wpAny_storeName_cell I.ok.kind hk hc z (fun h' hc' hs => ?_)
    obtain ⟨oc, hoc, hocd⟩ := id z
    refine h { s with heap := h' } ⟨I.ok, I.os, I.bare, ⟨fun b o e n hb hx => ?_, fun b o e n hb hx => ?_, I.base.free, fun b o e hx => ?_, I.base.tups, I.base.frzs, I.base.tbls⟩, ⟨m, hn.sameBut hs (Ne.symm (cne x c hc)), fun j y v' e1 e2 e3 => ?_⟩, fun y c' e => ?_, I.free, I.freeC, fun p hp => ?_, tracked ⟨oc, hoc, I.freeC x c hc⟩ hs, by simpa using I.len⟩ ⟨c, hs, .inr hc⟩
    · exact (hs.2 b (Nat.ne_of_lt (Nat.lt_of_lt_of_le (Heap.lt_size e) (I.ok.cab x c hfn hc)))).trans (I.base.keep b o e n hb hx)
    · obtain ⟨sl, e1⟩ := I.base.slot b o e n hb hx
      exact ⟨sl, (hs.2 b (Nat.ne_of_lt (Nat.lt_of_lt_of_le (Heap.lt_size e) (I.ok.cab x c hfn hc)))).trans e1⟩
    · obtain ⟨o', e1⟩ := I.base.there b o e hx
      exact ⟨o', (hs.2 b (Nat.ne_of_lt (Nat.lt_of_lt_of_le (Heap.lt_size e) (I.ok.cab x c hfn hc)))).trans e1⟩
    · by_cases hj : j = i
      · subst hj
        rw [hi] at e1; cases e1
        rw [List.getElem?_set_self hiσ] at e2
        cases e2
        exact ⟨u, r, .inr ⟨.inl hk, c, hc, hc'⟩⟩
      · rw [List.getElem?_set_ne (Ne.symm hj)] at e2
        obtain ⟨u', r', q⟩ := hl j y v' e1 e2 e3
        refine ⟨u', r', ?_⟩
        rcases q with q | ⟨k, c', e, z'⟩
        · exact .inl q
        · refine .inr ⟨k, c', e, z'.sameBut hs ?_⟩
          rintro rfl
          exact hj (nodup_ix hN e1 (I.ok.inj _ _ _ e hc ▸ hi))
    · by_cases hcc : c' = c
      · subst hcc; exact ⟨_, hc'⟩
      · obtain ⟨w2, z2⟩ := I.cell y c' e
        exact ⟨w2, z2.sameBut hs hcc⟩
    · obtain ⟨e, n, ne, nf, d⟩ := I.pin p hp
      refine ⟨(hs.2 p.1 ?_).trans e, n, ne, nf, d⟩
      intro q
      rw [q, hoc] at e
      have q' : oc = p.2 := Option.some.inj e
      exact d w' (by rw [← q']; exact hocd)
theorem store_ok {M : Model} {A : Around} {E : Value → Shared → Prop} {i : Nat} {x : Str} {v : V} {u : Value} {Q : Unit → Shared → Prop} (I : Inv X pins σ H s) (hN : X.N.Nodup) (hi : X.N[i]? = some x) (hx : Loc X.env.scope x) (r : RelV v u)
    (h : ∀ s', Inv X pins (σ.set i (some v)) H s' → Q () s') (hf : X.fn x = true ∨ X.env.scope.names.lookup x = some .local := by first | exact .inl rfl | exact .inr rfl | assumption) : wpAny M A (storeName X.env x u) Q E s :=
  store_ok2 I hN hi hx r (fun s' I' _ => h s' I') hf
/-- behind a call or a block, the state as it is -/
theorem Inv.call' {s' : Shared} {ch : List Addr} (I : Inv X pins σ H s) (ho : s'.os = s.os) (u : Un (frs X.stack) ch H H' s.heap s'.heap) (hok : HOk X.prog X.w H' s'.heap) (hg : AllBare s'.gens)
    (hch : ∀ b ∈ ch, (b ∈ X.ex ∨ X.s_0.heap.objs.size ≤ b) ∧ b ≠ X.env.locals ∧ (∀ x c, X.env.cells.lookup x = some c → c ≠ b) ∧ ∀ p ∈ X.pn ++ pins, p.1 ≠ b) : Inv X pins σ H' s' := by
  obtain ⟨h', g', d', t', o'⟩ := s'
  have e : o' = s.os := ho
  subst e
  exact I.call (g' := g') (t' := t') (d' := d') u hok hg hch
end

/-! ### the judgements -/
/-- an exception: its class, its own dict's address (where it has one), the abstract heap behind it -/
abbrev XK := Value → Option Addr → Hp → Prop
abbrev St := List (Option V)
abbrev VK := V → Hp → Prop
/-- an expression's reading; a test's; an argument list's -/
abbrev TE := St → Hp → VK → Prop
abbrev TT := St → Hp → (Bool → Hp → Prop) → Prop
abbrev TA := St → Hp → (List V → Hp → Prop) → Prop
/-- what is wanted behind a statement -/
structure Ends where
  nx : St → Hp → Prop
  rt : VK
  bk : St → Hp → Prop := fun _ _ => False
  ct : St → Hp → Prop := fun _ _ => False
abbrev TS := Ends → St → Hp → Prop

def EP (X : Cx) (pins : List (Addr × Obj)) (σ : St) (Q : VK) (u : Value) (s' : Shared) : Prop := ∃ v H', Inv X pins σ H' s' ∧ RelV v u ∧ Q v H'
def TP (X : Cx) (pins : List (Addr × Obj)) (σ : St) (Q : Bool → Hp → Prop) (b : Bool) (s' : Shared) : Prop := ∃ H', Inv X pins σ H' s' ∧ Q b H'
def AP (X : Cx) (pins : List (Addr × Obj)) (σ : St) (Q : List V → Hp → Prop) (us : List Value) (s' : Shared) : Prop := ∃ vs H', Inv X pins σ H' s' ∧ Vals vs us ∧ Q vs H'
def SP (X : Cx) (pins : List (Addr × Obj)) (D : Ends) (f : Flow) (s' : Shared) : Prop :=
  match f with
  | .next => ∃ σ' H', Inv X pins σ' H' s' ∧ D.nx σ' H'
  | .brk => ∃ σ' H', Inv X pins σ' H' s' ∧ D.bk σ' H'
  | .cont => ∃ σ' H', Inv X pins σ' H' s' ∧ D.ct σ' H'
  | .ret u => ∃ v σ' H', Inv X pins σ' H' s' ∧ RelV v u ∧ D.rt v H'

def PE (X : Cx) (e : Expr) (t : TE) : Prop :=
  ∀ (pins : List (Addr × Obj)) (s : Shared) (σ : St) (H : Hp) (Q : VK), Inv X pins σ H s → t σ H Q → wpAny (model X.prog X.w) X.A (eval e X.env) (EP X pins σ Q) X.xe s
def PT (X : Cx) (e : Expr) (t : TT) : Prop :=
  ∀ (pins : List (Addr × Obj)) (s : Shared) (σ : St) (H : Hp) (Q : Bool → Hp → Prop), Inv X pins σ H s → t σ H Q → wpAny (model X.prog X.w) X.A (isTrue e X.env (eval e X.env)) (TP X pins σ Q) X.xe s
/-- a test whatever its 'whole' is (and, or) -/
def PW (X : Cx) (e : Expr) (t : TT) : Prop :=
  ∀ (whole : Sem Value) (pins : List (Addr × Obj)) (s : Shared) (σ : St) (H : Hp) (Q : Bool → Hp → Prop), Inv X pins σ H s → t σ H Q → wpAny (model X.prog X.w) X.A (isTrue e X.env whole) (TP X pins σ Q) X.xe s
theorem PW.pt {X : Cx} {e : Expr} {t : TT} (h : PW X e t) : PT X e t := h _
/-- an argument list (no star), from the left -/
def PA (X : Cx) (es : List Expr) (t : TA) : Prop :=
  ∀ (pos : Pos) (pins : List (Addr × Obj)) (s : Shared) (σ : St) (H : Hp) (Q : List V → Hp → Prop), Inv X pins σ H s → t σ H Q → wpAny (model X.prog X.w) X.A (spliced (backTo pos (starEach es X.env))) (AP X pins σ Q) X.xe s
def PS (X : Cx) (st : Stmt) (t : TS) : Prop :=
  ∀ (pins : List (Addr × Obj)) (s : Shared) (σ : St) (H : Hp) (D : Ends), Inv X pins σ H s → t D σ H → wpAny (model X.prog X.w) X.A (exec st X.env) (SP X pins D) X.xe s
def PSs (X : Cx) (st : List Stmt) (t : TS) : Prop :=
  ∀ (pins : List (Addr × Obj)) (s : Shared) (σ : St) (H : Hp) (D : Ends), Inv X pins σ H s → t D σ H → wpAny (model X.prog X.w) X.A (execs st X.env) (SP X pins D) X.xe s
/-- weaken the end -/
theorem thn {α : Type} {t : Sem α} {Q Q' : α → Shared → Prop} {M : Model} {A : Around} {E : Value → Shared → Prop} {s : Shared} (h : wpAny M A t Q E s) (hQ : ∀ a s, Q a s → Q' a s) : wpAny M A t Q' E s := wpAny_mono h hQ fun _ _ x => x
end L2

namespace L2
open PySem PySem.Spec PyProof.Rows
section
variable {X : Cx}

/-! ### names and constants -/
def tVar (i : Nat) : TE := fun σ H Q => ∃ v, σ[i]? = some (some v) ∧ Q v H
def tC (v : V) : TE := fun _ H Q => Q v H
theorem pe_var {i : Nat} {x : Str} {pos : Pos} (hN : X.N[i]? = some x) (hv : Vis X.env.scope x) (hd : (x == ("__debug__" : Str)) = false := by decide) (hcd : (x == ("__classdict__" : Str)) = false := by decide) : PE X (.Name x pos) (tVar i) := by
  intro pins s σ H Q I h
  obtain ⟨v, e, h⟩ := h
  obtain ⟨m, hn, hl⟩ := I.loc
  obtain ⟨u, r, l⟩ := hl i x v hN e hv
  have fin : EP X pins σ Q u s := ⟨v, H, I, r, h⟩
  rcases l with ⟨hk, hm⟩ | ⟨hk, c, hc, hcell⟩
  · exact wpAny_Name (wpAny_loadName_local I.ok.kind hk hn hm fin) hd
  · rcases hk with hk | hk
    · exact wpAny_Name (wpAny_loadName_cell I.ok.kind hk hc hcell fin) hd
    · exact wpAny_Name (wpAny_loadName_free I.ok.kind hk hc hcell fin hcd) hd
theorem pe_int {i j pos} : PE X (.Constant (.int i) j pos) (tC (.int i)) := fun _ _ _ H _ I h => wpAny_Constant_int ⟨.int i, H, I.tok _, ⟨_, rfl⟩, h⟩
theorem pe_non {j pos} : PE X (.Constant .none j pos) (tC .non) := fun _ _ _ H _ I h => Constant_none ⟨.non, H, I, rfl, h⟩
theorem pe_str {x j pos} : PE X (.Constant (.str x) j pos) (tC (.str x)) := fun _ _ _ H _ I h => Calls.Constant_str ⟨.str x, H, I.tok _, ⟨_, rfl⟩, h⟩

/-- a global name of the def -/
def Gl (X : Cx) (x : Str) : Prop := X.env.kindOf x = some .globalImplicit
theorem ld_glob {E : Value → Shared → Prop} {pins : List (Addr × Obj)} {s : Shared} {σ : St} {H : Hp} {x : Str} {u : Value} {pos : Pos} {Q : Value → Shared → Prop} (I : Inv X pins σ H s) (hg : Gl X x) (hm : X.mg x = some u) (h : Q u s)
    (hd : (x == ("__debug__" : Str)) = false := by decide) : wpAny (model X.prog X.w) X.A (eval (.Name x pos) X.env) Q E s :=
  Calls.Name_function_global I.ok.kind hg (Calls.loadGlobal_global (by rw [I.ok.glob]; exact I.mod.glob.keeps I.bk) hm h) hd
theorem ld_blt {E : Value → Shared → Prop} {pins : List (Addr × Obj)} {s : Shared} {σ : St} {H : Hp} {x : Str} {u : Value} {pos : Pos} {Q : Value → Shared → Prop} (I : Inv X pins σ H s) (hg : Gl X x) (hm : X.mg x = none) (hv : bootBuiltins x = some u) (h : Q u s)
    (hn : x ≠ "__name__" := by decide) (hd : (x == ("__debug__" : Str)) = false := by decide) : wpAny (model X.prog X.w) X.A (eval (.Name x pos) X.env) Q E s := by
  obtain ⟨mb, h1, h2⟩ := I.mod.blt
  exact Calls.Name_function_global I.ok.kind hg (Calls.loadGlobal_builtin (by rw [I.ok.glob]; exact I.mod.glob.keeps I.bk) hm (by rw [I.ok.blt]; exact h1.keeps I.bk) ((h2 x hn).trans hv) h) hd
/-- a module's constant, a class, a function, as a value -/
theorem pe_glob {x : Str} {v : V} {u : Value} {pos : Pos} (hg : Gl X x) (hm : X.mg x = some u) (r : RelV v u) (hd : (x == ("__debug__" : Str)) = false := by decide) : PE X (.Name x pos) (tC v) :=
  fun _ _ _ H _ I h => ld_glob I hg hm ⟨v, H, I, r, h⟩ hd
/-! ### arithmetic -/
variable {a b : Expr} {ta tb : TE} {pos : Pos}
/-! ### comparisons -/
def PC (X : Cx) (op : CmpOp) (a b : Expr) (t : TE) : Prop :=
  ∀ (pins : List (Addr × Obj)) (s : Shared) (σ : St) (H : Hp) (Q : VK), Inv X pins σ H s → t σ H Q →
    wpAny (model X.prog X.w) X.A (eval a X.env) (fun v s₁ => wpAny (model X.prog X.w) X.A (eval b X.env) (fun u s₂ => wpAny (model X.prog X.w) X.A (compareOp op v u) (EP X pins σ Q) X.xe s₂) X.xe s₁) X.xe s
theorem nobehind (b : Expr) {op : CmpOp} (h : op ≠ .In) (h2 : op ≠ .NotIn) : behindInMarks op b = false := by
  have e1 : (op == CmpOp.In) = false := by cases op <;> first | rfl | exact absurd rfl h
  have e2 : (op == CmpOp.NotIn) = false := by cases op <;> first | rfl | exact absurd rfl h2
  cases b <;> simp [behindInMarks, e1, e2]
/-- is None -/
def tIsN (ta : TE) : TE := fun σ H Q => ta σ H fun x H1 => Q (.bl (decide (x = .non))) H1
theorem RelV.none_iff {x : V} {v : Value} (r : RelV x v) : (v == Value.none) = decide (x = .non) := by
  cases x with
  | non => cases r; rfl
  | bl _ => cases r; rfl
  | int _ => obtain ⟨t, rfl⟩ := r; rfl
  | str _ => obtain ⟨t, rfl⟩ := r; rfl
  | byt _ => obtain ⟨t, rfl⟩ := r; rfl
  | flt _ => obtain ⟨t, rfl⟩ := r; rfl
  | ref _ => cases r; rfl
  | ty _ => cases r; rfl
theorem pc_isN {j pos'} (ha : PE X a ta) : PC X .Is a (.Constant .none j pos') (tIsN ta) := by
  intro pins s σ H Q I h
  refine thn (ha pins s σ H _ I h) fun v s1 ⟨x, H1, I1, r1, q1⟩ => ?_
  exact Constant_none (is_none_gen ⟨.bl _, H1, I1, by rw [r1.none_iff]; rfl, q1⟩)
/-- a comparison as a value, as a test -/
def tB (t : TE) : TT := fun σ H Q => t σ H fun x H1 => ∃ c, x = .bl c ∧ Q c H1
theorem pt_cmp {op : CmpOp} {t : TE} (h : PC X op a b t) (h1 : behindInMarks op b = false := by first | exact nobehind _ (by decide) (by decide) | rfl) : PT X (.Compare a [op] [b] pos) (tB t) := by
  intro pins s σ H Q I hw
  refine wpAny_isTrue_Compare1 (thn (h pins s σ H _ I hw) fun v s1 h1 => thn h1 fun u s2 h2 => thn h2 fun c s3 ⟨x, H1, I1, r1, q1⟩ => ?_) h1
  obtain ⟨d, rfl, q⟩ := q1
  cases r1
  exact wpAny_truthy_bool ⟨H1, I1, q⟩
/-! ### and, or, not -/
variable {tA tB' : TT} {rest : List Expr}
def tAnd (t u : TT) : TT := fun σ H Q => t σ H fun c H1 => if c = true then u σ H1 Q else Q false H1
def tOr (t u : TT) : TT := fun σ H Q => t σ H fun c H1 => if c = true then Q true H1 else u σ H1 Q
theorem pw_and1 (ha : PT X a tA) : PW X (.BoolOp .And [a] pos) tA := by
  intro wh pins s σ H Q I h
  refine isTrue_and (thn (ha pins s σ H Q I h) fun c s1 e => ?_)
  cases c with
  | true => exact isTrue_and_nil e
  | false => exact e
theorem pw_or1 (ha : PT X a tA) : PW X (.BoolOp .Or [a] pos) tA := by
  intro wh pins s σ H Q I h
  refine isTrue_or (thn (ha pins s σ H Q I h) fun c s1 e => ?_)
  cases c with
  | false => exact isTrue_or_nil e
  | true => exact e
theorem pw_and (ha : PT X a tA) (hb : PW X (.BoolOp .And (b :: rest) pos) tB') : PW X (.BoolOp .And (a :: b :: rest) pos) (tAnd tA tB') := by
  intro wh pins s σ H Q I h
  refine isTrue_and (thn (ha pins s σ H _ I h) fun c s1 ⟨H1, I1, q1⟩ => ?_)
  cases c with
  | true => exact hb wh pins s1 σ H1 Q I1 q1
  | false => exact ⟨H1, I1, q1⟩
theorem pw_or (ha : PT X a tA) (hb : PW X (.BoolOp .Or (b :: rest) pos) tB') : PW X (.BoolOp .Or (a :: b :: rest) pos) (tOr tA tB') := by
  intro wh pins s σ H Q I h
  refine isTrue_or (thn (ha pins s σ H _ I h) fun c s1 ⟨H1, I1, q1⟩ => ?_)
  cases c with
  | true => exact ⟨H1, I1, q1⟩
  | false => exact hb wh pins s1 σ H1 Q I1 q1
end
end L2

namespace L2
open PySem PySem.Spec PyProof.Rows

/-! ### a list, a tuple that is read: tracked, frozen, or an object of the module -/
def SqL (K : PySem.W.Frag) (H : Hp) (a : Addr) (xs : List V) : Prop :=
  Rd H a (.lst xs) ∨
    ∃ (o : Obj) (its : Array Value) (n : Nat), K.lookup a = some o ∧ o.cls = .type "list" ∧ o.dict = none ∧ o.data = .seq its n ∧ its.size ≤ sizeLine ∧ Vals xs its.toList
def SqT (K : PySem.W.Frag) (H : Hp) (a : Addr) (xs : List V) : Prop :=
  Rd H a (.tup xs) ∨
    ∃ (o : Obj) (its : Array Value) (n : Nat), K.lookup a = some o ∧ o.cls = .type "tuple" ∧ o.data = .seq its n ∧ its.size ≤ sizeLine ∧ Vals xs its.toList
def absV : Value → Option V
  | .none => some .non
  | .bool b => some (.bl b)
  | .int i _ => some (.int i)
  | .str x _ => some (.str x)
  | .bytes b _ => some (.byt b)
  | .float b _ => some (.flt b)
  | .ref a => some (.ref a)
  | .type n => some (.ty n)
  | _ => none
theorem RelV.abs {x : V} {u : Value} (r : RelV x u) : absV u = some x := by
  cases x with
  | non => cases r; rfl
  | bl _ => cases r; rfl
  | int _ => obtain ⟨t, rfl⟩ := r; rfl
  | str _ => obtain ⟨t, rfl⟩ := r; rfl
  | byt _ => obtain ⟨t, rfl⟩ := r; rfl
  | flt _ => obtain ⟨t, rfl⟩ := r; rfl
  | ref _ => cases r; rfl
  | ty _ => cases r; rfl
theorem RelV.inj {x y : V} {u : Value} (r : RelV x u) (q : RelV y u) : x = y := Option.some.inj (r.abs.symm.trans q.abs)
theorem Vals.inj : ∀ {xs ys : List V} {us : List Value}, Vals xs us → Vals ys us → xs = ys
  | _, _, _, .nil, .nil => rfl
  | _, _, _, .cons r t, .cons r' t' => by rw [r.inj r', Vals.inj t t']
section
variable {X : Cx} {pins : List (Addr × Obj)} {σ : St} {H : Hp} {s : Shared} {a : Addr} {xs ys : List V}
theorem SqL.of {K : PySem.W.Frag} (h : H a = some (.lst xs)) : SqL K H a xs := .inl (.inl h)
theorem SqT.of {K : PySem.W.Frag} (h : H a = some (.tup xs)) : SqT K H a xs := .inl (.inl h)
theorem Inv.list (I : Inv X pins σ H s) (h : SqL X.K H a xs) : ∃ its : List Value, Vals xs its ∧ PlainL s.heap a its.toArray ∧ xs.length ≤ sizeLine := by
  rcases h with h | ⟨o, its, n, hk, hc, hd, hs, hz, r⟩
  · obtain ⟨z, its, n, r, e⟩ := h.ok I.hok
    exact ⟨its, r, ⟨_, n, e, rfl, rfl, rfl⟩, z⟩
  · refine ⟨its.toList, r, ⟨o, n, I.kIn a o hk, hc, hd, by simpa using hs⟩, ?_⟩
    have e := r.length
    simp only [Array.length_toList] at e
    omega
theorem Inv.tuple (I : Inv X pins σ H s) (h : SqT X.K H a xs) : ∃ its : List Value, Vals xs its ∧ IsTup s.heap a its.toArray ∧ xs.length ≤ sizeLine := by
  rcases h with h | ⟨o, its, n, hk, hc, hs, hz, r⟩
  · obtain ⟨z, its, r, p⟩ := h.ok I.hok
    exact ⟨its, r, p, z⟩
  · refine ⟨its.toList, r, ⟨o, I.kIn a o hk, hc, n, by simpa using hs⟩, ?_⟩
    have e := r.length
    simp only [Array.length_toList] at e
    omega
theorem Inv.list_inj (I : Inv X pins σ H s) (h : SqL X.K H a xs) (h' : SqL X.K H a ys) : xs = ys := by
  obtain ⟨its, r, ⟨o, n, e, _, _, d⟩, _⟩ := I.list h
  obtain ⟨its', r', ⟨o', n', e', _, _, d'⟩, _⟩ := I.list h'
  rw [e] at e'; cases e'
  rw [d] at d'
  injection d' with d1 _
  have : its = its' := by simpa using congrArg Array.toList d1
  subst this
  exact r.inj r'
end

/-! ### another wish about exceptions -/
abbrev Cx.wish (X : Cx) (E : Value → Shared → Prop) : Cx := { X with xe := E }
/-- no exception leaves -/
abbrev Cx.nox (X : Cx) : Cx := X.wish fun _ _ => False
theorem Cx.Ok.wish {X : Cx} (ok : X.Ok) (E : Value → Shared → Prop) : (X.wish E).Ok :=
  ⟨ok.mod, ok.kind, ok.glob, ok.blt, ok.above, ok.inj, ok.has, ok.cab, ok.hd, ok.frames, ok.stk, ok.exf, ok.bs, ok.bsz, ok.noex, ok.exfs, ok.funs, ok.frf⟩
theorem Cx.Ok.unwish {X : Cx} {E : Value → Shared → Prop} (ok : (X.wish E).Ok) : X.Ok :=
  ⟨ok.mod, ok.kind, ok.glob, ok.blt, ok.above, ok.inj, ok.has, ok.cab, ok.hd, ok.frames, ok.stk, ok.exf, ok.bs, ok.bsz, ok.noex, ok.exfs, ok.funs, ok.frf⟩
section
variable {X : Cx} {pins : List (Addr × Obj)} {σ : St} {H : Hp} {s : Shared} {E : Value → Shared → Prop}
theorem Inv.wish (I : Inv X pins σ H s) (E : Value → Shared → Prop) : Inv (X.wish E) pins σ H s := ⟨I.ok.wish E, I.os, I.bare, I.base, I.loc, I.cell, I.free, I.freeC, I.pin, I.hok, I.len⟩
theorem Inv.unwish (I : Inv (X.wish E) pins σ H s) : Inv X pins σ H s := ⟨I.ok.unwish, I.os, I.bare, I.base, I.loc, I.cell, I.free, I.freeC, I.pin, I.hok, I.len⟩
theorem SP.unwish {D : Ends} {f : Flow} {s' : Shared} (h : SP (X.wish E) pins D f s') : SP X pins D f s' := by
  cases f with
  | next => obtain ⟨σ', H', I, q⟩ := h; exact ⟨σ', H', I.unwish, q⟩
  | brk => obtain ⟨σ', H', I, q⟩ := h; exact ⟨σ', H', I.unwish, q⟩
  | cont => obtain ⟨σ', H', I, q⟩ := h; exact ⟨σ', H', I.unwish, q⟩
  | ret u => obtain ⟨v, σ', H', I, r, q⟩ := h; exact ⟨v, σ', H', I.unwish, r, q⟩
theorem PSs.nox {st : List Stmt} {t : TS} (h : PSs X.nox st t) : PSs X st t := fun pins s σ H D I hw =>
  wpAny_mono (h pins s σ H D (I.wish _) hw) (fun _ _ q => q.unwish) fun _ _ z => False.elim z
end

/-! ### blocks and small statements -/
section
variable {X : Cx} {st : Stmt} {rest : List Stmt} {t u : TS} {e : Expr} {te : TE} {pos : Pos}
def tNext : TS := fun D σ H => D.nx σ H
def tSeq (t u : TS) : TS := fun D σ H => t { D with nx := u D } σ H
theorem pss_nil : PSs X [] tNext := fun _ _ σ H _ I h => wpAny_execs_nil ⟨σ, H, I, h⟩
theorem pss_cons (h1 : PS X st t) (h2 : PSs X rest u) : PSs X (st :: rest) (tSeq t u) := by
  intro pins s σ H D I h
  refine wpAny_execs_cons (thn (h1 pins s σ H { D with nx := u D } I h) fun f s1 q => ?_)
  cases f with
  | next =>
    obtain ⟨σ', H', I', q⟩ := q
    exact h2 pins s1 σ' H' D I' q
  | ret v => exact q
  | brk => exact q
  | cont => exact q
theorem pss_one (h1 : PS X st t) : PSs X [st] t := by
  intro pins s σ H D I h
  refine wpAny_execs_cons (thn (h1 pins s σ H D I h) fun f s1 q => ?_)
  cases f with
  | next => exact wpAny_execs_nil q
  | ret v => exact q
  | brk => exact q
  | cont => exact q
/-- in a def's body nothing is shown -/
theorem Inv.quiet {pins : List (Addr × Obj)} {σ : St} {H : Hp} {s : Shared} (I : Inv X pins σ H s) : interactive X.env = false := by simp [interactive, I.ok.kind]
/-- an expression whose value is dropped -/
def tDrop (te : TE) : TS := fun D σ H => te σ H fun _ H1 => D.nx σ H1
theorem ps_expr (he : PE X e te) (hs : swapsWith e none pos.line X.env = pure false := by rfl) : PS X (.Expr e pos) (tDrop te) := by
  intro pins s σ H D I h
  exact wpAny_Expr_any (thn (he pins s σ H _ I h) fun v s1 ⟨x, H1, I1, r1, q1⟩ => ⟨σ, H1, I1, q1⟩) I.quiet hs
def tRet (te : TE) : TS := fun D σ H => te σ H D.rt
theorem ps_ret (he : PE X e te) : PS X (.Return (some e) pos) (tRet te) := by
  intro pins s σ H D I h
  exact wpAny_Return_some (thn (he pins s σ H _ I h) fun v s1 ⟨x, H1, I1, r1, q1⟩ => ⟨x, σ, H1, I1, r1, q1⟩)
def tIfS (c : TT) (t u : TS) : TS := fun D σ H => c σ H fun b H1 => if b = true then t D σ H1 else u D σ H1
theorem ps_if {c : Expr} {a b : List Stmt} {tc : TT} (hc : PT X c tc) (ha : PSs X a t) (hb : PSs X b u) : PS X (.If c a b pos) (tIfS tc t u) := by
  intro pins s σ H D I h
  refine wpAny_If (thn (hc pins s σ H _ I h) fun d s1 ⟨H1, I1, q1⟩ => ?_)
  cases d with
  | true => exact ha pins s1 σ H1 D I1 q1
  | false => exact hb pins s1 σ H1 D I1 q1
end

/-! ### targets -/
abbrev TG := V → St → Hp → (St → Hp → Prop) → Prop
def PG (X : Cx) (target : Expr) (t : TG) : Prop :=
  ∀ (pins : List (Addr × Obj)) (s : Shared) (σ : St) (H : Hp) (v : V) (u : Value) (Q : St → Hp → Prop), Inv X pins σ H s → RelV v u → t v σ H Q →
    wpAny (model X.prog X.w) X.A (assign target X.env u) (fun _ s' => ∃ σ' H', Inv X pins σ' H' s' ∧ Q σ' H') X.xe s
/-- o[i] = v, by values -/
abbrev TSet := V → V → V → Hp → (Hp → Prop) → Prop
def PSet (X : Cx) (t : TSet) : Prop :=
  ∀ (pins : List (Addr × Obj)) (s : Shared) (σ : St) (H : Hp) (o i v : V) (ov iv u : Value) (Q : Hp → Prop), Inv X pins σ H s → RelV o ov → RelV i iv → RelV v u → t o i v H Q →
    wpAny (model X.prog X.w) X.A (setItem ov iv u) (fun _ s' => ∃ H', Inv X pins σ H' s' ∧ Q H') X.xe s
/-- a op= b, by values -/
abbrev TIp := V → V → Hp → VK → Prop
def PIp (X : Cx) (op : Operator) (t : TIp) : Prop :=
  ∀ (pins : List (Addr × Obj)) (s : Shared) (σ : St) (H : Hp) (x y : V) (v u : Value) (Q : VK), Inv X pins σ H s → RelV x v → RelV y u → t x y H Q →
    wpAny (model X.prog X.w) X.A (inplaceOp op v u) (EP X pins σ Q) X.xe s
section
variable {X : Cx} {pos : Pos}
def gName (i : Nat) : TG := fun v σ H Q => Q (σ.set i (some v)) H
theorem pg_name {i : Nat} {x : Str} (hN : X.N.Nodup) (hi : X.N[i]? = some x) (hx : Loc X.env.scope x) (hf : X.fn x = true ∨ X.env.scope.names.lookup x = some .local := by first | exact .inl rfl | exact .inr rfl | assumption) : PG X (.Name x pos) (gName i) := by
  intro pins s σ H v u Q I r h
  exact wpAny_assign_Name (store_ok I hN hi hx r (fun s' I' => ⟨_, H, I', h⟩) hf)
/-- o[i] = .. -/
def gSub (to ti : TE) (t : TSet) : TG := fun v σ H Q => to σ H fun o H1 => ti σ H1 fun i H2 => t o i v H2 fun H3 => Q σ H3
theorem pg_sub {o i : Expr} {to ti : TE} {t : TSet} (ho : PE X o to) (hi : PE X i ti) (hs : PSet X t)
    (ha : ∀ v, assign (.Subscript o i pos) X.env v = (do
      let ov ← holding [v] (eval o X.env)
      let iv ← holding [v, ov] (eval i X.env)
      standAt pos
      holding [v, ov, iv] (setItem ov iv v)
      release [v, ov, iv] []) := by intro _; rfl) : PG X (.Subscript o i pos) (gSub to ti t) := by
  intro pins s σ H v u Q I r h
  rw [ha]
  refine wpAny_bind (wpAny_holding (thn (ho pins s σ H _ I h) fun ov s1 ⟨x, H1, I1, r1, q1⟩ => ?_))
  refine wpAny_bind (wpAny_holding (thn (hi pins s1 σ H1 _ I1 q1) fun iv s2 ⟨y, H2, I2, r2, q2⟩ => ?_))
  refine wpAny_bind (wpAny_standAt (wpAny_bind (wpAny_holding (thn (hs pins s2 σ H2 x y v ov iv u _ I2 r1 r2 r q2) fun _ s3 ⟨H3, I3, q3⟩ => ?_))))
  exact wpAny_release ⟨σ, H3, I3, q3⟩
/-- target = value -/
def tAsg (te : TE) (g : TG) : TS := fun D σ H => te σ H fun x H1 => g x σ H1 D.nx
theorem ps_asg {tg e : Expr} {te : TE} {g : TG} (he : PE X e te) (hg : PG X tg g) (hs : swapsWithSole [tg] e pos.line X.env = pure false := by rfl) (hw : swappedStores [tg] e X.env = pure none := by rfl)
    (h1 : (assignEach [tg] X.env).map (·.2) = [assign tg X.env] := by rfl) : PS X (.Assign [tg] e pos) (tAsg te g) := by
  intro pins s σ H D I h
  refine wpAny_Assign_stores (thn (he pins s σ H _ I h) fun v s1 ⟨x, H1, I1, r1, q1⟩ => ?_) hs hw
  rw [h1]
  exact thn (hg pins s1 σ H1 x v _ I1 r1 q1) fun _ s2 q => q
/-- name = value -/
theorem ps_set {i : Nat} {x : Str} {e : Expr} {te : TE} {pos' : Pos} (hN : X.N.Nodup) (hi : X.N[i]? = some x) (hx : Loc X.env.scope x) (he : PE X e te) (hs : swapsWith e (some (.Name x pos')) pos.line X.env = pure false := by rfl) (hf : X.fn x = true ∨ X.env.scope.names.lookup x = some .local := by first | exact .inl rfl | exact .inr rfl | assumption) :
    PS X (.Assign [.Name x pos'] e pos) (tAsg te (gName i)) := by
  intro pins s σ H D I h
  refine wpAny_Assign_Name (thn (he pins s σ H _ I h) fun v s1 ⟨y, H1, I1, r1, q1⟩ => ?_) hs
  exact store_ok I1 hN hi hx r1 (fun s2 I2 => ⟨_, H1, I2, q1⟩) hf
/-- name op= e -/
def tAug (i : Nat) (te : TE) (ti : TIp) : TS := fun D σ H => ∃ x, σ[i]? = some (some x) ∧ te σ H fun y H1 => ti x y H1 fun z H2 => D.nx (σ.set i (some z)) H2
theorem ps_aug {i : Nat} {x : Str} {e : Expr} {te : TE} {op : Operator} {ti : TIp} {pos' : Pos} (hN : X.N.Nodup) (hi : X.N[i]? = some x) (hx : Loc X.env.scope x) (he : PE X e te) (ho : PIp X op ti) (hf : X.fn x = true ∨ X.env.scope.names.lookup x = some .local := by first | exact .inl rfl | exact .inr rfl | assumption) :
    PS X (.AugAssign (.Name x pos') op e pos) (tAug i te ti) := by
  intro pins s σ H D I h
  obtain ⟨v, e1, h⟩ := h
  obtain ⟨m, hn, hl⟩ := I.loc
  have vis : Vis X.env.scope x := by rcases hx with k | k; exact .inl k; exact .inr (.inl k)
  obtain ⟨u, r, l⟩ := hl i x v hi e1 vis
  refine wpAny_AugAssign_Name ?_
  have go : wpAny (model X.prog X.w) X.A (eval e X.env) (fun w s₂ => wpAny (model X.prog X.w) X.A (inplaceOp op u w) (fun r s₃ => wpAny (model X.prog X.w) X.A (storeName X.env x r) (fun _ => SP X pins D .next) X.xe s₃) X.xe s₂) X.xe s := by
    refine thn (he pins s σ H _ I h) fun w s1 ⟨y, H1, I1, r1, q1⟩ => ?_
    refine thn (ho pins s1 σ H1 v y u w _ I1 r r1 q1) fun z s2 ⟨zv, H2, I2, r2, q2⟩ => ?_
    exact store_ok I2 hN hi hx r2 (fun s3 I3 => ⟨_, H2, I3, q2⟩) hf
  rcases l with ⟨hk, hm⟩ | ⟨hk, c, hc, hcell⟩
  · exact wpAny_loadName_local I.ok.kind hk hn hm go
  · rcases hk with hk | hk
    · exact wpAny_loadName_cell I.ok.kind hk hc hcell go
    · rcases hx with k | k
      · have : X.env.scope.names.lookup x = some .free := hk
        rw [k] at this; cases this
      · have : X.env.scope.names.lookup x = some .free := hk
        rw [k] at this; cases this
/-- ints -/
def ipI (f : Int → Int → Int) : TIp := fun x y H Q => ∃ i j, x = .int i ∧ y = .int j ∧ Q (.int (f i j)) H
theorem ip_add : PIp X .Add (ipI fun i j => i + j) := by
  intro pins s σ H x y v u Q I r1 r2 h
  obtain ⟨i, j, e1, e2, q⟩ := h
  subst e1; subst e2
  obtain ⟨t, rfl⟩ := r1
  obtain ⟨t', rfl⟩ := r2
  exact iadd_int ⟨.int _, H, I.tok _, ⟨_, rfl⟩, q⟩
end

/-! ### while -/
section
variable {X : Cx} {pos : Pos}
/-- the invariant W with its measure -/
def tWhile (c : TT) (tb : TS) : TS := fun D σ H => ∃ W : Nat → St → Hp → Prop, (∃ m, W m σ H) ∧ ∀ m σ H, W m σ H →
  c σ H fun b H1 => if b = true then ∃ N : St → Hp → Prop, (∀ σ' H', N σ' H' → ∃ m', m' < m ∧ W m' σ' H') ∧ tb { D with nx := N, ct := N, bk := D.nx } σ H1 else D.nx σ H1
theorem ps_while {c : Expr} {body : List Stmt} {tc : TT} {tb : TS} (hp : PassesOwn (model X.prog X.w) X.A X.env X.xe) (hc : PT X c tc) (hb : PSs X body tb) : PS X (.While c body [] pos) (tWhile tc tb) := by
  intro pins s σ H D I h
  obtain ⟨W, ⟨m0, w0⟩, turn⟩ := h
  refine wpAny_While (codeAny_whileLoop (fun n s' => ∃ σ' H', Inv X pins σ' H' s' ∧ W n σ' H') ?_ m0 ⟨σ, H, I, w0⟩)
  rintro n s1 ⟨σ1, H1, I1, w1⟩
  refine wpAny_passesOwn hp (thn (hc pins s1 σ1 H1 _ I1 (turn n σ1 H1 w1)) fun b s2 ⟨H2, I2, q2⟩ => ?_)
  cases b with
  | true =>
    obtain ⟨N, hN, q2⟩ := q2
    rw [if_pos rfl]
    refine wpAny_passesOwn hp (thn (hb pins s2 σ1 H2 _ I2 q2) fun f s3 q3 => ?_)
    cases f with
    | next =>
      obtain ⟨σ3, H3, I3, n3⟩ := q3
      obtain ⟨m', hm, w3⟩ := hN σ3 H3 n3
      exact ⟨m', hm, σ3, H3, I3, w3⟩
    | cont =>
      obtain ⟨σ3, H3, I3, n3⟩ := q3
      obtain ⟨m', hm, w3⟩ := hN σ3 H3 n3
      exact ⟨m', hm, σ3, H3, I3, w3⟩
    | brk => exact q3
    | ret v => exact q3
  | false =>
    rw [if_neg Bool.false_ne_true]
    exact wpAny_execs_nil ⟨σ1, H2, I2, q2⟩
end

/-! ### what a loop or a comprehension walks -/
/-- at turn i: it yields x (the heap may grow), or it stops -/
structure It where
  go : Nat → Hp → Prop
  yld : Nat → Hp → V → Hp → Prop
  stop : Nat → Hp → Prop
/-- the iterator's own objects may turn: they are not the frame's, not pinned, younger than the entry (or a comprehension's own) -/
def FpOk (X : Cx) (pins : List (Addr × Obj)) (H : Hp) (b : Addr) : Prop :=
  H b = none ∧ b ≠ X.env.locals ∧ b ∉ X.fs ∧ (b ∈ X.ex ∨ X.s_0.heap.objs.size ≤ b) ∧ (∀ x c, X.env.cells.lookup x = some c → c ≠ b) ∧ ∀ p ∈ X.pn ++ pins, p.1 ≠ b
theorem Inv.fpOk {X : Cx} {pins : List (Addr × Obj)} {σ : St} {H H' : Hp} {s : Shared} {b : Addr} (I : Inv X pins σ H s) (hb : s.heap.objs.size ≤ b) (hn : H' b = none) : FpOk X pins H' b := by
  refine ⟨hn, Nat.ne_of_gt (Nat.lt_of_lt_of_le I.lt hb), I.nofs hb, .inr (Nat.le_trans I.sz hb), fun x c e z => ?_, fun p hp z => ?_⟩
  · obtain ⟨v, q⟩ := I.cell x c e
    exact absurd (Nat.lt_of_lt_of_le q.lt (by rw [z]; exact hb)) (Nat.lt_irrefl _)
  · exact absurd (Nat.lt_of_lt_of_le (Heap.lt_size (I.pin p hp).1) (by rw [z]; exact hb)) (Nat.lt_irrefl _)
structure Turn (P : Program) (w : World) (K : PySem.W.Frag) (tg : Expr) (J : It) (fp : List Addr) (it : Addr) (tn : Nat → Heap → Prop) : Prop where
  mem : it ∈ fp
  obj : ∀ i h, tn i h → ∀ b ∈ fp, ∃ o, h.get? b = some o ∧ ∀ v, o.data ≠ .cell v
  keep : ∀ i h h', tn i h → (∀ b ∈ fp, ∀ o, h.get? b = some o → h'.get? b = some o) → tn i h'
  item : ∀ (X : Cx), X.prog = P → X.w = w → X.K = K → X.calm = true → ∀ (i : Nat) (pins : List (Addr × Obj)) (s : Shared) (σ : St) (H : Hp) (E : Value → Shared → Prop), Inv X pins σ H s → (∀ b ∈ fp, FpOk X pins H b) → tn i s.heap → J.go i H →
    wpAny (model P w) X.A (pyNext (.ref it)) (fun r s1 => ∃ u, r = some u ∧
      wpAny (model P w) X.A (letOwnedTupleGo tg (.ref it) u) (fun _ s2 => ∃ x H', Inv X pins σ H' s2 ∧ RelV x u ∧ J.yld i H x H' ∧ tn (i + 1) s2.heap ∧ ∀ b ∈ fp, H' b = none) E s1) E s
  done : ∀ (X : Cx), X.prog = P → X.w = w → X.K = K → X.calm = true → ∀ (i : Nat) (pins : List (Addr × Obj)) (s : Shared) (σ : St) (H : Hp) (E : Value → Shared → Prop), Inv X pins σ H s → (∀ b ∈ fp, FpOk X pins H b) → tn i s.heap → J.stop i H →
    wpAny (model P w) X.A (pyNext (.ref it)) (fun r s1 => r = none ∧ Inv X pins σ H s1) E s
  self : ∀ (A : Around) (i : Nat) (s : Shared) (Q : Value → Shared → Prop) (E : Value → Shared → Prop), tn i s.heap → Q (.ref it) s → wpAny (model P w) A (pyIter (.ref it)) Q E s
abbrev TI := St → Hp → (It → Hp → Prop) → Prop
/-- an iterator has come -/
def PIE (X : Cx) (pins : List (Addr × Obj)) (σ : St) (tg : Expr) (R : It → Hp → Prop) (itv : Value) (s2 : Shared) : Prop :=
  ∃ (it : Addr) (fp : List Addr) (tn : Nat → Heap → Prop) (J : It) (H' : Hp), itv = .ref it ∧ Inv X pins σ H' s2 ∧ Turn X.prog X.w X.K tg J fp it tn ∧ tn 0 s2.heap ∧ (∀ b ∈ fp, FpOk X pins H' b) ∧ R J H'
def PI (X : Cx) (tg iter : Expr) (wi : TI) : Prop :=
  ∀ (pins : List (Addr × Obj)) (s : Shared) (σ : St) (H : Hp) (R : It → Hp → Prop), Inv X pins σ H s → wi σ H R →
    wpAny (model X.prog X.w) X.A (eval iter X.env) (fun v s1 => wpAny (model X.prog X.w) X.A (pyIter v) (PIE X pins σ tg R) X.xe s1) X.xe s

/-- the step ahead of the store is nothing for an iterator that keeps no tuple -/
theorem go_of {M : Model} {A : Around} {E : Value → Shared → Prop} {s : Shared} {tg : Expr} {it : Addr} {u : Value} {o : Obj} {n : String} {vs : Array Value} {Q : Unit → Shared → Prop} (ho : s.heap.get? it = some o) (hc : o.cls = .type n) (hd : o.data = .fields vs)
    (hn : ["enumerate", "zip", "dict_itemiterator", "dict_reverseitemiterator", "odict_iterator", "itertools.zip_longest", "itertools.pairwise"].contains n = false) (hQ : Q () s) : wpAny M A (letOwnedTupleGo tg (.ref it) u) Q E s := by
  unfold letOwnedTupleGo
  cases tg <;> first
    | exact wpAny_pure hQ
    | (cases u <;> first
        | exact wpAny_pure hQ
        | (refine wpAny_bind (wpAny_load ho ?_)
           rw [hc, hd]
           show wpAny M A (if (["enumerate", "zip", "dict_itemiterator", "dict_reverseitemiterator", "odict_iterator", "itertools.zip_longest", "itertools.pairwise"].contains n && vs[0]? == some (rawInt _)) = true then _ else _) Q E s
           rw [if_neg (by intro h; rw [hn, Bool.false_and] at h; cases h)]
           exact wpAny_pure hQ))

/-- lo, lo + 1, .. (n of them) -/
def Itr (lo : Int) (n : Nat) : It := ⟨fun i _ => i < n, fun i H x H' => H' = H ∧ x = .int (lo + i), fun i _ => n ≤ i⟩
theorem turn_range {P : Program} {w : World} {K : PySem.W.Frag} {tg : Expr} (it : Addr) (lo : Int) (n : Nat) : Turn P w K tg (Itr lo n) [it] it (fun i h => IsRangeIter h it (lo + (i : Nat) * 1) ((n : Int) - (i : Nat)) 1) where
  mem := by simp
  obj := fun i h st b hb => by
    have e : b = it := by simpa using hb
    subst e
    exact ⟨_, st, fun v z => by
      have z' : Data.fields _ = Data.cell v := z
      cases z'⟩
  keep := fun i h h' st k => k it (by simp) _ st
  item := by
    intro X hP hw hK hc i pins s σ H E I hf st hg
    subst hP hw hK
    obtain ⟨f0, f1, f2, f3, f4, f5⟩ := hf it (by simp)
    have W := Walks.range (prog := X.prog) (w := X.w) (I.ok.hd hc) it lo 1 n
    refine W.item i s _ _ hg st fun v h' tk hv st' kk => ?_
    obtain ⟨t, rfl⟩ := hv
    have I1 : Inv X pins σ H { s with heap := h', toks := tk } := I.turned (fun b o hb e => kk b o (by simpa using hb) e) f0 f1 f3 f4 f5
    refine ⟨_, rfl, go_of (s := { s with heap := h', toks := tk }) (n := "range_iterator") st' rfl rfl (by decide) ⟨.int (lo + i), H, I1, ⟨t, ?_⟩, ⟨rfl, rfl⟩, st', fun b hb => (hf b hb).1⟩⟩
    rw [Int.mul_one]
  done := by
    intro X hP hw hK hc i pins s σ H E I hf st hg
    subst hP hw hK
    obtain ⟨f0, f1, f2, f3, f4, f5⟩ := hf it (by simp)
    exact wpAny_pyNext_range_end (I.ok.hd hc) st (by have : n ≤ i := hg; omega) fun h' eb => ⟨rfl, I.turned (t' := s.toks) (fun b o hb e => eb b o hb e) f0 f1 f3 f4 f5⟩
  self := fun _ _ _ _ _ st h => wpAny_pyIter_rangeiter st h
end L2

namespace L2
open PySem PySem.Spec PyProof.Rows
section
variable {X : Cx} {tg : Expr}
/-- a range object just made, walked -/
theorem range_it {pins : List (Addr × Obj)} {σ : St} {H : Hp} {s : Shared} {R : It → Hp → Prop} {E : Value → Shared → Prop} {lo hi : Int} {t u v : Tok} {tk : Nat} (I : Inv X pins σ H s) (h1 : -(2 ^ 62) ≤ lo) (h2 : lo < 2 ^ 62) (h3 : -(2 ^ 62) ≤ hi) (h4 : hi < 2 ^ 62)
    (q : R (Itr lo (hi - lo).toNat) H) : wpAny (model X.prog X.w) X.A (pyIter (.ref s.heap.objs.size)) (PIE X pins σ tg R) E { s with heap := s.heap.push { cls := .type "range", data := .fields #[.int lo t, .int hi u, .int 1 v] }, toks := tk } := by
  refine wpAny_pyIter_range (IsRange.new ..) (small_one h1 h2 h3 h4) ?_
  have I1 : Inv X pins σ H { s with heap := s.heap.push { cls := .type "range", data := .fields #[.int lo t, .int hi u, .int 1 v] }, toks := tk } := I.kept fun b o e => Heap.get?_push_of_some _ e
  refine ⟨(s.heap.push { cls := .type "range", data := .fields #[.int lo t, .int hi u, .int 1 v] }).objs.size, [(s.heap.push { cls := .type "range", data := .fields #[.int lo t, .int hi u, .int 1 v] }).objs.size], _, _, H, rfl,
    I1.kept (t' := tk) fun b o e => Heap.get?_push_of_some _ e, turn_range _ lo (hi - lo).toNat, ?_, fun b hb => ?_, q⟩
  · have e1 : lo + ((0 : Nat) : Int) * 1 = lo := by simp
    have e2 : (((hi - lo).toNat : Nat) : Int) - ((0 : Nat) : Int) = Builtin.Range.rangeSize lo hi 1 := by rw [rangeSize_one]; split <;> omega
    show IsRangeIter _ _ (lo + ((0 : Nat) : Int) * 1) ((((hi - lo).toNat : Nat) : Int) - ((0 : Nat) : Int)) 1
    rw [e1, e2]
    exact Heap.get?_push_size _ rfl
  · have e : b = (s.heap.push { cls := .type "range", data := .fields #[.int lo t, .int hi u, .int 1 v] }).objs.size := by simpa using hb
    subst e
    exact I1.fpOk (Nat.le_refl _) (I1.hok.fresh (Nat.le_refl _))
def iRng1 (ta : TA) : TI := fun σ H R => ta σ H fun vs H1 => ∃ j : Int, vs = [.int j] ∧ -(2 ^ 62) ≤ j ∧ j < 2 ^ 62 ∧ R (Itr 0 j.toNat) H1
theorem pi_range1 {a : Expr} {ta : TA} {p pos : Pos} (hg : Gl X "range") (hm : X.mg "range" = none) (ha : PA X [a] ta) (hs : starEach [a] X.env = [(false, eval a X.env)] := by rfl) : PI X tg (.Call (.Name "range" p) [a] [] pos) (iRng1 ta) := by
  intro pins s σ H R I h
  refine Call_ (ld_blt I hg hm boot_range (PyProof.Rows.callWith_type1 (thn (ha pos pins s σ H _ I h) fun us s1 ⟨vs, H1, I1, r1, q1⟩ => ?_) hs rfl))
  obtain ⟨j, e, q1, q2, q⟩ := q1
  subst e
  cases r1 with
  | cons r rr =>
    cases rr
    obtain ⟨t, rfl⟩ := r
    exact call_range_1 (range_it I1 (by omega) (by omega) q1 q2 (by simpa using q))
/-! ### for -/
/-- W: the invariant by the turn and a measure; N: what the body is to reach -/
def tFor (wi : TI) (g : TG) (tb : TS) : TS := fun D σ H => wi σ H fun J H1 => ∃ W : Nat → Nat → St → Hp → Prop, (∃ m, W 0 m σ H1) ∧ ∀ i m σ H, W i m σ H →
  (J.stop i H ∧ D.nx σ H) ∨ (J.go i H ∧ ∃ N : St → Hp → Prop, (∀ σ' H', N σ' H' → ∃ m', m' < m ∧ W (i + 1) m' σ' H') ∧ ∀ x H', J.yld i H x H' → g x σ H' fun σ2 H2 => tb { D with nx := N, ct := N, bk := D.nx } σ2 H2)
/-- the records at fp as they stand -/
def pinsAt (fp : List Addr) (h : Heap) : List (Addr × Obj) := fp.filterMap fun b => (h.get? b).map fun o => (b, o)
theorem mem_pinsAt {fp : List Addr} {h : Heap} {b : Addr} {o : Obj} (hb : b ∈ fp) (e : h.get? b = some o) : (b, o) ∈ pinsAt fp h := List.mem_filterMap.mpr ⟨b, hb, by rw [e]; rfl⟩
theorem of_pinsAt {fp : List Addr} {h : Heap} {p : Addr × Obj} (hp : p ∈ pinsAt fp h) : p.1 ∈ fp ∧ h.get? p.1 = some p.2 := by
  obtain ⟨b, hb, e⟩ := List.mem_filterMap.mp hp
  cases q : h.get? b with
  | none => rw [q] at e; cases e
  | some o =>
    rw [q] at e
    have e' : (b, o) = p := Option.some.inj e
    subst e'
    exact ⟨hb, q⟩
theorem Inv.pinned {pins : List (Addr × Obj)} {σ : St} {H : Hp} {s : Shared} {fp : List Addr} (I : Inv X pins σ H s) (hf : ∀ b ∈ fp, FpOk X pins H b) (ho : ∀ b ∈ fp, ∃ o, s.heap.get? b = some o ∧ ∀ v, o.data ≠ .cell v) : Inv X (pins ++ pinsAt fp s.heap) σ H s :=
  I.pins_of fun p hp => (List.mem_append.mp hp).elim (fun z => I.pin p (List.mem_append_right _ z)) fun z => by
    obtain ⟨hb, e⟩ := of_pinsAt z
    obtain ⟨f0, f1, f2, _⟩ := hf p.1 hb
    obtain ⟨o, e', d⟩ := ho p.1 hb
    rw [e] at e'; cases e'
    exact ⟨e, f0, f1, f2, d⟩
theorem Inv.unpinned {pins pl : List (Addr × Obj)} {σ : St} {H : Hp} {s : Shared} (I : Inv X (pins ++ pl) σ H s) : Inv X pins σ H s := I.pins_of fun p hp => I.pin p (List.mem_append_right _ (List.mem_append_left _ hp))
theorem ps_for {iter : Expr} {body : List Stmt} {wi : TI} {g : TG} {tb : TS} {pos : Pos} (hp : PassesOwn (model X.prog X.w) X.A X.env X.xe) (hc : X.calm = true) (hi : PI X tg iter wi) (hg : PG X tg g) (hb : PSs X body tb)
    (hs : ∀ x, foldedSetIterable iter X.env x = pure x := by intro _; rfl) : PS X (.For tg iter body [] pos) (tFor wi g tb) := by
  intro pins s σ H D I h
  refine wpAny_For (thn (hi pins s σ H _ I h) fun v s1 h1 => thn h1 fun itv s2 h2 => ?_) hs
  obtain ⟨it, fp, tn, J, H2, e, I2, T, st2, f2, W, ⟨m0, w0⟩, turn⟩ := h2
  subst e
  -- what stays true of the iterator's objects through the loop
  have stat : ∀ {H' : Hp}, (∀ b ∈ fp, H' b = none) → ∀ b ∈ fp, FpOk X pins H' b := fun hn b hb => ⟨hn b hb, (f2 b hb).2⟩
  refine codeAny_forLoop_any (fun n s' => ∃ i σ' H', Inv X pins σ' H' s' ∧ tn i s'.heap ∧ (∀ b ∈ fp, H' b = none) ∧ W i n σ' H') ?_ m0 ⟨0, σ, H2, I2, st2, fun b hb => (f2 b hb).1, w0⟩
  rintro n s3 ⟨i, σ3, H3, I3, st3, fr3, w3⟩
  rcases turn i n σ3 H3 w3 with ⟨stop, qn⟩ | ⟨go, N, hN, step⟩
  · refine wpAny_passesOwn hp (thn (T.done X rfl rfl rfl hc i pins s3 σ3 H3 X.xe I3 (stat fr3) st3 stop) fun r s4 ⟨hr, I4⟩ => ?_)
    subst hr
    exact wpAny_execs_nil ⟨σ3, H3, I4, qn⟩
  · refine wpAny_passesOwn hp (thn (T.item X rfl rfl rfl hc i pins s3 σ3 H3 X.xe I3 (stat fr3) st3 go) fun r s4 ⟨u, hr, h4⟩ => ?_)
    subst hr
    refine wpAny_passesOwn hp (thn h4 fun _ s5 ⟨x, H5, I5, r5, y5, st5, fr5⟩ => ?_)
    have I5' := I5.pinned (stat fr5) (T.obj _ _ st5)
    refine wpAny_passesOwn hp (thn (hg _ s5 σ3 H5 x u _ I5' r5 (step x H5 y5)) fun _ s6 ⟨σ6, H6, I6, q6⟩ => ?_)
    refine wpAny_passesOwn hp (thn (hb _ s6 σ6 H6 _ I6 q6) fun f s7 q7 => ?_)
    have again : ∀ {σ7 : St} {H7 : Hp}, Inv X (pins ++ pinsAt fp s5.heap) σ7 H7 s7 → N σ7 H7 → ∃ m, m < n ∧ ∃ i σ' H', Inv X pins σ' H' s7 ∧ tn i s7.heap ∧ (∀ b ∈ fp, H' b = none) ∧ W i m σ' H' := fun {σ7 H7} I7 n7 => by
      obtain ⟨m', hm, w7⟩ := hN σ7 H7 n7
      refine ⟨m', hm, i + 1, σ7, H7, I7.unpinned, T.keep _ _ _ st5 fun b hb o e => (I7.pin (b, o) (List.mem_append_right _ (List.mem_append_right _ (mem_pinsAt hb e)))).1, fun b hb => ?_, w7⟩
      obtain ⟨o, e, d⟩ := T.obj _ _ st5 b hb
      exact (I7.pin (b, o) (List.mem_append_right _ (List.mem_append_right _ (mem_pinsAt hb e)))).2.1
    cases f with
    | next => obtain ⟨σ7, H7, I7, n7⟩ := q7; exact again I7 n7
    | cont => obtain ⟨σ7, H7, I7, n7⟩ := q7; exact again I7 n7
    | brk => obtain ⟨σ7, H7, I7, q7⟩ := q7; exact ⟨σ7, H7, I7.unpinned, q7⟩
    | ret v => obtain ⟨x7, σ7, H7, I7, r7, q7⟩ := q7; exact ⟨x7, σ7, H7, I7.unpinned, r7, q7⟩
end

/-! ### the forms one uses -/
theorem for_range {lo : Int} {n : Nat} {g : TG} {tb : TS} {D : Ends} {σ : St} {H : Hp} (Pv : Nat → St → Hp → Prop) (h0 : Pv 0 σ H)
    (hs : ∀ i σ H, i < n → Pv i σ H → g (.int (lo + i)) σ H fun σ2 H2 => tb { D with nx := Pv (i + 1), ct := Pv (i + 1), bk := D.nx } σ2 H2) (hd : ∀ σ H, Pv n σ H → D.nx σ H) :
    ∃ W : Nat → Nat → St → Hp → Prop, (∃ m, W 0 m σ H) ∧ ∀ i m σ H, W i m σ H →
      ((Itr lo n).stop i H ∧ D.nx σ H) ∨ ((Itr lo n).go i H ∧ ∃ N : St → Hp → Prop, (∀ σ' H', N σ' H' → ∃ m', m' < m ∧ W (i + 1) m' σ' H') ∧ ∀ x H', (Itr lo n).yld i H x H' → g x σ H' fun σ2 H2 => tb { D with nx := N, ct := N, bk := D.nx } σ2 H2) := by
  refine ⟨fun i m σ H => m = n - i ∧ i ≤ n ∧ Pv i σ H, ⟨n, by simp, Nat.zero_le _, h0⟩, ?_⟩
  rintro i m σ H ⟨rfl, hi, p⟩
  by_cases hlt : i < n
  · refine .inr ⟨hlt, Pv (i + 1), fun σ' H' p' => ⟨n - (i + 1), by omega, rfl, hlt, p'⟩, fun x H' y => ?_⟩
    obtain ⟨e, y⟩ := y
    subst e y
    exact hs i σ _ hlt p
  · have e : i = n := by omega
    subst e
    exact .inl ⟨Nat.le_refl _, hd σ H p⟩
end L2

namespace L2
open PySem PySem.Spec PyProof.Rows

abbrev R2 := V → V → Hp → VK → Prop
/-- a two-place operation on values: f is binaryOp op, inplaceOp op or compareOp op -/
def OpR (X : Cx) (f : Value → Value → Sem Value) (r : R2) : Prop :=
  ∀ (pins : List (Addr × Obj)) (s : Shared) (σ : St) (H : Hp) (x y : V) (v u : Value) (Q : VK), Inv X pins σ H s → RelV x v → RelV y u → r x y H Q →
    wpAny (model X.prog X.w) X.A (f v u) (EP X pins σ Q) X.xe s
/-- a one-place operation -/
def UnR (X : Cx) (f : Value → Sem Value) (r : V → Hp → VK → Prop) : Prop :=
  ∀ (pins : List (Addr × Obj)) (s : Shared) (σ : St) (H : Hp) (x : V) (v : Value) (Q : VK), Inv X pins σ H s → RelV x v → r x H Q →
    wpAny (model X.prog X.w) X.A (f v) (EP X pins σ Q) X.xe s
/-- a call of a value that is known (a builtin, a type) with values -/
def CallR (X : Cx) (f : Value) (r : List V → Hp → VK → Prop) : Prop :=
  ∀ (pins : List (Addr × Obj)) (s : Shared) (σ : St) (H : Hp) (xs : List V) (us : List Value) (Q : VK), Inv X pins σ H s → Vals xs us → r xs H Q →
    wpAny (model X.prog X.w) X.A (call f us) (EP X pins σ Q) X.xe s
def tOp (r : R2) (ta tb : TE) : TE := fun σ H Q => ta σ H fun x H1 => tb σ H1 fun y H2 => r x y H2 Q
def tUn (r : V → Hp → VK → Prop) (ta : TE) : TE := fun σ H Q => ta σ H fun x H1 => r x H1 Q
/-- ints in, under C, and a value out -/
def rI (C : Int → Int → Prop) (g : Int → Int → V) : R2 := fun x y H Q => ∃ i j, x = .int i ∧ y = .int j ∧ C i j ∧ Q (g i j) H
def rI0 (g : Int → Int → V) : R2 := fun x y H Q => ∃ i j, x = .int i ∧ y = .int j ∧ Q (g i j) H
def rU (g : Int → V) : V → Hp → VK → Prop := fun x H Q => ∃ i, x = .int i ∧ Q (g i) H

section
variable {X : Cx} {a b c : Expr} {ta tb tc : TE} {pos : Pos}

theorem binT (ha : PE X a ta) (hb : PE X b tb) {pins : List (Addr × Obj)} {s : Shared} {σ : St} {H : Hp} {R : V → V → Hp → Prop} (I : Inv X pins σ H s)
    (h : ta σ H fun x H1 => tb σ H1 fun y H2 => R x y H2) {Q : Value → Shared → Prop} {f : Value → Value → Sem Value}
    (hf : ∀ v u s2 x y H2, Inv X pins σ H2 s2 → RelV x v → RelV y u → R x y H2 → wpAny (model X.prog X.w) X.A (f v u) Q X.xe s2) :
    wpAny (model X.prog X.w) X.A (eval a X.env) (fun v s₁ => wpAny (model X.prog X.w) X.A (eval b X.env) (fun u s₂ => wpAny (model X.prog X.w) X.A (f v u) Q X.xe s₂) X.xe s₁) X.xe s := by
  refine thn (ha pins s σ H _ I h) fun v s1 ⟨x, H1, I1, r1, q1⟩ => ?_
  refine thn (hb pins s1 σ H1 _ I1 q1) fun u s2 ⟨y, H2, I2, r2, q2⟩ => ?_
  exact hf v u s2 x y H2 I2 r1 r2 q2

theorem pe_op {op : Operator} {r : R2} (ho : OpR X (binaryOp op) r) (ha : PE X a ta) (hb : PE X b tb) : PE X (.BinOp a op b pos) (tOp r ta tb) := by
  intro pins s σ H Q I h
  exact wpAny_BinOp (binT ha hb I h fun v u s2 x y H2 I2 rx ry q => ho pins s2 σ H2 x y v u Q I2 rx ry q)
theorem pe_un {op : UnaryOp} {r : V → Hp → VK → Prop} (ho : UnR X (unaryOp op) r) (ha : PE X a ta) : PE X (.UnaryOp op a pos) (tUn r ta) := by
  intro pins s σ H Q I h
  exact UnaryOp_ (thn (ha pins s σ H _ I h) fun v s1 ⟨x, H1, I1, r1, q1⟩ => ho pins s1 σ H1 x v Q I1 r1 q1)
/-! ### ints -/
theorem opI {f : Value → Value → Sem Value} {C : Int → Int → Prop} {g : Int → Int → Int}
    (rule : ∀ (i j : Int) (t u : Tok) (s : Shared) (Q : Value → Shared → Prop) (E : Value → Shared → Prop), C i j → Q (.int (g i j) s.toks) { s with toks := s.toks + 1 } → wpAny (model X.prog X.w) X.A (f (.int i t) (.int j u)) Q E s) :
    OpR X f (rI C fun i j => .int (g i j)) := by
  intro pins s σ H x y v u Q I rx ry h
  obtain ⟨i, j, rfl, rfl, hc, q⟩ := h
  obtain ⟨t, rfl⟩ := rx
  obtain ⟨t', rfl⟩ := ry
  exact rule i j t t' s _ _ hc ⟨.int (g i j), H, I.tok _, ⟨_, rfl⟩, q⟩
theorem opI0 {f : Value → Value → Sem Value} {g : Int → Int → Int}
    (rule : ∀ (i j : Int) (t u : Tok) (s : Shared) (Q : Value → Shared → Prop) (E : Value → Shared → Prop), Q (.int (g i j) s.toks) { s with toks := s.toks + 1 } → wpAny (model X.prog X.w) X.A (f (.int i t) (.int j u)) Q E s) :
    OpR X f (rI0 fun i j => .int (g i j)) := by
  intro pins s σ H x y v u Q I rx ry h
  obtain ⟨i, j, rfl, rfl, q⟩ := h
  obtain ⟨t, rfl⟩ := rx
  obtain ⟨t', rfl⟩ := ry
  exact rule i j t t' s _ _ ⟨.int (g i j), H, I.tok _, ⟨_, rfl⟩, q⟩
theorem opB0 {f : Value → Value → Sem Value} {g : Int → Int → Bool}
    (rule : ∀ (i j : Int) (t u : Tok) (s : Shared) (Q : Value → Shared → Prop) (E : Value → Shared → Prop), Q (.bool (g i j)) s → wpAny (model X.prog X.w) X.A (f (.int i t) (.int j u)) Q E s) :
    OpR X f (rI0 fun i j => .bl (g i j)) := by
  intro pins s σ H x y v u Q I rx ry h
  obtain ⟨i, j, rfl, rfl, q⟩ := h
  obtain ⟨t, rfl⟩ := rx
  obtain ⟨t', rfl⟩ := ry
  exact rule i j t t' s _ _ ⟨.bl (g i j), H, I, rfl, q⟩

def CDiv (i j : Int) : Prop := 0 < j ∧ j < 1073741824
def CPow (i j : Int) : Prop := 0 ≤ j ∧ j ≤ 1000000 ∧ i.natAbs < 2 ^ 64
def CMul (i j : Int) : Prop := (-(2 ^ 64) < i ∧ i < 2 ^ 64) ∨ (-(2 ^ 64) < j ∧ j < 2 ^ 64)
theorem CMul.ok {i j : Int} (h : CMul i j) : IntMulOk i j := by
  rcases h with ⟨h1, h2⟩ | ⟨h1, h2⟩
  · exact .of_left (intBits_le_64 h1 h2)
  · exact .of_right (intBits_le_64 h1 h2)
theorem two_pow_nn (k : Nat) : (0 : Int) ≤ 2 ^ k := by
  rw [two_pow_cast]
  exact Int.natCast_nonneg _

theorem op_add : OpR X (binaryOp .Add) (rI0 fun i j => .int (i + j)) := opI0 fun _ _ _ _ _ _ _ q => add_int q
theorem op_sub : OpR X (binaryOp .Sub) (rI0 fun i j => .int (i - j)) := opI0 fun _ _ _ _ _ _ _ q => sub_int q
theorem op_mul : OpR X (binaryOp .Mult) (rI CMul fun i j => .int (i * j)) := opI fun _ _ _ _ _ _ _ hc q => mul_int q hc.ok
/-- // by a positive divisor -/
theorem op_fdiv : OpR X (binaryOp .FloorDiv) (rI CDiv fun i j => .int (i / j)) := opI fun i j _ _ _ _ _ hc q => by
  have h1 : (0 : Int) < j := hc.1
  have h2 : j < 1073741824 := hc.2
  exact floordiv_int (by omega) (by rw [Int.fdiv_eq_ediv_of_nonneg i (by omega)]; exact q) (.inl (PyProof.noPylong_small (by omega)))
/-- % by a positive divisor of any size -/
theorem op_mod : OpR X (binaryOp .Mod) (rI (fun _ j => 0 < j) fun i j => .int (i % j)) := opI fun i j _ _ _ _ _ hc q => by
  have h1 : (0 : Int) < j := hc
  exact mod_int' (by omega) (by rw [Int.fmod_eq_emod_of_nonneg i (by omega)]; exact q)
theorem op_shl : OpR X (binaryOp .LShift) (rI CPow fun i j => .int (i * 2 ^ j.toNat)) := opI fun _ _ _ _ _ _ _ hc q => lshift_int_small hc.1 hc.2.1 hc.2.2 q
theorem op_shr : OpR X (binaryOp .RShift) (rI (fun _ j => 0 ≤ j) fun i j => .int (i / 2 ^ j.toNat)) := opI fun i j _ _ _ _ _ hc q =>
  rshift_int hc (by rw [Int.fdiv_eq_ediv_of_nonneg i (two_pow_nn _)]; exact q)
theorem op_and : OpR X (binaryOp .BitAnd) (rI0 fun i j => .int (Builtin.bitAnd i j)) := opI0 fun _ _ _ _ _ _ _ q => and_int q
theorem op_or : OpR X (binaryOp .BitOr) (rI0 fun i j => .int (Builtin.bitOr i j)) := opI0 fun _ _ _ _ _ _ _ q => or_int q
theorem op_xor : OpR X (binaryOp .BitXor) (rI0 fun i j => .int (Builtin.bitXor i j)) := opI0 fun _ _ _ _ _ _ _ q => xor_int q

theorem unI {f : Value → Sem Value} {g : Int → Int}
    (rule : ∀ (i : Int) (t : Tok) (s : Shared) (Q : Value → Shared → Prop) (E : Value → Shared → Prop), Q (.int (g i) s.toks) { s with toks := s.toks + 1 } → wpAny (model X.prog X.w) X.A (f (.int i t)) Q E s) :
    UnR X f (rU fun i => .int (g i)) := by
  intro pins s σ H x v Q I rx h
  obtain ⟨i, rfl, q⟩ := h
  obtain ⟨t, rfl⟩ := rx
  exact rule i t s _ _ ⟨.int (g i), H, I.tok _, ⟨_, rfl⟩, q⟩
theorem un_neg : UnR X (unaryOp .USub) (rU fun i => .int (-i)) := unI fun _ _ _ _ _ q => neg_int q
/-! ### bools among ints: n += (a < b) -/
end

/-! ### comparisons -/
/-- the scalars that == tells apart as data does -/
def scal : V → V → Bool
  | .non, .non => true | .non, .int _ => true | .int _, .non => true | .non, .bl _ => true | .bl _, .non => true | .non, .str _ => true | .str _, .non => true
  | .int _, .int _ => true | .bl _, .bl _ => true | .str _, .str _ => true | .byt _, .byt _ => true
  | .int _, .str _ => true | .str _, .int _ => true | .bl _, .str _ => true | .str _, .bl _ => true
  | _, _ => false
def rEq : R2 := fun x y H Q => scal x y = true ∧ Q (.bl (decide (x = y))) H
def rNe : R2 := fun x y H Q => scal x y = true ∧ Q (.bl (!decide (x = y))) H

theorem dec_int {i j : Int} : decide (V.int i = V.int j) = (i == j) := by
  rw [Bool.eq_iff_iff]
  simp
theorem dec_bl {i j : Bool} : decide (V.bl i = V.bl j) = (i == j) := by
  rw [Bool.eq_iff_iff]
  simp
theorem dec_str {i j : Str} : decide (V.str i = V.str j) = (i == j) := by
  rw [Bool.eq_iff_iff]
  simp
theorem dec_byt {i j : Array UInt8} : decide (V.byt i = V.byt j) = (i.toList == j.toList) := by
  rw [Bool.eq_iff_iff]
  cases i
  cases j
  simp

section
variable {X : Cx} {a b c : Expr} {ta tb tc : TE} {pos : Pos}
theorem fin_bl {pins : List (Addr × Obj)} {σ : St} {H : Hp} {s : Shared} {Q : VK} {k k' : Bool} (I : Inv X pins σ H s) (q : Q (.bl k) H) (e : k = k') : EP X pins σ Q (.bool k') s := by
  subst e
  exact ⟨.bl k, H, I, rfl, q⟩
theorem op_eq : OpR X (compareOp .Eq) rEq := by
  intro pins s σ H x y v u Q I rx ry h
  obtain ⟨hs, q⟩ := h
  cases x with
  | non =>
    cases rx
    cases y with
    | non => cases ry; exact PySem.EqNone.eq_none_none (fin_bl I q (by simp))
    | bl j => cases ry; exact PySem.EqNone.eq_none_bool (fin_bl I q (by simp))
    | int j => obtain ⟨t', rfl⟩ := ry; exact PySem.EqNone.eq_none_int (fin_bl I q (by simp))
    | str j => obtain ⟨t', rfl⟩ := ry; exact PySem.EqNone.eq_none_str (fin_bl I q (by simp))
    | _ => exact absurd (show false = true from hs) Bool.false_ne_true
  | bl i =>
    cases rx
    cases y with
    | non => cases ry; exact PySem.EqNone.eq_bool_none (fin_bl I q (by simp))
    | bl j => cases ry; exact eq_bool (fin_bl I q dec_bl)
    | str j => obtain ⟨t', rfl⟩ := ry; exact PySem.EqMixed.eq_bool_str (fin_bl I q (by simp))
    | _ => exact absurd (show false = true from hs) Bool.false_ne_true
  | int i =>
    obtain ⟨t, rfl⟩ := rx
    cases y with
    | non => cases ry; exact PySem.EqNone.eq_int_none (fin_bl I q (by simp))
    | int j => obtain ⟨t', rfl⟩ := ry; exact eq_int (fin_bl I q dec_int)
    | str j => obtain ⟨t', rfl⟩ := ry; exact PySem.EqMixed.eq_int_str (fin_bl I q (by simp))
    | _ => exact absurd (show false = true from hs) Bool.false_ne_true
  | str i =>
    obtain ⟨t, rfl⟩ := rx
    cases y with
    | non => cases ry; exact PySem.EqNone.eq_str_none (fin_bl I q (by simp))
    | bl j => cases ry; exact PySem.EqMixed.eq_str_bool (fin_bl I q (by simp))
    | int j => obtain ⟨t', rfl⟩ := ry; exact PySem.EqMixed.eq_str_int (fin_bl I q (by simp))
    | str j => obtain ⟨t', rfl⟩ := ry; exact eq_str (fin_bl I q dec_str)
    | _ => exact absurd (show false = true from hs) Bool.false_ne_true
  | byt i =>
    obtain ⟨t, rfl⟩ := rx
    cases y with
    | byt j => obtain ⟨t', rfl⟩ := ry; exact PySem.W.eq_bytes (fin_bl I q dec_byt)
    | _ => exact absurd (show false = true from hs) Bool.false_ne_true
  | _ => cases y <;> exact absurd (show false = true from hs) Bool.false_ne_true
theorem op_ne : OpR X (compareOp .NotEq) rNe := by
  intro pins s σ H x y v u Q I rx ry h
  obtain ⟨hs, q⟩ := h
  cases x with
  | non =>
    cases rx
    cases y with
    | non => cases ry; exact PySem.EqNone.ne_none_none (fin_bl I q (by simp))
    | bl j => cases ry; exact PySem.EqNone.ne_none_bool (fin_bl I q (by simp))
    | int j => obtain ⟨t', rfl⟩ := ry; exact PySem.EqNone.ne_none_int (fin_bl I q (by simp))
    | str j => obtain ⟨t', rfl⟩ := ry; exact PySem.EqNone.ne_none_str (fin_bl I q (by simp))
    | _ => exact absurd (show false = true from hs) Bool.false_ne_true
  | bl i =>
    cases rx
    cases y with
    | non => cases ry; exact PySem.EqNone.ne_bool_none (fin_bl I q (by simp))
    | bl j => cases ry; exact ne_bool (fin_bl I q (congrArg not dec_bl))
    | str j => obtain ⟨t', rfl⟩ := ry; exact PySem.EqMixed.ne_bool_str (fin_bl I q (by simp))
    | _ => exact absurd (show false = true from hs) Bool.false_ne_true
  | int i =>
    obtain ⟨t, rfl⟩ := rx
    cases y with
    | non => cases ry; exact PySem.EqNone.ne_int_none (fin_bl I q (by simp))
    | int j => obtain ⟨t', rfl⟩ := ry; exact ne_int (fin_bl I q (congrArg not dec_int))
    | str j => obtain ⟨t', rfl⟩ := ry; exact PySem.EqMixed.ne_int_str (fin_bl I q (by simp))
    | _ => exact absurd (show false = true from hs) Bool.false_ne_true
  | str i =>
    obtain ⟨t, rfl⟩ := rx
    cases y with
    | non => cases ry; exact PySem.EqNone.ne_str_none (fin_bl I q (by simp))
    | bl j => cases ry; exact PySem.EqMixed.ne_str_bool (fin_bl I q (by simp))
    | int j => obtain ⟨t', rfl⟩ := ry; exact PySem.EqMixed.ne_str_int (fin_bl I q (by simp))
    | str j => obtain ⟨t', rfl⟩ := ry; exact ne_str (fin_bl I q (congrArg not dec_str))
    | _ => exact absurd (show false = true from hs) Bool.false_ne_true
  | byt i =>
    obtain ⟨t, rfl⟩ := rx
    cases y with
    | byt j => obtain ⟨t', rfl⟩ := ry; exact PySem.W.ne_bytes (fin_bl I q (congrArg not dec_byt))
    | _ => exact absurd (show false = true from hs) Bool.false_ne_true
  | _ => cases y <;> exact absurd (show false = true from hs) Bool.false_ne_true

theorem op_lt : OpR X (compareOp .Lt) (rI0 fun i j => .bl (decide (i < j))) := opB0 fun _ _ _ _ _ _ _ q => lt_int q
theorem op_le : OpR X (compareOp .LtE) (rI0 fun i j => .bl (decide (i ≤ j))) := opB0 fun _ _ _ _ _ _ _ q => le_int q
theorem op_gt : OpR X (compareOp .Gt) (rI0 fun i j => .bl (decide (j < i))) := opB0 fun _ _ _ _ _ _ _ q => gt_int q
theorem op_ge : OpR X (compareOp .GtE) (rI0 fun i j => .bl (decide (j ≤ i))) := opB0 fun _ _ _ _ _ _ _ q => ge_int q
theorem nomark (b : Expr) {op : CmpOp} (h : op ≠ .In := by decide) (h2 : op ≠ .NotIn := by decide) : behindInMarks op b = false := by
  have e1 : (op == CmpOp.In) = false := by cases op <;> first | rfl | exact absurd rfl h
  have e2 : (op == CmpOp.NotIn) = false := by cases op <;> first | rfl | exact absurd rfl h2
  cases b <;> simp [behindInMarks, e1, e2]
/-- a reading of a value as a test -/
def tTest (t : TE) : TT := fun σ H Q => t σ H fun x H' => ∃ k, x = .bl k ∧ Q k H'
theorem pt_cmpR {op : CmpOp} {r : R2} (ho : OpR X (compareOp op) r) (ha : PE X a ta) (hb : PE X b tb) (hm : behindInMarks op b = false) : PT X (.Compare a [op] [b] pos) (tTest (tOp r ta tb)) := by
  intro pins s σ H Q I h
  refine wpAny_isTrue_Compare1 (thn (ha pins s σ H _ I h) fun v s1 ⟨x, H1, I1, r1, q1⟩ => thn (hb pins s1 σ H1 _ I1 q1) fun u s2 ⟨y, H2, I2, r2, q2⟩ =>
    thn (ho pins s2 σ H2 x y v u _ I2 r1 r2 q2) fun c s3 ⟨z, H3, I3, r3, k, e, q3⟩ => ?_) hm
  subst e
  cases r3
  exact wpAny_truthy_bool ⟨H3, I3, q3⟩
/-! ### truth -/
theorem line63 : (sizeLine : Nat) < 2 ^ 63 := by rw [sizeLine_eq]; decide
/-! ### strs and bytes -/
theorem op_add_str : OpR X (binaryOp .Add) (fun x y H Q => ∃ i j, x = .str i ∧ y = .str j ∧ i.length + j.length ≤ sizeLine ∧ Q (.str (i ++ j)) H) := by
  intro pins s σ H x y v u Q I rx ry h
  obtain ⟨i, j, rfl, rfl, hz, q⟩ := h
  obtain ⟨t, rfl⟩ := rx
  obtain ⟨t', rfl⟩ := ry
  exact add_str (fun t' tk => ⟨.str (i ++ j), H, I.tok _, ⟨_, rfl⟩, q⟩) hz
/-! ### scalar builtins, by CallR -/
theorem vals1 {x : V} {us : List Value} (r : Vals [x] us) : ∃ u, us = [u] ∧ RelV x u := by
  cases r with
  | cons r1 r2 => cases r2; exact ⟨_, rfl, r1⟩
theorem vals2 {x y : V} {us : List Value} (r : Vals [x, y] us) : ∃ u w', us = [u, w'] ∧ RelV x u ∧ RelV y w' := by
  cases r with
  | cons r1 r2 =>
    cases r2 with
    | cons r3 r4 => cases r4; exact ⟨_, _, rfl, r1, r3⟩
theorem call_max2 (hc : X.calm = true) : CallR X (.builtin "max") (fun xs H Q => ∃ i j, xs = [.int i, .int j] ∧ Q (.int (if j > i then j else i)) H) := by
  intro pins s σ H xs us Q I r h
  obtain ⟨i, j, rfl, q⟩ := h
  obtain ⟨u, w', rfl, ⟨t, rfl⟩, ⟨t', rfl⟩⟩ := vals2 r
  refine max_two_ints (I.ok.hd hc) fun h' tk k => ⟨_, H, I.kept k, ?_, q⟩
  by_cases hj : j > i
  · rw [if_pos hj, if_pos hj]; exact ⟨_, rfl⟩
  · rw [if_neg hj, if_neg hj]; exact ⟨_, rfl⟩
theorem call_min2 (hc : X.calm = true) : CallR X (.builtin "min") (fun xs H Q => ∃ i j, xs = [.int i, .int j] ∧ Q (.int (if j < i then j else i)) H) := by
  intro pins s σ H xs us Q I r h
  obtain ⟨i, j, rfl, q⟩ := h
  obtain ⟨u, w', rfl, ⟨t, rfl⟩, ⟨t', rfl⟩⟩ := vals2 r
  refine min_two_ints (I.ok.hd hc) fun h' tk k => ⟨_, H, I.kept k, ?_, q⟩
  by_cases hj : j < i
  · rw [if_pos hj, if_pos hj]; exact ⟨_, rfl⟩
  · rw [if_neg hj, if_neg hj]; exact ⟨_, rfl⟩
end
end L2

namespace L2
open PySem PySem.Spec PyProof.Rows

/-! ### an instance, its attributes a map -/
structure ObjM (h : Heap) (x dx C : Addr) (mA : Str → Option Value) : Prop where
  obj : h.get? x = some (PySem.W.instObj C dx)
  ns : h.Ns1 dx mA
  ne : dx ≠ x

theorem lookIn_ns {h : Heap} {dx : Addr} {mA : Str → Option Value} (n : h.Ns1 dx mA) : ∃ od, h.get? dx = some od ∧ ∀ name, PySem.W.lookIn name od = some (mA name) := by
  obtain ⟨o, es, ep, ho, hd, hk, _, hm⟩ := n
  refine ⟨o, ho, fun name => ?_⟩
  have e := hm name
  unfold nsFind findBy at e
  rw [← Array.find?_toList] at e
  unfold PySem.W.lookIn
  rw [hd]
  dsimp only
  split
  · rename_i y q
    rw [q] at e
    exact congrArg some e
  · rename_i q
    rw [q] at e
    have a : es.toList.any (·.refKey) = false := by
      rw [List.any_eq_false]
      intro y hy
      obtain ⟨z, t, hkey⟩ := hk y (Array.mem_toList_iff.mp hy)
      simp [DictEntry.refKey, hkey]
    have a' : ¬ es.toList.any (·.refKey) = true := by rw [a]; exact Bool.false_ne_true
    rw [if_neg a']
    exact congrArg some e

theorem ObjM.look {h : Heap} {x dx C : Addr} {mA : Str → Option Value} (I : ObjM h x dx C mA) : ∃ od, PySem.W.InstAt h x (PySem.W.instObj C dx) C (some od) ∧ ∀ name, PySem.W.lookIn name od = some (mA name) :=
  let ⟨od, ho, hl⟩ := lookIn_ns I.ns
  ⟨od, ⟨I.obj, rfl, rfl, ho⟩, hl⟩

section
variable {prog : Program} {w : World} {A : Around} {E : Value → Shared → Prop} {s : Shared} {K : PySem.W.Frag} {x dx C f : Addr} {mA : Str → Option Value} {name : Str} {v : Value}

theorem get_map {expr : Bool} {Q : Value → Shared → Prop} (X : K.In s.heap) (I : ObjM s.heap x dx C mA) (hg : PySem.W.plainGet K C name = true) (hh : PySem.W.hasDictIn K C = true)
    (ha : PySem.W.findIn K (.ref C) name = some none) (hv : mA name = some v) (hv' : PySem.W.handedIn v = true) (h : Q v { s with toks := s.toks + 1 }) :
    wpAny (model prog w) A (getAttr (.ref x) name expr) Q E s := by
  obtain ⟨od, J, hl⟩ := I.look
  exact PySem.W.get_value X J (PySem.W.plainGet_of hg).1 (PySem.W.findObj_own hh ha rfl (by rw [hl, hv])) hv' h

theorem get_meth {pl : Sem Bool} {Q : Value × List Value → Shared → Prop} (X : K.In s.heap) (I : ObjM s.heap x dx C mA) (hg : PySem.W.plainGet K C name = true)
    (hf : PySem.W.findIn K (.ref C) name = some (some (.ref f))) (ht : PySem.W.isFn K (.ref f) = true) (hv : mA name = none) (h : Q (.ref f, [.ref x]) s) :
    wpAny (model prog w) A (getMethod (.ref x) name pl) Q E s := by
  obtain ⟨od, J, hl⟩ := I.look
  exact PySem.W.method_fn X J (PySem.W.plainGet_of hg).1 (PySem.W.plainGet_of hg).2 hf (beq_iff_eq.mp ht) (by show (PySem.W.lookIn name od).map (·.isSome) = some false; rw [hl, hv]; rfl) h

theorem set_map {ns : List Str} {Q : Unit → Shared → Prop} (X : K.In s.heap) (I : ObjM s.heap x dx C mA)
    (hs : PySem.W.findIn K (.ref C) "__setattr__" = some (some (.builtin "object.__setattr__"))) (hp : PySem.W.plainOver K C = true) (ht : PySem.W.takerIn K C name = some none) (hh : PySem.W.hasDictIn K C = true)
    (hw : PySem.Within mA ns) (hsz : ns.length ≤ sizeLine)
    (h : ∀ h', ObjM h' x dx C (fun y => if y = name then some v else mA y) → Heap.SameBut dx s.heap h' → Q () { s with heap := h', toks := s.toks + 2 }) :
    wpAny (model prog w) A (setAttr (.ref x) name v) Q E s := by
  obtain ⟨od, J, hl⟩ := I.look
  refine PySem.W.set_plain X J hs (PySem.W.osa_open (s := { s with toks := s.toks + 1 }) (r := none) X J hp ht fun b => ?_)
  obtain ⟨cd, hc, hd'⟩ := PySem.W.any_some hh
  have hx : s.heap.get? x = some ⟨.ref C, some dx, .plain, #[]⟩ := I.obj
  refine wpAny_bind (wpAny_pure (wpAny_bind (wpAny_bind (wpAny_loadPart hx (wpAny_bind (PySem.W.Looks.here (s := { s with toks := s.toks + 1 }) (PySem.W.looks_clsIn X hc) ?_))))))
  rw [hd']
  refine wpAny_pure (a := some dx) (wpAny_bind (wpAny_pure (wpAny_bind ?_)))
  refine wpAny_nsSet1 (s := { s with toks := s.toks + 1 }) I.ns fun h' hn2 hs2 => ?_
  obtain ⟨oD, esD, epD, hoD, hdD, hcD⟩ := hn2.count (PySem.Within.cons name v hw)
  refine wpAny_bind (wpAny_lookBehind hoD (by rw [hdD]; exact pastItsLine_dict (Nat.le_trans hcD (by rw [List.length_cons]; omega))) ?_)
  exact wpAny_pure (h _ ⟨(hs2.2 _ (Ne.symm I.ne)).trans I.obj, hn2, I.ne⟩ hs2)

/-- C(..): the dict at the heap's end, the instance behind it; then its __init__ -/
theorem make_map {R : Result → Shared → Prop} {vs : List Value} {kw : List (Str × Value)} (X : K.In s.heap) (hm : PySem.W.makesIn K C = true)
    (hi : PySem.W.findIn K (.ref C) "__init__" = some (some (.ref f))) (hf : PySem.W.typeIn K (.ref f) = some (.type "function"))
    (h : codeAny (model prog w) (A.under (.builtin "type.__call__" ⟨.ref C :: vs, kw⟩)) (.call (.ref f) ⟨.ref (s.heap.objs.size + 1) :: vs, kw⟩) (PySem.W.InitBack (s.heap.objs.size + 1) R)
      { s with heap := (s.heap.push PySem.W.emptyDict).push (PySem.W.instObj C s.heap.objs.size) }) :
    codeAny (model prog w) A (.call (.ref C) ⟨vs, kw⟩) R s := by
  obtain ⟨hh, g, d, t, os⟩ := s
  exact PySem.W.make_core (PySem.W.makes_of X hm) (PySem.W.looks_findIn X hi) (fun self => PySem.W.bind_fn X self hf) (.inl rfl) h
end

/-! ### the attributes as a list of pairs -/
def putF (f : Str) (v : V) : List (Str × V) → List (Str × V)
  | [] => [(f, v)]
  | (g, x) :: r => if g = f then (g, v) :: r else (g, x) :: putF f v r
theorem lookup_putF (f g : Str) (v : V) : ∀ fs : List (Str × V), (putF f v fs).lookup g = if g = f then some v else fs.lookup g
  | [] => by
    show List.lookup g [(f, v)] = _
    by_cases h : g = f
    · have hb : (g == f) = true := beq_iff_eq.mpr h
      simp only [List.lookup, hb, if_pos h]
    · have hb : (g == f) = false := beq_eq_false_iff_ne.mpr h
      simp only [List.lookup, hb, if_neg h]
  | (k, x) :: r => by
    have ih := lookup_putF f g v r
    rw [show putF f v ((k, x) :: r) = (if k = f then (k, v) :: r else (k, x) :: putF f v r) from rfl]
    by_cases hk : k = f
    · rw [if_pos hk]
      by_cases h : g = k
      · have hb : (g == k) = true := beq_iff_eq.mpr h
        simp only [List.lookup, hb, if_pos (h.trans hk)]
      · have hb : (g == k) = false := beq_eq_false_iff_ne.mpr h
        simp only [List.lookup, hb, if_neg (fun e : g = f => h (e.trans hk.symm))]
    · rw [if_neg hk]
      by_cases h : g = k
      · have hb : (g == k) = true := beq_iff_eq.mpr h
        simp only [List.lookup, hb, if_neg (fun e : g = f => hk (h.symm.trans e))]
      · have hb : (g == k) = false := beq_eq_false_iff_ne.mpr h
        simp only [List.lookup, hb]
        exact ih
theorem keys_putF (f : Str) (v : V) : ∀ fs : List (Str × V), f ∈ (putF f v fs).map (·.1) ∧ ∀ g, g ∈ fs.map (·.1) → g ∈ (putF f v fs).map (·.1)
  | [] => ⟨by simp [putF], fun g h => by simp at h⟩
  | (k, x) :: r => by
    obtain ⟨i1, i2⟩ := keys_putF f v r
    rw [show putF f v ((k, x) :: r) = (if k = f then (k, v) :: r else (k, x) :: putF f v r) from rfl]
    by_cases hk : k = f
    · rw [if_pos hk]
      subst hk
      exact ⟨by simp, fun g h => by simpa using h⟩
    · rw [if_neg hk]
      refine ⟨?_, fun g h => ?_⟩
      · rw [List.map_cons]
        exact List.mem_cons_of_mem _ i1
      · rw [List.map_cons] at h ⊢
        rcases List.mem_cons.mp h with e | e
        · exact List.mem_cons.mpr (.inl e)
        · exact List.mem_cons_of_mem _ (i2 g e)
theorem length_putF (f : Str) (v : V) : ∀ fs : List (Str × V), (putF f v fs).length ≤ fs.length + 1
  | [] => by simp [putF]
  | (k, x) :: r => by
    have ih := length_putF f v r
    rw [show putF f v ((k, x) :: r) = (if k = f then (k, v) :: r else (k, x) :: putF f v r) from rfl]
    by_cases hk : k = f
    · rw [if_pos hk, List.length_cons, List.length_cons]; omega
    · rw [if_neg hk, List.length_cons, List.length_cons]; omega

theorem RelO.some_of {v : V} {o : Option Value} (r : RelO (some v) o) : ∃ u, o = some u ∧ RelV v u := by
  cases o with
  | none => exact (show False from r).elim
  | some u => exact ⟨u, rfl, r⟩
theorem RelO.none_of {o : Option Value} (r : RelO none o) : o = none := by
  cases o with
  | none => rfl
  | some u => exact (show False from r).elim
theorem handed_of {v : V} {u : Value} (r : RelV v u) : PySem.W.handedIn u = true := by
  cases v with
  | non => cases (show u = Value.none from r); rfl
  | bl b => cases (show u = Value.bool b from r); rfl
  | int i => obtain ⟨t, e⟩ := (show ∃ t, u = Value.int i t from r); cases e; rfl
  | str x => obtain ⟨t, e⟩ := (show ∃ t, u = Value.str x t from r); cases e; rfl
  | byt b => obtain ⟨t, e⟩ := (show ∃ t, u = Value.bytes b t from r); cases e; rfl
  | flt b => obtain ⟨t, e⟩ := (show ∃ t, u = Value.float b t from r); cases e; rfl
  | ref a => cases (show u = Value.ref a from r); rfl
  | ty n => cases (show u = Value.type n from r); rfl

section
variable {P : Program} {w : World} {H H' : Hp} {h h' : Heap} {a C dx : Addr} {fs fs' : List (Str × V)}
theorem ins_get (hok : HOk P w H h) (e : H a = some (.ins C dx fs)) : ∃ mA, ObjM h a dx C mA ∧ (∀ f, RelO (fs.lookup f) (mA f)) ∧ PySem.Within mA (fs.map (·.1)) ∧ fs.length ≤ 1000 ∧ H dx = some (.own a) := by
  obtain ⟨d, z, ne, ob, mA, n, r, q⟩ := (show ObjOk P w H h a (.ins C dx fs) from hok a _ e)
  exact ⟨mA, ⟨ob, n, ne⟩, r, q, z, d⟩
end

/-! ### what of the text a class must have -/
structure Cls (K : PySem.W.Frag) (C : Addr) : Prop where
  pg : PySem.W.plainGet K C Str.empty = true
  hd : PySem.W.hasDictIn K C = true
  po : PySem.W.plainOver K C = true
  sa : PySem.W.findIn K (.ref C) "__setattr__" = some (some (.builtin "object.__setattr__"))
theorem Cls.get {K : PySem.W.Frag} {C : Addr} (c : Cls K C) (f : Str) : PySem.W.plainGet K C f = true := c.pg
/-- no class of it has the name -/
def NoAttr (K : PySem.W.Frag) (C : Addr) (f : Str) : Prop := PySem.W.findIn K (.ref C) f = some none
theorem NoAttr.taker {K : PySem.W.Frag} {C : Addr} {f : Str} (n : NoAttr K C f) : PySem.W.takerIn K C f = some none := by
  unfold PySem.W.takerIn
  rw [show PySem.W.findIn K (.ref C) f = some none from n]
  rfl
/-- a constant of the class -/
structure Con (K : PySem.W.Frag) (C : Addr) (f : Str) (v : V) (u : Value) : Prop where
  at_ : PySem.W.findIn K (.ref C) f = some (some u)
  rel : RelV v u
  get : PySem.W.specialIn K u "__get__" = some none
  cp : PySem.W.copiedNames.contains f = false
/-- a method: a plain def of the class or of one above it -/
structure Meth (K : PySem.W.Frag) (C : Addr) (m : Str) (f : Addr) : Prop where
  at_ : PySem.W.findIn K (.ref C) m = some (some (.ref f))
  fn : PySem.W.isFn K (.ref f) = true
  kp : PySem.W.keepIn K (.ref f) = true

section
variable {X : Cx} {pins : List (Addr × Obj)} {σ : St} {H : Hp} {s : Shared} {a C dx : Addr} {fs : List (Str × V)} {f : Str} {v : V} {A : Around} {E : Value → Shared → Prop}

theorem getattr_ok {b : Bool} {Q : Value → Shared → Prop} (I : Inv X pins σ H s) (e : H a = some (.ins C dx fs)) (c : Cls X.K C) (n : NoAttr X.K C f) (l : fs.lookup f = some v)
    (h : ∀ u s', Inv X pins σ H s' → RelV v u → Q u s') : wpAny (model X.prog X.w) A (getAttr (.ref a) f b) Q E s := by
  obtain ⟨mA, O, r, _, _, _⟩ := ins_get I.hok e
  obtain ⟨u, hu, ru⟩ := RelO.some_of (v := v) (o := mA f) (by rw [← l]; exact r f)
  exact get_map I.kIn O (c.get f) c.hd n hu (handed_of ru) (h u _ (I.tok _) ru)

theorem getmeth_ok {m : Str} {g : Addr} {pl : Sem Bool} {Q : Value × List Value → Shared → Prop} (I : Inv X pins σ H s) (e : H a = some (.ins C dx fs)) (c : Cls X.K C) (k : Meth X.K C m g) (l : fs.lookup m = none)
    (h : Q (.ref g, [.ref a]) s) : wpAny (model X.prog X.w) A (getMethod (.ref a) m pl) Q E s := by
  obtain ⟨mA, O, r, _, _, _⟩ := ins_get I.hok e
  have hn : mA m = none := RelO.none_of (by rw [← l]; exact r m)
  exact get_meth I.kIn O (c.get m) k.at_ k.fn hn h

theorem setattr_ok {y : V} {u : Value} {Q : Unit → Shared → Prop} (I : Inv X pins σ H s) (e : H a = some (.ins C dx fs)) (c : Cls X.K C) (n : NoAttr X.K C f) (hl : fs.length < 1000) (ry : RelV y u)
    (h : ∀ s', Inv X pins σ (upd H a (.ins C dx (putF f y fs))) s' → Q () s') : wpAny (model X.prog X.w) A (setAttr (.ref a) f u) Q E s := by
  obtain ⟨mA, O, r, wi, _, ho⟩ := ins_get I.hok e
  have hz : (fs.map (·.1)).length ≤ sizeLine := by rw [List.length_map, sizeLine_eq]; omega
  refine set_map I.kIn O c.sa c.po n.taker c.hd wi hz fun h' O' sb => h _ ?_
  have hd : ∃ o, h'.get? dx = some o := let ⟨o, _, _, e', _⟩ := O'.ns; ⟨o, e'⟩
  refine I.write (x := a) (e := dx) (by rw [e]; exact True.intro) (.inr ho) (fun b q hb z => (sb.2 b hb).trans z) hd ?_
  refine ⟨by rw [upd_ne O.ne]; exact ho, ?_, O.ne, O'.obj, _, O'.ns, fun g => ?_, fun g hg => ?_⟩
  · have := length_putF f y fs; omega
  · show RelO ((putF f y fs).lookup g) (if g = f then some u else mA g)
    rw [lookup_putF]
    by_cases q : g = f
    · rw [if_pos q, if_pos q]; exact ry
    · rw [if_neg q, if_neg q]; exact r g
  · by_cases q : g = f
    · rw [q]; exact (keys_putF f y fs).1
    · refine (keys_putF f y fs).2 g (wi g fun z => hg ?_)
      show (if g = f then some u else mA g) = none
      rw [if_neg q]; exact z

/-- a new instance, tracked, without attributes -/
theorem Inv.made (I : Inv X pins σ H s) : Inv X pins σ (upd (upd H s.heap.objs.size (.own (s.heap.objs.size + 1))) (s.heap.objs.size + 1) (.ins C s.heap.objs.size []))
    { s with heap := (s.heap.push PySem.W.emptyDict).push (PySem.W.instObj C s.heap.objs.size) } := by
  have e1 : (s.heap.push PySem.W.emptyDict).get? s.heap.objs.size = some PySem.W.emptyDict := Heap.get?_push_size s.heap rfl
  have e2 : ((s.heap.push PySem.W.emptyDict).push (PySem.W.instObj C s.heap.objs.size)).get? (s.heap.objs.size + 1) = some (PySem.W.instObj C s.heap.objs.size) := by
    have := Heap.get?_push_size (s.heap.push PySem.W.emptyDict) (o := PySem.W.instObj C s.heap.objs.size) rfl
    rwa [Heap.size_push] at this
  have e3 : (s.heap.push PySem.W.emptyDict).Ns s.heap.objs.size (fun _ => none) := ⟨PySem.W.emptyDict, #[], _, e1, rfl, (fun e he => absurd he (by simp)), fun _ => rfl⟩
  have I1 := I.laid (a := s.heap.objs.size) (o := .own (s.heap.objs.size + 1)) (h' := s.heap.push PySem.W.emptyDict) (t' := s.toks) (fun b u q => Heap.get?_push_of_some _ q) (Nat.le_refl _) ⟨_, e1⟩
  refine I1.laid (a := s.heap.objs.size + 1) (o := .ins C s.heap.objs.size []) (t' := s.toks) (fun b u q => Heap.get?_push_of_some _ q) (Nat.le_of_eq (Heap.size_push _ _)) ?_
  have ne : s.heap.objs.size ≠ s.heap.objs.size + 1 := Nat.ne_of_lt (Nat.lt_succ_self _)
  refine ⟨by rw [upd_ne ne, upd_same], Nat.zero_le _, ne, e2, fun _ => none, (Heap.Ns1.of_empty e3).at fun o q => Heap.get?_push_of_some _ q, fun _ => True.intro, fun y hy => absurd rfl hy⟩

/-- e.f where nothing but the object is asked: through attributeBase (super) and the last hold -/
theorem attr_of {prog : Program} {w : World} {env : Env} {e : Expr} {f : Str} {pos : Pos} {s : Shared} {Q : Value → Shared → Prop} (hb : attributeBase e f env (eval e env) = eval e env)
    (h : wpAny (model prog w) A (eval e env) (fun o s₁ => wpAny (model prog w) A (getAttr o f true) Q E s₁) E s) : wpAny (model prog w) A (eval (.Attribute e f pos) env) Q E s :=
  Attribute_any_ h (by rw [arm_eval_Attribute, hb])
end

/-! ### readings and rules -/
/-- e.f, an attribute of the instance -/
def tFld (K : PySem.W.Frag) (ta : TE) (f : Str) : TE := fun σ H Q => ta σ H fun x H1 => ∃ a C dx fs v, x = .ref a ∧ H1 a = some (.ins C dx fs) ∧ Cls K C ∧ NoAttr K C f ∧ fs.lookup f = some v ∧ Q v H1
/-- e.f = value -/
def sFld (K : PySem.W.Frag) (ta tv : TE) (f : Str) : TS := fun D σ H => tv σ H fun y H1 => ta σ H1 fun x H2 => ∃ a C dx fs, x = .ref a ∧ H2 a = some (.ins C dx fs) ∧ Cls K C ∧ NoAttr K C f ∧ fs.length < 1000 ∧
  D.nx σ (upd H2 a (.ins C dx (putF f y fs)))
section
variable {X : Cx} {o e value : Expr} {f : Str} {pos pos' tpos : Pos} {ta tv : TE}
theorem pe_fld (he : PE X e ta) (hb : attributeBase e f X.env (eval e X.env) = eval e X.env) : PE X (.Attribute e f pos) (tFld X.K ta f) := by
  intro pins s σ H Q I h
  refine attr_of hb (thn (he pins s σ H _ I h) fun u s1 ⟨x, H1, I1, rx, a, C, dx, fs, v, ex, ea, c, n, l, q⟩ => ?_)
  subst ex
  obtain rfl : u = Value.ref a := rx
  exact getattr_ok I1 ea c n l fun u' s2 I2 ru => ⟨v, H1, I2, ru, q⟩
theorem ps_fld (ha : PE X o ta) (hv : PE X value tv) (hs : swapsWith value (some (.Attribute o f pos')) pos.line X.env = pure false) : PS X (.Assign [.Attribute o f pos'] value pos) (sFld X.K ta tv f) := by
  intro pins s σ H D I h
  refine plainObj_wpAny_Assign_Attribute (thn (hv pins s σ H _ I h) fun u s1 ⟨y, H1, I1, ry, q⟩ => thn (ha pins s1 σ H1 _ I1 q) fun ov s2 ⟨x, H2, I2, rx, a, C, dx, fs, ex, ea, c, n, l, q2⟩ => ?_) hs
  subst ex
  obtain rfl : ov = Value.ref a := rx
  exact setattr_ok I2 ea c n l ry fun s3 I3 => ⟨σ, _, I3, q2⟩
end

/-! ### isinstance -/
section
variable {X : Cx} {pins : List (Addr × Obj)} {σ : St} {H : Hp} {s : Shared} {A : Around} {E : Value → Shared → Prop} {Q : Value → Shared → Prop} {c : Value} {b : Bool}
/-- the type of a value, as the fragment's deciders take it; for an instance its class -/
inductive TyOf (K : PySem.W.Frag) (H : Hp) : V → Value → Prop where
  | non : TyOf K H .non (.type "NoneType")
  | bl (x : Bool) : TyOf K H (.bl x) (.type "bool")
  | int (i : Int) : TyOf K H (.int i) (.type "int")
  | str (x : Str) : TyOf K H (.str x) (.type "str")
  | flt (x : UInt64) : TyOf K H (.flt x) (.type "float")
  | lst {a : Addr} {xs : List V} (e : H a = some (.lst xs)) : TyOf K H (.ref a) (.type "list")
  | frz {a : Addr} {o : Obj} {xs : List V} (e : H a = some (.frz o (.lst xs))) : TyOf K H (.ref a) (.type "list")
  | tup {a : Addr} {xs : List V} (e : H a = some (.tup xs)) : TyOf K H (.ref a) (.type "tuple")
  | dK {a : Addr} {kvs : List (Key × V)} (e : H a = some (.dK kvs)) : TyOf K H (.ref a) (.type "dict")
  | dT {a : Addr} {kvs : List (List Key × V)} (e : H a = some (.dT kvs)) : TyOf K H (.ref a) (.type "dict")
  | ins {a C dx : Addr} {fs : List (Str × V)} (e : H a = some (.ins C dx fs)) (cl : Cls K C) (ha : PySem.W.findIn K (.ref C) "__class__" = some (some (.builtin "object.__class__")))
      (hn : PySem.W.specialIn K (.builtin "object.__class__") "__get__" = some (some (.builtin "getset_descriptor.__get__"))) (htk : PySem.W.takesIn K (.builtin "object.__class__") = some true)
      (hm : PySem.W.mroIn K C (.type "object") = some true) : TyOf K H (.ref a) (.ref C)
end
end L2

namespace L2
open PySem PySem.Spec PyProof.Rows

/-! ### room -/
structure Room (k : Nat) (A : Around) : Prop where
  hd : A.handled = none
  dp : A.depth + 3 * k + 5 < recursionLimit
  un : A.units + 16 * k + 200 < cLine
theorem Room.mono {j k : Nat} {A : Around} (r : Room k A) (h : j ≤ k) : Room j A := ⟨r.hd, by have := r.dp; omega, by have := r.un; omega⟩
theorem Room.deeper {k : Nat} {A : Around} (r : Room (k + 1) A) (env : Env) : Room k (A.deeper env) :=
  ⟨r.hd, by have := r.dp; show A.depth + 1 + 3 * k + 5 < _; omega, by have := r.un; show A.units + 3 + 16 * k + 200 < _; omega⟩
theorem make_depth {A : Around} {C : Addr} {us : List Value} {kw : List (Str × Value)} : (A.under (.builtin "type.__call__" ⟨.ref C :: us, kw⟩)).depth = A.depth + 1 := by
  first | rfl | simp [Around.under, Code.weight, Code.isCreation, Code.isGuard, Code.isCaller, Code.frames, Code.isFrame, guardIds]
theorem make_units {A : Around} {C : Addr} {us : List Value} {kw : List (Str × Value)} : (A.under (.builtin "type.__call__" ⟨.ref C :: us, kw⟩)).units = A.units + 1 := by
  first | rfl | simp [Around.under, Code.cUnits, Code.frames, Code.isFrame]
theorem Room.make {k : Nat} {A : Around} (r : Room (k + 1) A) (C : Addr) (us : List Value) (kw : List (Str × Value)) : Room k (A.under (.builtin "type.__call__" ⟨.ref C :: us, kw⟩)) :=
  ⟨r.hd, by have := r.dp; rw [make_depth]; omega, by have := r.un; rw [make_units]; omega⟩
theorem Room.depth {k : Nat} {A : Around} (r : Room k A) : A.depth < recursionLimit := by have := r.dp; omega
theorem Room.units {k : Nat} {A : Around} (r : Room k A) : A.units + 64 < cLine := by have := r.un; omega
/-! ### argument lists and displays -/
def tNil : TA := fun _ H Q => Q [] H
def tCons (ta : TE) (tr : TA) : TA := fun σ H Q => ta σ H fun x H1 => tr σ H1 fun xs H2 => Q (x :: xs) H2
section
variable {X : Cx} {e : Expr} {es : List Expr} {te : TE} {t : TA} {pos : Pos}
theorem pa_nil : PA X [] tNil := fun _ _ _ _ H Q I h => Calls.spliced_nil ⟨[], H, I, .nil, h⟩
theorem pa_cons (ha : PE X e te) (hr : PA X es t) (hs : starEach (e :: es) X.env = (false, eval e X.env) :: starEach es X.env := by rfl) : PA X (e :: es) (tCons te t) := by
  intro pos pins s σ H Q I h
  rw [hs]
  show wpAny _ _ (spliced ((false, eval e X.env) :: backTo pos (starEach es X.env))) _ _ s
  refine Calls.spliced_cons (thn (ha pins s σ H _ I h) fun u s1 ⟨x, H1, I1, r1, q1⟩ => ?_)
  exact thn (hr pos pins s1 σ H1 _ I1 q1) fun us s2 ⟨xs, H2, I2, r2, q2⟩ => ⟨x :: xs, H2, I2, .cons r1 r2, q2⟩

/-- a tuple, a list of written items -/
def tTup (t : TA) : TE := fun σ H Q => t σ H fun xs H1 => xs.length ≤ sizeLine ∧ ∀ p, H1 p = none → Q (.ref p) (upd H1 p (.tup xs))
def tLst (t : TA) : TE := fun σ H Q => t σ H fun xs H1 => xs.length ≤ sizeLine ∧ ∀ p, H1 p = none → Q (.ref p) (upd H1 p (.lst xs))
theorem pe_tup {x1} (h : PA X es t) : PE X (.Tuple es x1 pos) (tTup t) := by
  intro pins s σ H Q I hq
  refine wpAny_Tuple_spliced (thn (h pos pins s σ H _ I hq) fun us s1 ⟨xs, H1, I1, r, z, q⟩ => ⟨by rw [← r.length]; exact z, ?_⟩)
  have hf : H1 s1.heap.objs.size = none := I1.hok.fresh (Nat.le_refl _)
  refine ⟨.ref s1.heap.objs.size, upd H1 s1.heap.objs.size (.tup xs), I1.laid (t' := s1.toks) (fun b u e => Heap.get?_push_of_some _ e) (Nat.le_refl _) ?_, rfl, q _ hf⟩
  exact ⟨z, us, r, ⟨_, Heap.get?_push_size _ rfl, rfl, _, rfl⟩⟩
theorem pe_lst (h : PA X es t) : PE X (.List es pos) (tLst t) := by
  intro pins s σ H Q I hq
  refine wpAny_List_spliced (thn (h pos pins s σ H _ I hq) fun us s1 ⟨xs, H1, I1, r, z, q⟩ => ⟨by rw [← r.length]; exact z, ?_⟩)
  have hf : H1 s1.heap.objs.size = none := I1.hok.fresh (Nat.le_refl _)
  refine ⟨.ref s1.heap.objs.size, upd H1 s1.heap.objs.size (.lst xs), I1.laid (t' := s1.toks) (fun b u e => Heap.get?_push_of_some _ e) (Nat.le_refl _) ?_, rfl, q _ hf⟩
  exact ⟨z, us, 0, r, Heap.get?_push_size _ rfl⟩
end

/-! ### what a def promises -/
/-- a def's promise: the bound arguments in the parameters' order, the heap, the wanted end, the wanted exception -/
abbrev Sp := List V → Hp → VK → XK → Prop
/-- how an exception lies behind a call (file 08 gives it): the callers' frames, abstract heap and state ahead of the call, the wish, the exception, the state -/
abbrev CXT := List Env → Hp → Shared → XK → Value → Shared → Prop

/-- the state at a call -/
structure Env0 (P : Program) (w : World) (K : PySem.W.Frag) (mg : Str → Option Value) (base : Heap) (A : Around) (outer : List Env) (s : Shared) (H : Hp) : Prop where
  frames : A.frames = some outer
  mod : Mod K mg base
  bs : ∀ b o, base.get? b = some o → s.heap.get? b = some o ∧ H b = none
  bsz : base.objs.size ≤ s.heap.objs.size
  funs : s.heap.FunFrames base outer
  frf : ∀ b ∈ frs outer, H b = none
  hok : HOk P w H s.heap
  bare : AllBare s.gens
/-- a call's end -/
def CE (outer : List Env) (P : Program) (w : World) (H : Hp) (s : Shared) (Q : VK) (u : Value) (s' : Shared) : Prop :=
  ∃ v H', s'.os = s.os ∧ AllBare s'.gens ∧ Un (frs outer) [] H H' s.heap s'.heap ∧ HOk P w H' s'.heap ∧ RelV v u ∧ Q v H'
def CR (CX : CXT) (outer : List Env) (P : Program) (w : World) (H : Hp) (s : Shared) (Q : VK) (E : XK) (r : Result) (s' : Shared) : Prop :=
  match r with
  | .ok (.ret u) => CE outer P w H s Q u s'
  | .ok _ => False
  | .error e => CX outer H s E e s'
structure FnOk (P : Program) (w : World) (K : PySem.W.Frag) (mg : Str → Option Value) (base : Heap) (CX : CXT) (k : Nat) (f : Addr) (fd : FuncData) (ps : List Str) (sp : Sp) : Prop where
  len : ∀ vs H Q E, sp vs H Q E → vs.length = ps.length
  run : ∀ (A : Around) (outer : List Env) (s : Shared) (H : Hp) (args : Args) (us : List Value) (vs : List V) (Q : VK) (E : XK), Room k A → Env0 P w K mg base A outer s H → BindsTo s fd args (ps.zip us) → Vals vs us → sp vs H Q E →
    codeAny (model P w) A (.call (.ref f) args) (CR CX outer P w H s Q E) s
theorem Env0.make {P : Program} {w : World} {K : PySem.W.Frag} {mg : Str → Option Value} {base : Heap} {A : Around} {outer : List Env} {s : Shared} {H : Hp} (e : Env0 P w K mg base A outer s H) (C : Addr) (us : List Value) (kw : List (Str × Value)) :
    Env0 P w K mg base (A.under (.builtin "type.__call__" ⟨.ref C :: us, kw⟩)) outer s H := ⟨by first | exact e.frames | (simpa [Around.under, Code.envs, Code.isFrame, pushEnvs] using e.frames), e.mod, e.bs, e.bsz, e.funs, e.frf, e.hok, e.bare⟩
section
variable {X : Cx} {pins : List (Addr × Obj)} {σ : St} {H : Hp} {s s' : Shared}
/-- from a body: what a callee wants -/
theorem Inv.env0 (I : Inv X pins σ H s) : Env0 X.prog X.w X.K X.mg X.base X.A X.stack s H :=
  ⟨I.ok.frames, I.ok.mod, I.bs, Nat.le_trans I.ok.bsz I.sz, I.stack, I.stkFree, I.hok, I.bare⟩
/-- behind a call -/
theorem Inv.after {Q : VK} {u : Value} (I : Inv X pins σ H s) (h : CE X.stack X.prog X.w H s Q u s') : EP X pins σ Q u s' := by
  obtain ⟨v, H', os, bare, un, hok, r, q⟩ := h
  obtain ⟨hh, g, d, t, os'⟩ := s'
  obtain rfl : os' = s.os := os
  exact ⟨v, H', I.call (h' := hh) (g' := g) (d' := d) (t' := t) (ch := []) un hok bare (fun b z => absurd z (by simp)), r, q⟩
end

/-! ### calls -/
/-- f(..): the written arguments, then the defaults dvs; E: what is wanted of an exception -/
def tCall (sp : Sp) (dvs : List V) (E : XK) (t : TA) : TE := fun σ H Q => t σ H fun vs H1 => sp (vs ++ dvs) H1 Q E
/-- o.m(..) of an instance of the class at C -/
def tMeth (C : Addr) (m : Str) (sp : Sp) (dvs : List V) (E : XK) (ta : TE) (t : TA) : TE := fun σ H Q => ta σ H fun x H1 => ∃ a dx fs, x = .ref a ∧ H1 a = some (.ins C dx fs) ∧ fs.lookup m = none ∧
  t σ H1 fun vs H2 => sp (x :: (vs ++ dvs)) H2 Q E
/-- C(..): a new instance and its dict, then __init__ -/
def tMake (C : Addr) (sp : Sp) (dvs : List V) (E : XK) (t : TA) : TE := fun σ H Q => t σ H fun vs H1 => ∀ x dx, H1 x = none → H1 dx = none → dx ≠ x →
  sp (.ref x :: (vs ++ dvs)) (upd (upd H1 dx (.own x)) x (.ins C dx [])) (fun v H2 => v = .non ∧ Q (.ref x) H2) E

/-- how the parameters are bound: us the positional arguments, kw the keywords' values by name, ds the defaults that fill up -/
def Binds (K : PySem.W.Frag) (fd : FuncData) (ps : List Str) (ds : List Value) : Prop :=
  ∀ (s : Shared) (us : List Value), K.In s.heap → (us ++ ds).length = ps.length → BindsTo s fd ⟨us, []⟩ (ps.zip (us ++ ds))
/-- every parameter is given -/
theorem Binds.all {K : PySem.W.Frag} {fd : FuncData} {ps : List Str} (h : ∀ us : List Value, us.length = ps.length → bindArgs fd ⟨us, []⟩ = pure (ps.zip us)) : Binds K fd ps [] := fun s us _ hl => by
  rw [List.append_nil] at hl ⊢
  exact .of_eq (h us hl)

/-- an exception of a callee reaches what this body wants of exceptions -/
def Passes (CX : CXT) (X : Cx) (E : XK) : Prop := ∀ (pins : List (Addr × Obj)) (σ : St) (H : Hp) (s : Shared) (e : Value) (s' : Shared), Inv X pins σ H s → CX X.stack H s E e s' → X.xe e s'

section
variable {X : Cx} {CX : CXT} {k : Nat} {f C : Addr} {fd : FuncData} {ps : List Str} {sp : Sp} {dvs : List V} {ds : List Value} {E : XK} {x m : Str} {p pos apos : Pos} {e o : Expr} {es : List Expr} {ta : TE} {t : TA}

/-- the callee runs -/
theorem run_fn {pins : List (Addr × Obj)} {σ : St} {H : Hp} {s : Shared} {Q : VK} {us : List Value} {vs : List V} (F : FnOk X.prog X.w X.K X.mg X.base CX k f fd ps sp) (hr : Room k X.A) (hb : Binds X.K fd ps ds) (hd : Vals dvs ds) (hx : Passes CX X E)
    (I : Inv X pins σ H s) (r : Vals vs us) (h : sp (vs ++ dvs) H Q E) : wpAny (model X.prog X.w) X.A (call (.ref f) us) (EP X pins σ Q) X.xe s := by
  have r2 : Vals (vs ++ dvs) (us ++ ds) := r.append hd
  have hl : (us ++ ds).length = ps.length := by rw [← r2.length]; exact F.len _ _ _ _ h
  refine wpAny_call (codeAny_mono (F.run X.A X.stack s H ⟨us, []⟩ (us ++ ds) (vs ++ dvs) Q E hr I.env0 (hb s us I.kIn hl) r2 h) fun r s' hq => ?_)
  cases r with
  | error e => exact hx pins σ H s e s' I hq
  | ok fl =>
    cases fl with
    | ret u => exact I.after hq
    | next => exact False.elim hq
    | brk => exact False.elim hq
    | cont => exact False.elim hq

theorem pe_call (F : FnOk X.prog X.w X.K X.mg X.base CX k f fd ps sp) (hr : Room k X.A) (hg : Gl X x) (hm : X.mg x = some (.ref f)) (hk : PySem.W.keepIn X.K (.ref f) = true) (hb : Binds X.K fd ps ds) (hd : Vals dvs ds) (hx : Passes CX X E)
    (ha : PA X (e :: es) t) (hdb : (x == ("__debug__" : Str)) = false := by decide) (he : starEach (e :: es) X.env = (false, eval e X.env) :: starEach es X.env := by rfl) (hpl : (backTo pos (starEach es X.env)).any (·.1) = false := by rfl) :
    PE X (.Call (.Name x p) (e :: es) [] pos) (tCall sp dvs E t) := by
  intro pins s σ H Q I h
  refine wpAny_Call_Name_kw (ld_glob I hg hm ?_ hdb)
  refine PySem.W.callWith_K (h₀ := X.base) I.ok.mod.kin hk (thn (ha pos pins s σ H _ I h) fun us s1 ⟨vs, H1, I1, r, q⟩ => ⟨I1.kIn, ?_⟩) he hpl
  exact run_fn F hr hb hd hx I1 r q
/-- o.m(e, ..) -/
theorem pe_meth {pl : Sem Bool} (he : PE X o ta) (c : Cls X.K C) (hm : Meth X.K C m f) (F : FnOk X.prog X.w X.K X.mg X.base CX k f fd ps sp) (hr : Room k X.A) (hb : Binds X.K fd ps ds) (hd : Vals dvs ds) (hx : Passes CX X E) (ha : PA X (e :: es) t)
    (hst : starEach (e :: es) X.env = (false, eval e X.env) :: starEach es X.env := by rfl) (hpl : (backTo pos (starEach es X.env)).any (·.1) = false := by rfl)
    (ht : eval (.Call (.Attribute o m apos) (e :: es) [] pos) X.env = (do
      let ov ← eval o X.env
      standAt apos.atName
      let (f, first) ← holding [ov] (getMethod ov m pl)
      callWith pos f first (backTo pos (starEach (e :: es) X.env)) (backToKw pos (keywordEach [] X.env))) := by rfl) :
    PE X (.Call (.Attribute o m apos) (e :: es) [] pos) (tMeth C m sp dvs E ta t) := by
  intro pins s σ H Q I h
  refine PySem.W.methodCall_KW (pl := pl) (thn (he pins s σ H _ I h) fun u s1 ⟨x, H1, I1, rx, a, dx, fs, ex, ea, l, q⟩ => ?_) ht
  subst ex
  obtain rfl : u = Value.ref a := rx
  refine getmeth_ok I1 ea c hm l ?_
  refine PySem.W.callWith_K (first := [.ref a]) (h₀ := X.base) I.ok.mod.kin hm.kp (thn (ha pos pins s1 σ H1 _ I1 q) fun us s2 ⟨vs, H2, I2, r, q2⟩ => ⟨I2.kIn, ?_⟩) hst hpl
  exact run_fn (us := .ref a :: us) (vs := .ref a :: vs) F hr hb hd hx I2 (.cons rfl r) q2
/-- what a class must have to be made -/
structure Mk (K : PySem.W.Frag) (C f : Addr) : Prop where
  makes : PySem.W.makesIn K C = true
  init : PySem.W.findIn K (.ref C) "__init__" = some (some (.ref f))
  fn : PySem.W.isFn K (.ref f) = true
  kp : PySem.W.keepIn K (.ref C) = true

theorem run_make {pins : List (Addr × Obj)} {σ : St} {H : Hp} {s : Shared} {Q : VK} {us : List Value} {vs : List V} (M : Mk X.K C f) (F : FnOk X.prog X.w X.K X.mg X.base CX k f fd ps sp) (hr : Room (k + 1) X.A) (hb : Binds X.K fd ps ds) (hd : Vals dvs ds)
    (hx : Passes CX X E) (I : Inv X pins σ H s) (r : Vals vs us)
    (h : ∀ x dx, H x = none → H dx = none → dx ≠ x → sp (.ref x :: (vs ++ dvs)) (upd (upd H dx (.own x)) x (.ins C dx [])) (fun v H2 => v = .non ∧ Q (.ref x) H2) E) :
    wpAny (model X.prog X.w) X.A (call (.ref C) us) (EP X pins σ Q) X.xe s := by
  have hq := h (s.heap.objs.size + 1) s.heap.objs.size (I.hok.fresh (Nat.le_succ _)) (I.hok.fresh (Nat.le_refl _)) (Nat.ne_of_lt (Nat.lt_succ_self _))
  have I2 := Inv.made (C := C) I
  have r2 : Vals (V.ref (s.heap.objs.size + 1) :: (vs ++ dvs)) (Value.ref (s.heap.objs.size + 1) :: (us ++ ds)) := .cons rfl (r.append hd)
  have hl : (Value.ref (s.heap.objs.size + 1) :: us ++ ds).length = ps.length := by
    have e := r2.length
    rw [F.len _ _ _ _ hq] at e
    exact e.symm
  refine wpAny_call (make_map (f := f) I.kIn M.makes M.init (beq_iff_eq.mp M.fn) (codeAny_mono (F.run _ X.stack _ _ ⟨Value.ref (s.heap.objs.size + 1) :: us, []⟩ (Value.ref (s.heap.objs.size + 1) :: (us ++ ds)) _ _ E (hr.make C us [])
    (I2.env0.make C us []) (hb _ (Value.ref (s.heap.objs.size + 1) :: us) I2.kIn hl) r2 hq) fun r s' hq' => ?_))
  cases r with
  | error e => exact hx pins σ _ _ e s' I2 hq'
  | ok fl =>
    cases fl with
    | ret u =>
      obtain ⟨v, H', I3, rv, ev, q3⟩ := I2.after hq'
      subst ev
      exact ⟨rv, ⟨V.ref (s.heap.objs.size + 1), H', I3, rfl, q3⟩⟩
    | next => exact False.elim hq'
    | brk => exact False.elim hq'
    | cont => exact False.elim hq'
theorem pe_make (M : Mk X.K C f) (F : FnOk X.prog X.w X.K X.mg X.base CX k f fd ps sp) (hr : Room (k + 1) X.A) (hg : Gl X x) (hm : X.mg x = some (.ref C)) (hb : Binds X.K fd ps ds) (hd : Vals dvs ds) (hx : Passes CX X E)
    (ha : PA X (e :: es) t) (hdb : (x == ("__debug__" : Str)) = false := by decide) (he : starEach (e :: es) X.env = (false, eval e X.env) :: starEach es X.env := by rfl) (hpl : (backTo pos (starEach es X.env)).any (·.1) = false := by rfl) :
    PE X (.Call (.Name x p) (e :: es) [] pos) (tMake C sp dvs E t) := by
  intro pins s σ H Q I h
  refine wpAny_Call_Name_kw (ld_glob I hg hm ?_ hdb)
  refine PySem.W.callWith_K (h₀ := X.base) I.ok.mod.kin M.kp (thn (ha pos pins s σ H _ I h) fun us s1 ⟨vs, H1, I1, r, q⟩ => ⟨I1.kIn, ?_⟩) he hpl
  exact run_make M F hr hb hd hx I1 r q
end

/-! ### keywords -/
section
variable {X : Cx} {CX : CXT} {k : Nat} {f C : Addr} {fd : FuncData} {ps ks : List Str} {sp : Sp} {E : XK} {x m : Str} {p pos apos kpos : Pos} {e o : Expr} {es : List Expr} {kws : List Keyword} {te ta : TE} {t tk : TA} {nm : Option Str}
/-- how a call with keywords binds: g puts the positional values us and the keywords' values ws (names ks) in the parameters' order, defaults among them -/
structure KBinds (K : PySem.W.Frag) (fd : FuncData) (ps ks : List Str) (g : List Value → List Value → List Value) (gV : List V → List V → List V) : Prop where
  to : ∀ (s : Shared) (us ws : List Value), K.In s.heap → (g us ws).length = ps.length → BindsTo s fd ⟨us, ks.zip ws⟩ (ps.zip (g us ws))
  rel : ∀ {vs : List V} {us : List Value} {zs : List V} {ws : List Value}, Vals vs us → Vals zs ws → Vals (gV vs zs) (g us ws)
variable {g : List Value → List Value → List Value} {gV : List V → List V → List V}
end

/-! ### a def's body keeps its promise -/
/-- names: the parameters first -/
structure FnScope (N P : List Str) (sc : Scope) : Prop where
  kind : sc.kind = .function
  co : sc.isCoroutine = false
  gen : sc.isGenerator = false
  nd : N.Nodup
  pre : N.take P.length = P
  par : ∀ x ∈ P, sc.names.lookup x = some .local ∨ sc.names.lookup x = some .cell
  nofree : ∀ y ∈ sc.names, y.2 ≠ .free

theorem bindL_out {kindOf : Str → Option NameKind} {x : Str} : ∀ {binds : List (Str × Value)} {m : Str → Option Value}, (∀ v, (x, v) ∉ binds) → bindL kindOf binds m x = m x
  | [], _, _ => rfl
  | (n, v) :: r, m, h => by
    unfold bindL
    rw [bindL_out fun w hw => h w (List.mem_cons_of_mem _ hw)]
    split
    · have : x ≠ n := by rintro rfl; exact h v List.mem_cons_self
      simp [this]
    · rfl
theorem bindC_out {kindOf : Str → Option NameKind} {x : Str} : ∀ {binds : List (Str × Value)} {m : Str → Option Value}, (∀ v, (x, v) ∉ binds) → bindC kindOf binds m x = m x
  | [], _, _ => rfl
  | (n, v) :: r, m, h => by
    unfold bindC
    rw [bindC_out fun w hw => h w (List.mem_cons_of_mem _ hw)]
    split
    · rfl
    · have : x ≠ n := by rintro rfl; exact h v List.mem_cons_self
      simp [this]
theorem bindL_get {kindOf : Str → Option NameKind} {x : Str} {v : Value} : ∀ {P : List Str} {vs : List Value} {i : Nat} {m : Str → Option Value}, P.Nodup → P[i]? = some x → vs[i]? = some v → kindOf x = some .local →
    bindL kindOf (P.zip vs) m x = some v
  | [], _, _, _, _, h, _, _ => by simp at h
  | _ :: _, [], _, _, _, _, h, _ => by simp at h
  | p :: P, w :: vs, 0, m, nd, h1, h2, hk => by
    simp at h1 h2; subst h1; subst h2
    show bindL kindOf ((p, w) :: P.zip vs) m p = _
    unfold bindL
    rw [bindL_out fun v hv => (List.nodup_cons.mp nd).1 (List.of_mem_zip hv).1, if_pos hk]
    simp
  | p :: P, w :: vs, i + 1, m, nd, h1, h2, hk => by
    show bindL kindOf ((p, w) :: P.zip vs) m x = _
    unfold bindL
    exact bindL_get (i := i) (List.nodup_cons.mp nd).2 (by simpa using h1) (by simpa using h2) hk
theorem bindC_get {kindOf : Str → Option NameKind} {x : Str} {v : Value} : ∀ {P : List Str} {vs : List Value} {i : Nat} {m : Str → Option Value}, P.Nodup → P[i]? = some x → vs[i]? = some v → kindOf x ≠ some .local →
    bindC kindOf (P.zip vs) m x = some v
  | [], _, _, _, _, h, _, _ => by simp at h
  | _ :: _, [], _, _, _, _, h, _ => by simp at h
  | p :: P, w :: vs, 0, m, nd, h1, h2, hk => by
    simp at h1 h2; subst h1; subst h2
    show bindC kindOf ((p, w) :: P.zip vs) m p = _
    unfold bindC
    rw [bindC_out fun v hv => (List.nodup_cons.mp nd).1 (List.of_mem_zip hv).1, if_neg hk]
    simp
  | p :: P, w :: vs, i + 1, m, nd, h1, h2, hk => by
    show bindC kindOf ((p, w) :: P.zip vs) m x = _
    unfold bindC
    exact bindC_get (i := i) (List.nodup_cons.mp nd).2 (by simpa using h1) (by simpa using h2) hk

/-- the names' values at the entry -/
def start (N : List Str) (vs : List V) : St := vs.map some ++ List.replicate (N.length - vs.length) none

/-- the context of a def's body, at its entry; an exception leaves the frame, then lies as CX says -/
def cxOf (CX : CXT) (P : Program) (w : World) (K : PySem.W.Frag) (mg : Str → Option Value) (base : Heap) (N : List Str) (qual : Str) (scope : Scope) (f : Addr) (cd : Value) (A : Around) (outer : List Env) (s : Shared) (H : Hp) (E : XK) : Cx where
  prog := P
  w := w
  K := K
  mg := mg
  base := base
  A := A.deeper (envOfC qual scope s.heap.objs.size f cd)
  N := N
  s_0 := s
  H_0 := H
  env := envOfC qual scope s.heap.objs.size f cd
  outer := outer
  stack := envOfC qual scope s.heap.objs.size f cd :: outer
  ex := []
  calm := true
  fn := fun _ => true
  pn := []
  xe := fun e s' => wpAny (model P w) (A.deeper (envOfC qual scope s.heap.objs.size f cd)) (leaving (envOfC qual scope s.heap.objs.size f cd) e) (fun _ s'' => CX outer H s E e s'') (fun e' s'' => CX outer H s E e' s'') s'

theorem cell_has {sc : Scope} {n : Nat} {x : Str} (h : sc.names.lookup x = some .cell) : ∃ c, (cellsFrom n sc.names []).lookup x = some c := by
  have q := PySem.W.cellsFrom_some sc.names n [] (.inl h)
  exact Option.isSome_iff_exists.mp q

theorem inv_start {CX : CXT} {P : Program} {w : World} {K : PySem.W.Frag} {mg : Str → Option Value} {base : Heap} {N ps : List Str} {qual : Str} {scope : Scope} {f : Addr} {cd : Value} {A : Around} {outer : List Env} {s s1 : Shared} {H : Hp} {E : XK} {us : List Value} {vs : List V}
    (S : FnScope N ps scope) (hd : A.handled = none) (e0 : Env0 P w K mg base A outer s H) (hl : vs.length = ps.length) (r : Vals vs us)
    (x : InCallC s s.heap.objs.size (bindL (envOfC qual scope s.heap.objs.size f cd).kindOf (ps.zip us) fun _ => none) (cellsFrom (s.heap.objs.size + 1) scope.names []) (bindC (envOfC qual scope s.heap.objs.size f cd).kindOf (ps.zip us) fun _ => none) s1) :
    Inv (cxOf CX P w K mg base N qual scope f cd A outer s H E) [] (start N vs) H s1 := by
  have hpl : ps.length ≤ N.length := by have := congrArg List.length S.pre; rw [List.length_take] at this; omega
  obtain ⟨h1, tk, rfl, hk⟩ := x.done
  have noA : ∀ b : Addr, b ∉ (cxOf CX P w K mg base N qual scope f cd A outer s H E).ex := fun b z => absurd (show b ∈ ([] : List Addr) from z) (by simp)
  refine ⟨⟨e0.mod, S.kind, rfl, rfl, Nat.le_refl _, fun y z c h1 h2 => ?_, fun y hy => ?_, fun y c _ h => ?_, fun _ => hd, Around.frames_deeper e0.frames, .inr ⟨rfl, rfl⟩, fun b z => absurd z (noA b), e0.bs, e0.bsz, fun b _ _ => noA b, fun b z => absurd z (noA b), e0.funs, e0.frf⟩,
    rfl, e0.bare, Un.kept hk, ⟨_, x.toInCall.ns, fun i y v h1 h2 h3 => ?_⟩, fun y c h => ⟨_, x.cell y c h⟩, e0.hok.fresh (Nat.le_refl _), fun y c h => ?_, fun p hp => absurd (show p ∈ ([] : List (Addr × Obj)) from hp) (by simp), e0.hok.kept hk, ?_⟩
  · exact name_of_addr x.apart (PySem.mem_of_lookup h1) (PySem.mem_of_lookup h2)
  · have hy : scope.names.lookup y = some .cell ∨ scope.names.lookup y = some .free := hy
    rcases hy with hy | hy
    · exact cell_has hy
    · exact absurd rfl (S.nofree _ (PySem.mem_of_lookup hy))
  · exact Nat.le_of_lt (x.above y c (PySem.mem_of_lookup h))
  · have hi : i < vs.length := by
      unfold start at h2
      by_cases hi : i < vs.length
      · exact hi
      · rw [List.getElem?_append_right (by simpa using hi)] at h2
        rw [List.getElem?_replicate] at h2
        split at h2 <;> cases h2
    have ha : vs[i]? = some v := by
      unfold start at h2
      rw [List.getElem?_append_left (by simpa using hi), List.getElem?_map] at h2
      cases e : vs[i]? with
      | none => rw [e] at h2; cases h2
      | some a => rw [e] at h2; cases h2; rfl
    obtain ⟨u, hu, rv⟩ := r.get ha
    have hp : ps[i]? = some y := by
      rw [← S.pre, List.getElem?_take_of_lt (by omega)]; exact h1
    have ndP : ps.Nodup := by rw [← S.pre]; exact S.nd.sublist (List.take_sublist _ _)
    refine ⟨u, rv, ?_⟩
    rcases S.par y (List.mem_of_getElem? hp) with k | k
    · exact .inl ⟨k, bindL_get ndP hp hu k⟩
    · obtain ⟨c, e⟩ := cell_has (n := s.heap.objs.size + 1) k
      refine .inr ⟨.inl k, c, e, ?_⟩
      have q := x.cell y c e
      rw [bindC_get ndP hp hu (by show scope.names.lookup y ≠ _; rw [k]; decide)] at q
      exact q
  · exact e0.hok.fresh (Nat.le_of_lt (x.above y c (PySem.mem_of_lookup h)))
  · unfold start
    show _ = N.length
    rw [List.length_append, List.length_map, List.length_replicate]
    omega

/-- THE RULE: a def (or a method) of the text, by its body. The body's reading t is chosen for each entry; it is run at the parameters' values -/
theorem fn_of {CX : CXT} {P : Program} {w : World} {K : PySem.W.Frag} {mg : Str → Option Value} {base : Heap} {k : Nat} {f : Addr} {name qual : Str} {params : Arguments} {body : List Stmt} {scope : Scope} {dV kV doc pm cdv ct oc : Value} {an od : Option Addr}
    {osl : Array (Option Value)} {N ps : List Str} {sp : Sp} (lk : K.lookup f = some ⟨oc, od, .func (PySem.W.fnOf name qual params body scope dV kV doc pm an cdv ct), osl⟩) (hcd : PySem.W.codeIn K cdv qual = true) (S : FnScope N ps scope)
    (len : ∀ vs H Q E, sp vs H Q E → vs.length = ps.length)
    (hbody : ∀ (A : Around) (outer : List Env) (s : Shared) (H : Hp) (vs : List V) (Q : VK) (E : XK), Room k (A.deeper (envOfC qual scope s.heap.objs.size f cdv)) → sp vs H Q E →
      ∃ t, PSs (cxOf CX P w K mg base N qual scope f cdv A outer s H E) body t ∧ t { nx := fun _ H' => Q .non H', rt := Q } (start N vs) H) :
    FnOk P w K mg base CX (k + 1) f (PySem.W.fnOf name qual params body scope dV kV doc pm an cdv ct) ps sp := by
  refine ⟨len, fun A outer s H args us vs Q E hr e0 hb r hsp => ?_⟩
  have hl := len _ _ _ _ hsp
  have KX : K.In s.heap := e0.mod.kin.keeps fun b o e => (e0.bs b o e).1
  have lim : s.heap.NoLimit := e0.mod.nolimit.keeps fun b o e => (e0.bs b o e).1
  have hkind : ∀ y ∈ ps.zip us, scope.names.lookup y.1 = some .local ∨ (scope.names.lookup y.1 = some .cell ∧ ((cellsFrom (s.heap.objs.size + 1) scope.names []).lookup y.1).isSome = true) := fun ⟨n, v⟩ hy => by
    rcases S.par n (List.of_mem_zip hy).1 with q | q
    · exact .inl q
    · exact .inr ⟨q, PySem.W.cellsFrom_some _ _ _ (.inl q)⟩
  refine codeAny_call_function hr.depth (KX _ _ lk) rfl S.co S.gen rfl (PySem.W.codeRec_of KX hcd) (hb _ _ _ _ ?_)
  refine wpAny_newFunctionEnv_cells S.kind hkind fun env he s1 x => ?_
  subst he
  refine ⟨lim.keeps x.toInCall.keep, codeAny_func ?_⟩
  obtain ⟨t, ht, hq⟩ := hbody A outer s H vs Q E (hr.deeper _) hsp
  have I : Inv (cxOf CX P w K mg base N qual scope f cdv A outer s H E) [] (start N vs) H s1 := inv_start S hr.hd e0 hl r x
  refine wpAny_mono (ht [] s1 (start N vs) H _ I hq) (fun fl s' hs => ?_) fun e s' hs => hs
  have fin : ∀ {σ' : St} {H' : Hp} {v : V} {u : Value}, Inv (cxOf CX P w K mg base N qual scope f cdv A outer s H E) [] σ' H' s' → RelV v u → Q v H' → CE outer P w H s Q u s' :=
    fun {σ' H' v u} J rv q => ⟨v, H', J.os, J.bare, J.base, J.hok, rv, q⟩
  cases fl with
  | ret u =>
    obtain ⟨v, σ', H', J, rv, q⟩ := hs
    exact fin J rv q
  | next =>
    obtain ⟨σ', H', J, q⟩ := hs
    exact fin (v := V.non) (u := Value.none) J rfl q
  | brk =>
    obtain ⟨_, _, _, q⟩ := hs
    exact False.elim q
  | cont =>
    obtain ⟨_, _, _, q⟩ := hs
    exact False.elim q
end L2

namespace L2
open PySem PySem.Spec PyProof.Rows
section
variable {X : Cx} {x : Str} {p pos : Pos} {e : Expr} {es : List Expr} {t : TA} {id T : String} {r : List V → Hp → VK → Prop}

def tCB (r : List V → Hp → VK → Prop) (t : TA) : TE := fun σ H Q => t σ H fun vs H1 => r vs H1 Q
/-- f(e, ..), f a built-in function -/
theorem pe_callB (hc : CallR X (.builtin id) r) (hg : Gl X x) (hm : X.mg x = none) (hv : bootBuiltins x = some (.builtin id)) (ha : PA X (e :: es) t) (hn : x ≠ "__name__" := by decide) (hdb : (x == ("__debug__" : Str)) = false := by decide)
    (he : starEach (e :: es) X.env = (false, eval e X.env) :: starEach es X.env := by rfl) (hpl : (backTo pos (starEach es X.env)).any (·.1) = false := by rfl) : PE X (.Call (.Name x p) (e :: es) [] pos) (tCB r t) := by
  intro pins s σ H Q I h
  refine wpAny_Call_Name_kw (ld_blt I hg hm hv ?_ hn hdb)
  exact PyProof.Rows.callWith_builtin1 (thn (ha pos pins s σ H _ I h) fun us s1 ⟨vs, H1, I1, r1, q1⟩ => hc pins s1 σ H1 vs us Q I1 r1 q1) he hpl
/-- T(e, ..), T a built-in type -/
theorem pe_callTy (hc : CallR X (.type T) r) (hg : Gl X x) (hm : X.mg x = none) (hv : bootBuiltins x = some (.type T)) (ha : PA X (e :: es) t) (hn : x ≠ "__name__" := by decide) (hdb : (x == ("__debug__" : Str)) = false := by decide)
    (he : starEach (e :: es) X.env = (false, eval e X.env) :: starEach es X.env := by rfl) (hpl : (backTo pos (starEach es X.env)).any (·.1) = false := by rfl) : PE X (.Call (.Name x p) (e :: es) [] pos) (tCB r t) := by
  intro pins s σ H Q I h
  refine wpAny_Call_Name_kw (ld_blt I hg hm hv ?_ hn hdb)
  exact PyProof.Rows.callWith_type1 (thn (ha pos pins s σ H _ I h) fun us s1 ⟨vs, H1, I1, r1, q1⟩ => hc pins s1 σ H1 vs us Q I1 r1 q1) he hpl
end
end L2

namespace HT
open PySem PyProof.Rows

section
open PySem.SeqAt
open PySem.AutoSeq1 (wpAny_loadPart')
open PySem.MeetsSeq PySem.MeetsSeq2 PySem.MeetsSeq3

end

section
variable {prog : Program} {w : World} {A : Around} {E : Value → Shared → Prop} {s : Shared}

/-! ### t[a:b], not the whole -/
/-- a slice's bound as a place among n (d where it is left out) -/
def sIx (n d : Nat) : Option Int → Nat
  | none => d
  | some v => if v < 0 then (v + (n : Int)).toNat else min v.toNat n
theorem sIx_none (n d : Nat) : sIx n d none = d := rfl
theorem sIx_nat (n d k : Nat) : sIx n d (some (k : Int)) = min k n := by
  show (if (k : Int) < 0 then ((k : Int) + (n : Int)).toNat else min (k : Int).toNat n) = min k n
  rw [if_neg (by omega), Int.toNat_natCast]
theorem sIx_le (n d : Nat) (hd : d ≤ n) (o : Option Int) : sIx n d o ≤ n := by
  cases o with
  | none => exact hd
  | some v =>
    show (if v < 0 then (v + (n : Int)).toNat else min v.toNat n) ≤ n
    by_cases hv : v < 0
    · rw [if_pos hv]; omega
    · rw [if_neg hv]; exact Nat.min_le_right _ _
end
end HT

namespace L2
open PySem PySem.Spec PyProof.Rows

/-! ### the parts of a slice -/
abbrev TO := St → Hp → (Option Int → Hp → Prop) → Prop
/-- a slice's part (left out, or an int) -/
def PO (X : Cx) (e : Option Expr) (t : TO) : Prop :=
  ∀ (pins : List (Addr × Obj)) (s : Shared) (σ : St) (H : Hp) (Q : Option Int → Hp → Prop), Inv X pins σ H s → t σ H Q →
    wpAny (model X.prog X.w) X.A (evalPart e X.env) (fun u s' => ∃ o H', Inv X pins σ H' s' ∧ IsPart u o ∧ Q o H') X.xe s
def tPart (t : TE) : TO := fun σ H Q => t σ H fun x H1 => ∃ i, x = .int i ∧ Q (some i) H1

section
variable {X : Cx} {e : Expr} {te : TE} {lo hi : Option Expr} {tl th : TO} {pos p2 : Pos}

theorem po_some (h : PE X e te) : PO X (some e) (tPart te) := by
  intro pins s σ H Q I hw
  rw [evalPart_some]
  refine thn (h pins s σ H _ I hw) fun u s1 ⟨x, H1, I1, r1, q1⟩ => ?_
  obtain ⟨i, rfl, q⟩ := q1
  obtain ⟨t, rfl⟩ := r1
  exact ⟨some i, H1, I1, .int i t, q⟩

/-- what a slice of a value is, by values: the slice object stands at sl -/
def SlR (X : Cx) (r : V → Option Int → Option Int → Hp → VK → Prop) : Prop :=
  ∀ (pins : List (Addr × Obj)) (s : Shared) (σ : St) (H : Hp) (x : V) (v vl vu : Value) (lo hi : Option Int) (sl : Addr) (Q : VK), Inv X pins σ H s → RelV x v → s.heap.IsSliceOf sl vl vu .none → IsPart vl lo → IsPart vu hi → r x lo hi H Q →
    ∃ T id, typeLookup (.type T) "__getitem__" = pure (some (.builtin id)) ∧ s.TypeIs v T ∧ wpAny (model X.prog X.w) X.A (getItem v (.ref sl)) (EP X pins σ Q) X.xe s
def tSl (r : V → Option Int → Option Int → Hp → VK → Prop) (te : TE) (tl th : TO) : TE := fun σ H Q => te σ H fun x H1 => tl σ H1 fun l H2 => th σ H2 fun u H3 => r x l u H3 Q
/-- a[lo:hi], any a -/
theorem pe_slice {r : V → Option Int → Option Int → Hp → VK → Prop} (hr : SlR X r) (he : PE X e te) (hl : PO X lo tl) (hu : PO X hi th) : PE X (.Subscript e (.Slice lo hi none p2) pos) (tSl r te tl th) := by
  intro pins s σ H Q I h
  refine Subscript_ (thn (he pins s σ H _ I h) fun v s1 ⟨x, H1, I1, r1, q1⟩ => ?_)
  refine wpAny_Slice (thn (hl pins s1 σ H1 _ I1 q1) fun vl s2 ⟨l, H2, I2, pl, q2⟩ => thn (hu pins s2 σ H2 _ I2 q2) fun vu s3 ⟨u, H3, I3, pu, q3⟩ => ?_)
  rw [evalPart_none]
  refine wpAny_pure ?_
  have I4 : Inv X pins σ H3 { s3 with heap := s3.heap.push { cls := .type "slice", data := .fields #[vl, vu, .none] } } := I3.kept (t' := s3.toks) fun b ob q => Heap.get?_push_of_some _ q
  obtain ⟨T, id, hT, ht, hg⟩ := hr pins { s3 with heap := s3.heap.push { cls := .type "slice", data := .fields #[vl, vu, .none] } } σ H3 x v vl vu l u s3.heap.objs.size Q I4 r1 (Heap.IsSliceOf.new ..) pl pu q3
  show wpAny (model X.prog X.w) X.A (subscriptTail e (.Slice lo hi none p2) v (.ref s3.heap.objs.size)) (EP X pins σ Q) X.xe { s3 with heap := s3.heap.push { cls := .type "slice", data := .fields #[vl, vu, .none] } }
  exact tail_any (ops := [.ref s3.heap.objs.size, v]) ht hT hg (by with_unfolding_all rfl)

/-- the items of xs[lo:hi] -/
def cutV (xs : List V) (lo hi : Option Int) : List V := (xs.drop (HT.sIx xs.length 0 lo)).take (HT.sIx xs.length xs.length hi - HT.sIx xs.length 0 lo)
theorem cutV_length (xs : List V) (lo hi : Option Int) : (cutV xs lo hi).length ≤ xs.length := by
  unfold cutV
  rw [List.length_take, List.length_drop]
  omega
/-! ### t < u, t + u -/
end
end L2

namespace L2
open PySem PySem.Spec PyProof.Rows

/-! ### places -/
/-- the place that an index of any sign means -/
def ixN (n : Nat) (i : Int) : Option Nat := if 0 ≤ i then (if i < n then some i.toNat else none) else if -(n : Int) ≤ i then some (i + n).toNat else none
def atI {α : Type} (xs : List α) (i : Int) : Option α := (ixN xs.length i).bind fun j => xs[j]?
theorem ixN_seq {n : Nat} {i : Int} {j : Nat} (h : ixN n i = some j) : seqIndex? i n = some j ∧ j < n ∧ -(n : Int) ≤ i ∧ i < n := by
  unfold ixN at h
  by_cases h0 : 0 ≤ i
  · rw [if_pos h0] at h
    by_cases h1 : i < n
    · rw [if_pos h1] at h
      have e : i.toNat = j := Option.some.inj h
      exact ⟨by rw [seqIndex_of h0 h1, e], by omega, by omega, h1⟩
    · rw [if_neg h1] at h; cases h
  · rw [if_neg h0] at h
    by_cases h1 : -(n : Int) ≤ i
    · rw [if_pos h1] at h
      have e : (i + n).toNat = j := Option.some.inj h
      exact ⟨by rw [seqIndex_neg (by omega) h1, e], by omega, h1, by omega⟩
    · rw [if_neg h1] at h; cases h
theorem atI_get {α : Type} {xs : List α} {i : Int} {v : α} (h : atI xs i = some v) : ∃ j, seqIndex? i xs.length = some j ∧ xs[j]? = some v ∧ j < xs.length ∧ -(xs.length : Int) ≤ i ∧ i < xs.length := by
  unfold atI at h
  cases e : ixN xs.length i with
  | none => rw [e] at h; cases h
  | some j =>
    rw [e] at h
    obtain ⟨h1, h2, h3, h4⟩ := ixN_seq e
    exact ⟨j, h1, h, h2, h3, h4⟩
theorem atI_nat {α : Type} {xs : List α} {j : Nat} {v : α} (h : xs[j]? = some v) : atI xs (j : Int) = some v := by
  have hj : j < xs.length := (List.getElem?_eq_some_iff.mp h).1
  have e : ixN xs.length (j : Int) = some j := by
    unfold ixN
    rw [if_pos (by omega), if_pos (by omega)]; simp
  unfold atI; rw [e]; exact h
/-! ### what may be subscripted -/
/-- what stands as an index of a plain subscript -/
def PlainIx (b : Expr) : Prop := ∀ o i, subscripted b false o i = operate [o, i] (getItem o i)
/-- a subscript by values -/
def IxR (X : Cx) (r : R2) : Prop :=
  ∀ (value slice : Expr) (pins : List (Addr × Obj)) (s : Shared) (σ : St) (H : Hp) (x y : V) (v u : Value) (Q : VK), Inv X pins σ H s → RelV x v → RelV y u → r x y H Q →
    subscripted slice false v u = operate [v, u] (getItem v u) → wpAny (model X.prog X.w) X.A (subscriptTail value slice v u) (EP X pins σ Q) X.xe s
/-- a call of a builtin's method by values: the receiver, the arguments -/
def MtR (X : Cx) (id : String) (r : V → List V → Hp → VK → Prop) : Prop :=
  ∀ (pins : List (Addr × Obj)) (s : Shared) (σ : St) (H : Hp) (x : V) (xs : List V) (v : Value) (us : List Value) (Q : VK), Inv X pins σ H s → RelV x v → Vals xs us → r x xs H Q →
    wpAny (model X.prog X.w) X.A (call (.builtin id) (v :: us)) (EP X pins σ Q) X.xe s
section
variable {X : Cx} {a b : Expr} {ta tb : TE} {pos : Pos}
/-- a[b] -/
theorem pe_ix {r : R2} (hr : IxR X r) (ha : PE X a ta) (hb : PE X b tb) (hs : PlainIx b) : PE X (.Subscript a b pos) (tOp r ta tb) := by
  intro pins s σ H Q I h
  exact Subscript_ (binT ha hb I h fun v u s2 x y H2 I2 rx ry q => hr a b pins s2 σ H2 x y v u Q I2 rx ry q (hs _ _))

def rIxL (K : PySem.W.Frag) : R2 := fun x y H Q => ∃ p xs i v, x = .ref p ∧ y = .int i ∧ SqL K H p xs ∧ atI xs i = some v ∧ Q v H
def rIxT (K : PySem.W.Frag) : R2 := fun x y H Q => ∃ p xs i v, x = .ref p ∧ y = .int i ∧ SqT K H p xs ∧ atI xs i = some v ∧ Q v H
def rIxS : R2 := fun x y H Q => ∃ z i c, x = .str z ∧ y = .int i ∧ z.length ≤ sizeLine ∧ atI z.cps.toList i = some c ∧ Q (.str ⟨#[c]⟩) H
theorem ix_list : IxR X (rIxL X.K) := by
  intro value slice pins s σ H x y v u Q I rx ry h hs
  obtain ⟨p, xs, i, z, rfl, rfl, hq, he, q⟩ := h
  cases rx
  obtain ⟨t, rfl⟩ := ry
  obtain ⟨its, r, pl, hz⟩ := I.list hq
  obtain ⟨j, h1, h2, h3, h4, h5⟩ := atI_get he
  obtain ⟨w, ew, rw'⟩ := r.get h2
  have hl := r.length
  have hn := line63
  have fin : EP X pins σ Q w s := ⟨z, H, I, rw', q⟩
  by_cases h0 : 0 ≤ i
  · have hj : i.toNat = j := by
      rw [seqIndex_of h0 h5] at h1
      exact Option.some.inj h1
    exact item_listR pl.isList h0 (by omega) (by rw [hj]; simpa using ew) fin hs
  · have hj : (i + (its.toArray.size : Int)).toNat = j := by
      rw [seqIndex_neg (by omega) h4] at h1
      rw [List.size_toArray, ← hl]
      exact Option.some.inj h1
    exact subscriptTail_builtinR (x := w) pl.isList.typeIs slot_list_getitem.lookup
      (wpAny_getItem_list_neg (Q := fun r s' => r = w ∧ EP X pins σ Q r s') pl.isList (by omega) (by rw [List.size_toArray] <;> omega) (by omega) (by rw [hj]; simpa using ew) ⟨rfl, fin⟩) hs
theorem ix_tup : IxR X (rIxT X.K) := by
  intro value slice pins s σ H x y v u Q I rx ry h hs
  obtain ⟨p, xs, i, z, rfl, rfl, hq, he, q⟩ := h
  cases rx
  obtain ⟨t, rfl⟩ := ry
  obtain ⟨its, r, pl, hz⟩ := I.tuple hq
  obtain ⟨j, h1, h2, h3, h4, h5⟩ := atI_get he
  obtain ⟨w, ew, rw'⟩ := r.get h2
  have hl := r.length
  have hn := line63
  have fin : EP X pins σ Q w s := ⟨z, H, I, rw', q⟩
  exact subscriptTail_builtinR (x := w) pl.typeIs slot_tuple_getitem.lookup
    (getItem_tuple (j := j) (Q := fun r s' => r = w ∧ EP X pins σ Q r s') pl (by omega) (by omega) (by rw [List.size_toArray, ← hl]; exact h1) (by simpa using ew) ⟨rfl, fin⟩) hs
theorem ix_str : IxR X rIxS := by
  intro value slice pins s σ H x y v u Q I rx ry h hs
  obtain ⟨z, i, c, rfl, rfl, hz, he, q⟩ := h
  obtain ⟨t, rfl⟩ := rx
  obtain ⟨t', rfl⟩ := ry
  obtain ⟨j, h1, h2, h3, h4, h5⟩ := atI_get he
  have hl : z.cps.toList.length = z.length := by simp [Str.length]
  rw [hl] at h1 h4 h5
  have hn := line63
  exact tail_any (typeIs_str s z t) slot_str_getitem.lookup (getItem_str (c := c) (by
    have e1 : decide (i < -(2 ^ 63 : Int)) = false := decide_eq_false (by omega)
    have e2 : decide (i ≥ 2 ^ 63) = false := decide_eq_false (by omega)
    rw [e1, e2, Bool.or_false]) (by rw [h1]; simpa using h2) ⟨.str ⟨#[c]⟩, H, I.tok _, ⟨_, rfl⟩, q⟩) hs
/-! ### xs[i] = v, any sign -/
/-- the list's object behind a store -/
theorem mapSeq_set (its : List Value) (n j : Nat) (u : Value) : Obj.mapSeq (·.setIfInBounds j u) { cls := .type "list", data := .seq its.toArray n } = { cls := .type "list", data := .seq (its.set j u).toArray n } := by
  simp [Obj.mapSeq]
theorem Inv.lst {pins : List (Addr × Obj)} {σ : St} {H : Hp} {s : Shared} {p : Addr} {xs : List V} (I : Inv X pins σ H s) (h : H p = some (.lst xs)) :
    ∃ (its : List Value) (n : Nat), Vals xs its ∧ s.heap.get? p = some { cls := .type "list", data := .seq its.toArray n } ∧ xs.length ≤ sizeLine := by
  obtain ⟨z, its, n, r, e⟩ := I.hok p _ h
  exact ⟨its, n, r, e, z⟩
/-- the list at p is written by an update of its object -/
theorem Inv.lstUpd {pins : List (Addr × Obj)} {σ : St} {H : Hp} {s : Shared} {p : Addr} {xs ys : List V} {its its' : List Value} {n n' : Nat} {f : Obj → Obj} (I : Inv X pins σ H s) (h : H p = some (.lst xs))
    (ho : s.heap.get? p = some { cls := .type "list", data := .seq its.toArray n }) (hf : f { cls := .type "list", data := .seq its.toArray n } = { cls := .type "list", data := .seq its'.toArray n' }) (r : Vals ys its') (hz : ys.length ≤ sizeLine) (t : Nat) :
    Inv X pins σ (upd H p (.lst ys)) { s with heap := s.heap.update p f, toks := t } := by
  have e : (s.heap.update p f).get? p = some { cls := .type "list", data := .seq its'.toArray n' } := by
    rw [Heap.get?_update_self f ho (by rw [hf] <;> rfl), hf]
  refine I.write (x := p) (e := p) (by rw [h]; trivial) (.inl rfl) (fun b u hb q => (Heap.get?_update_other _ _ (Ne.symm hb)).trans q) ⟨_, e⟩ ?_
  exact ⟨hz, its', n', r, e⟩
def rSetL : V → V → V → Hp → (Hp → Prop) → Prop := fun o i v H Q => ∃ p xs k j, o = .ref p ∧ i = .int k ∧ H p = some (.lst xs) ∧ ixN xs.length k = some j ∧ Q (upd H p (.lst (xs.set j v)))
theorem set_list : PSet X rSetL := by
  intro pins s σ H o i v ov iv u Q I ro ri rv h
  obtain ⟨p, xs, k, j, rfl, rfl, hp, hj, q⟩ := h
  cases ro
  obtain ⟨t, rfl⟩ := ri
  obtain ⟨its, n, r, ho, hz⟩ := I.lst hp
  obtain ⟨h1, h2, h3, h4⟩ := ixN_seq hj
  have hl := r.length
  have hn := line63
  have I' : Inv X pins σ (upd H p (.lst (xs.set j v))) { s with heap := s.heap.update p (Obj.mapSeq (·.setIfInBounds j u)) } :=
    I.lstUpd hp ho (mapSeq_set its n j u) (r.set rv j) (by rw [List.length_set]; exact hz) s.toks
  by_cases h0 : 0 ≤ k
  · have hk : k.toNat = j := by
      rw [seqIndex_of h0 h4] at h1
      exact Option.some.inj h1
    exact PySem.W.ki_setAt ho h0 (by omega) (by rw [List.size_toArray, ← hl]; exact h4) (by rw [hk]; exact ⟨_, I', q⟩)
  · have hk : (k + (its.toArray.size : Int)).toNat = j := by
      rw [seqIndex_neg (by omega) h3] at h1
      rw [List.size_toArray, ← hl]
      exact Option.some.inj h1
    exact PySem.W.ki_setBack ho (by omega) (by rw [List.size_toArray, ← hl]; exact h3) (by omega) (by rw [hk]; exact ⟨_, I', q⟩)

/-! ### slices -/
theorem slice_bounds (lo hi : Option Int) (n : Nat) : (sliceBounds lo hi none n).1 = ((HT.sIx n 0 lo : Nat) : Int) ∧ (sliceBounds lo hi none n).2.1 = ((HT.sIx n n hi : Nat) : Int) ∧ (sliceBounds lo hi none n).2.2 = 1 := by
  refine ⟨?_, ?_, rfl⟩
  · cases lo with
    | none => simp [sliceBounds, HT.sIx]
    | some i =>
      simp only [sliceBounds, HT.sIx, Option.getD_none, show (1 : Int) > 0 by decide, if_true]
      by_cases h : i < 0
      · simp only [h, if_true] <;> omega
      · simp only [h, if_false] <;> omega
  · cases hi with
    | none => simp [sliceBounds, HT.sIx]
    | some i =>
      simp only [sliceBounds, HT.sIx, Option.getD_none, show (1 : Int) > 0 by decide, if_true]
      by_cases h : i < 0
      · simp only [h, if_true] <;> omega
      · simp only [h, if_false] <;> omega
theorem slicePick_cut (its : List Value) (lo hi : Option Int) : slicePick its.toArray lo hi none = ((its.drop (HT.sIx its.length 0 lo)).take (HT.sIx its.length its.length hi - HT.sIx its.length 0 lo)).toArray := by
  obtain ⟨h1, h2, h3⟩ := slice_bounds lo hi its.toArray.size
  unfold slicePick
  rw [h1, h2, h3]
  simp only [sliceRange_one, pick_run, List.size_toArray] <;> rfl
/-- xs[lo:hi] of a list: a new list -/
def rSlL (K : PySem.W.Frag) : V → Option Int → Option Int → Hp → VK → Prop := fun x lo hi H Q => ∃ a xs, x = .ref a ∧ SqL K H a xs ∧ ∀ p, H p = none → Q (.ref p) (upd H p (.lst (cutV xs lo hi)))
theorem sl_list : SlR X (rSlL X.K) := by
  intro pins s σ H x v vl vu lo hi sl Q I rx hs pl pu h
  obtain ⟨a, xs, rfl, hx, q⟩ := h
  cases rx
  obtain ⟨its, r, ht, hz⟩ := I.list hx
  have hlen := r.length
  refine ⟨"list", _, slot_list_getitem.lookup, ht.isList.typeIs, ?_⟩
  refine wpAny_getItem_list_slice ht.isList hs pl pu .none (by simp) ?_ (by rw [List.size_toArray] <;> omega)
  rw [slicePick_cut, ← hlen]
  refine ⟨.ref s.heap.objs.size, _, I.laid (t' := s.toks) (o := .lst (cutV xs lo hi)) (fun b ob q => Heap.get?_push_of_some _ q) (Nat.le_refl _) ?_, rfl, q _ (I.hok.fresh (Nat.le_refl _))⟩
  exact ⟨Nat.le_trans (cutV_length xs lo hi) hz, _, 0, (r.drop (HT.sIx xs.length 0 lo)).take (HT.sIx xs.length xs.length hi - HT.sIx xs.length 0 lo), Heap.get?_push_size _ rfl⟩

/-! ### in, not in: flat items -/
/-! ### len, list(x), tuple(x) of any list or tuple that is read -/
theorem call_len_seq : CallR X (.builtin "len") (fun xs H Q => ∃ p ys, xs = [.ref p] ∧ (SqL X.K H p ys ∨ SqT X.K H p ys) ∧ Q (.int ys.length) H) := by
  intro pins s σ H xs us Q I r h
  obtain ⟨p, ys, rfl, hq, q⟩ := h
  obtain ⟨u, rfl, rx⟩ := vals1 r
  cases rx
  have hn := line63
  rcases hq with hq | hq
  · obtain ⟨its, r', pl, hz⟩ := I.list hq
    have hlen := r'.length
    exact Calls.call_len_list pl.isList (by simp only [List.size_toArray] <;> omega) ⟨.int ys.length, H, I.tok _, ⟨s.toks + 1, by rw [List.size_toArray, hlen]⟩, q⟩
  · obtain ⟨its, r', pl, hz⟩ := I.tuple hq
    have hlen := r'.length
    exact len_tuple pl (by simp only [List.size_toArray] <;> omega) ⟨.int ys.length, H, I.tok _, ⟨s.toks + 1, by rw [List.size_toArray, hlen]⟩, q⟩
theorem call_list_of : CallR X (.type "list") (fun xs H Q => ∃ p ys, xs = [.ref p] ∧ (SqL X.K H p ys ∨ SqT X.K H p ys) ∧ ∀ l, H l = none → Q (.ref l) (upd H l (.lst ys))) := by
  intro pins s σ H xs us Q I r h
  obtain ⟨p, ys, rfl, hq, q⟩ := h
  obtain ⟨u, rfl, rx⟩ := vals1 r
  cases rx
  have fin : ∀ (its : List Value), Vals ys its → ys.length ≤ sizeLine → ∀ (h' : Heap) (c' : Nat), (∀ b o', s.heap.get? b = some o' → h'.get? b = some o') →
      h'.get? s.heap.objs.size = some { cls := .type "list", dict := none, data := .seq its.toArray c', slots := #[] } → EP X pins σ Q (.ref s.heap.objs.size) { s with heap := h' } := fun its r' hz h' c' kp e =>
    ⟨.ref s.heap.objs.size, _, I.laid (t' := s.toks) kp (Nat.le_refl _) (show ObjOk X.prog X.w _ h' _ (.lst ys) from ⟨hz, its, c', r', e⟩), rfl, q _ (I.hok.fresh (Nat.le_refl _))⟩
  rcases hq with hq | hq
  · obtain ⟨its, r', pl, hz⟩ := I.list hq
    have hlen := r'.length
    obtain ⟨o, ho, hc, n, hd⟩ := pl.isList
    exact call_list_seq p (.inl rfl) ho hc hd (fun h' c' kp e => fin its r' hz h' c' kp e) (by simp only [List.size_toArray] <;> omega)
  · obtain ⟨its, r', pl, hz⟩ := I.tuple hq
    have hlen := r'.length
    obtain ⟨o, ho, hc, n, hd⟩ := pl
    exact call_list_seq p (.inr rfl) ho hc hd (fun h' c' kp e => fin its r' hz h' c' kp e) (by simp only [List.size_toArray] <;> omega)
/-! ### the call of a builtin's method: o.m(..) -/
/-- the value is of that builtin type -/
def tyV (K : PySem.W.Frag) (T : String) (x : V) (H : Hp) : Prop := match x with
  | .str _ => T = "str"
  | .int _ => T = "int"
  | .ref p => (T = "list" ∧ ∃ xs, SqL K H p xs) ∨ (T = "tuple" ∧ ∃ o, K.lookup p = some o ∧ o.cls = .type "tuple" ∧ o.dict = none) ∨
      (T = "dict" ∧ ((∃ kvs, H p = some (.dK kvs)) ∨ ∃ kvs, H p = some (.dT kvs))) ∨ (T = "set" ∧ ∃ S n, H p = some (.set S n))
  | _ => False
theorem tyV_is {pins : List (Addr × Obj)} {σ : St} {H : Hp} {s : Shared} {T : String} {x : V} {v : Value} (I : Inv X pins σ H s) (r : RelV x v) (ty : tyV X.K T x H) :
    s.TypeIs v T ∧ ∀ a, v = .ref a → ∃ ob, s.heap.get? a = some ob ∧ ob.dict = none := by
  cases x with
  | str z =>
    obtain ⟨t, rfl⟩ := r
    cases (show T = "str" from ty)
    exact ⟨typeIs_str s z t, fun _ e => nomatch e⟩
  | int i =>
    obtain ⟨t, rfl⟩ := r
    cases (show T = "int" from ty)
    exact ⟨typeIs_int s i t, fun _ e => nomatch e⟩
  | ref p =>
    cases r
    rcases ty with ⟨rfl, xs, hq⟩ | ⟨rfl, o, hk, hc, hd⟩ | ⟨rfl, hk⟩ | ⟨rfl, S, n, hk⟩
    · obtain ⟨its, _, pl, _⟩ := I.list hq
      refine ⟨pl.isList.typeIs, fun a e => ?_⟩
      cases e
      obtain ⟨o, n, e, c, hd, _⟩ := pl
      exact ⟨o, e, hd⟩
    · refine ⟨⟨o, I.kIn p o hk, hc⟩, fun a e => ?_⟩
      cases e
      exact ⟨o, I.kIn _ o hk, hd⟩
    · have z : ∃ o, s.heap.get? p = some o ∧ o.ExactDict := by
        rcases hk with ⟨kvs, hk⟩ | ⟨kvs, hk⟩
        · obtain ⟨_, _, _, _, o, _, _, e, ex, _⟩ := I.hok p _ hk
          exact ⟨o, e, ex⟩
        · obtain ⟨_, _, _, _, o, _, _, e, ex, _⟩ := I.hok p _ hk
          exact ⟨o, e, ex⟩
      obtain ⟨o, e, ex⟩ := z
      refine ⟨⟨o, e, ex.1⟩, fun a e2 => ?_⟩
      cases e2
      exact ⟨o, e, ex.2.1⟩
    · obtain ⟨o, _, _, _, e, ex, _⟩ := I.hok p _ hk
      refine ⟨⟨o, e, ex.1⟩, fun a e2 => ?_⟩
      cases e2
      exact ⟨o, e, ex.2.1⟩
  | _ => exact False.elim ty
def tBM (K : PySem.W.Frag) (T : String) (r : V → List V → Hp → VK → Prop) (to : TE) (t : TA) : TE := fun σ H Q => to σ H fun x H1 => tyV K T x H1 ∧ t σ H1 fun xs H2 => r x xs H2 Q
variable {o e : Expr} {es : List Expr} {to : TE} {t : TA} {name : Str} {apos cpos : Pos} {T id : String} {r : V → List V → Hp → VK → Prop}
theorem pe_bm (pa : PlainAttrs T) (slot : Slot T name id) (hty : typeOf (.builtin id) = pure (.type "method_descriptor")) (hm : MtR X id r) (ho : PE X o to) (ha : PA X (e :: es) t)
    (hbase : attributeBase o name X.env (eval o X.env) = eval o X.env := by rfl)
    (hfew : ((backTo cpos (starEach (e :: es) X.env)).all (fun x => !x.1) && (backToKw cpos (keywordEach [] X.env)).all (fun x => x.1.isSome)
      && decide ((e :: es).length + ([] : List Keyword).length + (if ([] : List Keyword).isEmpty then 0 else 1) < 30)) = true := by rfl)
    (hline : (apos.endLine == cpos.line) = true := by rfl) (hs : starEach (e :: es) X.env = (false, eval e X.env) :: starEach es X.env := by rfl) (hplain : (backTo cpos (starEach es X.env)).any (·.1) = false := by rfl) :
    PE X (.Call (.Attribute o name apos) (e :: es) [] cpos) (tBM X.K T r to t) := by
  intro pins s σ H Q I h
  refine wpAny_Call_method_late hbase hfew hline rfl (thn (ho pins s σ H _ I h) fun v s1 ⟨x, H1, I1, r1, ty, q1⟩ => ?_)
  obtain ⟨h1, h2⟩ := tyV_is I1 r1 ty
  refine ⟨T, id, pa, slot, hty, h1, h2, ?_⟩
  have hA := ha cpos pins s1 σ H1 _ I1 q1
  rw [hs] at hA ⊢
  refine Calls.callWith_builtin (by show (false || (backTo cpos (starEach es X.env)).any (·.1)) = false; rw [hplain] <;> rfl) (Calls.evalArgs_plain ?_)
  exact thn hA fun us s2 ⟨vs, H2, I2, r2, q2⟩ => hm pins s2 σ H2 x vs v us Q I2 r1 r2 q2
/- xs.append(e), list.index on a module's tuple .. are MtR facts of 06m -/
end
end L2

namespace L2
open PySem PySem.Spec PyProof.Rows

def MtM (X : Cx) (id : String) (r : V → List V → Hp → VK → Prop) : Prop :=
  ∀ (pins : List (Addr × Obj)) (s : Shared) (σ : St) (H : Hp) (x : V) (xs : List V) (v : Value) (us : List Value) (Q : VK), Inv X pins σ H s → RelV x v → Vals xs us → r x xs H Q →
    wpAny (model X.prog X.w) X.A (call (.builtin id) (v :: us)) (EP X pins σ Q) X.xe s

/-! ### lists of values -/
theorem Vals.one : ∀ {x : V} {us : List Value}, Vals [x] us → ∃ u, us = [u] ∧ RelV x u
  | _, _, .cons r .nil => ⟨_, rfl, r⟩
theorem Vals.rep {xs : List V} {us : List Value} (h : Vals xs us) : ∀ k : Nat, Vals (List.replicate k xs).flatten (List.replicate k us).flatten
  | 0 => .nil
  | k + 1 => by
    rw [List.replicate_succ, List.replicate_succ, List.flatten_cons, List.flatten_cons]
    exact Vals.append h (Vals.rep h k)
theorem foldl_rep (its : List Value) : ∀ (k : Nat) (acc : List Value),
    List.foldl (fun x1 x2 => x1 ++ x2) acc.toArray (List.replicate k its.toArray) = (acc ++ (List.replicate k its).flatten).toArray
  | 0, acc => by simp
  | k + 1, acc => by
    have e : acc.toArray ++ its.toArray = (acc ++ its).toArray := by simp
    have e2 : (acc ++ its) ++ (List.replicate k its).flatten = acc ++ (List.replicate (k + 1) its).flatten := by
      rw [List.replicate_succ, List.flatten_cons, List.append_assoc]
    rw [← e2, ← foldl_rep its k (acc ++ its), ← e, List.replicate_succ, List.foldl_cons]

section
variable {X : Cx} {pins : List (Addr × Obj)} {σ : St} {H : Hp} {s : Shared} {l b : Addr} {xs ys zs : List V}

/-! ### the two steps: a tracked list is rewritten, a new list is laid -/
theorem Inv.lset {its its' : List Value} {n : Nat} {f : Array Value → Array Value} {t' : Nat} (I : Inv X pins σ H s) (hH : H l = some (.lst xs))
    (e : s.heap.get? l = some { cls := .type "list", data := .seq its.toArray n }) (hf : f its.toArray = its'.toArray) (hv : Vals ys its') (hz : ys.length ≤ sizeLine) :
    Inv X pins σ (upd H l (.lst ys)) { s with heap := s.heap.update l (Obj.mapSeq f), toks := t' } := by
  have q := PySem.IsL.update e f
  rw [hf] at q
  refine I.write (x := l) (e := l) (by rw [hH]; exact trivial) (.inl rfl) (fun b' u hb hu => (Heap.get?_update_other s.heap (Obj.mapSeq f) (Ne.symm hb)).trans hu) ⟨_, q⟩ ?_
  exact ⟨hz, its', _, hv, q⟩
theorem Inv.lnew {its : List Value} {t' : Nat} (I : Inv X pins σ H s) (hv : Vals ys its) (hz : ys.length ≤ sizeLine) :
    Inv X pins σ (upd H s.heap.objs.size (.lst ys)) { s with heap := s.heap.push { cls := .type "list", data := .seq its.toArray }, toks := t' } :=
  I.laid (fun _ _ q => Heap.get?_push_of_some _ q) (Nat.le_refl _) ⟨hz, its, 0, hv, Heap.get?_push_size _ rfl⟩
theorem Inv.fresh (I : Inv X pins σ H s) : H s.heap.objs.size = none := I.hok.fresh (Nat.le_refl _)
theorem Inv.lstM (I : Inv X pins σ H s) (hH : H l = some (.lst xs)) : xs.length ≤ sizeLine ∧ ∃ (its : List Value) (n : Nat), Vals xs its ∧ xs.length = its.length ∧ s.heap.get? l = some { cls := .type "list", data := .seq its.toArray n } := by
  obtain ⟨z, its, n, r, e⟩ := I.hok l _ hH
  exact ⟨z, its, n, r, r.length, e⟩

theorem notLongL {n : Nat} (h : n ≤ sizeLine) : Builtin.List.listTooLong n = false := by
  unfold Builtin.List.listTooLong
  exact decide_eq_false (by omega)
end

section
variable {X : Cx}

/-! ### methods -/
def rAppend : V → List V → Hp → VK → Prop := fun x vs H Q => ∃ l xs y, x = .ref l ∧ vs = [y] ∧ H l = some (.lst xs) ∧ xs.length < sizeLine ∧ Q .non (upd H l (.lst (xs ++ [y])))
theorem mt_append : MtM X "list.append" rAppend := by
  intro pins s σ H x vs v us Q I rx rv h
  obtain ⟨l, xs, y, rfl, rfl, hH, hz, q⟩ := h
  cases rx
  obtain ⟨u, rfl, ru⟩ := rv.one
  obtain ⟨z, its, n, r, hl, e⟩ := I.lstM hH
  refine call_meets F.slot_list_append ⟨_, e, rfl⟩ F.entry_list_append (F.args_list_append_2 _ _) (PySem.list_append l its.toArray n u (by rw [List.size_toArray]; omega)) ⟨e, ?_⟩
  refine ⟨.non, _, I.lset (its' := its ++ [u]) hH e (by simp) (r.append (.cons ru .nil)) ?_, rfl, q⟩
  rw [List.length_append, List.length_singleton]
  omega

def rExtend : V → List V → Hp → VK → Prop := fun x vs H Q => ∃ l b xs zs, x = .ref l ∧ vs = [.ref b] ∧ H l = some (.lst xs) ∧ H b = some (.lst zs) ∧ xs.length + zs.length ≤ sizeLine ∧ Q .non (upd H l (.lst (xs ++ zs)))
theorem mt_extend : MtM X "list.extend" rExtend := by
  intro pins s σ H x vs v us Q I rx rv h
  obtain ⟨l, b, xs, zs, rfl, rfl, hH, hB, hz, q⟩ := h
  cases rx
  obtain ⟨u, rfl, ru⟩ := rv.one
  cases ru
  obtain ⟨z, its, n, r, hl, e⟩ := I.lstM hH
  obtain ⟨z2, its2, n2, r2, hl2, e2⟩ := I.lstM hB
  have hsz : its.toArray.size + its2.toArray.size ≤ sizeLine := by rw [List.size_toArray, List.size_toArray]; omega
  have hlong : ¬ (!its.toArray.isEmpty && Builtin.List.listTooLong (its.toArray.size + its2.toArray.size)) = true := by
    rw [notLongL hsz, Bool.and_false]
    exact Bool.false_ne_true
  refine call_meets F.slot_list_extend ⟨_, e, rfl⟩ F.entry_list_extend (F.args_list_extend_2 _ _)
    (AutoSeq1.list_extend_list_list_0 l its.toArray n b its2.toArray n2 hlong (by rw [List.size_toArray]; omega) (by omega)) ⟨e, e2, ?_⟩
  refine ⟨.non, _, I.lset (its' := its ++ its2) hH e (by simp) (r.append r2) ?_, rfl, q⟩
  rw [List.length_append]
  omega

/-! ### list + list, list += list, list * int -/
def rCat : R2 := fun x y H Q => ∃ l b xs zs, x = .ref l ∧ y = .ref b ∧ H l = some (.lst xs) ∧ H b = some (.lst zs) ∧ xs.length + zs.length ≤ sizeLine ∧ ∀ p, H p = none → Q (.ref p) (upd H p (.lst (xs ++ zs)))
theorem op_cat : OpR X (binaryOp .Add) rCat := by
  intro pins s σ H x y v u Q I rx ry h
  obtain ⟨l, b, xs, zs, rfl, rfl, hH, hB, hz, q⟩ := h
  cases rx
  cases ry
  obtain ⟨z, its, n, r, hl, e⟩ := I.lstM hH
  obtain ⟨z2, its2, n2, r2, hl2, e2⟩ := I.lstM hB
  refine PySem.P.add_list e e2 ?_ (by rw [List.size_toArray, List.size_toArray]; omega)
  have ea : its.toArray ++ its2.toArray = (its ++ its2).toArray := by simp
  rw [ea]
  exact ⟨.ref _, _, I.lnew (t' := s.toks) (r.append r2) (by rw [List.length_append]; omega), rfl, q _ I.fresh⟩
/-- a list times an int (a negative one is nothing) -/
def rRep : R2 := fun x y H Q => ∃ l k xs, x = .ref l ∧ y = .int k ∧ H l = some (.lst xs) ∧ -(2 ^ 63) ≤ k ∧ k < 2 ^ 63 ∧ xs.length * k.toNat ≤ sizeLine ∧
  ∀ p, H p = none → Q (.ref p) (upd H p (.lst (List.replicate k.toNat xs).flatten))
theorem len_rep {α : Type} (xs : List α) (k : Nat) : (List.replicate k xs).flatten.length = k * xs.length := by
  induction k with
  | zero => simp
  | succ k ih => rw [List.replicate_succ, List.flatten_cons, List.length_append, ih, Nat.succ_mul, Nat.add_comm]
theorem op_rep : OpR X (binaryOp .Mult) rRep := by
  intro pins s σ H x y v u Q I rx ry h
  obtain ⟨l, k, xs, rfl, rfl, hH, h1, h2, hz, q⟩ := h
  cases rx
  obtain ⟨t, rfl⟩ := ry
  obtain ⟨z, its, n, r, hl, e⟩ := I.lstM hH
  have hlen : its.toArray.size * k.toNat ≤ sizeLine := by rw [List.size_toArray, ← hl]; exact hz
  have hcap : ¬ its.toArray.size * k.toNat > (2 ^ 63 - 1) / 8 := by
    have : (sizeLine : Nat) ≤ (2 ^ 63 - 1) / 8 := by decide
    omega
  have hfit : ¬ (!Builtin.List.listFitsIndex k) = true := by
    rw [fitsIndex_both h1 h2]
    exact Bool.false_ne_true
  have hlong : ¬ Builtin.List.listTooLong (its.toArray.size * k.toNat) = true := by
    rw [notLongL hlen]
    exact Bool.false_ne_true
  have hnew : List.foldl (fun x1 x2 => x1 ++ x2) #[] (List.replicate (if its.toArray.isEmpty = true then 0 else k.toNat) its.toArray) = (List.replicate k.toNat its).flatten.toArray := by
    have f0 : ∀ m : Nat, List.foldl (fun x1 x2 => x1 ++ x2) #[] (List.replicate m its.toArray) = (List.replicate m its).flatten.toArray := fun m => by
      have := foldl_rep its m []
      rw [List.nil_append] at this
      exact this
    rw [f0]
    cases its with
    | nil => simp
    | cons a r' => rw [if_neg (by simp)]
  refine wpAny_binaryOp_repeat_ref (T := "list") (U := "int") (by decide) ⟨_, e, rfl⟩ (fun s' => typeIs_int s' k t) noFill_list_mul F.fills_int_mul F.slot_int_rmul repeat_list F.slot_int_index.lookup
    (call_meets F.slot_int_rmul (typeIs_int s k t) F.entry_int_rmul (F.args_int_rmul_2 _ _) (int___rmul___int_list k t l its.toArray n)
      ⟨e, rfl, ⟨_, e, rfl⟩, call_meets F.slot_list_mul ⟨_, e, rfl⟩ F.entry_list_mul (F.args_list_mul_2 _ _) (AutoListH.list___mul___list_int_3 l its.toArray n k t hfit hcap hlong) ⟨e, ?_⟩⟩)
  rw [hnew]
  exact ⟨.ref _, _, I.lnew (t' := s.toks) (r.rep k.toNat) (by rw [len_rep, Nat.mul_comm]; exact hz), rfl, q _ I.fresh⟩

/-! ### del xs[i] -/
end

/-! ### xs[a:b] = ys -/
section
variable {prog : Program} {w : World} {A : Around} {E : Value → Shared → Prop} {s : Shared}
set_option maxRecDepth 100000 in
end

section
variable {X : Cx}
end
end L2

namespace L2
open PySem PySem.Spec PyProof.Rows

/-! ### the library's walks over a list of ints, kept objects alone -/
section
variable {prog : Program} {w : World} {A : Around} {E : Value → Shared → Prop} {s : Shared} {l : Addr} {its : List Value} {ns : List Int} {Q : Value → Shared → Prop}
end

/-! ### the calls, by values (CallR of 03t; MtR of 06l) -/
section
variable {X : Cx}
/-! sorted, sort (fewer than 64 items: the library's own bound) -/
end

/-! ### list.index, flat items -/
section
variable {X : Cx}
end

/-! ### type(x) of an own instance; is, is not of a module's class -/
section
variable {X : Cx}
end

/-! ### any(xs), all(xs) of a list of bools -/
section
variable {X : Cx}
end

/-! ### == and != of data at any depth: none, bools, ints, texts, lists, tuples -/
mutual
inductive Dp (K : PySem.W.Frag) (H : Hp) : V → PyData → Prop
  | non : Dp K H .non .none
  | bl (b : Bool) : Dp K H (.bl b) (.bool b)
  | int (i : Int) : Dp K H (.int i) (.int i)
  | str (x : Str) : Dp K H (.str x) (.str x)
  | lst {a : Addr} {xs : List V} {ds : List PyData} : SqL K H a xs → DpAll K H xs ds → Dp K H (.ref a) (.list ds)
  | tup {a : Addr} {xs : List V} {ds : List PyData} : SqT K H a xs → DpAll K H xs ds → Dp K H (.ref a) (.tuple ds)
inductive DpAll (K : PySem.W.Frag) (H : Hp) : List V → List PyData → Prop
  | nil : DpAll K H [] []
  | cons {v : V} {vs : List V} {d : PyData} {ds : List PyData} : Dp K H v d → DpAll K H vs ds → DpAll K H (v :: vs) (d :: ds)
end
section
variable {X : Cx} {pins : List (Addr × Obj)} {σ : St} {H : Hp} {s : Shared}
mutual
theorem Dp.reads (I : Inv X pins σ H s) : ∀ (d : PyData) (v : V) (u : Value), Dp X.K H v d → RelV v u → ∃ as, Reads s.heap u d as
  | .none, _, _, h, r => by
    cases h
    cases r
    exact ⟨_, Reads.none⟩
  | .bool b, _, _, h, r => by
    cases h
    cases r
    exact ⟨_, Reads.bool b⟩
  | .int i, _, _, h, r => by
    cases h
    obtain ⟨t, rfl⟩ := r
    exact ⟨_, Reads.int i t⟩
  | .str x, _, _, h, r => by
    cases h
    obtain ⟨t, rfl⟩ := r
    exact ⟨_, Reads.str x t⟩
  | .list ds, _, _, h, r => by
    cases h with
    | lst hs ha =>
      cases r
      obtain ⟨its, rv, ⟨o, n, ho, hc, _, hd⟩, _⟩ := I.list hs
      obtain ⟨as, hr⟩ := Dp.readsAll I ds _ its ha rv
      exact ⟨_, Reads.list ho hc hd hr⟩
  | .tuple ds, _, _, h, r => by
    cases h with
    | tup hs ha =>
      cases r
      obtain ⟨its, rv, ⟨o, ho, hc, n, hd⟩, _⟩ := I.tuple hs
      obtain ⟨as, hr⟩ := Dp.readsAll I ds _ its ha rv
      exact ⟨_, Reads.tuple ho hc hd hr⟩
  | .dict _, _, _, h, _ => by cases h
theorem Dp.readsAll (I : Inv X pins σ H s) : ∀ (ds : List PyData) (vs : List V) (us : List Value), DpAll X.K H vs ds → Vals vs us → ∃ as, ReadsAll s.heap us ds as
  | [], _, _, h, r => by
    cases h
    cases r
    exact ⟨_, ReadsAll.nil⟩
  | d :: ds, _, _, h, r => by
    cases h with
    | cons h1 h2 =>
      cases r with
      | cons r1 r2 =>
        obtain ⟨as, q1⟩ := Dp.reads I d _ _ h1 r1
        obtain ⟨bs, q2⟩ := Dp.readsAll I ds _ _ h2 r2
        exact ⟨_, ReadsAll.cons q1 q2⟩
end
end
section
variable {X : Cx}
end
end L2

namespace L2
open PySem PySem.Spec PyProof.Rows
abbrev CellAt (h : Heap) (c : Addr) (v : Option Value) : Prop := h.IsCell c v
def relS (scope sc : Scope) : Scope :=
  { scope with names := scope.names.map fun (n, k) => if (k == .free && sc.kind == .function && sc.names.lookup n == some .cell) then (n, .cell) else (n, k) }

def cloFrom (cells : List (Str × Addr)) : List (Str × NameKind) → List (Str × Addr) → List (Str × Addr)
  | [], acc => acc
  | (n, k) :: r, acc => if k == .free then cloFrom cells r ((n, (cells.lookup n).getD 0) :: acc) else cloFrom cells r acc

theorem closure_loop (env : Env) (f : Str × NameKind → List (Str × Addr) → Sem (ForInStep (List (Str × Addr))))
    (hf : ∀ n k c, f (n, k) c = if k == .free then (do let a ← cellOf env n; pure (.yield ((n, a) :: c))) else pure (.yield c)) :
    ∀ (names : List (Str × NameKind)) (acc : List (Str × Addr)), (∀ y ∈ names, y.2 = .free → ∃ c, env.cells.lookup y.1 = some c) → forIn names acc f = pure (cloFrom env.cells names acc)
  | [], acc, _ => by rw [List.forIn_nil]; rfl
  | (n, k) :: r, acc, h => by
    rw [List.forIn_cons, hf]
    have ih := fun acc => closure_loop env f hf r acc fun y hy => h y (List.mem_cons_of_mem _ hy)
    unfold cloFrom
    by_cases hk : (k == NameKind.free) = true
    · rw [if_pos hk, if_pos hk]
      obtain ⟨c, hc⟩ := h (n, k) List.mem_cons_self (by simpa using hk)
      have e : cellOf env n = pure c := by unfold cellOf; rw [hc]
      rw [e]
      have e2 : (env.cells.lookup n).getD 0 = c := by rw [hc]; rfl
      rw [e2]
      exact ih _
    · rw [if_neg hk, if_neg hk]
      exact ih _
theorem closure_ok {scope : Scope} {env : Env} (h : ∀ y ∈ scope.names, y.2 = .free → ∃ c, env.cells.lookup y.1 = some c) : closureFor scope env = pure (cloFrom env.cells scope.names []) := by
  simp only [closureFor]
  rw [closure_loop env _ (fun n k c => rfl) scope.names [] h]
  rfl

theorem mem_lookup {α : Type} : ∀ {l : List (Str × α)} {n : Str} {c : α}, (n, c) ∈ l → ∃ c', l.lookup n = some c'
  | (k, v) :: r, n, c, h => by
    rw [List.lookup_cons]
    cases hb : n == k with
    | true => exact ⟨_, rfl⟩
    | false =>
      rcases List.mem_cons.mp h with e | h
      · cases e; simp at hb
      · exact mem_lookup h

theorem cloFrom_mem {cells : List (Str × Addr)} : ∀ {names : List (Str × NameKind)} {acc : List (Str × Addr)} {n : Str} {c : Addr}, (n, c) ∈ cloFrom cells names acc → (n, c) ∈ acc ∨ ((n, .free) ∈ names ∧ c = (cells.lookup n).getD 0)
  | [], _, _, _, h => .inl h
  | (m, k) :: r, acc, n, c, h => by
    unfold cloFrom at h
    split at h
    · rename_i hk
      have hk : k = .free := by simpa using hk
      rcases cloFrom_mem h with h | ⟨h1, h2⟩
      · rcases List.mem_cons.mp h with e | h
        · cases e; exact .inr ⟨hk ▸ List.mem_cons_self, rfl⟩
        · exact .inl h
      · exact .inr ⟨List.mem_cons_of_mem _ h1, h2⟩
    · rcases cloFrom_mem h with h | ⟨h1, h2⟩
      · exact .inl h
      · exact .inr ⟨List.mem_cons_of_mem _ h1, h2⟩
theorem cloFrom_acc {cells : List (Str × Addr)} : ∀ {names : List (Str × NameKind)} {acc : List (Str × Addr)} {p : Str × Addr}, p ∈ acc → p ∈ cloFrom cells names acc
  | [], _, _, h => h
  | (m, k) :: r, acc, p, h => by
    unfold cloFrom
    split
    · exact cloFrom_acc (List.mem_cons_of_mem _ h)
    · exact cloFrom_acc h
theorem cloFrom_has {cells : List (Str × Addr)} : ∀ {names : List (Str × NameKind)} {acc : List (Str × Addr)} {n : Str}, (n, .free) ∈ names → (n, (cells.lookup n).getD 0) ∈ cloFrom cells names acc
  | (m, k) :: r, acc, n, h => by
    unfold cloFrom
    rcases List.mem_cons.mp h with e | h
    · cases e
      exact cloFrom_acc List.mem_cons_self
    · split
      · exact cloFrom_has h
      · exact cloFrom_has h

theorem cells_mem : ∀ {names : List (Str × NameKind)} {h : Heap} {acc : List (Str × Addr)} {x : Str} {c : Addr}, (x, c) ∈ cellsFrom h.objs.size names acc →
    (x, c) ∈ acc ∨ ((x, .cell) ∈ names ∧ h.objs.size ≤ c ∧ CellAt (pushCells h names) c none)
  | [], _, _, _, _, h => .inl h
  | (n, k) :: r, h, acc, x, c, hm => by
    unfold cellsFrom at hm
    unfold pushCells
    split at hm
    · rename_i hk
      rw [if_pos hk]
      have hk : k = .cell := by simpa using hk
      rw [← Heap.size_push h { cls := .type "cell", data := .cell none }] at hm
      rcases cells_mem hm with hm | ⟨h1, h2, h3⟩
      · rcases List.mem_cons.mp hm with e | hm
        · cases e
          exact .inr ⟨hk ▸ List.mem_cons_self, Nat.le_refl _, _, pushCells_keeps r _ _ _ (Heap.get?_push_size _ rfl), rfl⟩
        · exact .inl hm
      · rw [Heap.size_push] at h2
        exact .inr ⟨List.mem_cons_of_mem _ h1, Nat.le_of_succ_le h2, h3⟩
    · rename_i hk
      rw [if_neg hk]
      rcases cells_mem hm with hm | ⟨h1, h2, h3⟩
      · exact .inl hm
      · exact .inr ⟨List.mem_cons_of_mem _ h1, h2, h3⟩
theorem cells_acc : ∀ {names : List (Str × NameKind)} {n : Nat} {acc : List (Str × Addr)} {p : Str × Addr}, p ∈ acc → p ∈ cellsFrom n names acc
  | [], _, _, _, h => h
  | (m, k) :: r, n, acc, p, h => by
    unfold cellsFrom
    split
    · exact cells_acc (List.mem_cons_of_mem _ h)
    · exact cells_acc h
theorem cells_has : ∀ {names : List (Str × NameKind)} {n : Nat} {acc : List (Str × Addr)} {x : Str}, (x, .cell) ∈ names → ∃ c, (x, c) ∈ cellsFrom n names acc
  | (m, k) :: r, n, acc, x, h => by
    unfold cellsFrom
    rcases List.mem_cons.mp h with e | h
    · cases e
      exact ⟨n, cells_acc List.mem_cons_self⟩
    · split
      · exact cells_has h
      · exact cells_has h
theorem cells_inj : ∀ {names : List (Str × NameKind)} {h : Heap} {acc : List (Str × Addr)} {x y : Str} {c : Addr}, (∀ p ∈ acc, p.2 < h.objs.size) → (∀ x y c, (x, c) ∈ acc → (y, c) ∈ acc → x = y) →
    (x, c) ∈ cellsFrom h.objs.size names acc → (y, c) ∈ cellsFrom h.objs.size names acc → x = y
  | [], _, _, _, _, _, _, hi, h1, h2 => hi _ _ _ h1 h2
  | (n, k) :: r, h, acc, x, y, c, hl, hi, h1, h2 => by
    unfold cellsFrom at h1 h2
    split at h1
    · rename_i hk
      rw [if_pos hk] at h2
      rw [← Heap.size_push h { cls := .type "cell", data := .cell none }] at h1 h2
      refine cells_inj (h := h.push _) (fun p hp => ?_) (fun x y c a b => ?_) h1 h2
      · rw [Heap.size_push]
        rcases List.mem_cons.mp hp with rfl | hp
        · exact Nat.lt_succ_self _
        · exact Nat.lt_succ_of_lt (hl p hp)
      · rcases List.mem_cons.mp a with e | a <;> rcases List.mem_cons.mp b with e' | b
        · cases e; cases e'; rfl
        · cases e; exact absurd (hl _ b) (Nat.lt_irrefl _)
        · cases e'; exact absurd (hl _ a) (Nat.lt_irrefl _)
        · exact hi _ _ _ a b
    · rename_i hk
      rw [if_neg hk] at h2
      exact cells_inj hl hi h1 h2

theorem newEnv_comp {M : Model} {A : Around} {E : Value → Shared → Prop} {s : Shared} {scope : Scope} {globals : Addr} {closure : List (Str × Addr)} {qual : Str} {func : Option Addr} {code : Value} {around : Env} {builtins : Addr} {Q : Env → Shared → Prop}
    (h : Q (newEnv scope s.heap.objs.size globals (cellsFrom (s.heap.objs.size + 1) scope.names closure) qual func code (some around) builtins)
      { s with heap := pushCells (s.heap.push { cls := .type "dict", data := .dict #[] }) scope.names }) :
    wpAny M A (newFunctionEnv scope globals closure [] qual func code (some around) builtins) Q E s := by
  simp only [newFunctionEnv, Option.isSome_some, if_true]
  refine wpAny_bind (wpAny_alloc ?_)
  refine wpAny_bind (wpAny_layCells _ (fun n k c => rfl) scope.names closure _ _ ?_)
  rw [show ({ s with heap := s.heap.push { cls := .type "dict", data := .dict #[] } } : Shared).heap.objs.size = s.heap.objs.size + 1 from Heap.size_push ..]
  rw [List.forIn_nil]
  exact wpAny_bind (wpAny_pure (wpAny_pure h))

/-- every name of the written scope, in the scope that runs -/
theorem lookup_relS {sc : Scope} : ∀ {names : List (Str × NameKind)} {x : Str} {k : NameKind},
    (names.map fun (n, k) => if (k == NameKind.free && sc.kind == .function && sc.names.lookup n == some .cell) then (n, NameKind.cell) else (n, k)).lookup x = some k →
    ∃ k', names.lookup x = some k' ∧ (k = k' ∨ (k' = .free ∧ k = .cell))
  | [], _, _, h => by simp at h
  | (n, k₀) :: r, x, k, h => by
    have ih := @lookup_relS sc r x k
    have h' : List.lookup x ((if (k₀ == NameKind.free && sc.kind == .function && sc.names.lookup n == some .cell) = true then (n, NameKind.cell) else (n, k₀)) :: (r.map _)) = some k := h
    cases hx : x == n with
    | true =>
      simp only [List.lookup_cons, hx]
      by_cases hc : (k₀ == NameKind.free && sc.kind == .function && sc.names.lookup n == some .cell) = true
      · rw [if_pos hc] at h'
        simp only [List.lookup_cons, hx] at h'
        cases h'
        simp only [Bool.and_eq_true, beq_iff_eq] at hc
        exact ⟨k₀, rfl, .inr ⟨hc.1.1, rfl⟩⟩
      · rw [if_neg hc] at h'
        simp only [List.lookup_cons, hx] at h'
        cases h'
        exact ⟨_, rfl, .inl rfl⟩
    | false =>
      simp only [List.lookup_cons, hx]
      by_cases hc : (k₀ == NameKind.free && sc.kind == .function && sc.names.lookup n == some .cell) = true
      · rw [if_pos hc] at h'
        simp only [List.lookup_cons, hx] at h'
        exact ih h'
      · rw [if_neg hc] at h'
        simp only [List.lookup_cons, hx] at h'
        exact ih h'
/-- the names of a comprehension's block: its own (with their places in N), or captured -/
structure BlkOk (N : List Str) (sc scope : Scope) (own : List (Str × Nat)) : Prop where
  kind : scope.kind = .function
  uniq : ∀ y ∈ scope.names, scope.names.lookup y.1 = some y.2
  ix : ∀ p ∈ own, N[p.2]? = some p.1
  free : ∀ y ∈ scope.names, y.2 = .free → sc.names.lookup y.1 = some .cell ∨ sc.names.lookup y.1 = some .free
  own : ∀ y ∈ scope.names, y.2 = .local ∨ y.2 = .cell → y.1 ∈ own.map (·.1) ∨ y.1 ∉ N
/-- the slots of the block's own names forgotten -/
def wipe (σ : St) : List Nat → St
  | [] => σ
  | v :: vs => (wipe σ vs).set v none
theorem wipe_length (σ : St) : ∀ vs : List Nat, (wipe σ vs).length = σ.length
  | [] => rfl
  | v :: vs => by unfold wipe; rw [List.length_set, wipe_length σ vs]
theorem wipe_some {σ : St} {i : Nat} {x : V} : ∀ {vs : List Nat}, (wipe σ vs)[i]? = some (some x) → σ[i]? = some (some x) ∧ i ∉ vs
  | [], h => ⟨h, by simp⟩
  | v :: vs, h => by
    unfold wipe at h
    by_cases hi : v = i
    · subst hi
      by_cases hv : v < (wipe σ vs).length
      · rw [List.getElem?_set_self hv] at h; cases h
      · rw [List.getElem?_eq_none (by simpa using hv)] at h; cases h
    · rw [List.getElem?_set_ne hi] at h
      obtain ⟨h1, h2⟩ := wipe_some h
      exact ⟨h1, by simp only [List.mem_cons, not_or]; exact ⟨fun e => hi e.symm, h2⟩⟩

/-- the context of a block that starts at s, its iterator's objects at fp -/
abbrev Cx.blk (X : Cx) (s : Shared) (H : Hp) (scope : Scope) (cenv : Env) (fp : List Addr) : Cx := { X with s_0 := s, H_0 := H, env := cenv, outer := X.stack, ex := fp, fn := fun x => scope.names.lookup x == some .cell, pn := [], xe := fun _ _ => False }
section
variable {X : Cx} {pins : List (Addr × Obj)} {σ : St} {H : Hp} {s : Shared}
theorem block_start {scope : Scope} {own : List (Str × Nat)} {fp : List Addr} (I : Inv X pins σ H s) (ok : BlkOk X.N X.env.scope scope own) (hN : X.N.Nodup) (hfp : ∀ b ∈ fp, FpOk X pins H b ∧ b < s.heap.objs.size) :
    Inv (X.blk s H scope (compEnvC scope (cellsFrom (s.heap.objs.size + 1) scope.names (cloFrom X.env.cells scope.names [])) s.heap.objs.size X.env) fp) [] (wipe σ (own.map (·.2))) H { s with heap := pushCells (s.heap.push { cls := .type "dict", data := .dict #[] }) scope.names } := by
  have hfree : ∀ y ∈ scope.names, y.2 = .free → ∃ c, X.env.cells.lookup y.1 = some c := fun y hy e => by
    rcases ok.free y hy e with k | k
    · exact I.ok.has _ (.inl k)
    · exact I.ok.has _ (.inr k)
  generalize hcenv : compEnvC scope (cellsFrom (s.heap.objs.size + 1) scope.names (cloFrom X.env.cells scope.names [])) s.heap.objs.size X.env = cenv
  have kp : ∀ b o, s.heap.get? b = some o → (pushCells (s.heap.push { cls := .type "dict", data := .dict #[] }) scope.names).get? b = some o := fun b o e => pushCells_keeps _ _ _ _ (Heap.get?_push_of_some _ e)
  have hL : cenv.locals = s.heap.objs.size := by rw [← hcenv]; rfl
  have hcl : cenv.cells = cellsFrom (s.heap.objs.size + 1) scope.names (cloFrom X.env.cells scope.names []) := by rw [← hcenv]; rfl
  have hsc : cenv.scope = relS scope X.env.scope := by rw [← hcenv]; rfl
  rw [← Heap.size_push s.heap { cls := .type "dict", data := .dict #[] }] at hcl
  have cm : ∀ {y c}, (y, c) ∈ cloFrom X.env.cells scope.names [] → X.env.cells.lookup y = some c ∧ c < s.heap.objs.size := fun {y c} hm => by
    rcases cloFrom_mem hm with hm | ⟨h1, rfl⟩
    · cases hm
    · obtain ⟨c, hc⟩ := hfree _ h1 rfl
      rw [hc]
      obtain ⟨w, z⟩ := I.cell _ _ hc
      exact ⟨rfl, z.lt⟩
  have mem : ∀ {y c}, cenv.cells.lookup y = some c → (X.env.cells.lookup y = some c ∧ c < s.heap.objs.size) ∨ (s.heap.objs.size + 1 ≤ c ∧ CellAt (pushCells (s.heap.push { cls := .type "dict", data := .dict #[] }) scope.names) c none) := fun {y c} e => by
    rw [hcl] at e
    rcases cells_mem (PySem.mem_of_lookup e) with hm | ⟨_, h2, h3⟩
    · exact .inl (cm hm)
    · rw [Heap.size_push] at h2; exact .inr ⟨h2, h3⟩
  have look : ∀ {y}, scope.names.lookup y = some .free → ∃ c, cenv.cells.lookup y = some c ∧ X.env.cells.lookup y = some c := fun {y} hl => by
    have hy : (y, NameKind.free) ∈ scope.names := PySem.mem_of_lookup hl
    obtain ⟨c', e'⟩ := mem_lookup (cells_acc (names := scope.names) (n := (s.heap.push { cls := .type "dict", data := .dict #[] }).objs.size) (cloFrom_has (cells := X.env.cells) (acc := []) hy))
    rw [← hcl] at e'
    refine ⟨c', e', ?_⟩
    rw [hcl] at e'
    rcases cells_mem (PySem.mem_of_lookup e') with hm | ⟨h1, _, _⟩
    · exact (cm hm).1
    · have := ok.uniq _ h1
      rw [hl] at this; cases this
  have okB : (X.blk s H scope cenv fp).Ok := by
    refine ⟨I.ok.mod, by show cenv.scope.kind = _; rw [hsc]; exact ok.kind, by show cenv.globals = _; rw [← hcenv]; exact I.ok.glob, by show cenv.builtins = _; rw [← hcenv]; exact I.ok.blt, by show s.heap.objs.size ≤ cenv.locals; rw [hL]; exact Nat.le_refl _,
      fun y z c e1 e2 => ?_, fun y hy => ?_, fun y c z e => ?_, I.ok.hd, I.ok.frames, .inl rfl, fun b hb => ⟨?_, fun y c e z => ?_⟩, I.bs, Nat.le_trans I.ok.bsz I.sz, fun b o e hb => ?_, fun b hb z => ?_, I.stack, I.stkFree⟩
    · have e1 : cenv.cells.lookup y = some c := e1
      have e2 : cenv.cells.lookup z = some c := e2
      rw [hcl] at e1 e2
      refine cells_inj (fun p hp => ?_) (fun y z c a b => I.ok.inj y z c (cm a).1 (cm b).1) (PySem.mem_of_lookup e1) (PySem.mem_of_lookup e2)
      rw [Heap.size_push]
      exact Nat.lt_succ_of_lt (cm (y := p.1) (c := p.2) hp).2
    · show ∃ c, cenv.cells.lookup y = some c
      have key : ∀ k, cenv.kindOf y = some k → (k = .cell ∨ k = .free) → ∃ c, cenv.cells.lookup y = some c := fun k hk hk' => by
        unfold Env.kindOf at hk
        rw [hsc] at hk
        obtain ⟨k', e, r⟩ := lookup_relS hk
        have : k' = .cell ∨ k' = .free := by
          rcases r with rfl | ⟨rfl, _⟩
          · exact hk'
          · exact .inr rfl
        rcases this with rfl | rfl
        · obtain ⟨c, hm⟩ := cells_has (n := (s.heap.push { cls := .type "dict", data := .dict #[] }).objs.size) (acc := cloFrom X.env.cells scope.names []) (PySem.mem_of_lookup e)
          obtain ⟨c', e'⟩ := mem_lookup hm
          exact ⟨c', by rw [hcl]; exact e'⟩
        · obtain ⟨c, h1, _⟩ := look e
          exact ⟨c, h1⟩
      rcases hy with hy | hy
      · exact key _ hy (.inl rfl)
      · exact key _ hy (.inr rfl)
    · have z : (scope.names.lookup y == some NameKind.cell) = true := z
      have z : scope.names.lookup y = some .cell := by simpa using z
      have e : cenv.cells.lookup y = some c := e
      rw [hcl] at e
      rcases cells_mem (PySem.mem_of_lookup e) with hm | ⟨_, h2, _⟩
      · rcases cloFrom_mem hm with hm | ⟨h1, _⟩
        · cases hm
        · have q := ok.uniq _ h1
          rw [z] at q; cases q
      · rw [Heap.size_push] at h2
        exact Nat.le_of_succ_le h2
    · show b ≠ cenv.locals
      rw [hL]; exact Nat.ne_of_lt (hfp b hb).2
    · have e : cenv.cells.lookup y = some c := e
      rcases mem e with ⟨h1, _⟩ | ⟨h1, _⟩
      · exact (hfp b hb).1.2.2.2.2.1 y c h1 z
      · have h2 : s.heap.objs.size + 1 ≤ b := by rw [← z]; exact h1
        exact absurd (Nat.lt_of_lt_of_le (hfp b hb).2 (Nat.le_of_succ_le h2)) (Nat.lt_irrefl _)
    · rcases (hfp b hb).1.2.2.2.1 with z | z
      · exact I.ok.noex b o e z
      · exact absurd (Nat.lt_of_lt_of_le (Heap.lt_size e) (Nat.le_trans I.ok.bsz z)) (Nat.lt_irrefl _)
    · rcases List.mem_cons.mp (I.stkSub b z) with z | z
      · exact (hfp b hb).1.2.1 z
      · exact (hfp b hb).1.2.2.1 z
  refine ⟨okB, rfl, I.bare, Un.kept kp, ⟨fun _ => none, ?_, fun i y av e1 e2 e3 => ?_⟩, fun y c e => ?_, ?_, fun y c e => ?_, fun p hp => ?_, I.hok.kept kp, by rw [wipe_length]; exact I.len⟩
  · show Heap.Ns _ cenv.locals _
    rw [hL]
    exact Heap.Ns.keeps (Heap.Ns.new ..) fun b o e => pushCells_keeps _ _ _ _ e
  · obtain ⟨e2, hne⟩ := wipe_some e2
    have hfr : scope.names.lookup y = some .free ∧ (cenv.kindOf y = some .cell ∨ cenv.kindOf y = some .free) := by
      have key : ∀ k, cenv.scope.names.lookup y = some k → k = .local ∨ k = .cell ∨ k = .free → scope.names.lookup y = some .free ∧ (cenv.kindOf y = some .cell ∨ cenv.kindOf y = some .free) := fun k hk hk' => by
        have hk0 := hk
        rw [hsc] at hk
        obtain ⟨k', e, r⟩ := lookup_relS hk
        have no : ¬ (k' = .local ∨ k' = .cell) := fun hh => by
          rcases ok.own _ (PySem.mem_of_lookup e) hh with e' | e'
          · obtain ⟨p, hp, hpy⟩ := List.mem_map.mp e'
            have e3 := ok.ix p hp
            have : p.1 = y := hpy
            rw [this] at e3
            exact hne (List.mem_map.mpr ⟨p, hp, nodup_ix hN e3 e1⟩)
          · exact e' (List.mem_of_getElem? e1)
        rcases r with rfl | ⟨rfl, rfl⟩
        · rcases hk' with rfl | rfl | rfl
          · exact absurd (.inl rfl) no
          · exact absurd (.inr rfl) no
          · exact ⟨e, .inr hk0⟩
        · exact ⟨e, .inl hk0⟩
      have e3 : Vis cenv.scope y := e3
      rcases e3 with e3 | e3 | e3
      · exact key _ e3 (.inl rfl)
      · exact key _ e3 (.inr (.inl rfl))
      · exact key _ e3 (.inr (.inr rfl))
    obtain ⟨m, hn, hl⟩ := I.loc
    have hvis : Vis X.env.scope y := (ok.free _ (PySem.mem_of_lookup hfr.1) rfl).elim (fun k => .inr (.inl k)) (fun k => .inr (.inr k))
    obtain ⟨w, r, q⟩ := hl i y av e1 e2 hvis
    refine ⟨w, r, .inr ⟨hfr.2, ?_⟩⟩
    obtain ⟨c, h1, h2⟩ := look hfr.1
    rcases q with ⟨k, _⟩ | ⟨_, c', e', z⟩
    · have k : X.env.scope.names.lookup y = some .local := k
      rcases ok.free _ (PySem.mem_of_lookup hfr.1) rfl with k' | k' <;> rw [show X.env.scope.names.lookup y = _ from k'] at k <;> cases k
    · rw [h2] at e'; cases e'
      exact ⟨c, h1, z.keeps kp⟩
  · have e : cenv.cells.lookup y = some c := e
    rcases mem e with ⟨h1, _⟩ | ⟨_, z⟩
    · obtain ⟨w, z⟩ := I.cell y c h1
      exact ⟨w, z.keeps kp⟩
    · exact ⟨_, z⟩
  · show H cenv.locals = none
    rw [hL]; exact I.hok.fresh (Nat.le_refl _)
  · have e : cenv.cells.lookup y = some c := e
    rcases mem e with ⟨h1, _⟩ | ⟨h1, _⟩
    · exact I.freeC y c h1
    · exact I.hok.fresh (Nat.le_of_succ_le h1)
  · exact absurd (show p ∈ ([] : List (Addr × Obj)) ++ [] from hp) (by simp)

/-- an item appended to a tracked list -/
theorem app_ok {E : Value → Shared → Prop} {D : Addr} {xs : List V} {y : V} {v : Value} {Q : Value → Shared → Prop} (I : Inv X pins σ H s) (hD : H D = some (.lst xs)) (hz : xs.length < sizeLine) (r : RelV y v)
    (h : ∀ s', Inv X pins σ (upd H D (.lst (xs ++ [y]))) s' → Q .none s') : wpAny (model X.prog X.w) X.A (call (.builtin "list.append") [.ref D, v]) Q E s := by
  obtain ⟨hz', its, n, ri, e⟩ := I.hok D _ hD
  have hl := ri.length
  refine append_at (hsz := by rw [List.size_toArray]; omega) e fun h' sb ho' => ?_
  refine h { s with heap := h' } (I.write (t' := s.toks) (by rw [hD]; trivial) (.inl rfl) (fun b u hb q => (sb.2 b hb).trans q) ⟨_, ho'⟩ ⟨by rw [List.length_append]; exact hz, its ++ [v], n + 1, ri.append (.cons r .nil), ?_⟩)
  rw [ho']
  simp

/-- a clause's tests -/
def PTs (X : Cx) (ifs : List Expr) (t : TT) : Prop :=
  ∀ (pins : List (Addr × Obj)) (s : Shared) (σ : St) (H : Hp) (Q : Bool → Hp → Prop), Inv X pins σ H s → t σ H Q →
    wpAny (model X.prog X.w) X.A (forIn ifs true fun c r => if r = true then do let ok ← isTrue c X.env (eval c X.env); pure (ForInStep.yield ok) else pure (ForInStep.yield r)) (TP X pins σ Q) X.xe s
def tYes : TT := fun _ H Q => Q true H
theorem pts_nil : PTs X [] tYes := fun _ _ _ H _ I h => wpAny_tests_nil ⟨H, I, h⟩
end

theorem thnF {α : Type} {t : Sem α} {Q Q' : α → Shared → Prop} {M : Model} {A : Around} {E : Value → Shared → Prop} {s : Shared} (h : wpAny M A t Q (fun _ _ => False) s) (hQ : ∀ a s, Q a s → Q' a s) : wpAny M A t Q' E s := wpAny_mono h hQ fun _ _ z => False.elim z

/-- the loop of a list comprehension's block, the target of any form (codeAny_compLoop_tests asks a target that no tuple goes to; statement and proof follow it, PyProof/CompMap.lean:41-61, with the step letOwnedTupleGo kept) -/
theorem compLoop_any {prog : Program} {w : World} {A : Around} {R : Result → Shared → Prop} {s : Shared} {elt target iter : Expr} {ifs : List Expr} {scope : Scope} {pos : Pos} {it acc : Value} {env : Env} (I : Nat → Shared → Prop)
    (turn : ∀ n s, I n s → wpAny (model prog w) A (pyNext it) (fun r s₁ => match r with
      | none => R (.ok .next) s₁
      | some v => wpAny (model prog w) A (letOwnedTupleGo target it v) (fun _ s₁' => wpAny (model prog w) A (assign target env v) (fun _ s₂ =>
          wpAny (model prog w) A (forIn ifs true fun c r => if r = true then do let ok ← isTrue c env (eval c env); pure (ForInStep.yield ok) else pure (ForInStep.yield r)) (fun ok s₃ =>
            if ok = true then wpAny (model prog w) A (eval elt env) (fun x s₄ =>
              wpAny (model prog w) A (call (.builtin "list.append") [acc, x]) (fun _ s₅ => ∃ m, m < n ∧ I m s₅) (notedBy (model prog w) A env fun e s' => R (.error e) s') s₄) (notedBy (model prog w) A env fun e s' => R (.error e) s') s₃
            else ∃ m, m < n ∧ I m s₃) (notedBy (model prog w) A env fun e s' => R (.error e) s') s₂) (notedBy (model prog w) A env fun e s' => R (.error e) s') s₁') (notedBy (model prog w) A env fun e s' => R (.error e) s') s₁) (notedBy (model prog w) A env fun e s' => R (.error e) s') s)
    (n : Nat) (h : I n s) :
    codeAny (model prog w) A (.compLoop (.ListComp elt [⟨target, iter, ifs, 0⟩] scope pos) 0 it acc env) R s := by
  refine codeAny_loop rfl I (fun n s hI => ?_) n h
  show wpAny _ A ((compTurn (.ListComp elt [⟨target, iter, ifs, 0⟩] scope pos) 0 it acc env).onRaise (fun x => do noteFrame x env; theTreesLotGoes x)) _ _ s
  refine wpAny_noted ?_
  rw [compTurn_list]
  refine wpAny_bind (wpAny_standAt (wpAny_bind (wpAny_mono (turn n s hI) (fun r s₁ h₁ => ?_) fun _ _ h' => h')))
  cases r with
  | none => exact wpAny_pure h₁
  | some v =>
    refine wpAny_bind (wpAny_mono h₁ (fun _ s₁' h₁' => ?_) fun _ _ h' => h')
    refine wpAny_bind (wpAny_mono h₁' (fun _ s₂ h₂ => wpAny_bind (wpAny_mono h₂ (fun ok s₃ h₃ => ?_) fun _ _ h' => h')) fun _ _ h' => h')
    cases ok with
    | false => exact wpAny_pure ⟨rfl, h₃⟩
    | true =>
      exact wpAny_bind (wpAny_bind (wpAny_mono h₃ (fun x s₄ h₄ => wpAny_bind (wpAny_mono h₄ (fun _ s₅ h₅ => wpAny_pure (wpAny_pure ⟨rfl, h₅⟩)) fun _ _ h' => h')) fun _ _ h' => h'))

section
variable {X : Cx}
/-- [elt for target in iter if ..]: D the new list; W by the turn and a measure, Nx what a turn is to reach -/
def tLc (wi : TI) (g : TG) (tt : TT) (te : TE) (vs : List Nat) : TE := fun σ H Q => wi σ H fun J H1 => ∀ D, H1 D = none → ∃ W : Nat → Nat → Hp → Prop, (∃ m, W 0 m (upd H1 D (.lst []))) ∧ ∀ i m H, W i m H →
  (J.stop i H ∧ Q (.ref D) H) ∨ (J.go i H ∧ ∃ Nx : Hp → Prop, (∀ H', Nx H' → ∃ m', m' < m ∧ W (i + 1) m' H') ∧ ∀ x H', J.yld i H x H' → g x (wipe σ vs) H' fun σ2 H2 => wipe σ2 vs = wipe σ vs ∧ tt σ2 H2 fun b H3 =>
    if b = true then te σ2 H3 fun y H4 => ∃ acc, H4 D = some (.lst acc) ∧ acc.length < sizeLine ∧ Nx (upd H4 D (.lst (acc ++ [y]))) else Nx H3)
theorem lc_core {pins : List (Addr × Obj)} {s : Shared} {σ : St} {H : Hp} {Q : VK} {elt tg iter : Expr} {ifs : List Expr} {scope : Scope} {own : List (Str × Nat)} {pos pos' : Pos} {wi : TI} {g : TG} {tt : TT} {te : TE} {use : Option (Value → Sem Unit)} {Qf : Value → Shared → Prop}
    (hc : X.calm = true) (hN : X.N.Nodup) (I : Inv X pins σ H s) (hi : PI X tg iter wi) (ok : BlkOk X.N X.env.scope scope own)
    (hg : ∀ (s : Shared) (H : Hp) (C : Addr) (cl : List (Str × Addr)) (fp : List Addr), PG (X.blk s H scope (compEnvC scope cl C X.env) fp) tg g) (ht : ∀ (s : Shared) (H : Hp) (C : Addr) (cl : List (Str × Addr)) (fp : List Addr), PTs (X.blk s H scope (compEnvC scope cl C X.env) fp) ifs tt)
    (he : ∀ (s : Shared) (H : Hp) (C : Addr) (cl : List (Str × Addr)) (fp : List Addr), PE (X.blk s H scope (compEnvC scope cl C X.env) fp) elt te) (hs : ∀ x, foldedSetIterable iter X.env x = pure x)
    (h : tLc wi g tt te (own.map (·.2)) σ H Q)
    (hRR : ∀ D C s' m H', Inv X pins σ H' s' → Q (.ref D) H' → s'.heap.Ns C m → FpOk X pins H' C → compPost (model X.prog X.w) X.A X.xe use Qf (.ref D) C (.ok .next) s') :
    wpAny (model X.prog X.w) X.A (comprehension (.ListComp elt [⟨tg, iter, ifs, 0⟩] scope pos) scope X.env pos' (newList []) false (eval iter X.env) use) Qf X.xe s := by
  have hfree : ∀ y ∈ scope.names, y.2 = .free → ∃ c, X.env.cells.lookup y.1 = some c := fun y hy e => by
    rcases ok.free y hy e with k | k
    · exact I.ok.has _ (.inl k)
    · exact I.ok.has _ (.inr k)
  refine wpAny_comprehension_free (use := use) rfl hs (closure_ok hfree) ok.kind (fun y hy e => by rw [ok.uniq y hy, e])
    (thn (hi pins s σ H _ I h) fun xv s1 hx => thn hx fun itv s2 h2 => ?_)
  obtain ⟨it, fp, tn, J, H2, e, I2, T, st2, f2, q⟩ := h2
  subst e
  refine wpAny_newObj_type (newEnv_comp ?_) (by show 0 ≤ sizeLine; decide)
  generalize hD : s2.heap.objs.size = D
  have hDn : H2 D = none := I2.hok.fresh (Nat.le_of_eq hD)
  obtain ⟨W, ⟨m0, w0⟩, turn⟩ := q D hDn
  -- the new list
  generalize hs3 : ({ s2 with heap := s2.heap.push { cls := .type "list", data := .seq ([] : List Value).toArray } } : Shared) = s3
  have I3 : Inv X pins σ (upd H2 D (.lst [])) s3 := by
    rw [← hs3]
    refine I2.laid (t' := s2.toks) (fun b o e => Heap.get?_push_of_some _ e) (Nat.le_of_eq hD) ⟨Nat.zero_le _, [], 0, .nil, ?_⟩
    rw [← hD]
    exact Heap.get?_push_size _ rfl
  have h3 : s3.heap = s2.heap.push { cls := .type "list", data := .seq ([] : List Value).toArray } := by rw [← hs3]
  have sz : ∀ b ∈ fp, b < s2.heap.objs.size := fun b hb => by
    obtain ⟨o, e, _⟩ := T.obj _ _ st2 b hb
    exact Heap.lt_size e
  have f3 : ∀ b ∈ fp, FpOk X pins (upd H2 D (.lst [])) b ∧ b < s3.heap.objs.size := fun b hb => by
    have hlt := sz b hb
    refine ⟨⟨?_, (f2 b hb).2⟩, by rw [h3, Heap.size_push]; exact Nat.lt_succ_of_lt hlt⟩
    rw [upd_ne (by rw [← hD]; exact Nat.ne_of_lt hlt)]
    exact (f2 b hb).1
  have st3 : tn 0 s3.heap := T.keep _ _ _ st2 fun b _ o e => by rw [h3]; exact Heap.get?_push_of_some _ e
  have I4 := block_start I3 ok hN f3
  have pg := hg s3 (upd H2 D (.lst [])) s3.heap.objs.size (cellsFrom (s3.heap.objs.size + 1) scope.names (cloFrom X.env.cells scope.names [])) fp
  have pt := ht s3 (upd H2 D (.lst [])) s3.heap.objs.size (cellsFrom (s3.heap.objs.size + 1) scope.names (cloFrom X.env.cells scope.names [])) fp
  have pe := he s3 (upd H2 D (.lst [])) s3.heap.objs.size (cellsFrom (s3.heap.objs.size + 1) scope.names (cloFrom X.env.cells scope.names [])) fp
  show codeAny _ _ (.compStart (.ListComp elt [⟨tg, iter, ifs, 0⟩] scope pos) 0 (.ref it) (.ref D) (compEnvC scope (cellsFrom (s3.heap.objs.size + 1) scope.names (cloFrom X.env.cells scope.names [])) s3.heap.objs.size X.env)) (compPost (model X.prog X.w) X.A X.xe use Qf (.ref D) s3.heap.objs.size) { s3 with heap := pushCells (s3.heap.push { cls := .type "dict", data := .dict #[] }) scope.names }
  have nfp : ∀ b ∈ fp, (upd H2 D (.lst [])) b = none := fun b hb => (f3 b hb).1.1
  generalize hce : compEnvC scope (cellsFrom (s3.heap.objs.size + 1) scope.names (cloFrom X.env.cells scope.names [])) s3.heap.objs.size X.env = ce at I4 pg pt pe ⊢
  have cL : ce.locals = s3.heap.objs.size := by subst hce; rfl
  generalize hH3 : upd H2 D (.lst []) = H3 at I3 I4 pg pt pe w0 nfp f3
  generalize hs4 : ({ s3 with heap := pushCells (s3.heap.push { cls := .type "dict", data := .dict #[] }) scope.names } : Shared) = s4 at I4 ⊢
  have st4 : tn 0 s4.heap := T.keep _ _ _ st3 fun b _ o e => by rw [← hs4]; exact pushCells_keeps _ _ _ _ (Heap.get?_push_of_some _ e)
  have stat : ∀ {σ' : St} {H' : Hp} {s' : Shared}, Inv (X.blk s3 H3 scope ce fp) [] σ' H' s' → (∀ b ∈ fp, H' b = none) → ∀ b ∈ fp, FpOk (X.blk s3 H3 scope ce fp) [] H' b := fun {σ' H' s'} I' hn b hb =>
    ⟨hn b hb, (I'.ok.exf b hb).1, I'.ok.exfs b hb, .inl hb, fun x c e => (I'.ok.exf b hb).2 x c e, fun p hp => absurd (show p ∈ ([] : List (Addr × Obj)) ++ [] from hp) (by simp)⟩
  have loop : codeAny (model X.prog X.w) X.A (.compLoop (.ListComp elt [⟨tg, iter, ifs, 0⟩] scope pos) 0 (.ref it) (.ref D) ce) (compPost (model X.prog X.w) X.A X.xe use Qf (.ref D) s3.heap.objs.size) s4 := by
    refine compLoop_any (fun n s' => ∃ i H', Inv (X.blk s3 H3 scope ce fp) [] (wipe σ (own.map (·.2))) H' s' ∧ tn i s'.heap ∧ (∀ b ∈ fp, H' b = none) ∧ W i n H') ?_ m0 ⟨0, H3, I4, st4, nfp, w0⟩
    rintro n s5 ⟨i, H5, I5, st5, n5, w5⟩
    rcases turn i n H5 w5 with ⟨stop, qq⟩ | ⟨go, Nx, hNx, step⟩
    · have td := T.done (X.blk s3 H3 scope ce fp) rfl rfl rfl hc i [] s5 _ H5 (fun _ _ => False) I5 (stat I5 n5) st5 stop
      refine thnF td fun r s6 ⟨hr, I6⟩ => ?_
      subst hr
      -- back in the def's context
      have I7 : Inv X pins σ H5 s6 := I3.call' (ch := fp) I6.os I6.base I6.hok I6.bare fun b hb => ⟨(f3 b hb).1.2.2.2.1, (f3 b hb).1.2.1, (f3 b hb).1.2.2.2.2.1, (f3 b hb).1.2.2.2.2.2⟩
      have nC : H5 s3.heap.objs.size = none := by
        have z : H5 ce.locals = none := I6.free
        rw [cL] at z
        exact z
      obtain ⟨m, hn, _⟩ := I6.loc
      have hn : s6.heap.Ns ce.locals m := hn
      rw [cL] at hn
      exact hRR D s3.heap.objs.size s6 m H5 I7 qq hn (I3.fpOk (Nat.le_refl _) nC)
    · have ti := T.item (X.blk s3 H3 scope ce fp) rfl rfl rfl hc i [] s5 _ H5 (fun _ _ => False) I5 (stat I5 n5) st5 go
      refine thnF ti fun r s6 ⟨u, hr, h6⟩ => ?_
      subst hr
      refine thnF h6 fun _ s7 ⟨x, H7, I7, r7, y7, st7, n7⟩ => ?_
      have I7' := I7.pinned (stat I7 n7) (T.obj _ _ st7)
      refine thnF (pg _ s7 _ H7 x u _ I7' r7 (step x H7 y7)) fun _ s8 ⟨σ8, H8, I8, hw8, q8⟩ => ?_
      refine thnF (pt _ s8 σ8 H8 _ I8 q8) fun b s9 ⟨H9, I9, q9⟩ => ?_
      -- the turn's end
      have fin : ∀ {s' : Shared} {H' : Hp}, Inv (X.blk s3 H3 scope ce fp) ([] ++ pinsAt fp s7.heap) σ8 H' s' → Nx H' → ∃ m, m < n ∧ ∃ i H', Inv (X.blk s3 H3 scope ce fp) [] (wipe σ (own.map (·.2))) H' s' ∧ tn i s'.heap ∧ (∀ b ∈ fp, H' b = none) ∧ W i m H' := fun {s' H'} I' nx => by
        obtain ⟨m', hm, w'⟩ := hNx H' nx
        have pin' : ∀ b ∈ fp, ∀ o, s7.heap.get? b = some o → s'.heap.get? b = some o ∧ H' b = none := fun b hb o e =>
          let z := I'.pin (b, o) (List.mem_append_right _ (List.mem_append_right _ (mem_pinsAt hb e)))
          ⟨z.1, z.2.1⟩
        have hl : (wipe σ (own.map (·.2))).length = σ8.length := by rw [← hw8, wipe_length]
        refine ⟨m', hm, i + 1, H', (I'.unpinned (pins := [])).weak hl (fun j v e => ?_), T.keep _ _ _ st7 fun b hb o e => (pin' b hb o e).1, fun b hb => ?_, w'⟩
        · rw [← hw8] at e
          exact (wipe_some e).1
        · obtain ⟨o, e, _⟩ := T.obj _ _ st7 b hb
          exact (pin' b hb o e).2
      cases b with
      | false =>
        simp only [Bool.false_eq_true, if_false] at q9 ⊢
        exact fin I9 q9
      | true =>
        simp only [if_true] at q9 ⊢
        refine thnF (pe _ s9 σ8 H9 _ I9 q9) fun z s10 ⟨yv, H10, I10, r10, acc, hD10, hz10, nx⟩ => ?_
        exact app_ok (X := X.blk s3 H3 scope ce fp) I10 hD10 hz10 r10 fun s11 I11 => fin I11 nx
  exact codeAny_compStart_list loop (T.self X.A 0 _ _ _ st4 loop)
/-- as a value -/
theorem pe_lc {elt tg iter : Expr} {ifs : List Expr} {scope : Scope} {own : List (Str × Nat)} {pos : Pos} {wi : TI} {g : TG} {tt : TT} {te : TE} (hc : X.calm = true) (hN : X.N.Nodup) (hi : PI X tg iter wi) (ok : BlkOk X.N X.env.scope scope own)
    (hg : ∀ (s : Shared) (H : Hp) (C : Addr) (cl : List (Str × Addr)) (fp : List Addr), PG (X.blk s H scope (compEnvC scope cl C X.env) fp) tg g) (ht : ∀ (s : Shared) (H : Hp) (C : Addr) (cl : List (Str × Addr)) (fp : List Addr), PTs (X.blk s H scope (compEnvC scope cl C X.env) fp) ifs tt)
    (he : ∀ (s : Shared) (H : Hp) (C : Addr) (cl : List (Str × Addr)) (fp : List Addr), PE (X.blk s H scope (compEnvC scope cl C X.env) fp) elt te) (hs : ∀ x, foldedSetIterable iter X.env x = pure x := by intro _; rfl) :
    PE X (.ListComp elt [⟨tg, iter, ifs, 0⟩] scope pos) (tLc wi g tt te (own.map (·.2))) := by
  intro pins s σ H Q I h
  rw [eval_ListComp]
  refine lc_core hc hN I hi ok hg ht he hs h fun D C s' m H' I' q hn f => ⟨m, hn, fun h'' sb => ?_⟩
  obtain ⟨f0, f1, f2, f3, f4, f5⟩ := f
  exact ⟨.ref D, H', I'.turned (t' := s'.toks) (fun b o hb e => (sb.2 b hb).trans e) f0 f1 f3 f4 f5, rfl, q⟩
end

/-! ### the forms one uses -/
/-- over a range: Pv by the turn and the heap (the new list at D within) -/
theorem lc_range {lo : Int} {n : Nat} {g : TG} {tt : TT} {te : TE} {vs : List Nat} {σ : St} {H1 : Hp} {D : Addr} {Qd : Hp → Prop} (Pv : Nat → Hp → Prop) (h0 : Pv 0 (upd H1 D (.lst [])))
    (hs : ∀ i H, i < n → Pv i H → g (.int (lo + i)) (wipe σ vs) H fun σ2 H2 => wipe σ2 vs = wipe σ vs ∧ tt σ2 H2 fun b H3 =>
      if b = true then te σ2 H3 fun y H4 => ∃ acc, H4 D = some (.lst acc) ∧ acc.length < sizeLine ∧ Pv (i + 1) (upd H4 D (.lst (acc ++ [y]))) else Pv (i + 1) H3) (hd : ∀ H, Pv n H → Qd H) :
    ∃ W : Nat → Nat → Hp → Prop, (∃ m, W 0 m (upd H1 D (.lst []))) ∧ ∀ i m H, W i m H →
      ((Itr lo n).stop i H ∧ Qd H) ∨ ((Itr lo n).go i H ∧ ∃ Nx : Hp → Prop, (∀ H', Nx H' → ∃ m', m' < m ∧ W (i + 1) m' H') ∧ ∀ x H', (Itr lo n).yld i H x H' → g x (wipe σ vs) H' fun σ2 H2 => wipe σ2 vs = wipe σ vs ∧ tt σ2 H2 fun b H3 =>
        if b = true then te σ2 H3 fun y H4 => ∃ acc, H4 D = some (.lst acc) ∧ acc.length < sizeLine ∧ Nx (upd H4 D (.lst (acc ++ [y]))) else Nx H3) := by
  refine ⟨fun i m H => m = n - i ∧ i ≤ n ∧ Pv i H, ⟨n, by simp, Nat.zero_le _, h0⟩, ?_⟩
  rintro i m H ⟨rfl, hi, p⟩
  by_cases hlt : i < n
  · refine .inr ⟨hlt, Pv (i + 1), fun H' p' => ⟨n - (i + 1), by omega, rfl, hlt, p'⟩, fun x H' y => ?_⟩
    obtain ⟨e, y⟩ := y
    subst e y
    exact hs i _ hlt p
  · have e : i = n := by omega
    subst e
    exact .inl ⟨Nat.le_refl _, hd H p⟩
def blkC (N : List Str) (sc scope : Scope) (own : List (Str × Nat)) : Bool :=
  (match scope.kind with | .function => true | _ => false) && (scope.names.all fun y => decide (scope.names.lookup y.1 = some y.2)) && (own.all fun p => decide (N[p.2]? = some p.1)) &&
    (scope.names.all fun y => match y.2 with
      | .free => (match sc.names.lookup y.1 with | some .cell => true | some .free => true | _ => false)
      | .local => decide (y.1 ∈ own.map (·.1)) || decide (y.1 ∉ N)
      | .cell => decide (y.1 ∈ own.map (·.1)) || decide (y.1 ∉ N)
      | _ => true)
theorem blkOk_by {N : List Str} {sc scope : Scope} {own : List (Str × Nat)} (h : blkC N sc scope own = true) : BlkOk N sc scope own := by
  unfold blkC at h
  simp only [Bool.and_eq_true, List.all_eq_true, decide_eq_true_eq] at h
  obtain ⟨⟨⟨h1, h2⟩, h3⟩, h4⟩ := h
  refine ⟨?_, h2, h3, fun y hy e => ?_, fun y hy e => ?_⟩
  · split at h1
    · assumption
    · cases h1
  · have q := h4 y hy
    simp only [e] at q
    split at q <;> first | exact .inl (by assumption) | exact .inr (by assumption) | cases q
  · have q := h4 y hy
    rcases e with e | e <;> (simp only [e, Bool.or_eq_true, decide_eq_true_eq] at q; exact q)
end L2

namespace L2
open PySem PySem.Spec PyProof.Rows

section
variable {prog : Program} {w : World} {A : Around} {R : Result → Shared → Prop} {s : Shared} {elt t0 i0 t1 i1 : Expr} {ifs0 ifs1 : List Expr} {scope : Scope} {pos : Pos} {it acc : Value} {env : Env}
end

section
variable {X : Cx}
end
end L2

namespace L2
open PySem PySem.Spec PyProof.Rows

/-! ### lists of pairs as tables -/
section
variable {κ : Type} [DecidableEq κ]
def valV (kvs : List (κ × V)) (k : κ) : Option V := (kvs.find? fun kv => decide (kv.1 = k)).map (·.2)
/-- in its place, or at the end -/
def putK (kvs : List (κ × V)) (k : κ) (v : V) : List (κ × V) :=
  if (kvs.any fun kv => decide (kv.1 = k)) = true then kvs.map (fun kv => if kv.1 = k then (kv.1, v) else kv) else kvs ++ [(k, v)]
theorem valV_pos {p : κ × V} {r : List (κ × V)} {k : κ} (e : p.1 = k) : valV (p :: r) k = some p.2 := by simp [valV, List.find?_cons, e]
theorem valV_neg {p : κ × V} {r : List (κ × V)} {k : κ} (e : ¬ p.1 = k) : valV (p :: r) k = valV r k := by simp [valV, List.find?_cons, e]
theorem valV_any (k : κ) : ∀ kvs : List (κ × V), (kvs.any fun kv => decide (kv.1 = k)) = (valV kvs k).isSome
  | [] => rfl
  | p :: r => by
    rw [List.any_cons]
    by_cases e : p.1 = k
    · simp only [valV_pos e, decide_eq_true e, Bool.true_or, Option.isSome_some]
    · rw [valV_neg e, decide_eq_false e, Bool.false_or]; exact valV_any k r
theorem valV_map (k j : κ) (y : V) : ∀ kvs : List (κ × V), valV (kvs.map fun kv => if kv.1 = k then (kv.1, y) else kv) j = (valV kvs j).map fun x => if j = k then y else x
  | [] => rfl
  | p :: r => by
    have ih := valV_map k j y r
    rw [List.map_cons]
    by_cases h : p.1 = k
    · rw [if_pos h]
      by_cases e : p.1 = j
      · rw [valV_pos (p := (p.1, y)) e, valV_pos e, Option.map_some, if_pos (e.symm.trans h)]
      · rw [valV_neg (p := (p.1, y)) e, valV_neg e, ih]
    · rw [if_neg h]
      by_cases e : p.1 = j
      · rw [valV_pos (p := p) e, valV_pos e, Option.map_some, if_neg (fun z => h (e.trans z))]
      · rw [valV_neg (p := p) e, valV_neg e, ih]
theorem valV_snoc (k j : κ) (y : V) : ∀ kvs : List (κ × V), valV kvs k = none → valV (kvs ++ [(k, y)]) j = if j = k then some y else valV kvs j
  | [], _ => by
    by_cases e : k = j
    · rw [if_pos e.symm]; exact valV_pos (p := (k, y)) e
    · rw [if_neg (fun z => e z.symm)]; exact valV_neg (p := (k, y)) e
  | p :: r, hn => by
    rw [List.cons_append]
    have hk : ¬ p.1 = k := fun z => by rw [valV_pos z] at hn; cases hn
    rw [valV_neg hk] at hn
    have ih := valV_snoc k j y r hn
    by_cases e : p.1 = j
    · rw [valV_pos e, valV_pos e, if_neg (fun z => hk (e.trans z))]
    · rw [valV_neg e, valV_neg e, ih]
theorem valV_put (kvs : List (κ × V)) (k j : κ) (y : V) : valV (putK kvs k y) j = if j = k then some y else valV kvs j := by
  unfold putK
  by_cases a : (kvs.any fun kv => decide (kv.1 = k)) = true
  · rw [if_pos a, valV_map]
    rw [valV_any] at a
    by_cases e : j = k
    · obtain ⟨x, hx⟩ := Option.isSome_iff_exists.mp a
      rw [if_pos e, e, hx, Option.map_some, if_pos rfl]
    · rw [if_neg e]
      cases valV kvs j with
      | none => rfl
      | some x => rw [Option.map_some, if_neg e]
  · rw [if_neg a]
    refine valV_snoc k j y kvs ?_
    rw [valV_any] at a
    cases q : valV kvs k with
    | none => rfl
    | some x => rw [q] at a; exact (a rfl).elim
theorem length_putK (kvs : List (κ × V)) (k : κ) (v : V) : (putK kvs k v).length ≤ kvs.length + 1 := by
  unfold putK
  split
  · rw [List.length_map]; omega
  · rw [List.length_append, List.length_cons, List.length_nil]; omega
theorem RelO.isSome_eq {o : Option V} {u : Option Value} (r : RelO o u) : o.isSome = u.isSome := by
  cases o with
  | none => cases u with
    | none => rfl
    | some _ => exact (show False from r).elim
  | some _ => cases u with
    | none => exact (show False from r).elim
    | some _ => rfl
theorem RelO.getD {o : Option V} {u : Option Value} {d : V} {d' : Value} (r : RelO o u) (rd : RelV d d') : RelV (o.getD d) (u.getD d') := by
  cases o with
  | none => cases u with
    | none => exact rd
    | some _ => exact (show False from r).elim
  | some _ => cases u with
    | none => exact (show False from r).elim
    | some _ => exact r

/-- raw tables of the same keys -/
theorem KV.val {kvs : List (κ × V)} {vs : List (κ × Value)} (r : KV kvs vs) (k : κ) : RelO (valV kvs k) (valueAt vs k) := by
  unfold KV at r
  induction r with
  | nil => exact True.intro
  | @cons p q ps qs h t ih =>
    obtain ⟨h1, h2⟩ := h
    by_cases e : p.1 = k
    · have e' : q.1 = k := h1.symm.trans e
      have b : valueAt (q :: qs) k = some q.2 := by simp [valueAt, List.find?_cons, e']
      rw [valV_pos e, b]; exact h2
    · have e' : ¬ q.1 = k := fun z => e (h1.trans z)
      have b : valueAt (q :: qs) k = valueAt qs k := by simp [valueAt, List.find?_cons, e']
      rw [valV_neg e, b]; exact ih
theorem KV.any {kvs : List (κ × V)} {vs : List (κ × Value)} (r : KV kvs vs) (k : κ) : (kvs.any fun kv => decide (kv.1 = k)) = vs.any fun kv => decide (kv.1 = k) := by
  unfold KV at r
  induction r with
  | nil => rfl
  | cons h t ih => rw [List.any_cons, List.any_cons, ih, h.1]
theorem KV.repl {kvs : List (κ × V)} {vs : List (κ × Value)} (r : KV kvs vs) (k : κ) {y : V} {u : Value} (ry : RelV y u) :
    KV (kvs.map fun kv => if kv.1 = k then (kv.1, y) else kv) (vs.map fun kv => if kv.1 = k then (kv.1, u) else kv) := by
  unfold KV at r ⊢
  induction r with
  | nil => exact .nil
  | @cons p q ps qs h t ih =>
    rw [List.map_cons, List.map_cons]
    refine .cons ?_ ih
    obtain ⟨h1, h2⟩ := h
    by_cases e : p.1 = k
    · rw [if_pos e, if_pos (h1.symm.trans e)]; exact ⟨h1, ry⟩
    · rw [if_neg e, if_neg (fun z => e (h1.trans z))]; exact ⟨h1, h2⟩
theorem KV.put {kvs : List (κ × V)} {vs : List (κ × Value)} (r : KV kvs vs) (k : κ) {y : V} {u : Value} (ry : RelV y u) : KV (putK kvs k y) (stored vs k u) := by
  unfold putK stored
  rw [r.any k]
  by_cases e : (vs.any fun kv => decide (kv.1 = k)) = true
  · rw [if_pos e, if_pos e]; exact r.repl k ry
  · rw [if_neg e, if_neg e]; exact Paired.snoc r ⟨rfl, ry⟩
theorem KV.length {kvs : List (κ × V)} {vs : List (κ × Value)} (r : KV kvs vs) : kvs.length = vs.length := Paired.length r
end


/-! ### a tracked dict, its keys ints and texts or tuples of these -/
theorem kV_is {P : Program} {w : World} {k : Key} {u : Value} (r : RelV (kV k) u) : (mixKind P w).is k u = true := by
  cases k with
  | inl i => obtain ⟨t, e⟩ := (show ∃ t, u = Value.int i t from r); subst e; exact mixKind_int P w i t
  | inr x => obtain ⟨t, e⟩ := (show ∃ t, u = Value.str x t from r); subst e; exact mixKind_str P w x t
theorem items_are {P : Program} {w : World} : ∀ {ks : List Key} {us : List Value}, Vals (ks.map kV) us → ItemsAre (mixKind P w) ks us
  | [], _, r => by rw [List.map_nil] at r; cases r; exact .nil
  | k :: ks, _, r => by
    rw [List.map_cons] at r
    cases r with
    | cons h t => exact .cons (kV_is h) (items_are t)

/-- raw entries of a dict with tuple keys -/
abbrev KT (H : Hp) : List (List Key × V) → List (List Key × Addr × Value) → Prop := Paired fun p q => p.1 = q.1 ∧ H q.2.1 = some (.tup (p.1.map kV)) ∧ RelV p.2 q.2.2
theorem KT.val {H : Hp} {kvs : List (List Key × V)} {xs : List (List Key × Addr × Value)} (r : KT H kvs xs) (k : List Key) : RelO (valV kvs k) ((atKey xs k).map (·.2)) := by
  induction r with
  | nil => exact True.intro
  | @cons p q ps qs h t ih =>
    obtain ⟨h1, _, h2⟩ := h
    by_cases e : p.1 = k
    · have e' : q.1 = k := h1.symm.trans e
      have b : atKey (q :: qs) k = some q.2 := by simp [atKey, List.find?_cons, e']
      rw [valV_pos e, b]; exact h2
    · have e' : ¬ q.1 = k := fun z => e (h1.trans z)
      have b : atKey (q :: qs) k = atKey qs k := by simp [atKey, List.find?_cons, e']
      rw [valV_neg e, b]; exact ih
theorem KT.repl {H : Hp} {kvs : List (List Key × V)} {xs : List (List Key × Addr × Value)} (r : KT H kvs xs) (k : List Key) {y : V} {u : Value} (ry : RelV y u) :
    KT H (kvs.map fun kv => if kv.1 = k then (kv.1, y) else kv) (xs.map (putAt k u)) := by
  induction r with
  | nil => exact .nil
  | @cons p q ps qs h t ih =>
    rw [List.map_cons, List.map_cons]
    refine .cons ?_ ih
    obtain ⟨h1, h2, h3⟩ := h
    unfold putAt
    by_cases e : p.1 = k
    · rw [if_pos e, if_pos (h1.symm.trans e)]; exact ⟨h1, h2, ry⟩
    · rw [if_neg e, if_neg (fun z => e (h1.trans z))]; exact ⟨h1, h2, h3⟩
theorem KT.put {H : Hp} {kvs : List (List Key × V)} {xs : List (List Key × Addr × Value)} (r : KT H kvs xs) (k : List Key) {b : Addr} {y : V} {u : Value} (hb : H b = some (.tup (k.map kV))) (ry : RelV y u) :
    KT H (putK kvs k y) (storedH xs k b u) := by
  have e : (kvs.any fun kv => decide (kv.1 = k)) = (atKey xs k).isSome := by
    rw [valV_any, (r.val k).isSome_eq, Option.isSome_map]
  unfold putK storedH
  rw [e]
  by_cases q : (atKey xs k).isSome = true
  · rw [if_pos q, if_pos q]; exact r.repl k ry
  · rw [if_neg q, if_neg q]; exact Paired.snoc r ⟨rfl, hb, ry⟩
theorem KT.keeps {H H' : Hp} {kvs : List (List Key × V)} {xs : List (List Key × Addr × Value)} (r : KT H kvs xs) (ht : ∀ b ys, H b = some (.tup ys) → H' b = some (.tup ys)) : KT H' kvs xs :=
  Paired.mapP r fun _ _ z => ⟨z.1, ht _ _ z.2.1, z.2.2⟩

section
variable {P : Program} {w : World} {H : Hp} {h : Heap} {a : Addr}
theorem rd_of {u : HO} (ok : HOk P w H h) (e : Rd H a u) : ObjOk P w H h a u := e.ok ok
theorem dk_rd {kvs : List (Key × V)} (ok : HOk P w H h) (e : Rd H a (.dK kvs)) : kvs.length ≤ sizeLine ∧ (a == sysModules) = false ∧ ∃ vs, KV kvs vs ∧ h.DictOf (mixKind P w) a vs :=
  show ObjOk P w H h a (.dK kvs) from rd_of ok e
theorem dk_of {kvs : List (Key × V)} (ok : HOk P w H h) (e : H a = some (.dK kvs)) : kvs.length ≤ sizeLine ∧ (a == sysModules) = false ∧ ∃ vs, KV kvs vs ∧ h.DictOf (mixKind P w) a vs := dk_rd ok (.inl e)
/-- a tracked tuple of ints and texts is a key -/
theorem key_of {ks : List Key} (ok : HOk P w H h) (e : H a = some (.tup (ks.map kV))) : (tupleKind (mixKind P w)).is h ks a := by
  obtain ⟨_, its, r, o, h1, h2, n, h3⟩ := (show ObjOk P w H h a (.tup (ks.map kV)) from ok a _ e)
  exact ⟨o, its.toArray, n, h1, h2, h3, by simpa using items_are r⟩
theorem dt_rd {kvs : List (List Key × V)} (ok : HOk P w H h) (e : Rd H a (.dT kvs)) : kvs.length ≤ sizeLine ∧ (a == sysModules) = false ∧
    ∃ xs, KT H kvs xs ∧ h.DictOfH (tupleKind (mixKind P w)) a xs := by
  obtain ⟨z, y, xs, r, o, es, ep, h1, h2, h3, h4, h5⟩ := (show ObjOk P w H h a (.dT kvs) from rd_of ok e)
  refine ⟨z, y, xs, r, o, es, ep, h1, h2, h3, h4, fun x hx => ?_, h5⟩
  have all : ∀ {l : List (List Key × V)} {m : List (List Key × Addr × Value)}, KT H l m → ∀ x ∈ m, (tupleKind (mixKind P w)).is h x.1 x.2.1 := by
    intro l m q
    induction q with
    | nil => intro x hx; exact nomatch hx
    | @cons p q ps qs hq t ih =>
      intro x hx
      rcases List.mem_cons.mp hx with e | hx
      · subst e
        exact key_of ok (by rw [← hq.1]; exact hq.2.1)
      · exact ih x hx
  exact all r x hx
theorem dt_of {kvs : List (List Key × V)} (ok : HOk P w H h) (e : H a = some (.dT kvs)) : kvs.length ≤ sizeLine ∧ (a == sysModules) = false ∧
    ∃ xs, KT H kvs xs ∧ h.DictOfH (tupleKind (mixKind P w)) a xs := dt_rd ok (.inl e)
end

/-- what the dict at a holds at the key y -/
def DGet (H : Hp) (a : Addr) (y : V) (r : Option V) : Prop :=
  (∃ kvs k, Rd H a (.dK kvs) ∧ y = kV k ∧ r = valV kvs k) ∨ ∃ kvs k b, Rd H a (.dT kvs) ∧ y = .ref b ∧ H b = some (.tup (k.map kV)) ∧ r = valV kvs k
/-- the heap behind a[y] = v -/
def DPut (H : Hp) (a : Addr) (y v : V) (H' : Hp) : Prop :=
  (∃ kvs k, H a = some (.dK kvs) ∧ y = kV k ∧ kvs.length < sizeLine ∧ H' = upd H a (.dK (putK kvs k v))) ∨
  ∃ kvs k b, H a = some (.dT kvs) ∧ y = .ref b ∧ H b = some (.tup (k.map kV)) ∧ kvs.length < sizeLine ∧ H' = upd H a (.dT (putK kvs k v))
theorem DGet.k {H : Hp} {a : Addr} {kvs : List (Key × V)} {k : Key} (e : H a = some (.dK kvs)) : DGet H a (kV k) (valV kvs k) := .inl ⟨kvs, k, .inl e, rfl, rfl⟩
theorem DPut.k {H : Hp} {a : Addr} {kvs : List (Key × V)} {k : Key} {v : V} (e : H a = some (.dK kvs)) (hl : kvs.length < sizeLine) : DPut H a (kV k) v (upd H a (.dK (putK kvs k v))) := .inl ⟨kvs, k, e, rfl, hl, rfl⟩
section
variable {X : Cx} {pins : List (Addr × Obj)} {σ : St} {H : Hp} {s : Shared} {a : Addr} {y v : V} {u r : Value} {o : Option V} {A : Around} {E : Value → Shared → Prop}

theorem Inv.big (I : Inv X pins σ H s) : sysModules < s.heap.objs.size := by
  have h : mainGlobals < s.heap.objs.size := (I.mod.glob.keeps I.bk).lt
  exact Nat.lt_trans (by decide) h

/-- a dict's object is replaced -/
theorem d_write {h' : Heap} {t' : Nat} {ob : HO} (I : Inv X pins σ H s) (mu : Mut (H a)) (hs : Heap.SameBut a s.heap h') (he : ∃ q, h'.get? a = some q) (new : ObjOk X.prog X.w (upd H a ob) h' a ob) :
    Inv X pins σ (upd H a ob) { s with heap := h', toks := t' } :=
  I.write (x := a) (e := a) mu (.inl rfl) (fun b q hb z => (hs.2 b hb).trans z) he new
theorem dk_new {P : Program} {w : World} {H' : Hp} {h' : Heap} {kvs : List (Key × V)} {vs : List (Key × Value)} (z : kvs.length ≤ sizeLine) (hd : (a == sysModules) = false) (rel : KV kvs vs) (dd : h'.DictOf (mixKind P w) a vs) :
    ObjOk P w H' h' a (.dK kvs) := ⟨z, hd, vs, rel, dd⟩
/-- d[y] = v -/
theorem d_setItem {H' : Hp} {Q : Unit → Shared → Prop} (hu : A.units + 1 < cLine) (I : Inv X pins σ H s) (g : DPut H a y v H') (ry : RelV y u) (rv : RelV v r) (h : ∀ s', Inv X pins σ H' s' → Q () s') :
    wpAny (model X.prog X.w) A (setItem (.ref a) u r) Q E s := by
  rcases g with ⟨kvs, k, e, ey, l, eH⟩ | ⟨kvs, k, b, e, ey, eb, l, eH⟩
  · subst ey eH
    obtain ⟨z, hd, vs, rel, dd⟩ := dk_of I.hok e
    have hz : vs.length ≤ sizeLine := by rw [← rel.length]; exact z
    have hl : (putK kvs k v).length ≤ sizeLine := by have := length_putK kvs k v; omega
    refine wpAny_setItem_pairs (hsz := hz) (kV_is ry) dd fun h' dd' hs => h _ ?_
    have he : ∃ q, h'.get? a = some q := let ⟨q, _, _, hq, _⟩ := dd'; ⟨q, hq⟩
    exact d_write I (by rw [e]; exact True.intro) hs he (dk_new hl hd (rel.put k rv) dd')
  · subst ey eH
    cases (show u = Value.ref b from ry)
    obtain ⟨z, hd, xs, rel, dd⟩ := dt_of I.hok e
    have hz : xs.length ≤ sizeLine := by rw [← Paired.length rel]; exact z
    have hl : (putK kvs k v).length ≤ sizeLine := by have := length_putK kvs k v; omega
    refine wpAny_setItem_heap (hsz := hz) (tupleKind_room_in1 hu) (key_of I.hok eb) dd fun h' dd' hs => h _ ?_
    obtain ⟨q, es, ep, hq, h2, h3, h4, _, h5⟩ := dd'
    refine d_write I (by rw [e]; exact True.intro) hs ⟨q, hq⟩ ⟨hl, hd, _, (rel.put k eb rv).keeps fun c ys ec => ?_, q, es, ep, hq, h2, h3, h4, h5⟩
    rw [upd_ne (ne_of ec e (fun z => nomatch z))]
    exact ec
end

section
variable {X : Cx} {pins : List (Addr × Obj)} {σ : St} {H : Hp} {s : Shared} {a : Addr} {kvs : List (Key × V)} {k : Key} {u : Value} {A : Around} {E : Value → Shared → Prop}
end


/-! ### readings and rules -/
/-- d[y] = v -/
def sDPut (td ty tv : TE) : TS := fun D σ H => tv σ H fun v H1 => td σ H1 fun x H2 => ty σ H2 fun y H3 => ∃ a H4, x = .ref a ∧ DPut H3 a y v H4 ∧ D.nx σ H4
section
variable {X : Cx} {o i e value : Expr} {pos pos' tpos : Pos} {td ty tv : TE}
theorem ps_dput (hu : X.A.units + 1 < cLine) (ho : PE X o td) (hi : PE X i ty) (hv : PE X value tv) (hs : swapsWith value (some (.Subscript o i pos')) pos.line X.env = pure false) :
    PS X (.Assign [.Subscript o i pos'] value pos) (sDPut td ty tv) := by
  intro pins s σ H D I h
  refine wpAny_Assign_Subscript (thn (hv pins s σ H _ I h) fun r s1 ⟨v, H1, I1, rv, q1⟩ => thn (ho pins s1 σ H1 _ I1 q1) fun u s2 ⟨x, H2, I2, rx, q2⟩ => thn (hi pins s2 σ H2 _ I2 q2) fun iv s3 ⟨y, H3, I3, ry, a, H4, ex, g, q3⟩ => ?_) hs
  subst ex
  obtain rfl : u = Value.ref a := rx
  exact d_setItem hu I3 g ry rv fun s4 I4 => ⟨σ, H4, I4, q3⟩
end


/-! ### displays -/
theorem dk_empty {P : Program} {w : World} {H : Hp} (h : Heap) (hb : sysModules < h.objs.size) : ObjOk P w H (h.push { cls := .type "dict", data := .dict #[] }) h.objs.size (.dK []) :=
  ⟨Nat.zero_le _, beq_eq_false_iff_ne.mpr (Ne.symm (Nat.ne_of_lt hb)), [], .nil, Heap.DictOf.new h⟩
/-- {}, to be a dict of the kind that is wanted -/
def tDNewK : TE := fun _ H Q => ∀ p, H p = none → Q (.ref p) (upd H p (.dK []))
section
variable {X : Cx} {pos : Pos}
theorem pe_dnewK : PE X (.Dict [] [] pos) tDNewK := fun pins s σ H Q I h =>
  wpAny_Dict_empty ⟨.ref s.heap.objs.size, _, I.laid (a := s.heap.objs.size) (o := .dK []) (t' := s.toks) (fun _ _ q => Heap.get?_push_of_some _ q) (Nat.le_refl _) (dk_empty s.heap I.big), rfl, h _ (I.hok.fresh (Nat.le_refl _))⟩
end

/-! ### methods -/
/-- a method call o.m(e) of a built-in, with one argument: what must be seen of the text -/
structure M1 (X : Cx) (o : Expr) (m : Str) (apos : Pos) (e : Expr) (cpos : Pos) : Prop where
  base : attributeBase o m X.env (eval o X.env) = eval o X.env
  few : ((backTo cpos (starEach [e] X.env)).all (fun x => !x.1) && (backToKw cpos (keywordEach [] X.env)).all (fun x => x.1.isSome)
    && decide (([e] : List Expr).length + ([] : List Keyword).length + (if ([] : List Keyword).isEmpty then 0 else 1) < 30)) = true
  line : (apos.endLine == cpos.line) = true
  trees : backTo cpos (starEach [e] X.env) = [(false, eval e X.env)]
structure M2 (X : Cx) (o : Expr) (m : Str) (apos : Pos) (e f : Expr) (cpos : Pos) : Prop where
  base : attributeBase o m X.env (eval o X.env) = eval o X.env
  few : ((backTo cpos (starEach [e, f] X.env)).all (fun x => !x.1) && (backToKw cpos (keywordEach [] X.env)).all (fun x => x.1.isSome)
    && decide (([e, f] : List Expr).length + ([] : List Keyword).length + (if ([] : List Keyword).isEmpty then 0 else 1) < 30)) = true
  line : (apos.endLine == cpos.line) = true
  trees : backTo cpos (starEach [e, f] X.env) = [(false, eval e X.env), (false, eval f X.env)]

/-- a is a dict, whatever its keys -/
def IsD (H : Hp) (a : Addr) : Prop := (∃ kvs, Rd H a (.dK kvs)) ∨ ∃ kvs, Rd H a (.dT kvs)
theorem isD_at {X : Cx} {pins : List (Addr × Obj)} {σ : St} {H : Hp} {s : Shared} {a : Addr} (I : Inv X pins σ H s) (d : IsD H a) :
    s.TypeIs (.ref a) "dict" ∧ (∀ b, Value.ref a = .ref b → ∃ ob, s.heap.get? b = some ob ∧ ob.dict = none) ∧ (a == sysModules) = false := by
  rcases d with ⟨kvs, e⟩ | ⟨kvs, e⟩
  · obtain ⟨_, hd, vs, _, dd⟩ := dk_rd I.hok e
    refine ⟨dd.typeIs, fun b q => ?_, hd⟩
    cases q
    obtain ⟨ob, _, _, h1, h2, _⟩ := dd
    exact ⟨ob, h1, h2.2.1⟩
  · obtain ⟨_, hd, xs, _, dd⟩ := dt_rd I.hok e
    refine ⟨dd.typeIs, fun b q => ?_, hd⟩
    cases q
    obtain ⟨ob, _, _, h1, h2, _⟩ := dd
    exact ⟨ob, h1, h2.2.1⟩

section
variable {X : Cx} {pins : List (Addr × Obj)} {σ : St} {H : Hp} {s : Shared} {a : Addr} {y d : V} {u r : Value} {o : Option V} {A : Around} {E : Value → Shared → Prop}
/-- d.get(y, x) -/
theorem d_get2 {Q : Value → Shared → Prop} (hu : A.units + 1 < cLine) (I : Inv X pins σ H s) (g : DGet H a y o) (ry : RelV y u) (rd : RelV d r) (h : ∀ w' s', Inv X pins σ H s' → RelV (o.getD d) w' → Q w' s') :
    wpAny (model X.prog X.w) A (call (.builtin "dict.get") [.ref a, u, r]) Q E s := by
  rcases g with ⟨kvs, k, e, ey, l⟩ | ⟨kvs, k, b, e, ey, eb, l⟩
  · subst ey
    obtain ⟨z, hd, vs, rel, dd⟩ := dk_rd I.hok e
    refine call_meetsIn PySem.F.slot_dict_get dd.typeIs PySem.F.entry_dict_get (PySem.F.args_dict_get_3 _ _ _) (meets_dict_get_default (mixKind X.prog X.w) a (kV_is ry) hd r) ⟨_, dd.mapOf, h _ _ (I.tok _) ?_⟩
    rw [l]
    exact (rel.val k).getD rd
  · subst ey
    cases (show u = Value.ref b from ry)
    obtain ⟨z, hd, xs, rel, dd⟩ := dt_rd I.hok e
    refine call_meetsIn PySem.F.slot_dict_get dd.typeIs PySem.F.entry_dict_get (PySem.F.args_dict_get_3 _ _ _) (meetsH_dict_get_default (tupleKind (mixKind X.prog X.w)) a b hd r) ⟨tupleKind_room_in1 hu, k, xs, key_of I.hok eb, dd, h _ _ (I.tok _) ?_⟩
    rw [l]
    exact (rel.val k).getD rd
end

def tDGet2 (td ty tx : TE) : TE := fun σ H Q => td σ H fun x H1 => ∃ a, x = .ref a ∧ IsD H1 a ∧ ty σ H1 fun y H2 => tx σ H2 fun z H3 => ∃ o, DGet H3 a y o ∧ Q (o.getD z) H3
section
variable {X : Cx} {o e f : Expr} {apos cpos : Pos} {td ty tx : TE}
theorem pe_dget2 (hu : X.A.units + 1 < cLine) (ho : PE X o td) (he : PE X e ty) (hf : PE X f tx) (m : M2 X o "get" apos e f cpos) : PE X (.Call (.Attribute o "get" apos) [e, f] [] cpos) (tDGet2 td ty tx) := by
  intro pins s σ H Q I h
  refine wpAny_Call_method m.base m.few m.line PySem.F.plainAttrs_dict PySem.F.slot_dict_get PySem.F.type_dict_get (thn (ho pins s σ H _ I h) fun u s1 ⟨x, H1, I1, rx, a, ex, d, q1⟩ => ?_)
  subst ex
  obtain rfl : u = Value.ref a := rx
  obtain ⟨t1, t2, _⟩ := isD_at I1 d
  refine ⟨t1, t2, ?_⟩
  rw [m.trees]
  refine Calls.callWith_builtin rfl (Calls.evalArgs_plain (Calls.spliced_cons (thn (he pins s1 σ H1 _ I1 q1) fun iv s2 ⟨y, H2, I2, ry, q2⟩ =>
    Calls.spliced_cons (thn (hf pins s2 σ H2 _ I2 q2) fun fv s3 ⟨z, H3, I3, rz, ov, g, q3⟩ => Calls.spliced_nil ?_))))
  exact d_get2 hu I3 g ry rz fun w' s4 I4 rw' => ⟨_, H3, I4, rw', q3⟩
end

/-! ### dict(d): a copy -/
section
variable {X : Cx} {pins : List (Addr × Obj)} {σ : St} {H : Hp} {s : Shared} {a : Addr} {kvs : List (Key × V)} {A : Around} {E : Value → Shared → Prop}
end


section
variable {X : Cx} {pins : List (Addr × Obj)} {σ : St} {H : Hp} {s : Shared} {a : Addr} {y : V} {u : Value} {A : Around} {E : Value → Shared → Prop}
end
end L2

namespace L2
open PySem PySem.Spec PyProof.Rows

section
variable {prog : Program} {w : World} {A : Around} {E : Value → Shared → Prop}
end

section
variable {X : Cx}
end
end L2

namespace L2
open PySem PySem.Spec PyProof.Rows

theorem boot_reversed5 : bootBuiltins "reversed" = some (.type "reversed") := by decide +kernel

section
variable {X : Cx} {pins : List (Addr × Obj)} {σ : St} {H : Hp} {s : Shared} {h' : Heap}
/-! ### locking a thing while a statement runs -/
end
section
variable {X : Cx}
/-! ### one iterator just laid -/
theorem pi_one {tg : Expr} {pins : List (Addr × Obj)} {σ : St} {H : Hp} {s : Shared} {R : It → Hp → Prop} {J : It} {tn : Nat → Heap → Prop} {tk : Nat} (I : Inv X pins σ H s) (o : Obj)
    (T : Turn X.prog X.w X.K tg J [s.heap.objs.size] s.heap.objs.size tn) (st : tn 0 (s.heap.push o)) (q : R J H) : PIE X pins σ tg R (.ref s.heap.objs.size) { s with heap := s.heap.push o, toks := tk } := by
  refine ⟨s.heap.objs.size, [s.heap.objs.size], tn, J, H, rfl, I.kept fun b ob e => Heap.get?_push_of_some _ e, T, st, fun b hb => ?_, q⟩
  have e : b = s.heap.objs.size := by simpa using hb
  subst e
  exact I.fpOk (Nat.le_refl _) (I.hok.fresh (Nat.le_refl _))
end

/-! ### range with a step -/
/-- lo, lo + c, .. (n of them) -/
def Itc (lo c : Int) (n : Nat) : It := ⟨fun i _ => i < n, fun i H x H' => H' = H ∧ x = .int (lo + (i : Nat) * c), fun i _ => n ≤ i⟩
theorem turn_rangeC {P : Program} {w : World} {K : PySem.W.Frag} {tg : Expr} (it : Addr) (lo c : Int) (n : Nat) : Turn P w K tg (Itc lo c n) [it] it (fun i h => IsRangeIter h it (lo + (i : Nat) * c) ((n : Int) - (i : Nat)) c) where
  mem := by simp
  obj := fun i h st b hb => by
    have e : b = it := by simpa using hb
    subst e
    exact ⟨_, st, fun v z => nomatch z⟩
  keep := fun i h h' st k => k it (by simp) _ st
  item := by
    intro X hP hw hK hc i pins s σ H E I hf st hg
    subst hP hw hK
    obtain ⟨f0, f1, f2, f3, f4, f5⟩ := hf it (by simp)
    have W := Walks.range (prog := X.prog) (w := X.w) (I.ok.hd hc) it lo c n
    refine W.item i s _ _ hg st fun v h' tk hv st' kk => ?_
    obtain ⟨t, rfl⟩ := hv
    have I1 : Inv X pins σ H { s with heap := h', toks := tk } := I.turned (fun b o hb e => kk b o (by simpa using hb) e) f0 f1 f3 f4 f5
    exact ⟨_, rfl, go_of (s := { s with heap := h', toks := tk }) (n := "range_iterator") st' rfl rfl (by decide) ⟨.int (lo + (i : Nat) * c), H, I1, ⟨t, rfl⟩, ⟨rfl, rfl⟩, st', fun b hb => (hf b hb).1⟩⟩
  done := by
    intro X hP hw hK hc i pins s σ H E I hf st hg
    subst hP hw hK
    obtain ⟨f0, f1, f2, f3, f4, f5⟩ := hf it (by simp)
    exact wpAny_pyNext_range_end (I.ok.hd hc) st (by have : n ≤ i := hg; omega) fun h' eb => ⟨rfl, I.turned (t' := s.toks) (fun b o hb e => eb b o hb e) f0 f1 f3 f4 f5⟩
  self := fun A i s Q E st h => wpAny_pyIter_rangeiter st h
/-- range(i, j, c): small bounds, n items -/
def RgC (i j c : Int) (n : Nat) : Prop := c ≠ 0 ∧ c.natAbs < 1073741824 ∧ Builtin.Range.small i j c = true ∧ Builtin.Range.rangeSize i j c = n
def iRng3 (ta : TA) : TI := fun σ H R => ta σ H fun vs H1 => ∃ (i j c : Int) (n : Nat), vs = [.int i, .int j, .int c] ∧ RgC i j c n ∧ R (Itc i c n) H1
section
variable {X : Cx} {tg : Expr}
theorem pi_range3 {a b c : Expr} {ta : TA} {p pos : Pos} (hg : Gl X "range") (hm : X.mg "range" = none) (ha : PA X [a, b, c] ta)
    (hs : starEach [a, b, c] X.env = (false, eval a X.env) :: starEach [b, c] X.env := by rfl) (hpl : (backTo pos (starEach [b, c] X.env)).any (·.1) = false := by rfl) :
    PI X tg (.Call (.Name "range" p) [a, b, c] [] pos) (iRng3 ta) := by
  intro pins s σ H R I h
  refine Call_ (ld_blt I hg hm boot_range (PyProof.Rows.callWith_type1 (thn (ha pos pins s σ H _ I h) fun us s1 ⟨vs, H1, I1, r1, q1⟩ => ?_) hs hpl))
  obtain ⟨i, j, k, n, e, ⟨c0, c1, c2, c3⟩, q⟩ := q1
  subst e
  cases r1 with
  | cons r rr =>
    cases rr with
    | cons r' rr =>
      cases rr with
      | cons r'' rr =>
        cases rr
        obtain ⟨t, rfl⟩ := r
        obtain ⟨t', rfl⟩ := r'
        obtain ⟨t'', rfl⟩ := r''
        refine call_range_3 c0 ?_ (.inl (PyProof.noPylong_small c1))
        refine wpAny_pyIter_range (IsRange.new ..) c2 ?_
        have I2 : Inv X pins σ H1 { s1 with heap := s1.heap.push { cls := .type "range", data := .fields #[.int i t, .int j t', .int k t''] } } := I1.kept (t' := s1.toks) fun b o e => Heap.get?_push_of_some _ e
        refine pi_one (tk := s1.toks) I2 _ (turn_rangeC _ i k n) ?_ q
        have e1 : i + ((0 : Nat) : Int) * k = i := by simp
        have e2 : (n : Int) - ((0 : Nat) : Int) = Builtin.Range.rangeSize i j k := by rw [c3]; simp
        show IsRangeIter _ _ (i + ((0 : Nat) : Int) * k) ((n : Int) - ((0 : Nat) : Int)) k
        rw [e1, e2]
        exact Heap.get?_push_size _ rfl
end
/-- the turns of a step range, for the for loop -/
theorem for_rangeC {lo c : Int} {n : Nat} {g : TG} {tb : TS} {D : Ends} {σ : St} {H : Hp} (Pv : Nat → St → Hp → Prop) (h0 : Pv 0 σ H)
    (hs : ∀ i σ H, i < n → Pv i σ H → g (.int (lo + (i : Nat) * c)) σ H fun σ2 H2 => tb { D with nx := Pv (i + 1), ct := Pv (i + 1), bk := D.nx } σ2 H2) (hd : ∀ σ H, Pv n σ H → D.nx σ H) :
    ∃ W : Nat → Nat → St → Hp → Prop, (∃ m, W 0 m σ H) ∧ ∀ i m σ H, W i m σ H →
      ((Itc lo c n).stop i H ∧ D.nx σ H) ∨ ((Itc lo c n).go i H ∧ ∃ N : St → Hp → Prop, (∀ σ' H', N σ' H' → ∃ m', m' < m ∧ W (i + 1) m' σ' H') ∧ ∀ x H', (Itc lo c n).yld i H x H' → g x σ H' fun σ2 H2 => tb { D with nx := N, ct := N, bk := D.nx } σ2 H2) := by
  refine ⟨fun i m σ H => m = n - i ∧ i ≤ n ∧ Pv i σ H, ⟨n, by simp, Nat.zero_le _, h0⟩, ?_⟩
  rintro i m σ H ⟨rfl, hi, p⟩
  by_cases hlt : i < n
  · refine .inr ⟨hlt, Pv (i + 1), fun σ' H' p' => ⟨n - (i + 1), by omega, rfl, hlt, p'⟩, fun x H' y => ?_⟩
    obtain ⟨e, y⟩ := y
    subst e y
    exact hs i σ _ hlt p
  · have e : i = n := by omega
    subst e
    exact .inl ⟨Nat.le_refl _, hd σ H p⟩

/-! ### reversed(list) -/
/-- the list at a (n items at the start, which the loop leaves there), from its end -/
def Itv (K : PySem.W.Frag) (a : Addr) (n : Nat) : It :=
  ⟨fun i H => i < n ∧ ∃ (xs : List V) (x : V), SqL K H a xs ∧ xs[n - 1 - i]? = some x, fun i H x H' => H' = H ∧ ∀ xs, SqL K H a xs → xs[n - 1 - i]? = some x, fun i _ => n ≤ i⟩
theorem turn_rev {P : Program} {w : World} {K : PySem.W.Frag} {tg : Expr} (a it : Addr) (n : Nat) : Turn P w K tg (Itv K a n) [it] it (fun i h => i ≤ n ∧ h.IsRevIter it a ((n : Int) - 1 - (i : Nat))) where
  mem := by simp
  obj := fun i h st b hb => by
    have e : b = it := by simpa using hb
    subst e
    obtain ⟨_, o, e, c, d⟩ := st
    exact ⟨o, e, fun v z => by rw [d] at z; cases z⟩
  keep := fun i h h' st k => ⟨st.1, st.2.at fun o e => k it (by simp) o e⟩
  item := by
    intro X hP hw hK hc i pins s σ H E I hf st hg
    subst hP hw hK
    obtain ⟨hin, xs, x, hq, hx⟩ := hg
    obtain ⟨its, rv, p, hz⟩ := I.list hq
    obtain ⟨u, hu, ru⟩ := rv.get hx
    obtain ⟨f0, f1, f2, f3, f4, f5⟩ := hf it (by simp)
    obtain ⟨_, hit⟩ := st
    have e1 : (n : Int) - 1 - ((i : Nat) : Int) = ((n - 1 - i : Nat) : Int) := by omega
    rw [e1] at hit
    refine wpAny_pyNext_rev_item hit p.isList (x := u) (by simpa using hu) fun h' st' sb => ?_
    have e2 : ((n - 1 - i : Nat) : Int) - 1 = (n : Int) - 1 - ((i + 1 : Nat) : Int) := by omega
    rw [e2] at st'
    have I1 : Inv X pins σ H { s with heap := h' } := I.turned (t' := s.toks) (fun b o hb e => (sb.2 b hb).trans e) f0 f1 f3 f4 f5
    obtain ⟨o, e, c, d⟩ := id st'
    exact ⟨u, rfl, go_of (s := { s with heap := h' }) e c d (by decide) ⟨x, H, I1, ru, ⟨rfl, fun ys hy => by rw [I.list_inj hy hq]; exact hx⟩, ⟨hin, st'⟩, fun b hb => (hf b hb).1⟩⟩
  done := by
    intro X hP hw hK hc i pins s σ H E I hf st hg
    subst hP hw hK
    obtain ⟨f0, f1, f2, f3, f4, f5⟩ := hf it (by simp)
    obtain ⟨hin, hit⟩ := st
    have hge : n ≤ i := hg
    have e1 : (n : Int) - 1 - ((i : Nat) : Int) = -1 := by omega
    rw [e1] at hit
    exact wpAny_pyNext_rev_end (I.ok.hd hc) hit fun h' eb => ⟨rfl, I.turned (t' := s.toks) (fun b o hb e => eb b o hb e) f0 f1 f3 f4 f5⟩
  self := fun A i s Q E st h => wpAny_pyIter_revIter st.2 h
def iRev (K : PySem.W.Frag) (ta : TA) : TI := fun σ H R => ta σ H fun vs H1 => ∃ (a : Addr) (xs : List V), vs = [.ref a] ∧ SqL K H1 a xs ∧ R (Itv K a xs.length) H1
section
variable {X : Cx} {tg : Expr}
theorem pi_reversed {e : Expr} {ta : TA} {p pos : Pos} (hg : Gl X "reversed") (hm : X.mg "reversed" = none) (ha : PA X [e] ta) (hs : starEach [e] X.env = [(false, eval e X.env)] := by rfl) : PI X tg (.Call (.Name "reversed" p) [e] [] pos) (iRev X.K ta) := by
  intro pins s σ H R I h
  refine Call_ (ld_blt I hg hm boot_reversed5 (PyProof.Rows.callWith_type1 (thn (ha pos pins s σ H _ I h) fun us s1 ⟨vs, H1, I1, r1, q1⟩ => ?_) hs rfl))
  obtain ⟨a, xs, e, hq, q⟩ := q1
  subst e
  cases r1 with
  | cons r rr =>
    cases rr
    cases r
    obtain ⟨its, rv, p', hz⟩ := I1.list hq
    have hl := rv.length
    have e1 : ((its.toArray.size : Nat) : Int) - 1 = (xs.length : Int) - 1 - ((0 : Nat) : Int) := by simp only [List.size_toArray]; omega
    refine call_reversed_list p'.isList (wpAny_pyIter_revIter (l := a) (i := ((its.toArray.size : Nat) : Int) - 1) ⟨_, Heap.get?_push_size _ rfl, rfl, rfl⟩ ?_)
    refine pi_one (tk := s1.toks) I1 _ (turn_rev a _ xs.length) ⟨Nat.zero_le _, ?_⟩ q
    rw [← e1]
    exact ⟨_, Heap.get?_push_size _ rfl, rfl, rfl⟩
end

/-! ### a str -/
/-! ### a dict's keys: any dict's entries -/
section
variable {prog : Program} {w : World} {A : Around} {E : Value → Shared → Prop} {s : Shared}
end

/-! ### a locked dict -/
section
variable {X : Cx} {pins : List (Addr × Obj)} {σ : St} {H : Hp} {s : Shared} {d : Addr} {o : Obj}
end

section
variable {P : Program} {w : World} {K : PySem.W.Frag} {tg : Expr} {d : Addr} {o : Obj} {es : Array DictEntry} {ep : Nat}
end

/-! ### for k in d, d.keys(), d.values(), d.items() -/
section
variable {X : Cx} {tg e : Expr} {td : TE} {apos cpos : Pos}
end

/-! ### enumerate(list) -/
/-! ### zip(list, list) -/
end L2

section 
namespace Bits
open PySem PyProof.Rows

theorem nat_and_mul_pow (k : Nat) : ∀ a b : Nat, a < 2 ^ k → a &&& (b * 2 ^ k) = 0 := by
  induction k with
  | zero =>
    intro a b h
    have h0 : a = 0 := by
      rw [Nat.pow_zero] at h
      omega
    subst h0
    simp
  | succ k ih =>
    intro a b h
    have hm : (b * 2 ^ (k + 1)) = (b * 2 ^ k) * 2 := by rw [Nat.pow_succ, Nat.mul_assoc]
    have hlt : a / 2 < 2 ^ k := by
      rw [Nat.pow_succ] at h
      generalize 2 ^ k = m at h ⊢
      omega
    have i := ih (a / 2) b hlt
    rw [hm]
    generalize b * 2 ^ k = B at i ⊢
    have e : (a &&& (B * 2)) / 2 = a / 2 &&& (B * 2) / 2 := Nat.and_div_two
    have e2 : (B * 2) / 2 = B := by omega
    have o := @Nat.and_mod_two_eq_one a (B * 2)
    rw [e2, i] at e
    omega

theorem natCast_mul_pow (m k : Nat) : (m : Int) * 2 ^ k = ((m * 2 ^ k : Nat) : Int) := by
  rw [two_pow_cast]
  first
    | exact (Int.natCast_mul _ _).symm
    | simp

/-- low bits a, high part b: (b << k) | a -/
theorem bitOr_join {a b : Int} {k : Nat} (h0 : 0 ≤ a) (h1 : a < 2 ^ k) (hb : 0 ≤ b) : Builtin.bitOr a (b * 2 ^ k) = a + b * 2 ^ k := by
  obtain ⟨n, rfl⟩ := Int.eq_ofNat_of_zero_le h0
  obtain ⟨m, rfl⟩ := Int.eq_ofNat_of_zero_le hb
  have hn : n < 2 ^ k := by
    rw [two_pow_cast] at h1
    omega
  have e : Builtin.bitAnd (n : Int) ((m * 2 ^ k : Nat) : Int) = 0 := by
    rw [bitAnd_pp (by omega) (by omega), Int.toNat_natCast, Int.toNat_natCast, nat_and_mul_pow k n m hn] <;> rfl
  rw [natCast_mul_pow, bitOr_and, e]
  omega
theorem bitOr_join' {a b : Int} {k : Nat} (h0 : 0 ≤ a) (h1 : a < 2 ^ k) (hb : 0 ≤ b) : Builtin.bitOr (b * 2 ^ k) a = a + b * 2 ^ k := by
  rw [bitOr_comm]
  exact bitOr_join h0 h1 hb

/-- x & ((1 << k) - 1) -/
theorem bitAnd_mask {x : Int} (k : Nat) (hx : 0 ≤ x) : Builtin.bitAnd x (2 ^ k - 1) = x % 2 ^ k := by
  obtain ⟨n, rfl⟩ := Int.eq_ofNat_of_zero_le hx
  have hp : 0 < 2 ^ k := Nat.two_pow_pos k
  rw [two_pow_cast]
  have e : ((2 ^ k : Nat) : Int) - 1 = ((2 ^ k - 1 : Nat) : Int) := by
    generalize (2 : Nat) ^ k = m at hp
    omega
  rw [e, bitAnd_pp (by omega) (by omega), Int.toNat_natCast, Int.toNat_natCast, Nat.and_two_pow_sub_one_eq_mod]
  first
    | rfl
    | exact Int.natCast_emod _ _
    | simp

theorem nat_xor_add_and (m : Nat) : ∀ n : Nat, (m ^^^ n) + 2 * (m &&& n) = m + n := by
  induction m using Nat.strongRecOn with
  | _ m ih =>
    intro n
    by_cases h0 : m = 0
    · subst h0
      simp
    · have ih' := ih (m / 2) (by omega) (n / 2)
      rw [← Nat.xor_div_two, ← Nat.and_div_two] at ih'
      have o1 := @Nat.xor_mod_two_eq_one m n
      have a1 := @Nat.and_mod_two_eq_one m n
      omega

theorem bitXor_pp {x y : Int} (hx : 0 ≤ x) (hy : 0 ≤ y) : Builtin.bitXor x y = ((x.toNat ^^^ y.toNat : Nat) : Int) := by
  have e := nat_xor_add_and x.toNat y.toNat
  rw [bitXor_and, bitAnd_pp hx hy]
  omega
end Bits
end 

section 
namespace TL
open PySem PySem.Builtin PySem.Builtin.Str PySem.StrLaws

abbrev tl (x : Str) : List Nat := x.cps.toList
theorem len_tl (x : Str) : x.length = (tl x).length := by simp [tl, Str.length]
theorem ext_tl {x y : Str} (h : tl x = tl y) : x = y := Str.ext' (Array.toList_inj.mp h)
theorem tl_append (x y : Str) : tl (x ++ y) = tl x ++ tl y := by
  show (x ++ y).cps.toList = _
  rw [Str.cps_append, Array.toList_append]
theorem tl_ofString (s : String) : tl (Str.ofString s) = s.toList.map Char.toNat := PyProof.Rows.signs_ofString s

/-! ### the list functions -/
/-! ### the model's split and partition are these -/
/-! ### computing spl and par -/
/-- joined lists -/
def joinL (S : List Nat) : List (List Nat) → List Nat
  | [] => []
  | [p] => p
  | p :: q :: r => p ++ (S ++ joinL S (q :: r))
theorem tl_join (y : Str) : ∀ parts : List Str, tl (Str.join y parts) = joinL (tl y) (parts.map tl)
  | [] => rfl
  | [_] => rfl
  | x :: z :: r => by
    show tl (x ++ y ++ Str.join y (z :: r)) = tl x ++ (tl y ++ joinL (tl y) ((z :: r).map tl))
    rw [tl_append, tl_append, tl_join y (z :: r), List.append_assoc]
theorem join_eq (y : Str) (parts : List Str) : Txt.join y parts = Str.join y parts := glued_eq_join y parts
/-! ### digits -/
/-! ### words: x.split() -/
end TL
end 

namespace L2
open PySem PySem.Spec PyProof.Rows

theorem strs_of_vals : ∀ {ys : List Str} {us : List Value}, Vals (ys.map V.str) us → StrsAre us ys
  | [], _, .nil => .nil
  | y :: ys, _, .cons r t => by
    obtain ⟨k, rfl⟩ := r
    exact .cons y k (strs_of_vals t)

section
variable {X : Cx} {pins : List (Addr × Obj)} {σ : St} {H : Hp} {s : Shared} {Q : VK}
end

section
variable {X : Cx}

/-- sep.join(a list | a tuple of texts) -/
theorem mt_join : MtR X "str.join" (fun x xs H Q => ∃ a p, ∃ ys : List Str, x = .str a ∧ xs = [.ref p] ∧ (SqL X.K H p (ys.map V.str) ∨ SqT X.K H p (ys.map V.str)) ∧
    (ys.map (·.length)).sum + ys.length * a.length ≤ 16777216 ∧ Q (.str (Txt.join a ys)) H) := by
  intro pins s σ H x xs v us Q I rx rs h
  obtain ⟨a, p, ys, rfl, rfl, hp, hz, h⟩ := h
  obtain ⟨t, rfl⟩ := rx
  cases rs with
  | cons r1 rs =>
    cases rs
    cases r1
    rcases hp with hp | hp
    · obtain ⟨its, r, ⟨o, n, ho, hc, _, hd⟩, _⟩ := I.list hp
      exact PyProof.Rows.join_list (items := its.toArray) ⟨o, ho, hc, n, hd⟩ (by rw [List.toList_toArray]; exact strs_of_vals r) hz fun t' k => ⟨.str _, H, I.tok k, ⟨t', rfl⟩, h⟩
    · obtain ⟨its, r, ht, _⟩ := I.tuple hp
      exact PyProof.Rows.join_tuple (items := its.toArray) ht (by rw [List.toList_toArray]; exact strs_of_vals r) hz fun t' k => ⟨.str _, H, I.tok k, ⟨t', rfl⟩, h⟩

/-! ### of a text alone -/
/-! ### of a text and a text -/
end

section
variable {X : Cx} {o e : Expr} {to te : TE}
def tM1 (r : V → List V → Hp → VK → Prop) (to te : TE) : TE := fun σ H Q => to σ H fun x H1 => (∃ a, x = .str a) ∧ te σ H1 fun y H2 => r x [y] H2 Q
theorem pe_m1 {id : String} {name : Str} {apos pos : Pos} {r : V → List V → Hp → VK → Prop} (slot : Slot "str" name id) (ty : typeOf (.builtin id) = pure (.type "method_descriptor")) (rule : MtR X id r) (ho : PE X o to) (he : PE X e te)
    (hs : starEach [e] X.env = [(false, eval e X.env)] := by rfl) (hbase : attributeBase o name X.env (eval o X.env) = eval o X.env := by rfl) (hline : (apos.endLine == pos.line) = true := by rfl) :
    PE X (.Call (.Attribute o name apos) [e] [] pos) (tM1 r to te) := by
  intro pins s σ H Q I h
  refine PySem.Call_method1 hbase hs hline (thn (ho pins s σ H _ I h) fun v s1 ⟨x, H1, I1, r1, q1⟩ => ?_)
  obtain ⟨⟨a, rfl⟩, q1⟩ := q1
  obtain ⟨t, rfl⟩ := _root_.id r1
  refine ⟨"str", _, F.plainAttrs_str, slot, ty, typeIs_str _ _ _, (fun _ e => nomatch e), Calls.callWith_builtin rfl (Calls.evalArgs_plain (Calls.spliced_cons ?_))⟩
  exact thn (he pins s1 σ H1 _ I1 q1) fun u s2 ⟨y, H2, I2, r2, q2⟩ => Calls.spliced_nil (rule pins s2 σ H2 _ [y] _ [u] Q I2 r1 (.cons r2 .nil) q2)

theorem pe_join {apos pos : Pos} (ho : PE X o to) (he : PE X e te) (hs : starEach [e] X.env = [(false, eval e X.env)] := by rfl) (hbase : attributeBase o "join" X.env (eval o X.env) = eval o X.env := by rfl) (hline : (apos.endLine == pos.line) = true := by rfl) :
    PE X (.Call (.Attribute o "join" apos) [e] [] pos) (tM1 (fun x xs H Q => ∃ a p, ∃ ys : List Str, x = .str a ∧ xs = [.ref p] ∧ (SqL X.K H p (ys.map V.str) ∨ SqT X.K H p (ys.map V.str)) ∧
      (ys.map (·.length)).sum + ys.length * a.length ≤ 16777216 ∧ Q (.str (Txt.join a ys)) H) to te) :=
  pe_m1 F.slot_str_join F.type_str_join mt_join ho he hs hbase hline
end
end L2

namespace L2
open PySem PySem.Spec PyProof.Rows

section
variable {X : Cx}
end

/-! ### slices of a text -/
theorem IsPart.raw {v : Value} {o : Option Int} (p : IsPart v o) : ∃ l : Option (Int × Tok), v = partValue l ∧ l.map (·.1) = o := by
  cases p with
  | none => exact ⟨none, rfl, rfl⟩
  | int i t => exact ⟨some (i, t), rfl, rfl⟩

/-- a part, clipped, as the text's slice reckons it -/
def clipS (n d : Nat) : Option Int → Int
  | none => (d : Int)
  | some i => max 0 (min (if i < 0 then i + (n : Int) else i) (n : Int))
theorem clipS_eq (n d : Nat) (o : Option Int) : clipS n d o = ((HT.sIx n d o : Nat) : Int) := by
  cases o with
  | none => rfl
  | some v =>
    show max (0 : Int) (min (if v < 0 then v + (n : Int) else v) (n : Int)) = (((if v < 0 then (v + (n : Int)).toNat else min v.toNat n) : Nat) : Int)
    by_cases hv : v < 0
    · simp only [if_pos hv]
      omega
    · simp only [if_neg hv]
      omega
theorem sidx_clip (a b : Option Int) (n : Nat) : Builtin.Str.strSliceIndices a b 1 n = sliceRange (clipS n 0 a) (clipS n n b) 1 := by
  have h1 : ((1 : Int) > 0) = True := by simp
  cases a <;> cases b <;> first
    | rfl
    | (simp only [Builtin.Str.strSliceIndices, clipS, h1, if_true]; rfl)
    | simp [Builtin.Str.strSliceIndices, clipS]
theorem sidx (a b : Option Int) (n : Nat) : Builtin.Str.strSliceIndices a b 1 n = (List.range (HT.sIx n n b - HT.sIx n 0 a)).map (fun k => HT.sIx n 0 a + k) := by
  rw [sidx_clip, clipS_eq, clipS_eq]
  generalize HT.sIx n 0 a = p
  generalize HT.sIx n n b = q
  simp only [sliceRange, show ((1 : Int) > 0) = True from by simp, if_true]
  by_cases hlt : (p : Int) < q
  · have e3 : (((q : Int) - p + 1 - 1) / 1).toNat = q - p := by first | omega | (simp; done) | (simp; omega)
    simp only [hlt, if_true, e3]
    refine List.map_congr_left fun k _ => ?_
    omega
  · have : q - p = 0 := by omega
    simp [hlt, this]

/-- z[lo:hi] -/
def cutS (z : Str) (lo hi : Option Int) : Str :=
  ⟨((z.cps.toList.drop (HT.sIx z.length 0 lo)).take (HT.sIx z.length z.length hi - HT.sIx z.length 0 lo)).toArray⟩
theorem sliceText_cut (z : Str) (lo hi : Option Int) : PySem.StrLaws.sliceText z lo hi = cutS z lo hi := by
  have h1 : HT.sIx z.length 0 lo ≤ z.length := HT.sIx_le _ _ (Nat.zero_le _) _
  have h2 : HT.sIx z.length z.length hi ≤ z.length := HT.sIx_le _ _ (Nat.le_refl _) _
  have hp : HT.sIx z.length 0 lo ≤ max (HT.sIx z.length 0 lo) (HT.sIx z.length z.length hi) := Nat.le_max_left _ _
  have hq : max (HT.sIx z.length 0 lo) (HT.sIx z.length z.length hi) ≤ z.length := Nat.max_le.mpr ⟨h1, h2⟩
  have hd : max (HT.sIx z.length 0 lo) (HT.sIx z.length z.length hi) - HT.sIx z.length 0 lo = HT.sIx z.length z.length hi - HT.sIx z.length 0 lo := by omega
  have e : Builtin.Str.strSliceIndices lo hi 1 z.length =
      Builtin.Str.strSliceIndices (some ((HT.sIx z.length 0 lo : Nat) : Int)) (some ((max (HT.sIx z.length 0 lo) (HT.sIx z.length z.length hi) : Nat) : Int)) 1 z.length := by
    rw [PySem.StrLaws.strSliceIndices_plain hp hq, hd, sidx]
  have e2 : PySem.StrLaws.sliceText z lo hi =
      PySem.StrLaws.sliceText z (some ((HT.sIx z.length 0 lo : Nat) : Int)) (some ((max (HT.sIx z.length 0 lo) (HT.sIx z.length z.length hi) : Nat) : Int)) := by
    unfold PySem.StrLaws.sliceText
    rw [e]
  rw [e2, PySem.StrLaws.sliceText_nat z hp hq, hd]
  rfl
theorem cutS_length (z : Str) (lo hi : Option Int) : (cutS z lo hi).length ≤ z.length := by
  show (((z.cps.toList.drop (HT.sIx z.length 0 lo)).take (HT.sIx z.length z.length hi - HT.sIx z.length 0 lo)).toArray).size ≤ z.cps.size
  rw [List.size_toArray, List.length_take, List.length_drop, Array.length_toList]
  omega
def rSlS : V → Option Int → Option Int → Hp → VK → Prop := fun x lo hi H Q => ∃ z, x = .str z ∧ z.length ≤ sizeLine ∧ Q (.str (cutS z lo hi)) H
theorem sl_str {X : Cx} : SlR X rSlS := by
  intro pins s σ H x v vl vu lo hi sl Q I rx hs pl pu h
  obtain ⟨z, rfl, hz, q⟩ := h
  obtain ⟨t, rfl⟩ := rx
  obtain ⟨os, hos, hcs, hds⟩ := hs
  obtain ⟨l, rfl, rfl⟩ := IsPart.raw pl
  obtain ⟨u, rfl, rfl⟩ := IsPart.raw pu
  refine ⟨"str", _, F.slot_str_getitem.lookup, typeIs_str _ _ _, ?_⟩
  refine wpAny_getItem_str_slice (l := l) (u := u) (st := none) ⟨os, hos, hcs, hds⟩ rfl ?_
  have hl : (PySem.StrLaws.sliceText z (l.map (·.1)) (u.map (·.1))).length ≤ sizeLine := by
    rw [sliceText_cut]
    exact Nat.le_trans (cutS_length z _ _) hz
  rw [← sliceText_cut] at q
  unfold PySem.StrLaws.sliceText at q hl
  show Made.post (if ((1 : Int) == 1 && (Builtin.Str.strSliceIndices (l.map (·.1)) (u.map (·.1)) 1 z.length).length == z.length) = true then Made.val (.str z t)
    else Made.str ⟨((Builtin.Str.strSliceIndices (l.map (·.1)) (u.map (·.1)) 1 z.length).filterMap (z.cps[·]?)).toArray⟩) (EP X pins σ Q) s
  by_cases c : ((1 : Int) == 1 && (Builtin.Str.strSliceIndices (l.map (·.1)) (u.map (·.1)) 1 z.length).length == z.length) = true
  · rw [if_pos c] at q ⊢
    exact ⟨.str z, H, I, ⟨t, rfl⟩, q⟩
  · rw [if_neg c] at q hl ⊢
    exact ⟨hl, .str _, H, I.tok _, ⟨_, rfl⟩, q⟩
end L2

namespace Att
open PySem PySem.W PySem.Calls PyProof.Rows

/-! ### the script -/
theorem ints_of_wellAll {P : Params} {h : Heap} : ∀ (ns : List Int) (vs : List Value), WellAll P h vs (ns.map WData.int) → IntsAre vs ns := by
  intro ns
  induction ns with
  | nil =>
    intro vs w
    rw [List.map_nil] at w
    cases w
    exact .nil
  | cons n ns ih =>
    intro vs w
    rw [List.map_cons] at w
    cases w with
    | cons a b =>
      cases a
      exact .cons _ _ (ih _ b)

/-! ### the attachment: holds_open's last premise (the goal 'hc' behind k_head) from a wpAny of the law's body -/
/-! ### rules over ANY heap (no ledger) from facts about the written part K: the library's own take a ledger (News) for what they write -/
section
variable {prog : Program} {w : World} {A : Around} {E : Value → Shared → Prop} {s : Shared} {K : Frag}

/-! the whole heap as the ledger: makes every rule that writes through a ledger a rule over any heap -/
end
end Att

namespace L2
open PySem PySem.Spec PyProof.Rows

theorem vals_ints : ∀ {vs : List Value} {ns : List Int}, IntsAre vs ns → Vals (ns.map V.int) vs
  | _, _, .nil => .nil
  | _, _, .cons n t h => .cons ⟨t, rfl⟩ (vals_ints h)

/-- nothing is tracked but the script, known to the object (or it is an object of the module) -/
def Only (H : Hp) : Prop := ∀ b, H b = none ∨ ∃ o xs, H b = some (.frz o (.lst xs))

end L2

namespace L2
open PySem PySem.Spec PyProof.Rows

end L2

/- THE LAST THEOREM (shape; LID, My.* are yours):
   My.Adr: a structure of the addresses that your layer names (classes, functions); My.Txt K t: a structure (Prop) of the equations over K;
   My.txt_mk : {K} {implicit addresses ..} (e1 : nsIn K mainGlobals "law" = some (some (.ref f))) (e2 : K.lookup f = some ⟨oc, od, .func (fnOf "law" "law" params body scope dV kV doc pm an cdv ct), sl⟩) (e3 : codeIn K cdv "law" = true) .. : ∃ t, My.Txt K t

set_option maxRecDepth 100000 in
set_option maxHeartbeats 0 in
theorem PySem.Challenge.cw_LID_holds : PySem.Challenge.rw_LID.Holds := by
  w_on; o_law; k_head; (case hw => w_witness2)
  k_fill
  refine L2.walk_of (l := PySem.Challenge.rw_LID) (n := 63) (k := 40) (x := "script") (CX := fun w => ..) (sp := fun _ => My.sp_law) rfl (by decide) rfl ⟨rfl, by decide, by decide⟩ (fun w h Y => PySem.W.kIn_of Y) ?F ?S ?C
  case F =>
    intro w mg fa h KX G hmg
    have T : ∃ t, My.Txt (L2.KOf KX) t := by
      dsimp only [L2.KOf]                          -- K must stand as «<heap const> w.params» for k_is
      refine' My.txt_mk ?e1 ?e2 ?e3 ..
      (case e1 => PySem.W.k_is)                    -- in the order: a name -> its address -> its object -> its parts
      (case e2 => PySem.W.k_is)
      ..
    obtain ⟨t, T⟩ := T
    have e0 := hmg.symm.trans (PySem.W.mg_of KX G T.law)
    cases e0                                       -- fa is the law's own address
    exact ⟨_, fun s u => .of_eq rfl, fun base kb nb => My.law_fn T kb nb⟩     -- if «.of_eq rfl» comes too early: refine' ⟨_, ?b, fun base kb nb => My.law_fn T kb nb⟩; exact fun s u => .of_eq rfl
  case S => exact fun w H a ns hl hO hS => ..
  case C => exact ..
(the tactic k_is has no namespace: write k_is) -/

/-! SHORT WORDS over the layer: a def of the text, its body, what a loop and a test want. -/
namespace L2
open PySem PySem.Spec PyProof.Rows

/-! ### the text by places -/
/-- the j-th statement of a class's body -/
def inClass (s : Stmt) (j : Nat) : Stmt := match s with
  | .ClassDef _ _ _ body _ _ _ _ _ _ _ => body.getD j (.Pass ⟨0, 0, 0, 0⟩)
  | _ => .Pass ⟨0, 0, 0, 0⟩
def defArgs (s : Stmt) : Arguments := match s with
  | .FunctionDef _ a _ _ _ _ _ _ _ _ => a
  | _ => { posonlyargs := [], args := [], vararg := none, kwonlyargs := [], kw_defaults := [], kwarg := none, defaults := [] }
def defBody (s : Stmt) : List Stmt := match s with
  | .FunctionDef _ _ b _ _ _ _ _ _ _ => b
  | _ => []
def defScope (s : Stmt) : Scope := match s with
  | .FunctionDef _ _ _ _ _ _ sc _ _ _ => sc
  | _ => { kind := .function, names := [], isGenerator := false, isCoroutine := false }

/-! ### no exception leaves a def -/
abbrev CX0 : CXT := fun _ _ _ _ _ _ => False
abbrev E0 : XK := fun _ _ _ => False
theorem pass0 {X : Cx} : Passes CX0 X E0 := fun _ _ _ _ _ _ _ h => h.elim

/-! ### a def (or method) of the text as it stands behind the top -/
structure Fun (K : PySem.W.Frag) (x qual : Str) (st : Stmt) (f : Addr) (fd : FuncData) : Prop where
  ex : ∃ (oc : Value) (od : Option Addr) (kV doc pm : Value) (an : Option Addr) (cdv ct : Value) (osl : Array (Option Value)),
    fd = PySem.W.fnOf x qual (defArgs st) (defBody st) (defScope st) .none kV doc pm an cdv ct ∧ K.lookup f = some ⟨oc, od, .func fd, osl⟩ ∧ PySem.W.codeIn K cdv qual = true
  kp : PySem.W.keepIn K (.ref f) = true
section
variable {P : Program} {w : World} {K : PySem.W.Frag} {mg : Str → Option Value} {base : Heap}
/-- THE RULE for a def: its body as a term of rules, and the reading of that term -/
theorem Fun.ok {x qual : Str} {st : Stmt} {f : Addr} {fd : FuncData} {N ps : List Str} {k : Nat} {sp : Sp} (F : Fun K x qual st f fd) (S : FnScope N ps (defScope st)) (len : ∀ vs H Q E, sp vs H Q E → vs.length = ps.length)
    (hbody : ∀ (cdv : Value) (A : Around) (outer : List Env) (s : Shared) (H : Hp) (vs : List V) (Q : VK) (E : XK), Room k (A.deeper (envOfC qual (defScope st) s.heap.objs.size f cdv)) → sp vs H Q E →
      ∃ t, PSs (cxOf CX0 P w K mg base N qual (defScope st) f cdv A outer s H E).nox (defBody st) t ∧ t { nx := fun _ H' => Q .non H', rt := Q } (start N vs) H) : FnOk P w K mg base CX0 (k + 1) f fd ps sp := by
  obtain ⟨oc, od, kV, doc, pm, an, cdv, ct, osl, rfl, lk, hcd⟩ := F.ex
  refine fn_of lk hcd S len fun A outer s H vs Q E hr hsp => ?_
  obtain ⟨t, h, q⟩ := hbody cdv A outer s H vs Q E hr hsp
  exact ⟨t, h.nox, q⟩
/-- how its arguments bind (no defaults): h is «fun _ _ _ _ _ _ us hl => match us, hl with | [_, _], _ => rfl», one _ a parameter -/
theorem Fun.binds {x qual : Str} {st : Stmt} {f : Addr} {fd : FuncData} {ps : List Str} (F : Fun K x qual st f fd)
    (h : ∀ (kV doc pm : Value) (an : Option Addr) (cdv ct : Value) (us : List Value), us.length = ps.length → bindArgs (PySem.W.fnOf x qual (defArgs st) (defBody st) (defScope st) .none kV doc pm an cdv ct) ⟨us, []⟩ = pure (ps.zip us)) : Binds K fd ps [] := by
  obtain ⟨oc, od, kV, doc, pm, an, cdv, ct, osl, rfl, lk, hcd⟩ := F.ex
  exact .all (h kV doc pm an cdv ct)
theorem fun_mk {x qual : Str} {st : Stmt} {f : Addr} {oc : Value} {od an : Option Addr} {osl : Array (Option Value)} {kV doc pm cdv ct : Value} (l : K.lookup f = some ⟨oc, od, .func (PySem.W.fnOf x qual (defArgs st) (defBody st) (defScope st) .none kV doc pm an cdv ct), osl⟩)
    (c : PySem.W.codeIn K cdv qual = true) (k : PySem.W.keepIn K (.ref f) = true) : Fun K x qual st f (PySem.W.fnOf x qual (defArgs st) (defBody st) (defScope st) .none kV doc pm an cdv ct) := ⟨⟨oc, od, kV, doc, pm, an, cdv, ct, osl, rfl, l, c⟩, k⟩
end
theorem hu_of {A : Around} {k : Nat} (hr : Room k A) : A.units + 1 < cLine := Nat.lt_of_le_of_lt (Nat.add_le_add_left (by decide : 1 ≤ 64) _) hr.units
/-! ### expressions in short: the name that stands in the i-th slot -/
section
variable {X : Cx}
theorem pv (i : Nat) {x : Str} {pos : Pos} (hN : X.N[i]? = some x := by rfl) (hv : Vis X.env.scope x := by first | exact Or.inl rfl | exact Or.inr (Or.inl rfl) | exact Or.inr (Or.inr rfl)) (hd : (x == ("__debug__" : Str)) = false := by decide)
    (hcd : (x == ("__classdict__" : Str)) = false := by decide) : PE X (.Name x pos) (tVar i) := pe_var hN hv hd hcd
end

/-! ### tests -/
theorem iteF {A B : Prop} (h : B) : if false = true then A else B := by
  rw [if_neg Bool.false_ne_true]
  exact h
theorem iteT {A B : Prop} (h : A) : if true = true then A else B := by
  rw [if_pos rfl]
  exact h
theorem ite2 {c A B : Prop} [Decidable c] (h1 : c → A) (h2 : ¬ c → B) : if c then A else B := by
  by_cases h : c
  · rw [if_pos h]
    exact h1 h
  · rw [if_neg h]
    exact h2 h
/-! ### heaps -/
/-- all that was tracked is as it was -/
def Same (H H' : Hp) : Prop := ∀ b o, H b = some o → H' b = some o
theorem Same.refl (H : Hp) : Same H H := fun _ _ h => h
theorem Same.trans {H H1 H2 : Hp} (a : Same H H1) (b : Same H1 H2) : Same H H2 := fun c o h => b c o (a c o h)
theorem Same.free {H H' : Hp} (e : Same H H') {l : Addr} (h : H' l = Option.none) : H l = Option.none := by
  cases q : H l with
  | none => rfl
  | some o =>
    rw [e l o q] at h
    cases h
theorem Same.seq {K : PySem.W.Frag} {H H' : Hp} {a : Addr} {xs : List V} (e : Same H H') (h : SqL K H a xs) : SqL K H' a xs := by
  rcases h with (h | ⟨o, h⟩) | h
  · exact .inl (.inl (e _ _ h))
  · exact .inl (.inr ⟨o, e _ _ h⟩)
  · exact .inr h

/-! ### a dict's pairs: keys that differ -/
section
variable {κ : Type} [DecidableEq κ]
end
/-! ### lists -/
theorem at_of {xs : List V} {z : Int} {j : Nat} {v : V} (e : z = (j : Int)) (h : xs[j]? = some v) : atI xs z = some v := by
  rw [e]
  exact atI_nat h
end L2

/-! the head of a specification's row over the layer -/
namespace Sx
open PySem PySem.W PySem.Calls PyProof.Rows L2

theorem reads_ints {R : WRecords} {cl : Str → Option Addr} {h : Heap} : ∀ {out : List Int} {its : List Value}, Vals (out.map V.int) its → ReadsAllW R cl h its (out.map WData.int) []
  | [], its, r => by
    cases r
    exact .nil
  | n :: out, its, r => by
    cases r with
    | cons r1 r2 =>
      obtain ⟨t, rfl⟩ := r1
      have z := ReadsAllW.cons (ReadsW.int (R := R) (cl := cl) (h := h) n t) (reads_ints (R := R) (cl := cl) (h := h) r2)
      exact z

theorem spec_call {P : Program} {w : World} {K : PySem.W.Frag} {mg mb : Str → Option Value} {k : Nat} {fa a : Addr} {fd : FuncData} {ps : List Str} {sp : Sp} {s₁ : Shared} {ws us : List Value} {vs : List V} {ns out : List Int}
    (KX : K.In s₁.heap) (hns : s₁.heap.Ns mainGlobals mg) (hb : s₁.heap.Ns builtinsNs mb) (hbb : ∀ x : Str, x ≠ "__name__" → mb x = bootBuiltins x) (hlim : s₁.heap.NoLimit) (hg : s₁.gens = #[])
    (ha : s₁.heap.get? a = some { cls := .type "list", data := .seq ws.toArray }) (hi : IntsAre ws ns) (hl : ns.length ≤ sizeLine) (hr : Room k callerA)
    (F : ∀ base : Heap, K.In base → base.Ns mainGlobals mg → FnOk P w K mg base CX0 k fa fd ps sp) (hbind : BindsTo s₁ fd ⟨us, []⟩ (ps.zip us)) (hv : Vals vs us)
    (hsp : ∀ H : Hp, Only H → SqL K H a (ns.map V.int) → sp vs H (fun v H' => ∃ l, v = .ref l ∧ H' l = some (.lst (out.map V.int))) fun _ _ _ => False) :
    codeAny (model P w) callerA (.call (.ref fa) ⟨us, []⟩) (fun r s' => ∃ (l : Addr) (its : List Value) (n : Nat), r = .ok (.ret (.ref l)) ∧ s'.heap.get? l = some { cls := .type "list", data := .seq its.toArray n } ∧ Vals (out.map V.int) its ∧ OldK s₁.heap s'.heap ∧ s'.os = s₁.os ∧ AllBare s'.gens) s₁ := by
  have rv := vals_ints hi
  have lenV := hi.length
  have core : ∀ H : Hp, Only H → SqL K H a (ns.map V.int) → HOk P w H s₁.heap → (∀ b, H b ≠ none → b = a) → (H a ≠ none → K.lookup a = none) →
      codeAny (model P w) callerA (.call (.ref fa) ⟨us, []⟩) (fun r s' => ∃ (l : Addr) (its : List Value) (n : Nat), r = .ok (.ret (.ref l)) ∧ s'.heap.get? l = some { cls := .type "list", data := .seq its.toArray n } ∧ Vals (out.map V.int) its ∧ OldK s₁.heap s'.heap ∧ s'.os = s₁.os ∧ AllBare s'.gens) s₁ := by
    intro H hO hS hok hA hK
    have base_of : ∀ {b : Addr} {o : Obj}, s₁.heap.get? b = some o → H b = none → (hidT s₁.heap H).get? b = some o := fun e n => hidT_get e n
    have noA : ∀ {b : Addr} {o : Obj} {es : Array DictEntry} {ep : Nat}, s₁.heap.get? b = some o → o.data = .dict es ep → H b = none := fun {b o es ep} e d => by
      cases q : H b with
      | none => rfl
      | some u =>
        have e' : b = a := hA b (by rw [q]; simp)
        subst e'
        rw [ha] at e; cases e
        have d' : Data.seq ws.toArray _ = Data.dict es ep := d
        cases d'
    have nsK : ∀ {b : Addr} {m : Str → Option Value}, s₁.heap.Ns b m → (hidT s₁.heap H).Ns b m := fun {b m} ⟨o, es, ep, e, d, r⟩ => ⟨o, es, ep, base_of e (noA e d), d, r⟩
    have hKb : K.In (hidT s₁.heap H) := fun b o e => base_of (KX b o e) (by
      cases q : H b with
      | none => rfl
      | some u =>
        have e' : b = a := hA b (by rw [q]; simp)
        subst e'
        rw [hK (by rw [q]; simp)] at e; cases e)
    have hM : Mod K mg (hidT s₁.heap H) := ⟨hKb, nsK hns, ⟨mb, nsK hb, hbb⟩, let ⟨mc, h1, h2⟩ := hlim; ⟨mc, nsK h1, h2⟩⟩
    have e0 : Env0 P w K mg (hidT s₁.heap H) callerA [] s₁ H := ⟨rfl, hM, fun b o e => of_hidT e, Nat.le_of_eq (hidT_size _ _), trivial, fun b hb => absurd (show b ∈ ([] : List Addr) from hb) (by simp), hok, .of_eq hg⟩
    refine codeAny_mono ((F _ hKb (nsK hns)).run callerA [] s₁ H ⟨us, []⟩ us vs _ _ hr e0 hbind hv (hsp H hO hS)) fun r s' h => ?_
    cases r with
    | error e => exact False.elim h
    | ok fl =>
      cases fl with
      | next => exact False.elim h
      | brk => exact False.elim h
      | cont => exact False.elim h
      | ret u =>
        obtain ⟨v, H', os, bare, un, hok', r', q⟩ := h
        obtain ⟨l, rfl, hl'⟩ := q
        obtain rfl : u = Value.ref l := r'
        obtain ⟨_, its, n, hv', hget⟩ := hok' l _ hl'
        refine ⟨l, its, n, rfl, hget, hv', OldK.of_keep fun b o e => ?_, os, bare⟩
        cases q : H b with
        | none => exact un.keep b o e q (by intro z; exact absurd (show b ∈ ([] : List Addr) from z) (by simp)) (by simp)
        | some u =>
          rcases hO b with z | ⟨ob, xs, z⟩
          · rw [q] at z; cases z
          · have z2 := un.frzs b ob _ z
            obtain ⟨e1, _⟩ := hok b _ z
            obtain ⟨e2, _⟩ := hok' b _ z2
            rw [e] at e1; cases e1
            exact e2
  cases hk : K.lookup a with
  | some o =>
    have e := KX a o hk
    rw [ha] at e
    cases e
    refine core (fun _ => none) (fun _ => .inl rfl) (.inr ⟨_, ws.toArray, _, hk, rfl, rfl, rfl, by rw [List.size_toArray, lenV]; exact hl, by simpa using rv⟩) (fun b u z => by have z' : (none : Option HO) = some u := z; cases z') (fun b z => absurd rfl z) fun z => absurd rfl z
  | none =>
    refine core (fun b => if b = a then some (.frz { cls := .type "list", data := .seq ws.toArray } (.lst (ns.map V.int))) else none) (fun b => ?_) (.inl (.inr ⟨{ cls := .type "list", data := .seq ws.toArray }, if_pos rfl⟩)) (fun b u z => ?_) (fun b z => ?_) fun _ => hk
    · by_cases hb : b = a
      · exact .inr ⟨_, _, if_pos hb⟩
      · exact .inl (if_neg hb)
    · by_cases hb : b = a
      · have z' := (if_pos hb).symm.trans z
        cases z'
        subst hb
        exact ⟨ha, by rw [List.length_map]; exact hl, ws, _, rv, ha⟩
      · have z' := (if_neg hb).symm.trans z
        cases z'
    · by_cases hb : b = a
      · exact hb
      · exact absurd (if_neg hb) z

/-- the answer, as the row asks it -/
theorem good_of {r : OpenSpec} (said : r.wellSaid = true) {a : Codec.denoteAll r.args} (hw : Codec.withinAll r.args a = true) {cl : Str → Option Addr} {mean : ExcName → Option Value} {s₁ s' : Shared} {res : Result} {out : List Int} {l : Addr} {its : List Value} {n : Nat}
    (he : WData.list (out.map WData.int) = r.ret.enc (Codec.app r.args r.f a)) (h1 : res = .ok (.ret (.ref l))) (h2 : s'.heap.get? l = some { cls := .type "list", data := .seq its.toArray n }) (h3 : Vals (out.map V.int) its) (h4 : OldK s₁.heap s'.heap) (h5 : s'.os = s₁.os) (h6 : AllBare s'.gens) :
    GoodWG r.claim cl mean (Codec.encAll r.args a) s₁ res s' := by
  refine ⟨.inl ⟨.ref l, .list (out.map WData.int), [l], h1, fun _ => rfl, ?_, (OpenSpec.post_iff said hw _ _).mpr he, fun h => by cases h⟩, h4, h5, h6⟩
  have z := reads_ints (R := r.claim.records) (cl := cl) (h := s'.heap) h3
  exact .list h2 rfl rfl (by rw [List.toList_toArray]; exact z)

/-- [whole number, whole number, list of whole numbers] -/
theorem walk3 {prog : Program} {name : Str} {l1 h1 l2 h2 l3 h3 lo hi : Int} {n least most : Nat} {asked : Int → Int → List Int → Bool} {f : Int → Int → List Int → List Int}
    {q : Program} {loose : List Str} {XP : (Str → Option Value) → Heap → Prop} {YP : World → Heap → Prop} {d : DefRec} {K : Params → PySem.W.Frag} {sp : World → Sp} {x y z : Str} {k : Nat}
    (said : (OpenSpec.mk prog name [.int l1 h1, .int l2 h2, .list 0 n (.int l3 h3)] (.list least most (.int lo hi)) asked f).wellSaid = true)
    (hn2 : n ≤ sizeLine) (hdf : d.params.defaults = []) (hr : Room k callerA)
    (hY : ∀ (w : World) (h : Heap), YP w h → (K w.params).In h)
    (F : ∀ (w : World) (mg : Str → Option Value) (fa : Addr) (h : Heap), (K w.params).In h → h.Ns mainGlobals mg → mg d.name = some (.ref fa) →
      ∃ fd : FuncData, (∀ (s : Shared) (u1 u2 u3 : Value), BindsTo s fd ⟨[u1, u2, u3], []⟩ [(x, u1), (y, u2), (z, u3)]) ∧
        ∀ base : Heap, (K w.params).In base → base.Ns mainGlobals mg → FnOk prog w (K w.params) mg base CX0 k fa fd [x, y, z] (sp w))
    (hsp : ∀ (w : World) (H : Hp) (a : Addr) (i j : Int) (ns : List Int), l1 ≤ i → i ≤ h1 → l2 ≤ j → j ≤ h2 → ns.length ≤ n → (∀ v ∈ ns, l3 ≤ v ∧ v ≤ h3) → asked i j ns = true → Only H → SqL (K w.params) H a (ns.map V.int) →
      sp w [.int i, .int j, .ref a] H (fun v H' => ∃ l, v = .ref l ∧ H' l = some (.lst ((f i j ns).map V.int))) fun _ _ _ => False) :
    WalkOS q loose XP YP (OpenSpec.mk prog name [.int l1 h1, .int l2 h2, .list 0 n (.int l3 h3)] (.list least most (.int lo hi)) asked f) d [] (fun f vs => PySem.call f vs) := by
  intro w s₀ s₁ mg mb G Y fa o pm cd doc dV kV ho hd hcd hD hmg hg args vals as hpre hlay hrd hwl hlo
  obtain ⟨⟨i, j, ns, u⟩, hw, hask, rfl⟩ := (OpenSpec.pre_iff said _).mp hpre
  have KX := hY w _ Y
  obtain ⟨fd, hbd, hF⟩ := F w mg fa _ KX G.T.g hmg
  have e1 : Codec.encAll [.int l1 h1, .int l2 h2, .list 0 n (.int l3 h3)] (i, j, ns, u) = [WData.int i, WData.int j, WData.list (ns.map WData.int)] := rfl
  have hwl' : WellAll w.params s₁.heap vals [WData.int i, WData.int j, WData.list (ns.map WData.int)] := hwl
  have hb : (l1 ≤ i ∧ i ≤ h1) ∧ (l2 ≤ j ∧ j ≤ h2) ∧ ns.length ≤ n ∧ ∀ v ∈ ns, l3 ≤ v ∧ v ≤ h3 := by
    have hw' : (Codec.inInt l1 h1 i && (Codec.inInt l2 h2 j && ((Codec.inLen 0 n ns && ns.all (Codec.inInt l3 h3)) && true))) = true := hw
    simp only [Bool.and_eq_true, Codec.inLen, Codec.inInt_iff, Codec.inNat_iff, List.all_eq_true] at hw'
    exact ⟨hw'.1, hw'.2.1, hw'.2.2.1.1.2, hw'.2.2.1.2⟩
  cases hwl' with
  | cons w1 w2 =>
    cases w2 with
    | cons w2 w3 =>
      cases w3 with
      | cons w3 w4 =>
        cases w4
        cases w1
        cases w2
        cases w3 with
        | list hobj hall =>
          rename_i t t' a ws
          have hints := Att.ints_of_wellAll ns _ hall
          refine enter_call (codeAny_mono (spec_call (out := f i j ns) KX G.T.g G.T.b G.T.builtins G.T.nolimit hg hobj hints (Nat.le_trans hb.2.2.1 hn2) hr hF (hbd s₁ _ _ _) (vs := [.int i, .int j, .ref a]) (.cons ⟨_, rfl⟩ (.cons ⟨_, rfl⟩ (.cons rfl .nil)))
            (fun H hO hS => hsp w H a i j ns hb.1.1 hb.1.2 hb.2.1.1 hb.2.1.2 hb.2.2.1 hb.2.2.2 hask hO hS)) fun r s' hq => ?_)
          obtain ⟨l, its, m, rfl, h2, h3, h4, h5, h6⟩ := hq
          exact good_of said hw rfl rfl h2 h3 h4 h5 h6

/-- [whole number, list of whole numbers] -/
theorem walk2 {prog : Program} {name : Str} {l1 h1 l3 h3 lo hi : Int} {n least most : Nat} {asked : Int → List Int → Bool} {f : Int → List Int → List Int}
    {q : Program} {loose : List Str} {XP : (Str → Option Value) → Heap → Prop} {YP : World → Heap → Prop} {d : DefRec} {K : Params → PySem.W.Frag} {sp : World → Sp} {x z : Str} {k : Nat}
    (said : (OpenSpec.mk prog name [.int l1 h1, .list 0 n (.int l3 h3)] (.list least most (.int lo hi)) asked f).wellSaid = true)
    (hn2 : n ≤ sizeLine) (hdf : d.params.defaults = []) (hr : Room k callerA)
    (hY : ∀ (w : World) (h : Heap), YP w h → (K w.params).In h)
    (F : ∀ (w : World) (mg : Str → Option Value) (fa : Addr) (h : Heap), (K w.params).In h → h.Ns mainGlobals mg → mg d.name = some (.ref fa) →
      ∃ fd : FuncData, (∀ (s : Shared) (u1 u3 : Value), BindsTo s fd ⟨[u1, u3], []⟩ [(x, u1), (z, u3)]) ∧
        ∀ base : Heap, (K w.params).In base → base.Ns mainGlobals mg → FnOk prog w (K w.params) mg base CX0 k fa fd [x, z] (sp w))
    (hsp : ∀ (w : World) (H : Hp) (a : Addr) (i : Int) (ns : List Int), l1 ≤ i → i ≤ h1 → ns.length ≤ n → (∀ v ∈ ns, l3 ≤ v ∧ v ≤ h3) → asked i ns = true → Only H → SqL (K w.params) H a (ns.map V.int) →
      sp w [.int i, .ref a] H (fun v H' => ∃ l, v = .ref l ∧ H' l = some (.lst ((f i ns).map V.int))) fun _ _ _ => False) :
    WalkOS q loose XP YP (OpenSpec.mk prog name [.int l1 h1, .list 0 n (.int l3 h3)] (.list least most (.int lo hi)) asked f) d [] (fun f vs => PySem.call f vs) := by
  intro w s₀ s₁ mg mb G Y fa o pm cd doc dV kV ho hd hcd hD hmg hg args vals as hpre hlay hrd hwl hlo
  obtain ⟨⟨i, ns, u⟩, hw, hask, rfl⟩ := (OpenSpec.pre_iff said _).mp hpre
  have KX := hY w _ Y
  obtain ⟨fd, hbd, hF⟩ := F w mg fa _ KX G.T.g hmg
  have hwl' : WellAll w.params s₁.heap vals [WData.int i, WData.list (ns.map WData.int)] := hwl
  have hb : (l1 ≤ i ∧ i ≤ h1) ∧ ns.length ≤ n ∧ ∀ v ∈ ns, l3 ≤ v ∧ v ≤ h3 := by
    have hw' : (Codec.inInt l1 h1 i && ((Codec.inLen 0 n ns && ns.all (Codec.inInt l3 h3)) && true)) = true := hw
    simp only [Bool.and_eq_true, Codec.inLen, Codec.inInt_iff, Codec.inNat_iff, List.all_eq_true] at hw'
    exact ⟨hw'.1, hw'.2.1.1.2, hw'.2.1.2⟩
  cases hwl' with
  | cons w1 w2 =>
    cases w2 with
    | cons w3 w4 =>
      cases w4
      cases w1
      cases w3 with
      | list hobj hall =>
        rename_i t a ws
        have hints := Att.ints_of_wellAll ns _ hall
        refine enter_call (codeAny_mono (spec_call (out := f i ns) KX G.T.g G.T.b G.T.builtins G.T.nolimit hg hobj hints (Nat.le_trans hb.2.1 hn2) hr hF (hbd s₁ _ _) (vs := [.int i, .ref a]) (.cons ⟨_, rfl⟩ (.cons rfl .nil))
          (fun H hO hS => hsp w H a i ns hb.1.1 hb.1.2 hb.2.1 hb.2.2 hask hO hS)) fun r s' hq => ?_)
        obtain ⟨l, its, m, rfl, h2, h3, h4, h5, h6⟩ := hq
        exact good_of said hw rfl rfl h2 h3 h4 h5 h6
end Sx

namespace MU
open Kg18

/-- the bytes of a list of whole numbers -/
def toB (ns : List Int) : Bytes := ns.map fun (z : Int) => UInt8.ofNat z.toNat
/-- the whole numbers of bytes -/
def zs (b : Bytes) : List Int := b.map fun (c : UInt8) => (c.toNat : Int)

theorem zs_toB {ns : List Int} (h : ∀ v ∈ ns, 0 ≤ v ∧ v ≤ 255) : zs (toB ns) = ns := by
  unfold zs toB
  rw [List.map_map]
  conv => rhs; rw [← List.map_id ns]
  apply List.map_congr_left
  intro v hv
  obtain ⟨h0, h1⟩ := h v hv
  simp only [Function.comp_apply, id]
  rw [UInt8.toNat_ofNat']
  have : v.toNat < 256 := by omega
  rw [Nat.mod_eq_of_lt this]
  omega

theorem toB_length (ns : List Int) : (toB ns).length = ns.length := List.length_map _
theorem zs_length (b : Bytes) : (zs b).length = b.length := List.length_map _

theorem unsigned_small {n : Nat} (h : n < 2 ^ 31) : Kg18Neutral.unsigned 32 (n : Int) = n := by
  unfold Kg18Neutral.unsigned
  omega

theorem i32_unsigned {z : Int} (h0 : -2147483648 ≤ z) (h1 : z ≤ 2147483647) : Kg18Neutral.i32 (Kg18Neutral.unsigned 32 z) = z := by
  unfold Kg18Neutral.i32 Kg18Neutral.unsigned
  split <;> omega

theorem counted_eq {n : Nat} {hi : Int} {l r : List Nat} (hl : l.length = n) (hn : n ≤ 116000) (hh : 1048576 ≤ hi) :
    Kg18Neutral.counted 0 hi 1 (Kg18Neutral.unsigned 32 (n : Int) :: (l ++ r)) = (some l, r) := by
  have e : Kg18Neutral.h32 (Kg18Neutral.unsigned 32 (n : Int) :: (l ++ r)) = (n : Int) := by
    show Kg18Neutral.i32 (Kg18Neutral.unsigned 32 (n : Int)) = n
    exact i32_unsigned (by omega) (by omega)
  unfold Kg18Neutral.counted
  simp only [e]
  rw [if_pos (by omega)]
  have e2 : 1 * (n : Int).toNat = l.length := by omega
  rw [e2]
  have e3 : 1 + l.length = l.length + 1 := by omega
  simp [e3]

theorem bytes_eq (ns : List Int) : Kg18Neutral.bytes (some (ns.map Int.toNat)) = some (toB ns) := by
  unfold Kg18Neutral.bytes toB
  simp [Function.comp_def]

theorem sum_of_eq {seed : Int} {ns : List Int} (hn : ns.length ≤ 116000) :
    PyKg18.sum_of seed ns = [((Kg18.sum seed.toNat (toB ns) : Nat) : Int)] := by
  have e : Kg18Neutral.numbers [[4, seed, (ns.length : Int)], ns] = 4 :: seed.toNat :: Kg18Neutral.unsigned 32 (ns.length : Int) :: (ns.map Int.toNat ++ []) := rfl
  unfold PyKg18.sum_of Kg18Neutral.f
  rw [e]
  have e2 : Kg18Neutral.callOf (4 :: seed.toNat :: Kg18Neutral.unsigned 32 (ns.length : Int) :: (ns.map Int.toNat ++ [])) = .sum (some (toB ns)) seed.toNat := by
    show Call.sum (Kg18Neutral.bytes (Kg18Neutral.counted 0 1048576 1 (Kg18Neutral.unsigned 32 (ns.length : Int) :: (ns.map Int.toNat ++ []))).1) seed.toNat = _
    rw [counted_eq (by rw [List.length_map]) hn (by omega), bytes_eq]
  rw [e2]
  rfl

/-- an answer: how many, then these; or too many -/
def put (most : Int) (t : Bytes) : List Int := if most < (t.length : Int) then [-7] else (t.length : Int) :: zs t

theorem put_eq (r : Int) (t : Bytes) : (Kg18.put r t).value :: Kg18Neutral.ofBytes (Kg18.put r t).out = put r t := by
  unfold Kg18.put put
  split <;> rfl

theorem pack_block_eq {most : Int} {ns : List Int} (h0 : -2147483648 ≤ most) (h1 : most ≤ 2147483647) (hn : ns.length ≤ 116000) :
    PyKg18.pack_block most ns = if most < 0 then [-8] else put most (packed (toB ns) 0 0 ns.length) := by
  have e : Kg18Neutral.numbers [[2, (ns.length : Int), most], ns] = 2 :: Kg18Neutral.unsigned 32 (ns.length : Int) :: (ns.map Int.toNat ++ [Kg18Neutral.unsigned 32 most]) := rfl
  unfold PyKg18.pack_block Kg18Neutral.f
  rw [e]
  have e2 : Kg18Neutral.callOf (2 :: Kg18Neutral.unsigned 32 (ns.length : Int) :: (ns.map Int.toNat ++ [Kg18Neutral.unsigned 32 most])) = .packBlock (some (toB ns)) most := by
    show Call.packBlock (Kg18Neutral.bytes (Kg18Neutral.counted 0 1048576 1 (Kg18Neutral.unsigned 32 (ns.length : Int) :: (ns.map Int.toNat ++ [Kg18Neutral.unsigned 32 most]))).1) (Kg18Neutral.h32 (Kg18Neutral.counted 0 1048576 1 (Kg18Neutral.unsigned 32 (ns.length : Int) :: (ns.map Int.toNat ++ [Kg18Neutral.unsigned 32 most]))).2) = _
    rw [counted_eq (by rw [List.length_map]) hn (by omega), bytes_eq]
    show Call.packBlock _ (Kg18Neutral.i32 (Kg18Neutral.unsigned 32 most)) = _
    rw [i32_unsigned h0 h1]
  rw [e2]
  show (let a := (if most < 0 then num (-8) else Kg18.put most (packed (toB ns) 0 0 (toB ns).length)); a.value :: Kg18Neutral.ofBytes a.out) = _
  rw [toB_length]
  by_cases hm : most < 0
  · simp only [if_pos hm]; rfl
  · simp only [if_neg hm]; exact put_eq _ _

theorem unpack_block_eq {most : Int} {ns : List Int} (h0 : -2147483648 ≤ most) (h1 : most ≤ 2147483647) (hn : ns.length ≤ 116000) :
    PyKg18.unpack_block most ns = if most < 0 then [-8] else match unpacked (ns.length + 1) 0 1048576 [] (toB ns) with
      | none => [-5]
      | some t => put most t := by
  have e : Kg18Neutral.numbers [[3, (ns.length : Int), most], ns] = 3 :: Kg18Neutral.unsigned 32 (ns.length : Int) :: (ns.map Int.toNat ++ [Kg18Neutral.unsigned 32 most]) := rfl
  unfold PyKg18.unpack_block Kg18Neutral.f
  rw [e]
  have e2 : Kg18Neutral.callOf (3 :: Kg18Neutral.unsigned 32 (ns.length : Int) :: (ns.map Int.toNat ++ [Kg18Neutral.unsigned 32 most])) = .unpackBlock (some (toB ns)) most := by
    show Call.unpackBlock (Kg18Neutral.bytes (Kg18Neutral.counted 0 2097152 1 (Kg18Neutral.unsigned 32 (ns.length : Int) :: (ns.map Int.toNat ++ [Kg18Neutral.unsigned 32 most]))).1) (Kg18Neutral.h32 (Kg18Neutral.counted 0 2097152 1 (Kg18Neutral.unsigned 32 (ns.length : Int) :: (ns.map Int.toNat ++ [Kg18Neutral.unsigned 32 most]))).2) = _
    rw [counted_eq (by rw [List.length_map]) hn (by omega), bytes_eq]
    show Call.unpackBlock _ (Kg18Neutral.i32 (Kg18Neutral.unsigned 32 most)) = _
    rw [i32_unsigned h0 h1]
  rw [e2]
  show (let a := (if most < 0 then num (-8) else match unpacked ((toB ns).length + 1) 0 MOST [] (toB ns) with
      | none => num (-5)
      | some t => Kg18.put most t); a.value :: Kg18Neutral.ofBytes a.out) = _
  rw [toB_length]
  by_cases hm : most < 0
  · simp only [if_pos hm]; rfl
  · simp only [if_neg hm]
    show _ = match unpacked (ns.length + 1) 0 MOST [] (toB ns) with | none => [-5] | some t => put most t
    cases unpacked (ns.length + 1) 0 MOST [] (toB ns) with
    | none => rfl
    | some t => exact put_eq _ _

theorem unpack_eq {most : Int} {ns : List Int} (h0 : -2147483648 ≤ most) (h1 : most ≤ 2147483647) (hn : ns.length ≤ 116000) :
    PyKg18.unpack most ns = if most < 0 then [-8] else match frame 1048576 (toB ns) with
      | .error k => [-(k : Int)]
      | .ok t => put most t := by
  have e : Kg18Neutral.numbers [[1, (ns.length : Int), most], ns] = 1 :: Kg18Neutral.unsigned 32 (ns.length : Int) :: (ns.map Int.toNat ++ [Kg18Neutral.unsigned 32 most]) := rfl
  unfold PyKg18.unpack Kg18Neutral.f
  rw [e]
  have e2 : Kg18Neutral.callOf (1 :: Kg18Neutral.unsigned 32 (ns.length : Int) :: (ns.map Int.toNat ++ [Kg18Neutral.unsigned 32 most])) = .unpack (some (toB ns)) most := by
    show Call.unpack (Kg18Neutral.bytes (Kg18Neutral.counted 0 2097152 1 (Kg18Neutral.unsigned 32 (ns.length : Int) :: (ns.map Int.toNat ++ [Kg18Neutral.unsigned 32 most]))).1) (Kg18Neutral.h32 (Kg18Neutral.counted 0 2097152 1 (Kg18Neutral.unsigned 32 (ns.length : Int) :: (ns.map Int.toNat ++ [Kg18Neutral.unsigned 32 most]))).2) = _
    rw [counted_eq (by rw [List.length_map]) hn (by omega), bytes_eq]
    show Call.unpack _ (Kg18Neutral.i32 (Kg18Neutral.unsigned 32 most)) = _
    rw [i32_unsigned h0 h1]
  rw [e2]
  show (let a := (if most < 0 then num (-8) else match frame MOST (toB ns) with
      | .error k => num (-(k : Int))
      | .ok t => Kg18.put most t); a.value :: Kg18Neutral.ofBytes a.out) = _
  by_cases hm : most < 0
  · simp only [if_pos hm]; rfl
  · simp only [if_neg hm]
    show _ = match frame MOST (toB ns) with | .error k => [-(k : Int)] | .ok t => put most t
    cases frame MOST (toB ns) with
    | error k => rfl
    | ok t => exact put_eq _ _

theorem pack_eq {flags most : Int} {ns : List Int} (f0 : -2147483648 ≤ flags) (f1 : flags ≤ 2147483647) (h0 : -2147483648 ≤ most) (h1 : most ≤ 2147483647) (hn : ns.length ≤ 116000) :
    PyKg18.pack flags most ns = if flags < 0 ∨ 15 < flags ∨ most < 0 then [-8] else put most (framed flags.toNat (toB ns)) := by
  have e : Kg18Neutral.numbers [[0, (ns.length : Int), flags, most], ns] = 0 :: Kg18Neutral.unsigned 32 (ns.length : Int) :: (ns.map Int.toNat ++ [Kg18Neutral.unsigned 32 flags, Kg18Neutral.unsigned 32 most]) := rfl
  unfold PyKg18.pack Kg18Neutral.f
  rw [e]
  have e2 : Kg18Neutral.callOf (0 :: Kg18Neutral.unsigned 32 (ns.length : Int) :: (ns.map Int.toNat ++ [Kg18Neutral.unsigned 32 flags, Kg18Neutral.unsigned 32 most])) = .pack (some (toB ns)) flags most := by
    show Call.pack (Kg18Neutral.bytes (Kg18Neutral.counted 0 1048576 1 (Kg18Neutral.unsigned 32 (ns.length : Int) :: (ns.map Int.toNat ++ [Kg18Neutral.unsigned 32 flags, Kg18Neutral.unsigned 32 most]))).1)
      (Kg18Neutral.h32 (Kg18Neutral.counted 0 1048576 1 (Kg18Neutral.unsigned 32 (ns.length : Int) :: (ns.map Int.toNat ++ [Kg18Neutral.unsigned 32 flags, Kg18Neutral.unsigned 32 most]))).2)
      (Kg18Neutral.h32 ((Kg18Neutral.counted 0 1048576 1 (Kg18Neutral.unsigned 32 (ns.length : Int) :: (ns.map Int.toNat ++ [Kg18Neutral.unsigned 32 flags, Kg18Neutral.unsigned 32 most]))).2.drop 1)) = _
    rw [counted_eq (by rw [List.length_map]) hn (by omega), bytes_eq]
    show Call.pack _ (Kg18Neutral.i32 (Kg18Neutral.unsigned 32 flags)) (Kg18Neutral.i32 (Kg18Neutral.unsigned 32 most)) = _
    rw [i32_unsigned h0 h1, i32_unsigned f0 f1]
  rw [e2]
  show (let a := (if flags < 0 ∨ 15 < flags ∨ most < 0 then num (-8) else Kg18.put most (framed flags.toNat (toB ns))); a.value :: Kg18Neutral.ofBytes a.out) = _
  by_cases hm : flags < 0 ∨ 15 < flags ∨ most < 0
  · simp only [if_pos hm]; rfl
  · simp only [if_neg hm]; exact put_eq _ _
end MU

namespace MS
open Kg18

/-- the number at a place -/
def bat (b : Bytes) (i : Nat) : Nat := (b.getD i 0).toNat

theorem bat_lt (b : Bytes) (i : Nat) : bat b i < 256 := (b.getD i 0).toNat_lt

theorem drop_bat {b : Bytes} {p : Nat} (h : p < b.length) : ∃ c : UInt8, b.drop p = c :: b.drop (p + 1) ∧ c.toNat = bat b p := by
  refine ⟨b[p], List.drop_eq_getElem_cons h, ?_⟩
  unfold bat
  rw [List.getD_eq_getElem?_getD, List.getElem?_eq_getElem h]
  rfl

theorem le_four {b : Bytes} {p : Nat} (h : p + 4 ≤ b.length) : le (b.drop p) 4 = bat b p + bat b (p + 1) * 2 ^ 8 + bat b (p + 2) * 2 ^ 16 + bat b (p + 3) * 2 ^ 24 := by
  obtain ⟨c0, e0, f0⟩ := drop_bat (b := b) (p := p) (by omega)
  obtain ⟨c1, e1, f1⟩ := drop_bat (b := b) (p := p + 1) (by omega)
  obtain ⟨c2, e2, f2⟩ := drop_bat (b := b) (p := p + 2) (by omega)
  obtain ⟨c3, e3, f3⟩ := drop_bat (b := b) (p := p + 3) (by omega)
  rw [e0, e1, e2, e3]
  show c0.toNat + 256 * (c1.toNat + 256 * (c2.toNat + 256 * (c3.toNat + 256 * 0))) = _
  rw [f0, f1, f2, f3]
  omega

theorem le_four_lt {b : Bytes} {p : Nat} (h : p + 4 ≤ b.length) : le (b.drop p) 4 < 2 ^ 32 := by
  rw [le_four h]
  have := bat_lt b p
  have := bat_lt b (p + 1)
  have := bat_lt b (p + 2)
  have := bat_lt b (p + 3)
  omega

/-- one number mixed into another -/
def mix (z : Int) (t f : Nat) : Nat := rotl (z % 4294967296).toNat t * f % M

theorem mix_lt (z : Int) (t f : Nat) : mix z t f < 4294967296 := Nat.mod_lt _ (by decide)

theorem mix_round {a : Int} {s x : Nat} (h : a % 4294967296 = ((s % M : Nat) : Int)) : mix (a + (x : Int) * 2246822519) 13 2654435761 = round s x := by
  have e : ((a + (x : Int) * 2246822519) % 4294967296).toNat = (s + x * P2) % M := by
    have hM : M = 4294967296 := by decide
    have hP : P2 = 2246822519 := rfl
    rw [hM] at h
    rw [hM, hP]
    omega
  unfold mix round P1
  rw [e]

abbrev S4 := Nat × Nat × Nat × Nat
def one (s : S4) (b : Bytes) : S4 := (round s.1 (le b 4), round s.2.1 (le (b.drop 4) 4), round s.2.2.1 (le (b.drop 8) 4), round s.2.2.2 (le (b.drop 12) 4))

theorem stripes_step {k : Nat} {s : S4} {b : Bytes} (h : 16 ≤ b.length) : stripes (k + 1) s b = stripes k (one s b) (b.drop 16) := by
  obtain ⟨p, q, r, s⟩ := s
  rw [stripes, if_neg (by omega)]
  rfl

theorem stripes_end {k : Nat} {s : S4} {b : Bytes} (h : b.length < 16) : stripes k s b = (s, b) := by
  cases k with
  | zero => rfl
  | succ k =>
    obtain ⟨p, q, r, s⟩ := s
    rw [stripes, if_pos h]

def after (s0 : S4) (b : Bytes) : Nat → S4
  | 0 => s0
  | i + 1 => one (after s0 b i) (b.drop (16 * i))

theorem stripes_after {s0 : S4} {b : Bytes} {K : Nat} : ∀ i, 16 * i ≤ b.length → i ≤ K → stripes K s0 b = stripes (K - i) (after s0 b i) (b.drop (16 * i))
  | 0, _, _ => by simp [after]
  | i + 1, h, hk => by
    rw [stripes_after i (by omega) (by omega)]
    have e : K - i = (K - (i + 1)) + 1 := by omega
    rw [e, stripes_step (by rw [List.length_drop]; omega), List.drop_drop]
    rfl

theorem stripes_all {s0 : S4} {b : Bytes} : stripes (b.length + 1) s0 b = (after s0 b (b.length / 16), b.drop (16 * (b.length / 16))) := by
  rw [stripes_after (b.length / 16) (by omega) (by omega)]
  exact stripes_end (by rw [List.length_drop]; omega)

/-- what is left -/
theorem tail_big {k h : Nat} {b : Bytes} (c : 4 ≤ b.length) : tail (k + 1) h b = tail k (rotl ((h + le b 4 * P3) % M) 17 * P4 % M) (b.drop 4) := by
  rw [tail.eq_def]
  simp only [if_pos c]
theorem tail_nil {k h : Nat} : tail k h [] = h := by
  cases k with
  | zero => rfl
  | succ k =>
    rw [tail.eq_def]
    simp
theorem tail_cons {k h : Nat} {c : UInt8} {r : Bytes} (q : ¬ 4 ≤ (c :: r).length) : tail (k + 1) h (c :: r) = tail k (rotl ((h + c.toNat * P5) % M) 11 * P1 % M) r := by
  rw [tail.eq_def]
  simp only [if_neg q]
theorem tail_fuel : ∀ (k k' h : Nat) (b : Bytes), b.length < k → b.length < k' → tail k h b = tail k' h b
  | 0, _, _, _, h, _ => by omega
  | _ + 1, 0, _, _, _, h => by omega
  | k + 1, k' + 1, h, b, h1, h2 => by
    by_cases c : 4 ≤ b.length
    · rw [tail_big c, tail_big c]
      exact tail_fuel k k' _ _ (by rw [List.length_drop]; omega) (by rw [List.length_drop]; omega)
    · cases b with
      | nil => rw [tail_nil, tail_nil]
      | cons c r =>
        rw [tail_cons (by assumption), tail_cons (by assumption)]
        have h1' : r.length + 1 < k + 1 := h1
        have h2' : r.length + 1 < k' + 1 := h2
        exact tail_fuel k k' _ _ (by omega) (by omega)

def T (h : Nat) (b : Bytes) : Nat := tail (b.length + 1) h b

theorem T_nil (h : Nat) : T h [] = h := tail_nil

theorem T_four {h : Nat} {b : Bytes} {p : Nat} (hp : p + 4 ≤ b.length) : T h (b.drop p) = T (mix ((h : Int) + (le (b.drop p) 4 : Nat) * 3266489917) 17 668265263) (b.drop (p + 4)) := by
  have hl : (b.drop p).length = b.length - p := List.length_drop
  unfold T
  rw [tail_big (by omega), List.drop_drop]
  have e : ((((h : Int) + (le (b.drop p) 4 : Nat) * 3266489917)) % 4294967296).toNat = (h + le (b.drop p) 4 * P3) % M := by
    have hM : M = 4294967296 := by decide
    have hP : P3 = 3266489917 := rfl
    rw [hM, hP]
    omega
  have e2 : mix ((h : Int) + (le (b.drop p) 4 : Nat) * 3266489917) 17 668265263 = rotl ((h + le (b.drop p) 4 * P3) % M) 17 * P4 % M := by
    unfold mix P4
    rw [e]
  rw [e2]
  exact tail_fuel _ _ _ _ (by rw [List.length_drop, List.length_drop]; omega) (by rw [List.length_drop]; omega)

theorem e5 (h x : Nat) : ((((h : Int) + (x : Int) * 374761393)) % 4294967296).toNat = (h + x * P5) % M := by
  have hM : M = 4294967296 := by decide
  have hP : P5 = 374761393 := rfl
  rw [hM, hP]
  omega
theorem T_one {h : Nat} {b : Bytes} {p : Nat} (hp : p < b.length) (hq : b.length < p + 4) : T h (b.drop p) = T (mix ((h : Int) + (bat b p : Nat) * 374761393) 11 2654435761) (b.drop (p + 1)) := by
  have hl : (b.drop p).length = b.length - p := List.length_drop
  obtain ⟨c, e0, f0⟩ := drop_bat hp
  have e := e5 h (bat b p)
  have e2 : mix ((h : Int) + (bat b p : Nat) * 374761393) 11 2654435761 = rotl ((h + bat b p * P5) % M) 11 * P1 % M := by
    unfold mix P1
    rw [e]
  have hlen : (c :: b.drop (p + 1)).length = b.length - p := by rw [← e0]; exact hl
  have e3 : T h (c :: b.drop (p + 1)) = tail (c :: b.drop (p + 1)).length (rotl ((h + c.toNat * P5) % M) 11 * P1 % M) (b.drop (p + 1)) := tail_cons (by rw [hlen]; omega)
  rw [e0, e3, e2, f0]
  unfold T
  exact tail_fuel _ _ _ _ (by rw [List.length_cons]; exact Nat.lt_succ_self _) (Nat.lt_succ_self _)

def start (seed : Nat) : S4 := ((seed + P1 + P2) % M, (seed + P2) % M, seed % M, (seed + M - P1) % M)

/-- of sixteen and more; of fewer -/
def begun (seed : Nat) (b : Bytes) : Nat :=
  if 16 ≤ b.length then
    let s := after (start seed) b (b.length / 16)
    rotl s.1 1 + rotl s.2.1 7 + rotl s.2.2.1 12 + rotl s.2.2.2 18
  else seed + P5

def fin1 (h : Nat) : Nat := (h ^^^ h / 2 ^ 15) * P2 % M
def fin2 (h : Nat) : Nat := (h ^^^ h / 2 ^ 13) * P3 % M
def fin3 (h : Nat) : Nat := h ^^^ h / 2 ^ 16

theorem sum_eq (seed : Nat) (b : Bytes) : Kg18.sum seed b = fin3 (fin2 (fin1 (T ((begun seed b + b.length) % M) (b.drop (16 * (b.length / 16)))))) := by
  have e : stripes (b.length + 1) ((seed + P1 + P2) % M, (seed + P2) % M, seed % M, (seed + M - P1) % M) b = (after (start seed) b (b.length / 16), b.drop (16 * (b.length / 16))) := stripes_all
  unfold Kg18.sum begun
  simp only [e]
  unfold fin1 fin2 fin3
  rfl

theorem round_lt (a x : Nat) : round a x < 4294967296 := Nat.mod_lt _ (by decide)
theorem one_lt (s : S4) (b : Bytes) : (one s b).1 < 4294967296 ∧ (one s b).2.1 < 4294967296 ∧ (one s b).2.2.1 < 4294967296 ∧ (one s b).2.2.2 < 4294967296 :=
  ⟨round_lt _ _, round_lt _ _, round_lt _ _, round_lt _ _⟩

theorem rotl_lt (x k : Nat) : rotl x k < 4294967296 := Nat.mod_lt _ (by decide)
theorem fin3_lt {y : Nat} (h : y < 2 ^ 32) : fin3 y < 2 ^ 32 := Nat.xor_lt_two_pow h (Nat.lt_of_le_of_lt (Nat.div_le_self _ _) h)
theorem sum_lt (seed : Nat) (b : Bytes) : Kg18.sum seed b < 2 ^ 32 := by
  rw [sum_eq]
  exact fin3_lt (Nat.mod_lt _ (by decide))
end MS

namespace MB
open Kg18 MS

theorem long_drop : ∀ {k n : Nat} {b : Bytes} {m : Nat} {w : Bytes}, long k n b = some (m, w) → ∃ j, w = b.drop j ∧ j ≤ b.length
  | 0, _, _, _, _, h => by rw [long.eq_def] at h; cases h
  | k + 1, _, [], _, _, h => by rw [long.eq_def] at h; cases h
  | k + 1, n, c :: r, m, w, h => by
    have e : long (k + 1) n (c :: r) = if c = 255 then long k (n + 255) r else some (n + c.toNat, r) := by rw [long.eq_def]
    rw [e] at h
    by_cases hc : c = 255
    · rw [if_pos hc] at h
      obtain ⟨j, e1, e2⟩ := long_drop h
      exact ⟨j + 1, by rw [List.drop_succ_cons]; exact e1, by rw [List.length_cons]; omega⟩
    · rw [if_neg hc] at h
      injection h with h
      injection h with h1 h2
      exact ⟨1, h2.symm, by rw [List.length_cons]; omega⟩

theorem lengthOf_drop {n : Nat} {b : Bytes} {m : Nat} {w : Bytes} (h : lengthOf n b = some (m, w)) : ∃ j, w = b.drop j ∧ j ≤ b.length := by
  unfold lengthOf at h
  by_cases hc : n = 15
  · rw [if_pos hc] at h
    exact long_drop h
  · rw [if_neg hc] at h
    injection h with h
    injection h with h1 h2
    exact ⟨0, h2.symm, Nat.zero_le _⟩

theorem lengthOf_le {n : Nat} {b : Bytes} {m : Nat} {w : Bytes} (h : lengthOf n b = some (m, w)) : w.length ≤ b.length := by
  obtain ⟨j, e, _⟩ := lengthOf_drop h
  rw [e, List.length_drop]
  omega

/-- what follows the first byte of a part -/
def partU (go : Bytes → Bytes → Option Bytes) (from_ most : Nat) (t : Bytes) (c : UInt8) (r : Bytes) : Option Bytes :=
  (lengthOf (c.toNat / 16) r).bind fun (n, s) =>
    if s.length < n then none
    else
      let u := t ++ s.take n
      let v := s.drop n
      if most < u.length then none
      else if v = [] then some u
      else if v.length < 2 then none
      else
        let d := le v 2
        (lengthOf (c.toNat % 16) (v.drop 2)).bind fun (m, w) =>
          if d = 0 ∨ u.length < from_ + d ∨ most < u.length + m + 4 then none else go (copied (m + 4) d u) w

theorem unpacked_cons {k from_ most : Nat} {t : Bytes} {c : UInt8} {r : Bytes} : unpacked (k + 1) from_ most t (c :: r) = partU (unpacked k from_ most) from_ most t c r := by
  rw [unpacked.eq_def]
  rfl

theorem partU_congr {go go' : Bytes → Bytes → Option Bytes} {from_ most : Nat} {t : Bytes} {c : UInt8} {r : Bytes} (h : ∀ u w, w.length ≤ r.length → go u w = go' u w) : partU go from_ most t c r = partU go' from_ most t c r := by
  unfold partU
  cases e : lengthOf (c.toNat / 16) r with
  | none => rfl
  | some p =>
    obtain ⟨n, s⟩ := p
    have hs := lengthOf_le e
    simp only [Option.bind_some]
    by_cases c1 : s.length < n
    · rw [if_pos c1, if_pos c1]
    · rw [if_neg c1, if_neg c1]
      by_cases c2 : most < (t ++ s.take n).length
      · rw [if_pos c2, if_pos c2]
      · rw [if_neg c2, if_neg c2]
        by_cases c3 : s.drop n = []
        · rw [if_pos c3, if_pos c3]
        · rw [if_neg c3, if_neg c3]
          by_cases c4 : (s.drop n).length < 2
          · rw [if_pos c4, if_pos c4]
          · rw [if_neg c4, if_neg c4]
            cases e2 : lengthOf (c.toNat % 16) ((s.drop n).drop 2) with
            | none => rfl
            | some p2 =>
              obtain ⟨m, w⟩ := p2
              have hw := lengthOf_le e2
              rw [List.length_drop, List.length_drop] at hw
              simp only [Option.bind_some]
              by_cases c5 : le (s.drop n) 2 = 0 ∨ (t ++ s.take n).length < from_ + le (s.drop n) 2 ∨ most < (t ++ s.take n).length + m + 4
              · rw [if_pos c5, if_pos c5]
              · rw [if_neg c5, if_neg c5]
                exact h _ _ (by omega)

theorem unpacked_fuel : ∀ (k k' from_ most : Nat) (t b : Bytes), b.length < k → b.length < k' → unpacked k from_ most t b = unpacked k' from_ most t b
  | 0, _, _, _, _, _, h, _ => by omega
  | _ + 1, 0, _, _, _, _, _, h => by omega
  | k + 1, k' + 1, from_, most, t, [], _, _ => by rw [unpacked.eq_def, unpacked.eq_def]
  | k + 1, k' + 1, from_, most, t, c :: r, h1, h2 => by
    rw [unpacked_cons, unpacked_cons]
    rw [List.length_cons] at h1 h2
    exact partU_congr fun u w hw => unpacked_fuel k k' from_ most u w (by omega) (by omega)

/-- a block's text -/
def U (from_ most : Nat) (t b : Bytes) : Option Bytes := unpacked (b.length + 1) from_ most t b
theorem U_nil (from_ most : Nat) (t : Bytes) : U from_ most t [] = none := by
  unfold U
  rw [unpacked.eq_def]
theorem U_cons (from_ most : Nat) (t : Bytes) (c : UInt8) (r : Bytes) : U from_ most t (c :: r) = partU (U from_ most) from_ most t c r := by
  unfold U
  rw [unpacked_cons]
  exact partU_congr fun u w hw => unpacked_fuel _ _ _ _ _ _ (by rw [List.length_cons]; omega) (Nat.lt_succ_self _)

/-! ### a match -/
theorem copied_length : ∀ (n d : Nat) (t : Bytes), (copied n d t).length = t.length + n
  | 0, _, _ => rfl
  | n + 1, d, t => by
    rw [copied, copied_length n, List.length_append]
    simp
    omega

/-- n bytes, the last d over and over -/
def cyc (u : Bytes) (n : Nat) : Bytes := (List.range n).map fun (i : Nat) => u.getD (i % u.length) 0

theorem cyc_length (u : Bytes) (n : Nat) : (cyc u n).length = n := by unfold cyc; simp
theorem cyc_get {u : Bytes} {n i : Nat} (h : i < n) : (cyc u n)[i]? = some (u.getD (i % u.length) 0) := by
  unfold cyc
  rw [List.getElem?_map, List.getElem?_range h]
  rfl

/-- byte i behind the text's last d -/
theorem copied_eq {d : Nat} : ∀ (n : Nat) (k : Nat) (t : Bytes), 0 < d → d ≤ t.length → copied n d (t ++ cyc (t.drop (t.length - d)) k) = t ++ cyc (t.drop (t.length - d)) (k + n)
  | 0, k, t, _, _ => rfl
  | n + 1, k, t, h0, h1 => by
    have hu : (t.drop (t.length - d)).length = d := by rw [List.length_drop]; omega
    rw [copied]
    have e : (t ++ cyc (t.drop (t.length - d)) k) ++ [(t ++ cyc (t.drop (t.length - d)) k).getD ((t ++ cyc (t.drop (t.length - d)) k).length - d) 0] = t ++ cyc (t.drop (t.length - d)) (k + 1) := by
      have e1 : cyc (t.drop (t.length - d)) (k + 1) = cyc (t.drop (t.length - d)) k ++ [(t.drop (t.length - d)).getD (k % d) 0] := by
        unfold cyc
        rw [List.range_succ, List.map_append, hu]
        rfl
      rw [e1, List.append_assoc]
      congr 2
      rw [List.length_append, cyc_length]
      congr 1
      simp only [List.getD_eq_getElem?_getD]
      congr 1
      by_cases c : k < d
      · rw [List.getElem?_append_left (by omega), List.getElem?_drop, Nat.mod_eq_of_lt c]
        congr 1
        omega
      · rw [List.getElem?_append_right (by omega), cyc_get (by omega), hu, List.getD_eq_getElem?_getD]
        have e2 : t.length + k - d - t.length = k - d := by omega
        rw [e2]
        have e3 : (k - d) % d = k % d := by
          rw [Nat.mod_eq_sub_mod (show d ≤ k by omega)]
        rw [e3]
        have hk : k % d < d := Nat.mod_lt _ h0
        rw [List.getElem?_eq_getElem (by omega)]
        rfl
    rw [e, copied_eq n (k + 1) t h0 h1]
    congr 2
    omega

theorem copied_cyc {n d : Nat} {t : Bytes} (h0 : 0 < d) (h1 : d ≤ t.length) : copied n d t = t ++ cyc (t.drop (t.length - d)) n := by
  have e := copied_eq n 0 t h0 h1
  have e0 : cyc (t.drop (t.length - d)) 0 = [] := rfl
  rw [e0, List.append_nil, Nat.zero_add] at e
  exact e

/-- one that does not reach into itself -/
theorem cyc_take {u : Bytes} {n : Nat} (h : n ≤ u.length) : cyc u n = u.take n := by
  apply List.ext_getElem?
  intro i
  by_cases c : i < n
  · rw [cyc_get c, Nat.mod_eq_of_lt (by omega), List.getElem?_take_of_lt c, List.getD_eq_getElem?_getD, List.getElem?_eq_getElem (by omega)]
    rfl
  · rw [List.getElem?_eq_none (by rw [cyc_length]; omega), List.getElem?_eq_none (by rw [List.length_take]; omega)]

theorem rep_length (u : Bytes) (k : Nat) : (List.replicate k u).flatten.length = k * u.length := by
  induction k with
  | zero => simp
  | succ k ih => rw [List.replicate_succ, List.flatten_cons, List.length_append, ih, Nat.add_mul]; omega

theorem rep_get {u : Bytes} : ∀ (k i : Nat), i < k * u.length → (List.replicate k u).flatten[i]? = some (u.getD (i % u.length) 0)
  | 0, i, h => by omega
  | k + 1, i, h => by
    rw [List.replicate_succ, List.flatten_cons]
    have h' : i < k * u.length + u.length := by rw [Nat.add_mul] at h; omega
    by_cases c : i < u.length
    · rw [List.getElem?_append_left c, Nat.mod_eq_of_lt c, List.getD_eq_getElem?_getD, List.getElem?_eq_getElem c]
      rfl
    · rw [List.getElem?_append_right (by omega), rep_get k (i - u.length) (by omega), Nat.mod_eq_sub_mod (show u.length ≤ i by omega)]

theorem cyc_rep {u : Bytes} {n k : Nat} (h : n ≤ k * u.length) : cyc u n = (List.replicate k u).flatten.take n := by
  apply List.ext_getElem?
  intro i
  by_cases c : i < n
  · rw [cyc_get c, List.getElem?_take_of_lt c, rep_get k i (by omega)]
  · rw [List.getElem?_eq_none (by rw [cyc_length]; omega), List.getElem?_eq_none (by rw [List.length_take]; omega)]
end MB

namespace MP
open Kg18 MS MB

/-! ### the first of the largest -/
def bst (f : Nat → Nat) (N : Nat) : Nat × Nat := (List.range N).foldl (fun (b : Nat × Nat) (k : Nat) => if b.1 < f k then (f k, k + 1) else b) (0, 0)
theorem bst_succ (f : Nat → Nat) (N : Nat) : bst f (N + 1) = if (bst f N).1 < f N then (f N, N + 1) else bst f N := by
  unfold bst
  rw [List.range_succ, List.foldl_append]
  rfl
theorem best_bst (t : Bytes) (from_ i last : Nat) : best t from_ i last = bst (fun k => agree t i (i - (k + 1)) last) (min 65535 (i - from_)) := rfl
theorem bst_lt {f : Nat → Nat} {L : Nat} (h0 : 0 < L) : ∀ N, (∀ j, j < N → f j < L) → (bst f N).1 < L
  | 0, _ => h0
  | N + 1, h => by
    rw [bst_succ]
    split
    · exact h N (Nat.lt_succ_self N)
    · exact bst_lt h0 N fun j hj => h j (Nat.lt_succ_of_lt hj)
theorem bst_first {f : Nat → Nat} {k L : Nat} (h0 : 0 < L) (e : f k = L) (h1 : ∀ j, j < k → f j < L) : ∀ N, k < N → (∀ j, k < j → j < N → f j ≤ L) → bst f N = (L, k + 1)
  | 0, h, _ => by omega
  | N + 1, h, h2 => by
    rw [bst_succ]
    by_cases c : k = N
    · subst c
      rw [if_pos (by rw [e]; exact bst_lt h0 _ h1), e]
    · have ih := bst_first h0 e h1 N (by omega) fun j a b => h2 j a (Nat.lt_succ_of_lt b)
      rw [ih, if_neg]
      have := h2 N (by omega) (Nat.lt_succ_self N)
      show ¬ L < f N
      omega

/-! ### how far two places agree -/
theorem tw_list {α : Type} (p : α → Bool) : ∀ (l : List α), (l.takeWhile p).length ≤ l.length ∧ (∀ k x, k < (l.takeWhile p).length → l[k]? = some x → p x = true) ∧ (∀ x, l[(l.takeWhile p).length]? = some x → p x = false)
  | [] => ⟨Nat.le_refl _, fun k x h => by simp at h, fun x h => by simp at h⟩
  | a :: r => by
    obtain ⟨h1, h2, h3⟩ := tw_list p r
    cases e : p a with
    | true =>
      rw [List.takeWhile_cons_of_pos e]
      refine ⟨by simp; exact h1, fun k x hk hx => ?_, fun x hx => ?_⟩
      · cases k with
        | zero =>
          have : a = x := Option.some.inj hx
          rw [← this]; exact e
        | succ k => exact h2 k x (by simpa using hk) (by simpa using hx)
      · exact h3 x (by simpa using hx)
    | false =>
      rw [List.takeWhile_cons_of_neg (by simp [e])]
      refine ⟨by simp, fun k x hk => by simp at hk, fun x hx => ?_⟩
      have : a = x := Option.some.inj (by simpa using hx)
      rw [← this]; exact e

/-- the same w bytes at two places -/
def eqn (t : Bytes) (q i w : Nat) : Prop := ∀ k, k < w → t.getD (i + k) 0 = t.getD (q + k) 0

theorem agree_le (t : Bytes) (i j last : Nat) : agree t i j last ≤ last - i := by
  unfold agree
  have h := (tw_list (fun k => t.getD (i + k) 0 == t.getD (j + k) 0) (List.range (last - i))).1
  simpa using h
theorem agree_eqn (t : Bytes) (i j last : Nat) : eqn t j i (agree t i j last) := by
  intro k hk
  have hl := agree_le t i j last
  have h := (tw_list (fun k => t.getD (i + k) 0 == t.getD (j + k) 0) (List.range (last - i))).2.1 k k hk (List.getElem?_range (by omega))
  exact eq_of_beq h
theorem agree_stop {t : Bytes} {i j last : Nat} (h : agree t i j last < last - i) : t.getD (i + agree t i j last) 0 ≠ t.getD (j + agree t i j last) 0 := by
  have h := (tw_list (fun k => t.getD (i + k) 0 == t.getD (j + k) 0) (List.range (last - i))).2.2 (agree t i j last) (List.getElem?_range h)
  intro z
  have z' := beq_iff_eq.mpr z
  rw [z'] at h
  cases h
theorem agree_ge {t : Bytes} {i j last w : Nat} (hw : w ≤ last - i) (h : eqn t j i w) : w ≤ agree t i j last := by
  by_cases c : agree t i j last < w
  · exact absurd (h _ c) (agree_stop (by omega))
  · omega
theorem agree_lt {t : Bytes} {i j last w : Nat} (h : ¬ eqn t j i w) : agree t i j last < w := by
  by_cases c : agree t i j last < w
  · exact c
  · exact absurd (fun k hk => agree_eqn t i j last k (by omega)) h
/-- the counting loop's end -/
theorem agree_is {t : Bytes} {i j last L : Nat} (hl : L ≤ last - i) (h : eqn t j i L) (hs : L < last - i → t.getD (i + L) 0 ≠ t.getD (j + L) 0) : agree t i j last = L := by
  have h1 := agree_ge hl h
  by_cases c : L < agree t i j last
  · have h2 := agree_le t i j last
    exact absurd (agree_eqn t i j last L c) (hs (by omega))
  · omega
theorem eqn_succ {t : Bytes} {q i w : Nat} (h : eqn t q i w) (e : t.getD (i + w) 0 = t.getD (q + w) 0) : eqn t q i (w + 1) := fun k hk => by
  by_cases c : k = w
  · rw [c]; exact e
  · exact h k (by omega)

/-! ### the search -/
/-- a place's match is so long; every nearer one is shorter; if the step is used up no farther one is longer -/
structure Srch (t : Bytes) (i lowest last source length step : Nat) : Prop where
  lo : lowest ≤ source
  hi : source < i
  four : 4 ≤ length
  top : length ≤ last - i
  ag : agree t i source last = length
  near : ∀ q, source < q → q < i → agree t i q last < length
  far : step = 0 → ∀ q, lowest ≤ q → q < source → agree t i q last ≤ length

theorem Srch.begin {t : Bytes} {i lowest last source step : Nat} (lo : lowest ≤ source) (hi : source < i) (hm : 4 ≤ last - i) (h4 : eqn t source i 4) (hn : ∀ q, source < q → q < i → ¬ eqn t q i 4) (hs : 0 < step) :
    Srch t i lowest last source (agree t i source last) step :=
  ⟨lo, hi, agree_ge hm h4, agree_le _ _ _ _, rfl, fun q a b => Nat.lt_of_lt_of_le (agree_lt (hn q a b)) (agree_ge hm h4), fun h => by omega⟩

theorem Srch.found {t : Bytes} {i lowest last source length step step' wanted q : Nat} (S : Srch t i lowest last source length step) (hw : length < wanted) (hw2 : wanted ≤ last - i)
    (q0 : lowest ≤ q) (q1 : q < source) (he : eqn t q i wanted) (hn : ∀ p, q < p → p < source → ¬ eqn t p i wanted) (hs : 0 < step') :
    Srch t i lowest last q (agree t i q last) step' := by
  have hg := agree_ge hw2 he
  have hf := S.four
  refine ⟨q0, Nat.lt_trans q1 S.hi, by omega, agree_le _ _ _ _, rfl, fun p a b => ?_, fun h => by omega⟩
  by_cases c : p < source
  · have := agree_lt (last := last) (hn p a c)
    omega
  · by_cases d : p = source
    · rw [d, S.ag]; omega
    · have := S.near p (by omega) b
      omega

theorem Srch.miss {t : Bytes} {i lowest last source length step : Nat} (S : Srch t i lowest last source length step) (hs : 0 < step) (hl : length < last - i)
    (hn : ∀ q, lowest ≤ q → q < source → ¬ eqn t q i (min (length + step) (last - i))) : Srch t i lowest last source length (step / 2) :=
  ⟨S.lo, S.hi, S.four, S.top, S.ag, S.near, fun h q a b => by
    have e : step = 1 := by omega
    have h2 := agree_lt (last := last) (hn q a b)
    rw [e] at h2
    omega⟩

theorem Srch.best {t : Bytes} {i lowest last source length step from_ : Nat} (S : Srch t i lowest last source length step) (hlow : lowest = i - min 65535 (i - from_)) (hend : ¬ (0 < step ∧ length < last - i)) :
    best t from_ i last = (length, i - source) := by
  have h1 := S.lo
  have h2 := S.hi
  have h3 := S.four
  have h4 := S.top
  rw [best_bst]
  have e : i - source = (i - source - 1) + 1 := by omega
  rw [e]
  have es : i - (i - source - 1 + 1) = source := by omega
  refine bst_first (by omega) (by show agree t i (i - (i - source - 1 + 1)) last = length; rw [es]; exact S.ag) (fun j hj => ?_) _ (by omega) (fun j a b => ?_)
  · exact S.near _ (by omega) (by omega)
  · by_cases c : step = 0
    · exact S.far c _ (by omega) (by omega)
    · have : ¬ length < last - i := fun h => hend ⟨by omega, h⟩
      have h5 := agree_le t i (i - (j + 1)) last
      show agree t i (i - (j + 1)) last ≤ length
      omega

/-- no match -/
theorem best_none {t : Bytes} {i lowest last from_ : Nat} (hlow : lowest = i - min 65535 (i - from_)) (h : ∀ q, lowest ≤ q → q < i → ¬ eqn t q i 4) : (best t from_ i last).1 < 4 := by
  rw [best_bst]
  exact bst_lt (by omega) _ fun j hj => agree_lt (h _ (by omega) (by omega))

theorem lowest_eq {from_ i : Nat} (h : from_ ≤ i) : max from_ (i - 65535) = i - min 65535 (i - from_) := by omega

/-! ### four bytes -/
def four (t : Bytes) (p : Nat) : Nat := bat t p + bat t (p + 1) * 2 ^ 8 + bat t (p + 2) * 2 ^ 16 + bat t (p + 3) * 2 ^ 24
theorem bat_inj {t : Bytes} {i j : Nat} (h : bat t i = bat t j) : t.getD i 0 = t.getD j 0 := UInt8.toNat_inj.mp h
theorem four_eqn {t : Bytes} {q i : Nat} : four t i = four t q ↔ eqn t q i 4 := by
  constructor
  · intro h
    unfold four at h
    have a0 := bat_lt t i
    have a1 := bat_lt t (i + 1)
    have a2 := bat_lt t (i + 2)
    have a3 := bat_lt t (i + 3)
    have b0 := bat_lt t q
    have b1 := bat_lt t (q + 1)
    have b2 := bat_lt t (q + 2)
    have b3 := bat_lt t (q + 3)
    intro k hk
    match k, hk with
    | 0, _ => exact bat_inj (show bat t i = bat t q by omega)
    | 1, _ => exact bat_inj (by omega)
    | 2, _ => exact bat_inj (by omega)
    | 3, _ => exact bat_inj (by omega)
    | k + 4, hk => omega
  · intro h
    have h0 : bat t i = bat t q := congrArg UInt8.toNat (h 0 (by omega))
    have h1 : bat t (i + 1) = bat t (q + 1) := congrArg UInt8.toNat (h 1 (by omega))
    have h2 : bat t (i + 2) = bat t (q + 2) := congrArg UInt8.toNat (h 2 (by omega))
    have h3 : bat t (i + 3) = bat t (q + 3) := congrArg UInt8.toNat (h 3 (by omega))
    unfold four
    rw [h0, h1, h2, h3]

/-! ### the mirrored letters -/
def two (c : UInt8) : List Nat := [65 + c.toNat / 16, 97 + c.toNat % 16]
def mir (t : Bytes) : List Nat := t.reverse.flatMap two
theorem flat2_length : ∀ l : Bytes, (l.flatMap two).length = 2 * l.length
  | [] => rfl
  | c :: r => by
    rw [List.flatMap_cons, List.length_append, flat2_length r]
    show 2 + 2 * r.length = 2 * (r.length + 1)
    omega
theorem mir_length (t : Bytes) : (mir t).length = 2 * t.length := by
  unfold mir
  rw [flat2_length, List.length_reverse]
theorem flat2_get : ∀ (l : Bytes) (m : Nat), m < l.length → (l.flatMap two)[2 * m]? = some (65 + bat l m / 16) ∧ (l.flatMap two)[2 * m + 1]? = some (97 + bat l m % 16)
  | [], m, h => by simp at h
  | c :: r, 0, h => ⟨rfl, rfl⟩
  | c :: r, m + 1, h => by
    have ih := flat2_get r m (by simpa using h)
    have e : bat (c :: r) (m + 1) = bat r m := rfl
    rw [e, List.flatMap_cons]
    have e1 : 2 * (m + 1) = (2 * m) + 1 + 1 := by omega
    have e2 : 2 * (m + 1) + 1 = (2 * m + 1) + 1 + 1 := by omega
    rw [e1]
    exact ih
theorem bat_reverse {t : Bytes} {m : Nat} (h : m < t.length) : bat t.reverse m = bat t (t.length - 1 - m) := by
  unfold bat
  rw [List.getD_eq_getElem?_getD, List.getD_eq_getElem?_getD, List.getElem?_reverse h]
theorem mir_even {t : Bytes} {m : Nat} (h : m < t.length) : (mir t)[2 * m]? = some (65 + bat t (t.length - 1 - m) / 16) := by
  rw [← bat_reverse h]
  exact (flat2_get t.reverse m (by rw [List.length_reverse]; exact h)).1
theorem mir_odd {t : Bytes} {m : Nat} (h : m < t.length) : (mir t)[2 * m + 1]? = some (97 + bat t (t.length - 1 - m) % 16) := by
  rw [← bat_reverse h]
  exact (flat2_get t.reverse m (by rw [List.length_reverse]; exact h)).2

/-- the same letters at two places of the mirror -/
def sameL (s : List Nat) (f g w : Nat) : Prop := ∀ x, x < w → s[f + x]? = s[g + x]?

/-- an even place in the mirror where the letters are those of i's w bytes: the place that is mirrored there has the same bytes -/
theorem mir_same {t : Bytes} {q i w : Nat} (hq : q + w ≤ t.length) (hi : i + w ≤ t.length) : sameL (mir t) (2 * (t.length - (q + w))) (2 * (t.length - (i + w))) (2 * w) ↔ eqn t q i w := by
  constructor
  · intro h k hk
    apply bat_inj
    have hx : ∀ y, y < w → bat t (q + w - 1 - y) = bat t (i + w - 1 - y) := fun y hy => by
      have h0 := h (2 * y) (by omega)
      have h1 := h (2 * y + 1) (by omega)
      have a : 2 * (t.length - (q + w)) + 2 * y = 2 * (t.length - (q + w) + y) := by omega
      have b : 2 * (t.length - (i + w)) + 2 * y = 2 * (t.length - (i + w) + y) := by omega
      have c : 2 * (t.length - (q + w)) + (2 * y + 1) = 2 * (t.length - (q + w) + y) + 1 := by omega
      have d : 2 * (t.length - (i + w)) + (2 * y + 1) = 2 * (t.length - (i + w) + y) + 1 := by omega
      rw [a, b, mir_even (by omega), mir_even (by omega)] at h0
      rw [c, d, mir_odd (by omega), mir_odd (by omega)] at h1
      have e1 : t.length - 1 - (t.length - (q + w) + y) = q + w - 1 - y := by omega
      have e2 : t.length - 1 - (t.length - (i + w) + y) = i + w - 1 - y := by omega
      rw [e1, e2] at h0 h1
      injection h0 with h0
      injection h1 with h1
      omega
    have := hx (w - 1 - k) (by omega)
    have e1 : q + w - 1 - (w - 1 - k) = q + k := by omega
    have e2 : i + w - 1 - (w - 1 - k) = i + k := by omega
    rw [e1, e2] at this
    exact this.symm
  · intro h x hx
    obtain ⟨y, hy, e⟩ : ∃ y, y < w ∧ (x = 2 * y ∨ x = 2 * y + 1) := ⟨x / 2, by omega, by omega⟩
    have hb : bat t (q + w - 1 - y) = bat t (i + w - 1 - y) := by
      have := h (w - 1 - y) (by omega)
      have e1 : q + w - 1 - y = q + (w - 1 - y) := by omega
      have e2 : i + w - 1 - y = i + (w - 1 - y) := by omega
      rw [e1, e2]
      exact congrArg UInt8.toNat this.symm
    have e1 : t.length - 1 - (t.length - (q + w) + y) = q + w - 1 - y := by omega
    have e2 : t.length - 1 - (t.length - (i + w) + y) = i + w - 1 - y := by omega
    rcases e with e | e
    · have a : 2 * (t.length - (q + w)) + x = 2 * (t.length - (q + w) + y) := by omega
      have b : 2 * (t.length - (i + w)) + x = 2 * (t.length - (i + w) + y) := by omega
      rw [a, b, mir_even (by omega), mir_even (by omega), e1, e2, hb]
    · have a : 2 * (t.length - (q + w)) + x = 2 * (t.length - (q + w) + y) + 1 := by omega
      have b : 2 * (t.length - (i + w)) + x = 2 * (t.length - (i + w) + y) + 1 := by omega
      rw [a, b, mir_odd (by omega), mir_odd (by omega), e1, e2, hb]

/-- nothing begins in the middle of a byte -/
theorem mir_parity {t : Bytes} {m i w : Nat} (hw : 0 < w) (hm : 2 * m + 1 < 2 * t.length) (hi : i + w ≤ t.length) : ¬ sameL (mir t) (2 * m + 1) (2 * (t.length - (i + w))) (2 * w) := fun h => by
  have h0 : (mir t)[2 * m + 1]? = (mir t)[2 * (t.length - (i + w))]? := h 0 (by omega)
  rw [mir_odd (by omega), mir_even (by omega)] at h0
  injection h0 with h0
  have := bat_lt t (t.length - 1 - (t.length - (i + w)))
  omega

/-! ### the parts -/
theorem more_length (n : Nat) : (more n).length ≤ n / 255 + 1 := by
  unfold more
  split
  · simp
  · rw [List.length_append, List.length_replicate]
    simp
    omega
theorem spelled_length (w n : Nat) : (spelled w n).length = w := by unfold spelled; simp

theorem parts_end {t : Bytes} {from_ last k since i : Nat} (h : last < i + 12) : parts t from_ last (k + 1) since i = part ((t.take last).drop since) none := by
  rw [parts, if_pos h]
theorem parts_hit {t : Bytes} {from_ last k since i n d : Nat} (h : ¬ last < i + 12) (hb : best t from_ i (last - 5) = (n, d)) (h4 : 4 ≤ n) :
    parts t from_ last (k + 1) since i = part ((t.take i).drop since) (some (n, d)) ++ parts t from_ last k (i + n) (i + n) := by
  rw [parts, if_neg h]
  simp only [hb, if_pos h4]
theorem parts_miss {t : Bytes} {from_ last k since i : Nat} (h : ¬ last < i + 12) (hb : (best t from_ i (last - 5)).1 < 4) :
    parts t from_ last (k + 1) since i = parts t from_ last k since (i + 1) := by
  rw [parts, if_neg h]
  simp only [if_neg (show ¬ 4 ≤ (best t from_ i (last - 5)).1 by omega)]

theorem part_hit_length (l : Bytes) (n d : Nat) (h : 4 ≤ n) : (part l (some (n, d))).length ≤ 3 * (l.length + n) := by
  show (UInt8.ofNat _ :: (more l.length ++ l ++ spelled 2 d ++ more (n - 4))).length ≤ _
  have a := more_length l.length
  have b := more_length (n - 4)
  simp only [List.length_cons, List.length_append, spelled_length]
  omega
theorem part_last_length (l : Bytes) : (part l none).length ≤ 3 * l.length + 2 := by
  show (UInt8.ofNat _ :: (more l.length ++ l)).length ≤ _
  have a := more_length l.length
  simp only [List.length_cons, List.length_append]
  omega
end MP

namespace MR
open Kg18 MS MB

/-! ### numbers of several bytes -/
def lev (l : Bytes) : Nat := l.foldr (fun c n => c.toNat + 256 * n) 0
theorem le_lev (b : Bytes) (w : Nat) : le b w = lev (b.take w) := rfl
theorem lev_nil : lev [] = 0 := rfl
theorem lev_cons (c : UInt8) (l : Bytes) : lev (c :: l) = c.toNat + 256 * lev l := rfl
theorem lev_step {l : Bytes} {i : Nat} (h : i < l.length) : lev (l.drop (l.length - (i + 1))) = 256 * lev (l.drop (l.length - i)) + bat l (l.length - 1 - i) := by
  obtain ⟨c, e, f⟩ := drop_bat (b := l) (p := l.length - (i + 1)) (by omega)
  have e1 : l.length - (i + 1) + 1 = l.length - i := by omega
  have e2 : l.length - (i + 1) = l.length - 1 - i := by omega
  rw [e, lev_cons, e1, f, e2]
  omega
theorem lev_lt : ∀ l : Bytes, lev l < 256 ^ l.length
  | [] => by decide
  | c :: r => by
    have ih := lev_lt r
    have hc := c.toNat_lt
    rw [lev_cons, List.length_cons, Nat.pow_succ]
    omega
theorem le_one {b : Bytes} {p : Nat} (h : p < b.length) : le (b.drop p) 1 = bat b p := by
  obtain ⟨c, e, f⟩ := drop_bat h
  rw [e, le_lev]
  show c.toNat + 256 * 0 = _
  rw [f]
  omega
theorem le_two_lt (b : Bytes) : le b 2 < 65536 := by
  rw [le_lev]
  have h := lev_lt (b.take 2)
  have hl : (b.take 2).length ≤ 2 := by rw [List.length_take]; omega
  have : 256 ^ (b.take 2).length ≤ 256 ^ 2 := Nat.pow_le_pow_right (by decide) hl
  omega
theorem le_lt (b : Bytes) (w : Nat) : le b w < 256 ^ w := by
  rw [le_lev]
  have h := lev_lt (b.take w)
  have hl : (b.take w).length ≤ w := by rw [List.length_take]; omega
  have : 256 ^ (b.take w).length ≤ 256 ^ w := Nat.pow_le_pow_right (by decide) hl
  omega

/-! ### lengths that are carried on -/
theorem long_nil (k n : Nat) : long k n [] = none := by cases k <;> rw [long.eq_def]
theorem long_cons (k n : Nat) (c : UInt8) (r : Bytes) : long (k + 1) n (c :: r) = if c = 255 then long k (n + 255) r else some (n + c.toNat, r) := by rw [long.eq_def]
theorem long_fuel : ∀ (k k' n : Nat) (b : Bytes), b.length < k → b.length < k' → long k n b = long k' n b
  | 0, _, _, _, h, _ => by omega
  | _ + 1, 0, _, _, _, h => by omega
  | k + 1, k' + 1, n, [], _, _ => by rw [long_nil, long_nil]
  | k + 1, k' + 1, n, c :: r, h1, h2 => by
    rw [List.length_cons] at h1 h2
    rw [long_cons, long_cons, long_fuel k k' (n + 255) r (by omega) (by omega)]
def LL (n : Nat) (b : Bytes) : Option (Nat × Bytes) := long (b.length + 1) n b
theorem LL_nil (n : Nat) : LL n [] = none := long_nil _ _
theorem LL_cons (n : Nat) (c : UInt8) (r : Bytes) : LL n (c :: r) = if c = 255 then LL (n + 255) r else some (n + c.toNat, r) := by
  unfold LL
  rw [long_cons, List.length_cons, long_fuel (r.length + 1) (r.length + 1) _ _ (by omega) (by omega)]
theorem lengthOf_15 (b : Bytes) : lengthOf 15 b = LL 15 b := rfl
theorem lengthOf_lt {n : Nat} (b : Bytes) (h : n < 15) : lengthOf n b = some (n, b) := by
  unfold lengthOf
  rw [if_neg (by omega)]
theorem LL_at {n : Nat} {b : Bytes} {p : Nat} (h : p < b.length) : LL n (b.drop p) = if bat b p = 255 then LL (n + 255) (b.drop (p + 1)) else some (n + bat b p, b.drop (p + 1)) := by
  obtain ⟨c, e, f⟩ := drop_bat h
  rw [e, LL_cons, ← f]
  by_cases hc : c = 255
  · rw [if_pos hc, if_pos (by rw [hc]; rfl)]
  · rw [if_neg hc, if_neg]
    intro z
    exact hc (UInt8.toNat_inj.mp z)
theorem LL_le : ∀ {b : Bytes} {m : Nat} {w : Bytes} {n : Nat}, LL n b = some (m, w) → m ≤ n + 255 * b.length
  | [], m, w, n, h => by rw [LL_nil] at h; cases h
  | c :: r, m, w, n, h => by
    rw [LL_cons] at h
    rw [List.length_cons]
    by_cases hc : c = 255
    · rw [if_pos hc] at h
      have := LL_le h
      omega
    · rw [if_neg hc] at h
      injection h with h
      injection h with h1 h2
      have := c.toNat_lt
      omega
theorem lengthOf_bound {n : Nat} {b : Bytes} {m : Nat} {w : Bytes} (hn : n ≤ 15) (h : lengthOf n b = some (m, w)) : m ≤ 15 + 255 * b.length := by
  by_cases c : n = 15
  · rw [c, lengthOf_15] at h
    exact LL_le h
  · rw [lengthOf_lt b (by omega)] at h
    injection h with h
    injection h with h1 h2
    omega
/-! ### a part, case by case -/
section
variable {go : Bytes → Bytes → Option Bytes} {from_ most n m : Nat} {t s w r : Bytes} {c : UInt8}
theorem partU_none (h : lengthOf (c.toNat / 16) r = none) : partU go from_ most t c r = none := by
  unfold partU
  rw [h]
  rfl
theorem partU_short (h : lengthOf (c.toNat / 16) r = some (n, s)) (h1 : s.length < n) : partU go from_ most t c r = none := by
  unfold partU
  rw [h]
  simp only [Option.bind_some, if_pos h1]
theorem partU_last (h : lengthOf (c.toNat / 16) r = some (n, s)) (h1 : ¬ s.length < n) (h2 : s.drop n = []) : partU go from_ most t c r = if most < (t ++ s.take n).length then none else some (t ++ s.take n) := by
  unfold partU
  rw [h]
  simp only [Option.bind_some, if_neg h1, if_pos h2]
theorem partU_cut (h : lengthOf (c.toNat / 16) r = some (n, s)) (h1 : ¬ s.length < n) (h2 : s.drop n ≠ []) (h3 : (s.drop n).length < 2) : partU go from_ most t c r = none := by
  unfold partU
  rw [h]
  simp only [Option.bind_some, if_neg h1, if_neg h2, if_pos h3]
  split <;> rfl
theorem partU_none2 (h : lengthOf (c.toNat / 16) r = some (n, s)) (h1 : ¬ s.length < n) (h2 : s.drop n ≠ []) (h3 : ¬ (s.drop n).length < 2) (h4 : lengthOf (c.toNat % 16) ((s.drop n).drop 2) = none) : partU go from_ most t c r = none := by
  unfold partU
  rw [h]
  simp only [Option.bind_some, if_neg h1, if_neg h2, if_neg h3, h4]
  split <;> rfl
theorem partU_bad (h : lengthOf (c.toNat / 16) r = some (n, s)) (h1 : ¬ s.length < n) (h2 : s.drop n ≠ []) (h3 : ¬ (s.drop n).length < 2) (h4 : lengthOf (c.toNat % 16) ((s.drop n).drop 2) = some (m, w))
    (h5 : le (s.drop n) 2 = 0 ∨ (t ++ s.take n).length < from_ + le (s.drop n) 2 ∨ most < (t ++ s.take n).length + m + 4) : partU go from_ most t c r = none := by
  unfold partU
  rw [h]
  simp only [Option.bind_some, if_neg h1, if_neg h2, if_neg h3, h4, if_pos h5]
  split <;> rfl
theorem partU_go (h : lengthOf (c.toNat / 16) r = some (n, s)) (h1 : ¬ s.length < n) (h2 : s.drop n ≠ []) (h3 : ¬ (s.drop n).length < 2) (h4 : lengthOf (c.toNat % 16) ((s.drop n).drop 2) = some (m, w))
    (h5 : ¬ (le (s.drop n) 2 = 0 ∨ (t ++ s.take n).length < from_ + le (s.drop n) 2 ∨ most < (t ++ s.take n).length + m + 4)) : partU go from_ most t c r = go (copied (m + 4) (le (s.drop n) 2) (t ++ s.take n)) w := by
  have h6 : ¬ most < (t ++ s.take n).length := fun z => h5 (.inr (.inr (by omega)))
  unfold partU
  rw [h]
  simp only [Option.bind_some, if_neg h1, if_neg h2, if_neg h3, h4, if_neg h5, if_neg h6]
end
end MR

namespace MN
open Kg18 MS MB MP

/-- the letters at a place are those at another -/
theorem same_iff {s : List Nat} {f g w : Nat} : (s.drop f).take w = (s.drop g).take w ↔ sameL s f g w := by
  constructor
  · intro h x hx
    have e := congrArg (fun l => l[x]?) h
    simp only [List.getElem?_take_of_lt hx, List.getElem?_drop] at e
    exact e
  · intro h
    apply List.ext_getElem?
    intro x
    by_cases c : x < w
    · rw [List.getElem?_take_of_lt c, List.getElem?_take_of_lt c, List.getElem?_drop, List.getElem?_drop]
      exact h x c
    · rw [List.getElem?_eq_none (by rw [List.length_take]; omega), List.getElem?_eq_none (by rw [List.length_take]; omega)]

/-- what a search back answers -/
def Near (t : Bytes) (i w near low : Nat) (z : Int) : Prop :=
  (z = -1 ∧ ∀ q, low ≤ q → q < near → ¬ eqn t q i w) ∨ ∃ q : Nat, z = (q : Int) ∧ low ≤ q ∧ q < near ∧ eqn t q i w ∧ ∀ p, q < p → p < near → ¬ eqn t p i w

/-- the part stands in the mirror -/
def occM (t : Bytes) (i w f : Nat) : Prop := ((mir t).drop f).take (2 * w) = ((mir t).drop (2 * (t.length - (i + w)))).take (2 * w)

theorem occ_at {t : Bytes} {i w f : Nat} (hw : 0 < w) (hi : i + w ≤ t.length) (hf : f + 2 * w ≤ 2 * t.length) (h : occM t i w f) : ∃ q, f = 2 * (t.length - (q + w)) ∧ q + w ≤ t.length ∧ eqn t q i w := by
  have hl := mir_length t
  have hs := (same_iff (s := mir t)).mp h
  obtain ⟨m, e⟩ : ∃ m, f = 2 * m ∨ f = 2 * m + 1 := ⟨f / 2, by omega⟩
  rcases e with e | e
  · refine ⟨t.length - m - w, by omega, by omega, ?_⟩
    have e2 : f = 2 * (t.length - (t.length - m - w + w)) := by omega
    rw [e2] at hs
    exact (mir_same (by omega) hi).mp hs
  · rw [e] at hs
    exact absurd hs (mir_parity hw (by omega) hi)
theorem occ_of {t : Bytes} {i w q : Nat} (hi : i + w ≤ t.length) (hq : q + w ≤ t.length) (h : eqn t q i w) : occM t i w (2 * (t.length - (q + w))) := by
  have hl := mir_length t
  exact (same_iff (s := mir t)).mpr ((mir_same hq hi).mpr h)

theorem near_none {t : Bytes} {i w near low : Nat} (hw : 0 < w) (hi : i + w ≤ t.length) (hn : near + w - 1 ≤ t.length)
    (h : ∀ f, 2 * (t.length - (near + w - 1)) ≤ f → f + 2 * w ≤ 2 * (t.length - low) → ¬ occM t i w f) : Near t i w near low (-1) :=
  .inl ⟨rfl, fun q a b z => h (2 * (t.length - (q + w))) (by omega) (by omega) (occ_of hi (by omega) z)⟩

theorem near_some {t : Bytes} {i w near low f : Nat} (hw : 0 < w) (hi : i + w ≤ t.length) (hn : near + w - 1 ≤ t.length)
    (h1 : 2 * (t.length - (near + w - 1)) ≤ f) (h2 : f + 2 * w ≤ 2 * (t.length - low)) (h3 : occM t i w f) (h4 : ∀ g, 2 * (t.length - (near + w - 1)) ≤ g → g < f → ¬ occM t i w g) :
    Near t i w near low ((t.length : Int) - ((f / 2 : Nat) : Int) - (w : Int)) := by
  obtain ⟨q, e, hq, he⟩ := occ_at hw hi (by omega) h3
  refine .inr ⟨q, by omega, by omega, by omega, he, fun p a b z => ?_⟩
  exact h4 (2 * (t.length - (p + w))) (by omega) (by omega) (occ_of hi (by omega) z)

/-- the nearest place ahead with the same four bytes -/
def Bef (t : Bytes) (p : Nat) (z : Int) : Prop :=
  (z = -1 ∧ ∀ q, q < p → ¬ eqn t q p 4) ∨ ∃ q : Nat, z = (q : Int) ∧ q < p ∧ eqn t q p 4 ∧ ∀ r, q < r → r < p → ¬ eqn t r p 4

/-- the latest place of each four bytes, as far as one has come -/
def Lat (t : Bytes) (i : Nat) (v : Int → Option Int) : Prop :=
  ∀ x : Int, (v x = none ∧ ∀ q, q < i → (four t q : Int) ≠ x) ∨ ∃ q : Nat, v x = some (q : Int) ∧ q < i ∧ (four t q : Int) = x ∧ ∀ r, q < r → r < i → (four t r : Int) ≠ x
theorem Lat.zero (t : Bytes) {v : Int → Option Int} (h : ∀ x, v x = none) : Lat t 0 v := fun x => .inl ⟨h x, fun q hq => by omega⟩
theorem Lat.bef {t : Bytes} {i : Nat} {v : Int → Option Int} (h : Lat t i v) : Bef t i ((v (four t i : Int)).getD (-1)) := by
  rcases h (four t i : Int) with ⟨e, h⟩ | ⟨q, e, h1, h2, h3⟩
  · rw [e]
    exact .inl ⟨rfl, fun q hq z => h q hq (by rw [four_eqn.mpr z])⟩
  · rw [e]
    refine .inr ⟨q, rfl, h1, four_eqn.mp (by omega), fun r a b z => h3 r a b (by rw [four_eqn.mpr z])⟩
theorem Lat.put {t : Bytes} {i : Nat} {v v' : Int → Option Int} (h : Lat t i v) (hv : ∀ x, v' x = if x = (four t i : Int) then some (i : Int) else v x) : Lat t (i + 1) v' := fun x => by
  rw [hv]
  by_cases c : x = (four t i : Int)
  · rw [if_pos c]
    exact .inr ⟨i, rfl, Nat.lt_succ_self i, c.symm, fun r a b => by omega⟩
  · rw [if_neg c]
    rcases h x with ⟨e, h⟩ | ⟨q, e, h1, h2, h3⟩
    · refine .inl ⟨e, fun q hq z => ?_⟩
      by_cases d : q = i
      · rw [d] at z; exact c z.symm
      · exact h q (by omega) z
    · refine .inr ⟨q, e, by omega, h2, fun r a b z => ?_⟩
      by_cases d : r = i
      · rw [d] at z; exact c z.symm
      · exact h3 r a (by omega) z
end MN

namespace MF
open Kg18 MS MB MP

/-- the head's flags -/
def headF (f : Nat) : Nat := 64 + (if f.testBit 3 = true then 0 else 32) + (if f.testBit 1 = true then 16 else 0) + (if f.testBit 2 = true then 8 else 0) + (if f.testBit 0 = true then 4 else 0)
theorem headF_lt (f : Nat) : headF f < 256 := by
  unfold headF
  split <;> split <;> split <;> split <;> omega
/-- what is summed of a head -/
def headD (f n : Nat) : Bytes := [UInt8.ofNat (headF f), 0x40] ++ (if f.testBit 2 = true then spelled 8 n else [])
theorem head_eq (f n : Nat) : head f n = spelled 4 0x184D2204 ++ headD f n ++ [UInt8.ofNat (Kg18.sum 0 (headD f n) / 256)] := rfl
theorem magic : spelled 4 0x184D2204 = [4, 34, 77, 24] := by decide
theorem headD_length (f n : Nat) : (headD f n).length ≤ 10 := by
  unfold headD
  rw [List.length_append]
  split
  · rw [spelled_length]; simp
  · simp
theorem head_length (f n : Nat) : (head f n).length ≤ 15 := by
  rw [head_eq, List.length_append, List.length_append, spelled_length]
  have := headD_length f n
  simp
  omega

/-! ### a block of a frame -/
def zOf (t : Bytes) (a : Nat) : Nat := min t.length (a + 65536)
def frOf (f a : Nat) : Nat := if f.testBit 3 = true then a - 65536 else a
def pOf (f : Nat) (t : Bytes) (a : Nat) : Bytes := packed t (frOf f a) a (zOf t a)
def dOf (f : Nat) (t : Bytes) (a : Nat) : Bytes := if (pOf f t a).length < zOf t a - a then pOf f t a else (t.take (zOf t a)).drop a
def toldOf (f : Nat) (t : Bytes) (a : Nat) : Nat := (dOf f t a).length + if (pOf f t a).length < zOf t a - a then 0 else 2 ^ 31
def blockA (f : Nat) (t : Bytes) (a : Nat) : Bytes := spelled 4 (toldOf f t a) ++ dOf f t a ++ if f.testBit 1 = true then spelled 4 (Kg18.sum 0 (dOf f t a)) else []
theorem block_eq (f : Nat) (t : Bytes) (i : Nat) : block f t i = blockA f t (65536 * i) := rfl
theorem dOf_length (f : Nat) (t : Bytes) (a : Nat) : (dOf f t a).length ≤ 65536 := by
  unfold dOf
  split
  · unfold zOf at *; omega
  · rw [List.length_drop, List.length_take]
    unfold zOf
    omega
theorem blockA_length (f : Nat) (t : Bytes) (a : Nat) : (blockA f t a).length ≤ 65544 := by
  have h := dOf_length f t a
  unfold blockA
  rw [List.length_append, List.length_append, spelled_length]
  split
  · rw [spelled_length]; omega
  · simp; omega

/-- a frame as far as its blocks have come -/
def sofar (f : Nat) (t : Bytes) (i : Nat) : Bytes := head f t.length ++ (List.range i).flatMap (block f t)
theorem sofar_zero (f : Nat) (t : Bytes) : sofar f t 0 = head f t.length := by
  unfold sofar
  simp
theorem sofar_succ (f : Nat) (t : Bytes) (i : Nat) : sofar f t (i + 1) = sofar f t i ++ blockA f t (65536 * i) := by
  unfold sofar
  rw [List.range_succ, List.flatMap_append, ← List.append_assoc]
  congr 1
  simp [block_eq]
theorem sofar_length (f : Nat) (t : Bytes) : ∀ i, (sofar f t i).length ≤ 15 + 65544 * i
  | 0 => by rw [sofar_zero]; exact head_length _ _
  | i + 1 => by
    have h1 := sofar_length f t i
    have h2 := blockA_length f t (65536 * i)
    rw [sofar_succ, List.length_append]
    omega
theorem framed_eq (f : Nat) (t : Bytes) : framed f t = sofar f t ((t.length + 65535) / 65536) ++ [0, 0, 0, 0] ++ if f.testBit 0 = true then spelled 4 (Kg18.sum 0 t) else [] := rfl

/-- a bit of the flags -/
theorem and_bit (f i : Nat) : f &&& 2 ^ i = if f.testBit i = true then 2 ^ i else 0 := by
  apply Nat.eq_of_testBit_eq
  intro j
  rw [Nat.testBit_and, Nat.testBit_two_pow]
  by_cases c : i = j
  · subst c
    cases h : f.testBit i
    · simp
    · simp [Nat.testBit_two_pow]
  · have e : decide (i = j) = false := decide_eq_false c
    rw [e, Bool.and_false]
    split
    · rw [Nat.testBit_two_pow, e]
    · exact (Nat.zero_testBit j).symm
end MF

/-! ### what all the laws share -/
namespace C
open PySem L2 Kg18 MS
/-- bytes as the heap holds them -/
def bv (b : Bytes) : List V := (MU.zs b).map V.int
theorem bv_length (b : Bytes) : (bv b).length = b.length := by unfold bv; rw [List.length_map, MU.zs_length]
theorem bv_get {b : Bytes} {p : Nat} (h : p < b.length) : (bv b)[p]? = some (.int (bat b p : Nat)) := by
  unfold bv MU.zs bat
  rw [List.getElem?_map, List.getElem?_map, List.getElem?_eq_getElem h, List.getD_eq_getElem?_getD, List.getElem?_eq_getElem h]
  rfl
theorem bv_at {b : Bytes} {p : Nat} {z : Int} (e : z = (p : Int)) (h : p < b.length) : atI (bv b) z = some (.int (bat b p : Nat)) := at_of e (bv_get h)
theorem qint {Q : VK} {x y : Int} {H : Hp} (h : Q (.int y) H) (e : x = y) : Q (.int x) H := by rw [e]; exact h
theorem qv {Q : VK} {v : V} {y : Int} {H : Hp} (e : v = .int y) (h : Q (.int y) H) : Q v H := by rw [e]; exact h
theorem bv_append (a b : Bytes) : bv (a ++ b) = bv a ++ bv b := by unfold bv MU.zs; rw [List.map_append, List.map_append]
theorem bv_take (b : Bytes) (n : Nat) : (bv b).take n = bv (b.take n) := by unfold bv MU.zs; rw [List.map_take, List.map_take]
theorem bv_drop (b : Bytes) (n : Nat) : (bv b).drop n = bv (b.drop n) := by unfold bv MU.zs; rw [List.map_drop, List.map_drop]
theorem same_new {H : Hp} {p : Addr} (h : H p = none) (o : HO) : Same H (upd H p o) := fun b u q => by rw [upd_ne (ne_of_none q h)]; exact q
theorem line {n : Nat} (h : n ≤ 16777216) : n ≤ sizeLine := by rw [sizeLine_eq]; exact h
/-- a whole number of the top's -/
theorem pe_gint {X : Cx} {x : Str} {n : Int} {pos : Pos} (hg : Gl X x) (hm : ∃ t, X.mg x = some (.int n t)) (hd : (x == ("__debug__" : Str)) = false := by decide) : PE X (.Name x pos) (tC (.int n)) := by
  obtain ⟨t, h⟩ := hm
  exact pe_glob hg h ⟨t, rfl⟩ hd
abbrev GInt (mg : Str → Option Value) (x : Str) (n : Int) : Prop := ∃ t, mg x = some (.int n t)
theorem shl_ok {x : Nat} {k : Int} (h0 : 0 ≤ k) (h1 : k ≤ 64) (hx : x < 2 ^ 64) : CPow (x : Int) k := ⟨h0, by omega, by omega⟩

theorem p32 : (0 : Int) < 4294967296 := by decide
theorem nn (n : Nat) : (0 : Int) ≤ OfNat.ofNat n := Int.natCast_nonneg n
/-- an operator's answer, told by an equation -/
def rE (C : Int → Int → Prop) (g : Int → Int → Int) : R2 := fun x y H Q => ∃ k i j, x = .int i ∧ y = .int j ∧ C i j ∧ g i j = k ∧ Q (.int k) H
def rE0 (g : Int → Int → Int) : R2 := fun x y H Q => ∃ k i j, x = .int i ∧ y = .int j ∧ g i j = k ∧ Q (.int k) H
theorem eI {X : Cx} {f : Value → Value → Sem Value} {C : Int → Int → Prop} {g : Int → Int → Int} (h : OpR X f (rI C fun i j => .int (g i j))) : OpR X f (rE C g) := by
  intro pins s σ H x y u v Q I rx ry hq
  obtain ⟨k, i, j, e1, e2, c, e, q⟩ := hq
  subst e
  exact h pins s σ H x y u v Q I rx ry ⟨i, j, e1, e2, c, q⟩
theorem eI0 {X : Cx} {f : Value → Value → Sem Value} {g : Int → Int → Int} (h : OpR X f (rI0 fun i j => .int (g i j))) : OpR X f (rE0 g) := by
  intro pins s σ H x y u v Q I rx ry hq
  obtain ⟨k, i, j, e1, e2, e, q⟩ := hq
  subst e
  exact h pins s σ H x y u v Q I rx ry ⟨i, j, e1, e2, q⟩
/-- the length of bytes -/
theorem call_len_bv {X : Cx} : CallR X (.builtin "len") (fun xs H Q => ∃ p b, xs = [.ref p] ∧ SqL X.K H p (bv b) ∧ Q (.int (b.length : Nat)) H) := by
  intro pins s σ H xs us Q I r h
  obtain ⟨p, b, e, hS, q⟩ := h
  exact call_len_seq pins s σ H xs us Q I r ⟨p, bv b, e, .inl hS, by rw [bv_length]; exact q⟩
/-- what holds behind a statement, whatever way it went -/
def tCut (t : TS) : TS := fun D σ H => ∃ J : St → Hp → Prop, t { D with nx := J } σ H ∧ ∀ σ' H', J σ' H' → D.nx σ' H'
theorem ps_cut {X : Cx} {st : Stmt} {t : TS} (h : PS X st t) : PS X st (tCut t) := by
  intro pins s σ H D I hw
  obtain ⟨J, h1, h2⟩ := hw
  refine thn (h pins s σ H _ I h1) fun f s' q => ?_
  cases f with
  | next =>
    obtain ⟨σ', H', I', j⟩ := q
    exact ⟨σ', H', I', h2 _ _ j⟩
  | brk => exact q
  | cont => exact q
  | ret u => exact q
/-! the sum's arithmetic -/
theorem rot_or {x k : Nat} (hx : x < 4294967296) (h0 : 0 < k) (h1 : k < 32) :
    Builtin.bitOr ((x : Int) * 2 ^ ((k : Int)).toNat) ((x : Int) / 2 ^ ((32 - (k : Int))).toNat) % 4294967296 = ((rotl x k : Nat) : Int) := by
  have e1 : ((k : Int)).toNat = k := rfl
  have e2 : ((32 - (k : Int))).toNat = 32 - k := by omega
  have e3 : (x : Int) / 2 ^ (32 - k) = ((x / 2 ^ (32 - k) : Nat) : Int) := by
    rw [Int.natCast_ediv, Int.natCast_pow]
    rfl
  have hs : 2 ^ (32 - k) * 2 ^ k = 4294967296 := by
    rw [← Nat.pow_add]
    have : 32 - k + k = 32 := by omega
    rw [this]
  have hlt : x / 2 ^ (32 - k) < 2 ^ k := by
    apply Nat.div_lt_of_lt_mul
    rw [hs]
    exact hx
  rw [e1, e2, e3]
  have hlt' : ((x / 2 ^ (32 - k) : Nat) : Int) < 2 ^ k := by
    have q : ((x / 2 ^ (32 - k) : Nat) : Int) < ((2 ^ k : Nat) : Int) := Int.ofNat_lt.mpr hlt
    rw [Int.natCast_pow] at q
    exact q
  rw [Bits.bitOr_join' (Int.natCast_nonneg _) hlt' (Int.natCast_nonneg _)]
  unfold rotl
  have hM : M = 4294967296 := by decide
  rw [hM, Int.natCast_emod, Int.natCast_add, Int.natCast_mul, Int.natCast_pow, Int.add_comm]
  rfl
theorem shr_nat {x : Nat} {k : Nat} : (x : Int) / 2 ^ ((k : Int)).toNat = ((x / 2 ^ k : Nat) : Int) := by
  have e1 : ((k : Int)).toNat = k := rfl
  rw [e1, Int.natCast_ediv, Int.natCast_pow]
  rfl
theorem xor_nat {x y : Nat} : Builtin.bitXor (x : Int) (y : Int) = ((x ^^^ y : Nat) : Int) := by
  rw [Bits.bitXor_pp (Int.natCast_nonneg _) (Int.natCast_nonneg _)]
  rfl
/-- the four sums while one stripe is taken: the first j are new -/
def L4 (a n : Nat → Int) (j : Nat) : List Int := [if 0 < j then n 0 else a 0, if 1 < j then n 1 else a 1, if 2 < j then n 2 else a 2, if 3 < j then n 3 else a 3]
theorem L4_get {a n : Nat → Int} {j : Nat} (h : j < 4) : (L4 a n j)[j]? = some (a j) := by
  match j, h with
  | 0, _ => rfl
  | 1, _ => rfl
  | 2, _ => rfl
  | 3, _ => rfl
theorem L4_set {a n : Nat → Int} {j : Nat} (h : j < 4) : (L4 a n j).set j (n j) = L4 a n (j + 1) := by
  match j, h with
  | 0, _ => rfl
  | 1, _ => rfl
  | 2, _ => rfl
  | 3, _ => rfl
def sel (s : S4) : Nat → Nat
  | 0 => s.1
  | 1 => s.2.1
  | 2 => s.2.2.1
  | _ => s.2.2.2
theorem sel0 (s : S4) : sel s 0 = s.1 := rfl
theorem sel1 (s : S4) : sel s 1 = s.2.1 := rfl
theorem sel2 (s : S4) : sel s 2 = s.2.2.1 := rfl
theorem sel3 (s : S4) : sel s 3 = s.2.2.2 := rfl
theorem one0 (s : S4) (b : Bytes) : (one s b).1 = round s.1 (le b 4) := by unfold one; exact Eq.refl _
theorem one1 (s : S4) (b : Bytes) : (one s b).2.1 = round s.2.1 (le (b.drop 4) 4) := by unfold one; exact Eq.refl _
theorem one2 (s : S4) (b : Bytes) : (one s b).2.2.1 = round s.2.2.1 (le (b.drop 8) 4) := by unfold one; exact Eq.refl _
theorem one3 (s : S4) (b : Bytes) : (one s b).2.2.2 = round s.2.2.2 (le (b.drop 12) 4) := by unfold one; exact Eq.refl _
theorem sel_one {s : S4} {b : Bytes} {j : Nat} (h : j < 4) : sel (one s b) j = round (sel s j) (le (b.drop (4 * j)) 4) := by
  match j, h with
  | 0, _ => rw [sel0, sel0, one0, Nat.mul_zero, List.drop_zero]
  | 1, _ => rw [sel1, sel1, one1]
  | 2, _ => rw [sel2, sel2, one2]
  | 3, _ => rw [sel3, sel3, one3]
theorem sel_one_lt {s : S4} {b : Bytes} {j : Nat} (h : j < 4) : sel (one s b) j < 4294967296 := by
  rw [sel_one h]
  exact round_lt _ _
theorem rg16 {n : Nat} (h : 16 ≤ n) (h2 : n ≤ 16777216) : RgC 0 ((n : Int) - 15) 16 (n / 16) := by
  have e : Builtin.Range.rangeSize 0 ((n : Int) - 15) 16 = ((n / 16 : Nat) : Int) := by
    unfold Builtin.Range.rangeSize
    rw [if_pos (by decide), if_pos (by omega)]
    omega
  refine ⟨by decide, by decide, ?_, e⟩
  unfold Builtin.Range.small
  rw [e]
  simp only [Builtin.Range.rangeFitsLong, Bool.and_eq_true, Bool.or_eq_true, decide_eq_true_eq, beq_iff_eq, show (16 : Int) > 0 by decide, if_true]
  omega
end C

/-! ### more of what the laws share -/
namespace C
open PySem L2 Kg18 MS
/-- the turns of reversed(list) -/
theorem for_rev {K : PySem.W.Frag} {a : Addr} {xs : List V} {g : TG} {tb : TS} {D : Ends} {σ : St} {H : Hp} (Pv : Nat → St → Hp → Prop) (h0 : Pv 0 σ H) (hl : ∀ i σ H, i ≤ xs.length → Pv i σ H → SqL K H a xs)
    (hs : ∀ i x σ H, i < xs.length → xs[xs.length - 1 - i]? = some x → Pv i σ H → g x σ H fun σ2 H2 => tb { D with nx := Pv (i + 1), ct := Pv (i + 1), bk := D.nx } σ2 H2) (hd : ∀ σ H, Pv xs.length σ H → D.nx σ H) :
    ∃ W : Nat → Nat → St → Hp → Prop, (∃ m, W 0 m σ H) ∧ ∀ i m σ H, W i m σ H →
      ((Itv K a xs.length).stop i H ∧ D.nx σ H) ∨ ((Itv K a xs.length).go i H ∧ ∃ N : St → Hp → Prop, (∀ σ' H', N σ' H' → ∃ m', m' < m ∧ W (i + 1) m' σ' H') ∧ ∀ x H', (Itv K a xs.length).yld i H x H' → g x σ H' fun σ2 H2 => tb { D with nx := N, ct := N, bk := D.nx } σ2 H2) := by
  refine ⟨fun i m σ H => m = xs.length - i ∧ i ≤ xs.length ∧ Pv i σ H, ⟨xs.length, by simp, Nat.zero_le _, h0⟩, ?_⟩
  rintro i m σ H ⟨rfl, hi, p⟩
  have q := hl i σ H hi p
  by_cases hlt : i < xs.length
  · refine .inr ⟨⟨hlt, xs, xs[xs.length - 1 - i]'(by omega), q, List.getElem?_eq_getElem (by omega)⟩, Pv (i + 1), fun σ' H' p' => ⟨xs.length - (i + 1), by omega, rfl, hlt, p'⟩, fun x H' y => ?_⟩
    obtain ⟨e, y⟩ := y
    subst e
    exact hs i x σ _ hlt (y xs q) p
  · have e : i = xs.length := by omega
    subst e
    exact .inl ⟨Nat.le_refl _, hd σ H p⟩
/-- all stands but what lies at one place -/
def But (r : Addr) (H H' : Hp) : Prop := ∀ c o, H c = some o → c ≠ r → H' c = some o
theorem But.refl (r : Addr) (H : Hp) : But r H H := fun _ _ h _ => h
theorem But.trans {r : Addr} {H H1 H2 : Hp} (a : But r H H1) (b : But r H1 H2) : But r H H2 := fun c o h n => b c o (a c o h n) n
theorem But.of {r : Addr} {H H' : Hp} (a : Same H H') : But r H H' := fun c o h _ => a c o h
theorem But.upd {r : Addr} {H : Hp} (o : HO) : But r H (upd H r o) := fun c u h n => by rw [upd_ne n]; exact h
theorem But.free {r : Addr} {H H' : Hp} (a : But r H H') {l : Addr} (h : H' l = none) (n : l ≠ r) : H l = none := by
  cases e : H l with
  | none => rfl
  | some o => rw [a l o e n] at h; cases h
/-- a list stays where something else was changed -/
theorem But.seq {K : PySem.W.Frag} {r : Addr} {H H' : Hp} (a : But r H H') {l : Addr} {xs : List V} (h : SqL K H l xs) (n : l ≠ r) : SqL K H' l xs := by
  rcases h with h | h
  · rcases h with h | ⟨o, h⟩
    · exact .inl (.inl (a l _ h n))
    · exact .inl (.inr ⟨o, a l _ h n⟩)
  · exact .inr h
/-- whatever is done at t, at a stands this list -/
def Fix (K : PySem.W.Frag) (H : Hp) (a t : Addr) (xs : List V) : Prop := ∀ H', But t H H' → SqL K H' a xs
theorem Fix.of {K : PySem.W.Frag} {H : Hp} {a t : Addr} {xs : List V} (h : SqL K H a xs) (n : a ≠ t) : Fix K H a t xs := fun _ k => k.seq h n
theorem Fix.new {K : PySem.W.Frag} {H0 H : Hp} {a t : Addr} {xs : List V} (h : SqL K H0 a xs) (n : H0 t = none) (s : Same H0 H) : Fix K H a t xs := fun H' k => by
  rcases h with h | h
  · rcases h with h | ⟨o, h⟩
    · exact .inl (.inl (k a _ (s _ _ h) (ne_of_none h n)))
    · exact .inl (.inr ⟨o, k a _ (s _ _ h) (ne_of_none h n)⟩)
  · exact .inr h
theorem Fix.seq {K : PySem.W.Frag} {H : Hp} {a t : Addr} {xs : List V} (h : Fix K H a t xs) : SqL K H a xs := h H (But.refl _ _)
theorem Fix.then {K : PySem.W.Frag} {H H' : Hp} {a t : Addr} {xs : List V} (h : Fix K H a t xs) (k : But t H H') : Fix K H' a t xs := fun H2 k2 => h H2 (k.trans k2)
/-- .. an object -/
theorem But.seqI {K : PySem.W.Frag} {r : Addr} {H H' : Hp} (a : But r H H') {l C dx : Addr} {fs : List (Str × V)} {xs : List V} (hr : H r = some (.ins C dx fs)) (h : SqL K H l xs) : SqL K H' l xs := by
  rcases h with h | h
  · rcases h with h | ⟨o, h⟩
    · exact .inl (.inl (a l _ h (ne_of h hr (by intro z; cases z))))
    · exact .inl (.inr ⟨o, a l _ h (ne_of h hr (by intro z; cases z))⟩)
  · exact .inr h
/-- what was made since does not count -/
theorem But.skip {t r : Addr} {H H1 H2 : Hp} (a : But t H H1) (hr : H r = none) (b : But r H1 H2) : But t H H2 := fun c o h n => b c o (a c o h n) (ne_of_none h hr)
theorem But.same {t : Addr} {H H1 H2 : Hp} (a : But t H H1) (b : Same H1 H2) : But t H H2 := fun c o h n => b c o (a c o h n)
theorem and15 {x : Nat} : Builtin.bitAnd (x : Int) 15 = ((x % 16 : Nat) : Int) := by
  have e := Bits.bitAnd_mask (x := (x : Int)) 4 (Int.natCast_nonneg _)
  have e1 : ((2 : Int) ^ 4 - 1) = 15 := by decide
  have e2 : ((2 : Int) ^ 4) = 16 := by decide
  rw [e1, e2] at e
  rw [e]
  omega
theorem shr4 {x : Nat} : (x : Int) / 2 ^ ((4 : Int)).toNat = ((x / 16 : Nat) : Int) := by
  have e : (x : Int) / 2 ^ ((4 : Int)).toNat = ((x / 2 ^ 4 : Nat) : Int) := shr_nat (k := 4)
  exact e
theorem cut_bv {b : Bytes} {lo hi : Int} {p q : Nat} (e1 : lo = (p : Int)) (e2 : hi = (q : Int)) (h1 : p ≤ q) (h2 : q ≤ b.length) : cutV (bv b) (some lo) (some hi) = bv ((b.drop p).take (q - p)) := by
  unfold cutV
  rw [e1, e2, HT.sIx_nat, HT.sIx_nat, bv_length, Nat.min_eq_left h2, Nat.min_eq_left (Nat.le_trans h1 h2), bv_drop, bv_take]
theorem cut_from {b : Bytes} {lo : Int} {p : Nat} (e1 : lo = (p : Int)) (h1 : p ≤ b.length) : cutV (bv b) (some lo) none = bv (b.drop p) := by
  unfold cutV
  rw [e1, HT.sIx_nat, HT.sIx_none, bv_length, Nat.min_eq_left h1, bv_drop, List.take_of_length_le]
  rw [bv_length, List.length_drop]
  exact Nat.le_refl _
theorem cut_to {b : Bytes} {hi : Int} {q : Nat} (e2 : hi = (q : Int)) (h2 : q ≤ b.length) : cutV (bv b) none (some hi) = bv (b.take q) := by
  unfold cutV
  rw [e2, HT.sIx_nat, HT.sIx_none, bv_length, Nat.min_eq_left h2, List.drop_zero, Nat.sub_zero, bv_take]
theorem bv_rep (u : Bytes) (k : Nat) : (List.replicate k (bv u)).flatten = bv (List.replicate k u).flatten := by
  induction k with
  | zero => rfl
  | succ k ih => rw [List.replicate_succ, List.flatten_cons, ih, List.replicate_succ, List.flatten_cons, bv_append]
end C

/-! ### what packing shares -/
namespace C
open PySem L2 Kg18 MS
theorem boot_mx : bootBuiltins "max" = some (.builtin "max") := by decide +kernel
theorem boot_mn : bootBuiltins "min" = some (.builtin "min") := by decide +kernel
theorem call_minE {X : Cx} (hc : X.calm = true) : CallR X (.builtin "min") (fun xs H Q => ∃ k i j, xs = [.int i, .int j] ∧ min i j = k ∧ Q (.int k) H) := by
  intro pins s σ H xs us Q I r h
  obtain ⟨k, i, j, e, ek, q⟩ := h
  subst ek
  refine call_min2 hc pins s σ H xs us Q I r ⟨i, j, e, ?_⟩
  have e1 : (if j < i then j else i) = min i j := by split <;> omega
  rw [e1]
  exact q
theorem call_maxE {X : Cx} (hc : X.calm = true) : CallR X (.builtin "max") (fun xs H Q => ∃ k i j, xs = [.int i, .int j] ∧ max i j = k ∧ Q (.int k) H) := by
  intro pins s σ H xs us Q I r h
  obtain ⟨k, i, j, e, ek, q⟩ := h
  subst ek
  refine call_max2 hc pins s σ H xs us Q I r ⟨i, j, e, ?_⟩
  have e1 : (if j > i then j else i) = max i j := by split <;> omega
  rw [e1]
  exact q
abbrev GStr (mg : Str → Option Value) (x : Str) (s : Str) : Prop := ∃ t, mg x = some (.str s t)
theorem pe_gstr {X : Cx} {x z : Str} {pos : Pos} (hg : Gl X x) (hm : ∃ t, X.mg x = some (.str z t)) (hd : (x == ("__debug__" : Str)) = false := by decide) : PE X (.Name x pos) (tC (.str z)) := by
  obtain ⟨t, h⟩ := hm
  exact pe_glob hg h ⟨t, rfl⟩ hd
/-- over reversed(list) -/
theorem lc_rev {K : PySem.W.Frag} {a : Addr} {xs : List V} {g : TG} {tt : TT} {te : TE} {vs : List Nat} {σ : St} {H1 : Hp} {D : Addr} {Qd : Hp → Prop} (Pv : Nat → Hp → Prop) (h0 : Pv 0 (upd H1 D (.lst []))) (hl : ∀ i H, i ≤ xs.length → Pv i H → SqL K H a xs)
    (hs : ∀ i x H, i < xs.length → xs[xs.length - 1 - i]? = some x → Pv i H → g x (wipe σ vs) H fun σ2 H2 => wipe σ2 vs = wipe σ vs ∧ tt σ2 H2 fun b H3 =>
      if b = true then te σ2 H3 fun y H4 => ∃ acc, H4 D = some (.lst acc) ∧ acc.length < sizeLine ∧ Pv (i + 1) (upd H4 D (.lst (acc ++ [y]))) else Pv (i + 1) H3) (hd : ∀ H, Pv xs.length H → Qd H) :
    ∃ W : Nat → Nat → Hp → Prop, (∃ m, W 0 m (upd H1 D (.lst []))) ∧ ∀ i m H, W i m H →
      ((Itv K a xs.length).stop i H ∧ Qd H) ∨ ((Itv K a xs.length).go i H ∧ ∃ Nx : Hp → Prop, (∀ H', Nx H' → ∃ m', m' < m ∧ W (i + 1) m' H') ∧ ∀ x H', (Itv K a xs.length).yld i H x H' → g x (wipe σ vs) H' fun σ2 H2 => wipe σ2 vs = wipe σ vs ∧ tt σ2 H2 fun b H3 =>
        if b = true then te σ2 H3 fun y H4 => ∃ acc, H4 D = some (.lst acc) ∧ acc.length < sizeLine ∧ Nx (upd H4 D (.lst (acc ++ [y]))) else Nx H3) := by
  refine ⟨fun i m H => m = xs.length - i ∧ i ≤ xs.length ∧ Pv i H, ⟨xs.length, by simp, Nat.zero_le _, h0⟩, ?_⟩
  rintro i m H ⟨rfl, hi, p⟩
  have q := hl i H hi p
  by_cases hlt : i < xs.length
  · refine .inr ⟨⟨hlt, xs, xs[xs.length - 1 - i]'(by omega), q, List.getElem?_eq_getElem (by omega)⟩, Pv (i + 1), fun H' p' => ⟨xs.length - (i + 1), by omega, rfl, hlt, p'⟩, fun x H' y => ?_⟩
    obtain ⟨e, y⟩ := y
    subst e
    exact hs i x _ hlt (y xs q) p
  · have e : i = xs.length := by omega
    subst e
    exact .inl ⟨Nat.le_refl _, hd H p⟩
theorem at_N {α : Type} {xs : List α} {j : Nat} {v : α} (h : xs[j]? = some v) : atI xs ((j : Nat) : Int) = some v := atI_nat h
theorem tyes {σ : St} {H : Hp} {A B : Hp → Prop} (h : A H) : tYes σ H (fun b H3 => if b = true then A H3 else B H3) := by
  show if true = true then A H else B H
  exact iteT h
theorem and255 {x : Nat} : Builtin.bitAnd (x : Int) 255 = ((x % 256 : Nat) : Int) := by
  have e := Bits.bitAnd_mask (x := (x : Int)) 8 (Int.natCast_nonneg _)
  have e1 : ((2 : Int) ^ 8 - 1) = 255 := by decide
  have e2 : ((2 : Int) ^ 8) = 256 := by decide
  rw [e1, e2] at e
  rw [e]
  omega
theorem low_val {n i : Nat} {z : Int} (e : z = 8 * (i : Int)) : Builtin.bitAnd ((n : Int) / 2 ^ z.toNat) 255 = ((n / 256 ^ i % 256 : Nat) : Int) := by
  have e1 : z.toNat = 8 * i := by omega
  have e2 : (n : Int) / 2 ^ (8 * i) = ((n / 256 ^ i : Nat) : Int) := by
    rw [Int.natCast_ediv, Int.natCast_pow, Int.pow_mul]
    rfl
  rw [e1, e2, and255]
theorem spelled_get {w n i : Nat} (h : i < w) : (spelled w n)[i]? = some (UInt8.ofNat (n / 256 ^ i)) := by
  unfold spelled
  rw [List.getElem?_map, List.getElem?_range h]
  rfl
theorem spelled_at {w n i : Nat} (h : i < w) : (bv (spelled w n))[i]? = some (.int ((n / 256 ^ i % 256 : Nat) : Int)) := by
  unfold bv MU.zs
  rw [List.getElem?_map, List.getElem?_map, spelled_get h]
  show some (V.int ((UInt8.ofNat (n / 256 ^ i)).toNat : Int)) = _
  rw [UInt8.toNat_ofNat']
theorem take_succ_at {xs : List V} {i : Nat} {v : V} (h : xs[i]? = some v) : xs.take i ++ [v] = xs.take (i + 1) := by
  rw [List.take_add_one, h]
  rfl
theorem bv_one (n : Nat) (h : n < 256) : bv [UInt8.ofNat n] = [V.int (n : Int)] := by
  show [V.int ((UInt8.ofNat n).toNat : Int)] = _
  rw [UInt8.toNat_ofNat', Nat.mod_eq_of_lt h]
end C

/-! ### text.find(part, begin, end) -/
namespace FD
open PySem PySem.Spec PyProof.Rows L2 TL PySem.Builtin PySem.Builtin.Str
def find4 (x y : Str) (lo hi : Nat) : Int := match occurrences x y lo hi 1 with
  | k :: _ => (k : Int)
  | [] => -1
theorem clip_nat (i n : Nat) : (max (0 : Int) (if (i : Int) < 0 then (i : Int) + (n : Int) else (i : Int))).toNat = i := by
  rw [if_neg (by omega)]
  omega
theorem gives4 (x y : Str) (i j : Nat) (t u v v' : Tok) : Gives («str.find» ⟨[.str x t, .str y u, .int (i : Int) v, .int (j : Int) v'], []⟩) (.int (find4 x y i (min j x.length))) := by
  show Gives (match occurrences x y (max (0 : Int) (if (i : Int) < 0 then (i : Int) + (x.length : Int) else (i : Int))).toNat (min (max (0 : Int) (if (j : Int) < 0 then (j : Int) + (x.length : Int) else (j : Int))).toNat x.length) 1 with
    | k :: _ => retInt k
    | [] => (do rule "str.find.not-found"; retInt (-1))) _
  rw [clip_nat, clip_nat]
  unfold find4
  cases occurrences x y i (min j x.length) 1 with
  | nil => exact .rule (.of_eq rfl)
  | cons k r => exact .of_eq rfl
theorem call4 {prog : Program} {w : World} {A : Around} {E : Value → Shared → Prop} {s : Shared} {x y : Str} {t u v v' : Tok} {i j : Nat} {Q : Value → Shared → Prop}
    (hq : Q (.int (find4 x y i (min j x.length)) s.toks) { s with toks := s.toks + 1 }) : wpAny (model prog w) A (call (.builtin "str.find") [.str x t, .str y u, .int (i : Int) v, .int (j : Int) v']) Q E s :=
  call_gives F.slot_str_find (typeIs_str _ _ _) F.entry_str_find (F.args_str_find_4 _ _ _ _) (gives4 x y i j t u v v') hq
theorem mt_find4 {X : Cx} : MtR X "str.find" (fun x xs H Q => ∃ (a b : Str) (i j : Nat), x = .str a ∧ xs = [.str b, .int i, .int j] ∧ Q (.int (find4 a b i (min j a.length))) H) := by
  intro pins s σ H x xs v us Q I rx rs h
  obtain ⟨a, b, i, j, rfl, rfl, h⟩ := h
  obtain ⟨t, rfl⟩ := rx
  cases rs with
  | cons r1 rs =>
    cases rs with
    | cons r2 rs =>
      cases rs with
      | cons r3 rs =>
        cases rs
        obtain ⟨u, rfl⟩ := r1
        obtain ⟨u2, rfl⟩ := r2
        obtain ⟨u3, rfl⟩ := r3
        exact call4 ⟨.int (find4 a b i (min j a.length)), H, I.tok _, ⟨_, rfl⟩, h⟩
/-- the part stands at a place -/
def Occ (x y : Str) (i : Nat) : Prop := ((tl x).drop i).take (tl y).length = tl y
theorem at_occ {x y : Str} {hi i : Nat} : StrLaws.At x y hi i ↔ i + (tl y).length ≤ hi ∧ Occ x y i := by
  unfold StrLaws.At Occ
  rw [StrLaws.subAt_eq, len_tl y, beq_iff_eq]
theorem find4_spec (x y : Str) (lo hi : Nat) : (find4 x y lo hi = -1 ∧ ∀ i, lo ≤ i → i + (tl y).length ≤ hi → ¬ Occ x y i) ∨
    ∃ k : Nat, find4 x y lo hi = (k : Int) ∧ lo ≤ k ∧ k + (tl y).length ≤ hi ∧ Occ x y k ∧ ∀ i, lo ≤ i → i < k → ¬ Occ x y i := by
  have hd : ∀ l, occurrences x y lo hi 1 = l → (l = [] → find4 x y lo hi = -1) ∧ ∀ k r, l = k :: r → find4 x y lo hi = (k : Int) := by
    intro l e
    unfold find4
    rw [e]
    refine ⟨fun z => by rw [z], fun k r z => by rw [z]⟩
  rcases StrLaws.occ_first x y hi 1 (Nat.le_refl _) (List.range' lo (hi + 1 - lo)) lo (fun i h => (List.mem_range'_1.mp h).1) with ⟨e, h⟩ | ⟨p, a, r, e, e0, ha, h⟩
  · refine .inl ⟨(hd _ rfl).1 (by rw [StrLaws.occ_eq, e]), fun i h1 h2 z => ?_⟩
    exact h i (List.mem_range'_1.mpr ⟨h1, by omega⟩) (at_occ.mpr ⟨h2, z⟩)
  · obtain ⟨h1, h2⟩ := StrLaws.range'_split_from e
    obtain ⟨h3, h4⟩ := at_occ.mp ha
    have hz : (occurrences x y lo hi 1)[0]? = some a := by
      rw [StrLaws.occ_eq]
      simpa using e0
    refine .inr ⟨a, ?_, h1, h3, h4, fun i k1 k2 z => h i (h2 i k1 k2) (at_occ.mpr ⟨by omega, z⟩)⟩
    cases eo : occurrences x y lo hi 1 with
    | nil => rw [eo] at hz; cases hz
    | cons k l =>
      rw [eo] at hz
      have : k = a := Option.some.inj hz
      rw [← this]
      exact (hd _ rfl).2 k l eo
end FD

/-! ### flags -/
namespace C
open PySem L2 Kg18 MS
theorem boot_ls : bootBuiltins "list" = some (.type "list") := by decide +kernel
theorem and_flag {f : Nat} {n : Int} (i : Nat) (e : n = ((2 ^ i : Nat) : Int)) : Builtin.bitAnd (f : Int) n = ((if f.testBit i = true then 2 ^ i else 0 : Nat) : Int) := by
  rw [e, PyProof.Rows.bitAnd_pp (Int.natCast_nonneg _) (Int.natCast_nonneg _), Int.toNat_natCast, Int.toNat_natCast, MF.and_bit]
theorem and_nat {x n : Nat} : Builtin.bitAnd (x : Int) (OfNat.ofNat n) = ((x &&& n : Nat) : Int) := by
  have e : (OfNat.ofNat n : Int) = ((n : Nat) : Int) := rfl
  rw [e, PyProof.Rows.bitAnd_pp (Int.natCast_nonneg _) (Int.natCast_nonneg _), Int.toNat_natCast, Int.toNat_natCast]
theorem ne_flag {b : Bool} {n : Nat} (h : 0 < n) : (!decide (V.int ((if b = true then n else 0 : Nat) : Int) = V.int 0)) = b := by
  cases b with
  | true =>
    have e : ¬ V.int ((if true = true then n else 0 : Nat) : Int) = V.int 0 := fun z => by
      injection z with z
      rw [if_pos rfl] at z
      omega
    rw [decide_eq_false e]
    rfl
  | false => rfl
theorem eq_flag {b : Bool} {n : Nat} (h : 0 < n) : (decide (V.int ((if b = true then n else 0 : Nat) : Int) = V.int 0)) = !b := by
  have e := congrArg (fun x => !x) (ne_flag (b := b) h)
  simpa using e
theorem pe_gref {X : Cx} {x : Str} {q : Addr} {pos : Pos} (hg : Gl X x) (hm : X.mg x = some (.ref q)) (hd : (x == ("__debug__" : Str)) = false := by decide) : PE X (.Name x pos) (tC (.ref q)) := pe_glob (v := .ref q) hg hm rfl hd
/-- a tuple of the top's -/
theorem sqT_top {K : PySem.W.Frag} {H : Hp} {q : Addr} {od : Option Addr} {its : Array Value} {n : Nat} {sl : Array (Option Value)} {xs : List V} (h : K.lookup q = some ⟨.type "tuple", od, .seq its n, sl⟩) (hz : its.size ≤ sizeLine) (hv : Vals xs its.toList) : SqT K H q xs :=
  .inr ⟨_, its, n, h, rfl, rfl, hz, hv⟩
end C

/-! ### the text by places -/
open PySem L2
def top (i : Nat) : Stmt := PySem.Challenge.pw_shorttexts_s01_pack.main.body.getD i (.Pass ⟨0, 0, 0, 0⟩)
abbrev sLow : Stmt := top 7
abbrev sFour : Stmt := top 8
abbrev sTurn : Stmt := top 9
abbrev sMix : Stmt := top 10
abbrev sSix : Stmt := top 11
abbrev sLeft : Stmt := top 12
abbrev sSum : Stmt := top 13
abbrev s_mirrored_letters : Stmt := top 37
abbrev s_places_before : Stmt := top 38
abbrev s_step_beyond : Stmt := top 39
abbrev sSearchedText_init : Stmt := inClass (top 40) 0
abbrev sSearchedText_mirrored_index : Stmt := inClass (top 40) 1
abbrev sSearchedText_nearest_same : Stmt := inClass (top 40) 2
abbrev sSearchedText_length_of_same : Stmt := inClass (top 40) 3
abbrev sSearchedText_longest_match : Stmt := inClass (top 40) 4
abbrev s_carried_on : Stmt := top 41
abbrev s_part_with_match : Stmt := top 42
abbrev s_last_part : Stmt := top 43
abbrev s_packed_parts : Stmt := top 44
abbrev s_framed_block : Stmt := top 45
abbrev s_head_flags : Stmt := top 46
abbrev s_head_sum : Stmt := top 47
abbrev s_frame_head : Stmt := top 48
abbrev s_framed_text : Stmt := top 49
abbrev sAns : Stmt := top 50
abbrev s_pack : Stmt := top 51

/-! ### four bytes as a number -/
namespace C
open PySem L2 Kg18 MS
def spFour (K : PySem.W.Frag) : Sp := fun vs H Q _ => ∃ (a : Addr) (b : Bytes) (p : Nat), vs = [.ref a, .int p] ∧ SqL K H a (bv b) ∧ p + 4 ≤ b.length ∧ Q (.int (le (b.drop p) 4 : Nat)) H
section
variable {P : Program} {w : World} {K : PySem.W.Frag} {mg : Str → Option Value} {base : Heap}
theorem scFour : FnScope ["text", "place"] ["text", "place"] (defScope sFour) := ⟨rfl, rfl, rfl, by decide +kernel, rfl, by decide +kernel, by decide +kernel⟩
theorem ok_four {f : Addr} {fd : FuncData} (F : Fun K "four_bytes_at" "four_bytes_at" sFour f fd) : FnOk P w K mg base CX0 1 f fd ["text", "place"] (spFour K) := by
  refine F.ok scFour (fun vs H Q E h => ?_) (fun cdv A outer s H vs Q E hr h => ?_)
  · obtain ⟨a, b, p, rfl, _⟩ := h
    rfl
  obtain ⟨a, b, p, rfl, hS, hp, q⟩ := h
  refine ⟨_, pss_one (ps_ret (pe_op op_add (pe_op op_add (pe_op op_add (pe_ix ix_list (pv 0) (pv 1) (fun _ _ => rfl)) (pe_op op_shl (pe_ix ix_list (pv 0) (pe_op op_add (pv 1) pe_int) (fun _ _ => rfl)) pe_int)) (pe_op op_shl (pe_ix ix_list (pv 0) (pe_op op_add (pv 1) pe_int) (fun _ _ => rfl)) pe_int)) (pe_op op_shl (pe_ix ix_list (pv 0) (pe_op op_add (pv 1) pe_int) (fun _ _ => rfl)) pe_int))), ?_⟩
  have h0 : atI (bv b) (p : Int) = some (.int (bat b p : Nat)) := bv_at rfl (by omega)
  have h1 : atI (bv b) ((p : Int) + 1) = some (.int (bat b (p + 1) : Nat)) := bv_at (by omega) (by omega)
  have h2 : atI (bv b) ((p : Int) + 2) = some (.int (bat b (p + 2) : Nat)) := bv_at (by omega) (by omega)
  have h3 : atI (bv b) ((p : Int) + 3) = some (.int (bat b (p + 3) : Nat)) := bv_at (by omega) (by omega)
  have cp : ∀ (i : Nat) (k : Int), 0 ≤ k → k ≤ 64 → CPow ((bat b i : Nat) : Int) k := fun i k a c => shl_ok a c (Nat.lt_trans (bat_lt b i) (by decide))
  refine ⟨_, rfl, _, rfl, a, _, _, _, rfl, rfl, hS, h0, _, rfl, _, rfl, _, _, rfl, rfl, a, _, _, _, rfl, rfl, hS, h1, _, _, rfl, rfl, cp _ _ (by decide) (by decide), _, _, rfl, rfl,
    _, rfl, _, rfl, _, _, rfl, rfl, a, _, _, _, rfl, rfl, hS, h2, _, _, rfl, rfl, cp _ _ (by decide) (by decide), _, _, rfl, rfl,
    _, rfl, _, rfl, _, _, rfl, rfl, a, _, _, _, rfl, rfl, hS, h3, _, _, rfl, rfl, cp _ _ (by decide) (by decide), _, _, rfl, rfl, ?_⟩
  refine qint q ?_
  rw [le_four hp]
  generalize bat b p = x0
  generalize bat b (p + 1) = x1
  generalize bat b (p + 2) = x2
  generalize bat b (p + 3) = x3
  show (x0 : Int) + x1 * 2 ^ 8 + x2 * 2 ^ 16 + x3 * 2 ^ 24 = _
  omega
end
end C

/-! ### the sum -/
namespace S
open PySem L2 Kg18 MS C
/-- what the top says -/
structure G (mg : Str → Option Value) : Prop where
  mM : GInt mg "MODULUS" 4294967296
  p1 : GInt mg "PRIME_1" 2654435761
  p2 : GInt mg "PRIME_2" 2246822519
  p3 : GInt mg "PRIME_3" 3266489917
  p4 : GInt mg "PRIME_4" 668265263
  p5 : GInt mg "PRIME_5" 374761393
  len : mg "len" = none
  range : mg "range" = none
def spTurn : Sp := fun vs H Q _ => ∃ (x k : Nat), vs = [.int x, .int k] ∧ x < 4294967296 ∧ 0 < k ∧ k < 32 ∧ Q (.int (rotl x k : Nat)) H
def spMix : Sp := fun vs H Q _ => ∃ (z y : Int) (t f : Nat), vs = [.int z, .int y, .int t, .int f] ∧ 0 < t ∧ t < 32 ∧ Q (.int (mix (z + y) t f : Nat)) H
def spSix (K : PySem.W.Frag) : Sp := fun vs H Q _ => ∃ (a : Addr) (b : Bytes) (seed : Nat), vs = [.int seed, .ref a] ∧ SqL K H a (bv b) ∧ 16 ≤ b.length ∧ b.length ≤ 16777216 ∧ seed < 4294967296 ∧ ∀ H', Same H H' → Q (.int (begun seed b : Nat)) H'
def spLeft (K : PySem.W.Frag) : Sp := fun vs H Q _ => ∃ (a : Addr) (b : Bytes) (h : Nat), vs = [.int h, .ref a] ∧ SqL K H a (bv b) ∧ h < 4294967296 ∧ Q (.int (T h (b.drop (16 * (b.length / 16))) : Nat)) H
def spSum (K : PySem.W.Frag) : Sp := fun vs H Q _ => ∃ (a : Addr) (b : Bytes) (seed : Nat), vs = [.int seed, .ref a] ∧ SqL K H a (bv b) ∧ b.length ≤ 16777216 ∧ seed < 4294967296 ∧ ∀ H', Same H H' → Q (.int (Kg18.sum seed b : Nat)) H'
section
variable {P : Program} {w : World} {K : PySem.W.Frag} {mg : Str → Option Value} {base : Heap}
theorem scTurn : FnScope ["number", "count"] ["number", "count"] (defScope sTurn) := ⟨rfl, rfl, rfl, by decide +kernel, rfl, by decide +kernel, by decide +kernel⟩
theorem ok_turn {f : Addr} {fd : FuncData} (F : Fun K "turned_left" "turned_left" sTurn f fd) (g : G mg) : FnOk P w K mg base CX0 1 f fd ["number", "count"] spTurn := by
  refine F.ok scTurn (fun vs H Q E h => ?_) (fun cdv A outer s H vs Q E hr h => ?_)
  · obtain ⟨x, k, rfl, _⟩ := h
    rfl
  obtain ⟨x, k, rfl, hx, h0, h1, q⟩ := h
  refine ⟨_, pss_one (ps_ret (pe_op op_mod (pe_op op_or (pe_op op_shl (pv 0) (pv 1)) (pe_op op_shr (pv 0) (pe_op op_sub pe_int (pv 1)))) (pe_gint rfl g.mM))), ?_⟩
  refine ⟨_, rfl, _, rfl, _, _, rfl, rfl, shl_ok (by omega) (by omega) (by omega), _, rfl, _, rfl, _, _, rfl, rfl, _, _, rfl, rfl, (by omega), _, _, rfl, rfl, _, _, rfl, rfl, p32, ?_⟩
  exact qint q (rot_or hx h0 h1)
theorem scMix : FnScope ["total", "added", "turn", "factor"] ["total", "added", "turn", "factor"] (defScope sMix) := ⟨rfl, rfl, rfl, by decide +kernel, rfl, by decide +kernel, by decide +kernel⟩
theorem ok_mix {f fT : Addr} {fd fdT : FuncData} (F : Fun K "mixed" "mixed" sMix f fd) (g : G mg) (FT : Fun K "turned_left" "turned_left" sTurn fT fdT) (bT : Binds K fdT ["number", "count"] []) (mT : mg "turned_left" = some (.ref fT)) :
    FnOk P w K mg base CX0 2 f fd ["total", "added", "turn", "factor"] spMix := by
  have GT : FnOk P w K mg base CX0 1 fT fdT ["number", "count"] spTurn := ok_turn FT g
  refine F.ok scMix (fun vs H Q E h => ?_) (fun cdv A outer s H vs Q E hr h => ?_)
  · obtain ⟨z, y, t, f, rfl, _⟩ := h
    rfl
  obtain ⟨z, y, t, f, rfl, h0, h1, q⟩ := h
  refine ⟨_, pss_one (ps_ret (pe_op op_mod (pe_op op_mul (pe_call GT hr rfl mT FT.kp bT .nil pass0 (pa_cons (pe_op op_mod (pe_op op_add (pv 0) (pv 1)) (pe_gint rfl g.mM)) (pa_cons (pv 2) pa_nil))) (pv 3)) (pe_gint rfl g.mM))), ?_⟩
  have hz : ((z + y) % 4294967296) = (((z + y) % 4294967296).toNat : Int) := (Int.toNat_of_nonneg (Int.emod_nonneg _ (by decide))).symm
  have hlt : ((z + y) % 4294967296).toNat < 4294967296 := by
    have := Int.emod_lt_of_pos (z + y) (show (0 : Int) < 4294967296 by decide)
    omega
  have hrl := rotl_lt ((z + y) % 4294967296).toNat t
  refine ⟨_, rfl, _, rfl, _, _, rfl, rfl, _, _, rfl, rfl, p32, _, rfl, ((z + y) % 4294967296).toNat, t, ?_, hlt, h0, h1, _, rfl, _, _, rfl, rfl, .inl ⟨by omega, by omega⟩, _, _, rfl, rfl, p32, ?_⟩
  · show [V.int ((z + y) % 4294967296), V.int (t : Int)] ++ [] = [V.int (((z + y) % 4294967296).toNat : Int), V.int (t : Int)]
    rw [← hz]
    rfl
  · refine qint q ?_
    unfold mix
    have hM : M = 4294967296 := by decide
    rw [hM, Int.natCast_emod, Int.natCast_mul]
    rfl
theorem scSix : FnScope ["seed", "text", "sums", "begin", "k"] ["seed", "text"] (defScope sSix) := ⟨rfl, rfl, rfl, by decide +kernel, rfl, by decide +kernel, by decide +kernel⟩
def av0 (seed : Nat) : Nat → Int
  | 0 => (seed : Int) + 2654435761 + 2246822519
  | 1 => (seed : Int) + 2246822519
  | 2 => (seed : Int)
  | _ => (seed : Int) - 2654435761
theorem a0 (seed : Nat) : av0 seed 0 = (seed : Int) + 2654435761 + 2246822519 := rfl
theorem a1 (seed : Nat) : av0 seed 1 = (seed : Int) + 2246822519 := rfl
theorem a2 (seed : Nat) : av0 seed 2 = (seed : Int) := rfl
theorem a3 (seed : Nat) : av0 seed 3 = (seed : Int) - 2654435761 := rfl
theorem st0 (seed : Nat) : (MS.start seed).1 = (seed + P1 + P2) % M := by unfold MS.start; exact Eq.refl _
theorem st1 (seed : Nat) : (MS.start seed).2.1 = (seed + P2) % M := by unfold MS.start; exact Eq.refl _
theorem st2 (seed : Nat) : (MS.start seed).2.2.1 = seed % M := by unfold MS.start; exact Eq.refl _
theorem st3 (seed : Nat) : (MS.start seed).2.2.2 = (seed + M - P1) % M := by unfold MS.start; exact Eq.refl _
theorem start_sel {seed : Nat} {j : Nat} (hs : seed < 4294967296) (h : j < 4) : av0 seed j % 4294967296 = ((sel (start seed) j % M : Nat) : Int) := by
  have hM : M = 4294967296 := by decide
  have hP1 : P1 = 2654435761 := rfl
  have hP2 : P2 = 2246822519 := rfl
  match j, h with
  | 0, _ =>
    rw [sel0, st0, hM, hP1, hP2, a0]
    omega
  | 1, _ =>
    rw [sel1, st1, hM, hP2, a1]
    omega
  | 2, _ =>
    rw [sel2, st2, hM, a2]
    omega
  | 3, _ =>
    rw [sel3, st3, hM, hP1, a3]
    omega
theorem ok_six {f fT fM f4 : Addr} {fd fdT fdM fd4 : FuncData} (F : Fun K "sum_of_sixteens" "sum_of_sixteens" sSix f fd) (g : G mg) (FT : Fun K "turned_left" "turned_left" sTurn fT fdT) (bT : Binds K fdT ["number", "count"] []) (mT : mg "turned_left" = some (.ref fT))
    (FM : Fun K "mixed" "mixed" sMix fM fdM) (bM : Binds K fdM ["total", "added", "turn", "factor"] []) (mM : mg "mixed" = some (.ref fM)) (F4 : Fun K "four_bytes_at" "four_bytes_at" sFour f4 fd4) (b4 : Binds K fd4 ["text", "place"] []) (m4 : mg "four_bytes_at" = some (.ref f4)) :
    FnOk P w K mg base CX0 3 f fd ["seed", "text"] (spSix K) := by
  have GT : FnOk P w K mg base CX0 1 fT fdT ["number", "count"] spTurn := ok_turn FT g
  have GM : FnOk P w K mg base CX0 2 fM fdM ["total", "added", "turn", "factor"] spMix := ok_mix FM g FT bT mT
  have G4 : FnOk P w K mg base CX0 1 f4 fd4 ["text", "place"] (spFour K) := ok_four F4
  refine F.ok scSix (fun vs H Q E h => ?_) (fun cdv A outer s H vs Q E hr h => ?_)
  · obtain ⟨a, b, seed, rfl, _⟩ := h
    rfl
  obtain ⟨a, b, seed, rfl, hS, h16, hmx, hseed, q⟩ := h
  have hr1 : Room 1 _ := hr.mono (by decide)
  refine ⟨_, pss_cons (ps_set (i := 2) scSix.nd rfl (Or.inl rfl) (pe_lst (pa_cons (pe_op op_add (pe_op op_add (pv 0) (pe_gint rfl g.p1)) (pe_gint rfl g.p2)) (pa_cons (pe_op op_add (pv 0) (pe_gint rfl g.p2)) (pa_cons (pv 0) (pa_cons (pe_op op_sub (pv 0) (pe_gint rfl g.p1)) pa_nil))))))
    (pss_cons (ps_for PassesOwn.never rfl (pi_range3 rfl g.range (pa_cons pe_int (pa_cons (pe_op op_sub (pe_callB call_len_seq rfl g.len PySem.boot_len (pa_cons (pv 1) pa_nil)) pe_int) (pa_cons pe_int pa_nil)))) (pg_name (i := 3) scSix.nd rfl (Or.inl rfl))
      (pss_one (ps_for PassesOwn.never rfl (pi_range1 rfl g.range (pa_cons pe_int pa_nil)) (pg_name (i := 4) scSix.nd rfl (Or.inl rfl))
        (pss_one (ps_asg (pe_call GM hr rfl mM FM.kp bM .nil pass0 (pa_cons (pe_ix ix_list (pv 2) (pv 4) (fun _ _ => rfl)) (pa_cons (pe_op op_mul (pe_call G4 hr1 rfl m4 F4.kp b4 .nil pass0 (pa_cons (pv 1) (pa_cons (pe_op op_add (pv 3) (pe_op op_mul pe_int (pv 4))) pa_nil))) (pe_gint rfl g.p2)) (pa_cons pe_int (pa_cons (pe_gint rfl g.p1) pa_nil)))))
          (pg_sub (pv 2) (pv 4) set_list))))))
    (pss_one (ps_ret (pe_op op_add (pe_op op_add (pe_op op_add
      (pe_call GT hr1 rfl mT FT.kp bT .nil pass0 (pa_cons (pe_ix ix_list (pv 2) pe_int (fun _ _ => rfl)) (pa_cons pe_int pa_nil)))
      (pe_call GT hr1 rfl mT FT.kp bT .nil pass0 (pa_cons (pe_ix ix_list (pv 2) pe_int (fun _ _ => rfl)) (pa_cons pe_int pa_nil))))
      (pe_call GT hr1 rfl mT FT.kp bT .nil pass0 (pa_cons (pe_ix ix_list (pv 2) pe_int (fun _ _ => rfl)) (pa_cons pe_int pa_nil))))
      (pe_call GT hr1 rfl mT FT.kp bT .nil pass0 (pa_cons (pe_ix ix_list (pv 2) pe_int (fun _ _ => rfl)) (pa_cons pe_int pa_nil))))))), ?_⟩
  have hlen : (((bv b).length : Nat) : Int) - 15 = (b.length : Int) - 15 := by rw [bv_length]
  -- sums = [...]
  refine ⟨_, rfl, _, _, rfl, rfl, _, _, rfl, rfl, _, rfl, _, _, rfl, rfl, _, rfl, _, rfl, _, _, rfl, rfl, line (by show 4 ≤ 16777216; decide), fun p hp => ?_⟩
  have s1 : Same H (upd H p (.lst [.int ((seed : Int) + 2654435761 + 2246822519), .int ((seed : Int) + 2246822519), .int (seed : Int), .int ((seed : Int) - 2654435761)])) := same_new hp _
  -- for begin in range(0, len(text) - 15, 16)
  refine ⟨_, rfl, a, _, rfl, .inl (s1.seq hS), _, _, rfl, rfl, _, _, _, b.length / 16, rfl, (by rw [hlen]; exact rg16 h16 hmx), for_rangeC (fun i σ H2 => ∃ (av : Nat → Int) (v3 v4 : Option V), σ = [some (.int seed), some (.ref a), some (.ref p), v3, v4] ∧ Same H H2 ∧ H2 p = some (.lst ((L4 av av 0).map V.int)) ∧
      (∀ j, j < 4 → av j % 4294967296 = ((sel (after (start seed) b i) j % M : Nat) : Int)) ∧ (0 < i → ∀ j, j < 4 → av j = ((sel (after (start seed) b i) j : Nat) : Int)))
    ⟨av0 seed, none, none, rfl, s1, upd_same, fun j hj => start_sel hseed hj, fun h => absurd h (by decide)⟩ ?_ ?_⟩
  · rintro i σ H2 hi ⟨av, v3, v4, rfl, s2, hp2, hm, _⟩
    -- for k in range(4)
    refine ⟨_, rfl, by decide, by decide, for_range (n := 4) (fun j σ H3 => ∃ (v4 : Option V), σ = [some (.int seed), some (.ref a), some (.ref p), some (.int (0 + (i : Nat) * 16)), v4] ∧ Same H H3 ∧ H3 p = some (.lst ((L4 av (fun j => ((sel (after (start seed) b (i + 1)) j : Nat) : Int)) j).map V.int)))
      ⟨v4, rfl, s2, hp2⟩ ?_ ?_⟩
    · rintro j σ H3 hj ⟨v4', rfl, s3, hp3⟩
      have hg : atI ((L4 av (fun j => ((sel (after (start seed) b (i + 1)) j : Nat) : Int)) j).map V.int) (0 + (j : Int)) = some (.int (av j)) := at_of (j := j) (by omega) (by rw [List.getElem?_map, L4_get hj]; rfl)
      have hpl : 16 * i + 4 * j + 4 ≤ b.length := by omega
      have hle := le_four_lt hpl
      refine ⟨_, rfl, _, rfl, p, _, _, _, rfl, rfl, SqL.of hp3, hg, _, rfl, _, rfl, _, rfl, _, _, rfl, rfl, .inl ⟨by decide, by decide⟩, _, _, rfl, rfl, a, b, 16 * i + 4 * j, ?_, s3.seq hS, hpl, _, _, rfl, rfl, .inl ⟨by omega, by omega⟩,
        av j, _, 13, 2654435761, rfl, by decide, by decide, _, rfl, _, rfl, p, _, _, j, rfl, rfl, hp3, ?_, _, rfl, ?_, ?_⟩
      · show [V.ref a, V.int (0 + (i : Int) * 16 + 4 * (0 + (j : Int)))] ++ [] = [V.ref a, V.int ((16 * i + 4 * j : Nat) : Int)]
        rw [show (0 + (i : Int) * 16 + 4 * (0 + (j : Int))) = ((16 * i + 4 * j : Nat) : Int) by omega]
        rfl
      · rw [List.length_map]
        show ixN 4 (0 + (j : Int)) = some j
        unfold ixN
        rw [if_pos (by omega), if_pos (by omega)]
        congr 1
        omega
      · intro c o e
        rw [upd_ne (ne_of_none e hp)]
        exact s3 c o e
      · have e1 : mix (av j + ((le (b.drop (16 * i + 4 * j)) 4 : Nat) : Int) * 2246822519) 13 2654435761 = sel (after (start seed) b (i + 1)) j := by
          rw [mix_round (hm j hj)]
          show _ = sel (one (after (start seed) b i) (b.drop (16 * i))) j
          rw [sel_one hj, List.drop_drop]
        rw [upd_same, e1, ← List.map_set, ← L4_set hj]
    · rintro σ H3 ⟨v4', rfl, s3, hp3⟩
      refine ⟨fun j => ((sel (after (start seed) b (i + 1)) j : Nat) : Int), _, v4', rfl, s3, hp3, fun j hj => ?_, fun _ j hj => rfl⟩
      have hM : M = 4294967296 := by decide
      have := sel_one_lt (s := after (start seed) b i) (b := b.drop (16 * i)) hj
      show ((sel (after (start seed) b (i + 1)) j : Nat) : Int) % 4294967296 = _
      rw [hM, Int.natCast_emod]
      rfl
  · rintro σ H2 ⟨av, v3, v4, rfl, s2, hp2, _, hfin⟩
    have hn : 0 < b.length / 16 := by omega
    obtain ⟨n1, hn1⟩ : ∃ n1, b.length / 16 = n1 + 1 := ⟨b.length / 16 - 1, by omega⟩
    have hlt : ∀ j, j < 4 → sel (after (start seed) b (b.length / 16)) j < 4294967296 := fun j hj => by
      rw [hn1]
      exact sel_one_lt (s := after (start seed) b n1) (b := b.drop (16 * n1)) hj
    have hf := hfin hn
    have ga : ∀ j : Nat, j < 4 → atI ((L4 av av 0).map V.int) (j : Int) = some (.int ((sel (after (start seed) b (b.length / 16)) j : Nat) : Int)) := fun j hj => by
      refine at_of rfl ?_
      rw [List.getElem?_map, ← hf j hj]
      match j, hj with
      | 0, _ => rfl
      | 1, _ => rfl
      | 2, _ => rfl
      | 3, _ => rfl
    refine ⟨_, rfl, p, _, _, _, rfl, rfl, SqL.of hp2, ga 0 (by decide), _, 1, rfl, hlt 0 (by decide), by decide, by decide,
      _, rfl, p, _, _, _, rfl, rfl, SqL.of hp2, ga 1 (by decide), _, 7, rfl, hlt 1 (by decide), by decide, by decide, _, _, rfl, rfl,
      _, rfl, p, _, _, _, rfl, rfl, SqL.of hp2, ga 2 (by decide), _, 12, rfl, hlt 2 (by decide), by decide, by decide, _, _, rfl, rfl,
      _, rfl, p, _, _, _, rfl, rfl, SqL.of hp2, ga 3 (by decide), _, 18, rfl, hlt 3 (by decide), by decide, by decide, _, _, rfl, rfl, ?_⟩
    refine qint (q H2 s2) ?_
    unfold begun
    rw [if_pos h16]
    simp only [Int.natCast_add]
    rfl
theorem scLeft : FnScope ["total", "text", "place"] ["total", "text"] (defScope sLeft) := ⟨rfl, rfl, rfl, by decide +kernel, rfl, by decide +kernel, by decide +kernel⟩
theorem ok_left {f fT fM f4 : Addr} {fd fdT fdM fd4 : FuncData} (F : Fun K "with_bytes_left" "with_bytes_left" sLeft f fd) (g : G mg) (FT : Fun K "turned_left" "turned_left" sTurn fT fdT) (bT : Binds K fdT ["number", "count"] []) (mT : mg "turned_left" = some (.ref fT))
    (FM : Fun K "mixed" "mixed" sMix fM fdM) (bM : Binds K fdM ["total", "added", "turn", "factor"] []) (mM : mg "mixed" = some (.ref fM)) (F4 : Fun K "four_bytes_at" "four_bytes_at" sFour f4 fd4) (b4 : Binds K fd4 ["text", "place"] []) (m4 : mg "four_bytes_at" = some (.ref f4)) :
    FnOk P w K mg base CX0 3 f fd ["total", "text"] (spLeft K) := by
  have GM : FnOk P w K mg base CX0 2 fM fdM ["total", "added", "turn", "factor"] spMix := ok_mix FM g FT bT mT
  have G4 : FnOk P w K mg base CX0 1 f4 fd4 ["text", "place"] (spFour K) := ok_four F4
  refine F.ok scLeft (fun vs H Q E h => ?_) (fun cdv A outer s H vs Q E hr h => ?_)
  · obtain ⟨a, b, h, rfl, _⟩ := h
    rfl
  obtain ⟨a, b, h0, rfl, hS, hlt, q⟩ := h
  have hr1 : Room 1 _ := hr.mono (by decide)
  refine ⟨_, pss_cons (ps_set (i := 2) scLeft.nd rfl (Or.inl rfl) (pe_op op_mul (pe_op op_fdiv (pe_callB call_len_seq rfl g.len PySem.boot_len (pa_cons (pv 1) pa_nil)) pe_int) pe_int))
    (pss_cons (ps_while PassesOwn.never (pt_cmpR op_le (pe_op op_add (pv 2) pe_int) (pe_callB call_len_seq rfl g.len PySem.boot_len (pa_cons (pv 1) pa_nil)) (nomark _))
      (pss_cons (ps_set (i := 0) scLeft.nd rfl (Or.inl rfl) (pe_call GM hr rfl mM FM.kp bM .nil pass0 (pa_cons (pv 0) (pa_cons (pe_op op_mul (pe_call G4 hr1 rfl m4 F4.kp b4 .nil pass0 (pa_cons (pv 1) (pa_cons (pv 2) pa_nil))) (pe_gint rfl g.p3)) (pa_cons pe_int (pa_cons (pe_gint rfl g.p4) pa_nil))))))
      (pss_one (ps_aug (i := 2) scLeft.nd rfl (Or.inl rfl) pe_int ip_add))))
    (pss_cons (ps_while PassesOwn.never (pt_cmpR op_lt (pv 2) (pe_callB call_len_seq rfl g.len PySem.boot_len (pa_cons (pv 1) pa_nil)) (nomark _))
      (pss_cons (ps_set (i := 0) scLeft.nd rfl (Or.inl rfl) (pe_call GM hr rfl mM FM.kp bM .nil pass0 (pa_cons (pv 0) (pa_cons (pe_op op_mul (pe_ix ix_list (pv 1) (pv 2) (fun _ _ => rfl)) (pe_gint rfl g.p5)) (pa_cons pe_int (pa_cons (pe_gint rfl g.p1) pa_nil))))))
      (pss_one (ps_aug (i := 2) scLeft.nd rfl (Or.inl rfl) pe_int ip_add))))
    (pss_one (ps_ret (pv 0))))), ?_⟩
  have hl : (((bv b).length : Nat) : Int) = (b.length : Int) := by rw [bv_length]
  -- place = len(text) // 16 * 16
  refine ⟨_, rfl, a, _, rfl, .inl hS, _, _, rfl, rfl, ⟨by decide, by decide⟩, _, _, rfl, rfl, .inr ⟨by decide, by decide⟩, ?_⟩
  refine ⟨fun m σ H' => ∃ (h p : Nat), σ = [some (.int h), some (.ref a), some (.int p)] ∧ H = H' ∧ m = b.length - p ∧ p ≤ b.length ∧ h < 4294967296 ∧ T h (b.drop p) = T h0 (b.drop (16 * (b.length / 16))),
    ⟨_, h0, 16 * (b.length / 16), ?_, rfl, rfl, by omega, hlt, rfl⟩, ?_⟩
  · show [some (V.int (h0 : Int)), some (V.ref a), some (V.int (((bv b).length : Int) / 16 * 16))] = _
    rw [hl, show ((b.length : Int) / 16 * 16) = ((16 * (b.length / 16) : Nat) : Int) by omega]
  rintro m σ H' ⟨h, p, rfl, rfl, rfl, hp, hh, ht⟩
  refine ⟨_, rfl, _, _, rfl, rfl, _, rfl, a, _, rfl, .inl hS, _, _, rfl, rfl, _, rfl, ?_⟩
  refine ite2 (fun c => ?_) (fun c => ?_)
  · have c' : (p : Int) + 4 ≤ (((bv b).length : Nat) : Int) := of_decide_eq_true c
    rw [hl] at c'
    have hp4 : p + 4 ≤ b.length := by omega
    have hle := le_four_lt hp4
    refine ⟨_, fun σ' H' z => z, ?_⟩
    refine ⟨_, rfl, _, rfl, _, rfl, a, b, p, rfl, hS, hp4, _, _, rfl, rfl, .inl ⟨by omega, by omega⟩, (h : Int), _, 17, 668265263, rfl, by decide, by decide, _, rfl, _, _, rfl, rfl, ?_⟩
    refine ⟨b.length - (p + 4), by omega, mix ((h : Int) + ((le (b.drop p) 4 : Nat) : Int) * 3266489917) 17 668265263, p + 4, rfl, rfl, rfl, hp4, mix_lt _ _ _, ?_⟩
    rw [← ht, T_four hp4]
  -- the bytes that are left
  have c' : ¬ (p : Int) + 4 ≤ (((bv b).length : Nat) : Int) := of_decide_eq_false (Bool.eq_false_iff.mpr c)
  rw [hl] at c'
  have hp4 : b.length < p + 4 := by omega
  refine ⟨fun m σ H' => ∃ (h p : Nat), σ = [some (.int h), some (.ref a), some (.int p)] ∧ H = H' ∧ m = b.length - p ∧ p ≤ b.length ∧ b.length < p + 4 ∧ h < 4294967296 ∧ T h (b.drop p) = T h0 (b.drop (16 * (b.length / 16))),
    ⟨_, h, p, rfl, rfl, rfl, hp, hp4, hh, ht⟩, ?_⟩
  rintro m σ H' ⟨h, p, rfl, rfl, rfl, hp, hp4, hh, ht⟩
  refine ⟨_, rfl, _, rfl, a, _, rfl, .inl hS, _, _, rfl, rfl, _, rfl, ?_⟩
  refine ite2 (fun c => ?_) (fun c => ?_)
  · have c' : (p : Int) < (((bv b).length : Nat) : Int) := of_decide_eq_true c
    rw [hl] at c'
    have hp1 : p < b.length := by omega
    have hb := bat_lt b p
    refine ⟨_, fun σ' H' z => z, ?_⟩
    refine ⟨_, rfl, _, rfl, _, rfl, a, _, _, _, rfl, rfl, hS, bv_at rfl hp1, _, _, rfl, rfl, .inl ⟨by omega, by omega⟩, (h : Int), _, 11, 2654435761, rfl, by decide, by decide, _, rfl, _, _, rfl, rfl, ?_⟩
    refine ⟨b.length - (p + 1), by omega, mix ((h : Int) + ((bat b p : Nat) : Int) * 374761393) 11 2654435761, p + 1, rfl, rfl, rfl, hp1, by omega, mix_lt _ _ _, ?_⟩
    rw [← ht, T_one hp1 hp4]
  · have c' : ¬ (p : Int) < (((bv b).length : Nat) : Int) := of_decide_eq_false (Bool.eq_false_iff.mpr c)
    rw [hl] at c'
    refine ⟨_, rfl, ?_⟩
    rw [List.drop_eq_nil_of_le (by omega), T_nil] at ht
    rw [ht]
    exact q
theorem scSum : FnScope ["seed", "text", "total"] ["seed", "text"] (defScope sSum) := ⟨rfl, rfl, rfl, by decide +kernel, rfl, by decide +kernel, by decide +kernel⟩
theorem fin_step {x k p : Nat} : (Builtin.bitXor (x : Int) ((x : Int) / 2 ^ ((k : Int)).toNat) * (p : Int)) % 4294967296 = (((x ^^^ x / 2 ^ k) * p % M : Nat) : Int) := by
  have hM : M = 4294967296 := by decide
  rw [shr_nat, xor_nat, hM, Int.natCast_emod, Int.natCast_mul]
  rfl
theorem T_lt {h : Nat} {b : Bytes} : h < 4294967296 → T h b < 4294967296 := by
  suffices H : ∀ k, ∀ (b : Bytes) (h : Nat), h < 4294967296 → tail k h b < 4294967296 from H _ b h
  intro k
  induction k with
  | zero => intro b h hh; exact hh
  | succ k ih =>
    intro b h hh
    by_cases c : 4 ≤ b.length
    · rw [tail_big c]
      exact ih _ _ (Nat.mod_lt _ (by decide))
    · cases b with
      | nil => rw [tail_nil]; exact hh
      | cons x r =>
        rw [tail_cons c]
        exact ih _ _ (Nat.mod_lt _ (by decide))
/-- what text_sum leans on -/
structure Fs (K : PySem.W.Frag) (mg : Str → Option Value) (f4 fT fM f6 fL fS : Addr) (fd4 fdT fdM fd6 fdL fdS : FuncData) : Prop where
  g : G mg
  F4 : Fun K "four_bytes_at" "four_bytes_at" sFour f4 fd4
  b4 : Binds K fd4 ["text", "place"] []
  m4 : mg "four_bytes_at" = some (.ref f4)
  FT : Fun K "turned_left" "turned_left" sTurn fT fdT
  bT : Binds K fdT ["number", "count"] []
  mT : mg "turned_left" = some (.ref fT)
  FM : Fun K "mixed" "mixed" sMix fM fdM
  bM : Binds K fdM ["total", "added", "turn", "factor"] []
  mM : mg "mixed" = some (.ref fM)
  F6 : Fun K "sum_of_sixteens" "sum_of_sixteens" sSix f6 fd6
  b6 : Binds K fd6 ["seed", "text"] []
  m6 : mg "sum_of_sixteens" = some (.ref f6)
  FL : Fun K "with_bytes_left" "with_bytes_left" sLeft fL fdL
  bL : Binds K fdL ["total", "text"] []
  mL : mg "with_bytes_left" = some (.ref fL)
  FS : Fun K "text_sum" "text_sum" sSum fS fdS
  bS : Binds K fdS ["seed", "text"] []
  mS : mg "text_sum" = some (.ref fS)
theorem ok_sum {f4 fT fM f6 fL fS : Addr} {fd4 fdT fdM fd6 fdL fdS : FuncData} (A : Fs K mg f4 fT fM f6 fL fS fd4 fdT fdM fd6 fdL fdS) : FnOk P w K mg base CX0 4 fS fdS ["seed", "text"] (spSum K) := by
  have g := A.g
  have G6 : FnOk P w K mg base CX0 3 f6 fd6 ["seed", "text"] (spSix K) := ok_six A.F6 A.g A.FT A.bT A.mT A.FM A.bM A.mM A.F4 A.b4 A.m4
  have GL : FnOk P w K mg base CX0 3 fL fdL ["total", "text"] (spLeft K) := ok_left A.FL A.g A.FT A.bT A.mT A.FM A.bM A.mM A.F4 A.b4 A.m4
  refine A.FS.ok scSum (fun vs H Q E h => ?_) (fun cdv Ar outer s H vs Q E hr h => ?_)
  · obtain ⟨a, b, seed, rfl, _⟩ := h
    rfl
  obtain ⟨a, b, seed, rfl, hS, hmx, hseed, q⟩ := h
  refine ⟨_, pss_cons (ps_cut (ps_if (pt_cmpR op_ge (pe_callB call_len_seq rfl g.len PySem.boot_len (pa_cons (pv 1) pa_nil)) pe_int (nomark _))
      (pss_one (ps_set (i := 2) scSum.nd rfl (Or.inl rfl) (pe_call G6 hr rfl A.m6 A.F6.kp A.b6 .nil pass0 (pa_cons (pv 0) (pa_cons (pv 1) pa_nil)))))
      (pss_one (ps_set (i := 2) scSum.nd rfl (Or.inl rfl) (pe_op op_add (pv 0) (pe_gint rfl g.p5))))))
    (pss_cons (ps_set (i := 2) scSum.nd rfl (Or.inl rfl) (pe_call GL hr rfl A.mL A.FL.kp A.bL .nil pass0 (pa_cons (pe_op op_mod (pe_op op_add (pv 2) (pe_callB call_len_seq rfl g.len PySem.boot_len (pa_cons (pv 1) pa_nil))) (pe_gint rfl g.mM)) (pa_cons (pv 1) pa_nil))))
    (pss_cons (ps_set (i := 2) scSum.nd rfl (Or.inl rfl) (pe_op (eI op_mod) (pe_op op_mul (pe_op op_xor (pv 2) (pe_op op_shr (pv 2) pe_int)) (pe_gint rfl g.p2)) (pe_gint rfl g.mM)))
    (pss_cons (ps_set (i := 2) scSum.nd rfl (Or.inl rfl) (pe_op (eI op_mod) (pe_op op_mul (pe_op op_xor (pv 2) (pe_op op_shr (pv 2) pe_int)) (pe_gint rfl g.p3)) (pe_gint rfl g.mM)))
    (pss_one (ps_ret (pe_op op_xor (pv 2) (pe_op op_shr (pv 2) pe_int))))))), ?_⟩
  have hl : (((bv b).length : Nat) : Int) = (b.length : Int) := by rw [bv_length]
  have hM : M = 4294967296 := by decide
  refine ⟨fun σ' H' => ∃ t : Nat, σ' = [some (.int seed), some (.ref a), some (.int t)] ∧ Same H H' ∧ t = begun seed b, ⟨_, rfl, a, _, rfl, .inl hS, _, _, rfl, rfl, _, rfl, ite2 (fun c => ?_) (fun c => ?_)⟩, ?_⟩
  · have c' : (16 : Int) ≤ (((bv b).length : Nat) : Int) := of_decide_eq_true c
    rw [hl] at c'
    exact ⟨_, rfl, _, rfl, a, b, seed, rfl, hS, by omega, hmx, hseed, fun H' sm => ⟨_, rfl, sm, rfl⟩⟩
  · have c' : ¬ (16 : Int) ≤ (((bv b).length : Nat) : Int) := of_decide_eq_false (Bool.eq_false_iff.mpr c)
    rw [hl] at c'
    refine ⟨_, rfl, _, _, rfl, rfl, seed + 374761393, rfl, Same.refl H, ?_⟩
    unfold begun
    rw [if_neg (by omega)]
    rfl
  rintro σ' H' ⟨t, rfl, sm, et⟩
  have hS' := sm.seq hS
  have e1 : ((t : Int) + (((bv b).length : Nat) : Int)) % 4294967296 = (((begun seed b + b.length) % M : Nat) : Int) := by
    rw [hl, et, hM]
    omega
  have hh : (begun seed b + b.length) % M < 4294967296 := by rw [← hM]; exact Nat.mod_lt _ (by decide)
  have hT := T_lt (b := b.drop (16 * (b.length / 16))) hh
  have hx : ∀ x : Nat, x < 4294967296 → ∀ k : Nat, x ^^^ x / 2 ^ k < 4294967296 := fun x hx k => Nat.xor_lt_two_pow (n := 32) hx (Nat.lt_of_le_of_lt (Nat.div_le_self _ _) hx)
  refine ⟨_, rfl, _, rfl, a, _, rfl, .inl hS', _, _, rfl, rfl, _, _, rfl, rfl, p32, _, rfl, a, b, (begun seed b + b.length) % M, ?_, hS', hh, ?_⟩
  · show [V.int (((t : Int) + (((bv b).length : Nat) : Int)) % 4294967296), V.ref a] ++ [] = _
    rw [e1]
    rfl
  have hq := q H' sm
  rw [sum_eq] at hq
  generalize T ((begun seed b + b.length) % M) (b.drop (16 * (b.length / 16))) = y at hT hq ⊢
  have x1 : Builtin.bitXor (y : Int) ((y : Int) / 2 ^ ((15 : Int)).toNat) = ((y ^^^ y / 2 ^ 15 : Nat) : Int) := by
    rw [show (y : Int) / 2 ^ ((15 : Int)).toNat = ((y / 2 ^ 15 : Nat) : Int) from shr_nat (k := 15), xor_nat]
  have l1 := hx y hT 15
  refine ⟨_, rfl, _, rfl, _, _, rfl, rfl, nn _, _, _, rfl, rfl, _, _, rfl, rfl, .inr ⟨by decide, by decide⟩, ((fin1 y : Nat) : Int), _, _, rfl, rfl, p32, fin_step (k := 15) (p := 2246822519), ?_⟩
  refine ⟨_, rfl, _, rfl, _, _, rfl, rfl, nn _, _, _, rfl, rfl, _, _, rfl, rfl, .inr ⟨by decide, by decide⟩, ((fin2 (fin1 y) : Nat) : Int), _, _, rfl, rfl, p32, fin_step (k := 13) (p := 3266489917), ?_⟩
  refine ⟨_, rfl, _, rfl, _, _, rfl, rfl, nn _, _, _, rfl, rfl, ?_⟩
  refine qint hq ?_
  rw [show ((fin2 (fin1 y) : Nat) : Int) / 2 ^ ((16 : Int)).toNat = ((fin2 (fin1 y) / 2 ^ 16 : Nat) : Int) from shr_nat (k := 16), xor_nat]
  rfl
end
end S

/-! ### a number's bytes -/
namespace PK
open PySem L2 Kg18 MS C
def spLow : Sp := fun vs H Q _ => ∃ (n k : Nat), vs = [.int n, .int k] ∧ k ≤ 16 ∧ ∀ (l : Addr) (H' : Hp), Same H H' → H l = none → H' l = some (.lst (bv (spelled k n))) → Q (.ref l) H'
section
variable {P : Program} {w : World} {K : PySem.W.Frag} {mg : Str → Option Value} {base : Heap}
theorem scLow : FnScope ["number", "count", "k"] ["number", "count"] (defScope sLow) := ⟨rfl, rfl, rfl, by decide +kernel, rfl, by decide +kernel, by decide +kernel⟩
theorem ok_low {f : Addr} {fd : FuncData} (F : Fun K "low_first" "low_first" sLow f fd) (hrange : mg "range" = none) : FnOk P w K mg base CX0 1 f fd ["number", "count"] spLow := by
  refine F.ok scLow (fun vs H Q E h => ?_) (fun cdv A outer s H vs Q E hr h => ?_)
  · obtain ⟨n, k, rfl, _⟩ := h
    rfl
  obtain ⟨n, k, rfl, hk, q⟩ := h
  refine ⟨_, pss_one (ps_ret (pe_lc rfl scLow.nd (pi_range1 rfl hrange (pa_cons (pv 1) pa_nil)) (blkOk_by (own := [("k", 2)]) (by show blkC ["number", "count", "k"] (defScope sLow) _ _ = true; decide +kernel)) (fun s H C cl fp => pg_name (i := 2) scLow.nd rfl (Or.inl rfl)) (fun s H C cl fp => pts_nil) (fun s H C cl fp => pe_op (eI0 op_and) (pe_op (eI op_shr) (pv 0) (pe_op (eI op_mul) pe_int (pv 2))) pe_int))), ?_⟩
  refine ⟨_, rfl, (k : Int), rfl, by omega, by omega, fun D hD => lc_range (fun i H' => Same H H' ∧ H' D = some (.lst ((bv (spelled k n)).take i))) ⟨same_new hD _, upd_same⟩ (fun i H2 hi ⟨s2, h2⟩ => ?_) (fun H2 ⟨s2, h2⟩ => ?_)⟩
  · have hi' : i < k := by omega
    refine ⟨rfl, tyes ?_⟩
    refine ⟨_, rfl, _, rfl, 8 * (i : Int), _, _, rfl, rfl, .inl ⟨by decide, by decide⟩, by omega, _, _, _, rfl, rfl, by omega, rfl, ((n / 256 ^ i % 256 : Nat) : Int), _, _, rfl, rfl, low_val rfl, _, h2, ?_, fun c o e => ?_, ?_⟩
    · rw [List.length_take]
      have : (16 : Nat) < sizeLine := by rw [sizeLine_eq]; decide
      omega
    · rw [upd_ne (ne_of_none e hD)]
      exact s2 c o e
    · rw [upd_same, take_succ_at (spelled_at hi')]
  · refine q D H2 s2 hD ?_
    rw [h2, List.take_of_length_le]
    rw [bv_length, MP.spelled_length]
    omega
end
end PK

/-! ### the parts' bytes -/
namespace PK
open PySem L2 Kg18 MS C
structure G (mg : Str → Option Value) : Prop where
  range : mg "range" = none
  len : mg "len" = none
  mn : mg "min" = none
  mx : mg "max" = none
  m4 : GInt mg "SHORTEST_MATCH" 4
def spMore : Sp := fun vs H Q _ => ∃ (n : Nat), vs = [.int n] ∧ n ≤ 16777216 ∧ ∀ (l : Addr) (H' : Hp), Same H H' → H l = none → H' l = some (.lst (bv (more n))) → Q (.ref l) H'
def spHit : Sp := fun vs H Q _ => ∃ (o : Addr) (lits : Bytes) (n d : Nat), vs = [.ref o, .int n, .int d] ∧ H o = some (.lst (bv lits)) ∧ 4 ≤ n ∧ n ≤ 1000000 ∧ lits.length ≤ 1000000 ∧ ∀ (l : Addr) (H' : Hp), Same H H' → H l = none → H' l = some (.lst (bv (part lits (some (n, d))))) → Q (.ref l) H'
def spLast : Sp := fun vs H Q _ => ∃ (o : Addr) (lits : Bytes), vs = [.ref o] ∧ H o = some (.lst (bv lits)) ∧ lits.length ≤ 1000000 ∧ ∀ (l : Addr) (H' : Hp), Same H H' → H l = none → H' l = some (.lst (bv (part lits none))) → Q (.ref l) H'
section
variable {P : Program} {w : World} {K : PySem.W.Frag} {mg : Str → Option Value} {base : Heap}
theorem scMore : FnScope ["count"] ["count"] (defScope s_carried_on) := ⟨rfl, rfl, rfl, by decide +kernel, rfl, by decide +kernel, by decide +kernel⟩
theorem rep_255 (k : Nat) : (List.replicate k ([V.int 255] : List V)).flatten = bv (List.replicate k 255) := by
  induction k with
  | zero => rfl
  | succ k ih =>
    rw [List.replicate_succ, List.flatten_cons, ih, List.replicate_succ]
    rfl
theorem ok_more {f : Addr} {fd : FuncData} (F : Fun K "carried_on" "carried_on" s_carried_on f fd) : FnOk P w K mg base CX0 1 f fd ["count"] spMore := by
  refine F.ok scMore (fun vs H Q E h => ?_) (fun cdv A outer s H vs Q E hr h => ?_)
  · obtain ⟨n, rfl, _⟩ := h
    rfl
  obtain ⟨n, rfl, hn, q⟩ := h
  refine ⟨_, pss_cons (ps_if (pt_cmpR op_lt (pv 0) pe_int (nomark _)) (pss_one (ps_ret (pe_lst pa_nil))) pss_nil)
    (pss_one (ps_ret (pe_op op_cat (pe_op op_rep (pe_lst (pa_cons pe_int pa_nil)) (pe_op (eI op_fdiv) (pe_op (eI0 op_sub) (pv 0) pe_int) pe_int)) (pe_lst (pa_cons (pe_op (eI op_mod) (pe_op (eI0 op_sub) (pv 0) pe_int) pe_int) pa_nil))))), ?_⟩
  refine ⟨_, rfl, _, _, rfl, rfl, _, rfl, ?_⟩
  refine ite2 (fun c => ?_) (fun c => ?_)
  · have c' : (n : Int) < 15 := of_decide_eq_true c
    refine ⟨line (by show 0 ≤ 16777216; decide), fun l hl => q l _ (same_new hl _) hl ?_⟩
    unfold more
    rw [upd_same, if_pos (by omega)]
    rfl
  have c' : ¬ (n : Int) < 15 := of_decide_eq_false (Bool.eq_false_iff.mpr c)
  have e1 : ((n : Int) - 15) / 255 = (((n - 15) / 255 : Nat) : Int) := by omega
  have e2 : ((n : Int) - 15) % 255 = (((n - 15) % 255 : Nat) : Int) := by omega
  refine ⟨line (by show 1 ≤ 16777216; decide), fun l1 hl1 => ?_⟩
  have s1 := same_new hl1 (.lst [.int 255])
  refine ⟨_, rfl, _, _, _, rfl, rfl, rfl, (((n - 15) / 255 : Nat) : Int), _, _, rfl, rfl, ⟨by decide, by decide⟩, e1, ?_⟩
  refine ⟨l1, _, _, rfl, rfl, upd_same, by omega, by omega, ?_, fun l2 hl2 => ?_⟩
  · rw [Int.toNat_natCast]
    show 1 * ((n - 15) / 255) ≤ sizeLine
    exact line (by omega)
  rw [Int.toNat_natCast, rep_255]
  have s2 := s1.trans (same_new hl2 (.lst (bv (List.replicate ((n - 15) / 255) 255))))
  refine ⟨_, rfl, _, _, _, rfl, rfl, rfl, (((n - 15) % 255 : Nat) : Int), _, _, rfl, rfl, (by show (0 : Int) < 255; decide), e2, line (by show 1 ≤ 16777216; decide), fun l3 hl3 => ?_⟩
  have s3 := s2.trans (same_new hl3 (.lst [.int (((n - 15) % 255 : Nat) : Int)]))
  refine ⟨l2, l3, _, _, rfl, rfl, same_new hl3 _ _ _ upd_same, upd_same, ?_, fun l4 hl4 => ?_⟩
  · rw [bv_length, List.length_replicate]
    show (n - 15) / 255 + 1 ≤ sizeLine
    exact line (by omega)
  refine q l4 _ (s3.trans (same_new hl4 _)) (s3.free hl4) ?_
  unfold more
  rw [upd_same, if_neg (by omega), bv_append, bv_one _ (by omega)]
theorem scHit : FnScope ["own_bytes", "length", "back", "more", "halves"] ["own_bytes", "length", "back"] (defScope s_part_with_match) := ⟨rfl, rfl, rfl, by decide +kernel, rfl, by decide +kernel, by decide +kernel⟩
theorem ok_hit {f fL fM : Addr} {fd fdL fdM : FuncData} (F : Fun K "part_with_match" "part_with_match" s_part_with_match f fd) (g : G mg) (FL : Fun K "low_first" "low_first" sLow fL fdL) (bL : Binds K fdL ["number", "count"] []) (mL : mg "low_first" = some (.ref fL))
    (FM : Fun K "carried_on" "carried_on" s_carried_on fM fdM) (bM : Binds K fdM ["count"] []) (mM : mg "carried_on" = some (.ref fM)) : FnOk P w K mg base CX0 2 f fd ["own_bytes", "length", "back"] spHit := by
  have GL : FnOk P w K mg base CX0 1 fL fdL ["number", "count"] spLow := ok_low FL g.range
  have GM : FnOk P w K mg base CX0 1 fM fdM ["count"] spMore := ok_more FM
  refine F.ok scHit (fun vs H Q E h => ?_) (fun cdv A outer s H vs Q E hr h => ?_)
  · obtain ⟨o, lits, n, d, rfl, _⟩ := h
    rfl
  obtain ⟨o, lits, n, d, rfl, ho, h4, hn, hll, q⟩ := h
  refine ⟨_, pss_cons (ps_set (i := 3) scHit.nd rfl (Or.inl rfl) (pe_op (eI0 op_sub) (pv 1) (pe_gint rfl g.m4)))
    (pss_cons (ps_set (i := 4) scHit.nd rfl (Or.inl rfl) (pe_op (eI0 op_add) (pe_op (eI op_mul) pe_int (pe_callB (call_minE rfl) rfl g.mn boot_mn (pa_cons (pe_callB call_len_bv rfl g.len PySem.boot_len (pa_cons (pv 0) pa_nil)) (pa_cons pe_int pa_nil)))) (pe_callB (call_minE rfl) rfl g.mn boot_mn (pa_cons (pv 3) (pa_cons pe_int pa_nil)))))
    (pss_one (ps_ret (pe_op op_cat (pe_op op_cat (pe_op op_cat (pe_op op_cat (pe_lst (pa_cons (pv 4) pa_nil)) (pe_call GM hr rfl mM FM.kp bM .nil pass0 (pa_cons (pe_callB call_len_bv rfl g.len PySem.boot_len (pa_cons (pv 0) pa_nil)) pa_nil))) (pv 0)) (pe_call GL hr rfl mL FL.kp bL .nil pass0 (pa_cons (pv 2) (pa_cons pe_int pa_nil)))) (pe_call GM hr rfl mM FM.kp bM .nil pass0 (pa_cons (pv 3) pa_nil)))))), ?_⟩
  refine ⟨_, rfl, ((n - 4 : Nat) : Int), _, _, rfl, rfl, by omega, ?_⟩
  refine ⟨_, rfl, o, _, rfl, SqL.of ho, ((min 15 lits.length : Nat) : Int), _, _, rfl, by omega, _, _, _, rfl, rfl, .inl ⟨by decide, by decide⟩, rfl, _, rfl, ((min 15 (n - 4) : Nat) : Int), _, _, rfl, by omega, ((16 * min 15 lits.length + min 15 (n - 4) : Nat) : Int), _, _, rfl, rfl, by omega, ?_⟩
  -- [halves]
  refine ⟨_, rfl, line (by show 1 ≤ 16777216; decide), fun l1 hl1 => ?_⟩
  have s1 := same_new hl1 (.lst [.int ((16 * min 15 lits.length + min 15 (n - 4) : Nat) : Int)])
  have ho1 := s1 _ _ ho
  -- carried_on(len(own_bytes))
  refine ⟨_, rfl, o, _, rfl, SqL.of ho1, lits.length, rfl, by omega, fun l2 H2 s2 nl2 hl2 => ?_⟩
  have k2 := MP.more_length lits.length
  have k3 := MP.more_length (n - 4)
  refine ⟨l1, l2, _, _, rfl, rfl, s2 _ _ upd_same, hl2, ?_, fun l3 hl3 => ?_⟩
  · rw [bv_length]
    show 1 + (more lits.length).length ≤ sizeLine
    exact line (by omega)
  have s3 := same_new hl3 (.lst ([.int ((16 * min 15 lits.length + min 15 (n - 4) : Nat) : Int)] ++ bv (more lits.length)))
  have t3 := (s1.trans s2).trans s3
  -- + own_bytes
  refine ⟨_, rfl, l3, o, _, _, rfl, rfl, upd_same, t3 _ _ ho, ?_, fun l4 hl4 => ?_⟩
  · rw [List.length_append, bv_length, bv_length]
    show 1 + (more lits.length).length + lits.length ≤ sizeLine
    exact line (by omega)
  have s4 := same_new hl4 (.lst ([.int ((16 * min 15 lits.length + min 15 (n - 4) : Nat) : Int)] ++ bv (more lits.length) ++ bv lits))
  -- low_first(back, 2)
  refine ⟨_, rfl, d, 2, rfl, by decide, fun l5 H5 s5 nl5 hl5 => ?_⟩
  refine ⟨l4, l5, _, _, rfl, rfl, s5 _ _ upd_same, hl5, ?_, fun l6 hl6 => ?_⟩
  · rw [List.length_append, List.length_append, bv_length, bv_length, bv_length, MP.spelled_length]
    show 1 + (more lits.length).length + lits.length + 2 ≤ sizeLine
    exact line (by omega)
  have s6 := same_new hl6 (.lst ([.int ((16 * min 15 lits.length + min 15 (n - 4) : Nat) : Int)] ++ bv (more lits.length) ++ bv lits ++ bv (spelled 2 d)))
  -- carried_on(more)
  refine ⟨_, rfl, n - 4, rfl, by omega, fun l7 H7 s7 nl7 hl7 => ?_⟩
  refine ⟨l6, l7, _, _, rfl, rfl, s7 _ _ upd_same, hl7, ?_, fun l8 hl8 => ?_⟩
  · rw [List.length_append, List.length_append, List.length_append, bv_length, bv_length, bv_length, bv_length, MP.spelled_length]
    show 1 + (more lits.length).length + lits.length + 2 + (more (n - 4)).length ≤ sizeLine
    exact line (by omega)
  have s8 := (((t3.trans s4).trans s5).trans s6).trans s7
  refine q l8 _ (s8.trans (same_new hl8 _)) (s8.free hl8) ?_
  rw [upd_same]
  show some (HO.lst _) = some (HO.lst (bv ([UInt8.ofNat (16 * min 15 lits.length + min 15 (n - 4))] ++ (more lits.length ++ lits ++ spelled 2 d ++ more (n - 4)))))
  rw [bv_append, bv_append, bv_append, bv_append, bv_one _ (by omega)]
  simp only [List.append_assoc]
theorem scLast : FnScope ["own_bytes"] ["own_bytes"] (defScope s_last_part) := ⟨rfl, rfl, rfl, by decide +kernel, rfl, by decide +kernel, by decide +kernel⟩
theorem ok_last {f fM : Addr} {fd fdM : FuncData} (F : Fun K "last_part" "last_part" s_last_part f fd) (g : G mg)
    (FM : Fun K "carried_on" "carried_on" s_carried_on fM fdM) (bM : Binds K fdM ["count"] []) (mM : mg "carried_on" = some (.ref fM)) : FnOk P w K mg base CX0 2 f fd ["own_bytes"] spLast := by
  have GM : FnOk P w K mg base CX0 1 fM fdM ["count"] spMore := ok_more FM
  refine F.ok scLast (fun vs H Q E h => ?_) (fun cdv A outer s H vs Q E hr h => ?_)
  · obtain ⟨o, lits, rfl, _⟩ := h
    rfl
  obtain ⟨o, lits, rfl, ho, hll, q⟩ := h
  refine ⟨_, pss_one (ps_ret (pe_op op_cat (pe_op op_cat (pe_lst (pa_cons (pe_op (eI op_mul) pe_int (pe_callB (call_minE rfl) rfl g.mn boot_mn (pa_cons (pe_callB call_len_bv rfl g.len PySem.boot_len (pa_cons (pv 0) pa_nil)) (pa_cons pe_int pa_nil)))) pa_nil)) (pe_call GM hr rfl mM FM.kp bM .nil pass0 (pa_cons (pe_callB call_len_bv rfl g.len PySem.boot_len (pa_cons (pv 0) pa_nil)) pa_nil))) (pv 0))), ?_⟩
  refine ⟨_, rfl, o, _, rfl, SqL.of ho, ((min 15 lits.length : Nat) : Int), _, _, rfl, by omega, ((16 * min 15 lits.length : Nat) : Int), _, _, rfl, rfl, .inl ⟨by decide, by decide⟩, by omega, line (by show 1 ≤ 16777216; decide), fun l1 hl1 => ?_⟩
  have s1 := same_new hl1 (.lst [.int ((16 * min 15 lits.length : Nat) : Int)])
  have ho1 := s1 _ _ ho
  refine ⟨_, rfl, o, _, rfl, SqL.of ho1, lits.length, rfl, by omega, fun l2 H2 s2 nl2 hl2 => ?_⟩
  have k2 := MP.more_length lits.length
  refine ⟨l1, l2, _, _, rfl, rfl, s2 _ _ upd_same, hl2, ?_, fun l3 hl3 => ?_⟩
  · rw [bv_length]
    show 1 + (more lits.length).length ≤ sizeLine
    exact line (by omega)
  have s3 := same_new hl3 (.lst ([.int ((16 * min 15 lits.length : Nat) : Int)] ++ bv (more lits.length)))
  have t3 := (s1.trans s2).trans s3
  refine ⟨_, rfl, l3, o, _, _, rfl, rfl, upd_same, t3 _ _ ho, ?_, fun l4 hl4 => ?_⟩
  · rw [List.length_append, bv_length, bv_length]
    show 1 + (more lits.length).length + lits.length ≤ sizeLine
    exact line (by omega)
  refine q l4 _ (t3.trans (same_new hl4 _)) (t3.free hl4) ?_
  rw [upd_same]
  show some (HO.lst _) = some (HO.lst (bv ([UInt8.ofNat (16 * min 15 lits.length)] ++ (more lits.length ++ lits))))
  rw [bv_append, bv_append, bv_one _ (by omega)]
  simp only [List.append_assoc]
end
end PK

/-! ### a text made ready for the search -/
namespace ST
open PySem L2 TL Kg18 MS MP MN C
def pair (c : UInt8) : Str := ⟨#[65 + c.toNat / 16, 97 + c.toNat % 16]⟩
def mirS (t : Bytes) : Str := ⟨(mir t).toArray⟩
theorem tl_mirS (t : Bytes) : tl (mirS t) = mir t := rfl
theorem mirS_length (t : Bytes) : (mirS t).length = 2 * t.length := by rw [len_tl, tl_mirS, mir_length]
theorem tl_pair (c : UInt8) : tl (pair c) = two c := rfl
theorem hi_tl : tl (Str.ofString "ABCDEFGHIJKLMNOP") = [65, 66, 67, 68, 69, 70, 71, 72, 73, 74, 75, 76, 77, 78, 79, 80] := by rw [tl_ofString]; decide
theorem lo_tl : tl (Str.ofString "abcdefghijklmnop") = [97, 98, 99, 100, 101, 102, 103, 104, 105, 106, 107, 108, 109, 110, 111, 112] := by rw [tl_ofString]; decide
theorem hi_at : ∀ {k : Nat}, k < 16 → (tl (Str.ofString "ABCDEFGHIJKLMNOP"))[k]? = some (65 + k) := by
  rw [hi_tl]
  decide
theorem lo_at : ∀ {k : Nat}, k < 16 → (tl (Str.ofString "abcdefghijklmnop"))[k]? = some (97 + k) := by
  rw [lo_tl]
  decide
theorem hi_len : (Str.ofString "ABCDEFGHIJKLMNOP").length ≤ sizeLine := by
  rw [len_tl, hi_tl]
  exact line (by decide)
theorem lo_len : (Str.ofString "abcdefghijklmnop").length ≤ sizeLine := by
  rw [len_tl, lo_tl]
  exact line (by decide)
theorem pairs_sum (l : Bytes) : ((l.map pair).map (·.length)).sum = 2 * l.length := by
  induction l with
  | nil => rfl
  | cons c r ih =>
    rw [List.map_cons, List.map_cons, List.sum_cons, ih, List.length_cons]
    show 2 + 2 * r.length = _
    omega
theorem rev_get {t : Bytes} {i : Nat} (h : i < t.length) : t.reverse[i]? = some (t.getD (t.length - 1 - i) 0) := by
  rw [List.getElem?_reverse h, List.getD_eq_getElem?_getD, List.getElem?_eq_getElem (by omega)]
  rfl
theorem joinL_nil : ∀ l : List (List Nat), joinL [] l = l.flatten
  | [] => rfl
  | [p] => by simp [joinL]
  | p :: q :: r => by
    rw [joinL, joinL_nil (q :: r), List.nil_append]
    rfl
theorem join_pairs (t : Bytes) : Txt.join (Str.ofString "") (t.reverse.map pair) = mirS t := by
  apply ext_tl
  rw [join_eq, tl_join, tl_mirS]
  have e : tl (Str.ofString "") = [] := by rw [tl_ofString]; rfl
  rw [e, joinL_nil, List.map_map]
  unfold mir
  rw [List.flatMap_def]
  rfl
theorem pair_eq {c : UInt8} {x y : Nat} (h1 : x = 65 + c.toNat / 16) (h2 : y = 97 + c.toNat % 16) : (⟨#[x]⟩ : Str) ++ ⟨#[y]⟩ = pair c := by
  apply ext_tl
  rw [tl_append, h1, h2]
  rfl
structure G (K : PySem.W.Frag) (mg : Str → Option Value) (C : Addr) : Prop where
  cl : Cls K C
  nT : NoAttr K C "text"
  nM : NoAttr K C "mirrored"
  nB : NoAttr K C "before"
  mgC : mg "SearchedText" = some (.ref C)
  len : mg "len" = none
  range : mg "range" = none
  rev : mg "reversed" = none
  mn : mg "min" = none
  mx : mg "max" = none
  hi : GStr mg "HIGH_LETTERS" (Str.ofString "ABCDEFGHIJKLMNOP")
  lo : GStr mg "LOW_LETTERS" (Str.ofString "abcdefghijklmnop")
  m4 : GInt mg "SHORTEST_MATCH" 4
  back : GInt mg "FARTHEST_BACK" 65535
  few : GInt mg "FEWEST_LEFT_FOR_A_MATCH" 12
  behind : GInt mg "LEFT_BEHIND_A_MATCH" 5
def spMir (K : PySem.W.Frag) : Sp := fun vs H Q _ => ∃ (a : Addr) (t : Bytes), vs = [.ref a] ∧ SqL K H a (bv t) ∧ t.length ≤ 1000000 ∧ ∀ H', Same H H' → Q (.str (mirS t)) H'
/-- the list of the nearest places ahead -/
def Befs (t : Bytes) (bs : List Int) : Prop := bs.length = t.length - 3 ∧ ∀ p z, bs[p]? = some z → Bef t p z
def spBef (K : PySem.W.Frag) : Sp := fun vs H Q _ => ∃ (a : Addr) (t : Bytes), vs = [.ref a] ∧ SqL K H a (bv t) ∧ t.length ≤ 1000000 ∧ ∀ (l : Addr) (bs : List Int) H', Same H H' → H l = none → H' l = some (.lst (bs.map V.int)) → Befs t bs → Q (.ref l) H'
section
variable {P : Program} {w : World} {K : PySem.W.Frag} {mg : Str → Option Value} {base : Heap}
theorem scMir : FnScope ["text", "byte"] ["text"] (defScope s_mirrored_letters) := ⟨rfl, rfl, rfl, by decide +kernel, rfl, by decide +kernel, by decide +kernel⟩
theorem ok_mir {f C : Addr} {fd : FuncData} (F : Fun K "mirrored_letters" "mirrored_letters" s_mirrored_letters f fd) (g : G K mg C) : FnOk P w K mg base CX0 1 f fd ["text"] (spMir K) := by
  refine F.ok scMir (fun vs H Q E h => ?_) (fun cdv A outer s H vs Q E hr h => ?_)
  · obtain ⟨a, t, rfl, _⟩ := h
    rfl
  obtain ⟨a, t, rfl, hS, hn, q⟩ := h
  refine ⟨_, pss_one (ps_ret (pe_join pe_str (pe_lc rfl scMir.nd (pi_reversed rfl g.rev (pa_cons (pv 0) pa_nil)) (blkOk_by (own := [("byte", 1)]) (by show blkC ["text", "byte"] (defScope s_mirrored_letters) _ _ = true; decide +kernel)) (fun s H C cl fp => pg_name (i := 1) scMir.nd rfl (Or.inl rfl)) (fun s H C cl fp => pts_nil) (fun s H C cl fp => pe_op op_add_str (pe_ix ix_str (pe_gstr rfl g.hi) (pe_op (eI op_shr) (pv 1) pe_int) (fun _ _ => rfl)) (pe_ix ix_str (pe_gstr rfl g.lo) (pe_op (eI0 op_and) (pv 1) pe_int) (fun _ _ => rfl)))))), ?_⟩
  refine ⟨⟨_, rfl⟩, _, rfl, a, bv t, rfl, hS, fun D hD => ?_⟩
  have hlr : (bv t).length = t.length := bv_length t
  refine lc_rev (fun i H' => Same H H' ∧ H' D = some (.lst ((t.reverse.take i).map fun c => V.str (pair c)))) ⟨same_new hD _, upd_same⟩ (fun i H2 _ ⟨s2, _⟩ => s2.seq hS) (fun i x H2 hi hx ⟨s2, h2⟩ => ?_) (fun H2 ⟨s2, h2⟩ => ?_)
  · rw [hlr] at hi hx
    rw [bv_get (by omega)] at hx
    cases hx
    have hb := bat_lt t (t.length - 1 - i)
    refine ⟨rfl, tyes ?_⟩
    refine ⟨_, rfl, ((bat t (t.length - 1 - i) / 16 : Nat) : Int), _, _, rfl, rfl, nn _, shr4, _, _, _, rfl, rfl, hi_len, at_N (hi_at (k := bat t (t.length - 1 - i) / 16) (by omega)),
      _, rfl, ((bat t (t.length - 1 - i) % 16 : Nat) : Int), _, _, rfl, rfl, and15, _, _, _, rfl, rfl, lo_len, at_N (lo_at (k := bat t (t.length - 1 - i) % 16) (by omega)), _, _, rfl, rfl, line (by show 2 ≤ 16777216; decide), _, h2, ?_, fun c o e => ?_, ?_⟩
    · rw [List.length_map, List.length_take]
      have : (1000000 : Nat) < sizeLine := by rw [sizeLine_eq]; decide
      omega
    · rw [upd_ne (ne_of_none e hD)]
      exact s2 c o e
    · have ep : (⟨#[65 + bat t (t.length - 1 - i) / 16]⟩ : Str) ++ ⟨#[97 + bat t (t.length - 1 - i) % 16]⟩ = pair (t.getD (t.length - 1 - i) 0) := pair_eq rfl rfl
      rw [upd_same, List.take_add_one, rev_get hi, List.map_append, ep]
      rfl
  · refine ⟨_, D, t.reverse.map pair, rfl, rfl, .inl (SqL.of ?_), ?_, ?_⟩
    · rw [h2, hlr, List.take_of_length_le (by rw [List.length_reverse]; exact Nat.le_refl _), List.map_map]
      rfl
    · rw [pairs_sum, List.length_reverse, List.length_map, List.length_reverse]
      have e : (Str.ofString "").length = 0 := rfl
      rw [e]
      omega
    · rw [join_pairs]
      exact q H2 s2
/-! the nearest places ahead -/
theorem putK_len (kvs : List (Key × V)) (k : Key) (v : V) : (putK kvs k v).length ≤ kvs.length + 1 := by
  unfold putK
  split
  · rw [List.length_map]; omega
  · rw [List.length_append]; exact Nat.le_refl _
theorem scBef : FnScope ["text", "latest", "before", "place", "four"] ["text"] (defScope s_places_before) := ⟨rfl, rfl, rfl, by decide +kernel, rfl, by decide +kernel, by decide +kernel⟩
theorem ok_bef {f f4 C : Addr} {fd fd4 : FuncData} (F : Fun K "places_before" "places_before" s_places_before f fd) (g : G K mg C) (G4 : FnOk P w K mg base CX0 1 f4 fd4 ["text", "place"] (spFour K)) (k4 : PySem.W.keepIn K (.ref f4) = true) (b4 : Binds K fd4 ["text", "place"] []) (m4 : mg "four_bytes_at" = some (.ref f4)) :
    FnOk P w K mg base CX0 2 f fd ["text"] (spBef K) := by
  refine F.ok scBef (fun vs H Q E h => ?_) (fun cdv A outer s H vs Q E hr h => ?_)
  · obtain ⟨a, t, rfl, _⟩ := h
    rfl
  obtain ⟨a, t, rfl, hS, hn, q⟩ := h
  have hu := hu_of hr
  refine ⟨_, pss_cons (ps_set (i := 1) scBef.nd rfl (Or.inl rfl) pe_dnewK)
    (pss_cons (ps_set (i := 2) scBef.nd rfl (Or.inl rfl) (pe_lst pa_nil))
    (pss_cons (ps_for PassesOwn.never rfl (pi_range1 rfl g.range (pa_cons (pe_op (eI0 op_sub) (pe_callB call_len_bv rfl g.len PySem.boot_len (pa_cons (pv 0) pa_nil)) pe_int) pa_nil)) (pg_name (i := 3) scBef.nd rfl (Or.inl rfl)) (pss_cons (ps_set (i := 4) scBef.nd rfl (Or.inl rfl) (pe_call G4 hr rfl m4 k4 b4 .nil pass0 (pa_cons (pv 0) (pa_cons (pv 3) pa_nil))))
    (pss_cons (ps_expr (pe_bm PySem.F.plainAttrs_list PySem.F.slot_list_append PySem.F.type_list_append mt_append (pv 2) (pa_cons (pe_dget2 hu (pv 1) (pv 4) (pe_un un_neg pe_int) ⟨rfl, rfl, rfl, rfl⟩) pa_nil)))
    (pss_one (ps_dput hu (pv 1) (pv 4) (pv 3) rfl)))))
    (pss_one (ps_ret (pv 2))))), ?_⟩
  intro d hd
  refine ⟨line (by show 0 ≤ 16777216; decide), fun l hl => ?_⟩
  have s1 := same_new hd (.dK [])
  have ndl : d ≠ l := fun z => by rw [← z, upd_same] at hl; cases hl
  have s2 := s1.trans (same_new hl (.lst []))
  refine ⟨_, rfl, a, t, rfl, s2.seq hS, ((t.length : Int) - 3), _, _, rfl, rfl, rfl, _, rfl, by omega, by omega, for_range (n := ((t.length : Int) - 3).toNat) (fun i σ H2 => ∃ (kvs : List (Key × V)) (bs : List Int) (v : Int → Option Int) (v3 v4 : Option V), σ = [some (.ref a), some (.ref d), some (.ref l), v3, v4] ∧ Same H H2 ∧
      H2 d = some (.dK kvs) ∧ H2 l = some (.lst (bs.map V.int)) ∧ kvs.length ≤ i ∧ bs.length = i ∧ (∀ p z, bs[p]? = some z → Bef t p z) ∧ (∀ x : Int, valV kvs (Sum.inl x : Key) = (v x).map V.int) ∧ Lat t i v)
    ⟨[], [], fun _ => none, none, none, rfl, s2, ?_, upd_same, Nat.le_refl _, rfl, fun p z h => by simp at h, fun x => rfl, Lat.zero t fun _ => rfl⟩ ?_ ?_⟩
  · rw [upd_ne ndl, upd_same]
  · rintro i σ H2 hi ⟨kvs, bs, v, v3, v4, rfl, s3, h1, h2, hk, hbl, hbs, hv, hlat⟩
    have h4 : i + 4 ≤ t.length := by omega
    have e4 : le (t.drop i) 4 = four t i := le_four h4
    have ez : (0 + (i : Int)) = (i : Int) := by omega
    have hsz : ∀ m : Nat, m ≤ 1000000 → m < sizeLine := fun m hm => by rw [sizeLine_eq]; omega
    -- four = four_bytes_at(text, place)
    refine ⟨_, rfl, _, rfl, a, t, i, ?_, s3.seq hS, h4, ?_⟩
    · show [V.ref a, V.int (0 + (i : Int))] ++ [] = _
      rw [ez]
      rfl
    rw [e4]
    -- before.append(latest.get(four, -1))
    refine ⟨_, rfl, .inl ⟨rfl, _, SqL.of h2⟩, _, rfl, d, rfl, .inl ⟨kvs, .inl h1⟩, _, rfl, _, rfl, _, DGet.k (k := Sum.inl ((four t i : Nat) : Int)) h1, l, _, _, rfl, rfl, h2, hsz _ (by rw [List.length_map]; omega), ?_⟩
    rw [hv]
    have eo : ((v ((four t i : Nat) : Int)).map V.int).getD (V.int (-1)) = V.int ((v ((four t i : Nat) : Int)).getD (-1)) := by
      cases v ((four t i : Nat) : Int) <;> rfl
    -- latest[four] = place
    refine ⟨_, rfl, _, rfl, _, rfl, d, _, rfl, DPut.k (k := Sum.inl ((four t i : Nat) : Int)) (by rw [upd_ne ndl]; exact h1) (hsz _ (by omega)), ?_⟩
    have hadd : bs.map V.int ++ [((v ((four t i : Nat) : Int)).map V.int).getD (V.int (-1))] = (bs ++ [(v ((four t i : Nat) : Int)).getD (-1)]).map V.int := by
      rw [eo, List.map_append]
      rfl
    refine ⟨putK kvs (Sum.inl ((four t i : Nat) : Int)) (.int (0 + (i : Int))), bs ++ [(v ((four t i : Nat) : Int)).getD (-1)], fun x => if x = ((four t i : Nat) : Int) then some (i : Int) else v x, _, _, rfl, fun c o e => ?_, upd_same, ?_, ?_, ?_, fun p z hz => ?_, fun x => ?_, hlat.put fun x => rfl⟩
    · rw [upd_ne (ne_of_none e hd), upd_ne (ne_of_none e (s1.free hl))]
      exact s3 c o e
    · rw [upd_ne ndl.symm, upd_same]
      exact congrArg (fun x => some (HO.lst x)) hadd
    · have := putK_len kvs (Sum.inl ((four t i : Nat) : Int)) (V.int (0 + (i : Int)))
      omega
    · rw [List.length_append, hbl]
      rfl
    · by_cases c : p < bs.length
      · rw [List.getElem?_append_left c] at hz
        exact hbs p z hz
      · rw [List.getElem?_append_right (by omega)] at hz
        have hp : p - bs.length = 0 := by
          rcases Nat.eq_zero_or_pos (p - bs.length) with y | y
          · exact y
          · rw [List.getElem?_eq_none (by show 1 ≤ _; omega)] at hz; cases hz
        rw [hp] at hz
        have ez2 : (v ((four t i : Nat) : Int)).getD (-1) = z := Option.some.inj hz
        have ep : p = i := by omega
        rw [ep, ← ez2]
        exact hlat.bef
    · show _ = Option.map V.int (if x = ((four t i : Nat) : Int) then some (i : Int) else v x)
      rw [valV_put, hv, ez]
      by_cases c : x = ((four t i : Nat) : Int)
      · rw [if_pos (by rw [c]), if_pos c]
        rfl
      · rw [if_neg (fun z => c (Sum.inl.inj z)), if_neg c]
  · rintro σ H2 ⟨kvs, bs, v, v3, v4, rfl, s3, h1, h2, hk, hbl, hbs, hv, hlat⟩
    exact ⟨_, rfl, q l bs H2 s3 (s1.free hl) h2 ⟨by omega, hbs⟩⟩
/-! the object -/
theorem kMT : ¬ (("mirrored" : Str) = "text") := by decide +kernel
theorem kBT : ¬ (("before" : Str) = "text") := by decide +kernel
theorem kBM : ¬ (("before" : Str) = "mirrored") := by decide +kernel
theorem kTM : ¬ (("text" : Str) = "mirrored") := by decide +kernel
theorem kTB : ¬ (("text" : Str) = "before") := by decide +kernel
theorem kMB : ¬ (("mirrored" : Str) = "before") := by decide +kernel
def sf (a ba : Addr) (m : Str) : List (Str × V) := putF "before" (.ref ba) (putF "mirrored" (.str m) (putF "text" (.ref a) []))
theorem sf_text (a ba : Addr) (m : Str) : (sf a ba m).lookup ("text" : Str) = some (.ref a) := by
  unfold sf
  rw [lookup_putF, if_neg kTB, lookup_putF, if_neg kTM, lookup_putF, if_pos rfl]
theorem sf_mir (a ba : Addr) (m : Str) : (sf a ba m).lookup ("mirrored" : Str) = some (.str m) := by
  unfold sf
  rw [lookup_putF, if_neg kMB, lookup_putF, if_pos rfl]
theorem sf_bef (a ba : Addr) (m : Str) : (sf a ba m).lookup ("before" : Str) = some (.ref ba) := by
  unfold sf
  rw [lookup_putF, if_pos rfl]
theorem sf_no (a ba : Addr) (m : Str) {x : Str} (h1 : ¬ x = "before") (h2 : ¬ x = "mirrored") (h3 : ¬ x = "text") : (sf a ba m).lookup x = none := by
  unfold sf
  rw [lookup_putF, if_neg h1, lookup_putF, if_neg h2, lookup_putF, if_neg h3]
  all_goals rfl
/-- a text made ready stands at x -/
structure St (K : PySem.W.Frag) (C : Addr) (H : Hp) (x a : Addr) (t : Bytes) : Prop where
  sq : SqL K H a (bv t)
  ob : ∃ dx ba bs, H x = some (.ins C dx (sf a ba (mirS t))) ∧ H ba = some (.lst (List.map V.int bs)) ∧ Befs t bs
  sz : t.length ≤ 1000000
theorem St.same {K : PySem.W.Frag} {C : Addr} {H H' : Hp} {x a : Addr} {t : Bytes} (S : St K C H x a t) (s : Same H H') : St K C H' x a t := by
  obtain ⟨h1, ⟨dx, ba, bs, h2, h3, h4⟩, h5⟩ := S
  exact ⟨s.seq h1, ⟨dx, ba, bs, s _ _ h2, s _ _ h3, h4⟩, h5⟩
/-- .. its list of places at ba -/
structure StB (K : PySem.W.Frag) (C : Addr) (H : Hp) (x a ba : Addr) (t : Bytes) : Prop where
  sq : SqL K H a (bv t)
  ob : ∃ dx bs, H x = some (.ins C dx (sf a ba (mirS t))) ∧ H ba = some (.lst (List.map V.int bs)) ∧ Befs t bs
  sz : t.length ≤ 1000000
theorem StB.st {K : PySem.W.Frag} {C : Addr} {H : Hp} {x a ba : Addr} {t : Bytes} (S : StB K C H x a ba t) : St K C H x a t := by
  obtain ⟨h1, ⟨dx, bs, h2, h3, h4⟩, h5⟩ := S
  exact ⟨h1, ⟨dx, ba, bs, h2, h3, h4⟩, h5⟩
theorem StB.same {K : PySem.W.Frag} {C : Addr} {H H' : Hp} {x a ba : Addr} {t : Bytes} (S : StB K C H x a ba t) (s : Same H H') : StB K C H' x a ba t := by
  obtain ⟨h1, ⟨dx, bs, h2, h3, h4⟩, h5⟩ := S
  exact ⟨s.seq h1, ⟨dx, bs, s _ _ h2, s _ _ h3, h4⟩, h5⟩
theorem StB.but {K : PySem.W.Frag} {C : Addr} {H H' : Hp} {x a ba l : Addr} {t : Bytes} (S : StB K C H x a ba t) (s : But l H H') (f : Fix K H a l (bv t)) (n1 : x ≠ l) (n2 : ba ≠ l) : StB K C H' x a ba t := by
  obtain ⟨h1, ⟨dx, bs, h2, h3, h4⟩, h5⟩ := S
  exact ⟨f _ s, ⟨dx, bs, s _ _ h2 n1, s _ _ h3 n2, h4⟩, h5⟩
def spInit (K : PySem.W.Frag) (C : Addr) : Sp := fun vs H Q _ => ∃ (x dx a : Addr) (t : Bytes), vs = [.ref x, .ref a] ∧ H x = some (.ins C dx []) ∧ SqL K H a (bv t) ∧ t.length ≤ 1000000 ∧ ∀ (ba : Addr) (H' : Hp), H ba = none → StB K C H' x a ba t → But x H H' → Q .non H'
theorem scInit : FnScope ["self", "text"] ["self", "text"] (defScope sSearchedText_init) := ⟨rfl, rfl, rfl, by decide +kernel, rfl, by decide +kernel, by decide +kernel⟩
theorem ok_init {f fM fB C : Addr} {fd fdM fdB : FuncData} (F : Fun K "__init__" "SearchedText.__init__" sSearchedText_init f fd) (g : G K mg C) (GM : FnOk P w K mg base CX0 1 fM fdM ["text"] (spMir K)) (kM : PySem.W.keepIn K (.ref fM) = true) (bM : Binds K fdM ["text"] []) (mM : mg "mirrored_letters" = some (.ref fM))
    (GB : FnOk P w K mg base CX0 2 fB fdB ["text"] (spBef K)) (kB : PySem.W.keepIn K (.ref fB) = true) (bB : Binds K fdB ["text"] []) (mB : mg "places_before" = some (.ref fB)) : FnOk P w K mg base CX0 3 f fd ["self", "text"] (spInit K C) := by
  refine F.ok scInit (fun vs H Q E h => ?_) (fun cdv A outer s H vs Q E hr h => ?_)
  · obtain ⟨x, dx, a, t, rfl, _⟩ := h
    rfl
  obtain ⟨x, dx, a, t, rfl, hx, hS, hn, q⟩ := h
  have hr1 : Room 1 _ := hr.mono (by decide)
  refine ⟨_, pss_cons (ps_fld (pv 0) (pv 1) rfl)
    (pss_cons (ps_fld (pv 0) (pe_call GM hr1 rfl mM kM bM .nil pass0 (pa_cons (pv 1) pa_nil)) rfl)
    (pss_one (ps_fld (pv 0) (pe_call GB hr rfl mB kB bB .nil pass0 (pa_cons (pv 1) pa_nil)) rfl))), ?_⟩
  refine ⟨_, rfl, _, rfl, x, C, dx, [], rfl, hx, g.cl, g.nT, (by show 0 < 1000; decide), ?_⟩
  have k1 : But x H (upd H x (.ins C dx (putF "text" (.ref a) []))) := But.upd _
  have h1 : upd H x (.ins C dx (putF "text" (.ref a) [])) x = some (.ins C dx (putF "text" (.ref a) [])) := upd_same
  have q1 := k1.seqI hx hS
  generalize upd H x (.ins C dx (putF "text" (.ref a) [])) = H1 at k1 h1 q1 ⊢
  refine ⟨_, rfl, a, t, rfl, q1, hn, fun H2 s2 => ?_⟩
  refine ⟨_, rfl, x, C, dx, _, rfl, s2 _ _ h1, g.cl, g.nM, (by show 1 < 1000; decide), ?_⟩
  have k3 : But x H (upd H2 x (.ins C dx (putF "mirrored" (.str (mirS t)) (putF "text" (.ref a) [])))) := (k1.same s2).trans (But.upd _)
  have h3 : upd H2 x (.ins C dx (putF "mirrored" (.str (mirS t)) (putF "text" (.ref a) []))) x = some (.ins C dx (putF "mirrored" (.str (mirS t)) (putF "text" (.ref a) []))) := upd_same
  have q3 := (But.upd (r := x) (H := H2) (.ins C dx (putF "mirrored" (.str (mirS t)) (putF "text" (.ref a) [])))).seqI (s2 _ _ h1) (s2.seq q1)
  generalize upd H2 x (.ins C dx (putF "mirrored" (.str (mirS t)) (putF "text" (.ref a) []))) = H3 at k3 h3 q3 ⊢
  refine ⟨_, rfl, a, t, rfl, q3, hn, fun l bs H4 s4 nl hl hb => ?_⟩
  have nlx : l ≠ x := fun z => by rw [z, h3] at nl; cases nl
  refine ⟨_, rfl, x, C, dx, _, rfl, s4 _ _ h3, g.cl, g.nB, ?_, ?_⟩
  · have e : putF "mirrored" (V.str (mirS t)) (putF "text" (V.ref a) []) = ([("text", V.ref a), ("mirrored", V.str (mirS t))] : List (Str × V)) := by
      show (if ("text" : Str) = "mirrored" then [(("text" : Str), V.str (mirS t))] else (("text" : Str), V.ref a) :: putF "mirrored" (V.str (mirS t)) []) = _
      rw [if_neg kTM]
      rfl
    rw [e]
    show 2 < 1000
    decide
  · refine q l _ (k3.free nl nlx) ⟨?_, ⟨dx, bs, upd_same, by rw [upd_ne nlx]; exact hl, hb⟩, hn⟩ ((k3.same s4).trans (But.upd _))
    exact (But.upd _).seqI (s4 _ _ h3) (s4.seq q3)
/-! its methods -/
def spIdx (K : PySem.W.Frag) (C : Addr) : Sp := fun vs H Q _ => ∃ (x a : Addr) (t : Bytes) (p : Nat), vs = [.ref x, .int p] ∧ St K C H x a t ∧ p ≤ t.length ∧ Q (.int ((2 * (t.length - p) : Nat) : Int)) H
theorem scIdx : FnScope ["self", "place"] ["self", "place"] (defScope sSearchedText_mirrored_index) := ⟨rfl, rfl, rfl, by decide +kernel, rfl, by decide +kernel, by decide +kernel⟩
theorem ok_idx {f C : Addr} {fd : FuncData} (F : Fun K "mirrored_index" "SearchedText.mirrored_index" sSearchedText_mirrored_index f fd) (g : G K mg C) : FnOk P w K mg base CX0 1 f fd ["self", "place"] (spIdx K C) := by
  refine F.ok scIdx (fun vs H Q E h => ?_) (fun cdv A outer s H vs Q E hr h => ?_)
  · obtain ⟨x, a, t, p, rfl, _⟩ := h
    rfl
  obtain ⟨x, a, t, p, rfl, S, hp, q⟩ := h
  obtain ⟨dx, ba, bs, h1, h2, h3⟩ := S.ob
  refine ⟨_, pss_one (ps_ret (pe_op (eI op_mul) pe_int (pe_op (eI0 op_sub) (pe_callB call_len_bv rfl g.len PySem.boot_len (pa_cons (pe_fld (pv 0) rfl) pa_nil)) (pv 1)))), ?_⟩
  exact ⟨_, rfl, x, C, dx, _, _, rfl, h1, g.cl, g.nT, sf_text _ _ _, a, t, rfl, S.sq, _, rfl, _, _, _, rfl, rfl, rfl, ((2 * (t.length - p) : Nat) : Int), _, _, rfl, rfl, .inl ⟨by decide, by decide⟩, by omega, q⟩
def spNear (K : PySem.W.Frag) (C : Addr) : Sp := fun vs H Q _ => ∃ (x a : Addr) (t : Bytes) (i w near low : Nat), vs = [.ref x, .int i, .int w, .int near, .int low] ∧ St K C H x a t ∧ 0 < w ∧ i + w ≤ t.length ∧ near + w - 1 ≤ t.length ∧ low ≤ t.length ∧
  ∀ z, Near t i w near low z → Q (.int z) H
theorem scNear : FnScope ["self", "place", "length", "near", "lowest", "wanted", "found"] ["self", "place", "length", "near", "lowest"] (defScope sSearchedText_nearest_same) := ⟨rfl, rfl, rfl, by decide +kernel, rfl, by decide +kernel, by decide +kernel⟩
theorem cut_mir {t : Bytes} {i w : Nat} (hi : i + w ≤ t.length) : tl (cutS (mirS t) (some ((2 * (t.length - (i + w)) : Nat) : Int)) (some ((2 * (t.length - i) : Nat) : Int))) = ((mir t).drop (2 * (t.length - (i + w)))).take (2 * w) := by
  have hl := mirS_length t
  show ((tl (mirS t)).drop (HT.sIx (mirS t).length 0 (some ((2 * (t.length - (i + w)) : Nat) : Int)))).take (HT.sIx (mirS t).length (mirS t).length (some ((2 * (t.length - i) : Nat) : Int)) - HT.sIx (mirS t).length 0 (some ((2 * (t.length - (i + w)) : Nat) : Int))) = _
  rw [HT.sIx_nat, HT.sIx_nat, hl, Nat.min_eq_left (show 2 * (t.length - (i + w)) ≤ 2 * t.length by omega), Nat.min_eq_left (show 2 * (t.length - i) ≤ 2 * t.length by omega), tl_mirS]
  congr 1
  omega
theorem ok_near {f fI C : Addr} {fd fdI : FuncData} (F : Fun K "nearest_same" "SearchedText.nearest_same" sSearchedText_nearest_same f fd) (g : G K mg C) (FI : Fun K "mirrored_index" "SearchedText.mirrored_index" sSearchedText_mirrored_index fI fdI) (bI : Binds K fdI ["self", "place"] []) (mI : Meth K C "mirrored_index" fI) :
    FnOk P w K mg base CX0 2 f fd ["self", "place", "length", "near", "lowest"] (spNear K C) := by
  have GI : FnOk P w K mg base CX0 1 fI fdI ["self", "place"] (spIdx K C) := ok_idx FI g
  refine F.ok scNear (fun vs H Q E h => ?_) (fun cdv A outer s H vs Q E hr h => ?_)
  · obtain ⟨x, a, t, i, wd, near, low, rfl, _⟩ := h
    rfl
  obtain ⟨x, a, t, i, wd, near, low, rfl, S, hw, hi, hn, hlow, q⟩ := h
  obtain ⟨dx, ba, bs, h1, h2, h3⟩ := S.ob
  have no : (sf a ba (mirS t)).lookup ("mirrored_index" : Str) = none := sf_no _ _ _ (by decide +kernel) (by decide +kernel) (by decide +kernel)
  have hml := mirS_length t
  have hsz := S.sz
  have hls : (mirS t).length ≤ sizeLine := by rw [hml]; exact line (by omega)
  refine ⟨_, pss_cons (ps_set (i := 5) scNear.nd rfl (Or.inl rfl) (pe_slice sl_str (pe_fld (pv 0) rfl) (po_some (pe_meth (pv 0) g.cl mI GI hr bI .nil pass0 (pa_cons (pe_op (eI0 op_add) (pv 1) (pv 2)) pa_nil))) (po_some (pe_meth (pv 0) g.cl mI GI hr bI .nil pass0 (pa_cons (pv 1) pa_nil)))))
    (pss_cons (ps_set (i := 6) scNear.nd rfl (Or.inl rfl) (pe_bm PySem.F.plainAttrs_str PySem.F.slot_str_find PySem.F.type_str_find FD.mt_find4 (pe_fld (pv 0) rfl) (pa_cons (pv 5) (pa_cons (pe_meth (pv 0) g.cl mI GI hr bI .nil pass0 (pa_cons (pe_op (eI0 op_add) (pe_op (eI0 op_sub) (pv 3) pe_int) (pv 2)) pa_nil)) (pa_cons (pe_meth (pv 0) g.cl mI GI hr bI .nil pass0 (pa_cons (pv 4) pa_nil)) pa_nil)))))
    (pss_cons (ps_if (pt_cmpR op_lt (pv 6) pe_int (nomark _)) (pss_one (ps_ret (pe_un un_neg pe_int))) pss_nil)
    (pss_one (ps_ret (pe_op (eI0 op_sub) (pe_op (eI0 op_sub) (pe_callB call_len_bv rfl g.len PySem.boot_len (pa_cons (pe_fld (pv 0) rfl) pa_nil)) (pe_op (eI op_fdiv) (pv 6) pe_int)) (pv 2)))))), ?_⟩
  -- wanted
  refine ⟨_, rfl, x, C, dx, _, _, rfl, h1, g.cl, g.nM, sf_mir _ _ _,
    _, rfl, x, dx, _, rfl, h1, no, _, rfl, _, rfl, ((i + wd : Nat) : Int), _, _, rfl, rfl, rfl, x, a, t, i + wd, rfl, S, hi, _, rfl,
    _, rfl, x, dx, _, rfl, h1, no, _, rfl, x, a, t, i, rfl, S, by omega, _, rfl, _, rfl, hls, ?_⟩
  have ew := cut_mir (t := t) hi
  generalize cutS (mirS t) (some ((2 * (t.length - (i + wd)) : Nat) : Int)) (some ((2 * (t.length - i) : Nat) : Int)) = wanted at ew ⊢
  -- found
  refine ⟨_, rfl, x, C, dx, _, _, rfl, h1, g.cl, g.nM, sf_mir _ _ _, rfl, _, rfl,
    _, rfl, x, dx, _, rfl, h1, no, _, rfl, _, _, _, rfl, rfl, rfl, _, rfl, ((near + wd - 1 : Nat) : Int), _, _, rfl, rfl, by omega, x, a, t, near + wd - 1, rfl, S, hn,
    _, rfl, x, dx, _, rfl, h1, no, _, rfl, x, a, t, low, rfl, S, hlow, mirS t, wanted, 2 * (t.length - (near + wd - 1)), 2 * (t.length - low), rfl, rfl, ?_⟩
  have hwl : (tl wanted).length = 2 * wd := by
    rw [ew, List.length_take, List.length_drop, mir_length]
    omega
  have hmin : min (2 * (t.length - low)) (mirS t).length = 2 * (t.length - low) := by omega
  have hocc : ∀ f, FD.Occ (mirS t) wanted f ↔ occM t i wd f := fun f => by
    unfold FD.Occ occM
    rw [hwl, ew, tl_mirS]
  rw [hmin]
  rcases FD.find4_spec (mirS t) wanted (2 * (t.length - (near + wd - 1))) (2 * (t.length - low)) with ⟨e, hno⟩ | ⟨k, e, k1, k2, k3, k4⟩
  · rw [e]
    refine ⟨_, rfl, _, _, rfl, rfl, _, rfl, ite2 (fun _ => ?_) (fun c => absurd rfl c)⟩
    refine ⟨_, rfl, ?_⟩
    exact q (-1) (near_none hw hi hn fun f a1 a2 z => hno f a1 (by rw [hwl]; exact a2) ((hocc f).mpr z))
  · rw [e]
    refine ⟨_, rfl, _, _, rfl, rfl, _, rfl, ite2 (fun c => ?_) (fun _ => ?_)⟩
    · have c' : (k : Int) < 0 := of_decide_eq_true c
      omega
    rw [hwl] at k2
    refine ⟨_, rfl, x, C, dx, _, _, rfl, h1, g.cl, g.nT, sf_text _ _ _, a, t, rfl, S.sq, _, rfl, ((k / 2 : Nat) : Int), _, _, rfl, rfl, ⟨by decide, by decide⟩, rfl, _, _, _, rfl, rfl, rfl, _, rfl, _, _, _, rfl, rfl, rfl, ?_⟩
    exact q _ (near_some hw hi hn k1 k2 ((hocc k).mp k3) fun g' a1 a2 z => k4 g' a1 a2 ((hocc g').mpr z))
def spLen (K : PySem.W.Frag) (C : Addr) : Sp := fun vs H Q _ => ∃ (x a : Addr) (t : Bytes) (q i known most : Nat), vs = [.ref x, .int q, .int i, .int known, .int most] ∧ St K C H x a t ∧ q < i ∧ i + most ≤ t.length ∧ known ≤ most ∧ eqn t q i known ∧ Q (.int (agree t i q (i + most) : Nat)) H
theorem scLen : FnScope ["self", "source", "place", "known", "most", "length"] ["self", "source", "place", "known", "most"] (defScope sSearchedText_length_of_same) := ⟨rfl, rfl, rfl, by decide +kernel, rfl, by decide +kernel, by decide +kernel⟩
theorem ok_len {f C : Addr} {fd : FuncData} (F : Fun K "length_of_same" "SearchedText.length_of_same" sSearchedText_length_of_same f fd) (g : G K mg C) : FnOk P w K mg base CX0 1 f fd ["self", "source", "place", "known", "most"] (spLen K C) := by
  refine F.ok scLen (fun vs H Q E h => ?_) (fun cdv A outer s H vs Q E hr h => ?_)
  · obtain ⟨x, a, t, q, i, known, most, rfl, _⟩ := h
    rfl
  obtain ⟨x, a, t, sq, i, known, most, rfl, S, hqi, him, hkm, heq, q⟩ := h
  obtain ⟨dx, ba, bs, h1, h2, h3⟩ := S.ob
  refine ⟨_, pss_cons (ps_set (i := 5) scLen.nd rfl (Or.inl rfl) (pv 3))
    (pss_cons (ps_while PassesOwn.never (PW.pt (pw_and (pt_cmpR op_lt (pv 5) (pv 4) (nomark _)) (pw_and1 (pt_cmpR op_eq (pe_ix ix_list (pe_fld (pv 0) rfl) (pe_op (eI0 op_add) (pv 1) (pv 5)) (fun _ _ => rfl)) (pe_ix ix_list (pe_fld (pv 0) rfl) (pe_op (eI0 op_add) (pv 2) (pv 5)) (fun _ _ => rfl)) (nomark _))))) (pss_one (ps_aug (i := 5) scLen.nd rfl (Or.inl rfl) pe_int ip_add)))
    (pss_one (ps_ret (pv 5)))), ?_⟩
  refine ⟨_, rfl, ?_⟩
  have hd : i + most - i = most := by omega
  refine ⟨fun m σ H' => ∃ L : Nat, σ = [some (.ref x), some (.int sq), some (.int i), some (.int known), some (.int most), some (.int L)] ∧ H = H' ∧ m = most - L ∧ L ≤ most ∧ eqn t sq i L, ⟨_, known, rfl, rfl, rfl, hkm, heq⟩, ?_⟩
  rintro m σ H' ⟨L, rfl, rfl, rfl, hL, he⟩
  refine ⟨_, rfl, _, rfl, _, _, rfl, rfl, _, rfl, ite2 (fun c => ?_) (fun c => ?_)⟩
  · have c' : (L : Int) < (most : Int) := of_decide_eq_true c
    refine ⟨_, rfl, x, C, dx, _, _, rfl, h1, g.cl, g.nT, sf_text _ _ _, _, rfl, _, rfl, ((sq + L : Nat) : Int), _, _, rfl, rfl, rfl, a, _, _, _, rfl, rfl, S.sq, bv_at rfl (by omega),
      _, rfl, x, C, dx, _, _, rfl, h1, g.cl, g.nT, sf_text _ _ _, _, rfl, _, rfl, ((i + L : Nat) : Int), _, _, rfl, rfl, rfl, a, _, _, _, rfl, rfl, S.sq, bv_at rfl (by omega), rfl, _, rfl, ite2 (fun c => ?_) (fun c => ?_)⟩
    · have c2 : V.int ((bat t (sq + L) : Nat) : Int) = V.int ((bat t (i + L) : Nat) : Int) := of_decide_eq_true c
      injection c2 with c2
      have e : t.getD (i + L) 0 = t.getD (sq + L) 0 := bat_inj (by omega)
      refine ⟨_, fun σ' H' z => z, _, rfl, _, _, rfl, rfl, ?_⟩
      exact ⟨most - (L + 1), by omega, L + 1, rfl, rfl, rfl, by omega, eqn_succ he e⟩
    · have c2 : ¬ V.int ((bat t (sq + L) : Nat) : Int) = V.int ((bat t (i + L) : Nat) : Int) := of_decide_eq_false (Bool.eq_false_iff.mpr c)
      have e : t.getD (i + L) 0 ≠ t.getD (sq + L) 0 := fun z => c2 (by unfold bat; rw [z])
      refine ⟨_, rfl, ?_⟩
      rw [agree_is (last := i + most) (L := L) (by omega) he fun _ => e] at q
      exact q
  · have c' : ¬ (L : Int) < (most : Int) := of_decide_eq_false (Bool.eq_false_iff.mpr c)
    refine iteF ⟨_, rfl, ?_⟩
    rw [agree_is (last := i + most) (L := L) (by omega) he fun z => by omega] at q
    exact q
def spStep : Sp := fun vs H Q _ => ∃ n : Nat, vs = [.int n] ∧ Q (.int ((1 + n / 32 : Nat) : Int)) H
theorem scStep : FnScope ["length"] ["length"] (defScope s_step_beyond) := ⟨rfl, rfl, rfl, by decide +kernel, rfl, by decide +kernel, by decide +kernel⟩
theorem ok_step {f : Addr} {fd : FuncData} (F : Fun K "step_beyond" "step_beyond" s_step_beyond f fd) : FnOk P w K mg base CX0 1 f fd ["length"] spStep := by
  refine F.ok scStep (fun vs H Q E h => ?_) (fun cdv A outer s H vs Q E hr h => ?_)
  · obtain ⟨n, rfl, _⟩ := h
    rfl
  obtain ⟨n, rfl, q⟩ := h
  refine ⟨_, pss_one (ps_ret (pe_op (eI0 op_add) pe_int (pe_op (eI op_fdiv) (pv 0) pe_int))), ?_⟩
  exact ⟨_, rfl, ((n / 32 : Nat) : Int), _, _, rfl, rfl, ⟨by decide, by decide⟩, rfl, ((1 + n / 32 : Nat) : Int), _, _, rfl, rfl, rfl, q⟩
def spBest (K : PySem.W.Frag) (C : Addr) : Sp := fun vs H Q _ => ∃ (x a : Addr) (t : Bytes) (fr i low most : Nat), vs = [.ref x, .int i, .int low, .int most] ∧ St K C H x a t ∧ low = i - min 65535 (i - fr) ∧ 4 ≤ most ∧ i + most ≤ t.length ∧
  ((best t fr i (i + most)).1 < 4 → Q .non H) ∧ ∀ n d, best t fr i (i + most) = (n, d) → 4 ≤ n → n ≤ most → d ≤ i → ∀ (l : Addr) (H' : Hp), Same H H' → H' l = some (.tup [.int n, .int d]) → Q (.ref l) H'
structure Fs (K : PySem.W.Frag) (mg : Str → Option Value) (C fX fN fL fS : Addr) (fdX fdN fdL fdS : FuncData) : Prop where
  g : G K mg C
  FX : Fun K "mirrored_index" "SearchedText.mirrored_index" sSearchedText_mirrored_index fX fdX
  bX : Binds K fdX ["self", "place"] []
  mX : Meth K C "mirrored_index" fX
  FN : Fun K "nearest_same" "SearchedText.nearest_same" sSearchedText_nearest_same fN fdN
  bN : Binds K fdN ["self", "place", "length", "near", "lowest"] []
  mN : Meth K C "nearest_same" fN
  FL : Fun K "length_of_same" "SearchedText.length_of_same" sSearchedText_length_of_same fL fdL
  bL : Binds K fdL ["self", "source", "place", "known", "most"] []
  mL : Meth K C "length_of_same" fL
  FS : Fun K "step_beyond" "step_beyond" s_step_beyond fS fdS
  bS : Binds K fdS ["length"] []
  mS : mg "step_beyond" = some (.ref fS)
theorem scBest : FnScope ["self", "place", "lowest", "most", "source", "length", "step", "wanted", "farther"] ["self", "place", "lowest", "most"] (defScope sSearchedText_longest_match) := ⟨rfl, rfl, rfl, by decide +kernel, rfl, by decide +kernel, by decide +kernel⟩
theorem ok_best {f C fX fN fL fS : Addr} {fd fdX fdN fdL fdS : FuncData} (F : Fun K "longest_match" "SearchedText.longest_match" sSearchedText_longest_match f fd) (A : Fs K mg C fX fN fL fS fdX fdN fdL fdS) : FnOk P w K mg base CX0 3 f fd ["self", "place", "lowest", "most"] (spBest K C) := by
  have g := A.g
  have GN : FnOk P w K mg base CX0 2 fN fdN ["self", "place", "length", "near", "lowest"] (spNear K C) := ok_near A.FN g A.FX A.bX A.mX
  have GL : FnOk P w K mg base CX0 1 fL fdL ["self", "source", "place", "known", "most"] (spLen K C) := ok_len A.FL g
  have GS : FnOk P w K mg base CX0 1 fS fdS ["length"] spStep := ok_step A.FS
  refine F.ok scBest (fun vs H Q E h => ?_) (fun cdv Ar outer s H vs Q E hr h => ?_)
  · obtain ⟨x, a, t, fr, i, low, most, rfl, _⟩ := h
    rfl
  obtain ⟨x, a, t, fr, i, low, most, rfl, S, hlow, hm4, him, q1, q2⟩ := h
  obtain ⟨dx, ba, bs, h1, h2, hbl, hbs⟩ := S.ob
  have hr1 : Room 1 _ := hr.mono (by decide)
  have noL : (sf a ba (mirS t)).lookup ("length_of_same" : Str) = none := sf_no _ _ _ (by decide +kernel) (by decide +kernel) (by decide +kernel)
  have noN : (sf a ba (mirS t)).lookup ("nearest_same" : Str) = none := sf_no _ _ _ (by decide +kernel) (by decide +kernel) (by decide +kernel)
  refine ⟨_, pss_cons (ps_set (i := 4) scBest.nd rfl (Or.inl rfl) (pe_ix ix_list (pe_fld (pv 0) rfl) (pv 1) (fun _ _ => rfl)))
    (pss_cons (ps_if (pt_cmpR op_lt (pv 4) (pv 2) (nomark _)) (pss_one (ps_ret pe_non)) pss_nil)
    (pss_cons (ps_set (i := 5) scBest.nd rfl (Or.inl rfl) (pe_meth (pv 0) g.cl A.mL GL hr1 A.bL .nil pass0 (pa_cons (pv 4) (pa_cons (pv 1) (pa_cons (pe_gint rfl g.m4) (pa_cons (pv 3) pa_nil))))))
    (pss_cons (ps_set (i := 6) scBest.nd rfl (Or.inl rfl) (pe_call GS hr1 rfl A.mS A.FS.kp A.bS .nil pass0 (pa_cons (pv 5) pa_nil)))
    (pss_cons (ps_while PassesOwn.never (PW.pt (pw_and (pt_cmpR op_gt (pv 6) pe_int (nomark _)) (pw_and1 (pt_cmpR op_lt (pv 5) (pv 3) (nomark _))))) (pss_cons (ps_set (i := 7) scBest.nd rfl (Or.inl rfl) (pe_callB (call_minE rfl) rfl g.mn boot_mn (pa_cons (pe_op (eI0 op_add) (pv 5) (pv 6)) (pa_cons (pv 3) pa_nil))))
    (pss_cons (ps_set (i := 8) scBest.nd rfl (Or.inl rfl) (pe_meth (pv 0) g.cl A.mN GN hr A.bN .nil pass0 (pa_cons (pv 1) (pa_cons (pv 7) (pa_cons (pv 4) (pa_cons (pv 2) pa_nil))))))
    (pss_one (ps_cut (ps_if (pt_cmpR op_lt (pv 8) pe_int (nomark _)) (pss_one (ps_set (i := 6) scBest.nd rfl (Or.inl rfl) (pe_op (eI op_fdiv) (pv 6) pe_int))) (pss_cons (ps_set (i := 4) scBest.nd rfl (Or.inl rfl) (pv 8))
    (pss_cons (ps_set (i := 5) scBest.nd rfl (Or.inl rfl) (pe_meth (pv 0) g.cl A.mL GL hr1 A.bL .nil pass0 (pa_cons (pv 4) (pa_cons (pv 1) (pa_cons (pv 7) (pa_cons (pv 3) pa_nil))))))
    (pss_one (ps_set (i := 6) scBest.nd rfl (Or.inl rfl) (pe_call GS hr1 rfl A.mS A.FS.kp A.bS .nil pass0 (pa_cons (pv 5) pa_nil))))))))))))
    (pss_one (ps_ret (pe_tup (pa_cons (pv 5) (pa_cons (pe_op (eI0 op_sub) (pv 1) (pv 4)) pa_nil))))))))), ?_⟩
  have hib : i < bs.length := by omega
  have hz : (bs.map V.int)[i]? = some (.int bs[i]) := by rw [List.getElem?_map, List.getElem?_eq_getElem hib]; rfl
  have hB := hbs i bs[i] (List.getElem?_eq_getElem hib)
  refine ⟨_, rfl, x, C, dx, _, _, rfl, h1, g.cl, g.nB, sf_bef _ _ _, _, rfl, ba, _, _, _, rfl, rfl, SqL.of h2, at_N hz, ?_⟩
  generalize bs[i] = z at hB ⊢
  refine ⟨_, rfl, _, rfl, _, _, rfl, rfl, _, rfl, ite2 (fun c => ?_) (fun c => ?_)⟩
  · -- no match
    have c' : z < (low : Int) := of_decide_eq_true c
    refine q1 (best_none hlow fun q a1 a2 => ?_)
    rcases hB with ⟨_, h⟩ | ⟨q', e, b1, b2, b3⟩
    · exact h q a2
    · exact b3 q (by omega) a2
  have c' : ¬ z < (low : Int) := of_decide_eq_false (Bool.eq_false_iff.mpr c)
  obtain ⟨sq, rfl, b1, b2, b3⟩ : ∃ q : Nat, z = (q : Int) ∧ q < i ∧ eqn t q i 4 ∧ ∀ r, q < r → r < i → ¬ eqn t r i 4 := by
    rcases hB with ⟨e, _⟩ | h
    · omega
    · exact h
  have hd : i + most - i = most := by omega
  -- length = self.length_of_same(source, place, SHORTEST_MATCH, most)
  refine ⟨_, rfl, x, dx, _, rfl, h1, noL, _, rfl, _, rfl, _, rfl, x, a, t, sq, i, 4, most, rfl, S, b1, him, hm4, b2, ?_⟩
  have hag := agree_le t i sq (i + most)
  refine ⟨_, rfl, agree t i sq (i + most), rfl, ?_⟩
  refine ⟨fun m σ H' => ∃ (src len st : Nat) (v7 v8 : Option V), σ = [some (.ref x), some (.int i), some (.int low), some (.int most), some (.int src), some (.int len), some (.int st), v7, v8] ∧ H = H' ∧ m = (most - len) * (most + 2) + st ∧ Srch t i low (i + most) src len st ∧ st ≤ most + 1,
    ⟨_, sq, _, _, none, none, rfl, rfl, rfl, Srch.begin (by omega) b1 (by omega) b2 b3 (by omega), by omega⟩, ?_⟩
  rintro m σ H' ⟨src, len, st, v7, v8, rfl, rfl, rfl, R, hst⟩
  have r1 := R.lo
  have r2 := R.hi
  have r3 := R.four
  have r4 := R.top
  refine ⟨_, rfl, _, _, rfl, rfl, _, rfl, ite2 (fun c => ?_) (fun c => ?_)⟩
  rotate_left
  · have c' : ¬ (0 : Int) < (st : Int) := of_decide_eq_false (Bool.eq_false_iff.mpr c)
    refine iteF ?_
    refine ⟨_, rfl, _, rfl, _, rfl, ((i - src : Nat) : Int), _, _, rfl, rfl, by omega, line (by show 2 ≤ 16777216; decide), fun l hl => ?_⟩
    exact q2 _ _ (R.best hlow fun h => by omega) r3 (by omega) (by omega) l _ (same_new hl _) upd_same
  have c1 : (0 : Int) < (st : Int) := of_decide_eq_true c
  refine ⟨_, rfl, _, rfl, _, _, rfl, rfl, _, rfl, ite2 (fun c => ?_) (fun c => ?_)⟩
  rotate_left
  · have c' : ¬ (len : Int) < (most : Int) := of_decide_eq_false (Bool.eq_false_iff.mpr c)
    refine ⟨_, rfl, _, rfl, _, rfl, ((i - src : Nat) : Int), _, _, rfl, rfl, by omega, line (by show 2 ≤ 16777216; decide), fun l hl => ?_⟩
    exact q2 _ _ (R.best hlow fun h => by omega) r3 (by omega) (by omega) l _ (same_new hl _) upd_same
  have c2 : (len : Int) < (most : Int) := of_decide_eq_true c
  refine ⟨_, fun σ' H' z => z, ?_⟩
  -- wanted = min(length + step, most)
  refine ⟨_, rfl, _, rfl, ((len + st : Nat) : Int), _, _, rfl, rfl, rfl, _, rfl, ((min (len + st) most : Nat) : Int), _, _, rfl, by omega, ?_⟩
  -- farther = self.nearest_same(place, wanted, source, lowest)
  refine ⟨_, rfl, x, dx, _, rfl, h1, noN, _, rfl, _, rfl, _, rfl, _, rfl, x, a, t, i, min (len + st) most, src, low, rfl, S, by omega, by omega, by omega, by omega, fun z hN => ?_⟩
  refine ⟨_, ?_, fun _ _ h => h⟩
  refine ⟨_, rfl, _, _, rfl, rfl, _, rfl, ite2 (fun c => ?_) (fun c => ?_)⟩
  · have c' : z < 0 := of_decide_eq_true c
    have hno : ∀ q, low ≤ q → q < src → ¬ eqn t q i (min (len + st) most) := by
      rcases hN with ⟨_, h⟩ | ⟨q, e, _⟩
      · exact h
      · omega
    refine ⟨_, rfl, ((st / 2 : Nat) : Int), _, _, rfl, rfl, ⟨by decide, by decide⟩, rfl, ?_⟩
    refine ⟨(most - len) * (most + 2) + st / 2, by omega, src, len, st / 2, _, _, rfl, rfl, rfl, R.miss (by omega) (by omega) ?_, by omega⟩
    rw [hd]
    exact hno
  · have c' : ¬ z < 0 := of_decide_eq_false (Bool.eq_false_iff.mpr c)
    obtain ⟨q, rfl, n1, n2, n3, n4⟩ : ∃ q : Nat, z = (q : Int) ∧ low ≤ q ∧ q < src ∧ eqn t q i (min (len + st) most) ∧ ∀ p, q < p → p < src → ¬ eqn t p i (min (len + st) most) := by
      rcases hN with ⟨e, _⟩ | h
      · omega
      · exact h
    refine ⟨_, rfl, ?_⟩
    refine ⟨_, rfl, x, dx, _, rfl, h1, noL, _, rfl, _, rfl, _, rfl, _, rfl, x, a, t, q, i, min (len + st) most, most, rfl, S, by omega, him, by omega, n3, ?_⟩
    refine ⟨_, rfl, agree t i q (i + most), rfl, ?_⟩
    have hag := agree_le t i q (i + most)
    have hge := agree_ge (t := t) (i := i) (j := q) (last := i + most) (w := min (len + st) most) (by omega) n3
    have hs1 : 1 + agree t i q (i + most) / 32 ≤ most + 1 := by omega
    refine ⟨(most - agree t i q (i + most)) * (most + 2) + (1 + agree t i q (i + most) / 32), ?_, q, agree t i q (i + most), 1 + agree t i q (i + most) / 32, _, _, rfl, rfl, rfl, R.found (wanted := min (len + st) most) (by omega) (by omega) n1 n2 n3 n4 (by omega), hs1⟩
    have e1 : (most - len) * (most + 2) = (most - len - 1) * (most + 2) + (most + 2) := by
      have : most - len = (most - len - 1) + 1 := by omega
      rw [this, Nat.add_mul, Nat.one_mul]
      rfl
    have e2 : (most - agree t i q (i + most)) * (most + 2) ≤ (most - len - 1) * (most + 2) := Nat.mul_le_mul_right _ (by omega)
    omega
end
end ST

/-! ### a block packed -/
namespace PP
open PySem L2 TL Kg18 MS MP MN C ST
def spPacked (K : PySem.W.Frag) (C : Addr) : Sp := fun vs H Q _ => ∃ (x a : Addr) (t : Bytes) (fr b e : Nat), vs = [.ref x, .int fr, .int b, .int e] ∧ St K C H x a t ∧ fr ≤ b ∧ b ≤ e ∧ e ≤ t.length ∧
  ∀ (l : Addr) (H' : Hp), Same H H' → H l = none → H' l = some (.lst (bv (packed t fr b e))) → (packed t fr b e).length ≤ 3 * (e - b) + 2 → Q (.ref l) H'
structure Fs (K : PySem.W.Frag) (mg : Str → Option Value) (C fX fN fL fS fB fW fM fH fZ : Addr) (fdX fdN fdL fdS fdB fdW fdM fdH fdZ : FuncData) : Prop where
  A : ST.Fs K mg C fX fN fL fS fdX fdN fdL fdS
  FB : Fun K "longest_match" "SearchedText.longest_match" sSearchedText_longest_match fB fdB
  bB : Binds K fdB ["self", "place", "lowest", "most"] []
  mB : Meth K C "longest_match" fB
  pg : PK.G mg
  FW : Fun K "low_first" "low_first" sLow fW fdW
  bW : Binds K fdW ["number", "count"] []
  mW : mg "low_first" = some (.ref fW)
  FM : Fun K "carried_on" "carried_on" s_carried_on fM fdM
  bM : Binds K fdM ["count"] []
  mM : mg "carried_on" = some (.ref fM)
  FH : Fun K "part_with_match" "part_with_match" s_part_with_match fH fdH
  bH : Binds K fdH ["own_bytes", "length", "back"] []
  mH : mg "part_with_match" = some (.ref fH)
  FZ : Fun K "last_part" "last_part" s_last_part fZ fdZ
  bZ : Binds K fdZ ["own_bytes"] []
  mZ : mg "last_part" = some (.ref fZ)
section
variable {P : Program} {w : World} {K : PySem.W.Frag} {mg : Str → Option Value} {base : Heap}
theorem take_drop_len {t : Bytes} {s e : Nat} (h : e ≤ t.length) : ((t.take e).drop s).length = e - s := by
  rw [List.length_drop, List.length_take, Nat.min_eq_left h]
theorem drop_take_eq {t : Bytes} {s e : Nat} : (t.drop s).take (e - s) = (t.take e).drop s := by rw [List.drop_take]
theorem scPacked : FnScope ["searched", "first", "begin", "end", "parts", "unpacked", "place", "lowest", "found"] ["searched", "first", "begin", "end"] (defScope s_packed_parts) := ⟨rfl, rfl, rfl, by decide +kernel, rfl, by decide +kernel, by decide +kernel⟩
theorem ok_packed {f C fX fN fL fS fB fW fM fH fZ : Addr} {fd fdX fdN fdL fdS fdB fdW fdM fdH fdZ : FuncData} (F : Fun K "packed_parts" "packed_parts" s_packed_parts f fd) (A : Fs K mg C fX fN fL fS fB fW fM fH fZ fdX fdN fdL fdS fdB fdW fdM fdH fdZ) :
    FnOk P w K mg base CX0 4 f fd ["searched", "first", "begin", "end"] (spPacked K C) := by
  have g := A.A.g
  have GB : FnOk P w K mg base CX0 3 fB fdB ["self", "place", "lowest", "most"] (spBest K C) := ok_best A.FB A.A
  have GH : FnOk P w K mg base CX0 2 fH fdH ["own_bytes", "length", "back"] PK.spHit := PK.ok_hit A.FH A.pg A.FW A.bW A.mW A.FM A.bM A.mM
  have GZ : FnOk P w K mg base CX0 2 fZ fdZ ["own_bytes"] PK.spLast := PK.ok_last A.FZ A.pg A.FM A.bM A.mM
  refine F.ok scPacked (fun vs H Q E h => ?_) (fun cdv Ar outer s H vs Q E hr h => ?_)
  · obtain ⟨x, a, t, fr, b, e, rfl, _⟩ := h
    rfl
  obtain ⟨x, a, t, fr, b, e, rfl, S, hfb, hbe, het, q⟩ := h
  have hr2 : Room 2 _ := hr.mono (by decide)
  have hsz := S.sz
  refine ⟨_, pss_cons (ps_set (i := 4) scPacked.nd rfl (Or.inl rfl) (pe_lst pa_nil))
    (pss_cons (ps_set (i := 5) scPacked.nd rfl (Or.inl rfl) (pv 2))
    (pss_cons (ps_set (i := 6) scPacked.nd rfl (Or.inl rfl) (pv 2))
    (pss_cons (ps_while PassesOwn.never (pt_cmpR op_ge (pe_op (eI0 op_sub) (pv 3) (pv 6)) (pe_gint rfl g.few) (nomark _)) (pss_cons (ps_set (i := 7) scPacked.nd rfl (Or.inl rfl) (pe_callB (call_maxE rfl) rfl g.mx boot_mx (pa_cons (pv 1) (pa_cons (pe_op (eI0 op_sub) (pv 6) (pe_gint rfl g.back)) pa_nil))))
    (pss_cons (ps_set (i := 8) scPacked.nd rfl (Or.inl rfl) (pe_meth (pv 0) g.cl A.mB GB hr A.bB .nil pass0 (pa_cons (pv 6) (pa_cons (pv 7) (pa_cons (pe_op (eI0 op_sub) (pe_op (eI0 op_sub) (pv 3) (pe_gint rfl g.behind)) (pv 6)) pa_nil)))))
    (pss_one (ps_cut (ps_if (pt_cmp (pc_isN (pv 8))) (pss_one (ps_aug (i := 6) scPacked.nd rfl (Or.inl rfl) pe_int ip_add)) (pss_cons (ps_expr (pe_bm PySem.F.plainAttrs_list PySem.F.slot_list_extend PySem.F.type_list_extend mt_extend (pv 4) (pa_cons (pe_call GH hr2 rfl A.mH A.FH.kp A.bH .nil pass0 (pa_cons (pe_slice sl_list (pe_fld (pv 0) rfl) (po_some (pv 5)) (po_some (pv 6))) (pa_cons (pe_ix ix_tup (pv 8) pe_int (fun _ _ => rfl)) (pa_cons (pe_ix ix_tup (pv 8) pe_int (fun _ _ => rfl)) pa_nil)))) pa_nil)))
    (pss_cons (ps_aug (i := 6) scPacked.nd rfl (Or.inl rfl) (pe_ix ix_tup (pv 8) pe_int (fun _ _ => rfl)) ip_add)
    (pss_one (ps_set (i := 5) scPacked.nd rfl (Or.inl rfl) (pv 6)))))))))))
    (pss_cons (ps_expr (pe_bm PySem.F.plainAttrs_list PySem.F.slot_list_extend PySem.F.type_list_extend mt_extend (pv 4) (pa_cons (pe_call GZ hr2 rfl A.mZ A.FZ.kp A.bZ .nil pass0 (pa_cons (pe_slice sl_list (pe_fld (pv 0) rfl) (po_some (pv 5)) (po_some (pv 3))) pa_nil)) pa_nil)))
    (pss_one (ps_ret (pv 4))))))), ?_⟩
  have noB : ∀ ba, (sf a ba (mirS t)).lookup ("longest_match" : Str) = none := fun ba => sf_no _ _ _ (by decide +kernel) (by decide +kernel) (by decide +kernel)
  refine ⟨line (by show 0 ≤ 16777216; decide), fun l hl => ?_⟩
  refine ⟨_, rfl, _, rfl, ?_⟩
  refine ⟨fun m σ H' => ∃ (acc : Bytes) (since i k : Nat) (v7 v8 : Option V), σ = [some (.ref x), some (.int fr), some (.int b), some (.int e), some (.ref l), some (.int since), some (.int i), v7, v8] ∧ Same H H' ∧ H' l = some (.lst (bv acc)) ∧ m = e - i ∧ b ≤ since ∧ since ≤ i ∧ i ≤ e ∧ e + 1 ≤ k + i ∧
      acc ++ parts t fr e k since i = packed t fr b e ∧ acc.length ≤ 3 * (since - b),
    ⟨_, [], b, b, e + 1, none, none, rfl, same_new hl _, upd_same, rfl, Nat.le_refl _, Nat.le_refl _, hbe, by omega, rfl, Nat.zero_le _⟩, ?_⟩
  rintro m σ H' ⟨acc, since, i, k, v7, v8, rfl, s1, hl1, rfl, k1, k2, k3, k4, k5, k6⟩
  have S1 := S.same s1
  obtain ⟨dx, ba, bs, o1, o2, o3⟩ := S1.ob
  obtain ⟨k', rfl⟩ : ∃ k', k = k' + 1 := ⟨k - 1, by omega⟩
  refine ⟨_, rfl, _, rfl, _, _, _, rfl, rfl, rfl, _, _, rfl, rfl, _, rfl, ite2 (fun c => ?_) (fun c => ?_)⟩
  · -- a place with 12 bytes and more
    have c' : (12 : Int) ≤ (e : Int) - (i : Int) := of_decide_eq_true c
    have hne : ¬ e < i + 12 := by omega
    refine ⟨_, fun σ' H' z => z, ?_⟩
    refine ⟨_, rfl, _, rfl, _, _, _, rfl, rfl, rfl, ((max fr (i - 65535) : Nat) : Int), _, _, rfl, by omega, ?_⟩
    have hlast : i + (e - 5 - i) = e - 5 := by omega
    refine ⟨_, rfl, x, dx, _, rfl, o1, noB _, _, rfl, _, rfl, _, rfl, _, _, _, rfl, rfl, rfl, _, rfl, ((e - 5 - i : Nat) : Int), _, _, rfl, rfl, by omega, x, a, t, fr, i, max fr (i - 65535), e - 5 - i, rfl, S1, by omega, by omega, by omega, fun hb => ?_, fun n d hb h4 hn hd lt H2 s2 ht => ?_⟩
    · -- found is None
      rw [hlast] at hb
      refine ⟨_, ?_, fun _ _ h => h⟩
      refine ⟨_, rfl, _, rfl, ite2 (fun _ => ?_) (fun c => absurd rfl c)⟩
      refine ⟨_, rfl, _, _, rfl, rfl, ?_⟩
      refine ⟨e - (i + 1), by omega, acc, since, i + 1, k', _, _, rfl, s1, hl1, rfl, k1, by omega, by omega, by omega, ?_, k6⟩
      rw [← k5, parts_miss hne hb]
    · rw [hlast] at hb
      refine ⟨_, ?_, fun _ _ h => h⟩
      refine ⟨_, rfl, _, rfl, ite2 (fun c => ?_) (fun _ => ?_)⟩
      · have c' : V.ref lt = V.non := of_decide_eq_true c
        cases c'
      have S2 := S1.same s2
      have t2 := s1.trans s2
      have e0 : atI [V.int (n : Int), V.int (d : Int)] 0 = some (.int (n : Int)) := rfl
      have e1 : atI [V.int (n : Int), V.int (d : Int)] 1 = some (.int (d : Int)) := rfl
      -- parts.extend(part_with_match(searched.text[unpacked:place], found[0], found[1]))
      refine ⟨_, rfl, .inl ⟨rfl, _, SqL.of (s2 _ _ hl1)⟩, _, rfl, x, C, dx, _, _, rfl, s2 _ _ o1, g.cl, g.nT, sf_text _ _ _, _, rfl, _, rfl, _, rfl, _, rfl, a, _, rfl, S2.sq, fun lo hlo => ?_⟩
      rw [cut_bv (p := since) (q := i) rfl rfl k2 (by omega), drop_take_eq]
      have s3 := same_new hlo (.lst (bv ((t.take i).drop since)))
      have hlits : ((t.take i).drop since).length = i - since := take_drop_len (by omega)
      refine ⟨_, rfl, lt, _, _, _, rfl, rfl, SqT.of (s3 _ _ ht), e0, _, rfl, lt, _, _, _, rfl, rfl, SqT.of (s3 _ _ ht), e1, lo, (t.take i).drop since, n, d, rfl, upd_same, h4, by omega, by omega, fun lp H4 s4 nlp hlp => ?_⟩
      have t4 := t2.trans (s3.trans s4)
      have hpl := part_hit_length ((t.take i).drop since) n d h4
      refine ⟨l, lp, _, _, rfl, rfl, s4 _ _ (s3 _ _ (s2 _ _ hl1)), hlp, ?_, ?_⟩
      · rw [bv_length, bv_length]
        exact line (by omega)
      rw [← bv_append]
      have ht5 : upd H4 l (.lst (bv (acc ++ part ((t.take i).drop since) (some (n, d))))) lt = some (.tup [.int (n : Int), .int (d : Int)]) := by
        have ht4 := s4 _ _ (s3 _ _ ht)
        rw [upd_ne (ne_of ht4 (s4 _ _ (s3 _ _ (s2 _ _ hl1))) (by intro z; cases z))]
        exact ht4
      -- place += found[0]; unpacked = place
      refine ⟨_, rfl, _, rfl, lt, _, _, _, rfl, rfl, SqT.of ht5, e0, _, _, rfl, rfl, _, rfl, ?_⟩
      refine ⟨e - (i + n), by omega, acc ++ part ((t.take i).drop since) (some (n, d)), i + n, i + n, k', _, _, rfl, fun c o z => ?_, upd_same, rfl, by omega, Nat.le_refl _, by omega, by omega, ?_, ?_⟩
      · rw [upd_ne (ne_of_none z hl)]
        exact t4 c o z
      · rw [← k5, parts_hit hne hb h4, List.append_assoc]
      · rw [List.length_append]
        omega
  · -- the last part
    have c' : ¬ (12 : Int) ≤ (e : Int) - (i : Int) := of_decide_eq_false (Bool.eq_false_iff.mpr c)
    have hend : parts t fr e (k' + 1) since i = part ((t.take e).drop since) none := parts_end (by omega)
    rw [hend] at k5
    refine ⟨_, rfl, .inl ⟨rfl, _, SqL.of hl1⟩, _, rfl, x, C, dx, _, _, rfl, o1, g.cl, g.nT, sf_text _ _ _, _, rfl, _, rfl, _, rfl, _, rfl, a, _, rfl, S1.sq, fun lo hlo => ?_⟩
    rw [cut_bv (p := since) (q := e) rfl rfl (by omega) (by omega), drop_take_eq]
    have s3 := same_new hlo (.lst (bv ((t.take e).drop since)))
    have hlits : ((t.take e).drop since).length = e - since := take_drop_len (by omega)
    refine ⟨lo, (t.take e).drop since, rfl, upd_same, by omega, fun lp H4 s4 nlp hlp => ?_⟩
    have hpl := part_last_length ((t.take e).drop since)
    have hlen : (packed t fr b e).length ≤ 3 * (e - b) + 2 := by
      rw [← k5, List.length_append]
      omega
    refine ⟨l, lp, _, _, rfl, rfl, s4 _ _ (s3 _ _ hl1), hlp, ?_, ?_⟩
    · rw [bv_length, bv_length]
      exact line (by omega)
    rw [← bv_append, k5]
    refine ⟨_, rfl, q l _ (fun c o z => ?_) hl upd_same hlen⟩
    rw [upd_ne (ne_of_none z hl)]
    exact (s1.trans (s3.trans s4)) c o z
end
end PP

/-! ### a head's sum -/
namespace FR
open PySem L2 Kg18 MS C
def spHS (K : PySem.W.Frag) : Sp := fun vs H Q _ => ∃ (a : Addr) (b : Bytes), vs = [.ref a] ∧ SqL K H a (bv b) ∧ b.length ≤ 16777216 ∧ ∀ H', Same H H' → Q (.int (Kg18.sum 0 b / 256 % 256 : Nat)) H'
section
variable {P : Program} {w : World} {K : PySem.W.Frag} {mg : Str → Option Value} {base : Heap}
theorem scHS : FnScope ["summed"] ["summed"] (defScope s_head_sum) := ⟨rfl, rfl, rfl, by decide +kernel, rfl, by decide +kernel, by decide +kernel⟩
theorem ok_hs {f fS : Addr} {fd fdS : FuncData} (F : Fun K "head_sum" "head_sum" s_head_sum f fd) (GS : FnOk P w K mg base CX0 4 fS fdS ["seed", "text"] (S.spSum K)) (kS : PySem.W.keepIn K (.ref fS) = true) (bS : Binds K fdS ["seed", "text"] []) (mS : mg "text_sum" = some (.ref fS)) : FnOk P w K mg base CX0 5 f fd ["summed"] (spHS K) := by
  refine F.ok scHS (fun vs H Q E h => ?_) (fun cdv A outer s H vs Q E hr h => ?_)
  · obtain ⟨a, b, rfl, _⟩ := h
    rfl
  obtain ⟨a, b, rfl, hS, hz, k⟩ := h
  refine ⟨_, pss_one (ps_ret (pe_op (eI0 op_and) (pe_op (eI op_shr) (pe_call GS hr rfl mS kS bS .nil pass0 (pa_cons pe_int (pa_cons (pv 0) pa_nil))) pe_int) pe_int)), ?_⟩
  refine ⟨_, rfl, a, b, 0, rfl, hS, hz, by decide, fun H' sm => ?_⟩
  have e : ((Kg18.sum 0 b : Nat) : Int) / 2 ^ ((8 : Int)).toNat = ((Kg18.sum 0 b / 256 : Nat) : Int) := shr_nat (k := 8)
  exact ⟨((Kg18.sum 0 b / 256 : Nat) : Int), _, _, rfl, rfl, nn _, e, ((Kg18.sum 0 b / 256 % 256 : Nat) : Int), _, _, rfl, rfl, and255, k H' sm⟩
end
end FR

/-! ### frames made -/
namespace FR
open PySem L2 TL Kg18 MS MP MN MF C ST
/-- what the top says -/
structure G (K : PySem.W.Frag) (mg : Str → Option Value) (q : Addr) : Prop where
  len : mg "len" = none
  range : mg "range" = none
  mn : mg "min" = none
  mx : mg "max" = none
  ls : mg "list" = none
  first : mg "FIRST_FOUR" = some (.ref q)
  tup : ∀ H : Hp, SqT K H q [.int 4, .int 34, .int 77, .int 24]
  size : GInt mg "BLOCK_SIZE" 65536
  sizeB : GInt mg "BLOCK_SIZE_BYTE" 64
  self : GInt mg "STANDS_FOR_ITSELF" 2147483648
  a1 : GInt mg "ASKED_TEXT_SUM" 1
  a2 : GInt mg "ASKED_BLOCK_SUMS" 2
  a4 : GInt mg "ASKED_LENGTH" 4
  a8 : GInt mg "ASKED_LINKED" 8
  most : GInt mg "MOST_FLAGS" 15
  ver : GInt mg "HEAD_VERSION" 64
  alone : GInt mg "HEAD_ALONE" 32
  bsum : GInt mg "HEAD_BLOCK_SUMS" 16
  leng : GInt mg "HEAD_LENGTH" 8
  tsum : GInt mg "HEAD_TEXT_SUM" 4
def spFlags : Sp := fun vs H Q _ => ∃ f : Nat, vs = [.int f] ∧ Q (.int (headF f : Nat)) H
def spHead : Sp := fun vs H Q _ => ∃ (f n : Nat), vs = [.int f, .int n] ∧ ∀ (l : Addr) H', Same H H' → H l = none → H' l = some (.lst (bv (head f n))) → Q (.ref l) H'
def spFB (K : PySem.W.Frag) (C : Addr) : Sp := fun vs H Q _ => ∃ (x a : Addr) (t : Bytes) (f b : Nat), vs = [.int f, .ref x, .int b] ∧ St K C H x a t ∧ b ≤ t.length ∧ ∀ (l : Addr) H', Same H H' → H l = none → H' l = some (.lst (bv (blockA f t b))) → Q (.ref l) H'
def spFT (K : PySem.W.Frag) : Sp := fun vs H Q _ => ∃ (a : Addr) (t : Bytes) (f : Nat), vs = [.int f, .ref a] ∧ SqL K H a (bv t) ∧ t.length ≤ 1000000 ∧ ∀ (l : Addr) H', H' l = some (.lst (bv (framed f t))) → Q (.ref l) H'
section
variable {P : Program} {w : World} {K : PySem.W.Frag} {mg : Str → Option Value} {base : Heap}
theorem scFlags : FnScope ["flags", "head"] ["flags"] (defScope s_head_flags) := ⟨rfl, rfl, rfl, by decide +kernel, rfl, by decide +kernel, by decide +kernel⟩
theorem ok_flags {f q : Addr} {fd : FuncData} (F : Fun K "head_flags" "head_flags" s_head_flags f fd) (g : G K mg q) : FnOk P w K mg base CX0 1 f fd ["flags"] spFlags := by
  refine F.ok scFlags (fun vs H Q E h => ?_) (fun cdv A outer s H vs Q E hr h => ?_)
  · obtain ⟨n, rfl, _⟩ := h
    rfl
  obtain ⟨n, rfl, k⟩ := h
  refine ⟨_, pss_cons (ps_set (i := 1) scFlags.nd rfl (Or.inl rfl) (pe_gint rfl g.ver))
    (pss_cons (ps_cut (ps_if (pt_cmpR op_eq (pe_op (eI0 op_and) (pv 0) (pe_gint rfl g.a8)) pe_int (nomark _)) (pss_one (ps_aug (i := 1) scFlags.nd rfl (Or.inl rfl) (pe_gint rfl g.alone) ip_add)) pss_nil))
    (pss_cons (ps_cut (ps_if (pt_cmpR op_ne (pe_op (eI0 op_and) (pv 0) (pe_gint rfl g.a2)) pe_int (nomark _)) (pss_one (ps_aug (i := 1) scFlags.nd rfl (Or.inl rfl) (pe_gint rfl g.bsum) ip_add)) pss_nil))
    (pss_cons (ps_cut (ps_if (pt_cmpR op_ne (pe_op (eI0 op_and) (pv 0) (pe_gint rfl g.a4)) pe_int (nomark _)) (pss_one (ps_aug (i := 1) scFlags.nd rfl (Or.inl rfl) (pe_gint rfl g.leng) ip_add)) pss_nil))
    (pss_cons (ps_cut (ps_if (pt_cmpR op_ne (pe_op (eI0 op_and) (pv 0) (pe_gint rfl g.a1)) pe_int (nomark _)) (pss_one (ps_aug (i := 1) scFlags.nd rfl (Or.inl rfl) (pe_gint rfl g.tsum) ip_add)) pss_nil))
    (pss_one (ps_ret (pv 1))))))), ?_⟩
  refine ⟨fun σ' H' => H = H' ∧ σ' = [some (.int n), some (.int (64 + (if n.testBit 3 = true then 0 else 32) : Nat))], ⟨_, rfl, _, _, _, rfl, rfl, and_flag 3 rfl, rfl, _, rfl, ite2 (fun c => ?_) (fun c => ?_)⟩, ?_⟩
  · rw [eq_flag (by decide)] at c
    have e : n.testBit 3 = false := by simpa using c
    rw [e]
    exact ⟨_, rfl, _, _, rfl, rfl, rfl, rfl⟩
  · rw [eq_flag (by decide)] at c
    have e : n.testBit 3 = true := by simpa using c
    rw [e]
    exact ⟨rfl, rfl⟩
  rintro σ' H' ⟨rfl, rfl⟩
  refine ⟨fun σ' H' => H = H' ∧ σ' = [some (.int n), some (.int (64 + (if n.testBit 3 = true then 0 else 32) + (if n.testBit 1 = true then 16 else 0) : Nat))], ⟨_, rfl, _, _, _, rfl, rfl, and_flag 1 rfl, rfl, _, rfl, ite2 (fun c => ?_) (fun c => ?_)⟩, ?_⟩
  · rw [ne_flag (by decide)] at c
    rw [if_pos c]
    exact ⟨_, rfl, _, _, rfl, rfl, rfl, rfl⟩
  · rw [ne_flag (by decide)] at c
    rw [if_neg c]
    exact ⟨rfl, rfl⟩
  rintro σ' H' ⟨rfl, rfl⟩
  refine ⟨fun σ' H' => H = H' ∧ σ' = [some (.int n), some (.int (64 + (if n.testBit 3 = true then 0 else 32) + (if n.testBit 1 = true then 16 else 0) + (if n.testBit 2 = true then 8 else 0) : Nat))], ⟨_, rfl, _, _, _, rfl, rfl, and_flag 2 rfl, rfl, _, rfl, ite2 (fun c => ?_) (fun c => ?_)⟩, ?_⟩
  · rw [ne_flag (by decide)] at c
    rw [if_pos c]
    exact ⟨_, rfl, _, _, rfl, rfl, rfl, rfl⟩
  · rw [ne_flag (by decide)] at c
    rw [if_neg c]
    exact ⟨rfl, rfl⟩
  rintro σ' H' ⟨rfl, rfl⟩
  refine ⟨fun σ' H' => H = H' ∧ σ' = [some (.int n), some (.int (headF n : Nat))], ⟨_, rfl, _, _, _, rfl, rfl, and_flag 0 rfl, rfl, _, rfl, ite2 (fun c => ?_) (fun c => ?_)⟩, ?_⟩
  · rw [ne_flag (by decide)] at c
    unfold headF
    rw [if_pos c]
    exact ⟨_, rfl, _, _, rfl, rfl, rfl, rfl⟩
  · rw [ne_flag (by decide)] at c
    unfold headF
    rw [if_neg c]
    exact ⟨rfl, rfl⟩
  rintro σ' H' ⟨rfl, rfl⟩
  exact ⟨_, rfl, k⟩
theorem scHead : FnScope ["flags", "length", "summed"] ["flags", "length"] (defScope s_frame_head) := ⟨rfl, rfl, rfl, by decide +kernel, rfl, by decide +kernel, by decide +kernel⟩
theorem ok_head {f fF fH fW q : Addr} {fd fdF fdH fdW : FuncData} (F : Fun K "frame_head" "frame_head" s_frame_head f fd) (g : G K mg q) (FF : Fun K "head_flags" "head_flags" s_head_flags fF fdF) (bF : Binds K fdF ["flags"] []) (mF : mg "head_flags" = some (.ref fF))
    (GH : FnOk P w K mg base CX0 5 fH fdH ["summed"] (spHS K)) (kH : PySem.W.keepIn K (.ref fH) = true) (bH : Binds K fdH ["summed"] []) (mH : mg "head_sum" = some (.ref fH)) (FW : Fun K "low_first" "low_first" sLow fW fdW) (bW : Binds K fdW ["number", "count"] []) (mW : mg "low_first" = some (.ref fW)) :
    FnOk P w K mg base CX0 6 f fd ["flags", "length"] spHead := by
  have GF : FnOk P w K mg base CX0 1 fF fdF ["flags"] spFlags := ok_flags FF g
  have GW : FnOk P w K mg base CX0 1 fW fdW ["number", "count"] PK.spLow := PK.ok_low FW g.range
  refine F.ok scHead (fun vs H Q E h => ?_) (fun cdv A outer s H vs Q E hr h => ?_)
  · obtain ⟨n, m, rfl, _⟩ := h
    rfl
  obtain ⟨n, m, rfl, k⟩ := h
  have hr1 : Room 1 _ := hr.mono (by decide)
  refine ⟨_, pss_cons (ps_set (i := 2) scHead.nd rfl (Or.inl rfl) (pe_lst (pa_cons (pe_call GF hr1 rfl mF FF.kp bF .nil pass0 (pa_cons (pv 0) pa_nil)) (pa_cons (pe_gint rfl g.sizeB) pa_nil))))
    (pss_cons (ps_cut (ps_if (pt_cmpR op_ne (pe_op (eI0 op_and) (pv 0) (pe_gint rfl g.a4)) pe_int (nomark _)) (pss_one (ps_expr (pe_bm PySem.F.plainAttrs_list PySem.F.slot_list_extend PySem.F.type_list_extend mt_extend (pv 2) (pa_cons (pe_call GW hr1 rfl mW FW.kp bW .nil pass0 (pa_cons (pv 1) (pa_cons pe_int pa_nil))) pa_nil)))) pss_nil))
    (pss_one (ps_ret (pe_op op_cat (pe_op op_cat (pe_callTy call_list_of rfl g.ls boot_ls (pa_cons (pe_gref rfl g.first) pa_nil)) (pv 2)) (pe_lst (pa_cons (pe_call GH hr rfl mH kH bH .nil pass0 (pa_cons (pv 2) pa_nil)) pa_nil)))))), ?_⟩
  refine ⟨_, rfl, n, rfl, line (by show 2 ≤ 16777216; decide), fun l hl => ?_⟩
  have s1 := same_new hl (.lst [.int ((headF n : Nat) : Int), .int 64])
  have e2 : ([V.int ((headF n : Nat) : Int), V.int 64] : List V) = bv [UInt8.ofNat (headF n), 0x40] := by
    show _ = bv ([UInt8.ofNat (headF n)] ++ [0x40])
    rw [bv_append, bv_one _ (headF_lt n)]
    rfl
  refine ⟨fun σ' H' => Same H H' ∧ σ' = [some (.int n), some (.int m), some (.ref l)] ∧ H' l = some (.lst (bv (headD n m))), ⟨_, rfl, _, _, _, rfl, rfl, and_flag 2 rfl, rfl, _, rfl, ite2 (fun c => ?_) (fun c => ?_)⟩, ?_⟩
  · rw [ne_flag (by decide)] at c
    refine ⟨_, rfl, .inl ⟨rfl, _, SqL.of upd_same⟩, _, rfl, m, 8, rfl, by decide, fun l2 H2 s2 nl2 hl2 => ?_⟩
    refine ⟨l, l2, _, _, rfl, rfl, s2 _ _ upd_same, hl2, ?_, fun c o z => ?_, rfl, ?_⟩
    · rw [bv_length, spelled_length]
      exact line (by show 2 + 8 ≤ 16777216; decide)
    · rw [upd_ne (ne_of_none z hl)]
      exact s2 _ _ (s1 _ _ z)
    · rw [upd_same, e2, ← bv_append]
      unfold headD
      rw [if_pos c]
  · rw [ne_flag (by decide)] at c
    refine ⟨s1, rfl, ?_⟩
    rw [upd_same, e2]
    unfold headD
    rw [if_neg c, List.append_nil]
  rintro σ' H1 ⟨t1, rfl, hl1⟩
  have hdl := headD_length n m
  refine ⟨q, _, rfl, .inr (g.tup _), fun l3 hl3 => ?_⟩
  have s3 := same_new hl3 (.lst [.int 4, .int 34, .int 77, .int 24])
  refine ⟨_, rfl, l3, l, _, _, rfl, rfl, upd_same, s3 _ _ hl1, ?_, fun l4 hl4 => ?_⟩
  · rw [bv_length]
    exact line (by show 4 + (headD n m).length ≤ 16777216; omega)
  have s4 := same_new hl4 (.lst ([.int 4, .int 34, .int 77, .int 24] ++ bv (headD n m)))
  refine ⟨_, rfl, l, headD n m, rfl, SqL.of (s4 _ _ (s3 _ _ hl1)), by omega, fun H5 s5 => ?_⟩
  refine ⟨line (by show 1 ≤ 16777216; decide), fun l6 hl6 => ?_⟩
  have s6 := same_new hl6 (.lst [.int ((Kg18.sum 0 (headD n m) / 256 % 256 : Nat) : Int)])
  refine ⟨l4, l6, _, _, rfl, rfl, s6 _ _ (s5 _ _ upd_same), upd_same, ?_, fun l7 hl7 => ?_⟩
  · rw [List.length_append, bv_length]
    exact line (by show 4 + (headD n m).length + 1 ≤ 16777216; omega)
  have t6 := (((t1.trans s3).trans s4).trans s5).trans s6
  refine k l7 _ (t6.trans (same_new hl7 _)) (t6.free hl7) ?_
  have e4 : ([V.int 4, V.int 34, V.int 77, V.int 24] : List V) = bv [4, 34, 77, 24] := rfl
  have e6 : ([V.int ((Kg18.sum 0 (headD n m) / 256 % 256 : Nat) : Int)] : List V) = bv [UInt8.ofNat (Kg18.sum 0 (headD n m) / 256)] := by
    show _ = [V.int (((UInt8.ofNat (Kg18.sum 0 (headD n m) / 256)).toNat : Nat) : Int)]
    rw [UInt8.toNat_ofNat']
  rw [upd_same, head_eq, magic, bv_append, bv_append, e4, e6]
theorem scFB : FnScope ["flags", "searched", "begin", "end", "first", "block", "told", "framed"] ["flags", "searched", "begin"] (defScope s_framed_block) := ⟨rfl, rfl, rfl, by decide +kernel, rfl, by decide +kernel, by decide +kernel⟩
theorem ok_fb {f fP fS fW q C : Addr} {fd fdP fdS fdW : FuncData} (F : Fun K "framed_block" "framed_block" s_framed_block f fd) (g : G K mg q) (gs : ST.G K mg C) (GP : FnOk P w K mg base CX0 4 fP fdP ["searched", "first", "begin", "end"] (PP.spPacked K C)) (kP : PySem.W.keepIn K (.ref fP) = true) (bP : Binds K fdP ["searched", "first", "begin", "end"] []) (mP : mg "packed_parts" = some (.ref fP))
    (GS : FnOk P w K mg base CX0 4 fS fdS ["seed", "text"] (S.spSum K)) (kS : PySem.W.keepIn K (.ref fS) = true) (bS : Binds K fdS ["seed", "text"] []) (mS : mg "text_sum" = some (.ref fS)) (FW : Fun K "low_first" "low_first" sLow fW fdW) (bW : Binds K fdW ["number", "count"] []) (mW : mg "low_first" = some (.ref fW)) :
    FnOk P w K mg base CX0 5 f fd ["flags", "searched", "begin"] (spFB K C) := by
  have GW : FnOk P w K mg base CX0 1 fW fdW ["number", "count"] PK.spLow := PK.ok_low FW g.range
  refine F.ok scFB (fun vs H Q E h => ?_) (fun cdv A outer s H vs Q E hr h => ?_)
  · obtain ⟨x, a, t, n, b, rfl, _⟩ := h
    rfl
  obtain ⟨x, a, t, n, b, rfl, S, hb, k⟩ := h
  have hr1 : Room 1 _ := hr.mono (by decide)
  have hsz := S.sz
  obtain ⟨dx, ba, bs, o1, o2, o3⟩ := S.ob
  refine ⟨_, pss_cons (ps_set (i := 3) scFB.nd rfl (Or.inl rfl) (pe_callB (call_minE rfl) rfl g.mn boot_mn (pa_cons (pe_op (eI0 op_add) (pv 2) (pe_gint rfl g.size)) (pa_cons (pe_callB call_len_bv rfl g.len PySem.boot_len (pa_cons (pe_fld (pv 1) rfl) pa_nil)) pa_nil))))
    (pss_cons (ps_set (i := 4) scFB.nd rfl (Or.inl rfl) (pv 2))
    (pss_cons (ps_cut (ps_if (pt_cmpR op_ne (pe_op (eI0 op_and) (pv 0) (pe_gint rfl g.a8)) pe_int (nomark _)) (pss_one (ps_set (i := 4) scFB.nd rfl (Or.inl rfl) (pe_callB (call_maxE rfl) rfl g.mx boot_mx (pa_cons (pe_op (eI0 op_sub) (pv 2) (pe_gint rfl g.size)) (pa_cons pe_int pa_nil))))) pss_nil))
    (pss_cons (ps_set (i := 5) scFB.nd rfl (Or.inl rfl) (pe_call GP hr rfl mP kP bP .nil pass0 (pa_cons (pv 1) (pa_cons (pv 4) (pa_cons (pv 2) (pa_cons (pv 3) pa_nil))))))
    (pss_cons (ps_set (i := 6) scFB.nd rfl (Or.inl rfl) (pe_callB call_len_bv rfl g.len PySem.boot_len (pa_cons (pv 5) pa_nil)))
    (pss_cons (ps_cut (ps_if (pt_cmpR op_ge (pv 6) (pe_op (eI0 op_sub) (pv 3) (pv 2)) (nomark _)) (pss_cons (ps_set (i := 5) scFB.nd rfl (Or.inl rfl) (pe_slice sl_list (pe_fld (pv 1) rfl) (po_some (pv 2)) (po_some (pv 3))))
    (pss_one (ps_set (i := 6) scFB.nd rfl (Or.inl rfl) (pe_op (eI0 op_add) (pe_callB call_len_bv rfl g.len PySem.boot_len (pa_cons (pv 5) pa_nil)) (pe_gint rfl g.self))))) pss_nil))
    (pss_cons (ps_set (i := 7) scFB.nd rfl (Or.inl rfl) (pe_op op_cat (pe_call GW hr1 rfl mW FW.kp bW .nil pass0 (pa_cons (pv 6) (pa_cons pe_int pa_nil))) (pv 5)))
    (pss_cons (ps_cut (ps_if (pt_cmpR op_ne (pe_op (eI0 op_and) (pv 0) (pe_gint rfl g.a2)) pe_int (nomark _)) (pss_one (ps_expr (pe_bm PySem.F.plainAttrs_list PySem.F.slot_list_extend PySem.F.type_list_extend mt_extend (pv 7) (pa_cons (pe_call GW hr1 rfl mW FW.kp bW .nil pass0 (pa_cons (pe_call GS hr rfl mS kS bS .nil pass0 (pa_cons pe_int (pa_cons (pv 5) pa_nil))) (pa_cons pe_int pa_nil))) pa_nil)))) pss_nil))
    (pss_one (ps_ret (pv 7)))))))))), ?_⟩
  have hz : zOf t b = min t.length (b + 65536) := rfl
  -- end = min(begin + BLOCK_SIZE, len(searched.text)); first = begin
  refine ⟨_, rfl, ((b + 65536 : Nat) : Int), _, _, rfl, rfl, rfl, _, rfl, x, C, dx, _, _, rfl, o1, gs.cl, gs.nT, sf_text _ _ _, a, t, rfl, S.sq, ((zOf t b : Nat) : Int), _, _, rfl, by omega, ?_⟩
  refine ⟨_, rfl, ?_⟩
  refine ⟨fun σ' H' => H = H' ∧ σ' = [some (.int n), some (.ref x), some (.int b), some (.int (zOf t b : Nat)), some (.int (frOf n b : Nat)), none, none, none], ⟨_, rfl, _, _, _, rfl, rfl, and_flag 3 rfl, rfl, _, rfl, ite2 (fun c => ?_) (fun c => ?_)⟩, ?_⟩
  · rw [ne_flag (by decide)] at c
    refine ⟨_, rfl, _, _, _, rfl, rfl, rfl, ((frOf n b : Nat) : Int), _, _, rfl, ?_, rfl, rfl⟩
    unfold frOf
    rw [if_pos c]
    omega
  · rw [ne_flag (by decide)] at c
    refine ⟨rfl, ?_⟩
    unfold frOf
    rw [if_neg c]
    rfl
  rintro σ' H' ⟨rfl, rfl⟩
  have hfr : frOf n b ≤ b := by unfold frOf; split <;> omega
  -- block = packed_parts(searched, first, begin, end)
  refine ⟨_, rfl, _, rfl, _, rfl, _, rfl, x, a, t, frOf n b, b, zOf t b, rfl, S, hfr, by omega, by omega, fun l1 H1 s1 nl1 hl1 hlen => ?_⟩
  have hl1' : H1 l1 = some (.lst (bv (pOf n t b))) := hl1
  have hlen' : (pOf n t b).length ≤ 3 * (zOf t b - b) + 2 := hlen
  -- told = len(block)
  refine ⟨_, rfl, l1, pOf n t b, rfl, SqL.of hl1', ?_⟩
  have S1 := S.same s1
  refine ⟨fun σ' H' => ∃ lb : Addr, Same H H' ∧ H' lb = some (.lst (bv (dOf n t b))) ∧ σ' = [some (.int n), some (.ref x), some (.int b), some (.int (zOf t b : Nat)), some (.int (frOf n b : Nat)), some (.ref lb), some (.int (toldOf n t b : Nat)), none],
    ⟨_, rfl, _, rfl, _, rfl, _, _, _, rfl, rfl, rfl, _, _, rfl, rfl, _, rfl, ite2 (fun c => ?_) (fun c => ?_)⟩, ?_⟩
  · have c' : ((zOf t b : Nat) : Int) - (b : Int) ≤ (((pOf n t b).length : Nat) : Int) := of_decide_eq_true c
    have hn : ¬ (pOf n t b).length < zOf t b - b := by omega
    refine ⟨_, rfl, x, C, dx, _, _, rfl, s1 _ _ o1, gs.cl, gs.nT, sf_text _ _ _, _, rfl, _, rfl, _, rfl, _, rfl, a, _, rfl, S1.sq, fun lb hlb => ?_⟩
    rw [cut_bv (p := b) (q := zOf t b) rfl rfl (by omega) (by omega), PP.drop_take_eq]
    have ed : dOf n t b = (t.take (zOf t b)).drop b := by unfold dOf; rw [if_neg hn]
    rw [← ed]
    refine ⟨_, rfl, lb, dOf n t b, rfl, SqL.of upd_same, ((toldOf n t b : Nat) : Int), _, _, rfl, rfl, ?_, lb, s1.trans (same_new hlb _), upd_same, rfl⟩
    unfold toldOf
    rw [if_neg hn]
    rfl
  · have c' : ¬ ((zOf t b : Nat) : Int) - (b : Int) ≤ (((pOf n t b).length : Nat) : Int) := of_decide_eq_false (Bool.eq_false_iff.mpr c)
    have hn : (pOf n t b).length < zOf t b - b := by omega
    have ed : dOf n t b = pOf n t b := by unfold dOf; rw [if_pos hn]
    have et : toldOf n t b = (pOf n t b).length := by unfold toldOf; rw [if_pos hn, ed]; rfl
    refine ⟨l1, s1, ?_, ?_⟩
    · rw [ed]
      exact hl1'
    · rw [et]
      rfl
  rintro σ' H2 ⟨lb, s2, hlb, rfl⟩
  have hdl := dOf_length n t b
  -- framed = low_first(told, 4) + block
  refine ⟨_, rfl, toldOf n t b, 4, rfl, by decide, fun l3 H3 s3 nl3 hl3 => ?_⟩
  refine ⟨_, rfl, l3, lb, _, _, rfl, rfl, hl3, s3 _ _ hlb, ?_, fun l4 hl4 => ?_⟩
  · rw [bv_length, bv_length, spelled_length]
    exact line (by omega)
  rw [← bv_append]
  have s4 := same_new hl4 (.lst (bv (spelled 4 (toldOf n t b) ++ dOf n t b)))
  have t3 := s2.trans s3
  have t4 := t3.trans s4
  have nl4 : H l4 = none := t3.free hl4
  refine ⟨fun σ' H' => Same H H' ∧ H' l4 = some (.lst (bv (blockA n t b))) ∧ σ'[7]? = some (some (.ref l4)), ⟨_, rfl, _, _, _, rfl, rfl, and_flag 1 rfl, rfl, _, rfl, ite2 (fun c => ?_) (fun c => ?_)⟩, ?_⟩
  · rw [ne_flag (by decide)] at c
    refine ⟨_, rfl, .inl ⟨rfl, _, SqL.of upd_same⟩, _, rfl, lb, dOf n t b, 0, rfl, SqL.of (s4 _ _ (s3 _ _ hlb)), by omega, by decide, fun H5 s5 => ?_⟩
    refine ⟨Kg18.sum 0 (dOf n t b), 4, rfl, by decide, fun l6 H6 s6 nl6 hl6 => ?_⟩
    refine ⟨l4, l6, _, _, rfl, rfl, s6 _ _ (s5 _ _ upd_same), hl6, ?_, fun c o z => ?_, ?_, rfl⟩
    · rw [bv_length, bv_length, List.length_append, spelled_length, spelled_length]
      exact line (by omega)
    · rw [upd_ne (ne_of_none z nl4)]
      exact s6 _ _ (s5 _ _ (t4 _ _ z))
    · rw [upd_same, ← bv_append]
      unfold blockA
      rw [if_pos c]
  · rw [ne_flag (by decide)] at c
    refine ⟨t4, ?_, rfl⟩
    unfold blockA
    rw [if_neg c, List.append_nil]
    exact upd_same
  rintro σ' H7 ⟨t7, hl7, h7⟩
  exact ⟨_, h7, k l4 H7 t7 nl4 hl7⟩
theorem scFT : FnScope ["flags", "text", "frame", "searched", "begin"] ["flags", "text"] (defScope s_framed_text) := ⟨rfl, rfl, rfl, by decide +kernel, rfl, by decide +kernel, by decide +kernel⟩
theorem small_c {n k : Nat} {c : Int} (h0 : 0 < c) (h1 : c ≤ 1000000) (e : Builtin.Range.rangeSize 0 (n : Int) c = (k : Int)) (hn : n ≤ 1000000) (hk : k ≤ 1000000) : Builtin.Range.small 0 (n : Int) c = true := by
  unfold Builtin.Range.small
  rw [e]
  have hc : c > 0 := h0
  simp only [Builtin.Range.rangeFitsLong, Bool.and_eq_true, Bool.or_eq_true, decide_eq_true_eq, beq_iff_eq, hc, if_true]
  omega
theorem rg64 {n : Nat} (h2 : n ≤ 1000000) : RgC 0 (n : Int) 65536 ((n + 65535) / 65536) := by
  have e : Builtin.Range.rangeSize 0 (n : Int) 65536 = (((n + 65535) / 65536 : Nat) : Int) := by
    unfold Builtin.Range.rangeSize
    rw [if_pos (by decide)]
    split <;> omega
  refine ⟨by decide, by decide, small_c (by decide) (by decide) e h2 (by omega), e⟩
theorem ok_ft {f fH fB fS fW fI q C : Addr} {fd fdH fdB fdS fdW fdI : FuncData} (F : Fun K "framed_text" "framed_text" s_framed_text f fd) (g : G K mg q) (gs : ST.G K mg C) (GH : FnOk P w K mg base CX0 6 fH fdH ["flags", "length"] spHead) (kH : PySem.W.keepIn K (.ref fH) = true) (bH : Binds K fdH ["flags", "length"] []) (mH : mg "frame_head" = some (.ref fH))
    (M : Mk K C fI) (GI : FnOk P w K mg base CX0 3 fI fdI ["self", "text"] (ST.spInit K C)) (bI : Binds K fdI ["self", "text"] [])
    (GB : FnOk P w K mg base CX0 5 fB fdB ["flags", "searched", "begin"] (spFB K C)) (kB : PySem.W.keepIn K (.ref fB) = true) (bB : Binds K fdB ["flags", "searched", "begin"] []) (mB : mg "framed_block" = some (.ref fB))
    (GS : FnOk P w K mg base CX0 4 fS fdS ["seed", "text"] (S.spSum K)) (kS : PySem.W.keepIn K (.ref fS) = true) (bS : Binds K fdS ["seed", "text"] []) (mS : mg "text_sum" = some (.ref fS)) (FW : Fun K "low_first" "low_first" sLow fW fdW) (bW : Binds K fdW ["number", "count"] []) (mW : mg "low_first" = some (.ref fW)) :
    FnOk P w K mg base CX0 7 f fd ["flags", "text"] (spFT K) := by
  have GW : FnOk P w K mg base CX0 1 fW fdW ["number", "count"] PK.spLow := PK.ok_low FW g.range
  refine F.ok scFT (fun vs H Q E h => ?_) (fun cdv A outer s H vs Q E hr h => ?_)
  · obtain ⟨a, t, n, rfl, _⟩ := h
    rfl
  obtain ⟨a, t, n, rfl, hS, hsz, k⟩ := h
  have hr1 : Room 1 _ := hr.mono (by decide)
  have hr4 : Room 4 _ := hr.mono (by decide)
  have hr5 : Room 5 _ := hr.mono (by decide)
  refine ⟨_, pss_cons (ps_set (i := 2) scFT.nd rfl (Or.inl rfl) (pe_call GH hr rfl mH kH bH .nil pass0 (pa_cons (pv 0) (pa_cons (pe_callB call_len_bv rfl g.len PySem.boot_len (pa_cons (pv 1) pa_nil)) pa_nil))))
    (pss_cons (ps_set (i := 3) scFT.nd rfl (Or.inl rfl) (pe_make M GI hr4 rfl gs.mgC bI .nil pass0 (pa_cons (pv 1) pa_nil)))
    (pss_cons (ps_for PassesOwn.never rfl (pi_range3 rfl g.range (pa_cons pe_int (pa_cons (pe_callB call_len_bv rfl g.len PySem.boot_len (pa_cons (pv 1) pa_nil)) (pa_cons (pe_gint rfl g.size) pa_nil)))) (pg_name (i := 4) scFT.nd rfl (Or.inl rfl)) (pss_one (ps_expr (pe_bm PySem.F.plainAttrs_list PySem.F.slot_list_extend PySem.F.type_list_extend mt_extend (pv 2) (pa_cons (pe_call GB hr5 rfl mB kB bB .nil pass0 (pa_cons (pv 0) (pa_cons (pv 3) (pa_cons (pv 4) pa_nil)))) pa_nil)))))
    (pss_cons (ps_expr (pe_bm PySem.F.plainAttrs_list PySem.F.slot_list_extend PySem.F.type_list_extend mt_extend (pv 2) (pa_cons (pe_lst (pa_cons pe_int (pa_cons pe_int (pa_cons pe_int (pa_cons pe_int pa_nil))))) pa_nil)))
    (pss_cons (ps_cut (ps_if (pt_cmpR op_ne (pe_op (eI0 op_and) (pv 0) (pe_gint rfl g.a1)) pe_int (nomark _)) (pss_one (ps_expr (pe_bm PySem.F.plainAttrs_list PySem.F.slot_list_extend PySem.F.type_list_extend mt_extend (pv 2) (pa_cons (pe_call GW hr1 rfl mW FW.kp bW .nil pass0 (pa_cons (pe_call GS hr4 rfl mS kS bS .nil pass0 (pa_cons pe_int (pa_cons (pv 1) pa_nil))) (pa_cons pe_int pa_nil))) pa_nil)))) pss_nil))
    (pss_one (ps_ret (pv 2))))))), ?_⟩
  -- frame = frame_head(flags, len(text))
  refine ⟨_, rfl, _, rfl, a, t, rfl, hS, n, t.length, rfl, fun l H1 s1 nl hl => ?_⟩
  -- searched = SearchedText(text)
  refine ⟨_, rfl, ?_⟩
  intro x dx nx ndx nxd
  have s0 : Same H1 (upd (upd H1 dx (.own x)) x (.ins C dx [])) := fun c o e => by
    rw [upd_ne (ne_of_none e nx), upd_ne (ne_of_none e ndx)]
    exact e
  refine ⟨x, dx, a, t, rfl, upd_same, s0.seq (s1.seq hS), hsz, fun ba H2 nba S2 kp2 => ⟨rfl, ?_⟩⟩
  have s2 : Same H1 H2 := fun c o e => kp2 c o (s0 c o e) (ne_of_none e nx)
  have hl2 := s2 _ _ hl
  have nxl : x ≠ l := (ne_of_none hl nx).symm
  have nbl : ba ≠ l := (ne_of_none hl (s0.free nba)).symm
  -- the blocks
  refine ⟨_, rfl, a, t, rfl, S2.sq, _, _, _, (t.length + 65535) / 65536, rfl, rg64 hsz, for_rangeC (fun i σ H3 => ∃ v4 : Option V, σ = [some (.int n), some (.ref a), some (.ref l), some (.ref x), v4] ∧ Same H H3 ∧ StB K C H3 x a ba t ∧ H3 l = some (.lst (bv (sofar n t i))))
    ⟨none, rfl, s1.trans s2, S2, by rw [sofar_zero]; exact hl2⟩ ?_ ?_⟩
  · rintro i σ H3 hi ⟨v4, rfl, s3, S3, hl3⟩
    have hlen := sofar_length n t i
    have hbl := blockA_length n t (65536 * i)
    have hb : 65536 * i ≤ t.length := by omega
    refine ⟨_, rfl, .inl ⟨rfl, _, SqL.of hl3⟩, _, rfl, _, rfl, _, rfl, x, a, t, n, 65536 * i, ?_, S3.st, hb, fun l4 H4 s4 nl4 hl4 => ?_⟩
    · show [V.int (n : Int), V.ref x, V.int (0 + (i : Int) * 65536)] ++ [] = _
      rw [show (0 + (i : Int) * 65536) = ((65536 * i : Nat) : Int) by omega]
      rfl
    refine ⟨l, l4, _, _, rfl, rfl, s4 _ _ hl3, hl4, ?_, _, rfl, fun c o z => ?_, ?_, ?_⟩
    · rw [bv_length, bv_length]
      exact line (by omega)
    · rw [upd_ne (ne_of_none z nl)]
      exact s4 _ _ (s3 _ _ z)
    · exact (S3.same s4).but (But.upd _) (Fix.new hS nl (s3.trans s4)) nxl nbl
    · rw [upd_same, sofar_succ, bv_append]
  · rintro σ H3 ⟨v4, rfl, s3, S3, hl3⟩
    have hlen := sofar_length n t ((t.length + 65535) / 65536)
    -- the end's mark
    refine ⟨_, rfl, .inl ⟨rfl, _, SqL.of hl3⟩, line (by show 4 ≤ 16777216; decide), fun l5 hl5 => ?_⟩
    have s5 := same_new hl5 (.lst [.int 0, .int 0, .int 0, .int 0])
    have e5 : ([V.int 0, V.int 0, V.int 0, V.int 0] : List V) = bv [0, 0, 0, 0] := rfl
    refine ⟨l, l5, _, _, rfl, rfl, s5 _ _ hl3, upd_same, ?_, ?_⟩
    · rw [bv_length]
      exact line (by show _ + 4 ≤ 16777216; omega)
    rw [e5, ← bv_append]
    have t6 : Same H (upd (upd H3 l5 (.lst (bv [0, 0, 0, 0]))) l (.lst (bv (sofar n t ((t.length + 65535) / 65536) ++ [0, 0, 0, 0])))) := fun c o z => by
      rw [upd_ne (ne_of_none z nl), upd_ne (ne_of_none (s3 _ _ z) hl5)]
      exact s3 _ _ z
    have h6 : (upd (upd H3 l5 (.lst (bv [0, 0, 0, 0]))) l (.lst (bv (sofar n t ((t.length + 65535) / 65536) ++ [0, 0, 0, 0])))) l = some (.lst (bv (sofar n t ((t.length + 65535) / 65536) ++ [0, 0, 0, 0]))) := upd_same
    generalize upd (upd H3 l5 (.lst (bv [0, 0, 0, 0]))) l (.lst (bv (sofar n t ((t.length + 65535) / 65536) ++ [0, 0, 0, 0]))) = H6 at t6 h6 ⊢
    refine ⟨fun σ' H' => H' l = some (.lst (bv (framed n t))) ∧ σ'[2]? = some (some (.ref l)), ⟨_, rfl, _, _, _, rfl, rfl, and_flag 0 rfl, rfl, _, rfl, ite2 (fun c => ?_) (fun c => ?_)⟩, ?_⟩
    · rw [ne_flag (by decide)] at c
      refine ⟨_, rfl, .inl ⟨rfl, _, SqL.of h6⟩, _, rfl, a, t, 0, rfl, t6.seq hS, by omega, by decide, fun H7 s7 => ?_⟩
      refine ⟨Kg18.sum 0 t, 4, rfl, by decide, fun l8 H8 s8 nl8 hl8 => ?_⟩
      refine ⟨l, l8, _, _, rfl, rfl, s8 _ _ (s7 _ _ h6), hl8, ?_, ?_, rfl⟩
      · rw [bv_length, bv_length, List.length_append, spelled_length]
        exact line (by show _ + 4 + 4 ≤ 16777216; omega)
      · rw [upd_same, ← bv_append, framed_eq, if_pos c]
    · rw [ne_flag (by decide)] at c
      refine ⟨?_, rfl⟩
      rw [framed_eq, if_neg c, List.append_nil]
      exact h6
    rintro σ' H9 ⟨h9, e9⟩
    exact ⟨_, e9, k l H9 h9⟩
end
end FR

/-! ### the answer -/
namespace AN
open PySem L2 Kg18 MS C
structure G (mg : Str → Option Value) : Prop where
  long : GInt mg "TOO_LONG" (-7)
  arg : GInt mg "WRONG_ARGUMENT" (-8)
  len : mg "len" = none
def spAns : Sp := fun vs H Q _ => ∃ (m : Int) (l : Addr) (t : Bytes), vs = [.int m, .ref l] ∧ H l = some (.lst (bv t)) ∧ t.length < 16777216 ∧ ∀ (r : Addr) (H' : Hp), H' r = some (.lst ((MU.put m t).map V.int)) → Q (.ref r) H'
section
variable {P : Program} {w : World} {K : PySem.W.Frag} {mg : Str → Option Value} {base : Heap}
theorem scAns : FnScope ["most", "found"] ["most", "found"] (defScope sAns) := ⟨rfl, rfl, rfl, by decide +kernel, rfl, by decide +kernel, by decide +kernel⟩
theorem ok_ans {f : Addr} {fd : FuncData} (F : Fun K "answered" "answered" sAns f fd) (g : G mg) : FnOk P w K mg base CX0 1 f fd ["most", "found"] spAns := by
  refine F.ok scAns (fun vs H Q E h => ?_) (fun cdv A outer s H vs Q E hr h => ?_)
  · obtain ⟨m, l, t, rfl, _⟩ := h
    rfl
  obtain ⟨m, l, t, rfl, hl, hsz, q⟩ := h
  refine ⟨_, pss_cons (ps_if (pt_cmpR op_gt (pe_callB call_len_seq rfl g.len PySem.boot_len (pa_cons (pv 1) pa_nil)) (pv 0) (nomark _)) (pss_one (ps_ret (pe_lst (pa_cons (pe_gint rfl g.long) pa_nil)))) pss_nil)
    (pss_one (ps_ret (pe_op op_cat (pe_lst (pa_cons (pe_callB call_len_seq rfl g.len PySem.boot_len (pa_cons (pv 1) pa_nil)) pa_nil)) (pv 1)))), ?_⟩
  refine ⟨_, rfl, l, _, rfl, .inl (SqL.of hl), _, rfl, _, _, rfl, rfl, _, rfl, ?_⟩
  refine ite2 (fun c => ?_) (fun c => ?_)
  · have c' : m < (((bv t).length : Nat) : Int) := of_decide_eq_true c
    rw [bv_length] at c'
    refine ⟨line (by show 1 ≤ 16777216; decide), fun r hr' => q r _ ?_⟩
    unfold MU.put
    rw [upd_same, if_pos c']
    rfl
  · have c' : ¬ m < (((bv t).length : Nat) : Int) := of_decide_eq_false (Bool.eq_false_iff.mpr c)
    rw [bv_length] at c'
    refine ⟨_, rfl, l, _, rfl, .inl (SqL.of hl), line (by show 1 ≤ 16777216; decide), fun p hp => ?_⟩
    refine ⟨_, rfl, p, l, _, _, rfl, rfl, upd_same, same_new hp _ _ _ hl, ?_, fun r hr' => q r _ ?_⟩
    · show 1 + (bv t).length ≤ sizeLine
      rw [bv_length]
      exact line (by omega)
    · unfold MU.put
      rw [upd_same, if_neg c', bv_length]
      rfl
end
end AN

/-! ### pack, and the law -/
namespace Law
open PySem L2 Kg18 MS MP MN MF C
def due (fl m : Int) (b : Bytes) : List Int := if fl < 0 ∨ 15 < fl ∨ m < 0 then [-8] else MU.put m (framed fl.toNat b)
def spPk (K : PySem.W.Frag) : Sp := fun vs H Q _ => ∃ (fl m : Int) (a : Addr) (b : Bytes), vs = [.int fl, .int m, .ref a] ∧ SqL K H a (bv b) ∧ b.length ≤ 116000 ∧ ∀ (l : Addr) (H' : Hp), H' l = some (.lst ((due fl m b).map V.int)) → Q (.ref l) H'
theorem framed_length {f : Nat} {t : Bytes} (h : t.length ≤ 116000) : (framed f t).length < 1000000 := by
  have h1 := sofar_length f t ((t.length + 65535) / 65536)
  rw [framed_eq, List.length_append, List.length_append]
  split
  · rw [spelled_length]
    show _ + 4 + 4 < _
    omega
  · show _ + 4 + 0 < _
    omega
section
variable {P : Program} {w : World} {K : PySem.W.Frag} {mg : Str → Option Value} {base : Heap}
theorem scPk : FnScope ["flags", "most", "text"] ["flags", "most", "text"] (defScope s_pack) := ⟨rfl, rfl, rfl, by decide +kernel, rfl, by decide +kernel, by decide +kernel⟩
theorem ok_pk {f fA fT q : Addr} {fd fdA fdT : FuncData} (F : Fun K "pack" "pack" s_pack f fd) (ga : AN.G mg) (g : FR.G K mg q) (FA : Fun K "answered" "answered" sAns fA fdA) (bA : Binds K fdA ["most", "found"] []) (mA : mg "answered" = some (.ref fA))
    (GT : FnOk P w K mg base CX0 7 fT fdT ["flags", "text"] (FR.spFT K)) (kT : PySem.W.keepIn K (.ref fT) = true) (bT : Binds K fdT ["flags", "text"] []) (mT : mg "framed_text" = some (.ref fT)) : FnOk P w K mg base CX0 8 f fd ["flags", "most", "text"] (spPk K) := by
  have GA : FnOk P w K mg base CX0 1 fA fdA ["most", "found"] AN.spAns := AN.ok_ans FA ga
  refine F.ok scPk (fun vs H Q E h => ?_) (fun cdv Ar outer s H vs Q E hr h => ?_)
  · obtain ⟨fl, m, a, b, rfl, _⟩ := h
    rfl
  obtain ⟨fl, m, a, b, rfl, hS, hmx, q⟩ := h
  have hr1 : Room 1 _ := hr.mono (by decide)
  refine ⟨_, pss_cons (ps_if (PW.pt (pw_or (pt_cmpR op_lt (pv 1) pe_int (nomark _)) (pw_or (pt_cmpR op_lt (pv 0) pe_int (nomark _)) (pw_or1 (pt_cmpR op_gt (pv 0) (pe_gint rfl g.most) (nomark _)))))) (pss_one (ps_ret (pe_lst (pa_cons (pe_gint rfl ga.arg) pa_nil)))) pss_nil)
    (pss_one (ps_ret (pe_call GA hr1 rfl mA FA.kp bA .nil pass0 (pa_cons (pv 1) (pa_cons (pe_call GT hr rfl mT kT bT .nil pass0 (pa_cons (pv 0) (pa_cons (pv 2) pa_nil))) pa_nil))))), ?_⟩
  have bad : fl < 0 ∨ 15 < fl ∨ m < 0 → ∀ (l : Addr) (H' : Hp), H' l = some (.lst [.int (-8)]) → Q (.ref l) H' := fun hb l H' e => q l H' (by
    unfold due
    rw [if_pos hb]
    exact e)
  refine ⟨_, rfl, _, _, rfl, rfl, _, rfl, ite2 (fun c => ?_) (fun c => ?_)⟩
  · have c' : m < 0 := of_decide_eq_true c
    exact iteT ⟨line (by show 1 ≤ 16777216; decide), fun l hl => bad (.inr (.inr c')) l _ upd_same⟩
  have c1 : ¬ m < 0 := of_decide_eq_false (Bool.eq_false_iff.mpr c)
  refine ⟨_, rfl, _, _, rfl, rfl, _, rfl, ite2 (fun c => ?_) (fun c => ?_)⟩
  · have c' : fl < 0 := of_decide_eq_true c
    exact iteT ⟨line (by show 1 ≤ 16777216; decide), fun l hl => bad (.inl c') l _ upd_same⟩
  have c2 : ¬ fl < 0 := of_decide_eq_false (Bool.eq_false_iff.mpr c)
  refine ⟨_, rfl, _, _, rfl, rfl, _, rfl, ite2 (fun c => ?_) (fun c => ?_)⟩
  · have c' : (15 : Int) < fl := of_decide_eq_true c
    exact ⟨line (by show 1 ≤ 16777216; decide), fun l hl => bad (.inr (.inl c')) l _ upd_same⟩
  have c3 : ¬ (15 : Int) < fl := of_decide_eq_false (Bool.eq_false_iff.mpr c)
  have ef : fl = ((fl.toNat : Nat) : Int) := by omega
  have hfl := framed_length (f := fl.toNat) hmx
  refine ⟨_, rfl, _, rfl, _, rfl, a, b, fl.toNat, ?_, hS, by omega, fun l H' hl => ?_⟩
  · rw [← ef]
    rfl
  refine ⟨m, l, framed fl.toNat b, rfl, hl, by omega, fun r H3 e => q r H3 ?_⟩
  unfold due
  rw [if_neg (by omega)]
  exact e
end
theorem walk {q : Program} {loose : List Str} {XP : (Str → Option Value) → Heap → Prop} {YP : World → Heap → Prop} {d : DefRec} {K : Params → PySem.W.Frag} (said : PySem.Challenge.rw_shorttexts_s01_pack.wellSaid = true) (hdf : d.params.defaults = [])
    (hY : ∀ (w : World) (h : Heap), YP w h → (K w.params).In h)
    (F : ∀ (w : World) (mg : Str → Option Value) (fa : Addr) (h : Heap), (K w.params).In h → h.Ns mainGlobals mg → mg d.name = some (.ref fa) →
      ∃ fd : FuncData, (∀ (s : Shared) (u1 u2 u3 : Value), BindsTo s fd ⟨[u1, u2, u3], []⟩ [("flags", u1), ("most", u2), ("text", u3)]) ∧ ∀ base : Heap, (K w.params).In base → base.Ns mainGlobals mg → FnOk PySem.Challenge.pw_shorttexts_s01_pack w (K w.params) mg base CX0 8 fa fd ["flags", "most", "text"] (spPk (K w.params))) :
    PySem.W.WalkOS q loose XP YP PySem.Challenge.rw_shorttexts_s01_pack d [] (fun f vs => PySem.call f vs) :=
  Sx.walk3 (n := 116000) (k := 8) (x := "flags") (y := "most") (z := "text") (sp := fun w => spPk (K w.params)) said (by decide) hdf ⟨rfl, by decide, by decide⟩ hY F
    (fun w H a i j ns h0 h1 h2 h3 hl hb hask hO hS => by
      have h0' : (-2147483648 : Int) ≤ i := h0
      have h1' : i ≤ 2147483647 := h1
      have h2' : (-2147483648 : Int) ≤ j := h2
      have h3' : j ≤ 2147483647 := h3
      have e : bv (MU.toB ns) = ns.map V.int := by unfold bv; rw [MU.zs_toB hb]
      refine ⟨i, j, a, MU.toB ns, rfl, by rw [e]; exact hS, by rw [MU.toB_length]; exact hl, fun l H' z => ⟨l, rfl, ?_⟩⟩
      rw [z, MU.pack_eq h0' h1' h2' h3' hl]
      rfl)
end Law

namespace Law
open PySem L2 Kg18 C
theorem all_mk {w : World} {K : PySem.W.Frag} {h : Heap} {mg : Str → Option Value} {fa CSearchedText f1 f2 f3 f4 f5 f6 f7 f8 f9 f10 f11 f12 f13 f14 f15 f16 f17 f18 f19 f20 f21 f22 f23 f24 f25 f26 q_FIRST_FOUR : Addr} (X : K.In h) (G : h.Ns mainGlobals mg) (hfa : mg "pack" = some (.ref fa))
    {od1 an1 od2 an2 od3 an3 od4 an4 od5 an5 od6 an6 od7 an7 od8 an8 od9 an9 od10 an10 od11 an11 od12 an12 od13 an13 od14 an14 od15 an15 od16 an16 od17 an17 od18 an18 od19 an19 od20 an20 od21 an21 od22 an22 od23 an23 od24 an24 od25 an25 od26 an26 od_FIRST_FOUR : Option Addr} {sl1 sl2 sl3 sl4 sl5 sl6 sl7 sl8 sl9 sl10 sl11 sl12 sl13 sl14 sl15 sl16 sl17 sl18 sl19 sl20 sl21 sl22 sl23 sl24 sl25 sl26 sl_FIRST_FOUR : Array (Option Value)} {oc1 kV1 dc1 pm1 cd1 ct1 oc2 kV2 dc2 pm2 cd2 ct2 oc3 kV3 dc3 pm3 cd3 ct3 oc4 kV4 dc4 pm4 cd4 ct4 oc5 kV5 dc5 pm5 cd5 ct5 oc6 kV6 dc6 pm6 cd6 ct6 oc7 kV7 dc7 pm7 cd7 ct7 oc8 kV8 dc8 pm8 cd8 ct8 oc9 kV9 dc9 pm9 cd9 ct9 oc10 kV10 dc10 pm10 cd10 ct10 oc11 kV11 dc11 pm11 cd11 ct11 oc12 kV12 dc12 pm12 cd12 ct12 oc13 kV13 dc13 pm13 cd13 ct13 oc14 kV14 dc14 pm14 cd14 ct14 oc15 kV15 dc15 pm15 cd15 ct15 oc16 kV16 dc16 pm16 cd16 ct16 oc17 kV17 dc17 pm17 cd17 ct17 oc18 kV18 dc18 pm18 cd18 ct18 oc19 kV19 dc19 pm19 cd19 ct19 oc20 kV20 dc20 pm20 cd20 ct20 oc21 kV21 dc21 pm21 cd21 ct21 oc22 kV22 dc22 pm22 cd22 ct22 oc23 kV23 dc23 pm23 cd23 ct23 oc24 kV24 dc24 pm24 cd24 ct24 oc25 kV25 dc25 pm25 cd25 ct25 oc26 kV26 dc26 pm26 cd26 ct26 : Value} {t_MODULUS t_PRIME_1 t_PRIME_2 t_PRIME_3 t_PRIME_4 t_PRIME_5 t_TOO_LONG t_WRONG_ARGUMENT t_SHORTEST_MATCH t_FARTHEST_BACK t_FEWEST_LEFT_FOR_A_MATCH t_LEFT_BEHIND_A_MATCH t_BLOCK_SIZE t_BLOCK_SIZE_BYTE t_STANDS_FOR_ITSELF t_ASKED_TEXT_SUM t_ASKED_BLOCK_SUMS t_ASKED_LENGTH t_ASKED_LINKED t_MOST_FLAGS t_HEAD_VERSION t_HEAD_ALONE t_HEAD_BLOCK_SUMS t_HEAD_LENGTH t_HEAD_TEXT_SUM t_FIRST_FOUR0 t_FIRST_FOUR1 t_FIRST_FOUR2 t_FIRST_FOUR3 t_HIGH_LETTERS t_LOW_LETTERS : Tok} {n_FIRST_FOUR : Nat}
    (aCSearchedText : PySem.W.nsIn K mainGlobals "SearchedText" = some (some (.ref CSearchedText)))
    (a1 : PySem.W.findIn K (.ref CSearchedText) "__init__" = some (some (.ref f1))) (i1 : PySem.W.isFn K (.ref f1) = true)
    (l1 : K.lookup f1 = some ⟨oc1, od1, .func (PySem.W.fnOf "__init__" "SearchedText.__init__" (defArgs sSearchedText_init) (defBody sSearchedText_init) (defScope sSearchedText_init) .none kV1 dc1 pm1 an1 cd1 ct1), sl1⟩) (c1 : PySem.W.codeIn K cd1 "SearchedText.__init__" = true) (k1 : PySem.W.keepIn K (.ref f1) = true)
    (a2 : PySem.W.findIn K (.ref CSearchedText) "mirrored_index" = some (some (.ref f2))) (i2 : PySem.W.isFn K (.ref f2) = true)
    (l2 : K.lookup f2 = some ⟨oc2, od2, .func (PySem.W.fnOf "mirrored_index" "SearchedText.mirrored_index" (defArgs sSearchedText_mirrored_index) (defBody sSearchedText_mirrored_index) (defScope sSearchedText_mirrored_index) .none kV2 dc2 pm2 an2 cd2 ct2), sl2⟩) (c2 : PySem.W.codeIn K cd2 "SearchedText.mirrored_index" = true) (k2 : PySem.W.keepIn K (.ref f2) = true)
    (a3 : PySem.W.findIn K (.ref CSearchedText) "nearest_same" = some (some (.ref f3))) (i3 : PySem.W.isFn K (.ref f3) = true)
    (l3 : K.lookup f3 = some ⟨oc3, od3, .func (PySem.W.fnOf "nearest_same" "SearchedText.nearest_same" (defArgs sSearchedText_nearest_same) (defBody sSearchedText_nearest_same) (defScope sSearchedText_nearest_same) .none kV3 dc3 pm3 an3 cd3 ct3), sl3⟩) (c3 : PySem.W.codeIn K cd3 "SearchedText.nearest_same" = true) (k3 : PySem.W.keepIn K (.ref f3) = true)
    (a4 : PySem.W.findIn K (.ref CSearchedText) "length_of_same" = some (some (.ref f4))) (i4 : PySem.W.isFn K (.ref f4) = true)
    (l4 : K.lookup f4 = some ⟨oc4, od4, .func (PySem.W.fnOf "length_of_same" "SearchedText.length_of_same" (defArgs sSearchedText_length_of_same) (defBody sSearchedText_length_of_same) (defScope sSearchedText_length_of_same) .none kV4 dc4 pm4 an4 cd4 ct4), sl4⟩) (c4 : PySem.W.codeIn K cd4 "SearchedText.length_of_same" = true) (k4 : PySem.W.keepIn K (.ref f4) = true)
    (a5 : PySem.W.findIn K (.ref CSearchedText) "longest_match" = some (some (.ref f5))) (i5 : PySem.W.isFn K (.ref f5) = true)
    (l5 : K.lookup f5 = some ⟨oc5, od5, .func (PySem.W.fnOf "longest_match" "SearchedText.longest_match" (defArgs sSearchedText_longest_match) (defBody sSearchedText_longest_match) (defScope sSearchedText_longest_match) .none kV5 dc5 pm5 an5 cd5 ct5), sl5⟩) (c5 : PySem.W.codeIn K cd5 "SearchedText.longest_match" = true) (k5 : PySem.W.keepIn K (.ref f5) = true)
    (pgSearchedText : PySem.W.plainGet K CSearchedText Str.empty = true) (hdSearchedText : PySem.W.hasDictIn K CSearchedText = true) (poSearchedText : PySem.W.plainOver K CSearchedText = true) (saSearchedText : PySem.W.findIn K (.ref CSearchedText) "__setattr__" = some (some (.builtin "object.__setattr__"))) (mkSearchedText : PySem.W.makesIn K CSearchedText = true) (kcSearchedText : PySem.W.keepIn K (.ref CSearchedText) = true)
    (nSearchedText_before : PySem.W.findIn K (.ref CSearchedText) "before" = some none)
    (nSearchedText_mirrored : PySem.W.findIn K (.ref CSearchedText) "mirrored" = some none)
    (nSearchedText_text : PySem.W.findIn K (.ref CSearchedText) "text" = some none)
    (a6 : PySem.W.nsIn K mainGlobals "low_first" = some (some (.ref f6)))
    (l6 : K.lookup f6 = some ⟨oc6, od6, .func (PySem.W.fnOf "low_first" "low_first" (defArgs sLow) (defBody sLow) (defScope sLow) .none kV6 dc6 pm6 an6 cd6 ct6), sl6⟩) (c6 : PySem.W.codeIn K cd6 "low_first" = true) (k6 : PySem.W.keepIn K (.ref f6) = true)
    (a7 : PySem.W.nsIn K mainGlobals "four_bytes_at" = some (some (.ref f7)))
    (l7 : K.lookup f7 = some ⟨oc7, od7, .func (PySem.W.fnOf "four_bytes_at" "four_bytes_at" (defArgs sFour) (defBody sFour) (defScope sFour) .none kV7 dc7 pm7 an7 cd7 ct7), sl7⟩) (c7 : PySem.W.codeIn K cd7 "four_bytes_at" = true) (k7 : PySem.W.keepIn K (.ref f7) = true)
    (a8 : PySem.W.nsIn K mainGlobals "turned_left" = some (some (.ref f8)))
    (l8 : K.lookup f8 = some ⟨oc8, od8, .func (PySem.W.fnOf "turned_left" "turned_left" (defArgs sTurn) (defBody sTurn) (defScope sTurn) .none kV8 dc8 pm8 an8 cd8 ct8), sl8⟩) (c8 : PySem.W.codeIn K cd8 "turned_left" = true) (k8 : PySem.W.keepIn K (.ref f8) = true)
    (a9 : PySem.W.nsIn K mainGlobals "mixed" = some (some (.ref f9)))
    (l9 : K.lookup f9 = some ⟨oc9, od9, .func (PySem.W.fnOf "mixed" "mixed" (defArgs sMix) (defBody sMix) (defScope sMix) .none kV9 dc9 pm9 an9 cd9 ct9), sl9⟩) (c9 : PySem.W.codeIn K cd9 "mixed" = true) (k9 : PySem.W.keepIn K (.ref f9) = true)
    (a10 : PySem.W.nsIn K mainGlobals "sum_of_sixteens" = some (some (.ref f10)))
    (l10 : K.lookup f10 = some ⟨oc10, od10, .func (PySem.W.fnOf "sum_of_sixteens" "sum_of_sixteens" (defArgs sSix) (defBody sSix) (defScope sSix) .none kV10 dc10 pm10 an10 cd10 ct10), sl10⟩) (c10 : PySem.W.codeIn K cd10 "sum_of_sixteens" = true) (k10 : PySem.W.keepIn K (.ref f10) = true)
    (a11 : PySem.W.nsIn K mainGlobals "with_bytes_left" = some (some (.ref f11)))
    (l11 : K.lookup f11 = some ⟨oc11, od11, .func (PySem.W.fnOf "with_bytes_left" "with_bytes_left" (defArgs sLeft) (defBody sLeft) (defScope sLeft) .none kV11 dc11 pm11 an11 cd11 ct11), sl11⟩) (c11 : PySem.W.codeIn K cd11 "with_bytes_left" = true) (k11 : PySem.W.keepIn K (.ref f11) = true)
    (a12 : PySem.W.nsIn K mainGlobals "text_sum" = some (some (.ref f12)))
    (l12 : K.lookup f12 = some ⟨oc12, od12, .func (PySem.W.fnOf "text_sum" "text_sum" (defArgs sSum) (defBody sSum) (defScope sSum) .none kV12 dc12 pm12 an12 cd12 ct12), sl12⟩) (c12 : PySem.W.codeIn K cd12 "text_sum" = true) (k12 : PySem.W.keepIn K (.ref f12) = true)
    (a13 : PySem.W.nsIn K mainGlobals "mirrored_letters" = some (some (.ref f13)))
    (l13 : K.lookup f13 = some ⟨oc13, od13, .func (PySem.W.fnOf "mirrored_letters" "mirrored_letters" (defArgs s_mirrored_letters) (defBody s_mirrored_letters) (defScope s_mirrored_letters) .none kV13 dc13 pm13 an13 cd13 ct13), sl13⟩) (c13 : PySem.W.codeIn K cd13 "mirrored_letters" = true) (k13 : PySem.W.keepIn K (.ref f13) = true)
    (a14 : PySem.W.nsIn K mainGlobals "places_before" = some (some (.ref f14)))
    (l14 : K.lookup f14 = some ⟨oc14, od14, .func (PySem.W.fnOf "places_before" "places_before" (defArgs s_places_before) (defBody s_places_before) (defScope s_places_before) .none kV14 dc14 pm14 an14 cd14 ct14), sl14⟩) (c14 : PySem.W.codeIn K cd14 "places_before" = true) (k14 : PySem.W.keepIn K (.ref f14) = true)
    (a15 : PySem.W.nsIn K mainGlobals "step_beyond" = some (some (.ref f15)))
    (l15 : K.lookup f15 = some ⟨oc15, od15, .func (PySem.W.fnOf "step_beyond" "step_beyond" (defArgs s_step_beyond) (defBody s_step_beyond) (defScope s_step_beyond) .none kV15 dc15 pm15 an15 cd15 ct15), sl15⟩) (c15 : PySem.W.codeIn K cd15 "step_beyond" = true) (k15 : PySem.W.keepIn K (.ref f15) = true)
    (a16 : PySem.W.nsIn K mainGlobals "carried_on" = some (some (.ref f16)))
    (l16 : K.lookup f16 = some ⟨oc16, od16, .func (PySem.W.fnOf "carried_on" "carried_on" (defArgs s_carried_on) (defBody s_carried_on) (defScope s_carried_on) .none kV16 dc16 pm16 an16 cd16 ct16), sl16⟩) (c16 : PySem.W.codeIn K cd16 "carried_on" = true) (k16 : PySem.W.keepIn K (.ref f16) = true)
    (a17 : PySem.W.nsIn K mainGlobals "part_with_match" = some (some (.ref f17)))
    (l17 : K.lookup f17 = some ⟨oc17, od17, .func (PySem.W.fnOf "part_with_match" "part_with_match" (defArgs s_part_with_match) (defBody s_part_with_match) (defScope s_part_with_match) .none kV17 dc17 pm17 an17 cd17 ct17), sl17⟩) (c17 : PySem.W.codeIn K cd17 "part_with_match" = true) (k17 : PySem.W.keepIn K (.ref f17) = true)
    (a18 : PySem.W.nsIn K mainGlobals "last_part" = some (some (.ref f18)))
    (l18 : K.lookup f18 = some ⟨oc18, od18, .func (PySem.W.fnOf "last_part" "last_part" (defArgs s_last_part) (defBody s_last_part) (defScope s_last_part) .none kV18 dc18 pm18 an18 cd18 ct18), sl18⟩) (c18 : PySem.W.codeIn K cd18 "last_part" = true) (k18 : PySem.W.keepIn K (.ref f18) = true)
    (a19 : PySem.W.nsIn K mainGlobals "packed_parts" = some (some (.ref f19)))
    (l19 : K.lookup f19 = some ⟨oc19, od19, .func (PySem.W.fnOf "packed_parts" "packed_parts" (defArgs s_packed_parts) (defBody s_packed_parts) (defScope s_packed_parts) .none kV19 dc19 pm19 an19 cd19 ct19), sl19⟩) (c19 : PySem.W.codeIn K cd19 "packed_parts" = true) (k19 : PySem.W.keepIn K (.ref f19) = true)
    (a20 : PySem.W.nsIn K mainGlobals "framed_block" = some (some (.ref f20)))
    (l20 : K.lookup f20 = some ⟨oc20, od20, .func (PySem.W.fnOf "framed_block" "framed_block" (defArgs s_framed_block) (defBody s_framed_block) (defScope s_framed_block) .none kV20 dc20 pm20 an20 cd20 ct20), sl20⟩) (c20 : PySem.W.codeIn K cd20 "framed_block" = true) (k20 : PySem.W.keepIn K (.ref f20) = true)
    (a21 : PySem.W.nsIn K mainGlobals "head_flags" = some (some (.ref f21)))
    (l21 : K.lookup f21 = some ⟨oc21, od21, .func (PySem.W.fnOf "head_flags" "head_flags" (defArgs s_head_flags) (defBody s_head_flags) (defScope s_head_flags) .none kV21 dc21 pm21 an21 cd21 ct21), sl21⟩) (c21 : PySem.W.codeIn K cd21 "head_flags" = true) (k21 : PySem.W.keepIn K (.ref f21) = true)
    (a22 : PySem.W.nsIn K mainGlobals "head_sum" = some (some (.ref f22)))
    (l22 : K.lookup f22 = some ⟨oc22, od22, .func (PySem.W.fnOf "head_sum" "head_sum" (defArgs s_head_sum) (defBody s_head_sum) (defScope s_head_sum) .none kV22 dc22 pm22 an22 cd22 ct22), sl22⟩) (c22 : PySem.W.codeIn K cd22 "head_sum" = true) (k22 : PySem.W.keepIn K (.ref f22) = true)
    (a23 : PySem.W.nsIn K mainGlobals "frame_head" = some (some (.ref f23)))
    (l23 : K.lookup f23 = some ⟨oc23, od23, .func (PySem.W.fnOf "frame_head" "frame_head" (defArgs s_frame_head) (defBody s_frame_head) (defScope s_frame_head) .none kV23 dc23 pm23 an23 cd23 ct23), sl23⟩) (c23 : PySem.W.codeIn K cd23 "frame_head" = true) (k23 : PySem.W.keepIn K (.ref f23) = true)
    (a24 : PySem.W.nsIn K mainGlobals "framed_text" = some (some (.ref f24)))
    (l24 : K.lookup f24 = some ⟨oc24, od24, .func (PySem.W.fnOf "framed_text" "framed_text" (defArgs s_framed_text) (defBody s_framed_text) (defScope s_framed_text) .none kV24 dc24 pm24 an24 cd24 ct24), sl24⟩) (c24 : PySem.W.codeIn K cd24 "framed_text" = true) (k24 : PySem.W.keepIn K (.ref f24) = true)
    (a25 : PySem.W.nsIn K mainGlobals "answered" = some (some (.ref f25)))
    (l25 : K.lookup f25 = some ⟨oc25, od25, .func (PySem.W.fnOf "answered" "answered" (defArgs sAns) (defBody sAns) (defScope sAns) .none kV25 dc25 pm25 an25 cd25 ct25), sl25⟩) (c25 : PySem.W.codeIn K cd25 "answered" = true) (k25 : PySem.W.keepIn K (.ref f25) = true)
    (a26 : PySem.W.nsIn K mainGlobals "pack" = some (some (.ref f26)))
    (l26 : K.lookup f26 = some ⟨oc26, od26, .func (PySem.W.fnOf "pack" "pack" (defArgs s_pack) (defBody s_pack) (defScope s_pack) .none kV26 dc26 pm26 an26 cd26 ct26), sl26⟩) (c26 : PySem.W.codeIn K cd26 "pack" = true) (k26 : PySem.W.keepIn K (.ref f26) = true)
    (z_MODULUS : PySem.W.nsIn K mainGlobals "MODULUS" = some (some (.int 4294967296 t_MODULUS)))
    (z_PRIME_1 : PySem.W.nsIn K mainGlobals "PRIME_1" = some (some (.int 2654435761 t_PRIME_1)))
    (z_PRIME_2 : PySem.W.nsIn K mainGlobals "PRIME_2" = some (some (.int 2246822519 t_PRIME_2)))
    (z_PRIME_3 : PySem.W.nsIn K mainGlobals "PRIME_3" = some (some (.int 3266489917 t_PRIME_3)))
    (z_PRIME_4 : PySem.W.nsIn K mainGlobals "PRIME_4" = some (some (.int 668265263 t_PRIME_4)))
    (z_PRIME_5 : PySem.W.nsIn K mainGlobals "PRIME_5" = some (some (.int 374761393 t_PRIME_5)))
    (z_TOO_LONG : PySem.W.nsIn K mainGlobals "TOO_LONG" = some (some (.int (-7) t_TOO_LONG)))
    (z_WRONG_ARGUMENT : PySem.W.nsIn K mainGlobals "WRONG_ARGUMENT" = some (some (.int (-8) t_WRONG_ARGUMENT)))
    (z_SHORTEST_MATCH : PySem.W.nsIn K mainGlobals "SHORTEST_MATCH" = some (some (.int 4 t_SHORTEST_MATCH)))
    (z_FARTHEST_BACK : PySem.W.nsIn K mainGlobals "FARTHEST_BACK" = some (some (.int 65535 t_FARTHEST_BACK)))
    (z_FEWEST_LEFT_FOR_A_MATCH : PySem.W.nsIn K mainGlobals "FEWEST_LEFT_FOR_A_MATCH" = some (some (.int 12 t_FEWEST_LEFT_FOR_A_MATCH)))
    (z_LEFT_BEHIND_A_MATCH : PySem.W.nsIn K mainGlobals "LEFT_BEHIND_A_MATCH" = some (some (.int 5 t_LEFT_BEHIND_A_MATCH)))
    (z_BLOCK_SIZE : PySem.W.nsIn K mainGlobals "BLOCK_SIZE" = some (some (.int 65536 t_BLOCK_SIZE)))
    (z_BLOCK_SIZE_BYTE : PySem.W.nsIn K mainGlobals "BLOCK_SIZE_BYTE" = some (some (.int 64 t_BLOCK_SIZE_BYTE)))
    (z_STANDS_FOR_ITSELF : PySem.W.nsIn K mainGlobals "STANDS_FOR_ITSELF" = some (some (.int 2147483648 t_STANDS_FOR_ITSELF)))
    (z_ASKED_TEXT_SUM : PySem.W.nsIn K mainGlobals "ASKED_TEXT_SUM" = some (some (.int 1 t_ASKED_TEXT_SUM)))
    (z_ASKED_BLOCK_SUMS : PySem.W.nsIn K mainGlobals "ASKED_BLOCK_SUMS" = some (some (.int 2 t_ASKED_BLOCK_SUMS)))
    (z_ASKED_LENGTH : PySem.W.nsIn K mainGlobals "ASKED_LENGTH" = some (some (.int 4 t_ASKED_LENGTH)))
    (z_ASKED_LINKED : PySem.W.nsIn K mainGlobals "ASKED_LINKED" = some (some (.int 8 t_ASKED_LINKED)))
    (z_MOST_FLAGS : PySem.W.nsIn K mainGlobals "MOST_FLAGS" = some (some (.int 15 t_MOST_FLAGS)))
    (z_HEAD_VERSION : PySem.W.nsIn K mainGlobals "HEAD_VERSION" = some (some (.int 64 t_HEAD_VERSION)))
    (z_HEAD_ALONE : PySem.W.nsIn K mainGlobals "HEAD_ALONE" = some (some (.int 32 t_HEAD_ALONE)))
    (z_HEAD_BLOCK_SUMS : PySem.W.nsIn K mainGlobals "HEAD_BLOCK_SUMS" = some (some (.int 16 t_HEAD_BLOCK_SUMS)))
    (z_HEAD_LENGTH : PySem.W.nsIn K mainGlobals "HEAD_LENGTH" = some (some (.int 8 t_HEAD_LENGTH)))
    (z_HEAD_TEXT_SUM : PySem.W.nsIn K mainGlobals "HEAD_TEXT_SUM" = some (some (.int 4 t_HEAD_TEXT_SUM)))
    (z_FIRST_FOUR : PySem.W.nsIn K mainGlobals "FIRST_FOUR" = some (some (.ref q_FIRST_FOUR))) (y_FIRST_FOUR : K.lookup q_FIRST_FOUR = some ⟨.type "tuple", od_FIRST_FOUR, .seq #[.int 4 t_FIRST_FOUR0, .int 34 t_FIRST_FOUR1, .int 77 t_FIRST_FOUR2, .int 24 t_FIRST_FOUR3] n_FIRST_FOUR, sl_FIRST_FOUR⟩)
    (z_HIGH_LETTERS : PySem.W.nsIn K mainGlobals "HIGH_LETTERS" = some (some (.str (PySem.Str.ofString "ABCDEFGHIJKLMNOP") t_HIGH_LETTERS)))
    (z_LOW_LETTERS : PySem.W.nsIn K mainGlobals "LOW_LETTERS" = some (some (.str (PySem.Str.ofString "abcdefghijklmnop") t_LOW_LETTERS)))
    (zb_len : PySem.W.nsIn K mainGlobals "len" = some none)
    (zb_range : PySem.W.nsIn K mainGlobals "range" = some none)
    (zb_reversed : PySem.W.nsIn K mainGlobals "reversed" = some none)
    (zb_min : PySem.W.nsIn K mainGlobals "min" = some none)
    (zb_max : PySem.W.nsIn K mainGlobals "max" = some none)
    (zb_list : PySem.W.nsIn K mainGlobals "list" = some none)
    : ∃ fd : FuncData, (∀ (s : Shared) (u0 u1 u2 : Value), BindsTo s fd ⟨[u0, u1, u2], []⟩ [("flags", u0), ("most", u1), ("text", u2)]) ∧ ∀ base : Heap, K.In base → base.Ns mainGlobals mg → FnOk PySem.Challenge.pw_shorttexts_s01_pack w K mg base CX0 8 fa fd ["flags", "most", "text"] (spPk K) := by
  have e := hfa.symm.trans (PySem.W.mg_of X G a26)
  cases e
  have F_SearchedText_init := fun_mk (st := sSearchedText_init) l1 c1 k1
  have b_SearchedText_init := F_SearchedText_init.binds (ps := ["self", "text"]) fun _ _ _ _ _ _ us hl => match us, hl with | [_, _], _ => rfl
  have m_SearchedText_init : Meth K CSearchedText "__init__" f1 := ⟨a1, i1, k1⟩
  have F_SearchedText_mirrored_index := fun_mk (st := sSearchedText_mirrored_index) l2 c2 k2
  have b_SearchedText_mirrored_index := F_SearchedText_mirrored_index.binds (ps := ["self", "place"]) fun _ _ _ _ _ _ us hl => match us, hl with | [_, _], _ => rfl
  have m_SearchedText_mirrored_index : Meth K CSearchedText "mirrored_index" f2 := ⟨a2, i2, k2⟩
  have F_SearchedText_nearest_same := fun_mk (st := sSearchedText_nearest_same) l3 c3 k3
  have b_SearchedText_nearest_same := F_SearchedText_nearest_same.binds (ps := ["self", "place", "length", "near", "lowest"]) fun _ _ _ _ _ _ us hl => match us, hl with | [_, _, _, _, _], _ => rfl
  have m_SearchedText_nearest_same : Meth K CSearchedText "nearest_same" f3 := ⟨a3, i3, k3⟩
  have F_SearchedText_length_of_same := fun_mk (st := sSearchedText_length_of_same) l4 c4 k4
  have b_SearchedText_length_of_same := F_SearchedText_length_of_same.binds (ps := ["self", "source", "place", "known", "most"]) fun _ _ _ _ _ _ us hl => match us, hl with | [_, _, _, _, _], _ => rfl
  have m_SearchedText_length_of_same : Meth K CSearchedText "length_of_same" f4 := ⟨a4, i4, k4⟩
  have F_SearchedText_longest_match := fun_mk (st := sSearchedText_longest_match) l5 c5 k5
  have b_SearchedText_longest_match := F_SearchedText_longest_match.binds (ps := ["self", "place", "lowest", "most"]) fun _ _ _ _ _ _ us hl => match us, hl with | [_, _, _, _], _ => rfl
  have m_SearchedText_longest_match : Meth K CSearchedText "longest_match" f5 := ⟨a5, i5, k5⟩
  have clSearchedText : Cls K CSearchedText := ⟨pgSearchedText, hdSearchedText, poSearchedText, saSearchedText⟩
  have mk_SearchedText : Mk K CSearchedText f1 := ⟨mkSearchedText, a1, i1, kcSearchedText⟩
  have mg_SearchedText := PySem.W.mg_of X G aCSearchedText
  have F_low_first := fun_mk (st := sLow) l6 c6 k6
  have b_low_first := F_low_first.binds (ps := ["number", "count"]) fun _ _ _ _ _ _ us hl => match us, hl with | [_, _], _ => rfl
  have m_low_first := PySem.W.mg_of X G a6
  have F_four_bytes_at := fun_mk (st := sFour) l7 c7 k7
  have b_four_bytes_at := F_four_bytes_at.binds (ps := ["text", "place"]) fun _ _ _ _ _ _ us hl => match us, hl with | [_, _], _ => rfl
  have m_four_bytes_at := PySem.W.mg_of X G a7
  have F_turned_left := fun_mk (st := sTurn) l8 c8 k8
  have b_turned_left := F_turned_left.binds (ps := ["number", "count"]) fun _ _ _ _ _ _ us hl => match us, hl with | [_, _], _ => rfl
  have m_turned_left := PySem.W.mg_of X G a8
  have F_mixed := fun_mk (st := sMix) l9 c9 k9
  have b_mixed := F_mixed.binds (ps := ["total", "added", "turn", "factor"]) fun _ _ _ _ _ _ us hl => match us, hl with | [_, _, _, _], _ => rfl
  have m_mixed := PySem.W.mg_of X G a9
  have F_sum_of_sixteens := fun_mk (st := sSix) l10 c10 k10
  have b_sum_of_sixteens := F_sum_of_sixteens.binds (ps := ["seed", "text"]) fun _ _ _ _ _ _ us hl => match us, hl with | [_, _], _ => rfl
  have m_sum_of_sixteens := PySem.W.mg_of X G a10
  have F_with_bytes_left := fun_mk (st := sLeft) l11 c11 k11
  have b_with_bytes_left := F_with_bytes_left.binds (ps := ["total", "text"]) fun _ _ _ _ _ _ us hl => match us, hl with | [_, _], _ => rfl
  have m_with_bytes_left := PySem.W.mg_of X G a11
  have F_text_sum := fun_mk (st := sSum) l12 c12 k12
  have b_text_sum := F_text_sum.binds (ps := ["seed", "text"]) fun _ _ _ _ _ _ us hl => match us, hl with | [_, _], _ => rfl
  have m_text_sum := PySem.W.mg_of X G a12
  have F_mirrored_letters := fun_mk (st := s_mirrored_letters) l13 c13 k13
  have b_mirrored_letters := F_mirrored_letters.binds (ps := ["text"]) fun _ _ _ _ _ _ us hl => match us, hl with | [_], _ => rfl
  have m_mirrored_letters := PySem.W.mg_of X G a13
  have F_places_before := fun_mk (st := s_places_before) l14 c14 k14
  have b_places_before := F_places_before.binds (ps := ["text"]) fun _ _ _ _ _ _ us hl => match us, hl with | [_], _ => rfl
  have m_places_before := PySem.W.mg_of X G a14
  have F_step_beyond := fun_mk (st := s_step_beyond) l15 c15 k15
  have b_step_beyond := F_step_beyond.binds (ps := ["length"]) fun _ _ _ _ _ _ us hl => match us, hl with | [_], _ => rfl
  have m_step_beyond := PySem.W.mg_of X G a15
  have F_carried_on := fun_mk (st := s_carried_on) l16 c16 k16
  have b_carried_on := F_carried_on.binds (ps := ["count"]) fun _ _ _ _ _ _ us hl => match us, hl with | [_], _ => rfl
  have m_carried_on := PySem.W.mg_of X G a16
  have F_part_with_match := fun_mk (st := s_part_with_match) l17 c17 k17
  have b_part_with_match := F_part_with_match.binds (ps := ["own_bytes", "length", "back"]) fun _ _ _ _ _ _ us hl => match us, hl with | [_, _, _], _ => rfl
  have m_part_with_match := PySem.W.mg_of X G a17
  have F_last_part := fun_mk (st := s_last_part) l18 c18 k18
  have b_last_part := F_last_part.binds (ps := ["own_bytes"]) fun _ _ _ _ _ _ us hl => match us, hl with | [_], _ => rfl
  have m_last_part := PySem.W.mg_of X G a18
  have F_packed_parts := fun_mk (st := s_packed_parts) l19 c19 k19
  have b_packed_parts := F_packed_parts.binds (ps := ["searched", "first", "begin", "end"]) fun _ _ _ _ _ _ us hl => match us, hl with | [_, _, _, _], _ => rfl
  have m_packed_parts := PySem.W.mg_of X G a19
  have F_framed_block := fun_mk (st := s_framed_block) l20 c20 k20
  have b_framed_block := F_framed_block.binds (ps := ["flags", "searched", "begin"]) fun _ _ _ _ _ _ us hl => match us, hl with | [_, _, _], _ => rfl
  have m_framed_block := PySem.W.mg_of X G a20
  have F_head_flags := fun_mk (st := s_head_flags) l21 c21 k21
  have b_head_flags := F_head_flags.binds (ps := ["flags"]) fun _ _ _ _ _ _ us hl => match us, hl with | [_], _ => rfl
  have m_head_flags := PySem.W.mg_of X G a21
  have F_head_sum := fun_mk (st := s_head_sum) l22 c22 k22
  have b_head_sum := F_head_sum.binds (ps := ["summed"]) fun _ _ _ _ _ _ us hl => match us, hl with | [_], _ => rfl
  have m_head_sum := PySem.W.mg_of X G a22
  have F_frame_head := fun_mk (st := s_frame_head) l23 c23 k23
  have b_frame_head := F_frame_head.binds (ps := ["flags", "length"]) fun _ _ _ _ _ _ us hl => match us, hl with | [_, _], _ => rfl
  have m_frame_head := PySem.W.mg_of X G a23
  have F_framed_text := fun_mk (st := s_framed_text) l24 c24 k24
  have b_framed_text := F_framed_text.binds (ps := ["flags", "text"]) fun _ _ _ _ _ _ us hl => match us, hl with | [_, _], _ => rfl
  have m_framed_text := PySem.W.mg_of X G a24
  have F_answered := fun_mk (st := sAns) l25 c25 k25
  have b_answered := F_answered.binds (ps := ["most", "found"]) fun _ _ _ _ _ _ us hl => match us, hl with | [_, _], _ => rfl
  have m_answered := PySem.W.mg_of X G a25
  have F_pack := fun_mk (st := s_pack) l26 c26 k26
  have b_pack := F_pack.binds (ps := ["flags", "most", "text"]) fun _ _ _ _ _ _ us hl => match us, hl with | [_, _, _], _ => rfl
  have m_pack := PySem.W.mg_of X G a26
  have g_MODULUS : GInt mg "MODULUS" 4294967296 := ⟨_, PySem.W.mg_of X G z_MODULUS⟩
  have g_PRIME_1 : GInt mg "PRIME_1" 2654435761 := ⟨_, PySem.W.mg_of X G z_PRIME_1⟩
  have g_PRIME_2 : GInt mg "PRIME_2" 2246822519 := ⟨_, PySem.W.mg_of X G z_PRIME_2⟩
  have g_PRIME_3 : GInt mg "PRIME_3" 3266489917 := ⟨_, PySem.W.mg_of X G z_PRIME_3⟩
  have g_PRIME_4 : GInt mg "PRIME_4" 668265263 := ⟨_, PySem.W.mg_of X G z_PRIME_4⟩
  have g_PRIME_5 : GInt mg "PRIME_5" 374761393 := ⟨_, PySem.W.mg_of X G z_PRIME_5⟩
  have g_TOO_LONG : GInt mg "TOO_LONG" (-7) := ⟨_, PySem.W.mg_of X G z_TOO_LONG⟩
  have g_WRONG_ARGUMENT : GInt mg "WRONG_ARGUMENT" (-8) := ⟨_, PySem.W.mg_of X G z_WRONG_ARGUMENT⟩
  have g_SHORTEST_MATCH : GInt mg "SHORTEST_MATCH" 4 := ⟨_, PySem.W.mg_of X G z_SHORTEST_MATCH⟩
  have g_FARTHEST_BACK : GInt mg "FARTHEST_BACK" 65535 := ⟨_, PySem.W.mg_of X G z_FARTHEST_BACK⟩
  have g_FEWEST_LEFT_FOR_A_MATCH : GInt mg "FEWEST_LEFT_FOR_A_MATCH" 12 := ⟨_, PySem.W.mg_of X G z_FEWEST_LEFT_FOR_A_MATCH⟩
  have g_LEFT_BEHIND_A_MATCH : GInt mg "LEFT_BEHIND_A_MATCH" 5 := ⟨_, PySem.W.mg_of X G z_LEFT_BEHIND_A_MATCH⟩
  have g_BLOCK_SIZE : GInt mg "BLOCK_SIZE" 65536 := ⟨_, PySem.W.mg_of X G z_BLOCK_SIZE⟩
  have g_BLOCK_SIZE_BYTE : GInt mg "BLOCK_SIZE_BYTE" 64 := ⟨_, PySem.W.mg_of X G z_BLOCK_SIZE_BYTE⟩
  have g_STANDS_FOR_ITSELF : GInt mg "STANDS_FOR_ITSELF" 2147483648 := ⟨_, PySem.W.mg_of X G z_STANDS_FOR_ITSELF⟩
  have g_ASKED_TEXT_SUM : GInt mg "ASKED_TEXT_SUM" 1 := ⟨_, PySem.W.mg_of X G z_ASKED_TEXT_SUM⟩
  have g_ASKED_BLOCK_SUMS : GInt mg "ASKED_BLOCK_SUMS" 2 := ⟨_, PySem.W.mg_of X G z_ASKED_BLOCK_SUMS⟩
  have g_ASKED_LENGTH : GInt mg "ASKED_LENGTH" 4 := ⟨_, PySem.W.mg_of X G z_ASKED_LENGTH⟩
  have g_ASKED_LINKED : GInt mg "ASKED_LINKED" 8 := ⟨_, PySem.W.mg_of X G z_ASKED_LINKED⟩
  have g_MOST_FLAGS : GInt mg "MOST_FLAGS" 15 := ⟨_, PySem.W.mg_of X G z_MOST_FLAGS⟩
  have g_HEAD_VERSION : GInt mg "HEAD_VERSION" 64 := ⟨_, PySem.W.mg_of X G z_HEAD_VERSION⟩
  have g_HEAD_ALONE : GInt mg "HEAD_ALONE" 32 := ⟨_, PySem.W.mg_of X G z_HEAD_ALONE⟩
  have g_HEAD_BLOCK_SUMS : GInt mg "HEAD_BLOCK_SUMS" 16 := ⟨_, PySem.W.mg_of X G z_HEAD_BLOCK_SUMS⟩
  have g_HEAD_LENGTH : GInt mg "HEAD_LENGTH" 8 := ⟨_, PySem.W.mg_of X G z_HEAD_LENGTH⟩
  have g_HEAD_TEXT_SUM : GInt mg "HEAD_TEXT_SUM" 4 := ⟨_, PySem.W.mg_of X G z_HEAD_TEXT_SUM⟩
  have g_FIRST_FOUR := PySem.W.mg_of X G z_FIRST_FOUR
  have g_HIGH_LETTERS : GStr mg "HIGH_LETTERS" (PySem.Str.ofString "ABCDEFGHIJKLMNOP") := ⟨_, PySem.W.mg_of X G z_HIGH_LETTERS⟩
  have g_LOW_LETTERS : GStr mg "LOW_LETTERS" (PySem.Str.ofString "abcdefghijklmnop") := ⟨_, PySem.W.mg_of X G z_LOW_LETTERS⟩
  have nb_len := PySem.W.mg_none_of X G zb_len
  have nb_range := PySem.W.mg_none_of X G zb_range
  have nb_reversed := PySem.W.mg_none_of X G zb_reversed
  have nb_min := PySem.W.mg_none_of X G zb_min
  have nb_max := PySem.W.mg_none_of X G zb_max
  have nb_list := PySem.W.mg_none_of X G zb_list
  have gs : ST.G K mg CSearchedText := ⟨clSearchedText, nSearchedText_text, nSearchedText_mirrored, nSearchedText_before, mg_SearchedText, nb_len, nb_range, nb_reversed, nb_min, nb_max, g_HIGH_LETTERS, g_LOW_LETTERS, g_SHORTEST_MATCH, g_FARTHEST_BACK, g_FEWEST_LEFT_FOR_A_MATCH, g_LEFT_BEHIND_A_MATCH⟩
  have AS := ST.Fs.mk gs F_SearchedText_mirrored_index b_SearchedText_mirrored_index m_SearchedText_mirrored_index F_SearchedText_nearest_same b_SearchedText_nearest_same m_SearchedText_nearest_same F_SearchedText_length_of_same b_SearchedText_length_of_same m_SearchedText_length_of_same F_step_beyond b_step_beyond m_step_beyond
  have gp : PK.G mg := ⟨nb_range, nb_len, nb_min, nb_max, g_SHORTEST_MATCH⟩
  have AP := PP.Fs.mk AS F_SearchedText_longest_match b_SearchedText_longest_match m_SearchedText_longest_match gp F_low_first b_low_first m_low_first F_carried_on b_carried_on m_carried_on F_part_with_match b_part_with_match m_part_with_match F_last_part b_last_part m_last_part
  have gS : S.G mg := ⟨g_MODULUS, g_PRIME_1, g_PRIME_2, g_PRIME_3, g_PRIME_4, g_PRIME_5, nb_len, nb_range⟩
  have AZ := S.Fs.mk gS F_four_bytes_at b_four_bytes_at m_four_bytes_at F_turned_left b_turned_left m_turned_left F_mixed b_mixed m_mixed F_sum_of_sixteens b_sum_of_sixteens m_sum_of_sixteens F_with_bytes_left b_with_bytes_left m_with_bytes_left F_text_sum b_text_sum m_text_sum
  have gf : FR.G K mg q_FIRST_FOUR := ⟨nb_len, nb_range, nb_min, nb_max, nb_list, g_FIRST_FOUR, (fun H => sqT_top y_FIRST_FOUR (line (by show 4 ≤ 16777216; decide)) (.cons ⟨_, rfl⟩ (.cons ⟨_, rfl⟩ (.cons ⟨_, rfl⟩ (.cons ⟨_, rfl⟩ .nil))))), g_BLOCK_SIZE, g_BLOCK_SIZE_BYTE, g_STANDS_FOR_ITSELF, g_ASKED_TEXT_SUM, g_ASKED_BLOCK_SUMS, g_ASKED_LENGTH, g_ASKED_LINKED, g_MOST_FLAGS, g_HEAD_VERSION, g_HEAD_ALONE, g_HEAD_BLOCK_SUMS, g_HEAD_LENGTH, g_HEAD_TEXT_SUM⟩
  refine ⟨PySem.W.fnOf "pack" "pack" (defArgs s_pack) (defBody s_pack) (defScope s_pack) .none kV26 dc26 pm26 an26 cd26 ct26, fun s u0 u1 u2 => .of_eq rfl, fun base _ _ => ?_⟩
  have GS := S.ok_sum (P := PySem.Challenge.pw_shorttexts_s01_pack) (w := w) (base := base) AZ
  have GH := FR.ok_hs F_head_sum GS F_text_sum.kp b_text_sum m_text_sum
  have GHd := FR.ok_head F_frame_head gf F_head_flags b_head_flags m_head_flags GH F_head_sum.kp b_head_sum m_head_sum F_low_first b_low_first m_low_first
  have GB := FR.ok_fb F_framed_block gf gs (PP.ok_packed F_packed_parts AP) F_packed_parts.kp b_packed_parts m_packed_parts GS F_text_sum.kp b_text_sum m_text_sum F_low_first b_low_first m_low_first
  have GT := FR.ok_ft F_framed_text gf gs GHd F_frame_head.kp b_frame_head m_frame_head mk_SearchedText (ST.ok_init F_SearchedText_init gs (ST.ok_mir F_mirrored_letters gs) F_mirrored_letters.kp b_mirrored_letters m_mirrored_letters (ST.ok_bef F_places_before gs (ok_four F_four_bytes_at) F_four_bytes_at.kp b_four_bytes_at m_four_bytes_at) F_places_before.kp b_places_before m_places_before) b_SearchedText_init GB F_framed_block.kp b_framed_block m_framed_block GS F_text_sum.kp b_text_sum m_text_sum F_low_first b_low_first m_low_first
  exact ok_pk F_pack ⟨g_TOO_LONG, g_WRONG_ARGUMENT, nb_len⟩ gf F_answered b_answered m_answered GT F_framed_text.kp b_framed_text m_framed_text
end Law
open PySem PySem.W PyProof.Rows
set_option maxRecDepth 100000 in
set_option maxHeartbeats 0 in
theorem PySem.Challenge.cw_shorttexts_s01_pack_holds : PySem.Challenge.rw_shorttexts_s01_pack.Holds := by
  w_on; k_headS; (case hw => exact ⟨[.int 0, .int 0, .list []], by decide +kernel, by decide +kernel⟩)
  k_fillS
  refine Law.walk (by decide +kernel) rfl (fun w h Y => PySem.W.kIn_of Y) ?F
  case F =>
    intro w mg fa h KX G hmg
    refine' Law.all_mk KX G hmg ?aCSearchedText ?a1 ?i1 ?l1 ?c1 ?k1 ?a2 ?i2 ?l2 ?c2 ?k2 ?a3 ?i3 ?l3 ?c3 ?k3 ?a4 ?i4 ?l4 ?c4 ?k4 ?a5 ?i5 ?l5 ?c5 ?k5 ?pgSearchedText ?hdSearchedText ?poSearchedText ?saSearchedText ?mkSearchedText ?kcSearchedText ?nSearchedText_before ?nSearchedText_mirrored ?nSearchedText_text ?a6 ?l6 ?c6 ?k6 ?a7 ?l7 ?c7 ?k7 ?a8 ?l8 ?c8 ?k8 ?a9 ?l9 ?c9 ?k9 ?a10 ?l10 ?c10 ?k10 ?a11 ?l11 ?c11 ?k11 ?a12 ?l12 ?c12 ?k12 ?a13 ?l13 ?c13 ?k13 ?a14 ?l14 ?c14 ?k14 ?a15 ?l15 ?c15 ?k15 ?a16 ?l16 ?c16 ?k16 ?a17 ?l17 ?c17 ?k17 ?a18 ?l18 ?c18 ?k18 ?a19 ?l19 ?c19 ?k19 ?a20 ?l20 ?c20 ?k20 ?a21 ?l21 ?c21 ?k21 ?a22 ?l22 ?c22 ?k22 ?a23 ?l23 ?c23 ?k23 ?a24 ?l24 ?c24 ?k24 ?a25 ?l25 ?c25 ?k25 ?a26 ?l26 ?c26 ?k26 ?z_MODULUS ?z_PRIME_1 ?z_PRIME_2 ?z_PRIME_3 ?z_PRIME_4 ?z_PRIME_5 ?z_TOO_LONG ?z_WRONG_ARGUMENT ?z_SHORTEST_MATCH ?z_FARTHEST_BACK ?z_FEWEST_LEFT_FOR_A_MATCH ?z_LEFT_BEHIND_A_MATCH ?z_BLOCK_SIZE ?z_BLOCK_SIZE_BYTE ?z_STANDS_FOR_ITSELF ?z_ASKED_TEXT_SUM ?z_ASKED_BLOCK_SUMS ?z_ASKED_LENGTH ?z_ASKED_LINKED ?z_MOST_FLAGS ?z_HEAD_VERSION ?z_HEAD_ALONE ?z_HEAD_BLOCK_SUMS ?z_HEAD_LENGTH ?z_HEAD_TEXT_SUM ?z_FIRST_FOUR ?y_FIRST_FOUR ?z_HIGH_LETTERS ?z_LOW_LETTERS ?zb_len ?zb_range ?zb_reversed ?zb_min ?zb_max ?zb_list
    (case aCSearchedText => k_is)
    (case a1 => k_is)
    (case i1 => k_is)
    (case l1 => k_is)
    (case c1 => k_is)
    (case k1 => k_is)
    (case a2 => k_is)
    (case i2 => k_is)
    (case l2 => k_is)
    (case c2 => k_is)
    (case k2 => k_is)
    (case a3 => k_is)
    (case i3 => k_is)
    (case l3 => k_is)
    (case c3 => k_is)
    (case k3 => k_is)
    (case a4 => k_is)
    (case i4 => k_is)
    (case l4 => k_is)
    (case c4 => k_is)
    (case k4 => k_is)
    (case a5 => k_is)
    (case i5 => k_is)
    (case l5 => k_is)
    (case c5 => k_is)
    (case k5 => k_is)
    (case pgSearchedText => k_is)
    (case hdSearchedText => k_is)
    (case poSearchedText => k_is)
    (case saSearchedText => k_is)
    (case mkSearchedText => k_is)
    (case kcSearchedText => k_is)
    (case nSearchedText_before => k_is)
    (case nSearchedText_mirrored => k_is)
    (case nSearchedText_text => k_is)
    (case a6 => k_is)
    (case l6 => k_is)
    (case c6 => k_is)
    (case k6 => k_is)
    (case a7 => k_is)
    (case l7 => k_is)
    (case c7 => k_is)
    (case k7 => k_is)
    (case a8 => k_is)
    (case l8 => k_is)
    (case c8 => k_is)
    (case k8 => k_is)
    (case a9 => k_is)
    (case l9 => k_is)
    (case c9 => k_is)
    (case k9 => k_is)
    (case a10 => k_is)
    (case l10 => k_is)
    (case c10 => k_is)
    (case k10 => k_is)
    (case a11 => k_is)
    (case l11 => k_is)
    (case c11 => k_is)
    (case k11 => k_is)
    (case a12 => k_is)
    (case l12 => k_is)
    (case c12 => k_is)
    (case k12 => k_is)
    (case a13 => k_is)
    (case l13 => k_is)
    (case c13 => k_is)
    (case k13 => k_is)
    (case a14 => k_is)
    (case l14 => k_is)
    (case c14 => k_is)
    (case k14 => k_is)
    (case a15 => k_is)
    (case l15 => k_is)
    (case c15 => k_is)
    (case k15 => k_is)
    (case a16 => k_is)
    (case l16 => k_is)
    (case c16 => k_is)
    (case k16 => k_is)
    (case a17 => k_is)
    (case l17 => k_is)
    (case c17 => k_is)
    (case k17 => k_is)
    (case a18 => k_is)
    (case l18 => k_is)
    (case c18 => k_is)
    (case k18 => k_is)
    (case a19 => k_is)
    (case l19 => k_is)
    (case c19 => k_is)
    (case k19 => k_is)
    (case a20 => k_is)
    (case l20 => k_is)
    (case c20 => k_is)
    (case k20 => k_is)
    (case a21 => k_is)
    (case l21 => k_is)
    (case c21 => k_is)
    (case k21 => k_is)
    (case a22 => k_is)
    (case l22 => k_is)
    (case c22 => k_is)
    (case k22 => k_is)
    (case a23 => k_is)
    (case l23 => k_is)
    (case c23 => k_is)
    (case k23 => k_is)
    (case a24 => k_is)
    (case l24 => k_is)
    (case c24 => k_is)
    (case k24 => k_is)
    (case a25 => k_is)
    (case l25 => k_is)
    (case c25 => k_is)
    (case k25 => k_is)
    (case a26 => k_is)
    (case l26 => k_is)
    (case c26 => k_is)
    (case k26 => k_is)
    (case z_MODULUS => k_is)
    (case z_PRIME_1 => k_is)
    (case z_PRIME_2 => k_is)
    (case z_PRIME_3 => k_is)
    (case z_PRIME_4 => k_is)
    (case z_PRIME_5 => k_is)
    (case z_TOO_LONG => k_is)
    (case z_WRONG_ARGUMENT => k_is)
    (case z_SHORTEST_MATCH => k_is)
    (case z_FARTHEST_BACK => k_is)
    (case z_FEWEST_LEFT_FOR_A_MATCH => k_is)
    (case z_LEFT_BEHIND_A_MATCH => k_is)
    (case z_BLOCK_SIZE => k_is)
    (case z_BLOCK_SIZE_BYTE => k_is)
    (case z_STANDS_FOR_ITSELF => k_is)
    (case z_ASKED_TEXT_SUM => k_is)
    (case z_ASKED_BLOCK_SUMS => k_is)
    (case z_ASKED_LENGTH => k_is)
    (case z_ASKED_LINKED => k_is)
    (case z_MOST_FLAGS => k_is)
    (case z_HEAD_VERSION => k_is)
    (case z_HEAD_ALONE => k_is)
    (case z_HEAD_BLOCK_SUMS => k_is)
    (case z_HEAD_LENGTH => k_is)
    (case z_HEAD_TEXT_SUM => k_is)
    (case z_FIRST_FOUR => k_is)
    (case y_FIRST_FOUR => k_is)
    (case z_HIGH_LETTERS => k_is)
    (case z_LOW_LETTERS => k_is)
    (case zb_len => k_is)
    (case zb_range => k_is)
    (case zb_reversed => k_is)
    (case zb_min => k_is)
    (case zb_max => k_is)
    (case zb_list => k_is)
#print axioms PySem.Challenge.cw_shorttexts_s01_pack_holds
