import PyProof.Rows.All
import Wide.All
import OpenK.AllK
import Wide.FinOn
import PyProof.EqAt
import PyProof.EqKinds
import PyProof.TupleCall
import KE.BitLaws
import Open.SpecLaws
import KE.OsHead
import KE.OsGo
import PyFlatLaws
import PySem.Challenge.RW_rankbouts_s01_answers
set_option Elab.async false
set_option linter.all false
set_option maxRecDepth 100000
/-! THE HAND LAYER, for ints, bools, texts, own classes, lists, tuples, dicts, comprehensions, walks over dicts, enumerate, zip, reversed, texts, calls, loops. Paste it whole ahead of your own text; what your proof does not reach may be deleted. -/
namespace L2
open PySem PySem.Spec PyProof.Rows

/-- a key: an int or a str -/
abbrev Key := Sum Int Str
def keyIs : Key → Value → Bool
  | .inl k, v => Value.isInt k v
  | .inr x, v => Value.isStrOf x v
def keyH (w : World) : Key → Int
  | .inl k => hashInt k
  | .inr x => hashStr w x
theorem keyIs_shape : ∀ {k : Key} {v : Value}, keyIs k v = true → (∃ i t, k = Sum.inl i ∧ v = Value.int i t) ∨ (∃ x t, k = Sum.inr x ∧ v = Value.str x t)
  | .inl i, v, h => by
    obtain ⟨t, e⟩ := Value.isInt_shape (k := i) (v := v) h
    exact .inl ⟨i, t, rfl, e⟩
  | .inr x, v, h => by
    obtain ⟨t, e⟩ := Value.isStrOf_shape (x := x) (v := v) h
    exact .inr ⟨x, t, rfl, e⟩
theorem keyIs_int (i : Int) (t : Tok) : keyIs (.inl i) (.int i t) = true := by simp [keyIs, Value.isInt]
theorem keyIs_str (x : Str) (t : Tok) : keyIs (.inr x) (.str x t) = true := by simp [keyIs, Value.isStrOf]
theorem key_ll (a b : Int) : decide ((Sum.inl a : Key) = Sum.inl b) = (a == b) := by
  by_cases e : a = b
  · subst e; simp
  · have h : ¬ (Sum.inl a : Key) = Sum.inl b := fun q => e (Sum.inl.inj q)
    rw [decide_eq_false h]
    exact (beq_eq_false_iff_ne.mpr e).symm
theorem key_rr (a b : Str) : decide ((Sum.inr a : Key) = Sum.inr b) = decide (a = b) := by
  by_cases e : a = b
  · subst e; simp
  · have h : ¬ (Sum.inr a : Key) = Sum.inr b := fun q => e (Sum.inr.inj q)
    rw [decide_eq_false h, decide_eq_false e]
theorem key_lr (a : Int) (b : Str) : decide ((Sum.inl a : Key) = Sum.inr b) = false := decide_eq_false (fun q => nomatch q)
theorem key_rl (a : Str) (b : Int) : decide ((Sum.inr a : Key) = Sum.inl b) = false := decide_eq_false (fun q => nomatch q)

def mixKind (prog : Program) (w : World) : PySem.KeyKind prog w Key where
  is := keyIs
  hash := keyH w
  inj := fun v a b ha hb => by
    rcases keyIs_shape ha with ⟨i, t, rfl, rfl⟩ | ⟨x, t, rfl, rfl⟩
    · rcases keyIs_shape hb with ⟨j, u, rfl, e⟩ | ⟨y, u, rfl, e⟩
      · injection e with e1 _; rw [e1]
      · exact nomatch e
    · rcases keyIs_shape hb with ⟨j, u, rfl, e⟩ | ⟨y, u, rfl, e⟩
      · exact nomatch e
      · injection e with e1 _; rw [e1]
  byValue := fun k v h => by
    rcases keyIs_shape h with ⟨i, t, rfl, rfl⟩ | ⟨x, t, rfl, rfl⟩ <;> rfl
  pyHash := fun hv h => by
    rcases keyIs_shape hv with ⟨i, t, rfl, rfl⟩ | ⟨x, t, rfl, rfl⟩
    · exact wpAny_pyHash_int h
    · exact wpAny_pyHash_str h
  eqBool := fun hu hv h => by
    rcases keyIs_shape hu with ⟨i, t, rfl, rfl⟩ | ⟨x, t, rfl, rfl⟩
    · rcases keyIs_shape hv with ⟨j, u, rfl, rfl⟩ | ⟨y, u, rfl, rfl⟩
      · rw [key_ll] at h; exact wpAny_eqBool_int h
      · rw [key_lr] at h; exact SeqAt.EqAt.int_str i t y u _ _ _ _ h
    · rcases keyIs_shape hv with ⟨j, u, rfl, rfl⟩ | ⟨y, u, rfl, rfl⟩
      · rw [key_rl] at h; exact SeqAt.EqAt.str_int x t j u _ _ _ _ h
      · rw [key_rr] at h; exact wpAny_eqBool_str h
  «strs» := fun k x t v h => by
    rcases keyIs_shape h with ⟨i, u, rfl, e⟩ | ⟨y, u, rfl, e⟩
    · exact nomatch e
    · injection e with e1 _
      subst e1
      cases v <;> rfl

theorem mixKind_int (prog : Program) (w : World) (i : Int) (t : Tok) : (mixKind prog w).is (.inl i) (.int i t) = true := keyIs_int i t
theorem mixKind_str (prog : Program) (w : World) (x : Str) (t : Tok) : (mixKind prog w).is (.inr x) (.str x t) = true := keyIs_str x t
end L2

namespace L2
open PySem PySem.Spec PyProof.Rows

/-- a value, without the heap -/
inductive V where
  | non | bl (b : Bool) | int (i : Int) | str (x : Str) | byt (b : Array UInt8) | flt (b : UInt64) | ref (a : Addr) | ty (n : String)
  deriving DecidableEq

def RelV : V → Value → Prop
  | .non, u => u = Value.none
  | .bl b, u => u = Value.bool b
  | .int i, u => ∃ t, u = Value.int i t
  | .str x, u => ∃ t, u = Value.str x t
  | .byt b, u => ∃ t, u = Value.bytes b t
  | .flt b, u => ∃ t, u = Value.float b t
  | .ref a, u => u = Value.ref a
  | .ty n, u => u = Value.type n

abbrev Vals : List V → List Value → Prop := Paired RelV
theorem Vals.length {xs : List V} {us : List Value} (r : Vals xs us) : xs.length = us.length := Paired.length r
theorem Vals.get : ∀ {xs : List V} {us : List Value} {i : Nat} {x : V}, Vals xs us → xs[i]? = some x → ∃ u, us[i]? = some u ∧ RelV x u
  | _, _, _, _, .nil, e => by simp at e
  | _, _, 0, _, .cons r _, e => by simp at e; subst e; exact ⟨_, rfl, r⟩
  | _, _, i + 1, x, .cons _ t, e => by
    obtain ⟨u, h1, h2⟩ := Vals.get (i := i) (x := x) t (by simpa using e)
    exact ⟨u, by simpa using h1, h2⟩
theorem Vals.set {x : V} {u : Value} (r : RelV x u) : ∀ {xs : List V} {us : List Value} (i : Nat), Vals xs us → Vals (xs.set i x) (us.set i u)
  | _, _, _, .nil => .nil
  | _, _, 0, .cons _ t => .cons r t
  | _, _, i + 1, .cons q t => .cons q (Vals.set r i t)
theorem Vals.append : ∀ {xs ys : List V} {us ws : List Value}, Vals xs us → Vals ys ws → Vals (xs ++ ys) (us ++ ws)
  | _, _, _, _, .nil, s => s
  | _, _, _, _, .cons r t, s => .cons r (Vals.append t s)
theorem Vals.take : ∀ {xs : List V} {us : List Value} (n : Nat), Vals xs us → Vals (xs.take n) (us.take n)
  | _, _, 0, _ => .nil
  | _, _, _ + 1, .nil => .nil
  | _, _, n + 1, .cons r t => .cons r (Vals.take n t)
theorem Vals.drop : ∀ {xs : List V} {us : List Value} (n : Nat), Vals xs us → Vals (xs.drop n) (us.drop n)
  | _, _, 0, r => r
  | _, _, _ + 1, .nil => .nil
  | _, _, n + 1, .cons _ t => Vals.drop n t
theorem Vals.none_of : ∀ {xs : List V} {us : List Value} {i : Nat}, Vals xs us → xs[i]? = none → us[i]? = none := fun {xs us i} r e => by
  have h1 := r.length
  have h2 : xs.length ≤ i := List.getElem?_eq_none_iff.mp e
  exact List.getElem?_eq_none_iff.mpr (by omega)

def RelO : Option V → Option Value → Prop
  | some v, some u => RelV v u
  | none, none => True
  | _, _ => False
def KV {κ : Type} : List (κ × V) → List (κ × Value) → Prop := Paired fun (p : κ × V) (q : κ × Value) => p.1 = q.1 ∧ RelV p.2 q.2

/-- a key of a dict (00_mix): an int or a text -/
def kV : Key → V
  | .inl i => .int i
  | .inr x => .str x

/-- what stands at a tracked address -/
inductive HO where
  /-- a list -/
  | lst (xs : List V)
  /-- a tuple (never changes) -/
  | tup (xs : List V)
  /-- a dict whose keys are ints and texts; one whose keys are tuples of ints and texts (the empty one is both) -/
  | dK (kvs : List (Key × V)) | dT (kvs : List (List Key × V))
  /-- a set of ints: its members, its size -/
  | set (S : Int → Bool) (n : Nat)
  /-- an instance of the class at C, its dict at dx, its attributes -/
  | ins (C dx : Addr) (fs : List (Str × V))
  /-- the dict of the instance at x -/
  | own (x : Addr)
  /-- the dict of an exception -/
  | xd (fs : List (Str × V))
  /-- a bound method, f of x -/
  | met (f x : Addr)
  /-- a range object lo, lo + 1, .. below hi -/
  | rng (lo hi : Int)
  /-- a thing that is known to the object (the script; a dict while a loop walks it): read, never written while it is so -/
  | frz (o : Obj) (u : HO)
  /-- a code object's table -/
  | tbl (ps : Array Value)
  /-- any other thing, by what is true of its one object (a def of one's own: SetO a S n := HO.ext fun h => ..) -/
  | ext (φ : Heap → Prop)

abbrev Hp := Addr → Option HO
def upd (H : Hp) (a : Addr) (o : HO) : Hp := fun b => if b = a then some o else H b
theorem upd_same {H : Hp} {a : Addr} {o : HO} : upd H a o a = some o := by unfold upd; rw [if_pos rfl]
theorem upd_ne {H : Hp} {a b : Addr} {o : HO} (h : b ≠ a) : upd H a o b = H b := by unfold upd; rw [if_neg h]
/-- two objects of different content stand apart -/
theorem ne_of {H : Hp} {a b : Addr} {o u : HO} (h : H a = some o) (h' : H b = some u) (d : o ≠ u) : a ≠ b := by
  intro e; subst e; rw [h] at h'; exact d (Option.some.inj h')
theorem ne_of_none {H : Hp} {a b : Addr} {o : HO} (h : H a = some o) (h' : H b = none) : a ≠ b := by
  intro e; subst e; rw [h] at h'; cases h'

section
variable (P : Program) (w : World)
def ObjOk (H : Hp) (h : Heap) (a : Addr) : HO → Prop
  | .lst xs => xs.length ≤ sizeLine ∧ ∃ (its : List Value) (n : Nat), Vals xs its ∧ h.get? a = some { cls := .type "list", data := .seq its.toArray n }
  | .tup xs => xs.length ≤ sizeLine ∧ ∃ its : List Value, Vals xs its ∧ IsTup h a its.toArray
  | .dK kvs => kvs.length ≤ sizeLine ∧ (a == sysModules) = false ∧ ∃ vs, KV kvs vs ∧ h.DictOf (mixKind P w) a vs
  | .dT kvs => kvs.length ≤ sizeLine ∧ (a == sysModules) = false ∧ ∃ xs : List (List Key × Addr × Value),
      Paired (fun (p : List Key × V) (q : List Key × Addr × Value) => p.1 = q.1 ∧ H q.2.1 = some (.tup (p.1.map kV)) ∧ RelV p.2 q.2.2) kvs xs ∧
      ∃ o es ep, h.get? a = some o ∧ o.ExactDict ∧ o.data = .dict es ep ∧ es.toList = xs.map (entryOfKey (tupleKind (mixKind P w))) ∧ (xs.map (·.1)).Nodup
  | .set S n => h.SetOf (intKind P w) a S n
  | .ins C dx fs => H dx = some (.own a) ∧ fs.length ≤ 1000 ∧ dx ≠ a ∧ h.get? a = some (PySem.W.instObj C dx) ∧
      ∃ mA, h.Ns1 dx mA ∧ (∀ f, RelO (fs.lookup f) (mA f)) ∧ PySem.Within mA (fs.map (·.1))
  | .own _ => ∃ o, h.get? a = some o
  | .xd fs => ∃ mA, h.Ns1 a mA ∧ ∀ f, RelO (fs.lookup f) (mA f)
  | .rng lo hi => ∃ t u v, h.get? a = some { cls := .type "range", data := .fields #[.int lo t, .int hi u, .int 1 v] }
  | .frz o u => h.get? a = some o ∧ ObjOk H h a u
  | .tbl ps => h.get? a = some { cls := .none, data := .fields ps }
  | .met f x => h.get? a = some (PySem.W.methodObj (.ref f) (.ref x))
  | .ext φ => φ h ∧ (∃ o, h.get? a = some o) ∧ ∀ h1 h2 : Heap, φ h1 → (∀ o, h1.get? a = some o → h2.get? a = some o) → φ h2
/-- the abstract heap is held -/
def HOk (H : Hp) (h : Heap) : Prop := ∀ a o, H a = some o → ObjOk P w H h a o
end

section
variable {P : Program} {w : World} {H H' : Hp} {h h' : Heap} {a : Addr} {o : HO}
theorem ObjOk.lt (x : ObjOk P w H h a o) : a < h.objs.size := by
  cases o with
  | lst xs => obtain ⟨_, _, _, _, e⟩ := x; exact Heap.lt_size e
  | tup xs => obtain ⟨_, _, _, p⟩ := x; exact p.lt
  | dK kvs => obtain ⟨_, _, _, _, o, _, _, e, _⟩ := x; exact Heap.lt_size e
  | dT kvs => obtain ⟨_, _, _, _, o, _, _, e, _⟩ := x; exact Heap.lt_size e
  | set S n => obtain ⟨o, _, _, _, e, _⟩ := x; exact Heap.lt_size e
  | ins C dx fs => obtain ⟨_, _, _, e, _⟩ := x; exact Heap.lt_size e
  | own y => obtain ⟨_, e⟩ := x; exact Heap.lt_size e
  | xd fs => obtain ⟨_, ⟨_, _, _, e, _⟩, _⟩ := x; exact Heap.lt_size e
  | rng lo hi => obtain ⟨_, _, _, e⟩ := x; exact Heap.lt_size e
  | frz ob u => obtain ⟨e, _⟩ := x; exact Heap.lt_size e
  | tbl ps => exact Heap.lt_size (show h.get? a = some _ from x)
  | met f y => exact Heap.lt_size (show h.get? a = some _ from x)
  | ext φ => obtain ⟨_, ⟨_, e⟩, _⟩ := x; exact Heap.lt_size e
theorem Paired.mapP {α β : Type} {F G : α → β → Prop} : ∀ {l₁ : List α} {l₂ : List β}, Paired F l₁ l₂ → (∀ a b, F a b → G a b) → Paired G l₁ l₂
  | _, _, .nil, _ => .nil
  | _, _, .cons r t, f => .cons (f _ _ r) (Paired.mapP t f)
/-- what an object's description leans on: its own object, its own dict, the tuples -/
theorem ObjOk.stay (x : ObjOk P w H h a o) (k : ∀ b u, (b = a ∨ H b = some (.own a)) → h.get? b = some u → h'.get? b = some u)
    (ho : ∀ b, H b = some (.own a) → H' b = some (.own a)) (ht : ∀ b xs, H b = some (.tup xs) → H' b = some (.tup xs)) : ObjOk P w H' h' a o := by
  induction o with
  | lst xs => obtain ⟨z, its, n, r, e⟩ := x; exact ⟨z, its, n, r, k _ _ (.inl rfl) e⟩
  | tup xs => obtain ⟨z, its, r, ob, e, c⟩ := x; exact ⟨z, its, r, ob, k _ _ (.inl rfl) e, c⟩
  | dK kvs => obtain ⟨z, y, vs, r, ob, es, ep, e, c⟩ := x; exact ⟨z, y, vs, r, ob, es, ep, k _ _ (.inl rfl) e, c⟩
  | dT kvs =>
    obtain ⟨z, y, xs, r, ob, es, ep, e, c⟩ := x
    exact ⟨z, y, xs, Paired.mapP r fun p q z => ⟨z.1, ht _ _ z.2.1, z.2.2⟩, ob, es, ep, k _ _ (.inl rfl) e, c⟩
  | set S n => obtain ⟨ob, es, ep, t, e, c⟩ := x; exact ⟨ob, es, ep, t, k _ _ (.inl rfl) e, c⟩
  | ins C dx fs =>
    obtain ⟨d, z, ne, e, mA, ⟨od, es, ep, e2, c⟩, r⟩ := x
    exact ⟨ho _ d, z, ne, k _ _ (.inl rfl) e, mA, ⟨od, es, ep, k _ _ (.inr d) e2, c⟩, r⟩
  | own y => obtain ⟨ob, e⟩ := x; exact ⟨ob, k _ _ (.inl rfl) e⟩
  | xd fs => obtain ⟨mA, ⟨od, es, ep, e, c⟩, r⟩ := x; exact ⟨mA, ⟨od, es, ep, k _ _ (.inl rfl) e, c⟩, r⟩
  | rng lo hi => obtain ⟨t, u, v, e⟩ := x; exact ⟨t, u, v, k _ _ (.inl rfl) e⟩
  | frz ob u ih => obtain ⟨e, q⟩ := x; exact ⟨k _ _ (.inl rfl) e, ih q⟩
  | tbl ps =>
    have e : h.get? a = some { cls := .none, data := .fields ps } := x
    show h'.get? a = some { cls := .none, data := .fields ps }
    exact k a _ (.inl rfl) e
  | met f y =>
    have e : h.get? a = some (PySem.W.methodObj (.ref f) (.ref y)) := x
    show h'.get? a = some (PySem.W.methodObj (.ref f) (.ref y))
    exact k a _ (.inl rfl) e
  | ext φ => obtain ⟨p, ⟨o, e⟩, st⟩ := x; exact ⟨st _ _ p fun o q => k _ _ (.inl rfl) q, ⟨o, k _ _ (.inl rfl) e⟩, st⟩
theorem HOk.lt (x : HOk P w H h) (e : H a = some o) : a < h.objs.size := (x a o e).lt
theorem HOk.fresh (x : HOk P w H h) (e : h.objs.size ≤ a) : H a = none := by
  cases q : H a with
  | none => rfl
  | some u => exact absurd (Nat.lt_of_lt_of_le (x.lt q) e) (Nat.lt_irrefl _)
/-- every object of the heap is kept -/
theorem HOk.kept (x : HOk P w H h) (k : ∀ b u, h.get? b = some u → h'.get? b = some u) : HOk P w H h' := fun a o e =>
  (x a o e).stay (fun b u _ q => k b u q) (fun _ q => q) fun _ _ q => q
/-- a new object is laid and tracked -/
theorem HOk.laid (x : HOk P w H h) (k : ∀ b u, h.get? b = some u → h'.get? b = some u) (hp : h.objs.size ≤ a) (new : ObjOk P w (upd H a o) h' a o) : HOk P w (upd H a o) h' := fun b u e => by
  have hn := x.fresh hp
  by_cases hb : b = a
  · subst hb; rw [upd_same] at e; cases e; exact new
  · rw [upd_ne hb] at e
    exact (x b u e).stay (fun c v _ q => k c v q) (fun c q => by rw [upd_ne (ne_of_none q hn)]; exact q) fun c xs q => by rw [upd_ne (ne_of_none q hn)]; exact q
end

/-- what may be read as u: it is u, or a known u -/
def Rd (H : Hp) (a : Addr) (u : HO) : Prop := H a = some u ∨ ∃ o, H a = some (.frz o u)
theorem Rd.of {H : Hp} {a : Addr} {u : HO} (h : H a = some u) : Rd H a u := .inl h
theorem Rd.ok {P : Program} {w : World} {H : Hp} {h : Heap} {a : Addr} {u : HO} (r : Rd H a u) (x : HOk P w H h) : ObjOk P w H h a u := by
  rcases r with r | ⟨o, r⟩
  · exact x a u r
  · obtain ⟨_, q⟩ := x a _ r
    exact q
/-- what may be written -/
def Mut : Option HO → Prop
  | some (.lst _) => True
  | some (.dK _) => True
  | some (.dT _) => True
  | some (.set _ _) => True
  | some (.ins _ _ _) => True
  | some (.ext _) => True
  | _ => False
section
variable {P : Program} {w : World} {H : Hp} {h h' : Heap} {x e : Addr} {o' : HO}
/-- the object at e is changed: x itself, or the dict of the instance x -/
theorem HOk.write (ok : HOk P w H h) (mu : Mut (H x)) (he : e = x ∨ H e = some (.own x)) (k : ∀ b u, b ≠ e → h.get? b = some u → h'.get? b = some u) (heo : ∃ u, h'.get? e = some u)
    (new : ObjOk P w (upd H x o') h' x o') : HOk P w (upd H x o') h' := fun b u q => by
  have nown : ∀ c y, H c = some (.own y) → c ≠ x := fun c y r z => by subst z; rw [r] at mu; exact mu
  have ntup : ∀ c xs, H c = some (.tup xs) → c ≠ x := fun c xs r z => by subst z; rw [r] at mu; exact mu
  by_cases hb : b = x
  · subst hb; rw [upd_same] at q; cases q; exact new
  · rw [upd_ne hb] at q
    by_cases hbe : b = e
    · have q' : H b = some (.own x) := by
        rcases he with z | z
        · exact absurd (hbe.trans z) hb
        · rw [hbe]; exact z
      rw [q] at q'; cases q'
      obtain ⟨v, hv⟩ := heo
      exact ⟨v, by rw [hbe]; exact hv⟩
    · refine (ok b u q).stay (fun c v hc r => k c v ?_ r) (fun c r => by rw [upd_ne (nown c b r)]; exact r) fun c xs r => by rw [upd_ne (ntup c xs r)]; exact r
      rcases hc with rfl | hc
      · exact hbe
      · rintro rfl
        rcases he with z | z
        · exact nown c b hc z
        · rw [hc] at z; cases z; exact hb rfl
end

/-! ### kept unless tracked; of the frames at fs (the callers') the slots may change (an exception that passes writes there); of the records at ex (iterators) nothing is said -/
structure Un (fs ex : List Addr) (H H' : Hp) (h h' : Heap) : Prop where
  keep : ∀ b o, h.get? b = some o → H b = none → b ∉ fs → b ∉ ex → h'.get? b = some o
  slot : ∀ b o, h.get? b = some o → H b = none → b ∈ fs → b ∉ ex → ∃ sl, h'.get? b = some { o with slots := sl }
  free : ∀ b o, h.get? b = some o → H b = none → b ∉ ex → H' b = none
  there : ∀ b o, h.get? b = some o → b ∉ ex → ∃ o', h'.get? b = some o'
  tups : ∀ b xs, H b = some (.tup xs) → H' b = some (.tup xs)
  frzs : ∀ b o u, H b = some (.frz o u) → H' b = some (.frz o u)
  tbls : ∀ b ps, H b = some (.tbl ps) → ∃ more, H' b = some (.tbl (ps ++ more))
section
variable {fs fs' ex ex' : List Addr} {H H1 H2 : Hp} {h h1 h2 h' : Heap} {a x e : Addr} {o : HO}
theorem Un.any (u : Un fs ex H H1 h h1) {b : Addr} {ob : Obj} (q : h.get? b = some ob) (n : H b = none) (hx : b ∉ ex) : ∃ sl, h1.get? b = some { ob with slots := sl } := by
  by_cases hb : b ∈ fs
  · exact u.slot b ob q n hb hx
  · exact ⟨ob.slots, u.keep b ob q n hb hx⟩
theorem Un.trans (a : Un fs ex H H1 h h1) (b : Un fs ex H1 H2 h1 h2) : Un fs ex H H2 h h2 where
  keep := fun c ob q n hc hx => b.keep c ob (a.keep c ob q n hc hx) (a.free c ob q n hx) hc hx
  slot := fun c ob q n hc hx => by
    obtain ⟨sl, e1⟩ := a.slot c ob q n hc hx
    obtain ⟨sl', e2⟩ := b.slot c _ e1 (a.free c ob q n hx) hc hx
    exact ⟨sl', e2⟩
  free := fun c ob q n hx => by
    obtain ⟨o', e1⟩ := a.there c ob q hx
    exact b.free c o' e1 (a.free c ob q n hx) hx
  there := fun c ob q hx => by
    obtain ⟨o', e1⟩ := a.there c ob q hx
    exact b.there c o' e1 hx
  tups := fun c xs q => b.tups c xs (a.tups c xs q)
  frzs := fun c ob xs q => b.frzs c ob xs (a.frzs c ob xs q)
  tbls := fun c ps q => by
    obtain ⟨m1, e1⟩ := a.tbls c ps q
    obtain ⟨m2, e2⟩ := b.tbls c _ e1
    exact ⟨m1 ++ m2, by rw [e2, Array.append_assoc]⟩
theorem Un.kept (k : ∀ b u, h.get? b = some u → h'.get? b = some u) : Un fs ex H H h h' :=
  ⟨fun b ob q _ _ _ => k b ob q, fun b ob q _ _ _ => ⟨ob.slots, k b ob q⟩, fun _ _ _ n _ => n, fun b ob q _ => ⟨ob, k b ob q⟩, fun _ _ q => q, fun _ _ _ q => q, fun _ ps q => ⟨#[], by rw [q]; simp⟩⟩
theorem Un.refl : Un fs ex H H h h := Un.kept fun _ _ q => q
theorem Un.laid (k : ∀ b u, h.get? b = some u → h'.get? b = some u) (hp : h.objs.size ≤ a) (hn : H a = none) : Un fs ex H (upd H a o) h h' where
  keep := fun b u q _ _ _ => k b u q
  slot := fun b u q _ _ _ => ⟨u.slots, k b u q⟩
  free := fun b u q n _ => by rw [upd_ne (Nat.ne_of_lt (Nat.lt_of_lt_of_le (Heap.lt_size q) hp))]; exact n
  there := fun b u q _ => ⟨u, k b u q⟩
  tups := fun b xs q => by rw [upd_ne (ne_of_none q hn)]; exact q
  frzs := fun b u xs q => by rw [upd_ne (ne_of_none q hn)]; exact q
  tbls := fun b ps q => ⟨#[], by rw [upd_ne (ne_of_none q hn), q]; simp⟩
theorem Un.write (mu : Mut (H x)) (he : e = x ∨ H e = some (.own x)) (k : ∀ b u, b ≠ e → h.get? b = some u → h'.get? b = some u) (heo : ∃ u, h'.get? e = some u) : Un fs ex H (upd H x o) h h' := by
  have hx : ∀ b, H b = none → b ≠ x := fun b n z => by subst z; rw [n] at mu; exact mu
  have hb : ∀ b, H b = none → b ≠ e := fun b n z => by
    subst z
    rcases he with r | r
    · exact hx b n r
    · rw [n] at r; cases r
  have hm : ∀ b u, H b = some u → ¬ Mut (some u) → b ≠ x := fun b u q nm z => by subst z; rw [q] at mu; exact nm mu
  refine ⟨fun b u q n _ _ => k b u (hb b n) q, fun b u q n _ _ => ⟨u.slots, k b u (hb b n) q⟩, fun b u q n _ => by rw [upd_ne (hx b n)]; exact n, fun b u q _ => ?_,
    fun b xs q => by rw [upd_ne (hm b _ q fun z => z)]; exact q, fun b u xs q => by rw [upd_ne (hm b _ q fun z => z)]; exact q, fun b ps q => ⟨#[], by rw [upd_ne (hm b _ q fun z => z), q]; simp⟩⟩
  by_cases hbe : b = e
  · subst hbe; exact heo
  · exact ⟨u, k b u hbe q⟩
theorem Un.mono (u : Un fs ex H H1 h h1) (hs : ∀ b ∈ fs, b ∈ fs') (hx : ∀ b ∈ ex, b ∈ ex') : Un fs' ex' H H1 h h1 :=
  ⟨fun b ob q n hb he => u.keep b ob q n (fun z => hb (hs b z)) fun z => he (hx b z), fun _ _ q n _ he => u.any q n fun z => he (hx _ z), fun b ob q n he => u.free b ob q n fun z => he (hx b z), fun b ob q he => u.there b ob q fun z => he (hx b z), u.tups, u.frzs, u.tbls⟩
end

/-! ### the heap without what is tracked -/
def trk (h : Heap) (H : Hp) : List Addr := (List.range h.objs.size).filter fun a => (H a).isSome
def hidT (h : Heap) (H : Hp) : Heap := PySem.W.hideAll h (trk h H)
theorem hidT_size (h : Heap) (H : Hp) : (hidT h H).objs.size = h.objs.size := PySem.W.hideAll_size _ _
theorem hidT_get {h : Heap} {H : Hp} {b : Addr} {o : Obj} (e : h.get? b = some o) (n : H b = none) : (hidT h H).get? b = some o :=
  PySem.W.hideAll_get _ e fun hm => by
    have q : (H b).isSome = true := (List.mem_filter.mp hm).2
    rw [n] at q; simp at q
theorem of_hidT {h : Heap} {H : Hp} {b : Addr} {o : Obj} (e : (hidT h H).get? b = some o) : h.get? b = some o ∧ H b = none := by
  have e' : h.get? b = some o := PySem.W.of_hideAll (trk h H) e
  refine ⟨e', ?_⟩
  cases q : H b with
  | none => rfl
  | some x =>
    have hm : b ∈ trk h H := List.mem_filter.mpr ⟨List.mem_range.mpr (Heap.lt_size e'), by simp [q]⟩
    have z : (hidT h H).get? b = none := PySem.W.hideAll_none (trk h H) hm
    rw [z] at e; cases e

/-! ### OpenK's ledger, filled with every new object but one -/
def allNews (g h : Heap) (L : Addr) : List (Addr × Obj) := (List.range h.objs.size).filterMap fun a => if a = L ∨ (g.get? a).isSome = true then none else (h.get? a).map fun o => (a, o)
def rest (g h : Heap) (L d : Addr) : List (Addr × Obj) := (allNews g h L).filter fun p => decide (p.1 ≠ d)
end L2

namespace L2
open PySem PySem.Spec PyProof.Rows

/-- the module's facts, over the base: the heap at the law's entry without what is tracked there -/
structure Mod (K : PySem.W.Frag) (mg : Str → Option Value) (base : Heap) : Prop where
  kin : K.In base
  glob : base.Ns mainGlobals mg
  blt : ∃ mb, base.Ns builtinsNs mb ∧ ∀ x : Str, x ≠ "__name__" → mb x = bootBuiltins x
  nolimit : base.NoLimit

/-- the context: a def's body (or a comprehension's block) running. base: fixed through the whole law; s₀, H₀: the entry; outer: the frames whose slots others may change (a def's callers); stack: all frames that run;
   ex: iterators that were made ahead of the entry and are walked here (a comprehension's); fn: the names whose cells were made at the entry (a def: all; a comprehension's block: its own); calm: not within an except suite; pn: pins that every state bears; xe: what is wanted of an exception that leaves the code -/
structure Cx where
  prog : Program
  w : World
  K : PySem.W.Frag
  mg : Str → Option Value
  base : Heap
  A : Around
  N : List Str
  s_0 : Shared
  H_0 : Hp
  env : Env
  outer : List Env
  stack : List Env
  ex : List Addr
  fn : Str → Bool
  calm : Bool
  pn : List (Addr × Obj)
  xe : Value → Shared → Prop
/-- the callers' frames -/
def frs (l : List Env) : List Addr := l.filterMap (·.frame)
abbrev Cx.fs (X : Cx) : List Addr := frs X.outer

def Vis (sc : Scope) (x : Str) : Prop := sc.names.lookup x = some .local ∨ sc.names.lookup x = some .cell ∨ sc.names.lookup x = some .free
def Loc (sc : Scope) (x : Str) : Prop := sc.names.lookup x = some .local ∨ sc.names.lookup x = some .cell
def Look (env : Env) (h : Heap) (m : Str → Option Value) (x : Str) (u : Value) : Prop :=
  (env.kindOf x = some .local ∧ m x = some u) ∨ ((env.kindOf x = some .cell ∨ env.kindOf x = some .free) ∧ ∃ c, env.cells.lookup x = some c ∧ h.IsCell c (some u))

structure Cx.Ok (X : Cx) : Prop where
  mod : Mod X.K X.mg X.base
  kind : X.env.scope.kind = .function
  glob : X.env.globals = mainGlobals
  blt : X.env.builtins = builtinsNs
  above : X.s_0.heap.objs.size ≤ X.env.locals
  inj : ∀ x y c, X.env.cells.lookup x = some c → X.env.cells.lookup y = some c → x = y
  has : ∀ x, (X.env.kindOf x = some .cell ∨ X.env.kindOf x = some .free) → ∃ c, X.env.cells.lookup x = some c
  cab : ∀ x c, X.fn x = true → X.env.cells.lookup x = some c → X.s_0.heap.objs.size ≤ c
  hd : X.calm = true → X.A.handled = none
  frames : X.A.frames = some X.stack
  stk : X.stack = X.outer ∨ (X.stack = X.env :: X.outer ∧ X.env.frame = some X.env.locals)
  exf : ∀ b ∈ X.ex, b ≠ X.env.locals ∧ ∀ x c, X.env.cells.lookup x = some c → c ≠ b
  bs : ∀ b o, X.base.get? b = some o → X.s_0.heap.get? b = some o ∧ X.H_0 b = none
  bsz : X.base.objs.size ≤ X.s_0.heap.objs.size
  noex : ∀ b o, X.base.get? b = some o → b ∉ X.ex
  exfs : ∀ b ∈ X.ex, b ∉ X.fs
  funs : X.s_0.heap.FunFrames X.base X.outer
  frf : ∀ b ∈ X.fs, X.H_0 b = none

structure Inv (X : Cx) (pins : List (Addr × Obj)) (σ : List (Option V)) (H : Hp) (s : Shared) : Prop where
  ok : X.Ok
  os : s.os = X.s_0.os
  bare : AllBare s.gens
  base : Un X.fs X.ex X.H_0 H X.s_0.heap s.heap
  loc : ∃ m, s.heap.Ns X.env.locals m ∧ ∀ (i : Nat) (x : Str) (v : V), X.N[i]? = some x → σ[i]? = some (some v) → Vis X.env.scope x → ∃ u, RelV v u ∧ Look X.env s.heap m x u
  cell : ∀ x c, X.env.cells.lookup x = some c → ∃ v, s.heap.IsCell c v
  free : H X.env.locals = none
  freeC : ∀ x c, X.env.cells.lookup x = some c → H c = none
  pin : ∀ p ∈ X.pn ++ pins, s.heap.get? p.1 = some p.2 ∧ H p.1 = none ∧ p.1 ≠ X.env.locals ∧ p.1 ∉ X.fs ∧ ∀ v, p.2.data ≠ .cell v
  hok : HOk X.prog X.w H s.heap
  len : σ.length = X.N.length

section
variable {X : Cx} {pins : List (Addr × Obj)} {σ : List (Option V)} {H H' : Hp} {s : Shared} {h' : Heap}

theorem Cx.Ok.nofr (ok : X.Ok) {b : Addr} {o : Obj} (e : X.base.get? b = some o) : b ∉ X.fs := fun hb => by
  have := (ok.funs.mem hb).1
  rw [e] at this; cases this
theorem Inv.bs (I : Inv X pins σ H s) : ∀ b o, X.base.get? b = some o → s.heap.get? b = some o ∧ H b = none := fun b o e =>
  ⟨I.base.keep b o (I.ok.bs b o e).1 (I.ok.bs b o e).2 (I.ok.nofr e) (I.ok.noex b o e), I.base.free b o (I.ok.bs b o e).1 (I.ok.bs b o e).2 (I.ok.noex b o e)⟩
theorem Inv.bk (I : Inv X pins σ H s) : ∀ b o, X.base.get? b = some o → s.heap.get? b = some o := fun b o e => (I.bs b o e).1
theorem Inv.mod (I : Inv X pins σ H s) : Mod X.K X.mg X.base := I.ok.mod
theorem Inv.kIn (I : Inv X pins σ H s) : X.K.In s.heap := I.ok.mod.kin.keeps I.bk
theorem Inv.nolimit (I : Inv X pins σ H s) : s.heap.NoLimit := I.ok.mod.nolimit.keeps I.bk
/-- the frame over the base: for OpenK's rules (K.In X.base is I.mod.kin) -/
theorem Inv.fr (I : Inv X pins σ H s) : ∃ m, Fr X.base X.env.locals s.heap m :=
  let ⟨m, hn, _⟩ := I.loc
  ⟨m, hn, I.bk, Nat.le_trans I.ok.bsz I.ok.above⟩
theorem Inv.lt (I : Inv X pins σ H s) : X.env.locals < s.heap.objs.size := let ⟨_, hn, _⟩ := I.loc; hn.lt
theorem Inv.sz (I : Inv X pins σ H s) : X.s_0.heap.objs.size ≤ s.heap.objs.size := Nat.le_trans I.ok.above (Nat.le_of_lt I.lt)
theorem Inv.nofs (I : Inv X pins σ H s) {a : Addr} (h : s.heap.objs.size ≤ a) : a ∉ X.fs := fun hb => by
  obtain ⟨_, o, ho, _⟩ := I.ok.funs.mem hb
  exact absurd (Nat.lt_of_lt_of_le (Heap.lt_size ho) (Nat.le_trans I.sz h)) (Nat.lt_irrefl _)
theorem Inv.cne (I : Inv X pins σ H s) : ∀ x c, X.env.cells.lookup x = some c → c ≠ X.env.locals := fun x c e z => by
  obtain ⟨v, o, ho, hd⟩ := I.cell x c e
  obtain ⟨m, ⟨o', es, ep, ho', hd', _⟩, _⟩ := I.loc
  rw [z, ho'] at ho; cases ho; rw [hd'] at hd; cases hd
theorem Inv.funs (I : Inv X pins σ H s) : s.heap.FunFrames X.base X.outer := by
  have all : ∀ (l : List Env), (∀ b ∈ frs l, b ∈ X.fs) → X.s_0.heap.FunFrames X.base l → s.heap.FunFrames X.base l := by
    intro l
    induction l with
    | nil => intro _ _; trivial
    | cons env r ih =>
      intro hs hl
      obtain ⟨hk, ⟨L, o, hf, hn, ho, hd⟩, hr⟩ := hl
      have hL : L ∈ X.fs := hs L (by unfold frs; rw [List.filterMap_cons, hf]; exact List.mem_cons_self)
      obtain ⟨sl, e⟩ := I.base.slot L o ho (I.ok.frf L hL) hL fun z => I.ok.exfs L z hL
      exact ⟨hk, ⟨L, _, hf, hn, e, hd⟩, ih (fun b hb => hs b (by unfold frs; rw [List.filterMap_cons, hf]; exact List.mem_cons_of_mem _ hb)) hr⟩
  exact all X.outer (fun _ hb => hb) I.ok.funs

/-- the frames that run, for a call -/
theorem Inv.stack (I : Inv X pins σ H s) : s.heap.FunFrames X.base X.stack := by
  rcases I.ok.stk with e | ⟨e, hf⟩
  · rw [e]; exact I.funs
  · rw [e]
    obtain ⟨m, hn, _⟩ := I.loc
    refine .cons (by rw [I.ok.kind]; decide) hf hn ?_ I.funs
    exact Heap.get?_none_of_le (Nat.le_trans I.ok.bsz I.ok.above)
theorem Inv.stkSub (I : Inv X pins σ H s) : ∀ b ∈ frs X.stack, b ∈ X.env.locals :: X.fs := fun b hb => by
  rcases I.ok.stk with e | ⟨e, hf⟩
  · rw [e] at hb; exact List.mem_cons_of_mem _ hb
  · rw [e] at hb
    unfold frs at hb
    rw [List.filterMap_cons, hf] at hb
    exact hb
theorem Inv.stkFree (I : Inv X pins σ H s) : ∀ b ∈ frs X.stack, H b = none := fun b hb => by
  rcases List.mem_cons.mp (I.stkSub b hb) with e | hb
  · rw [e]; exact I.free
  · obtain ⟨_, o, ho, _⟩ := I.ok.funs.mem hb
    exact I.base.free b o ho (I.ok.frf b hb) fun z => I.ok.exfs b z hb

/-- THE STEP: the untracked objects but the frame and the records at ch are kept (the callers' frames up to slots), the frame's map is kept, the new abstract heap is held -/
theorem Inv.step {g' : Array GenState} {t' : Nat} {d' : Drawn} {ch : List Addr} (I : Inv X pins σ H s)
    (hch : ∀ b ∈ ch, (b ∈ X.ex ∨ X.s_0.heap.objs.size ≤ b) ∧ b ≠ X.env.locals ∧ (∀ x c, X.env.cells.lookup x = some c → c ≠ b) ∧ ∀ p ∈ X.pn ++ pins, p.1 ≠ b)
    (keep : ∀ b o, b ≠ X.env.locals → b ∉ X.fs → b ∉ ch → s.heap.get? b = some o → H b = none → h'.get? b = some o)
    (slot : ∀ b o, b ≠ X.env.locals → b ∈ X.fs → b ∉ ch → s.heap.get? b = some o → H b = none → ∃ sl, h'.get? b = some { o with slots := sl }) (free : ∀ b o, b ∉ ch → s.heap.get? b = some o → H b = none → H' b = none)
    (there : ∀ b o, b ∉ ch → s.heap.get? b = some o → ∃ o', h'.get? b = some o')
    (tups : ∀ b xs, H b = some (.tup xs) → H' b = some (.tup xs)) (frzs : ∀ b o u, H b = some (.frz o u) → H' b = some (.frz o u)) (tbls : ∀ b ps, H b = some (.tbl ps) → ∃ more, H' b = some (.tbl (ps ++ more)))
    (ns : ∀ m, s.heap.Ns X.env.locals m → h'.Ns X.env.locals m) (hok : HOk X.prog X.w H' h') (hg : AllBare g') :
    Inv X pins σ H' { s with heap := h', gens := g', drawn := d', toks := t' } := by
  have neL : ∀ b o, X.s_0.heap.get? b = some o → b ≠ X.env.locals := fun b o e => Nat.ne_of_lt (Nat.lt_of_lt_of_le (Heap.lt_size e) I.ok.above)
  have neC : ∀ b o, X.s_0.heap.get? b = some o → b ∉ X.ex → b ∉ ch := fun b o e hx hb => by
    rcases (hch b hb).1 with z | z
    · exact hx z
    · exact absurd (Nat.lt_of_lt_of_le (Heap.lt_size e) z) (Nat.lt_irrefl _)
  have cellK : ∀ x c, X.env.cells.lookup x = some c → ∀ v, s.heap.IsCell c v → h'.IsCell c v := fun x c e v ⟨o, ho, hd⟩ => by
    have nch : c ∉ ch := fun z => (hch c z).2.2.1 x c e rfl
    by_cases hc : c ∈ X.fs
    · obtain ⟨sl, q⟩ := slot c o (I.cne x c e) hc nch ho (I.freeC x c e)
      exact ⟨_, q, hd⟩
    · exact ⟨o, keep c o (I.cne x c e) hc nch ho (I.freeC x c e), hd⟩
  refine ⟨I.ok, I.os, hg, ⟨fun b o e n hb hx => ?_, fun b o e n hb hx => ?_, fun b o e n hx => ?_, fun b o e hx => ?_, fun b xs e => tups b xs (I.base.tups b xs e), fun b o xs e => frzs b o xs (I.base.frzs b o xs e), fun b ps e => ?_⟩, ?_, fun x c e => ?_, ?_, fun x c e => ?_, fun p hp => ?_, hok, I.len⟩
  · exact keep b o (neL b o e) hb (neC b o e hx) (I.base.keep b o e n hb hx) (I.base.free b o e n hx)
  · obtain ⟨sl, e1⟩ := I.base.slot b o e n hb hx
    obtain ⟨sl', e2⟩ := slot b _ (neL b o e) hb (neC b o e hx) e1 (I.base.free b o e n hx)
    exact ⟨sl', e2⟩
  · obtain ⟨o', e1⟩ := I.base.there b o e hx
    exact free b o' (neC b o e hx) e1 (I.base.free b o e n hx)
  · obtain ⟨o', e1⟩ := I.base.there b o e hx
    exact there b o' (neC b o e hx) e1
  · obtain ⟨m1, e1⟩ := I.base.tbls b ps e
    obtain ⟨m2, e2⟩ := tbls b _ e1
    exact ⟨m1 ++ m2, by rw [e2, Array.append_assoc]⟩
  · obtain ⟨m, hn, hl⟩ := I.loc
    refine ⟨m, ns m hn, fun i x v e1 e2 e3 => ?_⟩
    obtain ⟨u, r, l⟩ := hl i x v e1 e2 e3
    refine ⟨u, r, ?_⟩
    rcases l with l | ⟨k, c, e, z⟩
    · exact .inl l
    · exact .inr ⟨k, c, e, cellK x c e _ z⟩
  · obtain ⟨v, z⟩ := I.cell x c e
    exact ⟨v, cellK x c e v z⟩
  · obtain ⟨m, ⟨o, _, _, ho, _⟩, _⟩ := I.loc
    exact free _ o (fun z => (hch _ z).2.1 rfl) ho I.free
  · obtain ⟨v, o, ho, hd⟩ := I.cell x c e
    exact free c o (fun z => (hch c z).2.2.1 x c e rfl) ho (I.freeC x c e)
  · obtain ⟨e, n, ne, nf, d⟩ := I.pin p hp
    have nch : p.1 ∉ ch := fun z => (hch p.1 z).2.2.2 p hp rfl
    exact ⟨keep p.1 p.2 ne nf nch e n, free p.1 p.2 nch e n, ne, nf, d⟩
/-- .. where the frame's own object is kept too -/
theorem Inv.un {t' : Nat} (I : Inv X pins σ H s) (u : Un X.fs [] H H' s.heap h') (hok : HOk X.prog X.w H' h') : Inv X pins σ H' { s with heap := h', toks := t' } := by
  obtain ⟨m, ⟨o, es, ep, ho, r⟩, _⟩ := id I.loc
  obtain ⟨sl, hL⟩ := u.any ho I.free (by simp)
  exact I.step (g' := s.gens) (d' := s.drawn) (ch := []) (fun _ z => nomatch z) (fun b o _ hb _ e n => u.keep b o e n hb (by simp)) (fun b o _ hb _ e n => u.slot b o e n hb (by simp)) (fun b o _ e n => u.free b o e n (by simp)) (fun b o _ e => u.there b o e (by simp)) u.tups u.frzs u.tbls (fun m' hm => by
    obtain ⟨o', es', ep', ho', r'⟩ := hm
    rw [ho] at ho'; cases ho'
    exact ⟨_, es', ep', hL, r'⟩) hok I.bare
/-- behind a call (or a comprehension's block): the slots of this frame may have changed too, the records at ch may have turned -/
theorem Inv.call {g' : Array GenState} {t' : Nat} {d' : Drawn} {ch : List Addr} (I : Inv X pins σ H s) (u : Un (frs X.stack) ch H H' s.heap h') (hok : HOk X.prog X.w H' h') (hg : AllBare g')
    (hch : ∀ b ∈ ch, (b ∈ X.ex ∨ X.s_0.heap.objs.size ≤ b) ∧ b ≠ X.env.locals ∧ (∀ x c, X.env.cells.lookup x = some c → c ≠ b) ∧ ∀ p ∈ X.pn ++ pins, p.1 ≠ b) :
    Inv X pins σ H' { s with heap := h', gens := g', drawn := d', toks := t' } := by
  obtain ⟨m, ⟨o, es, ep, ho, r⟩, _⟩ := id I.loc
  obtain ⟨sl, hL⟩ := u.any ho I.free fun z => (hch _ z).2.1 rfl
  exact I.step (ch := ch) hch (fun b o hL hb hc e n => u.keep b o e n (fun z => (List.mem_cons.mp (I.stkSub b z)).elim hL hb) hc) (fun b o _ _ hc e n => u.any e n hc) (fun b o hc e n => u.free b o e n hc) (fun b o hc e => u.there b o e hc) u.tups u.frzs u.tbls (fun m' hm => by
    obtain ⟨o', es', ep', ho', r'⟩ := hm
    rw [ho] at ho'; cases ho'
    exact ⟨_, es', ep', hL, r'⟩) hok hg
/-- an untracked record of ours (an iterator) has turned -/
theorem Inv.turned {t' : Nat} {it : Addr} (I : Inv X pins σ H s) (k : ∀ b o, b ≠ it → s.heap.get? b = some o → h'.get? b = some o) (hn : H it = none) (hL : it ≠ X.env.locals)
    (h1 : it ∈ X.ex ∨ X.s_0.heap.objs.size ≤ it) (h2 : ∀ x c, X.env.cells.lookup x = some c → c ≠ it) (h3 : ∀ p ∈ X.pn ++ pins, p.1 ≠ it) : Inv X pins σ H { s with heap := h', toks := t' } := by
  have nit : ∀ b u, H b = some u → b ≠ it := fun b u e z => by rw [z, hn] at e; cases e
  refine I.step (g' := s.gens) (d' := s.drawn) (ch := [it]) (fun b hb => ?_) (fun b o _ _ hc e _ => k b o (fun z => hc (by simp [z])) e) (fun b o _ _ hc e _ => ⟨o.slots, k b o (fun z => hc (by simp [z])) e⟩) (fun _ _ _ _ n => n)
    (fun b o hc e => ⟨o, k b o (fun z => hc (by simp [z])) e⟩) (fun _ _ e => e) (fun _ _ _ e => e) (fun b ps e => ⟨#[], by rw [e]; simp⟩) (fun m hm => ?_) (fun b u e => ?_) I.bare
  · have e : b = it := by simpa using hb
    subst e
    exact ⟨h1, hL, h2, h3⟩
  · obtain ⟨o, es, ep, ho, r⟩ := hm
    exact ⟨o, es, ep, k _ o (Ne.symm hL) ho, r⟩
  · refine (I.hok b u e).stay (fun c v hc q => k c v ?_ q) (fun _ q => q) fun _ _ q => q
    rcases hc with z | z
    · rw [z]; exact nit b u e
    · exact nit c _ z
theorem Inv.tok (I : Inv X pins σ H s) (t : Nat) : Inv X pins σ H { s with toks := t } := I.un (h' := s.heap) (t' := t) Un.refl I.hok
/-- all objects kept -/
theorem Inv.kept {t' : Nat} (I : Inv X pins σ H s) (k : ∀ b u, s.heap.get? b = some u → h'.get? b = some u) : Inv X pins σ H { s with heap := h', toks := t' } := I.un (Un.kept k) (I.hok.kept k)
/-- a new object laid and tracked -/
theorem Inv.laid {a : Addr} {o : HO} {t' : Nat} (I : Inv X pins σ H s) (k : ∀ b u, s.heap.get? b = some u → h'.get? b = some u) (hp : s.heap.objs.size ≤ a) (new : ObjOk X.prog X.w (upd H a o) h' a o) :
    Inv X pins σ (upd H a o) { s with heap := h', toks := t' } := I.un (Un.laid k hp (I.hok.fresh hp)) (I.hok.laid k hp new)
/-- an object written -/
theorem Inv.write {x e : Addr} {o : HO} {t' : Nat} (I : Inv X pins σ H s) (mu : Mut (H x)) (he : e = x ∨ H e = some (.own x)) (k : ∀ b u, b ≠ e → s.heap.get? b = some u → h'.get? b = some u) (heo : ∃ u, h'.get? e = some u)
    (new : ObjOk X.prog X.w (upd H x o) h' x o) : Inv X pins σ (upd H x o) { s with heap := h', toks := t' } := I.un (Un.write mu he k heo) (I.hok.write mu he k heo new)
/-- forgetting slots, pins -/
theorem Inv.weak {σ' : List (Option V)} (I : Inv X pins σ H s) (hl : σ'.length = σ.length) (w : ∀ (i : Nat) v, σ'[i]? = some (some v) → σ[i]? = some (some v)) : Inv X pins σ' H s :=
  ⟨I.ok, I.os, I.bare, I.base, let ⟨m, hn, hl'⟩ := I.loc; ⟨m, hn, fun i x v e1 e2 e3 => hl' i x v e1 (w i v e2) e3⟩, I.cell, I.free, I.freeC, I.pin, I.hok, hl.trans I.len⟩
theorem Inv.pins_of {pins' : List (Addr × Obj)} (I : Inv X pins σ H s) (h : ∀ p ∈ pins', s.heap.get? p.1 = some p.2 ∧ H p.1 = none ∧ p.1 ≠ X.env.locals ∧ p.1 ∉ X.fs ∧ ∀ v, p.2.data ≠ .cell v) : Inv X pins' σ H s :=
  ⟨I.ok, I.os, I.bare, I.base, I.loc, I.cell, I.free, I.freeC, fun p hp => (List.mem_append.mp hp).elim (fun z => I.pin p (List.mem_append_left _ z)) (h p), I.hok, I.len⟩

theorem nodup_ix {N : List Str} (hN : N.Nodup) {i j : Nat} {x : Str} (a : N[i]? = some x) (b : N[j]? = some x) : i = j := by
  obtain ⟨h1, e1⟩ := List.getElem?_eq_some_iff.mp a
  obtain ⟨h2, e2⟩ := List.getElem?_eq_some_iff.mp b
  exact (List.getElem_inj hN).mp (e1.trans e2.symm)

/-- a name is stored; what changed -/
theorem store_ok2 {M : Model} {A : Around} {E : Value → Shared → Prop} {i : Nat} {x : Str} {v : V} {u : Value} {Q : Unit → Shared → Prop} (I : Inv X pins σ H s) (hN : X.N.Nodup) (hi : X.N[i]? = some x) (hx : Loc X.env.scope x) (r : RelV v u)
    (h : ∀ s', Inv X pins (σ.set i (some v)) H s' → (∃ a, Heap.SameBut a s.heap s'.heap ∧ (a = X.env.locals ∨ X.env.cells.lookup x = some a)) → Q () s') (hf : X.fn x = true ∨ X.env.scope.names.lookup x = some .local := by first | exact .inl rfl | exact .inr rfl | assumption) : wpAny M A (storeName X.env x u) Q E s := by
  obtain ⟨m, hn, hl⟩ := id I.loc
  have hcls : (X.env.scope.kind == .class || (X.env.scope.kind == .module && X.env.locals != X.env.globals)) = false := by rw [I.ok.kind]; rfl
  have hiσ : i < σ.length := by rw [I.len]; exact (List.getElem?_eq_some_iff.mp hi).1
  have cne := I.cne
  have tracked : ∀ {a : Addr} {h' : Heap}, (∃ o, s.heap.get? a = some o ∧ H a = none) → Heap.SameBut a s.heap h' → HOk X.prog X.w H h' := fun {a h'} ha hs b ob e => by
    obtain ⟨_, _, hfree⟩ := ha
    refine (I.hok b ob e).stay (fun c w' hc q => (hs.2 c ?_).trans q) (fun _ q => q) fun _ _ q => q
    rintro rfl
    rcases hc with rfl | hc
    · rw [hfree] at e; cases e
    · rw [hfree] at hc; cases hc
  rcases hx with hk | hk
  · refine wpAny_storeName_local hk hn (fun h' hn' hs => ?_) hcls
    obtain ⟨oL, _, _, hoL, _⟩ := id hn
    refine h _ ⟨I.ok, I.os, I.bare, ⟨fun b o e n hb hx => ?_, fun b o e n hb hx => ?_, I.base.free, fun b o e hx => ?_, I.base.tups, I.base.frzs, I.base.tbls⟩, ⟨_, hn', fun j y v' e1 e2 e3 => ?_⟩, fun y c e => ?_, I.free, I.freeC, fun p hp => ?_, tracked ⟨oL, hoL, I.free⟩ hs, by simpa using I.len⟩ ⟨_, hs, .inl rfl⟩
    · exact (hs.2 b (Nat.ne_of_lt (Nat.lt_of_lt_of_le (Heap.lt_size e) I.ok.above))).trans (I.base.keep b o e n hb hx)
    · obtain ⟨sl, e1⟩ := I.base.slot b o e n hb hx
      exact ⟨sl, (hs.2 b (Nat.ne_of_lt (Nat.lt_of_lt_of_le (Heap.lt_size e) I.ok.above))).trans e1⟩
    · obtain ⟨o', e1⟩ := I.base.there b o e hx
      exact ⟨o', (hs.2 b (Nat.ne_of_lt (Nat.lt_of_lt_of_le (Heap.lt_size e) I.ok.above))).trans e1⟩
    · by_cases hj : j = i
      · subst hj
        rw [hi] at e1; cases e1
        rw [List.getElem?_set_self hiσ] at e2
        cases e2
        exact ⟨u, r, .inl ⟨hk, by simp⟩⟩
      · rw [List.getElem?_set_ne (Ne.symm hj)] at e2
        obtain ⟨u', r', q⟩ := hl j y v' e1 e2 e3
        refine ⟨u', r', ?_⟩
        rcases q with ⟨k, e⟩ | ⟨k, c, e, z⟩
        · refine .inl ⟨k, ?_⟩
          have : y ≠ x := fun e => hj (nodup_ix hN e1 (e ▸ hi))
          simp [this, e]
        · exact .inr ⟨k, c, e, z.sameBut hs (cne y c e)⟩
    · obtain ⟨w', z⟩ := I.cell y c e
      exact ⟨w', z.sameBut hs (cne y c e)⟩
    · obtain ⟨e, n, ne, nf, d⟩ := I.pin p hp
      exact ⟨(hs.2 p.1 ne).trans e, n, ne, nf, d⟩
  · have hfn : X.fn x = true := by
      rcases hf with z | z
      · exact z
      · rw [z] at hk; cases hk
    obtain ⟨c, hc⟩ := I.ok.has x (.inl hk)
    obtain ⟨w', z⟩ := I.cell x c hc
    refine wpAny_storeName_cell I.ok.kind hk hc z (fun h' hc' hs => ?_)
    obtain ⟨oc, hoc, hocd⟩ := id z
    refine h { s with heap := h' } ⟨I.ok, I.os, I.bare, ⟨fun b o e n hb hx => ?_, fun b o e n hb hx => ?_, I.base.free, fun b o e hx => ?_, I.base.tups, I.base.frzs, I.base.tbls⟩, ⟨m, hn.sameBut hs (Ne.symm (cne x c hc)), fun j y v' e1 e2 e3 => ?_⟩, fun y c' e => ?_, I.free, I.freeC, fun p hp => ?_, tracked ⟨oc, hoc, I.freeC x c hc⟩ hs, by simpa using I.len⟩ ⟨c, hs, .inr hc⟩
    · exact (hs.2 b (Nat.ne_of_lt (Nat.lt_of_lt_of_le (Heap.lt_size e) (I.ok.cab x c hfn hc)))).trans (I.base.keep b o e n hb hx)
    · obtain ⟨sl, e1⟩ := I.base.slot b o e n hb hx
      exact ⟨sl, (hs.2 b (Nat.ne_of_lt (Nat.lt_of_lt_of_le (Heap.lt_size e) (I.ok.cab x c hfn hc)))).trans e1⟩
    · obtain ⟨o', e1⟩ := I.base.there b o e hx
      exact ⟨o', (hs.2 b (Nat.ne_of_lt (Nat.lt_of_lt_of_le (Heap.lt_size e) (I.ok.cab x c hfn hc)))).trans e1⟩
    · by_cases hj : j = i
      · subst hj
        rw [hi] at e1; cases e1
        rw [List.getElem?_set_self hiσ] at e2
        cases e2
        exact ⟨u, r, .inr ⟨.inl hk, c, hc, hc'⟩⟩
      · rw [List.getElem?_set_ne (Ne.symm hj)] at e2
        obtain ⟨u', r', q⟩ := hl j y v' e1 e2 e3
        refine ⟨u', r', ?_⟩
        rcases q with q | ⟨k, c', e, z'⟩
        · exact .inl q
        · refine .inr ⟨k, c', e, z'.sameBut hs ?_⟩
          rintro rfl
          exact hj (nodup_ix hN e1 (I.ok.inj _ _ _ e hc ▸ hi))
    · by_cases hcc : c' = c
      · subst hcc; exact ⟨_, hc'⟩
      · obtain ⟨w2, z2⟩ := I.cell y c' e
        exact ⟨w2, z2.sameBut hs hcc⟩
    · obtain ⟨e, n, ne, nf, d⟩ := I.pin p hp
      refine ⟨(hs.2 p.1 ?_).trans e, n, ne, nf, d⟩
      intro q
      rw [q, hoc] at e
      have q' : oc = p.2 := Option.some.inj e
      exact d w' (by rw [← q']; exact hocd)
theorem store_ok {M : Model} {A : Around} {E : Value → Shared → Prop} {i : Nat} {x : Str} {v : V} {u : Value} {Q : Unit → Shared → Prop} (I : Inv X pins σ H s) (hN : X.N.Nodup) (hi : X.N[i]? = some x) (hx : Loc X.env.scope x) (r : RelV v u)
    (h : ∀ s', Inv X pins (σ.set i (some v)) H s' → Q () s') (hf : X.fn x = true ∨ X.env.scope.names.lookup x = some .local := by first | exact .inl rfl | exact .inr rfl | assumption) : wpAny M A (storeName X.env x u) Q E s :=
  store_ok2 I hN hi hx r (fun s' I' _ => h s' I') hf
/-- behind a call or a block, the state as it is -/
theorem Inv.call' {s' : Shared} {ch : List Addr} (I : Inv X pins σ H s) (ho : s'.os = s.os) (u : Un (frs X.stack) ch H H' s.heap s'.heap) (hok : HOk X.prog X.w H' s'.heap) (hg : AllBare s'.gens)
    (hch : ∀ b ∈ ch, (b ∈ X.ex ∨ X.s_0.heap.objs.size ≤ b) ∧ b ≠ X.env.locals ∧ (∀ x c, X.env.cells.lookup x = some c → c ≠ b) ∧ ∀ p ∈ X.pn ++ pins, p.1 ≠ b) : Inv X pins σ H' s' := by
  obtain ⟨h', g', d', t', o'⟩ := s'
  have e : o' = s.os := ho
  subst e
  exact I.call (g' := g') (t' := t') (d' := d') u hok hg hch
end

/-! ### the judgements -/
/-- an exception: its class, its own dict's address (where it has one), the abstract heap behind it -/
abbrev XK := Value → Option Addr → Hp → Prop
abbrev St := List (Option V)
abbrev VK := V → Hp → Prop
/-- an expression's reading; a test's; an argument list's -/
abbrev TE := St → Hp → VK → Prop
abbrev TT := St → Hp → (Bool → Hp → Prop) → Prop
abbrev TA := St → Hp → (List V → Hp → Prop) → Prop
/-- what is wanted behind a statement -/
structure Ends where
  nx : St → Hp → Prop
  rt : VK
  bk : St → Hp → Prop := fun _ _ => False
  ct : St → Hp → Prop := fun _ _ => False
abbrev TS := Ends → St → Hp → Prop

def EP (X : Cx) (pins : List (Addr × Obj)) (σ : St) (Q : VK) (u : Value) (s' : Shared) : Prop := ∃ v H', Inv X pins σ H' s' ∧ RelV v u ∧ Q v H'
def TP (X : Cx) (pins : List (Addr × Obj)) (σ : St) (Q : Bool → Hp → Prop) (b : Bool) (s' : Shared) : Prop := ∃ H', Inv X pins σ H' s' ∧ Q b H'
def AP (X : Cx) (pins : List (Addr × Obj)) (σ : St) (Q : List V → Hp → Prop) (us : List Value) (s' : Shared) : Prop := ∃ vs H', Inv X pins σ H' s' ∧ Vals vs us ∧ Q vs H'
def SP (X : Cx) (pins : List (Addr × Obj)) (D : Ends) (f : Flow) (s' : Shared) : Prop :=
  match f with
  | .next => ∃ σ' H', Inv X pins σ' H' s' ∧ D.nx σ' H'
  | .brk => ∃ σ' H', Inv X pins σ' H' s' ∧ D.bk σ' H'
  | .cont => ∃ σ' H', Inv X pins σ' H' s' ∧ D.ct σ' H'
  | .ret u => ∃ v σ' H', Inv X pins σ' H' s' ∧ RelV v u ∧ D.rt v H'

def PE (X : Cx) (e : Expr) (t : TE) : Prop :=
  ∀ (pins : List (Addr × Obj)) (s : Shared) (σ : St) (H : Hp) (Q : VK), Inv X pins σ H s → t σ H Q → wpAny (model X.prog X.w) X.A (eval e X.env) (EP X pins σ Q) X.xe s
def PT (X : Cx) (e : Expr) (t : TT) : Prop :=
  ∀ (pins : List (Addr × Obj)) (s : Shared) (σ : St) (H : Hp) (Q : Bool → Hp → Prop), Inv X pins σ H s → t σ H Q → wpAny (model X.prog X.w) X.A (isTrue e X.env (eval e X.env)) (TP X pins σ Q) X.xe s
/-- a test whatever its 'whole' is (and, or) -/
def PW (X : Cx) (e : Expr) (t : TT) : Prop :=
  ∀ (whole : Sem Value) (pins : List (Addr × Obj)) (s : Shared) (σ : St) (H : Hp) (Q : Bool → Hp → Prop), Inv X pins σ H s → t σ H Q → wpAny (model X.prog X.w) X.A (isTrue e X.env whole) (TP X pins σ Q) X.xe s
theorem PW.pt {X : Cx} {e : Expr} {t : TT} (h : PW X e t) : PT X e t := h _
/-- an argument list (no star), from the left -/
def PA (X : Cx) (es : List Expr) (t : TA) : Prop :=
  ∀ (pos : Pos) (pins : List (Addr × Obj)) (s : Shared) (σ : St) (H : Hp) (Q : List V → Hp → Prop), Inv X pins σ H s → t σ H Q → wpAny (model X.prog X.w) X.A (spliced (backTo pos (starEach es X.env))) (AP X pins σ Q) X.xe s
def PS (X : Cx) (st : Stmt) (t : TS) : Prop :=
  ∀ (pins : List (Addr × Obj)) (s : Shared) (σ : St) (H : Hp) (D : Ends), Inv X pins σ H s → t D σ H → wpAny (model X.prog X.w) X.A (exec st X.env) (SP X pins D) X.xe s
def PSs (X : Cx) (st : List Stmt) (t : TS) : Prop :=
  ∀ (pins : List (Addr × Obj)) (s : Shared) (σ : St) (H : Hp) (D : Ends), Inv X pins σ H s → t D σ H → wpAny (model X.prog X.w) X.A (execs st X.env) (SP X pins D) X.xe s
/-- weaken the end -/
theorem thn {α : Type} {t : Sem α} {Q Q' : α → Shared → Prop} {M : Model} {A : Around} {E : Value → Shared → Prop} {s : Shared} (h : wpAny M A t Q E s) (hQ : ∀ a s, Q a s → Q' a s) : wpAny M A t Q' E s := wpAny_mono h hQ fun _ _ x => x
end L2

namespace L2
open PySem PySem.Spec PyProof.Rows
section
variable {X : Cx}

/-! ### names and constants -/
def tVar (i : Nat) : TE := fun σ H Q => ∃ v, σ[i]? = some (some v) ∧ Q v H
def tC (v : V) : TE := fun _ H Q => Q v H
theorem pe_var {i : Nat} {x : Str} {pos : Pos} (hN : X.N[i]? = some x) (hv : Vis X.env.scope x) (hd : (x == ("__debug__" : Str)) = false := by decide) (hcd : (x == ("__classdict__" : Str)) = false := by decide) : PE X (.Name x pos) (tVar i) := by
  intro pins s σ H Q I h
  obtain ⟨v, e, h⟩ := h
  obtain ⟨m, hn, hl⟩ := I.loc
  obtain ⟨u, r, l⟩ := hl i x v hN e hv
  have fin : EP X pins σ Q u s := ⟨v, H, I, r, h⟩
  rcases l with ⟨hk, hm⟩ | ⟨hk, c, hc, hcell⟩
  · exact wpAny_Name (wpAny_loadName_local I.ok.kind hk hn hm fin) hd
  · rcases hk with hk | hk
    · exact wpAny_Name (wpAny_loadName_cell I.ok.kind hk hc hcell fin) hd
    · exact wpAny_Name (wpAny_loadName_free I.ok.kind hk hc hcell fin hcd) hd
theorem pe_int {i j pos} : PE X (.Constant (.int i) j pos) (tC (.int i)) := fun _ _ _ H _ I h => wpAny_Constant_int ⟨.int i, H, I.tok _, ⟨_, rfl⟩, h⟩
theorem pe_bl {b j pos} : PE X (.Constant (.bool b) j pos) (tC (.bl b)) := fun _ _ _ H _ I h => Constant_bool ⟨.bl b, H, I, rfl, h⟩
/-- a global name of the def -/
def Gl (X : Cx) (x : Str) : Prop := X.env.kindOf x = some .globalImplicit
theorem ld_glob {E : Value → Shared → Prop} {pins : List (Addr × Obj)} {s : Shared} {σ : St} {H : Hp} {x : Str} {u : Value} {pos : Pos} {Q : Value → Shared → Prop} (I : Inv X pins σ H s) (hg : Gl X x) (hm : X.mg x = some u) (h : Q u s)
    (hd : (x == ("__debug__" : Str)) = false := by decide) : wpAny (model X.prog X.w) X.A (eval (.Name x pos) X.env) Q E s :=
  Calls.Name_function_global I.ok.kind hg (Calls.loadGlobal_global (by rw [I.ok.glob]; exact I.mod.glob.keeps I.bk) hm h) hd
theorem ld_blt {E : Value → Shared → Prop} {pins : List (Addr × Obj)} {s : Shared} {σ : St} {H : Hp} {x : Str} {u : Value} {pos : Pos} {Q : Value → Shared → Prop} (I : Inv X pins σ H s) (hg : Gl X x) (hm : X.mg x = none) (hv : bootBuiltins x = some u) (h : Q u s)
    (hn : x ≠ "__name__" := by decide) (hd : (x == ("__debug__" : Str)) = false := by decide) : wpAny (model X.prog X.w) X.A (eval (.Name x pos) X.env) Q E s := by
  obtain ⟨mb, h1, h2⟩ := I.mod.blt
  exact Calls.Name_function_global I.ok.kind hg (Calls.loadGlobal_builtin (by rw [I.ok.glob]; exact I.mod.glob.keeps I.bk) hm (by rw [I.ok.blt]; exact h1.keeps I.bk) ((h2 x hn).trans hv) h) hd
/-- a module's constant, a class, a function, as a value -/
theorem pe_glob {x : Str} {v : V} {u : Value} {pos : Pos} (hg : Gl X x) (hm : X.mg x = some u) (r : RelV v u) (hd : (x == ("__debug__" : Str)) = false := by decide) : PE X (.Name x pos) (tC v) :=
  fun _ _ _ H _ I h => ld_glob I hg hm ⟨v, H, I, r, h⟩ hd
/-! ### arithmetic -/
variable {a b : Expr} {ta tb : TE} {pos : Pos}
/-! ### comparisons -/
def PC (X : Cx) (op : CmpOp) (a b : Expr) (t : TE) : Prop :=
  ∀ (pins : List (Addr × Obj)) (s : Shared) (σ : St) (H : Hp) (Q : VK), Inv X pins σ H s → t σ H Q →
    wpAny (model X.prog X.w) X.A (eval a X.env) (fun v s₁ => wpAny (model X.prog X.w) X.A (eval b X.env) (fun u s₂ => wpAny (model X.prog X.w) X.A (compareOp op v u) (EP X pins σ Q) X.xe s₂) X.xe s₁) X.xe s
theorem nobehind (b : Expr) {op : CmpOp} (h : op ≠ .In) (h2 : op ≠ .NotIn) : behindInMarks op b = false := by
  have e1 : (op == CmpOp.In) = false := by cases op <;> first | rfl | exact absurd rfl h
  have e2 : (op == CmpOp.NotIn) = false := by cases op <;> first | rfl | exact absurd rfl h2
  cases b <;> simp [behindInMarks, e1, e2]
/-- a comparison as a value, as a test -/
def tB (t : TE) : TT := fun σ H Q => t σ H fun x H1 => ∃ c, x = .bl c ∧ Q c H1
theorem pe_cmp {op : CmpOp} {t : TE} (h : PC X op a b t) (h1 : behindInMarks op b = false := by first | exact nobehind _ (by decide) (by decide) | rfl) : PE X (.Compare a [op] [b] pos) t := fun pins s σ H Q I hw => wpAny_Compare1 (h pins s σ H Q I hw) h1
/-- an expression whose value is a bool, as a test -/
theorem pt_val {e : Expr} {t : TE} (h : PE X e t) (he : ∀ whole, isTrue e X.env whole = (do let v ← whole; standAt e.pos; holding [v] (truthy v)) := by intro _; rfl) : PT X e (tB t) := by
  intro pins s σ H Q I hw
  refine isTrue_plain (thn (h pins s σ H _ I hw) fun v s1 ⟨x, H1, I1, r1, q1⟩ => ?_) (he _)
  obtain ⟨d, rfl, q⟩ := q1
  cases r1
  exact wpAny_truthy_bool ⟨H1, I1, q⟩

/-! ### and, or, not -/
variable {tA tB' : TT} {rest : List Expr}
def tAnd (t u : TT) : TT := fun σ H Q => t σ H fun c H1 => if c = true then u σ H1 Q else Q false H1
def tOr (t u : TT) : TT := fun σ H Q => t σ H fun c H1 => if c = true then Q true H1 else u σ H1 Q
def tNot (t : TT) : TT := fun σ H Q => t σ H fun c H1 => Q (!c) H1
theorem pw_and1 (ha : PT X a tA) : PW X (.BoolOp .And [a] pos) tA := by
  intro wh pins s σ H Q I h
  refine isTrue_and (thn (ha pins s σ H Q I h) fun c s1 e => ?_)
  cases c with
  | true => exact isTrue_and_nil e
  | false => exact e
theorem pw_or1 (ha : PT X a tA) : PW X (.BoolOp .Or [a] pos) tA := by
  intro wh pins s σ H Q I h
  refine isTrue_or (thn (ha pins s σ H Q I h) fun c s1 e => ?_)
  cases c with
  | false => exact isTrue_or_nil e
  | true => exact e
theorem pw_and (ha : PT X a tA) (hb : PW X (.BoolOp .And (b :: rest) pos) tB') : PW X (.BoolOp .And (a :: b :: rest) pos) (tAnd tA tB') := by
  intro wh pins s σ H Q I h
  refine isTrue_and (thn (ha pins s σ H _ I h) fun c s1 ⟨H1, I1, q1⟩ => ?_)
  cases c with
  | true => exact hb wh pins s1 σ H1 Q I1 q1
  | false => exact ⟨H1, I1, q1⟩
theorem pw_or (ha : PT X a tA) (hb : PW X (.BoolOp .Or (b :: rest) pos) tB') : PW X (.BoolOp .Or (a :: b :: rest) pos) (tOr tA tB') := by
  intro wh pins s σ H Q I h
  refine isTrue_or (thn (ha pins s σ H _ I h) fun c s1 ⟨H1, I1, q1⟩ => ?_)
  cases c with
  | true => exact ⟨H1, I1, q1⟩
  | false => exact hb wh pins s1 σ H1 Q I1 q1
theorem pt_not (ha : PT X a tA) : PT X (.UnaryOp .Not a pos) (tNot tA) := by
  intro pins s σ H Q I h
  exact isTrue_not (ha pins s σ H (fun c H1 => Q (!c) H1) I h)
end
end L2

namespace L2
open PySem PySem.Spec PyProof.Rows

/-! ### a list, a tuple that is read: tracked, frozen, or an object of the module -/
def SqL (K : PySem.W.Frag) (H : Hp) (a : Addr) (xs : List V) : Prop :=
  Rd H a (.lst xs) ∨
    ∃ (o : Obj) (its : Array Value) (n : Nat), K.lookup a = some o ∧ o.cls = .type "list" ∧ o.dict = none ∧ o.data = .seq its n ∧ its.size ≤ sizeLine ∧ Vals xs its.toList
def SqT (K : PySem.W.Frag) (H : Hp) (a : Addr) (xs : List V) : Prop :=
  Rd H a (.tup xs) ∨
    ∃ (o : Obj) (its : Array Value) (n : Nat), K.lookup a = some o ∧ o.cls = .type "tuple" ∧ o.data = .seq its n ∧ its.size ≤ sizeLine ∧ Vals xs its.toList
def absV : Value → Option V
  | .none => some .non
  | .bool b => some (.bl b)
  | .int i _ => some (.int i)
  | .str x _ => some (.str x)
  | .bytes b _ => some (.byt b)
  | .float b _ => some (.flt b)
  | .ref a => some (.ref a)
  | .type n => some (.ty n)
  | _ => none
theorem RelV.abs {x : V} {u : Value} (r : RelV x u) : absV u = some x := by
  cases x with
  | non => cases r; rfl
  | bl _ => cases r; rfl
  | int _ => obtain ⟨t, rfl⟩ := r; rfl
  | str _ => obtain ⟨t, rfl⟩ := r; rfl
  | byt _ => obtain ⟨t, rfl⟩ := r; rfl
  | flt _ => obtain ⟨t, rfl⟩ := r; rfl
  | ref _ => cases r; rfl
  | ty _ => cases r; rfl
theorem RelV.inj {x y : V} {u : Value} (r : RelV x u) (q : RelV y u) : x = y := Option.some.inj (r.abs.symm.trans q.abs)
theorem Vals.inj : ∀ {xs ys : List V} {us : List Value}, Vals xs us → Vals ys us → xs = ys
  | _, _, _, .nil, .nil => rfl
  | _, _, _, .cons r t, .cons r' t' => by rw [r.inj r', Vals.inj t t']
section
variable {X : Cx} {pins : List (Addr × Obj)} {σ : St} {H : Hp} {s : Shared} {a : Addr} {xs ys : List V}
theorem SqL.of {K : PySem.W.Frag} (h : H a = some (.lst xs)) : SqL K H a xs := .inl (.inl h)
theorem SqT.of {K : PySem.W.Frag} (h : H a = some (.tup xs)) : SqT K H a xs := .inl (.inl h)
theorem Inv.list (I : Inv X pins σ H s) (h : SqL X.K H a xs) : ∃ its : List Value, Vals xs its ∧ PlainL s.heap a its.toArray ∧ xs.length ≤ sizeLine := by
  rcases h with h | ⟨o, its, n, hk, hc, hd, hs, hz, r⟩
  · obtain ⟨z, its, n, r, e⟩ := h.ok I.hok
    exact ⟨its, r, ⟨_, n, e, rfl, rfl, rfl⟩, z⟩
  · refine ⟨its.toList, r, ⟨o, n, I.kIn a o hk, hc, hd, by simpa using hs⟩, ?_⟩
    have e := r.length
    simp only [Array.length_toList] at e
    omega
theorem Inv.tuple (I : Inv X pins σ H s) (h : SqT X.K H a xs) : ∃ its : List Value, Vals xs its ∧ IsTup s.heap a its.toArray ∧ xs.length ≤ sizeLine := by
  rcases h with h | ⟨o, its, n, hk, hc, hs, hz, r⟩
  · obtain ⟨z, its, r, p⟩ := h.ok I.hok
    exact ⟨its, r, p, z⟩
  · refine ⟨its.toList, r, ⟨o, I.kIn a o hk, hc, n, by simpa using hs⟩, ?_⟩
    have e := r.length
    simp only [Array.length_toList] at e
    omega
theorem Inv.list_inj (I : Inv X pins σ H s) (h : SqL X.K H a xs) (h' : SqL X.K H a ys) : xs = ys := by
  obtain ⟨its, r, ⟨o, n, e, _, _, d⟩, _⟩ := I.list h
  obtain ⟨its', r', ⟨o', n', e', _, _, d'⟩, _⟩ := I.list h'
  rw [e] at e'; cases e'
  rw [d] at d'
  injection d' with d1 _
  have : its = its' := by simpa using congrArg Array.toList d1
  subst this
  exact r.inj r'
end

/-! ### another wish about exceptions -/
abbrev Cx.wish (X : Cx) (E : Value → Shared → Prop) : Cx := { X with xe := E }
/-- no exception leaves -/
abbrev Cx.nox (X : Cx) : Cx := X.wish fun _ _ => False
theorem Cx.Ok.wish {X : Cx} (ok : X.Ok) (E : Value → Shared → Prop) : (X.wish E).Ok :=
  ⟨ok.mod, ok.kind, ok.glob, ok.blt, ok.above, ok.inj, ok.has, ok.cab, ok.hd, ok.frames, ok.stk, ok.exf, ok.bs, ok.bsz, ok.noex, ok.exfs, ok.funs, ok.frf⟩
theorem Cx.Ok.unwish {X : Cx} {E : Value → Shared → Prop} (ok : (X.wish E).Ok) : X.Ok :=
  ⟨ok.mod, ok.kind, ok.glob, ok.blt, ok.above, ok.inj, ok.has, ok.cab, ok.hd, ok.frames, ok.stk, ok.exf, ok.bs, ok.bsz, ok.noex, ok.exfs, ok.funs, ok.frf⟩
section
variable {X : Cx} {pins : List (Addr × Obj)} {σ : St} {H : Hp} {s : Shared} {E : Value → Shared → Prop}
theorem Inv.wish (I : Inv X pins σ H s) (E : Value → Shared → Prop) : Inv (X.wish E) pins σ H s := ⟨I.ok.wish E, I.os, I.bare, I.base, I.loc, I.cell, I.free, I.freeC, I.pin, I.hok, I.len⟩
theorem Inv.unwish (I : Inv (X.wish E) pins σ H s) : Inv X pins σ H s := ⟨I.ok.unwish, I.os, I.bare, I.base, I.loc, I.cell, I.free, I.freeC, I.pin, I.hok, I.len⟩
theorem SP.unwish {D : Ends} {f : Flow} {s' : Shared} (h : SP (X.wish E) pins D f s') : SP X pins D f s' := by
  cases f with
  | next => obtain ⟨σ', H', I, q⟩ := h; exact ⟨σ', H', I.unwish, q⟩
  | brk => obtain ⟨σ', H', I, q⟩ := h; exact ⟨σ', H', I.unwish, q⟩
  | cont => obtain ⟨σ', H', I, q⟩ := h; exact ⟨σ', H', I.unwish, q⟩
  | ret u => obtain ⟨v, σ', H', I, r, q⟩ := h; exact ⟨v, σ', H', I.unwish, r, q⟩
theorem PE.nox {e : Expr} {t : TE} (h : PE X.nox e t) : PE X e t := fun pins s σ H Q I hw =>
  wpAny_mono (h pins s σ H Q (I.wish _) hw) (fun _ _ ⟨v, H', I', r, q⟩ => ⟨v, H', I'.unwish, r, q⟩) fun _ _ z => False.elim z
theorem PT.nox {e : Expr} {t : TT} (h : PT X.nox e t) : PT X e t := fun pins s σ H Q I hw =>
  wpAny_mono (h pins s σ H Q (I.wish _) hw) (fun _ _ ⟨H', I', q⟩ => ⟨H', I'.unwish, q⟩) fun _ _ z => False.elim z
theorem PSs.nox {st : List Stmt} {t : TS} (h : PSs X.nox st t) : PSs X st t := fun pins s σ H D I hw =>
  wpAny_mono (h pins s σ H D (I.wish _) hw) (fun _ _ q => q.unwish) fun _ _ z => False.elim z
end

/-! ### blocks and small statements -/
section
variable {X : Cx} {st : Stmt} {rest : List Stmt} {t u : TS} {e : Expr} {te : TE} {pos : Pos}
def tNext : TS := fun D σ H => D.nx σ H
def tSeq (t u : TS) : TS := fun D σ H => t { D with nx := u D } σ H
theorem pss_nil : PSs X [] tNext := fun _ _ σ H _ I h => wpAny_execs_nil ⟨σ, H, I, h⟩
theorem pss_cons (h1 : PS X st t) (h2 : PSs X rest u) : PSs X (st :: rest) (tSeq t u) := by
  intro pins s σ H D I h
  refine wpAny_execs_cons (thn (h1 pins s σ H { D with nx := u D } I h) fun f s1 q => ?_)
  cases f with
  | next =>
    obtain ⟨σ', H', I', q⟩ := q
    exact h2 pins s1 σ' H' D I' q
  | ret v => exact q
  | brk => exact q
  | cont => exact q
theorem pss_one (h1 : PS X st t) : PSs X [st] t := by
  intro pins s σ H D I h
  refine wpAny_execs_cons (thn (h1 pins s σ H D I h) fun f s1 q => ?_)
  cases f with
  | next => exact wpAny_execs_nil q
  | ret v => exact q
  | brk => exact q
  | cont => exact q
/-- in a def's body nothing is shown -/
theorem Inv.quiet {pins : List (Addr × Obj)} {σ : St} {H : Hp} {s : Shared} (I : Inv X pins σ H s) : interactive X.env = false := by simp [interactive, I.ok.kind]
/-- an expression whose value is dropped -/
def tDrop (te : TE) : TS := fun D σ H => te σ H fun _ H1 => D.nx σ H1
theorem ps_expr (he : PE X e te) (hs : swapsWith e none pos.line X.env = pure false := by rfl) : PS X (.Expr e pos) (tDrop te) := by
  intro pins s σ H D I h
  exact wpAny_Expr_any (thn (he pins s σ H _ I h) fun v s1 ⟨x, H1, I1, r1, q1⟩ => ⟨σ, H1, I1, q1⟩) I.quiet hs
def tRet (te : TE) : TS := fun D σ H => te σ H D.rt
theorem ps_ret (he : PE X e te) : PS X (.Return (some e) pos) (tRet te) := by
  intro pins s σ H D I h
  exact wpAny_Return_some (thn (he pins s σ H _ I h) fun v s1 ⟨x, H1, I1, r1, q1⟩ => ⟨x, σ, H1, I1, r1, q1⟩)
def tIfS (c : TT) (t u : TS) : TS := fun D σ H => c σ H fun b H1 => if b = true then t D σ H1 else u D σ H1
theorem ps_if {c : Expr} {a b : List Stmt} {tc : TT} (hc : PT X c tc) (ha : PSs X a t) (hb : PSs X b u) : PS X (.If c a b pos) (tIfS tc t u) := by
  intro pins s σ H D I h
  refine wpAny_If (thn (hc pins s σ H _ I h) fun d s1 ⟨H1, I1, q1⟩ => ?_)
  cases d with
  | true => exact ha pins s1 σ H1 D I1 q1
  | false => exact hb pins s1 σ H1 D I1 q1
/-- code that the proof never comes to -/
def tNever : TS := fun _ _ _ => False
theorem ps_never : PS X st tNever := fun _ _ _ _ _ _ h => h.elim
end

/-! ### targets -/
abbrev TG := V → St → Hp → (St → Hp → Prop) → Prop
abbrev TGs := List V → St → Hp → (St → Hp → Prop) → Prop
def PG (X : Cx) (target : Expr) (t : TG) : Prop :=
  ∀ (pins : List (Addr × Obj)) (s : Shared) (σ : St) (H : Hp) (v : V) (u : Value) (Q : St → Hp → Prop), Inv X pins σ H s → RelV v u → t v σ H Q →
    wpAny (model X.prog X.w) X.A (assign target X.env u) (fun _ s' => ∃ σ' H', Inv X pins σ' H' s' ∧ Q σ' H') X.xe s
/-- several targets, one after another -/
def PGs (X : Cx) (ts : List Expr) (t : TGs) : Prop :=
  ∀ (pins : List (Addr × Obj)) (s : Shared) (σ : St) (H : Hp) (vs : List V) (us : List Value) (Q : St → Hp → Prop), Inv X pins σ H s → Vals vs us → t vs σ H Q →
    wpAny (model X.prog X.w) X.A (assignInOrder ((assignEach ts X.env).map (·.2)) us) (fun _ s' => ∃ σ' H', Inv X pins σ' H' s' ∧ Q σ' H') X.xe s
/-- o[i] = v, by values -/
abbrev TSet := V → V → V → Hp → (Hp → Prop) → Prop
def PSet (X : Cx) (t : TSet) : Prop :=
  ∀ (pins : List (Addr × Obj)) (s : Shared) (σ : St) (H : Hp) (o i v : V) (ov iv u : Value) (Q : Hp → Prop), Inv X pins σ H s → RelV o ov → RelV i iv → RelV v u → t o i v H Q →
    wpAny (model X.prog X.w) X.A (setItem ov iv u) (fun _ s' => ∃ H', Inv X pins σ H' s' ∧ Q H') X.xe s
section
variable {X : Cx} {pos : Pos}
def gName (i : Nat) : TG := fun v σ H Q => Q (σ.set i (some v)) H
theorem pg_name {i : Nat} {x : Str} (hN : X.N.Nodup) (hi : X.N[i]? = some x) (hx : Loc X.env.scope x) (hf : X.fn x = true ∨ X.env.scope.names.lookup x = some .local := by first | exact .inl rfl | exact .inr rfl | assumption) : PG X (.Name x pos) (gName i) := by
  intro pins s σ H v u Q I r h
  exact wpAny_assign_Name (store_ok I hN hi hx r (fun s' I' => ⟨_, H, I', h⟩) hf)
def gNil : TGs := fun vs σ H Q => vs = [] ∧ Q σ H
def gCons (t : TG) (u : TGs) : TGs := fun vs σ H Q => ∃ v r, vs = v :: r ∧ t v σ H fun σ' H' => u r σ' H' Q
theorem pgs_nil : PGs X [] gNil := by
  intro pins s σ H vs us Q I r h
  obtain ⟨e, h⟩ := h
  subst e
  cases r
  exact assignInOrder_nil ⟨σ, H, I, h⟩
theorem pgs_cons {e : Expr} {es : List Expr} {t : TG} {u : TGs} (h1 : PG X e t) (h2 : PGs X es u)
    (hs : (assignEach (e :: es) X.env).map (·.2) = assign e X.env :: (assignEach es X.env).map (·.2) := by rfl) : PGs X (e :: es) (gCons t u) := by
  intro pins s σ H vs us Q I r h
  obtain ⟨v, vr, e1, h⟩ := h
  subst e1
  cases r with
  | cons r rr =>
    rw [hs]
    refine assignInOrder_cons (thn (h1 pins s σ H _ _ _ I r h) fun _ s1 ⟨σ1, H1, I1, q1⟩ => ?_)
    exact h2 pins s1 σ1 H1 _ _ Q I1 rr q1
/-- (a, b, ..) = a tuple of that length -/
def gTup (K : PySem.W.Frag) (n : Nat) (t : TGs) : TG := fun v σ H Q => ∃ a xs, v = .ref a ∧ SqT K H a xs ∧ xs.length = n ∧ t xs σ H Q
theorem pg_tup {es : List Expr} {k : Nat} {t : TGs} {n : Nat} (hc : X.calm = true) (h : PGs X es t)
    (hn : (assignEach es X.env).length = n := by rfl) (hst : (assignEach es X.env).findIdx? (·.1) = none := by rfl) : PG X (.Tuple es k pos) (gTup X.K n t) := by
  intro pins s σ H v u Q I r hw
  obtain ⟨a, xs, e1, hq, hl, hw⟩ := hw
  subst e1
  cases r
  obtain ⟨its, rv, ht, hz⟩ := I.tuple hq
  refine assign_Tuple_tuple (I.ok.hd hc) ht (by simp [hn, ← hl, rv.length]) hst fun h' hx => ?_
  have I1 : Inv X pins σ H { s with heap := h' } := I.kept (t' := s.toks) fun b o e => hx b o (Nat.ne_of_lt (Heap.lt_size e)) e
  exact h pins _ σ H xs _ Q I1 (by simpa using rv) hw
/-- o[i] = .. -/
def gSub (to ti : TE) (t : TSet) : TG := fun v σ H Q => to σ H fun o H1 => ti σ H1 fun i H2 => t o i v H2 fun H3 => Q σ H3
theorem pg_sub {o i : Expr} {to ti : TE} {t : TSet} (ho : PE X o to) (hi : PE X i ti) (hs : PSet X t)
    (ha : ∀ v, assign (.Subscript o i pos) X.env v = (do
      let ov ← holding [v] (eval o X.env)
      let iv ← holding [v, ov] (eval i X.env)
      standAt pos
      holding [v, ov, iv] (setItem ov iv v)
      release [v, ov, iv] []) := by intro _; rfl) : PG X (.Subscript o i pos) (gSub to ti t) := by
  intro pins s σ H v u Q I r h
  rw [ha]
  refine wpAny_bind (wpAny_holding (thn (ho pins s σ H _ I h) fun ov s1 ⟨x, H1, I1, r1, q1⟩ => ?_))
  refine wpAny_bind (wpAny_holding (thn (hi pins s1 σ H1 _ I1 q1) fun iv s2 ⟨y, H2, I2, r2, q2⟩ => ?_))
  refine wpAny_bind (wpAny_standAt (wpAny_bind (wpAny_holding (thn (hs pins s2 σ H2 x y v ov iv u _ I2 r1 r2 r q2) fun _ s3 ⟨H3, I3, q3⟩ => ?_))))
  exact wpAny_release ⟨σ, H3, I3, q3⟩
/-- target = value -/
def tAsg (te : TE) (g : TG) : TS := fun D σ H => te σ H fun x H1 => g x σ H1 D.nx
theorem ps_asg {tg e : Expr} {te : TE} {g : TG} (he : PE X e te) (hg : PG X tg g) (hs : swapsWithSole [tg] e pos.line X.env = pure false := by rfl) (hw : swappedStores [tg] e X.env = pure none := by rfl)
    (h1 : (assignEach [tg] X.env).map (·.2) = [assign tg X.env] := by rfl) : PS X (.Assign [tg] e pos) (tAsg te g) := by
  intro pins s σ H D I h
  refine wpAny_Assign_stores (thn (he pins s σ H _ I h) fun v s1 ⟨x, H1, I1, r1, q1⟩ => ?_) hs hw
  rw [h1]
  exact thn (hg pins s1 σ H1 x v _ I1 r1 q1) fun _ s2 q => q
/-- name = value -/
theorem ps_set {i : Nat} {x : Str} {e : Expr} {te : TE} {pos' : Pos} (hN : X.N.Nodup) (hi : X.N[i]? = some x) (hx : Loc X.env.scope x) (he : PE X e te) (hs : swapsWith e (some (.Name x pos')) pos.line X.env = pure false := by rfl) (hf : X.fn x = true ∨ X.env.scope.names.lookup x = some .local := by first | exact .inl rfl | exact .inr rfl | assumption) :
    PS X (.Assign [.Name x pos'] e pos) (tAsg te (gName i)) := by
  intro pins s σ H D I h
  refine wpAny_Assign_Name (thn (he pins s σ H _ I h) fun v s1 ⟨y, H1, I1, r1, q1⟩ => ?_) hs
  exact store_ok I1 hN hi hx r1 (fun s2 I2 => ⟨_, H1, I2, q1⟩) hf
end

/-! ### while -/
section
variable {X : Cx} {pos : Pos}
/-- the invariant W with its measure -/
def tWhile (c : TT) (tb : TS) : TS := fun D σ H => ∃ W : Nat → St → Hp → Prop, (∃ m, W m σ H) ∧ ∀ m σ H, W m σ H →
  c σ H fun b H1 => if b = true then ∃ N : St → Hp → Prop, (∀ σ' H', N σ' H' → ∃ m', m' < m ∧ W m' σ' H') ∧ tb { D with nx := N, ct := N, bk := D.nx } σ H1 else D.nx σ H1
theorem ps_while {c : Expr} {body : List Stmt} {tc : TT} {tb : TS} (hp : PassesOwn (model X.prog X.w) X.A X.env X.xe) (hc : PT X c tc) (hb : PSs X body tb) : PS X (.While c body [] pos) (tWhile tc tb) := by
  intro pins s σ H D I h
  obtain ⟨W, ⟨m0, w0⟩, turn⟩ := h
  refine wpAny_While (codeAny_whileLoop (fun n s' => ∃ σ' H', Inv X pins σ' H' s' ∧ W n σ' H') ?_ m0 ⟨σ, H, I, w0⟩)
  rintro n s1 ⟨σ1, H1, I1, w1⟩
  refine wpAny_passesOwn hp (thn (hc pins s1 σ1 H1 _ I1 (turn n σ1 H1 w1)) fun b s2 ⟨H2, I2, q2⟩ => ?_)
  cases b with
  | true =>
    obtain ⟨N, hN, q2⟩ := q2
    rw [if_pos rfl]
    refine wpAny_passesOwn hp (thn (hb pins s2 σ1 H2 _ I2 q2) fun f s3 q3 => ?_)
    cases f with
    | next =>
      obtain ⟨σ3, H3, I3, n3⟩ := q3
      obtain ⟨m', hm, w3⟩ := hN σ3 H3 n3
      exact ⟨m', hm, σ3, H3, I3, w3⟩
    | cont =>
      obtain ⟨σ3, H3, I3, n3⟩ := q3
      obtain ⟨m', hm, w3⟩ := hN σ3 H3 n3
      exact ⟨m', hm, σ3, H3, I3, w3⟩
    | brk => exact q3
    | ret v => exact q3
  | false =>
    rw [if_neg Bool.false_ne_true]
    exact wpAny_execs_nil ⟨σ1, H2, I2, q2⟩
end

/-! ### what a loop or a comprehension walks -/
/-- at turn i: it yields x (the heap may grow), or it stops -/
structure It where
  go : Nat → Hp → Prop
  yld : Nat → Hp → V → Hp → Prop
  stop : Nat → Hp → Prop
/-- the iterator's own objects may turn: they are not the frame's, not pinned, younger than the entry (or a comprehension's own) -/
def FpOk (X : Cx) (pins : List (Addr × Obj)) (H : Hp) (b : Addr) : Prop :=
  H b = none ∧ b ≠ X.env.locals ∧ b ∉ X.fs ∧ (b ∈ X.ex ∨ X.s_0.heap.objs.size ≤ b) ∧ (∀ x c, X.env.cells.lookup x = some c → c ≠ b) ∧ ∀ p ∈ X.pn ++ pins, p.1 ≠ b
theorem Inv.fpOk {X : Cx} {pins : List (Addr × Obj)} {σ : St} {H H' : Hp} {s : Shared} {b : Addr} (I : Inv X pins σ H s) (hb : s.heap.objs.size ≤ b) (hn : H' b = none) : FpOk X pins H' b := by
  refine ⟨hn, Nat.ne_of_gt (Nat.lt_of_lt_of_le I.lt hb), I.nofs hb, .inr (Nat.le_trans I.sz hb), fun x c e z => ?_, fun p hp z => ?_⟩
  · obtain ⟨v, q⟩ := I.cell x c e
    exact absurd (Nat.lt_of_lt_of_le q.lt (by rw [z]; exact hb)) (Nat.lt_irrefl _)
  · exact absurd (Nat.lt_of_lt_of_le (Heap.lt_size (I.pin p hp).1) (by rw [z]; exact hb)) (Nat.lt_irrefl _)
structure Turn (P : Program) (w : World) (K : PySem.W.Frag) (tg : Expr) (J : It) (fp : List Addr) (it : Addr) (tn : Nat → Heap → Prop) : Prop where
  mem : it ∈ fp
  obj : ∀ i h, tn i h → ∀ b ∈ fp, ∃ o, h.get? b = some o ∧ ∀ v, o.data ≠ .cell v
  keep : ∀ i h h', tn i h → (∀ b ∈ fp, ∀ o, h.get? b = some o → h'.get? b = some o) → tn i h'
  item : ∀ (X : Cx), X.prog = P → X.w = w → X.K = K → X.calm = true → ∀ (i : Nat) (pins : List (Addr × Obj)) (s : Shared) (σ : St) (H : Hp) (E : Value → Shared → Prop), Inv X pins σ H s → (∀ b ∈ fp, FpOk X pins H b) → tn i s.heap → J.go i H →
    wpAny (model P w) X.A (pyNext (.ref it)) (fun r s1 => ∃ u, r = some u ∧
      wpAny (model P w) X.A (letOwnedTupleGo tg (.ref it) u) (fun _ s2 => ∃ x H', Inv X pins σ H' s2 ∧ RelV x u ∧ J.yld i H x H' ∧ tn (i + 1) s2.heap ∧ ∀ b ∈ fp, H' b = none) E s1) E s
  done : ∀ (X : Cx), X.prog = P → X.w = w → X.K = K → X.calm = true → ∀ (i : Nat) (pins : List (Addr × Obj)) (s : Shared) (σ : St) (H : Hp) (E : Value → Shared → Prop), Inv X pins σ H s → (∀ b ∈ fp, FpOk X pins H b) → tn i s.heap → J.stop i H →
    wpAny (model P w) X.A (pyNext (.ref it)) (fun r s1 => r = none ∧ Inv X pins σ H s1) E s
  self : ∀ (A : Around) (i : Nat) (s : Shared) (Q : Value → Shared → Prop) (E : Value → Shared → Prop), tn i s.heap → Q (.ref it) s → wpAny (model P w) A (pyIter (.ref it)) Q E s
abbrev TI := St → Hp → (It → Hp → Prop) → Prop
/-- an iterator has come -/
def PIE (X : Cx) (pins : List (Addr × Obj)) (σ : St) (tg : Expr) (R : It → Hp → Prop) (itv : Value) (s2 : Shared) : Prop :=
  ∃ (it : Addr) (fp : List Addr) (tn : Nat → Heap → Prop) (J : It) (H' : Hp), itv = .ref it ∧ Inv X pins σ H' s2 ∧ Turn X.prog X.w X.K tg J fp it tn ∧ tn 0 s2.heap ∧ (∀ b ∈ fp, FpOk X pins H' b) ∧ R J H'
def PI (X : Cx) (tg iter : Expr) (wi : TI) : Prop :=
  ∀ (pins : List (Addr × Obj)) (s : Shared) (σ : St) (H : Hp) (R : It → Hp → Prop), Inv X pins σ H s → wi σ H R →
    wpAny (model X.prog X.w) X.A (eval iter X.env) (fun v s1 => wpAny (model X.prog X.w) X.A (pyIter v) (PIE X pins σ tg R) X.xe s1) X.xe s

/-- the step ahead of the store is nothing for an iterator that keeps no tuple -/
theorem go_of {M : Model} {A : Around} {E : Value → Shared → Prop} {s : Shared} {tg : Expr} {it : Addr} {u : Value} {o : Obj} {n : String} {vs : Array Value} {Q : Unit → Shared → Prop} (ho : s.heap.get? it = some o) (hc : o.cls = .type n) (hd : o.data = .fields vs)
    (hn : ["enumerate", "zip", "dict_itemiterator", "dict_reverseitemiterator", "odict_iterator", "itertools.zip_longest", "itertools.pairwise"].contains n = false) (hQ : Q () s) : wpAny M A (letOwnedTupleGo tg (.ref it) u) Q E s := by
  unfold letOwnedTupleGo
  cases tg <;> first
    | exact wpAny_pure hQ
    | (cases u <;> first
        | exact wpAny_pure hQ
        | (refine wpAny_bind (wpAny_load ho ?_)
           rw [hc, hd]
           show wpAny M A (if (["enumerate", "zip", "dict_itemiterator", "dict_reverseitemiterator", "odict_iterator", "itertools.zip_longest", "itertools.pairwise"].contains n && vs[0]? == some (rawInt _)) = true then _ else _) Q E s
           rw [if_neg (by intro h; rw [hn, Bool.false_and] at h; cases h)]
           exact wpAny_pure hQ))

/-- the list at a, as it stands at each turn (a loop may append to it) -/
def Itl (K : PySem.W.Frag) (a : Addr) : It :=
  ⟨fun i H => ∃ xs x, SqL K H a xs ∧ xs[i]? = some x, fun i H x H' => H' = H ∧ ∀ xs, SqL K H a xs → xs[i]? = some x, fun i H => ∃ xs, SqL K H a xs ∧ xs.length ≤ i⟩
/-- lo, lo + 1, .. (n of them) -/
def Itr (lo : Int) (n : Nat) : It := ⟨fun i _ => i < n, fun i H x H' => H' = H ∧ x = .int (lo + i), fun i _ => n ≤ i⟩
theorem turn_list {P : Program} {w : World} {K : PySem.W.Frag} {tg : Expr} (a it : Addr) : Turn P w K tg (Itl K a) [it] it (fun i h => h.IsListIter it a i) where
  mem := by simp
  obj := fun i h st b hb => by
    have e : b = it := by simpa using hb
    subst e
    obtain ⟨o, e, c, d⟩ := st
    exact ⟨o, e, fun v z => by rw [d] at z; cases z⟩
  keep := fun i h h' st k => st.at fun o e => k it (by simp) o e
  item := by
    intro X hP hw hK hc i pins s σ H E I hf st hg
    subst hP hw hK
    obtain ⟨xs, x, hq, hx⟩ := hg
    obtain ⟨its, rv, p, hz⟩ := I.list hq
    obtain ⟨u, hu, ru⟩ := rv.get hx
    obtain ⟨f0, f1, f2, f3, f4, f5⟩ := hf it (by simp)
    refine wpAny_pyNext_list_item st p.isList (x := u) (by simpa using hu) fun h' st' sb => ?_
    have I1 : Inv X pins σ H { s with heap := h' } := I.turned (t' := s.toks) (fun b o hb e => (sb.2 b hb).trans e) f0 f1 f3 f4 f5
    obtain ⟨o, e, c, d⟩ := id st'
    exact ⟨u, rfl, go_of (s := { s with heap := h' }) e c d (by decide) ⟨x, H, I1, ru, ⟨rfl, fun ys hy => by rw [I.list_inj hy hq]; exact hx⟩, st', fun b hb => (hf b hb).1⟩⟩
  done := by
    intro X hP hw hK hc i pins s σ H E I hf st hg
    subst hP hw hK
    obtain ⟨xs, hq, hx⟩ := hg
    obtain ⟨its, rv, p, hz⟩ := I.list hq
    obtain ⟨f0, f1, f2, f3, f4, f5⟩ := hf it (by simp)
    have hl := rv.length
    exact wpAny_pyNext_list_end (I.ok.hd hc) st p.isList (by simp; omega) fun h' eb => ⟨rfl, I.turned (t' := s.toks) (fun b o hb e => eb b o hb e) f0 f1 f3 f4 f5⟩
  self := fun _ _ _ _ _ st h => wpAny_pyIter_listiter st h
theorem turn_range {P : Program} {w : World} {K : PySem.W.Frag} {tg : Expr} (it : Addr) (lo : Int) (n : Nat) : Turn P w K tg (Itr lo n) [it] it (fun i h => IsRangeIter h it (lo + (i : Nat) * 1) ((n : Int) - (i : Nat)) 1) where
  mem := by simp
  obj := fun i h st b hb => by
    have e : b = it := by simpa using hb
    subst e
    exact ⟨_, st, fun v z => by
      have z' : Data.fields _ = Data.cell v := z
      cases z'⟩
  keep := fun i h h' st k => k it (by simp) _ st
  item := by
    intro X hP hw hK hc i pins s σ H E I hf st hg
    subst hP hw hK
    obtain ⟨f0, f1, f2, f3, f4, f5⟩ := hf it (by simp)
    have W := Walks.range (prog := X.prog) (w := X.w) (I.ok.hd hc) it lo 1 n
    refine W.item i s _ _ hg st fun v h' tk hv st' kk => ?_
    obtain ⟨t, rfl⟩ := hv
    have I1 : Inv X pins σ H { s with heap := h', toks := tk } := I.turned (fun b o hb e => kk b o (by simpa using hb) e) f0 f1 f3 f4 f5
    refine ⟨_, rfl, go_of (s := { s with heap := h', toks := tk }) (n := "range_iterator") st' rfl rfl (by decide) ⟨.int (lo + i), H, I1, ⟨t, ?_⟩, ⟨rfl, rfl⟩, st', fun b hb => (hf b hb).1⟩⟩
    rw [Int.mul_one]
  done := by
    intro X hP hw hK hc i pins s σ H E I hf st hg
    subst hP hw hK
    obtain ⟨f0, f1, f2, f3, f4, f5⟩ := hf it (by simp)
    exact wpAny_pyNext_range_end (I.ok.hd hc) st (by have : n ≤ i := hg; omega) fun h' eb => ⟨rfl, I.turned (t' := s.toks) (fun b o hb e => eb b o hb e) f0 f1 f3 f4 f5⟩
  self := fun _ _ _ _ _ st h => wpAny_pyIter_rangeiter st h
end L2

namespace L2
open PySem PySem.Spec PyProof.Rows
section
variable {X : Cx} {tg : Expr}
def iList (K : PySem.W.Frag) (tl : TE) : TI := fun σ H R => tl σ H fun x H1 => ∃ a, x = .ref a ∧ (∃ xs, SqL K H1 a xs) ∧ R (Itl K a) H1
theorem pi_list {l : Expr} {tl : TE} (hl : PE X l tl) : PI X tg l (iList X.K tl) := by
  intro pins s σ H R I h
  refine thn (hl pins s σ H _ I h) fun v s1 ⟨x, H1, I1, r1, q1⟩ => ?_
  obtain ⟨a, e, ⟨xs, hq⟩, q⟩ := q1
  subst e
  cases r1
  obtain ⟨its, rv, p, hz⟩ := I1.list hq
  refine wpAny_pyIter_list p.isList ?_
  refine ⟨s1.heap.objs.size, [s1.heap.objs.size], _, _, H1, rfl, I1.kept (t' := s1.toks) fun b o e => Heap.get?_push_of_some _ e, turn_list a _, ⟨_, Heap.get?_push_size _ rfl, rfl, rfl⟩, fun b hb => ?_, q⟩
  have e : b = s1.heap.objs.size := by simpa using hb
  subst e
  exact I1.fpOk (Nat.le_refl _) (I1.hok.fresh (Nat.le_refl _))
/-- a range object just made, walked -/
theorem range_it {pins : List (Addr × Obj)} {σ : St} {H : Hp} {s : Shared} {R : It → Hp → Prop} {E : Value → Shared → Prop} {lo hi : Int} {t u v : Tok} {tk : Nat} (I : Inv X pins σ H s) (h1 : -(2 ^ 62) ≤ lo) (h2 : lo < 2 ^ 62) (h3 : -(2 ^ 62) ≤ hi) (h4 : hi < 2 ^ 62)
    (q : R (Itr lo (hi - lo).toNat) H) : wpAny (model X.prog X.w) X.A (pyIter (.ref s.heap.objs.size)) (PIE X pins σ tg R) E { s with heap := s.heap.push { cls := .type "range", data := .fields #[.int lo t, .int hi u, .int 1 v] }, toks := tk } := by
  refine wpAny_pyIter_range (IsRange.new ..) (small_one h1 h2 h3 h4) ?_
  have I1 : Inv X pins σ H { s with heap := s.heap.push { cls := .type "range", data := .fields #[.int lo t, .int hi u, .int 1 v] }, toks := tk } := I.kept fun b o e => Heap.get?_push_of_some _ e
  refine ⟨(s.heap.push { cls := .type "range", data := .fields #[.int lo t, .int hi u, .int 1 v] }).objs.size, [(s.heap.push { cls := .type "range", data := .fields #[.int lo t, .int hi u, .int 1 v] }).objs.size], _, _, H, rfl,
    I1.kept (t' := tk) fun b o e => Heap.get?_push_of_some _ e, turn_range _ lo (hi - lo).toNat, ?_, fun b hb => ?_, q⟩
  · have e1 : lo + ((0 : Nat) : Int) * 1 = lo := by simp
    have e2 : (((hi - lo).toNat : Nat) : Int) - ((0 : Nat) : Int) = Builtin.Range.rangeSize lo hi 1 := by rw [rangeSize_one]; split <;> omega
    show IsRangeIter _ _ (lo + ((0 : Nat) : Int) * 1) ((((hi - lo).toNat : Nat) : Int) - ((0 : Nat) : Int)) 1
    rw [e1, e2]
    exact Heap.get?_push_size _ rfl
  · have e : b = (s.heap.push { cls := .type "range", data := .fields #[.int lo t, .int hi u, .int 1 v] }).objs.size := by simpa using hb
    subst e
    exact I1.fpOk (Nat.le_refl _) (I1.hok.fresh (Nat.le_refl _))
def iRng1 (ta : TA) : TI := fun σ H R => ta σ H fun vs H1 => ∃ j : Int, vs = [.int j] ∧ -(2 ^ 62) ≤ j ∧ j < 2 ^ 62 ∧ R (Itr 0 j.toNat) H1
theorem pi_range1 {a : Expr} {ta : TA} {p pos : Pos} (hg : Gl X "range") (hm : X.mg "range" = none) (ha : PA X [a] ta) (hs : starEach [a] X.env = [(false, eval a X.env)] := by rfl) : PI X tg (.Call (.Name "range" p) [a] [] pos) (iRng1 ta) := by
  intro pins s σ H R I h
  refine Call_ (ld_blt I hg hm boot_range (PyProof.Rows.callWith_type1 (thn (ha pos pins s σ H _ I h) fun us s1 ⟨vs, H1, I1, r1, q1⟩ => ?_) hs rfl))
  obtain ⟨j, e, q1, q2, q⟩ := q1
  subst e
  cases r1 with
  | cons r rr =>
    cases rr
    obtain ⟨t, rfl⟩ := r
    exact call_range_1 (range_it I1 (by omega) (by omega) q1 q2 (by simpa using q))
/-! ### for -/
/-- W: the invariant by the turn and a measure; N: what the body is to reach -/
def tFor (wi : TI) (g : TG) (tb : TS) : TS := fun D σ H => wi σ H fun J H1 => ∃ W : Nat → Nat → St → Hp → Prop, (∃ m, W 0 m σ H1) ∧ ∀ i m σ H, W i m σ H →
  (J.stop i H ∧ D.nx σ H) ∨ (J.go i H ∧ ∃ N : St → Hp → Prop, (∀ σ' H', N σ' H' → ∃ m', m' < m ∧ W (i + 1) m' σ' H') ∧ ∀ x H', J.yld i H x H' → g x σ H' fun σ2 H2 => tb { D with nx := N, ct := N, bk := D.nx } σ2 H2)
/-- the records at fp as they stand -/
def pinsAt (fp : List Addr) (h : Heap) : List (Addr × Obj) := fp.filterMap fun b => (h.get? b).map fun o => (b, o)
theorem mem_pinsAt {fp : List Addr} {h : Heap} {b : Addr} {o : Obj} (hb : b ∈ fp) (e : h.get? b = some o) : (b, o) ∈ pinsAt fp h := List.mem_filterMap.mpr ⟨b, hb, by rw [e]; rfl⟩
theorem of_pinsAt {fp : List Addr} {h : Heap} {p : Addr × Obj} (hp : p ∈ pinsAt fp h) : p.1 ∈ fp ∧ h.get? p.1 = some p.2 := by
  obtain ⟨b, hb, e⟩ := List.mem_filterMap.mp hp
  cases q : h.get? b with
  | none => rw [q] at e; cases e
  | some o =>
    rw [q] at e
    have e' : (b, o) = p := Option.some.inj e
    subst e'
    exact ⟨hb, q⟩
theorem Inv.pinned {pins : List (Addr × Obj)} {σ : St} {H : Hp} {s : Shared} {fp : List Addr} (I : Inv X pins σ H s) (hf : ∀ b ∈ fp, FpOk X pins H b) (ho : ∀ b ∈ fp, ∃ o, s.heap.get? b = some o ∧ ∀ v, o.data ≠ .cell v) : Inv X (pins ++ pinsAt fp s.heap) σ H s :=
  I.pins_of fun p hp => (List.mem_append.mp hp).elim (fun z => I.pin p (List.mem_append_right _ z)) fun z => by
    obtain ⟨hb, e⟩ := of_pinsAt z
    obtain ⟨f0, f1, f2, _⟩ := hf p.1 hb
    obtain ⟨o, e', d⟩ := ho p.1 hb
    rw [e] at e'; cases e'
    exact ⟨e, f0, f1, f2, d⟩
theorem Inv.unpinned {pins pl : List (Addr × Obj)} {σ : St} {H : Hp} {s : Shared} (I : Inv X (pins ++ pl) σ H s) : Inv X pins σ H s := I.pins_of fun p hp => I.pin p (List.mem_append_right _ (List.mem_append_left _ hp))
theorem ps_for {iter : Expr} {body : List Stmt} {wi : TI} {g : TG} {tb : TS} {pos : Pos} (hp : PassesOwn (model X.prog X.w) X.A X.env X.xe) (hc : X.calm = true) (hi : PI X tg iter wi) (hg : PG X tg g) (hb : PSs X body tb)
    (hs : ∀ x, foldedSetIterable iter X.env x = pure x := by intro _; rfl) : PS X (.For tg iter body [] pos) (tFor wi g tb) := by
  intro pins s σ H D I h
  refine wpAny_For (thn (hi pins s σ H _ I h) fun v s1 h1 => thn h1 fun itv s2 h2 => ?_) hs
  obtain ⟨it, fp, tn, J, H2, e, I2, T, st2, f2, W, ⟨m0, w0⟩, turn⟩ := h2
  subst e
  -- what stays true of the iterator's objects through the loop
  have stat : ∀ {H' : Hp}, (∀ b ∈ fp, H' b = none) → ∀ b ∈ fp, FpOk X pins H' b := fun hn b hb => ⟨hn b hb, (f2 b hb).2⟩
  refine codeAny_forLoop_any (fun n s' => ∃ i σ' H', Inv X pins σ' H' s' ∧ tn i s'.heap ∧ (∀ b ∈ fp, H' b = none) ∧ W i n σ' H') ?_ m0 ⟨0, σ, H2, I2, st2, fun b hb => (f2 b hb).1, w0⟩
  rintro n s3 ⟨i, σ3, H3, I3, st3, fr3, w3⟩
  rcases turn i n σ3 H3 w3 with ⟨stop, qn⟩ | ⟨go, N, hN, step⟩
  · refine wpAny_passesOwn hp (thn (T.done X rfl rfl rfl hc i pins s3 σ3 H3 X.xe I3 (stat fr3) st3 stop) fun r s4 ⟨hr, I4⟩ => ?_)
    subst hr
    exact wpAny_execs_nil ⟨σ3, H3, I4, qn⟩
  · refine wpAny_passesOwn hp (thn (T.item X rfl rfl rfl hc i pins s3 σ3 H3 X.xe I3 (stat fr3) st3 go) fun r s4 ⟨u, hr, h4⟩ => ?_)
    subst hr
    refine wpAny_passesOwn hp (thn h4 fun _ s5 ⟨x, H5, I5, r5, y5, st5, fr5⟩ => ?_)
    have I5' := I5.pinned (stat fr5) (T.obj _ _ st5)
    refine wpAny_passesOwn hp (thn (hg _ s5 σ3 H5 x u _ I5' r5 (step x H5 y5)) fun _ s6 ⟨σ6, H6, I6, q6⟩ => ?_)
    refine wpAny_passesOwn hp (thn (hb _ s6 σ6 H6 _ I6 q6) fun f s7 q7 => ?_)
    have again : ∀ {σ7 : St} {H7 : Hp}, Inv X (pins ++ pinsAt fp s5.heap) σ7 H7 s7 → N σ7 H7 → ∃ m, m < n ∧ ∃ i σ' H', Inv X pins σ' H' s7 ∧ tn i s7.heap ∧ (∀ b ∈ fp, H' b = none) ∧ W i m σ' H' := fun {σ7 H7} I7 n7 => by
      obtain ⟨m', hm, w7⟩ := hN σ7 H7 n7
      refine ⟨m', hm, i + 1, σ7, H7, I7.unpinned, T.keep _ _ _ st5 fun b hb o e => (I7.pin (b, o) (List.mem_append_right _ (List.mem_append_right _ (mem_pinsAt hb e)))).1, fun b hb => ?_, w7⟩
      obtain ⟨o, e, d⟩ := T.obj _ _ st5 b hb
      exact (I7.pin (b, o) (List.mem_append_right _ (List.mem_append_right _ (mem_pinsAt hb e)))).2.1
    cases f with
    | next => obtain ⟨σ7, H7, I7, n7⟩ := q7; exact again I7 n7
    | cont => obtain ⟨σ7, H7, I7, n7⟩ := q7; exact again I7 n7
    | brk => obtain ⟨σ7, H7, I7, q7⟩ := q7; exact ⟨σ7, H7, I7.unpinned, q7⟩
    | ret v => obtain ⟨x7, σ7, H7, I7, r7, q7⟩ := q7; exact ⟨x7, σ7, H7, I7.unpinned, r7, q7⟩
end

/-! ### the forms one uses -/
/-- over a list that the body leaves as it is -/
theorem for_list {K : PySem.W.Frag} {a : Addr} {xs : List V} {g : TG} {tb : TS} {D : Ends} {σ : St} {H : Hp} (Pv : Nat → St → Hp → Prop) (h0 : Pv 0 σ H) (hl : ∀ i σ H, i ≤ xs.length → Pv i σ H → SqL K H a xs)
    (hs : ∀ i x σ H, xs[i]? = some x → Pv i σ H → g x σ H fun σ2 H2 => tb { D with nx := Pv (i + 1), ct := Pv (i + 1), bk := D.nx } σ2 H2) (hd : ∀ σ H, Pv xs.length σ H → D.nx σ H) :
    ∃ W : Nat → Nat → St → Hp → Prop, (∃ m, W 0 m σ H) ∧ ∀ i m σ H, W i m σ H →
      ((Itl K a).stop i H ∧ D.nx σ H) ∨ ((Itl K a).go i H ∧ ∃ N : St → Hp → Prop, (∀ σ' H', N σ' H' → ∃ m', m' < m ∧ W (i + 1) m' σ' H') ∧ ∀ x H', (Itl K a).yld i H x H' → g x σ H' fun σ2 H2 => tb { D with nx := N, ct := N, bk := D.nx } σ2 H2) := by
  refine ⟨fun i m σ H => m = xs.length - i ∧ i ≤ xs.length ∧ Pv i σ H, ⟨xs.length, by simp, Nat.zero_le _, h0⟩, ?_⟩
  rintro i m σ H ⟨rfl, hi, p⟩
  have q := hl i σ H hi p
  by_cases hlt : i < xs.length
  · refine .inr ⟨⟨xs, xs[i], q, by simp [hlt]⟩, Pv (i + 1), fun σ' H' p' => ⟨xs.length - (i + 1), by omega, rfl, hlt, p'⟩, fun x H' y => ?_⟩
    obtain ⟨e, y⟩ := y
    subst e
    exact hs i x σ _ (y xs q) p
  · have e : i = xs.length := by omega
    subst e
    exact .inl ⟨⟨xs, q, Nat.le_refl _⟩, hd σ H p⟩
theorem for_range {lo : Int} {n : Nat} {g : TG} {tb : TS} {D : Ends} {σ : St} {H : Hp} (Pv : Nat → St → Hp → Prop) (h0 : Pv 0 σ H)
    (hs : ∀ i σ H, i < n → Pv i σ H → g (.int (lo + i)) σ H fun σ2 H2 => tb { D with nx := Pv (i + 1), ct := Pv (i + 1), bk := D.nx } σ2 H2) (hd : ∀ σ H, Pv n σ H → D.nx σ H) :
    ∃ W : Nat → Nat → St → Hp → Prop, (∃ m, W 0 m σ H) ∧ ∀ i m σ H, W i m σ H →
      ((Itr lo n).stop i H ∧ D.nx σ H) ∨ ((Itr lo n).go i H ∧ ∃ N : St → Hp → Prop, (∀ σ' H', N σ' H' → ∃ m', m' < m ∧ W (i + 1) m' σ' H') ∧ ∀ x H', (Itr lo n).yld i H x H' → g x σ H' fun σ2 H2 => tb { D with nx := N, ct := N, bk := D.nx } σ2 H2) := by
  refine ⟨fun i m σ H => m = n - i ∧ i ≤ n ∧ Pv i σ H, ⟨n, by simp, Nat.zero_le _, h0⟩, ?_⟩
  rintro i m σ H ⟨rfl, hi, p⟩
  by_cases hlt : i < n
  · refine .inr ⟨hlt, Pv (i + 1), fun σ' H' p' => ⟨n - (i + 1), by omega, rfl, hlt, p'⟩, fun x H' y => ?_⟩
    obtain ⟨e, y⟩ := y
    subst e y
    exact hs i σ _ hlt p
  · have e : i = n := by omega
    subst e
    exact .inl ⟨Nat.le_refl _, hd σ H p⟩
/-- while, by a word and a measure of the state -/
theorem while_by {c : TT} {tb : TS} {D : Ends} {σ : St} {H : Hp} (Pv : St → Hp → Prop) (μ : St → Hp → Nat) (h0 : Pv σ H)
    (hs : ∀ σ H, Pv σ H → c σ H fun b H1 => if b = true then tb { D with nx := fun σ' H' => Pv σ' H' ∧ μ σ' H' < μ σ H, ct := fun σ' H' => Pv σ' H' ∧ μ σ' H' < μ σ H, bk := D.nx } σ H1 else D.nx σ H1)
    (mono : ∀ σ H Q Q', (∀ b H1, Q b H1 → Q' b H1) → c σ H Q → c σ H Q') : tWhile c tb D σ H := by
  refine ⟨fun m σ H => m = μ σ H ∧ Pv σ H, ⟨_, rfl, h0⟩, ?_⟩
  rintro m σ H ⟨rfl, p⟩
  refine mono σ H _ _ (fun b H1 q => ?_) (hs σ H p)
  cases b with
  | true => exact ⟨_, fun σ' H' ⟨p', l⟩ => ⟨_, l, rfl, p'⟩, q⟩
  | false => exact q
end L2

namespace L2
open PySem PySem.Spec PyProof.Rows

abbrev R2 := V → V → Hp → VK → Prop
/-- a two-place operation on values: f is binaryOp op, inplaceOp op or compareOp op -/
def OpR (X : Cx) (f : Value → Value → Sem Value) (r : R2) : Prop :=
  ∀ (pins : List (Addr × Obj)) (s : Shared) (σ : St) (H : Hp) (x y : V) (v u : Value) (Q : VK), Inv X pins σ H s → RelV x v → RelV y u → r x y H Q →
    wpAny (model X.prog X.w) X.A (f v u) (EP X pins σ Q) X.xe s
/-- a call of a value that is known (a builtin, a type) with values -/
def CallR (X : Cx) (f : Value) (r : List V → Hp → VK → Prop) : Prop :=
  ∀ (pins : List (Addr × Obj)) (s : Shared) (σ : St) (H : Hp) (xs : List V) (us : List Value) (Q : VK), Inv X pins σ H s → Vals xs us → r xs H Q →
    wpAny (model X.prog X.w) X.A (call f us) (EP X pins σ Q) X.xe s
def tOp (r : R2) (ta tb : TE) : TE := fun σ H Q => ta σ H fun x H1 => tb σ H1 fun y H2 => r x y H2 Q
/-- ints in, under C, and a value out -/
def rI (C : Int → Int → Prop) (g : Int → Int → V) : R2 := fun x y H Q => ∃ i j, x = .int i ∧ y = .int j ∧ C i j ∧ Q (g i j) H
def rI0 (g : Int → Int → V) : R2 := fun x y H Q => ∃ i j, x = .int i ∧ y = .int j ∧ Q (g i j) H
section
variable {X : Cx} {a b c : Expr} {ta tb tc : TE} {pos : Pos}

theorem binT (ha : PE X a ta) (hb : PE X b tb) {pins : List (Addr × Obj)} {s : Shared} {σ : St} {H : Hp} {R : V → V → Hp → Prop} (I : Inv X pins σ H s)
    (h : ta σ H fun x H1 => tb σ H1 fun y H2 => R x y H2) {Q : Value → Shared → Prop} {f : Value → Value → Sem Value}
    (hf : ∀ v u s2 x y H2, Inv X pins σ H2 s2 → RelV x v → RelV y u → R x y H2 → wpAny (model X.prog X.w) X.A (f v u) Q X.xe s2) :
    wpAny (model X.prog X.w) X.A (eval a X.env) (fun v s₁ => wpAny (model X.prog X.w) X.A (eval b X.env) (fun u s₂ => wpAny (model X.prog X.w) X.A (f v u) Q X.xe s₂) X.xe s₁) X.xe s := by
  refine thn (ha pins s σ H _ I h) fun v s1 ⟨x, H1, I1, r1, q1⟩ => ?_
  refine thn (hb pins s1 σ H1 _ I1 q1) fun u s2 ⟨y, H2, I2, r2, q2⟩ => ?_
  exact hf v u s2 x y H2 I2 r1 r2 q2

theorem pe_op {op : Operator} {r : R2} (ho : OpR X (binaryOp op) r) (ha : PE X a ta) (hb : PE X b tb) : PE X (.BinOp a op b pos) (tOp r ta tb) := by
  intro pins s σ H Q I h
  exact wpAny_BinOp (binT ha hb I h fun v u s2 x y H2 I2 rx ry q => ho pins s2 σ H2 x y v u Q I2 rx ry q)
/-! ### ints -/
theorem opI {f : Value → Value → Sem Value} {C : Int → Int → Prop} {g : Int → Int → Int}
    (rule : ∀ (i j : Int) (t u : Tok) (s : Shared) (Q : Value → Shared → Prop) (E : Value → Shared → Prop), C i j → Q (.int (g i j) s.toks) { s with toks := s.toks + 1 } → wpAny (model X.prog X.w) X.A (f (.int i t) (.int j u)) Q E s) :
    OpR X f (rI C fun i j => .int (g i j)) := by
  intro pins s σ H x y v u Q I rx ry h
  obtain ⟨i, j, rfl, rfl, hc, q⟩ := h
  obtain ⟨t, rfl⟩ := rx
  obtain ⟨t', rfl⟩ := ry
  exact rule i j t t' s _ _ hc ⟨.int (g i j), H, I.tok _, ⟨_, rfl⟩, q⟩
theorem opI0 {f : Value → Value → Sem Value} {g : Int → Int → Int}
    (rule : ∀ (i j : Int) (t u : Tok) (s : Shared) (Q : Value → Shared → Prop) (E : Value → Shared → Prop), Q (.int (g i j) s.toks) { s with toks := s.toks + 1 } → wpAny (model X.prog X.w) X.A (f (.int i t) (.int j u)) Q E s) :
    OpR X f (rI0 fun i j => .int (g i j)) := by
  intro pins s σ H x y v u Q I rx ry h
  obtain ⟨i, j, rfl, rfl, q⟩ := h
  obtain ⟨t, rfl⟩ := rx
  obtain ⟨t', rfl⟩ := ry
  exact rule i j t t' s _ _ ⟨.int (g i j), H, I.tok _, ⟨_, rfl⟩, q⟩
theorem opB0 {f : Value → Value → Sem Value} {g : Int → Int → Bool}
    (rule : ∀ (i j : Int) (t u : Tok) (s : Shared) (Q : Value → Shared → Prop) (E : Value → Shared → Prop), Q (.bool (g i j)) s → wpAny (model X.prog X.w) X.A (f (.int i t) (.int j u)) Q E s) :
    OpR X f (rI0 fun i j => .bl (g i j)) := by
  intro pins s σ H x y v u Q I rx ry h
  obtain ⟨i, j, rfl, rfl, q⟩ := h
  obtain ⟨t, rfl⟩ := rx
  obtain ⟨t', rfl⟩ := ry
  exact rule i j t t' s _ _ ⟨.bl (g i j), H, I, rfl, q⟩

def CPow (i j : Int) : Prop := 0 ≤ j ∧ j ≤ 1000000 ∧ i.natAbs < 2 ^ 64
def CMul (i j : Int) : Prop := (-(2 ^ 64) < i ∧ i < 2 ^ 64) ∨ (-(2 ^ 64) < j ∧ j < 2 ^ 64)
theorem CMul.ok {i j : Int} (h : CMul i j) : IntMulOk i j := by
  rcases h with ⟨h1, h2⟩ | ⟨h1, h2⟩
  · exact .of_left (intBits_le_64 h1 h2)
  · exact .of_right (intBits_le_64 h1 h2)
theorem two_pow_nn (k : Nat) : (0 : Int) ≤ 2 ^ k := by
  rw [two_pow_cast]
  exact Int.natCast_nonneg _

theorem op_add : OpR X (binaryOp .Add) (rI0 fun i j => .int (i + j)) := opI0 fun _ _ _ _ _ _ _ q => add_int q
theorem op_sub : OpR X (binaryOp .Sub) (rI0 fun i j => .int (i - j)) := opI0 fun _ _ _ _ _ _ _ q => sub_int q
theorem op_mul : OpR X (binaryOp .Mult) (rI CMul fun i j => .int (i * j)) := opI fun _ _ _ _ _ _ _ hc q => mul_int q hc.ok
/-- % by a positive divisor of any size -/
theorem op_mod : OpR X (binaryOp .Mod) (rI (fun _ j => 0 < j) fun i j => .int (i % j)) := opI fun i j _ _ _ _ _ hc q => by
  have h1 : (0 : Int) < j := hc
  exact mod_int' (by omega) (by rw [Int.fmod_eq_emod_of_nonneg i (by omega)]; exact q)
theorem op_shl : OpR X (binaryOp .LShift) (rI CPow fun i j => .int (i * 2 ^ j.toNat)) := opI fun _ _ _ _ _ _ _ hc q => lshift_int_small hc.1 hc.2.1 hc.2.2 q
theorem op_shr : OpR X (binaryOp .RShift) (rI (fun _ j => 0 ≤ j) fun i j => .int (i / 2 ^ j.toNat)) := opI fun i j _ _ _ _ _ hc q =>
  rshift_int hc (by rw [Int.fdiv_eq_ediv_of_nonneg i (two_pow_nn _)]; exact q)
theorem op_and : OpR X (binaryOp .BitAnd) (rI0 fun i j => .int (Builtin.bitAnd i j)) := opI0 fun _ _ _ _ _ _ _ q => and_int q
/-! ### bools among ints: n += (a < b) -/
end

/-! ### comparisons -/
/-- the scalars that == tells apart as data does -/
def scal : V → V → Bool
  | .non, .non => true | .non, .int _ => true | .int _, .non => true | .non, .bl _ => true | .bl _, .non => true | .non, .str _ => true | .str _, .non => true
  | .int _, .int _ => true | .bl _, .bl _ => true | .str _, .str _ => true | .byt _, .byt _ => true
  | .int _, .str _ => true | .str _, .int _ => true | .bl _, .str _ => true | .str _, .bl _ => true
  | _, _ => false
def rEq : R2 := fun x y H Q => scal x y = true ∧ Q (.bl (decide (x = y))) H
def rNe : R2 := fun x y H Q => scal x y = true ∧ Q (.bl (!decide (x = y))) H

theorem dec_int {i j : Int} : decide (V.int i = V.int j) = (i == j) := by
  rw [Bool.eq_iff_iff]
  simp
theorem dec_bl {i j : Bool} : decide (V.bl i = V.bl j) = (i == j) := by
  rw [Bool.eq_iff_iff]
  simp
theorem dec_str {i j : Str} : decide (V.str i = V.str j) = (i == j) := by
  rw [Bool.eq_iff_iff]
  simp
theorem dec_byt {i j : Array UInt8} : decide (V.byt i = V.byt j) = (i.toList == j.toList) := by
  rw [Bool.eq_iff_iff]
  cases i
  cases j
  simp

section
variable {X : Cx} {a b c : Expr} {ta tb tc : TE} {pos : Pos}
theorem fin_bl {pins : List (Addr × Obj)} {σ : St} {H : Hp} {s : Shared} {Q : VK} {k k' : Bool} (I : Inv X pins σ H s) (q : Q (.bl k) H) (e : k = k') : EP X pins σ Q (.bool k') s := by
  subst e
  exact ⟨.bl k, H, I, rfl, q⟩
theorem op_eq : OpR X (compareOp .Eq) rEq := by
  intro pins s σ H x y v u Q I rx ry h
  obtain ⟨hs, q⟩ := h
  cases x with
  | non =>
    cases rx
    cases y with
    | non => cases ry; exact PySem.EqNone.eq_none_none (fin_bl I q (by simp))
    | bl j => cases ry; exact PySem.EqNone.eq_none_bool (fin_bl I q (by simp))
    | int j => obtain ⟨t', rfl⟩ := ry; exact PySem.EqNone.eq_none_int (fin_bl I q (by simp))
    | str j => obtain ⟨t', rfl⟩ := ry; exact PySem.EqNone.eq_none_str (fin_bl I q (by simp))
    | _ => exact absurd (show false = true from hs) Bool.false_ne_true
  | bl i =>
    cases rx
    cases y with
    | non => cases ry; exact PySem.EqNone.eq_bool_none (fin_bl I q (by simp))
    | bl j => cases ry; exact eq_bool (fin_bl I q dec_bl)
    | str j => obtain ⟨t', rfl⟩ := ry; exact PySem.EqMixed.eq_bool_str (fin_bl I q (by simp))
    | _ => exact absurd (show false = true from hs) Bool.false_ne_true
  | int i =>
    obtain ⟨t, rfl⟩ := rx
    cases y with
    | non => cases ry; exact PySem.EqNone.eq_int_none (fin_bl I q (by simp))
    | int j => obtain ⟨t', rfl⟩ := ry; exact eq_int (fin_bl I q dec_int)
    | str j => obtain ⟨t', rfl⟩ := ry; exact PySem.EqMixed.eq_int_str (fin_bl I q (by simp))
    | _ => exact absurd (show false = true from hs) Bool.false_ne_true
  | str i =>
    obtain ⟨t, rfl⟩ := rx
    cases y with
    | non => cases ry; exact PySem.EqNone.eq_str_none (fin_bl I q (by simp))
    | bl j => cases ry; exact PySem.EqMixed.eq_str_bool (fin_bl I q (by simp))
    | int j => obtain ⟨t', rfl⟩ := ry; exact PySem.EqMixed.eq_str_int (fin_bl I q (by simp))
    | str j => obtain ⟨t', rfl⟩ := ry; exact eq_str (fin_bl I q dec_str)
    | _ => exact absurd (show false = true from hs) Bool.false_ne_true
  | byt i =>
    obtain ⟨t, rfl⟩ := rx
    cases y with
    | byt j => obtain ⟨t', rfl⟩ := ry; exact PySem.W.eq_bytes (fin_bl I q dec_byt)
    | _ => exact absurd (show false = true from hs) Bool.false_ne_true
  | _ => cases y <;> exact absurd (show false = true from hs) Bool.false_ne_true
theorem op_ne : OpR X (compareOp .NotEq) rNe := by
  intro pins s σ H x y v u Q I rx ry h
  obtain ⟨hs, q⟩ := h
  cases x with
  | non =>
    cases rx
    cases y with
    | non => cases ry; exact PySem.EqNone.ne_none_none (fin_bl I q (by simp))
    | bl j => cases ry; exact PySem.EqNone.ne_none_bool (fin_bl I q (by simp))
    | int j => obtain ⟨t', rfl⟩ := ry; exact PySem.EqNone.ne_none_int (fin_bl I q (by simp))
    | str j => obtain ⟨t', rfl⟩ := ry; exact PySem.EqNone.ne_none_str (fin_bl I q (by simp))
    | _ => exact absurd (show false = true from hs) Bool.false_ne_true
  | bl i =>
    cases rx
    cases y with
    | non => cases ry; exact PySem.EqNone.ne_bool_none (fin_bl I q (by simp))
    | bl j => cases ry; exact ne_bool (fin_bl I q (congrArg not dec_bl))
    | str j => obtain ⟨t', rfl⟩ := ry; exact PySem.EqMixed.ne_bool_str (fin_bl I q (by simp))
    | _ => exact absurd (show false = true from hs) Bool.false_ne_true
  | int i =>
    obtain ⟨t, rfl⟩ := rx
    cases y with
    | non => cases ry; exact PySem.EqNone.ne_int_none (fin_bl I q (by simp))
    | int j => obtain ⟨t', rfl⟩ := ry; exact ne_int (fin_bl I q (congrArg not dec_int))
    | str j => obtain ⟨t', rfl⟩ := ry; exact PySem.EqMixed.ne_int_str (fin_bl I q (by simp))
    | _ => exact absurd (show false = true from hs) Bool.false_ne_true
  | str i =>
    obtain ⟨t, rfl⟩ := rx
    cases y with
    | non => cases ry; exact PySem.EqNone.ne_str_none (fin_bl I q (by simp))
    | bl j => cases ry; exact PySem.EqMixed.ne_str_bool (fin_bl I q (by simp))
    | int j => obtain ⟨t', rfl⟩ := ry; exact PySem.EqMixed.ne_str_int (fin_bl I q (by simp))
    | str j => obtain ⟨t', rfl⟩ := ry; exact ne_str (fin_bl I q (congrArg not dec_str))
    | _ => exact absurd (show false = true from hs) Bool.false_ne_true
  | byt i =>
    obtain ⟨t, rfl⟩ := rx
    cases y with
    | byt j => obtain ⟨t', rfl⟩ := ry; exact PySem.W.ne_bytes (fin_bl I q (congrArg not dec_byt))
    | _ => exact absurd (show false = true from hs) Bool.false_ne_true
  | _ => cases y <;> exact absurd (show false = true from hs) Bool.false_ne_true

theorem op_lt : OpR X (compareOp .Lt) (rI0 fun i j => .bl (decide (i < j))) := opB0 fun _ _ _ _ _ _ _ q => lt_int q
theorem op_gt : OpR X (compareOp .Gt) (rI0 fun i j => .bl (decide (j < i))) := opB0 fun _ _ _ _ _ _ _ q => gt_int q
/-- two rules for one operation: by cases -/
theorem OpR.or {f : Value → Value → Sem Value} {r r' : R2} (h : OpR X f r) (h' : OpR X f r') : OpR X f (fun x y H Q => r x y H Q ∨ r' x y H Q) := by
  intro pins s σ H x y v u Q I rx ry q
  rcases q with q | q
  · exact h pins s σ H x y v u Q I rx ry q
  · exact h' pins s σ H x y v u Q I rx ry q

theorem nomark (b : Expr) {op : CmpOp} (h : op ≠ .In := by decide) (h2 : op ≠ .NotIn := by decide) : behindInMarks op b = false := by
  have e1 : (op == CmpOp.In) = false := by cases op <;> first | rfl | exact absurd rfl h
  have e2 : (op == CmpOp.NotIn) = false := by cases op <;> first | rfl | exact absurd rfl h2
  cases b <;> simp [behindInMarks, e1, e2]
/-- a comparison as a value; hm: nomark b, or (for in, not in) by with_unfolding_all rfl -/
theorem pe_cmpR {op : CmpOp} {r : R2} (ho : OpR X (compareOp op) r) (ha : PE X a ta) (hb : PE X b tb) (hm : behindInMarks op b = false) : PE X (.Compare a [op] [b] pos) (tOp r ta tb) := by
  intro pins s σ H Q I h
  exact wpAny_Compare1 (binT ha hb I h fun v u s2 x y H2 I2 rx ry q => ho pins s2 σ H2 x y v u Q I2 rx ry q) hm
/-- a reading of a value as a test -/
def tTest (t : TE) : TT := fun σ H Q => t σ H fun x H' => ∃ k, x = .bl k ∧ Q k H'
theorem pt_cmpR {op : CmpOp} {r : R2} (ho : OpR X (compareOp op) r) (ha : PE X a ta) (hb : PE X b tb) (hm : behindInMarks op b = false) : PT X (.Compare a [op] [b] pos) (tTest (tOp r ta tb)) := by
  intro pins s σ H Q I h
  refine wpAny_isTrue_Compare1 (thn (ha pins s σ H _ I h) fun v s1 ⟨x, H1, I1, r1, q1⟩ => thn (hb pins s1 σ H1 _ I1 q1) fun u s2 ⟨y, H2, I2, r2, q2⟩ =>
    thn (ho pins s2 σ H2 x y v u _ I2 r1 r2 q2) fun c s3 ⟨z, H3, I3, r3, k, e, q3⟩ => ?_) hm
  subst e
  cases r3
  exact wpAny_truthy_bool ⟨H3, I3, q3⟩
/-! ### truth -/
theorem line63 : (sizeLine : Nat) < 2 ^ 63 := by rw [sizeLine_eq]; decide
/-! ### strs and bytes -/
/-! ### scalar builtins, by CallR -/
theorem vals1 {x : V} {us : List Value} (r : Vals [x] us) : ∃ u, us = [u] ∧ RelV x u := by
  cases r with
  | cons r1 r2 => cases r2; exact ⟨_, rfl, r1⟩
theorem vals2 {x y : V} {us : List Value} (r : Vals [x, y] us) : ∃ u w', us = [u, w'] ∧ RelV x u ∧ RelV y w' := by
  cases r with
  | cons r1 r2 =>
    cases r2 with
    | cons r3 r4 => cases r4; exact ⟨_, _, rfl, r1, r3⟩
theorem call_abs : CallR X (.builtin "abs") (fun xs H Q => ∃ i, xs = [.int i] ∧ Q (.int (if i < 0 then -i else i)) H) := by
  intro pins s σ H xs us Q I r h
  obtain ⟨i, rfl, q⟩ := h
  obtain ⟨u, rfl, t, rfl⟩ := vals1 r
  exact call_abs_int fun u tk => ⟨.int (if i < 0 then -i else i), H, I.tok _, ⟨_, rfl⟩, q⟩
theorem call_max2 (hc : X.calm = true) : CallR X (.builtin "max") (fun xs H Q => ∃ i j, xs = [.int i, .int j] ∧ Q (.int (if j > i then j else i)) H) := by
  intro pins s σ H xs us Q I r h
  obtain ⟨i, j, rfl, q⟩ := h
  obtain ⟨u, w', rfl, ⟨t, rfl⟩, ⟨t', rfl⟩⟩ := vals2 r
  refine max_two_ints (I.ok.hd hc) fun h' tk k => ⟨_, H, I.kept k, ?_, q⟩
  by_cases hj : j > i
  · rw [if_pos hj, if_pos hj]; exact ⟨_, rfl⟩
  · rw [if_neg hj, if_neg hj]; exact ⟨_, rfl⟩
theorem call_min2 (hc : X.calm = true) : CallR X (.builtin "min") (fun xs H Q => ∃ i j, xs = [.int i, .int j] ∧ Q (.int (if j < i then j else i)) H) := by
  intro pins s σ H xs us Q I r h
  obtain ⟨i, j, rfl, q⟩ := h
  obtain ⟨u, w', rfl, ⟨t, rfl⟩, ⟨t', rfl⟩⟩ := vals2 r
  refine min_two_ints (I.ok.hd hc) fun h' tk k => ⟨_, H, I.kept k, ?_, q⟩
  by_cases hj : j < i
  · rw [if_pos hj, if_pos hj]; exact ⟨_, rfl⟩
  · rw [if_neg hj, if_neg hj]; exact ⟨_, rfl⟩
end
end L2

namespace L2
open PySem PySem.Spec PyProof.Rows

/-! ### an instance, its attributes a map -/
structure ObjM (h : Heap) (x dx C : Addr) (mA : Str → Option Value) : Prop where
  obj : h.get? x = some (PySem.W.instObj C dx)
  ns : h.Ns1 dx mA
  ne : dx ≠ x

theorem lookIn_ns {h : Heap} {dx : Addr} {mA : Str → Option Value} (n : h.Ns1 dx mA) : ∃ od, h.get? dx = some od ∧ ∀ name, PySem.W.lookIn name od = some (mA name) := by
  obtain ⟨o, es, ep, ho, hd, hk, _, hm⟩ := n
  refine ⟨o, ho, fun name => ?_⟩
  have e := hm name
  unfold nsFind findBy at e
  rw [← Array.find?_toList] at e
  unfold PySem.W.lookIn
  rw [hd]
  dsimp only
  split
  · rename_i y q
    rw [q] at e
    exact congrArg some e
  · rename_i q
    rw [q] at e
    have a : es.toList.any (·.refKey) = false := by
      rw [List.any_eq_false]
      intro y hy
      obtain ⟨z, t, hkey⟩ := hk y (Array.mem_toList_iff.mp hy)
      simp [DictEntry.refKey, hkey]
    have a' : ¬ es.toList.any (·.refKey) = true := by rw [a]; exact Bool.false_ne_true
    rw [if_neg a']
    exact congrArg some e

theorem ObjM.look {h : Heap} {x dx C : Addr} {mA : Str → Option Value} (I : ObjM h x dx C mA) : ∃ od, PySem.W.InstAt h x (PySem.W.instObj C dx) C (some od) ∧ ∀ name, PySem.W.lookIn name od = some (mA name) :=
  let ⟨od, ho, hl⟩ := lookIn_ns I.ns
  ⟨od, ⟨I.obj, rfl, rfl, ho⟩, hl⟩

section
variable {prog : Program} {w : World} {A : Around} {E : Value → Shared → Prop} {s : Shared} {K : PySem.W.Frag} {x dx C f : Addr} {mA : Str → Option Value} {name : Str} {v : Value}

theorem get_map {expr : Bool} {Q : Value → Shared → Prop} (X : K.In s.heap) (I : ObjM s.heap x dx C mA) (hg : PySem.W.plainGet K C name = true) (hh : PySem.W.hasDictIn K C = true)
    (ha : PySem.W.findIn K (.ref C) name = some none) (hv : mA name = some v) (hv' : PySem.W.handedIn v = true) (h : Q v { s with toks := s.toks + 1 }) :
    wpAny (model prog w) A (getAttr (.ref x) name expr) Q E s := by
  obtain ⟨od, J, hl⟩ := I.look
  exact PySem.W.get_value X J (PySem.W.plainGet_of hg).1 (PySem.W.findObj_own hh ha rfl (by rw [hl, hv])) hv' h

theorem get_meth {pl : Sem Bool} {Q : Value × List Value → Shared → Prop} (X : K.In s.heap) (I : ObjM s.heap x dx C mA) (hg : PySem.W.plainGet K C name = true)
    (hf : PySem.W.findIn K (.ref C) name = some (some (.ref f))) (ht : PySem.W.isFn K (.ref f) = true) (hv : mA name = none) (h : Q (.ref f, [.ref x]) s) :
    wpAny (model prog w) A (getMethod (.ref x) name pl) Q E s := by
  obtain ⟨od, J, hl⟩ := I.look
  exact PySem.W.method_fn X J (PySem.W.plainGet_of hg).1 (PySem.W.plainGet_of hg).2 hf (beq_iff_eq.mp ht) (by show (PySem.W.lookIn name od).map (·.isSome) = some false; rw [hl, hv]; rfl) h

theorem set_map {ns : List Str} {Q : Unit → Shared → Prop} (X : K.In s.heap) (I : ObjM s.heap x dx C mA)
    (hs : PySem.W.findIn K (.ref C) "__setattr__" = some (some (.builtin "object.__setattr__"))) (hp : PySem.W.plainOver K C = true) (ht : PySem.W.takerIn K C name = some none) (hh : PySem.W.hasDictIn K C = true)
    (hw : PySem.Within mA ns) (hsz : ns.length ≤ sizeLine)
    (h : ∀ h', ObjM h' x dx C (fun y => if y = name then some v else mA y) → Heap.SameBut dx s.heap h' → Q () { s with heap := h', toks := s.toks + 2 }) :
    wpAny (model prog w) A (setAttr (.ref x) name v) Q E s := by
  obtain ⟨od, J, hl⟩ := I.look
  refine PySem.W.set_plain X J hs (PySem.W.osa_open (s := { s with toks := s.toks + 1 }) (r := none) X J hp ht fun b => ?_)
  obtain ⟨cd, hc, hd'⟩ := PySem.W.any_some hh
  have hx : s.heap.get? x = some ⟨.ref C, some dx, .plain, #[]⟩ := I.obj
  refine wpAny_bind (wpAny_pure (wpAny_bind (wpAny_bind (wpAny_loadPart hx (wpAny_bind (PySem.W.Looks.here (s := { s with toks := s.toks + 1 }) (PySem.W.looks_clsIn X hc) ?_))))))
  rw [hd']
  refine wpAny_pure (a := some dx) (wpAny_bind (wpAny_pure (wpAny_bind ?_)))
  refine wpAny_nsSet1 (s := { s with toks := s.toks + 1 }) I.ns fun h' hn2 hs2 => ?_
  obtain ⟨oD, esD, epD, hoD, hdD, hcD⟩ := hn2.count (PySem.Within.cons name v hw)
  refine wpAny_bind (wpAny_lookBehind hoD (by rw [hdD]; exact pastItsLine_dict (Nat.le_trans hcD (by rw [List.length_cons]; omega))) ?_)
  exact wpAny_pure (h _ ⟨(hs2.2 _ (Ne.symm I.ne)).trans I.obj, hn2, I.ne⟩ hs2)

/-- C(..): the dict at the heap's end, the instance behind it; then its __init__ -/
theorem make_map {R : Result → Shared → Prop} {vs : List Value} {kw : List (Str × Value)} (X : K.In s.heap) (hm : PySem.W.makesIn K C = true)
    (hi : PySem.W.findIn K (.ref C) "__init__" = some (some (.ref f))) (hf : PySem.W.typeIn K (.ref f) = some (.type "function"))
    (h : codeAny (model prog w) (A.under (.builtin "type.__call__" ⟨.ref C :: vs, kw⟩)) (.call (.ref f) ⟨.ref (s.heap.objs.size + 1) :: vs, kw⟩) (PySem.W.InitBack (s.heap.objs.size + 1) R)
      { s with heap := (s.heap.push PySem.W.emptyDict).push (PySem.W.instObj C s.heap.objs.size) }) :
    codeAny (model prog w) A (.call (.ref C) ⟨vs, kw⟩) R s := by
  obtain ⟨hh, g, d, t, os⟩ := s
  exact PySem.W.make_core (PySem.W.makes_of X hm) (PySem.W.looks_findIn X hi) (fun self => PySem.W.bind_fn X self hf) (.inl rfl) h
end

/-! ### the attributes as a list of pairs -/
def putF (f : Str) (v : V) : List (Str × V) → List (Str × V)
  | [] => [(f, v)]
  | (g, x) :: r => if g = f then (g, v) :: r else (g, x) :: putF f v r
theorem lookup_putF (f g : Str) (v : V) : ∀ fs : List (Str × V), (putF f v fs).lookup g = if g = f then some v else fs.lookup g
  | [] => by
    show List.lookup g [(f, v)] = _
    by_cases h : g = f
    · have hb : (g == f) = true := beq_iff_eq.mpr h
      simp only [List.lookup, hb, if_pos h]
    · have hb : (g == f) = false := beq_eq_false_iff_ne.mpr h
      simp only [List.lookup, hb, if_neg h]
  | (k, x) :: r => by
    have ih := lookup_putF f g v r
    rw [show putF f v ((k, x) :: r) = (if k = f then (k, v) :: r else (k, x) :: putF f v r) from rfl]
    by_cases hk : k = f
    · rw [if_pos hk]
      by_cases h : g = k
      · have hb : (g == k) = true := beq_iff_eq.mpr h
        simp only [List.lookup, hb, if_pos (h.trans hk)]
      · have hb : (g == k) = false := beq_eq_false_iff_ne.mpr h
        simp only [List.lookup, hb, if_neg (fun e : g = f => h (e.trans hk.symm))]
    · rw [if_neg hk]
      by_cases h : g = k
      · have hb : (g == k) = true := beq_iff_eq.mpr h
        simp only [List.lookup, hb, if_neg (fun e : g = f => hk (h.symm.trans e))]
      · have hb : (g == k) = false := beq_eq_false_iff_ne.mpr h
        simp only [List.lookup, hb]
        exact ih
theorem keys_putF (f : Str) (v : V) : ∀ fs : List (Str × V), f ∈ (putF f v fs).map (·.1) ∧ ∀ g, g ∈ fs.map (·.1) → g ∈ (putF f v fs).map (·.1)
  | [] => ⟨by simp [putF], fun g h => by simp at h⟩
  | (k, x) :: r => by
    obtain ⟨i1, i2⟩ := keys_putF f v r
    rw [show putF f v ((k, x) :: r) = (if k = f then (k, v) :: r else (k, x) :: putF f v r) from rfl]
    by_cases hk : k = f
    · rw [if_pos hk]
      subst hk
      exact ⟨by simp, fun g h => by simpa using h⟩
    · rw [if_neg hk]
      refine ⟨?_, fun g h => ?_⟩
      · rw [List.map_cons]
        exact List.mem_cons_of_mem _ i1
      · rw [List.map_cons] at h ⊢
        rcases List.mem_cons.mp h with e | e
        · exact List.mem_cons.mpr (.inl e)
        · exact List.mem_cons_of_mem _ (i2 g e)
theorem length_putF (f : Str) (v : V) : ∀ fs : List (Str × V), (putF f v fs).length ≤ fs.length + 1
  | [] => by simp [putF]
  | (k, x) :: r => by
    have ih := length_putF f v r
    rw [show putF f v ((k, x) :: r) = (if k = f then (k, v) :: r else (k, x) :: putF f v r) from rfl]
    by_cases hk : k = f
    · rw [if_pos hk, List.length_cons, List.length_cons]; omega
    · rw [if_neg hk, List.length_cons, List.length_cons]; omega

theorem RelO.some_of {v : V} {o : Option Value} (r : RelO (some v) o) : ∃ u, o = some u ∧ RelV v u := by
  cases o with
  | none => exact (show False from r).elim
  | some u => exact ⟨u, rfl, r⟩
theorem RelO.none_of {o : Option Value} (r : RelO none o) : o = none := by
  cases o with
  | none => rfl
  | some u => exact (show False from r).elim
theorem handed_of {v : V} {u : Value} (r : RelV v u) : PySem.W.handedIn u = true := by
  cases v with
  | non => cases (show u = Value.none from r); rfl
  | bl b => cases (show u = Value.bool b from r); rfl
  | int i => obtain ⟨t, e⟩ := (show ∃ t, u = Value.int i t from r); cases e; rfl
  | str x => obtain ⟨t, e⟩ := (show ∃ t, u = Value.str x t from r); cases e; rfl
  | byt b => obtain ⟨t, e⟩ := (show ∃ t, u = Value.bytes b t from r); cases e; rfl
  | flt b => obtain ⟨t, e⟩ := (show ∃ t, u = Value.float b t from r); cases e; rfl
  | ref a => cases (show u = Value.ref a from r); rfl
  | ty n => cases (show u = Value.type n from r); rfl

section
variable {P : Program} {w : World} {H H' : Hp} {h h' : Heap} {a C dx : Addr} {fs fs' : List (Str × V)}
theorem ins_get (hok : HOk P w H h) (e : H a = some (.ins C dx fs)) : ∃ mA, ObjM h a dx C mA ∧ (∀ f, RelO (fs.lookup f) (mA f)) ∧ PySem.Within mA (fs.map (·.1)) ∧ fs.length ≤ 1000 ∧ H dx = some (.own a) := by
  obtain ⟨d, z, ne, ob, mA, n, r, q⟩ := (show ObjOk P w H h a (.ins C dx fs) from hok a _ e)
  exact ⟨mA, ⟨ob, n, ne⟩, r, q, z, d⟩
end

/-! ### what of the text a class must have -/
structure Cls (K : PySem.W.Frag) (C : Addr) : Prop where
  pg : PySem.W.plainGet K C Str.empty = true
  hd : PySem.W.hasDictIn K C = true
  po : PySem.W.plainOver K C = true
  sa : PySem.W.findIn K (.ref C) "__setattr__" = some (some (.builtin "object.__setattr__"))
theorem Cls.get {K : PySem.W.Frag} {C : Addr} (c : Cls K C) (f : Str) : PySem.W.plainGet K C f = true := c.pg
/-- no class of it has the name -/
def NoAttr (K : PySem.W.Frag) (C : Addr) (f : Str) : Prop := PySem.W.findIn K (.ref C) f = some none
theorem NoAttr.taker {K : PySem.W.Frag} {C : Addr} {f : Str} (n : NoAttr K C f) : PySem.W.takerIn K C f = some none := by
  unfold PySem.W.takerIn
  rw [show PySem.W.findIn K (.ref C) f = some none from n]
  rfl
/-- a constant of the class -/
structure Con (K : PySem.W.Frag) (C : Addr) (f : Str) (v : V) (u : Value) : Prop where
  at_ : PySem.W.findIn K (.ref C) f = some (some u)
  rel : RelV v u
  get : PySem.W.specialIn K u "__get__" = some none
  cp : PySem.W.copiedNames.contains f = false
/-- a method: a plain def of the class or of one above it -/
structure Meth (K : PySem.W.Frag) (C : Addr) (m : Str) (f : Addr) : Prop where
  at_ : PySem.W.findIn K (.ref C) m = some (some (.ref f))
  fn : PySem.W.isFn K (.ref f) = true
  kp : PySem.W.keepIn K (.ref f) = true

section
variable {X : Cx} {pins : List (Addr × Obj)} {σ : St} {H : Hp} {s : Shared} {a C dx : Addr} {fs : List (Str × V)} {f : Str} {v : V} {A : Around} {E : Value → Shared → Prop}

theorem getattr_ok {b : Bool} {Q : Value → Shared → Prop} (I : Inv X pins σ H s) (e : H a = some (.ins C dx fs)) (c : Cls X.K C) (n : NoAttr X.K C f) (l : fs.lookup f = some v)
    (h : ∀ u s', Inv X pins σ H s' → RelV v u → Q u s') : wpAny (model X.prog X.w) A (getAttr (.ref a) f b) Q E s := by
  obtain ⟨mA, O, r, _, _, _⟩ := ins_get I.hok e
  obtain ⟨u, hu, ru⟩ := RelO.some_of (v := v) (o := mA f) (by rw [← l]; exact r f)
  exact get_map I.kIn O (c.get f) c.hd n hu (handed_of ru) (h u _ (I.tok _) ru)

theorem getmeth_ok {m : Str} {g : Addr} {pl : Sem Bool} {Q : Value × List Value → Shared → Prop} (I : Inv X pins σ H s) (e : H a = some (.ins C dx fs)) (c : Cls X.K C) (k : Meth X.K C m g) (l : fs.lookup m = none)
    (h : Q (.ref g, [.ref a]) s) : wpAny (model X.prog X.w) A (getMethod (.ref a) m pl) Q E s := by
  obtain ⟨mA, O, r, _, _, _⟩ := ins_get I.hok e
  have hn : mA m = none := RelO.none_of (by rw [← l]; exact r m)
  exact get_meth I.kIn O (c.get m) k.at_ k.fn hn h

theorem setattr_ok {y : V} {u : Value} {Q : Unit → Shared → Prop} (I : Inv X pins σ H s) (e : H a = some (.ins C dx fs)) (c : Cls X.K C) (n : NoAttr X.K C f) (hl : fs.length < 1000) (ry : RelV y u)
    (h : ∀ s', Inv X pins σ (upd H a (.ins C dx (putF f y fs))) s' → Q () s') : wpAny (model X.prog X.w) A (setAttr (.ref a) f u) Q E s := by
  obtain ⟨mA, O, r, wi, _, ho⟩ := ins_get I.hok e
  have hz : (fs.map (·.1)).length ≤ sizeLine := by rw [List.length_map, sizeLine_eq]; omega
  refine set_map I.kIn O c.sa c.po n.taker c.hd wi hz fun h' O' sb => h _ ?_
  have hd : ∃ o, h'.get? dx = some o := let ⟨o, _, _, e', _⟩ := O'.ns; ⟨o, e'⟩
  refine I.write (x := a) (e := dx) (by rw [e]; exact True.intro) (.inr ho) (fun b q hb z => (sb.2 b hb).trans z) hd ?_
  refine ⟨by rw [upd_ne O.ne]; exact ho, ?_, O.ne, O'.obj, _, O'.ns, fun g => ?_, fun g hg => ?_⟩
  · have := length_putF f y fs; omega
  · show RelO ((putF f y fs).lookup g) (if g = f then some u else mA g)
    rw [lookup_putF]
    by_cases q : g = f
    · rw [if_pos q, if_pos q]; exact ry
    · rw [if_neg q, if_neg q]; exact r g
  · by_cases q : g = f
    · rw [q]; exact (keys_putF f y fs).1
    · refine (keys_putF f y fs).2 g (wi g fun z => hg ?_)
      show (if g = f then some u else mA g) = none
      rw [if_neg q]; exact z

/-- a new instance, tracked, without attributes -/
theorem Inv.made (I : Inv X pins σ H s) : Inv X pins σ (upd (upd H s.heap.objs.size (.own (s.heap.objs.size + 1))) (s.heap.objs.size + 1) (.ins C s.heap.objs.size []))
    { s with heap := (s.heap.push PySem.W.emptyDict).push (PySem.W.instObj C s.heap.objs.size) } := by
  have e1 : (s.heap.push PySem.W.emptyDict).get? s.heap.objs.size = some PySem.W.emptyDict := Heap.get?_push_size s.heap rfl
  have e2 : ((s.heap.push PySem.W.emptyDict).push (PySem.W.instObj C s.heap.objs.size)).get? (s.heap.objs.size + 1) = some (PySem.W.instObj C s.heap.objs.size) := by
    have := Heap.get?_push_size (s.heap.push PySem.W.emptyDict) (o := PySem.W.instObj C s.heap.objs.size) rfl
    rwa [Heap.size_push] at this
  have e3 : (s.heap.push PySem.W.emptyDict).Ns s.heap.objs.size (fun _ => none) := ⟨PySem.W.emptyDict, #[], _, e1, rfl, (fun e he => absurd he (by simp)), fun _ => rfl⟩
  have I1 := I.laid (a := s.heap.objs.size) (o := .own (s.heap.objs.size + 1)) (h' := s.heap.push PySem.W.emptyDict) (t' := s.toks) (fun b u q => Heap.get?_push_of_some _ q) (Nat.le_refl _) ⟨_, e1⟩
  refine I1.laid (a := s.heap.objs.size + 1) (o := .ins C s.heap.objs.size []) (t' := s.toks) (fun b u q => Heap.get?_push_of_some _ q) (Nat.le_of_eq (Heap.size_push _ _)) ?_
  have ne : s.heap.objs.size ≠ s.heap.objs.size + 1 := Nat.ne_of_lt (Nat.lt_succ_self _)
  refine ⟨by rw [upd_ne ne, upd_same], Nat.zero_le _, ne, e2, fun _ => none, (Heap.Ns1.of_empty e3).at fun o q => Heap.get?_push_of_some _ q, fun _ => True.intro, fun y hy => absurd rfl hy⟩

/-- e.f where nothing but the object is asked: through attributeBase (super) and the last hold -/
theorem attr_of {prog : Program} {w : World} {env : Env} {e : Expr} {f : Str} {pos : Pos} {s : Shared} {Q : Value → Shared → Prop} (hb : attributeBase e f env (eval e env) = eval e env)
    (h : wpAny (model prog w) A (eval e env) (fun o s₁ => wpAny (model prog w) A (getAttr o f true) Q E s₁) E s) : wpAny (model prog w) A (eval (.Attribute e f pos) env) Q E s :=
  Attribute_any_ h (by rw [arm_eval_Attribute, hb])
end

/-! ### readings and rules -/
/-- e.f, an attribute of the instance -/
def tFld (K : PySem.W.Frag) (ta : TE) (f : Str) : TE := fun σ H Q => ta σ H fun x H1 => ∃ a C dx fs v, x = .ref a ∧ H1 a = some (.ins C dx fs) ∧ Cls K C ∧ NoAttr K C f ∧ fs.lookup f = some v ∧ Q v H1
/-- e.f = value -/
def sFld (K : PySem.W.Frag) (ta tv : TE) (f : Str) : TS := fun D σ H => tv σ H fun y H1 => ta σ H1 fun x H2 => ∃ a C dx fs, x = .ref a ∧ H2 a = some (.ins C dx fs) ∧ Cls K C ∧ NoAttr K C f ∧ fs.length < 1000 ∧
  D.nx σ (upd H2 a (.ins C dx (putF f y fs)))
section
variable {X : Cx} {o e value : Expr} {f : Str} {pos pos' tpos : Pos} {ta tv : TE}
theorem pe_fld (he : PE X e ta) (hb : attributeBase e f X.env (eval e X.env) = eval e X.env) : PE X (.Attribute e f pos) (tFld X.K ta f) := by
  intro pins s σ H Q I h
  refine attr_of hb (thn (he pins s σ H _ I h) fun u s1 ⟨x, H1, I1, rx, a, C, dx, fs, v, ex, ea, c, n, l, q⟩ => ?_)
  subst ex
  obtain rfl : u = Value.ref a := rx
  exact getattr_ok I1 ea c n l fun u' s2 I2 ru => ⟨v, H1, I2, ru, q⟩
theorem ps_fld (ha : PE X o ta) (hv : PE X value tv) (hs : swapsWith value (some (.Attribute o f pos')) pos.line X.env = pure false) : PS X (.Assign [.Attribute o f pos'] value pos) (sFld X.K ta tv f) := by
  intro pins s σ H D I h
  refine plainObj_wpAny_Assign_Attribute (thn (hv pins s σ H _ I h) fun u s1 ⟨y, H1, I1, ry, q⟩ => thn (ha pins s1 σ H1 _ I1 q) fun ov s2 ⟨x, H2, I2, rx, a, C, dx, fs, ex, ea, c, n, l, q2⟩ => ?_) hs
  subst ex
  obtain rfl : ov = Value.ref a := rx
  exact setattr_ok I2 ea c n l ry fun s3 I3 => ⟨σ, _, I3, q2⟩
end

/-! ### isinstance -/
section
variable {X : Cx} {pins : List (Addr × Obj)} {σ : St} {H : Hp} {s : Shared} {A : Around} {E : Value → Shared → Prop} {Q : Value → Shared → Prop} {c : Value} {b : Bool}
/-- the type of a value, as the fragment's deciders take it; for an instance its class -/
inductive TyOf (K : PySem.W.Frag) (H : Hp) : V → Value → Prop where
  | non : TyOf K H .non (.type "NoneType")
  | bl (x : Bool) : TyOf K H (.bl x) (.type "bool")
  | int (i : Int) : TyOf K H (.int i) (.type "int")
  | str (x : Str) : TyOf K H (.str x) (.type "str")
  | flt (x : UInt64) : TyOf K H (.flt x) (.type "float")
  | lst {a : Addr} {xs : List V} (e : H a = some (.lst xs)) : TyOf K H (.ref a) (.type "list")
  | frz {a : Addr} {o : Obj} {xs : List V} (e : H a = some (.frz o (.lst xs))) : TyOf K H (.ref a) (.type "list")
  | tup {a : Addr} {xs : List V} (e : H a = some (.tup xs)) : TyOf K H (.ref a) (.type "tuple")
  | dK {a : Addr} {kvs : List (Key × V)} (e : H a = some (.dK kvs)) : TyOf K H (.ref a) (.type "dict")
  | dT {a : Addr} {kvs : List (List Key × V)} (e : H a = some (.dT kvs)) : TyOf K H (.ref a) (.type "dict")
  | ins {a C dx : Addr} {fs : List (Str × V)} (e : H a = some (.ins C dx fs)) (cl : Cls K C) (ha : PySem.W.findIn K (.ref C) "__class__" = some (some (.builtin "object.__class__")))
      (hn : PySem.W.specialIn K (.builtin "object.__class__") "__get__" = some (some (.builtin "getset_descriptor.__get__"))) (htk : PySem.W.takesIn K (.builtin "object.__class__") = some true)
      (hm : PySem.W.mroIn K C (.type "object") = some true) : TyOf K H (.ref a) (.ref C)
end
end L2

namespace L2
open PySem PySem.Spec PyProof.Rows

/-! ### room -/
structure Room (k : Nat) (A : Around) : Prop where
  hd : A.handled = none
  dp : A.depth + 3 * k + 5 < recursionLimit
  un : A.units + 16 * k + 200 < cLine
theorem Room.mono {j k : Nat} {A : Around} (r : Room k A) (h : j ≤ k) : Room j A := ⟨r.hd, by have := r.dp; omega, by have := r.un; omega⟩
theorem Room.deeper {k : Nat} {A : Around} (r : Room (k + 1) A) (env : Env) : Room k (A.deeper env) :=
  ⟨r.hd, by have := r.dp; show A.depth + 1 + 3 * k + 5 < _; omega, by have := r.un; show A.units + 3 + 16 * k + 200 < _; omega⟩
theorem Room.in1 {k : Nat} {A : Around} (r : Room (k + 1) A) : Room k A.in1 :=
  ⟨r.hd, by have := r.dp; show A.depth + 3 * k + 5 < _; omega, by have := r.un; show A.units + 1 + 16 * k + 200 < _; omega⟩
theorem make_depth {A : Around} {C : Addr} {us : List Value} {kw : List (Str × Value)} : (A.under (.builtin "type.__call__" ⟨.ref C :: us, kw⟩)).depth = A.depth + 1 := by
  first | rfl | simp [Around.under, Code.weight, Code.isCreation, Code.isGuard, Code.isCaller, Code.frames, Code.isFrame, guardIds]
theorem make_units {A : Around} {C : Addr} {us : List Value} {kw : List (Str × Value)} : (A.under (.builtin "type.__call__" ⟨.ref C :: us, kw⟩)).units = A.units + 1 := by
  first | rfl | simp [Around.under, Code.cUnits, Code.frames, Code.isFrame]
theorem Room.make {k : Nat} {A : Around} (r : Room (k + 1) A) (C : Addr) (us : List Value) (kw : List (Str × Value)) : Room k (A.under (.builtin "type.__call__" ⟨.ref C :: us, kw⟩)) :=
  ⟨r.hd, by have := r.dp; rw [make_depth]; omega, by have := r.un; rw [make_units]; omega⟩
theorem Room.depth {k : Nat} {A : Around} (r : Room k A) : A.depth < recursionLimit := by have := r.dp; omega
theorem Room.units {k : Nat} {A : Around} (r : Room k A) : A.units + 64 < cLine := by have := r.un; omega
theorem Room.units0 {k : Nat} {A : Around} (r : Room k A) : A.units < cLine := by have := r.un; omega

/-! ### argument lists and displays -/
def tNil : TA := fun _ H Q => Q [] H
def tCons (ta : TE) (tr : TA) : TA := fun σ H Q => ta σ H fun x H1 => tr σ H1 fun xs H2 => Q (x :: xs) H2
section
variable {X : Cx} {e : Expr} {es : List Expr} {te : TE} {t : TA} {pos : Pos}
theorem pa_nil : PA X [] tNil := fun _ _ _ _ H Q I h => Calls.spliced_nil ⟨[], H, I, .nil, h⟩
theorem pa_cons (ha : PE X e te) (hr : PA X es t) (hs : starEach (e :: es) X.env = (false, eval e X.env) :: starEach es X.env := by rfl) : PA X (e :: es) (tCons te t) := by
  intro pos pins s σ H Q I h
  rw [hs]
  show wpAny _ _ (spliced ((false, eval e X.env) :: backTo pos (starEach es X.env))) _ _ s
  refine Calls.spliced_cons (thn (ha pins s σ H _ I h) fun u s1 ⟨x, H1, I1, r1, q1⟩ => ?_)
  exact thn (hr pos pins s1 σ H1 _ I1 q1) fun us s2 ⟨xs, H2, I2, r2, q2⟩ => ⟨x :: xs, H2, I2, .cons r1 r2, q2⟩

/-- a tuple, a list of written items -/
def tTup (t : TA) : TE := fun σ H Q => t σ H fun xs H1 => xs.length ≤ sizeLine ∧ ∀ p, H1 p = none → Q (.ref p) (upd H1 p (.tup xs))
def tLst (t : TA) : TE := fun σ H Q => t σ H fun xs H1 => xs.length ≤ sizeLine ∧ ∀ p, H1 p = none → Q (.ref p) (upd H1 p (.lst xs))
theorem pe_tup {x1} (h : PA X es t) : PE X (.Tuple es x1 pos) (tTup t) := by
  intro pins s σ H Q I hq
  refine wpAny_Tuple_spliced (thn (h pos pins s σ H _ I hq) fun us s1 ⟨xs, H1, I1, r, z, q⟩ => ⟨by rw [← r.length]; exact z, ?_⟩)
  have hf : H1 s1.heap.objs.size = none := I1.hok.fresh (Nat.le_refl _)
  refine ⟨.ref s1.heap.objs.size, upd H1 s1.heap.objs.size (.tup xs), I1.laid (t' := s1.toks) (fun b u e => Heap.get?_push_of_some _ e) (Nat.le_refl _) ?_, rfl, q _ hf⟩
  exact ⟨z, us, r, ⟨_, Heap.get?_push_size _ rfl, rfl, _, rfl⟩⟩
theorem pe_lst (h : PA X es t) : PE X (.List es pos) (tLst t) := by
  intro pins s σ H Q I hq
  refine wpAny_List_spliced (thn (h pos pins s σ H _ I hq) fun us s1 ⟨xs, H1, I1, r, z, q⟩ => ⟨by rw [← r.length]; exact z, ?_⟩)
  have hf : H1 s1.heap.objs.size = none := I1.hok.fresh (Nat.le_refl _)
  refine ⟨.ref s1.heap.objs.size, upd H1 s1.heap.objs.size (.lst xs), I1.laid (t' := s1.toks) (fun b u e => Heap.get?_push_of_some _ e) (Nat.le_refl _) ?_, rfl, q _ hf⟩
  exact ⟨z, us, 0, r, Heap.get?_push_size _ rfl⟩
end

/-! ### what a def promises -/
/-- a def's promise: the bound arguments in the parameters' order, the heap, the wanted end, the wanted exception -/
abbrev Sp := List V → Hp → VK → XK → Prop
/-- how an exception lies behind a call (file 08 gives it): the callers' frames, abstract heap and state ahead of the call, the wish, the exception, the state -/
abbrev CXT := List Env → Hp → Shared → XK → Value → Shared → Prop

/-- the state at a call -/
structure Env0 (P : Program) (w : World) (K : PySem.W.Frag) (mg : Str → Option Value) (base : Heap) (A : Around) (outer : List Env) (s : Shared) (H : Hp) : Prop where
  frames : A.frames = some outer
  mod : Mod K mg base
  bs : ∀ b o, base.get? b = some o → s.heap.get? b = some o ∧ H b = none
  bsz : base.objs.size ≤ s.heap.objs.size
  funs : s.heap.FunFrames base outer
  frf : ∀ b ∈ frs outer, H b = none
  hok : HOk P w H s.heap
  bare : AllBare s.gens
/-- a call's end -/
def CE (outer : List Env) (P : Program) (w : World) (H : Hp) (s : Shared) (Q : VK) (u : Value) (s' : Shared) : Prop :=
  ∃ v H', s'.os = s.os ∧ AllBare s'.gens ∧ Un (frs outer) [] H H' s.heap s'.heap ∧ HOk P w H' s'.heap ∧ RelV v u ∧ Q v H'
def CR (CX : CXT) (outer : List Env) (P : Program) (w : World) (H : Hp) (s : Shared) (Q : VK) (E : XK) (r : Result) (s' : Shared) : Prop :=
  match r with
  | .ok (.ret u) => CE outer P w H s Q u s'
  | .ok _ => False
  | .error e => CX outer H s E e s'
structure FnOk (P : Program) (w : World) (K : PySem.W.Frag) (mg : Str → Option Value) (base : Heap) (CX : CXT) (k : Nat) (f : Addr) (fd : FuncData) (ps : List Str) (sp : Sp) : Prop where
  len : ∀ vs H Q E, sp vs H Q E → vs.length = ps.length
  run : ∀ (A : Around) (outer : List Env) (s : Shared) (H : Hp) (args : Args) (us : List Value) (vs : List V) (Q : VK) (E : XK), Room k A → Env0 P w K mg base A outer s H → BindsTo s fd args (ps.zip us) → Vals vs us → sp vs H Q E →
    codeAny (model P w) A (.call (.ref f) args) (CR CX outer P w H s Q E) s
theorem FnOk.mono {P : Program} {w : World} {K : PySem.W.Frag} {mg : Str → Option Value} {base : Heap} {CX : CXT} {j k : Nat} {f : Addr} {fd : FuncData} {ps : List Str} {sp : Sp} (F : FnOk P w K mg base CX j f fd ps sp) (h : j ≤ k) :
    FnOk P w K mg base CX k f fd ps sp := ⟨F.len, fun A outer s H args us vs Q E hr => F.run A outer s H args us vs Q E (hr.mono h)⟩
/-- a weaker promise -/
theorem FnOk.imp {P : Program} {w : World} {K : PySem.W.Frag} {mg : Str → Option Value} {base : Heap} {CX : CXT} {k : Nat} {f : Addr} {fd : FuncData} {ps : List Str} {sp sp' : Sp} (F : FnOk P w K mg base CX k f fd ps sp)
    (h : ∀ vs H Q E, sp' vs H Q E → sp vs H Q E) : FnOk P w K mg base CX k f fd ps sp' :=
  ⟨fun vs H Q E q => F.len vs H Q E (h _ _ _ _ q), fun A outer s H args us vs Q E hr he hb hv hs => F.run A outer s H args us vs Q E hr he hb hv (h _ _ _ _ hs)⟩

theorem Env0.make {P : Program} {w : World} {K : PySem.W.Frag} {mg : Str → Option Value} {base : Heap} {A : Around} {outer : List Env} {s : Shared} {H : Hp} (e : Env0 P w K mg base A outer s H) (C : Addr) (us : List Value) (kw : List (Str × Value)) :
    Env0 P w K mg base (A.under (.builtin "type.__call__" ⟨.ref C :: us, kw⟩)) outer s H := ⟨by first | exact e.frames | (simpa [Around.under, Code.envs, Code.isFrame, pushEnvs] using e.frames), e.mod, e.bs, e.bsz, e.funs, e.frf, e.hok, e.bare⟩
theorem Env0.in1 {P : Program} {w : World} {K : PySem.W.Frag} {mg : Str → Option Value} {base : Heap} {A : Around} {outer : List Env} {s : Shared} {H : Hp} (e : Env0 P w K mg base A outer s H) :
    Env0 P w K mg base A.in1 outer s H := ⟨e.frames, e.mod, e.bs, e.bsz, e.funs, e.frf, e.hok, e.bare⟩

section
variable {X : Cx} {pins : List (Addr × Obj)} {σ : St} {H : Hp} {s s' : Shared}
/-- from a body: what a callee wants -/
theorem Inv.env0 (I : Inv X pins σ H s) : Env0 X.prog X.w X.K X.mg X.base X.A X.stack s H :=
  ⟨I.ok.frames, I.ok.mod, I.bs, Nat.le_trans I.ok.bsz I.sz, I.stack, I.stkFree, I.hok, I.bare⟩
/-- behind a call -/
theorem Inv.after {Q : VK} {u : Value} (I : Inv X pins σ H s) (h : CE X.stack X.prog X.w H s Q u s') : EP X pins σ Q u s' := by
  obtain ⟨v, H', os, bare, un, hok, r, q⟩ := h
  obtain ⟨hh, g, d, t, os'⟩ := s'
  obtain rfl : os' = s.os := os
  exact ⟨v, H', I.call (h' := hh) (g' := g) (d' := d) (t' := t) (ch := []) un hok bare (fun b z => absurd z (by simp)), r, q⟩
end

/-! ### calls -/
/-- f(..): the written arguments, then the defaults dvs; E: what is wanted of an exception -/
def tCall (sp : Sp) (dvs : List V) (E : XK) (t : TA) : TE := fun σ H Q => t σ H fun vs H1 => sp (vs ++ dvs) H1 Q E
/-- o.m(..) of an instance of the class at C -/
def tMeth (C : Addr) (m : Str) (sp : Sp) (dvs : List V) (E : XK) (ta : TE) (t : TA) : TE := fun σ H Q => ta σ H fun x H1 => ∃ a dx fs, x = .ref a ∧ H1 a = some (.ins C dx fs) ∧ fs.lookup m = none ∧
  t σ H1 fun vs H2 => sp (x :: (vs ++ dvs)) H2 Q E
/-- C(..): a new instance and its dict, then __init__ -/
def tMake (C : Addr) (sp : Sp) (dvs : List V) (E : XK) (t : TA) : TE := fun σ H Q => t σ H fun vs H1 => ∀ x dx, H1 x = none → H1 dx = none → dx ≠ x →
  sp (.ref x :: (vs ++ dvs)) (upd (upd H1 dx (.own x)) x (.ins C dx [])) (fun v H2 => v = .non ∧ Q (.ref x) H2) E

/-- how the parameters are bound: us the positional arguments, kw the keywords' values by name, ds the defaults that fill up -/
def Binds (K : PySem.W.Frag) (fd : FuncData) (ps : List Str) (ds : List Value) : Prop :=
  ∀ (s : Shared) (us : List Value), K.In s.heap → (us ++ ds).length = ps.length → BindsTo s fd ⟨us, []⟩ (ps.zip (us ++ ds))
/-- every parameter is given -/
theorem Binds.all {K : PySem.W.Frag} {fd : FuncData} {ps : List Str} (h : ∀ us : List Value, us.length = ps.length → bindArgs fd ⟨us, []⟩ = pure (ps.zip us)) : Binds K fd ps [] := fun s us _ hl => by
  rw [List.append_nil] at hl ⊢
  exact .of_eq (h us hl)

/-- an exception of a callee reaches what this body wants of exceptions -/
def Passes (CX : CXT) (X : Cx) (E : XK) : Prop := ∀ (pins : List (Addr × Obj)) (σ : St) (H : Hp) (s : Shared) (e : Value) (s' : Shared), Inv X pins σ H s → CX X.stack H s E e s' → X.xe e s'

section
variable {X : Cx} {CX : CXT} {k : Nat} {f C : Addr} {fd : FuncData} {ps : List Str} {sp : Sp} {dvs : List V} {ds : List Value} {E : XK} {x m : Str} {p pos apos : Pos} {e o : Expr} {es : List Expr} {ta : TE} {t : TA}

/-- the callee runs -/
theorem run_fn {pins : List (Addr × Obj)} {σ : St} {H : Hp} {s : Shared} {Q : VK} {us : List Value} {vs : List V} (F : FnOk X.prog X.w X.K X.mg X.base CX k f fd ps sp) (hr : Room k X.A) (hb : Binds X.K fd ps ds) (hd : Vals dvs ds) (hx : Passes CX X E)
    (I : Inv X pins σ H s) (r : Vals vs us) (h : sp (vs ++ dvs) H Q E) : wpAny (model X.prog X.w) X.A (call (.ref f) us) (EP X pins σ Q) X.xe s := by
  have r2 : Vals (vs ++ dvs) (us ++ ds) := r.append hd
  have hl : (us ++ ds).length = ps.length := by rw [← r2.length]; exact F.len _ _ _ _ h
  refine wpAny_call (codeAny_mono (F.run X.A X.stack s H ⟨us, []⟩ (us ++ ds) (vs ++ dvs) Q E hr I.env0 (hb s us I.kIn hl) r2 h) fun r s' hq => ?_)
  cases r with
  | error e => exact hx pins σ H s e s' I hq
  | ok fl =>
    cases fl with
    | ret u => exact I.after hq
    | next => exact False.elim hq
    | brk => exact False.elim hq
    | cont => exact False.elim hq

theorem pe_call (F : FnOk X.prog X.w X.K X.mg X.base CX k f fd ps sp) (hr : Room k X.A) (hg : Gl X x) (hm : X.mg x = some (.ref f)) (hk : PySem.W.keepIn X.K (.ref f) = true) (hb : Binds X.K fd ps ds) (hd : Vals dvs ds) (hx : Passes CX X E)
    (ha : PA X (e :: es) t) (hdb : (x == ("__debug__" : Str)) = false := by decide) (he : starEach (e :: es) X.env = (false, eval e X.env) :: starEach es X.env := by rfl) (hpl : (backTo pos (starEach es X.env)).any (·.1) = false := by rfl) :
    PE X (.Call (.Name x p) (e :: es) [] pos) (tCall sp dvs E t) := by
  intro pins s σ H Q I h
  refine wpAny_Call_Name_kw (ld_glob I hg hm ?_ hdb)
  refine PySem.W.callWith_K (h₀ := X.base) I.ok.mod.kin hk (thn (ha pos pins s σ H _ I h) fun us s1 ⟨vs, H1, I1, r, q⟩ => ⟨I1.kIn, ?_⟩) he hpl
  exact run_fn F hr hb hd hx I1 r q
/-- o.m(e, ..) -/
theorem pe_meth {pl : Sem Bool} (he : PE X o ta) (c : Cls X.K C) (hm : Meth X.K C m f) (F : FnOk X.prog X.w X.K X.mg X.base CX k f fd ps sp) (hr : Room k X.A) (hb : Binds X.K fd ps ds) (hd : Vals dvs ds) (hx : Passes CX X E) (ha : PA X (e :: es) t)
    (hst : starEach (e :: es) X.env = (false, eval e X.env) :: starEach es X.env := by rfl) (hpl : (backTo pos (starEach es X.env)).any (·.1) = false := by rfl)
    (ht : eval (.Call (.Attribute o m apos) (e :: es) [] pos) X.env = (do
      let ov ← eval o X.env
      standAt apos.atName
      let (f, first) ← holding [ov] (getMethod ov m pl)
      callWith pos f first (backTo pos (starEach (e :: es) X.env)) (backToKw pos (keywordEach [] X.env))) := by rfl) :
    PE X (.Call (.Attribute o m apos) (e :: es) [] pos) (tMeth C m sp dvs E ta t) := by
  intro pins s σ H Q I h
  refine PySem.W.methodCall_KW (pl := pl) (thn (he pins s σ H _ I h) fun u s1 ⟨x, H1, I1, rx, a, dx, fs, ex, ea, l, q⟩ => ?_) ht
  subst ex
  obtain rfl : u = Value.ref a := rx
  refine getmeth_ok I1 ea c hm l ?_
  refine PySem.W.callWith_K (first := [.ref a]) (h₀ := X.base) I.ok.mod.kin hm.kp (thn (ha pos pins s1 σ H1 _ I1 q) fun us s2 ⟨vs, H2, I2, r, q2⟩ => ⟨I2.kIn, ?_⟩) hst hpl
  exact run_fn (us := .ref a :: us) (vs := .ref a :: vs) F hr hb hd hx I2 (.cons rfl r) q2
/-- o.m() -/
theorem pe_meth0 {pl : Sem Bool} (he : PE X o ta) (c : Cls X.K C) (hm : Meth X.K C m f) (F : FnOk X.prog X.w X.K X.mg X.base CX k f fd ps sp) (hr : Room k X.A) (hb : Binds X.K fd ps ds) (hd : Vals dvs ds) (hx : Passes CX X E)
    (ht : eval (.Call (.Attribute o m apos) [] [] pos) X.env = (do
      let ov ← eval o X.env
      standAt apos.atName
      let (f, first) ← holding [ov] (getMethod ov m pl)
      callWith pos f first (backTo pos (starEach [] X.env)) (backToKw pos (keywordEach [] X.env))) := by rfl) :
    PE X (.Call (.Attribute o m apos) [] [] pos) (tMeth C m sp dvs E ta tNil) := by
  intro pins s σ H Q I h
  refine PySem.W.methodCall_KW (pl := pl) (thn (he pins s σ H _ I h) fun u s1 ⟨x, H1, I1, rx, a, dx, fs, ex, ea, l, q⟩ => ?_) ht
  subst ex
  obtain rfl : u = Value.ref a := rx
  refine getmeth_ok I1 ea c hm l ?_
  exact PySem.W.callWith_K0 (first := [.ref a]) I1.kIn hm.kp (run_fn (us := [.ref a]) (vs := [.ref a]) F hr hb hd hx I1 (.cons rfl .nil) q)

/-- what a class must have to be made -/
structure Mk (K : PySem.W.Frag) (C f : Addr) : Prop where
  makes : PySem.W.makesIn K C = true
  init : PySem.W.findIn K (.ref C) "__init__" = some (some (.ref f))
  fn : PySem.W.isFn K (.ref f) = true
  kp : PySem.W.keepIn K (.ref C) = true

theorem run_make {pins : List (Addr × Obj)} {σ : St} {H : Hp} {s : Shared} {Q : VK} {us : List Value} {vs : List V} (M : Mk X.K C f) (F : FnOk X.prog X.w X.K X.mg X.base CX k f fd ps sp) (hr : Room (k + 1) X.A) (hb : Binds X.K fd ps ds) (hd : Vals dvs ds)
    (hx : Passes CX X E) (I : Inv X pins σ H s) (r : Vals vs us)
    (h : ∀ x dx, H x = none → H dx = none → dx ≠ x → sp (.ref x :: (vs ++ dvs)) (upd (upd H dx (.own x)) x (.ins C dx [])) (fun v H2 => v = .non ∧ Q (.ref x) H2) E) :
    wpAny (model X.prog X.w) X.A (call (.ref C) us) (EP X pins σ Q) X.xe s := by
  have hq := h (s.heap.objs.size + 1) s.heap.objs.size (I.hok.fresh (Nat.le_succ _)) (I.hok.fresh (Nat.le_refl _)) (Nat.ne_of_lt (Nat.lt_succ_self _))
  have I2 := Inv.made (C := C) I
  have r2 : Vals (V.ref (s.heap.objs.size + 1) :: (vs ++ dvs)) (Value.ref (s.heap.objs.size + 1) :: (us ++ ds)) := .cons rfl (r.append hd)
  have hl : (Value.ref (s.heap.objs.size + 1) :: us ++ ds).length = ps.length := by
    have e := r2.length
    rw [F.len _ _ _ _ hq] at e
    exact e.symm
  refine wpAny_call (make_map (f := f) I.kIn M.makes M.init (beq_iff_eq.mp M.fn) (codeAny_mono (F.run _ X.stack _ _ ⟨Value.ref (s.heap.objs.size + 1) :: us, []⟩ (Value.ref (s.heap.objs.size + 1) :: (us ++ ds)) _ _ E (hr.make C us [])
    (I2.env0.make C us []) (hb _ (Value.ref (s.heap.objs.size + 1) :: us) I2.kIn hl) r2 hq) fun r s' hq' => ?_))
  cases r with
  | error e => exact hx pins σ _ _ e s' I2 hq'
  | ok fl =>
    cases fl with
    | ret u =>
      obtain ⟨v, H', I3, rv, ev, q3⟩ := I2.after hq'
      subst ev
      exact ⟨rv, ⟨V.ref (s.heap.objs.size + 1), H', I3, rfl, q3⟩⟩
    | next => exact False.elim hq'
    | brk => exact False.elim hq'
    | cont => exact False.elim hq'
theorem pe_make0 (M : Mk X.K C f) (F : FnOk X.prog X.w X.K X.mg X.base CX k f fd ps sp) (hr : Room (k + 1) X.A) (hg : Gl X x) (hm : X.mg x = some (.ref C)) (hb : Binds X.K fd ps ds) (hd : Vals dvs ds) (hx : Passes CX X E)
    (hdb : (x == ("__debug__" : Str)) = false := by decide) : PE X (.Call (.Name x p) [] [] pos) (tMake C sp dvs E tNil) := by
  intro pins s σ H Q I h
  refine wpAny_Call_Name_kw (ld_glob I hg hm ?_ hdb)
  exact PySem.W.callWith_K0 I.kIn M.kp (run_make (us := []) M F hr hb hd hx I .nil h)
end

/-! ### keywords -/
section
variable {X : Cx} {CX : CXT} {k : Nat} {f C : Addr} {fd : FuncData} {ps ks : List Str} {sp : Sp} {E : XK} {x m : Str} {p pos apos kpos : Pos} {e o : Expr} {es : List Expr} {kws : List Keyword} {te ta : TE} {t tk : TA} {nm : Option Str}
/-- how a call with keywords binds: g puts the positional values us and the keywords' values ws (names ks) in the parameters' order, defaults among them -/
structure KBinds (K : PySem.W.Frag) (fd : FuncData) (ps ks : List Str) (g : List Value → List Value → List Value) (gV : List V → List V → List V) : Prop where
  to : ∀ (s : Shared) (us ws : List Value), K.In s.heap → (g us ws).length = ps.length → BindsTo s fd ⟨us, ks.zip ws⟩ (ps.zip (g us ws))
  rel : ∀ {vs : List V} {us : List Value} {zs : List V} {ws : List Value}, Vals vs us → Vals zs ws → Vals (gV vs zs) (g us ws)
variable {g : List Value → List Value → List Value} {gV : List V → List V → List V}
end

/-! ### a def's body keeps its promise -/
/-- names: the parameters first -/
structure FnScope (N P : List Str) (sc : Scope) : Prop where
  kind : sc.kind = .function
  co : sc.isCoroutine = false
  gen : sc.isGenerator = false
  nd : N.Nodup
  pre : N.take P.length = P
  par : ∀ x ∈ P, sc.names.lookup x = some .local ∨ sc.names.lookup x = some .cell
  nofree : ∀ y ∈ sc.names, y.2 ≠ .free

theorem bindL_out {kindOf : Str → Option NameKind} {x : Str} : ∀ {binds : List (Str × Value)} {m : Str → Option Value}, (∀ v, (x, v) ∉ binds) → bindL kindOf binds m x = m x
  | [], _, _ => rfl
  | (n, v) :: r, m, h => by
    unfold bindL
    rw [bindL_out fun w hw => h w (List.mem_cons_of_mem _ hw)]
    split
    · have : x ≠ n := by rintro rfl; exact h v List.mem_cons_self
      simp [this]
    · rfl
theorem bindC_out {kindOf : Str → Option NameKind} {x : Str} : ∀ {binds : List (Str × Value)} {m : Str → Option Value}, (∀ v, (x, v) ∉ binds) → bindC kindOf binds m x = m x
  | [], _, _ => rfl
  | (n, v) :: r, m, h => by
    unfold bindC
    rw [bindC_out fun w hw => h w (List.mem_cons_of_mem _ hw)]
    split
    · rfl
    · have : x ≠ n := by rintro rfl; exact h v List.mem_cons_self
      simp [this]
theorem bindL_get {kindOf : Str → Option NameKind} {x : Str} {v : Value} : ∀ {P : List Str} {vs : List Value} {i : Nat} {m : Str → Option Value}, P.Nodup → P[i]? = some x → vs[i]? = some v → kindOf x = some .local →
    bindL kindOf (P.zip vs) m x = some v
  | [], _, _, _, _, h, _, _ => by simp at h
  | _ :: _, [], _, _, _, _, h, _ => by simp at h
  | p :: P, w :: vs, 0, m, nd, h1, h2, hk => by
    simp at h1 h2; subst h1; subst h2
    show bindL kindOf ((p, w) :: P.zip vs) m p = _
    unfold bindL
    rw [bindL_out fun v hv => (List.nodup_cons.mp nd).1 (List.of_mem_zip hv).1, if_pos hk]
    simp
  | p :: P, w :: vs, i + 1, m, nd, h1, h2, hk => by
    show bindL kindOf ((p, w) :: P.zip vs) m x = _
    unfold bindL
    exact bindL_get (i := i) (List.nodup_cons.mp nd).2 (by simpa using h1) (by simpa using h2) hk
theorem bindC_get {kindOf : Str → Option NameKind} {x : Str} {v : Value} : ∀ {P : List Str} {vs : List Value} {i : Nat} {m : Str → Option Value}, P.Nodup → P[i]? = some x → vs[i]? = some v → kindOf x ≠ some .local →
    bindC kindOf (P.zip vs) m x = some v
  | [], _, _, _, _, h, _, _ => by simp at h
  | _ :: _, [], _, _, _, _, h, _ => by simp at h
  | p :: P, w :: vs, 0, m, nd, h1, h2, hk => by
    simp at h1 h2; subst h1; subst h2
    show bindC kindOf ((p, w) :: P.zip vs) m p = _
    unfold bindC
    rw [bindC_out fun v hv => (List.nodup_cons.mp nd).1 (List.of_mem_zip hv).1, if_neg hk]
    simp
  | p :: P, w :: vs, i + 1, m, nd, h1, h2, hk => by
    show bindC kindOf ((p, w) :: P.zip vs) m x = _
    unfold bindC
    exact bindC_get (i := i) (List.nodup_cons.mp nd).2 (by simpa using h1) (by simpa using h2) hk

/-- the names' values at the entry -/
def start (N : List Str) (vs : List V) : St := vs.map some ++ List.replicate (N.length - vs.length) none

/-- the context of a def's body, at its entry; an exception leaves the frame, then lies as CX says -/
def cxOf (CX : CXT) (P : Program) (w : World) (K : PySem.W.Frag) (mg : Str → Option Value) (base : Heap) (N : List Str) (qual : Str) (scope : Scope) (f : Addr) (cd : Value) (A : Around) (outer : List Env) (s : Shared) (H : Hp) (E : XK) : Cx where
  prog := P
  w := w
  K := K
  mg := mg
  base := base
  A := A.deeper (envOfC qual scope s.heap.objs.size f cd)
  N := N
  s_0 := s
  H_0 := H
  env := envOfC qual scope s.heap.objs.size f cd
  outer := outer
  stack := envOfC qual scope s.heap.objs.size f cd :: outer
  ex := []
  calm := true
  fn := fun _ => true
  pn := []
  xe := fun e s' => wpAny (model P w) (A.deeper (envOfC qual scope s.heap.objs.size f cd)) (leaving (envOfC qual scope s.heap.objs.size f cd) e) (fun _ s'' => CX outer H s E e s'') (fun e' s'' => CX outer H s E e' s'') s'

theorem cell_has {sc : Scope} {n : Nat} {x : Str} (h : sc.names.lookup x = some .cell) : ∃ c, (cellsFrom n sc.names []).lookup x = some c := by
  have q := PySem.W.cellsFrom_some sc.names n [] (.inl h)
  exact Option.isSome_iff_exists.mp q

theorem inv_start {CX : CXT} {P : Program} {w : World} {K : PySem.W.Frag} {mg : Str → Option Value} {base : Heap} {N ps : List Str} {qual : Str} {scope : Scope} {f : Addr} {cd : Value} {A : Around} {outer : List Env} {s s1 : Shared} {H : Hp} {E : XK} {us : List Value} {vs : List V}
    (S : FnScope N ps scope) (hd : A.handled = none) (e0 : Env0 P w K mg base A outer s H) (hl : vs.length = ps.length) (r : Vals vs us)
    (x : InCallC s s.heap.objs.size (bindL (envOfC qual scope s.heap.objs.size f cd).kindOf (ps.zip us) fun _ => none) (cellsFrom (s.heap.objs.size + 1) scope.names []) (bindC (envOfC qual scope s.heap.objs.size f cd).kindOf (ps.zip us) fun _ => none) s1) :
    Inv (cxOf CX P w K mg base N qual scope f cd A outer s H E) [] (start N vs) H s1 := by
  have hpl : ps.length ≤ N.length := by have := congrArg List.length S.pre; rw [List.length_take] at this; omega
  obtain ⟨h1, tk, rfl, hk⟩ := x.done
  have noA : ∀ b : Addr, b ∉ (cxOf CX P w K mg base N qual scope f cd A outer s H E).ex := fun b z => absurd (show b ∈ ([] : List Addr) from z) (by simp)
  refine ⟨⟨e0.mod, S.kind, rfl, rfl, Nat.le_refl _, fun y z c h1 h2 => ?_, fun y hy => ?_, fun y c _ h => ?_, fun _ => hd, Around.frames_deeper e0.frames, .inr ⟨rfl, rfl⟩, fun b z => absurd z (noA b), e0.bs, e0.bsz, fun b _ _ => noA b, fun b z => absurd z (noA b), e0.funs, e0.frf⟩,
    rfl, e0.bare, Un.kept hk, ⟨_, x.toInCall.ns, fun i y v h1 h2 h3 => ?_⟩, fun y c h => ⟨_, x.cell y c h⟩, e0.hok.fresh (Nat.le_refl _), fun y c h => ?_, fun p hp => absurd (show p ∈ ([] : List (Addr × Obj)) from hp) (by simp), e0.hok.kept hk, ?_⟩
  · exact name_of_addr x.apart (PySem.mem_of_lookup h1) (PySem.mem_of_lookup h2)
  · have hy : scope.names.lookup y = some .cell ∨ scope.names.lookup y = some .free := hy
    rcases hy with hy | hy
    · exact cell_has hy
    · exact absurd rfl (S.nofree _ (PySem.mem_of_lookup hy))
  · exact Nat.le_of_lt (x.above y c (PySem.mem_of_lookup h))
  · have hi : i < vs.length := by
      unfold start at h2
      by_cases hi : i < vs.length
      · exact hi
      · rw [List.getElem?_append_right (by simpa using hi)] at h2
        rw [List.getElem?_replicate] at h2
        split at h2 <;> cases h2
    have ha : vs[i]? = some v := by
      unfold start at h2
      rw [List.getElem?_append_left (by simpa using hi), List.getElem?_map] at h2
      cases e : vs[i]? with
      | none => rw [e] at h2; cases h2
      | some a => rw [e] at h2; cases h2; rfl
    obtain ⟨u, hu, rv⟩ := r.get ha
    have hp : ps[i]? = some y := by
      rw [← S.pre, List.getElem?_take_of_lt (by omega)]; exact h1
    have ndP : ps.Nodup := by rw [← S.pre]; exact S.nd.sublist (List.take_sublist _ _)
    refine ⟨u, rv, ?_⟩
    rcases S.par y (List.mem_of_getElem? hp) with k | k
    · exact .inl ⟨k, bindL_get ndP hp hu k⟩
    · obtain ⟨c, e⟩ := cell_has (n := s.heap.objs.size + 1) k
      refine .inr ⟨.inl k, c, e, ?_⟩
      have q := x.cell y c e
      rw [bindC_get ndP hp hu (by show scope.names.lookup y ≠ _; rw [k]; decide)] at q
      exact q
  · exact e0.hok.fresh (Nat.le_of_lt (x.above y c (PySem.mem_of_lookup h)))
  · unfold start
    show _ = N.length
    rw [List.length_append, List.length_map, List.length_replicate]
    omega

/-- THE RULE: a def (or a method) of the text, by its body. The body's reading t is chosen for each entry; it is run at the parameters' values -/
theorem fn_of {CX : CXT} {P : Program} {w : World} {K : PySem.W.Frag} {mg : Str → Option Value} {base : Heap} {k : Nat} {f : Addr} {name qual : Str} {params : Arguments} {body : List Stmt} {scope : Scope} {dV kV doc pm cdv ct oc : Value} {an od : Option Addr}
    {osl : Array (Option Value)} {N ps : List Str} {sp : Sp} (lk : K.lookup f = some ⟨oc, od, .func (PySem.W.fnOf name qual params body scope dV kV doc pm an cdv ct), osl⟩) (hcd : PySem.W.codeIn K cdv qual = true) (S : FnScope N ps scope)
    (len : ∀ vs H Q E, sp vs H Q E → vs.length = ps.length)
    (hbody : ∀ (A : Around) (outer : List Env) (s : Shared) (H : Hp) (vs : List V) (Q : VK) (E : XK), Room k (A.deeper (envOfC qual scope s.heap.objs.size f cdv)) → sp vs H Q E →
      ∃ t, PSs (cxOf CX P w K mg base N qual scope f cdv A outer s H E) body t ∧ t { nx := fun _ H' => Q .non H', rt := Q } (start N vs) H) :
    FnOk P w K mg base CX (k + 1) f (PySem.W.fnOf name qual params body scope dV kV doc pm an cdv ct) ps sp := by
  refine ⟨len, fun A outer s H args us vs Q E hr e0 hb r hsp => ?_⟩
  have hl := len _ _ _ _ hsp
  have KX : K.In s.heap := e0.mod.kin.keeps fun b o e => (e0.bs b o e).1
  have lim : s.heap.NoLimit := e0.mod.nolimit.keeps fun b o e => (e0.bs b o e).1
  have hkind : ∀ y ∈ ps.zip us, scope.names.lookup y.1 = some .local ∨ (scope.names.lookup y.1 = some .cell ∧ ((cellsFrom (s.heap.objs.size + 1) scope.names []).lookup y.1).isSome = true) := fun ⟨n, v⟩ hy => by
    rcases S.par n (List.of_mem_zip hy).1 with q | q
    · exact .inl q
    · exact .inr ⟨q, PySem.W.cellsFrom_some _ _ _ (.inl q)⟩
  refine codeAny_call_function hr.depth (KX _ _ lk) rfl S.co S.gen rfl (PySem.W.codeRec_of KX hcd) (hb _ _ _ _ ?_)
  refine wpAny_newFunctionEnv_cells S.kind hkind fun env he s1 x => ?_
  subst he
  refine ⟨lim.keeps x.toInCall.keep, codeAny_func ?_⟩
  obtain ⟨t, ht, hq⟩ := hbody A outer s H vs Q E (hr.deeper _) hsp
  have I : Inv (cxOf CX P w K mg base N qual scope f cdv A outer s H E) [] (start N vs) H s1 := inv_start S hr.hd e0 hl r x
  refine wpAny_mono (ht [] s1 (start N vs) H _ I hq) (fun fl s' hs => ?_) fun e s' hs => hs
  have fin : ∀ {σ' : St} {H' : Hp} {v : V} {u : Value}, Inv (cxOf CX P w K mg base N qual scope f cdv A outer s H E) [] σ' H' s' → RelV v u → Q v H' → CE outer P w H s Q u s' :=
    fun {σ' H' v u} J rv q => ⟨v, H', J.os, J.bare, J.base, J.hok, rv, q⟩
  cases fl with
  | ret u =>
    obtain ⟨v, σ', H', J, rv, q⟩ := hs
    exact fin J rv q
  | next =>
    obtain ⟨σ', H', J, q⟩ := hs
    exact fin (v := V.non) (u := Value.none) J rfl q
  | brk =>
    obtain ⟨_, _, _, q⟩ := hs
    exact False.elim q
  | cont =>
    obtain ⟨_, _, _, q⟩ := hs
    exact False.elim q
end L2

namespace L2
open PySem PySem.Spec PyProof.Rows
section
variable {X : Cx} {x : Str} {p pos : Pos} {e : Expr} {es : List Expr} {t : TA} {id T : String} {r : List V → Hp → VK → Prop}

def tCB (r : List V → Hp → VK → Prop) (t : TA) : TE := fun σ H Q => t σ H fun vs H1 => r vs H1 Q
/-- f(e, ..), f a built-in function -/
theorem pe_callB (hc : CallR X (.builtin id) r) (hg : Gl X x) (hm : X.mg x = none) (hv : bootBuiltins x = some (.builtin id)) (ha : PA X (e :: es) t) (hn : x ≠ "__name__" := by decide) (hdb : (x == ("__debug__" : Str)) = false := by decide)
    (he : starEach (e :: es) X.env = (false, eval e X.env) :: starEach es X.env := by rfl) (hpl : (backTo pos (starEach es X.env)).any (·.1) = false := by rfl) : PE X (.Call (.Name x p) (e :: es) [] pos) (tCB r t) := by
  intro pins s σ H Q I h
  refine wpAny_Call_Name_kw (ld_blt I hg hm hv ?_ hn hdb)
  exact PyProof.Rows.callWith_builtin1 (thn (ha pos pins s σ H _ I h) fun us s1 ⟨vs, H1, I1, r1, q1⟩ => hc pins s1 σ H1 vs us Q I1 r1 q1) he hpl
/-- T(e, ..), T a built-in type -/
theorem pe_callTy (hc : CallR X (.type T) r) (hg : Gl X x) (hm : X.mg x = none) (hv : bootBuiltins x = some (.type T)) (ha : PA X (e :: es) t) (hn : x ≠ "__name__" := by decide) (hdb : (x == ("__debug__" : Str)) = false := by decide)
    (he : starEach (e :: es) X.env = (false, eval e X.env) :: starEach es X.env := by rfl) (hpl : (backTo pos (starEach es X.env)).any (·.1) = false := by rfl) : PE X (.Call (.Name x p) (e :: es) [] pos) (tCB r t) := by
  intro pins s σ H Q I h
  refine wpAny_Call_Name_kw (ld_blt I hg hm hv ?_ hn hdb)
  exact PyProof.Rows.callWith_type1 (thn (ha pos pins s σ H _ I h) fun us s1 ⟨vs, H1, I1, r1, q1⟩ => hc pins s1 σ H1 vs us Q I1 r1 q1) he hpl
end
end L2

namespace HT
open PySem PyProof.Rows

/-- t < u of tuples of ints -/
def lexLt : List Int → List Int → Bool
  | [], [] => false
  | [], _ :: _ => true
  | _ :: _, [] => false
  | x :: xs, y :: ys => if x = y then lexLt xs ys else decide (x < y)
theorem lexLt_cons (x y : Int) (xs ys : List Int) : lexLt (x :: xs) (y :: ys) = if x = y then lexLt xs ys else decide (x < y) := rfl
section
open PySem.SeqAt
open PySem.AutoSeq1 (wpAny_loadPart')
open PySem.MeetsSeq PySem.MeetsSeq2 PySem.MeetsSeq3

end

section
variable {prog : Program} {w : World} {A : Around} {E : Value → Shared → Prop} {s : Shared}

/-! ### t[a:b], not the whole -/
/-- a slice's bound as a place among n (d where it is left out) -/
def sIx (n d : Nat) : Option Int → Nat
  | none => d
  | some v => if v < 0 then (v + (n : Int)).toNat else min v.toNat n
theorem sIx_none (n d : Nat) : sIx n d none = d := rfl
theorem sIx_nat (n d k : Nat) : sIx n d (some (k : Int)) = min k n := by
  show (if (k : Int) < 0 then ((k : Int) + (n : Int)).toNat else min (k : Int).toNat n) = min k n
  rw [if_neg (by omega), Int.toNat_natCast]
end
end HT

namespace L2
open PySem PySem.Spec PyProof.Rows

/-! ### the parts of a slice -/
abbrev TO := St → Hp → (Option Int → Hp → Prop) → Prop
/-- a slice's part (left out, or an int) -/
def PO (X : Cx) (e : Option Expr) (t : TO) : Prop :=
  ∀ (pins : List (Addr × Obj)) (s : Shared) (σ : St) (H : Hp) (Q : Option Int → Hp → Prop), Inv X pins σ H s → t σ H Q →
    wpAny (model X.prog X.w) X.A (evalPart e X.env) (fun u s' => ∃ o H', Inv X pins σ H' s' ∧ IsPart u o ∧ Q o H') X.xe s
def tNoPart : TO := fun _ H Q => Q none H
def tPart (t : TE) : TO := fun σ H Q => t σ H fun x H1 => ∃ i, x = .int i ∧ Q (some i) H1

section
variable {X : Cx} {e : Expr} {te : TE} {lo hi : Option Expr} {tl th : TO} {pos p2 : Pos}

theorem po_none : PO X none tNoPart := by
  intro pins s σ H Q I h
  rw [evalPart_none]
  exact wpAny_pure ⟨none, H, I, .none, h⟩
theorem po_some (h : PE X e te) : PO X (some e) (tPart te) := by
  intro pins s σ H Q I hw
  rw [evalPart_some]
  refine thn (h pins s σ H _ I hw) fun u s1 ⟨x, H1, I1, r1, q1⟩ => ?_
  obtain ⟨i, rfl, q⟩ := q1
  obtain ⟨t, rfl⟩ := r1
  exact ⟨some i, H1, I1, .int i t, q⟩

/-- what a slice of a value is, by values: the slice object stands at sl -/
def SlR (X : Cx) (r : V → Option Int → Option Int → Hp → VK → Prop) : Prop :=
  ∀ (pins : List (Addr × Obj)) (s : Shared) (σ : St) (H : Hp) (x : V) (v vl vu : Value) (lo hi : Option Int) (sl : Addr) (Q : VK), Inv X pins σ H s → RelV x v → s.heap.IsSliceOf sl vl vu .none → IsPart vl lo → IsPart vu hi → r x lo hi H Q →
    ∃ T id, typeLookup (.type T) "__getitem__" = pure (some (.builtin id)) ∧ s.TypeIs v T ∧ wpAny (model X.prog X.w) X.A (getItem v (.ref sl)) (EP X pins σ Q) X.xe s
theorem SlR.or {r r' : V → Option Int → Option Int → Hp → VK → Prop} (h : SlR X r) (h' : SlR X r') : SlR X (fun x lo hi H Q => r x lo hi H Q ∨ r' x lo hi H Q) := by
  intro pins s σ H x v vl vu lo hi sl Q I rx hs pl pu q
  rcases q with q | q
  · exact h pins s σ H x v vl vu lo hi sl Q I rx hs pl pu q
  · exact h' pins s σ H x v vl vu lo hi sl Q I rx hs pl pu q
def tSl (r : V → Option Int → Option Int → Hp → VK → Prop) (te : TE) (tl th : TO) : TE := fun σ H Q => te σ H fun x H1 => tl σ H1 fun l H2 => th σ H2 fun u H3 => r x l u H3 Q
/-- a[lo:hi], any a -/
theorem pe_slice {r : V → Option Int → Option Int → Hp → VK → Prop} (hr : SlR X r) (he : PE X e te) (hl : PO X lo tl) (hu : PO X hi th) : PE X (.Subscript e (.Slice lo hi none p2) pos) (tSl r te tl th) := by
  intro pins s σ H Q I h
  refine Subscript_ (thn (he pins s σ H _ I h) fun v s1 ⟨x, H1, I1, r1, q1⟩ => ?_)
  refine wpAny_Slice (thn (hl pins s1 σ H1 _ I1 q1) fun vl s2 ⟨l, H2, I2, pl, q2⟩ => thn (hu pins s2 σ H2 _ I2 q2) fun vu s3 ⟨u, H3, I3, pu, q3⟩ => ?_)
  rw [evalPart_none]
  refine wpAny_pure ?_
  have I4 : Inv X pins σ H3 { s3 with heap := s3.heap.push { cls := .type "slice", data := .fields #[vl, vu, .none] } } := I3.kept (t' := s3.toks) fun b ob q => Heap.get?_push_of_some _ q
  obtain ⟨T, id, hT, ht, hg⟩ := hr pins { s3 with heap := s3.heap.push { cls := .type "slice", data := .fields #[vl, vu, .none] } } σ H3 x v vl vu l u s3.heap.objs.size Q I4 r1 (Heap.IsSliceOf.new ..) pl pu q3
  show wpAny (model X.prog X.w) X.A (subscriptTail e (.Slice lo hi none p2) v (.ref s3.heap.objs.size)) (EP X pins σ Q) X.xe { s3 with heap := s3.heap.push { cls := .type "slice", data := .fields #[vl, vu, .none] } }
  exact tail_any (ops := [.ref s3.heap.objs.size, v]) ht hT hg (by with_unfolding_all rfl)

/-- the items of xs[lo:hi] -/
def cutV (xs : List V) (lo hi : Option Int) : List V := (xs.drop (HT.sIx xs.length 0 lo)).take (HT.sIx xs.length xs.length hi - HT.sIx xs.length 0 lo)
theorem cutV_length (xs : List V) (lo hi : Option Int) : (cutV xs lo hi).length ≤ xs.length := by
  unfold cutV
  rw [List.length_take, List.length_drop]
  omega
/-! ### t < u, t + u -/
end
end L2

namespace L2
open PySem PySem.Spec PyProof.Rows

/-! ### places -/
/-- the place that an index of any sign means -/
def ixN (n : Nat) (i : Int) : Option Nat := if 0 ≤ i then (if i < n then some i.toNat else none) else if -(n : Int) ≤ i then some (i + n).toNat else none
def atI {α : Type} (xs : List α) (i : Int) : Option α := (ixN xs.length i).bind fun j => xs[j]?
theorem ixN_seq {n : Nat} {i : Int} {j : Nat} (h : ixN n i = some j) : seqIndex? i n = some j ∧ j < n ∧ -(n : Int) ≤ i ∧ i < n := by
  unfold ixN at h
  by_cases h0 : 0 ≤ i
  · rw [if_pos h0] at h
    by_cases h1 : i < n
    · rw [if_pos h1] at h
      have e : i.toNat = j := Option.some.inj h
      exact ⟨by rw [seqIndex_of h0 h1, e], by omega, by omega, h1⟩
    · rw [if_neg h1] at h; cases h
  · rw [if_neg h0] at h
    by_cases h1 : -(n : Int) ≤ i
    · rw [if_pos h1] at h
      have e : (i + n).toNat = j := Option.some.inj h
      exact ⟨by rw [seqIndex_neg (by omega) h1, e], by omega, h1, by omega⟩
    · rw [if_neg h1] at h; cases h
theorem atI_get {α : Type} {xs : List α} {i : Int} {v : α} (h : atI xs i = some v) : ∃ j, seqIndex? i xs.length = some j ∧ xs[j]? = some v ∧ j < xs.length ∧ -(xs.length : Int) ≤ i ∧ i < xs.length := by
  unfold atI at h
  cases e : ixN xs.length i with
  | none => rw [e] at h; cases h
  | some j =>
    rw [e] at h
    obtain ⟨h1, h2, h3, h4⟩ := ixN_seq e
    exact ⟨j, h1, h, h2, h3, h4⟩
theorem atI_nat {α : Type} {xs : List α} {j : Nat} {v : α} (h : xs[j]? = some v) : atI xs (j : Int) = some v := by
  have hj : j < xs.length := (List.getElem?_eq_some_iff.mp h).1
  have e : ixN xs.length (j : Int) = some j := by
    unfold ixN
    rw [if_pos (by omega), if_pos (by omega)]; simp
  unfold atI; rw [e]; exact h
/-! ### what may be subscripted -/
/-- what stands as an index of a plain subscript -/
def PlainIx (b : Expr) : Prop := ∀ o i, subscripted b false o i = operate [o, i] (getItem o i)
/-- a subscript by values -/
def IxR (X : Cx) (r : R2) : Prop :=
  ∀ (value slice : Expr) (pins : List (Addr × Obj)) (s : Shared) (σ : St) (H : Hp) (x y : V) (v u : Value) (Q : VK), Inv X pins σ H s → RelV x v → RelV y u → r x y H Q →
    subscripted slice false v u = operate [v, u] (getItem v u) → wpAny (model X.prog X.w) X.A (subscriptTail value slice v u) (EP X pins σ Q) X.xe s
/-- a call of a builtin's method by values: the receiver, the arguments -/
def MtR (X : Cx) (id : String) (r : V → List V → Hp → VK → Prop) : Prop :=
  ∀ (pins : List (Addr × Obj)) (s : Shared) (σ : St) (H : Hp) (x : V) (xs : List V) (v : Value) (us : List Value) (Q : VK), Inv X pins σ H s → RelV x v → Vals xs us → r x xs H Q →
    wpAny (model X.prog X.w) X.A (call (.builtin id) (v :: us)) (EP X pins σ Q) X.xe s
section
variable {X : Cx} {a b : Expr} {ta tb : TE} {pos : Pos}
theorem IxR.or {r r' : R2} (h : IxR X r) (h' : IxR X r') : IxR X (fun x y H Q => r x y H Q ∨ r' x y H Q) := by
  intro value slice pins s σ H x y v u Q I rx ry q hs
  rcases q with q | q
  · exact h value slice pins s σ H x y v u Q I rx ry q hs
  · exact h' value slice pins s σ H x y v u Q I rx ry q hs
theorem MtR.or {id : String} {r r' : V → List V → Hp → VK → Prop} (h : MtR X id r) (h' : MtR X id r') : MtR X id (fun x xs H Q => r x xs H Q ∨ r' x xs H Q) := by
  intro pins s σ H x xs v us Q I rx rs q
  rcases q with q | q
  · exact h pins s σ H x xs v us Q I rx rs q
  · exact h' pins s σ H x xs v us Q I rx rs q
/-- a[b] -/
theorem pe_ix {r : R2} (hr : IxR X r) (ha : PE X a ta) (hb : PE X b tb) (hs : PlainIx b) : PE X (.Subscript a b pos) (tOp r ta tb) := by
  intro pins s σ H Q I h
  exact Subscript_ (binT ha hb I h fun v u s2 x y H2 I2 rx ry q => hr a b pins s2 σ H2 x y v u Q I2 rx ry q (hs _ _))

def rIxL (K : PySem.W.Frag) : R2 := fun x y H Q => ∃ p xs i v, x = .ref p ∧ y = .int i ∧ SqL K H p xs ∧ atI xs i = some v ∧ Q v H
theorem ix_list : IxR X (rIxL X.K) := by
  intro value slice pins s σ H x y v u Q I rx ry h hs
  obtain ⟨p, xs, i, z, rfl, rfl, hq, he, q⟩ := h
  cases rx
  obtain ⟨t, rfl⟩ := ry
  obtain ⟨its, r, pl, hz⟩ := I.list hq
  obtain ⟨j, h1, h2, h3, h4, h5⟩ := atI_get he
  obtain ⟨w, ew, rw'⟩ := r.get h2
  have hl := r.length
  have hn := line63
  have fin : EP X pins σ Q w s := ⟨z, H, I, rw', q⟩
  by_cases h0 : 0 ≤ i
  · have hj : i.toNat = j := by
      rw [seqIndex_of h0 h5] at h1
      exact Option.some.inj h1
    exact item_listR pl.isList h0 (by omega) (by rw [hj]; simpa using ew) fin hs
  · have hj : (i + (its.toArray.size : Int)).toNat = j := by
      rw [seqIndex_neg (by omega) h4] at h1
      rw [List.size_toArray, ← hl]
      exact Option.some.inj h1
    exact subscriptTail_builtinR (x := w) pl.isList.typeIs slot_list_getitem.lookup
      (wpAny_getItem_list_neg (Q := fun r s' => r = w ∧ EP X pins σ Q r s') pl.isList (by omega) (by rw [List.size_toArray] <;> omega) (by omega) (by rw [hj]; simpa using ew) ⟨rfl, fin⟩) hs
/-! ### xs[i] = v, any sign -/
/-- the list's object behind a store -/
theorem mapSeq_set (its : List Value) (n j : Nat) (u : Value) : Obj.mapSeq (·.setIfInBounds j u) { cls := .type "list", data := .seq its.toArray n } = { cls := .type "list", data := .seq (its.set j u).toArray n } := by
  simp [Obj.mapSeq]
theorem Inv.lst {pins : List (Addr × Obj)} {σ : St} {H : Hp} {s : Shared} {p : Addr} {xs : List V} (I : Inv X pins σ H s) (h : H p = some (.lst xs)) :
    ∃ (its : List Value) (n : Nat), Vals xs its ∧ s.heap.get? p = some { cls := .type "list", data := .seq its.toArray n } ∧ xs.length ≤ sizeLine := by
  obtain ⟨z, its, n, r, e⟩ := I.hok p _ h
  exact ⟨its, n, r, e, z⟩
/-- the list at p is written by an update of its object -/
theorem Inv.lstUpd {pins : List (Addr × Obj)} {σ : St} {H : Hp} {s : Shared} {p : Addr} {xs ys : List V} {its its' : List Value} {n n' : Nat} {f : Obj → Obj} (I : Inv X pins σ H s) (h : H p = some (.lst xs))
    (ho : s.heap.get? p = some { cls := .type "list", data := .seq its.toArray n }) (hf : f { cls := .type "list", data := .seq its.toArray n } = { cls := .type "list", data := .seq its'.toArray n' }) (r : Vals ys its') (hz : ys.length ≤ sizeLine) (t : Nat) :
    Inv X pins σ (upd H p (.lst ys)) { s with heap := s.heap.update p f, toks := t } := by
  have e : (s.heap.update p f).get? p = some { cls := .type "list", data := .seq its'.toArray n' } := by
    rw [Heap.get?_update_self f ho (by rw [hf] <;> rfl), hf]
  refine I.write (x := p) (e := p) (by rw [h]; trivial) (.inl rfl) (fun b u hb q => (Heap.get?_update_other _ _ (Ne.symm hb)).trans q) ⟨_, e⟩ ?_
  exact ⟨hz, its', n', r, e⟩
def rSetL : V → V → V → Hp → (Hp → Prop) → Prop := fun o i v H Q => ∃ p xs k j, o = .ref p ∧ i = .int k ∧ H p = some (.lst xs) ∧ ixN xs.length k = some j ∧ Q (upd H p (.lst (xs.set j v)))
theorem set_list : PSet X rSetL := by
  intro pins s σ H o i v ov iv u Q I ro ri rv h
  obtain ⟨p, xs, k, j, rfl, rfl, hp, hj, q⟩ := h
  cases ro
  obtain ⟨t, rfl⟩ := ri
  obtain ⟨its, n, r, ho, hz⟩ := I.lst hp
  obtain ⟨h1, h2, h3, h4⟩ := ixN_seq hj
  have hl := r.length
  have hn := line63
  have I' : Inv X pins σ (upd H p (.lst (xs.set j v))) { s with heap := s.heap.update p (Obj.mapSeq (·.setIfInBounds j u)) } :=
    I.lstUpd hp ho (mapSeq_set its n j u) (r.set rv j) (by rw [List.length_set]; exact hz) s.toks
  by_cases h0 : 0 ≤ k
  · have hk : k.toNat = j := by
      rw [seqIndex_of h0 h4] at h1
      exact Option.some.inj h1
    exact PySem.W.ki_setAt ho h0 (by omega) (by rw [List.size_toArray, ← hl]; exact h4) (by rw [hk]; exact ⟨_, I', q⟩)
  · have hk : (k + (its.toArray.size : Int)).toNat = j := by
      rw [seqIndex_neg (by omega) h3] at h1
      rw [List.size_toArray, ← hl]
      exact Option.some.inj h1
    exact PySem.W.ki_setBack ho (by omega) (by rw [List.size_toArray, ← hl]; exact h3) (by omega) (by rw [hk]; exact ⟨_, I', q⟩)

/-! ### slices -/
theorem slice_bounds (lo hi : Option Int) (n : Nat) : (sliceBounds lo hi none n).1 = ((HT.sIx n 0 lo : Nat) : Int) ∧ (sliceBounds lo hi none n).2.1 = ((HT.sIx n n hi : Nat) : Int) ∧ (sliceBounds lo hi none n).2.2 = 1 := by
  refine ⟨?_, ?_, rfl⟩
  · cases lo with
    | none => simp [sliceBounds, HT.sIx]
    | some i =>
      simp only [sliceBounds, HT.sIx, Option.getD_none, show (1 : Int) > 0 by decide, if_true]
      by_cases h : i < 0
      · simp only [h, if_true] <;> omega
      · simp only [h, if_false] <;> omega
  · cases hi with
    | none => simp [sliceBounds, HT.sIx]
    | some i =>
      simp only [sliceBounds, HT.sIx, Option.getD_none, show (1 : Int) > 0 by decide, if_true]
      by_cases h : i < 0
      · simp only [h, if_true] <;> omega
      · simp only [h, if_false] <;> omega
theorem slicePick_cut (its : List Value) (lo hi : Option Int) : slicePick its.toArray lo hi none = ((its.drop (HT.sIx its.length 0 lo)).take (HT.sIx its.length its.length hi - HT.sIx its.length 0 lo)).toArray := by
  obtain ⟨h1, h2, h3⟩ := slice_bounds lo hi its.toArray.size
  unfold slicePick
  rw [h1, h2, h3]
  simp only [sliceRange_one, pick_run, List.size_toArray] <;> rfl
/-- xs[lo:hi] of a list: a new list -/
def rSlL (K : PySem.W.Frag) : V → Option Int → Option Int → Hp → VK → Prop := fun x lo hi H Q => ∃ a xs, x = .ref a ∧ SqL K H a xs ∧ ∀ p, H p = none → Q (.ref p) (upd H p (.lst (cutV xs lo hi)))
theorem sl_list : SlR X (rSlL X.K) := by
  intro pins s σ H x v vl vu lo hi sl Q I rx hs pl pu h
  obtain ⟨a, xs, rfl, hx, q⟩ := h
  cases rx
  obtain ⟨its, r, ht, hz⟩ := I.list hx
  have hlen := r.length
  refine ⟨"list", _, slot_list_getitem.lookup, ht.isList.typeIs, ?_⟩
  refine wpAny_getItem_list_slice ht.isList hs pl pu .none (by simp) ?_ (by rw [List.size_toArray] <;> omega)
  rw [slicePick_cut, ← hlen]
  refine ⟨.ref s.heap.objs.size, _, I.laid (t' := s.toks) (o := .lst (cutV xs lo hi)) (fun b ob q => Heap.get?_push_of_some _ q) (Nat.le_refl _) ?_, rfl, q _ (I.hok.fresh (Nat.le_refl _))⟩
  exact ⟨Nat.le_trans (cutV_length xs lo hi) hz, _, 0, (r.drop (HT.sIx xs.length 0 lo)).take (HT.sIx xs.length xs.length hi - HT.sIx xs.length 0 lo), Heap.get?_push_size _ rfl⟩

/-! ### in, not in: flat items -/
def flatV : V → Bool
  | .non => true
  | .bl _ => true
  | .int _ => true
  | .str _ => true
  | _ => false
/-- == of flat values -/
def eqV : V → V → Bool
  | .non, .non => true
  | .bl a, .bl b => a == b
  | .bl a, .int b => (if a then 1 else 0) == b
  | .int a, .bl b => a == (if b then 1 else 0)
  | .int a, .int b => a == b
  | .str a, .str b => a == b
  | _, _ => false
theorem eqAt_V {A : Around} {s : Shared} {y x : V} {u v : Value} (ry : RelV y u) (rx : RelV x v) (fy : flatV y = true) (fx : flatV x = true) : SeqAt.EqAt A s u v (eqV y x) := by
  cases y with
  | non =>
    cases ry
    cases x with
    | non => cases rx; exact SeqAt.EqAt.same _
    | bl b => cases rx; exact SeqAt.EqAt.none_bool b
    | int b => obtain ⟨t, rfl⟩ := rx; exact SeqAt.EqAt.none_int b t
    | str b => obtain ⟨t, rfl⟩ := rx; exact SeqAt.EqAt.none_str b t
    | _ => exact absurd (show false = true from fx) Bool.false_ne_true
  | bl a =>
    cases ry
    cases x with
    | non => cases rx; exact SeqAt.EqAt.bool_none a
    | bl b => cases rx; exact SeqAt.EqAt.bool_bool a b
    | int b => obtain ⟨t, rfl⟩ := rx; exact SeqAt.EqAt.bool_int a b t
    | str b => obtain ⟨t, rfl⟩ := rx; exact SeqAt.EqAt.bool_str a b t
    | _ => exact absurd (show false = true from fx) Bool.false_ne_true
  | int a =>
    obtain ⟨t', rfl⟩ := ry
    cases x with
    | non => cases rx; exact SeqAt.EqAt.int_none a t'
    | bl b => cases rx; exact SeqAt.EqAt.int_bool a t' b
    | int b => obtain ⟨t, rfl⟩ := rx; exact SeqAt.EqAt.int_int a t' b t
    | str b => obtain ⟨t, rfl⟩ := rx; exact SeqAt.EqAt.int_str a t' b t
    | _ => exact absurd (show false = true from fx) Bool.false_ne_true
  | str a =>
    obtain ⟨t', rfl⟩ := ry
    cases x with
    | non => cases rx; exact SeqAt.EqAt.str_none a t'
    | bl b => cases rx; exact SeqAt.EqAt.str_bool a t' b
    | int b => obtain ⟨t, rfl⟩ := rx; exact SeqAt.EqAt.str_int a t' b t
    | str b => obtain ⟨t, rfl⟩ := rx; exact SeqAt.EqAt.str_str a t' b t
    | _ => exact absurd (show false = true from fx) Bool.false_ne_true
  | _ => exact absurd (show false = true from fy) Bool.false_ne_true
/-- the items' answers, read off the values (a value's own answer does not lean on its token) -/
def eqU (x : V) (u : Value) : Bool := match u with
  | .none => eqV .non x
  | .bool b => eqV (.bl b) x
  | .int i _ => eqV (.int i) x
  | .str z _ => eqV (.str z) x
  | _ => false
theorem eqU_of {x y : V} {u : Value} (r : RelV y u) (f : flatV y = true) : eqU x u = eqV y x := by
  cases y with
  | non => cases r; rfl
  | bl b => cases r; rfl
  | int i => obtain ⟨t, rfl⟩ := r; rfl
  | str z => obtain ⟨t, rfl⟩ := r; rfl
  | _ => exact absurd (show false = true from f) Bool.false_ne_true
theorem any_eqU {x : V} : ∀ {xs : List V} {us : List Value}, Vals xs us → xs.all flatV = true → us.any (eqU x) = xs.any fun y => eqV y x
  | _, _, .nil, _ => rfl
  | y :: xs, u :: us, .cons r t, f => by
    rw [List.all_cons, Bool.and_eq_true] at f
    rw [List.any_cons, List.any_cons, eqU_of r f.1, any_eqU t f.2]
theorem mem_eqAt {A : Around} {s : Shared} {x : V} {v : Value} (rx : RelV x v) (fx : flatV x = true) : ∀ {xs : List V} {us : List Value}, Vals xs us → xs.all flatV = true → ∀ u ∈ us, SeqAt.EqAt A s u v (eqU x u)
  | _, _, .nil, _ => fun u hu => by cases hu
  | y :: xs, u :: us, .cons r t, f => fun u' hu => by
    rw [List.all_cons, Bool.and_eq_true] at f
    rcases List.mem_cons.mp hu with rfl | hu
    · rw [eqU_of r f.1]; exact eqAt_V r rx f.1 fx
    · exact mem_eqAt rx fx t f.2 u' hu
def inV (x : V) (xs : List V) : Bool := xs.any fun y => eqV y x
/-- x in a list or tuple of flat items -/
def rIn (K : PySem.W.Frag) (neg : Bool) : R2 := fun x y H Q => ∃ p xs, y = .ref p ∧ (SqL K H p xs ∨ SqT K H p xs) ∧ flatV x = true ∧ xs.all flatV = true ∧ Q (.bl (if neg then !inV x xs else inV x xs)) H
theorem op_notIn_seq : OpR X (compareOp .NotIn) (rIn X.K true) := by
  intro pins s σ H x y v u Q I rx ry h
  obtain ⟨p, xs, rfl, hq, fx, fs, q⟩ := h
  cases ry
  rcases hq with hq | hq
  · obtain ⟨its, r, pl, hz⟩ := I.list hq
    refine SeqAt.notIn_listAt (eqU x) pl.isList (fun w hw => mem_eqAt rx fx r fs w (by simpa using hw)) ⟨.bl _, H, I, rfl, ?_⟩
    rw [show its.toArray.any (eqU x) = its.any (eqU x) by simp, any_eqU r fs]
    exact q
  · obtain ⟨its, r, pl, hz⟩ := I.tuple hq
    refine SeqAt.notIn_tupleAt (eqU x) pl (fun w hw => mem_eqAt rx fx r fs w (by simpa using hw)) ⟨.bl _, H, I, rfl, ?_⟩
    rw [show its.toArray.any (eqU x) = its.any (eqU x) by simp, any_eqU r fs]
    exact q
/-! ### len, list(x), tuple(x) of any list or tuple that is read -/
theorem call_len_seq : CallR X (.builtin "len") (fun xs H Q => ∃ p ys, xs = [.ref p] ∧ (SqL X.K H p ys ∨ SqT X.K H p ys) ∧ Q (.int ys.length) H) := by
  intro pins s σ H xs us Q I r h
  obtain ⟨p, ys, rfl, hq, q⟩ := h
  obtain ⟨u, rfl, rx⟩ := vals1 r
  cases rx
  have hn := line63
  rcases hq with hq | hq
  · obtain ⟨its, r', pl, hz⟩ := I.list hq
    have hlen := r'.length
    exact Calls.call_len_list pl.isList (by simp only [List.size_toArray] <;> omega) ⟨.int ys.length, H, I.tok _, ⟨s.toks + 1, by rw [List.size_toArray, hlen]⟩, q⟩
  · obtain ⟨its, r', pl, hz⟩ := I.tuple hq
    have hlen := r'.length
    exact len_tuple pl (by simp only [List.size_toArray] <;> omega) ⟨.int ys.length, H, I.tok _, ⟨s.toks + 1, by rw [List.size_toArray, hlen]⟩, q⟩
theorem CallR.or {f : Value} {r r' : List V → Hp → VK → Prop} (h : CallR X f r) (h' : CallR X f r') : CallR X f (fun xs H Q => r xs H Q ∨ r' xs H Q) := by
  intro pins s σ H xs us Q I rs q
  rcases q with q | q
  · exact h pins s σ H xs us Q I rs q
  · exact h' pins s σ H xs us Q I rs q
theorem call_list_of : CallR X (.type "list") (fun xs H Q => ∃ p ys, xs = [.ref p] ∧ (SqL X.K H p ys ∨ SqT X.K H p ys) ∧ ∀ l, H l = none → Q (.ref l) (upd H l (.lst ys))) := by
  intro pins s σ H xs us Q I r h
  obtain ⟨p, ys, rfl, hq, q⟩ := h
  obtain ⟨u, rfl, rx⟩ := vals1 r
  cases rx
  have fin : ∀ (its : List Value), Vals ys its → ys.length ≤ sizeLine → ∀ (h' : Heap) (c' : Nat), (∀ b o', s.heap.get? b = some o' → h'.get? b = some o') →
      h'.get? s.heap.objs.size = some { cls := .type "list", dict := none, data := .seq its.toArray c', slots := #[] } → EP X pins σ Q (.ref s.heap.objs.size) { s with heap := h' } := fun its r' hz h' c' kp e =>
    ⟨.ref s.heap.objs.size, _, I.laid (t' := s.toks) kp (Nat.le_refl _) (show ObjOk X.prog X.w _ h' _ (.lst ys) from ⟨hz, its, c', r', e⟩), rfl, q _ (I.hok.fresh (Nat.le_refl _))⟩
  rcases hq with hq | hq
  · obtain ⟨its, r', pl, hz⟩ := I.list hq
    have hlen := r'.length
    obtain ⟨o, ho, hc, n, hd⟩ := pl.isList
    exact call_list_seq p (.inl rfl) ho hc hd (fun h' c' kp e => fin its r' hz h' c' kp e) (by simp only [List.size_toArray] <;> omega)
  · obtain ⟨its, r', pl, hz⟩ := I.tuple hq
    have hlen := r'.length
    obtain ⟨o, ho, hc, n, hd⟩ := pl
    exact call_list_seq p (.inr rfl) ho hc hd (fun h' c' kp e => fin its r' hz h' c' kp e) (by simp only [List.size_toArray] <;> omega)
/-! ### the call of a builtin's method: o.m(..) -/
/-- the value is of that builtin type -/
def tyV (K : PySem.W.Frag) (T : String) (x : V) (H : Hp) : Prop := match x with
  | .str _ => T = "str"
  | .int _ => T = "int"
  | .ref p => (T = "list" ∧ ∃ xs, SqL K H p xs) ∨ (T = "tuple" ∧ ∃ o, K.lookup p = some o ∧ o.cls = .type "tuple" ∧ o.dict = none) ∨
      (T = "dict" ∧ ((∃ kvs, H p = some (.dK kvs)) ∨ ∃ kvs, H p = some (.dT kvs))) ∨ (T = "set" ∧ ∃ S n, H p = some (.set S n))
  | _ => False
theorem tyV_is {pins : List (Addr × Obj)} {σ : St} {H : Hp} {s : Shared} {T : String} {x : V} {v : Value} (I : Inv X pins σ H s) (r : RelV x v) (ty : tyV X.K T x H) :
    s.TypeIs v T ∧ ∀ a, v = .ref a → ∃ ob, s.heap.get? a = some ob ∧ ob.dict = none := by
  cases x with
  | str z =>
    obtain ⟨t, rfl⟩ := r
    cases (show T = "str" from ty)
    exact ⟨typeIs_str s z t, fun _ e => nomatch e⟩
  | int i =>
    obtain ⟨t, rfl⟩ := r
    cases (show T = "int" from ty)
    exact ⟨typeIs_int s i t, fun _ e => nomatch e⟩
  | ref p =>
    cases r
    rcases ty with ⟨rfl, xs, hq⟩ | ⟨rfl, o, hk, hc, hd⟩ | ⟨rfl, hk⟩ | ⟨rfl, S, n, hk⟩
    · obtain ⟨its, _, pl, _⟩ := I.list hq
      refine ⟨pl.isList.typeIs, fun a e => ?_⟩
      cases e
      obtain ⟨o, n, e, c, hd, _⟩ := pl
      exact ⟨o, e, hd⟩
    · refine ⟨⟨o, I.kIn p o hk, hc⟩, fun a e => ?_⟩
      cases e
      exact ⟨o, I.kIn _ o hk, hd⟩
    · have z : ∃ o, s.heap.get? p = some o ∧ o.ExactDict := by
        rcases hk with ⟨kvs, hk⟩ | ⟨kvs, hk⟩
        · obtain ⟨_, _, _, _, o, _, _, e, ex, _⟩ := I.hok p _ hk
          exact ⟨o, e, ex⟩
        · obtain ⟨_, _, _, _, o, _, _, e, ex, _⟩ := I.hok p _ hk
          exact ⟨o, e, ex⟩
      obtain ⟨o, e, ex⟩ := z
      refine ⟨⟨o, e, ex.1⟩, fun a e2 => ?_⟩
      cases e2
      exact ⟨o, e, ex.2.1⟩
    · obtain ⟨o, _, _, _, e, ex, _⟩ := I.hok p _ hk
      refine ⟨⟨o, e, ex.1⟩, fun a e2 => ?_⟩
      cases e2
      exact ⟨o, e, ex.2.1⟩
  | _ => exact False.elim ty
def tBM (K : PySem.W.Frag) (T : String) (r : V → List V → Hp → VK → Prop) (to : TE) (t : TA) : TE := fun σ H Q => to σ H fun x H1 => tyV K T x H1 ∧ t σ H1 fun xs H2 => r x xs H2 Q
variable {o e : Expr} {es : List Expr} {to : TE} {t : TA} {name : Str} {apos cpos : Pos} {T id : String} {r : V → List V → Hp → VK → Prop}
theorem pe_bm (pa : PlainAttrs T) (slot : Slot T name id) (hty : typeOf (.builtin id) = pure (.type "method_descriptor")) (hm : MtR X id r) (ho : PE X o to) (ha : PA X (e :: es) t)
    (hbase : attributeBase o name X.env (eval o X.env) = eval o X.env := by rfl)
    (hfew : ((backTo cpos (starEach (e :: es) X.env)).all (fun x => !x.1) && (backToKw cpos (keywordEach [] X.env)).all (fun x => x.1.isSome)
      && decide ((e :: es).length + ([] : List Keyword).length + (if ([] : List Keyword).isEmpty then 0 else 1) < 30)) = true := by rfl)
    (hline : (apos.endLine == cpos.line) = true := by rfl) (hs : starEach (e :: es) X.env = (false, eval e X.env) :: starEach es X.env := by rfl) (hplain : (backTo cpos (starEach es X.env)).any (·.1) = false := by rfl) :
    PE X (.Call (.Attribute o name apos) (e :: es) [] cpos) (tBM X.K T r to t) := by
  intro pins s σ H Q I h
  refine wpAny_Call_method_late hbase hfew hline rfl (thn (ho pins s σ H _ I h) fun v s1 ⟨x, H1, I1, r1, ty, q1⟩ => ?_)
  obtain ⟨h1, h2⟩ := tyV_is I1 r1 ty
  refine ⟨T, id, pa, slot, hty, h1, h2, ?_⟩
  have hA := ha cpos pins s1 σ H1 _ I1 q1
  rw [hs] at hA ⊢
  refine Calls.callWith_builtin (by show (false || (backTo cpos (starEach es X.env)).any (·.1)) = false; rw [hplain] <;> rfl) (Calls.evalArgs_plain ?_)
  exact thn hA fun us s2 ⟨vs, H2, I2, r2, q2⟩ => hm pins s2 σ H2 x vs v us Q I2 r1 r2 q2
/- xs.append(e), list.index on a module's tuple .. are MtR facts of 06m -/
end
end L2

namespace L2
open PySem PySem.Spec PyProof.Rows

def MtM (X : Cx) (id : String) (r : V → List V → Hp → VK → Prop) : Prop :=
  ∀ (pins : List (Addr × Obj)) (s : Shared) (σ : St) (H : Hp) (x : V) (xs : List V) (v : Value) (us : List Value) (Q : VK), Inv X pins σ H s → RelV x v → Vals xs us → r x xs H Q →
    wpAny (model X.prog X.w) X.A (call (.builtin id) (v :: us)) (EP X pins σ Q) X.xe s

/-! ### lists of values -/
theorem Vals.one : ∀ {x : V} {us : List Value}, Vals [x] us → ∃ u, us = [u] ∧ RelV x u
  | _, _, .cons r .nil => ⟨_, rfl, r⟩
theorem Vals.two : ∀ {x y : V} {us : List Value}, Vals [x, y] us → ∃ u v, us = [u, v] ∧ RelV x u ∧ RelV y v
  | _, _, _, .cons r (.cons q .nil) => ⟨_, _, rfl, r, q⟩
theorem Vals.zero : ∀ {us : List Value}, Vals [] us → us = []
  | _, .nil => rfl
section
variable {X : Cx} {pins : List (Addr × Obj)} {σ : St} {H : Hp} {s : Shared} {l b : Addr} {xs ys zs : List V}

/-! ### the two steps: a tracked list is rewritten, a new list is laid -/
theorem Inv.lset {its its' : List Value} {n : Nat} {f : Array Value → Array Value} {t' : Nat} (I : Inv X pins σ H s) (hH : H l = some (.lst xs))
    (e : s.heap.get? l = some { cls := .type "list", data := .seq its.toArray n }) (hf : f its.toArray = its'.toArray) (hv : Vals ys its') (hz : ys.length ≤ sizeLine) :
    Inv X pins σ (upd H l (.lst ys)) { s with heap := s.heap.update l (Obj.mapSeq f), toks := t' } := by
  have q := PySem.IsL.update e f
  rw [hf] at q
  refine I.write (x := l) (e := l) (by rw [hH]; exact trivial) (.inl rfl) (fun b' u hb hu => (Heap.get?_update_other s.heap (Obj.mapSeq f) (Ne.symm hb)).trans hu) ⟨_, q⟩ ?_
  exact ⟨hz, its', _, hv, q⟩
theorem Inv.lnew {its : List Value} {t' : Nat} (I : Inv X pins σ H s) (hv : Vals ys its) (hz : ys.length ≤ sizeLine) :
    Inv X pins σ (upd H s.heap.objs.size (.lst ys)) { s with heap := s.heap.push { cls := .type "list", data := .seq its.toArray }, toks := t' } :=
  I.laid (fun _ _ q => Heap.get?_push_of_some _ q) (Nat.le_refl _) ⟨hz, its, 0, hv, Heap.get?_push_size _ rfl⟩
theorem Inv.fresh (I : Inv X pins σ H s) : H s.heap.objs.size = none := I.hok.fresh (Nat.le_refl _)
theorem Inv.lstM (I : Inv X pins σ H s) (hH : H l = some (.lst xs)) : xs.length ≤ sizeLine ∧ ∃ (its : List Value) (n : Nat), Vals xs its ∧ xs.length = its.length ∧ s.heap.get? l = some { cls := .type "list", data := .seq its.toArray n } := by
  obtain ⟨z, its, n, r, e⟩ := I.hok l _ hH
  exact ⟨z, its, n, r, r.length, e⟩

theorem notLongL {n : Nat} (h : n ≤ sizeLine) : Builtin.List.listTooLong n = false := by
  unfold Builtin.List.listTooLong
  exact decide_eq_false (by omega)
end

section
variable {X : Cx}

/-! ### methods -/
def rAppend : V → List V → Hp → VK → Prop := fun x vs H Q => ∃ l xs y, x = .ref l ∧ vs = [y] ∧ H l = some (.lst xs) ∧ xs.length < sizeLine ∧ Q .non (upd H l (.lst (xs ++ [y])))
theorem mt_append : MtM X "list.append" rAppend := by
  intro pins s σ H x vs v us Q I rx rv h
  obtain ⟨l, xs, y, rfl, rfl, hH, hz, q⟩ := h
  cases rx
  obtain ⟨u, rfl, ru⟩ := rv.one
  obtain ⟨z, its, n, r, hl, e⟩ := I.lstM hH
  refine call_meets F.slot_list_append ⟨_, e, rfl⟩ F.entry_list_append (F.args_list_append_2 _ _) (PySem.list_append l its.toArray n u (by rw [List.size_toArray]; omega)) ⟨e, ?_⟩
  refine ⟨.non, _, I.lset (its' := its ++ [u]) hH e (by simp) (r.append (.cons ru .nil)) ?_, rfl, q⟩
  rw [List.length_append, List.length_singleton]
  omega

def rExtend : V → List V → Hp → VK → Prop := fun x vs H Q => ∃ l b xs zs, x = .ref l ∧ vs = [.ref b] ∧ H l = some (.lst xs) ∧ H b = some (.lst zs) ∧ xs.length + zs.length ≤ sizeLine ∧ Q .non (upd H l (.lst (xs ++ zs)))
theorem mt_extend : MtM X "list.extend" rExtend := by
  intro pins s σ H x vs v us Q I rx rv h
  obtain ⟨l, b, xs, zs, rfl, rfl, hH, hB, hz, q⟩ := h
  cases rx
  obtain ⟨u, rfl, ru⟩ := rv.one
  cases ru
  obtain ⟨z, its, n, r, hl, e⟩ := I.lstM hH
  obtain ⟨z2, its2, n2, r2, hl2, e2⟩ := I.lstM hB
  have hsz : its.toArray.size + its2.toArray.size ≤ sizeLine := by rw [List.size_toArray, List.size_toArray]; omega
  have hlong : ¬ (!its.toArray.isEmpty && Builtin.List.listTooLong (its.toArray.size + its2.toArray.size)) = true := by
    rw [notLongL hsz, Bool.and_false]
    exact Bool.false_ne_true
  refine call_meets F.slot_list_extend ⟨_, e, rfl⟩ F.entry_list_extend (F.args_list_extend_2 _ _)
    (AutoSeq1.list_extend_list_list_0 l its.toArray n b its2.toArray n2 hlong (by rw [List.size_toArray]; omega) (by omega)) ⟨e, e2, ?_⟩
  refine ⟨.non, _, I.lset (its' := its ++ its2) hH e (by simp) (r.append r2) ?_, rfl, q⟩
  rw [List.length_append]
  omega

/-! ### list + list, list += list, list * int -/
def rCat : R2 := fun x y H Q => ∃ l b xs zs, x = .ref l ∧ y = .ref b ∧ H l = some (.lst xs) ∧ H b = some (.lst zs) ∧ xs.length + zs.length ≤ sizeLine ∧ ∀ p, H p = none → Q (.ref p) (upd H p (.lst (xs ++ zs)))
theorem op_cat : OpR X (binaryOp .Add) rCat := by
  intro pins s σ H x y v u Q I rx ry h
  obtain ⟨l, b, xs, zs, rfl, rfl, hH, hB, hz, q⟩ := h
  cases rx
  cases ry
  obtain ⟨z, its, n, r, hl, e⟩ := I.lstM hH
  obtain ⟨z2, its2, n2, r2, hl2, e2⟩ := I.lstM hB
  refine PySem.P.add_list e e2 ?_ (by rw [List.size_toArray, List.size_toArray]; omega)
  have ea : its.toArray ++ its2.toArray = (its ++ its2).toArray := by simp
  rw [ea]
  exact ⟨.ref _, _, I.lnew (t' := s.toks) (r.append r2) (by rw [List.length_append]; omega), rfl, q _ I.fresh⟩
/-! ### del xs[i] -/
end

/-! ### xs[a:b] = ys -/
section
variable {prog : Program} {w : World} {A : Around} {E : Value → Shared → Prop} {s : Shared}
end

section
variable {X : Cx}
end
end L2

namespace L2
open PySem PySem.Spec PyProof.Rows

theorem Vals.ints : ∀ {ns : List Int} {us : List Value}, Vals (ns.map V.int) us → IntsAre us ns
  | [], us, h => by
    rw [List.map_nil] at h
    cases h
    exact IntsAre.nil
  | n :: ns, us, h => by
    rw [List.map_cons] at h
    cases h with
    | cons r t =>
      obtain ⟨k, rfl⟩ := r
      exact IntsAre.cons n k (Vals.ints t)
theorem Vals.strs : ∀ {xs : List Str} {us : List Value}, Vals (xs.map V.str) us → StrsAre us xs
  | [], us, h => by
    rw [List.map_nil] at h
    cases h
    exact StrsAre.nil
  | x :: xs, us, h => by
    rw [List.map_cons] at h
    cases h with
    | cons r t =>
      obtain ⟨k, rfl⟩ := r
      exact StrsAre.cons x k (Vals.strs t)
theorem Vals.bls : ∀ {bs : List Bool} {us : List Value}, Vals (bs.map V.bl) us → us = bs.map Value.bool
  | [], us, h => by
    rw [List.map_nil] at h
    cases h
    rfl
  | b :: bs, us, h => by
    rw [List.map_cons] at h
    cases h with
    | cons r t =>
      cases r
      rw [Vals.bls t, List.map_cons]
theorem Vals.ref1 {a : Addr} {us : List Value} (r : Vals [V.ref a] us) : us = [Value.ref a] := by
  cases r with
  | cons r t =>
    cases t
    cases r
    rfl
/-! ### the library's walks over a list of ints, kept objects alone -/
section
variable {prog : Program} {w : World} {A : Around} {E : Value → Shared → Prop} {s : Shared} {l : Addr} {its : List Value} {ns : List Int} {Q : Value → Shared → Prop}
theorem sum_raw (hh : A.handled = none) (hl : s.heap.IsList l its.toArray) (hi : IntsAre its ns)
    (h : ∀ h' tk t', (∀ b o, s.heap.get? b = some o → h'.get? b = some o) → Q (.int ns.sum t') { s with heap := h', toks := tk }) : wpAny (model prog w) A (call (.builtin "sum") [.ref l]) Q E s := by
  obtain ⟨xs, e⟩ := hi.allInts.items
  have hn : numsOf (intItems xs).toList = ns := by rw [← e]; exact hi.numsOf
  rw [nums_intItems] at hn
  rw [e] at hl
  refine PySem.sum_intListG hh hl fun h' tk t' hk => ?_
  have := h h' tk t' hk
  rw [preSum_eq, List.take_of_length_le (by simp), hn]; exact this
theorem max_raw (hh : A.handled = none) (hl : s.heap.IsList l its.toArray) (hi : IntsAre its ns) (hne : 0 < ns.length)
    (h : ∀ h' tk M t', (∀ b o, s.heap.get? b = some o → h'.get? b = some o) → M ∈ ns → (∀ a, a ∈ ns → a ≤ M) → Q (.int M t') { s with heap := h', toks := tk }) : wpAny (model prog w) A (call (.builtin "max") [.ref l]) Q E s := by
  obtain ⟨xs, e⟩ := hi.allInts.items
  have hn : numsOf (intItems xs).toList = ns := by rw [← e]; exact hi.numsOf
  rw [nums_intItems] at hn
  subst hn
  rw [e] at hl
  have hsz : 0 < xs.size := by simpa using hne
  refine PySem.max_intList hh hl hsz fun v h' tk hv hk => ?_
  obtain ⟨t, rfl⟩ := intItems_at hv
  obtain ⟨h1, h2⟩ := argBest_gt (numAt xs) (xs.size - 1)
  refine h h' tk _ t hk ?_ fun a ha => ?_
  · rw [numAt_eq]; exact PySem.getD_mem (by rw [List.length_map, Array.length_toList]; omega)
  · obtain ⟨j, hj, rfl⟩ := mem_getD ha
    rw [List.length_map, Array.length_toList] at hj
    rw [← numAt_eq]; exact h2 j (by omega)
theorem min_raw (hh : A.handled = none) (hl : s.heap.IsList l its.toArray) (hi : IntsAre its ns) (hne : 0 < ns.length)
    (h : ∀ h' tk M t', (∀ b o, s.heap.get? b = some o → h'.get? b = some o) → M ∈ ns → (∀ a, a ∈ ns → M ≤ a) → Q (.int M t') { s with heap := h', toks := tk }) : wpAny (model prog w) A (call (.builtin "min") [.ref l]) Q E s := by
  obtain ⟨xs, e⟩ := hi.allInts.items
  have hn : numsOf (intItems xs).toList = ns := by rw [← e]; exact hi.numsOf
  rw [nums_intItems] at hn
  subst hn
  rw [e] at hl
  have hsz : 0 < xs.size := by simpa using hne
  refine PySem.min_intList hh hl hsz fun v h' tk hv hk => ?_
  obtain ⟨t, rfl⟩ := intItems_at hv
  obtain ⟨h1, h2⟩ := argBest_lt (numAt xs) (xs.size - 1)
  refine h h' tk _ t hk ?_ fun a ha => ?_
  · rw [numAt_eq]; exact PySem.getD_mem (by rw [List.length_map, Array.length_toList]; omega)
  · obtain ⟨j, hj, rfl⟩ := mem_getD ha
    rw [List.length_map, Array.length_toList] at hj
    rw [← numAt_eq]; exact h2 j (by omega)
end

/-! ### the calls, by values (CallR of 03t; MtR of 06l) -/
section
variable {X : Cx}
/-- sum(xs) of a list of ints -/
def rSum (K : PySem.W.Frag) : List V → Hp → VK → Prop := fun vs H Q => ∃ (a : Addr) (ns : List Int), vs = [V.ref a] ∧ SqL K H a (ns.map V.int) ∧ Q (.int ns.sum) H
/-- max(xs), min(xs) of a list of ints -/
def rMax (K : PySem.W.Frag) : List V → Hp → VK → Prop := fun vs H Q => ∃ (a : Addr) (ns : List Int), vs = [V.ref a] ∧ SqL K H a (ns.map V.int) ∧ 0 < ns.length ∧ ∀ m, m ∈ ns → (∀ y, y ∈ ns → y ≤ m) → Q (.int m) H
def rMin (K : PySem.W.Frag) : List V → Hp → VK → Prop := fun vs H Q => ∃ (a : Addr) (ns : List Int), vs = [V.ref a] ∧ SqL K H a (ns.map V.int) ∧ 0 < ns.length ∧ ∀ m, m ∈ ns → (∀ y, y ∈ ns → m ≤ y) → Q (.int m) H
theorem cr_sum (hc : X.calm = true) : CallR X (.builtin "sum") (rSum X.K) := by
  intro pins s σ H vs us Q I r h
  obtain ⟨a, ns, rfl, hs, q⟩ := h
  obtain ⟨its, rv, hl, _⟩ := I.list hs
  rw [Vals.ref1 r]
  exact sum_raw (I.ok.hd hc) hl.isList rv.ints fun h' tk t' hk => ⟨.int _, H, I.kept hk, ⟨_, rfl⟩, q⟩
theorem cr_max (hc : X.calm = true) : CallR X (.builtin "max") (rMax X.K) := by
  intro pins s σ H vs us Q I r h
  obtain ⟨a, ns, rfl, hs, hne, q⟩ := h
  obtain ⟨its, rv, hl, _⟩ := I.list hs
  rw [Vals.ref1 r]
  exact max_raw (I.ok.hd hc) hl.isList rv.ints hne fun h' tk m t' hk h1 h2 => ⟨.int _, H, I.kept hk, ⟨_, rfl⟩, q m h1 h2⟩
theorem cr_min (hc : X.calm = true) : CallR X (.builtin "min") (rMin X.K) := by
  intro pins s σ H vs us Q I r h
  obtain ⟨a, ns, rfl, hs, hne, q⟩ := h
  obtain ⟨its, rv, hl, _⟩ := I.list hs
  rw [Vals.ref1 r]
  exact min_raw (I.ok.hd hc) hl.isList rv.ints hne fun h' tk m t' hk h1 h2 => ⟨.int _, H, I.kept hk, ⟨_, rfl⟩, q m h1 h2⟩

/-! sorted, sort (fewer than 64 items: the library's own bound) -/
end

/-! ### list.index, flat items -/
section
variable {X : Cx}
end

/-! ### type(x) of an own instance; is, is not of a module's class -/
section
variable {X : Cx}
end

/-! ### any(xs), all(xs) of a list of bools -/
theorem iter_any {prog : Program} {w : World} {A : Around} {E : Value → Shared → Prop} {s : Shared} {l : Addr} {items : Array Value} {Q : Value → Shared → Prop} (hl : s.heap.IsList l items)
    (h : ∀ s₂ : Shared, s₂ = { s with heap := s.heap.push { cls := .type "list_iterator", data := .fields #[.ref l, .int 0 0] } } →
      (s₂.heap.IsListIter s.heap.objs.size l 0 ∧ s₂.heap.IsList l items) → l ≠ s.heap.objs.size → Q (.ref s.heap.objs.size) s₂) : wpAny (model prog w) A (pyIter (.ref l)) Q E s := by
  have hlt : l < s.heap.objs.size := by obtain ⟨_, e, _⟩ := hl; exact Heap.lt_size e
  exact wpAny_pyIter_list hl (h _ rfl ⟨⟨_, Heap.get?_push_size _ rfl, rfl, rfl⟩, hl.push _⟩ (Nat.ne_of_lt hlt))
theorem truth_bools {prog : Program} {w : World} {A : Around} {bs : List Bool} {its : List Value} (e : its = bs.map Value.bool) :
    TruthOf prog w A (fun i v => its.toArray[i]? = some v) (fun i => bs.getD i false) := fun i v s Q E hv hq => by
  have hv' : its[i]? = some v := by simpa using hv
  rw [e, List.getElem?_map] at hv'
  obtain ⟨b, hb, rfl⟩ := Option.map_eq_some_iff.mp hv'
  have hg : bs.getD i false = b := by rw [List.getD_eq_getElem?_getD, hb] <;> rfl
  have hq' : Q (bs.getD i false) s := hq
  rw [hg] at hq'
  exact wpAny_truthy_bool hq'
theorem all_range : ∀ bs : List Bool, (List.range bs.length).all (fun i => bs.getD i false) = bs.all id
  | [] => rfl
  | b :: bs => by
    rw [List.length_cons, List.range_succ_eq_map, List.all_cons, List.all_map, List.all_cons, ← all_range bs]
    all_goals rfl
section
variable {X : Cx}
def rAll (K : PySem.W.Frag) : List V → Hp → VK → Prop := fun vs H Q => ∃ (a : Addr) (bs : List Bool), vs = [V.ref a] ∧ SqL K H a (bs.map V.bl) ∧ Q (.bl (bs.all id)) H
theorem cr_all (hc : X.calm = true) : CallR X (.builtin "all") (rAll X.K) := by
  intro pins s σ H vs us Q I r h
  obtain ⟨a, bs, rfl, hs, q⟩ := h
  obtain ⟨its, rv, hl, _⟩ := I.list hs
  rw [Vals.ref1 r]
  have hb := rv.bls
  refine call_all_walk (iter_any hl.isList fun s₂ e2 st hne => ?_)
  subst e2
  refine ⟨_, _, _, _, _, _, _, rfl, Walks.list (A := X.A.in1) (I.ok.hd hc) _ a hne its.toArray, st, truth_bools hb, fun h' tk hk => ?_⟩
  refine ⟨.bl _, H, I.kept fun b o eo => hk b o (fun hmem => ?_) (Heap.get?_push_of_some _ eo), ?_, q⟩
  · rcases List.mem_cons.mp hmem with e1 | hmem
    · exact absurd (e1 ▸ Heap.lt_size eo) (Nat.lt_irrefl _)
    · cases hmem
  · show Value.bool _ = Value.bool _
    rw [← all_range, hb, List.size_toArray, List.length_map]
end

/-! ### == and != of data at any depth: none, bools, ints, texts, lists, tuples -/
mutual
inductive Dp (K : PySem.W.Frag) (H : Hp) : V → PyData → Prop
  | non : Dp K H .non .none
  | bl (b : Bool) : Dp K H (.bl b) (.bool b)
  | int (i : Int) : Dp K H (.int i) (.int i)
  | str (x : Str) : Dp K H (.str x) (.str x)
  | lst {a : Addr} {xs : List V} {ds : List PyData} : SqL K H a xs → DpAll K H xs ds → Dp K H (.ref a) (.list ds)
  | tup {a : Addr} {xs : List V} {ds : List PyData} : SqT K H a xs → DpAll K H xs ds → Dp K H (.ref a) (.tuple ds)
inductive DpAll (K : PySem.W.Frag) (H : Hp) : List V → List PyData → Prop
  | nil : DpAll K H [] []
  | cons {v : V} {vs : List V} {d : PyData} {ds : List PyData} : Dp K H v d → DpAll K H vs ds → DpAll K H (v :: vs) (d :: ds)
end
section
variable {X : Cx} {pins : List (Addr × Obj)} {σ : St} {H : Hp} {s : Shared}
mutual
theorem Dp.reads (I : Inv X pins σ H s) : ∀ (d : PyData) (v : V) (u : Value), Dp X.K H v d → RelV v u → ∃ as, Reads s.heap u d as
  | .none, _, _, h, r => by
    cases h
    cases r
    exact ⟨_, Reads.none⟩
  | .bool b, _, _, h, r => by
    cases h
    cases r
    exact ⟨_, Reads.bool b⟩
  | .int i, _, _, h, r => by
    cases h
    obtain ⟨t, rfl⟩ := r
    exact ⟨_, Reads.int i t⟩
  | .str x, _, _, h, r => by
    cases h
    obtain ⟨t, rfl⟩ := r
    exact ⟨_, Reads.str x t⟩
  | .list ds, _, _, h, r => by
    cases h with
    | lst hs ha =>
      cases r
      obtain ⟨its, rv, ⟨o, n, ho, hc, _, hd⟩, _⟩ := I.list hs
      obtain ⟨as, hr⟩ := Dp.readsAll I ds _ its ha rv
      exact ⟨_, Reads.list ho hc hd hr⟩
  | .tuple ds, _, _, h, r => by
    cases h with
    | tup hs ha =>
      cases r
      obtain ⟨its, rv, ⟨o, ho, hc, n, hd⟩, _⟩ := I.tuple hs
      obtain ⟨as, hr⟩ := Dp.readsAll I ds _ its ha rv
      exact ⟨_, Reads.tuple ho hc hd hr⟩
  | .dict _, _, _, h, _ => by cases h
theorem Dp.readsAll (I : Inv X pins σ H s) : ∀ (ds : List PyData) (vs : List V) (us : List Value), DpAll X.K H vs ds → Vals vs us → ∃ as, ReadsAll s.heap us ds as
  | [], _, _, h, r => by
    cases h
    cases r
    exact ⟨_, ReadsAll.nil⟩
  | d :: ds, _, _, h, r => by
    cases h with
    | cons h1 h2 =>
      cases r with
      | cons r1 r2 =>
        obtain ⟨as, q1⟩ := Dp.reads I d _ _ h1 r1
        obtain ⟨bs, q2⟩ := Dp.readsAll I ds _ _ h2 r2
        exact ⟨_, ReadsAll.cons q1 q2⟩
end
end
section
variable {X : Cx}
end
end L2

namespace L2
open PySem PySem.Spec PyProof.Rows
abbrev CellAt (h : Heap) (c : Addr) (v : Option Value) : Prop := h.IsCell c v
def relS (scope sc : Scope) : Scope :=
  { scope with names := scope.names.map fun (n, k) => if (k == .free && sc.kind == .function && sc.names.lookup n == some .cell) then (n, .cell) else (n, k) }

def cloFrom (cells : List (Str × Addr)) : List (Str × NameKind) → List (Str × Addr) → List (Str × Addr)
  | [], acc => acc
  | (n, k) :: r, acc => if k == .free then cloFrom cells r ((n, (cells.lookup n).getD 0) :: acc) else cloFrom cells r acc

theorem closure_loop (env : Env) (f : Str × NameKind → List (Str × Addr) → Sem (ForInStep (List (Str × Addr))))
    (hf : ∀ n k c, f (n, k) c = if k == .free then (do let a ← cellOf env n; pure (.yield ((n, a) :: c))) else pure (.yield c)) :
    ∀ (names : List (Str × NameKind)) (acc : List (Str × Addr)), (∀ y ∈ names, y.2 = .free → ∃ c, env.cells.lookup y.1 = some c) → forIn names acc f = pure (cloFrom env.cells names acc)
  | [], acc, _ => by rw [List.forIn_nil]; rfl
  | (n, k) :: r, acc, h => by
    rw [List.forIn_cons, hf]
    have ih := fun acc => closure_loop env f hf r acc fun y hy => h y (List.mem_cons_of_mem _ hy)
    unfold cloFrom
    by_cases hk : (k == NameKind.free) = true
    · rw [if_pos hk, if_pos hk]
      obtain ⟨c, hc⟩ := h (n, k) List.mem_cons_self (by simpa using hk)
      have e : cellOf env n = pure c := by unfold cellOf; rw [hc]
      rw [e]
      have e2 : (env.cells.lookup n).getD 0 = c := by rw [hc]; rfl
      rw [e2]
      exact ih _
    · rw [if_neg hk, if_neg hk]
      exact ih _
theorem closure_ok {scope : Scope} {env : Env} (h : ∀ y ∈ scope.names, y.2 = .free → ∃ c, env.cells.lookup y.1 = some c) : closureFor scope env = pure (cloFrom env.cells scope.names []) := by
  simp only [closureFor]
  rw [closure_loop env _ (fun n k c => rfl) scope.names [] h]
  rfl

theorem mem_lookup {α : Type} : ∀ {l : List (Str × α)} {n : Str} {c : α}, (n, c) ∈ l → ∃ c', l.lookup n = some c'
  | (k, v) :: r, n, c, h => by
    rw [List.lookup_cons]
    cases hb : n == k with
    | true => exact ⟨_, rfl⟩
    | false =>
      rcases List.mem_cons.mp h with e | h
      · cases e; simp at hb
      · exact mem_lookup h

theorem cloFrom_mem {cells : List (Str × Addr)} : ∀ {names : List (Str × NameKind)} {acc : List (Str × Addr)} {n : Str} {c : Addr}, (n, c) ∈ cloFrom cells names acc → (n, c) ∈ acc ∨ ((n, .free) ∈ names ∧ c = (cells.lookup n).getD 0)
  | [], _, _, _, h => .inl h
  | (m, k) :: r, acc, n, c, h => by
    unfold cloFrom at h
    split at h
    · rename_i hk
      have hk : k = .free := by simpa using hk
      rcases cloFrom_mem h with h | ⟨h1, h2⟩
      · rcases List.mem_cons.mp h with e | h
        · cases e; exact .inr ⟨hk ▸ List.mem_cons_self, rfl⟩
        · exact .inl h
      · exact .inr ⟨List.mem_cons_of_mem _ h1, h2⟩
    · rcases cloFrom_mem h with h | ⟨h1, h2⟩
      · exact .inl h
      · exact .inr ⟨List.mem_cons_of_mem _ h1, h2⟩
theorem cloFrom_acc {cells : List (Str × Addr)} : ∀ {names : List (Str × NameKind)} {acc : List (Str × Addr)} {p : Str × Addr}, p ∈ acc → p ∈ cloFrom cells names acc
  | [], _, _, h => h
  | (m, k) :: r, acc, p, h => by
    unfold cloFrom
    split
    · exact cloFrom_acc (List.mem_cons_of_mem _ h)
    · exact cloFrom_acc h
theorem cloFrom_has {cells : List (Str × Addr)} : ∀ {names : List (Str × NameKind)} {acc : List (Str × Addr)} {n : Str}, (n, .free) ∈ names → (n, (cells.lookup n).getD 0) ∈ cloFrom cells names acc
  | (m, k) :: r, acc, n, h => by
    unfold cloFrom
    rcases List.mem_cons.mp h with e | h
    · cases e
      exact cloFrom_acc List.mem_cons_self
    · split
      · exact cloFrom_has h
      · exact cloFrom_has h

theorem cells_mem : ∀ {names : List (Str × NameKind)} {h : Heap} {acc : List (Str × Addr)} {x : Str} {c : Addr}, (x, c) ∈ cellsFrom h.objs.size names acc →
    (x, c) ∈ acc ∨ ((x, .cell) ∈ names ∧ h.objs.size ≤ c ∧ CellAt (pushCells h names) c none)
  | [], _, _, _, _, h => .inl h
  | (n, k) :: r, h, acc, x, c, hm => by
    unfold cellsFrom at hm
    unfold pushCells
    split at hm
    · rename_i hk
      rw [if_pos hk]
      have hk : k = .cell := by simpa using hk
      rw [← Heap.size_push h { cls := .type "cell", data := .cell none }] at hm
      rcases cells_mem hm with hm | ⟨h1, h2, h3⟩
      · rcases List.mem_cons.mp hm with e | hm
        · cases e
          exact .inr ⟨hk ▸ List.mem_cons_self, Nat.le_refl _, _, pushCells_keeps r _ _ _ (Heap.get?_push_size _ rfl), rfl⟩
        · exact .inl hm
      · rw [Heap.size_push] at h2
        exact .inr ⟨List.mem_cons_of_mem _ h1, Nat.le_of_succ_le h2, h3⟩
    · rename_i hk
      rw [if_neg hk]
      rcases cells_mem hm with hm | ⟨h1, h2, h3⟩
      · exact .inl hm
      · exact .inr ⟨List.mem_cons_of_mem _ h1, h2, h3⟩
theorem cells_acc : ∀ {names : List (Str × NameKind)} {n : Nat} {acc : List (Str × Addr)} {p : Str × Addr}, p ∈ acc → p ∈ cellsFrom n names acc
  | [], _, _, _, h => h
  | (m, k) :: r, n, acc, p, h => by
    unfold cellsFrom
    split
    · exact cells_acc (List.mem_cons_of_mem _ h)
    · exact cells_acc h
theorem cells_has : ∀ {names : List (Str × NameKind)} {n : Nat} {acc : List (Str × Addr)} {x : Str}, (x, .cell) ∈ names → ∃ c, (x, c) ∈ cellsFrom n names acc
  | (m, k) :: r, n, acc, x, h => by
    unfold cellsFrom
    rcases List.mem_cons.mp h with e | h
    · cases e
      exact ⟨n, cells_acc List.mem_cons_self⟩
    · split
      · exact cells_has h
      · exact cells_has h
theorem cells_inj : ∀ {names : List (Str × NameKind)} {h : Heap} {acc : List (Str × Addr)} {x y : Str} {c : Addr}, (∀ p ∈ acc, p.2 < h.objs.size) → (∀ x y c, (x, c) ∈ acc → (y, c) ∈ acc → x = y) →
    (x, c) ∈ cellsFrom h.objs.size names acc → (y, c) ∈ cellsFrom h.objs.size names acc → x = y
  | [], _, _, _, _, _, _, hi, h1, h2 => hi _ _ _ h1 h2
  | (n, k) :: r, h, acc, x, y, c, hl, hi, h1, h2 => by
    unfold cellsFrom at h1 h2
    split at h1
    · rename_i hk
      rw [if_pos hk] at h2
      rw [← Heap.size_push h { cls := .type "cell", data := .cell none }] at h1 h2
      refine cells_inj (h := h.push _) (fun p hp => ?_) (fun x y c a b => ?_) h1 h2
      · rw [Heap.size_push]
        rcases List.mem_cons.mp hp with rfl | hp
        · exact Nat.lt_succ_self _
        · exact Nat.lt_succ_of_lt (hl p hp)
      · rcases List.mem_cons.mp a with e | a <;> rcases List.mem_cons.mp b with e' | b
        · cases e; cases e'; rfl
        · cases e; exact absurd (hl _ b) (Nat.lt_irrefl _)
        · cases e'; exact absurd (hl _ a) (Nat.lt_irrefl _)
        · exact hi _ _ _ a b
    · rename_i hk
      rw [if_neg hk] at h2
      exact cells_inj hl hi h1 h2

theorem newEnv_comp {M : Model} {A : Around} {E : Value → Shared → Prop} {s : Shared} {scope : Scope} {globals : Addr} {closure : List (Str × Addr)} {qual : Str} {func : Option Addr} {code : Value} {around : Env} {builtins : Addr} {Q : Env → Shared → Prop}
    (h : Q (newEnv scope s.heap.objs.size globals (cellsFrom (s.heap.objs.size + 1) scope.names closure) qual func code (some around) builtins)
      { s with heap := pushCells (s.heap.push { cls := .type "dict", data := .dict #[] }) scope.names }) :
    wpAny M A (newFunctionEnv scope globals closure [] qual func code (some around) builtins) Q E s := by
  simp only [newFunctionEnv, Option.isSome_some, if_true]
  refine wpAny_bind (wpAny_alloc ?_)
  refine wpAny_bind (wpAny_layCells _ (fun n k c => rfl) scope.names closure _ _ ?_)
  rw [show ({ s with heap := s.heap.push { cls := .type "dict", data := .dict #[] } } : Shared).heap.objs.size = s.heap.objs.size + 1 from Heap.size_push ..]
  rw [List.forIn_nil]
  exact wpAny_bind (wpAny_pure (wpAny_pure h))

/-- every name of the written scope, in the scope that runs -/
theorem lookup_relS {sc : Scope} : ∀ {names : List (Str × NameKind)} {x : Str} {k : NameKind},
    (names.map fun (n, k) => if (k == NameKind.free && sc.kind == .function && sc.names.lookup n == some .cell) then (n, NameKind.cell) else (n, k)).lookup x = some k →
    ∃ k', names.lookup x = some k' ∧ (k = k' ∨ (k' = .free ∧ k = .cell))
  | [], _, _, h => by simp at h
  | (n, k₀) :: r, x, k, h => by
    have ih := @lookup_relS sc r x k
    have h' : List.lookup x ((if (k₀ == NameKind.free && sc.kind == .function && sc.names.lookup n == some .cell) = true then (n, NameKind.cell) else (n, k₀)) :: (r.map _)) = some k := h
    cases hx : x == n with
    | true =>
      simp only [List.lookup_cons, hx]
      by_cases hc : (k₀ == NameKind.free && sc.kind == .function && sc.names.lookup n == some .cell) = true
      · rw [if_pos hc] at h'
        simp only [List.lookup_cons, hx] at h'
        cases h'
        simp only [Bool.and_eq_true, beq_iff_eq] at hc
        exact ⟨k₀, rfl, .inr ⟨hc.1.1, rfl⟩⟩
      · rw [if_neg hc] at h'
        simp only [List.lookup_cons, hx] at h'
        cases h'
        exact ⟨_, rfl, .inl rfl⟩
    | false =>
      simp only [List.lookup_cons, hx]
      by_cases hc : (k₀ == NameKind.free && sc.kind == .function && sc.names.lookup n == some .cell) = true
      · rw [if_pos hc] at h'
        simp only [List.lookup_cons, hx] at h'
        exact ih h'
      · rw [if_neg hc] at h'
        simp only [List.lookup_cons, hx] at h'
        exact ih h'
/-- the names of a comprehension's block: its own (with their places in N), or captured -/
structure BlkOk (N : List Str) (sc scope : Scope) (own : List (Str × Nat)) : Prop where
  kind : scope.kind = .function
  uniq : ∀ y ∈ scope.names, scope.names.lookup y.1 = some y.2
  ix : ∀ p ∈ own, N[p.2]? = some p.1
  free : ∀ y ∈ scope.names, y.2 = .free → sc.names.lookup y.1 = some .cell ∨ sc.names.lookup y.1 = some .free
  own : ∀ y ∈ scope.names, y.2 = .local ∨ y.2 = .cell → y.1 ∈ own.map (·.1) ∨ y.1 ∉ N
/-- the slots of the block's own names forgotten -/
def wipe (σ : St) : List Nat → St
  | [] => σ
  | v :: vs => (wipe σ vs).set v none
theorem wipe_length (σ : St) : ∀ vs : List Nat, (wipe σ vs).length = σ.length
  | [] => rfl
  | v :: vs => by unfold wipe; rw [List.length_set, wipe_length σ vs]
theorem wipe_some {σ : St} {i : Nat} {x : V} : ∀ {vs : List Nat}, (wipe σ vs)[i]? = some (some x) → σ[i]? = some (some x) ∧ i ∉ vs
  | [], h => ⟨h, by simp⟩
  | v :: vs, h => by
    unfold wipe at h
    by_cases hi : v = i
    · subst hi
      by_cases hv : v < (wipe σ vs).length
      · rw [List.getElem?_set_self hv] at h; cases h
      · rw [List.getElem?_eq_none (by simpa using hv)] at h; cases h
    · rw [List.getElem?_set_ne hi] at h
      obtain ⟨h1, h2⟩ := wipe_some h
      exact ⟨h1, by simp only [List.mem_cons, not_or]; exact ⟨fun e => hi e.symm, h2⟩⟩

/-- the context of a block that starts at s, its iterator's objects at fp -/
abbrev Cx.blk (X : Cx) (s : Shared) (H : Hp) (scope : Scope) (cenv : Env) (fp : List Addr) : Cx := { X with s_0 := s, H_0 := H, env := cenv, outer := X.stack, ex := fp, fn := fun x => scope.names.lookup x == some .cell, pn := [], xe := fun _ _ => False }
section
variable {X : Cx} {pins : List (Addr × Obj)} {σ : St} {H : Hp} {s : Shared}
theorem block_start {scope : Scope} {own : List (Str × Nat)} {fp : List Addr} (I : Inv X pins σ H s) (ok : BlkOk X.N X.env.scope scope own) (hN : X.N.Nodup) (hfp : ∀ b ∈ fp, FpOk X pins H b ∧ b < s.heap.objs.size) :
    Inv (X.blk s H scope (compEnvC scope (cellsFrom (s.heap.objs.size + 1) scope.names (cloFrom X.env.cells scope.names [])) s.heap.objs.size X.env) fp) [] (wipe σ (own.map (·.2))) H { s with heap := pushCells (s.heap.push { cls := .type "dict", data := .dict #[] }) scope.names } := by
  have hfree : ∀ y ∈ scope.names, y.2 = .free → ∃ c, X.env.cells.lookup y.1 = some c := fun y hy e => by
    rcases ok.free y hy e with k | k
    · exact I.ok.has _ (.inl k)
    · exact I.ok.has _ (.inr k)
  generalize hcenv : compEnvC scope (cellsFrom (s.heap.objs.size + 1) scope.names (cloFrom X.env.cells scope.names [])) s.heap.objs.size X.env = cenv
  have kp : ∀ b o, s.heap.get? b = some o → (pushCells (s.heap.push { cls := .type "dict", data := .dict #[] }) scope.names).get? b = some o := fun b o e => pushCells_keeps _ _ _ _ (Heap.get?_push_of_some _ e)
  have hL : cenv.locals = s.heap.objs.size := by rw [← hcenv]; rfl
  have hcl : cenv.cells = cellsFrom (s.heap.objs.size + 1) scope.names (cloFrom X.env.cells scope.names []) := by rw [← hcenv]; rfl
  have hsc : cenv.scope = relS scope X.env.scope := by rw [← hcenv]; rfl
  rw [← Heap.size_push s.heap { cls := .type "dict", data := .dict #[] }] at hcl
  have cm : ∀ {y c}, (y, c) ∈ cloFrom X.env.cells scope.names [] → X.env.cells.lookup y = some c ∧ c < s.heap.objs.size := fun {y c} hm => by
    rcases cloFrom_mem hm with hm | ⟨h1, rfl⟩
    · cases hm
    · obtain ⟨c, hc⟩ := hfree _ h1 rfl
      rw [hc]
      obtain ⟨w, z⟩ := I.cell _ _ hc
      exact ⟨rfl, z.lt⟩
  have mem : ∀ {y c}, cenv.cells.lookup y = some c → (X.env.cells.lookup y = some c ∧ c < s.heap.objs.size) ∨ (s.heap.objs.size + 1 ≤ c ∧ CellAt (pushCells (s.heap.push { cls := .type "dict", data := .dict #[] }) scope.names) c none) := fun {y c} e => by
    rw [hcl] at e
    rcases cells_mem (PySem.mem_of_lookup e) with hm | ⟨_, h2, h3⟩
    · exact .inl (cm hm)
    · rw [Heap.size_push] at h2; exact .inr ⟨h2, h3⟩
  have look : ∀ {y}, scope.names.lookup y = some .free → ∃ c, cenv.cells.lookup y = some c ∧ X.env.cells.lookup y = some c := fun {y} hl => by
    have hy : (y, NameKind.free) ∈ scope.names := PySem.mem_of_lookup hl
    obtain ⟨c', e'⟩ := mem_lookup (cells_acc (names := scope.names) (n := (s.heap.push { cls := .type "dict", data := .dict #[] }).objs.size) (cloFrom_has (cells := X.env.cells) (acc := []) hy))
    rw [← hcl] at e'
    refine ⟨c', e', ?_⟩
    rw [hcl] at e'
    rcases cells_mem (PySem.mem_of_lookup e') with hm | ⟨h1, _, _⟩
    · exact (cm hm).1
    · have := ok.uniq _ h1
      rw [hl] at this; cases this
  have okB : (X.blk s H scope cenv fp).Ok := by
    refine ⟨I.ok.mod, by show cenv.scope.kind = _; rw [hsc]; exact ok.kind, by show cenv.globals = _; rw [← hcenv]; exact I.ok.glob, by show cenv.builtins = _; rw [← hcenv]; exact I.ok.blt, by show s.heap.objs.size ≤ cenv.locals; rw [hL]; exact Nat.le_refl _,
      fun y z c e1 e2 => ?_, fun y hy => ?_, fun y c z e => ?_, I.ok.hd, I.ok.frames, .inl rfl, fun b hb => ⟨?_, fun y c e z => ?_⟩, I.bs, Nat.le_trans I.ok.bsz I.sz, fun b o e hb => ?_, fun b hb z => ?_, I.stack, I.stkFree⟩
    · have e1 : cenv.cells.lookup y = some c := e1
      have e2 : cenv.cells.lookup z = some c := e2
      rw [hcl] at e1 e2
      refine cells_inj (fun p hp => ?_) (fun y z c a b => I.ok.inj y z c (cm a).1 (cm b).1) (PySem.mem_of_lookup e1) (PySem.mem_of_lookup e2)
      rw [Heap.size_push]
      exact Nat.lt_succ_of_lt (cm (y := p.1) (c := p.2) hp).2
    · show ∃ c, cenv.cells.lookup y = some c
      have key : ∀ k, cenv.kindOf y = some k → (k = .cell ∨ k = .free) → ∃ c, cenv.cells.lookup y = some c := fun k hk hk' => by
        unfold Env.kindOf at hk
        rw [hsc] at hk
        obtain ⟨k', e, r⟩ := lookup_relS hk
        have : k' = .cell ∨ k' = .free := by
          rcases r with rfl | ⟨rfl, _⟩
          · exact hk'
          · exact .inr rfl
        rcases this with rfl | rfl
        · obtain ⟨c, hm⟩ := cells_has (n := (s.heap.push { cls := .type "dict", data := .dict #[] }).objs.size) (acc := cloFrom X.env.cells scope.names []) (PySem.mem_of_lookup e)
          obtain ⟨c', e'⟩ := mem_lookup hm
          exact ⟨c', by rw [hcl]; exact e'⟩
        · obtain ⟨c, h1, _⟩ := look e
          exact ⟨c, h1⟩
      rcases hy with hy | hy
      · exact key _ hy (.inl rfl)
      · exact key _ hy (.inr rfl)
    · have z : (scope.names.lookup y == some NameKind.cell) = true := z
      have z : scope.names.lookup y = some .cell := by simpa using z
      have e : cenv.cells.lookup y = some c := e
      rw [hcl] at e
      rcases cells_mem (PySem.mem_of_lookup e) with hm | ⟨_, h2, _⟩
      · rcases cloFrom_mem hm with hm | ⟨h1, _⟩
        · cases hm
        · have q := ok.uniq _ h1
          rw [z] at q; cases q
      · rw [Heap.size_push] at h2
        exact Nat.le_of_succ_le h2
    · show b ≠ cenv.locals
      rw [hL]; exact Nat.ne_of_lt (hfp b hb).2
    · have e : cenv.cells.lookup y = some c := e
      rcases mem e with ⟨h1, _⟩ | ⟨h1, _⟩
      · exact (hfp b hb).1.2.2.2.2.1 y c h1 z
      · have h2 : s.heap.objs.size + 1 ≤ b := by rw [← z]; exact h1
        exact absurd (Nat.lt_of_lt_of_le (hfp b hb).2 (Nat.le_of_succ_le h2)) (Nat.lt_irrefl _)
    · rcases (hfp b hb).1.2.2.2.1 with z | z
      · exact I.ok.noex b o e z
      · exact absurd (Nat.lt_of_lt_of_le (Heap.lt_size e) (Nat.le_trans I.ok.bsz z)) (Nat.lt_irrefl _)
    · rcases List.mem_cons.mp (I.stkSub b z) with z | z
      · exact (hfp b hb).1.2.1 z
      · exact (hfp b hb).1.2.2.1 z
  refine ⟨okB, rfl, I.bare, Un.kept kp, ⟨fun _ => none, ?_, fun i y av e1 e2 e3 => ?_⟩, fun y c e => ?_, ?_, fun y c e => ?_, fun p hp => ?_, I.hok.kept kp, by rw [wipe_length]; exact I.len⟩
  · show Heap.Ns _ cenv.locals _
    rw [hL]
    exact Heap.Ns.keeps (Heap.Ns.new ..) fun b o e => pushCells_keeps _ _ _ _ e
  · obtain ⟨e2, hne⟩ := wipe_some e2
    have hfr : scope.names.lookup y = some .free ∧ (cenv.kindOf y = some .cell ∨ cenv.kindOf y = some .free) := by
      have key : ∀ k, cenv.scope.names.lookup y = some k → k = .local ∨ k = .cell ∨ k = .free → scope.names.lookup y = some .free ∧ (cenv.kindOf y = some .cell ∨ cenv.kindOf y = some .free) := fun k hk hk' => by
        have hk0 := hk
        rw [hsc] at hk
        obtain ⟨k', e, r⟩ := lookup_relS hk
        have no : ¬ (k' = .local ∨ k' = .cell) := fun hh => by
          rcases ok.own _ (PySem.mem_of_lookup e) hh with e' | e'
          · obtain ⟨p, hp, hpy⟩ := List.mem_map.mp e'
            have e3 := ok.ix p hp
            have : p.1 = y := hpy
            rw [this] at e3
            exact hne (List.mem_map.mpr ⟨p, hp, nodup_ix hN e3 e1⟩)
          · exact e' (List.mem_of_getElem? e1)
        rcases r with rfl | ⟨rfl, rfl⟩
        · rcases hk' with rfl | rfl | rfl
          · exact absurd (.inl rfl) no
          · exact absurd (.inr rfl) no
          · exact ⟨e, .inr hk0⟩
        · exact ⟨e, .inl hk0⟩
      have e3 : Vis cenv.scope y := e3
      rcases e3 with e3 | e3 | e3
      · exact key _ e3 (.inl rfl)
      · exact key _ e3 (.inr (.inl rfl))
      · exact key _ e3 (.inr (.inr rfl))
    obtain ⟨m, hn, hl⟩ := I.loc
    have hvis : Vis X.env.scope y := (ok.free _ (PySem.mem_of_lookup hfr.1) rfl).elim (fun k => .inr (.inl k)) (fun k => .inr (.inr k))
    obtain ⟨w, r, q⟩ := hl i y av e1 e2 hvis
    refine ⟨w, r, .inr ⟨hfr.2, ?_⟩⟩
    obtain ⟨c, h1, h2⟩ := look hfr.1
    rcases q with ⟨k, _⟩ | ⟨_, c', e', z⟩
    · have k : X.env.scope.names.lookup y = some .local := k
      rcases ok.free _ (PySem.mem_of_lookup hfr.1) rfl with k' | k' <;> rw [show X.env.scope.names.lookup y = _ from k'] at k <;> cases k
    · rw [h2] at e'; cases e'
      exact ⟨c, h1, z.keeps kp⟩
  · have e : cenv.cells.lookup y = some c := e
    rcases mem e with ⟨h1, _⟩ | ⟨_, z⟩
    · obtain ⟨w, z⟩ := I.cell y c h1
      exact ⟨w, z.keeps kp⟩
    · exact ⟨_, z⟩
  · show H cenv.locals = none
    rw [hL]; exact I.hok.fresh (Nat.le_refl _)
  · have e : cenv.cells.lookup y = some c := e
    rcases mem e with ⟨h1, _⟩ | ⟨h1, _⟩
    · exact I.freeC y c h1
    · exact I.hok.fresh (Nat.le_of_succ_le h1)
  · exact absurd (show p ∈ ([] : List (Addr × Obj)) ++ [] from hp) (by simp)

/-- an item appended to a tracked list -/
theorem app_ok {E : Value → Shared → Prop} {D : Addr} {xs : List V} {y : V} {v : Value} {Q : Value → Shared → Prop} (I : Inv X pins σ H s) (hD : H D = some (.lst xs)) (hz : xs.length < sizeLine) (r : RelV y v)
    (h : ∀ s', Inv X pins σ (upd H D (.lst (xs ++ [y]))) s' → Q .none s') : wpAny (model X.prog X.w) X.A (call (.builtin "list.append") [.ref D, v]) Q E s := by
  obtain ⟨hz', its, n, ri, e⟩ := I.hok D _ hD
  have hl := ri.length
  refine append_at (hsz := by rw [List.size_toArray]; omega) e fun h' sb ho' => ?_
  refine h { s with heap := h' } (I.write (t' := s.toks) (by rw [hD]; trivial) (.inl rfl) (fun b u hb q => (sb.2 b hb).trans q) ⟨_, ho'⟩ ⟨by rw [List.length_append]; exact hz, its ++ [v], n + 1, ri.append (.cons r .nil), ?_⟩)
  rw [ho']
  simp

/-- a clause's tests -/
def PTs (X : Cx) (ifs : List Expr) (t : TT) : Prop :=
  ∀ (pins : List (Addr × Obj)) (s : Shared) (σ : St) (H : Hp) (Q : Bool → Hp → Prop), Inv X pins σ H s → t σ H Q →
    wpAny (model X.prog X.w) X.A (forIn ifs true fun c r => if r = true then do let ok ← isTrue c X.env (eval c X.env); pure (ForInStep.yield ok) else pure (ForInStep.yield r)) (TP X pins σ Q) X.xe s
def tYes : TT := fun _ H Q => Q true H
theorem pts_nil : PTs X [] tYes := fun _ _ _ H _ I h => wpAny_tests_nil ⟨H, I, h⟩
theorem pts_one {c : Expr} {t : TT} (h : PT X c t) : PTs X [c] t := fun pins s σ H Q I hw => wpAny_tests_one (h pins s σ H Q I hw)
end

theorem thnF {α : Type} {t : Sem α} {Q Q' : α → Shared → Prop} {M : Model} {A : Around} {E : Value → Shared → Prop} {s : Shared} (h : wpAny M A t Q (fun _ _ => False) s) (hQ : ∀ a s, Q a s → Q' a s) : wpAny M A t Q' E s := wpAny_mono h hQ fun _ _ z => False.elim z

/-- the loop of a list comprehension's block, the target of any form (codeAny_compLoop_tests asks a target that no tuple goes to; statement and proof follow it, PyProof/CompMap.lean:41-61, with the step letOwnedTupleGo kept) -/
theorem compLoop_any {prog : Program} {w : World} {A : Around} {R : Result → Shared → Prop} {s : Shared} {elt target iter : Expr} {ifs : List Expr} {scope : Scope} {pos : Pos} {it acc : Value} {env : Env} (I : Nat → Shared → Prop)
    (turn : ∀ n s, I n s → wpAny (model prog w) A (pyNext it) (fun r s₁ => match r with
      | none => R (.ok .next) s₁
      | some v => wpAny (model prog w) A (letOwnedTupleGo target it v) (fun _ s₁' => wpAny (model prog w) A (assign target env v) (fun _ s₂ =>
          wpAny (model prog w) A (forIn ifs true fun c r => if r = true then do let ok ← isTrue c env (eval c env); pure (ForInStep.yield ok) else pure (ForInStep.yield r)) (fun ok s₃ =>
            if ok = true then wpAny (model prog w) A (eval elt env) (fun x s₄ =>
              wpAny (model prog w) A (call (.builtin "list.append") [acc, x]) (fun _ s₅ => ∃ m, m < n ∧ I m s₅) (notedBy (model prog w) A env fun e s' => R (.error e) s') s₄) (notedBy (model prog w) A env fun e s' => R (.error e) s') s₃
            else ∃ m, m < n ∧ I m s₃) (notedBy (model prog w) A env fun e s' => R (.error e) s') s₂) (notedBy (model prog w) A env fun e s' => R (.error e) s') s₁') (notedBy (model prog w) A env fun e s' => R (.error e) s') s₁) (notedBy (model prog w) A env fun e s' => R (.error e) s') s)
    (n : Nat) (h : I n s) :
    codeAny (model prog w) A (.compLoop (.ListComp elt [⟨target, iter, ifs, 0⟩] scope pos) 0 it acc env) R s := by
  refine codeAny_loop rfl I (fun n s hI => ?_) n h
  show wpAny _ A ((compTurn (.ListComp elt [⟨target, iter, ifs, 0⟩] scope pos) 0 it acc env).onRaise (fun x => do noteFrame x env; theTreesLotGoes x)) _ _ s
  refine wpAny_noted ?_
  rw [compTurn_list]
  refine wpAny_bind (wpAny_standAt (wpAny_bind (wpAny_mono (turn n s hI) (fun r s₁ h₁ => ?_) fun _ _ h' => h')))
  cases r with
  | none => exact wpAny_pure h₁
  | some v =>
    refine wpAny_bind (wpAny_mono h₁ (fun _ s₁' h₁' => ?_) fun _ _ h' => h')
    refine wpAny_bind (wpAny_mono h₁' (fun _ s₂ h₂ => wpAny_bind (wpAny_mono h₂ (fun ok s₃ h₃ => ?_) fun _ _ h' => h')) fun _ _ h' => h')
    cases ok with
    | false => exact wpAny_pure ⟨rfl, h₃⟩
    | true =>
      exact wpAny_bind (wpAny_bind (wpAny_mono h₃ (fun x s₄ h₄ => wpAny_bind (wpAny_mono h₄ (fun _ s₅ h₅ => wpAny_pure (wpAny_pure ⟨rfl, h₅⟩)) fun _ _ h' => h')) fun _ _ h' => h'))

section
variable {X : Cx}
/-- [elt for target in iter if ..]: D the new list; W by the turn and a measure, Nx what a turn is to reach -/
def tLc (wi : TI) (g : TG) (tt : TT) (te : TE) (vs : List Nat) : TE := fun σ H Q => wi σ H fun J H1 => ∀ D, H1 D = none → ∃ W : Nat → Nat → Hp → Prop, (∃ m, W 0 m (upd H1 D (.lst []))) ∧ ∀ i m H, W i m H →
  (J.stop i H ∧ Q (.ref D) H) ∨ (J.go i H ∧ ∃ Nx : Hp → Prop, (∀ H', Nx H' → ∃ m', m' < m ∧ W (i + 1) m' H') ∧ ∀ x H', J.yld i H x H' → g x (wipe σ vs) H' fun σ2 H2 => wipe σ2 vs = wipe σ vs ∧ tt σ2 H2 fun b H3 =>
    if b = true then te σ2 H3 fun y H4 => ∃ acc, H4 D = some (.lst acc) ∧ acc.length < sizeLine ∧ Nx (upd H4 D (.lst (acc ++ [y]))) else Nx H3)
theorem lc_core {pins : List (Addr × Obj)} {s : Shared} {σ : St} {H : Hp} {Q : VK} {elt tg iter : Expr} {ifs : List Expr} {scope : Scope} {own : List (Str × Nat)} {pos pos' : Pos} {wi : TI} {g : TG} {tt : TT} {te : TE} {use : Option (Value → Sem Unit)} {Qf : Value → Shared → Prop}
    (hc : X.calm = true) (hN : X.N.Nodup) (I : Inv X pins σ H s) (hi : PI X tg iter wi) (ok : BlkOk X.N X.env.scope scope own)
    (hg : ∀ (s : Shared) (H : Hp) (C : Addr) (cl : List (Str × Addr)) (fp : List Addr), PG (X.blk s H scope (compEnvC scope cl C X.env) fp) tg g) (ht : ∀ (s : Shared) (H : Hp) (C : Addr) (cl : List (Str × Addr)) (fp : List Addr), PTs (X.blk s H scope (compEnvC scope cl C X.env) fp) ifs tt)
    (he : ∀ (s : Shared) (H : Hp) (C : Addr) (cl : List (Str × Addr)) (fp : List Addr), PE (X.blk s H scope (compEnvC scope cl C X.env) fp) elt te) (hs : ∀ x, foldedSetIterable iter X.env x = pure x)
    (h : tLc wi g tt te (own.map (·.2)) σ H Q)
    (hRR : ∀ D C s' m H', Inv X pins σ H' s' → Q (.ref D) H' → s'.heap.Ns C m → FpOk X pins H' C → compPost (model X.prog X.w) X.A X.xe use Qf (.ref D) C (.ok .next) s') :
    wpAny (model X.prog X.w) X.A (comprehension (.ListComp elt [⟨tg, iter, ifs, 0⟩] scope pos) scope X.env pos' (newList []) false (eval iter X.env) use) Qf X.xe s := by
  have hfree : ∀ y ∈ scope.names, y.2 = .free → ∃ c, X.env.cells.lookup y.1 = some c := fun y hy e => by
    rcases ok.free y hy e with k | k
    · exact I.ok.has _ (.inl k)
    · exact I.ok.has _ (.inr k)
  refine wpAny_comprehension_free (use := use) rfl hs (closure_ok hfree) ok.kind (fun y hy e => by rw [ok.uniq y hy, e])
    (thn (hi pins s σ H _ I h) fun xv s1 hx => thn hx fun itv s2 h2 => ?_)
  obtain ⟨it, fp, tn, J, H2, e, I2, T, st2, f2, q⟩ := h2
  subst e
  refine wpAny_newObj_type (newEnv_comp ?_) (by show 0 ≤ sizeLine; decide)
  generalize hD : s2.heap.objs.size = D
  have hDn : H2 D = none := I2.hok.fresh (Nat.le_of_eq hD)
  obtain ⟨W, ⟨m0, w0⟩, turn⟩ := q D hDn
  -- the new list
  generalize hs3 : ({ s2 with heap := s2.heap.push { cls := .type "list", data := .seq ([] : List Value).toArray } } : Shared) = s3
  have I3 : Inv X pins σ (upd H2 D (.lst [])) s3 := by
    rw [← hs3]
    refine I2.laid (t' := s2.toks) (fun b o e => Heap.get?_push_of_some _ e) (Nat.le_of_eq hD) ⟨Nat.zero_le _, [], 0, .nil, ?_⟩
    rw [← hD]
    exact Heap.get?_push_size _ rfl
  have h3 : s3.heap = s2.heap.push { cls := .type "list", data := .seq ([] : List Value).toArray } := by rw [← hs3]
  have sz : ∀ b ∈ fp, b < s2.heap.objs.size := fun b hb => by
    obtain ⟨o, e, _⟩ := T.obj _ _ st2 b hb
    exact Heap.lt_size e
  have f3 : ∀ b ∈ fp, FpOk X pins (upd H2 D (.lst [])) b ∧ b < s3.heap.objs.size := fun b hb => by
    have hlt := sz b hb
    refine ⟨⟨?_, (f2 b hb).2⟩, by rw [h3, Heap.size_push]; exact Nat.lt_succ_of_lt hlt⟩
    rw [upd_ne (by rw [← hD]; exact Nat.ne_of_lt hlt)]
    exact (f2 b hb).1
  have st3 : tn 0 s3.heap := T.keep _ _ _ st2 fun b _ o e => by rw [h3]; exact Heap.get?_push_of_some _ e
  have I4 := block_start I3 ok hN f3
  have pg := hg s3 (upd H2 D (.lst [])) s3.heap.objs.size (cellsFrom (s3.heap.objs.size + 1) scope.names (cloFrom X.env.cells scope.names [])) fp
  have pt := ht s3 (upd H2 D (.lst [])) s3.heap.objs.size (cellsFrom (s3.heap.objs.size + 1) scope.names (cloFrom X.env.cells scope.names [])) fp
  have pe := he s3 (upd H2 D (.lst [])) s3.heap.objs.size (cellsFrom (s3.heap.objs.size + 1) scope.names (cloFrom X.env.cells scope.names [])) fp
  show codeAny _ _ (.compStart (.ListComp elt [⟨tg, iter, ifs, 0⟩] scope pos) 0 (.ref it) (.ref D) (compEnvC scope (cellsFrom (s3.heap.objs.size + 1) scope.names (cloFrom X.env.cells scope.names [])) s3.heap.objs.size X.env)) (compPost (model X.prog X.w) X.A X.xe use Qf (.ref D) s3.heap.objs.size) { s3 with heap := pushCells (s3.heap.push { cls := .type "dict", data := .dict #[] }) scope.names }
  have nfp : ∀ b ∈ fp, (upd H2 D (.lst [])) b = none := fun b hb => (f3 b hb).1.1
  generalize hce : compEnvC scope (cellsFrom (s3.heap.objs.size + 1) scope.names (cloFrom X.env.cells scope.names [])) s3.heap.objs.size X.env = ce at I4 pg pt pe ⊢
  have cL : ce.locals = s3.heap.objs.size := by subst hce; rfl
  generalize hH3 : upd H2 D (.lst []) = H3 at I3 I4 pg pt pe w0 nfp f3
  generalize hs4 : ({ s3 with heap := pushCells (s3.heap.push { cls := .type "dict", data := .dict #[] }) scope.names } : Shared) = s4 at I4 ⊢
  have st4 : tn 0 s4.heap := T.keep _ _ _ st3 fun b _ o e => by rw [← hs4]; exact pushCells_keeps _ _ _ _ (Heap.get?_push_of_some _ e)
  have stat : ∀ {σ' : St} {H' : Hp} {s' : Shared}, Inv (X.blk s3 H3 scope ce fp) [] σ' H' s' → (∀ b ∈ fp, H' b = none) → ∀ b ∈ fp, FpOk (X.blk s3 H3 scope ce fp) [] H' b := fun {σ' H' s'} I' hn b hb =>
    ⟨hn b hb, (I'.ok.exf b hb).1, I'.ok.exfs b hb, .inl hb, fun x c e => (I'.ok.exf b hb).2 x c e, fun p hp => absurd (show p ∈ ([] : List (Addr × Obj)) ++ [] from hp) (by simp)⟩
  have loop : codeAny (model X.prog X.w) X.A (.compLoop (.ListComp elt [⟨tg, iter, ifs, 0⟩] scope pos) 0 (.ref it) (.ref D) ce) (compPost (model X.prog X.w) X.A X.xe use Qf (.ref D) s3.heap.objs.size) s4 := by
    refine compLoop_any (fun n s' => ∃ i H', Inv (X.blk s3 H3 scope ce fp) [] (wipe σ (own.map (·.2))) H' s' ∧ tn i s'.heap ∧ (∀ b ∈ fp, H' b = none) ∧ W i n H') ?_ m0 ⟨0, H3, I4, st4, nfp, w0⟩
    rintro n s5 ⟨i, H5, I5, st5, n5, w5⟩
    rcases turn i n H5 w5 with ⟨stop, qq⟩ | ⟨go, Nx, hNx, step⟩
    · have td := T.done (X.blk s3 H3 scope ce fp) rfl rfl rfl hc i [] s5 _ H5 (fun _ _ => False) I5 (stat I5 n5) st5 stop
      refine thnF td fun r s6 ⟨hr, I6⟩ => ?_
      subst hr
      -- back in the def's context
      have I7 : Inv X pins σ H5 s6 := I3.call' (ch := fp) I6.os I6.base I6.hok I6.bare fun b hb => ⟨(f3 b hb).1.2.2.2.1, (f3 b hb).1.2.1, (f3 b hb).1.2.2.2.2.1, (f3 b hb).1.2.2.2.2.2⟩
      have nC : H5 s3.heap.objs.size = none := by
        have z : H5 ce.locals = none := I6.free
        rw [cL] at z
        exact z
      obtain ⟨m, hn, _⟩ := I6.loc
      have hn : s6.heap.Ns ce.locals m := hn
      rw [cL] at hn
      exact hRR D s3.heap.objs.size s6 m H5 I7 qq hn (I3.fpOk (Nat.le_refl _) nC)
    · have ti := T.item (X.blk s3 H3 scope ce fp) rfl rfl rfl hc i [] s5 _ H5 (fun _ _ => False) I5 (stat I5 n5) st5 go
      refine thnF ti fun r s6 ⟨u, hr, h6⟩ => ?_
      subst hr
      refine thnF h6 fun _ s7 ⟨x, H7, I7, r7, y7, st7, n7⟩ => ?_
      have I7' := I7.pinned (stat I7 n7) (T.obj _ _ st7)
      refine thnF (pg _ s7 _ H7 x u _ I7' r7 (step x H7 y7)) fun _ s8 ⟨σ8, H8, I8, hw8, q8⟩ => ?_
      refine thnF (pt _ s8 σ8 H8 _ I8 q8) fun b s9 ⟨H9, I9, q9⟩ => ?_
      -- the turn's end
      have fin : ∀ {s' : Shared} {H' : Hp}, Inv (X.blk s3 H3 scope ce fp) ([] ++ pinsAt fp s7.heap) σ8 H' s' → Nx H' → ∃ m, m < n ∧ ∃ i H', Inv (X.blk s3 H3 scope ce fp) [] (wipe σ (own.map (·.2))) H' s' ∧ tn i s'.heap ∧ (∀ b ∈ fp, H' b = none) ∧ W i m H' := fun {s' H'} I' nx => by
        obtain ⟨m', hm, w'⟩ := hNx H' nx
        have pin' : ∀ b ∈ fp, ∀ o, s7.heap.get? b = some o → s'.heap.get? b = some o ∧ H' b = none := fun b hb o e =>
          let z := I'.pin (b, o) (List.mem_append_right _ (List.mem_append_right _ (mem_pinsAt hb e)))
          ⟨z.1, z.2.1⟩
        have hl : (wipe σ (own.map (·.2))).length = σ8.length := by rw [← hw8, wipe_length]
        refine ⟨m', hm, i + 1, H', (I'.unpinned (pins := [])).weak hl (fun j v e => ?_), T.keep _ _ _ st7 fun b hb o e => (pin' b hb o e).1, fun b hb => ?_, w'⟩
        · rw [← hw8] at e
          exact (wipe_some e).1
        · obtain ⟨o, e, _⟩ := T.obj _ _ st7 b hb
          exact (pin' b hb o e).2
      cases b with
      | false =>
        simp only [Bool.false_eq_true, if_false] at q9 ⊢
        exact fin I9 q9
      | true =>
        simp only [if_true] at q9 ⊢
        refine thnF (pe _ s9 σ8 H9 _ I9 q9) fun z s10 ⟨yv, H10, I10, r10, acc, hD10, hz10, nx⟩ => ?_
        exact app_ok (X := X.blk s3 H3 scope ce fp) I10 hD10 hz10 r10 fun s11 I11 => fin I11 nx
  exact codeAny_compStart_list loop (T.self X.A 0 _ _ _ st4 loop)
/-- as a value -/
theorem pe_lc {elt tg iter : Expr} {ifs : List Expr} {scope : Scope} {own : List (Str × Nat)} {pos : Pos} {wi : TI} {g : TG} {tt : TT} {te : TE} (hc : X.calm = true) (hN : X.N.Nodup) (hi : PI X tg iter wi) (ok : BlkOk X.N X.env.scope scope own)
    (hg : ∀ (s : Shared) (H : Hp) (C : Addr) (cl : List (Str × Addr)) (fp : List Addr), PG (X.blk s H scope (compEnvC scope cl C X.env) fp) tg g) (ht : ∀ (s : Shared) (H : Hp) (C : Addr) (cl : List (Str × Addr)) (fp : List Addr), PTs (X.blk s H scope (compEnvC scope cl C X.env) fp) ifs tt)
    (he : ∀ (s : Shared) (H : Hp) (C : Addr) (cl : List (Str × Addr)) (fp : List Addr), PE (X.blk s H scope (compEnvC scope cl C X.env) fp) elt te) (hs : ∀ x, foldedSetIterable iter X.env x = pure x := by intro _; rfl) :
    PE X (.ListComp elt [⟨tg, iter, ifs, 0⟩] scope pos) (tLc wi g tt te (own.map (·.2))) := by
  intro pins s σ H Q I h
  rw [eval_ListComp]
  refine lc_core hc hN I hi ok hg ht he hs h fun D C s' m H' I' q hn f => ⟨m, hn, fun h'' sb => ?_⟩
  obtain ⟨f0, f1, f2, f3, f4, f5⟩ := f
  exact ⟨.ref D, H', I'.turned (t' := s'.toks) (fun b o hb e => (sb.2 b hb).trans e) f0 f1 f3 f4 f5, rfl, q⟩
/-- name = [..] on one line, the name a local -/
theorem ps_setLc {i : Nat} {y : Str} {py : Pos} {elt tg iter : Expr} {ifs : List Expr} {scope : Scope} {own : List (Str × Nat)} {pos spos : Pos} {wi : TI} {g : TG} {tt : TT} {te : TE} (hc : X.calm = true) (hN : X.N.Nodup) (hy : X.N[i]? = some y) (hyl : X.env.scope.names.lookup y = some .local)
    (hsw : swapsWith (.ListComp elt [⟨tg, iter, ifs, 0⟩] scope pos) (some (.Name y py)) spos.line X.env = pure true) (hi : PI X tg iter wi) (ok : BlkOk X.N X.env.scope scope own)
    (hg : ∀ (s : Shared) (H : Hp) (C : Addr) (cl : List (Str × Addr)) (fp : List Addr), PG (X.blk s H scope (compEnvC scope cl C X.env) fp) tg g) (ht : ∀ (s : Shared) (H : Hp) (C : Addr) (cl : List (Str × Addr)) (fp : List Addr), PTs (X.blk s H scope (compEnvC scope cl C X.env) fp) ifs tt)
    (he : ∀ (s : Shared) (H : Hp) (C : Addr) (cl : List (Str × Addr)) (fp : List Addr), PE (X.blk s H scope (compEnvC scope cl C X.env) fp) elt te) (hs : ∀ x, foldedSetIterable iter X.env x = pure x := by intro _; rfl) :
    PS X (.Assign [.Name y py] (.ListComp elt [⟨tg, iter, ifs, 0⟩] scope pos) spos) (tAsg (tLc wi g tt te (own.map (·.2))) (gName i)) := by
  intro pins s σ H D I h
  rw [exec_Assign_Name_used _ _ _ _ hsw]
  refine wpAny_bind (wpAny_standAt (wpAny_bind ?_))
  show wpAny _ X.A (do let _ ← comprehension (.ListComp elt [⟨tg, iter, ifs, 0⟩] scope pos) scope X.env (firstIterPos [⟨tg, iter, ifs, 0⟩] pos) (newList []) false (eval iter X.env) (some (assign (.Name y py) X.env))) _ _ s
  have h : tLc wi g tt te (own.map (·.2)) σ H (fun x H1 => gName i x σ H1 D.nx) := h
  refine wpAny_bind (thn (lc_core (Qf := fun _ s' => SP X pins D .next s') hc hN I hi ok hg ht he hs h fun L C s' m H' I' q hn f => ?_) fun _ s' hq => wpAny_pure (wpAny_pure hq))
  show wpAny _ _ (assign (.Name y py) X.env (.ref L)) _ _ _
  refine wpAny_assign_Name (store_ok2 (v := V.ref L) I' hN hy (.inl hyl) rfl (fun s2 I2 ⟨a, sb, ha⟩ => ?_) (.inr hyl))
  obtain ⟨f0, f1, f2, f3, f4, f5⟩ := f
  have haC : C ≠ a := by
    rcases ha with z | z
    · rw [z]; exact f1
    · exact fun e => f4 y a z e.symm
  refine ⟨m, hn.sameBut sb haC, fun h3 sb3 => ?_⟩
  exact ⟨_, H', I2.turned (t' := s2.toks) (fun b o hb e => (sb3.2 b hb).trans e) f0 f1 f3 f4 f5, q⟩
theorem sw_true {elt : Expr} {gs : List Comprehension} {scope : Scope} {pos py : Pos} {y : Str} {l : Nat} {env : Env} (hk : env.scope.kind = .function) (hy : env.scope.names.lookup y = some .local) (hl : (py.line == pos.line) = true)
    (ha : (scope.names.any fun (n, k) => n == y && (k == .local || k == .cell)) = false) : swapsWith (.ListComp elt gs scope pos) (some (.Name y py)) l env = pure true := by
  have ky : env.kindOf y = some .local := hy
  have hb : env.blockKind = .function := by unfold Env.blockKind; rw [hk]; rfl
  unfold swapsWith
  simp only [hb, ky, ha, Expr.pos, hl]
  rfl
end

/-! ### the forms one uses -/
def blkC (N : List Str) (sc scope : Scope) (own : List (Str × Nat)) : Bool :=
  (match scope.kind with | .function => true | _ => false) && (scope.names.all fun y => decide (scope.names.lookup y.1 = some y.2)) && (own.all fun p => decide (N[p.2]? = some p.1)) &&
    (scope.names.all fun y => match y.2 with
      | .free => (match sc.names.lookup y.1 with | some .cell => true | some .free => true | _ => false)
      | .local => decide (y.1 ∈ own.map (·.1)) || decide (y.1 ∉ N)
      | .cell => decide (y.1 ∈ own.map (·.1)) || decide (y.1 ∉ N)
      | _ => true)
theorem blkOk_by {N : List Str} {sc scope : Scope} {own : List (Str × Nat)} (h : blkC N sc scope own = true) : BlkOk N sc scope own := by
  unfold blkC at h
  simp only [Bool.and_eq_true, List.all_eq_true, decide_eq_true_eq] at h
  obtain ⟨⟨⟨h1, h2⟩, h3⟩, h4⟩ := h
  refine ⟨?_, h2, h3, fun y hy e => ?_, fun y hy e => ?_⟩
  · split at h1
    · assumption
    · cases h1
  · have q := h4 y hy
    simp only [e] at q
    split at q <;> first | exact .inl (by assumption) | exact .inr (by assumption) | cases q
  · have q := h4 y hy
    rcases e with e | e <;> (simp only [e, Bool.or_eq_true, decide_eq_true_eq] at q; exact q)
end L2

namespace L2
open PySem PySem.Spec PyProof.Rows

section
variable {prog : Program} {w : World} {A : Around} {R : Result → Shared → Prop} {s : Shared} {elt t0 i0 t1 i1 : Expr} {ifs0 ifs1 : List Expr} {scope : Scope} {pos : Pos} {it acc : Value} {env : Env}
end

section
variable {X : Cx}
end
end L2

namespace L2
open PySem PySem.Spec PyProof.Rows

/-! ### lists of pairs as tables -/
section
variable {κ : Type} [DecidableEq κ]
def valV (kvs : List (κ × V)) (k : κ) : Option V := (kvs.find? fun kv => decide (kv.1 = k)).map (·.2)
/-- in its place, or at the end -/
def putK (kvs : List (κ × V)) (k : κ) (v : V) : List (κ × V) :=
  if (kvs.any fun kv => decide (kv.1 = k)) = true then kvs.map (fun kv => if kv.1 = k then (kv.1, v) else kv) else kvs ++ [(k, v)]
def dropK (kvs : List (κ × V)) (k : κ) : List (κ × V) := kvs.filter fun kv => decide (kv.1 ≠ k)

theorem valV_pos {p : κ × V} {r : List (κ × V)} {k : κ} (e : p.1 = k) : valV (p :: r) k = some p.2 := by simp [valV, List.find?_cons, e]
theorem valV_neg {p : κ × V} {r : List (κ × V)} {k : κ} (e : ¬ p.1 = k) : valV (p :: r) k = valV r k := by simp [valV, List.find?_cons, e]
theorem valV_any (k : κ) : ∀ kvs : List (κ × V), (kvs.any fun kv => decide (kv.1 = k)) = (valV kvs k).isSome
  | [] => rfl
  | p :: r => by
    rw [List.any_cons]
    by_cases e : p.1 = k
    · simp only [valV_pos e, decide_eq_true e, Bool.true_or, Option.isSome_some]
    · rw [valV_neg e, decide_eq_false e, Bool.false_or]; exact valV_any k r
theorem length_putK (kvs : List (κ × V)) (k : κ) (v : V) : (putK kvs k v).length ≤ kvs.length + 1 := by
  unfold putK
  split
  · rw [List.length_map]; omega
  · rw [List.length_append, List.length_cons, List.length_nil]; omega
theorem putK_new {kvs : List (κ × V)} {k : κ} (v : V) (h : valV kvs k = none) : putK kvs k v = kvs ++ [(k, v)] := by
  unfold putK
  rw [valV_any, h]
  exact if_neg (by decide)

theorem RelO.isSome_eq {o : Option V} {u : Option Value} (r : RelO o u) : o.isSome = u.isSome := by
  cases o with
  | none => cases u with
    | none => rfl
    | some _ => exact (show False from r).elim
  | some _ => cases u with
    | none => exact (show False from r).elim
    | some _ => rfl
theorem RelO.getD {o : Option V} {u : Option Value} {d : V} {d' : Value} (r : RelO o u) (rd : RelV d d') : RelV (o.getD d) (u.getD d') := by
  cases o with
  | none => cases u with
    | none => exact rd
    | some _ => exact (show False from r).elim
  | some _ => cases u with
    | none => exact (show False from r).elim
    | some _ => exact r

/-- raw tables of the same keys -/
theorem KV.val {kvs : List (κ × V)} {vs : List (κ × Value)} (r : KV kvs vs) (k : κ) : RelO (valV kvs k) (valueAt vs k) := by
  unfold KV at r
  induction r with
  | nil => exact True.intro
  | @cons p q ps qs h t ih =>
    obtain ⟨h1, h2⟩ := h
    by_cases e : p.1 = k
    · have e' : q.1 = k := h1.symm.trans e
      have b : valueAt (q :: qs) k = some q.2 := by simp [valueAt, List.find?_cons, e']
      rw [valV_pos e, b]; exact h2
    · have e' : ¬ q.1 = k := fun z => e (h1.trans z)
      have b : valueAt (q :: qs) k = valueAt qs k := by simp [valueAt, List.find?_cons, e']
      rw [valV_neg e, b]; exact ih
theorem KV.any {kvs : List (κ × V)} {vs : List (κ × Value)} (r : KV kvs vs) (k : κ) : (kvs.any fun kv => decide (kv.1 = k)) = vs.any fun kv => decide (kv.1 = k) := by
  unfold KV at r
  induction r with
  | nil => rfl
  | cons h t ih => rw [List.any_cons, List.any_cons, ih, h.1]
theorem KV.repl {kvs : List (κ × V)} {vs : List (κ × Value)} (r : KV kvs vs) (k : κ) {y : V} {u : Value} (ry : RelV y u) :
    KV (kvs.map fun kv => if kv.1 = k then (kv.1, y) else kv) (vs.map fun kv => if kv.1 = k then (kv.1, u) else kv) := by
  unfold KV at r ⊢
  induction r with
  | nil => exact .nil
  | @cons p q ps qs h t ih =>
    rw [List.map_cons, List.map_cons]
    refine .cons ?_ ih
    obtain ⟨h1, h2⟩ := h
    by_cases e : p.1 = k
    · rw [if_pos e, if_pos (h1.symm.trans e)]; exact ⟨h1, ry⟩
    · rw [if_neg e, if_neg (fun z => e (h1.trans z))]; exact ⟨h1, h2⟩
theorem KV.put {kvs : List (κ × V)} {vs : List (κ × Value)} (r : KV kvs vs) (k : κ) {y : V} {u : Value} (ry : RelV y u) : KV (putK kvs k y) (stored vs k u) := by
  unfold putK stored
  rw [r.any k]
  by_cases e : (vs.any fun kv => decide (kv.1 = k)) = true
  · rw [if_pos e, if_pos e]; exact r.repl k ry
  · rw [if_neg e, if_neg e]; exact Paired.snoc r ⟨rfl, ry⟩
theorem KV.drop {kvs : List (κ × V)} {vs : List (κ × Value)} (r : KV kvs vs) (k : κ) : KV (dropK kvs k) (without vs k) := by
  unfold KV at r ⊢
  unfold dropK without
  induction r with
  | nil => exact .nil
  | @cons p q ps qs h t ih =>
    obtain ⟨h1, h2⟩ := h
    rw [List.filter_cons, List.filter_cons]
    by_cases e : p.1 = k
    · have a : ¬ decide (p.1 ≠ k) = true := by simp [e]
      have b : ¬ decide (q.1 ≠ k) = true := by simp [h1.symm.trans e]
      rw [if_neg a, if_neg b]; exact ih
    · have e' : ¬ q.1 = k := fun z => e (h1.trans z)
      have a : decide (p.1 ≠ k) = true := by simp [e]
      have b : decide (q.1 ≠ k) = true := by simp [e']
      rw [if_pos a, if_pos b]; exact .cons ⟨h1, h2⟩ ih
theorem KV.keys {kvs : List (κ × V)} {vs : List (κ × Value)} (r : KV kvs vs) : kvs.map (·.1) = vs.map (·.1) := by
  unfold KV at r
  induction r with
  | nil => rfl
  | cons h t ih => rw [List.map_cons, List.map_cons, ih, h.1]
theorem KV.length {kvs : List (κ × V)} {vs : List (κ × Value)} (r : KV kvs vs) : kvs.length = vs.length := Paired.length r
end


/-! ### a tracked dict, its keys ints and texts or tuples of these -/
theorem kV_is {P : Program} {w : World} {k : Key} {u : Value} (r : RelV (kV k) u) : (mixKind P w).is k u = true := by
  cases k with
  | inl i => obtain ⟨t, e⟩ := (show ∃ t, u = Value.int i t from r); subst e; exact mixKind_int P w i t
  | inr x => obtain ⟨t, e⟩ := (show ∃ t, u = Value.str x t from r); subst e; exact mixKind_str P w x t
theorem items_are {P : Program} {w : World} : ∀ {ks : List Key} {us : List Value}, Vals (ks.map kV) us → ItemsAre (mixKind P w) ks us
  | [], _, r => by rw [List.map_nil] at r; cases r; exact .nil
  | k :: ks, _, r => by
    rw [List.map_cons] at r
    cases r with
    | cons h t => exact .cons (kV_is h) (items_are t)

/-- raw entries of a dict with tuple keys -/
abbrev KT (H : Hp) : List (List Key × V) → List (List Key × Addr × Value) → Prop := Paired fun p q => p.1 = q.1 ∧ H q.2.1 = some (.tup (p.1.map kV)) ∧ RelV p.2 q.2.2
theorem KT.val {H : Hp} {kvs : List (List Key × V)} {xs : List (List Key × Addr × Value)} (r : KT H kvs xs) (k : List Key) : RelO (valV kvs k) ((atKey xs k).map (·.2)) := by
  induction r with
  | nil => exact True.intro
  | @cons p q ps qs h t ih =>
    obtain ⟨h1, _, h2⟩ := h
    by_cases e : p.1 = k
    · have e' : q.1 = k := h1.symm.trans e
      have b : atKey (q :: qs) k = some q.2 := by simp [atKey, List.find?_cons, e']
      rw [valV_pos e, b]; exact h2
    · have e' : ¬ q.1 = k := fun z => e (h1.trans z)
      have b : atKey (q :: qs) k = atKey qs k := by simp [atKey, List.find?_cons, e']
      rw [valV_neg e, b]; exact ih
theorem KT.repl {H : Hp} {kvs : List (List Key × V)} {xs : List (List Key × Addr × Value)} (r : KT H kvs xs) (k : List Key) {y : V} {u : Value} (ry : RelV y u) :
    KT H (kvs.map fun kv => if kv.1 = k then (kv.1, y) else kv) (xs.map (putAt k u)) := by
  induction r with
  | nil => exact .nil
  | @cons p q ps qs h t ih =>
    rw [List.map_cons, List.map_cons]
    refine .cons ?_ ih
    obtain ⟨h1, h2, h3⟩ := h
    unfold putAt
    by_cases e : p.1 = k
    · rw [if_pos e, if_pos (h1.symm.trans e)]; exact ⟨h1, h2, ry⟩
    · rw [if_neg e, if_neg (fun z => e (h1.trans z))]; exact ⟨h1, h2, h3⟩
theorem KT.put {H : Hp} {kvs : List (List Key × V)} {xs : List (List Key × Addr × Value)} (r : KT H kvs xs) (k : List Key) {b : Addr} {y : V} {u : Value} (hb : H b = some (.tup (k.map kV))) (ry : RelV y u) :
    KT H (putK kvs k y) (storedH xs k b u) := by
  have e : (kvs.any fun kv => decide (kv.1 = k)) = (atKey xs k).isSome := by
    rw [valV_any, (r.val k).isSome_eq, Option.isSome_map]
  unfold putK storedH
  rw [e]
  by_cases q : (atKey xs k).isSome = true
  · rw [if_pos q, if_pos q]; exact r.repl k ry
  · rw [if_neg q, if_neg q]; exact Paired.snoc r ⟨rfl, hb, ry⟩
theorem KT.keeps {H H' : Hp} {kvs : List (List Key × V)} {xs : List (List Key × Addr × Value)} (r : KT H kvs xs) (ht : ∀ b ys, H b = some (.tup ys) → H' b = some (.tup ys)) : KT H' kvs xs :=
  Paired.mapP r fun _ _ z => ⟨z.1, ht _ _ z.2.1, z.2.2⟩

section
variable {P : Program} {w : World} {H : Hp} {h : Heap} {a : Addr}
theorem rd_of {u : HO} (ok : HOk P w H h) (e : Rd H a u) : ObjOk P w H h a u := e.ok ok
theorem dk_rd {kvs : List (Key × V)} (ok : HOk P w H h) (e : Rd H a (.dK kvs)) : kvs.length ≤ sizeLine ∧ (a == sysModules) = false ∧ ∃ vs, KV kvs vs ∧ h.DictOf (mixKind P w) a vs :=
  show ObjOk P w H h a (.dK kvs) from rd_of ok e
theorem dk_of {kvs : List (Key × V)} (ok : HOk P w H h) (e : H a = some (.dK kvs)) : kvs.length ≤ sizeLine ∧ (a == sysModules) = false ∧ ∃ vs, KV kvs vs ∧ h.DictOf (mixKind P w) a vs := dk_rd ok (.inl e)
/-- a tracked tuple of ints and texts is a key -/
theorem key_of {ks : List Key} (ok : HOk P w H h) (e : H a = some (.tup (ks.map kV))) : (tupleKind (mixKind P w)).is h ks a := by
  obtain ⟨_, its, r, o, h1, h2, n, h3⟩ := (show ObjOk P w H h a (.tup (ks.map kV)) from ok a _ e)
  exact ⟨o, its.toArray, n, h1, h2, h3, by simpa using items_are r⟩
theorem dt_rd {kvs : List (List Key × V)} (ok : HOk P w H h) (e : Rd H a (.dT kvs)) : kvs.length ≤ sizeLine ∧ (a == sysModules) = false ∧
    ∃ xs, KT H kvs xs ∧ h.DictOfH (tupleKind (mixKind P w)) a xs := by
  obtain ⟨z, y, xs, r, o, es, ep, h1, h2, h3, h4, h5⟩ := (show ObjOk P w H h a (.dT kvs) from rd_of ok e)
  refine ⟨z, y, xs, r, o, es, ep, h1, h2, h3, h4, fun x hx => ?_, h5⟩
  have all : ∀ {l : List (List Key × V)} {m : List (List Key × Addr × Value)}, KT H l m → ∀ x ∈ m, (tupleKind (mixKind P w)).is h x.1 x.2.1 := by
    intro l m q
    induction q with
    | nil => intro x hx; exact nomatch hx
    | @cons p q ps qs hq t ih =>
      intro x hx
      rcases List.mem_cons.mp hx with e | hx
      · subst e
        exact key_of ok (by rw [← hq.1]; exact hq.2.1)
      · exact ih x hx
  exact all r x hx
theorem dt_of {kvs : List (List Key × V)} (ok : HOk P w H h) (e : H a = some (.dT kvs)) : kvs.length ≤ sizeLine ∧ (a == sysModules) = false ∧
    ∃ xs, KT H kvs xs ∧ h.DictOfH (tupleKind (mixKind P w)) a xs := dt_rd ok (.inl e)
end

/-- what the dict at a holds at the key y -/
def DGet (H : Hp) (a : Addr) (y : V) (r : Option V) : Prop :=
  (∃ kvs k, Rd H a (.dK kvs) ∧ y = kV k ∧ r = valV kvs k) ∨ ∃ kvs k b, Rd H a (.dT kvs) ∧ y = .ref b ∧ H b = some (.tup (k.map kV)) ∧ r = valV kvs k
/-- the heap behind a[y] = v -/
def DPut (H : Hp) (a : Addr) (y v : V) (H' : Hp) : Prop :=
  (∃ kvs k, H a = some (.dK kvs) ∧ y = kV k ∧ kvs.length < sizeLine ∧ H' = upd H a (.dK (putK kvs k v))) ∨
  ∃ kvs k b, H a = some (.dT kvs) ∧ y = .ref b ∧ H b = some (.tup (k.map kV)) ∧ kvs.length < sizeLine ∧ H' = upd H a (.dT (putK kvs k v))
theorem DGet.k {H : Hp} {a : Addr} {kvs : List (Key × V)} {k : Key} (e : H a = some (.dK kvs)) : DGet H a (kV k) (valV kvs k) := .inl ⟨kvs, k, .inl e, rfl, rfl⟩
theorem DGet.t {H : Hp} {a b : Addr} {kvs : List (List Key × V)} {k : List Key} (e : H a = some (.dT kvs)) (eb : H b = some (.tup (k.map kV))) : DGet H a (.ref b) (valV kvs k) := .inr ⟨kvs, k, b, .inl e, rfl, eb, rfl⟩
theorem DPut.k {H : Hp} {a : Addr} {kvs : List (Key × V)} {k : Key} {v : V} (e : H a = some (.dK kvs)) (hl : kvs.length < sizeLine) : DPut H a (kV k) v (upd H a (.dK (putK kvs k v))) := .inl ⟨kvs, k, e, rfl, hl, rfl⟩
theorem DPut.t {H : Hp} {a b : Addr} {kvs : List (List Key × V)} {k : List Key} {v : V} (e : H a = some (.dT kvs)) (eb : H b = some (.tup (k.map kV))) (hl : kvs.length < sizeLine) :
    DPut H a (.ref b) v (upd H a (.dT (putK kvs k v))) := .inr ⟨kvs, k, b, e, rfl, eb, hl, rfl⟩


section
variable {X : Cx} {pins : List (Addr × Obj)} {σ : St} {H : Hp} {s : Shared} {a : Addr} {y v : V} {u r : Value} {o : Option V} {A : Around} {E : Value → Shared → Prop}

theorem Inv.big (I : Inv X pins σ H s) : sysModules < s.heap.objs.size := by
  have h : mainGlobals < s.heap.objs.size := (I.mod.glob.keeps I.bk).lt
  exact Nat.lt_trans (by decide) h

theorem d_notIn {Q : Value → Shared → Prop} (hu : A.units + 1 < cLine) (I : Inv X pins σ H s) (g : DGet H a y o) (ry : RelV y u) (h : ∀ s', Inv X pins σ H s' → Q (.bool (!o.isSome)) s') :
    wpAny (model X.prog X.w) A (compareOp .NotIn u (.ref a)) Q E s := by
  rcases g with ⟨kvs, k, e, ey, l⟩ | ⟨kvs, k, b, e, ey, eb, l⟩
  · subst ey
    obtain ⟨z, hd, vs, rel, dd⟩ := dk_rd I.hok e
    refine wpAny_notIn_of (kV_is ry) hd dd.mapOf ?_
    rw [← (rel.val k).isSome_eq, ← l]
    exact h _ (I.tok _)
  · subst ey
    cases (show u = Value.ref b from ry)
    obtain ⟨z, hd, xs, rel, dd⟩ := dt_rd I.hok e
    refine wpAny_notIn_heap (tupleKind_room_in1 hu) (key_of I.hok eb) hd dd ?_
    have q := (rel.val k).isSome_eq
    rw [Option.isSome_map] at q
    rw [← q, ← l]
    exact h _ (I.tok _)
/-- a dict's object is replaced -/
theorem d_write {h' : Heap} {t' : Nat} {ob : HO} (I : Inv X pins σ H s) (mu : Mut (H a)) (hs : Heap.SameBut a s.heap h') (he : ∃ q, h'.get? a = some q) (new : ObjOk X.prog X.w (upd H a ob) h' a ob) :
    Inv X pins σ (upd H a ob) { s with heap := h', toks := t' } :=
  I.write (x := a) (e := a) mu (.inl rfl) (fun b q hb z => (hs.2 b hb).trans z) he new
theorem dk_new {P : Program} {w : World} {H' : Hp} {h' : Heap} {kvs : List (Key × V)} {vs : List (Key × Value)} (z : kvs.length ≤ sizeLine) (hd : (a == sysModules) = false) (rel : KV kvs vs) (dd : h'.DictOf (mixKind P w) a vs) :
    ObjOk P w H' h' a (.dK kvs) := ⟨z, hd, vs, rel, dd⟩
/-- d[y] = v -/
theorem d_setItem {H' : Hp} {Q : Unit → Shared → Prop} (hu : A.units + 1 < cLine) (I : Inv X pins σ H s) (g : DPut H a y v H') (ry : RelV y u) (rv : RelV v r) (h : ∀ s', Inv X pins σ H' s' → Q () s') :
    wpAny (model X.prog X.w) A (setItem (.ref a) u r) Q E s := by
  rcases g with ⟨kvs, k, e, ey, l, eH⟩ | ⟨kvs, k, b, e, ey, eb, l, eH⟩
  · subst ey eH
    obtain ⟨z, hd, vs, rel, dd⟩ := dk_of I.hok e
    have hz : vs.length ≤ sizeLine := by rw [← rel.length]; exact z
    have hl : (putK kvs k v).length ≤ sizeLine := by have := length_putK kvs k v; omega
    refine wpAny_setItem_pairs (hsz := hz) (kV_is ry) dd fun h' dd' hs => h _ ?_
    have he : ∃ q, h'.get? a = some q := let ⟨q, _, _, hq, _⟩ := dd'; ⟨q, hq⟩
    exact d_write I (by rw [e]; exact True.intro) hs he (dk_new hl hd (rel.put k rv) dd')
  · subst ey eH
    cases (show u = Value.ref b from ry)
    obtain ⟨z, hd, xs, rel, dd⟩ := dt_of I.hok e
    have hz : xs.length ≤ sizeLine := by rw [← Paired.length rel]; exact z
    have hl : (putK kvs k v).length ≤ sizeLine := by have := length_putK kvs k v; omega
    refine wpAny_setItem_heap (hsz := hz) (tupleKind_room_in1 hu) (key_of I.hok eb) dd fun h' dd' hs => h _ ?_
    obtain ⟨q, es, ep, hq, h2, h3, h4, _, h5⟩ := dd'
    refine d_write I (by rw [e]; exact True.intro) hs ⟨q, hq⟩ ⟨hl, hd, _, (rel.put k eb rv).keeps fun c ys ec => ?_, q, es, ep, hq, h2, h3, h4, h5⟩
    rw [upd_ne (ne_of ec e (fun z => nomatch z))]
    exact ec
end

section
variable {X : Cx} {pins : List (Addr × Obj)} {σ : St} {H : Hp} {s : Shared} {a : Addr} {kvs : List (Key × V)} {k : Key} {u : Value} {A : Around} {E : Value → Shared → Prop}
end


/-! ### readings and rules -/
def tDNotIn (ty td : TE) : TE := fun σ H Q => ty σ H fun y H1 => td σ H1 fun x H2 => ∃ a o, x = .ref a ∧ DGet H2 a y o ∧ Q (.bl (!o.isSome)) H2
/-- d[y] = v -/
def sDPut (td ty tv : TE) : TS := fun D σ H => tv σ H fun v H1 => td σ H1 fun x H2 => ty σ H2 fun y H3 => ∃ a H4, x = .ref a ∧ DPut H3 a y v H4 ∧ D.nx σ H4
section
variable {X : Cx} {o i e value : Expr} {pos pos' tpos : Pos} {td ty tv : TE}
theorem pc_dnotin (hu : X.A.units + 1 < cLine) (hi : PE X i ty) (ho : PE X o td) : PC X .NotIn i o (tDNotIn ty td) := by
  intro pins s σ H Q I h
  refine thn (hi pins s σ H _ I h) fun iv s1 ⟨y, H1, I1, ry, q1⟩ => thn (ho pins s1 σ H1 _ I1 q1) fun u s2 ⟨x, H2, I2, rx, a, ov, ex, g, q2⟩ => ?_
  subst ex
  obtain rfl : u = Value.ref a := rx
  exact d_notIn hu I2 g ry fun s3 I3 => ⟨.bl (!ov.isSome), H2, I3, rfl, q2⟩
theorem ps_dput (hu : X.A.units + 1 < cLine) (ho : PE X o td) (hi : PE X i ty) (hv : PE X value tv) (hs : swapsWith value (some (.Subscript o i pos')) pos.line X.env = pure false) :
    PS X (.Assign [.Subscript o i pos'] value pos) (sDPut td ty tv) := by
  intro pins s σ H D I h
  refine wpAny_Assign_Subscript (thn (hv pins s σ H _ I h) fun r s1 ⟨v, H1, I1, rv, q1⟩ => thn (ho pins s1 σ H1 _ I1 q1) fun u s2 ⟨x, H2, I2, rx, q2⟩ => thn (hi pins s2 σ H2 _ I2 q2) fun iv s3 ⟨y, H3, I3, ry, a, H4, ex, g, q3⟩ => ?_) hs
  subst ex
  obtain rfl : u = Value.ref a := rx
  exact d_setItem hu I3 g ry rv fun s4 I4 => ⟨σ, H4, I4, q3⟩
end


/-! ### displays -/
theorem dt_empty {P : Program} {w : World} {H : Hp} (h : Heap) (hb : sysModules < h.objs.size) : ObjOk P w H (h.push { cls := .type "dict", data := .dict #[] }) h.objs.size (.dT []) :=
  ⟨Nat.zero_le _, beq_eq_false_iff_ne.mpr (Ne.symm (Nat.ne_of_lt hb)), [], .nil, _, #[], 0, Heap.get?_push_size _ rfl, ⟨rfl, rfl, rfl⟩, rfl, rfl, List.nodup_nil⟩
def tDNewT : TE := fun _ H Q => ∀ p, H p = none → Q (.ref p) (upd H p (.dT []))
section
variable {X : Cx} {pos : Pos}
theorem pe_dnewT : PE X (.Dict [] [] pos) tDNewT := fun pins s σ H Q I h =>
  wpAny_Dict_empty ⟨.ref s.heap.objs.size, _, I.laid (a := s.heap.objs.size) (o := .dT []) (t' := s.toks) (fun _ _ q => Heap.get?_push_of_some _ q) (Nat.le_refl _) (dt_empty s.heap I.big), rfl, h _ (I.hok.fresh (Nat.le_refl _))⟩
end

/-! ### methods -/
/-- a method call o.m(e) of a built-in, with one argument: what must be seen of the text -/
structure M1 (X : Cx) (o : Expr) (m : Str) (apos : Pos) (e : Expr) (cpos : Pos) : Prop where
  base : attributeBase o m X.env (eval o X.env) = eval o X.env
  few : ((backTo cpos (starEach [e] X.env)).all (fun x => !x.1) && (backToKw cpos (keywordEach [] X.env)).all (fun x => x.1.isSome)
    && decide (([e] : List Expr).length + ([] : List Keyword).length + (if ([] : List Keyword).isEmpty then 0 else 1) < 30)) = true
  line : (apos.endLine == cpos.line) = true
  trees : backTo cpos (starEach [e] X.env) = [(false, eval e X.env)]
structure M2 (X : Cx) (o : Expr) (m : Str) (apos : Pos) (e f : Expr) (cpos : Pos) : Prop where
  base : attributeBase o m X.env (eval o X.env) = eval o X.env
  few : ((backTo cpos (starEach [e, f] X.env)).all (fun x => !x.1) && (backToKw cpos (keywordEach [] X.env)).all (fun x => x.1.isSome)
    && decide (([e, f] : List Expr).length + ([] : List Keyword).length + (if ([] : List Keyword).isEmpty then 0 else 1) < 30)) = true
  line : (apos.endLine == cpos.line) = true
  trees : backTo cpos (starEach [e, f] X.env) = [(false, eval e X.env), (false, eval f X.env)]

section
variable {X : Cx} {pins : List (Addr × Obj)} {σ : St} {H : Hp} {s : Shared} {a : Addr} {y d : V} {u r : Value} {o : Option V} {A : Around} {E : Value → Shared → Prop}
end

section
variable {X : Cx} {o e f : Expr} {apos cpos : Pos} {td ty tx : TE}
end

/-! ### dict(d): a copy -/
section
variable {X : Cx} {pins : List (Addr × Obj)} {σ : St} {H : Hp} {s : Shared} {a : Addr} {kvs : List (Key × V)} {A : Around} {E : Value → Shared → Prop}
end


section
variable {X : Cx} {pins : List (Addr × Obj)} {σ : St} {H : Hp} {s : Shared} {a : Addr} {y : V} {u : Value} {A : Around} {E : Value → Shared → Prop}
end
end L2

namespace L2
open PySem PySem.Spec PyProof.Rows

section
variable {prog : Program} {w : World} {A : Around} {E : Value → Shared → Prop}
end

section
variable {X : Cx}
end
end L2

namespace L2
open PySem PySem.Spec PyProof.Rows

section
variable {X : Cx} {pins : List (Addr × Obj)} {σ : St} {H : Hp} {s : Shared} {h' : Heap}
/-- .. and one new object is laid -/
theorem Inv.turnedNew {t' : Nat} {ch : List Addr} {T : Addr} {ob : HO} (I : Inv X pins σ H s) (k : ∀ b o, b ∉ ch → s.heap.get? b = some o → h'.get? b = some o) (hf : ∀ b ∈ ch, FpOk X pins H b) (hT : s.heap.objs.size ≤ T)
    (new : ObjOk X.prog X.w (upd H T ob) h' T ob) : Inv X pins σ (upd H T ob) { s with heap := h', toks := t' } := by
  have hn : H T = none := I.hok.fresh hT
  have nit : ∀ b u, H b = some u → b ∉ ch := fun b u e z => by
    have q := (hf b z).1
    rw [q] at e; cases e
  refine I.step (g' := s.gens) (d' := s.drawn) (ch := ch) (fun b hb => ⟨(hf b hb).2.2.2.1, (hf b hb).2.1, (hf b hb).2.2.2.2.1, (hf b hb).2.2.2.2.2⟩) (fun b o _ _ hc e _ => k b o hc e) (fun b o _ _ hc e _ => ⟨o.slots, k b o hc e⟩)
    (fun b o _ e n => ?_) (fun b o hc e => ⟨o, k b o hc e⟩) (fun b xs e => ?_) (fun b o u e => ?_) (fun b ps e => ⟨#[], ?_⟩) (fun m hm => ?_) (fun b u e => ?_) I.bare
  · rw [upd_ne (Nat.ne_of_lt (Nat.lt_of_lt_of_le (Heap.lt_size e) hT))]; exact n
  · rw [upd_ne (ne_of_none e hn)]; exact e
  · rw [upd_ne (ne_of_none e hn)]; exact e
  · rw [upd_ne (ne_of_none e hn), e]; simp
  · obtain ⟨o, es, ep, ho, r⟩ := hm
    exact ⟨o, es, ep, k _ o (fun z => (hf _ z).2.1 rfl) ho, r⟩
  · by_cases hb : b = T
    · subst hb
      rw [upd_same] at e
      cases e
      exact new
    · rw [upd_ne hb] at e
      refine (I.hok b u e).stay (fun c v hc q => k c v ?_ q) (fun c q => by rw [upd_ne (ne_of_none q hn)]; exact q) fun c xs q => by rw [upd_ne (ne_of_none q hn)]; exact q
      rcases hc with z | z
      · rw [z]; exact nit b u e
      · exact nit c _ z

/-! ### locking a thing while a statement runs -/
end
section
variable {X : Cx}
/-! ### one iterator just laid -/
end

/-! ### range with a step -/
/-- range(i, j, c): small bounds, n items -/
def RgC (i j c : Int) (n : Nat) : Prop := c ≠ 0 ∧ c.natAbs < 1073741824 ∧ Builtin.Range.small i j c = true ∧ Builtin.Range.rangeSize i j c = n
theorem RgC.neg {i j : Int} (ha : -(2 ^ 62) ≤ i) (ha' : i < 2 ^ 62) (hb : -(2 ^ 62) ≤ j) (hb' : j < 2 ^ 62) : RgC i j (-1) (i - j).toNat :=
  ⟨by decide, by decide, PySem.W.small_down ha ha' hb hb', PySem.W.rangeSize_downNat i j⟩
section
variable {X : Cx} {tg : Expr}
end
/-! ### reversed(list) -/
section
variable {X : Cx} {tg : Expr}
end

/-! ### a str -/
/-! ### a dict's keys: any dict's entries -/
section
variable {prog : Program} {w : World} {A : Around} {E : Value → Shared → Prop} {s : Shared}
end

/-! ### a locked dict -/
section
variable {X : Cx} {pins : List (Addr × Obj)} {σ : St} {H : Hp} {s : Shared} {d : Addr} {o : Obj}
end

section
variable {P : Program} {w : World} {K : PySem.W.Frag} {tg : Expr} {d : Addr} {o : Obj} {es : Array DictEntry} {ep : Nat}
end

/-! ### for k in d, d.keys(), d.values(), d.items() -/
section
variable {X : Cx} {tg e : Expr} {td : TE} {apos cpos : Pos}
end

/-! ### enumerate(list) -/
/-- the list at a as it stands at each turn, each item in a new pair -/
def Ite (K : PySem.W.Frag) (a : Addr) : It :=
  ⟨fun i H => ∃ (xs : List V) (x : V), SqL K H a xs ∧ xs[i]? = some x, fun i H v H' => ∃ T x, v = .ref T ∧ H T = none ∧ H' = upd H T (.tup [.int (i : Nat), x]) ∧ ∀ xs, SqL K H a xs → xs[i]? = some x, fun i H => ∃ xs : List V, SqL K H a xs ∧ xs.length ≤ i⟩
theorem turn_enum {P : Program} {w : World} {K : PySem.W.Frag} {elts : List Expr} {kk : Nat} {tpos : Pos} (a e it : Addr) :
    Turn P w K (.Tuple elts kk tpos) (Ite K a) [e, it] e (fun i h => (∃ old, IsEnum h e it ((i : Nat) : Int) old) ∧ h.IsListIter it a i ∧ e ≠ it) where
  mem := by simp
  obj := fun i h st b hb => by
    obtain ⟨⟨old, he⟩, ⟨o, ho, hc, hd⟩, _⟩ := st
    have e' : b = e ∨ b = it := by simpa using hb
    rcases e' with z | z
    · rw [z]; exact ⟨_, he, fun v q => nomatch q⟩
    · rw [z]; exact ⟨o, ho, fun v q => by rw [hd] at q; cases q⟩
  keep := fun i h h' st k => let ⟨⟨old, he⟩, hi, hne⟩ := st; ⟨⟨old, k e (by simp) _ he⟩, hi.at fun o q => k it (by simp) o q, hne⟩
  item := by
    intro X hP hw hK hc i pins s σ H E I hf st hg
    subst hP hw hK
    obtain ⟨⟨old, he⟩, hit, hne⟩ := st
    obtain ⟨xs, x, hq, hx⟩ := hg
    obtain ⟨its, rv, p, hz⟩ := I.list hq
    obtain ⟨u, hu, ru⟩ := rv.get hx
    have hel : e < s.heap.objs.size := Heap.lt_size he
    have hil : it < s.heap.objs.size := by obtain ⟨_, q, _⟩ := hit; exact Heap.lt_size q
    refine wpAny_pyNext_enum_item he hit p.isList (x := u) (by simpa using hu) hne fun h' ho hit' hT hsz hk => ?_
    refine ⟨_, rfl, wpAny_letOwnedTupleGo_enum (s := { s with heap := h', toks := s.toks + 1 }) ho fun h'' he' sb => ?_⟩
    have hT2 : h''.get? s.heap.objs.size = some { cls := .type "tuple", data := .seq #[.int i s.toks, u] } := (sb.2 _ (Nat.ne_of_gt hel)).trans hT
    have new : ObjOk X.prog X.w (upd H s.heap.objs.size (.tup [.int (i : Nat), x])) h'' s.heap.objs.size (.tup [.int (i : Nat), x]) :=
      ⟨by show 2 ≤ sizeLine; decide, [.int i s.toks, u], .cons ⟨_, rfl⟩ (.cons ru .nil), ⟨_, hT2, rfl, _, rfl⟩⟩
    have I1 : Inv X pins σ (upd H s.heap.objs.size (.tup [.int (i : Nat), x])) { s with heap := h'', toks := s.toks + 1 } :=
      I.turnedNew (ch := [e, it]) (fun b ob hb q => (sb.2 b (fun z => hb (by simp [z]))).trans (hk b ob (fun z => hb (by simp [z])) (fun z => hb (by simp [z])) q)) hf (Nat.le_refl _) new
    refine ⟨.ref s.heap.objs.size, _, I1, rfl, ⟨_, x, rfl, I.hok.fresh (Nat.le_refl _), rfl, fun ys hy => by rw [I.list_inj hy hq]; exact hx⟩, ⟨⟨u, ?_⟩, hit'.at fun o q => (sb.2 it (Ne.symm hne)).trans q, hne⟩, fun b hb => ?_⟩
    · have e1 : ((i + 1 : Nat) : Int) = (i : Int) + 1 := by omega
      rw [e1]; exact he'
    · have hb' : b < s.heap.objs.size := by
        have e' : b = e ∨ b = it := by simpa using hb
        rcases e' with z | z
        · rw [z]; exact hel
        · rw [z]; exact hil
      rw [upd_ne (Nat.ne_of_lt hb')]
      exact (hf b hb).1
  done := by
    intro X hP hw hK hc i pins s σ H E I hf st hg
    subst hP hw hK
    obtain ⟨⟨old, he⟩, hit, hne⟩ := st
    obtain ⟨xs, hq, hx⟩ := hg
    obtain ⟨its, rv, p, hz⟩ := I.list hq
    obtain ⟨f0, f1, f2, f3, f4, f5⟩ := hf it (by simp)
    have hl := rv.length
    exact wpAny_pyNext_enum_end (I.ok.hd hc) he hit p.isList (by simp; omega) fun h' eb => ⟨rfl, I.turned (t' := s.toks) (fun b o hb q => eb b o hb q) f0 f1 f3 f4 f5⟩
  self := fun A i s Q E st h => let ⟨⟨_, he⟩, _⟩ := st; wpAny_pyIter_enum he h
def iEnum (K : PySem.W.Frag) (ta : TA) : TI := fun σ H R => ta σ H fun vs H1 => ∃ a xs, vs = [.ref a] ∧ SqL K H1 a xs ∧ R (Ite K a) H1
theorem pi_enum {X : Cx} {e : Expr} {ta : TA} {p pos tpos : Pos} {elts : List Expr} {kk : Nat} (hg : Gl X "enumerate") (hm : X.mg "enumerate" = none) (ha : PA X [e] ta) (hs : starEach [e] X.env = [(false, eval e X.env)] := by rfl) :
    PI X (.Tuple elts kk tpos) (.Call (.Name "enumerate" p) [e] [] pos) (iEnum X.K ta) := by
  intro pins s σ H R I h
  refine Call_ (ld_blt I hg hm boot_enumerate (PyProof.Rows.callWith_type1 (thn (ha pos pins s σ H _ I h) fun us s1 ⟨vs, H1, I1, r1, q1⟩ => ?_) hs rfl))
  obtain ⟨a, xs, ex, hq, q⟩ := q1
  subst ex
  cases r1 with
  | cons r rr =>
    cases rr
    cases r
    obtain ⟨its, rv, p', hz⟩ := I1.list hq
    refine call_enumerate_list p'.isList fun h' he hit hsz hk => wpAny_pyIter_enum he ?_
    have I2 : Inv X pins σ H1 { s1 with heap := h' } := I1.kept (t' := s1.toks) hk
    refine ⟨s1.heap.objs.size + 1, [s1.heap.objs.size + 1, s1.heap.objs.size], _, _, H1, rfl, I2, turn_enum a (s1.heap.objs.size + 1) s1.heap.objs.size, ⟨⟨.none, he⟩, hit, Nat.succ_ne_self _⟩, fun b hb => ?_, q⟩
    have e' : b = s1.heap.objs.size + 1 ∨ b = s1.heap.objs.size := by simpa using hb
    have hle : s1.heap.objs.size ≤ b := by
      rcases e' with z | z
      · rw [z]; exact Nat.le_add_right _ _
      · rw [z]; exact Nat.le_refl _
    exact I1.fpOk hle (I1.hok.fresh hle)
/-! ### zip(list, list) -/
end L2

section 
namespace Bits
open PySem PyProof.Rows

end Bits
end 

section 
namespace TL
open PySem PySem.Builtin PySem.Builtin.Str PySem.StrLaws

abbrev tl (x : Str) : List Nat := x.cps.toList
/-! ### the list functions -/
/-- S stands at the head of l -/
def pre (S l : List Nat) : Bool := l.take S.length == S
/-- what stands before the first S, and behind it -/
def par (S : List Nat) : List Nat → List Nat → Option (List Nat × List Nat)
  | _, [] => none
  | acc, c :: r => if pre S (c :: r) = true then some (acc, (c :: r).drop S.length) else par S (acc ++ [c]) r

/-! ### the model's split and partition are these -/
/-! ### computing spl and par -/
/-! ### digits -/
/-! ### words: x.split() -/
end TL
end 

namespace L2
open PySem PySem.Spec PyProof.Rows

section
variable {X : Cx} {pins : List (Addr × Obj)} {σ : St} {H : Hp} {s : Shared} {Q : VK}
end

section
variable {X : Cx}

/-! ### of a text alone -/
/-! ### of a text and a text -/
end

section
variable {X : Cx} {o e : Expr} {to te : TE}
end
end L2

namespace L2
open PySem PySem.Spec PyProof.Rows

section
variable {X : Cx}
end

/-! ### slices of a text -/
theorem IsPart.raw {v : Value} {o : Option Int} (p : IsPart v o) : ∃ l : Option (Int × Tok), v = partValue l ∧ l.map (·.1) = o := by
  cases p with
  | none => exact ⟨none, rfl, rfl⟩
  | int i t => exact ⟨some (i, t), rfl, rfl⟩

end L2

namespace Att
open PySem PySem.W PySem.Calls PyProof.Rows

/-! ### the script -/
/-! ### the attachment: holds_open's last premise (the goal 'hc' behind k_head) from a wpAny of the law's body -/
/-! ### rules over ANY heap (no ledger) from facts about the written part K: the library's own take a ledger (News) for what they write -/
section
variable {prog : Program} {w : World} {A : Around} {E : Value → Shared → Prop} {s : Shared} {K : Frag}

/-! the whole heap as the ledger: makes every rule that writes through a ledger a rule over any heap -/
end
end Att

namespace L2
open PySem PySem.Spec PyProof.Rows

end L2

namespace L2
open PySem PySem.Spec PyProof.Rows

abbrev KOf {K : PySem.W.Frag} {h : Heap} (_ : K.In h) : PySem.W.Frag := K

end L2

section
set_option Elab.async false
set_option linter.all false
set_option maxRecDepth 100000
set_option maxHeartbeats 2000000
namespace L2
open PySem PySem.Spec PyProof.Rows
open PySem.W (WData Codec OpenSpec Well WellAll ReadsW ReadsAllW)
/-! ### an answer as data -/
mutual
/-- x stands for the datum d, lists and tuples all the way -/
inductive Dw (K : PySem.W.Frag) (H : Hp) : V → WData → Prop
  | non : Dw K H .non .none
  | bl (b : Bool) : Dw K H (.bl b) (.bool b)
  | int (i : Int) : Dw K H (.int i) (.int i)
  | str (x : Str) : Dw K H (.str x) (.str x)
  | byt (b : Array UInt8) : Dw K H (.byt b) (.bytes b.toList)
  | lst {a : Addr} {xs : List V} {ds : List WData} : SqL K H a xs → DwAll K H xs ds → Dw K H (.ref a) (.list ds)
  | tup {a : Addr} {xs : List V} {ds : List WData} : SqT K H a xs → DwAll K H xs ds → Dw K H (.ref a) (.tuple ds)
inductive DwAll (K : PySem.W.Frag) (H : Hp) : List V → List WData → Prop
  | nil : DwAll K H [] []
  | cons {v : V} {vs : List V} {d : WData} {ds : List WData} : Dw K H v d → DwAll K H vs ds → DwAll K H (v :: vs) (d :: ds)
end
theorem dw_ints {K : PySem.W.Frag} {H : Hp} : ∀ ns : List Int, DwAll K H (ns.map V.int) (ns.map WData.int)
  | [] => .nil
  | n :: r => .cons (.int n) (dw_ints r)
theorem ints_dw {K : PySem.W.Frag} {H : Hp} : ∀ (ns : List Int) (xs : List V), DwAll K H xs (ns.map WData.int) → xs = ns.map V.int
  | [], xs, h => by
    cases h
    rfl
  | n :: r, xs, h => by
    cases h with
    | cons h1 h2 =>
      cases h1
      rw [ints_dw r _ h2] <;> rfl
section
variable {P : Program} {w : World} {K : PySem.W.Frag} {H : Hp} {h : Heap} {R : PySem.W.WRecords} {cl : Str → Option Addr}
theorem sqL_at {a : Addr} {xs : List V} (hok : HOk P w H h) (KX : K.In h) (q : SqL K H a xs) : ∃ (its : List Value) (o : Obj) (n : Nat), Vals xs its ∧ h.get? a = some o ∧ o.cls = .type "list" ∧ o.data = .seq its.toArray n := by
  rcases q with q | ⟨o, its, n, e, hc, _, hd, _, hv⟩
  · obtain ⟨_, its, n, hv, e⟩ := (show ObjOk P w H h a (.lst xs) from q.ok hok)
    exact ⟨its, _, n, hv, e, rfl, rfl⟩
  · exact ⟨its.toList, o, n, hv, KX _ _ e, hc, by simp [hd]⟩
theorem sqT_at {a : Addr} {xs : List V} (hok : HOk P w H h) (KX : K.In h) (q : SqT K H a xs) : ∃ (its : List Value) (o : Obj) (n : Nat), Vals xs its ∧ h.get? a = some o ∧ o.cls = .type "tuple" ∧ o.data = .seq its.toArray n := by
  rcases q with q | ⟨o, its, n, e, hc, hd, _, hv⟩
  · obtain ⟨_, its, hv, o, e, hc, n, hd⟩ := (show ObjOk P w H h a (.tup xs) from q.ok hok)
    exact ⟨its, o, n, hv, e, hc, hd⟩
  · exact ⟨its.toList, o, n, hv, KX _ _ e, hc, by simp [hd]⟩
mutual
theorem Dw.reads (hok : HOk P w H h) (KX : K.In h) : ∀ (d : WData) (v : V) (u : Value), Dw K H v d → RelV v u → ∃ as, ReadsW R cl h u d as
  | .none, _, _, x, r => by
    cases x
    cases r
    exact ⟨_, ReadsW.none⟩
  | .bool b, _, _, x, r => by
    cases x
    cases r
    exact ⟨_, ReadsW.bool b⟩
  | .int i, _, _, x, r => by
    cases x
    obtain ⟨t, rfl⟩ := r
    exact ⟨_, ReadsW.int i t⟩
  | .str s, _, _, x, r => by
    cases x
    obtain ⟨t, rfl⟩ := r
    exact ⟨_, ReadsW.str s t⟩
  | .bytes b, _, _, x, r => by
    cases x
    obtain ⟨t, rfl⟩ := r
    exact ⟨_, ReadsW.bytes _ t⟩
  | .list ds, _, _, x, r => by
    cases x with
    | lst hs ha =>
      cases r
      obtain ⟨its, o, n, rv, ho, hc, hd⟩ := sqL_at hok KX hs
      obtain ⟨as, hr⟩ := Dw.readsAll hok KX ds _ its ha rv
      exact ⟨_, ReadsW.list ho hc hd hr⟩
  | .tuple ds, _, _, x, r => by
    cases x with
    | tup hs ha =>
      cases r
      obtain ⟨its, o, n, rv, ho, hc, hd⟩ := sqT_at hok KX hs
      obtain ⟨as, hr⟩ := Dw.readsAll hok KX ds _ its ha rv
      exact ⟨_, ReadsW.tuple ho hc hd hr⟩
  | .float _, _, _, x, _ => by cases x
  | .dict _, _, _, x, _ => by cases x
  | .bytearray _, _, _, x, _ => by cases x
  | .set _, _, _, x, _ => by cases x
  | .frozenset _, _, _, x, _ => by cases x
  | .obj _ _, _, _, x, _ => by cases x
theorem Dw.readsAll (hok : HOk P w H h) (KX : K.In h) : ∀ (ds : List WData) (vs : List V) (us : List Value), DwAll K H vs ds → Vals vs us → ∃ as, ReadsAllW R cl h us ds as
  | [], _, _, x, r => by
    cases x
    cases r
    exact ⟨_, ReadsAllW.nil⟩
  | d :: ds, _, _, x, r => by
    cases x with
    | cons h1 h2 =>
      cases r with
      | cons r1 r2 =>
        obtain ⟨as, q1⟩ := Dw.reads hok KX d _ _ h1 r1
        obtain ⟨bs, q2⟩ := Dw.readsAll hok KX ds _ _ h2 r2
        exact ⟨_, ReadsAllW.cons q1 q2⟩
end
end
/-! ### the arguments -/
mutual
/-- data that a codec tells -/
def plW : WData → Bool
  | .none => true
  | .bool _ => true
  | .int _ => true
  | .str _ => true
  | .bytes _ => true
  | .list xs => plWs xs
  | .tuple xs => plWs xs
  | _ => false
def plWs : List WData → Bool
  | [] => true
  | x :: r => plW x && plWs r
end
theorem plWs_map {α : Type} {f : α → WData} (h : ∀ a, plW (f a) = true) : ∀ l : List α, plWs (l.map f) = true
  | [] => rfl
  | x :: r => by
    show (plW (f x) && plWs (r.map f)) = true
    rw [h x, plWs_map h r] <;> rfl
theorem pl_enc : ∀ (c : Codec) (a : c.denote), plW (c.enc a) = true
  | .unit, _ => rfl
  | .bool, _ => rfl
  | .int _ _, _ => rfl
  | .nat _ _, _ => rfl
  | .u8, _ => rfl
  | .bytes _ _, _ => rfl
  | .text _ _ _ _, _ => rfl
  | .list _ _ c, a => plWs_map (fun x => pl_enc c x) a
  | .pair c d, a => by
    show (plW (c.enc a.1) && (plW (d.enc a.2) && true)) = true
    rw [pl_enc c a.1, pl_enc d a.2] <;> rfl
  | .triple c d e, a => by
    show (plW (c.enc a.1) && (plW (d.enc a.2.1) && (plW (e.enc a.2.2) && true))) = true
    rw [pl_enc c a.1, pl_enc d a.2.1, pl_enc e a.2.2] <;> rfl
  | .option c, none => rfl
  | .option c, some x => pl_enc c x
theorem pl_encAll : ∀ (cs : List Codec) (a : Codec.denoteAll cs), plWs (Codec.encAll cs a) = true
  | [], _ => rfl
  | c :: cs, a => by
    show (plW (c.enc a.1) && plWs (Codec.encAll cs a.2)) = true
    rw [pl_enc c a.1, pl_encAll cs a.2] <;> rfl
theorem weight_mem : ∀ {xs : List WData} {d : WData}, d ∈ xs → d.weight ≤ WData.weightAll xs
  | [], d, h => absurd h (by simp)
  | x :: r, d, h => by
    show d.weight ≤ x.weight + 1 + WData.weightAll r
    rcases List.mem_cons.mp h with e | m
    · rw [e]
      omega
    · have z := weight_mem m
      omega
def toV : Value → V
  | .none => .non
  | .bool b => .bl b
  | .int i _ => .int i
  | .str x _ => .str x
  | .bytes b _ => .byt b
  | .ref a => .ref a
  | _ => .non
/-- a value of the arguments, its objects among A -/
def OkU (A : List Addr) : Value → Prop
  | .none => True
  | .bool _ => True
  | .int _ _ => True
  | .str _ _ => True
  | .bytes _ _ => True
  | .ref a => a ∈ A
  | _ => False
theorem OkU.mono {A B : List Addr} (h : ∀ a ∈ A, a ∈ B) : ∀ {u : Value}, OkU A u → OkU B u := fun {u} x => by
  cases u with
  | ref a => exact h a x
  | none => trivial
  | bool b => trivial
  | int i t => trivial
  | str s t => trivial
  | bytes b t => trivial
  | _ => exact False.elim x
theorem relV_toV {A : List Addr} {u : Value} (x : OkU A u) : RelV (toV u) u := by
  cases u with
  | ref a => rfl
  | none => rfl
  | bool b => rfl
  | int i t => exact ⟨t, rfl⟩
  | str s t => exact ⟨t, rfl⟩
  | bytes b t => exact ⟨t, rfl⟩
  | _ => exact False.elim x
theorem vals_toV {A : List Addr} : ∀ {vs : List Value}, (∀ u ∈ vs, OkU A u) → Vals (vs.map toV) vs
  | [], _ => .nil
  | u :: r, h => .cons (relV_toV (h u (List.mem_cons_self ..))) (vals_toV fun x hx => h x (List.mem_cons_of_mem _ hx))
/-- an object of the arguments -/
def ArgOb (h : Heap) (A : List Addr) (a : Addr) : Prop := ∃ vs : List Value, vs.length ≤ sizeLine ∧ (∀ u ∈ vs, OkU A u) ∧
  (h.get? a = some { cls := .type "list", data := .seq vs.toArray } ∨ h.get? a = some { cls := .type "tuple", data := .seq vs.toArray })
theorem ArgOb.mono {h : Heap} {A B : List Addr} {a : Addr} (k : ∀ a ∈ A, a ∈ B) (x : ArgOb h A a) : ArgOb h B a := by
  obtain ⟨vs, h1, h2, h3⟩ := x
  exact ⟨vs, h1, fun u hu => (h2 u hu).mono k, h3⟩
theorem wellAll_len {P : Params} {h : Heap} : ∀ {vs : List Value} {ds : List WData}, WellAll P h vs ds → vs.length = ds.length
  | _, _, .nil => rfl
  | _, _, .cons _ b => by
    show _ + 1 = _ + 1
    rw [wellAll_len b]
theorem well_list {P : Params} {h : Heap} {v : Value} {ds : List WData} (x : Well P h v (.list ds)) : ∃ (a : Addr) (vs : List Value), v = .ref a ∧ h.get? a = some { cls := .type "list", data := .seq vs.toArray } ∧ WellAll P h vs ds := by
  cases x with
  | list ho hall => exact ⟨_, _, rfl, ho, hall⟩
theorem well_tuple {P : Params} {h : Heap} {v : Value} {ds : List WData} (x : Well P h v (.tuple ds)) : ∃ (a : Addr) (vs : List Value), v = .ref a ∧ h.get? a = some { cls := .type "tuple", data := .seq vs.toArray } ∧ WellAll P h vs ds := by
  cases x with
  | tuple ho hall => exact ⟨_, _, rfl, ho, hall⟩
theorem well_cons {P : Params} {h : Heap} {us : List Value} {d : WData} {ds : List WData} (x : WellAll P h us (d :: ds)) : ∃ (v : Value) (vs : List Value), us = v :: vs ∧ Well P h v d ∧ WellAll P h vs ds := by
  cases x with
  | cons a b => exact ⟨_, _, rfl, a, b⟩
theorem line_of {n : Nat} (h : n ≤ 1048576) : n ≤ sizeLine := Nat.le_trans h (by decide)
section
variable {P : Params} {h : Heap}
mutual
theorem area_one : ∀ (d : WData) (v : Value), Well P h v d → plW d = true → d.weight ≤ 1048576 → ∃ A : List Addr, OkU A v ∧ ∀ a ∈ A, ArgOb h A a
  | .none, _, x, _, _ => by
    cases x
    exact ⟨[], trivial, fun a m => absurd m (by simp)⟩
  | .bool b, _, x, _, _ => by
    cases x
    exact ⟨[], trivial, fun a m => absurd m (by simp)⟩
  | .int i, _, x, _, _ => by
    cases x
    exact ⟨[], trivial, fun a m => absurd m (by simp)⟩
  | .str s, _, x, _, _ => by
    cases x
    exact ⟨[], trivial, fun a m => absurd m (by simp)⟩
  | .bytes b, _, x, _, _ => by
    cases x
    exact ⟨[], trivial, fun a m => absurd m (by simp)⟩
  | .list ds, _, x, p, z => by
    obtain ⟨a, vs, rfl, ho, hall⟩ := well_list x
    have z2 : WData.weightAll ds ≤ 1048576 := z
    obtain ⟨A, h1, h2⟩ := area_all ds _ hall p fun d hd => Nat.le_trans (weight_mem hd) z2
    have k : ∀ b ∈ A, b ∈ a :: A := fun b hb => List.mem_cons_of_mem _ hb
    refine ⟨a :: A, List.mem_cons_self .., fun b hb => ?_⟩
    rcases List.mem_cons.mp hb with e | m
    · rw [e]
      exact ⟨vs, line_of (by rw [wellAll_len hall]; exact Nat.le_trans (PySem.W.length_le_weightAllW ds) z2), fun u hu => (h1 u hu).mono k, .inl ho⟩
    · exact (h2 b m).mono k
  | .tuple ds, _, x, p, z => by
    obtain ⟨a, vs, rfl, ho, hall⟩ := well_tuple x
    have z2 : WData.weightAll ds ≤ 1048576 := z
    obtain ⟨A, h1, h2⟩ := area_all ds _ hall p fun d hd => Nat.le_trans (weight_mem hd) z2
    have k : ∀ b ∈ A, b ∈ a :: A := fun b hb => List.mem_cons_of_mem _ hb
    refine ⟨a :: A, List.mem_cons_self .., fun b hb => ?_⟩
    rcases List.mem_cons.mp hb with e | m
    · rw [e]
      exact ⟨vs, line_of (by rw [wellAll_len hall]; exact Nat.le_trans (PySem.W.length_le_weightAllW ds) z2), fun u hu => (h1 u hu).mono k, .inr ho⟩
    · exact (h2 b m).mono k
  | .float _, _, _, p, _ => Bool.noConfusion (show false = true from p)
  | .dict _, _, _, p, _ => Bool.noConfusion (show false = true from p)
  | .bytearray _, _, _, p, _ => Bool.noConfusion (show false = true from p)
  | .set _, _, _, p, _ => Bool.noConfusion (show false = true from p)
  | .frozenset _, _, _, p, _ => Bool.noConfusion (show false = true from p)
  | .obj _ _, _, _, p, _ => Bool.noConfusion (show false = true from p)
theorem area_all : ∀ (ds : List WData) (vs : List Value), WellAll P h vs ds → plWs ds = true → (∀ d ∈ ds, d.weight ≤ 1048576) → ∃ A : List Addr, (∀ u ∈ vs, OkU A u) ∧ ∀ a ∈ A, ArgOb h A a
  | [], _, x, _, _ => by
    cases x
    exact ⟨[], fun u m => absurd m (by simp), fun a m => absurd m (by simp)⟩
  | d :: ds, _, x, p, z => by
    obtain ⟨v, vs, rfl, x1, x2⟩ := well_cons x
    have q : plW d = true ∧ plWs ds = true := Bool.and_eq_true_iff.mp p
    obtain ⟨A, a1, a2⟩ := area_one d v x1 q.1 (z d (List.mem_cons_self ..))
    obtain ⟨B, b1, b2⟩ := area_all ds vs x2 q.2 fun e he => z e (List.mem_cons_of_mem _ he)
    have kA : ∀ b ∈ A, b ∈ A ++ B := fun b hb => List.mem_append.mpr (.inl hb)
    have kB : ∀ b ∈ B, b ∈ A ++ B := fun b hb => List.mem_append.mpr (.inr hb)
    refine ⟨A ++ B, fun u hu => ?_, fun b hb => ?_⟩
    · rcases List.mem_cons.mp hu with e | m
      · rw [e]
        exact a1.mono kA
      · exact (b1 u m).mono kB
    · rcases List.mem_append.mp hb with m | m
      · exact (a2 b m).mono kA
      · exact (b2 b m).mono kB
end
end
/-- what is tracked of an argument's object -/
def hoOf (o : Obj) : Option HO := match o.data with
  | .seq vs _ => if (o.cls == Value.type "list") = true then some (.frz o (.lst (vs.toList.map toV))) else some (.frz o (.tup (vs.toList.map toV)))
  | _ => none
def argH (K : PySem.W.Frag) (h : Heap) (A : List Addr) : Hp := fun b => if b ∈ A then (if (K.lookup b).isNone = true then (h.get? b).bind hoOf else none) else none
/-- nothing is tracked but what is known to the object -/
def OnlyF (H : Hp) : Prop := ∀ b, H b = none ∨ ∃ o u, H b = some (.frz o u)
theorem hoOf_lst (vs : List Value) : hoOf { cls := .type "list", data := .seq vs.toArray } = some (.frz { cls := .type "list", data := .seq vs.toArray } (.lst (vs.map toV))) := by
  show (if (Value.type "list" == Value.type "list") = true then some (HO.frz { cls := .type "list", data := .seq vs.toArray } (.lst (vs.toArray.toList.map toV))) else some (HO.frz { cls := .type "list", data := .seq vs.toArray } (.tup (vs.toArray.toList.map toV)))) = _
  rw [if_pos (beq_self_eq_true _)]
theorem hoOf_tup (vs : List Value) : hoOf { cls := .type "tuple", data := .seq vs.toArray } = some (.frz { cls := .type "tuple", data := .seq vs.toArray } (.tup (vs.map toV))) := by
  show (if (Value.type "tuple" == Value.type "list") = true then some (HO.frz { cls := .type "tuple", data := .seq vs.toArray } (.lst (vs.toArray.toList.map toV))) else some (HO.frz { cls := .type "tuple", data := .seq vs.toArray } (.tup (vs.toArray.toList.map toV)))) = _
  rw [if_neg (by decide)]
section
variable {P : Program} {w : World} {K : PySem.W.Frag} {h : Heap} {A : List Addr}
theorem argH_at {b : Addr} {o : Obj} (hb : b ∈ A) (hk : K.lookup b = none) (e : h.get? b = some o) : argH K h A b = hoOf o := by
  unfold argH
  rw [if_pos hb, hk, if_pos (show (none : Option Obj).isNone = true from rfl), e] <;> rfl
theorem of_argH {b : Addr} {u : HO} (q : argH K h A b = some u) : b ∈ A ∧ K.lookup b = none := by
  unfold argH at q
  by_cases hb : b ∈ A
  · rw [if_pos hb] at q
    cases hk : K.lookup b with
    | none => exact ⟨hb, rfl⟩
    | some o =>
      rw [hk, if_neg (by simp)] at q
      cases q
  · rw [if_neg hb] at q
    cases q
/-- what stands tracked -/
theorem argH_is (ar : ∀ a ∈ A, ArgOb h A a) {b : Addr} {u : HO} (q : argH K h A b = some u) : K.lookup b = none ∧ ∃ vs : List Value, vs.length ≤ sizeLine ∧ (∀ u ∈ vs, OkU A u) ∧
    ((h.get? b = some { cls := .type "list", data := .seq vs.toArray } ∧ u = .frz { cls := .type "list", data := .seq vs.toArray } (.lst (vs.map toV))) ∨
     (h.get? b = some { cls := .type "tuple", data := .seq vs.toArray } ∧ u = .frz { cls := .type "tuple", data := .seq vs.toArray } (.tup (vs.map toV)))) := by
  obtain ⟨hb, hk⟩ := of_argH q
  obtain ⟨vs, h1, h2, h3⟩ := ar b hb
  refine ⟨hk, vs, h1, h2, ?_⟩
  rcases h3 with e | e
  · rw [argH_at hb hk e, hoOf_lst] at q
    exact .inl ⟨e, (Option.some.inj q).symm⟩
  · rw [argH_at hb hk e, hoOf_tup] at q
    exact .inr ⟨e, (Option.some.inj q).symm⟩
theorem argH_only (ar : ∀ a ∈ A, ArgOb h A a) : OnlyF (argH K h A) := fun b => by
  cases q : argH K h A b with
  | none => exact .inl rfl
  | some u =>
    obtain ⟨_, vs, _, _, ⟨_, e⟩ | ⟨_, e⟩⟩ := argH_is ar q
    · exact .inr ⟨_, _, by rw [e]⟩
    · exact .inr ⟨_, _, by rw [e]⟩
theorem argH_ok (ar : ∀ a ∈ A, ArgOb h A a) : HOk P w (argH K h A) h := fun b u q => by
  obtain ⟨_, vs, h1, h2, ⟨e, rfl⟩ | ⟨e, rfl⟩⟩ := argH_is ar q
  · exact ⟨e, by rw [List.length_map]; exact h1, vs, _, vals_toV h2, e⟩
  · exact ⟨e, by rw [List.length_map]; exact h1, vs, vals_toV h2, _, e, rfl, _, rfl⟩
theorem seq_inj {c c' : Value} {vs us : List Value} (e : (some { cls := c, data := .seq vs.toArray } : Option Obj) = some { cls := c', data := .seq us.toArray }) : c = c' ∧ vs = us := by
  have e1 := Option.some.inj e
  have e2 : c = c' := congrArg Obj.cls e1
  have e3 : Data.seq vs.toArray = Data.seq us.toArray := congrArg Obj.data e1
  injection e3 with e4
  refine ⟨e2, ?_⟩
  have e5 := congrArg Array.toList e4
  simpa using e5
/-- a list argument -/
theorem argL (KX : K.In h) (ar : ∀ a ∈ A, ArgOb h A a) {a : Addr} {vs : List Value} (ha : a ∈ A) (e : h.get? a = some { cls := .type "list", data := .seq vs.toArray }) : (∀ u ∈ vs, OkU A u) ∧ SqL K (argH K h A) a (vs.map toV) := by
  obtain ⟨us, h1, h2, h3⟩ := ar a ha
  have hu : us = vs := by
    rcases h3 with q | q
    · rw [e] at q
      exact (seq_inj q).2.symm
    · rw [e] at q
      exact absurd (Value.type.inj (seq_inj q).1) (by decide)
  subst hu
  refine ⟨h2, ?_⟩
  cases hk : K.lookup a with
  | none => exact .inl (.inr ⟨_, by rw [argH_at ha hk e, hoOf_lst]⟩)
  | some o =>
    have e2 := KX a o hk
    rw [e] at e2
    obtain rfl := Option.some.inj e2
    exact .inr ⟨_, us.toArray, _, hk, rfl, rfl, rfl, by rw [List.size_toArray]; exact h1, by simpa using vals_toV h2⟩
theorem argT (KX : K.In h) (ar : ∀ a ∈ A, ArgOb h A a) {a : Addr} {vs : List Value} (ha : a ∈ A) (e : h.get? a = some { cls := .type "tuple", data := .seq vs.toArray }) : (∀ u ∈ vs, OkU A u) ∧ SqT K (argH K h A) a (vs.map toV) := by
  obtain ⟨us, h1, h2, h3⟩ := ar a ha
  have hu : us = vs := by
    rcases h3 with q | q
    · rw [e] at q
      exact absurd (Value.type.inj (seq_inj q).1) (by decide)
    · rw [e] at q
      exact (seq_inj q).2.symm
  subst hu
  refine ⟨h2, ?_⟩
  cases hk : K.lookup a with
  | none => exact .inl (.inr ⟨_, by rw [argH_at ha hk e, hoOf_tup]⟩)
  | some o =>
    have e2 := KX a o hk
    rw [e] at e2
    obtain rfl := Option.some.inj e2
    exact .inr ⟨_, us.toArray, _, hk, rfl, rfl, by rw [List.size_toArray]; exact h1, by simpa using vals_toV h2⟩
mutual
theorem dw_one {Pm : Params} (KX : K.In h) (ar : ∀ a ∈ A, ArgOb h A a) : ∀ (d : WData) (v : Value), Well Pm h v d → plW d = true → OkU A v → Dw K (argH K h A) (toV v) d
  | .none, _, x, _, _ => by
    cases x
    exact .non
  | .bool b, _, x, _, _ => by
    cases x
    exact .bl b
  | .int i, _, x, _, _ => by
    cases x
    exact .int i
  | .str s, _, x, _, _ => by
    cases x
    exact .str s
  | .bytes b, _, x, _, _ => by
    cases x
    have z := Dw.byt (K := K) (H := argH K h A) b.toArray
    exact z
  | .list ds, _, x, p, hu => by
    obtain ⟨a, vs, rfl, ho, hall⟩ := well_list x
    obtain ⟨h2, hs⟩ := argL KX ar hu ho
    exact .lst hs (dw_all KX ar ds _ hall p h2)
  | .tuple ds, _, x, p, hu => by
    obtain ⟨a, vs, rfl, ho, hall⟩ := well_tuple x
    obtain ⟨h2, hs⟩ := argT KX ar hu ho
    exact .tup hs (dw_all KX ar ds _ hall p h2)
  | .float _, _, _, p, _ => Bool.noConfusion (show false = true from p)
  | .dict _, _, _, p, _ => Bool.noConfusion (show false = true from p)
  | .bytearray _, _, _, p, _ => Bool.noConfusion (show false = true from p)
  | .set _, _, _, p, _ => Bool.noConfusion (show false = true from p)
  | .frozenset _, _, _, p, _ => Bool.noConfusion (show false = true from p)
  | .obj _ _, _, _, p, _ => Bool.noConfusion (show false = true from p)
theorem dw_all {Pm : Params} (KX : K.In h) (ar : ∀ a ∈ A, ArgOb h A a) : ∀ (ds : List WData) (vs : List Value), WellAll Pm h vs ds → plWs ds = true → (∀ u ∈ vs, OkU A u) → DwAll K (argH K h A) (vs.map toV) ds
  | [], _, x, _, _ => by
    cases x
    exact .nil
  | d :: ds, _, x, p, hu => by
    obtain ⟨v, vs, rfl, x1, x2⟩ := well_cons x
    have q : plW d = true ∧ plWs ds = true := Bool.and_eq_true_iff.mp p
    exact .cons (dw_one KX ar d v x1 q.1 (hu _ (List.mem_cons_self ..))) (dw_all KX ar ds vs x2 q.2 fun u m => hu u (List.mem_cons_of_mem _ m))
end
end
/-! ### the call -/
theorem spec_call {P : Program} {w : World} {K : PySem.W.Frag} {mg mb : Str → Option Value} {CX : CXT} {k : Nat} {fa : Addr} {fd : FuncData} {ps : List Str} {sp : Sp} {s₁ : Shared} {vals : List Value} {ds : List WData} {R : PySem.W.WRecords} {cl : Str → Option Addr} {d0 : WData}
    (KX : K.In s₁.heap) (hns : s₁.heap.Ns mainGlobals mg) (hb : s₁.heap.Ns builtinsNs mb) (hbb : ∀ x : Str, x ≠ "__name__" → mb x = bootBuiltins x) (hlim : s₁.heap.NoLimit) (hg : s₁.gens = #[])
    (hwl : WellAll w.params s₁.heap vals ds) (hpl : plWs ds = true) (hwt : ∀ d ∈ ds, d.weight ≤ 1048576) (hr : Room k callerA)
    (F : ∀ base : Heap, K.In base → base.Ns mainGlobals mg → FnOk P w K mg base CX k fa fd ps sp) (hbind : ∀ (s : Shared) (us : List Value), us.length = ps.length → BindsTo s fd ⟨us, []⟩ (ps.zip us)) (hlen : ds.length = ps.length)
    (hsp : ∀ (H : Hp) (xs : List V), OnlyF H → DwAll K H xs ds → sp xs H (fun v H' => Dw K H' v d0) fun _ _ _ => False)
    (hCX : ∀ H e s', CX [] H s₁ (fun _ _ _ => False) e s' → False) :
    codeAny (model P w) callerA (.call (.ref fa) ⟨vals, []⟩) (fun r s' => ∃ u as, r = .ok (.ret u) ∧ ReadsW R cl s'.heap u d0 as ∧ OldK s₁.heap s'.heap ∧ s'.os = s₁.os ∧ AllBare s'.gens) s₁ := by
  obtain ⟨A, ho, ar⟩ := area_all ds vals hwl hpl hwt
  have hO : OnlyF (argH K s₁.heap A) := argH_only ar
  have hok : HOk P w (argH K s₁.heap A) s₁.heap := argH_ok ar
  have hS := dw_all KX ar ds vals hwl hpl ho
  have hV := vals_toV ho
  have hK : ∀ b u, argH K s₁.heap A b = some u → K.lookup b = none := fun b u q => (argH_is ar q).1
  have noA : ∀ {b : Addr} {o : Obj} {es : Array DictEntry} {ep : Nat}, s₁.heap.get? b = some o → o.data = .dict es ep → argH K s₁.heap A b = none := fun {b o es ep} e d => by
    cases q : argH K s₁.heap A b with
    | none => rfl
    | some u =>
      obtain ⟨_, vs, _, _, ⟨e2, _⟩ | ⟨e2, _⟩⟩ := argH_is ar q
      · rw [e2] at e
        cases e
        have d' : Data.seq vs.toArray _ = Data.dict es ep := d
        cases d'
      · rw [e2] at e
        cases e
        have d' : Data.seq vs.toArray _ = Data.dict es ep := d
        cases d'
  generalize argH K s₁.heap A = H at hO hok hS hK noA
  have base_of : ∀ {b : Addr} {o : Obj}, s₁.heap.get? b = some o → H b = none → (hidT s₁.heap H).get? b = some o := fun e n => hidT_get e n
  have nsK : ∀ {b : Addr} {m : Str → Option Value}, s₁.heap.Ns b m → (hidT s₁.heap H).Ns b m := fun {b m} ⟨o, es, ep, e, d, r⟩ => ⟨o, es, ep, base_of e (noA e d), d, r⟩
  have nK : ∀ b o, K.lookup b = some o → H b = none := fun b o e => by
    cases q : H b with
    | none => rfl
    | some u =>
      rw [hK b u q] at e
      cases e
  have hKb : K.In (hidT s₁.heap H) := fun b o e => base_of (KX b o e) (nK b o e)
  have hM : Mod K mg (hidT s₁.heap H) := ⟨hKb, nsK hns, ⟨mb, nsK hb, hbb⟩, let ⟨mc, h1, h2⟩ := hlim; ⟨mc, nsK h1, h2⟩⟩
  have e0 : Env0 P w K mg (hidT s₁.heap H) callerA [] s₁ H := ⟨rfl, hM, fun b o e => of_hidT e, Nat.le_of_eq (hidT_size _ _), trivial, fun b hb => absurd (show b ∈ ([] : List Addr) from hb) (by simp), hok, .of_eq hg⟩
  have hl : vals.length = ps.length := by rw [wellAll_len hwl]; exact hlen
  refine codeAny_mono ((F _ hKb (nsK hns)).run callerA [] s₁ H ⟨vals, []⟩ vals (vals.map toV) _ _ hr e0 (hbind s₁ vals hl) hV (hsp H _ hO hS)) fun r s' x => ?_
  cases r with
  | error e => exact (hCX H e s' x).elim
  | ok fl =>
    cases fl with
    | next => exact False.elim x
    | brk => exact False.elim x
    | cont => exact False.elim x
    | ret u =>
      obtain ⟨v, H', os, bare, un, hok', r', q⟩ := x
      have kept : ∀ b o, s₁.heap.get? b = some o → s'.heap.get? b = some o := fun b o e => by
        cases q2 : H b with
        | none => exact un.keep b o e q2 (by intro z; exact absurd (show b ∈ ([] : List Addr) from z) (by simp)) (by simp)
        | some u2 =>
          rcases hO b with z | ⟨ob, u3, z⟩
          · rw [q2] at z
            cases z
          · have z2 := un.frzs b ob _ z
            obtain ⟨e1, _⟩ := hok b _ z
            obtain ⟨e2, _⟩ := hok' b _ z2
            rw [e] at e1
            cases e1
            exact e2
      have KX' : K.In s'.heap := fun b o e => kept b o (KX b o e)
      obtain ⟨as, hrd⟩ := Dw.reads (R := R) (cl := cl) hok' KX' d0 v u q r'
      exact ⟨u, as, rfl, hrd, OldK.of_keep kept, os, bare⟩
/-! ### the row -/
theorem layable_weight {ds : List WData} (h : WData.layableAll ds = true) : ∀ d ∈ ds, d.weight ≤ 1048576 := fun d hd =>
  (PySem.W.layableW_iff.mp (List.all_eq_true.mp h d hd)).2.2
theorem encAll_len : ∀ (cs : List Codec) (a : Codec.denoteAll cs), (Codec.encAll cs a).length = cs.length
  | [], _ => rfl
  | c :: cs, a => by
    show (Codec.encAll cs a.2).length + 1 = cs.length + 1
    rw [encAll_len cs a.2]
/-- the goal that k_headS leaves (case hc), from the promise of the row's def: whatever the arguments that the codecs let and the row asks for, the def gives what stands for enc (f ..) -/
theorem walk_spec {r : OpenSpec} {k : Nat} {q : Program} {loose : List Str} {XP : (Str → Option Value) → Heap → Prop} {YP : World → Heap → Prop} {d : DefRec} {K : Params → PySem.W.Frag} {CX : World → CXT} {ps : List Str} {sp : World → Sp}
    (hwell : r.wellSaid = true) (hdf : d.params.defaults = []) (hlen : r.args.length = ps.length) (hr : Room k callerA)
    (hY : ∀ (w : World) (h : Heap), YP w h → (K w.params).In h)
    (F : ∀ (w : World) (mg : Str → Option Value) (fa : Addr) (h : Heap), YP w h → (K w.params).In h → h.Ns mainGlobals mg → mg d.name = some (.ref fa) →
      ∃ fd : FuncData, (∀ (s : Shared) (us : List Value), us.length = ps.length → BindsTo s fd ⟨us, []⟩ (ps.zip us)) ∧
        ∀ base : Heap, (K w.params).In base → base.Ns mainGlobals mg → FnOk r.prog w (K w.params) mg base (CX w) k fa fd ps (sp w))
    (hsp : ∀ (w : World) (H : Hp) (xs : List V) (a : Codec.denoteAll r.args), OnlyF H → Codec.withinAll r.args a = true → Codec.app r.args r.asked a = true → DwAll (K w.params) H xs (Codec.encAll r.args a) →
      sp w xs H (fun v H' => Dw (K w.params) H' v (r.ret.enc (Codec.app r.args r.f a))) fun _ _ _ => False)
    (hCX : ∀ (w : World) (H : Hp) (s : Shared) (e : Value) (s' : Shared), CX w [] H s (fun _ _ _ => False) e s' → False) :
    PySem.W.WalkOS q loose XP YP r d [] (fun f vs => PySem.call f vs) := by
  intro w s_0 s₁ mg mb G Y fa o pm cd doc dV kV ho hd hcd hD hmg hg args vals as hpre hlay hrd hwl hlo
  obtain ⟨a, e1, e2⟩ := PySem.W.os_pre_some hpre
  obtain ⟨e3, hwi⟩ := Codec.encAll_of_decAll r.args args a e1
  subst e3
  have KX := hY w _ Y
  obtain ⟨fd, hb, hF⟩ := F w mg fa _ Y KX G.T.g hmg
  refine PySem.W.enter_call (codeAny_mono (spec_call (R := []) (cl := classAt s_0.heap) (d0 := r.ret.enc (Codec.app r.args r.f a)) KX G.T.g G.T.b G.T.builtins G.T.nolimit hg hwl (pl_encAll _ _) (layable_weight hlay) hr hF hb (by rw [encAll_len]; exact hlen)
    (fun H xs hO hS => hsp w H xs a hO hwi e2 hS) fun H e s' => hCX w H s₁ e s') fun r' s' hq => ?_)
  obtain ⟨u, as', rfl, h1, h2, h3, h4⟩ := hq
  exact ⟨.inl ⟨u, _, as', rfl, fun _ => rfl, h1, (OpenSpec.post_iff hwell hwi _ _).mpr rfl, fun z => Bool.noConfusion (show false = true from z)⟩, h2, h3, h4⟩
/-- the same where the promise hangs on the written part alone -/
theorem walk_specK {r : OpenSpec} {k : Nat} {q : Program} {loose : List Str} {XP : (Str → Option Value) → Heap → Prop} {YP : World → Heap → Prop} {d : DefRec} {K : Params → PySem.W.Frag} {CX : CXT} {ps : List Str} {sp : PySem.W.Frag → Sp}
    (hwell : r.wellSaid = true) (hdf : d.params.defaults = []) (hlen : r.args.length = ps.length) (hr : Room k callerA)
    (hY : ∀ (w : World) (h : Heap), YP w h → (K w.params).In h)
    (F : ∀ (w : World) (mg : Str → Option Value) (fa : Addr) (h : Heap), YP w h → (K w.params).In h → h.Ns mainGlobals mg → mg d.name = some (.ref fa) →
      ∃ fd : FuncData, (∀ (s : Shared) (us : List Value), us.length = ps.length → BindsTo s fd ⟨us, []⟩ (ps.zip us)) ∧
        ∀ base : Heap, (K w.params).In base → base.Ns mainGlobals mg → FnOk r.prog w (K w.params) mg base CX k fa fd ps (sp (K w.params)))
    (hsp : ∀ (K : PySem.W.Frag) (H : Hp) (xs : List V) (a : Codec.denoteAll r.args), OnlyF H → Codec.withinAll r.args a = true → Codec.app r.args r.asked a = true → DwAll K H xs (Codec.encAll r.args a) →
      sp K xs H (fun v H' => Dw K H' v (r.ret.enc (Codec.app r.args r.f a))) fun _ _ _ => False)
    (hCX : ∀ (H : Hp) (s : Shared) (e : Value) (s' : Shared), CX [] H s (fun _ _ _ => False) e s' → False) :
    PySem.W.WalkOS q loose XP YP r d [] (fun f vs => PySem.call f vs) :=
  walk_spec (K := K) (CX := fun _ => CX) (sp := fun w => sp (K w.params)) hwell hdf hlen hr hY F (fun w H xs a h1 h2 h3 h4 => hsp (K w.params) H xs a h1 h2 h3 h4) fun _ H s e s' => hCX H s e s'
end L2
end

/-! SHORT WORDS over the layer: a def of the text, its body, what a loop and a test want. -/
namespace L2
open PySem PySem.Spec PyProof.Rows

/-! ### the text by places -/
/-- the j-th statement of a class's body -/
def inClass (s : Stmt) (j : Nat) : Stmt := match s with
  | .ClassDef _ _ _ body _ _ _ _ _ _ _ => body.getD j (.Pass ⟨0, 0, 0, 0⟩)
  | _ => .Pass ⟨0, 0, 0, 0⟩
def defArgs (s : Stmt) : Arguments := match s with
  | .FunctionDef _ a _ _ _ _ _ _ _ _ => a
  | _ => { posonlyargs := [], args := [], vararg := none, kwonlyargs := [], kw_defaults := [], kwarg := none, defaults := [] }
def defBody (s : Stmt) : List Stmt := match s with
  | .FunctionDef _ _ b _ _ _ _ _ _ _ => b
  | _ => []
def defScope (s : Stmt) : Scope := match s with
  | .FunctionDef _ _ _ _ _ _ sc _ _ _ => sc
  | _ => { kind := .function, names := [], isGenerator := false, isCoroutine := false }

/-! ### no exception leaves a def -/
abbrev CX0 : CXT := fun _ _ _ _ _ _ => False
abbrev E0 : XK := fun _ _ _ => False
theorem pass0 {X : Cx} : Passes CX0 X E0 := fun _ _ _ _ _ _ _ h => h.elim

/-! ### a def (or method) of the text as it stands behind the top -/
structure Fun (K : PySem.W.Frag) (x qual : Str) (st : Stmt) (f : Addr) (fd : FuncData) : Prop where
  ex : ∃ (oc : Value) (od : Option Addr) (kV doc pm : Value) (an : Option Addr) (cdv ct : Value) (osl : Array (Option Value)),
    fd = PySem.W.fnOf x qual (defArgs st) (defBody st) (defScope st) .none kV doc pm an cdv ct ∧ K.lookup f = some ⟨oc, od, .func fd, osl⟩ ∧ PySem.W.codeIn K cdv qual = true
  kp : PySem.W.keepIn K (.ref f) = true
section
variable {P : Program} {w : World} {K : PySem.W.Frag} {mg : Str → Option Value} {base : Heap}
/-- THE RULE for a def: its body as a term of rules, and the reading of that term -/
theorem Fun.ok {x qual : Str} {st : Stmt} {f : Addr} {fd : FuncData} {N ps : List Str} {k : Nat} {sp : Sp} (F : Fun K x qual st f fd) (S : FnScope N ps (defScope st)) (len : ∀ vs H Q E, sp vs H Q E → vs.length = ps.length)
    (hbody : ∀ (cdv : Value) (A : Around) (outer : List Env) (s : Shared) (H : Hp) (vs : List V) (Q : VK) (E : XK), Room k (A.deeper (envOfC qual (defScope st) s.heap.objs.size f cdv)) → sp vs H Q E →
      ∃ t, PSs (cxOf CX0 P w K mg base N qual (defScope st) f cdv A outer s H E).nox (defBody st) t ∧ t { nx := fun _ H' => Q .non H', rt := Q } (start N vs) H) : FnOk P w K mg base CX0 (k + 1) f fd ps sp := by
  obtain ⟨oc, od, kV, doc, pm, an, cdv, ct, osl, rfl, lk, hcd⟩ := F.ex
  refine fn_of lk hcd S len fun A outer s H vs Q E hr hsp => ?_
  obtain ⟨t, h, q⟩ := hbody cdv A outer s H vs Q E hr hsp
  exact ⟨t, h.nox, q⟩
/-- how its arguments bind (no defaults): h is «fun _ _ _ _ _ _ us hl => match us, hl with | [_, _], _ => rfl», one _ a parameter -/
theorem Fun.binds {x qual : Str} {st : Stmt} {f : Addr} {fd : FuncData} {ps : List Str} (F : Fun K x qual st f fd)
    (h : ∀ (kV doc pm : Value) (an : Option Addr) (cdv ct : Value) (us : List Value), us.length = ps.length → bindArgs (PySem.W.fnOf x qual (defArgs st) (defBody st) (defScope st) .none kV doc pm an cdv ct) ⟨us, []⟩ = pure (ps.zip us)) : Binds K fd ps [] := by
  obtain ⟨oc, od, kV, doc, pm, an, cdv, ct, osl, rfl, lk, hcd⟩ := F.ex
  exact .all (h kV doc pm an cdv ct)
theorem fun_mk {x qual : Str} {st : Stmt} {f : Addr} {oc : Value} {od an : Option Addr} {osl : Array (Option Value)} {kV doc pm cdv ct : Value} (l : K.lookup f = some ⟨oc, od, .func (PySem.W.fnOf x qual (defArgs st) (defBody st) (defScope st) .none kV doc pm an cdv ct), osl⟩)
    (c : PySem.W.codeIn K cdv qual = true) (k : PySem.W.keepIn K (.ref f) = true) : Fun K x qual st f (PySem.W.fnOf x qual (defArgs st) (defBody st) (defScope st) .none kV doc pm an cdv ct) := ⟨⟨oc, od, kV, doc, pm, an, cdv, ct, osl, rfl, l, c⟩, k⟩
end
theorem hu_of {A : Around} {k : Nat} (hr : Room k A) : A.units + 1 < cLine := Nat.lt_of_le_of_lt (Nat.add_le_add_left (by decide : 1 ≤ 64) _) hr.units
theorem small1000 {n : Nat} (h : n ≤ 1000) : n < sizeLine := Nat.lt_of_le_of_lt h (by decide)

/-! ### expressions in short: the name that stands in the i-th slot -/
section
variable {X : Cx}
theorem pv (i : Nat) {x : Str} {pos : Pos} (hN : X.N[i]? = some x := by rfl) (hv : Vis X.env.scope x := by first | exact Or.inl rfl | exact Or.inr (Or.inl rfl) | exact Or.inr (Or.inr rfl)) (hd : (x == ("__debug__" : Str)) = false := by decide)
    (hcd : (x == ("__classdict__" : Str)) = false := by decide) : PE X (.Name x pos) (tVar i) := pe_var hN hv hd hcd
end

/-! ### tests -/
theorem iteF {A B : Prop} (h : B) : if false = true then A else B := by
  rw [if_neg Bool.false_ne_true]
  exact h
theorem iteT {A B : Prop} (h : A) : if true = true then A else B := by
  rw [if_pos rfl]
  exact h
theorem ite2 {c A B : Prop} [Decidable c] (h1 : c → A) (h2 : ¬ c → B) : if c then A else B := by
  by_cases h : c
  · rw [if_pos h]
    exact h1 h
  · rw [if_neg h]
    exact h2 h
theorem iteNS {c A B : Prop} [Decidable c] (hc : c) (h : B) : if (!decide c) = true then A else B := by
  rw [decide_eq_true hc]
  exact iteF h

/-! ### heaps -/
/-- all that was tracked is as it was -/
def Same (H H' : Hp) : Prop := ∀ b o, H b = some o → H' b = some o
theorem Same.refl (H : Hp) : Same H H := fun _ _ h => h
theorem Same.trans {H H1 H2 : Hp} (a : Same H H1) (b : Same H1 H2) : Same H H2 := fun c o h => b c o (a c o h)
theorem Same.free {H H' : Hp} (e : Same H H') {l : Addr} (h : H' l = Option.none) : H l = Option.none := by
  cases q : H l with
  | none => rfl
  | some o =>
    rw [e l o q] at h
    cases h
theorem Same.seq {K : PySem.W.Frag} {H H' : Hp} {a : Addr} {xs : List V} (e : Same H H') (h : SqL K H a xs) : SqL K H' a xs := by
  rcases h with (h | ⟨o, h⟩) | h
  · exact .inl (.inl (e _ _ h))
  · exact .inl (.inr ⟨o, e _ _ h⟩)
  · exact .inr h

/-! ### a dict's pairs: keys that differ -/
section
variable {κ : Type} [DecidableEq κ]
end
/-! ### lists -/
theorem at_of {xs : List V} {z : Int} {j : Nat} {v : V} (e : z = (j : Int)) (h : xs[j]? = some v) : atI xs z = some v := by
  rw [e]
  exact atI_nat h
/-- a new instance and its __init__ leave all that was tracked as it was -/
theorem Same.made {H H1 : Hp} {x dx C : Addr} (nx : H x = Option.none) (nd : H dx = Option.none) (k : ∀ b o, (upd (upd H dx (.own x)) x (.ins C dx [])) b = some o → b ≠ x → H1 b = some o) : Same H H1 := fun b o e =>
  k b o (by rw [upd_ne (ne_of_none e nx), upd_ne (ne_of_none e nd)]; exact e) (ne_of_none e nx)
end L2


/-! The days of the specification, told without its enumeration: which rows they are, and that none stands twice. -/
namespace Rb
open Sj09

theorem getD_set (l : List Nat) (i k j : Nat) : (l.set i k).getD j 0 = if i = j ∧ j < l.length then k else l.getD j 0 := by
  rw [List.getD_eq_getElem?_getD, List.getD_eq_getElem?_getD, List.getElem?_set]
  by_cases h : i = j
  · subst h
    by_cases h2 : i < l.length
    · simp [h2]
    · simp [h2]
  · simp [h]

theorem ext_getD {l d : List Nat} (h : l.length = d.length) (e : ∀ i, i < l.length → l.getD i 0 = d.getD i 0) : l = d := by
  apply List.ext_getElem h
  intro i h1 h2
  have := e i h1
  rw [List.getD_eq_getElem?_getD, List.getD_eq_getElem?_getD, List.getElem?_eq_getElem h1, List.getElem?_eq_getElem h2] at this
  simpa using this

theorem apart_comm (a b : Nat) : apart a b = apart b a := by unfold apart; omega
theorem may_comm (b : Basho) (i k : Nat) : b.may i k = b.may k i := by
  unfold Basho.may
  have e1 : (i != k) = (k != i) := by
    by_cases h : i = k
    · subst h; rfl
    · have h' : ¬ k = i := fun q => h q.symm
      simp [bne, beq_eq_false_iff_ne.mpr h, beq_eq_false_iff_ne.mpr h']
  have e2 : ((b.of_ i).stable != (b.of_ k).stable) = ((b.of_ k).stable != (b.of_ i).stable) := by
    by_cases h : (b.of_ i).stable = (b.of_ k).stable
    · rw [h]
    · have h' : ¬ (b.of_ k).stable = (b.of_ i).stable := fun q => h q.symm
      simp [bne, beq_eq_false_iff_ne.mpr h, beq_eq_false_iff_ne.mpr h']
  rw [e1, e2, Bool.or_comm]
theorem far_comm (b : Basho) (i k : Nat) : b.far i k = b.far k i := by
  unfold Basho.far
  rw [apart_comm i k, apart_comm (b.of_ i).wins]
theorem may_irr (b : Basho) (i : Nat) : b.may i i = false := by
  unfold Basho.may
  simp

/-- d goes on from l, among those who are left -/
structure Ext (b : Basho) (left l d : List Nat) : Prop where
  len : d.length = l.length
  out : ∀ i, i < l.length → ¬ i ∈ left → d.getD i 0 = l.getD i 0
  «in» : ∀ i, i ∈ left → d.getD i 0 ∈ left ∧ d.getD (d.getD i 0) 0 = i ∧ (d.getD i 0 = i ∨ b.may i (d.getD i 0) = true)

theorem ext_nil (b : Basho) (l d : List Nat) : Ext b [] l d ↔ d = l := by
  constructor
  · intro h
    exact ext_getD h.len fun i hi => h.out i (by rw [← h.len]; exact hi) (by simp)
  · rintro rfl
    exact ⟨rfl, fun _ _ _ => rfl, fun i hi => by simp at hi⟩

theorem mem_without {r : List Nat} {k j : Nat} : j ∈ (r.filter fun x => x != k) ↔ j ∈ r ∧ j ≠ k := by
  rw [List.mem_filter]
  simp

theorem days_iff (b : Basho) : ∀ (n : Nat) (left l d : List Nat), left.length ≤ n → left.Nodup → (∀ i ∈ left, i < l.length ∧ l.getD i 0 = i) →
    (d ∈ b.days n left l ↔ Ext b left l d) := by
  intro n
  induction n with
  | zero =>
    intro left l d hn _ _
    have : left = [] := List.length_eq_zero_iff.mp (Nat.le_zero.mp hn)
    subst this
    rw [ext_nil]
    simp [Basho.days]
  | succ n ih =>
    intro left l d hn hd hl
    match left, hn, hd, hl with
    | [], _, _, _ =>
      rw [ext_nil]
      simp [Basho.days]
    | i :: r, hn, hd, hl =>
      have hir : ¬ i ∈ r := (List.nodup_cons.mp hd).1
      have hr : r.Nodup := (List.nodup_cons.mp hd).2
      have hli := hl i (by simp)
      have hrl : ∀ j ∈ r, j < l.length ∧ l.getD j 0 = j := fun j hj => hl j (List.mem_cons_of_mem _ hj)
      have hlen : r.length ≤ n := by simp at hn; omega
      have step1 := ih r l d hlen hr hrl
      have step2 : ∀ k, k ∈ r → (d ∈ b.days n (r.filter fun x => x != k) ((l.set i k).set k i) ↔ Ext b (r.filter fun x => x != k) ((l.set i k).set k i) d) := by
        intro k hk
        refine ih _ _ _ (Nat.le_trans (List.length_filter_le _ _) hlen) (List.Nodup.sublist List.filter_sublist hr) fun j hj => ?_
        obtain ⟨hj1, hj2⟩ := mem_without.mp hj
        have := hrl j hj1
        refine ⟨by simpa using this.1, ?_⟩
        rw [getD_set, if_neg (fun q => hj2 q.1.symm), getD_set, if_neg (show ¬ (i = j ∧ j < l.length) from fun q => hir (q.1 ▸ hj1))]
        exact this.2
      show d ∈ b.days n r l ++ (r.filter fun k => b.may i k).flatMap (fun k => b.days n (r.filter fun x => x != k) ((l.set i k).set k i)) ↔ _
      rw [List.mem_append, step1, List.mem_flatMap]
      constructor
      · rintro (h | ⟨k, hk, hdk⟩)
        · have hdi : d.getD i 0 = i := (h.out i hli.1 hir).trans hli.2
          refine ⟨h.len, fun j hj hjn => h.out j hj fun q => hjn (List.mem_cons_of_mem _ q), fun j hj => ?_⟩
          rcases List.mem_cons.mp hj with rfl | hj
          · rw [hdi]; exact ⟨by simp, hdi, .inl rfl⟩
          · have := h.in j hj
            exact ⟨List.mem_cons_of_mem _ this.1, this.2⟩
        · obtain ⟨hkr, hm⟩ := List.mem_filter.mp hk
          have h := (step2 k hkr).mp hdk
          have hki : k ≠ i := fun q => hir (q ▸ hkr)
          have hkl := (hrl k hkr).1
          have hdi : d.getD i 0 = k := by
            rw [h.out i (by simpa using hli.1) (fun q => hir (mem_without.mp q).1), getD_set, if_neg (fun q => hki q.1), getD_set, if_pos ⟨rfl, hli.1⟩]
          have hdk' : d.getD k 0 = i := by
            rw [h.out k (by simpa using hkl) (fun q => (mem_without.mp q).2 rfl), getD_set, if_pos ⟨rfl, by simpa using hkl⟩]
          refine ⟨by simpa using h.len, fun j hj hjn => ?_, fun j hj => ?_⟩
          · have hji : ¬ i = j := fun q => hjn (q ▸ List.mem_cons_self)
            have hjk : ¬ k = j := fun q => hjn (List.mem_cons_of_mem _ (q ▸ hkr))
            rw [h.out j (by simpa using hj) (fun q => hjn (List.mem_cons_of_mem _ (mem_without.mp q).1)), getD_set, if_neg (fun q => hjk q.1), getD_set, if_neg (fun q => hji q.1)]
          · rcases List.mem_cons.mp hj with rfl | hj
            · rw [hdi]
              exact ⟨List.mem_cons_of_mem _ hkr, hdk', .inr hm⟩
            · by_cases e : j = k
              · subst e
                rw [hdk']
                exact ⟨List.mem_cons_self, hdi, .inr (by rw [may_comm]; exact hm)⟩
              · have := h.in j (mem_without.mpr ⟨hj, e⟩)
                exact ⟨List.mem_cons_of_mem _ (mem_without.mp this.1).1, this.2⟩
      · intro h
        have hi := h.in i List.mem_cons_self
        by_cases e : d.getD i 0 = i
        · left
          refine ⟨h.len, fun j hj hjn => ?_, fun j hj => ?_⟩
          · by_cases q : j = i
            · subst q; rw [e]; exact hli.2.symm
            · exact h.out j hj fun p => (List.mem_cons.mp p).elim q hjn
          · have hj' := h.in j (List.mem_cons_of_mem _ hj)
            refine ⟨?_, hj'.2⟩
            rcases List.mem_cons.mp hj'.1 with q | q
            · rw [q, e] at hj'
              exact absurd (hj'.2.1 ▸ hj) hir
            · exact q
        · right
          generalize hk : d.getD i 0 = k at *
          have hkr : k ∈ r := (List.mem_cons.mp hi.1).resolve_left e
          have hm : b.may i k = true := hi.2.2.resolve_left e
          have hkl := (hrl k hkr).1
          refine ⟨k, List.mem_filter.mpr ⟨hkr, hm⟩, (step2 k hkr).mpr ⟨by simpa using h.len, fun j hj hjn => ?_, fun j hj => ?_⟩⟩
          · have hj : j < l.length := by simpa using hj
            by_cases q : k = j
            · subst q
              rw [getD_set, if_pos ⟨rfl, by simpa using hj⟩]
              exact hi.2.1
            · rw [getD_set, if_neg (fun p => q p.1)]
              by_cases q2 : i = j
              · subst q2
                rw [getD_set, if_pos ⟨rfl, hj⟩]
                exact hk
              · rw [getD_set, if_neg (fun p => q2 p.1)]
                exact h.out j hj fun p => (List.mem_cons.mp p).elim (fun z => q2 z.symm) fun z => hjn (mem_without.mpr ⟨z, fun y => q y.symm⟩)
          · obtain ⟨hj1, hj2⟩ := mem_without.mp hj
            have hj' := h.in j (List.mem_cons_of_mem _ hj1)
            refine ⟨mem_without.mpr ⟨?_, ?_⟩, hj'.2⟩
            · rcases List.mem_cons.mp hj'.1 with q | q
              · rw [q, hk] at hj'
                exact absurd hj'.2.1.symm hj2
              · exact q
            · intro q
              rw [q, hi.2.1] at hj'
              exact hir (hj'.2.1 ▸ hj1)

theorem days_nodup (b : Basho) : ∀ (n : Nat) (left l : List Nat), left.length ≤ n → left.Nodup → (∀ i ∈ left, i < l.length ∧ l.getD i 0 = i) → (b.days n left l).Nodup := by
  intro n
  induction n with
  | zero =>
    intro left l _ _ _
    simp [Basho.days]
  | succ n ih =>
    intro left l hn hd hl
    match left, hn, hd, hl with
    | [], _, _, _ => simp [Basho.days]
    | i :: r, hn, hd, hl =>
      have hir : ¬ i ∈ r := (List.nodup_cons.mp hd).1
      have hr : r.Nodup := (List.nodup_cons.mp hd).2
      have hli := hl i (by simp)
      have hrl : ∀ j ∈ r, j < l.length ∧ l.getD j 0 = j := fun j hj => hl j (List.mem_cons_of_mem _ hj)
      have hlen : r.length ≤ n := by simp at hn; omega
      have side : ∀ k, k ∈ r → ((r.filter fun x => x != k).length ≤ n ∧ (r.filter fun x => x != k).Nodup ∧ ∀ j ∈ (r.filter fun x => x != k), j < ((l.set i k).set k i).length ∧ ((l.set i k).set k i).getD j 0 = j) := by
        intro k hk
        refine ⟨Nat.le_trans (List.length_filter_le _ _) hlen, List.Nodup.sublist List.filter_sublist hr, fun j hj => ?_⟩
        obtain ⟨hj1, hj2⟩ := mem_without.mp hj
        have := hrl j hj1
        refine ⟨by simpa using this.1, ?_⟩
        rw [getD_set, if_neg (fun q => hj2 q.1.symm), getD_set, if_neg (show ¬ (i = j ∧ j < l.length) from fun q => hir (q.1 ▸ hj1))]
        exact this.2
      have at_i : ∀ k, k ∈ r → ∀ d ∈ b.days n (r.filter fun x => x != k) ((l.set i k).set k i), d.getD i 0 = k := by
        intro k hk d hdk
        have s := side k hk
        have h := (days_iff b n _ _ d s.1 s.2.1 s.2.2).mp hdk
        have hki : k ≠ i := fun q => hir (q ▸ hk)
        rw [h.out i (by simpa using hli.1) (fun q => hir (mem_without.mp q).1), getD_set, if_neg (fun q => hki q.1), getD_set, if_pos ⟨rfl, hli.1⟩]
      have at_0 : ∀ d ∈ b.days n r l, d.getD i 0 = i := by
        intro d hdk
        have h := (days_iff b n _ _ d hlen hr hrl).mp hdk
        exact (h.out i hli.1 hir).trans hli.2
      show (b.days n r l ++ (r.filter fun k => b.may i k).flatMap (fun k => b.days n (r.filter fun x => x != k) ((l.set i k).set k i))).Nodup
      rw [List.nodup_append]
      refine ⟨ih r l hlen hr hrl, ?_, ?_⟩
      · unfold List.Nodup
        rw [List.pairwise_flatMap]
        refine ⟨fun k hk => ?_, ?_⟩
        · have s := side k (List.mem_filter.mp hk).1
          exact ih _ _ s.1 s.2.1 s.2.2
        · have hf : (r.filter fun k => b.may i k).Nodup := List.Nodup.sublist List.filter_sublist hr
          refine List.Pairwise.imp_of_mem ?_ hf
          intro k k' hk hk' hne x hx y hy q
          exact hne ((at_i k (List.mem_filter.mp hk).1 x hx).symm.trans (q ▸ at_i k' (List.mem_filter.mp hk').1 y hy))
      · intro x hx y hy q
        obtain ⟨k, hk, hyk⟩ := List.mem_flatMap.mp hy
        have hkr := (List.mem_filter.mp hk).1
        have e1 := at_0 x hx
        have e2 := at_i k hkr y hyk
        rw [q, e2] at e1
        exact hir (e1 ▸ hkr)

/-- a day that can be -/
structure Valid (b : Basho) (d : List Nat) : Prop where
  len : d.length = b.count
  back : ∀ i, i < b.count → d.getD i 0 < b.count ∧ d.getD (d.getD i 0) 0 = i
  may : ∀ i, i < b.count → d.getD i 0 = i ∨ b.may i (d.getD i 0) = true

theorem range_getD {n i : Nat} (h : i < n) : (List.range n).getD i 0 = i := by
  rw [List.getD_eq_getElem?_getD, List.getElem?_range h]; rfl

theorem all_side (b : Basho) : (List.range b.count).length ≤ b.count ∧ (List.range b.count).Nodup ∧ ∀ i ∈ List.range b.count, i < (List.range b.count).length ∧ (List.range b.count).getD i 0 = i :=
  ⟨by simp, List.nodup_range, fun i hi => ⟨by simpa using hi, range_getD (List.mem_range.mp hi)⟩⟩

theorem mem_all (b : Basho) (d : List Nat) : d ∈ b.all_ ↔ Valid b d := by
  unfold Basho.all_
  have s := all_side b
  rw [days_iff b _ _ _ _ s.1 s.2.1 s.2.2]
  constructor
  · intro h
    refine ⟨by simpa using h.len, fun i hi => ?_, fun i hi => ?_⟩
    · have := h.in i (List.mem_range.mpr hi)
      exact ⟨List.mem_range.mp this.1, this.2.1⟩
    · exact (h.in i (List.mem_range.mpr hi)).2.2
  · intro h
    refine ⟨by simpa using h.len, fun i hi hn => ?_, fun i hi => ?_⟩
    · exact absurd (List.mem_range.mpr (by simpa using hi)) hn
    · have hi := List.mem_range.mp hi
      exact ⟨List.mem_range.mpr (h.back i hi).1, (h.back i hi).2, h.may i hi⟩

theorem all_nodup (b : Basho) : b.all_.Nodup := by
  have s := all_side b
  exact days_nodup b _ _ _ s.1 s.2.1 s.2.2

end Rb

/-! The best day, told without the order in which the days are gone through. -/
namespace Rb
open Sj09

/-! ### the order of rows -/
theorem earlier_irr : ∀ a : List Nat, earlier a a = false
  | [] => rfl
  | x :: r => by simp [earlier, earlier_irr r]
theorem earlier_trans : ∀ {a b c : List Nat}, earlier a b = true → earlier b c = true → earlier a c = true
  | _, [], _, h, _ => by cases ‹List Nat› <;> simp [earlier] at h
  | _, _ :: _, [], _, h => by simp [earlier] at h
  | [], (_ :: _), (_ :: _), _, _ => rfl
  | x :: a, y :: b, z :: c, h1, h2 => by
    simp only [earlier, Bool.or_eq_true, decide_eq_true_eq, Bool.and_eq_true, beq_iff_eq] at h1 h2 ⊢
    rcases h1 with h1 | ⟨h1, h1'⟩
    · rcases h2 with h2 | ⟨h2, _⟩
      · exact .inl (Nat.lt_trans h1 h2)
      · exact .inl (h2 ▸ h1)
    · rcases h2 with h2 | ⟨h2, h2'⟩
      · exact .inl (h1 ▸ h2)
      · exact .inr ⟨h1.trans h2, earlier_trans h1' h2'⟩
theorem earlier_tri : ∀ {a b : List Nat}, earlier a b = false → earlier b a = false → a = b
  | [], [], _, _ => rfl
  | [], _ :: _, h, _ => by simp [earlier] at h
  | _ :: _, [], _, h => by simp [earlier] at h
  | x :: a, y :: b, h1, h2 => by
    simp only [earlier, Bool.or_eq_false_iff, decide_eq_false_iff_not, Bool.and_eq_false_imp, beq_iff_eq] at h1 h2
    have e : x = y := by omega
    subst e
    rw [earlier_tri (h1.2 rfl) (h2.2 rfl)]
theorem earlier_asym {a b : List Nat} (h : earlier a b = true) : earlier b a = false := by
  cases e : earlier b a with
  | false => rfl
  | true =>
    have := earlier_trans h e
    rw [earlier_irr] at this
    cases this

/-! ### the fold -/
def bstep (b : Basho) (r : Option Best) (l : List Nat) : Option Best := match r with
  | none => some ⟨b.bouts l, b.cost l, 1, l⟩
  | some x => if better (b.bouts l) (b.cost l) x.bouts x.cost = true then some ⟨b.bouts l, b.cost l, 1, l⟩ else if b.bouts l = x.bouts ∧ b.cost l = x.cost then some { x with many := x.many + 1, row := if earlier l x.row = true then l else x.row } else some x
theorem best_fold (b : Basho) : b.best = b.all_.foldl (bstep b) none := rfl

def same (b : Basho) (x : Best) (l : List Nat) : Bool := decide (b.bouts l = x.bouts ∧ b.cost l = x.cost)

structure IsBest (b : Basho) (L : List (List Nat)) (x : Best) : Prop where
  row : x.row ∈ L
  rb : b.bouts x.row = x.bouts
  rc : b.cost x.row = x.cost
  top : ∀ l ∈ L, better (b.bouts l) (b.cost l) x.bouts x.cost = false
  many : x.many = (L.filter (same b x)).length
  first : ∀ l ∈ L, b.bouts l = x.bouts → b.cost l = x.cost → earlier l x.row = false

theorem better_false {a c x d : Nat} : better a c x d = false ↔ a < x ∨ (a = x ∧ d ≤ c) := by
  unfold better
  rw [Bool.or_eq_false_iff, Bool.and_eq_false_imp, decide_eq_false_iff_not, decide_eq_false_iff_not, beq_iff_eq]
  omega
theorem better_true {a c x d : Nat} : better a c x d = true ↔ x < a ∨ (a = x ∧ c < d) := by
  unfold better
  rw [Bool.or_eq_true, Bool.and_eq_true, decide_eq_true_eq, decide_eq_true_eq, beq_iff_eq]

theorem isBest_one (b : Basho) (l : List Nat) : IsBest b [l] ⟨b.bouts l, b.cost l, 1, l⟩ := by
  refine ⟨List.mem_singleton.mpr rfl, rfl, rfl, fun m hm => ?_, ?_, fun m hm _ _ => ?_⟩
  · rw [List.mem_singleton.mp hm, better_false]; right; exact ⟨rfl, Nat.le_refl _⟩
  · simp [same]
  · rw [List.mem_singleton.mp hm]; exact earlier_irr l

theorem isBest_step {b : Basho} {L : List (List Nat)} {x : Best} (h : IsBest b L x) (l : List Nat) : ∃ y, bstep b (some x) l = some y ∧ IsBest b (L ++ [l]) y := by
  unfold bstep
  by_cases h1 : better (b.bouts l) (b.cost l) x.bouts x.cost = true
  · refine ⟨_, if_pos h1, ?_⟩
    rw [better_true] at h1
    refine ⟨by simp, rfl, rfl, fun m hm => ?_, ?_, fun m hm q1 q2 => ?_⟩
    · rw [better_false]
      rcases (List.mem_append.mp hm) with hm | hm
      · have := better_false.mp (h.top m hm)
        show b.bouts m < b.bouts l ∨ (b.bouts m = b.bouts l ∧ b.cost l ≤ b.cost m)
        omega
      · rw [List.mem_singleton.mp hm]; right; exact ⟨rfl, Nat.le_refl _⟩
    · have e : L.filter (same b ⟨b.bouts l, b.cost l, 1, l⟩) = [] := by
        rw [List.filter_eq_nil_iff]
        intro m hm
        have := better_false.mp (h.top m hm)
        simp only [same, decide_eq_true_eq]
        omega
      rw [List.filter_append, e]
      simp [same]
    · rcases (List.mem_append.mp hm) with hm | hm
      · have := better_false.mp (h.top m hm)
        have q1 : b.bouts m = b.bouts l := q1
        have q2 : b.cost m = b.cost l := q2
        omega
      · rw [List.mem_singleton.mp hm]; exact earlier_irr l
  · have h1f : better (b.bouts l) (b.cost l) x.bouts x.cost = false := by
      cases e : better (b.bouts l) (b.cost l) x.bouts x.cost with
      | false => rfl
      | true => exact absurd e h1
    have h1' := better_false.mp h1f
    show ∃ y, (if better (b.bouts l) (b.cost l) x.bouts x.cost = true then _ else _) = some y ∧ _
    rw [if_neg h1]
    by_cases h2 : b.bouts l = x.bouts ∧ b.cost l = x.cost
    · refine ⟨_, if_pos h2, ?_⟩
      by_cases h3 : earlier l x.row = true
      · rw [if_pos h3]
        refine ⟨by simp, h2.1, h2.2, fun m hm => ?_, ?_, fun m hm q1 q2 => ?_⟩
        · rcases (List.mem_append.mp hm) with hm | hm
          · exact h.top m hm
          · rw [List.mem_singleton.mp hm]; exact h1f
        · show x.many + 1 = ((L ++ [l]).filter (same b x)).length
          rw [List.filter_append, h.many]
          simp [same, h2]
        · show earlier m l = false
          rcases (List.mem_append.mp hm) with hm | hm
          · cases e : earlier m l with
            | false => rfl
            | true =>
              have := h.first m hm q1 q2
              rw [earlier_trans e h3] at this
              exact this
          · rw [List.mem_singleton.mp hm]; exact earlier_irr l
      · rw [if_neg h3]
        refine ⟨List.mem_append_left _ h.row, h.rb, h.rc, fun m hm => ?_, ?_, fun m hm q1 q2 => ?_⟩
        · rcases (List.mem_append.mp hm) with hm | hm
          · exact h.top m hm
          · rw [List.mem_singleton.mp hm]; exact h1f
        · show x.many + 1 = ((L ++ [l]).filter (same b x)).length
          rw [List.filter_append, h.many]
          simp [same, h2]
        · rcases (List.mem_append.mp hm) with hm | hm
          · exact h.first m hm q1 q2
          · rw [(List.mem_singleton.mp hm)]
            show earlier l x.row = false
            cases e : earlier l x.row with
            | false => rfl
            | true => exact absurd e h3
    · refine ⟨_, if_neg h2, ?_⟩
      refine ⟨List.mem_append_left _ h.row, h.rb, h.rc, fun m hm => ?_, ?_, fun m hm q1 q2 => ?_⟩
      · rcases (List.mem_append.mp hm) with hm | hm
        · exact h.top m hm
        · rw [List.mem_singleton.mp hm]; exact h1f
      · rw [List.filter_append, h.many]
        simp [same, h2]
      · rcases (List.mem_append.mp hm) with hm | hm
        · exact h.first m hm q1 q2
        · rw [List.mem_singleton.mp hm] at q1 q2
          exact absurd ⟨q1, q2⟩ h2

theorem isBest_fold {b : Basho} : ∀ (M L : List (List Nat)) (x : Best), IsBest b L x → ∃ y, M.foldl (bstep b) (some x) = some y ∧ IsBest b (L ++ M) y
  | [], L, x, h => ⟨x, rfl, by rw [List.append_nil]; exact h⟩
  | l :: M, L, x, h => by
    obtain ⟨y, e, hy⟩ := isBest_step h l
    obtain ⟨z, e2, hz⟩ := isBest_fold M (L ++ [l]) y hy
    refine ⟨z, ?_, by rw [List.append_assoc] at hz; exact hz⟩
    rw [List.foldl_cons, e, e2]

theorem isBest_all {b : Basho} : ∀ (M : List (List Nat)), M ≠ [] → ∃ y, M.foldl (bstep b) none = some y ∧ IsBest b M y
  | [], h => absurd rfl h
  | l :: M, _ => isBest_fold M [l] _ (isBest_one b l)

/-- one best only, whatever the order -/
theorem isBest_inj {b : Basho} {L M : List (List Nat)} {x y : Best} (p : L.Perm M) (hx : IsBest b L x) (hy : IsBest b M y) : x = y := by
  have hm : ∀ l, l ∈ L ↔ l ∈ M := fun l => p.mem_iff
  have t1 := better_false.mp (hx.top y.row ((hm _).mpr hy.row))
  have t2 := better_false.mp (hy.top x.row ((hm _).mp hx.row))
  rw [hy.rb, hy.rc] at t1
  rw [hx.rb, hx.rc] at t2
  have eb : x.bouts = y.bouts := by omega
  have ec : x.cost = y.cost := by omega
  have er : x.row = y.row := earlier_tri (hy.first x.row ((hm _).mp hx.row) (hx.rb.trans eb) (hx.rc.trans ec)) (hx.first y.row ((hm _).mpr hy.row) (hy.rb.trans eb.symm) (hy.rc.trans ec.symm))
  have em : x.many = y.many := by
    rw [hx.many, hy.many, (p.filter (same b x)).length_eq]
    have : same b x = same b y := by funext l; simp [same, eb, ec]
    rw [this]
  cases x; cases y
  simp at eb ec er em
  simp [eb, ec, er, em]

theorem all_ne (b : Basho) : b.all_ ≠ [] := by
  intro e
  have : List.range b.count ∈ b.all_ := (mem_all b _).mpr ⟨by simp, fun i hi => by rw [range_getD hi]; exact ⟨hi, range_getD hi⟩, fun i hi => .inl (range_getD hi)⟩
  rw [e] at this
  cases this

theorem best_of {b : Basho} {L : List (List Nat)} {x : Best} (p : L.Perm b.all_) (h : IsBest b L x) : b.best = some x := by
  obtain ⟨y, e, hy⟩ := isBest_all b.all_ (all_ne b) (b := b)
  rw [best_fold, e, isBest_inj p h hy]

/-- by what the days are alone -/
theorem best_of_valid {b : Basho} {L : List (List Nat)} {x : Best} (hn : L.Nodup) (hL : ∀ d, d ∈ L ↔ Valid b d) (h : IsBest b L x) : b.best = some x :=
  best_of ((List.perm_ext_iff_of_nodup hn (all_nodup b)).mpr fun d => (hL d).trans (mem_all b d).symm) h

/-- any order of the days folds to the same -/
theorem best_fold_perm {b : Basho} {L : List (List Nat)} (p : L.Perm b.all_) : b.best = L.foldl (bstep b) none := by
  have hne : L ≠ [] := fun e => all_ne b (by rw [e] at p; exact p.nil_eq.symm)
  obtain ⟨y, e, hy⟩ := isBest_all L hne (b := b)
  rw [e]
  exact best_of p hy
end Rb

/-! Groups, told by who is reached from whom. -/
namespace Rb
open Sj09

/-- from i one comes to j by those who aren't away -/
inductive Reach (b : Basho) (s i : Nat) : Nat → Prop where
  | refl : Reach b s i i
  | step {j k : Nat} : Reach b s i j → k < b.count → s.testBit k = false → b.may j k = true → Reach b s i k

theorem Reach.trans {b : Basho} {s i j k : Nat} (h : Reach b s i j) (g : Reach b s j k) : Reach b s i k := by
  induction g with
  | refl => exact h
  | step _ a c d ih => exact ih.step a c d
theorem Reach.lt {b : Basho} {s i j : Nat} (h : Reach b s i j) (hi : i < b.count) (ha : s.testBit i = false) : j < b.count ∧ s.testBit j = false := by
  cases h with
  | refl => exact ⟨hi, ha⟩
  | step _ a c _ => exact ⟨a, c⟩
theorem Reach.symm {b : Basho} {s i j : Nat} (h : Reach b s i j) (hi : i < b.count) (ha : s.testBit i = false) : Reach b s j i := by
  induction h with
  | refl => exact .refl
  | step h1 a c d ih =>
    have q := h1.lt hi ha
    exact (Reach.refl.step q.1 q.2 (by rw [may_comm]; exact d)).trans ih

/-! ### sets as tests -/
def stepP (b : Basho) (s : Nat) (p : Nat → Bool) (k : Nat) : Bool := p k || (!s.testBit k && (List.range b.count).any fun i => p i && b.may i k)
def iter (b : Basho) (s : Nat) : Nat → (Nat → Bool) → Nat → Bool
  | 0, p => p
  | n + 1, p => iter b s n (stepP b s p)

theorem reach_filter (b : Basho) (s : Nat) : ∀ (n : Nat) (p : Nat → Bool), b.reach s n ((List.range b.count).filter p) = (List.range b.count).filter (iter b s n p)
  | 0, _ => rfl
  | n + 1, p => by
    show b.reach s n ((List.range b.count).filter fun k => ((List.range b.count).filter p).contains k || (!s.testBit k && ((List.range b.count).filter p).any fun i => b.may i k)) = _
    have e : ((List.range b.count).filter fun k => ((List.range b.count).filter p).contains k || (!s.testBit k && ((List.range b.count).filter p).any fun i => b.may i k)) = (List.range b.count).filter (stepP b s p) := by
      apply List.filter_congr
      intro k hk
      have e1 : ((List.range b.count).filter p).contains k = p k := by
        rw [Bool.eq_iff_iff, List.contains_iff_mem, List.mem_filter]
        exact ⟨fun q => q.2, fun q => ⟨hk, q⟩⟩
      rw [e1, List.any_filter]
      rfl
    rw [e, reach_filter b s n]
    rfl

theorem single {n i : Nat} (h : i < n) : [i] = (List.range n).filter fun j => j == i := by
  rw [List.filter_beq]
  have : List.count i (List.range n) = 1 := by
    rw [List.nodup_range.count, if_pos (List.mem_range.mpr h)]
  rw [this]
  rfl

def size_ (n : Nat) (p : Nat → Bool) : Nat := ((List.range n).filter p).length
theorem size_le (n : Nat) (p : Nat → Bool) : size_ n p ≤ n := by
  have := List.length_filter_le p (List.range n)
  simpa [size_] using this
theorem filt_lt {p q : Nat → Bool} : ∀ (l : List Nat), (∀ j, p j = true → q j = true) → (l.filter p).length ≤ (l.filter q).length ∧ (∀ k, k ∈ l → p k = false → q k = true → (l.filter p).length < (l.filter q).length)
  | [], _ => ⟨by simp, fun k hk => by cases hk⟩
  | x :: l, h => by
    have ih := filt_lt l h
    cases ep : p x with
    | true =>
      have eq := h x ep
      simp only [List.filter_cons, ep, eq, if_true, List.length_cons]
      refine ⟨by omega, fun k hk h1 h2 => ?_⟩
      rcases List.mem_cons.mp hk with rfl | hk
      · rw [ep] at h1; cases h1
      · have := ih.2 k hk h1 h2; omega
    | false =>
      cases eq : q x with
      | true =>
        simp only [List.filter_cons, ep, eq, if_true, List.length_cons, Bool.false_eq_true, if_false]
        exact ⟨by omega, fun _ _ _ _ => by omega⟩
      | false =>
        simp only [List.filter_cons, ep, eq, Bool.false_eq_true, if_false]
        refine ⟨ih.1, fun k hk h1 h2 => ?_⟩
        rcases List.mem_cons.mp hk with rfl | hk
        · rw [eq] at h2; cases h2
        · exact ih.2 k hk h1 h2

def Closed (b : Basho) (s : Nat) (p : Nat → Bool) : Prop := ∀ k, k < b.count → stepP b s p k = p k
theorem stepP_mono (b : Basho) (s : Nat) (p : Nat → Bool) (j : Nat) (h : p j = true) : stepP b s p j = true := by simp [stepP, h]
theorem closed_or (b : Basho) (s : Nat) (p : Nat → Bool) : Closed b s p ∨ size_ b.count p < size_ b.count (stepP b s p) := by
  by_cases h : Closed b s p
  · exact .inl h
  · right
    obtain ⟨k, hk⟩ := Classical.not_forall.mp h
    obtain ⟨hk1, hk2⟩ := Classical.not_imp.mp hk
    have hp : p k = false := by
      cases e : p k with
      | false => rfl
      | true => exact absurd ((stepP_mono b s p k e).trans e.symm) hk2
    have hq : stepP b s p k = true := by
      cases e : stepP b s p k with
      | true => rfl
      | false => exact absurd (e.trans hp.symm) hk2
    exact (filt_lt (List.range b.count) (stepP_mono b s p)).2 k (List.mem_range.mpr hk1) hp hq
theorem any_congr {p q : Nat → Bool} : ∀ {l : List Nat}, (∀ i ∈ l, p i = q i) → l.any p = l.any q
  | [], _ => rfl
  | x :: l, h => by
    rw [List.any_cons, List.any_cons, h x List.mem_cons_self, any_congr fun i hi => h i (List.mem_cons_of_mem _ hi)]
theorem stepP_congr {b : Basho} {s : Nat} {p q : Nat → Bool} (h : ∀ k, k < b.count → p k = q k) (k : Nat) (hk : k < b.count) : stepP b s p k = stepP b s q k := by
  unfold stepP
  rw [h k hk, any_congr fun i hi => by rw [h i (List.mem_range.mp hi)]]
theorem iter_succ (b : Basho) (s : Nat) : ∀ (n : Nat) (p : Nat → Bool), iter b s (n + 1) p = stepP b s (iter b s n p)
  | 0, _ => rfl
  | n + 1, p => by
    show iter b s (n + 1) (stepP b s p) = _
    rw [iter_succ b s n]
    rfl
theorem iter_grows (b : Basho) (s : Nat) (p : Nat → Bool) : ∀ n, Closed b s (iter b s n p) ∨ size_ b.count p + n ≤ size_ b.count (iter b s n p)
  | 0 => .inr (Nat.le_refl _)
  | n + 1 => by
    rw [iter_succ]
    rcases iter_grows b s p n with h | h
    · exact .inl fun k hk => stepP_congr h k hk
    · rcases closed_or b s (iter b s n p) with g | g
      · exact .inl fun k hk => stepP_congr g k hk
      · right; omega
theorem iter_keeps (b : Basho) (s : Nat) (p : Nat → Bool) (j : Nat) (h : p j = true) : ∀ n, iter b s n p j = true
  | 0 => h
  | n + 1 => by rw [iter_succ]; exact stepP_mono b s _ j (iter_keeps b s p j h n)
theorem iter_sound (b : Basho) (s i : Nat) (p : Nat → Bool) (h : ∀ j, p j = true → Reach b s i j) : ∀ n j, j < b.count → iter b s n p j = true → Reach b s i j
  | 0, j, _, e => h j e
  | n + 1, j, hj, e => by
    rw [iter_succ] at e
    simp only [stepP, Bool.or_eq_true, Bool.and_eq_true, Bool.not_eq_true', List.any_eq_true, List.mem_range] at e
    rcases e with e | ⟨e1, k, hk, e2, e3⟩
    · exact iter_sound b s i p h n j hj e
    · exact (iter_sound b s i p h n k hk e2).step hj e1 e3

/-- **who is in the group of i** -/
theorem mem_reach {b : Basho} {s i j : Nat} (hi : i < b.count) (ha : s.testBit i = false) : j ∈ b.reach s b.count [i] ↔ Reach b s i j := by
  rw [single hi, reach_filter, List.mem_filter]
  constructor
  · rintro ⟨hj, e⟩
    refine iter_sound b s i _ (fun k hk => ?_) _ j (List.mem_range.mp hj) e
    have : k = i := by simpa using hk
    rw [this]; exact .refl
  · intro h
    have hj := h.lt hi ha
    refine ⟨List.mem_range.mpr hj.1, ?_⟩
    have c : Closed b s (iter b s b.count fun j => j == i) := by
      rcases iter_grows b s (fun j => j == i) b.count with c | c
      · exact c
      · have h1 : size_ b.count (fun j => j == i) = 1 := by unfold size_; rw [← single hi]; rfl
        have h2 := size_le b.count (iter b s b.count fun j => j == i)
        omega
    clear hj
    induction h with
    | refl => exact iter_keeps b s _ i (by simp) _
    | step h1 a e d ih =>
      have q := h1.lt hi ha
      rw [← c _ a]
      simp only [stepP, Bool.or_eq_true, Bool.and_eq_true, Bool.not_eq_true', List.any_eq_true, List.mem_range]
      exact .inr ⟨e, _, q.1, ih, d⟩

theorem reach_nodup {b : Basho} {s i : Nat} (hi : i < b.count) : (b.reach s b.count [i]).Nodup := by
  rw [single hi, reach_filter]
  exact List.Nodup.sublist List.filter_sublist List.nodup_range

/-- as many as any list of the same, none twice -/
theorem reach_length {b : Basho} {s i : Nat} (hi : i < b.count) (ha : s.testBit i = false) {g : List Nat} (hn : g.Nodup) (hg : ∀ j, j ∈ g ↔ Reach b s i j) : (b.reach s b.count [i]).length = g.length :=
  ((List.perm_ext_iff_of_nodup (reach_nodup hi) hn).mpr fun j => (mem_reach hi ha).trans (hg j).symm).length_eq

/-- i isn't away, and nobody of a lower number is in the group -/
def Lead (b : Basho) (s i : Nat) : Prop := s.testBit i = false ∧ ∀ k, k < i → s.testBit k = false → ¬ Reach b s k i

def leadB (b : Basho) (s i : Nat) : Bool := !s.testBit i && !(List.range i).any fun k => !s.testBit k && (b.reach s b.count [k]).contains i
theorem leadB_iff {b : Basho} {s i : Nat} (hi : i < b.count) : leadB b s i = true ↔ Lead b s i := by
  unfold leadB Lead
  rw [Bool.and_eq_true, Bool.not_eq_true', Bool.not_eq_true', List.any_eq_false]
  constructor
  · rintro ⟨h1, h2⟩
    refine ⟨h1, fun k hk ha r => ?_⟩
    have := h2 k (List.mem_range.mpr hk)
    apply this
    rw [ha, Bool.not_false, Bool.true_and, List.contains_iff_mem]
    exact (mem_reach (Nat.lt_trans hk hi) ha).mpr r
  · rintro ⟨h1, h2⟩
    refine ⟨h1, fun k hk e => ?_⟩
    rw [Bool.and_eq_true, Bool.not_eq_true', List.contains_iff_mem] at e
    have hk := List.mem_range.mp hk
    exact h2 k hk e.1 ((mem_reach (Nat.lt_trans hk hi) e.1).mp e.2)

theorem filter_map_len {α β : Type} (f : α → β) (p : β → Bool) : ∀ l : List α, ((l.map f).filter p).length = (l.filter fun a => p (f a)).length
  | [] => rfl
  | x :: l => by
    rw [List.map_cons, List.filter_cons, List.filter_cons]
    split
    · rw [List.length_cons, List.length_cons, filter_map_len f p l]
    · exact filter_map_len f p l

/-- **how many odd groups**: a turn for each wrestler -/
def oddAt (b : Basho) (s i : Nat) : Nat := if leadB b s i = true then (b.reach s b.count [i]).length % 2 else 0
theorem odds_sum (b : Basho) (s : Nat) : b.odds s = ((List.range b.count).map (oddAt b s)).sum := by
  unfold Basho.odds Basho.groups
  rw [filter_map_len]
  show (((List.range b.count).filter (leadB b s)).filter fun i => (b.reach s b.count [i]).length % 2 == 1).length = _
  generalize List.range b.count = l
  induction l with
  | nil => rfl
  | cons x l ih =>
    rw [List.map_cons, List.sum_cons, ← ih, List.filter_cons]
    unfold oddAt
    by_cases h : leadB b s x = true
    · rw [if_pos h, if_pos h, List.filter_cons]
      by_cases g : (b.reach s b.count [x]).length % 2 = 1
      · rw [if_pos (by rw [g]; rfl), List.length_cons, g]; omega
      · have : (b.reach s b.count [x]).length % 2 = 0 := by omega
        rw [if_neg (by rw [this]; decide), this]; omega
    · rw [(if_neg h), (if_neg h)]; omega
end Rb

/-! What holds of a tournament between two calls; who has met, by pairs whose lower number leads. -/
namespace Rb
open Sj09

/-- a pair, the lower number ahead -/
def pairKey (i k : Nat) : Nat × Nat := (min i k, max i k)
def metKeys (b : Basho) : List (Nat × Nat) := b.met.map fun p => pairKey p.1 p.2

theorem pairKey_comm (i k : Nat) : pairKey i k = pairKey k i := by
  unfold pairKey
  rw [Nat.min_comm, Nat.max_comm]
theorem pairKey_eq {i k j m : Nat} : pairKey i k = pairKey j m ↔ (i = j ∧ k = m) ∨ (i = m ∧ k = j) := by
  unfold pairKey
  rw [Prod.mk.injEq]
  omega

theorem met_keys (b : Basho) (i k : Nat) : (b.met.contains (i, k) || b.met.contains (k, i)) = (metKeys b).contains (pairKey i k) := by
  rw [Bool.eq_iff_iff, Bool.or_eq_true, List.contains_iff_mem, List.contains_iff_mem, List.contains_iff_mem]
  unfold metKeys
  rw [List.mem_map]
  constructor
  · rintro (h | h)
    · exact ⟨_, h, rfl⟩
    · exact ⟨_, h, pairKey_comm _ _⟩
  · rintro ⟨⟨j, m⟩, h, e⟩
    rcases pairKey_eq.mp e with ⟨e1, e2⟩ | ⟨e1, e2⟩
    · left; rw [← show (j, m) = (i, k) from by rw [show j = i from e1, show m = k from e2]]; exact h
    · right; rw [← show (j, m) = (k, i) from by rw [show j = k from e1, show m = i from e2]]; exact h

theorem may_keys (b : Basho) (i k : Nat) : b.may i k = (i != k && ((b.of_ i).stable != (b.of_ k).stable && !(metKeys b).contains (pairKey i k))) := by
  unfold Basho.may
  rw [met_keys]

/-- what every tournament keeps to -/
structure WF (b : Basho) : Prop where
  rank : b.rank ≤ 100
  win : b.win ≤ 100
  few : b.count ≤ 8
  each : ∀ w ∈ b.wrestlers, w.stable ≤ 9 ∧ w.wins ≤ 15
  keys : (metKeys b).Nodup
  there : ∀ p ∈ b.met, p.1 < b.count ∧ p.2 < b.count

theorem wf_init : WF init := ⟨by decide, by decide, by decide, fun w h => (by cases h), List.nodup_nil, fun p h => (by cases h)⟩

theorem may_new {b : Basho} {i k : Nat} (h : b.may i k = true) : ¬ pairKey i k ∈ metKeys b := by
  rw [may_keys] at h
  simp only [Bool.and_eq_true, Bool.not_eq_true', List.contains_eq_mem, decide_eq_false_iff_not] at h
  exact h.2.2

theorem nodup_snoc {α : Type} {l : List α} {x : α} (h : l.Nodup) (hx : ¬ x ∈ l) : (l ++ [x]).Nodup := by
  rw [List.nodup_append]
  refine ⟨h, by simp, fun a ha b hb e => ?_⟩
  rw [List.mem_singleton.mp hb] at e
  exact hx (e ▸ ha)

theorem wf_step {b : Basho} (h : WF b) (c : Call) : WF (step b c).1 := by
  cases c with
  | begins r w =>
    show WF (if WEIGHT < r ∨ WEIGHT < w then (b, ok (-1)) else (⟨r, w, [], []⟩, ok 0)).1
    by_cases q : WEIGHT < r ∨ WEIGHT < w
    · rw [if_pos q]; exact h
    · rw [if_neg q]
      have : ¬ 100 < r ∧ ¬ 100 < w := ⟨fun z => q (.inl z), fun z => q (.inr z)⟩
      exact ⟨by show r ≤ 100; omega, by show w ≤ 100; omega, Nat.zero_le _, fun w h => (by cases h), List.nodup_nil, fun p h => (by cases h)⟩
  | wrestler w =>
    show WF (if STABLES ≤ w.stable ∨ WINS < w.wins then (b, ok (-1)) else if COUNT ≤ b.count then (b, ok (-5)) else ({ b with wrestlers := b.wrestlers ++ [w] }, ok ((b.count : Nat) : Int))).1
    by_cases q : STABLES ≤ w.stable ∨ WINS < w.wins
    · rw [if_pos q]; exact h
    · rw [if_neg q]
      by_cases q2 : COUNT ≤ b.count
      · rw [if_pos q2]; exact h
      · rw [if_neg q2]
        have q1 : ¬ 10 ≤ w.stable ∧ ¬ 15 < w.wins := ⟨fun z => q (.inl z), fun z => q (.inr z)⟩
        have q2 : ¬ 8 ≤ b.count := q2
        have hc : (b.wrestlers ++ [w]).length = b.count + 1 := by rw [List.length_append]; rfl
        refine ⟨h.rank, h.win, ?_, fun v hv => ?_, h.keys, fun p hp => ?_⟩
        · show (b.wrestlers ++ [w]).length ≤ 8
          omega
        · rcases List.mem_append.mp hv with hv | hv
          · exact h.each v hv
          · rw [List.mem_singleton.mp hv]; omega
        · have := h.there p hp
          show p.1 < (b.wrestlers ++ [w]).length ∧ p.2 < (b.wrestlers ++ [w]).length
          omega
  | met i k =>
    show WF (if b.count ≤ i ∨ b.count ≤ k then (b, ok (-2)) else if b.may i k = false then (b, ok (-4)) else ({ b with met := b.met ++ [(i, k)] }, ok ((b.met.length : Nat) + 1))).1
    by_cases q : b.count ≤ i ∨ b.count ≤ k
    · rw [if_pos q]; exact h
    · rw [if_neg q]
      by_cases q2 : b.may i k = false
      · rw [if_pos q2]; exact h
      · rw [if_neg q2]
        have hm : b.may i k = true := by
          cases e : b.may i k with
          | true => rfl
          | false => exact absurd e q2
        refine ⟨h.rank, h.win, h.few, h.each, ?_, fun p hp => ?_⟩
        · show (((b.met ++ [(i, k)]).map fun p => pairKey p.1 p.2)).Nodup
          rw [List.map_append]
          exact nodup_snoc h.keys (may_new hm)
        · rcases (List.mem_append.mp hp) with hp | hp
          · exact h.there p hp
          · rw [(List.mem_singleton.mp hp)]
            show i < b.count ∧ k < b.count
            omega
  | check l =>
    show WF (if b.told l = false then (b, ok (-1)) else (b, _)).1
    by_cases q : b.told l = false
    · rw [if_pos q]; exact h
    · rw [if_neg q]; exact h
  | best => exact h
  | why => exact h

theorem met_step (b : Basho) (c : Call) : (step b c).1.met.length ≤ b.met.length + 1 := by
  cases c with
  | begins r w =>
    show (if WEIGHT < r ∨ WEIGHT < w then (b, ok (-1)) else (⟨r, w, [], []⟩, ok 0)).1.met.length ≤ _
    split
    · exact Nat.le_succ _
    · exact Nat.zero_le _
  | wrestler w =>
    show (if STABLES ≤ w.stable ∨ WINS < w.wins then (b, ok (-1)) else if COUNT ≤ b.count then (b, ok (-5)) else ({ b with wrestlers := b.wrestlers ++ [w] }, ok ((b.count : Nat) : Int))).1.met.length ≤ _
    split
    · exact Nat.le_succ _
    · split
      · exact Nat.le_succ _
      · exact Nat.le_succ _
  | met i k =>
    show (if b.count ≤ i ∨ b.count ≤ k then (b, ok (-2)) else if b.may i k = false then (b, ok (-4)) else ({ b with met := b.met ++ [(i, k)] }, ok ((b.met.length : Nat) + 1))).1.met.length ≤ _
    split
    · exact Nat.le_succ _
    · split
      · exact Nat.le_succ _
      · show (b.met ++ [(i, k)]).length ≤ _
        rw [List.length_append]
        exact Nat.le_refl _
  | check l =>
    show (if b.told l = false then (b, ok (-1)) else (b, _)).1.met.length ≤ _
    split
    · exact Nat.le_succ _
    · exact Nat.le_succ _
  | best => exact Nat.le_succ _
  | why => exact Nat.le_succ _
end Rb

/-! What may be handed in, as calls one behind another, and what is due for them. -/
namespace Rb
open Sj09

def nums (l : List Nat) : List Int := l.map fun (n : Nat) => (n : Int)
/-- a call's numbers -/
def flat1 : Call → List Int
  | .begins r w => [0, (r : Int), (w : Int)]
  | .wrestler w => [1, (w.stable : Int), (w.wins : Int)]
  | .met i k => [2, (i : Int), (k : Int)]
  | .check d => 3 :: (d.length : Int) :: nums d
  | .best => [4]
  | .why => [5]
def flats : List Call → List Int
  | [] => []
  | c :: r => flat1 c ++ flats r
/-- a call's answer, and those of the calls behind it -/
def ans1 (b : Basho) (c : Call) : List Int := (step b c).2.v :: (step b c).2.l
def due (b : Basho) : List Call → List Int
  | [] => []
  | c :: r => ((ans1 b c).length : Int) :: ans1 b c ++ due (step b c).1 r
def Good : Call → Prop
  | .check d => d.length ≤ 10 ∧ ∀ x ∈ d, x ≤ 4294967295
  | .begins r w => r ≤ 4294967295 ∧ w ≤ 4294967295
  | .wrestler w => w.stable ≤ 4294967295 ∧ w.wins ≤ 4294967295
  | .met i k => i ≤ 4294967295 ∧ k ≤ 4294967295
  | _ => True

theorem nums_toNat : ∀ {l : List Int}, (∀ z ∈ l, 0 ≤ z) → nums (l.map Int.toNat) = l
  | [], _ => rfl
  | z :: l, h => by
    have h1 := h z List.mem_cons_self
    have h2 := nums_toNat (l := l) fun y hy => h y (List.mem_cons_of_mem _ hy)
    show ((z.toNat : Nat) : Int) :: nums (l.map Int.toNat) = z :: l
    rw [h2, Int.toNat_of_nonneg h1]

theorem within_iff {lo hi z : Int} : PyInside.within lo hi z = true ↔ lo ≤ z ∧ z ≤ hi := by
  unfold PyInside.within
  rw [Bool.and_eq_true, decide_eq_true_eq, decide_eq_true_eq]

/-- one call that is read, as a call of the document's -/
theorem call_of {c : List (List Int)} (h : PyFlat.okCall PySj09.shape c) (hb : PyInside.call PySj09.bound c = true) :
    ∃ q : Call, PyFlat.put1 c = flat1 q ∧ Good q ∧ Sj09Neutral.callOf ((PySj09.whole c).headD []) = some q := by
  obtain ⟨p, a, xs, rfl, hs⟩ := h
  unfold PySj09.shape at hs
  by_cases h0 : p = 0
  · rw [if_pos h0] at hs
    subst h0
    have e1 : 2 = a.length := congrArg (fun q : Nat × Nat => q.1) (Option.some.inj hs)
    have e2 : 0 = xs.length := congrArg (fun q : Nat × Nat => q.2) (Option.some.inj hs)
    match a, e1, xs, e2 with
    | [x, y], _, [], _ =>
      have hw : (PyInside.within 0 4294967295 x && (PyInside.within 0 4294967295 y && true) && true) = true := hb
      simp only [Bool.and_true, Bool.and_eq_true, within_iff] at hw
      refine ⟨.begins x.toNat y.toNat, ?_, ⟨by omega, by omega⟩, rfl⟩
      show [0, x, y] = [0, ((x.toNat : Nat) : Int), ((y.toNat : Nat) : Int)]
      rw [Int.toNat_of_nonneg hw.1.1, Int.toNat_of_nonneg hw.2.1]
  rw [if_neg h0] at hs
  by_cases h1 : p = 1
  · rw [if_pos h1] at hs
    subst h1
    have e1 : 2 = a.length := congrArg (fun q : Nat × Nat => q.1) (Option.some.inj hs)
    have e2 : 0 = xs.length := congrArg (fun q : Nat × Nat => q.2) (Option.some.inj hs)
    match a, e1, xs, e2 with
    | [x, y], _, [], _ =>
      have hw : (PyInside.within 0 4294967295 x && (PyInside.within 0 4294967295 y && true) && true) = true := hb
      simp only [Bool.and_true, Bool.and_eq_true, within_iff] at hw
      refine ⟨.wrestler ⟨x.toNat, y.toNat⟩, ?_, ⟨by show x.toNat ≤ _; omega, by show y.toNat ≤ _; omega⟩, rfl⟩
      show [1, x, y] = [1, ((x.toNat : Nat) : Int), ((y.toNat : Nat) : Int)]
      rw [Int.toNat_of_nonneg hw.1.1, Int.toNat_of_nonneg hw.2.1]
  rw [if_neg h1] at hs
  by_cases h2 : p = 2
  · rw [if_pos h2] at hs
    subst h2
    have e1 : 2 = a.length := congrArg (fun q : Nat × Nat => q.1) (Option.some.inj hs)
    have e2 : 0 = xs.length := congrArg (fun q : Nat × Nat => q.2) (Option.some.inj hs)
    match a, e1, xs, e2 with
    | [x, y], _, [], _ =>
      have hw : (PyInside.within 0 4294967295 x && (PyInside.within 0 4294967295 y && true) && true) = true := hb
      simp only [Bool.and_true, Bool.and_eq_true, within_iff] at hw
      refine ⟨.met x.toNat y.toNat, ?_, ⟨by omega, by omega⟩, rfl⟩
      show [2, x, y] = [2, ((x.toNat : Nat) : Int), ((y.toNat : Nat) : Int)]
      rw [Int.toNat_of_nonneg hw.1.1, Int.toNat_of_nonneg hw.2.1]
  rw [if_neg h2] at hs
  by_cases h3 : p = 3
  · rw [if_pos h3] at hs
    subst h3
    have e1 : 0 = a.length := congrArg (fun q : Nat × Nat => q.1) (Option.some.inj hs)
    have e2 : 1 = xs.length := congrArg (fun q : Nat × Nat => q.2) (Option.some.inj hs)
    match a, e1, xs, e2 with
    | [], _, [d], _ =>
      have hw : (true && (decide (0 ≤ d.length) && decide (d.length ≤ 10) && d.all (PyInside.within 0 4294967295) && true)) = true := hb
      simp only [Bool.and_true, Bool.true_and, Bool.and_eq_true, decide_eq_true_eq, List.all_eq_true, within_iff] at hw
      have hz : ∀ z ∈ d, 0 ≤ z := fun z hz => (hw.2 z hz).1
      refine ⟨.check (d.map Int.toNat), ?_, ⟨by simpa using hw.1.2, ?_⟩, ?_⟩
      · show [3] ++ (((d.length : Int) :: d) ++ []) = 3 :: ((d.map Int.toNat).length : Int) :: nums (d.map Int.toNat)
        rw [nums_toNat hz, List.length_map, List.append_nil]
        rfl
      · intro x hx
        obtain ⟨z, h1, rfl⟩ := List.mem_map.mp hx
        have := hw.2 z h1
        omega
      · show (match ([3] ++ d).map Int.toNat with
          | [0, r, w] => some (Call.begins r w)
          | [1, s, w] => some (.wrestler ⟨s, w⟩)
          | [2, i, k] => some (.met i k)
          | 3 :: r => if r.length ≤ 10 then some (.check r) else none
          | [4] => some .best
          | [5] => some .why
          | _ => none) = _
        show (if (d.map Int.toNat).length ≤ 10 then some (Call.check (d.map Int.toNat)) else none) = _
        rw [if_pos (by simpa using hw.1.2)]
  rw [if_neg h3] at hs
  by_cases h4 : p = 4
  · rw [if_pos h4] at hs
    subst h4
    have e1 : 0 = a.length := congrArg (fun q : Nat × Nat => q.1) (Option.some.inj hs)
    have e2 : 0 = xs.length := congrArg (fun q : Nat × Nat => q.2) (Option.some.inj hs)
    match a, e1, xs, e2 with
    | [], _, [], _ => exact ⟨.best, rfl, True.intro, rfl⟩
  rw [if_neg h4] at hs
  by_cases h5 : p = 5
  · rw [if_pos h5] at hs
    subst h5
    have e1 : 0 = a.length := congrArg (fun q : Nat × Nat => q.1) (Option.some.inj hs)
    have e2 : 0 = xs.length := congrArg (fun q : Nat × Nat => q.2) (Option.some.inj hs)
    match a, e1, xs, e2 with
    | [], _, [], _ => exact ⟨.why, rfl, True.intro, rfl⟩
  rw [if_neg h5] at hs
  cases hs

theorem calls_of : ∀ {cs : List (List (List Int))} (b : Basho), (∀ c ∈ cs, PyFlat.okCall PySj09.shape c) → PyInside.calls PySj09.bound cs = true →
    ∃ qs : List Call, PyFlat.put cs = flats qs ∧ qs.length = cs.length ∧ (∀ q ∈ qs, Good q) ∧ PyFlat.told (PyFlat.played Sj09Neutral.step b (cs.map PySj09.whole)) = due b qs
  | [], b, _, _ => ⟨[], rfl, rfl, (fun q h => by cases h), rfl⟩
  | c :: cs, b, h, hb => by
    unfold PyInside.calls at hb
    rw [List.all_cons, Bool.and_eq_true] at hb
    obtain ⟨q, e1, g, e2⟩ := call_of (h c List.mem_cons_self) hb.1
    have es : Sj09Neutral.step b (PySj09.whole c) = ((step b q).1, ans1 b q) := by
      unfold Sj09Neutral.step
      rw [e2]
      rfl
    obtain ⟨qs, f1, f2, f3, f4⟩ := calls_of (cs := cs) (step b q).1 (fun d hd => h d (List.mem_cons_of_mem _ hd)) hb.2
    refine ⟨q :: qs, ?_, congrArg (· + 1) f2, fun r hr => ?_, ?_⟩
    · show PyFlat.put1 c ++ PyFlat.put cs = flat1 q ++ flats qs
      rw [e1, f1]
    · rcases (List.mem_cons.mp hr) with rfl | hr
      · exact g
      · exact f3 r hr
    · rw [List.map_cons]
      show PyFlat.told ((Sj09Neutral.step b (PySj09.whole c)).2 :: PyFlat.played Sj09Neutral.step (Sj09Neutral.step b (PySj09.whole c)).1 (cs.map PySj09.whole)) = _
      rw [es]
      show ((ans1 b q).length : Int) :: (ans1 b q ++ PyFlat.told (PyFlat.played Sj09Neutral.step (step b q).1 (cs.map PySj09.whole))) = _
      rw [f4]
      rfl

/-- **what is asked, as calls** -/
theorem asked_calls {l : List Int} (h : PySj09.answers_asked l = true) : ∃ qs : List Call, l = flats qs ∧ qs.length ≤ 60 ∧ (∀ q ∈ qs, Good q) ∧ PySj09.answers l = due init qs := by
  unfold PySj09.answers_asked at h
  cases e : PyFlat.calls PySj09.shape l.length l with
  | none => (rw [e] at h; cases h)
  | some raw =>
    rw [e] at h
    simp only [Bool.and_eq_true, ge_iff_le] at h
    obtain ⟨⟨⟨⟨_, h2⟩, h3⟩, _⟩, _⟩ := h
    obtain ⟨el, ok⟩ := PyFlat.put_calls _ _ _ e
    obtain ⟨qs, f1, f2, f3, f4⟩ := calls_of (cs := raw) init ok h3
    refine ⟨qs, el.trans f1, ?_, f3, ?_⟩
    · rw [f2]
      exact of_decide_eq_true h2
    · unfold PySj09.answers PySj09.calls
      rw [e]
      exact f4
end Rb

/-! What the program goes through, in plain lists, and that it comes to what the specification tells. -/
namespace Rb
open Sj09

def rivals (b : Basho) (i : Nat) : List Nat := (List.range b.count).filter fun k => b.may i k
def firsts (d : List Nat) : List Nat := (List.range d.length).filter fun i => decide (i < d.getD i 0)
theorem mem_rivals {b : Basho} {i k : Nat} : k ∈ rivals b i ↔ k < b.count ∧ b.may i k = true := by
  unfold rivals
  rw [List.mem_filter, List.mem_range]
theorem rivals_nodup (b : Basho) (i : Nat) : (rivals b i).Nodup := List.Nodup.sublist List.filter_sublist List.nodup_range
theorem rivals_len (b : Basho) (i : Nat) : (rivals b i).length ≤ b.count := by
  have := List.length_filter_le (fun k => b.may i k) (List.range b.count)
  rw [List.length_range] at this
  exact this
theorem bouts_firsts {b : Basho} {d : List Nat} (h : d.length = b.count) : b.bouts d = (firsts d).length := by
  unfold Basho.bouts firsts
  rw [h]
theorem cost_firsts {b : Basho} {d : List Nat} (h : d.length = b.count) : b.cost d = ((firsts d).map fun i => b.far i (d.getD i 0)).sum := by
  unfold Basho.cost firsts
  rw [h]

theorem one_nodup {α : Type} (x : α) : [x].Nodup := List.nodup_cons.mpr ⟨List.not_mem_nil, List.nodup_nil⟩
theorem nodup_len {α : Type} [BEq α] [LawfulBEq α] : ∀ {l m : List α}, l.Nodup → (∀ x ∈ l, x ∈ m) → l.length ≤ m.length
  | [], _, _, _ => Nat.zero_le _
  | x :: l, m, h, hs => by
    have hx := (List.nodup_cons.mp h).1
    have mx := hs x List.mem_cons_self
    have ih := nodup_len (l := l) (m := m.erase x) (List.nodup_cons.mp h).2 fun y hy => (List.mem_erase_of_ne (fun e : y = x => hx (by rw [← e]; exact hy))).mpr (hs y (List.mem_cons_of_mem _ hy))
    rw [List.length_erase_of_mem mx] at ih
    have := List.length_pos_of_mem mx
    rw [List.length_cons]
    omega
/-! ### how many days there can be -/
def tel : Nat → Nat
  | 0 => 1
  | 1 => 1
  | n + 2 => tel (n + 1) + (n + 1) * tel n
theorem flat_len {α β : Type} (f : α → List β) (m : Nat) : ∀ l : List α, (∀ x ∈ l, (f x).length ≤ m) → (l.flatMap f).length ≤ l.length * m
  | [], _ => by simp
  | x :: l, h => by
    rw [List.flatMap_cons, List.length_append, List.length_cons, Nat.add_mul, Nat.one_mul]
    have h1 := h x List.mem_cons_self
    have h2 := flat_len f m l fun y hy => h y (List.mem_cons_of_mem _ hy)
    omega
theorem without_len {r : List Nat} {k : Nat} (h : r.Nodup) (hk : k ∈ r) : (r.filter fun x => x != k).length + 1 = r.length := by
  rw [← List.Nodup.erase_eq_filter h k, List.length_erase_of_mem hk]
  have hpos := List.length_pos_of_mem hk
  omega
theorem days_len (b : Basho) : ∀ (n : Nat) (left l : List Nat), left.length ≤ n → left.Nodup → (b.days n left l).length ≤ tel left.length := by
  intro n
  induction n with
  | zero =>
    intro left l h _
    have e : left.length = 0 := by omega
    rw [e]
    exact Nat.le_refl 1
  | succ n ih =>
    intro left l h hd
    match left, h, hd with
    | [], _, _ => exact Nat.le_refl 1
    | i :: r, h, hd =>
      have hr : r.Nodup := (List.nodup_cons.mp hd).2
      have hlen : r.length ≤ n := by
        rw [List.length_cons] at h
        omega
      show (b.days n r l ++ (r.filter fun k => b.may i k).flatMap fun k => b.days n (r.filter fun x => x != k) ((l.set i k).set k i)).length ≤ _
      rw [List.length_append, List.length_cons]
      have h1 := ih r l hlen hr
      match r, hr, hlen, h1 with
      | [], _, _, h1 => exact (show ((b.days n [] l).length + 0 ≤ 1) from h1)
      | j :: r', hr, hlen, h1 =>
        have h2 := flat_len (fun k => b.days n ((j :: r').filter fun x => x != k) ((l.set i k).set k i)) (tel r'.length) ((j :: r').filter fun k => b.may i k) fun k hk => by
          have hk' := (List.mem_filter.mp hk).1
          have e := without_len hr hk'
          rw [List.length_cons] at e hlen
          have q := ih ((j :: r').filter fun x => x != k) ((l.set i k).set k i) (by omega) (List.Nodup.sublist List.filter_sublist hr)
          have e2 : ((j :: r').filter fun x => x != k).length = r'.length := by omega
          rw [e2] at q
          exact q
        have h3 := List.length_filter_le (fun k => b.may i k) (j :: r')
        have h4 := Nat.mul_le_mul_right (tel r'.length) h3
        rw [List.length_cons] at h1 h4 ⊢
        show _ ≤ tel (r'.length + 1) + (r'.length + 1) * tel r'.length
        omega
theorem tel_mono : ∀ n, tel n ≤ tel (n + 1)
  | 0 => Nat.le_refl 1
  | n + 1 => by
    show tel (n + 1) ≤ tel (n + 1) + (n + 1) * tel n
    omega
theorem tel_le {m : Nat} : ∀ {n : Nat}, m ≤ n → tel m ≤ tel n
  | 0, h => by
    have e : m = 0 := by omega
    rw [e]
    exact Nat.le_refl _
  | n + 1, h => by
    by_cases e : m = n + 1
    · rw [e]
      exact Nat.le_refl _
    · exact Nat.le_trans (tel_le (by omega)) (tel_mono n)
theorem all_len {b : Basho} (h : b.count ≤ 8) : b.all_.length ≤ 764 := by
  have q := days_len b b.count (List.range b.count) (List.range b.count) (by simp) List.nodup_range
  rw [List.length_range] at q
  exact Nat.le_trans q (tel_le h)
theorem valid_len {b : Basho} (h : b.count ≤ 8) {L : List (List Nat)} (hn : L.Nodup) (hL : ∀ d ∈ L, Valid b d) : L.length ≤ 764 :=
  Nat.le_trans (nodup_len hn fun d hd => (mem_all b d).mpr (hL d hd)) (all_len h)

/-! ### the days, bout by bout -/
def withBout (d : List Nat) (i k : Nat) : List Nat := (d.set i k).set k i
def freeOf (L : List (List Nat)) (i k : Nat) : List (List Nat) := L.filter fun d => decide (d.getD i 0 = i) && decide (d.getD k 0 = k)
def dayStep (i : Nat) (L : List (List Nat)) (k : Nat) : List (List Nat) := if i < k then L ++ (freeOf L i k).map fun d => withBout d i k else L
def dayRow (b : Basho) (i : Nat) (L : List (List Nat)) (j : Nat) : List (List Nat) := ((rivals b i).take j).foldl (dayStep i) L
def dayUpTo (b : Basho) : Nat → List (List Nat)
  | 0 => [List.range b.count]
  | i + 1 => dayRow b i (dayUpTo b i) (rivals b i).length
theorem dayRow_succ {b : Basho} {i j k : Nat} {L : List (List Nat)} (h : (rivals b i)[j]? = some k) : dayRow b i L (j + 1) = dayStep i (dayRow b i L j) k := by
  unfold dayRow
  have e : (rivals b i).take (j + 1) = (rivals b i).take j ++ [k] := by
    rw [List.take_add_one, h]
    rfl
  rw [e, List.foldl_append]
  rfl
/-- the days whose bouts are among those gone through -/
structure DI (b : Basho) (D : Nat → Nat → Prop) (L : List (List Nat)) : Prop where
  nodup : L.Nodup
  mem : ∀ d, d ∈ L ↔ Valid b d ∧ ∀ i, i < b.count → i < d.getD i 0 → D i (d.getD i 0)
theorem getD_with {d : List Nat} {i k j : Nat} (hi : i < d.length) (hk : k < d.length) : (withBout d i k).getD j 0 = if j = k then i else if j = i then k else d.getD j 0 := by
  unfold withBout
  rw [getD_set, List.length_set]
  by_cases h1 : j = k
  · rw [if_pos ⟨h1.symm, h1 ▸ hk⟩, if_pos h1]
  · rw [if_neg (fun q => h1 q.1.symm), if_neg h1, getD_set]
    by_cases h2 : j = i
    · rw [if_pos ⟨h2.symm, h2 ▸ hi⟩, if_pos h2]
    · rw [if_neg (fun q => h2 q.1.symm), if_neg h2]
theorem with_len (d : List Nat) (i k : Nat) : (withBout d i k).length = d.length := by
  unfold withBout
  rw [List.length_set, List.length_set]
theorem with_back {d : List Nat} {i k : Nat} (hi : i < d.length) (hk : k < d.length) (h1 : d.getD i 0 = k) (h2 : d.getD k 0 = i) : withBout (withBout d i i) k k = withBout (withBout d i i) k k ∧ withBout ((d.set i i).set k k) i k = d := by
  refine ⟨rfl, ext_getD (by rw [with_len, List.length_set, List.length_set]) fun j hj => ?_⟩
  rw [getD_with (by rw [List.length_set, List.length_set]; exact hi) (by rw [List.length_set, List.length_set]; exact hk)]
  by_cases e1 : j = k
  · rw [if_pos e1, e1, h2]
  · rw [if_neg e1]
    by_cases e2 : j = i
    · rw [if_pos e2, e2, h1]
    · rw [if_neg e2, getD_set, if_neg (fun q => e1 q.1.symm), getD_set, if_neg (fun q => e2 q.1.symm)]
theorem di_one (b : Basho) : DI b (fun _ _ => False) [List.range b.count] := by
  refine ⟨one_nodup _, fun d => ?_⟩
  rw [List.mem_singleton]
  constructor
  · rintro rfl
    exact ⟨⟨List.length_range, fun i hi => by rw [range_getD hi]; exact ⟨hi, range_getD hi⟩, fun i hi => .inl (range_getD hi)⟩, fun i hi h => by rw [range_getD hi] at h; omega⟩
  · rintro ⟨v, h⟩
    refine ext_getD (by rw [v.len, List.length_range]) fun i hi => ?_
    rw [v.len] at hi
    rw [range_getD hi]
    have q := v.back i hi
    have n1 := h i hi
    have n2 := h (d.getD i 0) q.1
    rw [q.2] at n2
    rcases Nat.lt_trichotomy i (d.getD i 0) with z | z | z
    · exact absurd z n1
    · exact z.symm
    · exact absurd z n2
theorem di_congr {b : Basho} {D E : Nat → Nat → Prop} {L : List (List Nat)} (h : DI b D L) (e : ∀ i k, i < b.count → k < b.count → i < k → b.may i k = true → (D i k ↔ E i k)) : DI b E L := by
  refine ⟨h.nodup, fun d => ?_⟩
  rw [h.mem d]
  constructor <;> rintro ⟨v, q⟩ <;> refine ⟨v, fun i hi hlt => ?_⟩
  · have hm := (v.may i hi).resolve_left (by omega)
    exact (e i _ hi (v.back i hi).1 hlt hm).mp (q i hi hlt)
  · have hm := (v.may i hi).resolve_left (by omega)
    exact (e i _ hi (v.back i hi).1 hlt hm).mpr (q i hi hlt)
theorem mem_free {L : List (List Nat)} {i k : Nat} {d : List Nat} : d ∈ freeOf L i k ↔ d ∈ L ∧ d.getD i 0 = i ∧ d.getD k 0 = k := by
  unfold freeOf
  rw [List.mem_filter, Bool.and_eq_true, decide_eq_true_eq, decide_eq_true_eq]
/-- one bout more -/
theorem di_add {b : Basho} {D : Nat → Nat → Prop} {L : List (List Nat)} {i k : Nat} (h : DI b D L) (hik : i < k) (hk : k < b.count) (hm : b.may i k = true) (hn : ¬ D i k) :
    DI b (fun x y => D x y ∨ (x = i ∧ y = k)) (L ++ (freeOf L i k).map fun d => withBout d i k) := by
  have hi : i < b.count := by omega
  have new : ∀ d ∈ freeOf L i k, Valid b (withBout d i k) ∧ ∀ x, x < b.count → x < (withBout d i k).getD x 0 → D x ((withBout d i k).getD x 0) ∨ (x = i ∧ (withBout d i k).getD x 0 = k) := by
    intro d hd
    obtain ⟨hd, e1, e2⟩ := mem_free.mp hd
    obtain ⟨v, q⟩ := (h.mem d).mp hd
    have g : ∀ j, (withBout d i k).getD j 0 = if j = k then i else if j = i then k else d.getD j 0 := fun j => getD_with (by rw [v.len]; exact hi) (by rw [v.len]; exact hk)
    refine ⟨⟨by rw [with_len]; exact v.len, fun x hx => ?_, fun x hx => ?_⟩, fun x hx hlt => ?_⟩
    · rw [g x]
      by_cases x1 : x = k
      · rw [if_pos x1, g i, if_neg (by omega), if_pos rfl]
        exact ⟨hi, x1.symm⟩
      · rw [if_neg x1]
        by_cases x2 : x = i
        · rw [if_pos x2, g k, if_pos rfl]
          exact ⟨hk, x2.symm⟩
        · rw [if_neg x2]
          have w := v.back x hx
          refine ⟨w.1, ?_⟩
          rw [g, if_neg, if_neg]
          · exact w.2
          · intro z
            rw [z, e1] at w
            exact x2 w.2.symm
          · intro z
            rw [z, e2] at w
            exact x1 w.2.symm
    · rw [g x]
      by_cases x1 : x = k
      · rw [if_pos x1, x1, may_comm]
        exact .inr hm
      · rw [if_neg x1]
        by_cases x2 : x = i
        · rw [if_pos x2, x2]
          exact .inr hm
        · rw [if_neg x2]
          exact v.may x hx
    · rw [g x] at hlt ⊢
      by_cases x1 : x = k
      · rw [if_pos x1] at hlt
        omega
      · rw [if_neg x1] at hlt ⊢
        by_cases x2 : x = i
        · rw [if_pos x2]
          exact .inr ⟨x2, rfl⟩
        · rw [if_neg x2] at hlt ⊢
          exact .inl (q x hx hlt)
  refine ⟨?_, fun d => ?_⟩
  · rw [List.nodup_append]
    refine ⟨h.nodup, ?_, ?_⟩
    · refine List.pairwise_map.mpr ?_
      have hf : (freeOf L i k).Nodup := List.Nodup.sublist List.filter_sublist h.nodup
      refine List.Pairwise.imp_of_mem ?_ hf
      intro d e hd he hne q
      refine hne ?_
      obtain ⟨hd, d1, d2⟩ := mem_free.mp hd
      obtain ⟨he, c1, c2⟩ := mem_free.mp he
      have vd := ((h.mem d).mp hd).1
      have ve := ((h.mem e).mp he).1
      refine ext_getD (by rw [vd.len, ve.len]) fun j hj => ?_
      have z := congrArg (fun l => l.getD j 0) q
      have z : (withBout d i k).getD j 0 = (withBout e i k).getD j 0 := z
      rw [getD_with (by rw [vd.len]; exact hi) (by rw [vd.len]; exact hk), getD_with (by rw [ve.len]; exact hi) (by rw [ve.len]; exact hk)] at z
      by_cases j1 : j = k
      · rw [j1, d2, c2]
      · rw [if_neg j1, if_neg j1] at z
        by_cases j2 : j = i
        · rw [j2, d1, c1]
        · rw [if_neg j2, if_neg j2] at z
          exact z
    · intro x hx y hy q
      obtain ⟨d, hd, rfl⟩ := List.mem_map.mp hy
      have v := ((h.mem d).mp (mem_free.mp hd).1).1
      have g : (withBout d i k).getD i 0 = k := by
        rw [getD_with (by rw [v.len]; exact hi) (by rw [v.len]; exact hk), if_neg (by omega), if_pos rfl]
      have w := ((h.mem x).mp hx).2 i hi
      rw [q, g] at w
      exact hn (w hik)
  · rw [List.mem_append, List.mem_map]
    constructor
    · rintro (hd | ⟨e, he, rfl⟩)
      · obtain ⟨v, q⟩ := (h.mem d).mp hd
        exact ⟨v, fun x hx hlt => .inl (q x hx hlt)⟩
      · exact new e he
    · rintro ⟨v, q⟩
      by_cases c : d.getD i 0 = k
      · right
        have c2 : d.getD k 0 = i := by rw [← c]; exact (v.back i hi).2
        have il : i < d.length := by rw [v.len]; exact hi
        have kl : k < d.length := by rw [v.len]; exact hk
        have g : ∀ j, ((d.set i i).set k k).getD j 0 = if j = k then k else if j = i then i else d.getD j 0 := fun j => by
          rw [getD_set, List.length_set]
          by_cases h1 : j = k
          · rw [if_pos ⟨h1.symm, h1 ▸ kl⟩, if_pos h1]
          · rw [if_neg (fun q => h1 q.1.symm), if_neg h1, getD_set]
            by_cases h2 : j = i
            · rw [if_pos ⟨h2.symm, h2 ▸ il⟩, if_pos h2]
            · rw [if_neg (fun q => h2 q.1.symm), if_neg h2]
        refine ⟨(d.set i i).set k k, mem_free.mpr ⟨(h.mem _).mpr ⟨⟨by rw [List.length_set, List.length_set]; exact v.len, fun x hx => ?_, fun x hx => ?_⟩, fun x hx hlt => ?_⟩, ?_, ?_⟩, (with_back il kl c c2).2⟩
        · rw [g x]
          by_cases x1 : x = k
          · rw [if_pos x1, g k, if_pos rfl]
            exact ⟨hk, x1.symm⟩
          · rw [if_neg x1]
            by_cases x2 : x = i
            · rw [if_pos x2, g i, if_neg (by omega), if_pos rfl]
              exact ⟨hi, x2.symm⟩
            · rw [if_neg x2]
              have w := v.back x hx
              refine ⟨w.1, ?_⟩
              rw [g, if_neg, if_neg]
              · exact w.2
              · intro z
                rw [z, c] at w
                exact x1 w.2.symm
              · intro z
                rw [z, c2] at w
                exact x2 w.2.symm
        · rw [g x]
          by_cases x1 : x = k
          · rw [if_pos x1, x1]
            exact .inl rfl
          · rw [if_neg x1]
            by_cases x2 : x = i
            · rw [if_pos x2, x2]
              exact .inl rfl
            · rw [if_neg x2]
              exact v.may x hx
        · rw [g x] at hlt ⊢
          by_cases x1 : x = k
          · rw [if_pos x1] at hlt
            omega
          · rw [if_neg x1] at hlt ⊢
            by_cases x2 : x = i
            · rw [if_pos x2] at hlt
              omega
            · rw [if_neg x2] at hlt ⊢
              rcases q x hx hlt with z | z
              · exact z
              · exact absurd z.1 x2
        · rw [g i, if_neg (by omega), if_pos rfl]
        · rw [g k, if_pos rfl]
      · left
        refine (h.mem d).mpr ⟨v, fun x hx hlt => ?_⟩
        rcases q x hx hlt with z | z
        · exact z
        · exact absurd (z.1 ▸ z.2) c
def DRow (b : Basho) (i j : Nat) (x y : Nat) : Prop := x < i ∨ (x = i ∧ y ∈ (rivals b i).take j)
theorem di_row {b : Basho} {i : Nat} {L : List (List Nat)} (hi : i < b.count) (h : DI b (fun x _ => x < i) L) : ∀ j, j ≤ (rivals b i).length → DI b (DRow b i j) (dayRow b i L j)
  | 0, _ => di_congr h fun x y _ _ _ _ => by
    unfold DRow
    simp
  | j + 1, hj => by
    have ih := di_row hi h j (by omega)
    have e : (rivals b i)[j]? = some (rivals b i)[j] := List.getElem?_eq_getElem (by omega)
    rw [dayRow_succ e]
    generalize hk : (rivals b i)[j] = k at e
    have mk : k ∈ rivals b i := List.mem_of_getElem? e
    have tk : (rivals b i).take (j + 1) = (rivals b i).take j ++ [k] := by
      rw [List.take_add_one, e]
      rfl
    have mk' := mem_rivals.mp mk
    have nk : ¬ k ∈ (rivals b i).take j := by
      have nd := (rivals_nodup b i).sublist (List.take_sublist (j + 1) _)
      rw [tk, List.nodup_append] at nd
      exact fun z => nd.2.2 k z k (List.mem_singleton.mpr rfl) rfl
    unfold dayStep
    by_cases c : i < k
    · rw [if_pos c]
      refine di_congr (di_add ih c mk'.1 mk'.2 (fun z => ?_)) fun x y _ _ _ _ => ?_
      · rcases z with z | z
        · omega
        · exact nk z.2
      · unfold DRow
        rw [tk, List.mem_append, List.mem_singleton]
        constructor
        · rintro ((z | z) | z)
          · exact .inl z
          · exact .inr ⟨z.1, .inl z.2⟩
          · exact .inr ⟨z.1, .inr z.2⟩
        · rintro (z | ⟨z, z2 | z2⟩)
          · exact .inl (.inl z)
          · exact .inl (.inr ⟨z, z2⟩)
          · exact .inr ⟨z, z2⟩
    · rw [if_neg c]
      refine di_congr ih fun x y _ _ lt _ => ?_
      unfold DRow
      rw [tk, List.mem_append, List.mem_singleton]
      constructor
      · rintro (z | z)
        · exact .inl z
        · exact .inr ⟨z.1, .inl z.2⟩
      · rintro (z | ⟨z, z2 | z2⟩)
        · exact .inl z
        · exact .inr ⟨z, z2⟩
        · omega
theorem di_upTo (b : Basho) : ∀ i, i ≤ b.count → DI b (fun x _ => x < i) (dayUpTo b i)
  | 0, _ => di_congr (di_one b) fun x y _ _ _ _ => by simp
  | i + 1, hi => by
    refine di_congr (di_row hi (di_upTo b i (by omega)) _ (Nat.le_refl _)) fun x y _ hy lt hm => ?_
    unfold DRow
    rw [List.take_length]
    constructor
    · rintro (z | z) <;> omega
    · intro z
      by_cases e : x = i
      · exact .inr ⟨e, mem_rivals.mpr ⟨hy, e ▸ hm⟩⟩
      · exact .inl (by omega)
theorem di_all {b : Basho} : (dayUpTo b b.count).Nodup ∧ ∀ d, d ∈ dayUpTo b b.count ↔ Valid b d := by
  have h := di_upTo b b.count (Nat.le_refl _)
  refine ⟨h.nodup, fun d => ?_⟩
  rw [h.mem d]
  exact ⟨fun z => z.1, fun z => ⟨z, fun i hi _ => hi⟩⟩
theorem di_valid {b : Basho} {D : Nat → Nat → Prop} {L : List (List Nat)} (h : DI b D L) {d : List Nat} (hd : d ∈ L) : Valid b d := ((h.mem d).mp hd).1
theorem di_len {b : Basho} {D : Nat → Nat → Prop} {L : List (List Nat)} (h : DI b D L) (h8 : b.count ≤ 8) : L.length ≤ 764 := valid_len h8 h.nodup fun _ hd => di_valid h hd

/-! ### the best of them -/
theorem best_mirror {b : Basho} {L : List (List Nat)} (hn : L.Nodup) (hL : ∀ d, d ∈ L ↔ Valid b d) {m c : Nat} {row : List Nat} (m1 : ∃ d ∈ L, b.bouts d = m) (m2 : ∀ d ∈ L, b.bouts d ≤ m)
    (c1 : ∃ d ∈ L.filter fun d => decide (b.bouts d = m), b.cost d = c) (c2 : ∀ d ∈ L.filter fun d => decide (b.bouts d = m), c ≤ b.cost d)
    (r1 : row ∈ (L.filter fun d => decide (b.bouts d = m)).filter fun d => decide (b.cost d = c)) (r2 : ∀ d ∈ (L.filter fun d => decide (b.bouts d = m)).filter fun d => decide (b.cost d = c), earlier d row = false) :
    b.best = some ⟨m, c, ((L.filter fun d => decide (b.bouts d = m)).filter fun d => decide (b.cost d = c)).length, row⟩ := by
  have mm : ∀ d, d ∈ (L.filter fun d => decide (b.bouts d = m)) ↔ d ∈ L ∧ b.bouts d = m := fun d => by rw [List.mem_filter, decide_eq_true_eq]
  have cc : ∀ d, d ∈ ((L.filter fun d => decide (b.bouts d = m)).filter fun d => decide (b.cost d = c)) ↔ (d ∈ L ∧ b.bouts d = m) ∧ b.cost d = c := fun d => by rw [List.mem_filter, mm, decide_eq_true_eq]
  refine best_of_valid hn hL ⟨((cc row).mp r1).1.1, ((cc row).mp r1).1.2, ((cc row).mp r1).2, fun d hd => ?_, ?_, fun d hd e1 e2 => ?_⟩
  · rw [better_false]
    have q := m2 d hd
    by_cases e : b.bouts d = m
    · exact .inr ⟨e, c2 d ((mm d).mpr ⟨hd, e⟩)⟩
    · exact .inl (by show b.bouts d < m; omega)
  · show ((L.filter fun d => decide (b.bouts d = m)).filter fun d => decide (b.cost d = c)).length = _
    rw [List.filter_filter]
    refine congrArg List.length ?_
    refine List.filter_congr fun d _ => ?_
    unfold same
    rw [Bool.eq_iff_iff, Bool.and_eq_true, decide_eq_true_eq, decide_eq_true_eq, decide_eq_true_eq]
    exact ⟨fun z => ⟨z.2, z.1⟩, fun z => ⟨z.2, z.1⟩⟩
  · exact r2 d ((cc d).mpr ⟨⟨hd, e1⟩, e2⟩)

/-! ### groups -/
/-- who counts as placed when i's turn comes -/
structure PI (b : Basho) (s i : Nat) (pl : List Bool) : Prop where
  len : pl.length = b.count
  iff : ∀ j, j < b.count → (pl.getD j false = true ↔ s.testBit j = true ∨ ∃ k, k < i ∧ s.testBit k = false ∧ Reach b s k j)
def grow1 (pl : List Bool) (g : List Nat) (o : Nat) : List Nat := if (!pl.getD o false && !g.contains o) = true then g ++ [o] else g
def grow (pl : List Bool) (row : List Nat) (g : List Nat) : List Nat := row.foldl (grow1 pl) g
structure GI (b : Basho) (s i : Nat) (pl : List Bool) (g : List Nat) (at_ : Nat) : Prop where
  nodup : g.Nodup
  head : i ∈ g
  reach : ∀ j ∈ g, j < b.count ∧ Reach b s i j
  done : ∀ a x, a < at_ → g[a]? = some x → ∀ k ∈ rivals b x, pl.getD k false = true ∨ k ∈ g
theorem gi_len {b : Basho} {s i : Nat} {pl : List Bool} {g : List Nat} {a : Nat} (h : GI b s i pl g a) : g.length ≤ b.count := by
  have q := nodup_len (m := List.range b.count) h.nodup fun j hj => List.mem_range.mpr (h.reach j hj).1
  rw [List.length_range] at q
  exact q
theorem gi_init {b : Basho} {s i : Nat} {pl : List Bool} (hi : i < b.count) : GI b s i pl [i] 0 :=
  ⟨one_nodup _, List.mem_singleton.mpr rfl, fun j hj => by rw [List.mem_singleton.mp hj]; exact ⟨hi, .refl⟩, fun a x h => absurd h (Nat.not_lt_zero _)⟩
/-- what one row adds -/
structure Grown (b : Basho) (s i : Nat) (pl : List Bool) (g0 g : List Nat) (row : List Nat) : Prop where
  pre : ∃ t, g = g0 ++ t
  nodup : g.Nodup
  reach : ∀ j ∈ g, j < b.count ∧ Reach b s i j
  all : ∀ k ∈ row, pl.getD k false = true ∨ k ∈ g
theorem grown_step {b : Basho} {s i : Nat} {pl : List Bool} {g0 g : List Nat} {row : List Nat} {x o : Nat} (hp : ∀ j, j < b.count → s.testBit j = true → pl.getD j false = true) (h : Grown b s i pl g0 g row) (hx : Reach b s i x) (ho : o ∈ rivals b x) :
    Grown b s i pl g0 (grow1 pl g o) (row ++ [o]) := by
  obtain ⟨⟨t, rfl⟩, nd, rc, al⟩ := h
  obtain ⟨o1, o2⟩ := mem_rivals.mp ho
  unfold grow1
  by_cases c : (!pl.getD o false && !(g0 ++ t).contains o) = true
  · rw [if_pos c]
    rw [Bool.and_eq_true, Bool.not_eq_true', Bool.not_eq_true'] at c
    have no : ¬ o ∈ g0 ++ t := fun z => by
      rw [List.contains_iff_mem.mpr z] at c
      exact absurd c.2 (by decide)
    have na : s.testBit o = false := by
      cases z : s.testBit o with
      | false => rfl
      | true => rw [hp o o1 z] at c; exact absurd c.1 (by decide)
    refine ⟨⟨t ++ [o], List.append_assoc _ _ _⟩, ?_, fun j hj => ?_, fun k hk => ?_⟩
    · rw [List.nodup_append]
      exact ⟨nd, one_nodup _, fun y hy z hz e => no (by rw [List.mem_singleton.mp hz] at e; rw [← e]; exact hy)⟩
    · rcases List.mem_append.mp hj with hj | hj
      · exact rc j hj
      · rw [List.mem_singleton.mp hj]
        exact ⟨o1, hx.step o1 na o2⟩
    · rcases (List.mem_append.mp hk) with hk | hk
      · exact (al k hk).imp id fun z => List.mem_append_left _ z
      · exact .inr (List.mem_append_right _ hk)
  · rw [if_neg c]
    refine ⟨⟨t, rfl⟩, nd, rc, fun k hk => ?_⟩
    rcases (List.mem_append.mp hk) with hk | hk
    · exact al k hk
    · rw [List.mem_singleton.mp hk]
      cases z : pl.getD o false with
      | true => exact .inl rfl
      | false =>
        right
        cases z2 : (g0 ++ t).contains o with
        | true => exact List.contains_iff_mem.mp z2
        | false => rw [z, z2] at c; exact absurd rfl c
theorem grown_row {b : Basho} {s i : Nat} {pl : List Bool} {g : List Nat} {a x : Nat} (hp : ∀ j, j < b.count → s.testBit j = true → pl.getD j false = true) (h : GI b s i pl g a) (hx : Reach b s i x) :
    ∀ j, j ≤ (rivals b x).length → Grown b s i pl g (grow pl ((rivals b x).take j) g) ((rivals b x).take j)
  | 0, _ => ⟨⟨[], (List.append_nil _).symm⟩, h.nodup, h.reach, fun k hk => by rw [List.take_zero] at hk; cases hk⟩
  | j + 1, hj => by
    have ih := grown_row hp h hx j (by omega)
    have e : (rivals b x)[j]? = some (rivals b x)[j] := List.getElem?_eq_getElem (by omega)
    have tk : (rivals b x).take (j + 1) = (rivals b x).take j ++ [(rivals b x)[j]] := by
      rw [List.take_add_one, e]
      rfl
    rw [tk]
    unfold grow
    rw [List.foldl_append]
    exact grown_step hp ih hx (List.mem_of_getElem? e)
theorem grow_succ {b : Basho} {pl : List Bool} {x j o : Nat} {g : List Nat} (h : (rivals b x)[j]? = some o) : grow pl ((rivals b x).take (j + 1)) g = grow1 pl (grow pl ((rivals b x).take j) g) o := by
  have tk : (rivals b x).take (j + 1) = (rivals b x).take j ++ [o] := by
    rw [List.take_add_one, h]
    rfl
  unfold grow
  rw [tk, List.foldl_append]
  rfl
theorem gi_turn {b : Basho} {s i : Nat} {pl : List Bool} {g : List Nat} {a x : Nat} (hp : ∀ j, j < b.count → s.testBit j = true → pl.getD j false = true) (h : GI b s i pl g a) (hx : g[a]? = some x) : GI b s i pl (grow pl (rivals b x) g) (a + 1) := by
  have mx : x ∈ g := List.mem_of_getElem? hx
  have q := grown_row hp h (h.reach x mx).2 _ (Nat.le_refl _)
  rw [List.take_length] at q
  obtain ⟨⟨t, et⟩, nd, rc, al⟩ := q
  rw [et] at nd rc al ⊢
  refine ⟨nd, List.mem_append_left _ h.head, rc, fun c y hc hy k hk => ?_⟩
  have cl : a < g.length := (List.getElem?_eq_some_iff.mp hx).1
  rw [List.getElem?_append_left (by omega)] at hy
  by_cases e : c = a
  · rw [e, hx] at hy
    cases hy
    exact al k hk
  · exact (h.done c y (by omega) hy k hk).imp id fun z => List.mem_append_left _ z
theorem gi_done {b : Basho} {s i : Nat} {pl : List Bool} {g : List Nat} {a : Nat} (p : PI b s i pl) (hi : i < b.count) (hpi : pl.getD i false = false) (h : GI b s i pl g a) (ha : g.length ≤ a) : ∀ j, j ∈ g ↔ Reach b s i j := by
  have ai : s.testBit i = false := by
    cases z : s.testBit i with
    | false => rfl
    | true => rw [(p.iff i hi).mpr (.inl z)] at hpi; cases hpi
  intro j
  refine ⟨fun hj => (h.reach j hj).2, fun r => ?_⟩
  induction r with
  | refl => exact h.head
  | step r1 k1 k2 k3 ih =>
    obtain ⟨c, hc⟩ := List.mem_iff_getElem?.mp ih
    have cl := (List.getElem?_eq_some_iff.mp hc).1
    rcases h.done c _ (by omega) hc _ (mem_rivals.mpr ⟨k1, k3⟩) with z | z
    · rcases (p.iff _ k1).mp z with z | ⟨y, y1, y2, y3⟩
      · rw [k2] at z; cases z
      · have rik : Reach b s i _ := r1.step k1 k2 k3
        have ryi := y3.trans (rik.symm hi ai)
        rw [(p.iff i hi).mpr (.inr ⟨y, y1, y2, ryi⟩)] at hpi
        cases hpi
    · exact z
theorem away_pl {b : Basho} {s i : Nat} {pl : List Bool} (p : PI b s i pl) : ∀ j, j < b.count → s.testBit j = true → pl.getD j false = true := fun j hj z => (p.iff j hj).mpr (.inl z)
theorem pi_zero (b : Basho) (s : Nat) : PI b s 0 ((List.range b.count).map fun j => s.testBit j) := by
  refine ⟨by simp, fun j hj => ?_⟩
  rw [List.getD_eq_getElem?_getD, List.getElem?_map, List.getElem?_range hj]
  simp
theorem lead_iff {b : Basho} {s i : Nat} {pl : List Bool} (p : PI b s i pl) (hi : i < b.count) : Lead b s i ↔ pl.getD i false = false := by
  have q := p.iff i hi
  unfold Lead
  constructor
  · rintro ⟨h1, h2⟩
    cases z : pl.getD i false with
    | false => rfl
    | true =>
      rcases q.mp z with z | ⟨k, k1, k2, k3⟩
      · rw [h1] at z; cases z
      · exact absurd k3 (h2 k k1 k2)
  · intro z
    have n : ¬ (s.testBit i = true ∨ ∃ k, k < i ∧ s.testBit k = false ∧ Reach b s k i) := fun y => by
      rw [q.mpr y] at z; cases z
    refine ⟨?_, fun k k1 k2 k3 => n (.inr ⟨k, k1, k2, k3⟩)⟩
    cases y : s.testBit i with
    | false => rfl
    | true => exact absurd (.inl y) n
/-- one who is placed already -/
theorem pi_skip {b : Basho} {s i : Nat} {pl : List Bool} (p : PI b s i pl) (hi : i < b.count) (h : pl.getD i false = true) : PI b s (i + 1) pl ∧ oddAt b s i = 0 := by
  have q := (p.iff i hi).mp h
  refine ⟨⟨p.len, fun j hj => ?_⟩, ?_⟩
  · rw [p.iff j hj]
    constructor
    · rintro (z | ⟨k, k1, k2, k3⟩)
      · exact .inl z
      · exact .inr ⟨k, by omega, k2, k3⟩
    · rintro (z | ⟨k, k1, k2, k3⟩)
      · exact .inl z
      · by_cases e : k = i
        · subst e
          rcases q with q | ⟨y, y1, y2, y3⟩
          · rw [k2] at q; cases q
          · exact .inr ⟨y, y1, y2, y3.trans k3⟩
        · exact .inr ⟨k, by omega, k2, k3⟩
  · unfold oddAt
    rw [if_neg]
    intro z
    have y := (lead_iff p hi).mp ((leadB_iff hi).mp z)
    rw [h] at y; cases y
def place (g : List Nat) (pl : List Bool) : List Bool := g.foldl (fun l m => l.set m true) pl
theorem getD_setB (l : List Bool) (i j : Nat) (hi : i < l.length) : (l.set i true).getD j false = if i = j then true else l.getD j false := by
  rw [List.getD_eq_getElem?_getD, List.getD_eq_getElem?_getD, List.getElem?_set]
  by_cases h : i = j
  · subst h
    simp [hi]
  · simp [h]
theorem place_len (g : List Nat) : ∀ pl : List Bool, (place g pl).length = pl.length := by
  induction g with
  | nil => intro pl; rfl
  | cons x g ih =>
    intro pl
    show (place g (pl.set x true)).length = _
    rw [ih, List.length_set]
theorem place_getD (g : List Nat) : ∀ (pl : List Bool) (j : Nat), (∀ x ∈ g, x < pl.length) → ((place g pl).getD j false = true ↔ pl.getD j false = true ∨ j ∈ g) := by
  induction g with
  | nil => intro pl j _; simp [place]
  | cons x g ih =>
    intro pl j h
    show (place g (pl.set x true)).getD j false = true ↔ _
    rw [ih _ _ (fun y hy => by rw [List.length_set]; exact h y (List.mem_cons_of_mem _ hy)), getD_setB _ _ _ (h x List.mem_cons_self), List.mem_cons]
    by_cases e : x = j
    · rw [if_pos e]
      exact ⟨fun _ => .inr (.inl e.symm), fun _ => .inl rfl⟩
    · rw [if_neg e]
      constructor
      · rintro (z | z)
        · exact .inl z
        · exact .inr (.inr z)
      · rintro (z | z | z)
        · exact .inl z
        · exact absurd z.symm e
        · exact .inr z
/-- a new group -/
theorem pi_group {b : Basho} {s i : Nat} {pl : List Bool} {g : List Nat} (p : PI b s i pl) (hi : i < b.count) (h : pl.getD i false = false) (nd : g.Nodup) (hg : ∀ j, j ∈ g ↔ Reach b s i j) : PI b s (i + 1) (place g pl) ∧ oddAt b s i = g.length % 2 := by
  have ld := (lead_iff p hi).mpr h
  have lt : ∀ x ∈ g, x < pl.length := fun x hx => by
    rw [p.len]
    exact (((hg x).mp hx).lt hi ld.1).1
  refine ⟨⟨by rw [place_len]; exact p.len, fun j hj => ?_⟩, ?_⟩
  · rw [place_getD _ _ _ lt, p.iff j hj, hg j]
    constructor
    · rintro ((z | ⟨k, k1, k2, k3⟩) | z)
      · exact .inl z
      · exact .inr ⟨k, by omega, k2, k3⟩
      · exact .inr ⟨i, by omega, ld.1, z⟩
    · rintro (z | ⟨k, k1, k2, k3⟩)
      · exact .inl (.inl z)
      · by_cases e : k = i
        · exact .inr (e ▸ k3)
        · exact .inl (.inr ⟨k, by omega, k2, k3⟩)
  · unfold oddAt
    rw [if_pos ((leadB_iff hi).mpr ld), reach_length hi ld.1 nd hg]
def oddUpTo (b : Basho) (s i : Nat) : Nat := ((List.range i).map (oddAt b s)).sum
theorem oddUpTo_succ (b : Basho) (s i : Nat) : oddUpTo b s (i + 1) = oddUpTo b s i + oddAt b s i := by
  unfold oddUpTo
  rw [List.range_succ, List.map_append, List.sum_append]
  rfl
theorem oddUpTo_all (b : Basho) (s : Nat) : oddUpTo b s b.count = b.odds s := (odds_sum b s).symm
/-! ### why -/
def whyUpTo (b : Basho) (n : Nat) : Nat × Nat := (List.range n).foldl (fun m s => if m.1 < b.short s then (b.short s, s) else m) (0, 0)
theorem whyUpTo_succ (b : Basho) (n : Nat) : whyUpTo b (n + 1) = if (whyUpTo b n).1 < b.short n then (b.short n, n) else whyUpTo b n := by
  unfold whyUpTo
  rw [List.range_succ, (List.foldl_append)]
  rfl
theorem whyUpTo_all (b : Basho) : whyUpTo b (2 ^ b.count) = b.shortest := rfl
end Rb

set_option maxHeartbeats 2100000
set_option linter.all false
namespace Rb
open PySem PySem.Spec PyProof.Rows L2
open PySem.W (Codec)
/-! ### the text by places -/
def top (i : Nat) : Stmt := PySem.Challenge.pw_rankbouts_s01_answers.main.body.getD i (.Pass ⟨0, 0, 0, 0⟩)
abbrev sInitTournament : Stmt := inClass (top 18) 0
theorem scInitTournament : FnScope ["self"] ["self"] (defScope sInitTournament) := ⟨rfl, rfl, rfl, by decide +kernel, rfl, by decide +kernel, by decide +kernel⟩
abbrev sRestart : Stmt := inClass (top 18) 1
theorem scRestart : FnScope ["self", "rank", "wins"] ["self", "rank", "wins"] (defScope sRestart) := ⟨rfl, rfl, rfl, by decide +kernel, rfl, by decide +kernel, by decide +kernel⟩
abbrev sIsThere : Stmt := inClass (top 18) 2
theorem scIsThere : FnScope ["self", "number"] ["self", "number"] (defScope sIsThere) := ⟨rfl, rfl, rfl, by decide +kernel, rfl, by decide +kernel, by decide +kernel⟩
abbrev sMayMeet : Stmt := inClass (top 18) 3
theorem scMayMeet : FnScope ["self", "one", "other"] ["self", "one", "other"] (defScope sMayMeet) := ⟨rfl, rfl, rfl, by decide +kernel, rfl, by decide +kernel, by decide +kernel⟩
abbrev sRivalsOf : Stmt := inClass (top 18) 4
theorem scRivalsOf : FnScope ["self", "one", "other"] ["self", "one"] (defScope sRivalsOf) := ⟨rfl, rfl, rfl, by decide +kernel, rfl, by decide +kernel, by decide +kernel⟩
abbrev sRivalsOfEach : Stmt := inClass (top 18) 5
theorem scRivalsOfEach : FnScope ["self", "one"] ["self"] (defScope sRivalsOfEach) := ⟨rfl, rfl, rfl, by decide +kernel, rfl, by decide +kernel, by decide +kernel⟩
abbrev sApart : Stmt := inClass (top 18) 6
theorem scApart : FnScope ["self", "one", "other", "by_rank", "by_wins"] ["self", "one", "other"] (defScope sApart) := ⟨rfl, rfl, rfl, by decide +kernel, rfl, by decide +kernel, by decide +kernel⟩
abbrev sOff : Stmt := inClass (top 18) 7
theorem scOff : FnScope ["self", "day", "one"] ["self", "day"] (defScope sOff) := ⟨rfl, rfl, rfl, by decide +kernel, rfl, by decide +kernel, by decide +kernel⟩
abbrev sBegins : Stmt := inClass (top 18) 8
theorem scBegins : FnScope ["self", "rank", "wins"] ["self", "rank", "wins"] (defScope sBegins) := ⟨rfl, rfl, rfl, by decide +kernel, rfl, by decide +kernel, by decide +kernel⟩
abbrev sWrestler : Stmt := inClass (top 18) 9
theorem scWrestler : FnScope ["self", "stable", "wins"] ["self", "stable", "wins"] (defScope sWrestler) := ⟨rfl, rfl, rfl, by decide +kernel, rfl, by decide +kernel, by decide +kernel⟩
abbrev sMet : Stmt := inClass (top 18) 10
theorem scMet : FnScope ["self", "one", "other"] ["self", "one", "other"] (defScope sMet) := ⟨rfl, rfl, rfl, by decide +kernel, rfl, by decide +kernel, by decide +kernel⟩
abbrev sCheck : Stmt := inClass (top 18) 11
theorem scCheck : FnScope ["self", "day", "other", "one"] ["self", "day"] (defScope sCheck) := ⟨rfl, rfl, rfl, by decide +kernel, rfl, by decide +kernel, by decide +kernel⟩
abbrev sBest : Stmt := inClass (top 18) 12
theorem scBest : FnScope ["self", "days", "bouts", "day", "fullest", "least", "as_good"] ["self"] (defScope sBest) := ⟨rfl, rfl, rfl, by decide +kernel, rfl, by decide +kernel, by decide +kernel⟩
abbrev sWhy : Stmt := inClass (top 18) 13
theorem scWhy : FnScope ["self", "rivals", "most_short", "shortest", "away", "short"] ["self"] (defScope sWhy) := ⟨rfl, rfl, rfl, by decide +kernel, rfl, by decide +kernel, by decide +kernel⟩
abbrev sPairOf : Stmt := top 19
theorem scPairOf : FnScope ["one", "other"] ["one", "other"] (defScope sPairOf) := ⟨rfl, rfl, rfl, by decide +kernel, rfl, by decide +kernel, by decide +kernel⟩
abbrev sFirstsOfBouts : Stmt := top 20
theorem scFirstsOfBouts : FnScope ["day", "one", "other"] ["day"] (defScope sFirstsOfBouts) := ⟨rfl, rfl, rfl, by decide +kernel, rfl, by decide +kernel, by decide +kernel⟩
abbrev sWithBout : Stmt := top 21
theorem scWithBout : FnScope ["day", "one", "other", "changed"] ["day", "one", "other"] (defScope sWithBout) := ⟨rfl, rfl, rfl, by decide +kernel, rfl, by decide +kernel, by decide +kernel⟩
abbrev sDaysThatCanBe : Stmt := top 22
theorem scDaysThatCanBe : FnScope ["rivals", "days", "one", "other", "free", "day"] ["rivals"] (defScope sDaysThatCanBe) := ⟨rfl, rfl, rfl, by decide +kernel, rfl, by decide +kernel, by decide +kernel⟩
abbrev sIsAway : Stmt := top 23
theorem scIsAway : FnScope ["away", "one"] ["away", "one"] (defScope sIsAway) := ⟨rfl, rfl, rfl, by decide +kernel, rfl, by decide +kernel, by decide +kernel⟩
abbrev sSizeOf : Stmt := top 24
theorem scSizeOf : FnScope ["rivals", "away", "one"] ["rivals", "away"] (defScope sSizeOf) := ⟨rfl, rfl, rfl, by decide +kernel, rfl, by decide +kernel, by decide +kernel⟩
abbrev sOddGroups : Stmt := top 25
theorem scOddGroups : FnScope ["rivals", "away", "placed", "one", "odd", "group", "member"] ["rivals", "away"] (defScope sOddGroups) := ⟨rfl, rfl, rfl, by decide +kernel, rfl, by decide +kernel, by decide +kernel⟩
abbrev sGroupFrom : Stmt := top 26
theorem scGroupFrom : FnScope ["rivals", "placed", "start", "group", "at", "member", "other"] ["rivals", "placed", "start"] (defScope sGroupFrom) := ⟨rfl, rfl, rfl, by decide +kernel, rfl, by decide +kernel, by decide +kernel⟩
abbrev sNumbersBehind : Stmt := top 27
theorem scNumbersBehind : FnScope ["calls", "at"] ["calls", "at"] (defScope sNumbersBehind) := ⟨rfl, rfl, rfl, by decide +kernel, rfl, by decide +kernel, by decide +kernel⟩
abbrev sAnswerCall : Stmt := top 28
theorem scAnswerCall : FnScope ["tournament", "call", "numbers"] ["tournament", "call", "numbers"] (defScope sAnswerCall) := ⟨rfl, rfl, rfl, by decide +kernel, rfl, by decide +kernel, by decide +kernel⟩
abbrev sAnswers : Stmt := top 29
theorem scAnswers : FnScope ["calls", "tournament", "answered", "at", "numbers", "answer"] ["calls"] (defScope sAnswers) := ⟨rfl, rfl, rfl, by decide +kernel, rfl, by decide +kernel, by decide +kernel⟩
/-! ### what the text has -/
structure Adr where
  CTournament : Addr
  fInitTournament : Addr
  fdInitTournament : FuncData
  fRestart : Addr
  fdRestart : FuncData
  fIsThere : Addr
  fdIsThere : FuncData
  fMayMeet : Addr
  fdMayMeet : FuncData
  fRivalsOf : Addr
  fdRivalsOf : FuncData
  fRivalsOfEach : Addr
  fdRivalsOfEach : FuncData
  fApart : Addr
  fdApart : FuncData
  fOff : Addr
  fdOff : FuncData
  fBegins : Addr
  fdBegins : FuncData
  fWrestler : Addr
  fdWrestler : FuncData
  fMet : Addr
  fdMet : FuncData
  fCheck : Addr
  fdCheck : FuncData
  fBest : Addr
  fdBest : FuncData
  fWhy : Addr
  fdWhy : FuncData
  fPairOf : Addr
  fdPairOf : FuncData
  fFirstsOfBouts : Addr
  fdFirstsOfBouts : FuncData
  fWithBout : Addr
  fdWithBout : FuncData
  fDaysThatCanBe : Addr
  fdDaysThatCanBe : FuncData
  fIsAway : Addr
  fdIsAway : FuncData
  fSizeOf : Addr
  fdSizeOf : FuncData
  fOddGroups : Addr
  fdOddGroups : FuncData
  fGroupFrom : Addr
  fdGroupFrom : FuncData
  fNumbersBehind : Addr
  fdNumbersBehind : FuncData
  fAnswerCall : Addr
  fdAnswerCall : FuncData
  fAnswers : Addr
  fdAnswers : FuncData
  tBegins : Tok
  tWrestler : Tok
  tMet : Tok
  tCheck : Tok
  tBest : Tok
  tWhy : Tok
  tOutOfRange : Tok
  tNotThere : Tok
  tMayNotMeet : Tok
  tFull : Tok
  tNotMetBack : Tok
  tBoutMayNotBe : Tok
  tHighestWeight : Tok
  tHighestStable : Tok
  tMostWins : Tok
  tMostWrestlers : Tok
structure Txt (K : PySem.W.Frag) (mg : Str → Option Value) (ad : Adr) : Prop where
  clTournament : Cls K ad.CTournament
  mkTournament : Mk K ad.CTournament ad.fInitTournament
  cTournament : mg "Tournament" = some (.ref ad.CTournament)
  aRankWeight : NoAttr K ad.CTournament "rank_weight"
  aWinsWeight : NoAttr K ad.CTournament "wins_weight"
  aStables : NoAttr K ad.CTournament "stables"
  aWon : NoAttr K ad.CTournament "won"
  aMetPairs : NoAttr K ad.CTournament "met_pairs"
  FInitTournament : Fun K "__init__" "Tournament.__init__" sInitTournament ad.fInitTournament ad.fdInitTournament
  bInitTournament : Binds K ad.fdInitTournament ["self"] []
  FRestart : Fun K "restart" "Tournament.restart" sRestart ad.fRestart ad.fdRestart
  bRestart : Binds K ad.fdRestart ["self", "rank", "wins"] []
  mRestart : Meth K ad.CTournament "restart" ad.fRestart
  FIsThere : Fun K "is_there" "Tournament.is_there" sIsThere ad.fIsThere ad.fdIsThere
  bIsThere : Binds K ad.fdIsThere ["self", "number"] []
  mIsThere : Meth K ad.CTournament "is_there" ad.fIsThere
  FMayMeet : Fun K "may_meet" "Tournament.may_meet" sMayMeet ad.fMayMeet ad.fdMayMeet
  bMayMeet : Binds K ad.fdMayMeet ["self", "one", "other"] []
  mMayMeet : Meth K ad.CTournament "may_meet" ad.fMayMeet
  FRivalsOf : Fun K "rivals_of" "Tournament.rivals_of" sRivalsOf ad.fRivalsOf ad.fdRivalsOf
  bRivalsOf : Binds K ad.fdRivalsOf ["self", "one"] []
  mRivalsOf : Meth K ad.CTournament "rivals_of" ad.fRivalsOf
  FRivalsOfEach : Fun K "rivals_of_each" "Tournament.rivals_of_each" sRivalsOfEach ad.fRivalsOfEach ad.fdRivalsOfEach
  bRivalsOfEach : Binds K ad.fdRivalsOfEach ["self"] []
  mRivalsOfEach : Meth K ad.CTournament "rivals_of_each" ad.fRivalsOfEach
  FApart : Fun K "apart" "Tournament.apart" sApart ad.fApart ad.fdApart
  bApart : Binds K ad.fdApart ["self", "one", "other"] []
  mApart : Meth K ad.CTournament "apart" ad.fApart
  FOff : Fun K "off" "Tournament.off" sOff ad.fOff ad.fdOff
  bOff : Binds K ad.fdOff ["self", "day"] []
  mOff : Meth K ad.CTournament "off" ad.fOff
  FBegins : Fun K "begins" "Tournament.begins" sBegins ad.fBegins ad.fdBegins
  bBegins : Binds K ad.fdBegins ["self", "rank", "wins"] []
  mBegins : Meth K ad.CTournament "begins" ad.fBegins
  FWrestler : Fun K "wrestler" "Tournament.wrestler" sWrestler ad.fWrestler ad.fdWrestler
  bWrestler : Binds K ad.fdWrestler ["self", "stable", "wins"] []
  mWrestler : Meth K ad.CTournament "wrestler" ad.fWrestler
  FMet : Fun K "met" "Tournament.met" sMet ad.fMet ad.fdMet
  bMet : Binds K ad.fdMet ["self", "one", "other"] []
  mMet : Meth K ad.CTournament "met" ad.fMet
  FCheck : Fun K "check" "Tournament.check" sCheck ad.fCheck ad.fdCheck
  bCheck : Binds K ad.fdCheck ["self", "day"] []
  mCheck : Meth K ad.CTournament "check" ad.fCheck
  FBest : Fun K "best" "Tournament.best" sBest ad.fBest ad.fdBest
  bBest : Binds K ad.fdBest ["self"] []
  mBest : Meth K ad.CTournament "best" ad.fBest
  FWhy : Fun K "why" "Tournament.why" sWhy ad.fWhy ad.fdWhy
  bWhy : Binds K ad.fdWhy ["self"] []
  mWhy : Meth K ad.CTournament "why" ad.fWhy
  FPairOf : Fun K "pair_of" "pair_of" sPairOf ad.fPairOf ad.fdPairOf
  bPairOf : Binds K ad.fdPairOf ["one", "other"] []
  gPairOf : mg "pair_of" = some (.ref ad.fPairOf)
  FFirstsOfBouts : Fun K "firsts_of_bouts" "firsts_of_bouts" sFirstsOfBouts ad.fFirstsOfBouts ad.fdFirstsOfBouts
  bFirstsOfBouts : Binds K ad.fdFirstsOfBouts ["day"] []
  gFirstsOfBouts : mg "firsts_of_bouts" = some (.ref ad.fFirstsOfBouts)
  FWithBout : Fun K "with_bout" "with_bout" sWithBout ad.fWithBout ad.fdWithBout
  bWithBout : Binds K ad.fdWithBout ["day", "one", "other"] []
  gWithBout : mg "with_bout" = some (.ref ad.fWithBout)
  FDaysThatCanBe : Fun K "days_that_can_be" "days_that_can_be" sDaysThatCanBe ad.fDaysThatCanBe ad.fdDaysThatCanBe
  bDaysThatCanBe : Binds K ad.fdDaysThatCanBe ["rivals"] []
  gDaysThatCanBe : mg "days_that_can_be" = some (.ref ad.fDaysThatCanBe)
  FIsAway : Fun K "is_away" "is_away" sIsAway ad.fIsAway ad.fdIsAway
  bIsAway : Binds K ad.fdIsAway ["away", "one"] []
  gIsAway : mg "is_away" = some (.ref ad.fIsAway)
  FSizeOf : Fun K "size_of" "size_of" sSizeOf ad.fSizeOf ad.fdSizeOf
  bSizeOf : Binds K ad.fdSizeOf ["rivals", "away"] []
  gSizeOf : mg "size_of" = some (.ref ad.fSizeOf)
  FOddGroups : Fun K "odd_groups" "odd_groups" sOddGroups ad.fOddGroups ad.fdOddGroups
  bOddGroups : Binds K ad.fdOddGroups ["rivals", "away"] []
  gOddGroups : mg "odd_groups" = some (.ref ad.fOddGroups)
  FGroupFrom : Fun K "group_from" "group_from" sGroupFrom ad.fGroupFrom ad.fdGroupFrom
  bGroupFrom : Binds K ad.fdGroupFrom ["rivals", "placed", "start"] []
  gGroupFrom : mg "group_from" = some (.ref ad.fGroupFrom)
  FNumbersBehind : Fun K "numbers_behind" "numbers_behind" sNumbersBehind ad.fNumbersBehind ad.fdNumbersBehind
  bNumbersBehind : Binds K ad.fdNumbersBehind ["calls", "at"] []
  gNumbersBehind : mg "numbers_behind" = some (.ref ad.fNumbersBehind)
  FAnswerCall : Fun K "answer_call" "answer_call" sAnswerCall ad.fAnswerCall ad.fdAnswerCall
  bAnswerCall : Binds K ad.fdAnswerCall ["tournament", "call", "numbers"] []
  gAnswerCall : mg "answer_call" = some (.ref ad.fAnswerCall)
  FAnswers : Fun K "answers" "answers" sAnswers ad.fAnswers ad.fdAnswers
  bAnswers : Binds K ad.fdAnswers ["calls"] []
  gAnswers : mg "answers" = some (.ref ad.fAnswers)
  kBegins : mg "BEGINS" = some (.int (0) ad.tBegins)
  kWrestler : mg "WRESTLER" = some (.int (1) ad.tWrestler)
  kMet : mg "MET" = some (.int (2) ad.tMet)
  kCheck : mg "CHECK" = some (.int (3) ad.tCheck)
  kBest : mg "BEST" = some (.int (4) ad.tBest)
  kWhy : mg "WHY" = some (.int (5) ad.tWhy)
  kOutOfRange : mg "OUT_OF_RANGE" = some (.int (-1) ad.tOutOfRange)
  kNotThere : mg "NOT_THERE" = some (.int (-2) ad.tNotThere)
  kMayNotMeet : mg "MAY_NOT_MEET" = some (.int (-4) ad.tMayNotMeet)
  kFull : mg "FULL" = some (.int (-5) ad.tFull)
  kNotMetBack : mg "NOT_MET_BACK" = some (.int (-6) ad.tNotMetBack)
  kBoutMayNotBe : mg "BOUT_MAY_NOT_BE" = some (.int (-7) ad.tBoutMayNotBe)
  kHighestWeight : mg "HIGHEST_WEIGHT" = some (.int (100) ad.tHighestWeight)
  kHighestStable : mg "HIGHEST_STABLE" = some (.int (9) ad.tHighestStable)
  kMostWins : mg "MOST_WINS" = some (.int (15) ad.tMostWins)
  kMostWrestlers : mg "MOST_WRESTLERS" = some (.int (8) ad.tMostWrestlers)
  nAbs : mg "abs" = none
  nAll : mg "all" = none
  nEnumerate : mg "enumerate" = none
  nLen : mg "len" = none
  nList : mg "list" = none
  nMax : mg "max" = none
  nMin : mg "min" = none
  nRange : mg "range" = none
  nSum : mg "sum" = none
  bindAll : ∀ (s : Shared) (us : List Value), us.length = (["calls"] : List Str).length → BindsTo s ad.fdAnswers ⟨us, []⟩ ((["calls"] : List Str).zip us)
theorem txt_mk {K : PySem.W.Frag} {h : Heap} {mg : Str → Option Value} {fa : Addr}
    {CTournament : Addr}
    {fInitTournament : Addr} {ocInitTournament kVInitTournament dcInitTournament pmInitTournament cdInitTournament ctInitTournament : Value} {odInitTournament anInitTournament : Option Addr} {slInitTournament : Array (Option Value)}
    {fRestart : Addr} {ocRestart kVRestart dcRestart pmRestart cdRestart ctRestart : Value} {odRestart anRestart : Option Addr} {slRestart : Array (Option Value)}
    {fIsThere : Addr} {ocIsThere kVIsThere dcIsThere pmIsThere cdIsThere ctIsThere : Value} {odIsThere anIsThere : Option Addr} {slIsThere : Array (Option Value)}
    {fMayMeet : Addr} {ocMayMeet kVMayMeet dcMayMeet pmMayMeet cdMayMeet ctMayMeet : Value} {odMayMeet anMayMeet : Option Addr} {slMayMeet : Array (Option Value)}
    {fRivalsOf : Addr} {ocRivalsOf kVRivalsOf dcRivalsOf pmRivalsOf cdRivalsOf ctRivalsOf : Value} {odRivalsOf anRivalsOf : Option Addr} {slRivalsOf : Array (Option Value)}
    {fRivalsOfEach : Addr} {ocRivalsOfEach kVRivalsOfEach dcRivalsOfEach pmRivalsOfEach cdRivalsOfEach ctRivalsOfEach : Value} {odRivalsOfEach anRivalsOfEach : Option Addr} {slRivalsOfEach : Array (Option Value)}
    {fApart : Addr} {ocApart kVApart dcApart pmApart cdApart ctApart : Value} {odApart anApart : Option Addr} {slApart : Array (Option Value)}
    {fOff : Addr} {ocOff kVOff dcOff pmOff cdOff ctOff : Value} {odOff anOff : Option Addr} {slOff : Array (Option Value)}
    {fBegins : Addr} {ocBegins kVBegins dcBegins pmBegins cdBegins ctBegins : Value} {odBegins anBegins : Option Addr} {slBegins : Array (Option Value)}
    {fWrestler : Addr} {ocWrestler kVWrestler dcWrestler pmWrestler cdWrestler ctWrestler : Value} {odWrestler anWrestler : Option Addr} {slWrestler : Array (Option Value)}
    {fMet : Addr} {ocMet kVMet dcMet pmMet cdMet ctMet : Value} {odMet anMet : Option Addr} {slMet : Array (Option Value)}
    {fCheck : Addr} {ocCheck kVCheck dcCheck pmCheck cdCheck ctCheck : Value} {odCheck anCheck : Option Addr} {slCheck : Array (Option Value)}
    {fBest : Addr} {ocBest kVBest dcBest pmBest cdBest ctBest : Value} {odBest anBest : Option Addr} {slBest : Array (Option Value)}
    {fWhy : Addr} {ocWhy kVWhy dcWhy pmWhy cdWhy ctWhy : Value} {odWhy anWhy : Option Addr} {slWhy : Array (Option Value)}
    {fPairOf : Addr} {ocPairOf kVPairOf dcPairOf pmPairOf cdPairOf ctPairOf : Value} {odPairOf anPairOf : Option Addr} {slPairOf : Array (Option Value)}
    {fFirstsOfBouts : Addr} {ocFirstsOfBouts kVFirstsOfBouts dcFirstsOfBouts pmFirstsOfBouts cdFirstsOfBouts ctFirstsOfBouts : Value} {odFirstsOfBouts anFirstsOfBouts : Option Addr} {slFirstsOfBouts : Array (Option Value)}
    {fWithBout : Addr} {ocWithBout kVWithBout dcWithBout pmWithBout cdWithBout ctWithBout : Value} {odWithBout anWithBout : Option Addr} {slWithBout : Array (Option Value)}
    {fDaysThatCanBe : Addr} {ocDaysThatCanBe kVDaysThatCanBe dcDaysThatCanBe pmDaysThatCanBe cdDaysThatCanBe ctDaysThatCanBe : Value} {odDaysThatCanBe anDaysThatCanBe : Option Addr} {slDaysThatCanBe : Array (Option Value)}
    {fIsAway : Addr} {ocIsAway kVIsAway dcIsAway pmIsAway cdIsAway ctIsAway : Value} {odIsAway anIsAway : Option Addr} {slIsAway : Array (Option Value)}
    {fSizeOf : Addr} {ocSizeOf kVSizeOf dcSizeOf pmSizeOf cdSizeOf ctSizeOf : Value} {odSizeOf anSizeOf : Option Addr} {slSizeOf : Array (Option Value)}
    {fOddGroups : Addr} {ocOddGroups kVOddGroups dcOddGroups pmOddGroups cdOddGroups ctOddGroups : Value} {odOddGroups anOddGroups : Option Addr} {slOddGroups : Array (Option Value)}
    {fGroupFrom : Addr} {ocGroupFrom kVGroupFrom dcGroupFrom pmGroupFrom cdGroupFrom ctGroupFrom : Value} {odGroupFrom anGroupFrom : Option Addr} {slGroupFrom : Array (Option Value)}
    {fNumbersBehind : Addr} {ocNumbersBehind kVNumbersBehind dcNumbersBehind pmNumbersBehind cdNumbersBehind ctNumbersBehind : Value} {odNumbersBehind anNumbersBehind : Option Addr} {slNumbersBehind : Array (Option Value)}
    {fAnswerCall : Addr} {ocAnswerCall kVAnswerCall dcAnswerCall pmAnswerCall cdAnswerCall ctAnswerCall : Value} {odAnswerCall anAnswerCall : Option Addr} {slAnswerCall : Array (Option Value)}
    {fAnswers : Addr} {ocAnswers kVAnswers dcAnswers pmAnswers cdAnswers ctAnswers : Value} {odAnswers anAnswers : Option Addr} {slAnswers : Array (Option Value)}
    {tBegins : Tok}
    {tWrestler : Tok}
    {tMet : Tok}
    {tCheck : Tok}
    {tBest : Tok}
    {tWhy : Tok}
    {tOutOfRange : Tok}
    {tNotThere : Tok}
    {tMayNotMeet : Tok}
    {tFull : Tok}
    {tNotMetBack : Tok}
    {tBoutMayNotBe : Tok}
    {tHighestWeight : Tok}
    {tHighestStable : Tok}
    {tMostWins : Tok}
    {tMostWrestlers : Tok}
    (X : K.In h) (G : h.Ns mainGlobals mg) (hfa : mg "answers" = some (.ref fa))
    (zCTournament : PySem.W.nsIn K mainGlobals "Tournament" = some (some (.ref CTournament)))
    (zAInitTournament : PySem.W.findIn K (.ref CTournament) "__init__" = some (some (.ref fInitTournament))) (zIInitTournament : PySem.W.isFn K (.ref fInitTournament) = true)
    (zLInitTournament : K.lookup fInitTournament = some ⟨ocInitTournament, odInitTournament, .func (PySem.W.fnOf "__init__" "Tournament.__init__" (defArgs sInitTournament) (defBody sInitTournament) (defScope sInitTournament) .none kVInitTournament dcInitTournament pmInitTournament anInitTournament cdInitTournament ctInitTournament), slInitTournament⟩) (zDInitTournament : PySem.W.codeIn K cdInitTournament "Tournament.__init__" = true) (zKInitTournament : PySem.W.keepIn K (.ref fInitTournament) = true)
    (zARestart : PySem.W.findIn K (.ref CTournament) "restart" = some (some (.ref fRestart))) (zIRestart : PySem.W.isFn K (.ref fRestart) = true)
    (zLRestart : K.lookup fRestart = some ⟨ocRestart, odRestart, .func (PySem.W.fnOf "restart" "Tournament.restart" (defArgs sRestart) (defBody sRestart) (defScope sRestart) .none kVRestart dcRestart pmRestart anRestart cdRestart ctRestart), slRestart⟩) (zDRestart : PySem.W.codeIn K cdRestart "Tournament.restart" = true) (zKRestart : PySem.W.keepIn K (.ref fRestart) = true)
    (zAIsThere : PySem.W.findIn K (.ref CTournament) "is_there" = some (some (.ref fIsThere))) (zIIsThere : PySem.W.isFn K (.ref fIsThere) = true)
    (zLIsThere : K.lookup fIsThere = some ⟨ocIsThere, odIsThere, .func (PySem.W.fnOf "is_there" "Tournament.is_there" (defArgs sIsThere) (defBody sIsThere) (defScope sIsThere) .none kVIsThere dcIsThere pmIsThere anIsThere cdIsThere ctIsThere), slIsThere⟩) (zDIsThere : PySem.W.codeIn K cdIsThere "Tournament.is_there" = true) (zKIsThere : PySem.W.keepIn K (.ref fIsThere) = true)
    (zAMayMeet : PySem.W.findIn K (.ref CTournament) "may_meet" = some (some (.ref fMayMeet))) (zIMayMeet : PySem.W.isFn K (.ref fMayMeet) = true)
    (zLMayMeet : K.lookup fMayMeet = some ⟨ocMayMeet, odMayMeet, .func (PySem.W.fnOf "may_meet" "Tournament.may_meet" (defArgs sMayMeet) (defBody sMayMeet) (defScope sMayMeet) .none kVMayMeet dcMayMeet pmMayMeet anMayMeet cdMayMeet ctMayMeet), slMayMeet⟩) (zDMayMeet : PySem.W.codeIn K cdMayMeet "Tournament.may_meet" = true) (zKMayMeet : PySem.W.keepIn K (.ref fMayMeet) = true)
    (zARivalsOf : PySem.W.findIn K (.ref CTournament) "rivals_of" = some (some (.ref fRivalsOf))) (zIRivalsOf : PySem.W.isFn K (.ref fRivalsOf) = true)
    (zLRivalsOf : K.lookup fRivalsOf = some ⟨ocRivalsOf, odRivalsOf, .func (PySem.W.fnOf "rivals_of" "Tournament.rivals_of" (defArgs sRivalsOf) (defBody sRivalsOf) (defScope sRivalsOf) .none kVRivalsOf dcRivalsOf pmRivalsOf anRivalsOf cdRivalsOf ctRivalsOf), slRivalsOf⟩) (zDRivalsOf : PySem.W.codeIn K cdRivalsOf "Tournament.rivals_of" = true) (zKRivalsOf : PySem.W.keepIn K (.ref fRivalsOf) = true)
    (zARivalsOfEach : PySem.W.findIn K (.ref CTournament) "rivals_of_each" = some (some (.ref fRivalsOfEach))) (zIRivalsOfEach : PySem.W.isFn K (.ref fRivalsOfEach) = true)
    (zLRivalsOfEach : K.lookup fRivalsOfEach = some ⟨ocRivalsOfEach, odRivalsOfEach, .func (PySem.W.fnOf "rivals_of_each" "Tournament.rivals_of_each" (defArgs sRivalsOfEach) (defBody sRivalsOfEach) (defScope sRivalsOfEach) .none kVRivalsOfEach dcRivalsOfEach pmRivalsOfEach anRivalsOfEach cdRivalsOfEach ctRivalsOfEach), slRivalsOfEach⟩) (zDRivalsOfEach : PySem.W.codeIn K cdRivalsOfEach "Tournament.rivals_of_each" = true) (zKRivalsOfEach : PySem.W.keepIn K (.ref fRivalsOfEach) = true)
    (zAApart : PySem.W.findIn K (.ref CTournament) "apart" = some (some (.ref fApart))) (zIApart : PySem.W.isFn K (.ref fApart) = true)
    (zLApart : K.lookup fApart = some ⟨ocApart, odApart, .func (PySem.W.fnOf "apart" "Tournament.apart" (defArgs sApart) (defBody sApart) (defScope sApart) .none kVApart dcApart pmApart anApart cdApart ctApart), slApart⟩) (zDApart : PySem.W.codeIn K cdApart "Tournament.apart" = true) (zKApart : PySem.W.keepIn K (.ref fApart) = true)
    (zAOff : PySem.W.findIn K (.ref CTournament) "off" = some (some (.ref fOff))) (zIOff : PySem.W.isFn K (.ref fOff) = true)
    (zLOff : K.lookup fOff = some ⟨ocOff, odOff, .func (PySem.W.fnOf "off" "Tournament.off" (defArgs sOff) (defBody sOff) (defScope sOff) .none kVOff dcOff pmOff anOff cdOff ctOff), slOff⟩) (zDOff : PySem.W.codeIn K cdOff "Tournament.off" = true) (zKOff : PySem.W.keepIn K (.ref fOff) = true)
    (zABegins : PySem.W.findIn K (.ref CTournament) "begins" = some (some (.ref fBegins))) (zIBegins : PySem.W.isFn K (.ref fBegins) = true)
    (zLBegins : K.lookup fBegins = some ⟨ocBegins, odBegins, .func (PySem.W.fnOf "begins" "Tournament.begins" (defArgs sBegins) (defBody sBegins) (defScope sBegins) .none kVBegins dcBegins pmBegins anBegins cdBegins ctBegins), slBegins⟩) (zDBegins : PySem.W.codeIn K cdBegins "Tournament.begins" = true) (zKBegins : PySem.W.keepIn K (.ref fBegins) = true)
    (zAWrestler : PySem.W.findIn K (.ref CTournament) "wrestler" = some (some (.ref fWrestler))) (zIWrestler : PySem.W.isFn K (.ref fWrestler) = true)
    (zLWrestler : K.lookup fWrestler = some ⟨ocWrestler, odWrestler, .func (PySem.W.fnOf "wrestler" "Tournament.wrestler" (defArgs sWrestler) (defBody sWrestler) (defScope sWrestler) .none kVWrestler dcWrestler pmWrestler anWrestler cdWrestler ctWrestler), slWrestler⟩) (zDWrestler : PySem.W.codeIn K cdWrestler "Tournament.wrestler" = true) (zKWrestler : PySem.W.keepIn K (.ref fWrestler) = true)
    (zAMet : PySem.W.findIn K (.ref CTournament) "met" = some (some (.ref fMet))) (zIMet : PySem.W.isFn K (.ref fMet) = true)
    (zLMet : K.lookup fMet = some ⟨ocMet, odMet, .func (PySem.W.fnOf "met" "Tournament.met" (defArgs sMet) (defBody sMet) (defScope sMet) .none kVMet dcMet pmMet anMet cdMet ctMet), slMet⟩) (zDMet : PySem.W.codeIn K cdMet "Tournament.met" = true) (zKMet : PySem.W.keepIn K (.ref fMet) = true)
    (zACheck : PySem.W.findIn K (.ref CTournament) "check" = some (some (.ref fCheck))) (zICheck : PySem.W.isFn K (.ref fCheck) = true)
    (zLCheck : K.lookup fCheck = some ⟨ocCheck, odCheck, .func (PySem.W.fnOf "check" "Tournament.check" (defArgs sCheck) (defBody sCheck) (defScope sCheck) .none kVCheck dcCheck pmCheck anCheck cdCheck ctCheck), slCheck⟩) (zDCheck : PySem.W.codeIn K cdCheck "Tournament.check" = true) (zKCheck : PySem.W.keepIn K (.ref fCheck) = true)
    (zABest : PySem.W.findIn K (.ref CTournament) "best" = some (some (.ref fBest))) (zIBest : PySem.W.isFn K (.ref fBest) = true)
    (zLBest : K.lookup fBest = some ⟨ocBest, odBest, .func (PySem.W.fnOf "best" "Tournament.best" (defArgs sBest) (defBody sBest) (defScope sBest) .none kVBest dcBest pmBest anBest cdBest ctBest), slBest⟩) (zDBest : PySem.W.codeIn K cdBest "Tournament.best" = true) (zKBest : PySem.W.keepIn K (.ref fBest) = true)
    (zAWhy : PySem.W.findIn K (.ref CTournament) "why" = some (some (.ref fWhy))) (zIWhy : PySem.W.isFn K (.ref fWhy) = true)
    (zLWhy : K.lookup fWhy = some ⟨ocWhy, odWhy, .func (PySem.W.fnOf "why" "Tournament.why" (defArgs sWhy) (defBody sWhy) (defScope sWhy) .none kVWhy dcWhy pmWhy anWhy cdWhy ctWhy), slWhy⟩) (zDWhy : PySem.W.codeIn K cdWhy "Tournament.why" = true) (zKWhy : PySem.W.keepIn K (.ref fWhy) = true)
    (zAPairOf : PySem.W.nsIn K mainGlobals "pair_of" = some (some (.ref fPairOf)))
    (zLPairOf : K.lookup fPairOf = some ⟨ocPairOf, odPairOf, .func (PySem.W.fnOf "pair_of" "pair_of" (defArgs sPairOf) (defBody sPairOf) (defScope sPairOf) .none kVPairOf dcPairOf pmPairOf anPairOf cdPairOf ctPairOf), slPairOf⟩) (zDPairOf : PySem.W.codeIn K cdPairOf "pair_of" = true) (zKPairOf : PySem.W.keepIn K (.ref fPairOf) = true)
    (zAFirstsOfBouts : PySem.W.nsIn K mainGlobals "firsts_of_bouts" = some (some (.ref fFirstsOfBouts)))
    (zLFirstsOfBouts : K.lookup fFirstsOfBouts = some ⟨ocFirstsOfBouts, odFirstsOfBouts, .func (PySem.W.fnOf "firsts_of_bouts" "firsts_of_bouts" (defArgs sFirstsOfBouts) (defBody sFirstsOfBouts) (defScope sFirstsOfBouts) .none kVFirstsOfBouts dcFirstsOfBouts pmFirstsOfBouts anFirstsOfBouts cdFirstsOfBouts ctFirstsOfBouts), slFirstsOfBouts⟩) (zDFirstsOfBouts : PySem.W.codeIn K cdFirstsOfBouts "firsts_of_bouts" = true) (zKFirstsOfBouts : PySem.W.keepIn K (.ref fFirstsOfBouts) = true)
    (zAWithBout : PySem.W.nsIn K mainGlobals "with_bout" = some (some (.ref fWithBout)))
    (zLWithBout : K.lookup fWithBout = some ⟨ocWithBout, odWithBout, .func (PySem.W.fnOf "with_bout" "with_bout" (defArgs sWithBout) (defBody sWithBout) (defScope sWithBout) .none kVWithBout dcWithBout pmWithBout anWithBout cdWithBout ctWithBout), slWithBout⟩) (zDWithBout : PySem.W.codeIn K cdWithBout "with_bout" = true) (zKWithBout : PySem.W.keepIn K (.ref fWithBout) = true)
    (zADaysThatCanBe : PySem.W.nsIn K mainGlobals "days_that_can_be" = some (some (.ref fDaysThatCanBe)))
    (zLDaysThatCanBe : K.lookup fDaysThatCanBe = some ⟨ocDaysThatCanBe, odDaysThatCanBe, .func (PySem.W.fnOf "days_that_can_be" "days_that_can_be" (defArgs sDaysThatCanBe) (defBody sDaysThatCanBe) (defScope sDaysThatCanBe) .none kVDaysThatCanBe dcDaysThatCanBe pmDaysThatCanBe anDaysThatCanBe cdDaysThatCanBe ctDaysThatCanBe), slDaysThatCanBe⟩) (zDDaysThatCanBe : PySem.W.codeIn K cdDaysThatCanBe "days_that_can_be" = true) (zKDaysThatCanBe : PySem.W.keepIn K (.ref fDaysThatCanBe) = true)
    (zAIsAway : PySem.W.nsIn K mainGlobals "is_away" = some (some (.ref fIsAway)))
    (zLIsAway : K.lookup fIsAway = some ⟨ocIsAway, odIsAway, .func (PySem.W.fnOf "is_away" "is_away" (defArgs sIsAway) (defBody sIsAway) (defScope sIsAway) .none kVIsAway dcIsAway pmIsAway anIsAway cdIsAway ctIsAway), slIsAway⟩) (zDIsAway : PySem.W.codeIn K cdIsAway "is_away" = true) (zKIsAway : PySem.W.keepIn K (.ref fIsAway) = true)
    (zASizeOf : PySem.W.nsIn K mainGlobals "size_of" = some (some (.ref fSizeOf)))
    (zLSizeOf : K.lookup fSizeOf = some ⟨ocSizeOf, odSizeOf, .func (PySem.W.fnOf "size_of" "size_of" (defArgs sSizeOf) (defBody sSizeOf) (defScope sSizeOf) .none kVSizeOf dcSizeOf pmSizeOf anSizeOf cdSizeOf ctSizeOf), slSizeOf⟩) (zDSizeOf : PySem.W.codeIn K cdSizeOf "size_of" = true) (zKSizeOf : PySem.W.keepIn K (.ref fSizeOf) = true)
    (zAOddGroups : PySem.W.nsIn K mainGlobals "odd_groups" = some (some (.ref fOddGroups)))
    (zLOddGroups : K.lookup fOddGroups = some ⟨ocOddGroups, odOddGroups, .func (PySem.W.fnOf "odd_groups" "odd_groups" (defArgs sOddGroups) (defBody sOddGroups) (defScope sOddGroups) .none kVOddGroups dcOddGroups pmOddGroups anOddGroups cdOddGroups ctOddGroups), slOddGroups⟩) (zDOddGroups : PySem.W.codeIn K cdOddGroups "odd_groups" = true) (zKOddGroups : PySem.W.keepIn K (.ref fOddGroups) = true)
    (zAGroupFrom : PySem.W.nsIn K mainGlobals "group_from" = some (some (.ref fGroupFrom)))
    (zLGroupFrom : K.lookup fGroupFrom = some ⟨ocGroupFrom, odGroupFrom, .func (PySem.W.fnOf "group_from" "group_from" (defArgs sGroupFrom) (defBody sGroupFrom) (defScope sGroupFrom) .none kVGroupFrom dcGroupFrom pmGroupFrom anGroupFrom cdGroupFrom ctGroupFrom), slGroupFrom⟩) (zDGroupFrom : PySem.W.codeIn K cdGroupFrom "group_from" = true) (zKGroupFrom : PySem.W.keepIn K (.ref fGroupFrom) = true)
    (zANumbersBehind : PySem.W.nsIn K mainGlobals "numbers_behind" = some (some (.ref fNumbersBehind)))
    (zLNumbersBehind : K.lookup fNumbersBehind = some ⟨ocNumbersBehind, odNumbersBehind, .func (PySem.W.fnOf "numbers_behind" "numbers_behind" (defArgs sNumbersBehind) (defBody sNumbersBehind) (defScope sNumbersBehind) .none kVNumbersBehind dcNumbersBehind pmNumbersBehind anNumbersBehind cdNumbersBehind ctNumbersBehind), slNumbersBehind⟩) (zDNumbersBehind : PySem.W.codeIn K cdNumbersBehind "numbers_behind" = true) (zKNumbersBehind : PySem.W.keepIn K (.ref fNumbersBehind) = true)
    (zAAnswerCall : PySem.W.nsIn K mainGlobals "answer_call" = some (some (.ref fAnswerCall)))
    (zLAnswerCall : K.lookup fAnswerCall = some ⟨ocAnswerCall, odAnswerCall, .func (PySem.W.fnOf "answer_call" "answer_call" (defArgs sAnswerCall) (defBody sAnswerCall) (defScope sAnswerCall) .none kVAnswerCall dcAnswerCall pmAnswerCall anAnswerCall cdAnswerCall ctAnswerCall), slAnswerCall⟩) (zDAnswerCall : PySem.W.codeIn K cdAnswerCall "answer_call" = true) (zKAnswerCall : PySem.W.keepIn K (.ref fAnswerCall) = true)
    (zAAnswers : PySem.W.nsIn K mainGlobals "answers" = some (some (.ref fAnswers)))
    (zLAnswers : K.lookup fAnswers = some ⟨ocAnswers, odAnswers, .func (PySem.W.fnOf "answers" "answers" (defArgs sAnswers) (defBody sAnswers) (defScope sAnswers) .none kVAnswers dcAnswers pmAnswers anAnswers cdAnswers ctAnswers), slAnswers⟩) (zDAnswers : PySem.W.codeIn K cdAnswers "answers" = true) (zKAnswers : PySem.W.keepIn K (.ref fAnswers) = true)
    (zGBegins : PySem.W.nsIn K mainGlobals "BEGINS" = some (some (.int (0) tBegins)))
    (zGWrestler : PySem.W.nsIn K mainGlobals "WRESTLER" = some (some (.int (1) tWrestler)))
    (zGMet : PySem.W.nsIn K mainGlobals "MET" = some (some (.int (2) tMet)))
    (zGCheck : PySem.W.nsIn K mainGlobals "CHECK" = some (some (.int (3) tCheck)))
    (zGBest : PySem.W.nsIn K mainGlobals "BEST" = some (some (.int (4) tBest)))
    (zGWhy : PySem.W.nsIn K mainGlobals "WHY" = some (some (.int (5) tWhy)))
    (zGOutOfRange : PySem.W.nsIn K mainGlobals "OUT_OF_RANGE" = some (some (.int (-1) tOutOfRange)))
    (zGNotThere : PySem.W.nsIn K mainGlobals "NOT_THERE" = some (some (.int (-2) tNotThere)))
    (zGMayNotMeet : PySem.W.nsIn K mainGlobals "MAY_NOT_MEET" = some (some (.int (-4) tMayNotMeet)))
    (zGFull : PySem.W.nsIn K mainGlobals "FULL" = some (some (.int (-5) tFull)))
    (zGNotMetBack : PySem.W.nsIn K mainGlobals "NOT_MET_BACK" = some (some (.int (-6) tNotMetBack)))
    (zGBoutMayNotBe : PySem.W.nsIn K mainGlobals "BOUT_MAY_NOT_BE" = some (some (.int (-7) tBoutMayNotBe)))
    (zGHighestWeight : PySem.W.nsIn K mainGlobals "HIGHEST_WEIGHT" = some (some (.int (100) tHighestWeight)))
    (zGHighestStable : PySem.W.nsIn K mainGlobals "HIGHEST_STABLE" = some (some (.int (9) tHighestStable)))
    (zGMostWins : PySem.W.nsIn K mainGlobals "MOST_WINS" = some (some (.int (15) tMostWins)))
    (zGMostWrestlers : PySem.W.nsIn K mainGlobals "MOST_WRESTLERS" = some (some (.int (8) tMostWrestlers)))
    (zNAbs : PySem.W.nsIn K mainGlobals "abs" = some none)
    (zNAll : PySem.W.nsIn K mainGlobals "all" = some none)
    (zNEnumerate : PySem.W.nsIn K mainGlobals "enumerate" = some none)
    (zNLen : PySem.W.nsIn K mainGlobals "len" = some none)
    (zNList : PySem.W.nsIn K mainGlobals "list" = some none)
    (zNMax : PySem.W.nsIn K mainGlobals "max" = some none)
    (zNMin : PySem.W.nsIn K mainGlobals "min" = some none)
    (zNRange : PySem.W.nsIn K mainGlobals "range" = some none)
    (zNSum : PySem.W.nsIn K mainGlobals "sum" = some none)
    (zPTournament : PySem.W.plainGet K CTournament Str.empty = true) (zHTournament : PySem.W.hasDictIn K CTournament = true) (zOTournament : PySem.W.plainOver K CTournament = true) (zSTournament : PySem.W.findIn K (.ref CTournament) "__setattr__" = some (some (.builtin "object.__setattr__"))) (zMTournament : PySem.W.makesIn K CTournament = true) (zETournament : PySem.W.keepIn K (.ref CTournament) = true)
    (zFTournamentRankWeight : PySem.W.findIn K (.ref CTournament) "rank_weight" = some none)
    (zFTournamentWinsWeight : PySem.W.findIn K (.ref CTournament) "wins_weight" = some none)
    (zFTournamentStables : PySem.W.findIn K (.ref CTournament) "stables" = some none)
    (zFTournamentWon : PySem.W.findIn K (.ref CTournament) "won" = some none)
    (zFTournamentMetPairs : PySem.W.findIn K (.ref CTournament) "met_pairs" = some none) :
    ∃ ad : Adr, Txt K mg ad ∧ ad.fAnswers = fa := by
  have e : fAnswers = fa := by
    have z := hfa.symm.trans (PySem.W.mg_of X G zAAnswers)
    cases z
    rfl
  have FInitTournament := fun_mk (st := sInitTournament) zLInitTournament zDInitTournament zKInitTournament
  have FRestart := fun_mk (st := sRestart) zLRestart zDRestart zKRestart
  have FIsThere := fun_mk (st := sIsThere) zLIsThere zDIsThere zKIsThere
  have FMayMeet := fun_mk (st := sMayMeet) zLMayMeet zDMayMeet zKMayMeet
  have FRivalsOf := fun_mk (st := sRivalsOf) zLRivalsOf zDRivalsOf zKRivalsOf
  have FRivalsOfEach := fun_mk (st := sRivalsOfEach) zLRivalsOfEach zDRivalsOfEach zKRivalsOfEach
  have FApart := fun_mk (st := sApart) zLApart zDApart zKApart
  have FOff := fun_mk (st := sOff) zLOff zDOff zKOff
  have FBegins := fun_mk (st := sBegins) zLBegins zDBegins zKBegins
  have FWrestler := fun_mk (st := sWrestler) zLWrestler zDWrestler zKWrestler
  have FMet := fun_mk (st := sMet) zLMet zDMet zKMet
  have FCheck := fun_mk (st := sCheck) zLCheck zDCheck zKCheck
  have FBest := fun_mk (st := sBest) zLBest zDBest zKBest
  have FWhy := fun_mk (st := sWhy) zLWhy zDWhy zKWhy
  have FPairOf := fun_mk (st := sPairOf) zLPairOf zDPairOf zKPairOf
  have FFirstsOfBouts := fun_mk (st := sFirstsOfBouts) zLFirstsOfBouts zDFirstsOfBouts zKFirstsOfBouts
  have FWithBout := fun_mk (st := sWithBout) zLWithBout zDWithBout zKWithBout
  have FDaysThatCanBe := fun_mk (st := sDaysThatCanBe) zLDaysThatCanBe zDDaysThatCanBe zKDaysThatCanBe
  have FIsAway := fun_mk (st := sIsAway) zLIsAway zDIsAway zKIsAway
  have FSizeOf := fun_mk (st := sSizeOf) zLSizeOf zDSizeOf zKSizeOf
  have FOddGroups := fun_mk (st := sOddGroups) zLOddGroups zDOddGroups zKOddGroups
  have FGroupFrom := fun_mk (st := sGroupFrom) zLGroupFrom zDGroupFrom zKGroupFrom
  have FNumbersBehind := fun_mk (st := sNumbersBehind) zLNumbersBehind zDNumbersBehind zKNumbersBehind
  have FAnswerCall := fun_mk (st := sAnswerCall) zLAnswerCall zDAnswerCall zKAnswerCall
  have FAnswers := fun_mk (st := sAnswers) zLAnswers zDAnswers zKAnswers
  have bInitTournament := FInitTournament.binds (ps := ["self"]) fun _ _ _ _ _ _ us hl => match us, hl with | [_], _ => rfl
  have bRestart := FRestart.binds (ps := ["self", "rank", "wins"]) fun _ _ _ _ _ _ us hl => match us, hl with | [_, _, _], _ => rfl
  have bIsThere := FIsThere.binds (ps := ["self", "number"]) fun _ _ _ _ _ _ us hl => match us, hl with | [_, _], _ => rfl
  have bMayMeet := FMayMeet.binds (ps := ["self", "one", "other"]) fun _ _ _ _ _ _ us hl => match us, hl with | [_, _, _], _ => rfl
  have bRivalsOf := FRivalsOf.binds (ps := ["self", "one"]) fun _ _ _ _ _ _ us hl => match us, hl with | [_, _], _ => rfl
  have bRivalsOfEach := FRivalsOfEach.binds (ps := ["self"]) fun _ _ _ _ _ _ us hl => match us, hl with | [_], _ => rfl
  have bApart := FApart.binds (ps := ["self", "one", "other"]) fun _ _ _ _ _ _ us hl => match us, hl with | [_, _, _], _ => rfl
  have bOff := FOff.binds (ps := ["self", "day"]) fun _ _ _ _ _ _ us hl => match us, hl with | [_, _], _ => rfl
  have bBegins := FBegins.binds (ps := ["self", "rank", "wins"]) fun _ _ _ _ _ _ us hl => match us, hl with | [_, _, _], _ => rfl
  have bWrestler := FWrestler.binds (ps := ["self", "stable", "wins"]) fun _ _ _ _ _ _ us hl => match us, hl with | [_, _, _], _ => rfl
  have bMet := FMet.binds (ps := ["self", "one", "other"]) fun _ _ _ _ _ _ us hl => match us, hl with | [_, _, _], _ => rfl
  have bCheck := FCheck.binds (ps := ["self", "day"]) fun _ _ _ _ _ _ us hl => match us, hl with | [_, _], _ => rfl
  have bBest := FBest.binds (ps := ["self"]) fun _ _ _ _ _ _ us hl => match us, hl with | [_], _ => rfl
  have bWhy := FWhy.binds (ps := ["self"]) fun _ _ _ _ _ _ us hl => match us, hl with | [_], _ => rfl
  have bPairOf := FPairOf.binds (ps := ["one", "other"]) fun _ _ _ _ _ _ us hl => match us, hl with | [_, _], _ => rfl
  have bFirstsOfBouts := FFirstsOfBouts.binds (ps := ["day"]) fun _ _ _ _ _ _ us hl => match us, hl with | [_], _ => rfl
  have bWithBout := FWithBout.binds (ps := ["day", "one", "other"]) fun _ _ _ _ _ _ us hl => match us, hl with | [_, _, _], _ => rfl
  have bDaysThatCanBe := FDaysThatCanBe.binds (ps := ["rivals"]) fun _ _ _ _ _ _ us hl => match us, hl with | [_], _ => rfl
  have bIsAway := FIsAway.binds (ps := ["away", "one"]) fun _ _ _ _ _ _ us hl => match us, hl with | [_, _], _ => rfl
  have bSizeOf := FSizeOf.binds (ps := ["rivals", "away"]) fun _ _ _ _ _ _ us hl => match us, hl with | [_, _], _ => rfl
  have bOddGroups := FOddGroups.binds (ps := ["rivals", "away"]) fun _ _ _ _ _ _ us hl => match us, hl with | [_, _], _ => rfl
  have bGroupFrom := FGroupFrom.binds (ps := ["rivals", "placed", "start"]) fun _ _ _ _ _ _ us hl => match us, hl with | [_, _, _], _ => rfl
  have bNumbersBehind := FNumbersBehind.binds (ps := ["calls", "at"]) fun _ _ _ _ _ _ us hl => match us, hl with | [_, _], _ => rfl
  have bAnswerCall := FAnswerCall.binds (ps := ["tournament", "call", "numbers"]) fun _ _ _ _ _ _ us hl => match us, hl with | [_, _, _], _ => rfl
  have bAnswers := FAnswers.binds (ps := ["calls"]) fun _ _ _ _ _ _ us hl => match us, hl with | [_], _ => rfl
  refine ⟨{ CTournament := CTournament, fInitTournament := fInitTournament, fdInitTournament := PySem.W.fnOf "__init__" "Tournament.__init__" (defArgs sInitTournament) (defBody sInitTournament) (defScope sInitTournament) .none kVInitTournament dcInitTournament pmInitTournament anInitTournament cdInitTournament ctInitTournament, fRestart := fRestart, fdRestart := PySem.W.fnOf "restart" "Tournament.restart" (defArgs sRestart) (defBody sRestart) (defScope sRestart) .none kVRestart dcRestart pmRestart anRestart cdRestart ctRestart, fIsThere := fIsThere, fdIsThere := PySem.W.fnOf "is_there" "Tournament.is_there" (defArgs sIsThere) (defBody sIsThere) (defScope sIsThere) .none kVIsThere dcIsThere pmIsThere anIsThere cdIsThere ctIsThere, fMayMeet := fMayMeet, fdMayMeet := PySem.W.fnOf "may_meet" "Tournament.may_meet" (defArgs sMayMeet) (defBody sMayMeet) (defScope sMayMeet) .none kVMayMeet dcMayMeet pmMayMeet anMayMeet cdMayMeet ctMayMeet, fRivalsOf := fRivalsOf, fdRivalsOf := PySem.W.fnOf "rivals_of" "Tournament.rivals_of" (defArgs sRivalsOf) (defBody sRivalsOf) (defScope sRivalsOf) .none kVRivalsOf dcRivalsOf pmRivalsOf anRivalsOf cdRivalsOf ctRivalsOf, fRivalsOfEach := fRivalsOfEach, fdRivalsOfEach := PySem.W.fnOf "rivals_of_each" "Tournament.rivals_of_each" (defArgs sRivalsOfEach) (defBody sRivalsOfEach) (defScope sRivalsOfEach) .none kVRivalsOfEach dcRivalsOfEach pmRivalsOfEach anRivalsOfEach cdRivalsOfEach ctRivalsOfEach, fApart := fApart, fdApart := PySem.W.fnOf "apart" "Tournament.apart" (defArgs sApart) (defBody sApart) (defScope sApart) .none kVApart dcApart pmApart anApart cdApart ctApart, fOff := fOff, fdOff := PySem.W.fnOf "off" "Tournament.off" (defArgs sOff) (defBody sOff) (defScope sOff) .none kVOff dcOff pmOff anOff cdOff ctOff, fBegins := fBegins, fdBegins := PySem.W.fnOf "begins" "Tournament.begins" (defArgs sBegins) (defBody sBegins) (defScope sBegins) .none kVBegins dcBegins pmBegins anBegins cdBegins ctBegins, fWrestler := fWrestler, fdWrestler := PySem.W.fnOf "wrestler" "Tournament.wrestler" (defArgs sWrestler) (defBody sWrestler) (defScope sWrestler) .none kVWrestler dcWrestler pmWrestler anWrestler cdWrestler ctWrestler, fMet := fMet, fdMet := PySem.W.fnOf "met" "Tournament.met" (defArgs sMet) (defBody sMet) (defScope sMet) .none kVMet dcMet pmMet anMet cdMet ctMet, fCheck := fCheck, fdCheck := PySem.W.fnOf "check" "Tournament.check" (defArgs sCheck) (defBody sCheck) (defScope sCheck) .none kVCheck dcCheck pmCheck anCheck cdCheck ctCheck, fBest := fBest, fdBest := PySem.W.fnOf "best" "Tournament.best" (defArgs sBest) (defBody sBest) (defScope sBest) .none kVBest dcBest pmBest anBest cdBest ctBest, fWhy := fWhy, fdWhy := PySem.W.fnOf "why" "Tournament.why" (defArgs sWhy) (defBody sWhy) (defScope sWhy) .none kVWhy dcWhy pmWhy anWhy cdWhy ctWhy, fPairOf := fPairOf, fdPairOf := PySem.W.fnOf "pair_of" "pair_of" (defArgs sPairOf) (defBody sPairOf) (defScope sPairOf) .none kVPairOf dcPairOf pmPairOf anPairOf cdPairOf ctPairOf, fFirstsOfBouts := fFirstsOfBouts, fdFirstsOfBouts := PySem.W.fnOf "firsts_of_bouts" "firsts_of_bouts" (defArgs sFirstsOfBouts) (defBody sFirstsOfBouts) (defScope sFirstsOfBouts) .none kVFirstsOfBouts dcFirstsOfBouts pmFirstsOfBouts anFirstsOfBouts cdFirstsOfBouts ctFirstsOfBouts, fWithBout := fWithBout, fdWithBout := PySem.W.fnOf "with_bout" "with_bout" (defArgs sWithBout) (defBody sWithBout) (defScope sWithBout) .none kVWithBout dcWithBout pmWithBout anWithBout cdWithBout ctWithBout, fDaysThatCanBe := fDaysThatCanBe, fdDaysThatCanBe := PySem.W.fnOf "days_that_can_be" "days_that_can_be" (defArgs sDaysThatCanBe) (defBody sDaysThatCanBe) (defScope sDaysThatCanBe) .none kVDaysThatCanBe dcDaysThatCanBe pmDaysThatCanBe anDaysThatCanBe cdDaysThatCanBe ctDaysThatCanBe, fIsAway := fIsAway, fdIsAway := PySem.W.fnOf "is_away" "is_away" (defArgs sIsAway) (defBody sIsAway) (defScope sIsAway) .none kVIsAway dcIsAway pmIsAway anIsAway cdIsAway ctIsAway, fSizeOf := fSizeOf, fdSizeOf := PySem.W.fnOf "size_of" "size_of" (defArgs sSizeOf) (defBody sSizeOf) (defScope sSizeOf) .none kVSizeOf dcSizeOf pmSizeOf anSizeOf cdSizeOf ctSizeOf, fOddGroups := fOddGroups, fdOddGroups := PySem.W.fnOf "odd_groups" "odd_groups" (defArgs sOddGroups) (defBody sOddGroups) (defScope sOddGroups) .none kVOddGroups dcOddGroups pmOddGroups anOddGroups cdOddGroups ctOddGroups, fGroupFrom := fGroupFrom, fdGroupFrom := PySem.W.fnOf "group_from" "group_from" (defArgs sGroupFrom) (defBody sGroupFrom) (defScope sGroupFrom) .none kVGroupFrom dcGroupFrom pmGroupFrom anGroupFrom cdGroupFrom ctGroupFrom, fNumbersBehind := fNumbersBehind, fdNumbersBehind := PySem.W.fnOf "numbers_behind" "numbers_behind" (defArgs sNumbersBehind) (defBody sNumbersBehind) (defScope sNumbersBehind) .none kVNumbersBehind dcNumbersBehind pmNumbersBehind anNumbersBehind cdNumbersBehind ctNumbersBehind, fAnswerCall := fAnswerCall, fdAnswerCall := PySem.W.fnOf "answer_call" "answer_call" (defArgs sAnswerCall) (defBody sAnswerCall) (defScope sAnswerCall) .none kVAnswerCall dcAnswerCall pmAnswerCall anAnswerCall cdAnswerCall ctAnswerCall, fAnswers := fAnswers, fdAnswers := PySem.W.fnOf "answers" "answers" (defArgs sAnswers) (defBody sAnswers) (defScope sAnswers) .none kVAnswers dcAnswers pmAnswers anAnswers cdAnswers ctAnswers, tBegins := tBegins, tWrestler := tWrestler, tMet := tMet, tCheck := tCheck, tBest := tBest, tWhy := tWhy, tOutOfRange := tOutOfRange, tNotThere := tNotThere, tMayNotMeet := tMayNotMeet, tFull := tFull, tNotMetBack := tNotMetBack, tBoutMayNotBe := tBoutMayNotBe, tHighestWeight := tHighestWeight, tHighestStable := tHighestStable, tMostWins := tMostWins, tMostWrestlers := tMostWrestlers }, { clTournament := ⟨zPTournament, zHTournament, zOTournament, zSTournament⟩, mkTournament := ⟨zMTournament, zAInitTournament, zIInitTournament, zETournament⟩, cTournament := PySem.W.mg_of X G zCTournament, aRankWeight := zFTournamentRankWeight, aWinsWeight := zFTournamentWinsWeight, aStables := zFTournamentStables, aWon := zFTournamentWon, aMetPairs := zFTournamentMetPairs, FInitTournament := FInitTournament, bInitTournament := bInitTournament, FRestart := FRestart, bRestart := bRestart, mRestart := ⟨zARestart, zIRestart, zKRestart⟩, FIsThere := FIsThere, bIsThere := bIsThere, mIsThere := ⟨zAIsThere, zIIsThere, zKIsThere⟩, FMayMeet := FMayMeet, bMayMeet := bMayMeet, mMayMeet := ⟨zAMayMeet, zIMayMeet, zKMayMeet⟩, FRivalsOf := FRivalsOf, bRivalsOf := bRivalsOf, mRivalsOf := ⟨zARivalsOf, zIRivalsOf, zKRivalsOf⟩, FRivalsOfEach := FRivalsOfEach, bRivalsOfEach := bRivalsOfEach, mRivalsOfEach := ⟨zARivalsOfEach, zIRivalsOfEach, zKRivalsOfEach⟩, FApart := FApart, bApart := bApart, mApart := ⟨zAApart, zIApart, zKApart⟩, FOff := FOff, bOff := bOff, mOff := ⟨zAOff, zIOff, zKOff⟩, FBegins := FBegins, bBegins := bBegins, mBegins := ⟨zABegins, zIBegins, zKBegins⟩, FWrestler := FWrestler, bWrestler := bWrestler, mWrestler := ⟨zAWrestler, zIWrestler, zKWrestler⟩, FMet := FMet, bMet := bMet, mMet := ⟨zAMet, zIMet, zKMet⟩, FCheck := FCheck, bCheck := bCheck, mCheck := ⟨zACheck, zICheck, zKCheck⟩, FBest := FBest, bBest := bBest, mBest := ⟨zABest, zIBest, zKBest⟩, FWhy := FWhy, bWhy := bWhy, mWhy := ⟨zAWhy, zIWhy, zKWhy⟩, FPairOf := FPairOf, bPairOf := bPairOf, gPairOf := PySem.W.mg_of X G zAPairOf, FFirstsOfBouts := FFirstsOfBouts, bFirstsOfBouts := bFirstsOfBouts, gFirstsOfBouts := PySem.W.mg_of X G zAFirstsOfBouts, FWithBout := FWithBout, bWithBout := bWithBout, gWithBout := PySem.W.mg_of X G zAWithBout, FDaysThatCanBe := FDaysThatCanBe, bDaysThatCanBe := bDaysThatCanBe, gDaysThatCanBe := PySem.W.mg_of X G zADaysThatCanBe, FIsAway := FIsAway, bIsAway := bIsAway, gIsAway := PySem.W.mg_of X G zAIsAway, FSizeOf := FSizeOf, bSizeOf := bSizeOf, gSizeOf := PySem.W.mg_of X G zASizeOf, FOddGroups := FOddGroups, bOddGroups := bOddGroups, gOddGroups := PySem.W.mg_of X G zAOddGroups, FGroupFrom := FGroupFrom, bGroupFrom := bGroupFrom, gGroupFrom := PySem.W.mg_of X G zAGroupFrom, FNumbersBehind := FNumbersBehind, bNumbersBehind := bNumbersBehind, gNumbersBehind := PySem.W.mg_of X G zANumbersBehind, FAnswerCall := FAnswerCall, bAnswerCall := bAnswerCall, gAnswerCall := PySem.W.mg_of X G zAAnswerCall, FAnswers := FAnswers, bAnswers := bAnswers, gAnswers := PySem.W.mg_of X G zAAnswers, kBegins := PySem.W.mg_of X G zGBegins, kWrestler := PySem.W.mg_of X G zGWrestler, kMet := PySem.W.mg_of X G zGMet, kCheck := PySem.W.mg_of X G zGCheck, kBest := PySem.W.mg_of X G zGBest, kWhy := PySem.W.mg_of X G zGWhy, kOutOfRange := PySem.W.mg_of X G zGOutOfRange, kNotThere := PySem.W.mg_of X G zGNotThere, kMayNotMeet := PySem.W.mg_of X G zGMayNotMeet, kFull := PySem.W.mg_of X G zGFull, kNotMetBack := PySem.W.mg_of X G zGNotMetBack, kBoutMayNotBe := PySem.W.mg_of X G zGBoutMayNotBe, kHighestWeight := PySem.W.mg_of X G zGHighestWeight, kHighestStable := PySem.W.mg_of X G zGHighestStable, kMostWins := PySem.W.mg_of X G zGMostWins, kMostWrestlers := PySem.W.mg_of X G zGMostWrestlers, nAbs := PySem.W.mg_none_of X G zNAbs, nAll := PySem.W.mg_none_of X G zNAll, nEnumerate := PySem.W.mg_none_of X G zNEnumerate, nLen := PySem.W.mg_none_of X G zNLen, nList := PySem.W.mg_none_of X G zNList, nMax := PySem.W.mg_none_of X G zNMax, nMin := PySem.W.mg_none_of X G zNMin, nRange := PySem.W.mg_none_of X G zNRange, nSum := PySem.W.mg_none_of X G zNSum, bindAll := fun s us hu => match us, hu with | [_], _ => .of_eq rfl }, e⟩
end Rb

namespace Rb
open PySem PySem.Spec PyProof.Rows L2
open PySem.W (Codec)
/-! ### the attributes -/
def tf (r w : Nat) (ls lw ld : Addr) : List (Str × V) :=
  [("rank_weight", .int r), ("wins_weight", .int w), ("stables", .ref ls), ("won", .ref lw), ("met_pairs", .ref ld)]
theorem put_hit {f : Str} {v x : V} {r : List (Str × V)} : putF f v ((f, x) :: r) = (f, v) :: r := if_pos rfl
theorem put_miss {f g : Str} {v x : V} {r : List (Str × V)} (h : ¬ g = f) : putF f v ((g, x) :: r) = (g, x) :: putF f v r := if_neg h
theorem look_hit {f : Str} {v : V} {r : List (Str × V)} : List.lookup f ((f, v) :: r) = some v := by
  rw [List.lookup_cons, beq_self_eq_true]
  all_goals rfl
theorem look_miss {f g : Str} {v : V} {r : List (Str × V)} (h : ¬ f = g) : List.lookup f ((g, v) :: r) = List.lookup f r := by
  rw [List.lookup_cons, beq_eq_false_iff_ne.mpr h]
section
variable {r w : Nat} {ls lw ld : Addr}
theorem tf_rank : (tf r w ls lw ld).lookup ("rank_weight" : Str) = some (.int r) := look_hit
theorem tf_wins : (tf r w ls lw ld).lookup ("wins_weight" : Str) = some (.int w) := by
  unfold tf
  rw [look_miss (by decide +kernel), look_hit]
theorem tf_stables : (tf r w ls lw ld).lookup ("stables" : Str) = some (.ref ls) := by
  unfold tf
  rw [look_miss (by decide +kernel), look_miss (by decide +kernel), look_hit]
theorem tf_won : (tf r w ls lw ld).lookup ("won" : Str) = some (.ref lw) := by
  unfold tf
  rw [look_miss (by decide +kernel), look_miss (by decide +kernel), look_miss (by decide +kernel), look_hit]
theorem tf_met : (tf r w ls lw ld).lookup ("met_pairs" : Str) = some (.ref ld) := by
  unfold tf
  rw [look_miss (by decide +kernel), look_miss (by decide +kernel), look_miss (by decide +kernel), look_miss (by decide +kernel), look_hit]
theorem tf_no {m : Str} (h : (m == "rank_weight" || m == "wins_weight" || m == "stables" || m == "won" || m == "met_pairs") = false) : (tf r w ls lw ld).lookup m = none := by
  simp only [Bool.or_eq_false_iff, beq_eq_false_iff_ne, ne_eq] at h
  obtain ⟨⟨⟨⟨h1, h2⟩, h3⟩, h4⟩, h5⟩ := h
  unfold tf
  rw [look_miss h1, look_miss h2, look_miss h3, look_miss h4, look_miss h5]
  rfl
/-- restart's five stores, on a new object and on one that was -/
theorem tf_new {r' w' : Nat} {a b c : Addr} : putF "met_pairs" (.ref c) (putF "won" (.ref b) (putF "stables" (.ref a) (putF "wins_weight" (.int w') (putF "rank_weight" (.int r') [])))) = tf r' w' a b c := rfl
theorem tf_again {r' w' : Nat} {a b c : Addr} : putF "met_pairs" (.ref c) (putF "won" (.ref b) (putF "stables" (.ref a) (putF "wins_weight" (.int w') (putF "rank_weight" (.int r') (tf r w ls lw ld))))) = tf r' w' a b c := rfl
end

/-! ### the data -/
def sVs (b : Sj09.Basho) : List V := b.wrestlers.map fun w => V.int ((w.stable : Nat) : Int)
def wVs (b : Sj09.Basho) : List V := b.wrestlers.map fun w => V.int ((w.wins : Nat) : Int)
def kOf (i k : Nat) : List Key := [Sum.inl ((min i k : Nat) : Int), Sum.inl ((max i k : Nat) : Int)]
def metD (b : Sj09.Basho) : List (List Key × V) := b.met.map fun p => (kOf p.1 p.2, V.bl true)
/-- the tournament b stands at a, its lists at ls and lw, its dict at ld -/
structure TourAt (C : Addr) (H : Hp) (a : Addr) (b : Sj09.Basho) (dx ls lw ld : Addr) : Prop where
  obj : H a = some (.ins C dx (tf b.rank b.win ls lw ld))
  st : H ls = some (.lst (sVs b))
  wn : H lw = some (.lst (wVs b))
  mt : H ld = some (.dT (metD b))
  ne : ls ≠ lw
theorem TourAt.same {C : Addr} {H H' : Hp} {a : Addr} {b : Sj09.Basho} {dx ls lw ld : Addr} (t : TourAt C H a b dx ls lw ld) (s : Same H H') : TourAt C H' a b dx ls lw ld :=
  ⟨s _ _ t.obj, s _ _ t.st, s _ _ t.wn, s _ _ t.mt, t.ne⟩
theorem same_upd {H : Hp} {p : Addr} {o : HO} (hp : H p = none) : Same H (upd H p o) := fun b u e => by
  rw [upd_ne (ne_of_none e hp)]
  exact e
theorem sVs_len (b : Sj09.Basho) : (sVs b).length = b.count := List.length_map _
theorem wVs_len (b : Sj09.Basho) : (wVs b).length = b.count := List.length_map _
theorem of_at {b : Sj09.Basho} {i : Nat} (h : i < b.count) : b.wrestlers[i]? = some (b.of_ i) := by
  have h' : i < b.wrestlers.length := h
  unfold Sj09.Basho.of_
  rw [List.getD_eq_getElem?_getD, List.getElem?_eq_getElem h']
  rfl
theorem sVs_at {b : Sj09.Basho} {i : Nat} (h : i < b.count) : (sVs b)[i]? = some (V.int (((b.of_ i).stable : Nat) : Int)) := by
  unfold sVs
  rw [List.getElem?_map, of_at h]
  rfl
theorem wVs_at {b : Sj09.Basho} {i : Nat} (h : i < b.count) : (wVs b)[i]? = some (V.int (((b.of_ i).wins : Nat) : Int)) := by
  unfold wVs
  rw [List.getElem?_map, of_at h]
  rfl
theorem kOf_eq {i k j m : Nat} : kOf i k = kOf j m ↔ pairKey i k = pairKey j m := by
  unfold kOf pairKey
  constructor
  · intro h
    injection h with h1 h2
    injection h2 with h2 _
    injection h1 with h1
    injection h2 with h2
    rw [Prod.mk.injEq]
    omega
  · intro h
    rw [Prod.mk.injEq] at h
    rw [h.1, h.2]
theorem metD_some (b : Sj09.Basho) (i k : Nat) : (valV (metD b) (kOf i k)).isSome = (metKeys b).contains (pairKey i k) := by
  rw [← valV_any]
  unfold metD metKeys
  generalize b.met = l
  induction l with
  | nil => rfl
  | cons p l ih =>
    rw [List.map_cons, List.any_cons, ih, List.map_cons, List.contains_cons]
    congr 1
    rw [Bool.eq_iff_iff, decide_eq_true_eq, beq_iff_eq]
    exact kOf_eq.trans eq_comm
theorem metD_none {b : Sj09.Basho} {i k : Nat} (h : b.may i k = true) : valV (metD b) (kOf i k) = none := by
  have e := metD_some b i k
  have n := may_new h
  rw [List.contains_eq_mem, decide_eq_false n] at e
  cases q : valV (metD b) (kOf i k) with
  | none => rfl
  | some x =>
    rw [q] at e
    cases e
/-- all but those at O is as it was -/
def Keep (H H' : Hp) (O : List Addr) : Prop := ∀ b o, H b = some o → ¬ b ∈ O → H' b = some o
def iV (l : List Int) : List V := l.map V.int
/-- what a call's method promises: the tournament behind the call, the answer in a new list -/
def Done (C : Addr) (H : Hp) (a : Addr) (b : Sj09.Basho) (O : List Addr) (c : Sj09.Call) (Q : VK) : Prop :=
  ∀ (H' : Hp) (p dx ls lw ld : Addr), TourAt C H' a (Sj09.step b c).1 dx ls lw ld → (∀ x ∈ [ls, lw, ld], x ∈ O ∨ H x = none) → Keep H H' O → H p = none → ¬ p ∈ [a, ls, lw, ld] → H' p = some (.lst (iV (ans1 b c))) → Q (.ref p) H'

theorem TourAt.out {C : Addr} {H : Hp} {a : Addr} {b : Sj09.Basho} {dx ls lw ld p : Addr} (t : TourAt C H a b dx ls lw ld) (hp : H p = none) : ¬ p ∈ [a, ls, lw, ld] := fun m => by
  simp only [List.mem_cons, List.not_mem_nil, or_false] at m
  rcases m with rfl | rfl | rfl | rfl
  · exact absurd (t.obj.symm.trans hp) (fun z => nomatch z)
  · exact absurd (t.st.symm.trans hp) (fun z => nomatch z)
  · exact absurd (t.wn.symm.trans hp) (fun z => nomatch z)
  · exact absurd (t.mt.symm.trans hp) (fun z => nomatch z)
/-- a call that leaves the tournament as it is: its answer in a new list -/
theorem Done.same {C : Addr} {H H1 : Hp} {a : Addr} {b : Sj09.Basho} {dx ls lw ld p : Addr} {c : Sj09.Call} {Q : VK} {vs : List V} (q : Done C H a b [a, ls, lw, ld] c Q) (t : TourAt C H a b dx ls lw ld) (e : (Sj09.step b c).1 = b) (s : Same H H1) (hp : H1 p = none)
    (hv : vs = iV (ans1 b c)) : Q (.ref p) (upd H1 p (.lst vs)) := by
  have s2 : Same H (upd H1 p (.lst vs)) := s.trans (same_upd hp)
  refine q _ p dx ls lw ld (by rw [e]; exact t.same s2) (fun x hx => .inl (List.mem_cons_of_mem _ hx)) (fun b o eb _ => s2 b o eb) (s.free hp) (t.out (s.free hp)) ?_
  rw [upd_same, hv]
theorem ans_ok {b b' : Sj09.Basho} {c : Sj09.Call} {v : Int} (e : Sj09.step b c = (b', Sj09.ok v)) : [V.int v] = iV (ans1 b c) := by
  unfold ans1
  rw [e]
  rfl

/-! ### the promises -/
def spPair : Sp := fun vs H Q _ => ∃ i k : Nat, vs = [.int (i : Int), .int (k : Int)] ∧ ∀ p, H p = none → Q (.ref p) (upd H p (.tup ((kOf i k).map kV)))
def spThere (C : Addr) : Sp := fun vs H Q _ => ∃ (a dx ls lw ld : Addr) (b : Sj09.Basho) (i : Nat), vs = [.ref a, .int (i : Int)] ∧ TourAt C H a b dx ls lw ld ∧ Q (.bl (decide (i < b.count))) H
def spMay (C : Addr) : Sp := fun vs H Q _ => ∃ (a dx ls lw ld : Addr) (b : Sj09.Basho) (i k : Nat), vs = [.ref a, .int (i : Int), .int (k : Int)] ∧ TourAt C H a b dx ls lw ld ∧ i < b.count ∧ k < b.count ∧ ∀ H', Same H H' → Q (.bl (b.may i k)) H'
def spRestart (C : Addr) : Sp := fun vs H Q _ => ∃ (a dx : Addr) (fs : List (Str × V)) (r w : Nat), vs = [.ref a, .int (r : Int), .int (w : Int)] ∧ H a = some (.ins C dx fs) ∧ fs.length ≤ 5 ∧
  (∀ x y z : Addr, putF "met_pairs" (.ref z) (putF "won" (.ref y) (putF "stables" (.ref x) (putF "wins_weight" (.int (w : Int)) (putF "rank_weight" (.int (r : Int)) fs)))) = tf r w x y z) ∧
  ∀ (H' : Hp) (ls lw ld : Addr), TourAt C H' a ⟨r, w, [], []⟩ dx ls lw ld → H ls = none → H lw = none → H ld = none → (∀ b o, H b = some o → b ≠ a → H' b = some o) → Q .non H'
def spInit (C : Addr) : Sp := fun vs H Q _ => ∃ (a dx : Addr), vs = [.ref a] ∧ H a = some (.ins C dx []) ∧
  ∀ (H' : Hp) (ls lw ld : Addr), TourAt C H' a Sj09.init dx ls lw ld → H ls = none → H lw = none → H ld = none → (∀ b o, H b = some o → b ≠ a → H' b = some o) → Q .non H'
def spCall (C : Addr) (f : Nat → Nat → Sj09.Call) : Sp := fun vs H Q _ => ∃ (a dx ls lw ld : Addr) (b : Sj09.Basho) (i k : Nat), vs = [.ref a, .int (i : Int), .int (k : Int)] ∧ TourAt C H a b dx ls lw ld ∧ WF b ∧ b.met.length ≤ 1000 ∧ Done C H a b [a, ls, lw, ld] (f i k) Q

section
variable {P : Program} {w : World} {K : PySem.W.Frag} {mg : Str → Option Value} {base : Heap} {ad : Adr}
/-- len of a dict whose keys are tuples -/
theorem call_lenT {X : Cx} : CallR X (.builtin "len") (fun xs H Q => ∃ a kvs, xs = [V.ref a] ∧ H a = some (.dT kvs) ∧ Q (.int kvs.length) H) := by
  intro pins s σ H xs us Q I r h
  obtain ⟨a, kvs, rfl, ha, q⟩ := h
  obtain ⟨u, rfl, ru⟩ := vals1 r
  cases ru
  obtain ⟨z, hd, ys, rel, o, es, ep, h1, h2, h3, h4, _⟩ := (show ObjOk X.prog X.w H s.heap a (.dT kvs) from I.hok a _ ha)
  have hl : es.size = kvs.length := by
    have e1 : es.toList.length = ys.length := by rw [h4, List.length_map]
    have e2 : kvs.length = ys.length := Paired.length rel
    rw [← Array.length_toList, e1, e2]
  have ty : s.TypeIs (.ref a) "dict" := ⟨o, h1, h2.1⟩
  rw [sizeLine_eq] at z
  refine (Calls.call_function_entry kind_len plain_len entry_len (args_len1 _)) ?_
  unfold Builtin.«len»
  refine wpAny_bind (m := (oneArg "len" _)) (wpAny_pure ?_)
  have m : MeetsIn X.prog X.w (Builtin.«dict.__len__» ⟨[.ref a], []⟩) (fun _ R s' => s' = s ∧ R (.ok (.ret (.int kvs.length s.toks))) { s with toks := s.toks + 1 }) := .of_wp fun A R s' ⟨es', hR⟩ => by
    subst es'
    show wpAny _ _ (dictSize a >>= _) _ _ s'
    unfold dictSize
    refine wpAny_bind (wpAny_bind (wpAny_dictEntries h1 h3 (wpAny_pure ?_)))
    show wpAny _ _ (Builtin.Dict.pendingCount a >>= _) _ _ s'
    refine wpAny_bind (wpAny_pendingCount_other hd (wpAny_ret_mkInt ?_))
    rw [Nat.add_zero, hl]
    exact hR
  refine wpAny_bind (m := callSpecial? (.ref a) (Str.ofString "__len__")) (wpAny_callSpecial?_slot (name := Str.ofString "__len__") ty F.slot_dict_len (call_meetsIn F.slot_dict_len ty F.entry_dict_len (F.args_dict_len_1 _) m ⟨rfl, ?_⟩))
  show wpAny _ _ _ _ _ ({ s with toks := s.toks + 1 })
  refine wpAny_bind (wpAny_holding (wpAny_pure (wpAny_bind (wpAny_letGo ?_))))
  show wpAny _ _ (if (((kvs.length : Nat) : Int)) < 0 then _ else _) _ _ _
  rw [if_neg (by omega)]
  show wpAny _ _ (if (((kvs.length : Nat) : Int)) ≥ 2 ^ 63 then _ else _) _ _ _
  rw [if_neg (by omega)]
  exact wpAny_bind (wpAny_mkInt (wpAny_pure ⟨_, rfl, ⟨.int kvs.length, H, (I.tok _), ⟨_, rfl⟩, q⟩⟩))

theorem ok_PairOf (T : Txt K mg ad) : FnOk P w K mg base CX0 1 ad.fPairOf ad.fdPairOf ["one", "other"] spPair := by
  refine T.FPairOf.ok scPairOf (fun vs H Q E h => ?_) (fun cdv A outer s H vs Q E hr h => ?_)
  · obtain ⟨i, k, rfl, _⟩ := h
    rfl
  · obtain ⟨i, k, rfl, q⟩ := h
    refine ⟨_, pss_one (ps_ret (pe_tup (pa_cons (pe_callB (call_min2 rfl) rfl T.nMin boot_min (pa_cons (pv 0) (pa_cons (pv 1) pa_nil))) (pa_cons (pe_callB (call_max2 rfl) rfl T.nMax boot_max (pa_cons (pv 0) (pa_cons (pv 1) pa_nil))) pa_nil)))), ?_⟩
    refine ⟨_, rfl, _, rfl, i, k, rfl, _, rfl, _, rfl, i, k, rfl, (by show 2 ≤ sizeLine; decide), fun p hp => ?_⟩
    have e1 : (if (k : Int) < i then (k : Int) else i) = ((min i k : Nat) : Int) := by split <;> omega
    have e2 : (if (k : Int) > i then (k : Int) else i) = ((max i k : Nat) : Int) := by split <;> omega
    have z := q p hp
    rw [e1, e2]
    exact z

theorem ok_IsThere (T : Txt K mg ad) : FnOk P w K mg base CX0 1 ad.fIsThere ad.fdIsThere ["self", "number"] (spThere ad.CTournament) := by
  refine T.FIsThere.ok scIsThere (fun vs H Q E h => ?_) (fun cdv A outer s H vs Q E hr h => ?_)
  · obtain ⟨a, dx, ls, lw, ld, b, i, rfl, _⟩ := h
    rfl
  · obtain ⟨a, dx, ls, lw, ld, b, i, rfl, t, q⟩ := h
    refine ⟨_, pss_one (ps_ret (pe_cmpR op_lt (pv 1) (pe_callB call_len_seq rfl T.nLen PySem.boot_len (pa_cons (pe_fld (pv 0) rfl) pa_nil)) (nomark _))), ?_⟩
    refine ⟨_, rfl, _, rfl, a, ad.CTournament, dx, _, _, rfl, t.obj, T.clTournament, T.aStables, tf_stables, ls, _, rfl, .inl (SqL.of t.st), _, _, rfl, rfl, ?_⟩
    have e : decide ((i : Int) < ((sVs b).length : Int)) = decide (i < b.count) := by
      rw [sVs_len, decide_eq_decide]
      omega
    show Q (V.bl (decide ((i : Int) < ((sVs b).length : Int)))) H
    rw [e]
    exact q

theorem ok_MayMeet (T : Txt K mg ad) : FnOk P w K mg base CX0 2 ad.fMayMeet ad.fdMayMeet ["self", "one", "other"] (spMay ad.CTournament) := by
  refine T.FMayMeet.ok scMayMeet (fun vs H Q E h => ?_) (fun cdv A outer s H vs Q E hr h => ?_)
  · obtain ⟨a, dx, ls, lw, ld, b, i, k, rfl, _⟩ := h
    rfl
  · obtain ⟨a, dx, ls, lw, ld, b, i, k, rfl, t, hi, hk, q⟩ := h
    have hu := hu_of hr
    refine ⟨_, pss_cons (ps_if (pw_or (pt_cmpR op_eq (pv 1) (pv 2) (nomark _)) (pw_or1 (pt_cmpR op_eq (pe_ix ix_list (pe_fld (pv 0) rfl) (pv 1) (fun _ _ => rfl)) (pe_ix ix_list (pe_fld (pv 0) rfl) (pv 2) (fun _ _ => rfl)) (nomark _)))).pt (pss_one (ps_ret pe_bl)) pss_nil)
      (pss_one (ps_ret (pe_cmp (pc_dnotin hu (pe_call (ok_PairOf T) hr rfl T.gPairOf T.FPairOf.kp T.bPairOf .nil pass0 (pa_cons (pv 1) (pa_cons (pv 2) pa_nil))) (pe_fld (pv 0) rfl))))), ?_⟩
    refine ⟨_, rfl, _, rfl, rfl, _, rfl, ite2 (fun h1 => ?_) (fun h1 => ?_)⟩
    · have e : i = k := by
        have z := of_decide_eq_true h1
        injection z with z
        omega
      have m : b.may i k = false := by rw [e]; exact may_irr b k
      refine iteT ?_
      have z := q H (Same.refl H)
      rw [m] at z
      exact z
    · have ne : i ≠ k := fun e => h1 (by rw [e]; exact decide_eq_true rfl)
      refine ⟨_, rfl, a, ad.CTournament, dx, _, _, rfl, t.obj, T.clTournament, T.aStables, tf_stables, _, rfl, ls, _, _, _, rfl, rfl, SqL.of t.st, atI_nat (sVs_at hi), _, rfl, a, ad.CTournament, dx, _, _, rfl, t.obj, T.clTournament, T.aStables, tf_stables, _, rfl, ls, _, _, _, rfl, rfl, SqL.of t.st, atI_nat (sVs_at hk), rfl, _, rfl,
        ite2 (fun h2 => ?_) (fun h2 => ?_)⟩
      · have e : (b.of_ i).stable = (b.of_ k).stable := by
          have z := of_decide_eq_true h2
          injection z with z
          omega
        have m : b.may i k = false := by
          unfold Sj09.Basho.may
          rw [e, bne_self_eq_false, Bool.false_and, Bool.and_false]
        have z := q H (Same.refl H)
        rw [m] at z
        exact z
      · have ne2 : (b.of_ i).stable ≠ (b.of_ k).stable := fun e => h2 (by rw [e]; exact decide_eq_true rfl)
        refine ⟨_, rfl, _, rfl, i, k, rfl, fun p hp => ?_⟩
        have sm : Same H (upd H p (.tup ((kOf i k).map kV))) := same_upd hp
        refine ⟨_, rfl, a, ad.CTournament, dx, _, _, rfl, sm _ _ t.obj, T.clTournament, T.aMetPairs, tf_met, ld, _, rfl, DGet.t (k := kOf i k) (sm _ _ t.mt) upd_same, ?_⟩
        have m : b.may i k = !(valV (metD b) (kOf i k)).isSome := by
          rw [may_keys, metD_some, bne_iff_ne.mpr ne, bne_iff_ne.mpr ne2]
          rfl
        have z := q _ sm
        rw [m] at z
        exact z
theorem ok_Restart (T : Txt K mg ad) : FnOk P w K mg base CX0 1 ad.fRestart ad.fdRestart ["self", "rank", "wins"] (spRestart ad.CTournament) := by
  refine T.FRestart.ok scRestart (fun vs H Q E h => ?_) (fun cdv A outer s H vs Q E hr h => ?_)
  · obtain ⟨a, dx, fs, r, n, rfl, _⟩ := h
    rfl
  · obtain ⟨a, dx, fs, r, n, rfl, h0, hl, hf, q⟩ := h
    refine ⟨_, pss_cons (ps_fld (pv 0) (pv 1) rfl) (pss_cons (ps_fld (pv 0) (pv 2) rfl) (pss_cons (ps_fld (pv 0) (pe_lst pa_nil) rfl) (pss_cons (ps_fld (pv 0) (pe_lst pa_nil) rfl) (pss_one (ps_fld (pv 0) pe_dnewT rfl))))), ?_⟩
    have l1 := length_putF "rank_weight" (.int (r : Int)) fs
    have l2 := length_putF "wins_weight" (.int (n : Int)) (putF "rank_weight" (.int (r : Int)) fs)
    refine ⟨_, rfl, _, rfl, a, ad.CTournament, dx, _, rfl, h0, T.clTournament, T.aRankWeight, (by omega), _, rfl, _, rfl, a, ad.CTournament, dx, _, rfl, upd_same, T.clTournament, T.aWinsWeight, (by omega), Nat.zero_le _, fun ls hls => ?_⟩
    have n1 : a ≠ ls := ne_of_none upd_same hls
    have l3 := length_putF "stables" (.ref ls) (putF "wins_weight" (.int (n : Int)) (putF "rank_weight" (.int (r : Int)) fs))
    refine ⟨_, rfl, a, ad.CTournament, dx, _, rfl, (by rw [upd_ne n1]; exact upd_same), T.clTournament, T.aStables, (by omega), Nat.zero_le _, fun lw hlw => ?_⟩
    have n2 : a ≠ lw := ne_of_none upd_same hlw
    have n3 : ls ≠ lw := ne_of_none (by rw [upd_ne n1.symm]; exact upd_same) hlw
    have l4 := length_putF "won" (.ref lw) (putF "stables" (.ref ls) (putF "wins_weight" (.int (n : Int)) (putF "rank_weight" (.int (r : Int)) fs)))
    refine ⟨_, rfl, a, ad.CTournament, dx, _, rfl, (by rw [upd_ne n2]; exact upd_same), T.clTournament, T.aWon, (by omega), fun ld hld => ?_⟩
    have n4 : a ≠ ld := ne_of_none upd_same hld
    have n5 : lw ≠ ld := ne_of_none (by rw [upd_ne n2.symm]; exact upd_same) hld
    have n6 : ls ≠ ld := ne_of_none (by rw [upd_ne n1.symm, upd_ne n3, upd_ne n1.symm]; exact upd_same) hld
    refine ⟨_, rfl, a, ad.CTournament, dx, _, rfl, (by rw [upd_ne n4]; exact upd_same), T.clTournament, T.aMetPairs, (by omega), ?_⟩
    have f1 : H ls = none := by
      rw [upd_ne n1.symm, upd_ne n1.symm] at hls
      exact hls
    have f2 : H lw = none := by
      rw [upd_ne n2.symm, upd_ne n3.symm, upd_ne n2.symm, upd_ne n2.symm] at hlw
      exact hlw
    have f3 : H ld = none := by
      rw [upd_ne n4.symm, upd_ne n5.symm, upd_ne n4.symm, upd_ne n6.symm, upd_ne n4.symm, upd_ne n4.symm] at hld
      exact hld
    refine q _ ls lw ld ⟨?_, ?_, ?_, ?_, n3⟩ f1 f2 f3 (fun b o e hb => ?_)
    · rw [upd_same, hf ls lw ld]
    · rw [upd_ne n1.symm, upd_ne n6, upd_ne n1.symm, upd_ne n3, upd_ne n1.symm]
      exact upd_same
    · rw [upd_ne n2.symm, upd_ne n5, upd_ne n2.symm]
      exact upd_same
    · rw [upd_ne n4.symm]
      exact upd_same
    · have m1 : b ≠ ls := ne_of_none e f1
      have m2 : b ≠ lw := ne_of_none e f2
      have m3 : b ≠ ld := ne_of_none e f3
      rw [upd_ne hb, upd_ne m3, upd_ne hb, upd_ne m2, upd_ne hb, upd_ne m1, upd_ne hb, upd_ne hb]
      exact e

theorem ok_InitTournament (T : Txt K mg ad) : FnOk P w K mg base CX0 2 ad.fInitTournament ad.fdInitTournament ["self"] (spInit ad.CTournament) := by
  refine T.FInitTournament.ok scInitTournament (fun vs H Q E h => ?_) (fun cdv A outer s H vs Q E hr h => ?_)
  · obtain ⟨a, dx, rfl, _⟩ := h
    rfl
  · obtain ⟨a, dx, rfl, h0, q⟩ := h
    refine ⟨_, pss_one (ps_expr (pe_meth (pv 0) T.clTournament T.mRestart (ok_Restart T) hr T.bRestart .nil pass0 (pa_cons pe_int (pa_cons pe_int pa_nil)))), ?_⟩
    exact ⟨_, rfl, a, dx, _, rfl, h0, rfl, a, dx, [], 1, 0, rfl, h0, Nat.zero_le _, fun x y z => tf_new, fun H' ls lw ld t f1 f2 f3 kp => q H' ls lw ld t f1 f2 f3 kp⟩

theorem ok_Begins (T : Txt K mg ad) : FnOk P w K mg base CX0 2 ad.fBegins ad.fdBegins ["self", "rank", "wins"] (spCall ad.CTournament Sj09.Call.begins) := by
  refine T.FBegins.ok scBegins (fun vs H Q E h => ?_) (fun cdv A outer s H vs Q E hr h => ?_)
  · obtain ⟨a, dx, ls, lw, ld, b, i, k, rfl, _⟩ := h
    rfl
  · obtain ⟨a, dx, ls, lw, ld, b, i, k, rfl, t, wf, hm, q⟩ := h
    refine ⟨_, pss_cons (ps_if (pw_or (pt_cmpR op_gt (pv 1) (pe_glob (v := .int 100) (by rfl) T.kHighestWeight ⟨_, rfl⟩) (nomark _)) (pw_or1 (pt_cmpR op_gt (pv 2) (pe_glob (v := .int 100) (by rfl) T.kHighestWeight ⟨_, rfl⟩) (nomark _)))).pt (pss_one (ps_ret (pe_lst (pa_cons (pe_glob (v := .int (-1)) (by rfl) T.kOutOfRange ⟨_, rfl⟩) pa_nil)))) pss_nil)
      (pss_cons (ps_expr (pe_meth (pv 0) T.clTournament T.mRestart (ok_Restart T) hr T.bRestart .nil pass0 (pa_cons (pv 1) (pa_cons (pv 2) pa_nil)))) (pss_one (ps_ret (pe_lst (pa_cons pe_int pa_nil))))), ?_⟩
    have no : 100 < i ∨ 100 < k → ∀ p, H p = none → Q (.ref p) (upd H p (.lst [.int (-1)])) := fun hb p hp => by
      have e : Sj09.step b (.begins i k) = (b, Sj09.ok (-1)) := if_pos hb
      exact q.same t (by rw [e]) (Same.refl H) hp (ans_ok e)
    refine ⟨_, rfl, _, _, rfl, rfl, _, rfl, ite2 (fun h1 => ?_) (fun h1 => ?_)⟩
    · have h1 := of_decide_eq_true h1
      refine iteT ⟨(by show 1 ≤ sizeLine; decide), fun p hp => no (.inl (by omega)) p hp⟩
    · have h1 : ¬ (100 : Int) < i := fun z => h1 (decide_eq_true z)
      refine ⟨_, rfl, _, _, rfl, rfl, _, rfl, ite2 (fun h2 => ?_) (fun h2 => ?_)⟩
      · have h2 := of_decide_eq_true h2
        exact ⟨(by show 1 ≤ sizeLine; decide), fun p hp => no (.inr (by omega)) p hp⟩
      · have h2 : ¬ (100 : Int) < k := fun z => h2 (decide_eq_true z)
        refine ⟨_, rfl, a, dx, _, rfl, t.obj, rfl, _, rfl, _, rfl, a, dx, _, i, k, rfl, t.obj, (by show 5 ≤ 5; decide), fun x y z => tf_again, fun H' ls' lw' ld' t' f1 f2 f3 kp => ⟨(by show 1 ≤ sizeLine; decide), fun p hp => ?_⟩⟩
        have e : Sj09.step b (.begins i k) = (⟨i, k, [], []⟩, Sj09.ok 0) := if_neg (by show ¬ (100 < i ∨ 100 < k); omega)
        have hpn : H p = none := by
          cases z : H p with
          | none => rfl
          | some o =>
            by_cases pa : p = a
            · rw [pa, t'.obj] at hp; cases hp
            · rw [kp p o z pa] at hp; cases hp
        refine q (upd H' p (.lst [.int 0])) p dx ls' lw' ld' (by rw [e]; exact t'.same (same_upd hp)) (fun x hx => .inr ?_) (fun b o eb nb => same_upd hp b o (kp b o eb fun z => nb (by rw [z]; exact List.mem_cons_self))) hpn ?_ ?_
        · simp only [List.mem_cons, or_false, List.not_mem_nil] at hx
          rcases hx with rfl | rfl | rfl
          · exact f1
          · exact f2
          · exact f3
        · exact t'.out hp
        · rw [upd_same, ans_ok e]

theorem ok_Wrestler (T : Txt K mg ad) : FnOk P w K mg base CX0 1 ad.fWrestler ad.fdWrestler ["self", "stable", "wins"] (spCall ad.CTournament fun i k => .wrestler ⟨i, k⟩) := by
  refine T.FWrestler.ok scWrestler (fun vs H Q E h => ?_) (fun cdv A outer s H vs Q E hr h => ?_)
  · obtain ⟨a, dx, ls, lw, ld, b, i, k, rfl, _⟩ := h
    rfl
  · obtain ⟨a, dx, ls, lw, ld, b, i, k, rfl, t, wf, hm, q⟩ := h
    refine ⟨_, pss_cons (ps_if (pw_or (pt_cmpR op_gt (pv 1) (pe_glob (v := .int 9) (by rfl) T.kHighestStable ⟨_, rfl⟩) (nomark _)) (pw_or1 (pt_cmpR op_gt (pv 2) (pe_glob (v := .int 15) (by rfl) T.kMostWins ⟨_, rfl⟩) (nomark _)))).pt (pss_one (ps_ret (pe_lst (pa_cons (pe_glob (v := .int (-1)) (by rfl) T.kOutOfRange ⟨_, rfl⟩) pa_nil)))) pss_nil)
      (pss_cons (ps_if (pt_cmpR op_eq (pe_callB call_len_seq rfl T.nLen PySem.boot_len (pa_cons (pe_fld (pv 0) rfl) pa_nil)) (pe_glob (v := .int 8) (by rfl) T.kMostWrestlers ⟨_, rfl⟩) (nomark _)) (pss_one (ps_ret (pe_lst (pa_cons (pe_glob (v := .int (-5)) (by rfl) T.kFull ⟨_, rfl⟩) pa_nil)))) pss_nil)
      (pss_cons (ps_expr (pe_bm PySem.F.plainAttrs_list PySem.F.slot_list_append PySem.F.type_list_append mt_append (pe_fld (pv 0) rfl) (pa_cons (pv 1) pa_nil)))
      (pss_cons (ps_expr (pe_bm PySem.F.plainAttrs_list PySem.F.slot_list_append PySem.F.type_list_append mt_append (pe_fld (pv 0) rfl) (pa_cons (pv 2) pa_nil)))
      (pss_one (ps_ret (pe_lst (pa_cons (pe_op op_sub (pe_callB call_len_seq rfl T.nLen PySem.boot_len (pa_cons (pe_fld (pv 0) rfl) pa_nil)) pe_int) pa_nil))))))), ?_⟩
    have no : 10 ≤ i ∨ 15 < k → ∀ p, H p = none → Q (.ref p) (upd H p (.lst [.int (-1)])) := fun hb p hp => by
      have e : Sj09.step b (.wrestler ⟨i, k⟩) = (b, Sj09.ok (-1)) := if_pos hb
      exact q.same t (by rw [e]) (Same.refl H) hp (ans_ok e)
    refine ⟨_, rfl, _, _, rfl, rfl, _, rfl, ite2 (fun h1 => ?_) (fun h1 => ?_)⟩
    · have h1 := of_decide_eq_true h1
      refine iteT ⟨(by show 1 ≤ sizeLine; decide), fun p hp => no (.inl (by omega)) p hp⟩
    have h1 : ¬ (9 : Int) < i := fun z => h1 (decide_eq_true z)
    refine ⟨_, rfl, _, _, rfl, rfl, _, rfl, ite2 (fun h2 => ?_) (fun h2 => ?_)⟩
    · have h2 := of_decide_eq_true h2
      exact ⟨(by show 1 ≤ sizeLine; decide), fun p hp => no (.inr (by omega)) p hp⟩
    have h2 : ¬ (15 : Int) < k := fun z => h2 (decide_eq_true z)
    have g1 : ¬ (Sj09.STABLES ≤ i ∨ Sj09.WINS < k) := by
      show ¬ (10 ≤ i ∨ 15 < k)
      omega
    have few := wf.few
    refine ⟨_, rfl, a, ad.CTournament, dx, _, _, rfl, t.obj, T.clTournament, T.aStables, tf_stables, ls, _, rfl, .inl (SqL.of t.st), rfl, _, rfl, ite2 (fun h3 => ?_) (fun h3 => ?_)⟩
    · have h3 := of_decide_eq_true h3
      injection h3 with h3
      rw [sVs_len] at h3
      refine ⟨(by show 1 ≤ sizeLine; decide), fun p hp => ?_⟩
      have e : Sj09.step b (.wrestler ⟨i, k⟩) = (b, Sj09.ok (-5)) := (if_neg g1).trans (if_pos (by show 8 ≤ b.count; omega))
      exact q.same t (by rw [e]) (Same.refl H) hp (ans_ok e)
    have h3 : ¬ b.count = 8 := fun z => h3 (decide_eq_true (by rw [sVs_len, z]; rfl))
    have e : Sj09.step b (.wrestler ⟨i, k⟩) = ({ b with wrestlers := b.wrestlers ++ [⟨i, k⟩] }, Sj09.ok ((b.count : Nat) : Int)) := (if_neg g1).trans (if_neg (by show ¬ 8 ≤ b.count; omega))
    have nal : a ≠ ls := ne_of t.obj t.st (fun z => nomatch z)
    have naw : a ≠ lw := ne_of t.obj t.wn (fun z => nomatch z)
    have nls : ld ≠ ls := ne_of t.mt t.st (fun z => nomatch z)
    have nlw : ld ≠ lw := ne_of t.mt t.wn (fun z => nomatch z)
    have sl : (sVs b).length < sizeLine := by rw [sVs_len]; exact small1000 (by omega)
    have wl : (wVs b).length < sizeLine := by rw [wVs_len]; exact small1000 (by omega)
    refine ⟨_, rfl, a, ad.CTournament, dx, _, _, rfl, t.obj, T.clTournament, T.aStables, tf_stables, .inl ⟨rfl, _, SqL.of t.st⟩, _, rfl, ls, _, _, rfl, rfl, t.st, sl, ?_⟩
    have w1 : upd H ls (.lst (sVs b ++ [V.int i])) lw = some (.lst (wVs b)) := by rw [upd_ne t.ne.symm]; exact t.wn
    refine ⟨_, rfl, a, ad.CTournament, dx, _, _, rfl, (by rw [upd_ne nal]; exact t.obj), T.clTournament, T.aWon, tf_won, .inl ⟨rfl, _, SqL.of w1⟩, _, rfl, lw, _, _, rfl, rfl, w1, wl, ?_⟩
    have s1 : upd (upd H ls (.lst (sVs b ++ [V.int i]))) lw (.lst (wVs b ++ [V.int k])) ls = some (.lst (sVs b ++ [V.int i])) := by rw [upd_ne t.ne]; exact upd_same
    refine ⟨_, rfl, a, ad.CTournament, dx, _, _, rfl, (by rw [upd_ne naw, upd_ne nal]; exact t.obj), T.clTournament, T.aStables, tf_stables, ls, _, rfl, .inl (SqL.of s1), _, _, rfl, rfl, (by show 1 ≤ sizeLine; decide), fun p hp => ?_⟩
    have t' : TourAt ad.CTournament (upd (upd H ls (.lst (sVs b ++ [V.int i]))) lw (.lst (wVs b ++ [V.int k]))) a (Sj09.step b (.wrestler ⟨i, k⟩)).1 dx ls lw ld := by
      rw [e]
      refine ⟨(by rw [upd_ne naw, upd_ne nal]; exact t.obj), ?_, ?_, (by rw [upd_ne nlw, upd_ne nls]; exact t.mt), t.ne⟩
      · rw [s1]
        show _ = some (HO.lst ((b.wrestlers ++ ([⟨i, k⟩] : List Sj09.Wrestler)).map fun (w : Sj09.Wrestler) => V.int ((w.stable : Nat) : Int)))
        rw [List.map_append]
        rfl
      · rw [upd_same]
        show _ = some (HO.lst ((b.wrestlers ++ ([⟨i, k⟩] : List Sj09.Wrestler)).map fun (w : Sj09.Wrestler) => V.int ((w.wins : Nat) : Int)))
        rw [List.map_append]
        rfl
    have hpn : H p = none := by
      have m := t'.out hp
      rw [upd_ne (fun z => m (by rw [z]; simp)), upd_ne (fun z => m (by rw [z]; simp))] at hp
      exact hp
    refine q _ p dx ls lw ld (t'.same (same_upd hp)) (fun x hx => .inl (List.mem_cons_of_mem _ hx)) (fun c o ec nc => ?_) hpn (t'.out hp) ?_
    · refine same_upd hp c o ?_
      rw [upd_ne (fun z => nc (by rw [z]; simp)), upd_ne (fun z => nc (by rw [z]; simp))]
      exact ec
    · rw [upd_same, ← ans_ok e, List.length_append, sVs_len]
      show some (HO.lst [V.int (((b.count + 1 : Nat) : Int) - 1)]) = _
      rw [show ((b.count + 1 : Nat) : Int) - 1 = ((b.count : Nat) : Int) by omega]

theorem ok_Met (T : Txt K mg ad) : FnOk P w K mg base CX0 3 ad.fMet ad.fdMet ["self", "one", "other"] (spCall ad.CTournament Sj09.Call.met) := by
  refine T.FMet.ok scMet (fun vs H Q E h => ?_) (fun cdv A outer s H vs Q E hr h => ?_)
  · obtain ⟨a, dx, ls, lw, ld, b, i, k, rfl, _⟩ := h
    rfl
  · obtain ⟨a, dx, ls, lw, ld, b, i, k, rfl, t, wf, hm, q⟩ := h
    have hu := hu_of hr
    have hr1 := hr.mono (show 1 ≤ 2 by decide)
    refine ⟨_, pss_cons (ps_if (pw_or (pt_not (pt_val (pe_meth (pv 0) T.clTournament T.mIsThere (ok_IsThere T) hr1 T.bIsThere .nil pass0 (pa_cons (pv 1) pa_nil)))) (pw_or1 (pt_not (pt_val (pe_meth (pv 0) T.clTournament T.mIsThere (ok_IsThere T) hr1 T.bIsThere .nil pass0 (pa_cons (pv 2) pa_nil)))))).pt (pss_one (ps_ret (pe_lst (pa_cons (pe_glob (v := .int (-2)) (by rfl) T.kNotThere ⟨_, rfl⟩) pa_nil)))) pss_nil)
      (pss_cons (ps_if (pt_not (pt_val (pe_meth (pv 0) T.clTournament T.mMayMeet (ok_MayMeet T) hr T.bMayMeet .nil pass0 (pa_cons (pv 1) (pa_cons (pv 2) pa_nil))))) (pss_one (ps_ret (pe_lst (pa_cons (pe_glob (v := .int (-4)) (by rfl) T.kMayNotMeet ⟨_, rfl⟩) pa_nil)))) pss_nil)
      (pss_cons (ps_dput hu (pe_fld (pv 0) rfl) (pe_call (ok_PairOf T) hr1 rfl T.gPairOf T.FPairOf.kp T.bPairOf .nil pass0 (pa_cons (pv 1) (pa_cons (pv 2) pa_nil))) pe_bl rfl)
      (pss_one (ps_ret (pe_lst (pa_cons (pe_callB call_lenT rfl T.nLen PySem.boot_len (pa_cons (pe_fld (pv 0) rfl) pa_nil)) pa_nil)))))), ?_⟩
    have no : b.count ≤ i ∨ b.count ≤ k → ∀ p, H p = none → Q (.ref p) (upd H p (.lst [.int (-2)])) := fun hb p hp => by
      have e : Sj09.step b (.met i k) = (b, Sj09.ok (-2)) := if_pos hb
      exact q.same t (by rw [e]) (Same.refl H) hp (ans_ok e)
    refine ⟨_, rfl, a, dx, _, rfl, t.obj, rfl, _, rfl, a, dx, ls, lw, ld, b, i, rfl, t, _, rfl, ite2 (fun h1 => ?_) (fun h1 => ?_)⟩
    · have h1 : ¬ i < b.count := fun z => by rw [decide_eq_true z] at h1; cases h1
      refine iteT ⟨(by show 1 ≤ sizeLine; decide), fun p hp => no (.inl (by omega)) p hp⟩
    have h1 : i < b.count := by
      cases z : decide (i < b.count) with
      | true => exact of_decide_eq_true z
      | false => exact absurd (by rw [z]; rfl) h1
    refine ⟨_, rfl, a, dx, _, rfl, t.obj, rfl, _, rfl, a, dx, ls, lw, ld, b, k, rfl, t, _, rfl, ite2 (fun h2 => ?_) (fun h2 => ?_)⟩
    · have h2 : ¬ k < b.count := fun z => by rw [decide_eq_true z] at h2; cases h2
      exact ⟨(by show 1 ≤ sizeLine; decide), fun p hp => no (.inr (by omega)) p hp⟩
    have h2 : k < b.count := by
      cases z : decide (k < b.count) with
      | true => exact of_decide_eq_true z
      | false => exact absurd (by rw [z]; rfl) h2
    have g1 : ¬ (b.count ≤ i ∨ b.count ≤ k) := by omega
    refine ⟨_, rfl, a, dx, _, rfl, t.obj, rfl, _, rfl, _, rfl, a, dx, ls, lw, ld, b, i, k, rfl, t, h1, h2, fun H1 s1 => ⟨_, rfl, ite2 (fun h3 => ?_) (fun h3 => ?_)⟩⟩
    · have m : b.may i k = false := by
        cases z : b.may i k with
        | false => rfl
        | true => rw [z] at h3; cases h3
      refine ⟨(by show 1 ≤ sizeLine; decide), fun p hp => ?_⟩
      have e : Sj09.step b (.met i k) = (b, Sj09.ok (-4)) := (if_neg g1).trans (if_pos m)
      exact q.same t (by rw [e]) s1 hp (ans_ok e)
    have m : b.may i k = true := by
      cases z : b.may i k with
      | true => rfl
      | false => rw [z] at h3; exact absurd rfl h3
    have t1' := t.same s1
    have ml : (metD b).length = b.met.length := List.length_map _
    refine ⟨_, rfl, a, ad.CTournament, dx, _, _, rfl, t1'.obj, T.clTournament, T.aMetPairs, tf_met, _, rfl, _, rfl, i, k, rfl, fun u hu' => ?_⟩
    have s2 : Same H1 (upd H1 u (.tup ((kOf i k).map kV))) := same_upd hu'
    have t2' := t1'.same s2
    refine ⟨ld, _, rfl, DPut.t (k := kOf i k) t2'.mt upd_same (by rw [ml]; exact small1000 hm), ?_⟩
    rw [putK_new _ (metD_none m)]
    have nal : a ≠ ld := ne_of t.obj t.mt (fun z => nomatch z)
    have nsl : ls ≠ ld := ne_of t.st t.mt (fun z => nomatch z)
    have nwl : lw ≠ ld := ne_of t.wn t.mt (fun z => nomatch z)
    have e : Sj09.step b (.met i k) = ({ b with met := b.met ++ [(i, k)] }, Sj09.ok ((b.met.length : Nat) + 1)) := (if_neg g1).trans (if_neg (by rw [m]; decide))
    have t3' : TourAt ad.CTournament (upd (upd H1 u (.tup ((kOf i k).map kV))) ld (.dT (metD b ++ [(kOf i k, V.bl true)]))) a (Sj09.step b (.met i k)).1 dx ls lw ld := by
      rw [e]
      refine ⟨(by rw [upd_ne nal]; exact t2'.obj), (by rw [upd_ne nsl]; exact t2'.st), (by rw [upd_ne nwl]; exact t2'.wn), ?_, t.ne⟩
      rw [upd_same]
      show _ = some (HO.dT ((b.met ++ [(i, k)]).map fun p => (kOf p.1 p.2, V.bl true)))
      rw [List.map_append]
      rfl
    refine ⟨_, rfl, a, ad.CTournament, dx, _, _, rfl, t3'.obj, T.clTournament, T.aMetPairs, tf_met, ld, _, rfl, upd_same, (by show 1 ≤ sizeLine; decide), fun p hp => ?_⟩
    have hpn : H p = none := by
      have mm := t3'.out hp
      rw [upd_ne (fun z => mm (by rw [z]; simp))] at hp
      exact s1.free (s2.free hp)
    refine q _ p dx ls lw ld (t3'.same (same_upd hp)) (fun x hx => .inl (List.mem_cons_of_mem _ hx)) (fun c o ec nc => ?_) hpn (t3'.out hp) ?_
    · refine same_upd hp c o ?_
      rw [upd_ne (fun z => nc (by rw [z]; simp))]
      exact s2 c o (s1 c o ec)
    · rw [upd_same, ← ans_ok e, List.length_append, ml]
      rfl
end
end Rb

/-! Rules that the layer has not: the least of a list of lists, list(range(n)), comprehensions by what each turn gives. -/
namespace Rb
open PySem PySem.Spec PyProof.Rows L2
/-! ### a list of ints before another one of the same length -/
section
open PySem.MeetsSeq PySem.MeetsSeq3
open PySem.AutoSeq1 (wpAny_loadPart')
theorem ints_at : ∀ {us : List Value} {l : List Int}, IntsAre us l → ∀ j, j < l.length → ∃ t, us[j]? = some (Value.int (l.getD j 0) t)
  | _, _, .nil, j, hj => absurd hj (Nat.not_lt_zero _)
  | _, _, .cons a t _, 0, _ => ⟨t, rfl⟩
  | _, _, .cons a t r, j + 1, hj => by
    have q := ints_at r j (by simpa using hj)
    simpa using q
theorem drop_at (l : List Int) (j : Nat) (hj : j < l.length) : l.drop j = l.getD j 0 :: l.drop (j + 1) := by
  rw [List.drop_eq_getElem_cons hj, List.getD_eq_getElem?_getD, List.getElem?_eq_getElem hj]
  rfl
theorem lt_go (p q : Addr) (xs ys : Array Value) (c c' : Nat) (ns ms : List Int) (hx : IntsAre xs.toList ns) (hy : IntsAre ys.toList ms) (hl : ns.length = ms.length) (k : Nat) :
    ∀ j : Nat, ns.length - j = k → Meets (Builtin.«list.__eq__.loop» ⟨[.ref p, .ref q, rawInt j, rawInt 0], []⟩) (fun _ R s =>
      s.heap.get? p = some { cls := .type "list", dict := none, data := .seq xs c, slots := #[] } ∧ s.heap.get? q = some { cls := .type "list", dict := none, data := .seq ys c', slots := #[] } ∧
      R (.ok (.ret (.bool (HT.lexLt (ns.drop j) (ms.drop j))))) s) := by
  have z1 : xs.size = ns.length := by rw [← hx.length]; simp
  have z2 : ys.size = ms.length := by rw [← hy.length]; simp
  induction k with
  | zero =>
    intro j hk prog w A R s ⟨h1, h2, h⟩
    obtain ⟨hp, g, d, tk, os⟩ := (s)
    wp_walk using wpAny_loadPart' h1, wpAny_loadPart' h2
    have e1 : xs[((j : Nat) : Int).toNat]? = none := by simp; omega
    have e2 : ys[((j : Nat) : Int).toNat]? = none := by simp; omega
    rw [List.drop_eq_nil_of_le (by omega : ns.length ≤ j), List.drop_eq_nil_of_le (by omega : ms.length ≤ j)] at h
    rw [e1, e2]
    wp_walk using wpAny_loadPart' h1, wpAny_loadPart' h2
    show R (.ok (.ret (.bool (decide (xs.size < ys.size))))) _
    rw [decide_eq_false (by omega : ¬ xs.size < ys.size)]
    exact h
  | succ k ih =>
    intro j hk prog w A R s ⟨h1, h2, h⟩
    obtain ⟨hp, g, d, tk, os⟩ := (s)
    obtain ⟨t, et⟩ := ints_at hx j (by omega)
    obtain ⟨u, eu⟩ := ints_at hy j (by omega)
    rw [drop_at ns j (by omega), drop_at ms j (by omega), HT.lexLt_cons] at h
    wp_walk using wpAny_loadPart' h1, wpAny_loadPart' h2
    have e1 : xs[((j : Nat) : Int).toNat]? = some (Value.int (ns.getD j 0) t) := by simpa using et
    have e2 : ys[((j : Nat) : Int).toNat]? = some (Value.int (ms.getD j 0) u) := by simpa using eu
    have e3 : ((j : Int) + 1) = ((j + 1 : Nat) : Int) := by push_cast; rfl
    rw [e1, e2]
    refine wpAny_bind (EqGives.int _ _ t u prog w _ _ _ _ ?_)
    by_cases b : ns.getD j 0 = ms.getD j 0
    · rw [if_pos b] at h
      rw [beq_iff_eq.mpr b]
      wp_walk
      rw [e3]
      exact ⟨plainId_quiet plain_eq_loop _, codeAny_builtin entry_eq_loop (by rw [Around.under_plainId plain_eq_loop _]; exact ih (j + 1) (by omega) prog w A R _ ⟨h1, h2, h⟩)⟩
    · rw [if_neg b] at h
      rw [beq_eq_false_iff_ne.mpr b]
      wp_walk using wpAny_loadPart' h1, wpAny_loadPart' h2
      rw [e1, e2]
      have lt : ∀ (E Q : Value → Shared → Prop), Q (.bool (decide (ns.getD j 0 < ms.getD j 0))) ⟨hp, g, d, tk, os⟩ → wpAny (model prog w) A.in1 (richCompare .Lt (.int (ns.getD j 0) t) (.int (ms.getD j 0) u)) Q E ⟨hp, g, d, tk, os⟩ :=
        fun E Q z => richCompare_gives (op := .Lt) (typeIs_int _ _ t) (typeIs_int _ _ u) F.slot_int_lt F.entry_int_lt (F.args_int_lt_2 _ _) (gives_int_lt _ _ t u) (fun x => nomatch x) z
      wp_walk using lt
      first | exact h | exact ⟨_, rfl, h⟩ | trace_state
theorem list_before (p q : Addr) (xs ys : Array Value) (c c' : Nat) (ns ms : List Int) (hx : IntsAre xs.toList ns) (hy : IntsAre ys.toList ms) (hl : ns.length = ms.length) :
    Meets (Builtin.«list.__lt__» ⟨[.ref p, .ref q], []⟩) (fun _ R s =>
      s.heap.get? p = some { cls := .type "list", dict := none, data := .seq xs c, slots := #[] } ∧ s.heap.get? q = some { cls := .type "list", dict := none, data := .seq ys c', slots := #[] } ∧
      R (.ok (.ret (.bool (HT.lexLt ns ms)))) s) := by
  intro prog w A R s ⟨h1, h2, h⟩
  obtain ⟨hp, g, d, tk, os⟩ := (s)
  have sub := AutoSeq1.sub_list_list
  wp_walk using wpAny_loadPart' h1, wpAny_loadPart' h2
  exact ⟨plainId_quiet plain_eq_loop _, codeAny_builtin entry_eq_loop (by rw [Around.under_plainId plain_eq_loop _]; exact lt_go p q xs ys c c' ns ms hx hy hl _ 0 rfl prog w A R _ ⟨h1, h2, h⟩)⟩
theorem before_ok {prog : Program} {w : World} {A : Around} {E Q : Value → Shared → Prop} {s : Shared} {p q : Addr} {xs ys : Array Value} {c c' : Nat} {ns ms : List Int} (h1 : s.heap.get? p = some { cls := .type "list", dict := none, data := .seq xs c, slots := #[] })
    (h2 : s.heap.get? q = some { cls := .type "list", dict := none, data := .seq ys c', slots := #[] }) (hx : IntsAre xs.toList ns) (hy : IntsAre ys.toList ms) (hl : ns.length = ms.length) (hu : A.units < cLine) (h : Q (.bool (HT.lexLt ns ms)) s) :
    wpAny (model prog w) A (richCompare .Lt (.ref p) (.ref q)) Q E s :=
  richCompare_meets_room (op := .Lt) ⟨_, h1, rfl⟩ ⟨_, h2, rfl⟩ PySem.F.slot_list_lt PySem.F.entry_list_lt (PySem.F.args_list_lt_2 _ _) (list_before p q xs ys c c' ns ms hx hy hl) ⟨h1, h2, (fun x => nomatch x), h⟩ hu
end

/-! ### the least of a list, by a comparison that may look at what was there -/
section
variable {prog : Program} {w : World} {A : Around} {its : Array Value} {I S a : Addr} {h0 : Heap}
/-- what was there ahead is as it was -/
def Kp (h h' : Heap) : Prop := ∀ b o, h.get? b = some o → h'.get? b = some o
def LtAt (prog : Program) (w : World) (A : Around) (h0 : Heap) (its : Array Value) (bt : Nat → Nat → Bool) : Prop :=
  ∀ i j x y (s : Shared) (Q E : Value → Shared → Prop), Kp h0 s.heap → its[i]? = some x → its[j]? = some y → Q (.bool (bt i j)) s → wpAny (model prog w) A (richCompare .Lt x y) Q E s
theorem Kp.but {h1 h2 : Heap} {b : Addr} (k : Kp h0 h1) (hb : h0.get? b = none) (e : ∀ c o, c ≠ b → h1.get? c = some o → h2.get? c = some o) : Kp h0 h2 := fun c o z =>
  e c o (fun y => by rw [y, hb] at z; cases z) (k c o z)
theorem min_go {R : Result → Shared → Prop} (hh : A.in1.handled = none) (bt : Nat → Nat → Bool) (cmp : LtAt prog w A.in1 h0 its bt) (iI : h0.get? I = none) (iS : h0.get? S = none) (nIS : S ≠ I) (naI : a ≠ I) (naS : S ≠ a) :
    ∀ (k j : Nat) (s : Shared) (v : Value) (c : Nat), its.size - (j + 1) = k → j + 1 ≤ its.size → s.heap.IsListIter I a (j + 1) ∧ s.heap.IsList a its → Kp h0 s.heap → its[argBest bt j]? = some v →
      s.heap.get? S = some { cls := .type "list", dict := none, data := .seq #[v, v] c, slots := #[] } → (∀ v' h' tk, its[argBest bt (its.size - 1)]? = some v' → Kp h0 h' → R (.ok (.ret v')) { s with heap := h', toks := tk }) → codeAny (model prog w) A (.builtin "min.loop" ⟨[.ref I, .none, .ref S], []⟩) R s := by
  have W := Walks.list (prog := prog) (w := w) hh I a naI its
  have nm : (toString "min" ++ toString ".loop" : String) = "min.loop" := by decide
  have nw : S ∉ [I] := fun z => nIS (List.mem_singleton.mp z)
  intro k
  induction k with
  | zero =>
    intro j s v c hk hj st kp hv hS hR
    have e : j + 1 = its.size := by omega
    refine codeAny_builtin F.entry_min_loop ?_; rw [Around.under_plainId F.plain_min_loop _]
    refine wpAny_bind (m := seqItems? (.ref S)) (wpAny_seqItems hS rfl ?_)
    refine wpAny_bind (m := tryCatch (pyNext (.ref I)) _) (wpAny_tryCatch (W.done s _ _ (by rw [← e]; exact st) fun h' tk kk => ?_))
    refine wpAny_bind (m := updateSeq S (fun _ => #[])) (wpAny_updateSeq (kk S _ nw hS) rfl (wpAny_bind (wpAny_letGo (wpAny_pure ?_))))
    refine hR v _ tk (by rw [← e]; exact hv) ?_
    exact (kp.but iI fun b o hb z => kk b o (fun y => hb (List.mem_singleton.mp y)) z).but iS fun b o hb z => (Heap.get?_update_other _ _ (Ne.symm hb)).trans z
  | succ k ih =>
    intro j s v c hk hj st kp hv hS hR
    have lt : j + 1 < its.size := by omega
    refine codeAny_builtin F.entry_min_loop ?_; rw [Around.under_plainId F.plain_min_loop _]
    refine wpAny_bind (m := seqItems? (.ref S)) (wpAny_seqItems hS rfl ?_)
    refine wpAny_bind (m := tryCatch (pyNext (.ref I)) _) (wpAny_tryCatch (W.item (j + 1) s _ _ lt st fun x h' tk hx st' kk => ?_))
    have hS' := kk S _ nw hS
    have kp' : Kp h0 h' := kp.but iI fun b o hb z => kk b o (fun y => hb (List.mem_singleton.mp y)) z
    show wpAny _ A.in1 (tryCatch (holding [x, x] (richCompare .Lt x v >>= _)) _ >>= _) _ _ _
    refine wpAny_bind (wpAny_tryCatch (wpAny_holding (wpAny_bind (cmp (j + 1) (argBest bt j) x v _ _ _ kp' hx hv (wpAny_bind (wpAny_holding (wpAny_truthy_bool (wpAny_bind (wpAny_letGo (wpAny_pure ?_))))))))))
    cases hb : (bt (j + 1) (argBest bt j)) with
    | true =>
      rw [if_pos rfl]
      refine wpAny_bind (wpAny_updateSeq hS' rfl (wpAny_bind (wpAny_letGo ?_)))
      rw [nm]
      refine wpAny_pure ⟨plainId_quiet F.plain_min_loop _, ih (j + 1) _ x _ (by omega) lt (W.frame _ _ _ st' fun b hbf o z => ?_) (kp'.but iS fun b o hb z => (Heap.get?_update_other _ _ (Ne.symm hb)).trans z) (by simp only [argBest, hb, if_true]; exact hx) (Heap.get?_update_self _ hS' rfl) hR⟩
      refine (Heap.get?_update_other _ _ (fun y : S = b => ?_)).trans z
      rcases List.mem_cons.mp hbf with q | q
      · exact nIS (y.trans q)
      · exact naS (y.trans (List.mem_singleton.mp q))
    | false =>
      rw [(if_neg Bool.false_ne_true)]
      refine wpAny_bind ((wpAny_letGo ?_))
      rw [nm]
      exact wpAny_pure ⟨plainId_quiet F.plain_min_loop _, ih (j + 1) _ v c (by omega) lt st' kp' (by simp only [argBest, hb, Bool.false_eq_true, if_false]; exact hv) hS' hR⟩
theorem min_ok {E Q : Value → Shared → Prop} {s : Shared} (hh : A.handled = none) (bt : Nat → Nat → Bool) (hl : s.heap.IsList a its) (hn : 0 < its.size) (cmp : LtAt prog w A.in1 s.heap its bt)
    (h : ∀ v h' tk, its[argBest bt (its.size - 1)]? = some v → Kp s.heap h' → Q v { s with heap := h', toks := tk }) : wpAny (model prog w) A (call (.builtin "min") [.ref a]) Q E s := by
  have nm : (toString "min" ++ toString ".loop" : String) = "min.loop" := by decide
  have la : a < s.heap.objs.size := by obtain ⟨_, e, _⟩ := hl; exact Heap.lt_size e
  have fr : ∀ b, s.heap.objs.size ≤ b → s.heap.get? b = none := fun b hb => by
    cases z : s.heap.get? b with
    | none => rfl
    | some o => exact absurd (Heap.lt_size z) (Nat.not_lt.mpr hb)
  refine (call_function_tree F.kind_min F.plain_min F.entry_min (F.args_min1 _)) ?_
  refine wpAny_bind (m := Builtin.Builtins.bindParams "min" ["key", "default"] 0 ⟨[], []⟩) (wpAny_of_eq (show Builtin.Builtins.bindParams "min" ["key", "default"] 0 ⟨[], []⟩ = pure [none, none] from rfl) (wpAny_bind (wpAny_pure ?_)))
  refine wpAny_bind (wpAny_pyIter_list hl (wpAny_bind (wpAny_newObj_type ?_)))
  rw [nm]
  have sI : (s.heap.push { cls := .type "list_iterator", data := .fields #[.ref a, .int 0 0] }).objs.size = s.heap.objs.size + 1 := Heap.size_push ..
  have W := Walks.list (prog := prog) (w := w) (A := A.in1) hh s.heap.objs.size a (Nat.ne_of_lt la) its
  generalize eS : (s.heap.push { cls := .type "list_iterator", data := .fields #[.ref a, .int 0 0] }).objs.size = S
  rw [eS] at sI
  have nIS : S ≠ s.heap.objs.size := by rw [sI]; exact Nat.succ_ne_self _
  have naS : S ≠ a := by rw [sI]; exact Ne.symm (Nat.ne_of_lt (Nat.lt_succ_of_lt la))
  have iI := fr s.heap.objs.size (Nat.le_refl _)
  have iS : s.heap.get? S = none := fr S (by rw [sI]; exact Nat.le_succ _)
  have nw : S ∉ [s.heap.objs.size] := fun z => nIS (List.mem_singleton.mp z)
  refine wpAny_pure ⟨plainId_quiet F.plain_min_loop _, codeAny_builtin F.entry_min_loop ?_⟩; rw [Around.under_plainId F.plain_min_loop _]
  have hS : ((s.heap.push { cls := .type "list_iterator", data := .fields #[.ref a, .int 0 0] }).push { cls := .type "list", data := .seq #[] }).get? S = some { cls := .type "list", dict := none, data := .seq #[] 0, slots := #[] } := by rw [← eS]; exact Heap.get?_push_size _ rfl
  have kp0 : Kp s.heap ((s.heap.push { cls := .type "list_iterator", data := .fields #[.ref a, .int 0 0] }).push { cls := .type "list", data := .seq #[] }) := fun b o z => Heap.get?_push_of_some _ (Heap.get?_push_of_some _ z)
  have st0 : ((s.heap.push { cls := .type "list_iterator", data := .fields #[.ref a, .int 0 0] }).push { cls := .type "list", data := .seq #[] }).IsListIter s.heap.objs.size a 0 ∧ ((s.heap.push { cls := .type "list_iterator", data := .fields #[.ref a, .int 0 0] }).push { cls := .type "list", data := .seq #[] }).IsList a its :=
    ⟨⟨_, Heap.get?_push_of_some _ (Heap.get?_push_size _ rfl), rfl, rfl⟩, (hl.push _).push _⟩
  refine wpAny_bind (m := seqItems? (.ref S)) (wpAny_seqItems hS rfl ?_)
  refine wpAny_bind (m := tryCatch (pyNext (.ref s.heap.objs.size)) _) (wpAny_tryCatch (W.item 0 _ _ _ hn st0 fun x h' tk hx st' kk => ?_))
  have hS' := kk S _ nw hS
  refine wpAny_bind (m := updateSeq S (fun _ => #[x, x])) (wpAny_updateSeq hS' rfl ?_)
  rw [nm]
  refine wpAny_pure ⟨plainId_quiet F.plain_min_loop _, min_go (h0 := s.heap) hh bt cmp iI iS nIS (Nat.ne_of_lt la) naS _ 0 _ x _ rfl hn (W.frame _ _ _ st' fun b hbf o z => ?_) ?_ hx (Heap.get?_update_self _ hS' rfl) h⟩
  · refine (Heap.get?_update_other _ _ (fun y : S = b => ?_)).trans z
    rcases List.mem_cons.mp hbf with q | q
    · exact nIS (y.trans q)
    · exact naS (y.trans (List.mem_singleton.mp q))
  · exact (kp0.but iI fun b o hb z => kk b o (fun y => hb (List.mem_singleton.mp y)) z).but iS fun b o hb z => (Heap.get?_update_other _ _ (Ne.symm hb)).trans z
end

/-! ### lists of lists -/
def nV (l : List Nat) : List V := l.map fun (n : Nat) => V.int (n : Int)
theorem nV_len (l : List Nat) : (nV l).length = l.length := List.length_map _
theorem nV_at {l : List Nat} {i n : Nat} (h : l[i]? = some n) : (nV l)[i]? = some (V.int (n : Int)) := by
  unfold nV
  rw [List.getElem?_map, h]
  rfl
theorem nV_getD {l : List Nat} {i : Nat} (h : i < l.length) : (nV l)[i]? = some (V.int ((l.getD i 0 : Nat) : Int)) := by
  refine nV_at ?_
  rw [List.getD_eq_getElem?_getD, List.getElem?_eq_getElem h]
  rfl
theorem nV_ints (l : List Nat) : nV l = (l.map fun (n : Nat) => (n : Int)).map V.int := by
  unfold nV
  rw [List.map_map]
  rfl
/-- the lists at qs hold rows, in order -/
structure LRows (H : Hp) (qs : List Addr) (rows : List (List V)) : Prop where
  len : qs.length = rows.length
  row : ∀ (i : Nat) (q : Addr) (r : List V), qs[i]? = some q → rows[i]? = some r → H q = some (.lst r)
theorem LRows.same {H H' : Hp} {qs : List Addr} {rows : List (List V)} (h : LRows H qs rows) (s : Same H H') : LRows H' qs rows := ⟨h.len, fun i q r a b => s _ _ (h.row i q r a b)⟩
theorem LRows.nil {H : Hp} : LRows H [] [] := ⟨rfl, fun i q r a => by cases i <;> cases a⟩
theorem LRows.snoc {H : Hp} {qs : List Addr} {rows : List (List V)} {q : Addr} {r : List V} (h : LRows H qs rows) (hq : H q = some (.lst r)) : LRows H (qs ++ [q]) (rows ++ [r]) := by
  refine ⟨by rw [List.length_append, List.length_append, h.len]; rfl, fun i p s a b => ?_⟩
  by_cases c : i < qs.length
  · rw [List.getElem?_append_left c] at a
    rw [List.getElem?_append_left (by rw [← h.len]; exact c)] at b
    exact h.row i p s a b
  · rw [List.getElem?_append_right (by omega)] at a
    rw [List.getElem?_append_right (by rw [← h.len]; omega), ← h.len] at b
    cases e : i - qs.length with
    | zero =>
      rw [e] at a b
      cases a
      cases b
      exact hq
    | succ k =>
      rw [e] at a
      cases a
theorem LRows.append {H : Hp} {qs ps : List Addr} {rows ws : List (List V)} (h : LRows H qs rows) (g : LRows H ps ws) : LRows H (qs ++ ps) (rows ++ ws) := by
  refine ⟨by rw [List.length_append, List.length_append, h.len, g.len], fun i p s a b => ?_⟩
  by_cases c : i < qs.length
  · rw [List.getElem?_append_left c] at a
    rw [List.getElem?_append_left (by rw [← h.len]; exact c)] at b
    exact h.row i p s a b
  · rw [List.getElem?_append_right (by omega)] at a
    rw [List.getElem?_append_right (by rw [← h.len]; omega), ← h.len] at b
    exact g.row _ p s a b
theorem LRows.at {H : Hp} {qs : List Addr} {rows : List (List V)} (h : LRows H qs rows) {i : Nat} {r : List V} (hr : rows[i]? = some r) : ∃ q, qs[i]? = some q ∧ H q = some (.lst r) := by
  have hi := (List.getElem?_eq_some_iff.mp hr).1
  rw [← h.len] at hi
  exact ⟨qs[i], List.getElem?_eq_getElem hi, h.row i _ r (List.getElem?_eq_getElem hi) hr⟩
theorem pick_filter {α : Type} (p : α → Bool) : ∀ (l : List α) (f : Nat → α) (q : Nat → Bool), (∀ i x, l[i]? = some x → f i = x ∧ q i = p x) → ((List.range l.length).filter q).map f = l.filter p
  | [], _, _, _ => rfl
  | x :: l, f, q, h => by
    have h0 := h 0 x rfl
    have ih := pick_filter p l (fun i => f (i + 1)) (fun i => q (i + 1)) fun i y hy => h (i + 1) y hy
    rw [List.length_cons, List.range_succ_eq_map, List.filter_cons, List.filter_cons]
    have e : ((List.map Nat.succ (List.range l.length)).filter q).map f = l.filter p := by
      rw [List.filter_map, List.map_map, ← ih]
      rfl
    rw [h0.2]
    by_cases c : p x = true
    · rw [if_pos c, if_pos c, List.map_cons, h0.1, e]
    · rw [if_neg c, if_neg c, e]
/-! ### min(a list of lists of ints) -/
theorem lex_earlier : ∀ a b : List Nat, HT.lexLt (a.map fun (n : Nat) => (n : Int)) (b.map fun (n : Nat) => (n : Int)) = Sj09.earlier a b
  | [], [] => rfl
  | [], _ :: _ => rfl
  | _ :: _, [] => rfl
  | x :: a, y :: b => by
    rw [List.map_cons, List.map_cons, HT.lexLt_cons, lex_earlier a b]
    show _ = (decide (x < y) || (x == y && Sj09.earlier a b))
    by_cases e : x = y
    · rw [if_pos (by omega), e, beq_self_eq_true, decide_eq_false (Nat.lt_irrefl _), Bool.false_or, Bool.true_and]
    · rw [if_neg (by omega), beq_eq_false_iff_ne.mpr e, Bool.false_and, Bool.or_false, decide_eq_decide]
      omega
theorem least_of (R : Nat → List Nat) : ∀ k, argBest (fun i j => Sj09.earlier (R i) (R j)) k ≤ k ∧ ∀ j, j ≤ k → Sj09.earlier (R j) (R (argBest (fun i j => Sj09.earlier (R i) (R j)) k)) = false
  | 0 => ⟨Nat.le_refl _, fun j hj => by rw [Nat.le_zero.mp hj]; exact earlier_irr _⟩
  | k + 1 => by
    obtain ⟨h1, h2⟩ := least_of R k
    unfold argBest
    cases c : Sj09.earlier (R (k + 1)) (R (argBest (fun i j => Sj09.earlier (R i) (R j)) k)) with
    | true =>
      refine ⟨(Nat.le_refl _), fun j hj => ?_⟩
      rw [if_pos rfl]
      by_cases e : j = k + 1
      · rw [e]; exact earlier_irr _
      · cases z : Sj09.earlier (R j) (R (k + 1)) with
        | false => rfl
        | true =>
          have y := h2 j (by omega)
          rw [earlier_trans z c] at y
          cases y
    | false =>
      rw [(if_neg Bool.false_ne_true)]
      refine ⟨(by omega), fun j hj => ?_⟩
      by_cases e : j = k + 1
      · rw [e]; exact c
      · exact h2 j (by omega)
def rMinR (K : PySem.W.Frag) : List V → Hp → VK → Prop := fun vs H Q => ∃ (a : Addr) (qs : List Addr) (rows : List (List Nat)) (n : Nat), vs = [V.ref a] ∧ SqL K H a (qs.map V.ref) ∧ LRows H qs (rows.map nV) ∧ 0 < rows.length ∧ (∀ r ∈ rows, r.length = n) ∧
  ∀ (i : Nat) (q : Addr) (r : List Nat), qs[i]? = some q → rows[i]? = some r → (∀ r' ∈ rows, Sj09.earlier r' r = false) → Q (.ref q) H
theorem Vals.refs : ∀ {qs : List Addr} {us : List Value}, Vals (qs.map V.ref) us → us = qs.map Value.ref
  | [], us, h => by
    rw [List.map_nil] at h
    cases h
    rfl
  | q :: qs, us, h => by
    rw [List.map_cons] at h
    cases h with
    | cons r t =>
      cases r
      rw [Vals.refs t]
      rfl
theorem cr_minR {X : Cx} (hc : X.calm = true) (hu : X.A.in1.units < cLine) : CallR X (.builtin "min") (rMinR X.K) := by
  intro pins s σ H vs us Q I r h
  obtain ⟨a, qs, rows, n, rfl, hs, hr, hne, hn, q⟩ := h
  obtain ⟨its, rv, hl, _⟩ := I.list hs
  rw [Vals.ref1 r]
  have ei := Vals.refs rv
  subst ei
  have ln : qs.length = rows.length := by rw [hr.len, List.length_map]
  refine min_ok (its := (qs.map Value.ref).toArray) (I.ok.hd hc) (fun i j => Sj09.earlier (rows.getD i []) (rows.getD j [])) hl.isList (by simp; omega) (fun i j x y s' Q' E' kp hx hy z => ?_) fun v h' tk hv kp => ?_
  · have row : ∀ (i : Nat) (x : Value), (qs.map Value.ref).toArray[i]? = some x → ∃ (p : Addr) (xs : Array Value) (c : Nat), x = .ref p ∧ s'.heap.get? p = some { cls := .type "list", dict := none, data := .seq xs c, slots := #[] } ∧ IntsAre xs.toList ((rows.getD i []).map fun (n : Nat) => (n : Int)) ∧ (rows.getD i []).length = n := by
      intro i x hx
      rw [List.getElem?_toArray, List.getElem?_map] at hx
      cases e : qs[i]? with
      | none => rw [e] at hx; cases hx
      | some p =>
        rw [e] at hx
        cases hx
        have hi : i < rows.length := by rw [← ln]; exact (List.getElem?_eq_some_iff.mp e).1
        have eg : rows[i]? = some (rows.getD i []) := by rw [List.getD_eq_getElem?_getD, List.getElem?_eq_getElem hi]; rfl
        have ho := hr.row i p (nV (rows.getD i [])) e (by rw [List.getElem?_map, eg]; rfl)
        obtain ⟨_, ys, c, ry, eo⟩ := (show ObjOk X.prog X.w H s.heap p (.lst (nV (rows.getD i []))) from I.hok p _ ho)
        rw [nV_ints] at ry
        exact ⟨p, ys.toArray, c, rfl, kp _ _ eo, by simpa using ry.ints, hn _ (List.mem_of_getElem? eg)⟩
    obtain ⟨p, xs, c, rfl, g1, i1, l1⟩ := row i x hx
    obtain ⟨p', ys, c', rfl, g2, i2, l2⟩ := row j y hy
    refine before_ok g1 g2 i1 i2 (by rw [List.length_map, List.length_map, l1, l2]) hu ?_
    rw [lex_earlier]
    exact z
  · have lb := least_of (fun i => rows.getD i []) ((qs.map Value.ref).toArray.size - 1)
    have sz : (qs.map Value.ref).toArray.size = qs.length := by simp
    generalize argBest (fun i j => Sj09.earlier (rows.getD i []) (rows.getD j [])) ((qs.map Value.ref).toArray.size - 1) = m at hv lb
    rw [List.getElem?_toArray, List.getElem?_map] at hv
    cases e : qs[m]? with
    | none => rw [e] at hv; cases hv
    | some p =>
      rw [e] at hv
      cases hv
      have hi : m < rows.length := by rw [← ln]; exact (List.getElem?_eq_some_iff.mp e).1
      refine ⟨.ref p, H, I.kept kp, rfl, q m p (rows.getD m []) e (by rw [List.getD_eq_getElem?_getD, List.getElem?_eq_getElem hi]; rfl) fun r' hr' => ?_⟩
      obtain ⟨j, hj⟩ := List.mem_iff_getElem?.mp hr'
      have jl := (List.getElem?_eq_some_iff.mp hj).1
      have w := lb.2 j (by rw [sz]; omega)
      rw [show rows.getD j [] = r' by rw [List.getD_eq_getElem?_getD, hj]; rfl] at w
      exact w

/-! ### list(range(n)) -/
def tLR (ta : TA) : TE := fun σ H Q => ta σ H fun vs H1 => ∃ n : Nat, vs = [.int (n : Int)] ∧ n ≤ 1000 ∧ ∀ l, H1 l = none → Q (.ref l) (upd H1 l (.lst (nV (List.range n))))
theorem vals_range {f : Nat → Value → Prop} (hf : ∀ i v, f i v → ∃ t, v = .int (i : Int) t) : ∀ (n : Nat) (acc : List Value), acc.length = n → (∀ i v, acc[i]? = some v → f i v) → Vals (nV (List.range n)) acc := by
  intro n
  induction n with
  | zero => intro acc hl _; rw [List.length_eq_zero_iff.mp hl]; exact .nil
  | succ n ih =>
    intro acc hl h
    have e : acc = acc.take n ++ acc.drop n := (List.take_append_drop n acc).symm
    have hd : ∃ v, acc.drop n = [v] := by
      have : (acc.drop n).length = 1 := by rw [List.length_drop]; omega
      exact List.length_eq_one_iff.mp this
    obtain ⟨v, hv⟩ := hd
    have h1 := ih (acc.take n) (by rw [List.length_take]; omega) fun i x hx => h i x (by rw [List.getElem?_take] at hx; split at hx; exact hx; cases hx)
    have h2 : acc[n]? = some v := by
      rw [e, List.getElem?_append_right (by rw [List.length_take]; omega), List.length_take, hv, Nat.min_eq_left (by omega), Nat.sub_self]
      rfl
    obtain ⟨t, et⟩ := hf n v (h n v h2)
    rw [e, hv, List.range_succ]
    unfold nV at h1 ⊢
    rw [List.map_append]
    exact h1.append (.cons ⟨t, et⟩ .nil)
theorem pe_listRange {X : Cx} {a : Expr} {ta : TA} {p1 p2 pos1 pos2 : Pos} (hc : X.calm = true) (hg1 : Gl X "list") (hm1 : X.mg "list" = none) (hg2 : Gl X "range") (hm2 : X.mg "range" = none) (ha : PA X [a] ta) (hs : starEach [a] X.env = [(false, eval a X.env)] := by rfl) 
    (hs2 : starEach [Expr.Call (.Name "range" p2) [a] [] pos2] X.env = [(false, eval (.Call (.Name "range" p2) [a] [] pos2) X.env)] := by rfl) :
    PE X (.Call (.Name "list" p1) [.Call (.Name "range" p2) [a] [] pos2] [] pos1) (tLR ta) := by
  intro pins s σ H Q I h
  refine wpAny_Call_Name_kw (ld_blt I hg1 hm1 boot_list ?_)
  refine PyProof.Rows.callWith_type1 ?_ hs2 rfl
  rw [hs2]
  refine Calls.spliced_cons ?_
  refine Call_ (ld_blt I hg2 hm2 boot_range (PyProof.Rows.callWith_type1 (thn (ha pos2 pins s σ H _ I h) fun us s1 ⟨vs, H1, I1, r1, q1⟩ => ?_) hs rfl))
  obtain ⟨n, e, hn, q⟩ := q1
  subst e
  cases r1 with
  | cons r rr =>
    cases rr
    obtain ⟨t, rfl⟩ := r
    refine call_range_1 (Calls.spliced_nil ?_)
    refine call_list_range (n := n) (I1.ok.hd hc) (IsRange.new ..) (small_one (by omega) (by omega) (by omega) (by omega)) (by rw [rangeSize_one]; split <;> omega) (by omega) fun h' tk acc c hk hS hacc => ?_
    have I2 := I1.kept (t' := s1.toks + 1 + 1) (h' := s1.heap.push { cls := .type "range", data := .fields #[.int 0 s1.toks, .int n t, .int 1 (s1.toks + 1)] }) fun b o e => Heap.get?_push_of_some _ e
    refine ⟨.ref _, _, I2.laid (t' := tk) (o := .lst (nV (List.range n))) hk (Nat.le_refl _) (show ObjOk X.prog X.w _ h' _ (.lst (nV (List.range n))) from ⟨?_, acc.toList, c, ?_, by simpa using hS⟩), rfl, q _ (I2.hok.fresh (Nat.le_refl _))⟩
    · rw [nV_len, List.length_range]
      exact Nat.le_of_lt (small1000 hn)
    · refine vals_range (f := fun i v => ∃ t, v = .int (0 + (i : Int) * 1) t) (fun i v z => ?_) n acc.toList (by rw [Array.length_toList]; exact hacc.1) fun i v z => hacc.2 i v (by simpa using z)
      obtain ⟨t, rfl⟩ := z
      exact ⟨t, by rw [Int.mul_one, Int.zero_add]⟩

/-! ### comprehensions -/
theorem filter_len_le {n : Nat} (p : Nat → Bool) (f : Nat → V) : (((List.range n).filter p).map f).length ≤ n := by
  have h := List.length_filter_le p (List.range n)
  rw [List.length_range] at h
  rw [List.length_map]
  exact h
theorem same_at {H1 H2 : Hp} {D : Addr} {o : HO} (hD : H1 D = none) (s : Same H1 H2) : Same H1 (upd H2 D o) := fun b u e => by
  rw [upd_ne (ne_of_none e hD)]
  exact s b u e
/-- each turn gives f i, or nothing, by p -/
theorem lc_gen {J : It} {n : Nat} {g : TG} {tt : TT} {te : TE} {vs : List Nat} {σ : L2.St} {H1 : Hp} {D : Addr} {Qd : Hp → Prop} (p : Nat → Bool) (f : Nat → V) (hn : n ≤ 1000) (hD : H1 D = none)
    (go : ∀ i H, i < n → Same H1 H → J.go i H) (stop : ∀ H, Same H1 H → J.stop n H)
    (turn : ∀ i x H H' (Qy : V → Hp → Prop) (Qn : Hp → Prop), i < n → Same H1 H → J.yld i H x H' → (p i = true → ∀ H2, Same H H2 → Qy (f i) H2) → (p i = false → ∀ H2, Same H H2 → Qn H2) →
      g x (wipe σ vs) H' fun σ2 H2 => wipe σ2 vs = wipe σ vs ∧ tt σ2 H2 fun b H3 => if b = true then te σ2 H3 Qy else Qn H3)
    (hd : ∀ H, Same H1 H → H D = some (.lst (((List.range n).filter p).map f)) → Qd H) :
    ∃ W : Nat → Nat → Hp → Prop, (∃ m, W 0 m (upd H1 D (.lst []))) ∧ ∀ i m H, W i m H →
      (J.stop i H ∧ Qd H) ∨ (J.go i H ∧ ∃ Nx : Hp → Prop, (∀ H', Nx H' → ∃ m', m' < m ∧ W (i + 1) m' H') ∧ ∀ x H', J.yld i H x H' → g x (wipe σ vs) H' fun σ2 H2 => wipe σ2 vs = wipe σ vs ∧ tt σ2 H2 fun b H3 =>
        if b = true then te σ2 H3 fun y H4 => ∃ acc, H4 D = some (.lst acc) ∧ acc.length < sizeLine ∧ Nx (upd H4 D (.lst (acc ++ [y]))) else Nx H3) := by
  refine ⟨fun i m H => m = n - i ∧ i ≤ n ∧ Same H1 H ∧ H D = some (.lst (((List.range i).filter p).map f)), ⟨n, rfl, Nat.zero_le _, same_at hD (Same.refl H1), upd_same⟩, ?_⟩
  rintro i m H ⟨rfl, hi, sm, hl⟩
  by_cases lt : i < n
  · refine .inr ⟨go i H lt sm, fun H' => Same H1 H' ∧ H' D = some (.lst (((List.range (i + 1)).filter p).map f)), fun H' z => ⟨n - (i + 1), by omega, rfl, lt, z⟩, fun x H' y => ?_⟩
    refine turn i x H H' _ _ lt sm y (fun c H2 s2 => ⟨_, s2 _ _ hl, Nat.lt_of_le_of_lt (filter_len_le p f) (small1000 (by omega)), same_at hD (sm.trans s2), ?_⟩) (fun c H2 s2 => ⟨sm.trans s2, ?_⟩)
    · rw [upd_same, List.range_succ, List.filter_append, List.map_append, List.filter_cons, if_pos c]
      rfl
    · rw [List.range_succ, List.filter_append, List.map_append, List.filter_cons, if_neg (by rw [c]; decide), s2 _ _ hl]
      exact congrArg (fun l => some (HO.lst l)) (List.append_nil _).symm
  · have e : i = n := by omega
    subst e
    exact .inl ⟨stop H sm, hd H sm hl⟩
/-- each turn gives a new list -/
theorem lc_new {J : It} {n : Nat} {g : TG} {tt : TT} {te : TE} {vs : List Nat} {σ : L2.St} {H1 : Hp} {D : Addr} {Qd : Hp → Prop} (F : Nat → List V) (hn : n ≤ 1000) (hD : H1 D = none)
    (go : ∀ i H, i < n → Same H1 H → J.go i H) (stop : ∀ H, Same H1 H → J.stop n H)
    (turn : ∀ i x H H' (Qy : V → Hp → Prop) (Qn : Hp → Prop), i < n → Same H1 H → J.yld i H x H' → (∀ H2 q, Same H H2 → H q = none → H2 q = some (.lst (F i)) → Qy (.ref q) H2) →
      g x (wipe σ vs) H' fun σ2 H2 => wipe σ2 vs = wipe σ vs ∧ tt σ2 H2 fun b H3 => if b = true then te σ2 H3 Qy else Qn H3)
    (hd : ∀ H qs, Same H1 H → H D = some (.lst (qs.map V.ref)) → LRows H qs ((List.range n).map F) → (∀ q ∈ qs, q ≠ D ∧ H1 q = none) → Qd H) :
    ∃ W : Nat → Nat → Hp → Prop, (∃ m, W 0 m (upd H1 D (.lst []))) ∧ ∀ i m H, W i m H →
      (J.stop i H ∧ Qd H) ∨ (J.go i H ∧ ∃ Nx : Hp → Prop, (∀ H', Nx H' → ∃ m', m' < m ∧ W (i + 1) m' H') ∧ ∀ x H', J.yld i H x H' → g x (wipe σ vs) H' fun σ2 H2 => wipe σ2 vs = wipe σ vs ∧ tt σ2 H2 fun b H3 =>
        if b = true then te σ2 H3 fun y H4 => ∃ acc, H4 D = some (.lst acc) ∧ acc.length < sizeLine ∧ Nx (upd H4 D (.lst (acc ++ [y]))) else Nx H3) := by
  let Iv : Nat → Hp → Prop := fun i H => Same H1 H ∧ ∃ qs, H D = some (.lst (qs.map V.ref)) ∧ LRows H qs ((List.range i).map F) ∧ ∀ q ∈ qs, q ≠ D ∧ H1 q = none
  refine ⟨fun i m H => m = n - i ∧ i ≤ n ∧ Iv i H, ⟨n, rfl, Nat.zero_le _, same_at hD (Same.refl H1), [], upd_same, LRows.nil, fun q hq => by cases hq⟩, ?_⟩
  rintro i m H ⟨rfl, hi, sm, qs, hl, rw', nq⟩
  by_cases lt : i < n
  · refine .inr ⟨go i H lt sm, Iv (i + 1), fun H' z => ⟨n - (i + 1), by omega, rfl, lt, z⟩, fun x H' y => ?_⟩
    refine turn i x H H' _ _ lt sm y fun H2 q s2 hq hq2 => ⟨_, s2 _ _ hl, ?_, same_at hD (sm.trans s2), qs ++ [q], ?_, ?_, fun p hp => ?_⟩
    · have e := rw'.len
      rw [List.length_map, List.length_range] at e
      rw [List.length_map, e]
      exact small1000 (by omega)
    · rw [upd_same, List.map_append]
      rfl
    · have nD : q ≠ D := fun z => by rw [z, hl] at hq; cases hq
      rw [List.range_succ, List.map_append]
      refine LRows.snoc ⟨rw'.len, fun j p r a b => ?_⟩ ?_
      · rw [upd_ne (nq p (List.mem_of_getElem? a)).1]
        exact s2 _ _ (rw'.row j p r a b)
      · rw [upd_ne nD]
        exact hq2
    · rcases (List.mem_append.mp hp) with hp | hp
      · exact nq p hp
      · rw [(List.mem_singleton.mp hp)]
        exact ⟨(fun z => by rw [z, hl] at hq; cases hq), sm.free hq⟩
  · have e : i = n := by omega
    subst e
    exact .inl ⟨stop H sm, hd H qs sm hl rw' nq⟩
theorem go_range {n : Nat} {H1 : Hp} : (∀ i H, i < n → Same H1 H → (Itr 0 n).go i H) ∧ ∀ H, Same H1 H → (Itr 0 n).stop n H := ⟨fun i H h _ => h, fun H _ => Nat.le_refl n⟩
theorem go_list {K : PySem.W.Frag} {a : Addr} {xs : List V} {H1 : Hp} (h : SqL K H1 a xs) : (∀ i H, i < xs.length → Same H1 H → (Itl K a).go i H) ∧ ∀ H, Same H1 H → (Itl K a).stop xs.length H :=
  ⟨fun i H hi s => ⟨xs, xs[i], s.seq h, List.getElem?_eq_getElem hi⟩, fun H s => ⟨xs, s.seq h, Nat.le_refl _⟩⟩
theorem go_enum {K : PySem.W.Frag} {a : Addr} {xs : List V} {H1 : Hp} (h : SqL K H1 a xs) : (∀ i H, i < xs.length → Same H1 H → (Ite K a).go i H) ∧ ∀ H, Same H1 H → (Ite K a).stop xs.length H :=
  ⟨fun i H hi s => ⟨xs, xs[i], s.seq h, List.getElem?_eq_getElem hi⟩, fun H s => ⟨xs, s.seq h, Nat.le_refl _⟩⟩
/-- for i, x in enumerate(a list that the body leaves as it is) -/
theorem for_enum {K : PySem.W.Frag} {a : Addr} {xs : List V} {g : TG} {tb : TS} {D : Ends} {σ : L2.St} {H : Hp} (Pv : Nat → L2.St → Hp → Prop) (h0 : Pv 0 σ H) (hl : ∀ i σ H, i ≤ xs.length → Pv i σ H → SqL K H a xs)
    (hs : ∀ i x σ H T, xs[i]? = some x → Pv i σ H → H T = none → g (.ref T) σ (upd H T (.tup [.int (i : Nat), x])) fun σ2 H2 => tb { D with nx := Pv (i + 1), ct := Pv (i + 1), bk := D.nx } σ2 H2) (hd : ∀ σ H, Pv xs.length σ H → D.nx σ H) :
    ∃ W : Nat → Nat → L2.St → Hp → Prop, (∃ m, W 0 m σ H) ∧ ∀ i m σ H, W i m σ H →
      ((Ite K a).stop i H ∧ D.nx σ H) ∨ ((Ite K a).go i H ∧ ∃ N : L2.St → Hp → Prop, (∀ σ' H', N σ' H' → ∃ m', m' < m ∧ W (i + 1) m' σ' H') ∧ ∀ x H', (Ite K a).yld i H x H' → g x σ H' fun σ2 H2 => tb { D with nx := N, ct := N, bk := D.nx } σ2 H2) := by
  refine ⟨fun i m σ H => m = xs.length - i ∧ i ≤ xs.length ∧ Pv i σ H, ⟨xs.length, rfl, Nat.zero_le _, h0⟩, ?_⟩
  rintro i m σ H ⟨rfl, hi, p⟩
  have q := hl i σ H hi p
  by_cases lt : i < xs.length
  · refine .inr ⟨⟨xs, xs[i], q, List.getElem?_eq_getElem lt⟩, Pv (i + 1), fun σ' H' p' => ⟨xs.length - (i + 1), by omega, rfl, lt, p'⟩, fun x H' y => ?_⟩
    obtain ⟨T, z, rfl, hT, rfl, y⟩ := y
    exact hs i z σ H T (y xs q) p hT
  · have e : i = xs.length := by omega
    subst e
    exact .inl ⟨⟨xs, q, Nat.le_refl _⟩, hd σ H p⟩
/-! ### in a comprehension: K by name -/
theorem ix_listK {X : Cx} {K : PySem.W.Frag} (h : X.K = K) : IxR X (rIxL K) := by
  subst h
  exact ix_list
theorem call_lenK {X : Cx} {K : PySem.W.Frag} (h : X.K = K) : CallR X (.builtin "len") (fun xs H Q => ∃ p ys, xs = [.ref p] ∧ (SqL K H p ys ∨ SqT K H p ys) ∧ Q (.int ys.length) H) := by
  subst h
  exact call_len_seq
/-- a, b = a pair -/
theorem pg_pair {X : Cx} {K : PySem.W.Frag} {pos p1 p2 : Pos} {k i j : Nat} {x y : Str} (hK : X.K = K) (hc : X.calm = true) (hN : X.N.Nodup) (hi : X.N[i]? = some x) (hj : X.N[j]? = some y) (hx : Loc X.env.scope x) (hy : Loc X.env.scope y)
    (hf : X.fn x = true ∨ X.env.scope.names.lookup x = some .local := by first | exact .inl rfl | exact .inr rfl | assumption) (hf2 : X.fn y = true ∨ X.env.scope.names.lookup y = some .local := by first | exact .inl rfl | exact .inr rfl | assumption) :
    PG X (.Tuple [.Name x p1, .Name y p2] k pos) (gTup K 2 (gCons (gName i) (gCons (gName j) gNil))) := by
  subst hK
  exact pg_tup hc (pgs_cons (pg_name hN hi hx hf) (pgs_cons (pg_name hN hj hy hf2) pgs_nil))
end Rb

namespace Rb
open PySem PySem.Spec PyProof.Rows L2
open PySem.W (Codec)
/-! ### the promises -/
def spFirsts (K : PySem.W.Frag) : Sp := fun vs H Q _ => ∃ (l : Addr) (d : List Nat), vs = [.ref l] ∧ SqL K H l (nV d) ∧ d.length ≤ 10 ∧ ∀ H' p, Same H H' → H p = none → H' p = some (.lst (nV (firsts d))) → Q (.ref p) H'
def spWith (K : PySem.W.Frag) : Sp := fun vs H Q _ => ∃ (l : Addr) (d : List Nat) (i k : Nat), vs = [.ref l, .int (i : Int), .int (k : Int)] ∧ SqL K H l (nV d) ∧ i < d.length ∧ k < d.length ∧
  ∀ H' p, Same H H' → H p = none → H' p = some (.lst (nV (withBout d i k))) → Q (.ref p) H'
def spAway : Sp := fun vs H Q _ => ∃ s i : Nat, vs = [.int (s : Int), .int (i : Int)] ∧ Q (.bl (s.testBit i)) H
def spRivals (C : Addr) : Sp := fun vs H Q _ => ∃ (a dx ls lw ld : Addr) (b : Sj09.Basho) (i : Nat), vs = [.ref a, .int (i : Int)] ∧ TourAt C H a b dx ls lw ld ∧ b.count ≤ 8 ∧ i < b.count ∧
  ∀ H' p, Same H H' → H p = none → H' p = some (.lst (nV (rivals b i))) → Q (.ref p) H'
/-- the rivals of each, as a list of lists -/
structure EachAt (H : Hp) (p : Addr) (b : Sj09.Basho) (qs : List Addr) : Prop where
  lst : H p = some (.lst (qs.map V.ref))
  rows : LRows H qs ((List.range b.count).map fun i => nV (rivals b i))
theorem EachAt.same {H H' : Hp} {p : Addr} {b : Sj09.Basho} {qs : List Addr} (h : EachAt H p b qs) (s : Same H H') : EachAt H' p b qs := ⟨s _ _ h.lst, h.rows.same s⟩
theorem EachAt.len {H : Hp} {p : Addr} {b : Sj09.Basho} {qs : List Addr} (h : EachAt H p b qs) : qs.length = b.count := by
  rw [h.rows.len, List.length_map, List.length_range]
theorem EachAt.at {H : Hp} {p : Addr} {b : Sj09.Basho} {qs : List Addr} (h : EachAt H p b qs) {i : Nat} (hi : i < b.count) : ∃ q, (qs.map V.ref)[i]? = some (V.ref q) ∧ H q = some (.lst (nV (rivals b i))) := by
  obtain ⟨q, h1, h2⟩ := h.rows.at (i := i) (r := nV (rivals b i)) (by rw [List.getElem?_map, List.getElem?_range hi]; rfl)
  exact ⟨q, by rw [List.getElem?_map, h1]; rfl, h2⟩
def spEach (C : Addr) : Sp := fun vs H Q _ => ∃ (a dx ls lw ld : Addr) (b : Sj09.Basho), vs = [.ref a] ∧ TourAt C H a b dx ls lw ld ∧ b.count ≤ 8 ∧
  ∀ H' p qs, Same H H' → H p = none → EachAt H' p b qs → Q (.ref p) H'
def spApart (C : Addr) : Sp := fun vs H Q _ => ∃ (a dx ls lw ld : Addr) (b : Sj09.Basho) (i k : Nat), vs = [.ref a, .int (i : Int), .int (k : Int)] ∧ TourAt C H a b dx ls lw ld ∧ WF b ∧ i < b.count ∧ k < b.count ∧ Q (.int ((b.far i k : Nat) : Int)) H
def spOff (C : Addr) (K : PySem.W.Frag) : Sp := fun vs H Q _ => ∃ (a dx ls lw ld l : Addr) (b : Sj09.Basho) (d : List Nat), vs = [.ref a, .ref l] ∧ TourAt C H a b dx ls lw ld ∧ WF b ∧ SqL K H l (nV d) ∧ d.length = b.count ∧ (∀ i, i < b.count → d.getD i 0 < b.count) ∧
  ∀ H', Same H H' → Q (.int ((b.cost d : Nat) : Int)) H'
section
variable {P : Program} {w : World} {K : PySem.W.Frag} {mg : Str → Option Value} {base : Heap} {ad : Adr}

theorem ok_FirstsOfBouts (T : Txt K mg ad) : FnOk P w K mg base CX0 1 ad.fFirstsOfBouts ad.fdFirstsOfBouts ["day"] (spFirsts K) := by
  refine T.FFirstsOfBouts.ok scFirstsOfBouts (fun vs H Q E h => ?_) (fun cdv A outer s H vs Q E hr h => ?_)
  · obtain ⟨l, d, rfl, _⟩ := h
    rfl
  · obtain ⟨l, d, rfl, hl, hd, q⟩ := h
    refine ⟨_, (pss_one (ps_ret (pe_lc (own := [("one", 1), ("other", 2)]) rfl scFirstsOfBouts.nd (pi_enum rfl T.nEnumerate (pa_cons (pv 0) pa_nil)) (blkOk_by (N := ["day", "one", "other"]) (sc := defScope sFirstsOfBouts) (by decide +kernel)) (fun _ _ _ _ _ => (pg_pair (K := K) (i := 1) (j := 2) rfl rfl scFirstsOfBouts.nd rfl rfl (by first | exact Or.inl rfl | exact Or.inr rfl) (by first | exact Or.inl rfl | exact Or.inr rfl))) (fun _ _ _ _ _ => (pts_one (pt_cmpR op_lt (pv 1) (pv 2) (nomark _)))) (fun _ _ _ _ _ => (pv 1))))), ?_⟩
    refine ⟨_, rfl, l, nV d, rfl, hl, fun D hD => ?_⟩
    refine lc_gen (n := (nV d).length) (fun i => decide (i < d.getD i 0)) (fun i => V.int (i : Int)) (by rw [nV_len]; omega) hD (go_enum hl).1 (go_enum hl).2 (fun i x H1 H2 Qy Qn hi s1 y yes no => ?_) (fun H1 s1 e => ?_)
    · obtain ⟨u, x, rfl, hu, rfl, hx⟩ := y
      have hx := hx _ (s1.seq hl)
      rw [nV_len] at hi
      rw [nV_getD hi] at hx
      cases hx
      have su : Same H1 (upd H1 u (.tup [.int (i : Nat), V.int ((d.getD i 0 : Nat) : Int)])) := same_upd hu
      refine ⟨u, _, rfl, SqT.of upd_same, rfl, _, _, rfl, _, _, rfl, rfl, rfl, _, rfl, _, rfl, _, _, rfl, rfl, _, rfl, ?_⟩
      by_cases c : i < d.getD i 0
      · rw [decide_eq_true (show (i : Int) < ((d.getD i 0 : Nat) : Int) by omega)]
        exact iteT ⟨_, rfl, yes (decide_eq_true c) _ su⟩
      · rw [decide_eq_false (show ¬ (i : Int) < ((d.getD i 0 : Nat) : Int) by omega)]
        exact iteF (no (decide_eq_false c) _ su)
    · refine q H1 D s1 hD ?_
      rw [e, nV_len]
      rfl

theorem ixN_nat {n i : Nat} (h : i < n) : ixN n (i : Int) = some i := by
  unfold ixN
  rw [if_pos (by omega), if_pos (by omega)]
  rfl
theorem nV_set (l : List Nat) (i k : Nat) : (nV l).set i (V.int (k : Int)) = nV (l.set i k) := by
  unfold nV
  rw [List.map_set]
theorem ok_WithBout (T : Txt K mg ad) : FnOk P w K mg base CX0 1 ad.fWithBout ad.fdWithBout ["day", "one", "other"] (spWith K) := by
  refine T.FWithBout.ok scWithBout (fun vs H Q E h => ?_) (fun cdv A outer s H vs Q E hr h => ?_)
  · obtain ⟨l, d, i, k, rfl, _⟩ := h
    rfl
  · obtain ⟨l, d, i, k, rfl, hl, hi, hk, q⟩ := h
    refine ⟨_, (pss_cons (ps_set (i := 3) scWithBout.nd rfl (by first | exact Or.inl rfl | exact Or.inr rfl) (pe_callTy call_list_of rfl T.nList boot_list (pa_cons (pv 0) pa_nil)))
      (pss_cons (ps_asg (pv 2) (pg_sub (pv 3) (pv 1) set_list))
      (pss_cons (ps_asg (pv 1) (pg_sub (pv 3) (pv 2) set_list))
      (pss_one (ps_ret (pv 3)))))), ?_⟩
    refine ⟨_, rfl, l, nV d, rfl, .inl hl, fun p hp => ?_⟩
    refine ⟨_, rfl, _, rfl, _, rfl, p, _, _, i, rfl, rfl, upd_same, ixN_nat (by rw [nV_len]; exact hi), ?_⟩
    refine ⟨_, rfl, _, rfl, _, rfl, p, _, _, k, rfl, rfl, upd_same, ixN_nat (by rw [List.length_set, nV_len]; exact hk), ?_⟩
    refine ⟨_, rfl, q _ p ?_ hp ?_⟩
    · intro b o e
      have nb := ne_of_none e hp
      rw [upd_ne nb, upd_ne nb, upd_ne nb]
      exact e
    · rw [upd_same, nV_set, nV_set]
      rfl

theorem ok_RivalsOf (T : Txt K mg ad) : FnOk P w K mg base CX0 3 ad.fRivalsOf ad.fdRivalsOf ["self", "one"] (spRivals ad.CTournament) := by
  refine T.FRivalsOf.ok scRivalsOf (fun vs H Q E h => ?_) (fun cdv A outer s H vs Q E hr h => ?_)
  · obtain ⟨a, dx, ls, lw, ld, b, i, rfl, _⟩ := h
    rfl
  · obtain ⟨a, dx, ls, lw, ld, b, i, rfl, t, h8, hi, q⟩ := h
    refine ⟨_, (pss_one (ps_ret (pe_lc (own := [("other", 2)]) rfl scRivalsOf.nd (pi_range1 rfl T.nRange (pa_cons (pe_callB call_len_seq rfl T.nLen PySem.boot_len (pa_cons (pe_fld (pv 0) rfl) pa_nil)) pa_nil)) (blkOk_by (N := ["self", "one", "other"]) (sc := defScope sRivalsOf) (by decide +kernel)) (fun _ _ _ _ _ => (pg_name (i := 2) scRivalsOf.nd rfl (by first | exact Or.inl rfl | exact Or.inr rfl))) (fun _ _ _ _ _ => (pts_one (pt_val (pe_meth (pv 0) T.clTournament T.mMayMeet (ok_MayMeet T) hr T.bMayMeet .nil pass0 (pa_cons (pv 1) (pa_cons (pv 2) pa_nil)))))) (fun _ _ _ _ _ => (pv 2))))), ?_⟩
    refine ⟨_, rfl, a, ad.CTournament, dx, _, _, rfl, t.obj, T.clTournament, T.aStables, tf_stables, ls, _, rfl, .inl (SqL.of t.st), _, rfl, by omega, by rw [sVs_len]; omega, fun D hD => ?_⟩
    have en : (((sVs b).length : Nat) : Int).toNat = b.count := by rw [sVs_len]; rfl
    rw [en]
    refine lc_gen (n := b.count) (fun k => b.may i k) (fun k => V.int (k : Int)) (by omega) hD go_range.1 go_range.2 (fun k x H1 H2 Qy Qn hk s1 y yes no => ?_) (fun H1 s1 e => ?_)
    · obtain ⟨rfl, rfl⟩ := y
      rw [Int.zero_add]
      have t1 := t.same s1
      refine ⟨rfl, _, rfl, a, dx, _, rfl, t1.obj, rfl, _, rfl, _, rfl, a, dx, ls, lw, ld, b, i, k, rfl, t1, hi, hk, fun H' s' => ⟨_, rfl, ?_⟩⟩
      cases c : b.may i k with
      | true => exact iteT ⟨_, rfl, yes c _ s'⟩
      | false => exact iteF (no c _ s')
    · exact q H1 D s1 hD e

theorem ok_RivalsOfEach (T : Txt K mg ad) : FnOk P w K mg base CX0 4 ad.fRivalsOfEach ad.fdRivalsOfEach ["self"] (spEach ad.CTournament) := by
  refine T.FRivalsOfEach.ok scRivalsOfEach (fun vs H Q E h => ?_) (fun cdv A outer s H vs Q E hr h => ?_)
  · obtain ⟨a, dx, ls, lw, ld, b, rfl, _⟩ := h
    rfl
  · obtain ⟨a, dx, ls, lw, ld, b, rfl, t, h8, q⟩ := h
    refine ⟨_, (pss_one (ps_ret (pe_lc (own := [("one", 1)]) rfl scRivalsOfEach.nd (pi_range1 rfl T.nRange (pa_cons (pe_callB call_len_seq rfl T.nLen PySem.boot_len (pa_cons (pe_fld (pv 0) rfl) pa_nil)) pa_nil)) (blkOk_by (N := ["self", "one"]) (sc := defScope sRivalsOfEach) (by decide +kernel)) (fun _ _ _ _ _ => (pg_name (i := 1) scRivalsOfEach.nd rfl (by first | exact Or.inl rfl | exact Or.inr rfl))) (fun _ _ _ _ _ => pts_nil) (fun _ _ _ _ _ => (pe_meth (pv 0) T.clTournament T.mRivalsOf (ok_RivalsOf T) hr T.bRivalsOf .nil pass0 (pa_cons (pv 1) pa_nil)))))), ?_⟩
    refine ⟨_, rfl, a, ad.CTournament, dx, _, _, rfl, t.obj, T.clTournament, T.aStables, tf_stables, ls, _, rfl, .inl (SqL.of t.st), _, rfl, by omega, by rw [sVs_len]; omega, fun D hD => ?_⟩
    have en : (((sVs b).length : Nat) : Int).toNat = b.count := by rw [sVs_len]; rfl
    rw [en]
    refine lc_new (n := b.count) (fun k => nV (rivals b k)) (by omega) hD go_range.1 go_range.2 (fun k x H1 H2 Qy Qn hk s1 y yes => ?_) (fun H1 qs s1 e r nq => ?_)
    · obtain ⟨rfl, rfl⟩ := y
      rw [Int.zero_add]
      have t1 := t.same s1
      exact ⟨rfl, id ⟨_, rfl, a, dx, _, rfl, t1.obj, rfl, _, rfl, a, dx, ls, lw, ld, b, k, rfl, t1, h8, hk, fun H' p s' hp e => yes H' p s' hp e⟩⟩
    · exact q H1 D qs s1 hD ⟨e, r⟩

theorem abs_diff (i k : Nat) : (if ((i : Int) - (k : Int)) < 0 then -((i : Int) - (k : Int)) else (i : Int) - (k : Int)) = ((Sj09.apart i k : Nat) : Int) := by
  unfold Sj09.apart
  split <;> omega
theorem ok_Apart (T : Txt K mg ad) : FnOk P w K mg base CX0 1 ad.fApart ad.fdApart ["self", "one", "other"] (spApart ad.CTournament) := by
  refine T.FApart.ok scApart (fun vs H Q E h => ?_) (fun cdv A outer s H vs Q E hr h => ?_)
  · obtain ⟨a, dx, ls, lw, ld, b, i, k, rfl, _⟩ := h
    rfl
  · obtain ⟨a, dx, ls, lw, ld, b, i, k, rfl, t, wf, hi, hk, q⟩ := h
    refine ⟨_, (pss_cons (ps_set (i := 3) scApart.nd rfl (by first | exact Or.inl rfl | exact Or.inr rfl) (pe_op op_mul (pe_callB call_abs rfl T.nAbs boot_abs (pa_cons (pe_op op_sub (pv 1) (pv 2)) pa_nil)) (pe_fld (pv 0) rfl)))
      (pss_cons (ps_set (i := 4) scApart.nd rfl (by first | exact Or.inl rfl | exact Or.inr rfl) (pe_op op_mul (pe_callB call_abs rfl T.nAbs boot_abs (pa_cons (pe_op op_sub (pe_ix ix_list (pe_fld (pv 0) rfl) (pv 1) (fun _ _ => rfl)) (pe_ix ix_list (pe_fld (pv 0) rfl) (pv 2) (fun _ _ => rfl))) pa_nil)) (pe_fld (pv 0) rfl)))
      (pss_one (ps_ret (pe_op op_add (pv 3) (pv 4)))))), ?_⟩
    have wr := wf.rank
    have ww := wf.win
    refine ⟨_, rfl, _, rfl, _, _, rfl, rfl, _, rfl, _, rfl, a, ad.CTournament, dx, _, _, rfl, t.obj, T.clTournament, T.aRankWeight, tf_rank, _, _, rfl, rfl, .inr ⟨by omega, by omega⟩, ?_⟩
    refine ⟨_, rfl, a, ad.CTournament, dx, _, _, rfl, t.obj, T.clTournament, T.aWon, tf_won, _, rfl, lw, _, _, _, rfl, rfl, SqL.of t.wn, atI_nat (wVs_at hi), _, rfl, a, ad.CTournament, dx, _, _, rfl, t.obj, T.clTournament, T.aWon, tf_won, _, rfl, lw, _, _, _, rfl, rfl, SqL.of t.wn, atI_nat (wVs_at hk), _, _, rfl, rfl, _, rfl,
      _, rfl, a, ad.CTournament, dx, _, _, rfl, t.obj, T.clTournament, T.aWinsWeight, tf_wins, _, _, rfl, rfl, .inr ⟨by omega, by omega⟩, _, rfl, _, rfl, _, _, rfl, rfl, ?_⟩
    have e : (if ((i : Int) - (k : Int)) < 0 then -((i : Int) - (k : Int)) else (i : Int) - (k : Int)) * ((b.rank : Nat) : Int) + (if ((((b.of_ i).wins : Nat) : Int) - (((b.of_ k).wins : Nat) : Int)) < 0 then -((((b.of_ i).wins : Nat) : Int) - (((b.of_ k).wins : Nat) : Int)) else (((b.of_ i).wins : Nat) : Int) - (((b.of_ k).wins : Nat) : Int)) * ((b.win : Nat) : Int) = ((b.far i k : Nat) : Int) := by
      rw [abs_diff, abs_diff]
      unfold Sj09.Basho.far
      rw [Int.natCast_add, Int.natCast_mul, Int.natCast_mul, Int.mul_comm, Int.mul_comm ((Sj09.apart (b.of_ i).wins (b.of_ k).wins : Nat) : Int)]
    show Q (V.int ((if ((i : Int) - (k : Int)) < 0 then -((i : Int) - (k : Int)) else (i : Int) - (k : Int)) * ((b.rank : Nat) : Int) + (if ((((b.of_ i).wins : Nat) : Int) - (((b.of_ k).wins : Nat) : Int)) < 0 then -((((b.of_ i).wins : Nat) : Int) - (((b.of_ k).wins : Nat) : Int)) else (((b.of_ i).wins : Nat) : Int) - (((b.of_ k).wins : Nat) : Int)) * ((b.win : Nat) : Int))) H
    rw [e]
    exact q

theorem lc_all {n : Nat} (f : Nat → V) : ((List.range n).filter fun _ => true).map f = (List.range n).map f := by
  rw [List.filter_eq_self.mpr fun _ _ => rfl]
theorem range_pick {α β : Type} (l : List α) (z : α) (F : α → β) : (List.range l.length).map (fun i => F (l.getD i z)) = l.map F := by
  refine List.ext_getElem (by simp) fun i h1 h2 => ?_
  have hi : i < l.length := by simpa using h2
  rw [List.getElem_map, List.getElem_map, List.getElem_range, List.getD_eq_getElem?_getD, List.getElem?_eq_getElem hi]
  rfl
theorem sum_cast (f : Nat → Nat) : ∀ l : List Nat, (l.map fun i => ((f i : Nat) : Int)).sum = (((l.map f).sum : Nat) : Int)
  | [] => rfl
  | x :: l => by
    rw [List.map_cons, List.map_cons, List.sum_cons, List.sum_cons, sum_cast f l, Int.natCast_add]
theorem mem_firsts {d : List Nat} {i : Nat} : i ∈ firsts d ↔ i < d.length ∧ i < d.getD i 0 := by
  unfold firsts
  rw [List.mem_filter, List.mem_range, decide_eq_true_eq]
theorem firsts_len (d : List Nat) : (firsts d).length ≤ d.length := by
  have h := List.length_filter_le (fun i => decide (i < d.getD i 0)) (List.range d.length)
  rw [List.length_range] at h
  exact h
theorem getD_mem {l : List Nat} {i : Nat} (h : i < l.length) : l.getD i 0 ∈ l := by
  rw [List.getD_eq_getElem?_getD, List.getElem?_eq_getElem h]
  exact List.getElem_mem h
theorem ok_Off (T : Txt K mg ad) : FnOk P w K mg base CX0 2 ad.fOff ad.fdOff ["self", "day"] (spOff ad.CTournament K) := by
  refine T.FOff.ok scOff (fun vs H Q E h => ?_) (fun cdv A outer s H vs Q E hr h => ?_)
  · obtain ⟨a, dx, ls, lw, ld, l, b, d, rfl, _⟩ := h
    rfl
  · obtain ⟨a, dx, ls, lw, ld, l, b, d, rfl, t, wf, hl, hd, hk, q⟩ := h
    refine ⟨_, (pss_one (ps_ret (pe_callB (cr_sum rfl) rfl T.nSum boot_sum (pa_cons (pe_lc (own := [("one", 2)]) rfl scOff.nd (pi_list (pe_call (ok_FirstsOfBouts T) hr rfl T.gFirstsOfBouts T.FFirstsOfBouts.kp T.bFirstsOfBouts .nil pass0 (pa_cons (pv 1) pa_nil))) (blkOk_by (N := ["self", "day", "one"]) (sc := defScope sOff) (by decide +kernel)) (fun _ _ _ _ _ => (pg_name (i := 2) scOff.nd rfl (by first | exact Or.inl rfl | exact Or.inr rfl))) (fun _ _ _ _ _ => pts_nil) (fun _ _ _ _ _ => (pe_meth (pv 0) T.clTournament T.mApart (ok_Apart T) hr T.bApart .nil pass0 (pa_cons (pv 2) (pa_cons (pe_ix (ix_listK (K := K) rfl) (pv 1) (pv 2) (fun _ _ => rfl)) pa_nil))))) pa_nil)))), ?_⟩
    have few := wf.few
    have fl := firsts_len d
    refine ⟨_, rfl, l, d, rfl, hl, by omega, fun H1 p s1 hp e1 => ⟨p, rfl, ⟨_, SqL.of e1⟩, fun D hD => ?_⟩⟩
    refine lc_gen (n := (nV (firsts d)).length) (fun _ => true) (fun i => V.int ((b.far ((firsts d).getD i 0) (d.getD ((firsts d).getD i 0) 0) : Nat) : Int)) (by rw [nV_len]; omega) hD (go_list (SqL.of e1)).1 (go_list (SqL.of e1)).2 (fun i x H2 H3 Qy Qn hi s2 y yes no => ?_) (fun H2 s2 e2 => ?_)
    · obtain ⟨rfl, y⟩ := y
      have hx := y _ (s2.seq (SqL.of e1))
      rw [nV_len] at hi
      rw [nV_getD hi] at hx
      cases hx
      have t2 := (t.same s1).same s2
      have hl2 := s2.seq (s1.seq hl)
      have mf := mem_firsts.mp (getD_mem hi)
      rw [hd] at mf
      exact ⟨rfl, id ⟨_, rfl, a, dx, _, rfl, t2.obj, rfl, _, rfl, _, rfl, _, rfl, l, _, _, _, rfl, rfl, hl2, atI_nat (nV_getD (by rw [hd]; exact mf.1)), a, dx, ls, lw, ld, b, _, _, rfl, t2, wf, mf.1, hk _ mf.1, yes rfl _ (Same.refl _)⟩⟩
    · refine ⟨D, (firsts d).map fun i => ((b.far i (d.getD i 0) : Nat) : Int), rfl, SqL.of ?_, ?_⟩
      · rw [e2, lc_all, nV_len, range_pick (firsts d) 0 fun i => V.int ((b.far i (d.getD i 0) : Nat) : Int), List.map_map]
        rfl
      · rw [sum_cast, ← cost_firsts hd]
        exact q H2 (s1.trans s2)

theorem away_bit (s i : Nat) : decide (V.int (Builtin.bitAnd ((s : Int) / 2 ^ ((i : Int).toNat)) 1) = V.int 1) = s.testBit i := by
  rw [bitAnd_m1, Nat.testBit_eq_decide_div_mod_eq, Int.toNat_natCast, decide_eq_decide]
  have e : (s : Int) / 2 ^ i % 2 = ((s / 2 ^ i % 2 : Nat) : Int) := by
    rw [Int.natCast_emod, Int.natCast_ediv, Int.natCast_pow]
    rfl
  rw [e]
  constructor
  · intro z
    injection z with z
    omega
  · intro z
    rw [z]
    rfl
theorem ok_IsAway (T : Txt K mg ad) : FnOk P w K mg base CX0 1 ad.fIsAway ad.fdIsAway ["away", "one"] spAway := by
  refine T.FIsAway.ok scIsAway (fun vs H Q E h => ?_) (fun cdv A outer s H vs Q E hr h => ?_)
  · obtain ⟨n, i, rfl, _⟩ := h
    rfl
  · obtain ⟨n, i, rfl, q⟩ := h
    refine ⟨_, (pss_one (ps_ret (pe_cmpR op_eq (pe_op op_and (pe_op op_shr (pv 0) (pv 1)) pe_int) pe_int (nomark _)))), ?_⟩
    refine ⟨_, rfl, _, rfl, _, _, rfl, rfl, by omega, _, _, rfl, rfl, rfl, ?_⟩
    show Q (V.bl (decide (V.int (Builtin.bitAnd ((n : Int) / 2 ^ ((i : Int).toNat)) 1) = V.int 1))) H
    rw [away_bit]
    exact q
end
end Rb

namespace Rb
open PySem PySem.Spec PyProof.Rows L2
open PySem.W (Codec)
def bV (l : List Bool) : List V := l.map V.bl
theorem bV_len (l : List Bool) : (bV l).length = l.length := List.length_map _
theorem bV_at {l : List Bool} {i : Nat} (h : i < l.length) : (bV l)[i]? = some (V.bl (l.getD i false)) := by
  unfold bV
  rw [List.getElem?_map, List.getD_eq_getElem?_getD, List.getElem?_eq_getElem h]
  rfl
theorem bV_set (l : List Bool) (i : Nat) : (bV l).set i (V.bl true) = bV (l.set i true) := by
  unfold bV
  rw [List.map_set]
theorem flat_nV (l : List Nat) : (nV l).all flatV = true := by
  rw [List.all_eq_true]
  intro v hv
  obtain ⟨n, _, rfl⟩ := List.mem_map.mp hv
  rfl
theorem in_nV (o : Nat) (l : List Nat) : inV (V.int (o : Int)) (nV l) = l.contains o := by
  induction l with
  | nil => rfl
  | cons x l ih =>
    show (eqV (V.int (x : Int)) (V.int (o : Int)) || inV (V.int (o : Int)) (nV l)) = _
    rw [ih, List.contains_cons]
    congr 1
    show ((x : Int) == (o : Int)) = (o == x)
    rw [Bool.eq_iff_iff, (beq_iff_eq), (beq_iff_eq)]
    omega
/-! ### the promises -/
def spSize (K : PySem.W.Frag) : Sp := fun vs H Q _ => ∃ (p : Addr) (b : Sj09.Basho) (qs : List Addr) (s : Nat), vs = [.ref p, .int (s : Int)] ∧ EachAt H p b qs ∧ b.count ≤ 8 ∧ ∀ H', Same H H' → Q (.int ((b.size s : Nat) : Int)) H'
def spGroup : Sp := fun vs H Q _ => ∃ (p l : Addr) (b : Sj09.Basho) (qs : List Addr) (s i : Nat) (pl : List Bool), vs = [.ref p, .ref l, .int (i : Int)] ∧ EachAt H p b qs ∧ b.count ≤ 8 ∧ H l = some (.lst (bV pl)) ∧ PI b s i pl ∧ i < b.count ∧ pl.getD i false = false ∧
  ∀ H' g q, Same H H' → H q = none → H' q = some (.lst (nV g)) → g.Nodup → (∀ j, j ∈ g ↔ Reach b s i j) → g.length ≤ 8 → Q (.ref q) H'
def spOdd : Sp := fun vs H Q _ => ∃ (p : Addr) (b : Sj09.Basho) (qs : List Addr) (s : Nat), vs = [.ref p, .int (s : Int)] ∧ EachAt H p b qs ∧ b.count ≤ 8 ∧ ∀ H', Same H H' → Q (.int ((b.odds s : Nat) : Int)) H'
def spPlain (C : Addr) (c : Sj09.Call) : Sp := fun vs H Q _ => ∃ (a dx ls lw ld : Addr) (b : Sj09.Basho), vs = [.ref a] ∧ TourAt C H a b dx ls lw ld ∧ WF b ∧ Done C H a b [a, ls, lw, ld] c Q
section
variable {P : Program} {w : World} {K : PySem.W.Frag} {mg : Str → Option Value} {base : Heap} {ad : Adr}

theorem ok_SizeOf (T : Txt K mg ad) : FnOk P w K mg base CX0 2 ad.fSizeOf ad.fdSizeOf ["rivals", "away"] (spSize K) := by
  refine T.FSizeOf.ok scSizeOf (fun vs H Q E h => ?_) (fun cdv A outer s H vs Q E hr h => ?_)
  · obtain ⟨p, b, qs, n, rfl, _⟩ := h
    rfl
  · obtain ⟨p, b, qs, n, rfl, ea, h8, q⟩ := h
    refine ⟨_, (pss_one (ps_ret (pe_callB call_len_seq rfl T.nLen PySem.boot_len (pa_cons (pe_lc (own := [("one", 2)]) rfl scSizeOf.nd (pi_range1 rfl T.nRange (pa_cons (pe_callB call_len_seq rfl T.nLen PySem.boot_len (pa_cons (pv 0) pa_nil)) pa_nil)) (blkOk_by (N := ["rivals", "away", "one"]) (sc := defScope sSizeOf) (by decide +kernel)) (fun _ _ _ _ _ => (pg_name (i := 2) scSizeOf.nd rfl (by first | exact Or.inl rfl | exact Or.inr rfl))) (fun _ _ _ _ _ => (pts_one (pt_val (pe_call (ok_IsAway T) hr rfl T.gIsAway T.FIsAway.kp T.bIsAway .nil pass0 (pa_cons (pv 1) (pa_cons (pv 2) pa_nil)))))) (fun _ _ _ _ _ => (pv 2))) pa_nil)))), ?_⟩
    have ln : (qs.map V.ref).length = b.count := by rw [List.length_map]; exact ea.len
    refine ⟨_, rfl, p, _, rfl, .inl (SqL.of ea.lst), _, rfl, by omega, by rw [ln]; omega, fun D hD => ?_⟩
    have en : (((qs.map V.ref).length : Nat) : Int).toNat = b.count := by rw [ln]; rfl
    rw [en]
    refine lc_gen (n := b.count) (fun k => n.testBit k) (fun k => V.int (k : Int)) (by omega) hD go_range.1 go_range.2 (fun k x H1 H2 Qy Qn hk s1 y yes no => ?_) (fun H1 s1 e => ?_)
    · obtain ⟨rfl, rfl⟩ := y
      rw [Int.zero_add]
      refine ⟨rfl, _, rfl, _, rfl, n, k, rfl, _, rfl, ?_⟩
      cases c : n.testBit k with
      | true => exact iteT ⟨_, rfl, yes c _ (Same.refl _)⟩
      | false => exact iteF (no c _ (Same.refl _))
    · refine ⟨D, _, rfl, .inl (SqL.of e), ?_⟩
      rw [List.length_map]
      exact q H1 s1

def mu4 (n : Nat) (σ : L2.St) (_ : Hp) : Nat := match (σ[4]? : Option (Option V)) with
  | some (some (V.int z)) => n - z.toNat
  | _ => 0
theorem ok_GroupFrom (T : Txt K mg ad) : FnOk P w K mg base CX0 1 ad.fGroupFrom ad.fdGroupFrom ["rivals", "placed", "start"] spGroup := by
  refine T.FGroupFrom.ok scGroupFrom (fun vs H Q E h => ?_) (fun cdv A outer s H vs Q E hr h => ?_)
  · obtain ⟨p, l, b, qs, n, i, pl, rfl, _⟩ := h
    rfl
  · obtain ⟨p, l, b, qs, n, i, pl, rfl, ea, h8, hl, pi, hi, hpi, q⟩ := h
    refine ⟨_, (pss_cons (ps_set (i := 3) scGroupFrom.nd rfl (by first | exact Or.inl rfl | exact Or.inr rfl) (pe_lst (pa_cons (pv 2) pa_nil)))
      (pss_cons (ps_set (i := 4) scGroupFrom.nd rfl (by first | exact Or.inl rfl | exact Or.inr rfl) pe_int)
      (pss_cons (ps_while PassesOwn.never (pt_cmpR op_lt (pv 4) (pe_callB call_len_seq rfl T.nLen PySem.boot_len (pa_cons (pv 3) pa_nil)) (nomark _)) (pss_cons (ps_set (i := 5) scGroupFrom.nd rfl (by first | exact Or.inl rfl | exact Or.inr rfl) (pe_ix ix_list (pv 3) (pv 4) (fun _ _ => rfl)))
      (pss_cons (ps_for PassesOwn.never rfl (pi_list (pe_ix ix_list (pv 0) (pv 5) (fun _ _ => rfl))) (pg_name (i := 6) scGroupFrom.nd rfl (by first | exact Or.inl rfl | exact Or.inr rfl)) (pss_one (ps_if (pw_and (pt_not (pt_val (pe_ix ix_list (pv 1) (pv 6) (fun _ _ => rfl)))) (pw_and1 (pt_cmpR op_notIn_seq (pv 6) (pv 3) rfl))).pt (pss_one (ps_expr (pe_bm PySem.F.plainAttrs_list PySem.F.slot_list_append PySem.F.type_list_append mt_append (pv 3) (pa_cons (pv 6) pa_nil)))) pss_nil)))
      (pss_one (ps_set (i := 4) scGroupFrom.nd rfl (by first | exact Or.inl rfl | exact Or.inr rfl) (pe_op op_add (pv 4) pe_int))))))
      (pss_one (ps_ret (pv 3)))))), ?_⟩
    refine ⟨_, rfl, (by show 1 ≤ sizeLine; decide), fun r hr' => ?_⟩
    have key : ∀ (a : Nat) (z : Int), z = (a : Int) → z.toNat = a := fun a z e => by omega
    refine while_by (fun σ H' => ∃ (g : List Nat) (a : Nat) (m o : Option V), σ = [some (.ref p), some (.ref l), some (.int (i : Int)), some (.ref r), some (.int (a : Int)), m, o] ∧ GI b n i pl g a ∧ a ≤ g.length ∧ Same H H' ∧ H' r = some (.lst (nV g))) (mu4 9) ⟨[i], 0, none, none, rfl, gi_init hi, Nat.zero_le _, same_upd hr', upd_same⟩ ?_ ?_
    · rintro σ H' ⟨g, a, m, o, rfl, gi, ha, sm, hg⟩
      have gl := gi_len gi
      refine ⟨_, rfl, _, rfl, r, _, rfl, .inl (SqL.of hg), _, _, rfl, rfl, _, rfl, ite2 (fun c => ?_) (fun c => ?_)⟩
      · have c := of_decide_eq_true c
        rw [nV_len] at c
        have al : a < g.length := by omega
        obtain ⟨x, hx⟩ : ∃ x, g[a]? = some x := ⟨_, List.getElem?_eq_getElem al⟩
        have mx := gi.reach x (List.mem_of_getElem? hx)
        obtain ⟨u, hu1, hu2⟩ := (ea.same sm).at mx.1
        obtain ⟨u', hu1', hu2'⟩ := ea.at mx.1
        refine ⟨_, rfl, _, rfl, r, _, _, _, rfl, rfl, SqL.of hg, atI_nat (nV_at hx), _, rfl, _, rfl, p, _, _, _, rfl, rfl, SqL.of (ea.same sm).lst, atI_nat hu1, u, rfl, ⟨_, SqL.of hu2⟩, ?_⟩
        have eu : u = u' := by
          rw [hu1] at hu1'
          injection hu1' with e
          injection e
        refine for_list (xs := nV (rivals b x)) (fun j σ H2 => ∃ o, σ = [some (.ref p), some (.ref l), some (.int (i : Int)), some (.ref r), some (.int (a : Int)), some (.int (x : Int)), o] ∧ Same H H2 ∧ H2 r = some (.lst (nV (grow pl ((rivals b x).take j) g)))) ⟨o, rfl, sm, hg⟩ (fun j σ H2 _ ⟨_, _, s2, _⟩ => SqL.of (s2 _ _ (by rw [eu]; exact hu2'))) ?_ ?_
        · rintro j v σ H2 hv ⟨o', rfl, s2, hg2⟩
          have jl : j < (rivals b x).length := by
            have z := (List.getElem?_eq_some_iff.mp hv).1
            rw [nV_len] at z
            exact z
          obtain ⟨k, hk⟩ : ∃ k, (rivals b x)[j]? = some k := ⟨_, List.getElem?_eq_getElem jl⟩
          rw [nV_at hk] at hv
          cases hv
          have kl := (mem_rivals.mp (List.mem_of_getElem? hk)).1
          have gr := grown_row (away_pl pi) gi mx.2 j (by omega)
          have gl2 : (grow pl ((rivals b x).take j) g).length ≤ b.count := by
            have z := nodup_len (m := List.range b.count) gr.nodup fun y hy => List.mem_range.mpr (gr.reach y hy).1
            rw [List.length_range] at z
            exact z
          have e := grow_succ (pl := pl) (g := g) hk
          unfold grow1 at e
          refine ⟨_, rfl, _, rfl, l, _, _, _, rfl, rfl, SqL.of (s2 _ _ hl), atI_nat (bV_at (by rw [pi.len]; exact kl)), _, rfl, ?_⟩
          cases c1 : pl.getD k false with
          | true =>
            refine iteF (iteF ⟨_, rfl, s2, ?_⟩)
            rw [c1] at e
            rw [e]
            exact hg2
          | false =>
            refine iteT ⟨_, rfl, _, rfl, r, _, rfl, .inl (SqL.of hg2), rfl, flat_nV _, _, rfl, ?_⟩
            rw [in_nV]
            cases c2 : (grow pl ((rivals b x).take j) g).contains k with
            | true =>
              refine iteF ⟨_, rfl, s2, ?_⟩
              rw [c1, c2] at e
              rw [e]
              exact hg2
            | false =>
              refine iteT ⟨_, rfl, .inl ⟨rfl, _, SqL.of hg2⟩, _, rfl, r, _, _, rfl, rfl, hg2, (by rw [nV_len]; exact small1000 (by omega)), _, rfl, same_at hr' s2, ?_⟩
              rw [c1, c2] at e
              rw [e, upd_same]
              show some (HO.lst (nV _ ++ [V.int (k : Int)])) = some (HO.lst (nV (_ ++ [k])))
              unfold nV
              rw [List.map_append]
              rfl
        · rintro σ H2 ⟨o', rfl, s2, hg2⟩
          rw [nV_len, List.take_length] at hg2
          have g2 := gi_turn (away_pl pi) gi hx
          have gl2 := gi_len g2
          have pre : g.length ≤ (grow pl (rivals b x) g).length := by
            have z := (grown_row (away_pl pi) gi mx.2 _ (Nat.le_refl _)).pre
            rw [List.take_length] at z
            obtain ⟨t, et⟩ := z
            rw [et, List.length_append]
            omega
          refine ⟨_, rfl, _, _, rfl, rfl, ⟨_, a + 1, _, _, rfl, g2, by omega, s2, hg2⟩, ?_⟩
          show 9 - ((a : Int) + 1).toNat < 9 - ((a : Int)).toNat
          omega
      · have c : ¬ ((a : Int) < ((nV g).length : Int)) := fun z => c (decide_eq_true z)
        rw [nV_len] at c
        exact ⟨_, rfl, q H' g r sm hr' hg gi.nodup (gi_done pi hi hpi gi (by omega)) (by omega)⟩
    · rintro σ H' Q1 Q2 m ⟨v, e1, u, e2, p', ys, e3, sq, i', j', e4, e5, k', e6, z⟩
      exact ⟨v, e1, u, e2, p', ys, e3, sq, i', j', e4, e5, k', e6, m _ _ z⟩

theorem place_snoc (g : List Nat) (k : Nat) {x : Nat} (h : g[k]? = some x) (pl : List Bool) : place (g.take (k + 1)) pl = (place (g.take k) pl).set x true := by
  have tk : g.take (k + 1) = g.take k ++ [x] := by
    rw [List.take_add_one, h]
    rfl
  unfold place
  rw [tk, List.foldl_append]
  rfl
theorem ok_OddGroups (T : Txt K mg ad) : FnOk P w K mg base CX0 2 ad.fOddGroups ad.fdOddGroups ["rivals", "away"] spOdd := by
  refine T.FOddGroups.ok scOddGroups (fun vs H Q E h => ?_) (fun cdv A outer s H vs Q E hr h => ?_)
  · obtain ⟨p, b, qs, n, rfl, _⟩ := h
    rfl
  · obtain ⟨p, b, qs, n, rfl, ea, h8, q⟩ := h
    refine ⟨_, (pss_cons (ps_setLc (i := 2) (own := [("one", 3)]) rfl scOddGroups.nd rfl rfl (sw_true rfl rfl rfl rfl) (pi_range1 rfl T.nRange (pa_cons (pe_callB call_len_seq rfl T.nLen PySem.boot_len (pa_cons (pv 0) pa_nil)) pa_nil)) (blkOk_by (N := ["rivals", "away", "placed", "one", "odd", "group", "member"]) (sc := defScope sOddGroups) (by decide +kernel)) (fun _ _ _ _ _ => (pg_name (i := 3) scOddGroups.nd rfl (by first | exact Or.inl rfl | exact Or.inr rfl))) (fun _ _ _ _ _ => pts_nil) (fun _ _ _ _ _ => (pe_call (ok_IsAway T) hr rfl T.gIsAway T.FIsAway.kp T.bIsAway .nil pass0 (pa_cons (pv 1) (pa_cons (pv 3) pa_nil)))))
      (pss_cons (ps_set (i := 4) scOddGroups.nd rfl (by first | exact Or.inl rfl | exact Or.inr rfl) pe_int)
      (pss_cons (ps_for PassesOwn.never rfl (pi_range1 rfl T.nRange (pa_cons (pe_callB call_len_seq rfl T.nLen PySem.boot_len (pa_cons (pv 0) pa_nil)) pa_nil)) (pg_name (i := 3) scOddGroups.nd rfl (by first | exact Or.inl rfl | exact Or.inr rfl)) (pss_one (ps_if (pt_not (pt_val (pe_ix ix_list (pv 2) (pv 3) (fun _ _ => rfl)))) (pss_cons (ps_set (i := 5) scOddGroups.nd rfl (by first | exact Or.inl rfl | exact Or.inr rfl) (pe_call (ok_GroupFrom T) hr rfl T.gGroupFrom T.FGroupFrom.kp T.bGroupFrom .nil pass0 (pa_cons (pv 0) (pa_cons (pv 2) (pa_cons (pv 3) pa_nil)))))
      (pss_cons (ps_for PassesOwn.never rfl (pi_list (pv 5)) (pg_name (i := 6) scOddGroups.nd rfl (by first | exact Or.inl rfl | exact Or.inr rfl)) (pss_one (ps_asg pe_bl (pg_sub (pv 2) (pv 6) set_list))))
      (pss_one (ps_set (i := 4) scOddGroups.nd rfl (by first | exact Or.inl rfl | exact Or.inr rfl) (pe_op op_add (pv 4) (pe_op op_mod (pe_callB call_len_seq rfl T.nLen PySem.boot_len (pa_cons (pv 5) pa_nil)) pe_int)))))) pss_nil)))
      (pss_one (ps_ret (pv 4)))))), ?_⟩
    have ln : (qs.map V.ref).length = b.count := by rw [List.length_map]; exact ea.len
    have en : (((qs.map V.ref).length : Nat) : Int).toNat = b.count := by rw [ln]; rfl
    refine ⟨_, rfl, p, _, rfl, .inl (SqL.of ea.lst), _, rfl, by omega, by rw [ln]; omega, fun D hD => ?_⟩
    rw [en]
    refine lc_gen (n := b.count) (fun _ => true) (fun k => V.bl (n.testBit k)) (by omega) hD go_range.1 go_range.2 (fun k x H1 H2 Qy Qn hk s1 y yes no => ?_) (fun H1 s1 e => ?_)
    · obtain ⟨rfl, rfl⟩ := y
      rw [Int.zero_add]
      exact ⟨rfl, id ⟨_, rfl, _, rfl, n, k, rfl, yes rfl _ (Same.refl _)⟩⟩
    · have e' : H1 D = some (.lst (bV ((List.range b.count).map fun k => n.testBit k))) := by
        rw [e, lc_all]
        unfold bV
        rw [List.map_map]
        rfl
      refine ⟨_, rfl, p, _, rfl, .inl (SqL.of (ea.same s1).lst), _, rfl, by omega, by rw [ln]; omega, ?_⟩
      rw [en]
      refine for_range (n := b.count) (fun j σ H2 => ∃ (pl : List Bool) (o3 o5 o6 : Option V), σ = [some (.ref p), some (.int (n : Int)), some (.ref D), o3, some (.int ((oddUpTo b n j : Nat) : Int)), o5, o6] ∧ Same H H2 ∧ H2 D = some (.lst (bV pl)) ∧ PI b n j pl)
        ⟨_, none, none, none, rfl, s1, e', pi_zero b n⟩ ?_ ?_
      · rintro j σ H2 hj ⟨pl, o3, o5, o6, rfl, s2, e2, pi⟩
        rw [Int.zero_add]
        refine ⟨_, rfl, _, rfl, D, _, _, _, rfl, rfl, SqL.of e2, atI_nat (bV_at (by rw [pi.len]; exact hj)), _, rfl, ?_⟩
        cases c : pl.getD j false with
        | true =>
          have k := pi_skip pi hj c
          refine iteF ⟨pl, some (V.int (j : Int)), o5, o6, ?_, s2, e2, k.1⟩
          rw [oddUpTo_succ, k.2, Nat.add_zero]
          rfl
        | false =>
          refine iteT ⟨_, rfl, _, rfl, _, rfl, p, D, b, qs, n, j, pl, rfl, ea.same s2, h8, e2, pi, hj, c, fun H3 g r s3 hr3 e3 nd hg gl => ?_⟩
          have nr : r ≠ D := fun z => by rw [z, e2] at hr3; cases hr3
          have kk := pi_group pi hj c nd hg
          have s3' := s2.trans s3
          refine ⟨_, rfl, r, rfl, ⟨_, SqL.of e3⟩, ?_⟩
          refine for_list (xs := nV g) (fun k σ H4 => ∃ o6, σ = [some (.ref p), some (.int (n : Int)), some (.ref D), some (.int (j : Int)), some (.int ((oddUpTo b n j : Nat) : Int)), some (.ref r), o6] ∧ Same H H4 ∧ H4 r = some (.lst (nV g)) ∧ H4 D = some (.lst (bV (place (g.take k) pl))))
            ⟨o6, rfl, s3', e3, s3 _ _ e2⟩ (fun k σ H4 _ ⟨_, _, _, z, _⟩ => SqL.of z) ?_ ?_
          · rintro k v σ H4 hv ⟨o6', rfl, s4, e4, d4⟩
            have kl : k < g.length := by
              have z := (List.getElem?_eq_some_iff.mp hv).1
              rw [nV_len] at z
              exact z
            obtain ⟨x, hx⟩ : ∃ x, g[k]? = some x := ⟨_, List.getElem?_eq_getElem kl⟩
            rw [nV_at hx] at hv
            cases hv
            have ld := (lead_iff pi hj).mpr c
            have xl := (((hg x).mp (List.mem_of_getElem? hx)).lt hj ld.1).1
            refine ⟨_, rfl, _, rfl, D, _, _, x, rfl, rfl, d4, ixN_nat (by rw [bV_len, place_len, pi.len]; exact xl), _, rfl, same_at hD s4, ?_, ?_⟩
            · rw [upd_ne nr]
              exact e4
            · rw [upd_same, bV_set, place_snoc g k hx]
          · rintro σ H4 ⟨o6', rfl, s4, e4, d4⟩
            rw [nV_len, List.take_length] at d4
            refine ⟨_, rfl, _, rfl, r, _, rfl, .inl (SqL.of e4), _, _, rfl, rfl, (by show (0 : Int) < 2; decide), _, _, rfl, rfl, _, some (V.int (j : Int)), some (V.ref r), o6', ?_, s4, d4, kk.1⟩
            rw [oddUpTo_succ, kk.2, nV_len, Int.natCast_add, Int.natCast_emod]
            rfl
      · rintro σ H2 ⟨pl, o3, o5, o6, rfl, s2, e2, pi⟩
        refine ⟨_, rfl, ?_⟩
        rw [oddUpTo_all]
        exact q H2 s2

theorem ok_Why (T : Txt K mg ad) : FnOk P w K mg base CX0 5 ad.fWhy ad.fdWhy ["self"] (spPlain ad.CTournament .why) := by
  refine T.FWhy.ok scWhy (fun vs H Q E h => ?_) (fun cdv A outer s H vs Q E hr h => ?_)
  · obtain ⟨a, dx, ls, lw, ld, b, rfl, _⟩ := h
    rfl
  · obtain ⟨a, dx, ls, lw, ld, b, rfl, t, wf, q⟩ := h
    have hr2 := hr.mono (show 2 ≤ 4 by decide)
    refine ⟨_, (pss_cons (ps_set (i := 1) scWhy.nd rfl (by first | exact Or.inl rfl | exact Or.inr rfl) (pe_meth0 (pv 0) T.clTournament T.mRivalsOfEach (ok_RivalsOfEach T) hr T.bRivalsOfEach .nil pass0))
      (pss_cons (ps_set (i := 2) scWhy.nd rfl (by first | exact Or.inl rfl | exact Or.inr rfl) pe_int)
      (pss_cons (ps_set (i := 3) scWhy.nd rfl (by first | exact Or.inl rfl | exact Or.inr rfl) pe_int)
      (pss_cons (ps_for PassesOwn.never rfl (pi_range1 rfl T.nRange (pa_cons (pe_op op_shl pe_int (pe_callB call_len_seq rfl T.nLen PySem.boot_len (pa_cons (pv 1) pa_nil))) pa_nil)) (pg_name (i := 4) scWhy.nd rfl (by first | exact Or.inl rfl | exact Or.inr rfl)) (pss_cons (ps_set (i := 5) scWhy.nd rfl (by first | exact Or.inl rfl | exact Or.inr rfl) (pe_op op_sub (pe_call (ok_OddGroups T) hr2 rfl T.gOddGroups T.FOddGroups.kp T.bOddGroups .nil pass0 (pa_cons (pv 1) (pa_cons (pv 4) pa_nil))) (pe_call (ok_SizeOf T) hr2 rfl T.gSizeOf T.FSizeOf.kp T.bSizeOf .nil pass0 (pa_cons (pv 1) (pa_cons (pv 4) pa_nil)))))
      (pss_one (ps_if (pt_cmpR op_gt (pv 5) (pv 2) (nomark _)) (pss_cons (ps_set (i := 2) scWhy.nd rfl (by first | exact Or.inl rfl | exact Or.inr rfl) (pv 5))
      (pss_one (ps_set (i := 3) scWhy.nd rfl (by first | exact Or.inl rfl | exact Or.inr rfl) (pv 4)))) pss_nil))))
      (pss_one (ps_ret (pe_lst (pa_cons (pv 2) (pa_cons (pv 3) (pa_cons (pe_call (ok_OddGroups T) hr2 rfl T.gOddGroups T.FOddGroups.kp T.bOddGroups .nil pass0 (pa_cons (pv 1) (pa_cons (pv 3) pa_nil))) pa_nil)))))))))), ?_⟩
    have h8 := wf.few
    refine ⟨_, rfl, a, dx, _, rfl, t.obj, rfl, a, dx, ls, lw, ld, b, rfl, t, h8, fun H1 p qs s1 hp ea => ?_⟩
    have ln : (qs.map V.ref).length = b.count := by rw [List.length_map]; exact ea.len
    have en : ((1 : Int) * 2 ^ (((qs.map V.ref).length : Nat) : Int).toNat).toNat = 2 ^ b.count := by
      rw [ln, Int.one_mul, Int.toNat_natCast]
      exact Int.toNat_natCast (2 ^ b.count)
    have e2 : ((1 : Int) * 2 ^ (((qs.map V.ref).length : Nat) : Int).toNat) = ((2 ^ b.count : Nat) : Int) := by
      rw [ln, Int.one_mul, Int.toNat_natCast]
      rfl
    have p8 : 2 ^ b.count ≤ 2 ^ 8 := Nat.pow_le_pow_right (by decide) h8
    refine ⟨_, rfl, p, _, rfl, .inl (SqL.of ea.lst), _, _, rfl, rfl, ⟨by omega, by rw [ln]; omega, by decide⟩, _, rfl, by rw [e2]; omega, by rw [e2]; omega, ?_⟩
    rw [en]
    refine for_range (n := 2 ^ b.count) (fun n σ H2 => ∃ o4 o5, σ = [some (.ref a), some (.ref p), some (.int (((whyUpTo b n).1 : Nat) : Int)), some (.int (((whyUpTo b n).2 : Nat) : Int)), o4, o5] ∧ Same H1 H2) ⟨none, none, rfl, Same.refl _⟩ ?_ ?_
    · rintro n σ H2 hn ⟨o4, o5, rfl, s2⟩
      rw [Int.zero_add]
      refine ⟨_, rfl, _, rfl, p, b, qs, n, rfl, ea.same s2, h8, fun H3 s3 => ⟨_, rfl, _, rfl, p, b, qs, n, rfl, (ea.same s2).same s3, h8, fun H4 s4 => ⟨_, _, rfl, rfl, ?_⟩⟩⟩
      have s4' := (s2.trans s3).trans s4
      refine ⟨_, rfl, _, rfl, _, _, rfl, rfl, _, rfl, ite2 (fun c => ?_) (fun c => ?_)⟩
      · have c := of_decide_eq_true c
        have c' : (whyUpTo b n).1 < b.short n := by
          unfold Sj09.Basho.short
          omega
        have e : ((b.odds n : Nat) : Int) - ((b.size n : Nat) : Int) = ((b.short n : Nat) : Int) := by
          unfold Sj09.Basho.short at c' ⊢
          omega
        refine ⟨_, rfl, _, rfl, some (V.int (n : Int)), some (V.int (((b.odds n : Nat) : Int) - ((b.size n : Nat) : Int))), ?_, s4'⟩
        rw [whyUpTo_succ, if_pos c']
        show [some (V.ref a), some (V.ref p), some (V.int (((b.odds n : Nat) : Int) - ((b.size n : Nat) : Int))), some (V.int (n : Int)), some (V.int (n : Int)), some (V.int (((b.odds n : Nat) : Int) - ((b.size n : Nat) : Int)))] = _
        rw [e]
      · have c : ¬ (((whyUpTo b n).1 : Nat) : Int) < ((b.odds n : Nat) : Int) - ((b.size n : Nat) : Int) := fun z => c (decide_eq_true z)
        have c' : ¬ (whyUpTo b n).1 < b.short n := by
          unfold Sj09.Basho.short
          omega
        refine ⟨some (V.int (n : Int)), some (V.int (((b.odds n : Nat) : Int) - ((b.size n : Nat) : Int))), ?_, s4'⟩
        rw [whyUpTo_succ, if_neg c']
        rfl
    · rintro σ H2 ⟨o4, o5, rfl, s2⟩
      rw [whyUpTo_all]
      refine ⟨_, rfl, _, rfl, _, rfl, _, rfl, p, b, qs, _, rfl, ea.same s2, h8, fun H3 s3 => ⟨(by show 3 ≤ sizeLine; decide), fun r hr3 => ?_⟩⟩
      exact q.same t rfl ((s1.trans s2).trans s3) hr3 rfl
end
end Rb

namespace Rb
open PySem PySem.Spec PyProof.Rows L2
open PySem.W (Codec)
theorem getD_at {α : Type} {l : List α} {i : Nat} {z : α} (h : i < l.length) : l[i]? = some (l.getD i z) := by
  rw [List.getD_eq_getElem?_getD, List.getElem?_eq_getElem h]
  rfl
theorem LRows.lenN {H : Hp} {ds : List Addr} {R : List (List Nat)} (h : LRows H ds (R.map nV)) : (ds.map V.ref).length = R.length := by
  rw [List.length_map, h.len, List.length_map]
theorem LRows.get {H : Hp} {ds : List Addr} {R : List (List Nat)} (h : LRows H ds (R.map nV)) {m : Nat} (hm : m < R.length) : (ds.map V.ref)[m]? = some (V.ref (ds.getD m 0)) ∧ H (ds.getD m 0) = some (.lst (nV (R.getD m []))) := by
  have hd : m < ds.length := by rw [h.len, List.length_map]; exact hm
  refine ⟨by rw [List.getElem?_map, getD_at (z := 0) hd]; rfl, h.row m _ _ (getD_at hd) ?_⟩
  rw [List.getElem?_map, getD_at (z := []) hm]
  rfl
theorem LRows.pickN {H : Hp} {ds : List Addr} {R : List (List Nat)} (h : LRows H ds (R.map nV)) (p : List Nat → Bool) : LRows H (((List.range R.length).filter fun m => p (R.getD m [])).map fun m => ds.getD m 0) ((R.filter p).map nV) := by
  have e : R.filter p = ((List.range R.length).filter fun m => p (R.getD m [])).map fun m => R.getD m [] := by
    refine (pick_filter p R _ _ fun i x hx => ?_).symm
    have z : R.getD i [] = x := by rw [List.getD_eq_getElem?_getD, hx]; rfl
    rw [z]
    exact ⟨rfl, rfl⟩
  rw [e, List.map_map]
  refine ⟨by rw [List.length_map, List.length_map], fun i a r ha hr => ?_⟩
  rw [List.getElem?_map] at ha hr
  cases z : ((List.range R.length).filter fun m => p (R.getD m []))[i]? with
  | none => rw [z] at ha; cases ha
  | some j =>
    rw [z] at ha hr
    have hj : j < R.length := List.mem_range.mp (List.mem_filter.mp (List.mem_of_getElem? z)).1
    cases ha
    cases hr
    exact (h.get hj).2
def spDays : Sp := fun vs H Q _ => ∃ (p : Addr) (b : Sj09.Basho) (qs : List Addr), vs = [.ref p] ∧ EachAt H p b qs ∧ b.count ≤ 8 ∧
  ∀ H' L ds, Same H H' → H' L = some (.lst (ds.map V.ref)) → LRows H' ds ((dayUpTo b b.count).map nV) → Q (.ref L) H'
def spCheck (C : Addr) : Sp := fun vs H Q _ => ∃ (a dx ls lw ld l : Addr) (b : Sj09.Basho) (d : List Nat), vs = [.ref a, .ref l] ∧ TourAt C H a b dx ls lw ld ∧ WF b ∧ H l = some (.lst (nV d)) ∧ d.length ≤ 10 ∧ Done C H a b [a, ls, lw, ld] (.check d) Q
section
variable {P : Program} {w : World} {K : PySem.W.Frag} {mg : Str → Option Value} {base : Heap} {ad : Adr}

theorem ok_DaysThatCanBe (T : Txt K mg ad) : FnOk P w K mg base CX0 2 ad.fDaysThatCanBe ad.fdDaysThatCanBe ["rivals"] spDays := by
  refine T.FDaysThatCanBe.ok scDaysThatCanBe (fun vs H Q E h => ?_) (fun cdv A outer s H vs Q E hr h => ?_)
  · obtain ⟨p, b, qs, rfl, _⟩ := h
    rfl
  · obtain ⟨p, b, qs, rfl, ea, h8, q⟩ := h
    refine ⟨_, (pss_cons (ps_set (i := 1) scDaysThatCanBe.nd rfl (by first | exact Or.inl rfl | exact Or.inr rfl) (pe_lst (pa_cons (pe_listRange rfl rfl T.nList rfl T.nRange (pa_cons (pe_callB call_len_seq rfl T.nLen PySem.boot_len (pa_cons (pv 0) pa_nil)) pa_nil)) pa_nil)))
      (pss_cons (ps_for PassesOwn.never rfl (pi_range1 rfl T.nRange (pa_cons (pe_callB call_len_seq rfl T.nLen PySem.boot_len (pa_cons (pv 0) pa_nil)) pa_nil)) (pg_name (i := 2) scDaysThatCanBe.nd rfl (by first | exact Or.inl rfl | exact Or.inr rfl)) (pss_one (ps_for PassesOwn.never rfl (pi_list (pe_ix ix_list (pv 0) (pv 2) (fun _ _ => rfl))) (pg_name (i := 3) scDaysThatCanBe.nd rfl (by first | exact Or.inl rfl | exact Or.inr rfl)) (pss_one (ps_if (pt_cmpR op_lt (pv 2) (pv 3) (nomark _)) (pss_cons (ps_setLc (i := 4) (own := [("day", 5)]) rfl scDaysThatCanBe.nd rfl rfl (sw_true rfl rfl rfl rfl) (pi_list (pv 1)) (blkOk_by (N := ["rivals", "days", "one", "other", "free", "day"]) (sc := defScope sDaysThatCanBe) (by decide +kernel)) (fun _ _ _ _ _ => (pg_name (i := 5) scDaysThatCanBe.nd rfl (by first | exact Or.inl rfl | exact Or.inr rfl))) (fun _ _ _ _ _ => (pts_one (pw_and (pt_cmpR op_eq (pe_ix (ix_listK (K := K) rfl) (pv 5) (pv 2) (fun _ _ => rfl)) (pv 2) (nomark _)) (pw_and1 (pt_cmpR op_eq (pe_ix (ix_listK (K := K) rfl) (pv 5) (pv 3) (fun _ _ => rfl)) (pv 3) (nomark _)))).pt)) (fun _ _ _ _ _ => (pv 5)))
      (pss_one (ps_set (i := 1) scDaysThatCanBe.nd rfl (by first | exact Or.inl rfl | exact Or.inr rfl) (pe_op op_cat (pv 1) (pe_lc (own := [("day", 5)]) rfl scDaysThatCanBe.nd (pi_list (pv 4)) (blkOk_by (N := ["rivals", "days", "one", "other", "free", "day"]) (sc := defScope sDaysThatCanBe) (by decide +kernel)) (fun _ _ _ _ _ => (pg_name (i := 5) scDaysThatCanBe.nd rfl (by first | exact Or.inl rfl | exact Or.inr rfl))) (fun _ _ _ _ _ => pts_nil) (fun _ _ _ _ _ => (pe_call (ok_WithBout T) hr rfl T.gWithBout T.FWithBout.kp T.bWithBout .nil pass0 (pa_cons (pv 5) (pa_cons (pv 2) (pa_cons (pv 3) pa_nil)))))))))) pss_nil)))))
      (pss_one (ps_ret (pv 1))))), ?_⟩
    have ln : (qs.map V.ref).length = b.count := by rw [List.length_map]; exact ea.len
    have en : (((qs.map V.ref).length : Nat) : Int).toNat = b.count := by rw [ln]; rfl
    refine ⟨_, rfl, p, _, rfl, .inl (SqL.of ea.lst), _, rfl, by rw [ln]; omega, fun d0 hd0 => ⟨(by show 1 ≤ sizeLine; decide), fun L0 hL0 => ?_⟩⟩
    rw [ln] at hL0 ⊢
    have s0 : Same H (upd (upd H d0 (.lst (nV (List.range b.count)))) L0 (.lst [V.ref d0])) := (same_upd hd0).trans (same_upd hL0)
    have n0 : d0 ≠ L0 := ne_of_none upd_same hL0
    refine ⟨_, rfl, p, _, rfl, .inl (SqL.of (ea.same s0).lst), _, rfl, by omega, by rw [ln]; omega, ?_⟩
    rw [en]
    refine for_range (n := b.count) (fun i σ H1 => ∃ (L : Addr) (ds : List Addr) (o2 o3 o4 o5 : Option V), σ = [some (.ref p), some (.ref L), o2, o3, o4, o5] ∧ Same H H1 ∧ H1 L = some (.lst (ds.map V.ref)) ∧ LRows H1 ds ((dayUpTo b i).map nV))
      ⟨L0, [d0], none, none, none, none, rfl, s0, upd_same, ?_⟩ ?_ ?_
    · exact LRows.snoc LRows.nil (by rw [upd_ne n0]; exact upd_same)
    · rintro i σ H1 hi ⟨L, ds, o2, o3, o4, o5, rfl, s1, e1, r1⟩
      rw [Int.zero_add]
      obtain ⟨u, hu1, hu2⟩ := ea.at hi
      refine ⟨_, rfl, _, rfl, p, _, _, _, rfl, rfl, SqL.of (ea.same s1).lst, atI_nat hu1, u, rfl, ⟨_, SqL.of (s1 _ _ hu2)⟩, ?_⟩
      refine for_list (xs := nV (rivals b i)) (fun j σ H2 => ∃ (L : Addr) (ds : List Addr) (o3 o4 o5 : Option V), σ = [some (.ref p), some (.ref L), some (.int (i : Int)), o3, o4, o5] ∧ Same H H2 ∧ H2 L = some (.lst (ds.map V.ref)) ∧ LRows H2 ds ((dayRow b i (dayUpTo b i) j).map nV))
        ⟨L, ds, o3, o4, o5, rfl, s1, e1, r1⟩ (fun j σ H2 _ ⟨_, _, _, _, _, _, s2, _⟩ => SqL.of (s2 _ _ hu2)) ?_ ?_
      · rintro j v σ H2 hv ⟨L, ds, o3, o4, o5, rfl, s2, e2, r2⟩
        have jl : j < (rivals b i).length := by
          have z := (List.getElem?_eq_some_iff.mp hv).1
          rw [nV_len] at z
          exact z
        obtain ⟨k, hk⟩ : ∃ k, (rivals b i)[j]? = some k := ⟨_, List.getElem?_eq_getElem jl⟩
        rw [nV_at hk] at hv
        cases hv
        have kl := (mem_rivals.mp (List.mem_of_getElem? hk)).1
        have di := di_row hi (di_upTo b i (by omega)) j (by omega)
        have dn := dayRow_succ (b := b) (L := dayUpTo b i) hk
        unfold dayStep at dn
        generalize hR : dayRow b i (dayUpTo b i) j = R at r2 di dn
        have Rl := di_len di h8
        have ldn := r2.lenN
        refine ⟨_, rfl, _, rfl, _, _, rfl, rfl, _, rfl, ite2 (fun c => ?_) (fun c => ?_)⟩
        · have c := of_decide_eq_true c
          have c : i < k := by omega
          rw [if_pos c] at dn
          refine ⟨_, rfl, L, rfl, ⟨_, SqL.of e2⟩, fun D hD => ?_⟩
          have gl := go_list (K := K) (SqL.of e2)
          rw [ldn] at gl
          refine lc_gen (n := R.length) (fun m => decide ((R.getD m []).getD i 0 = i) && decide ((R.getD m []).getD k 0 = k)) (fun m => V.ref (ds.getD m 0)) (by omega) hD gl.1 gl.2 (fun m x H3 H4 Qy Qn hm s3 y yes no => ?_) (fun H3 s3 e3 => ?_)
          · obtain ⟨rfl, y⟩ := y
            have hx := y _ (s3.seq (SqL.of e2))
            rw [(r2.get hm).1] at hx
            cases hx
            have ho := s3 _ _ (r2.get hm).2
            have vl := (di_valid di (List.mem_of_getElem? (getD_at (z := []) hm))).len
            refine ⟨rfl, _, rfl, _, rfl, _, _, _, _, rfl, rfl, SqL.of ho, atI_nat (nV_getD (by rw [vl]; exact hi)), _, rfl, rfl, _, rfl, ite2 (fun c1 => ?_) (fun c1 => ?_)⟩
            · have c1 := of_decide_eq_true c1
              have c1 : (R.getD m []).getD i 0 = i := by
                injection c1 with c1
                omega
              refine ⟨_, rfl, _, rfl, _, _, _, _, rfl, rfl, SqL.of ho, atI_nat (nV_getD (by rw [vl]; exact kl)), _, rfl, rfl, _, rfl, ite2 (fun c2 => ?_) (fun c2 => ?_)⟩
              · have c2 := of_decide_eq_true c2
                have c2 : (R.getD m []).getD k 0 = k := by
                  injection c2 with c2
                  omega
                exact ⟨_, rfl, yes (by rw [decide_eq_true c1, decide_eq_true c2]; rfl) _ (Same.refl _)⟩
              · have c2 : ¬ (R.getD m []).getD k 0 = k := fun z => c2 (decide_eq_true (by rw [z]))
                exact no (by rw [decide_eq_false c2, Bool.and_false]) _ (Same.refl _)
            · have c1 : ¬ (R.getD m []).getD i 0 = i := fun z => c1 (decide_eq_true (by rw [z]))
              exact iteF (no (by rw [decide_eq_false c1, Bool.false_and]) _ (Same.refl _))
          · have r3 := (r2.same s3).pickN fun d => decide (d.getD i 0 = i) && decide (d.getD k 0 = k)
            have e3' : H3 D = some (.lst ((((List.range R.length).filter fun m => decide ((R.getD m []).getD i 0 = i) && decide ((R.getD m []).getD k 0 = k)).map fun m => ds.getD m 0).map V.ref)) := by
              rw [e3, List.map_map]
              rfl
            generalize hF : (((List.range R.length).filter fun m => decide ((R.getD m []).getD i 0 = i) && decide ((R.getD m []).getD k 0 = k)).map fun m => ds.getD m 0) = fs at r3 e3'
            have r3 : LRows H3 fs ((freeOf R i k).map nV) := r3
            have ldn3 := r3.lenN
            have Fl : (freeOf R i k).length ≤ R.length := List.length_filter_le _ _
            refine ⟨_, rfl, _, rfl, D, rfl, ⟨_, SqL.of e3'⟩, fun D2 hD2 => ?_⟩
            have gl3 := go_list (K := K) (SqL.of e3')
            rw [ldn3] at gl3
            refine lc_new (n := (freeOf R i k).length) (fun m => nV (withBout ((freeOf R i k).getD m []) i k)) (by omega) hD2 gl3.1 gl3.2 (fun m x H4 H5 Qy Qn hm s4 y yes => ?_) (fun H4 ws s4 e4 r4 nq => ?_)
            · obtain ⟨rfl, y⟩ := y
              have hx := y _ (s4.seq (SqL.of e3'))
              rw [(r3.get hm).1] at hx
              cases hx
              have ho := s4 _ _ (r3.get hm).2
              have vl := (di_valid di (mem_free.mp (List.mem_of_getElem? (getD_at (z := []) hm))).1).len
              exact ⟨rfl, id ⟨_, rfl, _, rfl, _, rfl, _, _, i, k, rfl, SqL.of ho, by rw [vl]; exact hi, by rw [vl]; exact kl, fun H' p' s' hp' e' => yes H' p' s' hp' e'⟩⟩
            · have r4' : LRows H4 ws (((freeOf R i k).map fun d => withBout d i k).map nV) := by
                rw [List.map_map]
                have z := range_pick (freeOf R i k) [] fun d => nV (withBout d i k)
                rw [z] at r4
                exact r4
              refine ⟨L, D2, _, _, rfl, rfl, s4 _ _ (s3 _ _ e2), e4, ?_, fun L2 hL2 => ?_⟩
              · rw [ldn, List.length_map, r4'.len, List.length_map, List.length_map]
                exact Nat.le_trans (by omega : _ ≤ 2000) (by decide)
              · have s5 : Same H4 (upd H4 L2 (.lst (ds.map V.ref ++ ws.map V.ref))) := same_upd hL2
                refine ⟨L2, ds ++ ws, _, _, _, rfl, ((s2.trans s3).trans s4).trans s5, ?_, ?_⟩
                · rw [upd_same, List.map_append]
                · rw [dn, List.map_append]
                  exact (((r2.same s3).same s4).same s5).append (r4'.same s5)
        · have c : ¬ i < k := fun z => c (decide_eq_true (by omega))
          rw [if_neg c] at dn
          refine ⟨L, ds, _, _, _, rfl, s2, e2, ?_⟩
          rw [dn]
          exact r2
      · rintro σ H2 ⟨L, ds, o3, o4, o5, rfl, s2, e2, r2⟩
        rw [nV_len] at r2
        exact ⟨L, ds, _, _, _, _, rfl, s2, e2, r2⟩
    · rintro σ H1 ⟨L, ds, o2, o3, o4, o5, rfl, s1, e1, r1⟩
      exact ⟨_, rfl, q H1 L ds s1 e1 r1⟩

theorem find_range {n i : Nat} {p : Nat → Bool} (hi : i < n) (hp : p i = true) (hq : ∀ j, j < i → p j = false) : (List.range n).find? p = some i := by
  rw [List.find?_range_eq_some]
  refine ⟨hp, List.mem_range.mpr hi, fun j hj => ?_⟩
  rw [hq j hj]
  rfl
theorem find_none {n : Nat} {p : Nat → Bool} (hq : ∀ j, j < n → p j = false) : (List.range n).find? p = none := by
  rw [List.find?_eq_none]
  intro j hj
  rw [hq j (List.mem_range.mp hj)]
  exact Bool.false_ne_true
theorem check_told {b : Sj09.Basho} {d : List Nat} (h : b.told d = false) : Sj09.step b (.check d) = (b, Sj09.ok (-1)) := if_pos h
theorem check_step {b : Sj09.Basho} {d : List Nat} (h : b.told d = true) : Sj09.step b (.check d) = (b, match b.odd_ d with
    | some i => ⟨-6, Sj09.ints [i]⟩
    | none => match b.bad d with
      | some i => ⟨-7, Sj09.ints [i]⟩
      | none => ⟨((b.bouts d : Nat) : Int), Sj09.ints [b.cost d]⟩) := if_neg (by rw [h]; decide)
theorem told_iff {b : Sj09.Basho} {d : List Nat} : b.told d = true ↔ d.length = b.count ∧ ∀ x ∈ d, x < b.count := by
  unfold Sj09.Basho.told
  rw [Bool.and_eq_true, beq_iff_eq, List.all_eq_true]
  constructor
  · rintro ⟨h1, h2⟩
    exact ⟨h1, fun x hx => of_decide_eq_true (h2 x hx)⟩
  · rintro ⟨h1, h2⟩
    exact ⟨h1, fun x hx => decide_eq_true (h2 x hx)⟩
theorem ok_Check (T : Txt K mg ad) : FnOk P w K mg base CX0 3 ad.fCheck ad.fdCheck ["self", "day"] (spCheck ad.CTournament) := by
  refine T.FCheck.ok scCheck (fun vs H Q E h => ?_) (fun cdv A outer s H vs Q E hr h => ?_)
  · obtain ⟨a, dx, ls, lw, ld, l, b, d, rfl, _⟩ := h
    rfl
  · obtain ⟨a, dx, ls, lw, ld, l, b, d, rfl, t, wf, hl, hd, q⟩ := h
    have hr1 := hr.mono (show 1 ≤ 2 by decide)
    refine ⟨_, (pss_cons (ps_if (pw_or (pt_cmpR op_ne (pe_callB call_len_seq (by rfl) T.nLen PySem.boot_len (pa_cons (pv 1) pa_nil)) (pe_callB call_len_seq (by rfl) T.nLen PySem.boot_len (pa_cons (pe_fld (pv 0) rfl) pa_nil)) (nomark _)) (pw_or1 (pt_not (pt_val (pe_callB (cr_all rfl) (by rfl) T.nAll boot_all (pa_cons (pe_lc (own := [("other", 2)]) rfl scCheck.nd (pi_list (pv 1)) (blkOk_by (N := ["self", "day", "other", "one"]) (sc := defScope sCheck) (by decide +kernel)) (fun _ _ _ _ _ => (pg_name (i := 2) scCheck.nd rfl (by first | exact Or.inl rfl | exact Or.inr rfl))) (fun _ _ _ _ _ => pts_nil) (fun _ _ _ _ _ => (pe_meth (pv 0) T.clTournament T.mIsThere (ok_IsThere T) hr1 T.bIsThere .nil pass0 (pa_cons (pv 2) pa_nil)))) pa_nil)))))).pt (pss_one (ps_ret (pe_lst (pa_cons (pe_glob (v := .int (-1)) (by rfl) T.kOutOfRange ⟨_, rfl⟩) pa_nil)))) pss_nil)
      (pss_cons (ps_for PassesOwn.never rfl (pi_enum rfl T.nEnumerate (pa_cons (pv 1) pa_nil)) (pg_pair (K := K) (i := 3) (j := 2) rfl rfl scCheck.nd rfl rfl (by first | exact Or.inl rfl | exact Or.inr rfl) (by first | exact Or.inl rfl | exact Or.inr rfl)) (pss_one (ps_if (pt_cmpR op_ne (pe_ix ix_list (pv 1) (pv 2) (fun _ _ => rfl)) (pv 3) (nomark _)) (pss_one (ps_ret (pe_lst (pa_cons (pe_glob (v := .int (-6)) (by rfl) T.kNotMetBack ⟨_, rfl⟩) (pa_cons (pv 3) pa_nil))))) pss_nil)))
      (pss_cons (ps_for PassesOwn.never rfl (pi_enum rfl T.nEnumerate (pa_cons (pv 1) pa_nil)) (pg_pair (K := K) (i := 3) (j := 2) rfl rfl scCheck.nd rfl rfl (by first | exact Or.inl rfl | exact Or.inr rfl) (by first | exact Or.inl rfl | exact Or.inr rfl)) (pss_one (ps_if (pw_and (pt_cmpR op_ne (pv 2) (pv 3) (nomark _)) (pw_and1 (pt_not (pt_val (pe_meth (pv 0) T.clTournament T.mMayMeet (ok_MayMeet T) hr T.bMayMeet .nil pass0 (pa_cons (pv 3) (pa_cons (pv 2) pa_nil))))))).pt (pss_one (ps_ret (pe_lst (pa_cons (pe_glob (v := .int (-7)) (by rfl) T.kBoutMayNotBe ⟨_, rfl⟩) (pa_cons (pv 3) pa_nil))))) pss_nil)))
      (pss_one (ps_ret (pe_lst (pa_cons (pe_callB call_len_seq (by rfl) T.nLen PySem.boot_len (pa_cons (pe_call (ok_FirstsOfBouts T) hr1 rfl T.gFirstsOfBouts T.FFirstsOfBouts.kp T.bFirstsOfBouts .nil pass0 (pa_cons (pv 1) pa_nil)) pa_nil)) (pa_cons (pe_meth (pv 0) T.clTournament T.mOff (ok_Off T) hr T.bOff .nil pass0 (pa_cons (pv 1) pa_nil)) pa_nil)))))))), ?_⟩
    have refuse : b.told d = false → ∀ H1 r, Same H H1 → H1 r = none → Q (.ref r) (upd H1 r (.lst [.int (-1)])) := fun ht H1 r s1 hr' => by
      have e := check_told ht
      exact q.same t (by rw [e]) s1 hr' (ans_ok e)
    have sl := SqL.of (K := K) hl
    refine ⟨_, rfl, l, _, rfl, .inl sl, _, rfl, a, ad.CTournament, dx, _, _, rfl, t.obj, T.clTournament, T.aStables, tf_stables, ls, _, rfl, .inl (SqL.of t.st), rfl, _, rfl, ite2 (fun c => ?_) (fun c => ?_)⟩
    · refine iteT ⟨(by show 1 ≤ sizeLine; decide), fun r hr' => refuse ?_ H r (Same.refl H) hr'⟩
      cases z : b.told d with
      | false => rfl
      | true =>
        have z := told_iff.mp z
        rw [nV_len, sVs_len, z.1] at c
        simp at c
    have dl : d.length = b.count := by
      rw [nV_len, sVs_len] at c
      by_cases z : d.length = b.count
      · exact z
      · exfalso
        apply c
        have : ¬ (V.int (d.length : Int) = V.int (b.count : Int)) := fun y => z (by injection y with y; omega)
        simp [this]
    refine ⟨_, rfl, l, rfl, ⟨_, sl⟩, fun D hD => ?_⟩
    refine lc_gen (n := (nV d).length) (fun _ => true) (fun i => V.bl (decide (d.getD i 0 < b.count))) (by rw [nV_len]; omega) hD (go_list sl).1 (go_list sl).2 (fun i x H1 H2 Qy Qn hi s1 y yes no => ?_) (fun H1 s1 e1 => ?_)
    · obtain ⟨rfl, y⟩ := y
      have hx := y _ (s1.seq sl)
      rw [nV_len] at hi
      rw [nV_getD hi] at hx
      cases hx
      have t1 := t.same s1
      exact ⟨rfl, id ⟨_, rfl, a, dx, _, rfl, t1.obj, rfl, _, rfl, a, dx, ls, lw, ld, b, _, rfl, t1, yes rfl _ (Same.refl _)⟩⟩
    · refine ⟨D, d.map fun x => decide (x < b.count), rfl, SqL.of ?_, _, rfl, ?_⟩
      · rw [e1, lc_all, nV_len, range_pick d 0 fun x => V.bl (decide (x < b.count)), List.map_map]
        rfl
      cases ct : (d.map fun x => decide (x < b.count)).all id with
      | false =>
        refine iteT ⟨(by show 1 ≤ sizeLine; decide), fun r hr' => refuse ?_ H1 r s1 hr'⟩
        cases z : b.told d with
        | false => rfl
        | true =>
          have z := told_iff.mp z
          have y : (d.map fun x => decide (x < b.count)).all id = true := by
            rw [List.all_eq_true]
            intro v hv
            obtain ⟨x, hx, rfl⟩ := List.mem_map.mp hv
            exact decide_eq_true (z.2 x hx)
          rw [y] at ct
          cases ct
      | true =>
        refine iteF ?_
        have lt : ∀ x ∈ d, x < b.count := fun x hx => by
          rw [List.all_eq_true] at ct
          exact of_decide_eq_true (ct _ (List.mem_map.mpr ⟨x, hx, rfl⟩))
        have lti : ∀ i, i < b.count → d.getD i 0 < b.count := fun i hi => lt _ (getD_mem (by rw [dl]; exact hi))
        have st := check_step (told_iff.mpr ⟨dl, lt⟩)
        refine ⟨_, rfl, l, _, rfl, s1.seq sl, ?_⟩
        refine for_enum (xs := nV d) (fun i σ H2 => ∃ o2 o3, σ = [some (.ref a), some (.ref l), o2, o3] ∧ Same H H2 ∧ ∀ j, j < i → d.getD (d.getD j 0) 0 = j) ⟨none, none, rfl, s1, fun j hj => absurd hj (Nat.not_lt_zero _)⟩ (fun i σ H2 _ ⟨_, _, _, s2, _⟩ => s2.seq sl) ?_ ?_
        · rintro i x σ H2 u hx ⟨o2, o3, rfl, s2, hj⟩ hu
          have hi : i < d.length := by
            have z := (List.getElem?_eq_some_iff.mp hx).1
            rw [nV_len] at z
            exact z
          rw [nV_getD hi] at hx
          cases hx
          rw [dl] at hi
          have su := s2.trans (same_upd (o := .tup [.int (i : Nat), V.int ((d.getD i 0 : Nat) : Int)]) hu)
          refine ⟨u, _, rfl, SqT.of upd_same, rfl, _, _, rfl, _, _, rfl, rfl, ?_⟩
          refine ⟨_, rfl, _, rfl, l, _, _, _, rfl, rfl, su.seq sl, atI_nat (nV_getD (by rw [dl]; exact lti i hi)), _, rfl, rfl, _, rfl, ?_⟩
          by_cases c1 : d.getD (d.getD i 0) 0 = i
          · rw [c1]
            refine iteNS rfl ⟨_, _, rfl, su, fun j hj' => ?_⟩
            by_cases e : j = i
            · rw [e]; exact c1
            · exact hj j (by omega)
          · have e : Sj09.step b (.check d) = (b, ⟨-6, Sj09.ints [i]⟩) := by
              have o : b.odd_ d = some i := find_range hi (bne_iff_ne.mpr c1) fun j hj' => by rw [hj j hj', bne_self_eq_false]
              rw [st, o]
            have ne : ¬ (V.int ((d.getD (d.getD i 0) 0 : Nat) : Int) = V.int (i : Int)) := fun z => c1 (by injection z with z; omega)
            rw [decide_eq_false ne]
            refine iteT ⟨_, rfl, (by show 2 ≤ sizeLine; decide), fun r hr' => ?_⟩
            refine q.same t (by rw [e]) su hr' ?_
            unfold ans1
            rw [e]
            rfl
        · rintro σ H2 ⟨o2, o3, rfl, s2, hj⟩
          rw [nV_len, dl] at hj
          have on : b.odd_ d = none := find_none fun j hj' => by rw [hj j hj', bne_self_eq_false]
          rw [on] at st
          refine ⟨_, rfl, l, _, rfl, s2.seq sl, ?_⟩
          refine for_enum (xs := nV d) (fun i σ H2 => ∃ o2 o3, σ = [some (.ref a), some (.ref l), o2, o3] ∧ Same H H2 ∧ ∀ j, j < i → (d.getD j 0 != j && !b.may j (d.getD j 0)) = false) ⟨o2, o3, rfl, s2, fun j hj => absurd hj (Nat.not_lt_zero _)⟩ (fun i σ H2 _ ⟨_, _, _, s2, _⟩ => s2.seq sl) ?_ ?_
          · rintro i x σ H3 u hx ⟨o2, o3, rfl, s3, hm⟩ hu
            have hi : i < d.length := by
              have z := (List.getElem?_eq_some_iff.mp hx).1
              rw [nV_len] at z
              exact z
            rw [nV_getD hi] at hx
            cases hx
            rw [dl] at hi
            have su := s3.trans (same_upd (o := .tup [.int (i : Nat), V.int ((d.getD i 0 : Nat) : Int)]) hu)
            have tu := t.same su
            refine ⟨u, _, rfl, SqT.of upd_same, rfl, _, _, rfl, _, _, rfl, rfl, ?_⟩
            refine ⟨_, rfl, _, rfl, rfl, _, rfl, ?_⟩
            have go : ∀ H', Same H H' → (d.getD i 0 != i && !b.may i (d.getD i 0)) = false → ∃ o2' o3', [some (V.ref a), some (V.ref l), some (V.int ((d.getD i 0 : Nat) : Int)), some (V.int (i : Int))] = [some (.ref a), some (.ref l), o2', o3'] ∧ Same H H' ∧ ∀ j, j < i + 1 → (d.getD j 0 != j && !b.may j (d.getD j 0)) = false := fun H' s' z =>
              ⟨_, _, rfl, s', fun j hj' => by
                by_cases e : j = i
                · rw [e]; exact z
                · exact hm j (by omega)⟩
            by_cases c1 : d.getD i 0 = i
            · rw [c1]
              refine iteNS rfl (iteF ?_)
              have z := go _ su (by rw [c1, bne_self_eq_false, Bool.false_and])
              rw [c1] at z
              exact z
            · have ne : ¬ (V.int ((d.getD i 0 : Nat) : Int) = V.int (i : Int)) := fun z => c1 (by injection z with z; omega)
              rw [decide_eq_false ne]
              refine iteT ⟨_, rfl, a, dx, _, rfl, tu.obj, rfl, _, rfl, _, rfl, a, dx, ls, lw, ld, b, i, d.getD i 0, rfl, tu, hi, lti i hi, fun H4 s4 => ⟨_, rfl, ?_⟩⟩
              cases c2 : b.may i (d.getD i 0) with
              | true => exact iteF (go _ (su.trans s4) (by rw [c2, Bool.not_true, Bool.and_false]))
              | false =>
                have e : Sj09.step b (.check d) = (b, ⟨-7, Sj09.ints [i]⟩) := by
                  have o : b.bad d = some i := find_range hi (by rw [bne_iff_ne.mpr c1, c2]; rfl) hm
                  rw [st, o]
                refine iteT ⟨_, rfl, (by show 2 ≤ sizeLine; decide), fun r hr' => ?_⟩
                refine q.same t (by rw [e]) (su.trans s4) hr' ?_
                unfold ans1
                rw [e]
                rfl
          · rintro σ H3 ⟨o2, o3, rfl, s3, hm⟩
            rw [nV_len, dl] at hm
            have bn : b.bad d = none := find_none hm
            rw [bn] at st
            have t3 := t.same s3
            refine ⟨_, rfl, l, d, rfl, s3.seq sl, hd, fun H4 f s4 hf e4 => ⟨f, _, rfl, .inl (SqL.of e4), ?_⟩⟩
            have t4 := t3.same s4
            refine ⟨_, rfl, a, dx, _, rfl, t4.obj, rfl, _, rfl, a, dx, ls, lw, ld, l, b, d, rfl, t4, wf, s4.seq (s3.seq sl), dl, lti, fun H5 s5 => ⟨(by show 2 ≤ sizeLine; decide), fun r hr' => ?_⟩⟩
            refine q.same t (by rw [st]) ((s3.trans s4).trans s5) hr' ?_
            unfold ans1
            rw [st, nV_len, ← bouts_firsts dl]
            rfl
end
end Rb

namespace Rb
open PySem PySem.Spec PyProof.Rows L2
open PySem.W (Codec)
section
variable {P : Program} {w : World} {K : PySem.W.Frag} {mg : Str → Option Value} {base : Heap} {ad : Adr}

theorem days_pos (b : Sj09.Basho) : 0 < (dayUpTo b b.count).length := by
  have h : List.range b.count ∈ dayUpTo b b.count := (di_all.2 _).mpr ⟨List.length_range, fun i hi => by rw [range_getD hi]; exact ⟨hi, range_getD hi⟩, fun i hi => .inl (range_getD hi)⟩
  exact List.length_pos_of_mem h
theorem ok_Best (T : Txt K mg ad) : FnOk P w K mg base CX0 5 ad.fBest ad.fdBest ["self"] (spPlain ad.CTournament .best) := by
  refine T.FBest.ok scBest (fun vs H Q E h => ?_) (fun cdv A outer s H vs Q E hr h => ?_)
  · obtain ⟨a, dx, ls, lw, ld, b, rfl, _⟩ := h
    rfl
  · obtain ⟨a, dx, ls, lw, ld, b, rfl, t, wf, q⟩ := h
    have hr2 := hr.mono (show 2 ≤ 4 by decide)
    have hr1 := hr.mono (show 1 ≤ 4 by decide)
    have hu := (hr.in1).units0
    refine ⟨_, (pss_cons (ps_set (i := 1) scBest.nd rfl (by first | exact Or.inl rfl | exact Or.inr rfl) (pe_call (ok_DaysThatCanBe T) hr2 rfl T.gDaysThatCanBe T.FDaysThatCanBe.kp T.bDaysThatCanBe .nil pass0 (pa_cons (pe_meth0 (pv 0) T.clTournament T.mRivalsOfEach (ok_RivalsOfEach T) hr T.bRivalsOfEach .nil pass0) pa_nil)))
      (pss_cons (ps_set (i := 2) scBest.nd rfl (by first | exact Or.inl rfl | exact Or.inr rfl) (pe_callB (cr_max rfl) rfl T.nMax boot_max (pa_cons (pe_lc (own := [("day", 3)]) rfl scBest.nd (pi_list (pv 1)) (blkOk_by (N := ["self", "days", "bouts", "day", "fullest", "least", "as_good"]) (sc := defScope sBest) (by decide +kernel)) (fun _ _ _ _ _ => (pg_name (i := 3) scBest.nd rfl (by first | exact Or.inl rfl | exact Or.inr rfl))) (fun _ _ _ _ _ => pts_nil) (fun _ _ _ _ _ => (pe_callB (call_lenK (K := K) rfl) rfl T.nLen PySem.boot_len (pa_cons (pe_call (ok_FirstsOfBouts T) hr1 rfl T.gFirstsOfBouts T.FFirstsOfBouts.kp T.bFirstsOfBouts .nil pass0 (pa_cons (pv 3) pa_nil)) pa_nil)))) pa_nil)))
      (pss_cons (ps_setLc (i := 4) (own := [("day", 3)]) rfl scBest.nd rfl rfl (sw_true rfl rfl rfl rfl) (pi_list (pv 1)) (blkOk_by (N := ["self", "days", "bouts", "day", "fullest", "least", "as_good"]) (sc := defScope sBest) (by decide +kernel)) (fun _ _ _ _ _ => (pg_name (i := 3) scBest.nd rfl (by first | exact Or.inl rfl | exact Or.inr rfl))) (fun _ _ _ _ _ => (pts_one (pt_cmpR op_eq (pe_callB (call_lenK (K := K) rfl) rfl T.nLen PySem.boot_len (pa_cons (pe_call (ok_FirstsOfBouts T) hr1 rfl T.gFirstsOfBouts T.FFirstsOfBouts.kp T.bFirstsOfBouts .nil pass0 (pa_cons (pv 3) pa_nil)) pa_nil)) (pv 2) (nomark _)))) (fun _ _ _ _ _ => (pv 3)))
      (pss_cons (ps_set (i := 5) scBest.nd rfl (by first | exact Or.inl rfl | exact Or.inr rfl) (pe_callB (cr_min rfl) rfl T.nMin boot_min (pa_cons (pe_lc (own := [("day", 3)]) rfl scBest.nd (pi_list (pv 4)) (blkOk_by (N := ["self", "days", "bouts", "day", "fullest", "least", "as_good"]) (sc := defScope sBest) (by decide +kernel)) (fun _ _ _ _ _ => (pg_name (i := 3) scBest.nd rfl (by first | exact Or.inl rfl | exact Or.inr rfl))) (fun _ _ _ _ _ => pts_nil) (fun _ _ _ _ _ => (pe_meth (pv 0) T.clTournament T.mOff (ok_Off T) hr2 T.bOff .nil pass0 (pa_cons (pv 3) pa_nil)))) pa_nil)))
      (pss_cons (ps_setLc (i := 6) (own := [("day", 3)]) rfl scBest.nd rfl rfl (sw_true rfl rfl rfl rfl) (pi_list (pv 4)) (blkOk_by (N := ["self", "days", "bouts", "day", "fullest", "least", "as_good"]) (sc := defScope sBest) (by decide +kernel)) (fun _ _ _ _ _ => (pg_name (i := 3) scBest.nd rfl (by first | exact Or.inl rfl | exact Or.inr rfl))) (fun _ _ _ _ _ => (pts_one (pt_cmpR op_eq (pe_meth (pv 0) T.clTournament T.mOff (ok_Off T) hr2 T.bOff .nil pass0 (pa_cons (pv 3) pa_nil)) (pv 5) (nomark _)))) (fun _ _ _ _ _ => (pv 3)))
      (pss_one (ps_ret (pe_op op_cat (pe_lst (pa_cons (pv 2) (pa_cons (pv 5) (pa_cons (pe_callB call_len_seq rfl T.nLen PySem.boot_len (pa_cons (pv 6) pa_nil)) pa_nil)))) (pe_callB (cr_minR rfl hu) rfl T.nMin boot_min (pa_cons (pv 6) pa_nil)))))))))), ?_⟩
    have h8 := wf.few
    refine ⟨_, rfl, a, dx, _, rfl, t.obj, rfl, a, dx, ls, lw, ld, b, rfl, t, h8, fun H1 p qs s1 hp ea => ⟨p, b, qs, rfl, ea, h8, fun H2 L ds s2 e2 r2 => ?_⟩⟩
    have nd := (di_all (b := b)).1
    have mem := (di_all (b := b)).2
    have Rp := days_pos b
    have t2 := (t.same s1).same s2
    generalize dayUpTo b b.count = R at r2 nd mem Rp
    have Rl : R.length ≤ 764 := valid_len h8 nd fun d hd => (mem d).mp hd
    have vm : ∀ m, m < R.length → Valid b (R.getD m []) := fun m hm => (mem _).mp (List.mem_of_getElem? (getD_at (z := []) hm))
    have gl := go_list (K := K) (SqL.of e2)
    rw [r2.lenN] at gl
    refine ⟨_, rfl, L, rfl, ⟨_, SqL.of e2⟩, fun D hD => ?_⟩
    refine lc_gen (n := R.length) (fun _ => true) (fun m => V.int ((b.bouts (R.getD m []) : Nat) : Int)) (by omega) hD gl.1 gl.2 (fun m x H3 H4 Qy Qn hm s3 y yes no => ?_) (fun H3 s3 e3 => ?_)
    · obtain ⟨rfl, y⟩ := y
      have hx := y _ (s3.seq (SqL.of e2))
      rw [(r2.get hm).1] at hx
      cases hx
      have v := vm m hm
      refine ⟨rfl, id ⟨_, rfl, _, _, rfl, SqL.of (s3 _ _ (r2.get hm).2), by rw [v.len]; omega, fun H' f s' hf e' => ⟨f, _, rfl, .inl (SqL.of e'), ?_⟩⟩⟩
      rw [nV_len, ← bouts_firsts v.len]
      exact yes rfl _ s'
    · refine ⟨D, R.map fun d => ((b.bouts d : Nat) : Int), rfl, SqL.of ?_, by rw [List.length_map]; exact Rp, fun m hm hmax => ?_⟩
      · rw [e3, lc_all, range_pick R [] fun d => V.int ((b.bouts d : Nat) : Int), List.map_map]
        rfl
      obtain ⟨dm, hdm, rfl⟩ := List.mem_map.mp hm
      have m1 : ∃ d ∈ R, b.bouts d = b.bouts dm := ⟨dm, hdm, rfl⟩
      have m2 : ∀ d ∈ R, b.bouts d ≤ b.bouts dm := fun d hd => by
        have z := hmax _ (List.mem_map.mpr ⟨d, hd, rfl⟩)
        omega
      clear hm hmax
      generalize b.bouts dm = B at m1 m2
      have t3 := t2.same s3
      have e2' := s3 _ _ e2
      have r2' := r2.same s3
      refine ⟨_, rfl, L, rfl, ⟨_, SqL.of e2'⟩, fun D2 hD2 => ?_⟩
      have gl := go_list (K := K) (SqL.of e2')
      rw [r2'.lenN] at gl
      refine lc_gen (n := R.length) (fun m => decide (b.bouts (R.getD m []) = B)) (fun m => V.ref (ds.getD m 0)) (by omega) hD2 gl.1 gl.2 (fun m x H4 H5 Qy Qn hm s4 y yes no => ?_) (fun H4 s4 e4 => ?_)
      · obtain ⟨rfl, y⟩ := y
        have hx := y _ (s4.seq (SqL.of e2'))
        rw [(r2'.get hm).1] at hx
        cases hx
        have v := vm m hm
        refine ⟨rfl, _, rfl, _, _, rfl, SqL.of (s4 _ _ (r2'.get hm).2), by rw [v.len]; omega, fun H' f s' hf e' => ⟨f, _, rfl, .inl (SqL.of e'), ?_⟩⟩
        rw [nV_len, ← bouts_firsts v.len]
        refine ⟨_, rfl, rfl, _, rfl, ite2 (fun c => ?_) (fun c => ?_)⟩
        · have c := of_decide_eq_true c
          injection c with c
          exact ⟨_, rfl, yes (decide_eq_true (by omega)) _ s'⟩
        · exact no (decide_eq_false fun z => c (decide_eq_true (by rw [z]))) _ s'
      · have r4 := (r2'.same s4).pickN fun d => decide (b.bouts d = B)
        have e4' : H4 D2 = some (.lst ((((List.range R.length).filter fun m => decide (b.bouts (R.getD m []) = B)).map fun m => ds.getD m 0).map V.ref)) := by
          rw [e4, List.map_map]
          rfl
        generalize (((List.range R.length).filter fun m => decide (b.bouts (R.getD m []) = B)).map fun m => ds.getD m 0) = ds1 at r4 e4'
        have mem1 : ∀ d, d ∈ (R.filter fun d => decide (b.bouts d = B)) → Valid b d := fun d hd => (mem d).mp (List.mem_filter.mp hd).1
        have R1p : 0 < (R.filter fun d => decide (b.bouts d = B)).length := by
          obtain ⟨d, hd, e⟩ := m1
          exact List.length_pos_of_mem (List.mem_filter.mpr ⟨hd, decide_eq_true e⟩)
        have R1l : (R.filter fun d => decide (b.bouts d = B)).length ≤ 764 := Nat.le_trans (List.length_filter_le _ _) Rl
        have mirror := fun (c : Nat) (row : List Nat) => best_mirror (b := b) nd mem (m := B) (c := c) (row := row) m1 m2
        generalize (R.filter fun d => decide (b.bouts d = B)) = R1 at r4 mem1 R1p R1l mirror
        have t4 := t3.same s4
        refine ⟨_, rfl, D2, rfl, ⟨_, SqL.of e4'⟩, fun D3 hD3 => ?_⟩
        have gl := go_list (K := K) (SqL.of e4')
        rw [r4.lenN] at gl
        refine lc_gen (n := R1.length) (fun _ => true) (fun m => V.int ((b.cost (R1.getD m []) : Nat) : Int)) (by omega) hD3 gl.1 gl.2 (fun m x H5 H6 Qy Qn hm s5 y yes no => ?_) (fun H5 s5 e5 => ?_)
        · obtain ⟨rfl, y⟩ := y
          have hx := y _ (s5.seq (SqL.of e4'))
          rw [(r4.get hm).1] at hx
          cases hx
          have v := mem1 _ (List.mem_of_getElem? (getD_at (z := []) hm))
          have t5 := t4.same s5
          exact ⟨rfl, id ⟨_, rfl, a, dx, _, rfl, t5.obj, rfl, _, rfl, a, dx, ls, lw, ld, _, b, _, rfl, t5, wf, SqL.of (s5 _ _ (r4.get hm).2), v.len, fun i hi => (v.back i hi).1, fun H' s' => yes rfl _ s'⟩⟩
        · refine ⟨D3, R1.map fun d => ((b.cost d : Nat) : Int), rfl, SqL.of ?_, by rw [List.length_map]; exact R1p, fun m hm hmin => ?_⟩
          · rw [e5, lc_all, range_pick R1 [] fun d => V.int ((b.cost d : Nat) : Int), List.map_map]
            rfl
          obtain ⟨dc, hdc, rfl⟩ := List.mem_map.mp hm
          have c1 : ∃ d ∈ R1, b.cost d = b.cost dc := ⟨dc, hdc, rfl⟩
          have c2 : ∀ d ∈ R1, b.cost dc ≤ b.cost d := fun d hd => by
            have z := hmin _ (List.mem_map.mpr ⟨d, hd, rfl⟩)
            omega
          clear hm hmin
          generalize b.cost dc = C at c1 c2
          have mirror := fun (row : List Nat) => mirror C row c1 c2
          have t5 := t4.same s5
          have e4'' := s5 _ _ e4'
          have r4' := r4.same s5
          refine ⟨_, rfl, D2, rfl, ⟨_, SqL.of e4''⟩, fun D4 hD4 => ?_⟩
          have gl := go_list (K := K) (SqL.of e4'')
          rw [r4'.lenN] at gl
          refine lc_gen (n := R1.length) (fun m => decide (b.cost (R1.getD m []) = C)) (fun m => V.ref (ds1.getD m 0)) (by omega) hD4 gl.1 gl.2 (fun m x H6 H7 Qy Qn hm s6 y yes no => ?_) (fun H6 s6 e6 => ?_)
          · obtain ⟨rfl, y⟩ := y
            have hx := y _ (s6.seq (SqL.of e4''))
            rw [(r4'.get hm).1] at hx
            cases hx
            have v := mem1 _ (List.mem_of_getElem? (getD_at (z := []) hm))
            have t6 := t5.same s6
            refine ⟨rfl, _, rfl, a, dx, _, rfl, t6.obj, rfl, _, rfl, a, dx, ls, lw, ld, _, b, _, rfl, t6, wf, SqL.of (s6 _ _ (r4'.get hm).2), v.len, fun i hi => (v.back i hi).1, fun H' s' => ?_⟩
            refine ⟨_, rfl, rfl, _, rfl, ite2 (fun c => ?_) (fun c => ?_)⟩
            · have c := of_decide_eq_true c
              injection c with c
              exact ⟨_, rfl, yes (decide_eq_true (by omega)) _ s'⟩
            · exact no (decide_eq_false fun z => c (decide_eq_true (by rw [z]))) _ s'
          · have r6 := (r4'.same s6).pickN fun d => decide (b.cost d = C)
            have e6' : H6 D4 = some (.lst ((((List.range R1.length).filter fun m => decide (b.cost (R1.getD m []) = C)).map fun m => ds1.getD m 0).map V.ref)) := by
              rw [e6, List.map_map]
              rfl
            generalize (((List.range R1.length).filter fun m => decide (b.cost (R1.getD m []) = C)).map fun m => ds1.getD m 0) = ds2 at r6 e6'
            have mem2 : ∀ d, d ∈ (R1.filter fun d => decide (b.cost d = C)) → Valid b d := fun d hd => mem1 d (List.mem_filter.mp hd).1
            have R2p : 0 < (R1.filter fun d => decide (b.cost d = C)).length := by
              obtain ⟨d, hd, e⟩ := c1
              exact List.length_pos_of_mem (List.mem_filter.mpr ⟨hd, decide_eq_true e⟩)
            have R2l : (R1.filter fun d => decide (b.cost d = C)).length ≤ 764 := Nat.le_trans (List.length_filter_le _ _) R1l
            generalize (R1.filter fun d => decide (b.cost d = C)) = R2 at r6 mem2 R2p R2l mirror
            refine ⟨_, rfl, _, rfl, _, rfl, D4, _, rfl, .inl (SqL.of e6'), (by show 3 ≤ sizeLine; decide), fun l1 hl1 => ?_⟩
            have s7 : Same H6 (upd H6 l1 (.lst [V.int (B : Int), V.int (C : Int), V.int (((ds2.map V.ref).length : Nat) : Int)])) := same_upd hl1
            refine ⟨_, rfl, D4, ds2, R2, b.count, rfl, SqL.of (s7 _ _ e6'), r6.same s7, R2p, fun d hd => (mem2 d hd).len, fun i x row hx hrow hmin => ?_⟩
            have mr : row ∈ R2 := List.mem_of_getElem? hrow
            have best := mirror row mr hmin
            have ho := (r6.same s7).row i x (nV row) hx (by rw [List.getElem?_map, hrow]; rfl)
            refine ⟨l1, x, _, _, rfl, rfl, upd_same, ho, ?_, fun r hr' => ?_⟩
            · rw [nV_len, (mem2 _ mr).len]
              exact Nat.le_of_lt (small1000 (by show 3 + b.count ≤ 1000; omega))
            · refine q.same t rfl ((((((s1.trans s2).trans s3).trans s4).trans s5).trans s6).trans s7) hr' ?_
              unfold ans1
              show _ = iV ((match b.best with
                | none => Sj09.ok (-6)
                | some x => (⟨((x.bouts : Nat) : Int), Sj09.ints (x.cost :: x.many :: x.row)⟩ : Sj09.Ans)).v :: (match b.best with
                | none => Sj09.ok (-6)
                | some x => (⟨((x.bouts : Nat) : Int), Sj09.ints (x.cost :: x.many :: x.row)⟩ : Sj09.Ans)).l)
              rw [best, r6.lenN]
              show V.int (B : Int) :: V.int (C : Int) :: V.int (R2.length : Int) :: nV row = V.int (B : Int) :: V.int (C : Int) :: V.int (R2.length : Int) :: (Sj09.ints row).map V.int
              rw [nV_ints]
              rfl
end
end Rb

namespace Rb
open PySem PySem.Spec PyProof.Rows L2
open PySem.W (Codec)
theorem cut_mid (A B C : List V) : cutV (A ++ B ++ C) (some ((A.length : Nat) : Int)) (some ((A.length + B.length : Nat) : Int)) = B := by
  unfold cutV
  rw [HT.sIx_nat, HT.sIx_nat, List.length_append, List.length_append, Nat.min_eq_left (by omega), Nat.min_eq_left (by omega), Nat.add_sub_cancel_left, List.append_assoc, List.drop_left, List.take_left]
theorem cut_tail (x : V) (B : List V) : cutV (x :: B) (some 1) none = B := by
  have z := cut_mid [x] B []
  unfold cutV at z ⊢
  rw [HT.sIx_none]
  rw [List.append_nil, HT.sIx_nat] at z
  have e1 : HT.sIx (x :: B).length 0 (some 1) = 1 := by
    rw [show (1 : Int) = ((1 : Nat) : Int) from rfl, HT.sIx_nat, List.length_cons]
    omega
  rw [e1, List.length_cons]
  show (B.take (B.length + 1 - 1)) = B
  rw [Nat.add_sub_cancel, List.take_length]
def hd : Sj09.Call → Int
  | .begins _ _ => 0
  | .wrestler _ => 1
  | .met _ _ => 2
  | .check _ => 3
  | .best => 4
  | .why => 5
def tl : Sj09.Call → List Int
  | .begins r w => [(r : Int), (w : Int)]
  | .wrestler w => [(w.stable : Int), (w.wins : Int)]
  | .met i k => [(i : Int), (k : Int)]
  | .check d => (d.length : Int) :: nums d
  | .best => []
  | .why => []
theorem flat1_eq (c : Sj09.Call) : flat1 c = hd c :: tl c := by cases c <;> rfl
theorem iV_append (a b : List Int) : iV (a ++ b) = iV a ++ iV b := List.map_append
theorem iV_len (a : List Int) : (iV a).length = a.length := List.length_map _
def spNums (K : PySem.W.Frag) : Sp := fun vs H Q _ => ∃ (l : Addr) (pre post : List Int) (c : Sj09.Call), vs = [.ref l, .int ((pre.length : Nat) : Int)] ∧ SqL K H l (iV (pre ++ flat1 c ++ post)) ∧
  ∀ H' p, Same H H' → H p = none → H' p = some (.lst (iV (tl c))) → Q (.ref p) H'
def spAns (C : Addr) : Sp := fun vs H Q _ => ∃ (a dx ls lw ld l : Addr) (b : Sj09.Basho) (c : Sj09.Call), vs = [.ref a, .int (hd c), .ref l] ∧ TourAt C H a b dx ls lw ld ∧ WF b ∧ b.met.length ≤ 1000 ∧ Good c ∧ H l = some (.lst (iV (tl c))) ∧ Done C H a b [a, ls, lw, ld] c Q
def spAnswers (K : PySem.W.Frag) : Sp := fun vs H Q _ => ∃ a ns, vs = [.ref a] ∧ SqL K H a (ns.map V.int) ∧ PySj09.answers_asked ns = true ∧ ∀ H' p, H' p = some (.lst ((PySj09.answers ns).map V.int)) → Q (.ref p) H'
theorem Done.mono {C : Addr} {H H1 : Hp} {a : Addr} {b : Sj09.Basho} {O : List Addr} {c : Sj09.Call} {Q : VK} (q : Done C H a b O c Q) (s : Same H H1) : Done C H1 a b O c Q :=
  fun H' p dx ls lw ld t ox kp hp np e => q H' p dx ls lw ld t (fun x hx => (ox x hx).imp id s.free) (fun b' o z nb => kp b' o (s b' o z) nb) (s.free hp) np e
section
variable {P : Program} {w : World} {K : PySem.W.Frag} {mg : Str → Option Value} {base : Heap} {ad : Adr}
theorem iV_mid {pre post : List Int} {c : Sj09.Call} : (iV (pre ++ flat1 c ++ post))[pre.length]? = some (V.int (hd c)) := by
  unfold iV
  rw [List.getElem?_map, flat1_eq, List.append_assoc, List.getElem?_append_right (Nat.le_refl _), Nat.sub_self]
  rfl
theorem ok_NumbersBehind (T : Txt K mg ad) : FnOk P w K mg base CX0 1 ad.fNumbersBehind ad.fdNumbersBehind ["calls", "at"] (spNums K) := by
  refine T.FNumbersBehind.ok scNumbersBehind (fun vs H Q E h => ?_) (fun cdv A outer s H vs Q E hr h => ?_)
  · obtain ⟨l, pre, post, c, rfl, _⟩ := h
    rfl
  · obtain ⟨l, pre, post, c, rfl, sl, q⟩ := h
    refine ⟨_, (pss_cons (ps_if (pt_cmpR op_eq (pe_ix ix_list (pv 0) (pv 1) (fun _ _ => rfl)) (pe_glob (v := .int (3)) (by rfl) T.kCheck ⟨_, rfl⟩) (nomark _)) (pss_one (ps_ret (pe_slice sl_list (pv 0) (po_some (pe_op op_add (pv 1) pe_int)) (po_some (pe_op op_add (pe_op op_add (pv 1) pe_int) (pe_ix ix_list (pv 0) (pe_op op_add (pv 1) pe_int) (fun _ _ => rfl))))))) pss_nil)
      (pss_cons (ps_if (pw_or (pt_cmpR op_eq (pe_ix ix_list (pv 0) (pv 1) (fun _ _ => rfl)) (pe_glob (v := .int (4)) (by rfl) T.kBest ⟨_, rfl⟩) (nomark _)) (pw_or1 (pt_cmpR op_eq (pe_ix ix_list (pv 0) (pv 1) (fun _ _ => rfl)) (pe_glob (v := .int (5)) (by rfl) T.kWhy ⟨_, rfl⟩) (nomark _)))).pt (pss_one (ps_ret (pe_lst pa_nil))) pss_nil)
      (pss_one (ps_ret (pe_slice sl_list (pv 0) (po_some (pe_op op_add (pv 1) pe_int)) (po_some (pe_op op_add (pv 1) pe_int))))))), ?_⟩
    have h0 := iV_mid (pre := pre) (post := post) (c := c)
    refine ⟨_, rfl, _, rfl, l, _, _, _, rfl, rfl, sl, atI_nat h0, rfl, _, rfl, ?_⟩
    have new : ∀ p, H p = none → Q (.ref p) (upd H p (.lst (iV (tl c)))) := fun p hp => q _ p (same_upd hp) hp upd_same
    have two : ∀ x y : Int, tl c = [x, y] → ∀ p, H p = none → Q (.ref p) (upd H p (.lst (cutV (iV (pre ++ flat1 c ++ post)) (some ((pre.length : Int) + 1)) (some ((pre.length : Int) + 3))))) := fun x y e p hp => by
      have z := cut_mid (iV (pre ++ [hd c])) (iV (tl c)) (iV post)
      rw [← iV_append, ← iV_append, iV_len, iV_len, List.length_append, e] at z
      have e1 : (pre ++ [hd c]) ++ [x, y] ++ post = pre ++ flat1 c ++ post := by rw [flat1_eq, e, List.append_assoc pre]; rfl
      rw [e1] at z
      have e2 : ((pre.length : Int) + 1) = ((pre.length + [hd c].length : Nat) : Int) := by simp
      have e3 : ((pre.length : Int) + 3) = ((pre.length + [hd c].length + [x, y].length : Nat) : Int) := by simp; omega
      rw [e2, e3, z, ← e]
      exact new p hp
    have three : (¬ hd c = 3) → (¬ hd c = 4) → (¬ hd c = 5) → ∃ x y : Int, tl c = [x, y] := fun a1 a2 a3 => by
      cases c with
      | begins r w => exact ⟨_, _, rfl⟩
      | wrestler w => exact ⟨_, _, rfl⟩
      | met i k => exact ⟨_, _, rfl⟩
      | check d => exact absurd rfl a1
      | best => exact absurd rfl a2
      | why => exact absurd rfl a3
    refine ite2 (fun c1 => ?_) (fun c1 => ?_)
    · have c1 := of_decide_eq_true c1
      injection c1 with c1
      cases c with
      | check d =>
        have h1 : (iV (pre ++ flat1 (.check d) ++ post))[pre.length + 1]? = some (V.int (d.length : Int)) := by
          unfold iV
          rw [List.getElem?_map, List.append_assoc, List.getElem?_append_right (by omega), Nat.add_sub_cancel_left]
          rfl
        refine ⟨_, rfl, _, rfl, _, _, rfl, rfl, _, rfl, _, rfl, _, _, rfl, rfl, _, rfl, _, rfl, _, _, rfl, rfl, l, _, _, _, rfl, rfl, sl, at_of (j := pre.length + 1) (by omega) h1, _, _, rfl, rfl, _, rfl, l, _, rfl, sl, fun p hp => ?_⟩
        have z := cut_mid (iV (pre ++ [3])) (iV (tl (.check d))) (iV post)
        rw [← iV_append, ← iV_append, iV_len, iV_len, List.length_append] at z
        have e1 : (pre ++ [3]) ++ tl (.check d) ++ post = pre ++ flat1 (.check d) ++ post := by rw [flat1_eq, List.append_assoc pre]; rfl
        rw [e1] at z
        have e2 : ((pre.length : Int) + 1) = ((pre.length + [(3 : Int)].length : Nat) : Int) := by simp
        have e3 : ((pre.length : Int) + 2 + (d.length : Int)) = ((pre.length + [(3 : Int)].length + (tl (.check d)).length : Nat) : Int) := by
          show _ = ((pre.length + 1 + ((nums d).length + 1) : Nat) : Int)
          rw [show (nums d).length = d.length from List.length_map _]
          omega
        rw [e2, e3, z]
        exact new p hp
      | begins r w => cases c1
      | wrestler w => cases c1
      | met i k => cases c1
      | best => cases c1
      | why => cases c1
    · have c1 : ¬ hd c = 3 := fun z => c1 (decide_eq_true (by rw [z]))
      refine ⟨_, rfl, _, rfl, l, _, _, _, rfl, rfl, sl, atI_nat h0, rfl, _, rfl, ite2 (fun c2 => ?_) (fun c2 => ?_)⟩
      · have c2 := of_decide_eq_true c2
        injection c2 with c2
        refine iteT ⟨Nat.zero_le _, fun p hp => ?_⟩
        have z := new p hp
        cases c with
        | best => exact z
        | begins r w => cases c2
        | wrestler w => cases c2
        | met i k => cases c2
        | check d => cases c2
        | why => cases c2
      · have c2 : ¬ hd c = 4 := fun z => c2 (decide_eq_true (by rw [z]))
        refine ⟨_, rfl, _, rfl, l, _, _, _, rfl, rfl, sl, atI_nat h0, rfl, _, rfl, ite2 (fun c3 => ?_) (fun c3 => ?_)⟩
        · have c3 := of_decide_eq_true c3
          injection c3 with c3
          refine ⟨Nat.zero_le _, fun p hp => ?_⟩
          have z := new p hp
          cases c with
          | why => exact z
          | begins r w => cases c3
          | wrestler w => cases c3
          | met i k => cases c3
          | check d => cases c3
          | best => cases c3
        · have c3 : ¬ hd c = 5 := fun z => c3 (decide_eq_true (by rw [z]))
          obtain ⟨x, y, e⟩ := three c1 c2 c3
          exact ⟨_, rfl, _, rfl, _, _, rfl, rfl, _, rfl, _, rfl, _, _, rfl, rfl, _, rfl, l, _, rfl, sl, fun p hp => two x y e p hp⟩

theorem hdne {x y : Int} (h : x ≠ y) : ¬ decide (V.int x = V.int y) = true := fun z => h (by
  have z := of_decide_eq_true z
  injection z)
theorem ok_AnswerCall (T : Txt K mg ad) : FnOk P w K mg base CX0 6 ad.fAnswerCall ad.fdAnswerCall ["tournament", "call", "numbers"] (spAns ad.CTournament) := by
  refine T.FAnswerCall.ok scAnswerCall (fun vs H Q E h => ?_) (fun cdv A outer s H vs Q E hr h => ?_)
  · obtain ⟨a, dx, ls, lw, ld, l, b, c, rfl, _⟩ := h
    rfl
  · obtain ⟨a, dx, ls, lw, ld, l, b, c, rfl, t, wf, hm, gd, hl, q⟩ := h
    have hr1 := hr.mono (show 1 ≤ 5 by decide)
    have hr2 := hr.mono (show 2 ≤ 5 by decide)
    have hr3 := hr.mono (show 3 ≤ 5 by decide)
    refine ⟨_, (pss_cons (ps_if (pt_cmpR op_eq (pv 1) (pe_glob (v := .int (0)) (by rfl) T.kBegins ⟨_, rfl⟩) (nomark _)) (pss_one (ps_ret (pe_meth (pv 0) T.clTournament T.mBegins (ok_Begins T) hr2 T.bBegins .nil pass0 (pa_cons (pe_ix ix_list (pv 2) pe_int (fun _ _ => rfl)) (pa_cons (pe_ix ix_list (pv 2) pe_int (fun _ _ => rfl)) pa_nil))))) pss_nil)
      (pss_cons (ps_if (pt_cmpR op_eq (pv 1) (pe_glob (v := .int (1)) (by rfl) T.kWrestler ⟨_, rfl⟩) (nomark _)) (pss_one (ps_ret (pe_meth (pv 0) T.clTournament T.mWrestler (ok_Wrestler T) hr1 T.bWrestler .nil pass0 (pa_cons (pe_ix ix_list (pv 2) pe_int (fun _ _ => rfl)) (pa_cons (pe_ix ix_list (pv 2) pe_int (fun _ _ => rfl)) pa_nil))))) pss_nil)
      (pss_cons (ps_if (pt_cmpR op_eq (pv 1) (pe_glob (v := .int (2)) (by rfl) T.kMet ⟨_, rfl⟩) (nomark _)) (pss_one (ps_ret (pe_meth (pv 0) T.clTournament T.mMet (ok_Met T) hr3 T.bMet .nil pass0 (pa_cons (pe_ix ix_list (pv 2) pe_int (fun _ _ => rfl)) (pa_cons (pe_ix ix_list (pv 2) pe_int (fun _ _ => rfl)) pa_nil))))) pss_nil)
      (pss_cons (ps_if (pt_cmpR op_eq (pv 1) (pe_glob (v := .int (3)) (by rfl) T.kCheck ⟨_, rfl⟩) (nomark _)) (pss_one (ps_ret (pe_meth (pv 0) T.clTournament T.mCheck (ok_Check T) hr3 T.bCheck .nil pass0 (pa_cons (pe_slice sl_list (pv 2) (po_some pe_int) po_none) pa_nil)))) pss_nil)
      (pss_cons (ps_if (pt_cmpR op_eq (pv 1) (pe_glob (v := .int (4)) (by rfl) T.kBest ⟨_, rfl⟩) (nomark _)) (pss_one (ps_ret (pe_meth0 (pv 0) T.clTournament T.mBest (ok_Best T) hr T.bBest .nil pass0))) pss_nil)
      (pss_cons (ps_if (pt_cmpR op_eq (pv 1) (pe_glob (v := .int (5)) (by rfl) T.kWhy ⟨_, rfl⟩) (nomark _)) (pss_one (ps_ret (pe_meth0 (pv 0) T.clTournament T.mWhy (ok_Why T) hr T.bWhy .nil pass0))) pss_nil)
      (pss_one ps_never))))))), ?_⟩
    have sl := SqL.of (K := K) hl
    cases c with
    | begins r w =>
      exact ⟨_, rfl, rfl, _, rfl, ite2 (fun _ => ⟨_, rfl, a, dx, _, rfl, t.obj, rfl, _, rfl, l, _, _, _, rfl, rfl, sl, at_of (j := 0) rfl rfl, _, rfl, l, _, _, _, rfl, rfl, sl, at_of (j := 1) rfl rfl, a, dx, ls, lw, ld, b, r, w, rfl, t, wf, hm, q⟩) (fun z => absurd (by rfl) z)⟩
    | wrestler v =>
      refine ⟨_, rfl, rfl, _, rfl, ite2 (fun z => absurd z (hdne (show (1 : Int) ≠ 0 by decide))) (fun _ => ?_)⟩
      exact ⟨_, rfl, rfl, _, rfl, ite2 (fun _ => ⟨_, rfl, a, dx, _, rfl, t.obj, rfl, _, rfl, l, _, _, _, rfl, rfl, sl, at_of (j := 0) rfl rfl, _, rfl, l, _, _, _, rfl, rfl, sl, at_of (j := 1) rfl rfl, a, dx, ls, lw, ld, b, v.stable, v.wins, rfl, t, wf, hm, q⟩) (fun z => absurd (by rfl) z)⟩
    | met i k =>
      refine ⟨_, rfl, rfl, _, rfl, ite2 (fun z => absurd z (hdne (show (2 : Int) ≠ 0 by decide))) (fun _ => ⟨_, rfl, rfl, _, rfl, ite2 (fun z => absurd z (hdne (show (2 : Int) ≠ 1 by decide))) (fun _ => ?_)⟩)⟩
      exact ⟨_, rfl, rfl, _, rfl, ite2 (fun _ => ⟨_, rfl, a, dx, _, rfl, t.obj, rfl, _, rfl, l, _, _, _, rfl, rfl, sl, at_of (j := 0) rfl rfl, _, rfl, l, _, _, _, rfl, rfl, sl, at_of (j := 1) rfl rfl, a, dx, ls, lw, ld, b, i, k, rfl, t, wf, hm, q⟩) (fun z => absurd (by rfl) z)⟩
    | check d =>
      refine ⟨_, rfl, rfl, _, rfl, ite2 (fun z => absurd z (hdne (show (3 : Int) ≠ 0 by decide))) (fun _ => ⟨_, rfl, rfl, _, rfl, ite2 (fun z => absurd z (hdne (show (3 : Int) ≠ 1 by decide))) (fun _ => ⟨_, rfl, rfl, _, rfl, ite2 (fun z => absurd z (hdne (show (3 : Int) ≠ 2 by decide))) (fun _ => ?_)⟩)⟩)⟩
      refine ⟨_, rfl, rfl, _, rfl, ite2 (fun _ => ⟨_, rfl, a, dx, _, rfl, t.obj, rfl, _, rfl, _, rfl, l, _, rfl, sl, fun p hp => ?_⟩) (fun z => absurd (by rfl) z)⟩
      have e : cutV (iV (tl (.check d))) (some 1) none = nV d := by
        show cutV (V.int (d.length : Int) :: iV (nums d)) (some 1) none = nV d
        rw [cut_tail, nV_ints]
        rfl
      rw [e]
      have sp := same_upd (o := .lst (nV d)) hp
      exact ⟨a, dx, ls, lw, ld, p, b, d, rfl, t.same sp, wf, upd_same, gd.1, q.mono sp⟩
    | best =>
      refine ⟨_, rfl, rfl, _, rfl, ite2 (fun z => absurd z (hdne (show (4 : Int) ≠ 0 by decide))) (fun _ => ⟨_, rfl, rfl, _, rfl, ite2 (fun z => absurd z (hdne (show (4 : Int) ≠ 1 by decide))) (fun _ => ⟨_, rfl, rfl, _, rfl, ite2 (fun z => absurd z (hdne (show (4 : Int) ≠ 2 by decide))) (fun _ => ⟨_, rfl, rfl, _, rfl, ite2 (fun z => absurd z (hdne (show (4 : Int) ≠ 3 by decide))) (fun _ => ?_)⟩)⟩)⟩)⟩
      exact ⟨_, rfl, rfl, _, rfl, ite2 (fun _ => ⟨_, rfl, a, dx, _, rfl, t.obj, rfl, a, dx, ls, lw, ld, b, rfl, t, wf, q⟩) (fun z => absurd (by rfl) z)⟩
    | why =>
      refine ⟨_, rfl, rfl, _, rfl, ite2 (fun z => absurd z (hdne (show (5 : Int) ≠ 0 by decide))) (fun _ => ⟨_, rfl, rfl, _, rfl, ite2 (fun z => absurd z (hdne (show (5 : Int) ≠ 1 by decide))) (fun _ => ⟨_, rfl, rfl, _, rfl, ite2 (fun z => absurd z (hdne (show (5 : Int) ≠ 2 by decide))) (fun _ => ⟨_, rfl, rfl, _, rfl, ite2 (fun z => absurd z (hdne (show (5 : Int) ≠ 3 by decide))) (fun _ => ⟨_, rfl, rfl, _, rfl, ite2 (fun z => absurd z (hdne (show (5 : Int) ≠ 4 by decide))) (fun _ => ?_)⟩)⟩)⟩)⟩)⟩
      exact ⟨_, rfl, rfl, _, rfl, ite2 (fun _ => ⟨_, rfl, a, dx, _, rfl, t.obj, rfl, a, dx, ls, lw, ld, b, rfl, t, wf, q⟩) (fun z => absurd (by rfl) z)⟩

theorem asked_short {l : List Int} (h : PySj09.answers_asked l = true) : (PySj09.answers l).length ≤ 10000000 := by
  unfold PySj09.answers_asked at h
  cases e : PyFlat.calls PySj09.shape l.length l with
  | none => (rw [e] at h; cases h)
  | some raw =>
    rw [e] at h
    simp only [Bool.and_eq_true, ge_iff_le] at h
    exact of_decide_eq_true h.2
theorem flats_append : ∀ a b : List Sj09.Call, flats (a ++ b) = flats a ++ flats b
  | [], _ => rfl
  | c :: a, b => by
    show flat1 c ++ flats (a ++ b) = flat1 c ++ flats a ++ flats b
    rw [flats_append a b, List.append_assoc]
def mu3 (n : Nat) (σ : L2.St) (_ : Hp) : Nat := match (σ[3]? : Option (Option V)) with
  | some (some (V.int z)) => n - z.toNat
  | _ => 0
theorem ok_Answers (T : Txt K mg ad) : FnOk P w K mg base CX0 7 ad.fAnswers ad.fdAnswers ["calls"] (spAnswers K) := by
  refine T.FAnswers.ok scAnswers (fun vs H Q E h => ?_) (fun cdv A outer s H vs Q E hr h => ?_)
  · obtain ⟨l, ns, rfl, _⟩ := h
    rfl
  · obtain ⟨l, ns, rfl, sl, ask, q⟩ := h
    have hr1 := hr.mono (show 1 ≤ 6 by decide)
    have hr3 := hr.mono (show 3 ≤ 6 by decide)
    refine ⟨_, (pss_cons (ps_set (i := 1) scAnswers.nd rfl (by first | exact Or.inl rfl | exact Or.inr rfl) (pe_make0 T.mkTournament (ok_InitTournament T) hr3 rfl T.cTournament T.bInitTournament .nil pass0))
      (pss_cons (ps_set (i := 2) scAnswers.nd rfl (by first | exact Or.inl rfl | exact Or.inr rfl) (pe_lst pa_nil))
      (pss_cons (ps_set (i := 3) scAnswers.nd rfl (by first | exact Or.inl rfl | exact Or.inr rfl) pe_int)
      (pss_cons (ps_while PassesOwn.never (pt_cmpR op_lt (pv 3) (pe_callB call_len_seq rfl T.nLen PySem.boot_len (pa_cons (pv 0) pa_nil)) (nomark _)) (pss_cons (ps_set (i := 4) scAnswers.nd rfl (by first | exact Or.inl rfl | exact Or.inr rfl) (pe_call (ok_NumbersBehind T) hr1 rfl T.gNumbersBehind T.FNumbersBehind.kp T.bNumbersBehind .nil pass0 (pa_cons (pv 0) (pa_cons (pv 3) pa_nil))))
      (pss_cons (ps_set (i := 5) scAnswers.nd rfl (by first | exact Or.inl rfl | exact Or.inr rfl) (pe_call (ok_AnswerCall T) hr rfl T.gAnswerCall T.FAnswerCall.kp T.bAnswerCall .nil pass0 (pa_cons (pv 1) (pa_cons (pe_ix ix_list (pv 0) (pv 3) (fun _ _ => rfl)) (pa_cons (pv 4) pa_nil)))))
      (pss_cons (ps_expr (pe_bm PySem.F.plainAttrs_list PySem.F.slot_list_append PySem.F.type_list_append mt_append (pv 2) (pa_cons (pe_callB call_len_seq rfl T.nLen PySem.boot_len (pa_cons (pv 5) pa_nil)) pa_nil)))
      (pss_cons (ps_expr (pe_bm PySem.F.plainAttrs_list PySem.F.slot_list_extend PySem.F.type_list_extend mt_extend (pv 2) (pa_cons (pv 5) pa_nil)))
      (pss_one (ps_set (i := 3) scAnswers.nd rfl (by first | exact Or.inl rfl | exact Or.inr rfl) (pe_op op_add (pe_op op_add (pv 3) pe_int) (pe_callB call_len_seq rfl T.nLen PySem.boot_len (pa_cons (pv 4) pa_nil))))))))))
      (pss_one (ps_ret (pv 2))))))), ?_⟩
    obtain ⟨qs, en, hq60, good, ea⟩ := asked_calls ask
    have short := asked_short ask
    rw [ea] at short q
    subst en
    refine fun x dx nx ndx nex => ⟨x, dx, rfl, upd_same, fun H1 ls lw ld t1 f1 f2 f3 kp => ⟨rfl, Nat.zero_le _, fun r hr' => ?_⟩⟩
    have s1 : Same H H1 := Same.made nx ndx kp
    have up : ∀ y : Addr, (upd (upd H dx (.own x)) x (.ins ad.CTournament dx [])) y = none → H y = none := fun y z => by
      by_cases e1 : y = x
      · rw [e1]; exact nx
      · by_cases e2 : y = dx
        · rw [e2]; exact ndx
        · rw [upd_ne e1, upd_ne e2] at z
          exact z
    have s1r : Same H1 (upd H1 r (.lst [])) := same_upd hr'
    refine while_by (fun σ H' => ∃ (dn rest : List Sj09.Call) (b : Sj09.Basho) (dx ls lw ld : Addr) (acc : List Int) (o4 o5 : Option V), σ = [some (.ref l), some (.ref x), some (.ref r), some (.int (((flats dn).length : Nat) : Int)), o4, o5] ∧ qs = dn ++ rest ∧ TourAt ad.CTournament H' x b dx ls lw ld ∧ WF b ∧ b.met.length ≤ dn.length ∧ Same H H' ∧ (∀ y ∈ [x, ls, lw, ld], H y = none) ∧ (¬ r ∈ [x, ls, lw, ld]) ∧ H' r = some (.lst (iV acc)) ∧ acc ++ due b rest = due Sj09.init qs)
      (mu3 (flats qs).length) ⟨[], qs, Sj09.init, dx, ls, lw, ld, [], none, none, rfl, rfl, t1.same s1r, wf_init, Nat.zero_le _, s1.trans s1r, ?_, t1.out hr', upd_same, rfl⟩ ?_ ?_
    · intro y hy
      simp only [List.mem_cons, List.not_mem_nil, or_false] at hy
      rcases hy with rfl | rfl | rfl | rfl
      · exact nx
      · exact up _ f1
      · exact up _ f2
      · exact up _ f3
    · rintro σ H' ⟨dn, rest, b, dx, ls, lw, ld, acc, o4, o5, rfl, eq, t, wf, hm, sm, fr, nr, er, ed⟩
      have sl' := sm.seq sl
      refine ⟨_, rfl, _, rfl, l, _, rfl, .inl sl', _, _, rfl, rfl, _, rfl, ite2 (fun c => ?_) (fun c => ?_)⟩
      · have c := of_decide_eq_true c
        rw [List.length_map] at c
        cases rest with
        | nil =>
          rw [eq, List.append_nil] at c
          omega
        | cons k rest =>
          have ef : flats qs = flats dn ++ flat1 k ++ flats rest := by
            rw [eq, flats_append, List.append_assoc]
            rfl
          have sl2 : SqL K H' l (iV (flats dn ++ flat1 k ++ flats rest)) := by
            rw [← ef]
            exact sl'
          have dnl : dn.length ≤ 60 := by
            rw [eq, List.length_append] at hq60
            omega
          refine ⟨_, rfl, _, rfl, l, flats dn, flats rest, k, rfl, sl2, fun H2 p s2 hp e2 => ?_⟩
          have t2 := t.same s2
          refine ⟨_, rfl, _, rfl, _, rfl, l, _, _, _, rfl, rfl, s2.seq sl2, atI_nat iV_mid, _, rfl, x, dx, ls, lw, ld, p, b, k, rfl, t2, wf, by omega, good k (by rw [eq]; exact List.mem_append_right _ List.mem_cons_self), e2, fun H3 pa dx' ls' lw' ld' t3 ox kp3 hpa npa e3 => ?_⟩
          have r2 := s2 _ _ er
          have r3 := kp3 _ _ r2 nr
          have np : ¬ p ∈ [x, ls, lw, ld] := t.out hp
          have p3 := kp3 _ _ e2 np
          have npr : p ≠ r := fun z => by rw [z, er] at hp; cases hp
          have nar : pa ≠ r := fun z => by rw [z, r2] at hpa; cases hpa
          have nap : pa ≠ p := fun z => by rw [z, e2] at hpa; cases hpa
          have lens : acc.length + 1 + (ans1 b k).length ≤ 10000000 := by
            have z := congrArg List.length ed
            rw [List.length_append] at z
            show acc.length + 1 + (ans1 b k).length ≤ 10000000
            have z2 : (due b (k :: rest)).length = (ans1 b k).length + 1 + (due (Sj09.step b k).1 rest).length := by
              show ((((ans1 b k).length : Int) :: ans1 b k) ++ due (Sj09.step b k).1 rest).length = _
              rw [List.length_append, List.length_cons]
            omega
          refine ⟨_, rfl, .inl ⟨rfl, _, SqL.of r3⟩, _, rfl, pa, _, rfl, .inl (SqL.of e3), r, _, _, rfl, rfl, r3, ?_, ?_⟩
          · rw [iV_len, sizeLine_eq]
            omega
          refine ⟨_, rfl, .inl ⟨rfl, _, SqL.of upd_same⟩, _, rfl, r, pa, _, _, rfl, rfl, upd_same, (by rw [upd_ne nar]; exact e3), ?_, ?_⟩
          · rw [List.length_append, iV_len, iV_len, sizeLine_eq]
            show acc.length + 1 + (ans1 b k).length ≤ 16777216
            omega
          refine ⟨_, rfl, _, _, rfl, rfl, _, rfl, p, _, rfl, .inl (SqL.of (by rw [upd_ne npr, upd_ne npr]; exact p3)), _, _, rfl, rfl, ?_, ?_⟩
          · have keep : ∀ y ∈ [x, ls', lw', ld'], y ≠ r := fun y hy z => by
              simp only [List.mem_cons, List.not_mem_nil, or_false] at hy
              have nr0 : ∀ y', y' = ls' ∨ y' = lw' ∨ y' = ld' → y' ≠ r := fun y' hy' z' => by
                rcases ox y' (by simpa using hy') with w | w
                · exact nr (z' ▸ List.mem_cons_of_mem _ (by
                    have w' : y' ∈ [x, ls, lw, ld] := w
                    rcases List.mem_cons.mp w' with w' | w'
                    · exact absurd (w' ▸ z' ▸ List.mem_cons_self) nr
                    · exact w'))
                · rw [z', r2] at w
                  cases w
              rcases hy with hy | hy
              · exact nr (by rw [← z, hy]; exact List.mem_cons_self)
              · exact nr0 y hy z
            refine ⟨dn ++ [k], rest, (Sj09.step b k).1, dx', ls', lw', ld', acc ++ (((ans1 b k).length : Int) :: ans1 b k), some (V.ref p), some (V.ref pa), ?_, by rw [eq, List.append_assoc]; rfl, ?_, wf_step wf k, ?_, ?_, ?_, ?_, ?_, ?_⟩
            · have e : (((flats dn).length : Nat) : Int) + 1 + (((iV (tl k)).length : Nat) : Int) = (((flats (dn ++ [k])).length : Nat) : Int) := by
                have z : flats (dn ++ [k]) = flats dn ++ (hd k :: tl k) := by
                  rw [flats_append, ← flat1_eq]
                  show flats dn ++ (flat1 k ++ []) = _
                  rw [List.append_nil]
                rw [z, List.length_append, List.length_cons, iV_len]
                omega
              rw [← e]
              rfl
            · refine ⟨?_, ?_, ?_, ?_, t3.ne⟩
              · rw [upd_ne (keep _ (by simp)), upd_ne (keep _ (by simp))]; exact t3.obj
              · rw [upd_ne (keep _ (by simp)), upd_ne (keep _ (by simp))]; exact t3.st
              · rw [upd_ne (keep _ (by simp)), upd_ne (keep _ (by simp))]; exact t3.wn
              · rw [upd_ne (keep _ (by simp)), upd_ne (keep _ (by simp))]; exact t3.mt
            · have z := met_step b k
              rw [List.length_append]
              show _ ≤ dn.length + 1
              omega
            · intro y o hy
              have ny : y ≠ r := fun z => by
                rw [z, s1.free hr'] at hy
                cases hy
              have no : ¬ y ∈ [x, ls, lw, ld] := fun z => by
                rw [fr y z] at hy
                cases hy
              rw [upd_ne ny, upd_ne ny]
              exact kp3 _ _ (s2 _ _ (sm _ _ hy)) no
            · intro y hy
              rcases List.mem_cons.mp hy with hy | hy
              · rw [hy]; exact nx
              · rcases ox y hy with w | w
                · exact fr y w
                · exact sm.free (s2.free w)
            · exact fun z => keep r z rfl
            · rw [upd_same, iV_append, List.append_assoc, iV_len]
              rfl
            · rw [List.append_assoc, ← ed]
              rfl
          · show (flats qs).length - ((((flats dn).length : Nat) : Int) + 1 + (((iV (tl k)).length : Nat) : Int)).toNat < (flats qs).length - (((flats dn).length : Nat) : Int).toNat
            omega
      · have c : ¬ (((flats dn).length : Nat) : Int) < ((((flats qs).map V.int).length : Nat) : Int) := fun z => c (decide_eq_true z)
        rw [List.length_map] at c
        cases rest with
        | cons k rest =>
          exfalso
          apply c
          rw [eq, flats_append, List.length_append]
          show _ < (((flats dn).length + (flat1 k ++ flats rest).length : Nat) : Int)
          rw [flat1_eq, List.length_append, List.length_cons]
          omega
        | nil =>
          refine ⟨_, rfl, q H' r ?_⟩
          rw [er, ← ed]
          show _ = some (HO.lst ((acc ++ []).map V.int))
          rw [List.append_nil]
          rfl
    · rintro σ H' Q1 Q2 m ⟨v, e1, u, e2, p', ys, e3, sq, i', j', e4, e5, k', e6, z⟩
      exact ⟨v, e1, u, e2, p', ys, e3, sq, i', j', e4, e5, k', e6, m _ _ z⟩
end
end Rb

open PySem PySem.W PyProof.Rows
set_option maxRecDepth 100001 in
set_option maxHeartbeats 0 in
theorem PySem.Challenge.cw_rankbouts_s01_answers_holds : PySem.Challenge.rw_rankbouts_s01_answers.Holds := by
  w_on; k_headS; (case hw => exact ⟨[.list [.int 5]], by decide +kernel, by decide +kernel⟩)
  k_fillS
  refine L2.walk_specK (r := PySem.Challenge.rw_rankbouts_s01_answers) (k := 7) (CX := L2.CX0) (ps := ["calls"]) (sp := Rb.spAnswers) (by decide +kernel) rfl rfl ⟨rfl, by decide, by decide⟩ (fun w h Y => PySem.W.kIn_of Y) ?F ?S (fun _ _ _ _ z => z)
  case F =>
    intro w mg fa h Y KX G hmg
    have T : ∃ ad : Rb.Adr, Rb.Txt (L2.KOf KX) mg ad ∧ ad.fAnswers = fa := by
      dsimp only [L2.KOf]
      refine' Rb.txt_mk KX G hmg ?zCTournament ?zAInitTournament ?zIInitTournament ?zLInitTournament ?zDInitTournament ?zKInitTournament ?zARestart ?zIRestart ?zLRestart ?zDRestart ?zKRestart ?zAIsThere ?zIIsThere ?zLIsThere ?zDIsThere ?zKIsThere ?zAMayMeet ?zIMayMeet ?zLMayMeet ?zDMayMeet ?zKMayMeet ?zARivalsOf ?zIRivalsOf ?zLRivalsOf ?zDRivalsOf ?zKRivalsOf ?zARivalsOfEach ?zIRivalsOfEach ?zLRivalsOfEach ?zDRivalsOfEach ?zKRivalsOfEach ?zAApart ?zIApart ?zLApart ?zDApart ?zKApart ?zAOff ?zIOff ?zLOff ?zDOff ?zKOff ?zABegins ?zIBegins ?zLBegins ?zDBegins ?zKBegins ?zAWrestler ?zIWrestler ?zLWrestler ?zDWrestler ?zKWrestler ?zAMet ?zIMet ?zLMet ?zDMet ?zKMet ?zACheck ?zICheck ?zLCheck ?zDCheck ?zKCheck ?zABest ?zIBest ?zLBest ?zDBest ?zKBest ?zAWhy ?zIWhy ?zLWhy ?zDWhy ?zKWhy ?zAPairOf ?zLPairOf ?zDPairOf ?zKPairOf ?zAFirstsOfBouts ?zLFirstsOfBouts ?zDFirstsOfBouts ?zKFirstsOfBouts ?zAWithBout ?zLWithBout ?zDWithBout ?zKWithBout ?zADaysThatCanBe ?zLDaysThatCanBe ?zDDaysThatCanBe ?zKDaysThatCanBe ?zAIsAway ?zLIsAway ?zDIsAway ?zKIsAway ?zASizeOf ?zLSizeOf ?zDSizeOf ?zKSizeOf ?zAOddGroups ?zLOddGroups ?zDOddGroups ?zKOddGroups ?zAGroupFrom ?zLGroupFrom ?zDGroupFrom ?zKGroupFrom ?zANumbersBehind ?zLNumbersBehind ?zDNumbersBehind ?zKNumbersBehind ?zAAnswerCall ?zLAnswerCall ?zDAnswerCall ?zKAnswerCall ?zAAnswers ?zLAnswers ?zDAnswers ?zKAnswers ?zGBegins ?zGWrestler ?zGMet ?zGCheck ?zGBest ?zGWhy ?zGOutOfRange ?zGNotThere ?zGMayNotMeet ?zGFull ?zGNotMetBack ?zGBoutMayNotBe ?zGHighestWeight ?zGHighestStable ?zGMostWins ?zGMostWrestlers ?zNAbs ?zNAll ?zNEnumerate ?zNLen ?zNList ?zNMax ?zNMin ?zNRange ?zNSum ?zPTournament ?zHTournament ?zOTournament ?zSTournament ?zMTournament ?zETournament ?zFTournamentRankWeight ?zFTournamentWinsWeight ?zFTournamentStables ?zFTournamentWon ?zFTournamentMetPairs
      (case zCTournament => k_is)
      (case zAInitTournament => k_is)
      (case zIInitTournament => k_is)
      (case zLInitTournament => k_is)
      (case zDInitTournament => k_is)
      (case zKInitTournament => k_is)
      (case zARestart => k_is)
      (case zIRestart => k_is)
      (case zLRestart => k_is)
      (case zDRestart => k_is)
      (case zKRestart => k_is)
      (case zAIsThere => k_is)
      (case zIIsThere => k_is)
      (case zLIsThere => k_is)
      (case zDIsThere => k_is)
      (case zKIsThere => k_is)
      (case zAMayMeet => k_is)
      (case zIMayMeet => k_is)
      (case zLMayMeet => k_is)
      (case zDMayMeet => k_is)
      (case zKMayMeet => k_is)
      (case zARivalsOf => k_is)
      (case zIRivalsOf => k_is)
      (case zLRivalsOf => k_is)
      (case zDRivalsOf => k_is)
      (case zKRivalsOf => k_is)
      (case zARivalsOfEach => k_is)
      (case zIRivalsOfEach => k_is)
      (case zLRivalsOfEach => k_is)
      (case zDRivalsOfEach => k_is)
      (case zKRivalsOfEach => k_is)
      (case zAApart => k_is)
      (case zIApart => k_is)
      (case zLApart => k_is)
      (case zDApart => k_is)
      (case zKApart => k_is)
      (case zAOff => k_is)
      (case zIOff => k_is)
      (case zLOff => k_is)
      (case zDOff => k_is)
      (case zKOff => k_is)
      (case zABegins => k_is)
      (case zIBegins => k_is)
      (case zLBegins => k_is)
      (case zDBegins => k_is)
      (case zKBegins => k_is)
      (case zAWrestler => k_is)
      (case zIWrestler => k_is)
      (case zLWrestler => k_is)
      (case zDWrestler => k_is)
      (case zKWrestler => k_is)
      (case zAMet => k_is)
      (case zIMet => k_is)
      (case zLMet => k_is)
      (case zDMet => k_is)
      (case zKMet => k_is)
      (case zACheck => k_is)
      (case zICheck => k_is)
      (case zLCheck => k_is)
      (case zDCheck => k_is)
      (case zKCheck => k_is)
      (case zABest => k_is)
      (case zIBest => k_is)
      (case zLBest => k_is)
      (case zDBest => k_is)
      (case zKBest => k_is)
      (case zAWhy => k_is)
      (case zIWhy => k_is)
      (case zLWhy => k_is)
      (case zDWhy => k_is)
      (case zKWhy => k_is)
      (case zAPairOf => k_is)
      (case zLPairOf => k_is)
      (case zDPairOf => k_is)
      (case zKPairOf => k_is)
      (case zAFirstsOfBouts => k_is)
      (case zLFirstsOfBouts => k_is)
      (case zDFirstsOfBouts => k_is)
      (case zKFirstsOfBouts => k_is)
      (case zAWithBout => k_is)
      (case zLWithBout => k_is)
      (case zDWithBout => k_is)
      (case zKWithBout => k_is)
      (case zADaysThatCanBe => k_is)
      (case zLDaysThatCanBe => k_is)
      (case zDDaysThatCanBe => k_is)
      (case zKDaysThatCanBe => k_is)
      (case zAIsAway => k_is)
      (case zLIsAway => k_is)
      (case zDIsAway => k_is)
      (case zKIsAway => k_is)
      (case zASizeOf => k_is)
      (case zLSizeOf => k_is)
      (case zDSizeOf => k_is)
      (case zKSizeOf => k_is)
      (case zAOddGroups => k_is)
      (case zLOddGroups => k_is)
      (case zDOddGroups => k_is)
      (case zKOddGroups => k_is)
      (case zAGroupFrom => k_is)
      (case zLGroupFrom => k_is)
      (case zDGroupFrom => k_is)
      (case zKGroupFrom => k_is)
      (case zANumbersBehind => k_is)
      (case zLNumbersBehind => k_is)
      (case zDNumbersBehind => k_is)
      (case zKNumbersBehind => k_is)
      (case zAAnswerCall => k_is)
      (case zLAnswerCall => k_is)
      (case zDAnswerCall => k_is)
      (case zKAnswerCall => k_is)
      (case zAAnswers => k_is)
      (case zLAnswers => k_is)
      (case zDAnswers => k_is)
      (case zKAnswers => k_is)
      (case zGBegins => k_is)
      (case zGWrestler => k_is)
      (case zGMet => k_is)
      (case zGCheck => k_is)
      (case zGBest => k_is)
      (case zGWhy => k_is)
      (case zGOutOfRange => k_is)
      (case zGNotThere => k_is)
      (case zGMayNotMeet => k_is)
      (case zGFull => k_is)
      (case zGNotMetBack => k_is)
      (case zGBoutMayNotBe => k_is)
      (case zGHighestWeight => k_is)
      (case zGHighestStable => k_is)
      (case zGMostWins => k_is)
      (case zGMostWrestlers => k_is)
      (case zNAbs => k_is)
      (case zNAll => k_is)
      (case zNEnumerate => k_is)
      (case zNLen => k_is)
      (case zNList => k_is)
      (case zNMax => k_is)
      (case zNMin => k_is)
      (case zNRange => k_is)
      (case zNSum => k_is)
      (case zPTournament => k_is)
      (case zHTournament => k_is)
      (case zOTournament => k_is)
      (case zSTournament => k_is)
      (case zMTournament => k_is)
      (case zETournament => k_is)
      (case zFTournamentRankWeight => k_is)
      (case zFTournamentWinsWeight => k_is)
      (case zFTournamentStables => k_is)
      (case zFTournamentWon => k_is)
      (case zFTournamentMetPairs => k_is)
    obtain ⟨ad, T, rfl⟩ := T
    exact ⟨ad.fdAnswers, T.bindAll, fun base _ _ => Rb.ok_Answers T⟩
  case S =>
    intro K H xs a hO hwi hask hx
    cases hx with
    | cons h1 h2 =>
      cases h2
      cases h1 with
      | lst hs ha =>
        have e := L2.ints_dw a.1 _ ha
        subst e
        have q : PySj09.answers_asked a.1 = true := hask
        exact ⟨_, a.1, rfl, hs, q, fun H' p hp => .lst (L2.SqL.of hp) (L2.dw_ints _)⟩

