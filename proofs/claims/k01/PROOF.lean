import PyProof.Rows.All
import Wide.All
import OpenK.AllK
import Wide.FinOn
import Lean
import PyProof.EqAt
import PyProof.EqKinds
import PyProof.TupleCall
import PyProof.Rows.StrLen
import PyProof.Rows.StrStep
import KE.KTryMore
import PyProof.NeKinds
import PySem.Challenge.RW_quiltyard_k01_pictures
set_option Elab.async false
set_option linter.all false
set_option maxRecDepth 100000
/-! THE HAND LAYER, for ints, bools, texts, own classes, LISTS and tuples (index, slices, in, append, pop ..), calls, loops. Paste it whole ahead of your own text; what your proof does not reach may be deleted. -/
namespace L2
open PySem PySem.Spec PyProof.Rows

/-- a key: an int or a str -/
abbrev Key := Sum Int Str
def keyIs : Key → Value → Bool
  | .inl k, v => Value.isInt k v
  | .inr x, v => Value.isStrOf x v
def keyH (w : World) : Key → Int
  | .inl k => hashInt k
  | .inr x => hashStr w x
theorem keyIs_shape : ∀ {k : Key} {v : Value}, keyIs k v = true → (∃ i t, k = Sum.inl i ∧ v = Value.int i t) ∨ (∃ x t, k = Sum.inr x ∧ v = Value.str x t)
  | .inl i, v, h => by
    obtain ⟨t, e⟩ := Value.isInt_shape (k := i) (v := v) h
    exact .inl ⟨i, t, rfl, e⟩
  | .inr x, v, h => by
    obtain ⟨t, e⟩ := Value.isStrOf_shape (x := x) (v := v) h
    exact .inr ⟨x, t, rfl, e⟩
theorem keyIs_int (i : Int) (t : Tok) : keyIs (.inl i) (.int i t) = true := by simp [keyIs, Value.isInt]
theorem keyIs_str (x : Str) (t : Tok) : keyIs (.inr x) (.str x t) = true := by simp [keyIs, Value.isStrOf]
theorem key_ll (a b : Int) : decide ((Sum.inl a : Key) = Sum.inl b) = (a == b) := by
  by_cases e : a = b
  · subst e; simp
  · have h : ¬ (Sum.inl a : Key) = Sum.inl b := fun q => e (Sum.inl.inj q)
    rw [decide_eq_false h]
    exact (beq_eq_false_iff_ne.mpr e).symm
theorem key_rr (a b : Str) : decide ((Sum.inr a : Key) = Sum.inr b) = decide (a = b) := by
  by_cases e : a = b
  · subst e; simp
  · have h : ¬ (Sum.inr a : Key) = Sum.inr b := fun q => e (Sum.inr.inj q)
    rw [decide_eq_false h, decide_eq_false e]
theorem key_lr (a : Int) (b : Str) : decide ((Sum.inl a : Key) = Sum.inr b) = false := decide_eq_false (fun q => nomatch q)
theorem key_rl (a : Str) (b : Int) : decide ((Sum.inr a : Key) = Sum.inl b) = false := decide_eq_false (fun q => nomatch q)

def mixKind (prog : Program) (w : World) : PySem.KeyKind prog w Key where
  is := keyIs
  hash := keyH w
  inj := fun v a b ha hb => by
    rcases keyIs_shape ha with ⟨i, t, rfl, rfl⟩ | ⟨x, t, rfl, rfl⟩
    · rcases keyIs_shape hb with ⟨j, u, rfl, e⟩ | ⟨y, u, rfl, e⟩
      · injection e with e1 _; rw [e1]
      · exact nomatch e
    · rcases keyIs_shape hb with ⟨j, u, rfl, e⟩ | ⟨y, u, rfl, e⟩
      · exact nomatch e
      · injection e with e1 _; rw [e1]
  byValue := fun k v h => by
    rcases keyIs_shape h with ⟨i, t, rfl, rfl⟩ | ⟨x, t, rfl, rfl⟩ <;> rfl
  pyHash := fun hv h => by
    rcases keyIs_shape hv with ⟨i, t, rfl, rfl⟩ | ⟨x, t, rfl, rfl⟩
    · exact wpAny_pyHash_int h
    · exact wpAny_pyHash_str h
  eqBool := fun hu hv h => by
    rcases keyIs_shape hu with ⟨i, t, rfl, rfl⟩ | ⟨x, t, rfl, rfl⟩
    · rcases keyIs_shape hv with ⟨j, u, rfl, rfl⟩ | ⟨y, u, rfl, rfl⟩
      · rw [key_ll] at h; exact wpAny_eqBool_int h
      · rw [key_lr] at h; exact SeqAt.EqAt.int_str i t y u _ _ _ _ h
    · rcases keyIs_shape hv with ⟨j, u, rfl, rfl⟩ | ⟨y, u, rfl, rfl⟩
      · rw [key_rl] at h; exact SeqAt.EqAt.str_int x t j u _ _ _ _ h
      · rw [key_rr] at h; exact wpAny_eqBool_str h
  «strs» := fun k x t v h => by
    rcases keyIs_shape h with ⟨i, u, rfl, e⟩ | ⟨y, u, rfl, e⟩
    · exact nomatch e
    · injection e with e1 _
      subst e1
      cases v <;> rfl

theorem mixKind_is (prog : Program) (w : World) (k : Key) (v : Value) : (mixKind prog w).is k v = keyIs k v := rfl
theorem mixKind_int (prog : Program) (w : World) (i : Int) (t : Tok) : (mixKind prog w).is (.inl i) (.int i t) = true := keyIs_int i t
theorem mixKind_str (prog : Program) (w : World) (x : Str) (t : Tok) : (mixKind prog w).is (.inr x) (.str x t) = true := keyIs_str x t
end L2

namespace L2
open PySem PySem.Spec PyProof.Rows

/-- a value, without the heap -/
inductive V where
  | non | bl (b : Bool) | int (i : Int) | str (x : Str) | byt (b : Array UInt8) | flt (b : UInt64) | ref (a : Addr) | ty (n : String)
  deriving DecidableEq

def RelV : V → Value → Prop
  | .non, u => u = Value.none
  | .bl b, u => u = Value.bool b
  | .int i, u => ∃ t, u = Value.int i t
  | .str x, u => ∃ t, u = Value.str x t
  | .byt b, u => ∃ t, u = Value.bytes b t
  | .flt b, u => ∃ t, u = Value.float b t
  | .ref a, u => u = Value.ref a
  | .ty n, u => u = Value.type n

abbrev Vals : List V → List Value → Prop := Paired RelV
theorem Vals.length {xs : List V} {us : List Value} (r : Vals xs us) : xs.length = us.length := Paired.length r
theorem Vals.get : ∀ {xs : List V} {us : List Value} {i : Nat} {x : V}, Vals xs us → xs[i]? = some x → ∃ u, us[i]? = some u ∧ RelV x u
  | _, _, _, _, .nil, e => by simp at e
  | _, _, 0, _, .cons r _, e => by simp at e; subst e; exact ⟨_, rfl, r⟩
  | _, _, i + 1, x, .cons _ t, e => by
    obtain ⟨u, h1, h2⟩ := Vals.get (i := i) (x := x) t (by simpa using e)
    exact ⟨u, by simpa using h1, h2⟩
theorem Vals.set {x : V} {u : Value} (r : RelV x u) : ∀ {xs : List V} {us : List Value} (i : Nat), Vals xs us → Vals (xs.set i x) (us.set i u)
  | _, _, _, .nil => .nil
  | _, _, 0, .cons _ t => .cons r t
  | _, _, i + 1, .cons q t => .cons q (Vals.set r i t)
theorem Vals.append : ∀ {xs ys : List V} {us ws : List Value}, Vals xs us → Vals ys ws → Vals (xs ++ ys) (us ++ ws)
  | _, _, _, _, .nil, s => s
  | _, _, _, _, .cons r t, s => .cons r (Vals.append t s)
theorem Vals.take : ∀ {xs : List V} {us : List Value} (n : Nat), Vals xs us → Vals (xs.take n) (us.take n)
  | _, _, 0, _ => .nil
  | _, _, _ + 1, .nil => .nil
  | _, _, n + 1, .cons r t => .cons r (Vals.take n t)
theorem Vals.drop : ∀ {xs : List V} {us : List Value} (n : Nat), Vals xs us → Vals (xs.drop n) (us.drop n)
  | _, _, 0, r => r
  | _, _, _ + 1, .nil => .nil
  | _, _, n + 1, .cons _ t => Vals.drop n t
theorem Vals.none_of : ∀ {xs : List V} {us : List Value} {i : Nat}, Vals xs us → xs[i]? = none → us[i]? = none := fun {xs us i} r e => by
  have h1 := r.length
  have h2 : xs.length ≤ i := List.getElem?_eq_none_iff.mp e
  exact List.getElem?_eq_none_iff.mpr (by omega)

def RelO : Option V → Option Value → Prop
  | some v, some u => RelV v u
  | none, none => True
  | _, _ => False
def KV {κ : Type} : List (κ × V) → List (κ × Value) → Prop := Paired fun (p : κ × V) (q : κ × Value) => p.1 = q.1 ∧ RelV p.2 q.2

/-- a key of a dict (00_mix): an int or a text -/
def kV : Key → V
  | .inl i => .int i
  | .inr x => .str x

/-- what stands at a tracked address -/
inductive HO where
  /-- a list -/
  | lst (xs : List V)
  /-- a tuple (never changes) -/
  | tup (xs : List V)
  /-- a dict whose keys are ints and texts; one whose keys are tuples of ints and texts (the empty one is both) -/
  | dK (kvs : List (Key × V)) | dT (kvs : List (List Key × V))
  /-- a set of ints: its members, its size -/
  | set (S : Int → Bool) (n : Nat)
  /-- an instance of the class at C, its dict at dx, its attributes -/
  | ins (C dx : Addr) (fs : List (Str × V))
  /-- the dict of the instance at x -/
  | own (x : Addr)
  /-- the dict of an exception -/
  | xd (fs : List (Str × V))
  /-- a bound method, f of x -/
  | met (f x : Addr)
  /-- a range object lo, lo + 1, .. below hi -/
  | rng (lo hi : Int)
  /-- a thing that is known to the object (the script; a dict while a loop walks it): read, never written while it is so -/
  | frz (o : Obj) (u : HO)
  /-- a code object's table -/
  | tbl (ps : Array Value)
  /-- any other thing, by what is true of its one object (a def of one's own: SetO a S n := HO.ext fun h => ..) -/
  | ext (φ : Heap → Prop)

abbrev Hp := Addr → Option HO
def upd (H : Hp) (a : Addr) (o : HO) : Hp := fun b => if b = a then some o else H b
theorem upd_same {H : Hp} {a : Addr} {o : HO} : upd H a o a = some o := by unfold upd; rw [if_pos rfl]
theorem upd_ne {H : Hp} {a b : Addr} {o : HO} (h : b ≠ a) : upd H a o b = H b := by unfold upd; rw [if_neg h]
theorem upd_upd {H : Hp} {a : Addr} {o u : HO} : upd (upd H a o) a u = upd H a u := by
  funext b; unfold upd; split <;> rfl
/-- two objects of different content stand apart -/
theorem ne_of {H : Hp} {a b : Addr} {o u : HO} (h : H a = some o) (h' : H b = some u) (d : o ≠ u) : a ≠ b := by
  intro e; subst e; rw [h] at h'; exact d (Option.some.inj h')
theorem ne_of_none {H : Hp} {a b : Addr} {o : HO} (h : H a = some o) (h' : H b = none) : a ≠ b := by
  intro e; subst e; rw [h] at h'; cases h'

section
variable (P : Program) (w : World)
def ObjOk (H : Hp) (h : Heap) (a : Addr) : HO → Prop
  | .lst xs => xs.length ≤ sizeLine ∧ ∃ (its : List Value) (n : Nat), Vals xs its ∧ h.get? a = some { cls := .type "list", data := .seq its.toArray n }
  | .tup xs => xs.length ≤ sizeLine ∧ ∃ its : List Value, Vals xs its ∧ IsTup h a its.toArray
  | .dK kvs => kvs.length ≤ sizeLine ∧ (a == sysModules) = false ∧ ∃ vs, KV kvs vs ∧ h.DictOf (mixKind P w) a vs
  | .dT kvs => kvs.length ≤ sizeLine ∧ (a == sysModules) = false ∧ ∃ xs : List (List Key × Addr × Value),
      Paired (fun (p : List Key × V) (q : List Key × Addr × Value) => p.1 = q.1 ∧ H q.2.1 = some (.tup (p.1.map kV)) ∧ RelV p.2 q.2.2) kvs xs ∧
      ∃ o es ep, h.get? a = some o ∧ o.ExactDict ∧ o.data = .dict es ep ∧ es.toList = xs.map (entryOfKey (tupleKind (mixKind P w))) ∧ (xs.map (·.1)).Nodup
  | .set S n => h.SetOf (intKind P w) a S n
  | .ins C dx fs => H dx = some (.own a) ∧ fs.length ≤ 1000 ∧ dx ≠ a ∧ h.get? a = some (PySem.W.instObj C dx) ∧
      ∃ mA, h.Ns1 dx mA ∧ (∀ f, RelO (fs.lookup f) (mA f)) ∧ PySem.Within mA (fs.map (·.1))
  | .own _ => ∃ o, h.get? a = some o
  | .xd fs => ∃ mA, h.Ns1 a mA ∧ ∀ f, RelO (fs.lookup f) (mA f)
  | .rng lo hi => ∃ t u v, h.get? a = some { cls := .type "range", data := .fields #[.int lo t, .int hi u, .int 1 v] }
  | .frz o u => h.get? a = some o ∧ ObjOk H h a u
  | .tbl ps => h.get? a = some { cls := .none, data := .fields ps }
  | .met f x => h.get? a = some (PySem.W.methodObj (.ref f) (.ref x))
  | .ext φ => φ h ∧ (∃ o, h.get? a = some o) ∧ ∀ h1 h2 : Heap, φ h1 → (∀ o, h1.get? a = some o → h2.get? a = some o) → φ h2
/-- the abstract heap is held -/
def HOk (H : Hp) (h : Heap) : Prop := ∀ a o, H a = some o → ObjOk P w H h a o
end

section
variable {P : Program} {w : World} {H H' : Hp} {h h' : Heap} {a : Addr} {o : HO}
theorem ObjOk.lt (x : ObjOk P w H h a o) : a < h.objs.size := by
  cases o with
  | lst xs => obtain ⟨_, _, _, _, e⟩ := x; exact Heap.lt_size e
  | tup xs => obtain ⟨_, _, _, p⟩ := x; exact p.lt
  | dK kvs => obtain ⟨_, _, _, _, o, _, _, e, _⟩ := x; exact Heap.lt_size e
  | dT kvs => obtain ⟨_, _, _, _, o, _, _, e, _⟩ := x; exact Heap.lt_size e
  | set S n => obtain ⟨o, _, _, _, e, _⟩ := x; exact Heap.lt_size e
  | ins C dx fs => obtain ⟨_, _, _, e, _⟩ := x; exact Heap.lt_size e
  | own y => obtain ⟨_, e⟩ := x; exact Heap.lt_size e
  | xd fs => obtain ⟨_, ⟨_, _, _, e, _⟩, _⟩ := x; exact Heap.lt_size e
  | rng lo hi => obtain ⟨_, _, _, e⟩ := x; exact Heap.lt_size e
  | frz ob u => obtain ⟨e, _⟩ := x; exact Heap.lt_size e
  | tbl ps => exact Heap.lt_size (show h.get? a = some _ from x)
  | met f y => exact Heap.lt_size (show h.get? a = some _ from x)
  | ext φ => obtain ⟨_, ⟨_, e⟩, _⟩ := x; exact Heap.lt_size e
theorem Paired.mapP {α β : Type} {F G : α → β → Prop} : ∀ {l₁ : List α} {l₂ : List β}, Paired F l₁ l₂ → (∀ a b, F a b → G a b) → Paired G l₁ l₂
  | _, _, .nil, _ => .nil
  | _, _, .cons r t, f => .cons (f _ _ r) (Paired.mapP t f)
theorem Paired.imp' {α β : Type} {F G : α → β → Prop} (f : ∀ a b, F a b → G a b) {l₁ : List α} {l₂ : List β} (r : Paired F l₁ l₂) : Paired G l₁ l₂ := Paired.mapP r f
/-- what an object's description leans on: its own object, its own dict, the tuples -/
theorem ObjOk.stay (x : ObjOk P w H h a o) (k : ∀ b u, (b = a ∨ H b = some (.own a)) → h.get? b = some u → h'.get? b = some u)
    (ho : ∀ b, H b = some (.own a) → H' b = some (.own a)) (ht : ∀ b xs, H b = some (.tup xs) → H' b = some (.tup xs)) : ObjOk P w H' h' a o := by
  induction o with
  | lst xs => obtain ⟨z, its, n, r, e⟩ := x; exact ⟨z, its, n, r, k _ _ (.inl rfl) e⟩
  | tup xs => obtain ⟨z, its, r, ob, e, c⟩ := x; exact ⟨z, its, r, ob, k _ _ (.inl rfl) e, c⟩
  | dK kvs => obtain ⟨z, y, vs, r, ob, es, ep, e, c⟩ := x; exact ⟨z, y, vs, r, ob, es, ep, k _ _ (.inl rfl) e, c⟩
  | dT kvs =>
    obtain ⟨z, y, xs, r, ob, es, ep, e, c⟩ := x
    exact ⟨z, y, xs, Paired.mapP r fun p q z => ⟨z.1, ht _ _ z.2.1, z.2.2⟩, ob, es, ep, k _ _ (.inl rfl) e, c⟩
  | set S n => obtain ⟨ob, es, ep, t, e, c⟩ := x; exact ⟨ob, es, ep, t, k _ _ (.inl rfl) e, c⟩
  | ins C dx fs =>
    obtain ⟨d, z, ne, e, mA, ⟨od, es, ep, e2, c⟩, r⟩ := x
    exact ⟨ho _ d, z, ne, k _ _ (.inl rfl) e, mA, ⟨od, es, ep, k _ _ (.inr d) e2, c⟩, r⟩
  | own y => obtain ⟨ob, e⟩ := x; exact ⟨ob, k _ _ (.inl rfl) e⟩
  | xd fs => obtain ⟨mA, ⟨od, es, ep, e, c⟩, r⟩ := x; exact ⟨mA, ⟨od, es, ep, k _ _ (.inl rfl) e, c⟩, r⟩
  | rng lo hi => obtain ⟨t, u, v, e⟩ := x; exact ⟨t, u, v, k _ _ (.inl rfl) e⟩
  | frz ob u ih => obtain ⟨e, q⟩ := x; exact ⟨k _ _ (.inl rfl) e, ih q⟩
  | tbl ps =>
    have e : h.get? a = some { cls := .none, data := .fields ps } := x
    show h'.get? a = some { cls := .none, data := .fields ps }
    exact k a _ (.inl rfl) e
  | met f y =>
    have e : h.get? a = some (PySem.W.methodObj (.ref f) (.ref y)) := x
    show h'.get? a = some (PySem.W.methodObj (.ref f) (.ref y))
    exact k a _ (.inl rfl) e
  | ext φ => obtain ⟨p, ⟨o, e⟩, st⟩ := x; exact ⟨st _ _ p fun o q => k _ _ (.inl rfl) q, ⟨o, k _ _ (.inl rfl) e⟩, st⟩
theorem HOk.lt (x : HOk P w H h) (e : H a = some o) : a < h.objs.size := (x a o e).lt
theorem HOk.fresh (x : HOk P w H h) (e : h.objs.size ≤ a) : H a = none := by
  cases q : H a with
  | none => rfl
  | some u => exact absurd (Nat.lt_of_lt_of_le (x.lt q) e) (Nat.lt_irrefl _)
/-- every object of the heap is kept -/
theorem HOk.kept (x : HOk P w H h) (k : ∀ b u, h.get? b = some u → h'.get? b = some u) : HOk P w H h' := fun a o e =>
  (x a o e).stay (fun b u _ q => k b u q) (fun _ q => q) fun _ _ q => q
/-- a new object is laid and tracked -/
theorem HOk.laid (x : HOk P w H h) (k : ∀ b u, h.get? b = some u → h'.get? b = some u) (hp : h.objs.size ≤ a) (new : ObjOk P w (upd H a o) h' a o) : HOk P w (upd H a o) h' := fun b u e => by
  have hn := x.fresh hp
  by_cases hb : b = a
  · subst hb; rw [upd_same] at e; cases e; exact new
  · rw [upd_ne hb] at e
    exact (x b u e).stay (fun c v _ q => k c v q) (fun c q => by rw [upd_ne (ne_of_none q hn)]; exact q) fun c xs q => by rw [upd_ne (ne_of_none q hn)]; exact q
end

/-- what may be read as u: it is u, or a known u -/
def Rd (H : Hp) (a : Addr) (u : HO) : Prop := H a = some u ∨ ∃ o, H a = some (.frz o u)
theorem Rd.of {H : Hp} {a : Addr} {u : HO} (h : H a = some u) : Rd H a u := .inl h
theorem Rd.ok {P : Program} {w : World} {H : Hp} {h : Heap} {a : Addr} {u : HO} (r : Rd H a u) (x : HOk P w H h) : ObjOk P w H h a u := by
  rcases r with r | ⟨o, r⟩
  · exact x a u r
  · obtain ⟨_, q⟩ := x a _ r
    exact q
/-- what may be written -/
def Mut : Option HO → Prop
  | some (.lst _) => True
  | some (.dK _) => True
  | some (.dT _) => True
  | some (.set _ _) => True
  | some (.ins _ _ _) => True
  | some (.ext _) => True
  | _ => False
section
variable {P : Program} {w : World} {H : Hp} {h h' : Heap} {x e : Addr} {o' : HO}
/-- the object at e is changed: x itself, or the dict of the instance x -/
theorem HOk.write (ok : HOk P w H h) (mu : Mut (H x)) (he : e = x ∨ H e = some (.own x)) (k : ∀ b u, b ≠ e → h.get? b = some u → h'.get? b = some u) (heo : ∃ u, h'.get? e = some u)
    (new : ObjOk P w (upd H x o') h' x o') : HOk P w (upd H x o') h' := fun b u q => by
  have nown : ∀ c y, H c = some (.own y) → c ≠ x := fun c y r z => by subst z; rw [r] at mu; exact mu
  have ntup : ∀ c xs, H c = some (.tup xs) → c ≠ x := fun c xs r z => by subst z; rw [r] at mu; exact mu
  by_cases hb : b = x
  · subst hb; rw [upd_same] at q; cases q; exact new
  · rw [upd_ne hb] at q
    by_cases hbe : b = e
    · have q' : H b = some (.own x) := by
        rcases he with z | z
        · exact absurd (hbe.trans z) hb
        · rw [hbe]; exact z
      rw [q] at q'; cases q'
      obtain ⟨v, hv⟩ := heo
      exact ⟨v, by rw [hbe]; exact hv⟩
    · refine (ok b u q).stay (fun c v hc r => k c v ?_ r) (fun c r => by rw [upd_ne (nown c b r)]; exact r) fun c xs r => by rw [upd_ne (ntup c xs r)]; exact r
      rcases hc with rfl | hc
      · exact hbe
      · rintro rfl
        rcases he with z | z
        · exact nown c b hc z
        · rw [hc] at z; cases z; exact hb rfl
end

/-! ### kept unless tracked; of the frames at fs (the callers') the slots may change (an exception that passes writes there); of the records at ex (iterators) nothing is said -/
structure Un (fs ex : List Addr) (H H' : Hp) (h h' : Heap) : Prop where
  keep : ∀ b o, h.get? b = some o → H b = none → b ∉ fs → b ∉ ex → h'.get? b = some o
  slot : ∀ b o, h.get? b = some o → H b = none → b ∈ fs → b ∉ ex → ∃ sl, h'.get? b = some { o with slots := sl }
  free : ∀ b o, h.get? b = some o → H b = none → b ∉ ex → H' b = none
  there : ∀ b o, h.get? b = some o → b ∉ ex → ∃ o', h'.get? b = some o'
  tups : ∀ b xs, H b = some (.tup xs) → H' b = some (.tup xs)
  frzs : ∀ b o u, H b = some (.frz o u) → H' b = some (.frz o u)
  tbls : ∀ b ps, H b = some (.tbl ps) → ∃ more, H' b = some (.tbl (ps ++ more))
section
variable {fs fs' ex ex' : List Addr} {H H1 H2 : Hp} {h h1 h2 h' : Heap} {a x e : Addr} {o : HO}
theorem Un.any (u : Un fs ex H H1 h h1) {b : Addr} {ob : Obj} (q : h.get? b = some ob) (n : H b = none) (hx : b ∉ ex) : ∃ sl, h1.get? b = some { ob with slots := sl } := by
  by_cases hb : b ∈ fs
  · exact u.slot b ob q n hb hx
  · exact ⟨ob.slots, u.keep b ob q n hb hx⟩
theorem Un.trans (a : Un fs ex H H1 h h1) (b : Un fs ex H1 H2 h1 h2) : Un fs ex H H2 h h2 where
  keep := fun c ob q n hc hx => b.keep c ob (a.keep c ob q n hc hx) (a.free c ob q n hx) hc hx
  slot := fun c ob q n hc hx => by
    obtain ⟨sl, e1⟩ := a.slot c ob q n hc hx
    obtain ⟨sl', e2⟩ := b.slot c _ e1 (a.free c ob q n hx) hc hx
    exact ⟨sl', e2⟩
  free := fun c ob q n hx => by
    obtain ⟨o', e1⟩ := a.there c ob q hx
    exact b.free c o' e1 (a.free c ob q n hx) hx
  there := fun c ob q hx => by
    obtain ⟨o', e1⟩ := a.there c ob q hx
    exact b.there c o' e1 hx
  tups := fun c xs q => b.tups c xs (a.tups c xs q)
  frzs := fun c ob xs q => b.frzs c ob xs (a.frzs c ob xs q)
  tbls := fun c ps q => by
    obtain ⟨m1, e1⟩ := a.tbls c ps q
    obtain ⟨m2, e2⟩ := b.tbls c _ e1
    exact ⟨m1 ++ m2, by rw [e2, Array.append_assoc]⟩
theorem Un.kept (k : ∀ b u, h.get? b = some u → h'.get? b = some u) : Un fs ex H H h h' :=
  ⟨fun b ob q _ _ _ => k b ob q, fun b ob q _ _ _ => ⟨ob.slots, k b ob q⟩, fun _ _ _ n _ => n, fun b ob q _ => ⟨ob, k b ob q⟩, fun _ _ q => q, fun _ _ _ q => q, fun _ ps q => ⟨#[], by rw [q]; simp⟩⟩
theorem Un.refl : Un fs ex H H h h := Un.kept fun _ _ q => q
theorem Un.laid (k : ∀ b u, h.get? b = some u → h'.get? b = some u) (hp : h.objs.size ≤ a) (hn : H a = none) : Un fs ex H (upd H a o) h h' where
  keep := fun b u q _ _ _ => k b u q
  slot := fun b u q _ _ _ => ⟨u.slots, k b u q⟩
  free := fun b u q n _ => by rw [upd_ne (Nat.ne_of_lt (Nat.lt_of_lt_of_le (Heap.lt_size q) hp))]; exact n
  there := fun b u q _ => ⟨u, k b u q⟩
  tups := fun b xs q => by rw [upd_ne (ne_of_none q hn)]; exact q
  frzs := fun b u xs q => by rw [upd_ne (ne_of_none q hn)]; exact q
  tbls := fun b ps q => ⟨#[], by rw [upd_ne (ne_of_none q hn), q]; simp⟩
theorem Un.write (mu : Mut (H x)) (he : e = x ∨ H e = some (.own x)) (k : ∀ b u, b ≠ e → h.get? b = some u → h'.get? b = some u) (heo : ∃ u, h'.get? e = some u) : Un fs ex H (upd H x o) h h' := by
  have hx : ∀ b, H b = none → b ≠ x := fun b n z => by subst z; rw [n] at mu; exact mu
  have hb : ∀ b, H b = none → b ≠ e := fun b n z => by
    subst z
    rcases he with r | r
    · exact hx b n r
    · rw [n] at r; cases r
  have hm : ∀ b u, H b = some u → ¬ Mut (some u) → b ≠ x := fun b u q nm z => by subst z; rw [q] at mu; exact nm mu
  refine ⟨fun b u q n _ _ => k b u (hb b n) q, fun b u q n _ _ => ⟨u.slots, k b u (hb b n) q⟩, fun b u q n _ => by rw [upd_ne (hx b n)]; exact n, fun b u q _ => ?_,
    fun b xs q => by rw [upd_ne (hm b _ q fun z => z)]; exact q, fun b u xs q => by rw [upd_ne (hm b _ q fun z => z)]; exact q, fun b ps q => ⟨#[], by rw [upd_ne (hm b _ q fun z => z), q]; simp⟩⟩
  by_cases hbe : b = e
  · subst hbe; exact heo
  · exact ⟨u, k b u hbe q⟩
theorem Un.mono (u : Un fs ex H H1 h h1) (hs : ∀ b ∈ fs, b ∈ fs') (hx : ∀ b ∈ ex, b ∈ ex') : Un fs' ex' H H1 h h1 :=
  ⟨fun b ob q n hb he => u.keep b ob q n (fun z => hb (hs b z)) fun z => he (hx b z), fun _ _ q n _ he => u.any q n fun z => he (hx _ z), fun b ob q n he => u.free b ob q n fun z => he (hx b z), fun b ob q he => u.there b ob q fun z => he (hx b z), u.tups, u.frzs, u.tbls⟩
end

/-! ### the heap without what is tracked -/
def trk (h : Heap) (H : Hp) : List Addr := (List.range h.objs.size).filter fun a => (H a).isSome
def hidT (h : Heap) (H : Hp) : Heap := PySem.W.hideAll h (trk h H)
theorem hidT_size (h : Heap) (H : Hp) : (hidT h H).objs.size = h.objs.size := PySem.W.hideAll_size _ _
theorem hidT_get {h : Heap} {H : Hp} {b : Addr} {o : Obj} (e : h.get? b = some o) (n : H b = none) : (hidT h H).get? b = some o :=
  PySem.W.hideAll_get _ e fun hm => by
    have q : (H b).isSome = true := (List.mem_filter.mp hm).2
    rw [n] at q; simp at q
theorem of_hidT {h : Heap} {H : Hp} {b : Addr} {o : Obj} (e : (hidT h H).get? b = some o) : h.get? b = some o ∧ H b = none := by
  have e' : h.get? b = some o := PySem.W.of_hideAll (trk h H) e
  refine ⟨e', ?_⟩
  cases q : H b with
  | none => rfl
  | some x =>
    have hm : b ∈ trk h H := List.mem_filter.mpr ⟨List.mem_range.mpr (Heap.lt_size e'), by simp [q]⟩
    have z : (hidT h H).get? b = none := PySem.W.hideAll_none (trk h H) hm
    rw [z] at e; cases e

/-! ### OpenK's ledger, filled with every new object but one -/
def allNews (g h : Heap) (L : Addr) : List (Addr × Obj) := (List.range h.objs.size).filterMap fun a => if a = L ∨ (g.get? a).isSome = true then none else (h.get? a).map fun o => (a, o)
theorem mem_allNews {g h : Heap} {L a : Addr} {o : Obj} (h1 : a ≠ L) (h2 : g.get? a = none) (h3 : h.get? a = some o) : (a, o) ∈ allNews g h L :=
  List.mem_filterMap.mpr ⟨a, List.mem_range.mpr (Heap.lt_size h3), by simp [h1, h2, h3]⟩
theorem of_mem_allNews {g h : Heap} {L : Addr} {p : Addr × Obj} (hp : p ∈ allNews g h L) : p.1 ≠ L ∧ g.get? p.1 = none ∧ h.get? p.1 = some p.2 := by
  obtain ⟨b, _, e⟩ := List.mem_filterMap.mp hp
  split at e
  · cases e
  · rename_i hn
    cases q : h.get? b with
    | none => rw [q] at e; simp at e
    | some u =>
      rw [q] at e
      simp only [Option.map_some, Option.some.injEq] at e
      subst e
      refine ⟨fun z => hn (.inl z), ?_, q⟩
      show g.get? b = none
      cases r : g.get? b with
      | none => rfl
      | some v => exact (hn (.inr (by simp [r]))).elim
def rest (g h : Heap) (L d : Addr) : List (Addr × Obj) := (allNews g h L).filter fun p => decide (p.1 ≠ d)
theorem rest_ne {g h : Heap} {L d : Addr} : ∀ p ∈ rest g h L d, p.1 ≠ d := fun p hp => of_decide_eq_true (List.mem_filter.mp hp).2
theorem mem_rest {g h : Heap} {L d a : Addr} {o : Obj} (h1 : a ≠ L) (h2 : g.get? a = none) (h3 : h.get? a = some o) (h4 : a ≠ d) : (a, o) ∈ rest g h L d :=
  List.mem_filter.mpr ⟨mem_allNews h1 h2 h3, decide_eq_true h4⟩
theorem news_all {g h : Heap} {L : Addr} : News g L h (allNews g h L) := fun p hp => let ⟨a, b, c⟩ := of_mem_allNews hp; ⟨c, a, b⟩
theorem news_at {g h : Heap} {L d : Addr} {o : Obj} (h1 : d ≠ L) (h2 : g.get? d = none) (h3 : h.get? d = some o) : News g L h ((d, o) :: rest g h L d) := fun p hp => by
  rcases List.mem_cons.mp hp with rfl | hp
  · exact ⟨h3, h1, h2⟩
  · exact news_all p (List.mem_filter.mp hp).1
/-- behind a rule that changed d alone: all else but the frame is kept -/
theorem kept_of_news {g h h' : Heap} {L d : Addr} {m : Str → Option Value} (k : ∀ b o, g.get? b = some o → h.get? b = some o) (F : Fr g L h' m) (N : News g L h' (rest g h L d)) :
    ∀ b o, b ≠ L → b ≠ d → h.get? b = some o → h'.get? b = some o := fun b o h1 h2 e => by
  cases q : g.get? b with
  | some u =>
    have := k b u q
    rw [e] at this; cases this
    exact F.keep b _ q
  | none => exact (N (b, o) (mem_rest h1 q e h2)).1
end L2

namespace L2
open PySem PySem.Spec PyProof.Rows

/-- the module's facts, over the base: the heap at the law's entry without what is tracked there -/
structure Mod (K : PySem.W.Frag) (mg : Str → Option Value) (base : Heap) : Prop where
  kin : K.In base
  glob : base.Ns mainGlobals mg
  blt : ∃ mb, base.Ns builtinsNs mb ∧ ∀ x : Str, x ≠ "__name__" → mb x = bootBuiltins x
  nolimit : base.NoLimit

/-- the context: a def's body (or a comprehension's block) running. base: fixed through the whole law; s₀, H₀: the entry; outer: the frames whose slots others may change (a def's callers); stack: all frames that run;
   ex: iterators that were made ahead of the entry and are walked here (a comprehension's); fn: the names whose cells were made at the entry (a def: all; a comprehension's block: its own); calm: not within an except suite; pn: pins that every state bears; xe: what is wanted of an exception that leaves the code -/
structure Cx where
  prog : Program
  w : World
  K : PySem.W.Frag
  mg : Str → Option Value
  base : Heap
  A : Around
  N : List Str
  s₀ : Shared
  H₀ : Hp
  env : Env
  outer : List Env
  stack : List Env
  ex : List Addr
  fn : Str → Bool
  calm : Bool
  pn : List (Addr × Obj)
  xe : Value → Shared → Prop
/-- the callers' frames -/
def frs (l : List Env) : List Addr := l.filterMap (·.frame)
abbrev Cx.fs (X : Cx) : List Addr := frs X.outer

def Vis (sc : Scope) (x : Str) : Prop := sc.names.lookup x = some .local ∨ sc.names.lookup x = some .cell ∨ sc.names.lookup x = some .free
def Loc (sc : Scope) (x : Str) : Prop := sc.names.lookup x = some .local ∨ sc.names.lookup x = some .cell
def Look (env : Env) (h : Heap) (m : Str → Option Value) (x : Str) (u : Value) : Prop :=
  (env.kindOf x = some .local ∧ m x = some u) ∨ ((env.kindOf x = some .cell ∨ env.kindOf x = some .free) ∧ ∃ c, env.cells.lookup x = some c ∧ h.IsCell c (some u))

structure Cx.Ok (X : Cx) : Prop where
  mod : Mod X.K X.mg X.base
  kind : X.env.scope.kind = .function
  glob : X.env.globals = mainGlobals
  blt : X.env.builtins = builtinsNs
  above : X.s₀.heap.objs.size ≤ X.env.locals
  inj : ∀ x y c, X.env.cells.lookup x = some c → X.env.cells.lookup y = some c → x = y
  has : ∀ x, (X.env.kindOf x = some .cell ∨ X.env.kindOf x = some .free) → ∃ c, X.env.cells.lookup x = some c
  cab : ∀ x c, X.fn x = true → X.env.cells.lookup x = some c → X.s₀.heap.objs.size ≤ c
  hd : X.calm = true → X.A.handled = none
  frames : X.A.frames = some X.stack
  stk : X.stack = X.outer ∨ (X.stack = X.env :: X.outer ∧ X.env.frame = some X.env.locals)
  exf : ∀ b ∈ X.ex, b ≠ X.env.locals ∧ ∀ x c, X.env.cells.lookup x = some c → c ≠ b
  bs : ∀ b o, X.base.get? b = some o → X.s₀.heap.get? b = some o ∧ X.H₀ b = none
  bsz : X.base.objs.size ≤ X.s₀.heap.objs.size
  noex : ∀ b o, X.base.get? b = some o → b ∉ X.ex
  exfs : ∀ b ∈ X.ex, b ∉ X.fs
  funs : X.s₀.heap.FunFrames X.base X.outer
  frf : ∀ b ∈ X.fs, X.H₀ b = none

structure Inv (X : Cx) (pins : List (Addr × Obj)) (σ : List (Option V)) (H : Hp) (s : Shared) : Prop where
  ok : X.Ok
  os : s.os = X.s₀.os
  bare : AllBare s.gens
  base : Un X.fs X.ex X.H₀ H X.s₀.heap s.heap
  loc : ∃ m, s.heap.Ns X.env.locals m ∧ ∀ (i : Nat) (x : Str) (v : V), X.N[i]? = some x → σ[i]? = some (some v) → Vis X.env.scope x → ∃ u, RelV v u ∧ Look X.env s.heap m x u
  cell : ∀ x c, X.env.cells.lookup x = some c → ∃ v, s.heap.IsCell c v
  free : H X.env.locals = none
  freeC : ∀ x c, X.env.cells.lookup x = some c → H c = none
  pin : ∀ p ∈ X.pn ++ pins, s.heap.get? p.1 = some p.2 ∧ H p.1 = none ∧ p.1 ≠ X.env.locals ∧ p.1 ∉ X.fs ∧ ∀ v, p.2.data ≠ .cell v
  hok : HOk X.prog X.w H s.heap
  len : σ.length = X.N.length

section
variable {X : Cx} {pins : List (Addr × Obj)} {σ : List (Option V)} {H H' : Hp} {s : Shared} {h' : Heap}

theorem Cx.Ok.nofr (ok : X.Ok) {b : Addr} {o : Obj} (e : X.base.get? b = some o) : b ∉ X.fs := fun hb => by
  have := (ok.funs.mem hb).1
  rw [e] at this; cases this
theorem Inv.bs (I : Inv X pins σ H s) : ∀ b o, X.base.get? b = some o → s.heap.get? b = some o ∧ H b = none := fun b o e =>
  ⟨I.base.keep b o (I.ok.bs b o e).1 (I.ok.bs b o e).2 (I.ok.nofr e) (I.ok.noex b o e), I.base.free b o (I.ok.bs b o e).1 (I.ok.bs b o e).2 (I.ok.noex b o e)⟩
theorem Inv.bk (I : Inv X pins σ H s) : ∀ b o, X.base.get? b = some o → s.heap.get? b = some o := fun b o e => (I.bs b o e).1
theorem Inv.mod (I : Inv X pins σ H s) : Mod X.K X.mg X.base := I.ok.mod
theorem Inv.kIn (I : Inv X pins σ H s) : X.K.In s.heap := I.ok.mod.kin.keeps I.bk
theorem Inv.nolimit (I : Inv X pins σ H s) : s.heap.NoLimit := I.ok.mod.nolimit.keeps I.bk
/-- the frame over the base: for OpenK's rules (K.In X.base is I.mod.kin) -/
theorem Inv.fr (I : Inv X pins σ H s) : ∃ m, Fr X.base X.env.locals s.heap m :=
  let ⟨m, hn, _⟩ := I.loc
  ⟨m, hn, I.bk, Nat.le_trans I.ok.bsz I.ok.above⟩
theorem Inv.lt (I : Inv X pins σ H s) : X.env.locals < s.heap.objs.size := let ⟨_, hn, _⟩ := I.loc; hn.lt
theorem Inv.sz (I : Inv X pins σ H s) : X.s₀.heap.objs.size ≤ s.heap.objs.size := Nat.le_trans I.ok.above (Nat.le_of_lt I.lt)
theorem Inv.nofs (I : Inv X pins σ H s) {a : Addr} (h : s.heap.objs.size ≤ a) : a ∉ X.fs := fun hb => by
  obtain ⟨_, o, ho, _⟩ := I.ok.funs.mem hb
  exact absurd (Nat.lt_of_lt_of_le (Heap.lt_size ho) (Nat.le_trans I.sz h)) (Nat.lt_irrefl _)
theorem Inv.cne (I : Inv X pins σ H s) : ∀ x c, X.env.cells.lookup x = some c → c ≠ X.env.locals := fun x c e z => by
  obtain ⟨v, o, ho, hd⟩ := I.cell x c e
  obtain ⟨m, ⟨o', es, ep, ho', hd', _⟩, _⟩ := I.loc
  rw [z, ho'] at ho; cases ho; rw [hd'] at hd; cases hd
theorem Inv.funs (I : Inv X pins σ H s) : s.heap.FunFrames X.base X.outer := by
  have all : ∀ (l : List Env), (∀ b ∈ frs l, b ∈ X.fs) → X.s₀.heap.FunFrames X.base l → s.heap.FunFrames X.base l := by
    intro l
    induction l with
    | nil => intro _ _; trivial
    | cons env r ih =>
      intro hs hl
      obtain ⟨hk, ⟨L, o, hf, hn, ho, hd⟩, hr⟩ := hl
      have hL : L ∈ X.fs := hs L (by unfold frs; rw [List.filterMap_cons, hf]; exact List.mem_cons_self)
      obtain ⟨sl, e⟩ := I.base.slot L o ho (I.ok.frf L hL) hL fun z => I.ok.exfs L z hL
      exact ⟨hk, ⟨L, _, hf, hn, e, hd⟩, ih (fun b hb => hs b (by unfold frs; rw [List.filterMap_cons, hf]; exact List.mem_cons_of_mem _ hb)) hr⟩
  exact all X.outer (fun _ hb => hb) I.ok.funs

/-- the frames that run, for a call -/
theorem Inv.stack (I : Inv X pins σ H s) : s.heap.FunFrames X.base X.stack := by
  rcases I.ok.stk with e | ⟨e, hf⟩
  · rw [e]; exact I.funs
  · rw [e]
    obtain ⟨m, hn, _⟩ := I.loc
    refine .cons (by rw [I.ok.kind]; decide) hf hn ?_ I.funs
    exact Heap.get?_none_of_le (Nat.le_trans I.ok.bsz I.ok.above)
theorem Inv.stkSub (I : Inv X pins σ H s) : ∀ b ∈ frs X.stack, b ∈ X.env.locals :: X.fs := fun b hb => by
  rcases I.ok.stk with e | ⟨e, hf⟩
  · rw [e] at hb; exact List.mem_cons_of_mem _ hb
  · rw [e] at hb
    unfold frs at hb
    rw [List.filterMap_cons, hf] at hb
    exact hb
theorem Inv.stkFree (I : Inv X pins σ H s) : ∀ b ∈ frs X.stack, H b = none := fun b hb => by
  rcases List.mem_cons.mp (I.stkSub b hb) with e | hb
  · rw [e]; exact I.free
  · obtain ⟨_, o, ho, _⟩ := I.ok.funs.mem hb
    exact I.base.free b o ho (I.ok.frf b hb) fun z => I.ok.exfs b z hb

/-- THE STEP: the untracked objects but the frame and the records at ch are kept (the callers' frames up to slots), the frame's map is kept, the new abstract heap is held -/
theorem Inv.step {g' : Array GenState} {t' : Nat} {d' : Drawn} {ch : List Addr} (I : Inv X pins σ H s)
    (hch : ∀ b ∈ ch, (b ∈ X.ex ∨ X.s₀.heap.objs.size ≤ b) ∧ b ≠ X.env.locals ∧ (∀ x c, X.env.cells.lookup x = some c → c ≠ b) ∧ ∀ p ∈ X.pn ++ pins, p.1 ≠ b)
    (keep : ∀ b o, b ≠ X.env.locals → b ∉ X.fs → b ∉ ch → s.heap.get? b = some o → H b = none → h'.get? b = some o)
    (slot : ∀ b o, b ≠ X.env.locals → b ∈ X.fs → b ∉ ch → s.heap.get? b = some o → H b = none → ∃ sl, h'.get? b = some { o with slots := sl }) (free : ∀ b o, b ∉ ch → s.heap.get? b = some o → H b = none → H' b = none)
    (there : ∀ b o, b ∉ ch → s.heap.get? b = some o → ∃ o', h'.get? b = some o')
    (tups : ∀ b xs, H b = some (.tup xs) → H' b = some (.tup xs)) (frzs : ∀ b o u, H b = some (.frz o u) → H' b = some (.frz o u)) (tbls : ∀ b ps, H b = some (.tbl ps) → ∃ more, H' b = some (.tbl (ps ++ more)))
    (ns : ∀ m, s.heap.Ns X.env.locals m → h'.Ns X.env.locals m) (hok : HOk X.prog X.w H' h') (hg : AllBare g') :
    Inv X pins σ H' { s with heap := h', gens := g', drawn := d', toks := t' } := by
  have neL : ∀ b o, X.s₀.heap.get? b = some o → b ≠ X.env.locals := fun b o e => Nat.ne_of_lt (Nat.lt_of_lt_of_le (Heap.lt_size e) I.ok.above)
  have neC : ∀ b o, X.s₀.heap.get? b = some o → b ∉ X.ex → b ∉ ch := fun b o e hx hb => by
    rcases (hch b hb).1 with z | z
    · exact hx z
    · exact absurd (Nat.lt_of_lt_of_le (Heap.lt_size e) z) (Nat.lt_irrefl _)
  have cellK : ∀ x c, X.env.cells.lookup x = some c → ∀ v, s.heap.IsCell c v → h'.IsCell c v := fun x c e v ⟨o, ho, hd⟩ => by
    have nch : c ∉ ch := fun z => (hch c z).2.2.1 x c e rfl
    by_cases hc : c ∈ X.fs
    · obtain ⟨sl, q⟩ := slot c o (I.cne x c e) hc nch ho (I.freeC x c e)
      exact ⟨_, q, hd⟩
    · exact ⟨o, keep c o (I.cne x c e) hc nch ho (I.freeC x c e), hd⟩
  refine ⟨I.ok, I.os, hg, ⟨fun b o e n hb hx => ?_, fun b o e n hb hx => ?_, fun b o e n hx => ?_, fun b o e hx => ?_, fun b xs e => tups b xs (I.base.tups b xs e), fun b o xs e => frzs b o xs (I.base.frzs b o xs e), fun b ps e => ?_⟩, ?_, fun x c e => ?_, ?_, fun x c e => ?_, fun p hp => ?_, hok, I.len⟩
  · exact keep b o (neL b o e) hb (neC b o e hx) (I.base.keep b o e n hb hx) (I.base.free b o e n hx)
  · obtain ⟨sl, e1⟩ := I.base.slot b o e n hb hx
    obtain ⟨sl', e2⟩ := slot b _ (neL b o e) hb (neC b o e hx) e1 (I.base.free b o e n hx)
    exact ⟨sl', e2⟩
  · obtain ⟨o', e1⟩ := I.base.there b o e hx
    exact free b o' (neC b o e hx) e1 (I.base.free b o e n hx)
  · obtain ⟨o', e1⟩ := I.base.there b o e hx
    exact there b o' (neC b o e hx) e1
  · obtain ⟨m1, e1⟩ := I.base.tbls b ps e
    obtain ⟨m2, e2⟩ := tbls b _ e1
    exact ⟨m1 ++ m2, by rw [e2, Array.append_assoc]⟩
  · obtain ⟨m, hn, hl⟩ := I.loc
    refine ⟨m, ns m hn, fun i x v e1 e2 e3 => ?_⟩
    obtain ⟨u, r, l⟩ := hl i x v e1 e2 e3
    refine ⟨u, r, ?_⟩
    rcases l with l | ⟨k, c, e, z⟩
    · exact .inl l
    · exact .inr ⟨k, c, e, cellK x c e _ z⟩
  · obtain ⟨v, z⟩ := I.cell x c e
    exact ⟨v, cellK x c e v z⟩
  · obtain ⟨m, ⟨o, _, _, ho, _⟩, _⟩ := I.loc
    exact free _ o (fun z => (hch _ z).2.1 rfl) ho I.free
  · obtain ⟨v, o, ho, hd⟩ := I.cell x c e
    exact free c o (fun z => (hch c z).2.2.1 x c e rfl) ho (I.freeC x c e)
  · obtain ⟨e, n, ne, nf, d⟩ := I.pin p hp
    have nch : p.1 ∉ ch := fun z => (hch p.1 z).2.2.2 p hp rfl
    exact ⟨keep p.1 p.2 ne nf nch e n, free p.1 p.2 nch e n, ne, nf, d⟩
/-- .. where the frame's own object is kept too -/
theorem Inv.un {t' : Nat} (I : Inv X pins σ H s) (u : Un X.fs [] H H' s.heap h') (hok : HOk X.prog X.w H' h') : Inv X pins σ H' { s with heap := h', toks := t' } := by
  obtain ⟨m, ⟨o, es, ep, ho, r⟩, _⟩ := id I.loc
  obtain ⟨sl, hL⟩ := u.any ho I.free (by simp)
  exact I.step (g' := s.gens) (d' := s.drawn) (ch := []) (fun _ z => nomatch z) (fun b o _ hb _ e n => u.keep b o e n hb (by simp)) (fun b o _ hb _ e n => u.slot b o e n hb (by simp)) (fun b o _ e n => u.free b o e n (by simp)) (fun b o _ e => u.there b o e (by simp)) u.tups u.frzs u.tbls (fun m' hm => by
    obtain ⟨o', es', ep', ho', r'⟩ := hm
    rw [ho] at ho'; cases ho'
    exact ⟨_, es', ep', hL, r'⟩) hok I.bare
/-- behind a call (or a comprehension's block): the slots of this frame may have changed too, the records at ch may have turned -/
theorem Inv.call {g' : Array GenState} {t' : Nat} {d' : Drawn} {ch : List Addr} (I : Inv X pins σ H s) (u : Un (frs X.stack) ch H H' s.heap h') (hok : HOk X.prog X.w H' h') (hg : AllBare g')
    (hch : ∀ b ∈ ch, (b ∈ X.ex ∨ X.s₀.heap.objs.size ≤ b) ∧ b ≠ X.env.locals ∧ (∀ x c, X.env.cells.lookup x = some c → c ≠ b) ∧ ∀ p ∈ X.pn ++ pins, p.1 ≠ b) :
    Inv X pins σ H' { s with heap := h', gens := g', drawn := d', toks := t' } := by
  obtain ⟨m, ⟨o, es, ep, ho, r⟩, _⟩ := id I.loc
  obtain ⟨sl, hL⟩ := u.any ho I.free fun z => (hch _ z).2.1 rfl
  exact I.step (ch := ch) hch (fun b o hL hb hc e n => u.keep b o e n (fun z => (List.mem_cons.mp (I.stkSub b z)).elim hL hb) hc) (fun b o _ _ hc e n => u.any e n hc) (fun b o hc e n => u.free b o e n hc) (fun b o hc e => u.there b o e hc) u.tups u.frzs u.tbls (fun m' hm => by
    obtain ⟨o', es', ep', ho', r'⟩ := hm
    rw [ho] at ho'; cases ho'
    exact ⟨_, es', ep', hL, r'⟩) hok hg
/-- an untracked record of ours (an iterator) has turned -/
theorem Inv.turned {t' : Nat} {it : Addr} (I : Inv X pins σ H s) (k : ∀ b o, b ≠ it → s.heap.get? b = some o → h'.get? b = some o) (hn : H it = none) (hL : it ≠ X.env.locals)
    (h1 : it ∈ X.ex ∨ X.s₀.heap.objs.size ≤ it) (h2 : ∀ x c, X.env.cells.lookup x = some c → c ≠ it) (h3 : ∀ p ∈ X.pn ++ pins, p.1 ≠ it) : Inv X pins σ H { s with heap := h', toks := t' } := by
  have nit : ∀ b u, H b = some u → b ≠ it := fun b u e z => by rw [z, hn] at e; cases e
  refine I.step (g' := s.gens) (d' := s.drawn) (ch := [it]) (fun b hb => ?_) (fun b o _ _ hc e _ => k b o (fun z => hc (by simp [z])) e) (fun b o _ _ hc e _ => ⟨o.slots, k b o (fun z => hc (by simp [z])) e⟩) (fun _ _ _ _ n => n)
    (fun b o hc e => ⟨o, k b o (fun z => hc (by simp [z])) e⟩) (fun _ _ e => e) (fun _ _ _ e => e) (fun b ps e => ⟨#[], by rw [e]; simp⟩) (fun m hm => ?_) (fun b u e => ?_) I.bare
  · have e : b = it := by simpa using hb
    subst e
    exact ⟨h1, hL, h2, h3⟩
  · obtain ⟨o, es, ep, ho, r⟩ := hm
    exact ⟨o, es, ep, k _ o (Ne.symm hL) ho, r⟩
  · refine (I.hok b u e).stay (fun c v hc q => k c v ?_ q) (fun _ q => q) fun _ _ q => q
    rcases hc with z | z
    · rw [z]; exact nit b u e
    · exact nit c _ z
theorem Inv.tok (I : Inv X pins σ H s) (t : Nat) : Inv X pins σ H { s with toks := t } := I.un (h' := s.heap) (t' := t) Un.refl I.hok
/-- all objects kept -/
theorem Inv.kept {t' : Nat} (I : Inv X pins σ H s) (k : ∀ b u, s.heap.get? b = some u → h'.get? b = some u) : Inv X pins σ H { s with heap := h', toks := t' } := I.un (Un.kept k) (I.hok.kept k)
/-- a new object laid and tracked -/
theorem Inv.laid {a : Addr} {o : HO} {t' : Nat} (I : Inv X pins σ H s) (k : ∀ b u, s.heap.get? b = some u → h'.get? b = some u) (hp : s.heap.objs.size ≤ a) (new : ObjOk X.prog X.w (upd H a o) h' a o) :
    Inv X pins σ (upd H a o) { s with heap := h', toks := t' } := I.un (Un.laid k hp (I.hok.fresh hp)) (I.hok.laid k hp new)
/-- an object written -/
theorem Inv.write {x e : Addr} {o : HO} {t' : Nat} (I : Inv X pins σ H s) (mu : Mut (H x)) (he : e = x ∨ H e = some (.own x)) (k : ∀ b u, b ≠ e → s.heap.get? b = some u → h'.get? b = some u) (heo : ∃ u, h'.get? e = some u)
    (new : ObjOk X.prog X.w (upd H x o) h' x o) : Inv X pins σ (upd H x o) { s with heap := h', toks := t' } := I.un (Un.write mu he k heo) (I.hok.write mu he k heo new)
/-- forgetting slots, pins -/
theorem Inv.weak {σ' : List (Option V)} (I : Inv X pins σ H s) (hl : σ'.length = σ.length) (w : ∀ (i : Nat) v, σ'[i]? = some (some v) → σ[i]? = some (some v)) : Inv X pins σ' H s :=
  ⟨I.ok, I.os, I.bare, I.base, let ⟨m, hn, hl'⟩ := I.loc; ⟨m, hn, fun i x v e1 e2 e3 => hl' i x v e1 (w i v e2) e3⟩, I.cell, I.free, I.freeC, I.pin, I.hok, hl.trans I.len⟩
theorem Inv.pins_of {pins' : List (Addr × Obj)} (I : Inv X pins σ H s) (h : ∀ p ∈ pins', s.heap.get? p.1 = some p.2 ∧ H p.1 = none ∧ p.1 ≠ X.env.locals ∧ p.1 ∉ X.fs ∧ ∀ v, p.2.data ≠ .cell v) : Inv X pins' σ H s :=
  ⟨I.ok, I.os, I.bare, I.base, I.loc, I.cell, I.free, I.freeC, fun p hp => (List.mem_append.mp hp).elim (fun z => I.pin p (List.mem_append_left _ z)) (h p), I.hok, I.len⟩

theorem nodup_ix {N : List Str} (hN : N.Nodup) {i j : Nat} {x : Str} (a : N[i]? = some x) (b : N[j]? = some x) : i = j := by
  obtain ⟨h1, e1⟩ := List.getElem?_eq_some_iff.mp a
  obtain ⟨h2, e2⟩ := List.getElem?_eq_some_iff.mp b
  exact (List.getElem_inj hN).mp (e1.trans e2.symm)

/-- a name is stored; what changed -/
theorem store_ok2 {M : Model} {A : Around} {E : Value → Shared → Prop} {i : Nat} {x : Str} {v : V} {u : Value} {Q : Unit → Shared → Prop} (I : Inv X pins σ H s) (hN : X.N.Nodup) (hi : X.N[i]? = some x) (hx : Loc X.env.scope x) (r : RelV v u)
    (h : ∀ s', Inv X pins (σ.set i (some v)) H s' → (∃ a, Heap.SameBut a s.heap s'.heap ∧ (a = X.env.locals ∨ X.env.cells.lookup x = some a)) → Q () s') (hf : X.fn x = true ∨ X.env.scope.names.lookup x = some .local := by first | exact .inl rfl | exact .inr rfl | assumption) : wpAny M A (storeName X.env x u) Q E s := by
  obtain ⟨m, hn, hl⟩ := id I.loc
  have hcls : (X.env.scope.kind == .class || (X.env.scope.kind == .module && X.env.locals != X.env.globals)) = false := by rw [I.ok.kind]; rfl
  have hiσ : i < σ.length := by rw [I.len]; exact (List.getElem?_eq_some_iff.mp hi).1
  have cne := I.cne
  have tracked : ∀ {a : Addr} {h' : Heap}, (∃ o, s.heap.get? a = some o ∧ H a = none) → Heap.SameBut a s.heap h' → HOk X.prog X.w H h' := fun {a h'} ha hs b ob e => by
    obtain ⟨_, _, hfree⟩ := ha
    refine (I.hok b ob e).stay (fun c w' hc q => (hs.2 c ?_).trans q) (fun _ q => q) fun _ _ q => q
    rintro rfl
    rcases hc with rfl | hc
    · rw [hfree] at e; cases e
    · rw [hfree] at hc; cases hc
  rcases hx with hk | hk
  · refine wpAny_storeName_local hk hn (fun h' hn' hs => ?_) hcls
    obtain ⟨oL, _, _, hoL, _⟩ := id hn
    refine h _ ⟨I.ok, I.os, I.bare, ⟨fun b o e n hb hx => ?_, fun b o e n hb hx => ?_, I.base.free, fun b o e hx => ?_, I.base.tups, I.base.frzs, I.base.tbls⟩, ⟨_, hn', fun j y v' e1 e2 e3 => ?_⟩, fun y c e => ?_, I.free, I.freeC, fun p hp => ?_, tracked ⟨oL, hoL, I.free⟩ hs, by simpa using I.len⟩ ⟨_, hs, .inl rfl⟩
    · exact (hs.2 b (Nat.ne_of_lt (Nat.lt_of_lt_of_le (Heap.lt_size e) I.ok.above))).trans (I.base.keep b o e n hb hx)
    · obtain ⟨sl, e1⟩ := I.base.slot b o e n hb hx
      exact ⟨sl, (hs.2 b (Nat.ne_of_lt (Nat.lt_of_lt_of_le (Heap.lt_size e) I.ok.above))).trans e1⟩
    · obtain ⟨o', e1⟩ := I.base.there b o e hx
      exact ⟨o', (hs.2 b (Nat.ne_of_lt (Nat.lt_of_lt_of_le (Heap.lt_size e) I.ok.above))).trans e1⟩
    · by_cases hj : j = i
      · subst hj
        rw [hi] at e1; cases e1
        rw [List.getElem?_set_self hiσ] at e2
        cases e2
        exact ⟨u, r, .inl ⟨hk, by simp⟩⟩
      · rw [List.getElem?_set_ne (Ne.symm hj)] at e2
        obtain ⟨u', r', q⟩ := hl j y v' e1 e2 e3
        refine ⟨u', r', ?_⟩
        rcases q with ⟨k, e⟩ | ⟨k, c, e, z⟩
        · refine .inl ⟨k, ?_⟩
          have : y ≠ x := fun e => hj (nodup_ix hN e1 (e ▸ hi))
          simp [this, e]
        · exact .inr ⟨k, c, e, z.sameBut hs (cne y c e)⟩
    · obtain ⟨w', z⟩ := I.cell y c e
      exact ⟨w', z.sameBut hs (cne y c e)⟩
    · obtain ⟨e, n, ne, nf, d⟩ := I.pin p hp
      exact ⟨(hs.2 p.1 ne).trans e, n, ne, nf, d⟩
  · have hfn : X.fn x = true := by
      rcases hf with z | z
      · exact z
      · rw [z] at hk; cases hk
    obtain ⟨c, hc⟩ := I.ok.has x (.inl hk)
    obtain ⟨w', z⟩ := I.cell x c hc
    refine wpAny_storeName_cell I.ok.kind hk hc z (fun h' hc' hs => ?_)
    obtain ⟨oc, hoc, hocd⟩ := id z
    refine h { s with heap := h' } ⟨I.ok, I.os, I.bare, ⟨fun b o e n hb hx => ?_, fun b o e n hb hx => ?_, I.base.free, fun b o e hx => ?_, I.base.tups, I.base.frzs, I.base.tbls⟩, ⟨m, hn.sameBut hs (Ne.symm (cne x c hc)), fun j y v' e1 e2 e3 => ?_⟩, fun y c' e => ?_, I.free, I.freeC, fun p hp => ?_, tracked ⟨oc, hoc, I.freeC x c hc⟩ hs, by simpa using I.len⟩ ⟨c, hs, .inr hc⟩
    · exact (hs.2 b (Nat.ne_of_lt (Nat.lt_of_lt_of_le (Heap.lt_size e) (I.ok.cab x c hfn hc)))).trans (I.base.keep b o e n hb hx)
    · obtain ⟨sl, e1⟩ := I.base.slot b o e n hb hx
      exact ⟨sl, (hs.2 b (Nat.ne_of_lt (Nat.lt_of_lt_of_le (Heap.lt_size e) (I.ok.cab x c hfn hc)))).trans e1⟩
    · obtain ⟨o', e1⟩ := I.base.there b o e hx
      exact ⟨o', (hs.2 b (Nat.ne_of_lt (Nat.lt_of_lt_of_le (Heap.lt_size e) (I.ok.cab x c hfn hc)))).trans e1⟩
    · by_cases hj : j = i
      · subst hj
        rw [hi] at e1; cases e1
        rw [List.getElem?_set_self hiσ] at e2
        cases e2
        exact ⟨u, r, .inr ⟨.inl hk, c, hc, hc'⟩⟩
      · rw [List.getElem?_set_ne (Ne.symm hj)] at e2
        obtain ⟨u', r', q⟩ := hl j y v' e1 e2 e3
        refine ⟨u', r', ?_⟩
        rcases q with q | ⟨k, c', e, z'⟩
        · exact .inl q
        · refine .inr ⟨k, c', e, z'.sameBut hs ?_⟩
          rintro rfl
          exact hj (nodup_ix hN e1 (I.ok.inj _ _ _ e hc ▸ hi))
    · by_cases hcc : c' = c
      · subst hcc; exact ⟨_, hc'⟩
      · obtain ⟨w2, z2⟩ := I.cell y c' e
        exact ⟨w2, z2.sameBut hs hcc⟩
    · obtain ⟨e, n, ne, nf, d⟩ := I.pin p hp
      refine ⟨(hs.2 p.1 ?_).trans e, n, ne, nf, d⟩
      intro q
      rw [q, hoc] at e
      have q' : oc = p.2 := Option.some.inj e
      exact d w' (by rw [← q']; exact hocd)
theorem store_ok {M : Model} {A : Around} {E : Value → Shared → Prop} {i : Nat} {x : Str} {v : V} {u : Value} {Q : Unit → Shared → Prop} (I : Inv X pins σ H s) (hN : X.N.Nodup) (hi : X.N[i]? = some x) (hx : Loc X.env.scope x) (r : RelV v u)
    (h : ∀ s', Inv X pins (σ.set i (some v)) H s' → Q () s') (hf : X.fn x = true ∨ X.env.scope.names.lookup x = some .local := by first | exact .inl rfl | exact .inr rfl | assumption) : wpAny M A (storeName X.env x u) Q E s :=
  store_ok2 I hN hi hx r (fun s' I' _ => h s' I') hf
/-- behind a call or a block, the state as it is -/
theorem Inv.call' {s' : Shared} {ch : List Addr} (I : Inv X pins σ H s) (ho : s'.os = s.os) (u : Un (frs X.stack) ch H H' s.heap s'.heap) (hok : HOk X.prog X.w H' s'.heap) (hg : AllBare s'.gens)
    (hch : ∀ b ∈ ch, (b ∈ X.ex ∨ X.s₀.heap.objs.size ≤ b) ∧ b ≠ X.env.locals ∧ (∀ x c, X.env.cells.lookup x = some c → c ≠ b) ∧ ∀ p ∈ X.pn ++ pins, p.1 ≠ b) : Inv X pins σ H' s' := by
  obtain ⟨h', g', d', t', o'⟩ := s'
  have e : o' = s.os := ho
  subst e
  exact I.call (g' := g') (t' := t') (d' := d') u hok hg hch
end

/-! ### the judgements -/
/-- an exception: its class, its own dict's address (where it has one), the abstract heap behind it -/
abbrev XK := Value → Option Addr → Hp → Prop
abbrev St := List (Option V)
abbrev VK := V → Hp → Prop
/-- an expression's reading; a test's; an argument list's -/
abbrev TE := St → Hp → VK → Prop
abbrev TT := St → Hp → (Bool → Hp → Prop) → Prop
abbrev TA := St → Hp → (List V → Hp → Prop) → Prop
/-- what is wanted behind a statement -/
structure Ends where
  nx : St → Hp → Prop
  rt : VK
  bk : St → Hp → Prop := fun _ _ => False
  ct : St → Hp → Prop := fun _ _ => False
abbrev TS := Ends → St → Hp → Prop

def EP (X : Cx) (pins : List (Addr × Obj)) (σ : St) (Q : VK) (u : Value) (s' : Shared) : Prop := ∃ v H', Inv X pins σ H' s' ∧ RelV v u ∧ Q v H'
def TP (X : Cx) (pins : List (Addr × Obj)) (σ : St) (Q : Bool → Hp → Prop) (b : Bool) (s' : Shared) : Prop := ∃ H', Inv X pins σ H' s' ∧ Q b H'
def AP (X : Cx) (pins : List (Addr × Obj)) (σ : St) (Q : List V → Hp → Prop) (us : List Value) (s' : Shared) : Prop := ∃ vs H', Inv X pins σ H' s' ∧ Vals vs us ∧ Q vs H'
def SP (X : Cx) (pins : List (Addr × Obj)) (D : Ends) (f : Flow) (s' : Shared) : Prop :=
  match f with
  | .next => ∃ σ' H', Inv X pins σ' H' s' ∧ D.nx σ' H'
  | .brk => ∃ σ' H', Inv X pins σ' H' s' ∧ D.bk σ' H'
  | .cont => ∃ σ' H', Inv X pins σ' H' s' ∧ D.ct σ' H'
  | .ret u => ∃ v σ' H', Inv X pins σ' H' s' ∧ RelV v u ∧ D.rt v H'

def PE (X : Cx) (e : Expr) (t : TE) : Prop :=
  ∀ (pins : List (Addr × Obj)) (s : Shared) (σ : St) (H : Hp) (Q : VK), Inv X pins σ H s → t σ H Q → wpAny (model X.prog X.w) X.A (eval e X.env) (EP X pins σ Q) X.xe s
def PT (X : Cx) (e : Expr) (t : TT) : Prop :=
  ∀ (pins : List (Addr × Obj)) (s : Shared) (σ : St) (H : Hp) (Q : Bool → Hp → Prop), Inv X pins σ H s → t σ H Q → wpAny (model X.prog X.w) X.A (isTrue e X.env (eval e X.env)) (TP X pins σ Q) X.xe s
/-- a test whatever its 'whole' is (and, or) -/
def PW (X : Cx) (e : Expr) (t : TT) : Prop :=
  ∀ (whole : Sem Value) (pins : List (Addr × Obj)) (s : Shared) (σ : St) (H : Hp) (Q : Bool → Hp → Prop), Inv X pins σ H s → t σ H Q → wpAny (model X.prog X.w) X.A (isTrue e X.env whole) (TP X pins σ Q) X.xe s
theorem PW.pt {X : Cx} {e : Expr} {t : TT} (h : PW X e t) : PT X e t := h _
/-- an argument list (no star), from the left -/
def PA (X : Cx) (es : List Expr) (t : TA) : Prop :=
  ∀ (pos : Pos) (pins : List (Addr × Obj)) (s : Shared) (σ : St) (H : Hp) (Q : List V → Hp → Prop), Inv X pins σ H s → t σ H Q → wpAny (model X.prog X.w) X.A (spliced (backTo pos (starEach es X.env))) (AP X pins σ Q) X.xe s
def PS (X : Cx) (st : Stmt) (t : TS) : Prop :=
  ∀ (pins : List (Addr × Obj)) (s : Shared) (σ : St) (H : Hp) (D : Ends), Inv X pins σ H s → t D σ H → wpAny (model X.prog X.w) X.A (exec st X.env) (SP X pins D) X.xe s
def PSs (X : Cx) (st : List Stmt) (t : TS) : Prop :=
  ∀ (pins : List (Addr × Obj)) (s : Shared) (σ : St) (H : Hp) (D : Ends), Inv X pins σ H s → t D σ H → wpAny (model X.prog X.w) X.A (execs st X.env) (SP X pins D) X.xe s
/-- weaken the end -/
theorem thn {α : Type} {t : Sem α} {Q Q' : α → Shared → Prop} {M : Model} {A : Around} {E : Value → Shared → Prop} {s : Shared} (h : wpAny M A t Q E s) (hQ : ∀ a s, Q a s → Q' a s) : wpAny M A t Q' E s := wpAny_mono h hQ fun _ _ x => x
end L2

namespace L2
open PySem PySem.Spec PyProof.Rows
section
variable {X : Cx}

/-- two expressions in a row -/
theorem bin {a b : Expr} {ta tb : TE} (ha : PE X a ta) (hb : PE X b tb) {pins : List (Addr × Obj)} {s : Shared} {σ : St} {H : Hp} {R : V → V → Hp → Prop} (I : Inv X pins σ H s) (h : ta σ H fun x H1 => tb σ H1 fun y H2 => R x y H2)
    {α : Type} {Q : α → Shared → Prop} {f : Value → Value → Sem α}
    (hf : ∀ v u s2 x y H2, Inv X pins σ H2 s2 → RelV x v → RelV y u → R x y H2 → wpAny (model X.prog X.w) X.A (f v u) Q X.xe s2) :
    wpAny (model X.prog X.w) X.A (eval a X.env) (fun v s₁ => wpAny (model X.prog X.w) X.A (eval b X.env) (fun u s₂ => wpAny (model X.prog X.w) X.A (f v u) Q X.xe s₂) X.xe s₁) X.xe s := by
  refine thn (ha pins s σ H _ I h) fun v s1 ⟨x, H1, I1, r1, q1⟩ => ?_
  refine thn (hb pins s1 σ H1 _ I1 q1) fun u s2 ⟨y, H2, I2, r2, q2⟩ => ?_
  exact hf v u s2 x y H2 I2 r1 r2 q2

/-! ### names and constants -/
def tVar (i : Nat) : TE := fun σ H Q => ∃ v, σ[i]? = some (some v) ∧ Q v H
def tC (v : V) : TE := fun _ H Q => Q v H
theorem pe_var {i : Nat} {x : Str} {pos : Pos} (hN : X.N[i]? = some x) (hv : Vis X.env.scope x) (hd : (x == ("__debug__" : Str)) = false := by decide) (hcd : (x == ("__classdict__" : Str)) = false := by decide) : PE X (.Name x pos) (tVar i) := by
  intro pins s σ H Q I h
  obtain ⟨v, e, h⟩ := h
  obtain ⟨m, hn, hl⟩ := I.loc
  obtain ⟨u, r, l⟩ := hl i x v hN e hv
  have fin : EP X pins σ Q u s := ⟨v, H, I, r, h⟩
  rcases l with ⟨hk, hm⟩ | ⟨hk, c, hc, hcell⟩
  · exact wpAny_Name (wpAny_loadName_local I.ok.kind hk hn hm fin) hd
  · rcases hk with hk | hk
    · exact wpAny_Name (wpAny_loadName_cell I.ok.kind hk hc hcell fin) hd
    · exact wpAny_Name (wpAny_loadName_free I.ok.kind hk hc hcell fin hcd) hd
theorem pe_int {i j pos} : PE X (.Constant (.int i) j pos) (tC (.int i)) := fun _ _ _ H _ I h => wpAny_Constant_int ⟨.int i, H, I.tok _, ⟨_, rfl⟩, h⟩
theorem pe_bl {b j pos} : PE X (.Constant (.bool b) j pos) (tC (.bl b)) := fun _ _ _ H _ I h => Constant_bool ⟨.bl b, H, I, rfl, h⟩
theorem pe_non {j pos} : PE X (.Constant .none j pos) (tC .non) := fun _ _ _ H _ I h => Constant_none ⟨.non, H, I, rfl, h⟩
theorem pe_str {x j pos} : PE X (.Constant (.str x) j pos) (tC (.str x)) := fun _ _ _ H _ I h => Calls.Constant_str ⟨.str x, H, I.tok _, ⟨_, rfl⟩, h⟩

/-- a global name of the def -/
def Gl (X : Cx) (x : Str) : Prop := X.env.kindOf x = some .globalImplicit
theorem ld_glob {E : Value → Shared → Prop} {pins : List (Addr × Obj)} {s : Shared} {σ : St} {H : Hp} {x : Str} {u : Value} {pos : Pos} {Q : Value → Shared → Prop} (I : Inv X pins σ H s) (hg : Gl X x) (hm : X.mg x = some u) (h : Q u s)
    (hd : (x == ("__debug__" : Str)) = false := by decide) : wpAny (model X.prog X.w) X.A (eval (.Name x pos) X.env) Q E s :=
  Calls.Name_function_global I.ok.kind hg (Calls.loadGlobal_global (by rw [I.ok.glob]; exact I.mod.glob.keeps I.bk) hm h) hd
theorem ld_blt {E : Value → Shared → Prop} {pins : List (Addr × Obj)} {s : Shared} {σ : St} {H : Hp} {x : Str} {u : Value} {pos : Pos} {Q : Value → Shared → Prop} (I : Inv X pins σ H s) (hg : Gl X x) (hm : X.mg x = none) (hv : bootBuiltins x = some u) (h : Q u s)
    (hn : x ≠ "__name__" := by decide) (hd : (x == ("__debug__" : Str)) = false := by decide) : wpAny (model X.prog X.w) X.A (eval (.Name x pos) X.env) Q E s := by
  obtain ⟨mb, h1, h2⟩ := I.mod.blt
  exact Calls.Name_function_global I.ok.kind hg (Calls.loadGlobal_builtin (by rw [I.ok.glob]; exact I.mod.glob.keeps I.bk) hm (by rw [I.ok.blt]; exact h1.keeps I.bk) ((h2 x hn).trans hv) h) hd
/-- a module's constant, a class, a function, as a value -/
theorem pe_glob {x : Str} {v : V} {u : Value} {pos : Pos} (hg : Gl X x) (hm : X.mg x = some u) (r : RelV v u) (hd : (x == ("__debug__" : Str)) = false := by decide) : PE X (.Name x pos) (tC v) :=
  fun _ _ _ H _ I h => ld_glob I hg hm ⟨v, H, I, r, h⟩ hd
theorem pe_bltn {x : Str} {v : V} {u : Value} {pos : Pos} (hg : Gl X x) (hm : X.mg x = none) (hv : bootBuiltins x = some u) (r : RelV v u) (hn : x ≠ "__name__" := by decide) (hd : (x == ("__debug__" : Str)) = false := by decide) : PE X (.Name x pos) (tC v) :=
  fun _ _ _ H _ I h => ld_blt I hg hm hv ⟨v, H, I, r, h⟩ hn hd

/-! ### arithmetic -/
/-- two ints -/
def t2I (ta tb : TE) (k : Int → Int → Hp → Prop) : St → Hp → Prop := fun σ H => ta σ H fun x H1 => tb σ H1 fun y H2 => ∃ i j, x = .int i ∧ y = .int j ∧ k i j H2
def tAdd (ta tb : TE) : TE := fun σ H Q => t2I ta tb (fun i j H2 => Q (.int (i + j)) H2) σ H
def tSub (ta tb : TE) : TE := fun σ H Q => t2I ta tb (fun i j H2 => Q (.int (i - j)) H2) σ H
/-- the left factor below 2^64 -/
def tMul (ta tb : TE) : TE := fun σ H Q => t2I ta tb (fun i j H2 => (-(2 ^ 64) < i ∧ i < 2 ^ 64) ∧ Q (.int (i * j)) H2) σ H
variable {a b : Expr} {ta tb : TE} {pos : Pos}
theorem pe_add (ha : PE X a ta) (hb : PE X b tb) : PE X (.BinOp a .Add b pos) (tAdd ta tb) := by
  intro pins s σ H Q I h
  refine wpAny_BinOp (bin ha hb I h fun v u s2 x y H2 I2 rx ry q => ?_)
  obtain ⟨i, j, rfl, rfl, q⟩ := q
  obtain ⟨t, rfl⟩ := rx
  obtain ⟨t', rfl⟩ := ry
  exact add_int ⟨.int _, H2, I2.tok _, ⟨_, rfl⟩, q⟩
theorem pe_sub (ha : PE X a ta) (hb : PE X b tb) : PE X (.BinOp a .Sub b pos) (tSub ta tb) := by
  intro pins s σ H Q I h
  refine wpAny_BinOp (bin ha hb I h fun v u s2 x y H2 I2 rx ry q => ?_)
  obtain ⟨i, j, rfl, rfl, q⟩ := q
  obtain ⟨t, rfl⟩ := rx
  obtain ⟨t', rfl⟩ := ry
  exact sub_int ⟨.int _, H2, I2.tok _, ⟨_, rfl⟩, q⟩
theorem pe_mul (ha : PE X a ta) (hb : PE X b tb) : PE X (.BinOp a .Mult b pos) (tMul ta tb) := by
  intro pins s σ H Q I h
  refine wpAny_BinOp (bin ha hb I h fun v u s2 x y H2 I2 rx ry q => ?_)
  obtain ⟨i, j, rfl, rfl, ⟨q1, q2⟩, q⟩ := q
  obtain ⟨t, rfl⟩ := rx
  obtain ⟨t', rfl⟩ := ry
  exact mul_int ⟨.int _, H2, I2.tok _, ⟨_, rfl⟩, q⟩ (.of_left (intBits_le_64 q1 q2))

/-! ### comparisons -/
def PC (X : Cx) (op : CmpOp) (a b : Expr) (t : TE) : Prop :=
  ∀ (pins : List (Addr × Obj)) (s : Shared) (σ : St) (H : Hp) (Q : VK), Inv X pins σ H s → t σ H Q →
    wpAny (model X.prog X.w) X.A (eval a X.env) (fun v s₁ => wpAny (model X.prog X.w) X.A (eval b X.env) (fun u s₂ => wpAny (model X.prog X.w) X.A (compareOp op v u) (EP X pins σ Q) X.xe s₂) X.xe s₁) X.xe s
theorem nobehind (b : Expr) {op : CmpOp} (h : op ≠ .In) (h2 : op ≠ .NotIn) : behindInMarks op b = false := by
  have e1 : (op == CmpOp.In) = false := by cases op <;> first | rfl | exact absurd rfl h
  have e2 : (op == CmpOp.NotIn) = false := by cases op <;> first | rfl | exact absurd rfl h2
  cases b <;> simp [behindInMarks, e1, e2]
def tCmp (p : Int → Int → Bool) (ta tb : TE) : TE := fun σ H Q => t2I ta tb (fun i j H2 => Q (.bl (p i j)) H2) σ H
abbrev tLt : TE → TE → TE := tCmp fun i j => decide (i < j)
abbrev tLe : TE → TE → TE := tCmp fun i j => decide (i ≤ j)
abbrev tGt : TE → TE → TE := tCmp fun i j => decide (j < i)
abbrev tGe : TE → TE → TE := tCmp fun i j => decide (j ≤ i)
abbrev tEqI : TE → TE → TE := tCmp fun i j => decide (i = j)
abbrev tNeI : TE → TE → TE := tCmp fun i j => !decide (i = j)
/-- a comparison of two ints, by its rule -/
theorem pc_int {op : CmpOp} {p : Int → Int → Bool} (ha : PE X a ta) (hb : PE X b tb)
    (rule : ∀ (i j : Int) (t u : Tok) (Q : Value → Shared → Prop) (s : Shared), Q (.bool (p i j)) s → wpAny (model X.prog X.w) X.A (compareOp op (.int i t) (.int j u)) Q X.xe s) : PC X op a b (tCmp p ta tb) := by
  intro pins s σ H Q I h
  refine bin ha hb I h fun v u s2 x y H2 I2 rx ry q => ?_
  obtain ⟨i, j, rfl, rfl, q⟩ := q
  obtain ⟨t, rfl⟩ := rx
  obtain ⟨t', rfl⟩ := ry
  exact rule i j t t' _ s2 ⟨.bl _, H2, I2, rfl, q⟩
theorem pc_lt (ha : PE X a ta) (hb : PE X b tb) : PC X .Lt a b (tLt ta tb) := pc_int ha hb fun _ _ _ _ _ _ h => lt_int h
theorem pc_le (ha : PE X a ta) (hb : PE X b tb) : PC X .LtE a b (tLe ta tb) := pc_int ha hb fun _ _ _ _ _ _ h => le_int h
theorem pc_gt (ha : PE X a ta) (hb : PE X b tb) : PC X .Gt a b (tGt ta tb) := pc_int ha hb fun _ _ _ _ _ _ h => gt_int h
theorem pc_ge (ha : PE X a ta) (hb : PE X b tb) : PC X .GtE a b (tGe ta tb) := pc_int ha hb fun _ _ _ _ _ _ h => ge_int h
theorem pc_eqI (ha : PE X a ta) (hb : PE X b tb) : PC X .Eq a b (tEqI ta tb) := pc_int ha hb fun _ _ _ _ _ _ h => eq_int (by rw [Bool.beq_eq_decide_eq]; exact h)
theorem pc_neI (ha : PE X a ta) (hb : PE X b tb) : PC X .NotEq a b (tNeI ta tb) := pc_int ha hb fun _ _ _ _ _ _ h => ne_int (by rw [bne, Bool.beq_eq_decide_eq]; exact h)
/-- is None -/
def tIsN (ta : TE) : TE := fun σ H Q => ta σ H fun x H1 => Q (.bl (decide (x = .non))) H1
def tNotN (ta : TE) : TE := fun σ H Q => ta σ H fun x H1 => Q (.bl (!decide (x = .non))) H1
theorem RelV.none_iff {x : V} {v : Value} (r : RelV x v) : (v == Value.none) = decide (x = .non) := by
  cases x with
  | non => cases r; rfl
  | bl _ => cases r; rfl
  | int _ => obtain ⟨t, rfl⟩ := r; rfl
  | str _ => obtain ⟨t, rfl⟩ := r; rfl
  | byt _ => obtain ⟨t, rfl⟩ := r; rfl
  | flt _ => obtain ⟨t, rfl⟩ := r; rfl
  | ref _ => cases r; rfl
  | ty _ => cases r; rfl
theorem pc_isN {j pos'} (ha : PE X a ta) : PC X .Is a (.Constant .none j pos') (tIsN ta) := by
  intro pins s σ H Q I h
  refine thn (ha pins s σ H _ I h) fun v s1 ⟨x, H1, I1, r1, q1⟩ => ?_
  exact Constant_none (is_none_gen ⟨.bl _, H1, I1, by rw [r1.none_iff]; rfl, q1⟩)
theorem pc_notN {j pos'} (ha : PE X a ta) : PC X .IsNot a (.Constant .none j pos') (tNotN ta) := by
  intro pins s σ H Q I h
  refine thn (ha pins s σ H _ I h) fun v s1 ⟨x, H1, I1, r1, q1⟩ => ?_
  exact Constant_none (isnot_none_gen ⟨.bl _, H1, I1, by rw [r1.none_iff]; rfl, q1⟩)
/-- a comparison as a value, as a test -/
def tB (t : TE) : TT := fun σ H Q => t σ H fun x H1 => ∃ c, x = .bl c ∧ Q c H1
theorem pe_cmp {op : CmpOp} {t : TE} (h : PC X op a b t) (h1 : behindInMarks op b = false := by first | exact nobehind _ (by decide) (by decide) | rfl) : PE X (.Compare a [op] [b] pos) t := fun pins s σ H Q I hw => wpAny_Compare1 (h pins s σ H Q I hw) h1
theorem pt_cmp {op : CmpOp} {t : TE} (h : PC X op a b t) (h1 : behindInMarks op b = false := by first | exact nobehind _ (by decide) (by decide) | rfl) : PT X (.Compare a [op] [b] pos) (tB t) := by
  intro pins s σ H Q I hw
  refine wpAny_isTrue_Compare1 (thn (h pins s σ H _ I hw) fun v s1 h1 => thn h1 fun u s2 h2 => thn h2 fun c s3 ⟨x, H1, I1, r1, q1⟩ => ?_) h1
  obtain ⟨d, rfl, q⟩ := q1
  cases r1
  exact wpAny_truthy_bool ⟨H1, I1, q⟩
/-- an expression whose value is a bool, as a test -/
theorem pt_val {e : Expr} {t : TE} (h : PE X e t) (he : ∀ whole, isTrue e X.env whole = (do let v ← whole; standAt e.pos; holding [v] (truthy v)) := by intro _; rfl) : PT X e (tB t) := by
  intro pins s σ H Q I hw
  refine isTrue_plain (thn (h pins s σ H _ I hw) fun v s1 ⟨x, H1, I1, r1, q1⟩ => ?_) (he _)
  obtain ⟨d, rfl, q⟩ := q1
  cases r1
  exact wpAny_truthy_bool ⟨H1, I1, q⟩

/-! ### and, or, not -/
variable {tA tB' : TT} {rest : List Expr}
def tAnd (t u : TT) : TT := fun σ H Q => t σ H fun c H1 => if c = true then u σ H1 Q else Q false H1
def tOr (t u : TT) : TT := fun σ H Q => t σ H fun c H1 => if c = true then Q true H1 else u σ H1 Q
def tNot (t : TT) : TT := fun σ H Q => t σ H fun c H1 => Q (!c) H1
theorem pw_and1 (ha : PT X a tA) : PW X (.BoolOp .And [a] pos) tA := by
  intro wh pins s σ H Q I h
  refine isTrue_and (thn (ha pins s σ H Q I h) fun c s1 e => ?_)
  cases c with
  | true => exact isTrue_and_nil e
  | false => exact e
theorem pw_or1 (ha : PT X a tA) : PW X (.BoolOp .Or [a] pos) tA := by
  intro wh pins s σ H Q I h
  refine isTrue_or (thn (ha pins s σ H Q I h) fun c s1 e => ?_)
  cases c with
  | false => exact isTrue_or_nil e
  | true => exact e
theorem pw_and (ha : PT X a tA) (hb : PW X (.BoolOp .And (b :: rest) pos) tB') : PW X (.BoolOp .And (a :: b :: rest) pos) (tAnd tA tB') := by
  intro wh pins s σ H Q I h
  refine isTrue_and (thn (ha pins s σ H _ I h) fun c s1 ⟨H1, I1, q1⟩ => ?_)
  cases c with
  | true => exact hb wh pins s1 σ H1 Q I1 q1
  | false => exact ⟨H1, I1, q1⟩
theorem pw_or (ha : PT X a tA) (hb : PW X (.BoolOp .Or (b :: rest) pos) tB') : PW X (.BoolOp .Or (a :: b :: rest) pos) (tOr tA tB') := by
  intro wh pins s σ H Q I h
  refine isTrue_or (thn (ha pins s σ H _ I h) fun c s1 ⟨H1, I1, q1⟩ => ?_)
  cases c with
  | true => exact ⟨H1, I1, q1⟩
  | false => exact hb wh pins s1 σ H1 Q I1 q1
theorem pt_not (ha : PT X a tA) : PT X (.UnaryOp .Not a pos) (tNot tA) := by
  intro pins s σ H Q I h
  exact isTrue_not (ha pins s σ H (fun c H1 => Q (!c) H1) I h)
/-- .. as values (bools) -/
def tAndV (ta tb : TE) : TE := fun σ H Q => ta σ H fun x H1 => ∃ c, x = .bl c ∧ if c = true then tb σ H1 Q else Q (.bl false) H1
def tOrV (ta tb : TE) : TE := fun σ H Q => ta σ H fun x H1 => ∃ c, x = .bl c ∧ if c = true then Q (.bl true) H1 else tb σ H1 Q
def tNotV (ta : TE) : TE := fun σ H Q => ta σ H fun x H1 => ∃ c, x = .bl c ∧ Q (.bl (!c)) H1
theorem pe_one {op} {t : TE} (h : PE X a t) : PE X (.BoolOp op [a] pos) t := fun pins s σ H Q I hw => BoolOp_one (h pins s σ H Q I hw)
theorem pe_and (ha : PE X a ta) (hb : PE X (.BoolOp .And (b :: rest) pos) tb) : PE X (.BoolOp .And (a :: b :: rest) pos) (tAndV ta tb) := by
  intro pins s σ H Q I h
  refine BoolOp_and (thn (ha pins s σ H _ I h) fun v s1 ⟨x, H1, I1, r1, q1⟩ => ?_)
  obtain ⟨c, rfl, q1⟩ := q1
  cases r1
  refine wpAny_truthy_bool ?_
  cases c with
  | true => exact hb pins s1 σ H1 Q I1 q1
  | false => exact ⟨.bl false, H1, I1, rfl, q1⟩
theorem pe_or (ha : PE X a ta) (hb : PE X (.BoolOp .Or (b :: rest) pos) tb) : PE X (.BoolOp .Or (a :: b :: rest) pos) (tOrV ta tb) := by
  intro pins s σ H Q I h
  refine BoolOp_or (thn (ha pins s σ H _ I h) fun v s1 ⟨x, H1, I1, r1, q1⟩ => ?_)
  obtain ⟨c, rfl, q1⟩ := q1
  cases r1
  refine wpAny_truthy_bool ?_
  cases c with
  | false => exact hb pins s1 σ H1 Q I1 q1
  | true => exact ⟨.bl true, H1, I1, rfl, q1⟩
theorem pe_not (ha : PE X a ta) : PE X (.UnaryOp .Not a pos) (tNotV ta) := by
  intro pins s σ H Q I h
  refine UnaryOp_ (thn (ha pins s σ H _ I h) fun v s1 ⟨x, H1, I1, r1, q1⟩ => ?_)
  obtain ⟨c, rfl, q1⟩ := q1
  cases r1
  exact not_of (wpAny_truthy_bool ⟨.bl (!c), H1, I1, rfl, q1⟩)
/-- a if t else b -/
def tIf (t : TT) (ta tb : TE) : TE := fun σ H Q => t σ H fun c H1 => if c = true then ta σ H1 Q else tb σ H1 Q
theorem pe_ifExp {c : Expr} (hc : PT X c tA) (ha : PE X a ta) (hb : PE X b tb) : PE X (.IfExp c a b pos) (tIf tA ta tb) := by
  intro pins s σ H Q I h
  refine wpAny_IfExp (thn (hc pins s σ H _ I h) fun d s1 ⟨H1, I1, q1⟩ => ?_)
  cases d with
  | true => exact ha pins s1 σ H1 Q I1 q1
  | false => exact hb pins s1 σ H1 Q I1 q1
end
end L2

namespace L2
open PySem PySem.Spec PyProof.Rows

/-! ### a list, a tuple that is read: tracked, frozen, or an object of the module -/
def SqL (K : PySem.W.Frag) (H : Hp) (a : Addr) (xs : List V) : Prop :=
  Rd H a (.lst xs) ∨
    ∃ (o : Obj) (its : Array Value) (n : Nat), K.lookup a = some o ∧ o.cls = .type "list" ∧ o.dict = none ∧ o.data = .seq its n ∧ its.size ≤ sizeLine ∧ Vals xs its.toList
def SqT (K : PySem.W.Frag) (H : Hp) (a : Addr) (xs : List V) : Prop :=
  Rd H a (.tup xs) ∨
    ∃ (o : Obj) (its : Array Value) (n : Nat), K.lookup a = some o ∧ o.cls = .type "tuple" ∧ o.data = .seq its n ∧ its.size ≤ sizeLine ∧ Vals xs its.toList
def absV : Value → Option V
  | .none => some .non
  | .bool b => some (.bl b)
  | .int i _ => some (.int i)
  | .str x _ => some (.str x)
  | .bytes b _ => some (.byt b)
  | .float b _ => some (.flt b)
  | .ref a => some (.ref a)
  | .type n => some (.ty n)
  | _ => none
theorem RelV.abs {x : V} {u : Value} (r : RelV x u) : absV u = some x := by
  cases x with
  | non => cases r; rfl
  | bl _ => cases r; rfl
  | int _ => obtain ⟨t, rfl⟩ := r; rfl
  | str _ => obtain ⟨t, rfl⟩ := r; rfl
  | byt _ => obtain ⟨t, rfl⟩ := r; rfl
  | flt _ => obtain ⟨t, rfl⟩ := r; rfl
  | ref _ => cases r; rfl
  | ty _ => cases r; rfl
theorem RelV.inj {x y : V} {u : Value} (r : RelV x u) (q : RelV y u) : x = y := Option.some.inj (r.abs.symm.trans q.abs)
theorem Vals.inj : ∀ {xs ys : List V} {us : List Value}, Vals xs us → Vals ys us → xs = ys
  | _, _, _, .nil, .nil => rfl
  | _, _, _, .cons r t, .cons r' t' => by rw [r.inj r', Vals.inj t t']
section
variable {X : Cx} {pins : List (Addr × Obj)} {σ : St} {H : Hp} {s : Shared} {a : Addr} {xs ys : List V}
theorem SqL.of {K : PySem.W.Frag} (h : H a = some (.lst xs)) : SqL K H a xs := .inl (.inl h)
theorem SqT.of {K : PySem.W.Frag} (h : H a = some (.tup xs)) : SqT K H a xs := .inl (.inl h)
theorem Inv.list (I : Inv X pins σ H s) (h : SqL X.K H a xs) : ∃ its : List Value, Vals xs its ∧ PlainL s.heap a its.toArray ∧ xs.length ≤ sizeLine := by
  rcases h with h | ⟨o, its, n, hk, hc, hd, hs, hz, r⟩
  · obtain ⟨z, its, n, r, e⟩ := h.ok I.hok
    exact ⟨its, r, ⟨_, n, e, rfl, rfl, rfl⟩, z⟩
  · refine ⟨its.toList, r, ⟨o, n, I.kIn a o hk, hc, hd, by simpa using hs⟩, ?_⟩
    have e := r.length
    simp only [Array.length_toList] at e
    omega
theorem Inv.tuple (I : Inv X pins σ H s) (h : SqT X.K H a xs) : ∃ its : List Value, Vals xs its ∧ IsTup s.heap a its.toArray ∧ xs.length ≤ sizeLine := by
  rcases h with h | ⟨o, its, n, hk, hc, hs, hz, r⟩
  · obtain ⟨z, its, r, p⟩ := h.ok I.hok
    exact ⟨its, r, p, z⟩
  · refine ⟨its.toList, r, ⟨o, I.kIn a o hk, hc, n, by simpa using hs⟩, ?_⟩
    have e := r.length
    simp only [Array.length_toList] at e
    omega
theorem Inv.list_inj (I : Inv X pins σ H s) (h : SqL X.K H a xs) (h' : SqL X.K H a ys) : xs = ys := by
  obtain ⟨its, r, ⟨o, n, e, _, _, d⟩, _⟩ := I.list h
  obtain ⟨its', r', ⟨o', n', e', _, _, d'⟩, _⟩ := I.list h'
  rw [e] at e'; cases e'
  rw [d] at d'
  injection d' with d1 _
  have : its = its' := by simpa using congrArg Array.toList d1
  subst this
  exact r.inj r'
theorem Inv.tuple_inj (I : Inv X pins σ H s) (h : SqT X.K H a xs) (h' : SqT X.K H a ys) : xs = ys := by
  obtain ⟨its, r, ⟨o, e, _, n, d⟩, _⟩ := I.tuple h
  obtain ⟨its', r', ⟨o', e', _, n', d'⟩, _⟩ := I.tuple h'
  rw [e] at e'; cases e'
  rw [d] at d'
  injection d' with d1 _
  have : its = its' := by simpa using congrArg Array.toList d1
  subst this
  exact r.inj r'
end

/-! ### another wish about exceptions -/
abbrev Cx.wish (X : Cx) (E : Value → Shared → Prop) : Cx := { X with xe := E }
/-- no exception leaves -/
abbrev Cx.nox (X : Cx) : Cx := X.wish fun _ _ => False
theorem Cx.Ok.wish {X : Cx} (ok : X.Ok) (E : Value → Shared → Prop) : (X.wish E).Ok :=
  ⟨ok.mod, ok.kind, ok.glob, ok.blt, ok.above, ok.inj, ok.has, ok.cab, ok.hd, ok.frames, ok.stk, ok.exf, ok.bs, ok.bsz, ok.noex, ok.exfs, ok.funs, ok.frf⟩
theorem Cx.Ok.unwish {X : Cx} {E : Value → Shared → Prop} (ok : (X.wish E).Ok) : X.Ok :=
  ⟨ok.mod, ok.kind, ok.glob, ok.blt, ok.above, ok.inj, ok.has, ok.cab, ok.hd, ok.frames, ok.stk, ok.exf, ok.bs, ok.bsz, ok.noex, ok.exfs, ok.funs, ok.frf⟩
section
variable {X : Cx} {pins : List (Addr × Obj)} {σ : St} {H : Hp} {s : Shared} {E : Value → Shared → Prop}
theorem Inv.wish (I : Inv X pins σ H s) (E : Value → Shared → Prop) : Inv (X.wish E) pins σ H s := ⟨I.ok.wish E, I.os, I.bare, I.base, I.loc, I.cell, I.free, I.freeC, I.pin, I.hok, I.len⟩
theorem Inv.unwish (I : Inv (X.wish E) pins σ H s) : Inv X pins σ H s := ⟨I.ok.unwish, I.os, I.bare, I.base, I.loc, I.cell, I.free, I.freeC, I.pin, I.hok, I.len⟩
theorem SP.unwish {D : Ends} {f : Flow} {s' : Shared} (h : SP (X.wish E) pins D f s') : SP X pins D f s' := by
  cases f with
  | next => obtain ⟨σ', H', I, q⟩ := h; exact ⟨σ', H', I.unwish, q⟩
  | brk => obtain ⟨σ', H', I, q⟩ := h; exact ⟨σ', H', I.unwish, q⟩
  | cont => obtain ⟨σ', H', I, q⟩ := h; exact ⟨σ', H', I.unwish, q⟩
  | ret u => obtain ⟨v, σ', H', I, r, q⟩ := h; exact ⟨v, σ', H', I.unwish, r, q⟩
theorem PE.nox {e : Expr} {t : TE} (h : PE X.nox e t) : PE X e t := fun pins s σ H Q I hw =>
  wpAny_mono (h pins s σ H Q (I.wish _) hw) (fun _ _ ⟨v, H', I', r, q⟩ => ⟨v, H', I'.unwish, r, q⟩) fun _ _ z => False.elim z
theorem PT.nox {e : Expr} {t : TT} (h : PT X.nox e t) : PT X e t := fun pins s σ H Q I hw =>
  wpAny_mono (h pins s σ H Q (I.wish _) hw) (fun _ _ ⟨H', I', q⟩ => ⟨H', I'.unwish, q⟩) fun _ _ z => False.elim z
theorem PSs.nox {st : List Stmt} {t : TS} (h : PSs X.nox st t) : PSs X st t := fun pins s σ H D I hw =>
  wpAny_mono (h pins s σ H D (I.wish _) hw) (fun _ _ q => q.unwish) fun _ _ z => False.elim z
end

/-! ### blocks and small statements -/
section
variable {X : Cx} {st : Stmt} {rest : List Stmt} {t u : TS} {e : Expr} {te : TE} {pos : Pos}
def tNext : TS := fun D σ H => D.nx σ H
def tSeq (t u : TS) : TS := fun D σ H => t { D with nx := u D } σ H
theorem pss_nil : PSs X [] tNext := fun _ _ σ H _ I h => wpAny_execs_nil ⟨σ, H, I, h⟩
theorem pss_cons (h1 : PS X st t) (h2 : PSs X rest u) : PSs X (st :: rest) (tSeq t u) := by
  intro pins s σ H D I h
  refine wpAny_execs_cons (thn (h1 pins s σ H { D with nx := u D } I h) fun f s1 q => ?_)
  cases f with
  | next =>
    obtain ⟨σ', H', I', q⟩ := q
    exact h2 pins s1 σ' H' D I' q
  | ret v => exact q
  | brk => exact q
  | cont => exact q
theorem pss_one (h1 : PS X st t) : PSs X [st] t := by
  intro pins s σ H D I h
  refine wpAny_execs_cons (thn (h1 pins s σ H D I h) fun f s1 q => ?_)
  cases f with
  | next => exact wpAny_execs_nil q
  | ret v => exact q
  | brk => exact q
  | cont => exact q
def tBreak : TS := fun D σ H => D.bk σ H
def tCont : TS := fun D σ H => D.ct σ H
theorem ps_pass : PS X (.Pass pos) tNext := fun _ _ σ H _ I h => wpAny_Pass ⟨σ, H, I, h⟩
theorem ps_break : PS X (.Break pos) tBreak := fun _ _ σ H _ I h => wpAny_Break ⟨σ, H, I, h⟩
theorem ps_continue : PS X (.Continue pos) tCont := fun _ _ σ H _ I h => wpAny_Continue ⟨σ, H, I, h⟩
/-- in a def's body nothing is shown -/
theorem Inv.quiet {pins : List (Addr × Obj)} {σ : St} {H : Hp} {s : Shared} (I : Inv X pins σ H s) : interactive X.env = false := by simp [interactive, I.ok.kind]
/-- a docstring -/
theorem ps_doc {x j pos pos'} : PS X (.Expr (.Constant (.str x) j pos) pos') tNext := fun _ s σ H _ I h => wpAny_Expr (Calls.Constant_str (show SP X _ _ .next { s with toks := s.toks + 1 } from ⟨σ, H, I.tok _, h⟩)) I.quiet
/-- an expression whose value is dropped -/
def tDrop (te : TE) : TS := fun D σ H => te σ H fun _ H1 => D.nx σ H1
theorem ps_expr (he : PE X e te) (hs : swapsWith e none pos.line X.env = pure false := by rfl) : PS X (.Expr e pos) (tDrop te) := by
  intro pins s σ H D I h
  exact wpAny_Expr_any (thn (he pins s σ H _ I h) fun v s1 ⟨x, H1, I1, r1, q1⟩ => ⟨σ, H1, I1, q1⟩) I.quiet hs
def tRet (te : TE) : TS := fun D σ H => te σ H D.rt
theorem ps_ret (he : PE X e te) : PS X (.Return (some e) pos) (tRet te) := by
  intro pins s σ H D I h
  exact wpAny_Return_some (thn (he pins s σ H _ I h) fun v s1 ⟨x, H1, I1, r1, q1⟩ => ⟨x, σ, H1, I1, r1, q1⟩)
def tRetN : TS := fun D _ H => D.rt .non H
theorem ps_retN : PS X (.Return none pos) tRetN := fun _ _ σ H _ I h => wpAny_Return_none ⟨.non, σ, H, I, rfl, h⟩
def tIfS (c : TT) (t u : TS) : TS := fun D σ H => c σ H fun b H1 => if b = true then t D σ H1 else u D σ H1
theorem ps_if {c : Expr} {a b : List Stmt} {tc : TT} (hc : PT X c tc) (ha : PSs X a t) (hb : PSs X b u) : PS X (.If c a b pos) (tIfS tc t u) := by
  intro pins s σ H D I h
  refine wpAny_If (thn (hc pins s σ H _ I h) fun d s1 ⟨H1, I1, q1⟩ => ?_)
  cases d with
  | true => exact ha pins s1 σ H1 D I1 q1
  | false => exact hb pins s1 σ H1 D I1 q1
/-- code that the proof never comes to -/
def tNever : TS := fun _ _ _ => False
theorem ps_never : PS X st tNever := fun _ _ _ _ _ _ h => h.elim
theorem pss_never {sts : List Stmt} : PSs X sts tNever := fun _ _ _ _ _ _ h => h.elim
end

/-! ### targets -/
abbrev TG := V → St → Hp → (St → Hp → Prop) → Prop
abbrev TGs := List V → St → Hp → (St → Hp → Prop) → Prop
def PG (X : Cx) (target : Expr) (t : TG) : Prop :=
  ∀ (pins : List (Addr × Obj)) (s : Shared) (σ : St) (H : Hp) (v : V) (u : Value) (Q : St → Hp → Prop), Inv X pins σ H s → RelV v u → t v σ H Q →
    wpAny (model X.prog X.w) X.A (assign target X.env u) (fun _ s' => ∃ σ' H', Inv X pins σ' H' s' ∧ Q σ' H') X.xe s
/-- several targets, one after another -/
def PGs (X : Cx) (ts : List Expr) (t : TGs) : Prop :=
  ∀ (pins : List (Addr × Obj)) (s : Shared) (σ : St) (H : Hp) (vs : List V) (us : List Value) (Q : St → Hp → Prop), Inv X pins σ H s → Vals vs us → t vs σ H Q →
    wpAny (model X.prog X.w) X.A (assignInOrder ((assignEach ts X.env).map (·.2)) us) (fun _ s' => ∃ σ' H', Inv X pins σ' H' s' ∧ Q σ' H') X.xe s
/-- o[i] = v, by values -/
abbrev TSet := V → V → V → Hp → (Hp → Prop) → Prop
def PSet (X : Cx) (t : TSet) : Prop :=
  ∀ (pins : List (Addr × Obj)) (s : Shared) (σ : St) (H : Hp) (o i v : V) (ov iv u : Value) (Q : Hp → Prop), Inv X pins σ H s → RelV o ov → RelV i iv → RelV v u → t o i v H Q →
    wpAny (model X.prog X.w) X.A (setItem ov iv u) (fun _ s' => ∃ H', Inv X pins σ H' s' ∧ Q H') X.xe s
/-- a op= b, by values -/
abbrev TIp := V → V → Hp → VK → Prop
def PIp (X : Cx) (op : Operator) (t : TIp) : Prop :=
  ∀ (pins : List (Addr × Obj)) (s : Shared) (σ : St) (H : Hp) (x y : V) (v u : Value) (Q : VK), Inv X pins σ H s → RelV x v → RelV y u → t x y H Q →
    wpAny (model X.prog X.w) X.A (inplaceOp op v u) (EP X pins σ Q) X.xe s
section
variable {X : Cx} {pos : Pos}
def gName (i : Nat) : TG := fun v σ H Q => Q (σ.set i (some v)) H
theorem pg_name {i : Nat} {x : Str} (hN : X.N.Nodup) (hi : X.N[i]? = some x) (hx : Loc X.env.scope x) (hf : X.fn x = true ∨ X.env.scope.names.lookup x = some .local := by first | exact .inl rfl | exact .inr rfl | assumption) : PG X (.Name x pos) (gName i) := by
  intro pins s σ H v u Q I r h
  exact wpAny_assign_Name (store_ok I hN hi hx r (fun s' I' => ⟨_, H, I', h⟩) hf)
def gNil : TGs := fun vs σ H Q => vs = [] ∧ Q σ H
def gCons (t : TG) (u : TGs) : TGs := fun vs σ H Q => ∃ v r, vs = v :: r ∧ t v σ H fun σ' H' => u r σ' H' Q
theorem pgs_nil : PGs X [] gNil := by
  intro pins s σ H vs us Q I r h
  obtain ⟨e, h⟩ := h
  subst e
  cases r
  exact assignInOrder_nil ⟨σ, H, I, h⟩
theorem pgs_cons {e : Expr} {es : List Expr} {t : TG} {u : TGs} (h1 : PG X e t) (h2 : PGs X es u)
    (hs : (assignEach (e :: es) X.env).map (·.2) = assign e X.env :: (assignEach es X.env).map (·.2) := by rfl) : PGs X (e :: es) (gCons t u) := by
  intro pins s σ H vs us Q I r h
  obtain ⟨v, vr, e1, h⟩ := h
  subst e1
  cases r with
  | cons r rr =>
    rw [hs]
    refine assignInOrder_cons (thn (h1 pins s σ H _ _ _ I r h) fun _ s1 ⟨σ1, H1, I1, q1⟩ => ?_)
    exact h2 pins s1 σ1 H1 _ _ Q I1 rr q1
/-- (a, b, ..) = a tuple of that length -/
def gTup (K : PySem.W.Frag) (n : Nat) (t : TGs) : TG := fun v σ H Q => ∃ a xs, v = .ref a ∧ SqT K H a xs ∧ xs.length = n ∧ t xs σ H Q
theorem pg_tup {es : List Expr} {k : Nat} {t : TGs} {n : Nat} (hc : X.calm = true) (h : PGs X es t)
    (hn : (assignEach es X.env).length = n := by rfl) (hst : (assignEach es X.env).findIdx? (·.1) = none := by rfl) : PG X (.Tuple es k pos) (gTup X.K n t) := by
  intro pins s σ H v u Q I r hw
  obtain ⟨a, xs, e1, hq, hl, hw⟩ := hw
  subst e1
  cases r
  obtain ⟨its, rv, ht, hz⟩ := I.tuple hq
  refine assign_Tuple_tuple (I.ok.hd hc) ht (by simp [hn, ← hl, rv.length]) hst fun h' hx => ?_
  have I1 : Inv X pins σ H { s with heap := h' } := I.kept (t' := s.toks) fun b o e => hx b o (Nat.ne_of_lt (Heap.lt_size e)) e
  exact h pins _ σ H xs _ Q I1 (by simpa using rv) hw
/-- o[i] = .. -/
def gSub (to ti : TE) (t : TSet) : TG := fun v σ H Q => to σ H fun o H1 => ti σ H1 fun i H2 => t o i v H2 fun H3 => Q σ H3
theorem pg_sub {o i : Expr} {to ti : TE} {t : TSet} (ho : PE X o to) (hi : PE X i ti) (hs : PSet X t)
    (ha : ∀ v, assign (.Subscript o i pos) X.env v = (do
      let ov ← holding [v] (eval o X.env)
      let iv ← holding [v, ov] (eval i X.env)
      standAt pos
      holding [v, ov, iv] (setItem ov iv v)
      release [v, ov, iv] []) := by intro _; rfl) : PG X (.Subscript o i pos) (gSub to ti t) := by
  intro pins s σ H v u Q I r h
  rw [ha]
  refine wpAny_bind (wpAny_holding (thn (ho pins s σ H _ I h) fun ov s1 ⟨x, H1, I1, r1, q1⟩ => ?_))
  refine wpAny_bind (wpAny_holding (thn (hi pins s1 σ H1 _ I1 q1) fun iv s2 ⟨y, H2, I2, r2, q2⟩ => ?_))
  refine wpAny_bind (wpAny_standAt (wpAny_bind (wpAny_holding (thn (hs pins s2 σ H2 x y v ov iv u _ I2 r1 r2 r q2) fun _ s3 ⟨H3, I3, q3⟩ => ?_))))
  exact wpAny_release ⟨σ, H3, I3, q3⟩
/-- target = value -/
def tAsg (te : TE) (g : TG) : TS := fun D σ H => te σ H fun x H1 => g x σ H1 D.nx
theorem ps_asg {tg e : Expr} {te : TE} {g : TG} (he : PE X e te) (hg : PG X tg g) (hs : swapsWithSole [tg] e pos.line X.env = pure false := by rfl) (hw : swappedStores [tg] e X.env = pure none := by rfl)
    (h1 : (assignEach [tg] X.env).map (·.2) = [assign tg X.env] := by rfl) : PS X (.Assign [tg] e pos) (tAsg te g) := by
  intro pins s σ H D I h
  refine wpAny_Assign_stores (thn (he pins s σ H _ I h) fun v s1 ⟨x, H1, I1, r1, q1⟩ => ?_) hs hw
  rw [h1]
  exact thn (hg pins s1 σ H1 x v _ I1 r1 q1) fun _ s2 q => q
/-- name = value -/
theorem ps_set {i : Nat} {x : Str} {e : Expr} {te : TE} {pos' : Pos} (hN : X.N.Nodup) (hi : X.N[i]? = some x) (hx : Loc X.env.scope x) (he : PE X e te) (hs : swapsWith e (some (.Name x pos')) pos.line X.env = pure false := by rfl) (hf : X.fn x = true ∨ X.env.scope.names.lookup x = some .local := by first | exact .inl rfl | exact .inr rfl | assumption) :
    PS X (.Assign [.Name x pos'] e pos) (tAsg te (gName i)) := by
  intro pins s σ H D I h
  refine wpAny_Assign_Name (thn (he pins s σ H _ I h) fun v s1 ⟨y, H1, I1, r1, q1⟩ => ?_) hs
  exact store_ok I1 hN hi hx r1 (fun s2 I2 => ⟨_, H1, I2, q1⟩) hf
/-- a, b = x, y with plain local names: stored from the right; the pair itself is not tracked (the opening rows as in PyProof/Rows/TupAssign.lean:23) -/
def tPar (i j : Nat) (ta : TA) : TS := fun D σ H => ta σ H fun vs H1 => ∃ v w, vs = [v, w] ∧ D.nx ((σ.set i (some v)).set j (some w)) H1
theorem ps_par {i j : Nat} {x y : Str} {a b : Expr} {ta : TA} {px py pt : Pos} {kt k2 pt2} (hc : X.calm = true) (hN : X.N.Nodup) (hi : X.N[i]? = some x) (hj : X.N[j]? = some y) (hij : i ≠ j)
    (hx : X.env.scope.names.lookup x = some .local) (hy : X.env.scope.names.lookup y = some .local) (ha : PA X [a, b] ta)
    (hw : swappedStores [.Tuple [.Name x px, .Name y py] kt pt] (.Tuple [a, b] k2 pt2) X.env = pure (some [x, y]))
    (hs : swapsWithSole [.Tuple [.Name x px, .Name y py] kt pt] (.Tuple [a, b] k2 pt2) pos.line X.env = pure false := by rfl) :
    PS X (.Assign [.Tuple [.Name x px, .Name y py] kt pt] (.Tuple [a, b] k2 pt2) pos) (tPar i j ta) := by
  intro pins s σ H D I h
  rw [exec_Assign_arm]
  refine wpAny_bind (wpAny_standAt ?_)
  rw [hs]
  refine wpAny_bind (wpAny_pure ?_)
  rw [if_neg (by decide)]
  refine wpAny_bind (Tuple_ (thn (ha _ pins s σ H _ I h) fun us s1 ⟨vs, H1, I1, r1, q1⟩ => ?_))
  obtain ⟨v, w, e1, q1⟩ := q1
  subst e1
  obtain ⟨u1, u2, rfl, rv, rw'⟩ : ∃ u1 u2, us = [u1, u2] ∧ RelV v u1 ∧ RelV w u2 := by
    cases r1 with
    | cons p q =>
      cases q with
      | cons p' q' =>
        cases q'
        exact ⟨_, _, rfl, p, p'⟩
  refine wpAny_newObj_type ?_ (by show 2 ≤ sizeLine; decide)
  have I2 : Inv X pins σ H1 { s1 with heap := s1.heap.push { cls := .type "tuple", data := .seq [u1, u2].toArray } } := I1.kept (t' := s1.toks) fun b o e => Heap.get?_push_of_some _ e
  rw [hw]
  refine wpAny_bind (wpAny_pure ?_)
  show wpAny (model X.prog X.w) X.A (do rule "assign.swapped-stores"; let items ← unpackItems (.ref s1.heap.objs.size) 2 none; assignInOrder [fun v => bindName X.env y v, fun v => bindName X.env x v] items.reverse; pure Flow.next) _ _ _
  refine wpAny_bind (wpAny_rule (wpAny_bind (unpackItems_tuple (items := #[u1, u2]) (I.ok.hd hc) (IsTup.new s1.heap _) fun h' hx' => ?_)))
  have I3 := I2.kept (h' := h') (t' := s1.toks) fun b o e => hx' b o (Nat.ne_of_lt (Heap.lt_size e)) e
  show wpAny _ _ (assignInOrder [fun v => bindName X.env y v, fun v => bindName X.env x v] [u2, u1] >>= fun _ => pure Flow.next) _ _ _
  refine wpAny_bind (assignInOrder_cons (wpAny_bindName (store_ok I3 hN hj (.inl hy) rw' (fun s2 I4 => ?_) (.inr hy))))
  refine assignInOrder_cons (wpAny_bindName (store_ok I4 hN hi (.inl hx) rv (fun s3 I5 => assignInOrder_nil (wpAny_pure ?_)) (.inr hx)))
  rw [List.set_comm _ _ (Ne.symm hij)] at I5
  exact ⟨_, H1, I5, q1⟩
/-- name op= e -/
def tAug (i : Nat) (te : TE) (ti : TIp) : TS := fun D σ H => ∃ x, σ[i]? = some (some x) ∧ te σ H fun y H1 => ti x y H1 fun z H2 => D.nx (σ.set i (some z)) H2
theorem ps_aug {i : Nat} {x : Str} {e : Expr} {te : TE} {op : Operator} {ti : TIp} {pos' : Pos} (hN : X.N.Nodup) (hi : X.N[i]? = some x) (hx : Loc X.env.scope x) (he : PE X e te) (ho : PIp X op ti) (hf : X.fn x = true ∨ X.env.scope.names.lookup x = some .local := by first | exact .inl rfl | exact .inr rfl | assumption) :
    PS X (.AugAssign (.Name x pos') op e pos) (tAug i te ti) := by
  intro pins s σ H D I h
  obtain ⟨v, e1, h⟩ := h
  obtain ⟨m, hn, hl⟩ := I.loc
  have vis : Vis X.env.scope x := by rcases hx with k | k; exact .inl k; exact .inr (.inl k)
  obtain ⟨u, r, l⟩ := hl i x v hi e1 vis
  refine wpAny_AugAssign_Name ?_
  have go : wpAny (model X.prog X.w) X.A (eval e X.env) (fun w s₂ => wpAny (model X.prog X.w) X.A (inplaceOp op u w) (fun r s₃ => wpAny (model X.prog X.w) X.A (storeName X.env x r) (fun _ => SP X pins D .next) X.xe s₃) X.xe s₂) X.xe s := by
    refine thn (he pins s σ H _ I h) fun w s1 ⟨y, H1, I1, r1, q1⟩ => ?_
    refine thn (ho pins s1 σ H1 v y u w _ I1 r r1 q1) fun z s2 ⟨zv, H2, I2, r2, q2⟩ => ?_
    exact store_ok I2 hN hi hx r2 (fun s3 I3 => ⟨_, H2, I3, q2⟩) hf
  rcases l with ⟨hk, hm⟩ | ⟨hk, c, hc, hcell⟩
  · exact wpAny_loadName_local I.ok.kind hk hn hm go
  · rcases hk with hk | hk
    · exact wpAny_loadName_cell I.ok.kind hk hc hcell go
    · rcases hx with k | k
      · have : X.env.scope.names.lookup x = some .free := hk
        rw [k] at this; cases this
      · have : X.env.scope.names.lookup x = some .free := hk
        rw [k] at this; cases this
/-- o[i] op= e -/
def tAugS (to ti te : TE) (tget : V → V → Hp → VK → Prop) (tip : TIp) (tset : TSet) : TS := fun D σ H => to σ H fun o H1 => ti σ H1 fun i H2 => tget o i H2 fun x H3 => te σ H3 fun y H4 => tip x y H4 fun z H5 => tset o i z H5 fun H6 => D.nx σ H6
/-- o[i], by values -/
def PGet (X : Cx) (t : V → V → Hp → VK → Prop) : Prop :=
  ∀ (pins : List (Addr × Obj)) (s : Shared) (σ : St) (H : Hp) (o i : V) (ov iv : Value) (Q : VK), Inv X pins σ H s → RelV o ov → RelV i iv → t o i H Q →
    wpAny (model X.prog X.w) X.A (getItem ov iv) (EP X pins σ Q) X.xe s
theorem ps_augS {o i e : Expr} {to ti te : TE} {tget : V → V → Hp → VK → Prop} {tip : TIp} {tset : TSet} {op : Operator} {tpos : Pos} (ho : PE X o to) (hi : PE X i ti) (hg : PGet X tget) (he : PE X e te) (hp : PIp X op tip) (hs : PSet X tset)
    (ha : ∀ ov iv new, augStore i ov iv new = (do holding [new, ov, iv] (setItem ov iv new); release [new, ov, iv] []; pure .next) := by intros; rfl) : PS X (.AugAssign (.Subscript o i tpos) op e pos) (tAugS to ti te tget tip tset) := by
  intro pins s σ H D I h
  refine wpAny_AugAssign_SubscriptAny (thn (ho pins s σ H _ I h) fun ov s1 ⟨x1, H1, I1, r1, q1⟩ => ?_) ha
  refine thn (hi pins s1 σ H1 _ I1 q1) fun iv s2 ⟨x2, H2, I2, r2, q2⟩ => ?_
  refine thn (hg pins s2 σ H2 x1 x2 ov iv _ I2 r1 r2 q2) fun old s3 ⟨x3, H3, I3, r3, q3⟩ => ?_
  refine thn (he pins s3 σ H3 _ I3 q3) fun v s4 ⟨x4, H4, I4, r4, q4⟩ => ?_
  refine thn (hp pins s4 σ H4 x3 x4 old v _ I4 r3 r4 q4) fun new s5 ⟨x5, H5, I5, r5, q5⟩ => ?_
  exact thn (hs pins s5 σ H5 x1 x2 x5 ov iv new _ I5 r1 r2 r5 q5) fun _ s6 ⟨H6, I6, q6⟩ => ⟨σ, H6, I6, q6⟩
/-- ints -/
def ipI (f : Int → Int → Int) : TIp := fun x y H Q => ∃ i j, x = .int i ∧ y = .int j ∧ Q (.int (f i j)) H
theorem ip_add : PIp X .Add (ipI fun i j => i + j) := by
  intro pins s σ H x y v u Q I r1 r2 h
  obtain ⟨i, j, e1, e2, q⟩ := h
  subst e1; subst e2
  obtain ⟨t, rfl⟩ := r1
  obtain ⟨t', rfl⟩ := r2
  exact iadd_int ⟨.int _, H, I.tok _, ⟨_, rfl⟩, q⟩
theorem ip_sub : PIp X .Sub (ipI fun i j => i - j) := by
  intro pins s σ H x y v u Q I r1 r2 h
  obtain ⟨i, j, e1, e2, q⟩ := h
  subst e1; subst e2
  obtain ⟨t, rfl⟩ := r1
  obtain ⟨t', rfl⟩ := r2
  exact isub_int ⟨.int _, H, I.tok _, ⟨_, rfl⟩, q⟩
end

/-! ### while -/
section
variable {X : Cx} {pos : Pos}
/-- the invariant W with its measure -/
def tWhile (c : TT) (tb : TS) : TS := fun D σ H => ∃ W : Nat → St → Hp → Prop, (∃ m, W m σ H) ∧ ∀ m σ H, W m σ H →
  c σ H fun b H1 => if b = true then ∃ N : St → Hp → Prop, (∀ σ' H', N σ' H' → ∃ m', m' < m ∧ W m' σ' H') ∧ tb { D with nx := N, ct := N, bk := D.nx } σ H1 else D.nx σ H1
theorem ps_while {c : Expr} {body : List Stmt} {tc : TT} {tb : TS} (hp : PassesOwn (model X.prog X.w) X.A X.env X.xe) (hc : PT X c tc) (hb : PSs X body tb) : PS X (.While c body [] pos) (tWhile tc tb) := by
  intro pins s σ H D I h
  obtain ⟨W, ⟨m0, w0⟩, turn⟩ := h
  refine wpAny_While (codeAny_whileLoop (fun n s' => ∃ σ' H', Inv X pins σ' H' s' ∧ W n σ' H') ?_ m0 ⟨σ, H, I, w0⟩)
  rintro n s1 ⟨σ1, H1, I1, w1⟩
  refine wpAny_passesOwn hp (thn (hc pins s1 σ1 H1 _ I1 (turn n σ1 H1 w1)) fun b s2 ⟨H2, I2, q2⟩ => ?_)
  cases b with
  | true =>
    obtain ⟨N, hN, q2⟩ := q2
    rw [if_pos rfl]
    refine wpAny_passesOwn hp (thn (hb pins s2 σ1 H2 _ I2 q2) fun f s3 q3 => ?_)
    cases f with
    | next =>
      obtain ⟨σ3, H3, I3, n3⟩ := q3
      obtain ⟨m', hm, w3⟩ := hN σ3 H3 n3
      exact ⟨m', hm, σ3, H3, I3, w3⟩
    | cont =>
      obtain ⟨σ3, H3, I3, n3⟩ := q3
      obtain ⟨m', hm, w3⟩ := hN σ3 H3 n3
      exact ⟨m', hm, σ3, H3, I3, w3⟩
    | brk => exact q3
    | ret v => exact q3
  | false =>
    rw [if_neg Bool.false_ne_true]
    exact wpAny_execs_nil ⟨σ1, H2, I2, q2⟩
end

/-! ### what a loop or a comprehension walks -/
/-- at turn i: it yields x (the heap may grow), or it stops -/
structure It where
  go : Nat → Hp → Prop
  yld : Nat → Hp → V → Hp → Prop
  stop : Nat → Hp → Prop
/-- the iterator's own objects may turn: they are not the frame's, not pinned, younger than the entry (or a comprehension's own) -/
def FpOk (X : Cx) (pins : List (Addr × Obj)) (H : Hp) (b : Addr) : Prop :=
  H b = none ∧ b ≠ X.env.locals ∧ b ∉ X.fs ∧ (b ∈ X.ex ∨ X.s₀.heap.objs.size ≤ b) ∧ (∀ x c, X.env.cells.lookup x = some c → c ≠ b) ∧ ∀ p ∈ X.pn ++ pins, p.1 ≠ b
theorem Inv.fpOk {X : Cx} {pins : List (Addr × Obj)} {σ : St} {H H' : Hp} {s : Shared} {b : Addr} (I : Inv X pins σ H s) (hb : s.heap.objs.size ≤ b) (hn : H' b = none) : FpOk X pins H' b := by
  refine ⟨hn, Nat.ne_of_gt (Nat.lt_of_lt_of_le I.lt hb), I.nofs hb, .inr (Nat.le_trans I.sz hb), fun x c e z => ?_, fun p hp z => ?_⟩
  · obtain ⟨v, q⟩ := I.cell x c e
    exact absurd (Nat.lt_of_lt_of_le q.lt (by rw [z]; exact hb)) (Nat.lt_irrefl _)
  · exact absurd (Nat.lt_of_lt_of_le (Heap.lt_size (I.pin p hp).1) (by rw [z]; exact hb)) (Nat.lt_irrefl _)
structure Turn (P : Program) (w : World) (K : PySem.W.Frag) (tg : Expr) (J : It) (fp : List Addr) (it : Addr) (tn : Nat → Heap → Prop) : Prop where
  mem : it ∈ fp
  obj : ∀ i h, tn i h → ∀ b ∈ fp, ∃ o, h.get? b = some o ∧ ∀ v, o.data ≠ .cell v
  keep : ∀ i h h', tn i h → (∀ b ∈ fp, ∀ o, h.get? b = some o → h'.get? b = some o) → tn i h'
  item : ∀ (X : Cx), X.prog = P → X.w = w → X.K = K → X.calm = true → ∀ (i : Nat) (pins : List (Addr × Obj)) (s : Shared) (σ : St) (H : Hp) (E : Value → Shared → Prop), Inv X pins σ H s → (∀ b ∈ fp, FpOk X pins H b) → tn i s.heap → J.go i H →
    wpAny (model P w) X.A (pyNext (.ref it)) (fun r s1 => ∃ u, r = some u ∧
      wpAny (model P w) X.A (letOwnedTupleGo tg (.ref it) u) (fun _ s2 => ∃ x H', Inv X pins σ H' s2 ∧ RelV x u ∧ J.yld i H x H' ∧ tn (i + 1) s2.heap ∧ ∀ b ∈ fp, H' b = none) E s1) E s
  done : ∀ (X : Cx), X.prog = P → X.w = w → X.K = K → X.calm = true → ∀ (i : Nat) (pins : List (Addr × Obj)) (s : Shared) (σ : St) (H : Hp) (E : Value → Shared → Prop), Inv X pins σ H s → (∀ b ∈ fp, FpOk X pins H b) → tn i s.heap → J.stop i H →
    wpAny (model P w) X.A (pyNext (.ref it)) (fun r s1 => r = none ∧ Inv X pins σ H s1) E s
  self : ∀ (A : Around) (i : Nat) (s : Shared) (Q : Value → Shared → Prop) (E : Value → Shared → Prop), tn i s.heap → Q (.ref it) s → wpAny (model P w) A (pyIter (.ref it)) Q E s
abbrev TI := St → Hp → (It → Hp → Prop) → Prop
/-- an iterator has come -/
def PIE (X : Cx) (pins : List (Addr × Obj)) (σ : St) (tg : Expr) (R : It → Hp → Prop) (itv : Value) (s2 : Shared) : Prop :=
  ∃ (it : Addr) (fp : List Addr) (tn : Nat → Heap → Prop) (J : It) (H' : Hp), itv = .ref it ∧ Inv X pins σ H' s2 ∧ Turn X.prog X.w X.K tg J fp it tn ∧ tn 0 s2.heap ∧ (∀ b ∈ fp, FpOk X pins H' b) ∧ R J H'
def PI (X : Cx) (tg iter : Expr) (wi : TI) : Prop :=
  ∀ (pins : List (Addr × Obj)) (s : Shared) (σ : St) (H : Hp) (R : It → Hp → Prop), Inv X pins σ H s → wi σ H R →
    wpAny (model X.prog X.w) X.A (eval iter X.env) (fun v s1 => wpAny (model X.prog X.w) X.A (pyIter v) (PIE X pins σ tg R) X.xe s1) X.xe s

/-- the step ahead of the store is nothing for an iterator that keeps no tuple -/
theorem go_of {M : Model} {A : Around} {E : Value → Shared → Prop} {s : Shared} {tg : Expr} {it : Addr} {u : Value} {o : Obj} {n : String} {vs : Array Value} {Q : Unit → Shared → Prop} (ho : s.heap.get? it = some o) (hc : o.cls = .type n) (hd : o.data = .fields vs)
    (hn : ["enumerate", "zip", "dict_itemiterator", "dict_reverseitemiterator", "odict_iterator", "itertools.zip_longest", "itertools.pairwise"].contains n = false) (hQ : Q () s) : wpAny M A (letOwnedTupleGo tg (.ref it) u) Q E s := by
  unfold letOwnedTupleGo
  cases tg <;> first
    | exact wpAny_pure hQ
    | (cases u <;> first
        | exact wpAny_pure hQ
        | (refine wpAny_bind (wpAny_load ho ?_)
           rw [hc, hd]
           show wpAny M A (if (["enumerate", "zip", "dict_itemiterator", "dict_reverseitemiterator", "odict_iterator", "itertools.zip_longest", "itertools.pairwise"].contains n && vs[0]? == some (rawInt _)) = true then _ else _) Q E s
           rw [if_neg (by intro h; rw [hn, Bool.false_and] at h; cases h)]
           exact wpAny_pure hQ))

/-- the list at a, as it stands at each turn (a loop may append to it) -/
def Itl (K : PySem.W.Frag) (a : Addr) : It :=
  ⟨fun i H => ∃ xs x, SqL K H a xs ∧ xs[i]? = some x, fun i H x H' => H' = H ∧ ∀ xs, SqL K H a xs → xs[i]? = some x, fun i H => ∃ xs, SqL K H a xs ∧ xs.length ≤ i⟩
def Itt (K : PySem.W.Frag) (a : Addr) : It :=
  ⟨fun i H => ∃ xs x, SqT K H a xs ∧ xs[i]? = some x, fun i H x H' => H' = H ∧ ∀ xs, SqT K H a xs → xs[i]? = some x, fun i H => ∃ xs, SqT K H a xs ∧ xs.length ≤ i⟩
/-- lo, lo + 1, .. (n of them) -/
def Itr (lo : Int) (n : Nat) : It := ⟨fun i _ => i < n, fun i H x H' => H' = H ∧ x = .int (lo + i), fun i _ => n ≤ i⟩
theorem turn_list {P : Program} {w : World} {K : PySem.W.Frag} {tg : Expr} (a it : Addr) : Turn P w K tg (Itl K a) [it] it (fun i h => h.IsListIter it a i) where
  mem := by simp
  obj := fun i h st b hb => by
    have e : b = it := by simpa using hb
    subst e
    obtain ⟨o, e, c, d⟩ := st
    exact ⟨o, e, fun v z => by rw [d] at z; cases z⟩
  keep := fun i h h' st k => st.at fun o e => k it (by simp) o e
  item := by
    intro X hP hw hK hc i pins s σ H E I hf st hg
    subst hP hw hK
    obtain ⟨xs, x, hq, hx⟩ := hg
    obtain ⟨its, rv, p, hz⟩ := I.list hq
    obtain ⟨u, hu, ru⟩ := rv.get hx
    obtain ⟨f0, f1, f2, f3, f4, f5⟩ := hf it (by simp)
    refine wpAny_pyNext_list_item st p.isList (x := u) (by simpa using hu) fun h' st' sb => ?_
    have I1 : Inv X pins σ H { s with heap := h' } := I.turned (t' := s.toks) (fun b o hb e => (sb.2 b hb).trans e) f0 f1 f3 f4 f5
    obtain ⟨o, e, c, d⟩ := id st'
    exact ⟨u, rfl, go_of (s := { s with heap := h' }) e c d (by decide) ⟨x, H, I1, ru, ⟨rfl, fun ys hy => by rw [I.list_inj hy hq]; exact hx⟩, st', fun b hb => (hf b hb).1⟩⟩
  done := by
    intro X hP hw hK hc i pins s σ H E I hf st hg
    subst hP hw hK
    obtain ⟨xs, hq, hx⟩ := hg
    obtain ⟨its, rv, p, hz⟩ := I.list hq
    obtain ⟨f0, f1, f2, f3, f4, f5⟩ := hf it (by simp)
    have hl := rv.length
    exact wpAny_pyNext_list_end (I.ok.hd hc) st p.isList (by simp; omega) fun h' eb => ⟨rfl, I.turned (t' := s.toks) (fun b o hb e => eb b o hb e) f0 f1 f3 f4 f5⟩
  self := fun _ _ _ _ _ st h => wpAny_pyIter_listiter st h
theorem turn_tuple {P : Program} {w : World} {K : PySem.W.Frag} {tg : Expr} (a it : Addr) : Turn P w K tg (Itt K a) [it] it (fun i h => h.IsTupleIter it a i) where
  mem := by simp
  obj := fun i h st b hb => by
    have e : b = it := by simpa using hb
    subst e
    obtain ⟨o, e, c, d⟩ := st
    exact ⟨o, e, fun v z => by rw [d] at z; cases z⟩
  keep := fun i h h' st k => st.at fun o e => k it (by simp) o e
  item := by
    intro X hP hw hK hc i pins s σ H E I hf st hg
    subst hP hw hK
    obtain ⟨xs, x, hq, hx⟩ := hg
    obtain ⟨its, rv, p, hz⟩ := I.tuple hq
    obtain ⟨u, hu, ru⟩ := rv.get hx
    obtain ⟨f0, f1, f2, f3, f4, f5⟩ := hf it (by simp)
    refine wpAny_pyNext_tuple_item st (show s.heap.IsTuple a its.toArray from p) (x := u) (by simpa using hu) fun h' st' sb => ?_
    have I1 : Inv X pins σ H { s with heap := h' } := I.turned (t' := s.toks) (fun b o hb e => (sb.2 b hb).trans e) f0 f1 f3 f4 f5
    obtain ⟨o, e, c, d⟩ := id st'
    exact ⟨u, rfl, go_of (s := { s with heap := h' }) e c d (by decide) ⟨x, H, I1, ru, ⟨rfl, fun ys hy => by rw [I.tuple_inj hy hq]; exact hx⟩, st', fun b hb => (hf b hb).1⟩⟩
  done := by
    intro X hP hw hK hc i pins s σ H E I hf st hg
    subst hP hw hK
    obtain ⟨xs, hq, hx⟩ := hg
    obtain ⟨its, rv, p, hz⟩ := I.tuple hq
    obtain ⟨f0, f1, f2, f3, f4, f5⟩ := hf it (by simp)
    have hl := rv.length
    exact wpAny_pyNext_tuple_end (I.ok.hd hc) st (show s.heap.IsTuple a its.toArray from p) (by simp; omega) fun h' eb => ⟨rfl, I.turned (t' := s.toks) (fun b o hb e => eb b o hb e) f0 f1 f3 f4 f5⟩
  self := fun _ _ _ _ _ st h => wpAny_pyIter_tupleiter st h
theorem turn_range {P : Program} {w : World} {K : PySem.W.Frag} {tg : Expr} (it : Addr) (lo : Int) (n : Nat) : Turn P w K tg (Itr lo n) [it] it (fun i h => IsRangeIter h it (lo + (i : Nat) * 1) ((n : Int) - (i : Nat)) 1) where
  mem := by simp
  obj := fun i h st b hb => by
    have e : b = it := by simpa using hb
    subst e
    exact ⟨_, st, fun v z => by
      have z' : Data.fields _ = Data.cell v := z
      cases z'⟩
  keep := fun i h h' st k => k it (by simp) _ st
  item := by
    intro X hP hw hK hc i pins s σ H E I hf st hg
    subst hP hw hK
    obtain ⟨f0, f1, f2, f3, f4, f5⟩ := hf it (by simp)
    have W := Walks.range (prog := X.prog) (w := X.w) (I.ok.hd hc) it lo 1 n
    refine W.item i s _ _ hg st fun v h' tk hv st' kk => ?_
    obtain ⟨t, rfl⟩ := hv
    have I1 : Inv X pins σ H { s with heap := h', toks := tk } := I.turned (fun b o hb e => kk b o (by simpa using hb) e) f0 f1 f3 f4 f5
    refine ⟨_, rfl, go_of (s := { s with heap := h', toks := tk }) (n := "range_iterator") st' rfl rfl (by decide) ⟨.int (lo + i), H, I1, ⟨t, ?_⟩, ⟨rfl, rfl⟩, st', fun b hb => (hf b hb).1⟩⟩
    rw [Int.mul_one]
  done := by
    intro X hP hw hK hc i pins s σ H E I hf st hg
    subst hP hw hK
    obtain ⟨f0, f1, f2, f3, f4, f5⟩ := hf it (by simp)
    exact wpAny_pyNext_range_end (I.ok.hd hc) st (by have : n ≤ i := hg; omega) fun h' eb => ⟨rfl, I.turned (t' := s.toks) (fun b o hb e => eb b o hb e) f0 f1 f3 f4 f5⟩
  self := fun _ _ _ _ _ st h => wpAny_pyIter_rangeiter st h
end L2

namespace L2
open PySem PySem.Spec PyProof.Rows
section
variable {X : Cx} {tg : Expr}
def iList (K : PySem.W.Frag) (tl : TE) : TI := fun σ H R => tl σ H fun x H1 => ∃ a, x = .ref a ∧ (∃ xs, SqL K H1 a xs) ∧ R (Itl K a) H1
def iTup (K : PySem.W.Frag) (tl : TE) : TI := fun σ H R => tl σ H fun x H1 => ∃ a, x = .ref a ∧ (∃ xs, SqT K H1 a xs) ∧ R (Itt K a) H1
theorem pi_list {l : Expr} {tl : TE} (hl : PE X l tl) : PI X tg l (iList X.K tl) := by
  intro pins s σ H R I h
  refine thn (hl pins s σ H _ I h) fun v s1 ⟨x, H1, I1, r1, q1⟩ => ?_
  obtain ⟨a, e, ⟨xs, hq⟩, q⟩ := q1
  subst e
  cases r1
  obtain ⟨its, rv, p, hz⟩ := I1.list hq
  refine wpAny_pyIter_list p.isList ?_
  refine ⟨s1.heap.objs.size, [s1.heap.objs.size], _, _, H1, rfl, I1.kept (t' := s1.toks) fun b o e => Heap.get?_push_of_some _ e, turn_list a _, ⟨_, Heap.get?_push_size _ rfl, rfl, rfl⟩, fun b hb => ?_, q⟩
  have e : b = s1.heap.objs.size := by simpa using hb
  subst e
  exact I1.fpOk (Nat.le_refl _) (I1.hok.fresh (Nat.le_refl _))
theorem pi_tup {l : Expr} {tl : TE} (hl : PE X l tl) : PI X tg l (iTup X.K tl) := by
  intro pins s σ H R I h
  refine thn (hl pins s σ H _ I h) fun v s1 ⟨x, H1, I1, r1, q1⟩ => ?_
  obtain ⟨a, e, ⟨xs, hq⟩, q⟩ := q1
  subst e
  cases r1
  obtain ⟨its, rv, p, hz⟩ := I1.tuple hq
  refine wpAny_pyIter_tuple (show s1.heap.IsTuple a its.toArray from p) ?_
  refine ⟨s1.heap.objs.size, [s1.heap.objs.size], _, _, H1, rfl, I1.kept (t' := s1.toks) fun b o e => Heap.get?_push_of_some _ e, turn_tuple a _, ⟨_, Heap.get?_push_size _ rfl, rfl, rfl⟩, fun b hb => ?_, q⟩
  have e : b = s1.heap.objs.size := by simpa using hb
  subst e
  exact I1.fpOk (Nat.le_refl _) (I1.hok.fresh (Nat.le_refl _))
/-- a range object just made, walked -/
theorem range_it {pins : List (Addr × Obj)} {σ : St} {H : Hp} {s : Shared} {R : It → Hp → Prop} {E : Value → Shared → Prop} {lo hi : Int} {t u v : Tok} {tk : Nat} (I : Inv X pins σ H s) (h1 : -(2 ^ 62) ≤ lo) (h2 : lo < 2 ^ 62) (h3 : -(2 ^ 62) ≤ hi) (h4 : hi < 2 ^ 62)
    (q : R (Itr lo (hi - lo).toNat) H) : wpAny (model X.prog X.w) X.A (pyIter (.ref s.heap.objs.size)) (PIE X pins σ tg R) E { s with heap := s.heap.push { cls := .type "range", data := .fields #[.int lo t, .int hi u, .int 1 v] }, toks := tk } := by
  refine wpAny_pyIter_range (IsRange.new ..) (small_one h1 h2 h3 h4) ?_
  have I1 : Inv X pins σ H { s with heap := s.heap.push { cls := .type "range", data := .fields #[.int lo t, .int hi u, .int 1 v] }, toks := tk } := I.kept fun b o e => Heap.get?_push_of_some _ e
  refine ⟨(s.heap.push { cls := .type "range", data := .fields #[.int lo t, .int hi u, .int 1 v] }).objs.size, [(s.heap.push { cls := .type "range", data := .fields #[.int lo t, .int hi u, .int 1 v] }).objs.size], _, _, H, rfl,
    I1.kept (t' := tk) fun b o e => Heap.get?_push_of_some _ e, turn_range _ lo (hi - lo).toNat, ?_, fun b hb => ?_, q⟩
  · have e1 : lo + ((0 : Nat) : Int) * 1 = lo := by simp
    have e2 : (((hi - lo).toNat : Nat) : Int) - ((0 : Nat) : Int) = Builtin.Range.rangeSize lo hi 1 := by rw [rangeSize_one]; split <;> omega
    show IsRangeIter _ _ (lo + ((0 : Nat) : Int) * 1) ((((hi - lo).toNat : Nat) : Int) - ((0 : Nat) : Int)) 1
    rw [e1, e2]
    exact Heap.get?_push_size _ rfl
  · have e : b = (s.heap.push { cls := .type "range", data := .fields #[.int lo t, .int hi u, .int 1 v] }).objs.size := by simpa using hb
    subst e
    exact I1.fpOk (Nat.le_refl _) (I1.hok.fresh (Nat.le_refl _))
def iRng1 (ta : TA) : TI := fun σ H R => ta σ H fun vs H1 => ∃ j : Int, vs = [.int j] ∧ -(2 ^ 62) ≤ j ∧ j < 2 ^ 62 ∧ R (Itr 0 j.toNat) H1
def iRng2 (ta : TA) : TI := fun σ H R => ta σ H fun vs H1 => ∃ i j : Int, vs = [.int i, .int j] ∧ (-(2 ^ 62) ≤ i ∧ i < 2 ^ 62 ∧ -(2 ^ 62) ≤ j ∧ j < 2 ^ 62) ∧ R (Itr i (j - i).toNat) H1
theorem pi_range1 {a : Expr} {ta : TA} {p pos : Pos} (hg : Gl X "range") (hm : X.mg "range" = none) (ha : PA X [a] ta) (hs : starEach [a] X.env = [(false, eval a X.env)] := by rfl) : PI X tg (.Call (.Name "range" p) [a] [] pos) (iRng1 ta) := by
  intro pins s σ H R I h
  refine Call_ (ld_blt I hg hm boot_range (PyProof.Rows.callWith_type1 (thn (ha pos pins s σ H _ I h) fun us s1 ⟨vs, H1, I1, r1, q1⟩ => ?_) hs rfl))
  obtain ⟨j, e, q1, q2, q⟩ := q1
  subst e
  cases r1 with
  | cons r rr =>
    cases rr
    obtain ⟨t, rfl⟩ := r
    exact call_range_1 (range_it I1 (by omega) (by omega) q1 q2 (by simpa using q))
theorem pi_range2 {a b : Expr} {ta : TA} {p pos : Pos} (hg : Gl X "range") (hm : X.mg "range" = none) (ha : PA X [a, b] ta) (hs : starEach [a, b] X.env = [(false, eval a X.env), (false, eval b X.env)] := by rfl) (hs2 : starEach [b] X.env = [(false, eval b X.env)] := by rfl) :
    PI X tg (.Call (.Name "range" p) [a, b] [] pos) (iRng2 ta) := by
  intro pins s σ H R I h
  refine Call_ (ld_blt I hg hm boot_range (PyProof.Rows.callWith_type1 (thn (ha pos pins s σ H _ I h) fun us s1 ⟨vs, H1, I1, r1, q1⟩ => ?_) (by rw [hs, hs2]) (by rw [hs2]; rfl)))
  obtain ⟨i, j, e, ⟨q1, q2, q3, q4⟩, q⟩ := q1
  subst e
  cases r1 with
  | cons r rr =>
    cases rr with
    | cons r' rr =>
      cases rr
      obtain ⟨t, rfl⟩ := r
      obtain ⟨t', rfl⟩ := r'
      exact call_range_2 (range_it I1 q1 q2 q3 q4 q)

/-! ### for -/
/-- W: the invariant by the turn and a measure; N: what the body is to reach -/
def tFor (wi : TI) (g : TG) (tb : TS) : TS := fun D σ H => wi σ H fun J H1 => ∃ W : Nat → Nat → St → Hp → Prop, (∃ m, W 0 m σ H1) ∧ ∀ i m σ H, W i m σ H →
  (J.stop i H ∧ D.nx σ H) ∨ (J.go i H ∧ ∃ N : St → Hp → Prop, (∀ σ' H', N σ' H' → ∃ m', m' < m ∧ W (i + 1) m' σ' H') ∧ ∀ x H', J.yld i H x H' → g x σ H' fun σ2 H2 => tb { D with nx := N, ct := N, bk := D.nx } σ2 H2)
/-- the records at fp as they stand -/
def pinsAt (fp : List Addr) (h : Heap) : List (Addr × Obj) := fp.filterMap fun b => (h.get? b).map fun o => (b, o)
theorem mem_pinsAt {fp : List Addr} {h : Heap} {b : Addr} {o : Obj} (hb : b ∈ fp) (e : h.get? b = some o) : (b, o) ∈ pinsAt fp h := List.mem_filterMap.mpr ⟨b, hb, by rw [e]; rfl⟩
theorem of_pinsAt {fp : List Addr} {h : Heap} {p : Addr × Obj} (hp : p ∈ pinsAt fp h) : p.1 ∈ fp ∧ h.get? p.1 = some p.2 := by
  obtain ⟨b, hb, e⟩ := List.mem_filterMap.mp hp
  cases q : h.get? b with
  | none => rw [q] at e; cases e
  | some o =>
    rw [q] at e
    have e' : (b, o) = p := Option.some.inj e
    subst e'
    exact ⟨hb, q⟩
theorem Inv.pinned {pins : List (Addr × Obj)} {σ : St} {H : Hp} {s : Shared} {fp : List Addr} (I : Inv X pins σ H s) (hf : ∀ b ∈ fp, FpOk X pins H b) (ho : ∀ b ∈ fp, ∃ o, s.heap.get? b = some o ∧ ∀ v, o.data ≠ .cell v) : Inv X (pins ++ pinsAt fp s.heap) σ H s :=
  I.pins_of fun p hp => (List.mem_append.mp hp).elim (fun z => I.pin p (List.mem_append_right _ z)) fun z => by
    obtain ⟨hb, e⟩ := of_pinsAt z
    obtain ⟨f0, f1, f2, _⟩ := hf p.1 hb
    obtain ⟨o, e', d⟩ := ho p.1 hb
    rw [e] at e'; cases e'
    exact ⟨e, f0, f1, f2, d⟩
theorem Inv.unpinned {pins pl : List (Addr × Obj)} {σ : St} {H : Hp} {s : Shared} (I : Inv X (pins ++ pl) σ H s) : Inv X pins σ H s := I.pins_of fun p hp => I.pin p (List.mem_append_right _ (List.mem_append_left _ hp))
theorem ps_for {iter : Expr} {body : List Stmt} {wi : TI} {g : TG} {tb : TS} {pos : Pos} (hp : PassesOwn (model X.prog X.w) X.A X.env X.xe) (hc : X.calm = true) (hi : PI X tg iter wi) (hg : PG X tg g) (hb : PSs X body tb)
    (hs : ∀ x, foldedSetIterable iter X.env x = pure x := by intro _; rfl) : PS X (.For tg iter body [] pos) (tFor wi g tb) := by
  intro pins s σ H D I h
  refine wpAny_For (thn (hi pins s σ H _ I h) fun v s1 h1 => thn h1 fun itv s2 h2 => ?_) hs
  obtain ⟨it, fp, tn, J, H2, e, I2, T, st2, f2, W, ⟨m0, w0⟩, turn⟩ := h2
  subst e
  -- what stays true of the iterator's objects through the loop
  have stat : ∀ {H' : Hp}, (∀ b ∈ fp, H' b = none) → ∀ b ∈ fp, FpOk X pins H' b := fun hn b hb => ⟨hn b hb, (f2 b hb).2⟩
  refine codeAny_forLoop_any (fun n s' => ∃ i σ' H', Inv X pins σ' H' s' ∧ tn i s'.heap ∧ (∀ b ∈ fp, H' b = none) ∧ W i n σ' H') ?_ m0 ⟨0, σ, H2, I2, st2, fun b hb => (f2 b hb).1, w0⟩
  rintro n s3 ⟨i, σ3, H3, I3, st3, fr3, w3⟩
  rcases turn i n σ3 H3 w3 with ⟨stop, qn⟩ | ⟨go, N, hN, step⟩
  · refine wpAny_passesOwn hp (thn (T.done X rfl rfl rfl hc i pins s3 σ3 H3 X.xe I3 (stat fr3) st3 stop) fun r s4 ⟨hr, I4⟩ => ?_)
    subst hr
    exact wpAny_execs_nil ⟨σ3, H3, I4, qn⟩
  · refine wpAny_passesOwn hp (thn (T.item X rfl rfl rfl hc i pins s3 σ3 H3 X.xe I3 (stat fr3) st3 go) fun r s4 ⟨u, hr, h4⟩ => ?_)
    subst hr
    refine wpAny_passesOwn hp (thn h4 fun _ s5 ⟨x, H5, I5, r5, y5, st5, fr5⟩ => ?_)
    have I5' := I5.pinned (stat fr5) (T.obj _ _ st5)
    refine wpAny_passesOwn hp (thn (hg _ s5 σ3 H5 x u _ I5' r5 (step x H5 y5)) fun _ s6 ⟨σ6, H6, I6, q6⟩ => ?_)
    refine wpAny_passesOwn hp (thn (hb _ s6 σ6 H6 _ I6 q6) fun f s7 q7 => ?_)
    have again : ∀ {σ7 : St} {H7 : Hp}, Inv X (pins ++ pinsAt fp s5.heap) σ7 H7 s7 → N σ7 H7 → ∃ m, m < n ∧ ∃ i σ' H', Inv X pins σ' H' s7 ∧ tn i s7.heap ∧ (∀ b ∈ fp, H' b = none) ∧ W i m σ' H' := fun {σ7 H7} I7 n7 => by
      obtain ⟨m', hm, w7⟩ := hN σ7 H7 n7
      refine ⟨m', hm, i + 1, σ7, H7, I7.unpinned, T.keep _ _ _ st5 fun b hb o e => (I7.pin (b, o) (List.mem_append_right _ (List.mem_append_right _ (mem_pinsAt hb e)))).1, fun b hb => ?_, w7⟩
      obtain ⟨o, e, d⟩ := T.obj _ _ st5 b hb
      exact (I7.pin (b, o) (List.mem_append_right _ (List.mem_append_right _ (mem_pinsAt hb e)))).2.1
    cases f with
    | next => obtain ⟨σ7, H7, I7, n7⟩ := q7; exact again I7 n7
    | cont => obtain ⟨σ7, H7, I7, n7⟩ := q7; exact again I7 n7
    | brk => obtain ⟨σ7, H7, I7, q7⟩ := q7; exact ⟨σ7, H7, I7.unpinned, q7⟩
    | ret v => obtain ⟨x7, σ7, H7, I7, r7, q7⟩ := q7; exact ⟨x7, σ7, H7, I7.unpinned, r7, q7⟩
end

/-! ### the forms one uses -/
/-- over a list that the body leaves as it is -/
theorem for_list {K : PySem.W.Frag} {a : Addr} {xs : List V} {g : TG} {tb : TS} {D : Ends} {σ : St} {H : Hp} (Pv : Nat → St → Hp → Prop) (h0 : Pv 0 σ H) (hl : ∀ i σ H, i ≤ xs.length → Pv i σ H → SqL K H a xs)
    (hs : ∀ i x σ H, xs[i]? = some x → Pv i σ H → g x σ H fun σ2 H2 => tb { D with nx := Pv (i + 1), ct := Pv (i + 1), bk := D.nx } σ2 H2) (hd : ∀ σ H, Pv xs.length σ H → D.nx σ H) :
    ∃ W : Nat → Nat → St → Hp → Prop, (∃ m, W 0 m σ H) ∧ ∀ i m σ H, W i m σ H →
      ((Itl K a).stop i H ∧ D.nx σ H) ∨ ((Itl K a).go i H ∧ ∃ N : St → Hp → Prop, (∀ σ' H', N σ' H' → ∃ m', m' < m ∧ W (i + 1) m' σ' H') ∧ ∀ x H', (Itl K a).yld i H x H' → g x σ H' fun σ2 H2 => tb { D with nx := N, ct := N, bk := D.nx } σ2 H2) := by
  refine ⟨fun i m σ H => m = xs.length - i ∧ i ≤ xs.length ∧ Pv i σ H, ⟨xs.length, by simp, Nat.zero_le _, h0⟩, ?_⟩
  rintro i m σ H ⟨rfl, hi, p⟩
  have q := hl i σ H hi p
  by_cases hlt : i < xs.length
  · refine .inr ⟨⟨xs, xs[i], q, by simp [hlt]⟩, Pv (i + 1), fun σ' H' p' => ⟨xs.length - (i + 1), by omega, rfl, hlt, p'⟩, fun x H' y => ?_⟩
    obtain ⟨e, y⟩ := y
    subst e
    exact hs i x σ _ (y xs q) p
  · have e : i = xs.length := by omega
    subst e
    exact .inl ⟨⟨xs, q, Nat.le_refl _⟩, hd σ H p⟩
theorem for_tup {K : PySem.W.Frag} {a : Addr} {xs : List V} {g : TG} {tb : TS} {D : Ends} {σ : St} {H : Hp} (Pv : Nat → St → Hp → Prop) (h0 : Pv 0 σ H) (hl : ∀ i σ H, i ≤ xs.length → Pv i σ H → SqT K H a xs)
    (hs : ∀ i x σ H, xs[i]? = some x → Pv i σ H → g x σ H fun σ2 H2 => tb { D with nx := Pv (i + 1), ct := Pv (i + 1), bk := D.nx } σ2 H2) (hd : ∀ σ H, Pv xs.length σ H → D.nx σ H) :
    ∃ W : Nat → Nat → St → Hp → Prop, (∃ m, W 0 m σ H) ∧ ∀ i m σ H, W i m σ H →
      ((Itt K a).stop i H ∧ D.nx σ H) ∨ ((Itt K a).go i H ∧ ∃ N : St → Hp → Prop, (∀ σ' H', N σ' H' → ∃ m', m' < m ∧ W (i + 1) m' σ' H') ∧ ∀ x H', (Itt K a).yld i H x H' → g x σ H' fun σ2 H2 => tb { D with nx := N, ct := N, bk := D.nx } σ2 H2) := by
  refine ⟨fun i m σ H => m = xs.length - i ∧ i ≤ xs.length ∧ Pv i σ H, ⟨xs.length, by simp, Nat.zero_le _, h0⟩, ?_⟩
  rintro i m σ H ⟨rfl, hi, p⟩
  have q := hl i σ H hi p
  by_cases hlt : i < xs.length
  · refine .inr ⟨⟨xs, xs[i], q, by simp [hlt]⟩, Pv (i + 1), fun σ' H' p' => ⟨xs.length - (i + 1), by omega, rfl, hlt, p'⟩, fun x H' y => ?_⟩
    obtain ⟨e, y⟩ := y
    subst e
    exact hs i x σ _ (y xs q) p
  · have e : i = xs.length := by omega
    subst e
    exact .inl ⟨⟨xs, q, Nat.le_refl _⟩, hd σ H p⟩
theorem for_range {lo : Int} {n : Nat} {g : TG} {tb : TS} {D : Ends} {σ : St} {H : Hp} (Pv : Nat → St → Hp → Prop) (h0 : Pv 0 σ H)
    (hs : ∀ i σ H, i < n → Pv i σ H → g (.int (lo + i)) σ H fun σ2 H2 => tb { D with nx := Pv (i + 1), ct := Pv (i + 1), bk := D.nx } σ2 H2) (hd : ∀ σ H, Pv n σ H → D.nx σ H) :
    ∃ W : Nat → Nat → St → Hp → Prop, (∃ m, W 0 m σ H) ∧ ∀ i m σ H, W i m σ H →
      ((Itr lo n).stop i H ∧ D.nx σ H) ∨ ((Itr lo n).go i H ∧ ∃ N : St → Hp → Prop, (∀ σ' H', N σ' H' → ∃ m', m' < m ∧ W (i + 1) m' σ' H') ∧ ∀ x H', (Itr lo n).yld i H x H' → g x σ H' fun σ2 H2 => tb { D with nx := N, ct := N, bk := D.nx } σ2 H2) := by
  refine ⟨fun i m σ H => m = n - i ∧ i ≤ n ∧ Pv i σ H, ⟨n, by simp, Nat.zero_le _, h0⟩, ?_⟩
  rintro i m σ H ⟨rfl, hi, p⟩
  by_cases hlt : i < n
  · refine .inr ⟨hlt, Pv (i + 1), fun σ' H' p' => ⟨n - (i + 1), by omega, rfl, hlt, p'⟩, fun x H' y => ?_⟩
    obtain ⟨e, y⟩ := y
    subst e y
    exact hs i σ _ hlt p
  · have e : i = n := by omega
    subst e
    exact .inl ⟨Nat.le_refl _, hd σ H p⟩
/-- while, by a word and a measure of the state -/
theorem while_by {c : TT} {tb : TS} {D : Ends} {σ : St} {H : Hp} (Pv : St → Hp → Prop) (μ : St → Hp → Nat) (h0 : Pv σ H)
    (hs : ∀ σ H, Pv σ H → c σ H fun b H1 => if b = true then tb { D with nx := fun σ' H' => Pv σ' H' ∧ μ σ' H' < μ σ H, ct := fun σ' H' => Pv σ' H' ∧ μ σ' H' < μ σ H, bk := D.nx } σ H1 else D.nx σ H1)
    (mono : ∀ σ H Q Q', (∀ b H1, Q b H1 → Q' b H1) → c σ H Q → c σ H Q') : tWhile c tb D σ H := by
  refine ⟨fun m σ H => m = μ σ H ∧ Pv σ H, ⟨_, rfl, h0⟩, ?_⟩
  rintro m σ H ⟨rfl, p⟩
  refine mono σ H _ _ (fun b H1 q => ?_) (hs σ H p)
  cases b with
  | true => exact ⟨_, fun σ' H' ⟨p', l⟩ => ⟨_, l, rfl, p'⟩, q⟩
  | false => exact q
end L2

namespace L2
open PySem PySem.Spec PyProof.Rows

abbrev R2 := V → V → Hp → VK → Prop
/-- a two-place operation on values: f is binaryOp op, inplaceOp op or compareOp op -/
def OpR (X : Cx) (f : Value → Value → Sem Value) (r : R2) : Prop :=
  ∀ (pins : List (Addr × Obj)) (s : Shared) (σ : St) (H : Hp) (x y : V) (v u : Value) (Q : VK), Inv X pins σ H s → RelV x v → RelV y u → r x y H Q →
    wpAny (model X.prog X.w) X.A (f v u) (EP X pins σ Q) X.xe s
/-- a one-place operation -/
def UnR (X : Cx) (f : Value → Sem Value) (r : V → Hp → VK → Prop) : Prop :=
  ∀ (pins : List (Addr × Obj)) (s : Shared) (σ : St) (H : Hp) (x : V) (v : Value) (Q : VK), Inv X pins σ H s → RelV x v → r x H Q →
    wpAny (model X.prog X.w) X.A (f v) (EP X pins σ Q) X.xe s
/-- a call of a value that is known (a builtin, a type) with values -/
def CallR (X : Cx) (f : Value) (r : List V → Hp → VK → Prop) : Prop :=
  ∀ (pins : List (Addr × Obj)) (s : Shared) (σ : St) (H : Hp) (xs : List V) (us : List Value) (Q : VK), Inv X pins σ H s → Vals xs us → r xs H Q →
    wpAny (model X.prog X.w) X.A (call f us) (EP X pins σ Q) X.xe s
/-- a value's truth -/
def TruR (X : Cx) (r : V → Hp → (Bool → Hp → Prop) → Prop) : Prop :=
  ∀ (pins : List (Addr × Obj)) (s : Shared) (σ : St) (H : Hp) (x : V) (v : Value) (Q : Bool → Hp → Prop), Inv X pins σ H s → RelV x v → r x H Q →
    wpAny (model X.prog X.w) X.A (truthy v) (TP X pins σ Q) X.xe s

def tOp (r : R2) (ta tb : TE) : TE := fun σ H Q => ta σ H fun x H1 => tb σ H1 fun y H2 => r x y H2 Q
def tUn (r : V → Hp → VK → Prop) (ta : TE) : TE := fun σ H Q => ta σ H fun x H1 => r x H1 Q
/-- ints in, under C, and a value out -/
def rI (C : Int → Int → Prop) (g : Int → Int → V) : R2 := fun x y H Q => ∃ i j, x = .int i ∧ y = .int j ∧ C i j ∧ Q (g i j) H
def rI0 (g : Int → Int → V) : R2 := fun x y H Q => ∃ i j, x = .int i ∧ y = .int j ∧ Q (g i j) H
def rU (g : Int → V) : V → Hp → VK → Prop := fun x H Q => ∃ i, x = .int i ∧ Q (g i) H

section
variable {X : Cx} {a b c : Expr} {ta tb tc : TE} {pos : Pos}

theorem binT (ha : PE X a ta) (hb : PE X b tb) {pins : List (Addr × Obj)} {s : Shared} {σ : St} {H : Hp} {R : V → V → Hp → Prop} (I : Inv X pins σ H s)
    (h : ta σ H fun x H1 => tb σ H1 fun y H2 => R x y H2) {Q : Value → Shared → Prop} {f : Value → Value → Sem Value}
    (hf : ∀ v u s2 x y H2, Inv X pins σ H2 s2 → RelV x v → RelV y u → R x y H2 → wpAny (model X.prog X.w) X.A (f v u) Q X.xe s2) :
    wpAny (model X.prog X.w) X.A (eval a X.env) (fun v s₁ => wpAny (model X.prog X.w) X.A (eval b X.env) (fun u s₂ => wpAny (model X.prog X.w) X.A (f v u) Q X.xe s₂) X.xe s₁) X.xe s := by
  refine thn (ha pins s σ H _ I h) fun v s1 ⟨x, H1, I1, r1, q1⟩ => ?_
  refine thn (hb pins s1 σ H1 _ I1 q1) fun u s2 ⟨y, H2, I2, r2, q2⟩ => ?_
  exact hf v u s2 x y H2 I2 r1 r2 q2

theorem pe_op {op : Operator} {r : R2} (ho : OpR X (binaryOp op) r) (ha : PE X a ta) (hb : PE X b tb) : PE X (.BinOp a op b pos) (tOp r ta tb) := by
  intro pins s σ H Q I h
  exact wpAny_BinOp (binT ha hb I h fun v u s2 x y H2 I2 rx ry q => ho pins s2 σ H2 x y v u Q I2 rx ry q)
theorem pe_un {op : UnaryOp} {r : V → Hp → VK → Prop} (ho : UnR X (unaryOp op) r) (ha : PE X a ta) : PE X (.UnaryOp op a pos) (tUn r ta) := by
  intro pins s σ H Q I h
  exact UnaryOp_ (thn (ha pins s σ H _ I h) fun v s1 ⟨x, H1, I1, r1, q1⟩ => ho pins s1 σ H1 x v Q I1 r1 q1)
/-- a op= e at a name: the name's slot i -/
theorem augR {op : Operator} {r : R2} (ho : OpR X (inplaceOp op) r) {pins : List (Addr × Obj)} {s : Shared} {σ : St} {H : Hp} {x y : V} {v u : Value} {Q : VK} (I : Inv X pins σ H s)
    (rx : RelV x v) (ry : RelV y u) (q : r x y H Q) : wpAny (model X.prog X.w) X.A (inplaceOp op v u) (EP X pins σ Q) X.xe s := ho pins s σ H x y v u Q I rx ry q

/-! ### ints -/
theorem opI {f : Value → Value → Sem Value} {C : Int → Int → Prop} {g : Int → Int → Int}
    (rule : ∀ (i j : Int) (t u : Tok) (s : Shared) (Q : Value → Shared → Prop) (E : Value → Shared → Prop), C i j → Q (.int (g i j) s.toks) { s with toks := s.toks + 1 } → wpAny (model X.prog X.w) X.A (f (.int i t) (.int j u)) Q E s) :
    OpR X f (rI C fun i j => .int (g i j)) := by
  intro pins s σ H x y v u Q I rx ry h
  obtain ⟨i, j, rfl, rfl, hc, q⟩ := h
  obtain ⟨t, rfl⟩ := rx
  obtain ⟨t', rfl⟩ := ry
  exact rule i j t t' s _ _ hc ⟨.int (g i j), H, I.tok _, ⟨_, rfl⟩, q⟩
theorem opI0 {f : Value → Value → Sem Value} {g : Int → Int → Int}
    (rule : ∀ (i j : Int) (t u : Tok) (s : Shared) (Q : Value → Shared → Prop) (E : Value → Shared → Prop), Q (.int (g i j) s.toks) { s with toks := s.toks + 1 } → wpAny (model X.prog X.w) X.A (f (.int i t) (.int j u)) Q E s) :
    OpR X f (rI0 fun i j => .int (g i j)) := by
  intro pins s σ H x y v u Q I rx ry h
  obtain ⟨i, j, rfl, rfl, q⟩ := h
  obtain ⟨t, rfl⟩ := rx
  obtain ⟨t', rfl⟩ := ry
  exact rule i j t t' s _ _ ⟨.int (g i j), H, I.tok _, ⟨_, rfl⟩, q⟩
theorem opB0 {f : Value → Value → Sem Value} {g : Int → Int → Bool}
    (rule : ∀ (i j : Int) (t u : Tok) (s : Shared) (Q : Value → Shared → Prop) (E : Value → Shared → Prop), Q (.bool (g i j)) s → wpAny (model X.prog X.w) X.A (f (.int i t) (.int j u)) Q E s) :
    OpR X f (rI0 fun i j => .bl (g i j)) := by
  intro pins s σ H x y v u Q I rx ry h
  obtain ⟨i, j, rfl, rfl, q⟩ := h
  obtain ⟨t, rfl⟩ := rx
  obtain ⟨t', rfl⟩ := ry
  exact rule i j t t' s _ _ ⟨.bl (g i j), H, I, rfl, q⟩

def CDiv (i j : Int) : Prop := 0 < j ∧ j < 1073741824
def CDivN (i j : Int) : Prop := j ≠ 0 ∧ j.natAbs < 1073741824
def CPow (i j : Int) : Prop := 0 ≤ j ∧ j ≤ 1000000 ∧ i.natAbs < 2 ^ 64
def CMul (i j : Int) : Prop := (-(2 ^ 64) < i ∧ i < 2 ^ 64) ∨ (-(2 ^ 64) < j ∧ j < 2 ^ 64)
theorem CMul.ok {i j : Int} (h : CMul i j) : IntMulOk i j := by
  rcases h with ⟨h1, h2⟩ | ⟨h1, h2⟩
  · exact .of_left (intBits_le_64 h1 h2)
  · exact .of_right (intBits_le_64 h1 h2)
theorem two_pow_nn (k : Nat) : (0 : Int) ≤ 2 ^ k := by
  rw [two_pow_cast]
  exact Int.natCast_nonneg _

theorem op_add : OpR X (binaryOp .Add) (rI0 fun i j => .int (i + j)) := opI0 fun _ _ _ _ _ _ _ q => add_int q
theorem op_sub : OpR X (binaryOp .Sub) (rI0 fun i j => .int (i - j)) := opI0 fun _ _ _ _ _ _ _ q => sub_int q
theorem op_mul : OpR X (binaryOp .Mult) (rI CMul fun i j => .int (i * j)) := opI fun _ _ _ _ _ _ _ hc q => mul_int q hc.ok
/-- // by a positive divisor -/
theorem op_fdiv : OpR X (binaryOp .FloorDiv) (rI CDiv fun i j => .int (i / j)) := opI fun i j _ _ _ _ _ hc q => by
  have h1 : (0 : Int) < j := hc.1
  have h2 : j < 1073741824 := hc.2
  exact floordiv_int (by omega) (by rw [Int.fdiv_eq_ediv_of_nonneg i (by omega)]; exact q) (.inl (PyProof.noPylong_small (by omega)))
theorem op_fdivN : OpR X (binaryOp .FloorDiv) (rI CDivN fun i j => .int (i.fdiv j)) := opI fun _ _ _ _ _ _ _ hc q => floordiv_int hc.1 q (.inl (PyProof.noPylong_small hc.2))
/-- % by a positive divisor of any size -/
theorem op_mod : OpR X (binaryOp .Mod) (rI (fun _ j => 0 < j) fun i j => .int (i % j)) := opI fun i j _ _ _ _ _ hc q => by
  have h1 : (0 : Int) < j := hc
  exact mod_int' (by omega) (by rw [Int.fmod_eq_emod_of_nonneg i (by omega)]; exact q)
theorem op_modN : OpR X (binaryOp .Mod) (rI (fun _ j => j ≠ 0) fun i j => .int (i.fmod j)) := opI fun _ _ _ _ _ _ _ hc q => mod_int' hc q
theorem op_pow : OpR X (binaryOp .Pow) (rI CPow fun i j => .int (i ^ j.toNat)) := opI fun _ _ _ _ _ _ _ hc q => pow_int_small hc.1 hc.2.1 hc.2.2 q
theorem op_shl : OpR X (binaryOp .LShift) (rI CPow fun i j => .int (i * 2 ^ j.toNat)) := opI fun _ _ _ _ _ _ _ hc q => lshift_int_small hc.1 hc.2.1 hc.2.2 q
theorem op_shr : OpR X (binaryOp .RShift) (rI (fun _ j => 0 ≤ j) fun i j => .int (i / 2 ^ j.toNat)) := opI fun i j _ _ _ _ _ hc q =>
  rshift_int hc (by rw [Int.fdiv_eq_ediv_of_nonneg i (two_pow_nn _)]; exact q)
theorem op_and : OpR X (binaryOp .BitAnd) (rI0 fun i j => .int (Builtin.bitAnd i j)) := opI0 fun _ _ _ _ _ _ _ q => and_int q
theorem op_or : OpR X (binaryOp .BitOr) (rI0 fun i j => .int (Builtin.bitOr i j)) := opI0 fun _ _ _ _ _ _ _ q => or_int q
theorem op_xor : OpR X (binaryOp .BitXor) (rI0 fun i j => .int (Builtin.bitXor i j)) := opI0 fun _ _ _ _ _ _ _ q => xor_int q

theorem iop_add : OpR X (inplaceOp .Add) (rI0 fun i j => .int (i + j)) := opI0 fun _ _ _ _ _ _ _ q => iadd_int q
theorem iop_sub : OpR X (inplaceOp .Sub) (rI0 fun i j => .int (i - j)) := opI0 fun _ _ _ _ _ _ _ q => isub_int q
theorem iop_mul : OpR X (inplaceOp .Mult) (rI CMul fun i j => .int (i * j)) := opI fun _ _ _ _ _ _ _ hc q => imul_int q hc.ok
theorem iop_fdiv : OpR X (inplaceOp .FloorDiv) (rI CDiv fun i j => .int (i / j)) := opI fun i j _ _ _ _ _ hc q => by
  have h1 : (0 : Int) < j := hc.1
  have h2 : j < 1073741824 := hc.2
  exact ifloordiv_int (by omega) (by rw [Int.fdiv_eq_ediv_of_nonneg i (by omega)]; exact q) (.inl (PyProof.noPylong_small (by omega)))
theorem iop_mod : OpR X (inplaceOp .Mod) (rI (fun _ j => 0 < j) fun i j => .int (i % j)) := opI fun i j _ _ _ _ _ hc q => by
  have h1 : (0 : Int) < j := hc
  exact imod_int (by omega) (by rw [Int.fmod_eq_emod_of_nonneg i (by omega)]; exact q)
theorem iop_shl : OpR X (inplaceOp .LShift) (rI CPow fun i j => .int (i * 2 ^ j.toNat)) := opI fun _ _ _ _ _ _ _ hc q => ilshift_int_small hc.1 hc.2.1 hc.2.2 q
theorem iop_shr : OpR X (inplaceOp .RShift) (rI (fun _ j => 0 ≤ j) fun i j => .int (i / 2 ^ j.toNat)) := opI fun i j _ _ _ _ _ hc q =>
  irshift_int hc (by rw [Int.fdiv_eq_ediv_of_nonneg i (two_pow_nn _)]; exact q)
theorem iop_and : OpR X (inplaceOp .BitAnd) (rI0 fun i j => .int (Builtin.bitAnd i j)) := opI0 fun _ _ _ _ _ _ _ q => iand_int q
theorem iop_or : OpR X (inplaceOp .BitOr) (rI0 fun i j => .int (Builtin.bitOr i j)) := opI0 fun _ _ _ _ _ _ _ q => ior_int q
theorem iop_xor : OpR X (inplaceOp .BitXor) (rI0 fun i j => .int (Builtin.bitXor i j)) := opI0 fun _ _ _ _ _ _ _ q => ixor_int q

theorem unI {f : Value → Sem Value} {g : Int → Int}
    (rule : ∀ (i : Int) (t : Tok) (s : Shared) (Q : Value → Shared → Prop) (E : Value → Shared → Prop), Q (.int (g i) s.toks) { s with toks := s.toks + 1 } → wpAny (model X.prog X.w) X.A (f (.int i t)) Q E s) :
    UnR X f (rU fun i => .int (g i)) := by
  intro pins s σ H x v Q I rx h
  obtain ⟨i, rfl, q⟩ := h
  obtain ⟨t, rfl⟩ := rx
  exact rule i t s _ _ ⟨.int (g i), H, I.tok _, ⟨_, rfl⟩, q⟩
theorem un_neg : UnR X (unaryOp .USub) (rU fun i => .int (-i)) := unI fun _ _ _ _ _ q => neg_int q
theorem un_inv : UnR X (unaryOp .Invert) (rU fun i => .int (Builtin.bitNot i)) := unI fun _ _ _ _ _ q => invert_int q

/-! ### bools among ints: n += (a < b) -/
theorem op_add_ib : OpR X (binaryOp .Add) (fun x y H Q => ∃ i k, x = .int i ∧ y = .bl k ∧ Q (.int (i + b2i k)) H) := by
  intro pins s σ H x y v u Q I rx ry h
  obtain ⟨i, k, rfl, rfl, q⟩ := h
  obtain ⟨t, rfl⟩ := rx
  cases ry
  exact add_int_bool ⟨.int (i + b2i k), H, I.tok _, ⟨_, rfl⟩, q⟩
end

/-! ### comparisons -/
/-- the scalars that == tells apart as data does -/
def scal : V → V → Bool
  | .non, .non => true | .non, .int _ => true | .int _, .non => true | .non, .bl _ => true | .bl _, .non => true | .non, .str _ => true | .str _, .non => true
  | .int _, .int _ => true | .bl _, .bl _ => true | .str _, .str _ => true | .byt _, .byt _ => true
  | .int _, .str _ => true | .str _, .int _ => true | .bl _, .str _ => true | .str _, .bl _ => true
  | _, _ => false
def rEq : R2 := fun x y H Q => scal x y = true ∧ Q (.bl (decide (x = y))) H
def rNe : R2 := fun x y H Q => scal x y = true ∧ Q (.bl (!decide (x = y))) H

theorem dec_int {i j : Int} : decide (V.int i = V.int j) = (i == j) := by
  rw [Bool.eq_iff_iff]
  simp
theorem dec_bl {i j : Bool} : decide (V.bl i = V.bl j) = (i == j) := by
  rw [Bool.eq_iff_iff]
  simp
theorem dec_str {i j : Str} : decide (V.str i = V.str j) = (i == j) := by
  rw [Bool.eq_iff_iff]
  simp
theorem dec_byt {i j : Array UInt8} : decide (V.byt i = V.byt j) = (i.toList == j.toList) := by
  rw [Bool.eq_iff_iff]
  cases i
  cases j
  simp

section
variable {X : Cx} {a b c : Expr} {ta tb tc : TE} {pos : Pos}
theorem fin_bl {pins : List (Addr × Obj)} {σ : St} {H : Hp} {s : Shared} {Q : VK} {k k' : Bool} (I : Inv X pins σ H s) (q : Q (.bl k) H) (e : k = k') : EP X pins σ Q (.bool k') s := by
  subst e
  exact ⟨.bl k, H, I, rfl, q⟩
theorem op_eq : OpR X (compareOp .Eq) rEq := by
  intro pins s σ H x y v u Q I rx ry h
  obtain ⟨hs, q⟩ := h
  cases x with
  | non =>
    cases rx
    cases y with
    | non => cases ry; exact PySem.EqNone.eq_none_none (fin_bl I q (by simp))
    | bl j => cases ry; exact PySem.EqNone.eq_none_bool (fin_bl I q (by simp))
    | int j => obtain ⟨t', rfl⟩ := ry; exact PySem.EqNone.eq_none_int (fin_bl I q (by simp))
    | str j => obtain ⟨t', rfl⟩ := ry; exact PySem.EqNone.eq_none_str (fin_bl I q (by simp))
    | _ => exact absurd (show false = true from hs) Bool.false_ne_true
  | bl i =>
    cases rx
    cases y with
    | non => cases ry; exact PySem.EqNone.eq_bool_none (fin_bl I q (by simp))
    | bl j => cases ry; exact eq_bool (fin_bl I q dec_bl)
    | str j => obtain ⟨t', rfl⟩ := ry; exact PySem.EqMixed.eq_bool_str (fin_bl I q (by simp))
    | _ => exact absurd (show false = true from hs) Bool.false_ne_true
  | int i =>
    obtain ⟨t, rfl⟩ := rx
    cases y with
    | non => cases ry; exact PySem.EqNone.eq_int_none (fin_bl I q (by simp))
    | int j => obtain ⟨t', rfl⟩ := ry; exact eq_int (fin_bl I q dec_int)
    | str j => obtain ⟨t', rfl⟩ := ry; exact PySem.EqMixed.eq_int_str (fin_bl I q (by simp))
    | _ => exact absurd (show false = true from hs) Bool.false_ne_true
  | str i =>
    obtain ⟨t, rfl⟩ := rx
    cases y with
    | non => cases ry; exact PySem.EqNone.eq_str_none (fin_bl I q (by simp))
    | bl j => cases ry; exact PySem.EqMixed.eq_str_bool (fin_bl I q (by simp))
    | int j => obtain ⟨t', rfl⟩ := ry; exact PySem.EqMixed.eq_str_int (fin_bl I q (by simp))
    | str j => obtain ⟨t', rfl⟩ := ry; exact eq_str (fin_bl I q dec_str)
    | _ => exact absurd (show false = true from hs) Bool.false_ne_true
  | byt i =>
    obtain ⟨t, rfl⟩ := rx
    cases y with
    | byt j => obtain ⟨t', rfl⟩ := ry; exact PySem.W.eq_bytes (fin_bl I q dec_byt)
    | _ => exact absurd (show false = true from hs) Bool.false_ne_true
  | _ => cases y <;> exact absurd (show false = true from hs) Bool.false_ne_true
theorem op_ne : OpR X (compareOp .NotEq) rNe := by
  intro pins s σ H x y v u Q I rx ry h
  obtain ⟨hs, q⟩ := h
  cases x with
  | non =>
    cases rx
    cases y with
    | non => cases ry; exact PySem.EqNone.ne_none_none (fin_bl I q (by simp))
    | bl j => cases ry; exact PySem.EqNone.ne_none_bool (fin_bl I q (by simp))
    | int j => obtain ⟨t', rfl⟩ := ry; exact PySem.EqNone.ne_none_int (fin_bl I q (by simp))
    | str j => obtain ⟨t', rfl⟩ := ry; exact PySem.EqNone.ne_none_str (fin_bl I q (by simp))
    | _ => exact absurd (show false = true from hs) Bool.false_ne_true
  | bl i =>
    cases rx
    cases y with
    | non => cases ry; exact PySem.EqNone.ne_bool_none (fin_bl I q (by simp))
    | bl j => cases ry; exact ne_bool (fin_bl I q (congrArg not dec_bl))
    | str j => obtain ⟨t', rfl⟩ := ry; exact PySem.EqMixed.ne_bool_str (fin_bl I q (by simp))
    | _ => exact absurd (show false = true from hs) Bool.false_ne_true
  | int i =>
    obtain ⟨t, rfl⟩ := rx
    cases y with
    | non => cases ry; exact PySem.EqNone.ne_int_none (fin_bl I q (by simp))
    | int j => obtain ⟨t', rfl⟩ := ry; exact ne_int (fin_bl I q (congrArg not dec_int))
    | str j => obtain ⟨t', rfl⟩ := ry; exact PySem.EqMixed.ne_int_str (fin_bl I q (by simp))
    | _ => exact absurd (show false = true from hs) Bool.false_ne_true
  | str i =>
    obtain ⟨t, rfl⟩ := rx
    cases y with
    | non => cases ry; exact PySem.EqNone.ne_str_none (fin_bl I q (by simp))
    | bl j => cases ry; exact PySem.EqMixed.ne_str_bool (fin_bl I q (by simp))
    | int j => obtain ⟨t', rfl⟩ := ry; exact PySem.EqMixed.ne_str_int (fin_bl I q (by simp))
    | str j => obtain ⟨t', rfl⟩ := ry; exact ne_str (fin_bl I q (congrArg not dec_str))
    | _ => exact absurd (show false = true from hs) Bool.false_ne_true
  | byt i =>
    obtain ⟨t, rfl⟩ := rx
    cases y with
    | byt j => obtain ⟨t', rfl⟩ := ry; exact PySem.W.ne_bytes (fin_bl I q (congrArg not dec_byt))
    | _ => exact absurd (show false = true from hs) Bool.false_ne_true
  | _ => cases y <;> exact absurd (show false = true from hs) Bool.false_ne_true

theorem op_lt : OpR X (compareOp .Lt) (rI0 fun i j => .bl (decide (i < j))) := opB0 fun _ _ _ _ _ _ _ q => lt_int q
theorem op_le : OpR X (compareOp .LtE) (rI0 fun i j => .bl (decide (i ≤ j))) := opB0 fun _ _ _ _ _ _ _ q => le_int q
theorem op_gt : OpR X (compareOp .Gt) (rI0 fun i j => .bl (decide (j < i))) := opB0 fun _ _ _ _ _ _ _ q => gt_int q
theorem op_ge : OpR X (compareOp .GtE) (rI0 fun i j => .bl (decide (j ≤ i))) := opB0 fun _ _ _ _ _ _ _ q => ge_int q
theorem op_lt_str : OpR X (compareOp .Lt) (fun x y H Q => ∃ i j, x = .str i ∧ y = .str j ∧ Q (.bl (decide (i.cps.toList < j.cps.toList))) H) := by
  intro pins s σ H x y v u Q I rx ry h
  obtain ⟨i, j, rfl, rfl, q⟩ := h
  obtain ⟨t, rfl⟩ := rx
  obtain ⟨t', rfl⟩ := ry
  exact lt_str (fin_bl I q rfl)
/-- the one string within the other -/
theorem op_in_str : OpR X (compareOp .In) (fun x y H Q => ∃ i j, x = .str i ∧ y = .str j ∧ Q (.bl (!(Builtin.Str.occurrences j i 0 j.length 1).isEmpty)) H) := by
  intro pins s σ H x y v u Q I rx ry h
  obtain ⟨i, j, rfl, rfl, q⟩ := h
  obtain ⟨t, rfl⟩ := rx
  obtain ⟨t', rfl⟩ := ry
  exact in_str (fin_bl I q rfl)

/-- is None, is not None: the right side a value none -/
theorem op_isN : OpR X (compareOp .Is) (fun x y H Q => y = .non ∧ Q (.bl (decide (x = .non))) H) := by
  intro pins s σ H x y v u Q I rx ry h
  obtain ⟨rfl, q⟩ := h
  cases ry
  refine is_none_gen (fin_bl I q ?_)
  cases x <;> first
    | (cases rx; rfl)
    | (obtain ⟨t, rfl⟩ := rx; rfl)
theorem op_notN : OpR X (compareOp .IsNot) (fun x y H Q => y = .non ∧ Q (.bl (!decide (x = .non))) H) := by
  intro pins s σ H x y v u Q I rx ry h
  obtain ⟨rfl, q⟩ := h
  cases ry
  refine isnot_none_gen (fin_bl I q ?_)
  cases x <;> first
    | (cases rx; rfl)
    | (obtain ⟨t, rfl⟩ := rx; rfl)

theorem op_notin_str : OpR X (compareOp .NotIn) (fun x y H Q => ∃ i j, x = .str i ∧ y = .str j ∧ Q (.bl (!(!(Builtin.Str.occurrences j i 0 j.length 1).isEmpty))) H) := by
  intro pins s σ H x y v u Q I rx ry h
  obtain ⟨i, j, rfl, rfl, q⟩ := h
  obtain ⟨t, rfl⟩ := rx
  obtain ⟨t', rfl⟩ := ry
  exact notIn_str (fin_bl I q rfl)
/-- is, is not of two objects that are tracked lists or instances -/
def isObj : HO → Bool
  | .lst _ => true
  | .ins _ _ _ => true
  | _ => false
theorem obj_there {pins : List (Addr × Obj)} {s : Shared} {σ : St} {H : Hp} {a : Addr} {o : HO} (I : Inv X pins σ H s) (h : H a = some o) (p : isObj o = true) : ∃ ob, s.heap.get? a = some ob ∧ ob.cls ≠ .type "tuple" := by
  cases o with
  | lst xs =>
    obtain ⟨_, its, n, _, e⟩ : xs.length ≤ sizeLine ∧ ∃ (its : List Value) (n : Nat), Vals xs its ∧ s.heap.get? a = some { cls := .type "list", data := .seq its.toArray n } := I.hok a _ h
    exact ⟨_, e, (by show Value.type "list" ≠ .type "tuple"; decide +kernel)⟩
  | ins C dx fs =>
    have x := I.hok a _ h
    obtain ⟨_, _, _, e, _⟩ := x
    exact ⟨_, e, (by show Value.ref C ≠ .type "tuple"; exact fun z => by cases z)⟩
  | _ => exact absurd (show false = true from p) Bool.false_ne_true
theorem op_is_ref : OpR X (compareOp .Is) (fun x y H Q => ∃ a b oa ob, x = .ref a ∧ y = .ref b ∧ H a = some oa ∧ isObj oa = true ∧ H b = some ob ∧ isObj ob = true ∧ Q (.bl (decide (a = b))) H) := by
  intro pins s σ H x y v u Q I rx ry h
  obtain ⟨a, b, oa, ob, rfl, rfl, ha, pa, hb, pb, q⟩ := h
  cases rx
  cases ry
  obtain ⟨o1, e1, n1⟩ := obj_there I ha pa
  obtain ⟨o2, e2, _⟩ := obj_there I hb pb
  by_cases z : a = b
  · subst z
    exact wpAny_is_ref_self (fin_bl I q (by simp))
  · exact wpAny_is_ref_other z e1 e2 n1 (fin_bl I q (by simp [z]))
theorem op_isnot_ref : OpR X (compareOp .IsNot) (fun x y H Q => ∃ a b oa ob, x = .ref a ∧ y = .ref b ∧ H a = some oa ∧ isObj oa = true ∧ H b = some ob ∧ isObj ob = true ∧ Q (.bl (!decide (a = b))) H) := by
  intro pins s σ H x y v u Q I rx ry h
  obtain ⟨a, b, oa, ob, rfl, rfl, ha, pa, hb, pb, q⟩ := h
  cases rx
  cases ry
  obtain ⟨o1, e1, n1⟩ := obj_there I ha pa
  obtain ⟨o2, e2, _⟩ := obj_there I hb pb
  by_cases z : a = b
  · subst z
    exact wpAny_isNot_ref_self (fin_bl I q (by simp))
  · exact wpAny_isNot_ref_other z e1 e2 n1 (fin_bl I q (by simp [z]))

/-- two rules for one operation: by cases -/
theorem OpR.or {f : Value → Value → Sem Value} {r r' : R2} (h : OpR X f r) (h' : OpR X f r') : OpR X f (fun x y H Q => r x y H Q ∨ r' x y H Q) := by
  intro pins s σ H x y v u Q I rx ry q
  rcases q with q | q
  · exact h pins s σ H x y v u Q I rx ry q
  · exact h' pins s σ H x y v u Q I rx ry q

theorem nomark (b : Expr) {op : CmpOp} (h : op ≠ .In := by decide) (h2 : op ≠ .NotIn := by decide) : behindInMarks op b = false := by
  have e1 : (op == CmpOp.In) = false := by cases op <;> first | rfl | exact absurd rfl h
  have e2 : (op == CmpOp.NotIn) = false := by cases op <;> first | rfl | exact absurd rfl h2
  cases b <;> simp [behindInMarks, e1, e2]
/-- a comparison as a value; hm: nomark b, or (for in, not in) by with_unfolding_all rfl -/
theorem pe_cmpR {op : CmpOp} {r : R2} (ho : OpR X (compareOp op) r) (ha : PE X a ta) (hb : PE X b tb) (hm : behindInMarks op b = false) : PE X (.Compare a [op] [b] pos) (tOp r ta tb) := by
  intro pins s σ H Q I h
  exact wpAny_Compare1 (binT ha hb I h fun v u s2 x y H2 I2 rx ry q => ho pins s2 σ H2 x y v u Q I2 rx ry q) hm
/-- a reading of a value as a test -/
def tTest (t : TE) : TT := fun σ H Q => t σ H fun x H' => ∃ k, x = .bl k ∧ Q k H'
theorem pt_cmpR {op : CmpOp} {r : R2} (ho : OpR X (compareOp op) r) (ha : PE X a ta) (hb : PE X b tb) (hm : behindInMarks op b = false) : PT X (.Compare a [op] [b] pos) (tTest (tOp r ta tb)) := by
  intro pins s σ H Q I h
  refine wpAny_isTrue_Compare1 (thn (ha pins s σ H _ I h) fun v s1 ⟨x, H1, I1, r1, q1⟩ => thn (hb pins s1 σ H1 _ I1 q1) fun u s2 ⟨y, H2, I2, r2, q2⟩ =>
    thn (ho pins s2 σ H2 x y v u _ I2 r1 r2 q2) fun c s3 ⟨z, H3, I3, r3, k, e, q3⟩ => ?_) hm
  subst e
  cases r3
  exact wpAny_truthy_bool ⟨H3, I3, q3⟩
/-- a op1 b op2 c -/
def tChain (r r' : R2) (ta tb tc : TE) : TE := fun σ H Q => ta σ H fun x H1 => tb σ H1 fun y H2 => r x y H2 fun z H3 => ∃ k, z = .bl k ∧
  (if k = true then tc σ H3 fun w' H4 => r' y w' H4 Q else Q (.bl false) H3)
theorem pe_chain {op op' : CmpOp} {r r' : R2} (ho : OpR X (compareOp op) r) (ho' : OpR X (compareOp op') r') (ha : PE X a ta) (hb : PE X b tb) (hc : PE X c tc)
    (hm : lastMarks [op, op'] [b, c] = false := by with_unfolding_all rfl) : PE X (.Compare a [op, op'] [b, c] pos) (tChain r r' ta tb tc) := by
  intro pins s σ H Q I h
  refine Compare_chain (thn (ha pins s σ H _ I h) fun v s1 ⟨x, H1, I1, r1, q1⟩ => chain_link (thn (hb pins s1 σ H1 _ I1 q1) fun u s2 ⟨y, H2, I2, r2, q2⟩ =>
    thn (ho pins s2 σ H2 x y v u _ I2 r1 r2 q2) fun d s3 ⟨z, H3, I3, r3, k, e, q3⟩ => ?_)) hm
  subst e
  cases r3
  refine wpAny_truthy_bool ?_
  cases k with
  | false => exact ite_ff ⟨.bl false, H3, I3, rfl, q3⟩
  | true => exact ite_tt (chain_last (thn (hc pins s3 σ H3 _ I3 q3) fun w' s4 ⟨z', H4, I4, r4, q4⟩ => ho' pins s4 σ H4 y z' u w' Q I4 r2 r4 q4))
theorem pt_chain {op op' : CmpOp} {r r' : R2} (ho : OpR X (compareOp op) r) (ho' : OpR X (compareOp op') r') (ha : PE X a ta) (hb : PE X b tb) (hc : PE X c tc)
    (hm : lastMarks [op, op'] [b, c] = false := by with_unfolding_all rfl) : PT X (.Compare a [op, op'] [b, c] pos) (tTest (tChain r r' ta tb tc)) := by
  intro pins s σ H Q I h
  refine isTrue_chain (thn (ha pins s σ H _ I h) fun v s1 ⟨x, H1, I1, r1, q1⟩ => test_link (thn (hb pins s1 σ H1 _ I1 q1) fun u s2 ⟨y, H2, I2, r2, q2⟩ =>
    thn (ho pins s2 σ H2 x y v u _ I2 r1 r2 q2) fun d s3 ⟨z, H3, I3, r3, k, e, q3⟩ => ?_)) hm
  subst e
  cases r3
  refine wpAny_truthy_bool ?_
  cases k with
  | false =>
    obtain ⟨k', e', q'⟩ := q3
    cases e'
    exact ite_ff ⟨H3, I3, q'⟩
  | true =>
    refine ite_tt (test_last (thn (hc pins s3 σ H3 _ I3 q3) fun w' s4 ⟨z', H4, I4, r4, q4⟩ => thn (ho' pins s4 σ H4 y z' u w' _ I4 r2 r4 q4) fun d' s5 ⟨z2, H5, I5, r5, k2, e2, q5⟩ => ?_))
    subst e2
    cases r5
    exact wpAny_truthy_bool ⟨H5, I5, q5⟩

/-! ### truth -/
/-- a value's truth by the abstract heap -/
def TruV (K : PySem.W.Frag) (x : V) (H : Hp) (k : Bool) : Prop :=
  match x with
  | .non => k = false
  | .bl b => k = b
  | .int i => k = (i != 0)
  | .str y => y.length ≤ sizeLine ∧ k = ((y.length : Int) != 0)
  | .byt y => y.size ≤ sizeLine ∧ k = ((y.size : Int) != 0)
  | .ref p => (∃ xs, SqL K H p xs ∧ k = !xs.isEmpty) ∨ (∃ xs, SqT K H p xs ∧ k = !xs.isEmpty) ∨ ∃ kvs, H p = some (.dK kvs) ∧ k = !kvs.isEmpty
  | _ => False
theorem isEmpty_kv {κ : Type} {kvs : List (κ × V)} {vs : List (κ × Value)} (r : KV kvs vs) : (!vs.isEmpty) = !kvs.isEmpty := by
  cases r <;> rfl
theorem isEmpty_of {xs : List V} {its : List Value} (r : Vals xs its) : (!its.toArray.isEmpty) = !xs.isEmpty := by
  cases r <;> simp
theorem line63 : (sizeLine : Nat) < 2 ^ 63 := by rw [sizeLine_eq]; decide
theorem tru_ok : TruR X (fun x H Q => ∃ k, TruV X.K x H k ∧ Q k H) := by
  intro pins s σ H x v Q I rx h
  obtain ⟨k, e, q⟩ := h
  have hl := line63
  have hs : sizeLine = 16777216 := sizeLine_eq
  cases x with
  | non =>
    cases rx
    have e' : k = false := e
    subst e'
    exact truthy_none ⟨H, I, q⟩
  | bl b =>
    cases rx
    have e' : k = b := e
    subst e'
    exact wpAny_truthy_bool ⟨H, I, q⟩
  | int i =>
    obtain ⟨t, rfl⟩ := rx
    have e' : k = (i != 0) := e
    subst e'
    exact PySem.P.truthy_int ⟨H, I, q⟩
  | str y =>
    obtain ⟨t, rfl⟩ := rx
    obtain ⟨hy, e'⟩ : y.length ≤ sizeLine ∧ k = ((y.length : Int) != 0) := e
    subst e'
    exact PySem.P.truthy_str (by omega) ⟨H, I.tok _, q⟩
  | byt y =>
    obtain ⟨t, rfl⟩ := rx
    obtain ⟨hy, e'⟩ : y.size ≤ sizeLine ∧ k = ((y.size : Int) != 0) := e
    subst e'
    exact PySem.W.truthy_bytes (by omega) ⟨H, I.tok _, q⟩
  | ref p =>
    cases rx
    have e' : (∃ xs, SqL X.K H p xs ∧ k = !xs.isEmpty) ∨ (∃ xs, SqT X.K H p xs ∧ k = !xs.isEmpty) ∨ ∃ kvs, H p = some (.dK kvs) ∧ k = !kvs.isEmpty := e
    rcases e' with ⟨xs, hx, e'⟩ | ⟨xs, hx, e'⟩ | ⟨kvs, hx, e'⟩
    · subst e'
      obtain ⟨its, r, pl, hz⟩ := I.list hx
      have hlen := r.length
      exact wpAny_truthy_list pl.isList (by simp only [List.size_toArray]; omega) ⟨H, I.tok _, by rw [isEmpty_of r]; exact q⟩
    · subst e'
      obtain ⟨its, r, pl, hz⟩ := I.tuple hx
      have hlen := r.length
      exact truthy_tuple pl (by simp only [List.size_toArray]; omega) ⟨H, I.tok _, by rw [isEmpty_of r]; exact q⟩
    · subst e'
      obtain ⟨hz, hS, vs, r, m⟩ : kvs.length ≤ sizeLine ∧ (p == sysModules) = false ∧ ∃ vs, KV kvs vs ∧ s.heap.DictOf (mixKind X.prog X.w) p vs := I.hok p _ hx
      have hlen : kvs.length = vs.length := Paired.length r
      exact wpAny_truthy_dict hS m (by omega) ⟨H, I.tok _, by rw [isEmpty_kv r]; exact q⟩
  | _ => exact (show False from e).elim
/-- any expression whose test is its value's truth (a name, a call, a subscript, a field ..: he by fun _ => rfl) -/
theorem pt_truth (ha : PE X a ta) (he : ∀ whole, isTrue a X.env whole = (do let v ← whole; standAt a.pos; holding [v] (truthy v))) :
    PT X a (fun σ H Q => ta σ H fun x H' => ∃ k, TruV X.K x H' k ∧ Q k H') := by
  intro pins s σ H Q I h
  exact isTrue_plain (thn (ha pins s σ H _ I h) fun v s1 ⟨x, H1, I1, r1, q1⟩ => tru_ok pins s1 σ H1 x v Q I1 r1 q1) (he _)

/-! ### strs and bytes -/
theorem pe_byt {x : List UInt8} {k : Nat} : PE X (.Constant (.bytes x) k pos) (fun _ H Q => Q (.byt x.toArray) H) := fun _ _ _ H _ I h => PySem.W.Constant_bytes ⟨.byt x.toArray, H, I.tok _, ⟨_, rfl⟩, h⟩
theorem op_add_str : OpR X (binaryOp .Add) (fun x y H Q => ∃ i j, x = .str i ∧ y = .str j ∧ i.length + j.length ≤ sizeLine ∧ Q (.str (i ++ j)) H) := by
  intro pins s σ H x y v u Q I rx ry h
  obtain ⟨i, j, rfl, rfl, hz, q⟩ := h
  obtain ⟨t, rfl⟩ := rx
  obtain ⟨t', rfl⟩ := ry
  exact add_str (fun t' tk => ⟨.str (i ++ j), H, I.tok _, ⟨_, rfl⟩, q⟩) hz
theorem iop_add_str : OpR X (inplaceOp .Add) (fun x y H Q => ∃ i j, x = .str i ∧ y = .str j ∧ i.length + j.length ≤ sizeLine ∧ Q (.str (i ++ j)) H) := by
  intro pins s σ H x y v u Q I rx ry h
  obtain ⟨i, j, rfl, rfl, hz, q⟩ := h
  obtain ⟨t, rfl⟩ := rx
  obtain ⟨t', rfl⟩ := ry
  exact iadd_str (fun t' tk => ⟨.str (i ++ j), H, I.tok _, ⟨_, rfl⟩, q⟩) hz
theorem op_add_byt : OpR X (binaryOp .Add) (fun x y H Q => ∃ i j, x = .byt i ∧ y = .byt j ∧ i.size + j.size ≤ 16777216 ∧ Q (.byt (i ++ j)) H) := by
  intro pins s σ H x y v u Q I rx ry h
  obtain ⟨i, j, rfl, rfl, hz, q⟩ := h
  obtain ⟨t, rfl⟩ := rx
  obtain ⟨t', rfl⟩ := ry
  exact PySem.W.KBy.add_bytes hz (fun t' tk => ⟨.byt (i ++ j), H, I.tok _, ⟨_, rfl⟩, q⟩)

def PlainIxT (b : Expr) : Prop := ∀ o i, subscripted b false o i = operate [o, i] (getItem o i)
/-- s[i], 0 ≤ i < len -/
theorem pe_item_str (ha : PE X a ta) (hb : PE X b tb) (hs : PlainIxT b) :
    PE X (.Subscript a b pos) (tOp (fun x y H Q => ∃ z i c, x = .str z ∧ y = .int i ∧ 0 ≤ i ∧ i < 2 ^ 63 ∧ i < z.length ∧ z.cps[i.toNat]? = some c ∧ Q (.str ⟨#[c]⟩) H) ta tb) := by
  intro pins s σ H Q I h
  refine Subscript_ (binT ha hb I h fun v u s2 x y H2 I2 rx ry q => ?_)
  obtain ⟨z, i, c, rfl, rfl, h0, h63, h1, hc, q⟩ := q
  obtain ⟨t, rfl⟩ := rx
  obtain ⟨t', rfl⟩ := ry
  have e : seqIndex? i z.length = some i.toNat := PySem.StrLaws.seqIndex_nonneg h0 h1
  exact tail_any (typeIs_str s2 z t) slot_str_getitem.lookup (getItem_str (c := c) (by
    have e1 : decide (i < -(2 ^ 63 : Int)) = false := decide_eq_false (by omega)
    have e2 : decide (i ≥ 2 ^ 63) = false := decide_eq_false (by omega)
    rw [e1, e2] <;> rfl) (by rw [e]; exact hc) ⟨.str ⟨#[c]⟩, H2, I2.tok _, ⟨_, rfl⟩, q⟩) (hs _ _)
/-- b[i], 0 ≤ i < len -/
theorem pe_item_byt (ha : PE X a ta) (hb : PE X b tb) (hs : PlainIxT b) :
    PE X (.Subscript a b pos) (tOp (fun x y H Q => ∃ (z : List UInt8) (i : Int), x = .byt z.toArray ∧ y = .int i ∧ z.length ≤ sizeLine ∧ 0 ≤ i ∧ i < z.length ∧ Q (.int ((z.getD i.toNat 0).toNat : Nat)) H) ta tb) := by
  intro pins s σ H Q I h
  refine Subscript_ (binT ha hb I h fun v u s2 x y H2 I2 rx ry q => ?_)
  obtain ⟨z, i, rfl, rfl, hz, h0, h1, q⟩ := q
  obtain ⟨t, rfl⟩ := rx
  obtain ⟨t', rfl⟩ := ry
  have hl : sizeLine = 16777216 := sizeLine_eq
  exact tail_any (PySem.W.typeIs_bytes s2 z.toArray t) PySem.W.FB.slot_bytes_getitem.lookup (PySem.W.getItem_bytes (by omega) h0 h1 ⟨.int ((z.getD i.toNat 0).toNat : Nat), H2, I2.tok _, ⟨_, rfl⟩, q⟩) (hs _ _)

/-! ### scalar builtins, by CallR -/
theorem vals1 {x : V} {us : List Value} (r : Vals [x] us) : ∃ u, us = [u] ∧ RelV x u := by
  cases r with
  | cons r1 r2 => cases r2; exact ⟨_, rfl, r1⟩
theorem vals2 {x y : V} {us : List Value} (r : Vals [x, y] us) : ∃ u w', us = [u, w'] ∧ RelV x u ∧ RelV y w' := by
  cases r with
  | cons r1 r2 =>
    cases r2 with
    | cons r3 r4 => cases r4; exact ⟨_, _, rfl, r1, r3⟩
theorem call_abs : CallR X (.builtin "abs") (fun xs H Q => ∃ i, xs = [.int i] ∧ Q (.int (if i < 0 then -i else i)) H) := by
  intro pins s σ H xs us Q I r h
  obtain ⟨i, rfl, q⟩ := h
  obtain ⟨u, rfl, t, rfl⟩ := vals1 r
  exact call_abs_int fun u tk => ⟨.int (if i < 0 then -i else i), H, I.tok _, ⟨_, rfl⟩, q⟩
theorem call_max2 (hc : X.calm = true) : CallR X (.builtin "max") (fun xs H Q => ∃ i j, xs = [.int i, .int j] ∧ Q (.int (if j > i then j else i)) H) := by
  intro pins s σ H xs us Q I r h
  obtain ⟨i, j, rfl, q⟩ := h
  obtain ⟨u, w', rfl, ⟨t, rfl⟩, ⟨t', rfl⟩⟩ := vals2 r
  refine max_two_ints (I.ok.hd hc) fun h' tk k => ⟨_, H, I.kept k, ?_, q⟩
  by_cases hj : j > i
  · rw [if_pos hj, if_pos hj]; exact ⟨_, rfl⟩
  · rw [if_neg hj, if_neg hj]; exact ⟨_, rfl⟩
theorem call_min2 (hc : X.calm = true) : CallR X (.builtin "min") (fun xs H Q => ∃ i j, xs = [.int i, .int j] ∧ Q (.int (if j < i then j else i)) H) := by
  intro pins s σ H xs us Q I r h
  obtain ⟨i, j, rfl, q⟩ := h
  obtain ⟨u, w', rfl, ⟨t, rfl⟩, ⟨t', rfl⟩⟩ := vals2 r
  refine min_two_ints (I.ok.hd hc) fun h' tk k => ⟨_, H, I.kept k, ?_, q⟩
  by_cases hj : j < i
  · rw [if_pos hj, if_pos hj]; exact ⟨_, rfl⟩
  · rw [if_neg hj, if_neg hj]; exact ⟨_, rfl⟩
theorem call_int1 : CallR X (.type "int") (fun xs H Q => (∃ i, xs = [.int i] ∧ Q (.int i) H) ∨ ∃ k, xs = [.bl k] ∧ Q (.int (if k then 1 else 0)) H) := by
  intro pins s σ H xs us Q I r h
  rcases h with ⟨i, rfl, q⟩ | ⟨k, rfl, q⟩
  · obtain ⟨u, rfl, t, rfl⟩ := vals1 r
    exact call_int_int ⟨.int i, H, I, ⟨_, rfl⟩, q⟩
  · obtain ⟨u, rfl, r1⟩ := vals1 r
    cases r1
    exact call_int_bool ⟨.int (if k then 1 else 0), H, I.tok _, ⟨_, rfl⟩, q⟩
theorem call_bool1 : CallR X (.type "bool") (fun xs H Q => (∃ i, xs = [.int i] ∧ Q (.bl (i != 0)) H) ∨ ∃ k, xs = [.bl k] ∧ Q (.bl k) H) := by
  intro pins s σ H xs us Q I r h
  rcases h with ⟨i, rfl, q⟩ | ⟨k, rfl, q⟩
  · obtain ⟨u, rfl, t, rfl⟩ := vals1 r
    exact call_bool_int ⟨.bl (i != 0), H, I, rfl, q⟩
  · obtain ⟨u, rfl, r1⟩ := vals1 r
    cases r1
    exact call_bool_bool ⟨.bl k, H, I, rfl, q⟩
theorem call_str_int : CallR X (.type "str") (fun xs H Q => ∃ i, xs = [.int i] ∧ i.natAbs.log2 < 1920 ∧ Q (.str (toString i)) H) := by
  intro pins s σ H xs us Q I r h
  obtain ⟨i, rfl, hz, q⟩ := h
  obtain ⟨u, rfl, t, rfl⟩ := vals1 r
  exact PySem.P.str_of_int hz ⟨.str _, H, I.tok _, ⟨_, rfl⟩, q⟩
theorem call_ord : CallR X (.builtin "ord") (fun xs H Q => ∃ x, xs = [.str x] ∧ x.length = 1 ∧ Q (.int (x.cps.getD 0 0 : Nat)) H) := by
  intro pins s σ H xs us Q I r h
  obtain ⟨x, rfl, hz, q⟩ := h
  obtain ⟨u, rfl, t, rfl⟩ := vals1 r
  exact ord_of_one hz ⟨.int _, H, I.tok _, ⟨_, rfl⟩, q⟩
theorem call_chr : CallR X (.builtin "chr") (fun xs H Q => ∃ i, xs = [.int i] ∧ 0 ≤ i ∧ i ≤ 1114111 ∧ Q (.str ⟨#[i.toNat]⟩) H) := by
  intro pins s σ H xs us Q I r h
  obtain ⟨i, rfl, h0, h1, q⟩ := h
  obtain ⟨u, rfl, t, rfl⟩ := vals1 r
  exact chr_of_range h0 h1 ⟨.str _, H, I.tok _, ⟨_, rfl⟩, q⟩
/-- len of a str, a bytes, a list, a tuple -/
def LenV (K : PySem.W.Frag) (x : V) (H : Hp) (n : Nat) : Prop :=
  match x with
  | .str y => y.length ≤ sizeLine ∧ n = y.length
  | .byt y => y.size ≤ sizeLine ∧ n = y.size
  | .ref p => (∃ xs, SqL K H p xs ∧ n = xs.length) ∨ ∃ xs, SqT K H p xs ∧ n = xs.length
  | _ => False
theorem call_len : CallR X (.builtin "len") (fun xs H Q => ∃ x n, xs = [x] ∧ LenV X.K x H n ∧ Q (.int n) H) := by
  intro pins s σ H xs us Q I r h
  obtain ⟨x, n, rfl, e, q⟩ := h
  obtain ⟨u, rfl, rx⟩ := vals1 r
  have hl := line63
  have hs : sizeLine = 16777216 := sizeLine_eq
  cases x with
  | str y =>
    obtain ⟨t, rfl⟩ := rx
    obtain ⟨hy, e'⟩ : y.length ≤ sizeLine ∧ n = y.length := e
    subst e'
    exact len_str (by omega) ⟨.int _, H, I.tok _, ⟨_, rfl⟩, q⟩
  | byt y =>
    obtain ⟨t, rfl⟩ := rx
    obtain ⟨hy, e'⟩ : y.size ≤ sizeLine ∧ n = y.size := e
    subst e'
    exact PySem.W.len_bytes (by omega) ⟨.int _, H, I.tok _, ⟨_, rfl⟩, q⟩
  | ref p =>
    cases rx
    have e' : (∃ xs, SqL X.K H p xs ∧ n = xs.length) ∨ ∃ xs, SqT X.K H p xs ∧ n = xs.length := e
    rcases e' with ⟨xs, hx, e'⟩ | ⟨xs, hx, e'⟩
    · subst e'
      obtain ⟨its, r', pl, hz⟩ := I.list hx
      have hlen := r'.length
      exact Calls.call_len_list pl.isList (by simp only [List.size_toArray]; omega) ⟨.int xs.length, H, I.tok _, ⟨_, by simp only [List.size_toArray]; rw [hlen]⟩, q⟩
    · subst e'
      obtain ⟨its, r', pl, hz⟩ := I.tuple hx
      have hlen := r'.length
      exact len_tuple pl (by simp only [List.size_toArray]; omega) ⟨.int xs.length, H, I.tok _, ⟨_, by simp only [List.size_toArray]; rw [hlen]⟩, q⟩
  | _ => exact (show False from e).elim
/-- divmod: a new tuple -/
theorem call_divmod : CallR X (.builtin "divmod") (fun xs H Q => ∃ i j, xs = [.int i, .int j] ∧ CDiv i j ∧ ∀ p, H p = none → Q (.ref p) (upd H p (.tup [.int (i / j), .int (i % j)]))) := by
  intro pins s σ H xs us Q I r h
  obtain ⟨i, j, rfl, ⟨h1, h2⟩, q⟩ := h
  obtain ⟨u, w', rfl, ⟨t, rfl⟩, ⟨t', rfl⟩⟩ := vals2 r
  refine divmod_int (by omega) ?_ (.inl (PyProof.noPylong_small (by omega)))
  rw [Int.fdiv_eq_ediv_of_nonneg i (by omega), Int.fmod_eq_emod_of_nonneg i (by omega)]
  have hn : H s.heap.objs.size = none := I.hok.fresh (Nat.le_refl _)
  refine ⟨.ref s.heap.objs.size, _, ?_, rfl, q _ hn⟩
  refine I.laid (fun b o e => Heap.get?_push_of_some _ e) (Nat.le_refl _) ⟨by simp only [List.length_cons, List.length_nil]; rw [sizeLine_eq]; decide, [.int (i / j) s.toks, .int (i % j) (s.toks + 1)], .cons ⟨_, rfl⟩ (.cons ⟨_, rfl⟩ .nil), ?_⟩
  exact ⟨_, Heap.get?_push_size s.heap rfl, rfl, 0, rfl⟩
end
end L2

namespace L2
open PySem PySem.Spec PyProof.Rows

/-! ### an instance, its attributes a map -/
structure ObjM (h : Heap) (x dx C : Addr) (mA : Str → Option Value) : Prop where
  obj : h.get? x = some (PySem.W.instObj C dx)
  ns : h.Ns1 dx mA
  ne : dx ≠ x

theorem lookIn_ns {h : Heap} {dx : Addr} {mA : Str → Option Value} (n : h.Ns1 dx mA) : ∃ od, h.get? dx = some od ∧ ∀ name, PySem.W.lookIn name od = some (mA name) := by
  obtain ⟨o, es, ep, ho, hd, hk, _, hm⟩ := n
  refine ⟨o, ho, fun name => ?_⟩
  have e := hm name
  unfold nsFind findBy at e
  rw [← Array.find?_toList] at e
  unfold PySem.W.lookIn
  rw [hd]
  dsimp only
  split
  · rename_i y q
    rw [q] at e
    exact congrArg some e
  · rename_i q
    rw [q] at e
    have a : es.toList.any (·.refKey) = false := by
      rw [List.any_eq_false]
      intro y hy
      obtain ⟨z, t, hkey⟩ := hk y (Array.mem_toList_iff.mp hy)
      simp [DictEntry.refKey, hkey]
    have a' : ¬ es.toList.any (·.refKey) = true := by rw [a]; exact Bool.false_ne_true
    rw [if_neg a']
    exact congrArg some e

theorem ObjM.look {h : Heap} {x dx C : Addr} {mA : Str → Option Value} (I : ObjM h x dx C mA) : ∃ od, PySem.W.InstAt h x (PySem.W.instObj C dx) C (some od) ∧ ∀ name, PySem.W.lookIn name od = some (mA name) :=
  let ⟨od, ho, hl⟩ := lookIn_ns I.ns
  ⟨od, ⟨I.obj, rfl, rfl, ho⟩, hl⟩

section
variable {prog : Program} {w : World} {A : Around} {E : Value → Shared → Prop} {s : Shared} {K : PySem.W.Frag} {x dx C f : Addr} {mA : Str → Option Value} {name : Str} {v : Value}

theorem get_map {expr : Bool} {Q : Value → Shared → Prop} (X : K.In s.heap) (I : ObjM s.heap x dx C mA) (hg : PySem.W.plainGet K C name = true) (hh : PySem.W.hasDictIn K C = true)
    (ha : PySem.W.findIn K (.ref C) name = some none) (hv : mA name = some v) (hv' : PySem.W.handedIn v = true) (h : Q v { s with toks := s.toks + 1 }) :
    wpAny (model prog w) A (getAttr (.ref x) name expr) Q E s := by
  obtain ⟨od, J, hl⟩ := I.look
  exact PySem.W.get_value X J (PySem.W.plainGet_of hg).1 (PySem.W.findObj_own hh ha rfl (by rw [hl, hv])) hv' h

theorem get_const {expr : Bool} {a : Value} {Q : Value → Shared → Prop} (X : K.In s.heap) (I : ObjM s.heap x dx C mA) (hg : PySem.W.plainGet K C name = true) (hh : PySem.W.hasDictIn K C = true)
    (ha : PySem.W.findIn K (.ref C) name = some (some a)) (hn : PySem.W.specialIn K a "__get__" = some none) (hc : PySem.W.copiedNames.contains name = false) (hv : mA name = none) (hv' : PySem.W.handedIn a = true)
    (h : Q a { s with toks := s.toks + 1 }) : wpAny (model prog w) A (getAttr (.ref x) name expr) Q E s := by
  obtain ⟨od, J, hl⟩ := I.look
  exact PySem.W.get_value X J (PySem.W.plainGet_of hg).1 (PySem.W.findObj_cls hh ha hn hv' hc (by rw [hl, hv])) hv' h

theorem get_meth {pl : Sem Bool} {Q : Value × List Value → Shared → Prop} (X : K.In s.heap) (I : ObjM s.heap x dx C mA) (hg : PySem.W.plainGet K C name = true)
    (hf : PySem.W.findIn K (.ref C) name = some (some (.ref f))) (ht : PySem.W.isFn K (.ref f) = true) (hv : mA name = none) (h : Q (.ref f, [.ref x]) s) :
    wpAny (model prog w) A (getMethod (.ref x) name pl) Q E s := by
  obtain ⟨od, J, hl⟩ := I.look
  exact PySem.W.method_fn X J (PySem.W.plainGet_of hg).1 (PySem.W.plainGet_of hg).2 hf (beq_iff_eq.mp ht) (by show (PySem.W.lookIn name od).map (·.isSome) = some false; rw [hl, hv]; rfl) h

theorem set_map {ns : List Str} {Q : Unit → Shared → Prop} (X : K.In s.heap) (I : ObjM s.heap x dx C mA)
    (hs : PySem.W.findIn K (.ref C) "__setattr__" = some (some (.builtin "object.__setattr__"))) (hp : PySem.W.plainOver K C = true) (ht : PySem.W.takerIn K C name = some none) (hh : PySem.W.hasDictIn K C = true)
    (hw : PySem.Within mA ns) (hsz : ns.length ≤ sizeLine)
    (h : ∀ h', ObjM h' x dx C (fun y => if y = name then some v else mA y) → Heap.SameBut dx s.heap h' → Q () { s with heap := h', toks := s.toks + 2 }) :
    wpAny (model prog w) A (setAttr (.ref x) name v) Q E s := by
  obtain ⟨od, J, hl⟩ := I.look
  refine PySem.W.set_plain X J hs (PySem.W.osa_open (s := { s with toks := s.toks + 1 }) (r := none) X J hp ht fun b => ?_)
  obtain ⟨cd, hc, hd'⟩ := PySem.W.any_some hh
  have hx : s.heap.get? x = some ⟨.ref C, some dx, .plain, #[]⟩ := I.obj
  refine wpAny_bind (wpAny_pure (wpAny_bind (wpAny_bind (wpAny_loadPart hx (wpAny_bind (PySem.W.Looks.here (s := { s with toks := s.toks + 1 }) (PySem.W.looks_clsIn X hc) ?_))))))
  rw [hd']
  refine wpAny_pure (a := some dx) (wpAny_bind (wpAny_pure (wpAny_bind ?_)))
  refine wpAny_nsSet1 (s := { s with toks := s.toks + 1 }) I.ns fun h' hn2 hs2 => ?_
  obtain ⟨oD, esD, epD, hoD, hdD, hcD⟩ := hn2.count (PySem.Within.cons name v hw)
  refine wpAny_bind (wpAny_lookBehind hoD (by rw [hdD]; exact pastItsLine_dict (Nat.le_trans hcD (by rw [List.length_cons]; omega))) ?_)
  exact wpAny_pure (h _ ⟨(hs2.2 _ (Ne.symm I.ne)).trans I.obj, hn2, I.ne⟩ hs2)

/-- C(..): the dict at the heap's end, the instance behind it; then its __init__ -/
theorem make_map {R : Result → Shared → Prop} {vs : List Value} {kw : List (Str × Value)} (X : K.In s.heap) (hm : PySem.W.makesIn K C = true)
    (hi : PySem.W.findIn K (.ref C) "__init__" = some (some (.ref f))) (hf : PySem.W.typeIn K (.ref f) = some (.type "function"))
    (h : codeAny (model prog w) (A.under (.builtin "type.__call__" ⟨.ref C :: vs, kw⟩)) (.call (.ref f) ⟨.ref (s.heap.objs.size + 1) :: vs, kw⟩) (PySem.W.InitBack (s.heap.objs.size + 1) R)
      { s with heap := (s.heap.push PySem.W.emptyDict).push (PySem.W.instObj C s.heap.objs.size) }) :
    codeAny (model prog w) A (.call (.ref C) ⟨vs, kw⟩) R s := by
  obtain ⟨hh, g, d, t, os⟩ := s
  exact PySem.W.make_core (PySem.W.makes_of X hm) (PySem.W.looks_findIn X hi) (fun self => PySem.W.bind_fn X self hf) (.inl rfl) h
/-- C() where there is no __init__ but object's -/
theorem make_map0 {R : Result → Shared → Prop} (X : K.In s.heap) (hm : PySem.W.makesIn K C = true)
    (hi : PySem.W.findIn K (.ref C) "__init__" = some (some (.builtin "object.__init__")))
    (hb : ∀ self, PySem.W.Looks (model prog w) s.heap (bindSpecial (.builtin "object.__init__") self) (.builtin "object.__init__", [self]))
    (h : codeAny (model prog w) (A.under (.builtin "type.__call__" ⟨[.ref C], []⟩)) (.call (.builtin "object.__init__") ⟨[.ref (s.heap.objs.size + 1)], []⟩) (PySem.W.InitBack (s.heap.objs.size + 1) R)
      { s with heap := (s.heap.push PySem.W.emptyDict).push (PySem.W.instObj C s.heap.objs.size) }) :
    codeAny (model prog w) A (.call (.ref C) ⟨[], []⟩) R s := by
  obtain ⟨hh, g, d, t, os⟩ := s
  exact PySem.W.make_core (PySem.W.makes_of X hm) (PySem.W.looks_findIn X hi) hb (.inr ⟨rfl, rfl⟩) h
end

/-! ### the attributes as a list of pairs -/
def putF (f : Str) (v : V) : List (Str × V) → List (Str × V)
  | [] => [(f, v)]
  | (g, x) :: r => if g = f then (g, v) :: r else (g, x) :: putF f v r
theorem lookup_putF (f g : Str) (v : V) : ∀ fs : List (Str × V), (putF f v fs).lookup g = if g = f then some v else fs.lookup g
  | [] => by
    show List.lookup g [(f, v)] = _
    by_cases h : g = f
    · have hb : (g == f) = true := beq_iff_eq.mpr h
      simp only [List.lookup, hb, if_pos h]
    · have hb : (g == f) = false := beq_eq_false_iff_ne.mpr h
      simp only [List.lookup, hb, if_neg h]
  | (k, x) :: r => by
    have ih := lookup_putF f g v r
    rw [show putF f v ((k, x) :: r) = (if k = f then (k, v) :: r else (k, x) :: putF f v r) from rfl]
    by_cases hk : k = f
    · rw [if_pos hk]
      by_cases h : g = k
      · have hb : (g == k) = true := beq_iff_eq.mpr h
        simp only [List.lookup, hb, if_pos (h.trans hk)]
      · have hb : (g == k) = false := beq_eq_false_iff_ne.mpr h
        simp only [List.lookup, hb, if_neg (fun e : g = f => h (e.trans hk.symm))]
    · rw [if_neg hk]
      by_cases h : g = k
      · have hb : (g == k) = true := beq_iff_eq.mpr h
        simp only [List.lookup, hb, if_neg (fun e : g = f => hk (h.symm.trans e))]
      · have hb : (g == k) = false := beq_eq_false_iff_ne.mpr h
        simp only [List.lookup, hb]
        exact ih
theorem keys_putF (f : Str) (v : V) : ∀ fs : List (Str × V), f ∈ (putF f v fs).map (·.1) ∧ ∀ g, g ∈ fs.map (·.1) → g ∈ (putF f v fs).map (·.1)
  | [] => ⟨by simp [putF], fun g h => by simp at h⟩
  | (k, x) :: r => by
    obtain ⟨i1, i2⟩ := keys_putF f v r
    rw [show putF f v ((k, x) :: r) = (if k = f then (k, v) :: r else (k, x) :: putF f v r) from rfl]
    by_cases hk : k = f
    · rw [if_pos hk]
      subst hk
      exact ⟨by simp, fun g h => by simpa using h⟩
    · rw [if_neg hk]
      refine ⟨?_, fun g h => ?_⟩
      · rw [List.map_cons]
        exact List.mem_cons_of_mem _ i1
      · rw [List.map_cons] at h ⊢
        rcases List.mem_cons.mp h with e | e
        · exact List.mem_cons.mpr (.inl e)
        · exact List.mem_cons_of_mem _ (i2 g e)
theorem length_putF (f : Str) (v : V) : ∀ fs : List (Str × V), (putF f v fs).length ≤ fs.length + 1
  | [] => by simp [putF]
  | (k, x) :: r => by
    have ih := length_putF f v r
    rw [show putF f v ((k, x) :: r) = (if k = f then (k, v) :: r else (k, x) :: putF f v r) from rfl]
    by_cases hk : k = f
    · rw [if_pos hk, List.length_cons, List.length_cons]; omega
    · rw [if_neg hk, List.length_cons, List.length_cons]; omega

theorem RelO.some_of {v : V} {o : Option Value} (r : RelO (some v) o) : ∃ u, o = some u ∧ RelV v u := by
  cases o with
  | none => exact (show False from r).elim
  | some u => exact ⟨u, rfl, r⟩
theorem RelO.none_of {o : Option Value} (r : RelO none o) : o = none := by
  cases o with
  | none => rfl
  | some u => exact (show False from r).elim
theorem handed_of {v : V} {u : Value} (r : RelV v u) : PySem.W.handedIn u = true := by
  cases v with
  | non => cases (show u = Value.none from r); rfl
  | bl b => cases (show u = Value.bool b from r); rfl
  | int i => obtain ⟨t, e⟩ := (show ∃ t, u = Value.int i t from r); cases e; rfl
  | str x => obtain ⟨t, e⟩ := (show ∃ t, u = Value.str x t from r); cases e; rfl
  | byt b => obtain ⟨t, e⟩ := (show ∃ t, u = Value.bytes b t from r); cases e; rfl
  | flt b => obtain ⟨t, e⟩ := (show ∃ t, u = Value.float b t from r); cases e; rfl
  | ref a => cases (show u = Value.ref a from r); rfl
  | ty n => cases (show u = Value.type n from r); rfl

section
variable {P : Program} {w : World} {H H' : Hp} {h h' : Heap} {a C dx : Addr} {fs fs' : List (Str × V)}
theorem ins_get (hok : HOk P w H h) (e : H a = some (.ins C dx fs)) : ∃ mA, ObjM h a dx C mA ∧ (∀ f, RelO (fs.lookup f) (mA f)) ∧ PySem.Within mA (fs.map (·.1)) ∧ fs.length ≤ 1000 ∧ H dx = some (.own a) := by
  obtain ⟨d, z, ne, ob, mA, n, r, q⟩ := (show ObjOk P w H h a (.ins C dx fs) from hok a _ e)
  exact ⟨mA, ⟨ob, n, ne⟩, r, q, z, d⟩
end

/-! ### what of the text a class must have -/
structure Cls (K : PySem.W.Frag) (C : Addr) : Prop where
  pg : PySem.W.plainGet K C Str.empty = true
  hd : PySem.W.hasDictIn K C = true
  po : PySem.W.plainOver K C = true
  sa : PySem.W.findIn K (.ref C) "__setattr__" = some (some (.builtin "object.__setattr__"))
theorem Cls.get {K : PySem.W.Frag} {C : Addr} (c : Cls K C) (f : Str) : PySem.W.plainGet K C f = true := c.pg
/-- no class of it has the name -/
def NoAttr (K : PySem.W.Frag) (C : Addr) (f : Str) : Prop := PySem.W.findIn K (.ref C) f = some none
theorem NoAttr.taker {K : PySem.W.Frag} {C : Addr} {f : Str} (n : NoAttr K C f) : PySem.W.takerIn K C f = some none := by
  unfold PySem.W.takerIn
  rw [show PySem.W.findIn K (.ref C) f = some none from n]
  rfl
/-- a constant of the class -/
structure Con (K : PySem.W.Frag) (C : Addr) (f : Str) (v : V) (u : Value) : Prop where
  at_ : PySem.W.findIn K (.ref C) f = some (some u)
  rel : RelV v u
  get : PySem.W.specialIn K u "__get__" = some none
  cp : PySem.W.copiedNames.contains f = false
/-- a method: a plain def of the class or of one above it -/
structure Meth (K : PySem.W.Frag) (C : Addr) (m : Str) (f : Addr) : Prop where
  at_ : PySem.W.findIn K (.ref C) m = some (some (.ref f))
  fn : PySem.W.isFn K (.ref f) = true
  kp : PySem.W.keepIn K (.ref f) = true

section
variable {X : Cx} {pins : List (Addr × Obj)} {σ : St} {H : Hp} {s : Shared} {a C dx : Addr} {fs : List (Str × V)} {f : Str} {v : V} {A : Around} {E : Value → Shared → Prop}

theorem getattr_ok {b : Bool} {Q : Value → Shared → Prop} (I : Inv X pins σ H s) (e : H a = some (.ins C dx fs)) (c : Cls X.K C) (n : NoAttr X.K C f) (l : fs.lookup f = some v)
    (h : ∀ u s', Inv X pins σ H s' → RelV v u → Q u s') : wpAny (model X.prog X.w) A (getAttr (.ref a) f b) Q E s := by
  obtain ⟨mA, O, r, _, _, _⟩ := ins_get I.hok e
  obtain ⟨u, hu, ru⟩ := RelO.some_of (v := v) (o := mA f) (by rw [← l]; exact r f)
  exact get_map I.kIn O (c.get f) c.hd n hu (handed_of ru) (h u _ (I.tok _) ru)

theorem getcon_ok {b : Bool} {u : Value} {Q : Value → Shared → Prop} (I : Inv X pins σ H s) (e : H a = some (.ins C dx fs)) (c : Cls X.K C) (k : Con X.K C f v u) (l : fs.lookup f = none)
    (h : ∀ s', Inv X pins σ H s' → Q u s') : wpAny (model X.prog X.w) A (getAttr (.ref a) f b) Q E s := by
  obtain ⟨mA, O, r, _, _, _⟩ := ins_get I.hok e
  have hn : mA f = none := RelO.none_of (by rw [← l]; exact r f)
  exact get_const I.kIn O (c.get f) c.hd k.at_ k.get k.cp hn (handed_of k.rel) (h _ (I.tok _))

theorem getmeth_ok {m : Str} {g : Addr} {pl : Sem Bool} {Q : Value × List Value → Shared → Prop} (I : Inv X pins σ H s) (e : H a = some (.ins C dx fs)) (c : Cls X.K C) (k : Meth X.K C m g) (l : fs.lookup m = none)
    (h : Q (.ref g, [.ref a]) s) : wpAny (model X.prog X.w) A (getMethod (.ref a) m pl) Q E s := by
  obtain ⟨mA, O, r, _, _, _⟩ := ins_get I.hok e
  have hn : mA m = none := RelO.none_of (by rw [← l]; exact r m)
  exact get_meth I.kIn O (c.get m) k.at_ k.fn hn h

theorem setattr_ok {y : V} {u : Value} {Q : Unit → Shared → Prop} (I : Inv X pins σ H s) (e : H a = some (.ins C dx fs)) (c : Cls X.K C) (n : NoAttr X.K C f) (hl : fs.length < 1000) (ry : RelV y u)
    (h : ∀ s', Inv X pins σ (upd H a (.ins C dx (putF f y fs))) s' → Q () s') : wpAny (model X.prog X.w) A (setAttr (.ref a) f u) Q E s := by
  obtain ⟨mA, O, r, wi, _, ho⟩ := ins_get I.hok e
  have hz : (fs.map (·.1)).length ≤ sizeLine := by rw [List.length_map, sizeLine_eq]; omega
  refine set_map I.kIn O c.sa c.po n.taker c.hd wi hz fun h' O' sb => h _ ?_
  have hd : ∃ o, h'.get? dx = some o := let ⟨o, _, _, e', _⟩ := O'.ns; ⟨o, e'⟩
  refine I.write (x := a) (e := dx) (by rw [e]; exact True.intro) (.inr ho) (fun b q hb z => (sb.2 b hb).trans z) hd ?_
  refine ⟨by rw [upd_ne O.ne]; exact ho, ?_, O.ne, O'.obj, _, O'.ns, fun g => ?_, fun g hg => ?_⟩
  · have := length_putF f y fs; omega
  · show RelO ((putF f y fs).lookup g) (if g = f then some u else mA g)
    rw [lookup_putF]
    by_cases q : g = f
    · rw [if_pos q, if_pos q]; exact ry
    · rw [if_neg q, if_neg q]; exact r g
  · by_cases q : g = f
    · rw [q]; exact (keys_putF f y fs).1
    · refine (keys_putF f y fs).2 g (wi g fun z => hg ?_)
      show (if g = f then some u else mA g) = none
      rw [if_neg q]; exact z

/-- a new instance, tracked, without attributes -/
theorem Inv.made (I : Inv X pins σ H s) : Inv X pins σ (upd (upd H s.heap.objs.size (.own (s.heap.objs.size + 1))) (s.heap.objs.size + 1) (.ins C s.heap.objs.size []))
    { s with heap := (s.heap.push PySem.W.emptyDict).push (PySem.W.instObj C s.heap.objs.size) } := by
  have e1 : (s.heap.push PySem.W.emptyDict).get? s.heap.objs.size = some PySem.W.emptyDict := Heap.get?_push_size s.heap rfl
  have e2 : ((s.heap.push PySem.W.emptyDict).push (PySem.W.instObj C s.heap.objs.size)).get? (s.heap.objs.size + 1) = some (PySem.W.instObj C s.heap.objs.size) := by
    have := Heap.get?_push_size (s.heap.push PySem.W.emptyDict) (o := PySem.W.instObj C s.heap.objs.size) rfl
    rwa [Heap.size_push] at this
  have e3 : (s.heap.push PySem.W.emptyDict).Ns s.heap.objs.size (fun _ => none) := ⟨PySem.W.emptyDict, #[], _, e1, rfl, (fun e he => absurd he (by simp)), fun _ => rfl⟩
  have I1 := I.laid (a := s.heap.objs.size) (o := .own (s.heap.objs.size + 1)) (h' := s.heap.push PySem.W.emptyDict) (t' := s.toks) (fun b u q => Heap.get?_push_of_some _ q) (Nat.le_refl _) ⟨_, e1⟩
  refine I1.laid (a := s.heap.objs.size + 1) (o := .ins C s.heap.objs.size []) (t' := s.toks) (fun b u q => Heap.get?_push_of_some _ q) (Nat.le_of_eq (Heap.size_push _ _)) ?_
  have ne : s.heap.objs.size ≠ s.heap.objs.size + 1 := Nat.ne_of_lt (Nat.lt_succ_self _)
  refine ⟨by rw [upd_ne ne, upd_same], Nat.zero_le _, ne, e2, fun _ => none, (Heap.Ns1.of_empty e3).at fun o q => Heap.get?_push_of_some _ q, fun _ => True.intro, fun y hy => absurd rfl hy⟩

/-- e.f where nothing but the object is asked: through attributeBase (super) and the last hold -/
theorem attr_of {prog : Program} {w : World} {env : Env} {e : Expr} {f : Str} {pos : Pos} {s : Shared} {Q : Value → Shared → Prop} (hb : attributeBase e f env (eval e env) = eval e env)
    (h : wpAny (model prog w) A (eval e env) (fun o s₁ => wpAny (model prog w) A (getAttr o f true) Q E s₁) E s) : wpAny (model prog w) A (eval (.Attribute e f pos) env) Q E s :=
  Attribute_any_ h (by rw [arm_eval_Attribute, hb])
end

/-! ### readings and rules -/
/-- e.f, an attribute of the instance -/
def tFld (K : PySem.W.Frag) (ta : TE) (f : Str) : TE := fun σ H Q => ta σ H fun x H1 => ∃ a C dx fs v, x = .ref a ∧ H1 a = some (.ins C dx fs) ∧ Cls K C ∧ NoAttr K C f ∧ fs.lookup f = some v ∧ Q v H1
/-- e.f, a constant of the class -/
def tCon (K : PySem.W.Frag) (ta : TE) (f : Str) : TE := fun σ H Q => ta σ H fun x H1 => ∃ a C dx fs v u, x = .ref a ∧ H1 a = some (.ins C dx fs) ∧ Cls K C ∧ Con K C f v u ∧ fs.lookup f = none ∧ Q v H1
/-- e.f = value -/
def sFld (K : PySem.W.Frag) (ta tv : TE) (f : Str) : TS := fun D σ H => tv σ H fun y H1 => ta σ H1 fun x H2 => ∃ a C dx fs, x = .ref a ∧ H2 a = some (.ins C dx fs) ∧ Cls K C ∧ NoAttr K C f ∧ fs.length < 1000 ∧
  D.nx σ (upd H2 a (.ins C dx (putF f y fs)))
/-- an augmented operator on two values -/
def InOp (X : Cx) (op : Operator) (rd : V → V → Hp → VK → Prop) : Prop :=
  ∀ (pins : List (Addr × Obj)) (s : Shared) (σ : St) (H : Hp) (x y : V) (u v : Value) (Q : VK), Inv X pins σ H s → RelV x u → RelV y v → rd x y H Q → wpAny (model X.prog X.w) X.A (inplaceOp op u v) (EP X pins σ Q) X.xe s
/-- e.f op= value -/
def sFldAug (K : PySem.W.Frag) (ta tv : TE) (rd : V → V → Hp → VK → Prop) (f : Str) : TS := fun D σ H => ta σ H fun x H1 => ∃ a C dx fs v, x = .ref a ∧ H1 a = some (.ins C dx fs) ∧ Cls K C ∧ NoAttr K C f ∧ fs.lookup f = some v ∧
  tv σ H1 fun y H2 => rd v y H2 fun z H3 => ∃ dx' fs', H3 a = some (.ins C dx' fs') ∧ fs'.length < 1000 ∧ D.nx σ (upd H3 a (.ins C dx' (putF f z fs')))

section
variable {X : Cx} {o e value : Expr} {f : Str} {pos pos' tpos : Pos} {ta tv : TE}
theorem pe_fld (he : PE X e ta) (hb : attributeBase e f X.env (eval e X.env) = eval e X.env) : PE X (.Attribute e f pos) (tFld X.K ta f) := by
  intro pins s σ H Q I h
  refine attr_of hb (thn (he pins s σ H _ I h) fun u s1 ⟨x, H1, I1, rx, a, C, dx, fs, v, ex, ea, c, n, l, q⟩ => ?_)
  subst ex
  obtain rfl : u = Value.ref a := rx
  exact getattr_ok I1 ea c n l fun u' s2 I2 ru => ⟨v, H1, I2, ru, q⟩
theorem pe_con (he : PE X e ta) (hb : attributeBase e f X.env (eval e X.env) = eval e X.env) : PE X (.Attribute e f pos) (tCon X.K ta f) := by
  intro pins s σ H Q I h
  refine attr_of hb (thn (he pins s σ H _ I h) fun u s1 ⟨x, H1, I1, rx, a, C, dx, fs, v, u0, ex, ea, c, k, l, q⟩ => ?_)
  subst ex
  obtain rfl : u = Value.ref a := rx
  exact getcon_ok I1 ea c k l fun s2 I2 => ⟨v, H1, I2, k.rel, q⟩
theorem ps_fld (ha : PE X o ta) (hv : PE X value tv) (hs : swapsWith value (some (.Attribute o f pos')) pos.line X.env = pure false) : PS X (.Assign [.Attribute o f pos'] value pos) (sFld X.K ta tv f) := by
  intro pins s σ H D I h
  refine plainObj_wpAny_Assign_Attribute (thn (hv pins s σ H _ I h) fun u s1 ⟨y, H1, I1, ry, q⟩ => thn (ha pins s1 σ H1 _ I1 q) fun ov s2 ⟨x, H2, I2, rx, a, C, dx, fs, ex, ea, c, n, l, q2⟩ => ?_) hs
  subst ex
  obtain rfl : ov = Value.ref a := rx
  exact setattr_ok I2 ea c n l ry fun s3 I3 => ⟨σ, _, I3, q2⟩
theorem ps_fldaug {op : Operator} {rd : V → V → Hp → VK → Prop} (ha : PE X o ta) (hv : PE X value tv) (hop : InOp X op rd) : PS X (.AugAssign (.Attribute o f tpos) op value pos) (sFldAug X.K ta tv rd f) := by
  intro pins s σ H D I h
  refine wpAny_AugAssign_AttributeAny (thn (ha pins s σ H _ I h) fun ov s1 ⟨x, H1, I1, rx, a, C, dx, fs, v, ex, ea, c, n, l, q⟩ => ?_)
  subst ex
  obtain rfl : ov = Value.ref a := rx
  refine getattr_ok I1 ea c n l fun u s2 I2 ru => thn (hv pins s2 σ H1 _ I2 q) fun w3 s3 ⟨y, H2, I3, ry, q3⟩ => thn (hop pins s3 σ H2 v y u w3 _ I3 ru ry q3) fun w4 s4 ⟨z, H3, I4, rz, dx', fs', ea', l', q4⟩ => ?_
  exact setattr_ok I4 ea' c n l' rz fun s5 I5 => ⟨σ, _, I5, q4⟩
def rAdd : V → V → Hp → VK → Prop := fun x y H Q => ∃ i j, x = .int i ∧ y = .int j ∧ Q (.int (i + j)) H
def rSub : V → V → Hp → VK → Prop := fun x y H Q => ∃ i j, x = .int i ∧ y = .int j ∧ Q (.int (i - j)) H
theorem in_add : InOp X .Add rAdd := by
  rintro pins s σ H x y u v Q I rx ry ⟨i, j, rfl, rfl, q⟩
  obtain ⟨t, rfl⟩ := (show ∃ t, u = Value.int i t from rx)
  obtain ⟨t', rfl⟩ := (show ∃ t', v = Value.int j t' from ry)
  exact PyProof.Rows.iadd_int ⟨.int (i + j), H, I.tok _, ⟨_, rfl⟩, q⟩
theorem in_sub : InOp X .Sub rSub := by
  rintro pins s σ H x y u v Q I rx ry ⟨i, j, rfl, rfl, q⟩
  obtain ⟨t, rfl⟩ := (show ∃ t, u = Value.int i t from rx)
  obtain ⟨t', rfl⟩ := (show ∃ t', v = Value.int j t' from ry)
  exact PyProof.Rows.isub_int ⟨.int (i - j), H, I.tok _, ⟨_, rfl⟩, q⟩

/-- what is between an instance and its method: the tree of a method call -/
theorem methcall_of {pl : Sem Bool} {m : Str} {apos : Pos} {args : List Expr} {pins : List (Addr × Obj)} {s : Shared} {σ : St} {H : Hp} {Q : Value → Shared → Prop} {te : TE} (he : PE X e te) (I : Inv X pins σ H s)
    (h : te σ H fun x H1 => ∃ a C dx fs g, x = .ref a ∧ H1 a = some (.ins C dx fs) ∧ Cls X.K C ∧ Meth X.K C m g ∧ fs.lookup m = none ∧
      ∀ s1, Inv X pins σ H1 s1 → wpAny (model X.prog X.w) X.A (callWith pos (.ref g) [.ref a] (backTo pos (starEach args X.env)) (backToKw pos (keywordEach [] X.env))) Q X.xe s1)
    (ht : eval (.Call (.Attribute e m apos) args [] pos) X.env = (do
      let ov ← eval e X.env
      standAt apos.atName
      let (f, first) ← holding [ov] (getMethod ov m pl)
      callWith pos f first (backTo pos (starEach args X.env)) (backToKw pos (keywordEach [] X.env)))) :
    wpAny (model X.prog X.w) X.A (eval (.Call (.Attribute e m apos) args [] pos) X.env) Q X.xe s := by
  refine PySem.W.methodCall_KW (pl := pl) (thn (he pins s σ H _ I h) fun u s1 ⟨x, H1, I1, rx, a, C, dx, fs, g, ex, ea, c, k, l, q⟩ => ?_) ht
  subst ex
  obtain rfl : u = Value.ref a := rx
  exact getmeth_ok I1 ea c k l (q s1 I1)
end

/-! ### isinstance -/
section
variable {X : Cx} {pins : List (Addr × Obj)} {σ : St} {H : Hp} {s : Shared} {A : Around} {E : Value → Shared → Prop} {Q : Value → Shared → Prop} {c : Value} {b : Bool}
/-- the type of a value, as the fragment's deciders take it; for an instance its class -/
inductive TyOf (K : PySem.W.Frag) (H : Hp) : V → Value → Prop where
  | non : TyOf K H .non (.type "NoneType")
  | bl (x : Bool) : TyOf K H (.bl x) (.type "bool")
  | int (i : Int) : TyOf K H (.int i) (.type "int")
  | str (x : Str) : TyOf K H (.str x) (.type "str")
  | flt (x : UInt64) : TyOf K H (.flt x) (.type "float")
  | lst {a : Addr} {xs : List V} (e : H a = some (.lst xs)) : TyOf K H (.ref a) (.type "list")
  | frz {a : Addr} {o : Obj} {xs : List V} (e : H a = some (.frz o (.lst xs))) : TyOf K H (.ref a) (.type "list")
  | tup {a : Addr} {xs : List V} (e : H a = some (.tup xs)) : TyOf K H (.ref a) (.type "tuple")
  | dK {a : Addr} {kvs : List (Key × V)} (e : H a = some (.dK kvs)) : TyOf K H (.ref a) (.type "dict")
  | dT {a : Addr} {kvs : List (List Key × V)} (e : H a = some (.dT kvs)) : TyOf K H (.ref a) (.type "dict")
  | ins {a C dx : Addr} {fs : List (Str × V)} (e : H a = some (.ins C dx fs)) (cl : Cls K C) (ha : PySem.W.findIn K (.ref C) "__class__" = some (some (.builtin "object.__class__")))
      (hn : PySem.W.specialIn K (.builtin "object.__class__") "__get__" = some (some (.builtin "getset_descriptor.__get__"))) (htk : PySem.W.takesIn K (.builtin "object.__class__") = some true)
      (hm : PySem.W.mroIn K C (.type "object") = some true) : TyOf K H (.ref a) (.ref C)
/-- isinstance(x, c) for one class c, a built-in or an own one: kitOne's answer -/
theorem isinst_ok {x : V} {u t : Value} (I : Inv X pins σ H s) (rx : RelV x u) (ty : TyOf X.K H x t) (e : PySem.W.kitOne X.K t c = some b) (h : ∀ tk, Q (.bool b) { s with toks := tk }) :
    wpAny (model X.prog X.w) A (call (.builtin "isinstance") [u, c]) Q E s := by
  cases ty with
  | non => cases (show u = Value.none from rx); exact PySem.W.kia_one PySem.W.kitx_none I.kIn True.intro e (fun z => nomatch z) h
  | bl y => cases (show u = Value.bool y from rx); exact PySem.W.kia_one PySem.W.kitx_bool I.kIn True.intro e (fun z => nomatch z) h
  | int i => obtain ⟨t, q⟩ := (show ∃ t, u = Value.int i t from rx); cases q; exact PySem.W.kia_one PySem.W.kitx_int I.kIn True.intro e (fun z => nomatch z) h
  | str y => obtain ⟨t, q⟩ := (show ∃ t, u = Value.str y t from rx); cases q; exact PySem.W.kia_one PySem.W.kitx_str I.kIn True.intro e (fun z => nomatch z) h
  | flt y => obtain ⟨t, q⟩ := (show ∃ t, u = Value.float y t from rx); cases q; exact PySem.W.kia_one PySem.W.kitx_float I.kIn True.intro e (fun z => nomatch z) h
  | @lst a xs ea =>
    cases (show u = Value.ref a from rx)
    obtain ⟨_, _, n, _, h1⟩ := (show ObjOk X.prog X.w H s.heap a (.lst xs) from I.hok a _ ea)
    exact PySem.W.kia_one PySem.W.kitx_list I.kIn ⟨_, h1, rfl⟩ e (fun z => nomatch z) h
  | @frz a ob xs ea =>
    cases (show u = Value.ref a from rx)
    obtain ⟨_, _, _, n, _, h1⟩ := (show ObjOk X.prog X.w H s.heap a (.frz ob (.lst xs)) from I.hok a _ ea)
    exact PySem.W.kia_one PySem.W.kitx_list I.kIn ⟨_, h1, rfl⟩ e (fun z => nomatch z) h
  | @tup a xs ea =>
    cases (show u = Value.ref a from rx)
    obtain ⟨_, _, _, p⟩ := (show ObjOk X.prog X.w H s.heap a (.tup xs) from I.hok a _ ea)
    obtain ⟨o, h1, h2, _⟩ := p
    exact PySem.W.kia_one PySem.W.kitx_tuple I.kIn ⟨o, h1, h2⟩ e (fun z => nomatch z) h
  | @dK a kvs ea =>
    cases (show u = Value.ref a from rx)
    obtain ⟨_, _, vs, _, p⟩ := (show ObjOk X.prog X.w H s.heap a (.dK kvs) from I.hok a _ ea)
    obtain ⟨o, es, ep, h1, h2, _⟩ := p
    exact PySem.W.kia_one PySem.W.kitx_dict I.kIn ⟨o, h1, h2.1⟩ e (fun z => nomatch z) h
  | @dT a kvs ea =>
    cases (show u = Value.ref a from rx)
    obtain ⟨_, _, xs, _, o, es, ep, h1, h2, _⟩ := (show ObjOk X.prog X.w H s.heap a (.dT kvs) from I.hok a _ ea)
    exact PySem.W.kia_one PySem.W.kitx_dict I.kIn ⟨o, h1, h2.1⟩ e (fun z => nomatch z) h
  | @ins a C dx fs ea cl ha hn htk hm =>
    cases (show u = Value.ref a from rx)
    obtain ⟨mA, O, _⟩ := ins_get I.hok ea
    obtain ⟨od, J, _⟩ := O.look
    exact PySem.W.kia_one (PySem.W.kitx_own (cl.get _) cl.hd ha hn htk hm) I.kIn J e (fun z => nomatch z) h
end
end L2

namespace L2
open PySem PySem.Spec PyProof.Rows

/-! ### room -/
structure Room (k : Nat) (A : Around) : Prop where
  hd : A.handled = none
  dp : A.depth + 3 * k + 5 < recursionLimit
  un : A.units + 16 * k + 200 < cLine
theorem Room.mono {j k : Nat} {A : Around} (r : Room k A) (h : j ≤ k) : Room j A := ⟨r.hd, by have := r.dp; omega, by have := r.un; omega⟩
theorem Room.deeper {k : Nat} {A : Around} (r : Room (k + 1) A) (env : Env) : Room k (A.deeper env) :=
  ⟨r.hd, by have := r.dp; show A.depth + 1 + 3 * k + 5 < _; omega, by have := r.un; show A.units + 3 + 16 * k + 200 < _; omega⟩
theorem Room.in1 {k : Nat} {A : Around} (r : Room (k + 1) A) : Room k A.in1 :=
  ⟨r.hd, by have := r.dp; show A.depth + 3 * k + 5 < _; omega, by have := r.un; show A.units + 1 + 16 * k + 200 < _; omega⟩
theorem make_depth {A : Around} {C : Addr} {us : List Value} {kw : List (Str × Value)} : (A.under (.builtin "type.__call__" ⟨.ref C :: us, kw⟩)).depth = A.depth + 1 := by
  first | rfl | simp [Around.under, Code.weight, Code.isCreation, Code.isGuard, Code.isCaller, Code.frames, Code.isFrame, guardIds]
theorem make_units {A : Around} {C : Addr} {us : List Value} {kw : List (Str × Value)} : (A.under (.builtin "type.__call__" ⟨.ref C :: us, kw⟩)).units = A.units + 1 := by
  first | rfl | simp [Around.under, Code.cUnits, Code.frames, Code.isFrame]
theorem Room.make {k : Nat} {A : Around} (r : Room (k + 1) A) (C : Addr) (us : List Value) (kw : List (Str × Value)) : Room k (A.under (.builtin "type.__call__" ⟨.ref C :: us, kw⟩)) :=
  ⟨r.hd, by have := r.dp; rw [make_depth]; omega, by have := r.un; rw [make_units]; omega⟩
theorem Room.depth {k : Nat} {A : Around} (r : Room k A) : A.depth < recursionLimit := by have := r.dp; omega
theorem Room.units {k : Nat} {A : Around} (r : Room k A) : A.units + 64 < cLine := by have := r.un; omega
theorem Room.units0 {k : Nat} {A : Around} (r : Room k A) : A.units < cLine := by have := r.un; omega

/-! ### argument lists and displays -/
def tNil : TA := fun _ H Q => Q [] H
def tCons (ta : TE) (tr : TA) : TA := fun σ H Q => ta σ H fun x H1 => tr σ H1 fun xs H2 => Q (x :: xs) H2
section
variable {X : Cx} {e : Expr} {es : List Expr} {te : TE} {t : TA} {pos : Pos}
theorem pa_nil : PA X [] tNil := fun _ _ _ _ H Q I h => Calls.spliced_nil ⟨[], H, I, .nil, h⟩
theorem pa_cons (ha : PE X e te) (hr : PA X es t) (hs : starEach (e :: es) X.env = (false, eval e X.env) :: starEach es X.env := by rfl) : PA X (e :: es) (tCons te t) := by
  intro pos pins s σ H Q I h
  rw [hs]
  show wpAny _ _ (spliced ((false, eval e X.env) :: backTo pos (starEach es X.env))) _ _ s
  refine Calls.spliced_cons (thn (ha pins s σ H _ I h) fun u s1 ⟨x, H1, I1, r1, q1⟩ => ?_)
  exact thn (hr pos pins s1 σ H1 _ I1 q1) fun us s2 ⟨xs, H2, I2, r2, q2⟩ => ⟨x :: xs, H2, I2, .cons r1 r2, q2⟩

/-- a tuple, a list of written items -/
def tTup (t : TA) : TE := fun σ H Q => t σ H fun xs H1 => xs.length ≤ sizeLine ∧ ∀ p, H1 p = none → Q (.ref p) (upd H1 p (.tup xs))
def tLst (t : TA) : TE := fun σ H Q => t σ H fun xs H1 => xs.length ≤ sizeLine ∧ ∀ p, H1 p = none → Q (.ref p) (upd H1 p (.lst xs))
theorem pe_tup {x1} (h : PA X es t) : PE X (.Tuple es x1 pos) (tTup t) := by
  intro pins s σ H Q I hq
  refine wpAny_Tuple_spliced (thn (h pos pins s σ H _ I hq) fun us s1 ⟨xs, H1, I1, r, z, q⟩ => ⟨by rw [← r.length]; exact z, ?_⟩)
  have hf : H1 s1.heap.objs.size = none := I1.hok.fresh (Nat.le_refl _)
  refine ⟨.ref s1.heap.objs.size, upd H1 s1.heap.objs.size (.tup xs), I1.laid (t' := s1.toks) (fun b u e => Heap.get?_push_of_some _ e) (Nat.le_refl _) ?_, rfl, q _ hf⟩
  exact ⟨z, us, r, ⟨_, Heap.get?_push_size _ rfl, rfl, _, rfl⟩⟩
theorem pe_lst (h : PA X es t) : PE X (.List es pos) (tLst t) := by
  intro pins s σ H Q I hq
  refine wpAny_List_spliced (thn (h pos pins s σ H _ I hq) fun us s1 ⟨xs, H1, I1, r, z, q⟩ => ⟨by rw [← r.length]; exact z, ?_⟩)
  have hf : H1 s1.heap.objs.size = none := I1.hok.fresh (Nat.le_refl _)
  refine ⟨.ref s1.heap.objs.size, upd H1 s1.heap.objs.size (.lst xs), I1.laid (t' := s1.toks) (fun b u e => Heap.get?_push_of_some _ e) (Nat.le_refl _) ?_, rfl, q _ hf⟩
  exact ⟨z, us, 0, r, Heap.get?_push_size _ rfl⟩
end

/-! ### what a def promises -/
/-- a def's promise: the bound arguments in the parameters' order, the heap, the wanted end, the wanted exception -/
abbrev Sp := List V → Hp → VK → XK → Prop
/-- how an exception lies behind a call (file 08 gives it): the callers' frames, abstract heap and state ahead of the call, the wish, the exception, the state -/
abbrev CXT := List Env → Hp → Shared → XK → Value → Shared → Prop

/-- the state at a call -/
structure Env0 (P : Program) (w : World) (K : PySem.W.Frag) (mg : Str → Option Value) (base : Heap) (A : Around) (outer : List Env) (s : Shared) (H : Hp) : Prop where
  frames : A.frames = some outer
  mod : Mod K mg base
  bs : ∀ b o, base.get? b = some o → s.heap.get? b = some o ∧ H b = none
  bsz : base.objs.size ≤ s.heap.objs.size
  funs : s.heap.FunFrames base outer
  frf : ∀ b ∈ frs outer, H b = none
  hok : HOk P w H s.heap
  bare : AllBare s.gens
/-- a call's end -/
def CE (outer : List Env) (P : Program) (w : World) (H : Hp) (s : Shared) (Q : VK) (u : Value) (s' : Shared) : Prop :=
  ∃ v H', s'.os = s.os ∧ AllBare s'.gens ∧ Un (frs outer) [] H H' s.heap s'.heap ∧ HOk P w H' s'.heap ∧ RelV v u ∧ Q v H'
def CR (CX : CXT) (outer : List Env) (P : Program) (w : World) (H : Hp) (s : Shared) (Q : VK) (E : XK) (r : Result) (s' : Shared) : Prop :=
  match r with
  | .ok (.ret u) => CE outer P w H s Q u s'
  | .ok _ => False
  | .error e => CX outer H s E e s'
structure FnOk (P : Program) (w : World) (K : PySem.W.Frag) (mg : Str → Option Value) (base : Heap) (CX : CXT) (k : Nat) (f : Addr) (fd : FuncData) (ps : List Str) (sp : Sp) : Prop where
  len : ∀ vs H Q E, sp vs H Q E → vs.length = ps.length
  run : ∀ (A : Around) (outer : List Env) (s : Shared) (H : Hp) (args : Args) (us : List Value) (vs : List V) (Q : VK) (E : XK), Room k A → Env0 P w K mg base A outer s H → BindsTo s fd args (ps.zip us) → Vals vs us → sp vs H Q E →
    codeAny (model P w) A (.call (.ref f) args) (CR CX outer P w H s Q E) s
theorem FnOk.mono {P : Program} {w : World} {K : PySem.W.Frag} {mg : Str → Option Value} {base : Heap} {CX : CXT} {j k : Nat} {f : Addr} {fd : FuncData} {ps : List Str} {sp : Sp} (F : FnOk P w K mg base CX j f fd ps sp) (h : j ≤ k) :
    FnOk P w K mg base CX k f fd ps sp := ⟨F.len, fun A outer s H args us vs Q E hr => F.run A outer s H args us vs Q E (hr.mono h)⟩
/-- a weaker promise -/
theorem FnOk.imp {P : Program} {w : World} {K : PySem.W.Frag} {mg : Str → Option Value} {base : Heap} {CX : CXT} {k : Nat} {f : Addr} {fd : FuncData} {ps : List Str} {sp sp' : Sp} (F : FnOk P w K mg base CX k f fd ps sp)
    (h : ∀ vs H Q E, sp' vs H Q E → sp vs H Q E) : FnOk P w K mg base CX k f fd ps sp' :=
  ⟨fun vs H Q E q => F.len vs H Q E (h _ _ _ _ q), fun A outer s H args us vs Q E hr he hb hv hs => F.run A outer s H args us vs Q E hr he hb hv (h _ _ _ _ hs)⟩

theorem Env0.make {P : Program} {w : World} {K : PySem.W.Frag} {mg : Str → Option Value} {base : Heap} {A : Around} {outer : List Env} {s : Shared} {H : Hp} (e : Env0 P w K mg base A outer s H) (C : Addr) (us : List Value) (kw : List (Str × Value)) :
    Env0 P w K mg base (A.under (.builtin "type.__call__" ⟨.ref C :: us, kw⟩)) outer s H := ⟨by first | exact e.frames | (simpa [Around.under, Code.envs, Code.isFrame, pushEnvs] using e.frames), e.mod, e.bs, e.bsz, e.funs, e.frf, e.hok, e.bare⟩
theorem Env0.in1 {P : Program} {w : World} {K : PySem.W.Frag} {mg : Str → Option Value} {base : Heap} {A : Around} {outer : List Env} {s : Shared} {H : Hp} (e : Env0 P w K mg base A outer s H) :
    Env0 P w K mg base A.in1 outer s H := ⟨e.frames, e.mod, e.bs, e.bsz, e.funs, e.frf, e.hok, e.bare⟩

section
variable {X : Cx} {pins : List (Addr × Obj)} {σ : St} {H : Hp} {s s' : Shared}
/-- from a body: what a callee wants -/
theorem Inv.env0 (I : Inv X pins σ H s) : Env0 X.prog X.w X.K X.mg X.base X.A X.stack s H :=
  ⟨I.ok.frames, I.ok.mod, I.bs, Nat.le_trans I.ok.bsz I.sz, I.stack, I.stkFree, I.hok, I.bare⟩
/-- behind a call -/
theorem Inv.after {Q : VK} {u : Value} (I : Inv X pins σ H s) (h : CE X.stack X.prog X.w H s Q u s') : EP X pins σ Q u s' := by
  obtain ⟨v, H', os, bare, un, hok, r, q⟩ := h
  obtain ⟨hh, g, d, t, os'⟩ := s'
  obtain rfl : os' = s.os := os
  exact ⟨v, H', I.call (h' := hh) (g' := g) (d' := d) (t' := t) (ch := []) un hok bare (fun b z => absurd z (by simp)), r, q⟩
end

/-! ### calls -/
/-- f(..): the written arguments, then the defaults dvs; E: what is wanted of an exception -/
def tCall (sp : Sp) (dvs : List V) (E : XK) (t : TA) : TE := fun σ H Q => t σ H fun vs H1 => sp (vs ++ dvs) H1 Q E
/-- o.m(..) of an instance of the class at C -/
def tMeth (C : Addr) (m : Str) (sp : Sp) (dvs : List V) (E : XK) (ta : TE) (t : TA) : TE := fun σ H Q => ta σ H fun x H1 => ∃ a dx fs, x = .ref a ∧ H1 a = some (.ins C dx fs) ∧ fs.lookup m = none ∧
  t σ H1 fun vs H2 => sp (x :: (vs ++ dvs)) H2 Q E
/-- C(..): a new instance and its dict, then __init__ -/
def tMake (C : Addr) (sp : Sp) (dvs : List V) (E : XK) (t : TA) : TE := fun σ H Q => t σ H fun vs H1 => ∀ x dx, H1 x = none → H1 dx = none → dx ≠ x →
  sp (.ref x :: (vs ++ dvs)) (upd (upd H1 dx (.own x)) x (.ins C dx [])) (fun v H2 => v = .non ∧ Q (.ref x) H2) E

/-- how the parameters are bound: us the positional arguments, kw the keywords' values by name, ds the defaults that fill up -/
def Binds (K : PySem.W.Frag) (fd : FuncData) (ps : List Str) (ds : List Value) : Prop :=
  ∀ (s : Shared) (us : List Value), K.In s.heap → (us ++ ds).length = ps.length → BindsTo s fd ⟨us, []⟩ (ps.zip (us ++ ds))
/-- every parameter is given -/
theorem Binds.all {K : PySem.W.Frag} {fd : FuncData} {ps : List Str} (h : ∀ us : List Value, us.length = ps.length → bindArgs fd ⟨us, []⟩ = pure (ps.zip us)) : Binds K fd ps [] := fun s us _ hl => by
  rw [List.append_nil] at hl ⊢
  exact .of_eq (h us hl)

/-- an exception of a callee reaches what this body wants of exceptions -/
def Passes (CX : CXT) (X : Cx) (E : XK) : Prop := ∀ (pins : List (Addr × Obj)) (σ : St) (H : Hp) (s : Shared) (e : Value) (s' : Shared), Inv X pins σ H s → CX X.stack H s E e s' → X.xe e s'

section
variable {X : Cx} {CX : CXT} {k : Nat} {f C : Addr} {fd : FuncData} {ps : List Str} {sp : Sp} {dvs : List V} {ds : List Value} {E : XK} {x m : Str} {p pos apos : Pos} {e o : Expr} {es : List Expr} {ta : TE} {t : TA}

/-- the callee runs -/
theorem run_fn {pins : List (Addr × Obj)} {σ : St} {H : Hp} {s : Shared} {Q : VK} {us : List Value} {vs : List V} (F : FnOk X.prog X.w X.K X.mg X.base CX k f fd ps sp) (hr : Room k X.A) (hb : Binds X.K fd ps ds) (hd : Vals dvs ds) (hx : Passes CX X E)
    (I : Inv X pins σ H s) (r : Vals vs us) (h : sp (vs ++ dvs) H Q E) : wpAny (model X.prog X.w) X.A (call (.ref f) us) (EP X pins σ Q) X.xe s := by
  have r2 : Vals (vs ++ dvs) (us ++ ds) := r.append hd
  have hl : (us ++ ds).length = ps.length := by rw [← r2.length]; exact F.len _ _ _ _ h
  refine wpAny_call (codeAny_mono (F.run X.A X.stack s H ⟨us, []⟩ (us ++ ds) (vs ++ dvs) Q E hr I.env0 (hb s us I.kIn hl) r2 h) fun r s' hq => ?_)
  cases r with
  | error e => exact hx pins σ H s e s' I hq
  | ok fl =>
    cases fl with
    | ret u => exact I.after hq
    | next => exact False.elim hq
    | brk => exact False.elim hq
    | cont => exact False.elim hq

theorem pe_call (F : FnOk X.prog X.w X.K X.mg X.base CX k f fd ps sp) (hr : Room k X.A) (hg : Gl X x) (hm : X.mg x = some (.ref f)) (hk : PySem.W.keepIn X.K (.ref f) = true) (hb : Binds X.K fd ps ds) (hd : Vals dvs ds) (hx : Passes CX X E)
    (ha : PA X (e :: es) t) (hdb : (x == ("__debug__" : Str)) = false := by decide) (he : starEach (e :: es) X.env = (false, eval e X.env) :: starEach es X.env := by rfl) (hpl : (backTo pos (starEach es X.env)).any (·.1) = false := by rfl) :
    PE X (.Call (.Name x p) (e :: es) [] pos) (tCall sp dvs E t) := by
  intro pins s σ H Q I h
  refine wpAny_Call_Name_kw (ld_glob I hg hm ?_ hdb)
  refine PySem.W.callWith_K (h₀ := X.base) I.ok.mod.kin hk (thn (ha pos pins s σ H _ I h) fun us s1 ⟨vs, H1, I1, r, q⟩ => ⟨I1.kIn, ?_⟩) he hpl
  exact run_fn F hr hb hd hx I1 r q
theorem pe_call0 (F : FnOk X.prog X.w X.K X.mg X.base CX k f fd ps sp) (hr : Room k X.A) (hg : Gl X x) (hm : X.mg x = some (.ref f)) (hk : PySem.W.keepIn X.K (.ref f) = true) (hb : Binds X.K fd ps ds) (hd : Vals dvs ds) (hx : Passes CX X E)
    (hdb : (x == ("__debug__" : Str)) = false := by decide) : PE X (.Call (.Name x p) [] [] pos) (tCall sp dvs E tNil) := by
  intro pins s σ H Q I h
  refine wpAny_Call_Name_kw (ld_glob I hg hm ?_ hdb)
  exact PySem.W.callWith_K0 I.kIn hk (run_fn (us := []) F hr hb hd hx I .nil h)

/-- o.m(e, ..) -/
theorem pe_meth {pl : Sem Bool} (he : PE X o ta) (c : Cls X.K C) (hm : Meth X.K C m f) (F : FnOk X.prog X.w X.K X.mg X.base CX k f fd ps sp) (hr : Room k X.A) (hb : Binds X.K fd ps ds) (hd : Vals dvs ds) (hx : Passes CX X E) (ha : PA X (e :: es) t)
    (hst : starEach (e :: es) X.env = (false, eval e X.env) :: starEach es X.env := by rfl) (hpl : (backTo pos (starEach es X.env)).any (·.1) = false := by rfl)
    (ht : eval (.Call (.Attribute o m apos) (e :: es) [] pos) X.env = (do
      let ov ← eval o X.env
      standAt apos.atName
      let (f, first) ← holding [ov] (getMethod ov m pl)
      callWith pos f first (backTo pos (starEach (e :: es) X.env)) (backToKw pos (keywordEach [] X.env))) := by rfl) :
    PE X (.Call (.Attribute o m apos) (e :: es) [] pos) (tMeth C m sp dvs E ta t) := by
  intro pins s σ H Q I h
  refine PySem.W.methodCall_KW (pl := pl) (thn (he pins s σ H _ I h) fun u s1 ⟨x, H1, I1, rx, a, dx, fs, ex, ea, l, q⟩ => ?_) ht
  subst ex
  obtain rfl : u = Value.ref a := rx
  refine getmeth_ok I1 ea c hm l ?_
  refine PySem.W.callWith_K (first := [.ref a]) (h₀ := X.base) I.ok.mod.kin hm.kp (thn (ha pos pins s1 σ H1 _ I1 q) fun us s2 ⟨vs, H2, I2, r, q2⟩ => ⟨I2.kIn, ?_⟩) hst hpl
  exact run_fn (us := .ref a :: us) (vs := .ref a :: vs) F hr hb hd hx I2 (.cons rfl r) q2
/-- o.m() -/
theorem pe_meth0 {pl : Sem Bool} (he : PE X o ta) (c : Cls X.K C) (hm : Meth X.K C m f) (F : FnOk X.prog X.w X.K X.mg X.base CX k f fd ps sp) (hr : Room k X.A) (hb : Binds X.K fd ps ds) (hd : Vals dvs ds) (hx : Passes CX X E)
    (ht : eval (.Call (.Attribute o m apos) [] [] pos) X.env = (do
      let ov ← eval o X.env
      standAt apos.atName
      let (f, first) ← holding [ov] (getMethod ov m pl)
      callWith pos f first (backTo pos (starEach [] X.env)) (backToKw pos (keywordEach [] X.env))) := by rfl) :
    PE X (.Call (.Attribute o m apos) [] [] pos) (tMeth C m sp dvs E ta tNil) := by
  intro pins s σ H Q I h
  refine PySem.W.methodCall_KW (pl := pl) (thn (he pins s σ H _ I h) fun u s1 ⟨x, H1, I1, rx, a, dx, fs, ex, ea, l, q⟩ => ?_) ht
  subst ex
  obtain rfl : u = Value.ref a := rx
  refine getmeth_ok I1 ea c hm l ?_
  exact PySem.W.callWith_K0 (first := [.ref a]) I1.kIn hm.kp (run_fn (us := [.ref a]) (vs := [.ref a]) F hr hb hd hx I1 (.cons rfl .nil) q)

/-- what a class must have to be made -/
structure Mk (K : PySem.W.Frag) (C f : Addr) : Prop where
  makes : PySem.W.makesIn K C = true
  init : PySem.W.findIn K (.ref C) "__init__" = some (some (.ref f))
  fn : PySem.W.isFn K (.ref f) = true
  kp : PySem.W.keepIn K (.ref C) = true

theorem run_make {pins : List (Addr × Obj)} {σ : St} {H : Hp} {s : Shared} {Q : VK} {us : List Value} {vs : List V} (M : Mk X.K C f) (F : FnOk X.prog X.w X.K X.mg X.base CX k f fd ps sp) (hr : Room (k + 1) X.A) (hb : Binds X.K fd ps ds) (hd : Vals dvs ds)
    (hx : Passes CX X E) (I : Inv X pins σ H s) (r : Vals vs us)
    (h : ∀ x dx, H x = none → H dx = none → dx ≠ x → sp (.ref x :: (vs ++ dvs)) (upd (upd H dx (.own x)) x (.ins C dx [])) (fun v H2 => v = .non ∧ Q (.ref x) H2) E) :
    wpAny (model X.prog X.w) X.A (call (.ref C) us) (EP X pins σ Q) X.xe s := by
  have hq := h (s.heap.objs.size + 1) s.heap.objs.size (I.hok.fresh (Nat.le_succ _)) (I.hok.fresh (Nat.le_refl _)) (Nat.ne_of_lt (Nat.lt_succ_self _))
  have I2 := Inv.made (C := C) I
  have r2 : Vals (V.ref (s.heap.objs.size + 1) :: (vs ++ dvs)) (Value.ref (s.heap.objs.size + 1) :: (us ++ ds)) := .cons rfl (r.append hd)
  have hl : (Value.ref (s.heap.objs.size + 1) :: us ++ ds).length = ps.length := by
    have e := r2.length
    rw [F.len _ _ _ _ hq] at e
    exact e.symm
  refine wpAny_call (make_map (f := f) I.kIn M.makes M.init (beq_iff_eq.mp M.fn) (codeAny_mono (F.run _ X.stack _ _ ⟨Value.ref (s.heap.objs.size + 1) :: us, []⟩ (Value.ref (s.heap.objs.size + 1) :: (us ++ ds)) _ _ E (hr.make C us [])
    (I2.env0.make C us []) (hb _ (Value.ref (s.heap.objs.size + 1) :: us) I2.kIn hl) r2 hq) fun r s' hq' => ?_))
  cases r with
  | error e => exact hx pins σ _ _ e s' I2 hq'
  | ok fl =>
    cases fl with
    | ret u =>
      obtain ⟨v, H', I3, rv, ev, q3⟩ := I2.after hq'
      subst ev
      exact ⟨rv, ⟨V.ref (s.heap.objs.size + 1), H', I3, rfl, q3⟩⟩
    | next => exact False.elim hq'
    | brk => exact False.elim hq'
    | cont => exact False.elim hq'
theorem pe_make (M : Mk X.K C f) (F : FnOk X.prog X.w X.K X.mg X.base CX k f fd ps sp) (hr : Room (k + 1) X.A) (hg : Gl X x) (hm : X.mg x = some (.ref C)) (hb : Binds X.K fd ps ds) (hd : Vals dvs ds) (hx : Passes CX X E)
    (ha : PA X (e :: es) t) (hdb : (x == ("__debug__" : Str)) = false := by decide) (he : starEach (e :: es) X.env = (false, eval e X.env) :: starEach es X.env := by rfl) (hpl : (backTo pos (starEach es X.env)).any (·.1) = false := by rfl) :
    PE X (.Call (.Name x p) (e :: es) [] pos) (tMake C sp dvs E t) := by
  intro pins s σ H Q I h
  refine wpAny_Call_Name_kw (ld_glob I hg hm ?_ hdb)
  refine PySem.W.callWith_K (h₀ := X.base) I.ok.mod.kin M.kp (thn (ha pos pins s σ H _ I h) fun us s1 ⟨vs, H1, I1, r, q⟩ => ⟨I1.kIn, ?_⟩) he hpl
  exact run_make M F hr hb hd hx I1 r q
theorem pe_make0 (M : Mk X.K C f) (F : FnOk X.prog X.w X.K X.mg X.base CX k f fd ps sp) (hr : Room (k + 1) X.A) (hg : Gl X x) (hm : X.mg x = some (.ref C)) (hb : Binds X.K fd ps ds) (hd : Vals dvs ds) (hx : Passes CX X E)
    (hdb : (x == ("__debug__" : Str)) = false := by decide) : PE X (.Call (.Name x p) [] [] pos) (tMake C sp dvs E tNil) := by
  intro pins s σ H Q I h
  refine wpAny_Call_Name_kw (ld_glob I hg hm ?_ hdb)
  exact PySem.W.callWith_K0 I.kIn M.kp (run_make (us := []) M F hr hb hd hx I .nil h)
end

/-! ### keywords -/
/-- the values of the keywords, from the left -/
def PK (X : Cx) (kws : List Keyword) (t : TA) : Prop :=
  ∀ (pos : Pos) (pins : List (Addr × Obj)) (s : Shared) (σ : St) (H : Hp) (Q : List V → Hp → Prop), Inv X pins σ H s → t σ H Q → wpAny (model X.prog X.w) X.A (evalAll ((backToKw pos (keywordEach kws X.env)).map (·.2))) (AP X pins σ Q) X.xe s
section
variable {X : Cx} {CX : CXT} {k : Nat} {f C : Addr} {fd : FuncData} {ps ks : List Str} {sp : Sp} {E : XK} {x m : Str} {p pos apos kpos : Pos} {e o : Expr} {es : List Expr} {kws : List Keyword} {te ta : TE} {t tk : TA} {nm : Option Str}
theorem pk_nil : PK X [] tNil := fun _ _ _ _ H Q I h => wpAny_evalAll_nil ⟨[], H, I, .nil, h⟩
theorem pk_cons (ha : PE X e te) (hr : PK X kws t) : PK X (⟨nm, e, kpos⟩ :: kws) (tCons te t) := by
  intro pos pins s σ H Q I h
  show wpAny _ _ (evalAll ((do let v ← eval e X.env; standAt pos; pure v) :: (backToKw pos (keywordEach kws X.env)).map (·.2))) _ _ s
  refine wpAny_evalAll_cons (wpAny_bind (thn (ha pins s σ H _ I h) fun u s1 ⟨x, H1, I1, r1, q1⟩ => wpAny_bind (wpAny_standAt (wpAny_pure ?_))))
  exact thn (hr pos pins s1 σ H1 _ I1 q1) fun us s2 ⟨xs, H2, I2, r2, q2⟩ => ⟨x :: xs, H2, I2, .cons r1 r2, q2⟩

/-- how a call with keywords binds: g puts the positional values us and the keywords' values ws (names ks) in the parameters' order, defaults among them -/
structure KBinds (K : PySem.W.Frag) (fd : FuncData) (ps ks : List Str) (g : List Value → List Value → List Value) (gV : List V → List V → List V) : Prop where
  to : ∀ (s : Shared) (us ws : List Value), K.In s.heap → (g us ws).length = ps.length → BindsTo s fd ⟨us, ks.zip ws⟩ (ps.zip (g us ws))
  rel : ∀ {vs : List V} {us : List Value} {zs : List V} {ws : List Value}, Vals vs us → Vals zs ws → Vals (gV vs zs) (g us ws)
def tCallK (sp : Sp) (gV : List V → List V → List V) (E : XK) (t tk : TA) : TE := fun σ H Q => t σ H fun vs H1 => tk σ H1 fun zs H2 => sp (gV vs zs) H2 Q E
variable {g : List Value → List Value → List Value} {gV : List V → List V → List V}
theorem run_fnk {pins : List (Addr × Obj)} {σ : St} {H : Hp} {s : Shared} {Q : VK} {us ws : List Value} {vs zs : List V} (F : FnOk X.prog X.w X.K X.mg X.base CX k f fd ps sp) (hr : Room k X.A) (hb : KBinds X.K fd ps ks g gV) (hx : Passes CX X E)
    (I : Inv X pins σ H s) (r : Vals vs us) (rz : Vals zs ws) (h : sp (gV vs zs) H Q E) : wpAny (model X.prog X.w) X.A (call (.ref f) us (ks.zip ws)) (EP X pins σ Q) X.xe s := by
  have r2 := hb.rel r rz
  have hl : (g us ws).length = ps.length := by rw [← r2.length]; exact F.len _ _ _ _ h
  refine wpAny_call (codeAny_mono (F.run X.A X.stack s H ⟨us, ks.zip ws⟩ (g us ws) (gV vs zs) Q E hr I.env0 (hb.to s us ws I.kIn hl) r2 h) fun r s' hq => ?_)
  cases r with
  | error e => exact hx pins σ H s e s' I hq
  | ok fl =>
    cases fl with
    | ret u => exact I.after hq
    | next => exact False.elim hq
    | brk => exact False.elim hq
    | cont => exact False.elim hq
/-- f(e, .., k = v, ..) -/
theorem pe_callK (F : FnOk X.prog X.w X.K X.mg X.base CX k f fd ps sp) (hr : Room k X.A) (hg : Gl X x) (hm : X.mg x = some (.ref f)) (hk : PySem.W.keepIn X.K (.ref f) = true) (hb : KBinds X.K fd ps ks g gV) (hx : Passes CX X E)
    (ha : PA X (e :: es) t) (hkw : PK X kws tk) (hall : (backToKw pos (keywordEach kws X.env)).all (·.1.isSome) = true := by rfl) (hks : (backToKw pos (keywordEach kws X.env)).filterMap (·.1) = ks := by rfl)
    (hdb : (x == ("__debug__" : Str)) = false := by decide) (he : starEach (e :: es) X.env = (false, eval e X.env) :: starEach es X.env := by rfl)
    (hpl : ((backTo pos (starEach (e :: es) X.env)).any (·.1) || (backToKw pos (keywordEach kws X.env)).any (·.1.isNone)) = false := by rfl) :
    PE X (.Call (.Name x p) (e :: es) kws pos) (tCallK sp gV E t tk) := by
  intro pins s σ H Q I h
  refine wpAny_Call_Name_kw (ld_glob I hg hm ?_ hdb)
  refine PySem.W.callWith_KW (h₀ := X.base) I.ok.mod.kin hk hall (thn (ha pos pins s σ H _ I h) fun us s1 ⟨vs, H1, I1, r, q⟩ => ?_) hpl he
  refine thn (hkw pos pins s1 σ H1 _ I1 q) fun ws s2 ⟨zs, H2, I2, rz, q2⟩ => ⟨I2.kIn, ?_⟩
  rw [hks]
  exact run_fnk F hr hb hx I2 r rz q2
end

/-! ### a def's body keeps its promise -/
/-- names: the parameters first -/
structure FnScope (N P : List Str) (sc : Scope) : Prop where
  kind : sc.kind = .function
  co : sc.isCoroutine = false
  gen : sc.isGenerator = false
  nd : N.Nodup
  pre : N.take P.length = P
  par : ∀ x ∈ P, sc.names.lookup x = some .local ∨ sc.names.lookup x = some .cell
  nofree : ∀ y ∈ sc.names, y.2 ≠ .free

theorem bindL_out {kindOf : Str → Option NameKind} {x : Str} : ∀ {binds : List (Str × Value)} {m : Str → Option Value}, (∀ v, (x, v) ∉ binds) → bindL kindOf binds m x = m x
  | [], _, _ => rfl
  | (n, v) :: r, m, h => by
    unfold bindL
    rw [bindL_out fun w hw => h w (List.mem_cons_of_mem _ hw)]
    split
    · have : x ≠ n := by rintro rfl; exact h v List.mem_cons_self
      simp [this]
    · rfl
theorem bindC_out {kindOf : Str → Option NameKind} {x : Str} : ∀ {binds : List (Str × Value)} {m : Str → Option Value}, (∀ v, (x, v) ∉ binds) → bindC kindOf binds m x = m x
  | [], _, _ => rfl
  | (n, v) :: r, m, h => by
    unfold bindC
    rw [bindC_out fun w hw => h w (List.mem_cons_of_mem _ hw)]
    split
    · rfl
    · have : x ≠ n := by rintro rfl; exact h v List.mem_cons_self
      simp [this]
theorem bindL_get {kindOf : Str → Option NameKind} {x : Str} {v : Value} : ∀ {P : List Str} {vs : List Value} {i : Nat} {m : Str → Option Value}, P.Nodup → P[i]? = some x → vs[i]? = some v → kindOf x = some .local →
    bindL kindOf (P.zip vs) m x = some v
  | [], _, _, _, _, h, _, _ => by simp at h
  | _ :: _, [], _, _, _, _, h, _ => by simp at h
  | p :: P, w :: vs, 0, m, nd, h1, h2, hk => by
    simp at h1 h2; subst h1; subst h2
    show bindL kindOf ((p, w) :: P.zip vs) m p = _
    unfold bindL
    rw [bindL_out fun v hv => (List.nodup_cons.mp nd).1 (List.of_mem_zip hv).1, if_pos hk]
    simp
  | p :: P, w :: vs, i + 1, m, nd, h1, h2, hk => by
    show bindL kindOf ((p, w) :: P.zip vs) m x = _
    unfold bindL
    exact bindL_get (i := i) (List.nodup_cons.mp nd).2 (by simpa using h1) (by simpa using h2) hk
theorem bindC_get {kindOf : Str → Option NameKind} {x : Str} {v : Value} : ∀ {P : List Str} {vs : List Value} {i : Nat} {m : Str → Option Value}, P.Nodup → P[i]? = some x → vs[i]? = some v → kindOf x ≠ some .local →
    bindC kindOf (P.zip vs) m x = some v
  | [], _, _, _, _, h, _, _ => by simp at h
  | _ :: _, [], _, _, _, _, h, _ => by simp at h
  | p :: P, w :: vs, 0, m, nd, h1, h2, hk => by
    simp at h1 h2; subst h1; subst h2
    show bindC kindOf ((p, w) :: P.zip vs) m p = _
    unfold bindC
    rw [bindC_out fun v hv => (List.nodup_cons.mp nd).1 (List.of_mem_zip hv).1, if_neg hk]
    simp
  | p :: P, w :: vs, i + 1, m, nd, h1, h2, hk => by
    show bindC kindOf ((p, w) :: P.zip vs) m x = _
    unfold bindC
    exact bindC_get (i := i) (List.nodup_cons.mp nd).2 (by simpa using h1) (by simpa using h2) hk

/-- the names' values at the entry -/
def start (N : List Str) (vs : List V) : St := vs.map some ++ List.replicate (N.length - vs.length) none

/-- the context of a def's body, at its entry; an exception leaves the frame, then lies as CX says -/
def cxOf (CX : CXT) (P : Program) (w : World) (K : PySem.W.Frag) (mg : Str → Option Value) (base : Heap) (N : List Str) (qual : Str) (scope : Scope) (f : Addr) (cd : Value) (A : Around) (outer : List Env) (s : Shared) (H : Hp) (E : XK) : Cx where
  prog := P
  w := w
  K := K
  mg := mg
  base := base
  A := A.deeper (envOfC qual scope s.heap.objs.size f cd)
  N := N
  s₀ := s
  H₀ := H
  env := envOfC qual scope s.heap.objs.size f cd
  outer := outer
  stack := envOfC qual scope s.heap.objs.size f cd :: outer
  ex := []
  calm := true
  fn := fun _ => true
  pn := []
  xe := fun e s' => wpAny (model P w) (A.deeper (envOfC qual scope s.heap.objs.size f cd)) (leaving (envOfC qual scope s.heap.objs.size f cd) e) (fun _ s'' => CX outer H s E e s'') (fun e' s'' => CX outer H s E e' s'') s'

theorem cell_has {sc : Scope} {n : Nat} {x : Str} (h : sc.names.lookup x = some .cell) : ∃ c, (cellsFrom n sc.names []).lookup x = some c := by
  have q := PySem.W.cellsFrom_some sc.names n [] (.inl h)
  exact Option.isSome_iff_exists.mp q

theorem inv_start {CX : CXT} {P : Program} {w : World} {K : PySem.W.Frag} {mg : Str → Option Value} {base : Heap} {N ps : List Str} {qual : Str} {scope : Scope} {f : Addr} {cd : Value} {A : Around} {outer : List Env} {s s1 : Shared} {H : Hp} {E : XK} {us : List Value} {vs : List V}
    (S : FnScope N ps scope) (hd : A.handled = none) (e0 : Env0 P w K mg base A outer s H) (hl : vs.length = ps.length) (r : Vals vs us)
    (x : InCallC s s.heap.objs.size (bindL (envOfC qual scope s.heap.objs.size f cd).kindOf (ps.zip us) fun _ => none) (cellsFrom (s.heap.objs.size + 1) scope.names []) (bindC (envOfC qual scope s.heap.objs.size f cd).kindOf (ps.zip us) fun _ => none) s1) :
    Inv (cxOf CX P w K mg base N qual scope f cd A outer s H E) [] (start N vs) H s1 := by
  have hpl : ps.length ≤ N.length := by have := congrArg List.length S.pre; rw [List.length_take] at this; omega
  obtain ⟨h1, tk, rfl, hk⟩ := x.done
  have noA : ∀ b : Addr, b ∉ (cxOf CX P w K mg base N qual scope f cd A outer s H E).ex := fun b z => absurd (show b ∈ ([] : List Addr) from z) (by simp)
  refine ⟨⟨e0.mod, S.kind, rfl, rfl, Nat.le_refl _, fun y z c h1 h2 => ?_, fun y hy => ?_, fun y c _ h => ?_, fun _ => hd, Around.frames_deeper e0.frames, .inr ⟨rfl, rfl⟩, fun b z => absurd z (noA b), e0.bs, e0.bsz, fun b _ _ => noA b, fun b z => absurd z (noA b), e0.funs, e0.frf⟩,
    rfl, e0.bare, Un.kept hk, ⟨_, x.toInCall.ns, fun i y v h1 h2 h3 => ?_⟩, fun y c h => ⟨_, x.cell y c h⟩, e0.hok.fresh (Nat.le_refl _), fun y c h => ?_, fun p hp => absurd (show p ∈ ([] : List (Addr × Obj)) from hp) (by simp), e0.hok.kept hk, ?_⟩
  · exact name_of_addr x.apart (PySem.mem_of_lookup h1) (PySem.mem_of_lookup h2)
  · have hy : scope.names.lookup y = some .cell ∨ scope.names.lookup y = some .free := hy
    rcases hy with hy | hy
    · exact cell_has hy
    · exact absurd rfl (S.nofree _ (PySem.mem_of_lookup hy))
  · exact Nat.le_of_lt (x.above y c (PySem.mem_of_lookup h))
  · have hi : i < vs.length := by
      unfold start at h2
      by_cases hi : i < vs.length
      · exact hi
      · rw [List.getElem?_append_right (by simpa using hi)] at h2
        rw [List.getElem?_replicate] at h2
        split at h2 <;> cases h2
    have ha : vs[i]? = some v := by
      unfold start at h2
      rw [List.getElem?_append_left (by simpa using hi), List.getElem?_map] at h2
      cases e : vs[i]? with
      | none => rw [e] at h2; cases h2
      | some a => rw [e] at h2; cases h2; rfl
    obtain ⟨u, hu, rv⟩ := r.get ha
    have hp : ps[i]? = some y := by
      rw [← S.pre, List.getElem?_take_of_lt (by omega)]; exact h1
    have ndP : ps.Nodup := by rw [← S.pre]; exact S.nd.sublist (List.take_sublist _ _)
    refine ⟨u, rv, ?_⟩
    rcases S.par y (List.mem_of_getElem? hp) with k | k
    · exact .inl ⟨k, bindL_get ndP hp hu k⟩
    · obtain ⟨c, e⟩ := cell_has (n := s.heap.objs.size + 1) k
      refine .inr ⟨.inl k, c, e, ?_⟩
      have q := x.cell y c e
      rw [bindC_get ndP hp hu (by show scope.names.lookup y ≠ _; rw [k]; decide)] at q
      exact q
  · exact e0.hok.fresh (Nat.le_of_lt (x.above y c (PySem.mem_of_lookup h)))
  · unfold start
    show _ = N.length
    rw [List.length_append, List.length_map, List.length_replicate]
    omega

/-- THE RULE: a def (or a method) of the text, by its body. The body's reading t is chosen for each entry; it is run at the parameters' values -/
theorem fn_of {CX : CXT} {P : Program} {w : World} {K : PySem.W.Frag} {mg : Str → Option Value} {base : Heap} {k : Nat} {f : Addr} {name qual : Str} {params : Arguments} {body : List Stmt} {scope : Scope} {dV kV doc pm cdv ct oc : Value} {an od : Option Addr}
    {osl : Array (Option Value)} {N ps : List Str} {sp : Sp} (lk : K.lookup f = some ⟨oc, od, .func (PySem.W.fnOf name qual params body scope dV kV doc pm an cdv ct), osl⟩) (hcd : PySem.W.codeIn K cdv qual = true) (S : FnScope N ps scope)
    (len : ∀ vs H Q E, sp vs H Q E → vs.length = ps.length)
    (hbody : ∀ (A : Around) (outer : List Env) (s : Shared) (H : Hp) (vs : List V) (Q : VK) (E : XK), Room k (A.deeper (envOfC qual scope s.heap.objs.size f cdv)) → sp vs H Q E →
      ∃ t, PSs (cxOf CX P w K mg base N qual scope f cdv A outer s H E) body t ∧ t { nx := fun _ H' => Q .non H', rt := Q } (start N vs) H) :
    FnOk P w K mg base CX (k + 1) f (PySem.W.fnOf name qual params body scope dV kV doc pm an cdv ct) ps sp := by
  refine ⟨len, fun A outer s H args us vs Q E hr e0 hb r hsp => ?_⟩
  have hl := len _ _ _ _ hsp
  have KX : K.In s.heap := e0.mod.kin.keeps fun b o e => (e0.bs b o e).1
  have lim : s.heap.NoLimit := e0.mod.nolimit.keeps fun b o e => (e0.bs b o e).1
  have hkind : ∀ y ∈ ps.zip us, scope.names.lookup y.1 = some .local ∨ (scope.names.lookup y.1 = some .cell ∧ ((cellsFrom (s.heap.objs.size + 1) scope.names []).lookup y.1).isSome = true) := fun ⟨n, v⟩ hy => by
    rcases S.par n (List.of_mem_zip hy).1 with q | q
    · exact .inl q
    · exact .inr ⟨q, PySem.W.cellsFrom_some _ _ _ (.inl q)⟩
  refine codeAny_call_function hr.depth (KX _ _ lk) rfl S.co S.gen rfl (PySem.W.codeRec_of KX hcd) (hb _ _ _ _ ?_)
  refine wpAny_newFunctionEnv_cells S.kind hkind fun env he s1 x => ?_
  subst he
  refine ⟨lim.keeps x.toInCall.keep, codeAny_func ?_⟩
  obtain ⟨t, ht, hq⟩ := hbody A outer s H vs Q E (hr.deeper _) hsp
  have I : Inv (cxOf CX P w K mg base N qual scope f cdv A outer s H E) [] (start N vs) H s1 := inv_start S hr.hd e0 hl r x
  refine wpAny_mono (ht [] s1 (start N vs) H _ I hq) (fun fl s' hs => ?_) fun e s' hs => hs
  have fin : ∀ {σ' : St} {H' : Hp} {v : V} {u : Value}, Inv (cxOf CX P w K mg base N qual scope f cdv A outer s H E) [] σ' H' s' → RelV v u → Q v H' → CE outer P w H s Q u s' :=
    fun {σ' H' v u} J rv q => ⟨v, H', J.os, J.bare, J.base, J.hok, rv, q⟩
  cases fl with
  | ret u =>
    obtain ⟨v, σ', H', J, rv, q⟩ := hs
    exact fin J rv q
  | next =>
    obtain ⟨σ', H', J, q⟩ := hs
    exact fin (v := V.non) (u := Value.none) J rfl q
  | brk =>
    obtain ⟨_, _, _, q⟩ := hs
    exact False.elim q
  | cont =>
    obtain ⟨_, _, _, q⟩ := hs
    exact False.elim q
end L2

namespace L2
open PySem PySem.Spec PyProof.Rows
section
variable {X : Cx} {x : Str} {p pos : Pos} {e : Expr} {es : List Expr} {t : TA} {id T : String} {r : List V → Hp → VK → Prop}

def tCB (r : List V → Hp → VK → Prop) (t : TA) : TE := fun σ H Q => t σ H fun vs H1 => r vs H1 Q
/-- f(e, ..), f a built-in function -/
theorem pe_callB (hc : CallR X (.builtin id) r) (hg : Gl X x) (hm : X.mg x = none) (hv : bootBuiltins x = some (.builtin id)) (ha : PA X (e :: es) t) (hn : x ≠ "__name__" := by decide) (hdb : (x == ("__debug__" : Str)) = false := by decide)
    (he : starEach (e :: es) X.env = (false, eval e X.env) :: starEach es X.env := by rfl) (hpl : (backTo pos (starEach es X.env)).any (·.1) = false := by rfl) : PE X (.Call (.Name x p) (e :: es) [] pos) (tCB r t) := by
  intro pins s σ H Q I h
  refine wpAny_Call_Name_kw (ld_blt I hg hm hv ?_ hn hdb)
  exact PyProof.Rows.callWith_builtin1 (thn (ha pos pins s σ H _ I h) fun us s1 ⟨vs, H1, I1, r1, q1⟩ => hc pins s1 σ H1 vs us Q I1 r1 q1) he hpl
/-- T(e, ..), T a built-in type -/
theorem pe_callTy (hc : CallR X (.type T) r) (hg : Gl X x) (hm : X.mg x = none) (hv : bootBuiltins x = some (.type T)) (ha : PA X (e :: es) t) (hn : x ≠ "__name__" := by decide) (hdb : (x == ("__debug__" : Str)) = false := by decide)
    (he : starEach (e :: es) X.env = (false, eval e X.env) :: starEach es X.env := by rfl) (hpl : (backTo pos (starEach es X.env)).any (·.1) = false := by rfl) : PE X (.Call (.Name x p) (e :: es) [] pos) (tCB r t) := by
  intro pins s σ H Q I h
  refine wpAny_Call_Name_kw (ld_blt I hg hm hv ?_ hn hdb)
  exact PyProof.Rows.callWith_type1 (thn (ha pos pins s σ H _ I h) fun us s1 ⟨vs, H1, I1, r1, q1⟩ => hc pins s1 σ H1 vs us Q I1 r1 q1) he hpl
/-- T() -/
theorem pe_callTy0 (hc : CallR X (.type T) r) (hg : Gl X x) (hm : X.mg x = none) (hv : bootBuiltins x = some (.type T)) (hn : x ≠ "__name__" := by decide) (hdb : (x == ("__debug__" : Str)) = false := by decide) :
    PE X (.Call (.Name x p) [] [] pos) (tCB r tNil) := by
  intro pins s σ H Q I h
  refine wpAny_Call_Name_kw (ld_blt I hg hm hv ?_ hn hdb)
  exact PyProof.Rows.callWith_type0 (hc pins s σ H [] [] Q I .nil h)
end
end L2

namespace HT
open PySem PyProof.Rows

/-- t < u of tuples of ints -/
def lexLt : List Int → List Int → Bool
  | [], [] => false
  | [], _ :: _ => true
  | _ :: _, [] => false
  | x :: xs, y :: ys => if x = y then lexLt xs ys else decide (x < y)
theorem lexLt_cons (x y : Int) (xs ys : List Int) : lexLt (x :: xs) (y :: ys) = if x = y then lexLt xs ys else decide (x < y) := rfl
theorem lexLt_nil_nil : lexLt [] [] = false := rfl
theorem lexLt_nil_cons (y : Int) (ys : List Int) : lexLt [] (y :: ys) = true := rfl
theorem lexLt_cons_nil (x : Int) (xs : List Int) : lexLt (x :: xs) [] = false := rfl

theorem eqAt_int (A : Around) (s : Shared) (a : Int) (t : Tok) (c : Int) (u : Tok) : ∃ e, SeqAt.EqAt A s (.int a t) (.int c u) e ∧ (e = true ↔ a = c) :=
  ⟨(a == c), SeqAt.EqAt.int_int a t c u, by simp⟩
theorem rcLt_int (A : Around) (s : Shared) (a : Int) (t : Tok) (c : Int) (u : Tok) (prog : Program) (w : World) (E : Value → Shared → Prop) (Q : Value → Shared → Prop) (h : Q (.bool (decide (a < c))) s) :
    wpAny (model prog w) A (richCompare .Lt (.int a t) (.int c u)) Q E s :=
  (PyProof.Rows.lt_int h : wpAny (model prog w) A (compareOp .Lt (.int a t) (.int c u)) Q E s)

section
open PySem.SeqAt
open PySem.AutoSeq1 (wpAny_loadPart')
open PySem.MeetsSeq PySem.MeetsSeq2 PySem.MeetsSeq3

theorem tuple_lt_ints (l b : Addr) (items items2 : Array Value) (n n2 : Nat) (dd dd2 : Option Addr) (sl sl2 : Array (Option Value)) (ns ms : List Int) (hi : IntsAre items.toList ns) (hj : IntsAre items2.toList ms) :
    Meets (Builtin.«tuple.__lt__» ⟨[.ref l, .ref b], []⟩)
      (fun _ R s => s.heap.get? l = some { cls := .type "tuple", dict := dd, data := .seq items n, slots := sl } ∧ s.heap.get? b = some { cls := .type "tuple", dict := dd2, data := .seq items2 n2, slots := sl2 } ∧
        R (.ok (.ret (.bool (lexLt ns ms)))) s) :=
  .of_wp fun prog w A R s h => by
    obtain ⟨hp, g, d, tk, os⟩ := s; obtain ⟨hl, hb, h⟩ := h
    have f2 := AutoSeq1.sub_tuple_tuple
    have z1 : items.size = ns.length := by rw [← hi.length]; simp
    have z2 : items2.size = ms.length := by rw [← hj.length]; simp
    wp_walk using wpAny_loadPart' hl, wpAny_loadPart' hb, wpAny_forIn_list _ (fun rest b s' => b.1 = none ∧ s' = ⟨hp, g, d, tk, os⟩ ∧ ∃ (vs ws : List Value) (ns' ms' : List Int), rest = vs.zip ws ∧
      IntsAre vs ns' ∧ IntsAre ws ms' ∧ ns'.length + items2.size = ms'.length + items.size ∧ R (.ok (.ret (.bool (lexLt ns' ms')))) ⟨hp, g, d, tk, os⟩) _
    case turn =>
      rintro ⟨y, x⟩ rest b s' ⟨hb', rfl, vs, ws, ns', ms', hz, hvi, hwi, hlen, hR⟩
      cases hvi with
      | nil => rw [List.zip_nil_left] at hz; cases hz
      | cons a t hvi' =>
        cases hwi with
        | nil => rw [List.zip_nil_right] at hz; cases hz
        | cons c u hwi' =>
          rw [List.zip_cons_cons] at hz
          injection hz with hyx hrest
          injection hyx with hy hx
          subst hy hx
          rw [lexLt_cons] at hR
          simp only [List.length_cons] at hlen
          obtain ⟨e, he, hiff⟩ := eqAt_int A.in1 ⟨hp, g, d, tk, os⟩ a t c u
          refine wpAny_bind (he prog w _ _ ?_)
          cases e with
          | true =>
            rw [if_pos (hiff.mp rfl)] at hR
            wp_walk
            exact ⟨rfl, rfl, _, _, _, _, hrest, hvi', hwi', by omega, hR⟩
          | false =>
            rw [if_neg (fun q => absurd (hiff.mpr q) Bool.false_ne_true)] at hR
            have hri := rcLt_int A.in1 ⟨hp, g, d, tk, os⟩ a t c u prog w
            wp_walk using hri
            exact ⟨_, rfl, by simpa using hR⟩
    case fin =>
      rintro ⟨b1, b2⟩ s' ⟨hb', rfl, vs, ws, ns', ms', hz, hvi, hwi, hlen, hR⟩
      simp only at hb'
      subst hb'
      have hv : lexLt ns' ms' = decide (items.size < items2.size) := by
        cases hvi with
        | nil =>
          cases hwi with
          | nil =>
            simp only [List.length_nil] at hlen
            rw [lexLt_nil_nil]
            exact (decide_eq_false (by omega)).symm
          | cons c u hw =>
            simp only [List.length_nil, List.length_cons] at hlen
            rw [lexLt_nil_cons]
            exact (decide_eq_true (by omega)).symm
        | cons a t hv =>
          cases hwi with
          | nil =>
            simp only [List.length_nil, List.length_cons] at hlen
            rw [lexLt_cons_nil]
            exact (decide_eq_false (by omega)).symm
          | cons c u hw =>
            rw [List.zip_cons_cons] at hz
            cases hz
      rw [hv] at hR
      wp_walk
      exact ⟨_, rfl, by simpa [Builtin.Tuple.tupleCompareSizes] using hR⟩
    case h =>
      exact ⟨rfl, rfl, items.toList, items2.toList, ns, ms, rfl, hi, hj, by omega, h⟩
end

section
variable {prog : Program} {w : World} {A : Around} {E : Value → Shared → Prop} {s : Shared}

theorem lt_tupInts {l b : Addr} {items items2 : Array Value} {ns ms : List Int} {Q : Value → Shared → Prop} (hl : IsTup s.heap l items) (hb : IsTup s.heap b items2) (hi : IntsAre items.toList ns) (hj : IntsAre items2.toList ms)
    (hu : A.units < cLine) (h : Q (.bool (lexLt ns ms)) s) : wpAny (model prog w) A (compareOp .Lt (.ref l) (.ref b)) Q E s := by
  obtain ⟨⟨cls, dd, data, sl⟩, ho, hc, n, hd⟩ := id hl
  obtain ⟨⟨cls2, dd2, data2, sl2⟩, ho2, hc2, n2, hd2⟩ := id hb
  simp only at hc hd hc2 hd2
  subst hc hd hc2 hd2
  exact richCompare_meets_room (op := .Lt) ⟨_, ho, rfl⟩ ⟨_, ho2, rfl⟩ PySem.F.slot_tuple_lt PySem.F.entry_tuple_lt (PySem.F.args_tuple_lt_2 _ _) (tuple_lt_ints l b items items2 n n2 dd dd2 sl sl2 ns ms hi hj)
    ⟨ho, ho2, show Value.bool (lexLt ns ms) ≠ Value.notImplemented ∧ Q (.bool (lexLt ns ms)) s from ⟨(fun x => nomatch x), h⟩⟩ hu

/-- t + u, t not empty -/
theorem cat_tup {t b : Addr} {vs ws : List Value} {Q : Value → Shared → Prop} (ht : IsTup s.heap t vs.toArray) (hb : IsTup s.heap b ws.toArray) (hv : vs ≠ [])
    (h1 : ws = [] → Q (.ref t) s) (h2 : ws ≠ [] → Q (.ref s.heap.objs.size) { s with heap := s.heap.push { cls := .type "tuple", data := .seq (vs ++ ws).toArray } })
    (hsz : vs.length + ws.length ≤ sizeLine) : wpAny (model prog w) A (binaryOp .Add (.ref t) (.ref b)) Q E s := by
  obtain ⟨⟨cls, dd, data, sl⟩, ho, hc, n, hd⟩ := id ht
  obtain ⟨⟨cls2, dd2, data2, sl2⟩, ho2, hc2, n2, hd2⟩ := id hb
  simp only at hc hd hc2 hd2
  subst hc hd hc2 hd2
  have e : vs.toArray ++ ws.toArray = (vs ++ ws).toArray := by simp
  by_cases hw : ws = []
  · exact concat_meets ⟨_, ho, rfl⟩ ⟨_, ho2, rfl⟩ noFill_tuple_add seq_tuple_add PySem.F.slot_tuple_add PySem.F.entry_tuple_add (PySem.F.args_tuple_add_2 _ _)
      (tuple_addW1 t b vs.toArray ws.toArray n n2 dd dd2 sl sl2 (by simpa using hv) (by simp [hw])) ⟨ho, ho2, h1 hw⟩
  · refine concat_meets ⟨_, ho, rfl⟩ ⟨_, ho2, rfl⟩ noFill_tuple_add seq_tuple_add PySem.F.slot_tuple_add PySem.F.entry_tuple_add (PySem.F.args_tuple_add_2 _ _)
      (tuple_addW2 t b vs.toArray ws.toArray n n2 dd dd2 sl sl2 (by simpa using hv) (by simpa using hw) (by rw [List.size_toArray, List.size_toArray]; exact hsz)) ⟨ho, ho2, ?_⟩
    rw [e]
    exact h2 hw

/-! ### t[a:b], not the whole -/
/-- a slice's bound as a place among n (d where it is left out) -/
def sIx (n d : Nat) : Option Int → Nat
  | none => d
  | some v => if v < 0 then (v + (n : Int)).toNat else min v.toNat n
theorem sIx_none (n d : Nat) : sIx n d none = d := rfl
theorem sIx_nat (n d k : Nat) : sIx n d (some (k : Int)) = min k n := by
  show (if (k : Int) < 0 then ((k : Int) + (n : Int)).toNat else min (k : Int).toNat n) = min k n
  rw [if_neg (by omega), Int.toNat_natCast]
theorem sIx_le (n d : Nat) (hd : d ≤ n) (o : Option Int) : sIx n d o ≤ n := by
  cases o with
  | none => exact hd
  | some v =>
    show (if v < 0 then (v + (n : Int)).toNat else min v.toNat n) ≤ n
    by_cases hv : v < 0
    · rw [if_pos hv]; omega
    · rw [if_neg hv]; exact Nat.min_le_right _ _
theorem clip_eq (v : Int) (n d : Nat) : (if v < 0 then max (v + (n : Int)) 0 else min v (n : Int)) = ((sIx n d (some v) : Nat) : Int) := by
  show (if v < 0 then max (v + (n : Int)) 0 else min v (n : Int)) = (((if v < 0 then (v + (n : Int)).toNat else min v.toNat n) : Nat) : Int)
  by_cases hv : v < 0
  · simp only [if_pos hv]; omega
  · simp only [if_neg hv]; omega
theorem adjust_gen (lo hi : Option Int) (n : Nat) : Builtin.Slice.sliceAdjust lo hi 1 (n : Int) = (((sIx n 0 lo : Nat) : Int), ((sIx n n hi : Nat) : Int)) := by
  have h1 : ¬ ((1 : Int) < 0) := by omega
  unfold Builtin.Slice.sliceAdjust
  simp only [h1, if_false]
  refine Prod.ext ?_ ?_
  · cases lo with
    | none => rfl
    | some v => exact clip_eq v n 0
  · cases hi with
    | none => rfl
    | some v => exact clip_eq v n n
theorem places_gen (i j : Nat) : Builtin.Slice.slicePlaces (i : Int) (j : Int) 1 = j - i := by
  unfold Builtin.Slice.slicePlaces
  have h1 : (1 : Int) > 0 := by omega
  simp only [h1, if_true, Int.ediv_one]
  split <;> omega
theorem slicePart_ {v : Value} {o : Option Int} {Q : Option Int → Shared → Prop} (p : IsPart v o) (h : Q o s) : wpAny (model prog w) A (Builtin.Slice.slicePartIndex v) Q E s := by
  cases p with
  | none => exact slicePart_none h
  | int i t => exact slicePart_int h
theorem sliceApplied_gen {sl : Addr} {vl vu : Value} {lo hi : Option Int} {n : Nat} {Q : Int × Int × Nat → Shared → Prop} (hs : s.heap.IsSliceOf sl vl vu .none) (pl : IsPart vl lo) (pu : IsPart vu hi)
    (h : Q (((sIx n 0 lo : Nat) : Int), 1, sIx n n hi - sIx n 0 lo) s) : wpAny (model prog w) A (Builtin.Slice.sliceApplied (.ref sl) (pure (n : Int))) Q E s := by
  obtain ⟨os, hos, hcs, hds⟩ := id hs
  unfold Builtin.Slice.sliceApplied Builtin.Slice.sliceFields
  refine wpAny_bind (wpAny_bind (wpAny_field hos hds (x := vl) rfl (wpAny_bind (wpAny_field hos hds (x := vu) rfl (wpAny_bind (wpAny_field hos hds (x := .none) rfl (wpAny_pure ?_)))))))
  refine wpAny_bind (slicePart_none ?_)
  show wpAny _ _ (if ((1 : Int) == 0) = true then _ else _) _ _ s
  rw [if_neg (by decide)]
  refine wpAny_bind (slicePart_ pl (wpAny_bind (slicePart_ pu (wpAny_bind (wpAny_pure ?_)))))
  show wpAny _ _ (match Builtin.Slice.sliceAdjust lo hi 1 (n : Int) with | (lo, hi) => pure (lo, (1 : Int), Builtin.Slice.slicePlaces lo hi 1)) _ _ s
  rw [adjust_gen lo hi n]
  show wpAny _ _ (pure (((sIx n 0 lo : Nat) : Int), (1 : Int), Builtin.Slice.slicePlaces ((sIx n 0 lo : Nat) : Int) ((sIx n n hi : Nat) : Int) 1)) _ _ s
  rw [places_gen]
  exact wpAny_pure h
theorem pick_gen (xs : Array Value) (i k : Nat) : ((List.range k).filterMap fun (m : Nat) => xs[((i : Int) + (m : Int) * 1).toNat]?).toArray = ((xs.toList.drop i).take k).toArray := by
  have e : (fun (m : Nat) => xs[((i : Int) + (m : Int) * 1).toNat]?) = fun m => xs[i + m]? := by
    funext m
    have : ((i : Int) + (m : Int) * 1).toNat = i + m := by omega
    rw [this]
  rw [e]
  have := pick_run xs i k
  rw [List.filterMap_map] at this
  have e2 : ((fun x => xs[x]?) ∘ fun x => i + x) = fun m => xs[i + m]? := rfl
  rw [e2] at this
  rw [this]

theorem getItem_tuple_cut {t sl : Addr} {items : Array Value} {vl vu : Value} {lo hi : Option Int} {Q : Value → Shared → Prop} (ht : IsTup s.heap t items) (hs : s.heap.IsSliceOf sl vl vu .none) (pl : IsPart vl lo) (pu : IsPart vu hi)
    (hw : ¬ (sIx items.size 0 lo = 0 ∧ sIx items.size items.size hi = items.size))
    (h : Q (.ref s.heap.objs.size) { s with heap := s.heap.push { cls := .type "tuple", data := .seq ((items.toList.drop (sIx items.size 0 lo)).take (sIx items.size items.size hi - sIx items.size 0 lo)).toArray } })
    (hsz : items.size ≤ sizeLine) : wpAny (model prog w) A (getItem (.ref t) (.ref sl)) Q E s := by
  have htake : sizeOk (.seq ((items.toList.drop (sIx items.size 0 lo)).take (sIx items.size items.size hi - sIx items.size 0 lo)).toArray) := by
    show ((items.toList.drop (sIx items.size 0 lo)).take (sIx items.size items.size hi - sIx items.size 0 lo)).toArray.size ≤ sizeLine
    rw [List.size_toArray, List.length_take, List.length_drop, Array.length_toList]
    omega
  have hj : sIx items.size items.size hi ≤ items.size := sIx_le _ _ (Nat.le_refl _) hi
  obtain ⟨os, hos, hcs, hds⟩ := id hs
  have hTs : s.TypeIs (.ref sl) "slice" := ⟨os, hos, hcs⟩
  unfold getItem
  try with_reducible refine wpAny_holding ?_
  first | refine wpAny_bind (wpAny_pure ?_) | skip
  refine wpAny_bind (wpAny_sequenceKey ht.typeIs (by decide) ?_)
  refine wpAny_bind (wpAny_callSpecial?_slot (name := Str.ofString "__getitem__") ht.typeIs PyProof.Rows.slot_tuple_getitem
    (wpAny_call_entry PyProof.Rows.slot_tuple_getitem ht.typeIs entry_tuple_getitem ?_ (args_tuple_getitem _ _)))
  show wpAny _ _ (Builtin.Tuple.tupleItemsOf (.ref t) >>= _) _ _ s
  refine wpAny_bind (tupleItemsOf_ ht ?_)
  refine wpAny_bind (wpAny_typeOf hTs ?_)
  rw [if_pos (by decide)]
  refine wpAny_bind (sliceApplied_gen hs pl pu ?_)
  have hno : ¬ ((((sIx items.size 0 lo : Nat) : Int) == 0 && (1 : Int) == 1 && (sIx items.size items.size hi - sIx items.size 0 lo) == items.size) = true) := by
    intro q
    rw [Bool.and_eq_true, Bool.and_eq_true] at q
    have q1 : ((sIx items.size 0 lo : Nat) : Int) = 0 := eq_of_beq q.1.1
    have q2 : sIx items.size items.size hi - sIx items.size 0 lo = items.size := eq_of_beq q.2
    exact hw ⟨by omega, by omega⟩
  show wpAny _ _ (if (((sIx items.size 0 lo : Nat) : Int) == 0 && (1 : Int) == 1 && (sIx items.size items.size hi - sIx items.size 0 lo) == items.size) = true then _ else _) _ _ s
  rw [if_neg hno, pick_gen]
  first
    | exact wpAny_bind (m := Builtin.Tuple.tupleExact _) (wpAny_newObj_type (wpAny_pure ⟨_, rfl, wpAny_pure h⟩) htake)
    | exact wpAny_bind (m := Builtin.Tuple.tupleExact _) (wpAny_newObj_type (wpAny_bind (wpAny_pure (wpAny_pure ⟨_, rfl, wpAny_pure h⟩))) htake)
    | exact wpAny_bind (wpAny_bind (m := Builtin.Tuple.tupleExact _) (wpAny_newObj_type (wpAny_pure (wpAny_pure ⟨_, rfl, wpAny_pure h⟩)) htake))
    | exact wpAny_bind (wpAny_bind (m := Builtin.Tuple.tupleExact _) (wpAny_newObj_type (wpAny_pure ⟨_, rfl, wpAny_pure h⟩) htake))
end
end HT

namespace L2
open PySem PySem.Spec PyProof.Rows

/-! ### the parts of a slice -/
abbrev TO := St → Hp → (Option Int → Hp → Prop) → Prop
/-- a slice's part (left out, or an int) -/
def PO (X : Cx) (e : Option Expr) (t : TO) : Prop :=
  ∀ (pins : List (Addr × Obj)) (s : Shared) (σ : St) (H : Hp) (Q : Option Int → Hp → Prop), Inv X pins σ H s → t σ H Q →
    wpAny (model X.prog X.w) X.A (evalPart e X.env) (fun u s' => ∃ o H', Inv X pins σ H' s' ∧ IsPart u o ∧ Q o H') X.xe s
def tNoPart : TO := fun _ H Q => Q none H
def tPart (t : TE) : TO := fun σ H Q => t σ H fun x H1 => ∃ i, x = .int i ∧ Q (some i) H1

theorem intsAre_of {ns : List Int} : ∀ {us : List Value}, Vals (ns.map V.int) us → IntsAre us ns := by
  induction ns with
  | nil => intro us r; rw [List.map_nil] at r; cases r; exact .nil
  | cons n ns ih =>
    intro us r
    rw [List.map_cons] at r
    cases r with
    | cons r1 r2 =>
      obtain ⟨t, e⟩ := r1
      subst e
      exact .cons n t (ih r2)

section
variable {X : Cx} {e : Expr} {te : TE} {lo hi : Option Expr} {tl th : TO} {pos p2 : Pos}

theorem po_none : PO X none tNoPart := by
  intro pins s σ H Q I h
  rw [evalPart_none]
  exact wpAny_pure ⟨none, H, I, .none, h⟩
theorem po_some (h : PE X e te) : PO X (some e) (tPart te) := by
  intro pins s σ H Q I hw
  rw [evalPart_some]
  refine thn (h pins s σ H _ I hw) fun u s1 ⟨x, H1, I1, r1, q1⟩ => ?_
  obtain ⟨i, rfl, q⟩ := q1
  obtain ⟨t, rfl⟩ := r1
  exact ⟨some i, H1, I1, .int i t, q⟩

/-- what a slice of a value is, by values: the slice object stands at sl -/
def SlR (X : Cx) (r : V → Option Int → Option Int → Hp → VK → Prop) : Prop :=
  ∀ (pins : List (Addr × Obj)) (s : Shared) (σ : St) (H : Hp) (x : V) (v vl vu : Value) (lo hi : Option Int) (sl : Addr) (Q : VK), Inv X pins σ H s → RelV x v → s.heap.IsSliceOf sl vl vu .none → IsPart vl lo → IsPart vu hi → r x lo hi H Q →
    ∃ T id, typeLookup (.type T) "__getitem__" = pure (some (.builtin id)) ∧ s.TypeIs v T ∧ wpAny (model X.prog X.w) X.A (getItem v (.ref sl)) (EP X pins σ Q) X.xe s
theorem SlR.or {r r' : V → Option Int → Option Int → Hp → VK → Prop} (h : SlR X r) (h' : SlR X r') : SlR X (fun x lo hi H Q => r x lo hi H Q ∨ r' x lo hi H Q) := by
  intro pins s σ H x v vl vu lo hi sl Q I rx hs pl pu q
  rcases q with q | q
  · exact h pins s σ H x v vl vu lo hi sl Q I rx hs pl pu q
  · exact h' pins s σ H x v vl vu lo hi sl Q I rx hs pl pu q
def tSl (r : V → Option Int → Option Int → Hp → VK → Prop) (te : TE) (tl th : TO) : TE := fun σ H Q => te σ H fun x H1 => tl σ H1 fun l H2 => th σ H2 fun u H3 => r x l u H3 Q
/-- a[lo:hi], any a -/
theorem pe_slice {r : V → Option Int → Option Int → Hp → VK → Prop} (hr : SlR X r) (he : PE X e te) (hl : PO X lo tl) (hu : PO X hi th) : PE X (.Subscript e (.Slice lo hi none p2) pos) (tSl r te tl th) := by
  intro pins s σ H Q I h
  refine Subscript_ (thn (he pins s σ H _ I h) fun v s1 ⟨x, H1, I1, r1, q1⟩ => ?_)
  refine wpAny_Slice (thn (hl pins s1 σ H1 _ I1 q1) fun vl s2 ⟨l, H2, I2, pl, q2⟩ => thn (hu pins s2 σ H2 _ I2 q2) fun vu s3 ⟨u, H3, I3, pu, q3⟩ => ?_)
  rw [evalPart_none]
  refine wpAny_pure ?_
  have I4 : Inv X pins σ H3 { s3 with heap := s3.heap.push { cls := .type "slice", data := .fields #[vl, vu, .none] } } := I3.kept (t' := s3.toks) fun b ob q => Heap.get?_push_of_some _ q
  obtain ⟨T, id, hT, ht, hg⟩ := hr pins { s3 with heap := s3.heap.push { cls := .type "slice", data := .fields #[vl, vu, .none] } } σ H3 x v vl vu l u s3.heap.objs.size Q I4 r1 (Heap.IsSliceOf.new ..) pl pu q3
  show wpAny (model X.prog X.w) X.A (subscriptTail e (.Slice lo hi none p2) v (.ref s3.heap.objs.size)) (EP X pins σ Q) X.xe { s3 with heap := s3.heap.push { cls := .type "slice", data := .fields #[vl, vu, .none] } }
  exact tail_any (ops := [.ref s3.heap.objs.size, v]) ht hT hg (by with_unfolding_all rfl)

/-- the items of xs[lo:hi] -/
def cutV (xs : List V) (lo hi : Option Int) : List V := (xs.drop (HT.sIx xs.length 0 lo)).take (HT.sIx xs.length xs.length hi - HT.sIx xs.length 0 lo)
theorem cutV_length (xs : List V) (lo hi : Option Int) : (cutV xs lo hi).length ≤ xs.length := by
  unfold cutV
  rw [List.length_take, List.length_drop]
  omega
/-- t[lo:hi], not the whole of it (the whole would be t itself) -/
def rSlT (K : PySem.W.Frag) : V → Option Int → Option Int → Hp → VK → Prop := fun x lo hi H Q => ∃ a xs, x = .ref a ∧ SqT K H a xs ∧
  ¬ (HT.sIx xs.length 0 lo = 0 ∧ HT.sIx xs.length xs.length hi = xs.length) ∧ ∀ p, H p = none → Q (.ref p) (upd H p (.tup (cutV xs lo hi)))
theorem sl_tup : SlR X (rSlT X.K) := by
  intro pins s σ H x v vl vu lo hi sl Q I rx hs pl pu h
  obtain ⟨a, xs, rfl, hx, hw, q⟩ := h
  cases rx
  obtain ⟨its, r, ht, hz⟩ := I.tuple hx
  have hlen : its.toArray.size = xs.length := by rw [List.size_toArray]; exact r.length.symm
  refine ⟨"tuple", _, PyProof.Rows.slot_tuple_getitem.lookup, ht.typeIs, ?_⟩
  refine HT.getItem_tuple_cut ht hs pl pu (by rw [hlen]; exact hw) ?_ (by rw [hlen]; exact hz)
  rw [hlen]
  refine ⟨.ref s.heap.objs.size, _, I.laid (t' := s.toks) (o := .tup (cutV xs lo hi)) (fun b ob q => Heap.get?_push_of_some _ q) (Nat.le_refl _) ?_, rfl, q _ (I.hok.fresh (Nat.le_refl _))⟩
  exact ⟨Nat.le_trans (cutV_length xs lo hi) hz, _, (r.drop (HT.sIx xs.length 0 lo)).take (HT.sIx xs.length xs.length hi - HT.sIx xs.length 0 lo), IsTup.new _ _⟩

/-! ### t < u, t + u -/
def rLtT (K : PySem.W.Frag) : R2 := fun x y H Q => ∃ a b ns ms, x = .ref a ∧ y = .ref b ∧ SqT K H a (ns.map V.int) ∧ SqT K H b (ms.map V.int) ∧ Q (.bl (HT.lexLt ns ms)) H
theorem op_ltT (hu : X.A.units < cLine) : OpR X (compareOp .Lt) (rLtT X.K) := by
  intro pins s σ H x y v u Q I rx ry h
  obtain ⟨a, b, ns, ms, rfl, rfl, ha, hb, q⟩ := h
  cases rx
  cases ry
  obtain ⟨its, r1, p1, _⟩ := I.tuple ha
  obtain ⟨its2, r2, p2, _⟩ := I.tuple hb
  have i1 : IntsAre its.toArray.toList ns := intsAre_of r1
  have i2 : IntsAre its2.toArray.toList ms := intsAre_of r2
  exact HT.lt_tupInts p1 p2 i1 i2 hu ⟨.bl (HT.lexLt ns ms), H, I, rfl, q⟩
/-- t + u, t not empty: u empty gives t itself -/
def rCatT (K : PySem.W.Frag) : R2 := fun x y H Q => ∃ a b xs ys, x = .ref a ∧ y = .ref b ∧ SqT K H a xs ∧ SqT K H b ys ∧ xs ≠ [] ∧ xs.length + ys.length ≤ sizeLine ∧
  (ys = [] → Q (.ref a) H) ∧ (ys ≠ [] → ∀ p, H p = none → Q (.ref p) (upd H p (.tup (xs ++ ys))))
theorem Vals.nil_iff {xs : List V} {us : List Value} (r : Vals xs us) : us = [] ↔ xs = [] := by
  cases r with
  | nil => simp
  | cons _ _ => simp
theorem op_catT : OpR X (binaryOp .Add) (rCatT X.K) := by
  intro pins s σ H x y v u Q I rx ry h
  obtain ⟨a, b, xs, ys, rfl, rfl, ha, hb, hx, hz, q1, q2⟩ := h
  cases rx
  cases ry
  obtain ⟨its, r1, p1, _⟩ := I.tuple ha
  obtain ⟨its2, r2, p2, _⟩ := I.tuple hb
  refine HT.cat_tup p1 p2 (fun z => hx (r1.nil_iff.mp z)) (fun z => ⟨.ref a, H, I, rfl, q1 (r2.nil_iff.mp z)⟩) (fun z => ?_) (by rw [← r1.length, ← r2.length]; exact hz)
  refine ⟨.ref s.heap.objs.size, _, I.laid (t' := s.toks) (o := .tup (xs ++ ys)) (fun b ob q => Heap.get?_push_of_some _ q) (Nat.le_refl _) ?_, rfl, q2 (fun w => z (r2.nil_iff.mpr w)) _ (I.hok.fresh (Nat.le_refl _))⟩
  exact ⟨by rw [List.length_append]; exact hz, _, r1.append r2, IsTup.new _ _⟩
/-- tuple(t) -/
theorem call_tupleT : CallR X (.type "tuple") (fun xs H Q => ∃ a ys, xs = [.ref a] ∧ SqT X.K H a ys ∧ Q (.ref a) H) := by
  intro pins s σ H xs us Q I r h
  obtain ⟨a, ys, rfl, ha, q⟩ := h
  obtain ⟨u, rfl, ru⟩ := vals1 r
  cases ru
  obtain ⟨its, _, p1, _⟩ := I.tuple ha
  exact call_tuple_same (items := its.toArray) p1 ⟨.ref a, H, I, rfl, q⟩
end
end L2

namespace L2
open PySem PySem.Spec PyProof.Rows

/-! ### places -/
/-- the place that an index of any sign means -/
def ixN (n : Nat) (i : Int) : Option Nat := if 0 ≤ i then (if i < n then some i.toNat else none) else if -(n : Int) ≤ i then some (i + n).toNat else none
def atI {α : Type} (xs : List α) (i : Int) : Option α := (ixN xs.length i).bind fun j => xs[j]?
theorem ixN_seq {n : Nat} {i : Int} {j : Nat} (h : ixN n i = some j) : seqIndex? i n = some j ∧ j < n ∧ -(n : Int) ≤ i ∧ i < n := by
  unfold ixN at h
  by_cases h0 : 0 ≤ i
  · rw [if_pos h0] at h
    by_cases h1 : i < n
    · rw [if_pos h1] at h
      have e : i.toNat = j := Option.some.inj h
      exact ⟨by rw [seqIndex_of h0 h1, e], by omega, by omega, h1⟩
    · rw [if_neg h1] at h; cases h
  · rw [if_neg h0] at h
    by_cases h1 : -(n : Int) ≤ i
    · rw [if_pos h1] at h
      have e : (i + n).toNat = j := Option.some.inj h
      exact ⟨by rw [seqIndex_neg (by omega) h1, e], by omega, h1, by omega⟩
    · rw [if_neg h1] at h; cases h
theorem atI_get {α : Type} {xs : List α} {i : Int} {v : α} (h : atI xs i = some v) : ∃ j, seqIndex? i xs.length = some j ∧ xs[j]? = some v ∧ j < xs.length ∧ -(xs.length : Int) ≤ i ∧ i < xs.length := by
  unfold atI at h
  cases e : ixN xs.length i with
  | none => rw [e] at h; cases h
  | some j =>
    rw [e] at h
    obtain ⟨h1, h2, h3, h4⟩ := ixN_seq e
    exact ⟨j, h1, h, h2, h3, h4⟩
theorem atI_nat {α : Type} {xs : List α} {j : Nat} {v : α} (h : xs[j]? = some v) : atI xs (j : Int) = some v := by
  have hj : j < xs.length := (List.getElem?_eq_some_iff.mp h).1
  have e : ixN xs.length (j : Int) = some j := by
    unfold ixN
    rw [if_pos (by omega), if_pos (by omega)]; simp
  unfold atI; rw [e]; exact h
theorem atI_last {α : Type} (xs : List α) (v : α) : atI (xs ++ [v]) (-1) = some v := by
  have hl : (xs ++ [v]).length = xs.length + 1 := by simp
  have e : ixN (xs ++ [v]).length (-1) = some xs.length := by
    unfold ixN
    rw [hl, if_neg (by decide), if_pos (by omega)]
    congr 1
    omega
  unfold atI
  rw [e]
  show (xs ++ [v])[xs.length]? = some v
  simp

/-! ### what may be subscripted -/
/-- what stands as an index of a plain subscript -/
def PlainIx (b : Expr) : Prop := ∀ o i, subscripted b false o i = operate [o, i] (getItem o i)
/-- a subscript by values -/
def IxR (X : Cx) (r : R2) : Prop :=
  ∀ (value slice : Expr) (pins : List (Addr × Obj)) (s : Shared) (σ : St) (H : Hp) (x y : V) (v u : Value) (Q : VK), Inv X pins σ H s → RelV x v → RelV y u → r x y H Q →
    subscripted slice false v u = operate [v, u] (getItem v u) → wpAny (model X.prog X.w) X.A (subscriptTail value slice v u) (EP X pins σ Q) X.xe s
/-- a call of a builtin's method by values: the receiver, the arguments -/
def MtR (X : Cx) (id : String) (r : V → List V → Hp → VK → Prop) : Prop :=
  ∀ (pins : List (Addr × Obj)) (s : Shared) (σ : St) (H : Hp) (x : V) (xs : List V) (v : Value) (us : List Value) (Q : VK), Inv X pins σ H s → RelV x v → Vals xs us → r x xs H Q →
    wpAny (model X.prog X.w) X.A (call (.builtin id) (v :: us)) (EP X pins σ Q) X.xe s
section
variable {X : Cx} {a b : Expr} {ta tb : TE} {pos : Pos}
theorem IxR.or {r r' : R2} (h : IxR X r) (h' : IxR X r') : IxR X (fun x y H Q => r x y H Q ∨ r' x y H Q) := by
  intro value slice pins s σ H x y v u Q I rx ry q hs
  rcases q with q | q
  · exact h value slice pins s σ H x y v u Q I rx ry q hs
  · exact h' value slice pins s σ H x y v u Q I rx ry q hs
theorem MtR.or {id : String} {r r' : V → List V → Hp → VK → Prop} (h : MtR X id r) (h' : MtR X id r') : MtR X id (fun x xs H Q => r x xs H Q ∨ r' x xs H Q) := by
  intro pins s σ H x xs v us Q I rx rs q
  rcases q with q | q
  · exact h pins s σ H x xs v us Q I rx rs q
  · exact h' pins s σ H x xs v us Q I rx rs q
/-- a[b] -/
theorem pe_ix {r : R2} (hr : IxR X r) (ha : PE X a ta) (hb : PE X b tb) (hs : PlainIx b) : PE X (.Subscript a b pos) (tOp r ta tb) := by
  intro pins s σ H Q I h
  exact Subscript_ (binT ha hb I h fun v u s2 x y H2 I2 rx ry q => hr a b pins s2 σ H2 x y v u Q I2 rx ry q (hs _ _))

def rIxL (K : PySem.W.Frag) : R2 := fun x y H Q => ∃ p xs i v, x = .ref p ∧ y = .int i ∧ SqL K H p xs ∧ atI xs i = some v ∧ Q v H
def rIxT (K : PySem.W.Frag) : R2 := fun x y H Q => ∃ p xs i v, x = .ref p ∧ y = .int i ∧ SqT K H p xs ∧ atI xs i = some v ∧ Q v H
def rIxS : R2 := fun x y H Q => ∃ z i c, x = .str z ∧ y = .int i ∧ z.length ≤ sizeLine ∧ atI z.cps.toList i = some c ∧ Q (.str ⟨#[c]⟩) H
theorem ix_list : IxR X (rIxL X.K) := by
  intro value slice pins s σ H x y v u Q I rx ry h hs
  obtain ⟨p, xs, i, z, rfl, rfl, hq, he, q⟩ := h
  cases rx
  obtain ⟨t, rfl⟩ := ry
  obtain ⟨its, r, pl, hz⟩ := I.list hq
  obtain ⟨j, h1, h2, h3, h4, h5⟩ := atI_get he
  obtain ⟨w, ew, rw'⟩ := r.get h2
  have hl := r.length
  have hn := line63
  have fin : EP X pins σ Q w s := ⟨z, H, I, rw', q⟩
  by_cases h0 : 0 ≤ i
  · have hj : i.toNat = j := by
      rw [seqIndex_of h0 h5] at h1
      exact Option.some.inj h1
    exact item_listR pl.isList h0 (by omega) (by rw [hj]; simpa using ew) fin hs
  · have hj : (i + (its.toArray.size : Int)).toNat = j := by
      rw [seqIndex_neg (by omega) h4] at h1
      rw [List.size_toArray, ← hl]
      exact Option.some.inj h1
    exact subscriptTail_builtinR (x := w) pl.isList.typeIs slot_list_getitem.lookup
      (wpAny_getItem_list_neg (Q := fun r s' => r = w ∧ EP X pins σ Q r s') pl.isList (by omega) (by rw [List.size_toArray] <;> omega) (by omega) (by rw [hj]; simpa using ew) ⟨rfl, fin⟩) hs
theorem ix_tup : IxR X (rIxT X.K) := by
  intro value slice pins s σ H x y v u Q I rx ry h hs
  obtain ⟨p, xs, i, z, rfl, rfl, hq, he, q⟩ := h
  cases rx
  obtain ⟨t, rfl⟩ := ry
  obtain ⟨its, r, pl, hz⟩ := I.tuple hq
  obtain ⟨j, h1, h2, h3, h4, h5⟩ := atI_get he
  obtain ⟨w, ew, rw'⟩ := r.get h2
  have hl := r.length
  have hn := line63
  have fin : EP X pins σ Q w s := ⟨z, H, I, rw', q⟩
  exact subscriptTail_builtinR (x := w) pl.typeIs slot_tuple_getitem.lookup
    (getItem_tuple (j := j) (Q := fun r s' => r = w ∧ EP X pins σ Q r s') pl (by omega) (by omega) (by rw [List.size_toArray, ← hl]; exact h1) (by simpa using ew) ⟨rfl, fin⟩) hs
theorem ix_str : IxR X rIxS := by
  intro value slice pins s σ H x y v u Q I rx ry h hs
  obtain ⟨z, i, c, rfl, rfl, hz, he, q⟩ := h
  obtain ⟨t, rfl⟩ := rx
  obtain ⟨t', rfl⟩ := ry
  obtain ⟨j, h1, h2, h3, h4, h5⟩ := atI_get he
  have hl : z.cps.toList.length = z.length := by simp [Str.length]
  rw [hl] at h1 h4 h5
  have hn := line63
  exact tail_any (typeIs_str s z t) slot_str_getitem.lookup (getItem_str (c := c) (by
    have e1 : decide (i < -(2 ^ 63 : Int)) = false := decide_eq_false (by omega)
    have e2 : decide (i ≥ 2 ^ 63) = false := decide_eq_false (by omega)
    rw [e1, e2, Bool.or_false]) (by rw [h1]; simpa using h2) ⟨.str ⟨#[c]⟩, H, I.tok _, ⟨_, rfl⟩, q⟩) hs
/-- list, tuple or str -/
def rIx (K : PySem.W.Frag) : R2 := fun x y H Q => rIxL K x y H Q ∨ rIxT K x y H Q ∨ rIxS x y H Q
theorem ix_seq : IxR X (rIx X.K) := ix_list.or (ix_tup.or ix_str)

/-! ### xs[i] = v, any sign -/
/-- the list's object behind a store -/
theorem mapSeq_set (its : List Value) (n j : Nat) (u : Value) : Obj.mapSeq (·.setIfInBounds j u) { cls := .type "list", data := .seq its.toArray n } = { cls := .type "list", data := .seq (its.set j u).toArray n } := by
  simp [Obj.mapSeq]
theorem Inv.lst {pins : List (Addr × Obj)} {σ : St} {H : Hp} {s : Shared} {p : Addr} {xs : List V} (I : Inv X pins σ H s) (h : H p = some (.lst xs)) :
    ∃ (its : List Value) (n : Nat), Vals xs its ∧ s.heap.get? p = some { cls := .type "list", data := .seq its.toArray n } ∧ xs.length ≤ sizeLine := by
  obtain ⟨z, its, n, r, e⟩ := I.hok p _ h
  exact ⟨its, n, r, e, z⟩
/-- the list at p is written by an update of its object -/
theorem Inv.lstUpd {pins : List (Addr × Obj)} {σ : St} {H : Hp} {s : Shared} {p : Addr} {xs ys : List V} {its its' : List Value} {n n' : Nat} {f : Obj → Obj} (I : Inv X pins σ H s) (h : H p = some (.lst xs))
    (ho : s.heap.get? p = some { cls := .type "list", data := .seq its.toArray n }) (hf : f { cls := .type "list", data := .seq its.toArray n } = { cls := .type "list", data := .seq its'.toArray n' }) (r : Vals ys its') (hz : ys.length ≤ sizeLine) (t : Nat) :
    Inv X pins σ (upd H p (.lst ys)) { s with heap := s.heap.update p f, toks := t } := by
  have e : (s.heap.update p f).get? p = some { cls := .type "list", data := .seq its'.toArray n' } := by
    rw [Heap.get?_update_self f ho (by rw [hf] <;> rfl), hf]
  refine I.write (x := p) (e := p) (by rw [h]; trivial) (.inl rfl) (fun b u hb q => (Heap.get?_update_other _ _ (Ne.symm hb)).trans q) ⟨_, e⟩ ?_
  exact ⟨hz, its', n', r, e⟩
def rSetL : V → V → V → Hp → (Hp → Prop) → Prop := fun o i v H Q => ∃ p xs k j, o = .ref p ∧ i = .int k ∧ H p = some (.lst xs) ∧ ixN xs.length k = some j ∧ Q (upd H p (.lst (xs.set j v)))
theorem set_list : PSet X rSetL := by
  intro pins s σ H o i v ov iv u Q I ro ri rv h
  obtain ⟨p, xs, k, j, rfl, rfl, hp, hj, q⟩ := h
  cases ro
  obtain ⟨t, rfl⟩ := ri
  obtain ⟨its, n, r, ho, hz⟩ := I.lst hp
  obtain ⟨h1, h2, h3, h4⟩ := ixN_seq hj
  have hl := r.length
  have hn := line63
  have I' : Inv X pins σ (upd H p (.lst (xs.set j v))) { s with heap := s.heap.update p (Obj.mapSeq (·.setIfInBounds j u)) } :=
    I.lstUpd hp ho (mapSeq_set its n j u) (r.set rv j) (by rw [List.length_set]; exact hz) s.toks
  by_cases h0 : 0 ≤ k
  · have hk : k.toNat = j := by
      rw [seqIndex_of h0 h4] at h1
      exact Option.some.inj h1
    exact PySem.W.ki_setAt ho h0 (by omega) (by rw [List.size_toArray, ← hl]; exact h4) (by rw [hk]; exact ⟨_, I', q⟩)
  · have hk : (k + (its.toArray.size : Int)).toNat = j := by
      rw [seqIndex_neg (by omega) h3] at h1
      rw [List.size_toArray, ← hl]
      exact Option.some.inj h1
    exact PySem.W.ki_setBack ho (by omega) (by rw [List.size_toArray, ← hl]; exact h3) (by omega) (by rw [hk]; exact ⟨_, I', q⟩)

/-! ### slices -/
theorem slice_bounds (lo hi : Option Int) (n : Nat) : (sliceBounds lo hi none n).1 = ((HT.sIx n 0 lo : Nat) : Int) ∧ (sliceBounds lo hi none n).2.1 = ((HT.sIx n n hi : Nat) : Int) ∧ (sliceBounds lo hi none n).2.2 = 1 := by
  refine ⟨?_, ?_, rfl⟩
  · cases lo with
    | none => simp [sliceBounds, HT.sIx]
    | some i =>
      simp only [sliceBounds, HT.sIx, Option.getD_none, show (1 : Int) > 0 by decide, if_true]
      by_cases h : i < 0
      · simp only [h, if_true] <;> omega
      · simp only [h, if_false] <;> omega
  · cases hi with
    | none => simp [sliceBounds, HT.sIx]
    | some i =>
      simp only [sliceBounds, HT.sIx, Option.getD_none, show (1 : Int) > 0 by decide, if_true]
      by_cases h : i < 0
      · simp only [h, if_true] <;> omega
      · simp only [h, if_false] <;> omega
theorem slicePick_cut (its : List Value) (lo hi : Option Int) : slicePick its.toArray lo hi none = ((its.drop (HT.sIx its.length 0 lo)).take (HT.sIx its.length its.length hi - HT.sIx its.length 0 lo)).toArray := by
  obtain ⟨h1, h2, h3⟩ := slice_bounds lo hi its.toArray.size
  unfold slicePick
  rw [h1, h2, h3]
  simp only [sliceRange_one, pick_run, List.size_toArray] <;> rfl
/-- xs[lo:hi] of a list: a new list -/
def rSlL (K : PySem.W.Frag) : V → Option Int → Option Int → Hp → VK → Prop := fun x lo hi H Q => ∃ a xs, x = .ref a ∧ SqL K H a xs ∧ ∀ p, H p = none → Q (.ref p) (upd H p (.lst (cutV xs lo hi)))
theorem sl_list : SlR X (rSlL X.K) := by
  intro pins s σ H x v vl vu lo hi sl Q I rx hs pl pu h
  obtain ⟨a, xs, rfl, hx, q⟩ := h
  cases rx
  obtain ⟨its, r, ht, hz⟩ := I.list hx
  have hlen := r.length
  refine ⟨"list", _, slot_list_getitem.lookup, ht.isList.typeIs, ?_⟩
  refine wpAny_getItem_list_slice ht.isList hs pl pu .none (by simp) ?_ (by rw [List.size_toArray] <;> omega)
  rw [slicePick_cut, ← hlen]
  refine ⟨.ref s.heap.objs.size, _, I.laid (t' := s.toks) (o := .lst (cutV xs lo hi)) (fun b ob q => Heap.get?_push_of_some _ q) (Nat.le_refl _) ?_, rfl, q _ (I.hok.fresh (Nat.le_refl _))⟩
  exact ⟨Nat.le_trans (cutV_length xs lo hi) hz, _, 0, (r.drop (HT.sIx xs.length 0 lo)).take (HT.sIx xs.length xs.length hi - HT.sIx xs.length 0 lo), Heap.get?_push_size _ rfl⟩

/-! ### in, not in: flat items -/
def flatV : V → Bool
  | .non => true
  | .bl _ => true
  | .int _ => true
  | .str _ => true
  | _ => false
/-- == of flat values -/
def eqV : V → V → Bool
  | .non, .non => true
  | .bl a, .bl b => a == b
  | .bl a, .int b => (if a then 1 else 0) == b
  | .int a, .bl b => a == (if b then 1 else 0)
  | .int a, .int b => a == b
  | .str a, .str b => a == b
  | _, _ => false
theorem eqAt_V {A : Around} {s : Shared} {y x : V} {u v : Value} (ry : RelV y u) (rx : RelV x v) (fy : flatV y = true) (fx : flatV x = true) : SeqAt.EqAt A s u v (eqV y x) := by
  cases y with
  | non =>
    cases ry
    cases x with
    | non => cases rx; exact SeqAt.EqAt.same _
    | bl b => cases rx; exact SeqAt.EqAt.none_bool b
    | int b => obtain ⟨t, rfl⟩ := rx; exact SeqAt.EqAt.none_int b t
    | str b => obtain ⟨t, rfl⟩ := rx; exact SeqAt.EqAt.none_str b t
    | _ => exact absurd (show false = true from fx) Bool.false_ne_true
  | bl a =>
    cases ry
    cases x with
    | non => cases rx; exact SeqAt.EqAt.bool_none a
    | bl b => cases rx; exact SeqAt.EqAt.bool_bool a b
    | int b => obtain ⟨t, rfl⟩ := rx; exact SeqAt.EqAt.bool_int a b t
    | str b => obtain ⟨t, rfl⟩ := rx; exact SeqAt.EqAt.bool_str a b t
    | _ => exact absurd (show false = true from fx) Bool.false_ne_true
  | int a =>
    obtain ⟨t', rfl⟩ := ry
    cases x with
    | non => cases rx; exact SeqAt.EqAt.int_none a t'
    | bl b => cases rx; exact SeqAt.EqAt.int_bool a t' b
    | int b => obtain ⟨t, rfl⟩ := rx; exact SeqAt.EqAt.int_int a t' b t
    | str b => obtain ⟨t, rfl⟩ := rx; exact SeqAt.EqAt.int_str a t' b t
    | _ => exact absurd (show false = true from fx) Bool.false_ne_true
  | str a =>
    obtain ⟨t', rfl⟩ := ry
    cases x with
    | non => cases rx; exact SeqAt.EqAt.str_none a t'
    | bl b => cases rx; exact SeqAt.EqAt.str_bool a t' b
    | int b => obtain ⟨t, rfl⟩ := rx; exact SeqAt.EqAt.str_int a t' b t
    | str b => obtain ⟨t, rfl⟩ := rx; exact SeqAt.EqAt.str_str a t' b t
    | _ => exact absurd (show false = true from fx) Bool.false_ne_true
  | _ => exact absurd (show false = true from fy) Bool.false_ne_true
/-- the items' answers, read off the values (a value's own answer does not lean on its token) -/
def eqU (x : V) (u : Value) : Bool := match u with
  | .none => eqV .non x
  | .bool b => eqV (.bl b) x
  | .int i _ => eqV (.int i) x
  | .str z _ => eqV (.str z) x
  | _ => false
theorem eqU_of {x y : V} {u : Value} (r : RelV y u) (f : flatV y = true) : eqU x u = eqV y x := by
  cases y with
  | non => cases r; rfl
  | bl b => cases r; rfl
  | int i => obtain ⟨t, rfl⟩ := r; rfl
  | str z => obtain ⟨t, rfl⟩ := r; rfl
  | _ => exact absurd (show false = true from f) Bool.false_ne_true
theorem any_eqU {x : V} : ∀ {xs : List V} {us : List Value}, Vals xs us → xs.all flatV = true → us.any (eqU x) = xs.any fun y => eqV y x
  | _, _, .nil, _ => rfl
  | y :: xs, u :: us, .cons r t, f => by
    rw [List.all_cons, Bool.and_eq_true] at f
    rw [List.any_cons, List.any_cons, eqU_of r f.1, any_eqU t f.2]
theorem mem_eqAt {A : Around} {s : Shared} {x : V} {v : Value} (rx : RelV x v) (fx : flatV x = true) : ∀ {xs : List V} {us : List Value}, Vals xs us → xs.all flatV = true → ∀ u ∈ us, SeqAt.EqAt A s u v (eqU x u)
  | _, _, .nil, _ => fun u hu => by cases hu
  | y :: xs, u :: us, .cons r t, f => fun u' hu => by
    rw [List.all_cons, Bool.and_eq_true] at f
    rcases List.mem_cons.mp hu with rfl | hu
    · rw [eqU_of r f.1]; exact eqAt_V r rx f.1 fx
    · exact mem_eqAt rx fx t f.2 u' hu
def inV (x : V) (xs : List V) : Bool := xs.any fun y => eqV y x
/-- x in a list or tuple of flat items -/
def rIn (K : PySem.W.Frag) (neg : Bool) : R2 := fun x y H Q => ∃ p xs, y = .ref p ∧ (SqL K H p xs ∨ SqT K H p xs) ∧ flatV x = true ∧ xs.all flatV = true ∧ Q (.bl (if neg then !inV x xs else inV x xs)) H
theorem op_in_seq : OpR X (compareOp .In) (rIn X.K false) := by
  intro pins s σ H x y v u Q I rx ry h
  obtain ⟨p, xs, rfl, hq, fx, fs, q⟩ := h
  cases ry
  rcases hq with hq | hq
  · obtain ⟨its, r, pl, hz⟩ := I.list hq
    refine SeqAt.in_listAt (eqU x) pl.isList (fun w hw => mem_eqAt rx fx r fs w (by simpa using hw)) ⟨.bl _, H, I, rfl, ?_⟩
    rw [show its.toArray.any (eqU x) = its.any (eqU x) by simp, any_eqU r fs]
    exact q
  · obtain ⟨its, r, pl, hz⟩ := I.tuple hq
    refine SeqAt.in_tupleAt (eqU x) pl (fun w hw => mem_eqAt rx fx r fs w (by simpa using hw)) ⟨.bl _, H, I, rfl, ?_⟩
    rw [show its.toArray.any (eqU x) = its.any (eqU x) by simp, any_eqU r fs]
    exact q
theorem op_notIn_seq : OpR X (compareOp .NotIn) (rIn X.K true) := by
  intro pins s σ H x y v u Q I rx ry h
  obtain ⟨p, xs, rfl, hq, fx, fs, q⟩ := h
  cases ry
  rcases hq with hq | hq
  · obtain ⟨its, r, pl, hz⟩ := I.list hq
    refine SeqAt.notIn_listAt (eqU x) pl.isList (fun w hw => mem_eqAt rx fx r fs w (by simpa using hw)) ⟨.bl _, H, I, rfl, ?_⟩
    rw [show its.toArray.any (eqU x) = its.any (eqU x) by simp, any_eqU r fs]
    exact q
  · obtain ⟨its, r, pl, hz⟩ := I.tuple hq
    refine SeqAt.notIn_tupleAt (eqU x) pl (fun w hw => mem_eqAt rx fx r fs w (by simpa using hw)) ⟨.bl _, H, I, rfl, ?_⟩
    rw [show its.toArray.any (eqU x) = its.any (eqU x) by simp, any_eqU r fs]
    exact q
theorem op_notIn_str : OpR X (compareOp .NotIn) (fun x y H Q => ∃ i j, x = .str i ∧ y = .str j ∧ Q (.bl (!(!(Builtin.Str.occurrences j i 0 j.length 1).isEmpty))) H) := by
  intro pins s σ H x y v u Q I rx ry h
  obtain ⟨i, j, rfl, rfl, q⟩ := h
  obtain ⟨t, rfl⟩ := rx
  obtain ⟨t', rfl⟩ := ry
  exact notIn_str ⟨.bl _, H, I, rfl, q⟩

/-! ### len, list(x), tuple(x) of any list or tuple that is read -/
theorem call_len_seq : CallR X (.builtin "len") (fun xs H Q => ∃ p ys, xs = [.ref p] ∧ (SqL X.K H p ys ∨ SqT X.K H p ys) ∧ Q (.int ys.length) H) := by
  intro pins s σ H xs us Q I r h
  obtain ⟨p, ys, rfl, hq, q⟩ := h
  obtain ⟨u, rfl, rx⟩ := vals1 r
  cases rx
  have hn := line63
  rcases hq with hq | hq
  · obtain ⟨its, r', pl, hz⟩ := I.list hq
    have hlen := r'.length
    exact Calls.call_len_list pl.isList (by simp only [List.size_toArray] <;> omega) ⟨.int ys.length, H, I.tok _, ⟨s.toks + 1, by rw [List.size_toArray, hlen]⟩, q⟩
  · obtain ⟨its, r', pl, hz⟩ := I.tuple hq
    have hlen := r'.length
    exact len_tuple pl (by simp only [List.size_toArray] <;> omega) ⟨.int ys.length, H, I.tok _, ⟨s.toks + 1, by rw [List.size_toArray, hlen]⟩, q⟩
theorem call_len_str : CallR X (.builtin "len") (fun xs H Q => ∃ z, xs = [.str z] ∧ z.length ≤ sizeLine ∧ Q (.int z.length) H) := by
  intro pins s σ H xs us Q I r h
  obtain ⟨z, rfl, hz, q⟩ := h
  obtain ⟨u, rfl, t, rfl⟩ := vals1 r
  have hn := line63
  exact len_str (by omega) ⟨.int z.length, H, I.tok _, ⟨_, rfl⟩, q⟩
theorem CallR.or {f : Value} {r r' : List V → Hp → VK → Prop} (h : CallR X f r) (h' : CallR X f r') : CallR X f (fun xs H Q => r xs H Q ∨ r' xs H Q) := by
  intro pins s σ H xs us Q I rs q
  rcases q with q | q
  · exact h pins s σ H xs us Q I rs q
  · exact h' pins s σ H xs us Q I rs q
theorem call_list_of : CallR X (.type "list") (fun xs H Q => ∃ p ys, xs = [.ref p] ∧ (SqL X.K H p ys ∨ SqT X.K H p ys) ∧ ∀ l, H l = none → Q (.ref l) (upd H l (.lst ys))) := by
  intro pins s σ H xs us Q I r h
  obtain ⟨p, ys, rfl, hq, q⟩ := h
  obtain ⟨u, rfl, rx⟩ := vals1 r
  cases rx
  have fin : ∀ (its : List Value), Vals ys its → ys.length ≤ sizeLine → ∀ (h' : Heap) (c' : Nat), (∀ b o', s.heap.get? b = some o' → h'.get? b = some o') →
      h'.get? s.heap.objs.size = some { cls := .type "list", dict := none, data := .seq its.toArray c', slots := #[] } → EP X pins σ Q (.ref s.heap.objs.size) { s with heap := h' } := fun its r' hz h' c' kp e =>
    ⟨.ref s.heap.objs.size, _, I.laid (t' := s.toks) kp (Nat.le_refl _) (show ObjOk X.prog X.w _ h' _ (.lst ys) from ⟨hz, its, c', r', e⟩), rfl, q _ (I.hok.fresh (Nat.le_refl _))⟩
  rcases hq with hq | hq
  · obtain ⟨its, r', pl, hz⟩ := I.list hq
    have hlen := r'.length
    obtain ⟨o, ho, hc, n, hd⟩ := pl.isList
    exact call_list_seq p (.inl rfl) ho hc hd (fun h' c' kp e => fin its r' hz h' c' kp e) (by simp only [List.size_toArray] <;> omega)
  · obtain ⟨its, r', pl, hz⟩ := I.tuple hq
    have hlen := r'.length
    obtain ⟨o, ho, hc, n, hd⟩ := pl
    exact call_list_seq p (.inr rfl) ho hc hd (fun h' c' kp e => fin its r' hz h' c' kp e) (by simp only [List.size_toArray] <;> omega)
theorem call_tuple_of : CallR X (.type "tuple") (fun xs H Q => ∃ p ys, xs = [.ref p] ∧ ((SqL X.K H p ys ∧ ∀ l, H l = none → Q (.ref l) (upd H l (.tup ys))) ∨ (SqT X.K H p ys ∧ Q (.ref p) H))) := by
  intro pins s σ H xs us Q I r h
  obtain ⟨p, ys, rfl, h⟩ := h
  obtain ⟨u, rfl, rx⟩ := vals1 r
  cases rx
  rcases h with ⟨hq, q⟩ | ⟨hq, q⟩
  · obtain ⟨its, r', pl, hz⟩ := I.list hq
    have hlen := r'.length
    refine call_tuple_list pl.isList (fun h' kp => ?_) (by simp only [List.size_toArray] <;> omega)
    have I1 : Inv X pins σ H { s with heap := h' } := I.kept (t' := s.toks) kp
    have I2 : Inv X pins σ (upd H h'.objs.size (.tup ys)) { s with heap := h'.push { cls := .type "tuple", data := .seq its.toArray } } :=
      I1.laid (t' := s.toks) (fun b o e => Heap.get?_push_of_some _ e) (Nat.le_refl _) (show ObjOk X.prog X.w _ _ _ (.tup ys) from ⟨hz, its, r', IsTup.new _ _⟩)
    exact ⟨.ref h'.objs.size, _, I2, rfl, q _ (I1.hok.fresh (Nat.le_refl _))⟩
  · obtain ⟨its, r', pl, hz⟩ := I.tuple hq
    exact call_tuple_same pl ⟨.ref p, H, I, rfl, q⟩

/-! ### the call of a builtin's method: o.m(..) -/
/-- the value is of that builtin type -/
def tyV (K : PySem.W.Frag) (T : String) (x : V) (H : Hp) : Prop := match x with
  | .str _ => T = "str"
  | .int _ => T = "int"
  | .ref p => (T = "list" ∧ ∃ xs, SqL K H p xs) ∨ (T = "tuple" ∧ ∃ o, K.lookup p = some o ∧ o.cls = .type "tuple" ∧ o.dict = none) ∨
      (T = "dict" ∧ ((∃ kvs, H p = some (.dK kvs)) ∨ ∃ kvs, H p = some (.dT kvs))) ∨ (T = "set" ∧ ∃ S n, H p = some (.set S n))
  | _ => False
theorem tyV_is {pins : List (Addr × Obj)} {σ : St} {H : Hp} {s : Shared} {T : String} {x : V} {v : Value} (I : Inv X pins σ H s) (r : RelV x v) (ty : tyV X.K T x H) :
    s.TypeIs v T ∧ ∀ a, v = .ref a → ∃ ob, s.heap.get? a = some ob ∧ ob.dict = none := by
  cases x with
  | str z =>
    obtain ⟨t, rfl⟩ := r
    cases (show T = "str" from ty)
    exact ⟨typeIs_str s z t, fun _ e => nomatch e⟩
  | int i =>
    obtain ⟨t, rfl⟩ := r
    cases (show T = "int" from ty)
    exact ⟨typeIs_int s i t, fun _ e => nomatch e⟩
  | ref p =>
    cases r
    rcases ty with ⟨rfl, xs, hq⟩ | ⟨rfl, o, hk, hc, hd⟩ | ⟨rfl, hk⟩ | ⟨rfl, S, n, hk⟩
    · obtain ⟨its, _, pl, _⟩ := I.list hq
      refine ⟨pl.isList.typeIs, fun a e => ?_⟩
      cases e
      obtain ⟨o, n, e, c, hd, _⟩ := pl
      exact ⟨o, e, hd⟩
    · refine ⟨⟨o, I.kIn p o hk, hc⟩, fun a e => ?_⟩
      cases e
      exact ⟨o, I.kIn _ o hk, hd⟩
    · have z : ∃ o, s.heap.get? p = some o ∧ o.ExactDict := by
        rcases hk with ⟨kvs, hk⟩ | ⟨kvs, hk⟩
        · obtain ⟨_, _, _, _, o, _, _, e, ex, _⟩ := I.hok p _ hk
          exact ⟨o, e, ex⟩
        · obtain ⟨_, _, _, _, o, _, _, e, ex, _⟩ := I.hok p _ hk
          exact ⟨o, e, ex⟩
      obtain ⟨o, e, ex⟩ := z
      refine ⟨⟨o, e, ex.1⟩, fun a e2 => ?_⟩
      cases e2
      exact ⟨o, e, ex.2.1⟩
    · obtain ⟨o, _, _, _, e, ex, _⟩ := I.hok p _ hk
      refine ⟨⟨o, e, ex.1⟩, fun a e2 => ?_⟩
      cases e2
      exact ⟨o, e, ex.2.1⟩
  | _ => exact False.elim ty
def tBM0 (K : PySem.W.Frag) (T : String) (r : V → List V → Hp → VK → Prop) (to : TE) : TE := fun σ H Q => to σ H fun x H1 => tyV K T x H1 ∧ r x [] H1 Q
def tBM (K : PySem.W.Frag) (T : String) (r : V → List V → Hp → VK → Prop) (to : TE) (t : TA) : TE := fun σ H Q => to σ H fun x H1 => tyV K T x H1 ∧ t σ H1 fun xs H2 => r x xs H2 Q
variable {o e : Expr} {es : List Expr} {to : TE} {t : TA} {name : Str} {apos cpos : Pos} {T id : String} {r : V → List V → Hp → VK → Prop}
theorem pe_bm0 (pa : PlainAttrs T) (slot : Slot T name id) (hty : typeOf (.builtin id) = pure (.type "method_descriptor")) (hm : MtR X id r) (ho : PE X o to)
    (hbase : attributeBase o name X.env (eval o X.env) = eval o X.env := by rfl) (hline : (apos.endLine == cpos.line) = true := by rfl) : PE X (.Call (.Attribute o name apos) [] [] cpos) (tBM0 X.K T r to) := by
  intro pins s σ H Q I h
  refine wpAny_Call_method0_late hbase hline (thn (ho pins s σ H _ I h) fun v s1 ⟨x, H1, I1, r1, ty, q1⟩ => ?_)
  obtain ⟨h1, h2⟩ := tyV_is I1 r1 ty
  exact ⟨T, id, pa, slot, hty, h1, h2, Calls.callWith_builtin rfl (PySem.evalArgs_none (hm pins s1 σ H1 x [] v [] Q I1 r1 .nil q1))⟩
theorem pe_bm (pa : PlainAttrs T) (slot : Slot T name id) (hty : typeOf (.builtin id) = pure (.type "method_descriptor")) (hm : MtR X id r) (ho : PE X o to) (ha : PA X (e :: es) t)
    (hbase : attributeBase o name X.env (eval o X.env) = eval o X.env := by rfl)
    (hfew : ((backTo cpos (starEach (e :: es) X.env)).all (fun x => !x.1) && (backToKw cpos (keywordEach [] X.env)).all (fun x => x.1.isSome)
      && decide ((e :: es).length + ([] : List Keyword).length + (if ([] : List Keyword).isEmpty then 0 else 1) < 30)) = true := by rfl)
    (hline : (apos.endLine == cpos.line) = true := by rfl) (hs : starEach (e :: es) X.env = (false, eval e X.env) :: starEach es X.env := by rfl) (hplain : (backTo cpos (starEach es X.env)).any (·.1) = false := by rfl) :
    PE X (.Call (.Attribute o name apos) (e :: es) [] cpos) (tBM X.K T r to t) := by
  intro pins s σ H Q I h
  refine wpAny_Call_method_late hbase hfew hline rfl (thn (ho pins s σ H _ I h) fun v s1 ⟨x, H1, I1, r1, ty, q1⟩ => ?_)
  obtain ⟨h1, h2⟩ := tyV_is I1 r1 ty
  refine ⟨T, id, pa, slot, hty, h1, h2, ?_⟩
  have hA := ha cpos pins s1 σ H1 _ I1 q1
  rw [hs] at hA ⊢
  refine Calls.callWith_builtin (by show (false || (backTo cpos (starEach es X.env)).any (·.1)) = false; rw [hplain] <;> rfl) (Calls.evalArgs_plain ?_)
  exact thn hA fun us s2 ⟨vs, H2, I2, r2, q2⟩ => hm pins s2 σ H2 x vs v us Q I2 r1 r2 q2
/- xs.append(e), list.index on a module's tuple .. are MtR facts of 06m -/
end
end L2

namespace L2
open PySem PySem.Spec PyProof.Rows

def MtM (X : Cx) (id : String) (r : V → List V → Hp → VK → Prop) : Prop :=
  ∀ (pins : List (Addr × Obj)) (s : Shared) (σ : St) (H : Hp) (x : V) (xs : List V) (v : Value) (us : List Value) (Q : VK), Inv X pins σ H s → RelV x v → Vals xs us → r x xs H Q →
    wpAny (model X.prog X.w) X.A (call (.builtin id) (v :: us)) (EP X pins σ Q) X.xe s

/-! ### lists of values -/
theorem Vals.one : ∀ {x : V} {us : List Value}, Vals [x] us → ∃ u, us = [u] ∧ RelV x u
  | _, _, .cons r .nil => ⟨_, rfl, r⟩
theorem Vals.two : ∀ {x y : V} {us : List Value}, Vals [x, y] us → ∃ u v, us = [u, v] ∧ RelV x u ∧ RelV y v
  | _, _, _, .cons r (.cons q .nil) => ⟨_, _, rfl, r, q⟩
theorem Vals.zero : ∀ {us : List Value}, Vals [] us → us = []
  | _, .nil => rfl
theorem Vals.dropLast {xs : List V} {us : List Value} (h : Vals xs us) : Vals xs.dropLast us.dropLast := by
  induction h with
  | nil => exact .nil
  | cons r t ih =>
    cases t with
    | nil => exact .nil
    | cons q t' => exact .cons r ih
theorem Vals.eraseIdx : ∀ {xs : List V} {us : List Value} (i : Nat), Vals xs us → Vals (xs.eraseIdx i) (us.eraseIdx i)
  | _, _, _, .nil => .nil
  | _, _, 0, .cons _ t => t
  | _, _, i + 1, .cons r t => .cons r (Vals.eraseIdx i t)
theorem Vals.reverse {xs : List V} {us : List Value} (h : Vals xs us) : Vals xs.reverse us.reverse := by
  induction h with
  | nil => exact .nil
  | cons r t ih => rw [List.reverse_cons, List.reverse_cons]; exact Vals.append ih (.cons r .nil)
theorem Vals.rep {xs : List V} {us : List Value} (h : Vals xs us) : ∀ k : Nat, Vals (List.replicate k xs).flatten (List.replicate k us).flatten
  | 0 => .nil
  | k + 1 => by
    rw [List.replicate_succ, List.replicate_succ, List.flatten_cons, List.flatten_cons]
    exact Vals.append h (Vals.rep h k)
theorem erase_last {α : Type} (l : List α) : l.eraseIdx (l.length - 1) = l.dropLast := by
  induction l with
  | nil => rfl
  | cons a r ih =>
    cases r with
    | nil => rfl
    | cons b r =>
      have e : (a :: b :: r).length - 1 = ((b :: r).length - 1) + 1 := by
        have h1 : (a :: b :: r).length = r.length + 2 := rfl
        have h2 : (b :: r).length = r.length + 1 := rfl
        omega
      rw [e, List.eraseIdx_cons_succ, ih]
      all_goals rfl
theorem len_erase {α : Type} : ∀ (l : List α) (i : Nat), (l.eraseIdx i).length ≤ l.length
  | [], _ => Nat.le_refl _
  | _ :: _, 0 => Nat.le_succ _
  | _ :: r, i + 1 => Nat.succ_le_succ (len_erase r i)
theorem foldl_rep (its : List Value) : ∀ (k : Nat) (acc : List Value),
    List.foldl (fun x1 x2 => x1 ++ x2) acc.toArray (List.replicate k its.toArray) = (acc ++ (List.replicate k its).flatten).toArray
  | 0, acc => by simp
  | k + 1, acc => by
    have e : acc.toArray ++ its.toArray = (acc ++ its).toArray := by simp
    have e2 : (acc ++ its) ++ (List.replicate k its).flatten = acc ++ (List.replicate (k + 1) its).flatten := by
      rw [List.replicate_succ, List.flatten_cons, List.append_assoc]
    rw [← e2, ← foldl_rep its k (acc ++ its), ← e, List.replicate_succ, List.foldl_cons]

section
variable {X : Cx} {pins : List (Addr × Obj)} {σ : St} {H : Hp} {s : Shared} {l b : Addr} {xs ys zs : List V}

/-! ### the two steps: a tracked list is rewritten, a new list is laid -/
theorem Inv.lset {its its' : List Value} {n : Nat} {f : Array Value → Array Value} {t' : Nat} (I : Inv X pins σ H s) (hH : H l = some (.lst xs))
    (e : s.heap.get? l = some { cls := .type "list", data := .seq its.toArray n }) (hf : f its.toArray = its'.toArray) (hv : Vals ys its') (hz : ys.length ≤ sizeLine) :
    Inv X pins σ (upd H l (.lst ys)) { s with heap := s.heap.update l (Obj.mapSeq f), toks := t' } := by
  have q := PySem.IsL.update e f
  rw [hf] at q
  refine I.write (x := l) (e := l) (by rw [hH]; exact trivial) (.inl rfl) (fun b' u hb hu => (Heap.get?_update_other s.heap (Obj.mapSeq f) (Ne.symm hb)).trans hu) ⟨_, q⟩ ?_
  exact ⟨hz, its', _, hv, q⟩
theorem Inv.lnew {its : List Value} {t' : Nat} (I : Inv X pins σ H s) (hv : Vals ys its) (hz : ys.length ≤ sizeLine) :
    Inv X pins σ (upd H s.heap.objs.size (.lst ys)) { s with heap := s.heap.push { cls := .type "list", data := .seq its.toArray }, toks := t' } :=
  I.laid (fun _ _ q => Heap.get?_push_of_some _ q) (Nat.le_refl _) ⟨hz, its, 0, hv, Heap.get?_push_size _ rfl⟩
theorem Inv.fresh (I : Inv X pins σ H s) : H s.heap.objs.size = none := I.hok.fresh (Nat.le_refl _)
theorem Inv.lstM (I : Inv X pins σ H s) (hH : H l = some (.lst xs)) : xs.length ≤ sizeLine ∧ ∃ (its : List Value) (n : Nat), Vals xs its ∧ xs.length = its.length ∧ s.heap.get? l = some { cls := .type "list", data := .seq its.toArray n } := by
  obtain ⟨z, its, n, r, e⟩ := I.hok l _ hH
  exact ⟨z, its, n, r, r.length, e⟩

theorem notLongL {n : Nat} (h : n ≤ sizeLine) : Builtin.List.listTooLong n = false := by
  unfold Builtin.List.listTooLong
  exact decide_eq_false (by omega)
end

section
variable {X : Cx}

/-! ### methods -/
def rAppend : V → List V → Hp → VK → Prop := fun x vs H Q => ∃ l xs y, x = .ref l ∧ vs = [y] ∧ H l = some (.lst xs) ∧ xs.length < sizeLine ∧ Q .non (upd H l (.lst (xs ++ [y])))
theorem mt_append : MtM X "list.append" rAppend := by
  intro pins s σ H x vs v us Q I rx rv h
  obtain ⟨l, xs, y, rfl, rfl, hH, hz, q⟩ := h
  cases rx
  obtain ⟨u, rfl, ru⟩ := rv.one
  obtain ⟨z, its, n, r, hl, e⟩ := I.lstM hH
  refine call_meets F.slot_list_append ⟨_, e, rfl⟩ F.entry_list_append (F.args_list_append_2 _ _) (PySem.list_append l its.toArray n u (by rw [List.size_toArray]; omega)) ⟨e, ?_⟩
  refine ⟨.non, _, I.lset (its' := its ++ [u]) hH e (by simp) (r.append (.cons ru .nil)) ?_, rfl, q⟩
  rw [List.length_append, List.length_singleton]
  omega

def rExtend : V → List V → Hp → VK → Prop := fun x vs H Q => ∃ l b xs zs, x = .ref l ∧ vs = [.ref b] ∧ H l = some (.lst xs) ∧ H b = some (.lst zs) ∧ xs.length + zs.length ≤ sizeLine ∧ Q .non (upd H l (.lst (xs ++ zs)))
theorem mt_extend : MtM X "list.extend" rExtend := by
  intro pins s σ H x vs v us Q I rx rv h
  obtain ⟨l, b, xs, zs, rfl, rfl, hH, hB, hz, q⟩ := h
  cases rx
  obtain ⟨u, rfl, ru⟩ := rv.one
  cases ru
  obtain ⟨z, its, n, r, hl, e⟩ := I.lstM hH
  obtain ⟨z2, its2, n2, r2, hl2, e2⟩ := I.lstM hB
  have hsz : its.toArray.size + its2.toArray.size ≤ sizeLine := by rw [List.size_toArray, List.size_toArray]; omega
  have hlong : ¬ (!its.toArray.isEmpty && Builtin.List.listTooLong (its.toArray.size + its2.toArray.size)) = true := by
    rw [notLongL hsz, Bool.and_false]
    exact Bool.false_ne_true
  refine call_meets F.slot_list_extend ⟨_, e, rfl⟩ F.entry_list_extend (F.args_list_extend_2 _ _)
    (AutoSeq1.list_extend_list_list_0 l its.toArray n b its2.toArray n2 hlong (by rw [List.size_toArray]; omega) (by omega)) ⟨e, e2, ?_⟩
  refine ⟨.non, _, I.lset (its' := its ++ its2) hH e (by simp) (r.append r2) ?_, rfl, q⟩
  rw [List.length_append]
  omega

def rPop : V → List V → Hp → VK → Prop := fun x vs H Q => ∃ l xs y, x = .ref l ∧ vs = [] ∧ H l = some (.lst xs) ∧ xs[xs.length - 1]? = some y ∧ Q y (upd H l (.lst xs.dropLast))
theorem mt_pop : MtM X "list.pop" rPop := by
  intro pins s σ H x vs v us Q I rx rv h
  obtain ⟨l, xs, y, rfl, rfl, hH, hy, q⟩ := h
  cases rx
  have hus := rv.zero
  subst hus
  obtain ⟨z, its, n, r, hl, e⟩ := I.lstM hH
  obtain ⟨u, hu, ru⟩ := r.get hy
  have hy' : its.toArray[its.toArray.size - 1]? = some u := by
    show its.toArray[its.length - 1]? = some u
    rw [← Array.getElem?_toList, ← hl]
    exact hu
  refine call_meets F.slot_list_pop ⟨_, e, rfl⟩ F.entry_list_pop (F.args_list_pop_1 _) (MeetsSeq.list_pop_last l its.toArray n u hy' (by rw [List.size_toArray]; omega)) ⟨e, ?_⟩
  refine ⟨y, _, I.lset (its' := its.dropLast) hH e ?_ r.dropLast ?_, ru, q⟩
  · show its.toArray.eraseIdxIfInBounds (its.toArray.size - 1) = its.dropLast.toArray
    rw [List.size_toArray, List.eraseIdxIfInBounds_toArray, erase_last]
  · rw [List.length_dropLast]
    omega

def rPopAt : V → List V → Hp → VK → Prop := fun x vs H Q => ∃ l xs i k y, x = .ref l ∧ vs = [.int i] ∧ H l = some (.lst xs) ∧ -(2 ^ 63) ≤ i ∧ i < 2 ^ 63 ∧ seqIndex? i xs.length = some k ∧ xs[k]? = some y ∧ Q y (upd H l (.lst (xs.eraseIdx k)))
theorem mt_popAt : MtM X "list.pop" rPopAt := by
  intro pins s σ H x vs v us Q I rx rv h
  obtain ⟨l, xs, i, k, y, rfl, rfl, hH, h1, h2, hk, hy, q⟩ := h
  cases rx
  obtain ⟨u, rfl, ru⟩ := rv.one
  obtain ⟨t, rfl⟩ := ru
  obtain ⟨z, its, n, r, hl, e⟩ := I.lstM hH
  obtain ⟨w, hw, rw'⟩ := r.get hy
  refine call_meets F.slot_list_pop ⟨_, e, rfl⟩ F.entry_list_pop (F.args_list_pop_2 _ _)
    (MeetsSeq.list_pop_at l its.toArray n i t k w (fitsIndex_both h1 h2) (by rw [List.size_toArray, ← hl]; exact hk) (by rw [← Array.getElem?_toList]; exact hw) (by rw [List.size_toArray]; omega)) ⟨e, ?_⟩
  refine ⟨y, _, I.lset (its' := its.eraseIdx k) hH e ?_ (r.eraseIdx k) ?_, rw', q⟩
  · show its.toArray.eraseIdxIfInBounds k = (its.eraseIdx k).toArray
    rw [List.eraseIdxIfInBounds_toArray]
  · have := len_erase xs k
    omega

def rReverse : V → List V → Hp → VK → Prop := fun x vs H Q => ∃ l xs, x = .ref l ∧ vs = [] ∧ H l = some (.lst xs) ∧ Q .non (upd H l (.lst xs.reverse))
theorem mt_reverse : MtM X "list.reverse" rReverse := by
  intro pins s σ H x vs v us Q I rx rv h
  obtain ⟨l, xs, rfl, rfl, hH, q⟩ := h
  cases rx
  have hus := rv.zero
  subst hus
  obtain ⟨z, its, n, r, hl, e⟩ := I.lstM hH
  refine call_meets F.slot_list_reverse ⟨_, e, rfl⟩ F.entry_list_reverse (F.args_list_reverse_1 _) (AutoSeq1.list_reverse_list_0 l its.toArray n (by rw [List.size_toArray]; omega)) ⟨e, ?_⟩
  refine ⟨.non, _, I.lset (its' := its.reverse) hH e (by simp) r.reverse ?_, rfl, q⟩
  rw [List.length_reverse]
  omega

def rClear : V → List V → Hp → VK → Prop := fun x vs H Q => ∃ l xs, x = .ref l ∧ vs = [] ∧ H l = some (.lst xs) ∧ Q .non (upd H l (.lst []))
theorem mt_clear : MtM X "list.clear" rClear := by
  intro pins s σ H x vs v us Q I rx rv h
  obtain ⟨l, xs, rfl, rfl, hH, q⟩ := h
  cases rx
  have hus := rv.zero
  subst hus
  obtain ⟨z, its, n, r, hl, e⟩ := I.lstM hH
  refine call_meets F.slot_list_clear ⟨_, e, rfl⟩ F.entry_list_clear (F.args_list_clear_1 _) (AutoSeq1.list_clear_list_0 l its.toArray n (by rw [List.size_toArray]; omega)) ⟨e, ?_⟩
  exact ⟨.non, _, I.lset (its' := []) (ys := []) hH e rfl .nil (Nat.zero_le _), rfl, q⟩

/-! ### list + list, list += list, list * int -/
def rCat : R2 := fun x y H Q => ∃ l b xs zs, x = .ref l ∧ y = .ref b ∧ H l = some (.lst xs) ∧ H b = some (.lst zs) ∧ xs.length + zs.length ≤ sizeLine ∧ ∀ p, H p = none → Q (.ref p) (upd H p (.lst (xs ++ zs)))
theorem op_cat : OpR X (binaryOp .Add) rCat := by
  intro pins s σ H x y v u Q I rx ry h
  obtain ⟨l, b, xs, zs, rfl, rfl, hH, hB, hz, q⟩ := h
  cases rx
  cases ry
  obtain ⟨z, its, n, r, hl, e⟩ := I.lstM hH
  obtain ⟨z2, its2, n2, r2, hl2, e2⟩ := I.lstM hB
  refine PySem.P.add_list e e2 ?_ (by rw [List.size_toArray, List.size_toArray]; omega)
  have ea : its.toArray ++ its2.toArray = (its ++ its2).toArray := by simp
  rw [ea]
  exact ⟨.ref _, _, I.lnew (t' := s.toks) (r.append r2) (by rw [List.length_append]; omega), rfl, q _ I.fresh⟩
/-- a list times an int (a negative one is nothing) -/
def rRep : R2 := fun x y H Q => ∃ l k xs, x = .ref l ∧ y = .int k ∧ H l = some (.lst xs) ∧ -(2 ^ 63) ≤ k ∧ k < 2 ^ 63 ∧ xs.length * k.toNat ≤ sizeLine ∧
  ∀ p, H p = none → Q (.ref p) (upd H p (.lst (List.replicate k.toNat xs).flatten))
theorem len_rep {α : Type} (xs : List α) (k : Nat) : (List.replicate k xs).flatten.length = k * xs.length := by
  induction k with
  | zero => simp
  | succ k ih => rw [List.replicate_succ, List.flatten_cons, List.length_append, ih, Nat.succ_mul, Nat.add_comm]
theorem op_rep : OpR X (binaryOp .Mult) rRep := by
  intro pins s σ H x y v u Q I rx ry h
  obtain ⟨l, k, xs, rfl, rfl, hH, h1, h2, hz, q⟩ := h
  cases rx
  obtain ⟨t, rfl⟩ := ry
  obtain ⟨z, its, n, r, hl, e⟩ := I.lstM hH
  have hlen : its.toArray.size * k.toNat ≤ sizeLine := by rw [List.size_toArray, ← hl]; exact hz
  have hcap : ¬ its.toArray.size * k.toNat > (2 ^ 63 - 1) / 8 := by
    have : (sizeLine : Nat) ≤ (2 ^ 63 - 1) / 8 := by decide
    omega
  have hfit : ¬ (!Builtin.List.listFitsIndex k) = true := by
    rw [fitsIndex_both h1 h2]
    exact Bool.false_ne_true
  have hlong : ¬ Builtin.List.listTooLong (its.toArray.size * k.toNat) = true := by
    rw [notLongL hlen]
    exact Bool.false_ne_true
  have hnew : List.foldl (fun x1 x2 => x1 ++ x2) #[] (List.replicate (if its.toArray.isEmpty = true then 0 else k.toNat) its.toArray) = (List.replicate k.toNat its).flatten.toArray := by
    have f0 : ∀ m : Nat, List.foldl (fun x1 x2 => x1 ++ x2) #[] (List.replicate m its.toArray) = (List.replicate m its).flatten.toArray := fun m => by
      have := foldl_rep its m []
      rw [List.nil_append] at this
      exact this
    rw [f0]
    cases its with
    | nil => simp
    | cons a r' => rw [if_neg (by simp)]
  refine wpAny_binaryOp_repeat_ref (T := "list") (U := "int") (by decide) ⟨_, e, rfl⟩ (fun s' => typeIs_int s' k t) noFill_list_mul F.fills_int_mul F.slot_int_rmul repeat_list F.slot_int_index.lookup
    (call_meets F.slot_int_rmul (typeIs_int s k t) F.entry_int_rmul (F.args_int_rmul_2 _ _) (int___rmul___int_list k t l its.toArray n)
      ⟨e, rfl, ⟨_, e, rfl⟩, call_meets F.slot_list_mul ⟨_, e, rfl⟩ F.entry_list_mul (F.args_list_mul_2 _ _) (AutoListH.list___mul___list_int_3 l its.toArray n k t hfit hcap hlong) ⟨e, ?_⟩⟩)
  rw [hnew]
  exact ⟨.ref _, _, I.lnew (t' := s.toks) (r.rep k.toNat) (by rw [len_rep, Nat.mul_comm]; exact hz), rfl, q _ I.fresh⟩

/-! ### del xs[i] -/
theorem del_list {pins : List (Addr × Obj)} {s : Shared} {σ : St} {H : Hp} {l : Addr} {xs : List V} {i : Int} {t : Tok} {k : Nat} {Q : Unit → Shared → Prop} (I : Inv X pins σ H s) (hH : H l = some (.lst xs))
    (h1 : -(2 ^ 63) ≤ i) (h2 : i < 2 ^ 63) (hk : seqIndex? i xs.length = some k) (h : ∀ s', Inv X pins σ (upd H l (.lst (xs.eraseIdx k))) s' → Q () s') :
    wpAny (model X.prog X.w) X.A (delItem (.ref l) (.int i t)) Q X.xe s := by
  obtain ⟨z, its, n, r, hl, e⟩ := I.lstM hH
  refine PySem.P.delItem_list (k := k) e (fitsIndex_both h1 h2) (by rw [List.size_toArray, ← hl]; exact hk) (h _ ?_) (by rw [List.size_toArray]; omega)
  refine I.lset (its' := its.eraseIdx k) (t' := s.toks) hH e ?_ (r.eraseIdx k) ?_
  · show its.toArray.eraseIdxIfInBounds k = (its.eraseIdx k).toArray
    rw [List.eraseIdxIfInBounds_toArray]
  · have := len_erase xs k
    omega
end

/-! ### xs[a:b] = ys -/
section
variable {prog : Program} {w : World} {A : Around} {E : Value → Shared → Prop} {s : Shared}
theorem splice_eq (its its2 : List Value) (a c : Nat) : its.toArray.extract 0 a ++ its2.toArray ++ its.toArray.extract c its.toArray.size = (its.take a ++ its2 ++ its.drop c).toArray := by
  apply Array.toList_inj.mp
  first
    | (simp
       exact List.take_of_length_le (by simp))
    | simp [List.take_of_length_le]
    | simp
theorem bounds_run {a c n : Nat} (hac : a ≤ c) (hc : c ≤ n) : sliceBounds (some (a : Int)) (some (c : Int)) none n = ((a : Int), (c : Int), 1) := by
  simp only [sliceBounds, Option.getD_none]
  have h1 : ¬ ((a : Int) < 0) := by omega
  have h2 : ¬ ((c : Int) < 0) := by omega
  simp only [h1, h2, if_false, show (1 : Int) > 0 by decide, if_true]
  congr 1
  · omega
  · congr 1; omega
set_option maxRecDepth 100000 in
/-- list.__setitem__ with a slice of step one and another list -/
theorem setItem_slice {l b sl : Addr} {items new : Array Value} {n n2 : Nat} {vl vu : Value} {a c : Nat} {Q : Unit → Shared → Prop}
    (e : s.heap.get? l = some { cls := .type "list", data := .seq items n }) (e2 : s.heap.get? b = some { cls := .type "list", data := .seq new n2 }) (hne : l ≠ b)
    (hs : s.heap.IsSliceOf sl vl vu .none) (pl : IsPart vl (some (a : Int))) (pu : IsPart vu (some (c : Int))) (hac : a ≤ c) (hc : c ≤ items.size)
    (hsz : items.size + new.size ≤ sizeLine) (h : Q () { s with heap := s.heap.update l (Obj.mapSeq fun xs => xs.extract 0 a ++ new ++ xs.extract c xs.size) }) :
    wpAny (model prog w) A (setItem (.ref l) (.ref sl) (.ref b)) Q E s := by
  have hl : s.heap.IsList l items := PySem.IsL.isList e
  have hb : s.heap.IsList b new := PySem.IsL.isList e2
  obtain ⟨os, hos, hcs, hds⟩ := id hs
  have hTs : s.TypeIs (.ref sl) "slice" := ⟨os, hos, hcs⟩
  have hstep : ¬ ((rawPart none == rawInt 0) = true) := Bool.false_ne_true
  have hsame : Builtin.List.listSameRef (.ref l) (.ref b) = false := by
    unfold Builtin.List.listSameRef
    exact beq_eq_false_iff_ne.mpr hne
  have hmax : (max (a : Int) (c : Int)).toNat = c := by omega
  have hz' : ((fun xs : Array Value => xs.extract 0 a ++ new ++ xs.extract c xs.size) items).size ≤ sizeLine + 1 := by
    simp only [Array.size_append, Array.size_extract]
    omega
  unfold setItem
  try with_reducible refine wpAny_holding ?_
  first | refine wpAny_bind (wpAny_pure ?_) | skip
  refine wpAny_bind (wpAny_sequenceKey hl.typeIs (by decide) ?_)
  refine wpAny_bind (wpAny_callSpecial?_slot (name := Str.ofString "__setitem__") hl.typeIs slot_list_setitem
    (wpAny_call_entry slot_list_setitem hl.typeIs entry_list_setitem ?_ (args_list_setitem _ _ _)))
  show wpAny _ _ (Builtin.List.listSubscript? (.ref sl) >>= _) _ _ s
  refine wpAny_bind ?_
  unfold Builtin.List.listSubscript?
  refine wpAny_bind (wpAny_specialOf hTs slice_no_index ?_)
  simp only [Option.isNone_none, if_true]
  refine wpAny_pure ?_
  show wpAny _ _ (typeOf (.ref sl) >>= _) _ _ s
  refine wpAny_bind (wpAny_typeOf hTs ?_)
  first
    | rw [if_neg (by decide)]
    | refine PySem.W.KFB.if_not (by decide) ?_
  rw [listSliceParts_eq]
  refine wpAny_bind (wpAny_bind (wpAny_field hos hds (x := .none) rfl (wpAny_bind (wpAny_listPart .none ?_))))
  rw [if_neg hstep]
  refine wpAny_bind (wpAny_field hos hds (x := vl) rfl (wpAny_bind (wpAny_listPart pl ?_)))
  refine wpAny_bind (wpAny_field hos hds (x := vu) rfl (wpAny_bind (wpAny_listPart pu (wpAny_pure ?_))))
  first
    | simp only [hsame, Bool.false_eq_true, if_false]
    | refine PySem.W.KFB.if_not hsame ?_
    | (dsimp only
       rw [if_neg (by rw [hsame]; exact Bool.false_ne_true)])
  refine wpAny_bind (m := Builtin.List.listAllItems (.ref b) "must assign iterable to extended slice") ?_
  unfold Builtin.List.listAllItems
  refine wpAny_bind (wpAny_typeOf hb.typeIs ?_)
  first
    | refine PySem.W.KFB.if_so (by decide) ?_
    | rw [if_pos (by decide)]
    | simp only [beq_self_eq_true, Bool.true_or, if_true]
  unfold Builtin.List.listItems
  refine wpAny_bind (wpAny_seqItems e2 rfl (wpAny_pure ?_))
  refine wpAny_bind (wpAny_bind (wpAny_seqItems e rfl (wpAny_pure ?_)))
  refine wpAny_bind (wpAny_of_eq ((sliceIndices_raw (some (a : Int)) (some (c : Int)) none items.size (by simp)).trans (congrArg (pure : Int × Int × Int → Sem (Int × Int × Int)) (bounds_run hac hc))) ?_)
  show wpAny _ _ (if ((1 : Int) == 1) = true then _ else _) _ _ s
  rw [if_pos (by decide)]
  refine wpAny_bind (wpAny_rule ?_)
  first
    | simp only [notLongL hsz, Bool.false_eq_true, if_false]
    | refine PySem.W.KFB.if_not (notLongL hsz) ?_
  first | refine wpAny_bind (wpAny_pure ?_) | skip
  show wpAny _ _ (updateSeq l (fun xs => xs.extract 0 ((a : Int)).toNat ++ new ++ xs.extract (max (a : Int) (c : Int)).toNat xs.size) >>= _) _ _ s
  rw [hmax, Int.toNat_natCast]
  refine wpAny_bind (wpAny_updateSeq (hz := Nat.le_trans (Nat.le_add_right _ _) hsz) (_hz' := hz') e rfl ?_)
  refine wpAny_bind (wpAny_letGo ?_)
  first
    | exact wpAny_bind (wpAny_pure (wpAny_pure ⟨.none, rfl, wpAny_pure h⟩))
    | exact wpAny_pure ⟨.none, rfl, wpAny_pure h⟩
end

section
variable {X : Cx}
/-- xs[a:c] = ys of another list, at the value level: sl is the slice object that was just made -/
theorem set_slice {pins : List (Addr × Obj)} {s : Shared} {σ : St} {H : Hp} {l b sl : Addr} {xs ys : List V} {a c : Int} {vl vu : Value} {Q : Unit → Shared → Prop} (I : Inv X pins σ H s)
    (hH : H l = some (.lst xs)) (hB : H b = some (.lst ys)) (hne : l ≠ b) (hs : s.heap.IsSliceOf sl vl vu .none) (ra : RelV (.int a) vl) (rc : RelV (.int c) vu) (h0 : 0 ≤ a) (hac : a ≤ c) (hc : c ≤ xs.length)
    (hz : xs.length + ys.length ≤ sizeLine) (h : ∀ s', Inv X pins σ (upd H l (.lst (xs.take a.toNat ++ ys ++ xs.drop c.toNat))) s' → Q () s') :
    wpAny (model X.prog X.w) X.A (setItem (.ref l) (.ref sl) (.ref b)) Q X.xe s := by
  obtain ⟨ta, rfl⟩ := ra
  obtain ⟨tc, rfl⟩ := rc
  obtain ⟨z, its, n, r, hl, e⟩ := I.lstM hH
  obtain ⟨z2, its2, n2, r2, hl2, e2⟩ := I.lstM hB
  obtain ⟨a', rfl⟩ := Int.eq_ofNat_of_zero_le h0
  obtain ⟨c', rfl⟩ := Int.eq_ofNat_of_zero_le (Int.le_trans h0 hac)
  simp only [Int.toNat_natCast] at h
  refine setItem_slice (a := a') (c := c') e e2 hne hs (.int _ _) (.int _ _) (by omega) (by rw [List.size_toArray]; omega) (by rw [List.size_toArray, List.size_toArray]; omega) (h _ ?_)
  refine I.lset (its' := its.take a' ++ its2 ++ its.drop c') (t' := s.toks) hH e ?_ (Vals.append (Vals.append (r.take _) r2) (r.drop _)) ?_
  · exact splice_eq its its2 a' c'
  · rw [List.length_append, List.length_append, List.length_take, List.length_drop]
    omega
end
end L2

namespace Att
open PySem PySem.W PySem.Calls PyProof.Rows

/-! ### the script -/
theorem ints_of_wellAll {P : Params} {h : Heap} : ∀ (ns : List Int) (vs : List Value), WellAll P h vs (ns.map WData.int) → IntsAre vs ns := by
  intro ns
  induction ns with
  | nil =>
    intro vs w
    rw [List.map_nil] at w
    cases w
    exact .nil
  | cons n ns ih =>
    intro vs w
    rw [List.map_cons] at w
    cases w with
    | cons a b =>
      cases a
      exact .cons _ _ (ih _ b)

theorem script_of {l : OpenLaw} {n : Nat} (hn : l.most = some n) {P : Params} {h : Heap} {args : List WData} {vals : List Value}
    (hpre : l.row.toRowW.claim.pre args = true) (hwl : WellAll P h vals args) :
    ∃ a vs ns, vals = [Value.ref a] ∧ args = [WData.list (ns.map WData.int)] ∧ h.get? a = some { cls := .type "list", data := .seq vs.toArray } ∧ IntsAre vs ns ∧ ns.length ≤ n := by
  have hsh : WShape.hasAll [] args [.list .int] = true := (pre_splitW hpre).1
  have hc : l.pre.holds [] { args := args } = true := (pre_splitW hpre).2
  obtain ⟨d, r, rfl, h1, h2⟩ := hasAllW_cons hsh
  obtain rfl := hasAllW_nil h2
  obtain ⟨xs, rfl, h3⟩ := hasW_list h1
  obtain ⟨ns, rfl⟩ := items_int h3
  have hlen : ns.length ≤ n := by
    unfold OpenLaw.pre at hc
    have h4 : (WTm.not (.lt (.lit (.int (n : Int))) (.len (.arg 0)))).holds [] { args := [.list (ns.map .int)] } = true := by
      have h4 := (holds_andW hc).1
      rw [hn] at h4
      exact h4
    have h5 := condW_of h4 (w_not (w_lt w_lit (w_len_list (w_arg rfl))))
    rw [List.length_map] at h5
    refine Nat.le_of_not_lt fun q => ?_
    have q' : (n : Int) < ((ns.length : Nat) : Int) := by omega
    first
      | (rw [decide_eq_true q'] at h5; exact absurd h5 (by decide))
      | (simp at h5; omega)
  cases hwl with
  | cons w1 w2 =>
    cases w2
    cases w1 with
    | list ho hall => exact ⟨_, _, ns, rfl, rfl, ho, ints_of_wellAll ns _ hall, hlen⟩

theorem post_true (l : OpenLaw) (args : List WData) : l.row.toRowW.claim.post args (.bool true) args = true :=
  postW_of (r := l.row.toRowW) (X := (true == true))
    (show WShape.has [] (.bool true) .bool = true by first | rfl | decide | simp [WShape.has, WShape.arms, WShape.armsAll])
    (show (WTm.eq .res (.lit (.bool true))).value [] { args := args, res := some (.bool true), after := args } = some (.bool (true == true)) from w_eq_bool (w_res rfl) w_lit) rfl

/-! ### the attachment: holds_open's last premise (the goal 'hc' behind k_head) from a wpAny of the law's body -/
theorem attach {l : OpenLaw} {n : Nat} {q : Program} {loose : List Str} {XP : (Str → Option Value) → Heap → Prop} {YP : World → Heap → Prop} {d : DefRec} {x : Str}
    (hn : l.most = some n) (hdf : d.params.defaults = [])
    (hbind : ∀ pm cd doc v : Value, bindArgs (docDef d.name d.params d.body d.scope pm cd doc) ⟨[v], []⟩ = pure [(x, v)])
    (hx : d.scope.names.lookup x = some .local ∨ d.scope.names.lookup x = some .cell)
    (hk : d.scope.kind = .function) (hco : d.scope.isCoroutine = false) (hgen : d.scope.isGenerator = false)
    (body : ∀ (w : World) (s₀ s₁ s : Shared) (mg mb : Str → Option Value) (fa : Addr) (o : Obj) (pm cd doc : Value) (a : Addr) (vs : List Value) (ns : List Int),
      Ground q loose [] XP w s₀ mg mb s₁.heap → YP w s₁.heap →
      s₁.heap.get? fa = some o → o.data = .func (docDef d.name d.params d.body d.scope pm cd doc) → s₁.heap.CodeRec cd d.name → mg d.name = some (.ref fa) →
      s₁.heap.get? a = some { cls := .type "list", data := .seq vs.toArray } → IntsAre vs ns → ns.length ≤ n →
      s.gens = #[] → s.os = s₁.os →
      Fr s₁.heap s₁.heap.objs.size s.heap (bindL (envOfC d.name d.scope s₁.heap.objs.size fa cd).kindOf [(x, .ref a)] fun _ => none) →
      Cl s₁.heap.objs.size (cellsFrom (s₁.heap.objs.size + 1) d.scope.names []) s.heap (bindC (envOfC d.name d.scope s₁.heap.objs.size fa cd).kindOf [(x, .ref a)] fun _ => none) →
      wpAny (model l.prog w) (callerA.deeper (envOfC d.name d.scope s₁.heap.objs.size fa cd)) (execs d.body (envOfC d.name d.scope s₁.heap.objs.size fa cd))
        (fun f s' => f = .ret (.bool true) ∧ OldK s₁.heap s'.heap ∧ s'.os = s₁.os ∧ AllBare s'.gens) (fun _ _ => False) s) :
    WalkO q loose XP YP l.row.toRowW d [] (fun f vs => PySem.call f vs) := by
  intro w s₀ s₁ mg mb G Y fa o pm cd doc dV kV ho hd hcd hD hmg hg args vals as hpre hlay hrd hwl hlo
  obtain rfl : dV = .none := Dflts.none hD hdf
  obtain rfl : kV = .none := Dflts.noKw hD
  obtain ⟨a, vs, ns, rfl, rfl, hobj, hints, hlen⟩ := script_of hn hpre hwl
  refine enter_call ?_
  refine call_cells_ret (o := o) (by rw [depth_caller]; decide) ho (fd_plain hd) G.T.nolimit hcd (hbind pm cd doc (.ref a)) (fun y hy => ?_) (fun h₁ tk F X => ?_) hco hgen hk
  · obtain rfl : y = (x, Value.ref a) := List.mem_singleton.mp hy
    rcases hx with e | e
    · exact .inl e
    · exact .inr ⟨e, cellsFrom_some _ _ _ (.inl e)⟩
  · refine wpAny_mono (body w s₀ s₁ { s₁ with heap := h₁, toks := tk } mg mb fa o pm cd doc a vs ns G Y ho (fd_plain hd) hcd hmg hobj hints hlen hg rfl F X) (fun f s' hq => ?_) (fun _ _ hq => hq)
    obtain ⟨rfl, h2, h3, h4⟩ := hq
    exact ⟨.inl ⟨.bool true, .bool true, [], rfl, fun _ => rfl, .bool true, post_true l _, fun _ => ⟨List.Pairwise.nil, fun _ hm => (nomatch hm)⟩⟩, h2, h3, h4⟩

/-- the same from a codeAny of the CALL (for a layer whose function contracts speak of calls) -/
theorem attach_call {l : OpenLaw} {n : Nat} {q : Program} {loose : List Str} {XP : (Str → Option Value) → Heap → Prop} {YP : World → Heap → Prop} {d : DefRec}
    (hn : l.most = some n) (hdf : d.params.defaults = [])
    (call : ∀ (w : World) (s₀ s₁ : Shared) (mg mb : Str → Option Value) (fa : Addr) (o : Obj) (pm cd doc : Value) (a : Addr) (vs : List Value) (ns : List Int),
      Ground q loose [] XP w s₀ mg mb s₁.heap → YP w s₁.heap →
      s₁.heap.get? fa = some o → o.data = .func (docDef d.name d.params d.body d.scope pm cd doc) → s₁.heap.CodeRec cd d.name → mg d.name = some (.ref fa) →
      s₁.heap.get? a = some { cls := .type "list", data := .seq vs.toArray } → IntsAre vs ns → ns.length ≤ n → s₁.gens = #[] →
      codeAny (model l.prog w) callerA (.call (.ref fa) ⟨[.ref a], []⟩) (fun r s' => r = .ok (.ret (.bool true)) ∧ OldK s₁.heap s'.heap ∧ s'.os = s₁.os ∧ AllBare s'.gens) s₁) :
    WalkO q loose XP YP l.row.toRowW d [] (fun f vs => PySem.call f vs) := by
  intro w s₀ s₁ mg mb G Y fa o pm cd doc dV kV ho hd hcd hD hmg hg args vals as hpre hlay hrd hwl hlo
  obtain rfl : dV = .none := Dflts.none hD hdf
  obtain rfl : kV = .none := Dflts.noKw hD
  obtain ⟨a, vs, ns, rfl, rfl, hobj, hints, hlen⟩ := script_of hn hpre hwl
  refine enter_call (codeAny_mono (call w s₀ s₁ mg mb fa o pm cd doc a vs ns G Y ho (fd_plain hd) hcd hmg hobj hints hlen hg) fun r s' hq => ?_)
  obtain ⟨rfl, h2, h3, h4⟩ := hq
  exact ⟨.inl ⟨.bool true, .bool true, [], rfl, fun _ => rfl, .bool true, post_true l _, fun _ => ⟨List.Pairwise.nil, fun _ hm => (nomatch hm)⟩⟩, h2, h3, h4⟩

/-- the same where the top left finished generators (o_head chose holds_openN): nothing may have changed at all and no generator may be left -/
theorem attachN {l : OpenLaw} {n : Nat} {q : Program} {loose : List Str} {XP : (Str → Option Value) → Heap → Prop} {YP : World → Heap → Prop} {d : DefRec} {x : Str}
    (hn : l.most = some n) (hdf : d.params.defaults = [])
    (hbind : ∀ pm cd doc v : Value, bindArgs (docDef d.name d.params d.body d.scope pm cd doc) ⟨[v], []⟩ = pure [(x, v)])
    (hx : d.scope.names.lookup x = some .local ∨ d.scope.names.lookup x = some .cell)
    (hk : d.scope.kind = .function) (hco : d.scope.isCoroutine = false) (hgen : d.scope.isGenerator = false)
    (body : ∀ (w : World) (s₀ s₁ s : Shared) (mg mb : Str → Option Value) (fa : Addr) (o : Obj) (pm cd doc : Value) (a : Addr) (vs : List Value) (ns : List Int),
      Ground q loose [] XP w s₀ mg mb s₁.heap → YP w s₁.heap →
      s₁.heap.get? fa = some o → o.data = .func (docDef d.name d.params d.body d.scope pm cd doc) → s₁.heap.CodeRec cd d.name → mg d.name = some (.ref fa) →
      s₁.heap.get? a = some { cls := .type "list", data := .seq vs.toArray } → IntsAre vs ns → ns.length ≤ n →
      s.gens = #[] → s.os = s₁.os →
      Fr s₁.heap s₁.heap.objs.size s.heap (bindL (envOfC d.name d.scope s₁.heap.objs.size fa cd).kindOf [(x, .ref a)] fun _ => none) →
      Cl s₁.heap.objs.size (cellsFrom (s₁.heap.objs.size + 1) d.scope.names []) s.heap (bindC (envOfC d.name d.scope s₁.heap.objs.size fa cd).kindOf [(x, .ref a)] fun _ => none) →
      wpAny (model l.prog w) (callerA.deeper (envOfC d.name d.scope s₁.heap.objs.size fa cd)) (execs d.body (envOfC d.name d.scope s₁.heap.objs.size fa cd))
        (fun f s' => f = .ret (.bool true) ∧ (∀ b o, s₁.heap.get? b = some o → s'.heap.get? b = some o) ∧ s'.os = s₁.os ∧ s'.gens = #[]) (fun _ _ => False) s) :
    WalkN q loose XP YP l.row.toRowW d [] (fun f vs => PySem.call f vs) := by
  intro w s₀ s₁ mg mb G Y fa o pm cd doc dV kV ho hd hcd hD hmg hg args vals as hpre hlay hrd hwl hlo
  obtain rfl : dV = .none := Dflts.none hD hdf
  obtain rfl : kV = .none := Dflts.noKw hD
  obtain ⟨a, vs, ns, rfl, rfl, hobj, hints, hlen⟩ := script_of hn hpre hwl
  refine enter_callW ?_
  refine call_cells_ret (o := o) (by rw [depth_caller]; decide) ho (fd_plain hd) G.T.nolimit hcd (hbind pm cd doc (.ref a)) (fun y hy => ?_) (fun h₁ tk F X => ?_) hco hgen hk
  · obtain rfl : y = (x, Value.ref a) := List.mem_singleton.mp hy
    rcases hx with e | e
    · exact .inl e
    · exact .inr ⟨e, cellsFrom_some _ _ _ (.inl e)⟩
  · refine wpAny_mono (body w s₀ s₁ { s₁ with heap := h₁, toks := tk } mg mb fa o pm cd doc a vs ns G Y ho (fd_plain hd) hcd hmg hobj hints hlen hg rfl F X) (fun f s' hq => ?_) (fun _ _ hq => hq)
    obtain ⟨rfl, h2, h3, h4⟩ := hq
    exact ⟨.inl ⟨.bool true, .bool true, [], rfl, fun _ => rfl, .bool true, post_true l _, fun _ => ⟨List.Pairwise.nil, fun _ hm => (nomatch hm)⟩⟩, h2, h3, h4⟩

/-! ### rules over ANY heap (no ledger) from facts about the written part K: the library's own take a ledger (News) for what they write -/
section
variable {prog : Program} {w : World} {A : Around} {E : Value → Shared → Prop} {s : Shared} {K : Frag}

/-- a def of the module, or a method (qual 'C.m'), entered: the frame is the next address; cells behind it -/
theorem call_fn {R : Result → Shared → Prop} {name qual : Str} {params : Arguments} {body : List Stmt} {scope : Scope} {dV kV doc pm cdv ct oc : Value} {an od : Option Addr} {osl : Array (Option Value)} {f : Addr} {args : Args} {binds : List (Str × Value)}
    (X : K.In s.heap) (hlim : s.heap.NoLimit) (ho : K.lookup f = some ⟨oc, od, .func (fnOf name qual params body scope dV kV doc pm an cdv ct), osl⟩) (hcd : codeIn K cdv qual = true) (hroom : A.depth < recursionLimit)
    (hbind : BindsTo s (fnOf name qual params body scope dV kV doc pm an cdv ct) args binds)
    (hkind : (binds.all fun y => scope.names.lookup y.1 == some .local || scope.names.lookup y.1 == some .cell) = true)
    (h : ∀ s₁, InCallC s s.heap.objs.size (bindL (envOfC qual scope s.heap.objs.size f cdv).kindOf binds fun _ => none) (cellsFrom (s.heap.objs.size + 1) scope.names [])
        (bindC (envOfC qual scope s.heap.objs.size f cdv).kindOf binds fun _ => none) s₁ →
      wpAny (model prog w) (A.deeper (envOfC qual scope s.heap.objs.size f cdv)) (execs body (envOfC qual scope s.heap.objs.size f cdv))
        (fun fl s' => R (.ok (.ret (match fl with | .ret v => v | _ => .none))) s')
        (fun e s' => wpAny (model prog w) (A.deeper (envOfC qual scope s.heap.objs.size f cdv)) (leaving (envOfC qual scope s.heap.objs.size f cdv) e) (fun _ s'' => R (.error e) s'') (fun e' s'' => R (.error e') s'') s') s₁)
    (hco : scope.isCoroutine = false) (hgen : scope.isGenerator = false) (hk : scope.kind = .function) : codeAny (model prog w) A (.call (.ref f) args) R s := by
  refine codeAny_call_function hroom (X _ _ ho) rfl hco hgen rfl (codeRec_of X hcd) (hbind _ _ _ _ ?_)
  refine wpAny_newFunctionEnv_cells hk (kindsX hkind _) fun env he s₁ x => ?_
  subst he
  exact ⟨hlim.keeps x.toInCall.keep, codeAny_func (h s₁ x)⟩

/-- C(..): dict at size, instance at size + 1, then __init__ -/
theorem make_obj {R : Result → Shared → Prop} {C fI : Addr} {rest : List Value} {kw : List (Str × Value)}
    (X : K.In s.heap) (hm : makesIn K C = true) (hi : findIn K (.ref C) "__init__" = some (some (.ref fI))) (hf : isFn K (.ref fI) = true)
    (h : codeAny (model prog w) (A.under (.builtin "type.__call__" ⟨.ref C :: rest, kw⟩)) (.call (.ref fI) ⟨.ref (s.heap.objs.size + 1) :: rest, kw⟩) (InitBack (s.heap.objs.size + 1) R)
      { s with heap := (s.heap.push emptyDict).push (instObj C s.heap.objs.size) }) : codeAny (model prog w) A (.call (.ref C) ⟨rest, kw⟩) R s := by
  obtain ⟨hh, g, d, t, os⟩ := s
  exact make_core (makes_of X hm) (looks_findIn X hi) (fun self => bind_fn X self (beq_iff_eq.mp hf)) (.inl rfl) h

/-- x.name where the instance's dict holds the name and the class does not -/
theorem get_field {x C : Addr} {ox : Obj} {es : List DictEntry} {n : Nat} {name : Str} {expr : Bool} {v : Value} {Q : Value → Shared → Prop}
    (X : K.In s.heap) (I : PySem.W.InstAt s.heap x ox C (some (dictOf es n))) (hg : plainGet K C name = true) (hh : hasDictIn K C = true) (ha : findIn K (.ref C) name = some none)
    (hl : getL name es = some (some v)) (hv : handedIn v = true) (h : Q v { s with toks := s.toks + 1 }) : wpAny (model prog w) A (getAttr (.ref x) name expr) Q E s :=
  get_value X I (plainGet_of hg).1 (findObj_own hh ha rfl hl) hv h

/-- x.m(..): the method found in the class -/
theorem get_method {x C f : Addr} {ox : Obj} {es : List DictEntry} {n : Nat} {name : Str} {pl : Sem Bool} {Q : Value × List Value → Shared → Prop}
    (X : K.In s.heap) (I : PySem.W.InstAt s.heap x ox C (some (dictOf es n))) (hg : plainGet K C name = true) (hf : findIn K (.ref C) name = some (some (.ref f))) (ht : isFn K (.ref f) = true)
    (hl : getL name es = some none) (h : Q (.ref f, [.ref x]) s) : wpAny (model prog w) A (getMethod (.ref x) name pl) Q E s :=
  method_fn X I (plainGet_of hg).1 (plainGet_of hg).2 hf (beq_iff_eq.mp ht) (by show (lookIn name (dictOf es n)).map _ = _; rw [lookIn_dict, hl]; rfl) h

/-! the whole heap as the ledger: makes every rule that writes through a ledger a rule over any heap -/
def noObjs (h : Heap) : Heap := { h with objs := #[] }
theorem noObjs_get (h : Heap) (b : Addr) : (noObjs h).get? b = none := by
  cases e : (noObjs h).get? b with
  | none => rfl
  | some o => exact absurd (Heap.lt_size e) (Nat.not_lt_zero _)
def ledger (h : Heap) (L d : Addr) : List (Addr × Obj) := (List.range h.objs.size).filterMap fun a => if a = L ∨ a = d then none else (h.get? a).map fun o => (a, o)
theorem mem_ledger {h : Heap} {L d a : Addr} {o : Obj} : (a, o) ∈ ledger h L d ↔ a ≠ L ∧ a ≠ d ∧ h.get? a = some o := by
  unfold ledger
  rw [List.mem_filterMap]
  constructor
  · rintro ⟨b, _, e⟩
    split at e
    · cases e
    · rename_i hb
      obtain ⟨o', ho, e'⟩ := Option.map_eq_some_iff.mp e
      cases e'
      exact ⟨fun q => hb (.inl q), fun q => hb (.inr q), ho⟩
  · rintro ⟨n1, n2, ho⟩
    refine ⟨a, List.mem_range.mpr (Heap.lt_size ho), ?_⟩
    rw [if_neg (show ¬ (a = L ∨ a = d) from fun q => q.elim n1 n2), ho] <;> rfl
theorem news_ledger {h : Heap} {L d : Addr} {od : Obj} (hne : d ≠ L) (ho : h.get? d = some od) : News (noObjs h) L h ([] ++ (d, od) :: ledger h L d) := by
  rintro ⟨a, o⟩ hp
  rcases List.mem_cons.mp hp with e | hp
  · cases e
    exact ⟨ho, hne, noObjs_get _ _⟩
  · obtain ⟨n1, n2, e⟩ := mem_ledger.mp hp
    exact ⟨e, n1, noObjs_get _ _⟩
theorem fr_all {h : Heap} {L : Addr} {m : Str → Option Value} (n : h.Ns L m) : Fr (noObjs h) L h m :=
  ⟨n, fun b o e => (by rw [noObjs_get] at e; cases e), Nat.zero_le _⟩
/-- Upd of the head entry (for append_K, setItem_K ..) -/
theorem upd_ledger {h : Heap} {L d : Addr} {o o' : Obj} : Upd d o o' ((d, o) :: ledger h L d) ((d, o') :: ledger h L d) :=
  .head fun ⟨_, _⟩ hp => (mem_ledger.mp hp).2.1

/-- x.name = v over any heap: L is any namespace of the heap (the frame's, say): its map stays, its object is not told; all else but the dict stays -/
theorem set_field {x C dx L : Addr} {ox : Obj} {m : Str → Option Value} {es es' : List DictEntry} {n n' : Nat} {name : Str} {v : Value} {Q : Unit → Shared → Prop}
    (X : K.In s.heap) (I : PySem.W.InstAt s.heap x ox C (some (dictOf es n))) (hd : ox.dict = some dx) (hL : s.heap.Ns L m) (hne : dx ≠ L)
    (hs : findIn K (.ref C) "__setattr__" = some (some (.builtin "object.__setattr__"))) (hp : plainOver K C = true) (ht : takerIn K C name = some none) (hh : hasDictIn K C = true) (hl : (getL name es).isSome = true)
    (e : (putL name (PyData.keyHash w.params name) (.str name (s.toks + 1)) v es, putN name es n) = (es', n')) (hz : es'.length ≤ 1000)
    (h : ∀ h' : Heap, h'.Ns L m → h'.get? dx = some (dictOf es' n') → (∀ b o, b ≠ dx → b ≠ L → s.heap.get? b = some o → h'.get? b = some o) → Q () { s with heap := h', toks := s.toks + 2 }) :
    wpAny (model prog w) A (setAttr (.ref x) name v) Q E s := by
  obtain ⟨e1, e2⟩ := Prod.mk.inj e
  have hdx : s.heap.get? dx = some (dictOf es n) := by
    have := I.dict
    rw [hd] at this
    exact this
  refine set_plain X I hs (osa_dict (s := { s with toks := s.toks + 1 }) (h₀ := noObjs s.heap) (L := L) (m := m) (od := dictOf es n) (od' := dictOf es' n') (es := es') (n := n') (pre := []) (post := ledger s.heap L dx)
    (fr_all hL) (news_ledger hne hdx) X I hd hp ht hh hl (fun _ q => nomatch q) (fun ⟨_, _⟩ q => (mem_ledger.mp q).2.1) (by rw [putName_dict, e1, e2]) rfl hz fun h' F' N' => ?_)
  exact h h' F'.ns (N'.get (List.Mem.head _)) fun b o n1 n2 ho => N'.get (List.Mem.tail _ (mem_ledger.mpr ⟨n2, n1, ho⟩))
end
end Att

namespace L2
open PySem PySem.Spec PyProof.Rows

theorem vals_ints : ∀ {vs : List Value} {ns : List Int}, IntsAre vs ns → Vals (ns.map V.int) vs
  | _, _, .nil => .nil
  | _, _, .cons n t h => .cons ⟨t, rfl⟩ (vals_ints h)

/-- nothing is tracked but the script, known to the object (or it is an object of the module) -/
def Only (H : Hp) : Prop := ∀ b, H b = none ∨ ∃ o xs, H b = some (.frz o (.lst xs))

/-- THE HEAD: the law's promise, at the heap behind the top. F, the promise of the law's def, may use that base is part of the heap (so K.In base, base.Ns mainGlobals mg stand in Mod) -/
theorem law_call {P : Program} {w : World} {K : PySem.W.Frag} {mg mb : Str → Option Value} {CX : CXT} {k : Nat} {fa a : Addr} {fd : FuncData} {x : Str} {sp : Sp} {s₁ : Shared} {vs : List Value} {ns : List Int}
    (KX : K.In s₁.heap) (hns : s₁.heap.Ns mainGlobals mg) (hb : s₁.heap.Ns builtinsNs mb) (hbb : ∀ x : Str, x ≠ "__name__" → mb x = bootBuiltins x) (hlim : s₁.heap.NoLimit) (hg : s₁.gens = #[])
    (ha : s₁.heap.get? a = some { cls := .type "list", data := .seq vs.toArray }) (hi : IntsAre vs ns) (hl : ns.length ≤ sizeLine) (hr : Room k callerA)
    (F : ∀ base : Heap, K.In base → base.Ns mainGlobals mg → FnOk P w K mg base CX k fa fd [x] sp) (hbind : ∀ (s : Shared) (u : Value), BindsTo s fd ⟨[u], []⟩ [(x, u)])
    (hsp : ∀ H : Hp, Only H → SqL K H a (ns.map V.int) → sp [.ref a] H (fun v _ => v = .bl true) fun _ _ _ => False)
    (hCX : ∀ H e s', CX [] H s₁ (fun _ _ _ => False) e s' → False) :
    codeAny (model P w) callerA (.call (.ref fa) ⟨[.ref a], []⟩) (fun r s' => r = .ok (.ret (.bool true)) ∧ OldK s₁.heap s'.heap ∧ s'.os = s₁.os ∧ AllBare s'.gens) s₁ := by
  have rv := vals_ints hi
  have lenV := hi.length
  -- from an abstract heap in which nothing but the script may be tracked
  have core : ∀ H : Hp, Only H → SqL K H a (ns.map V.int) → HOk P w H s₁.heap → (∀ b, H b ≠ none → b = a) → (H a ≠ none → K.lookup a = none) →
      codeAny (model P w) callerA (.call (.ref fa) ⟨[.ref a], []⟩) (fun r s' => r = .ok (.ret (.bool true)) ∧ OldK s₁.heap s'.heap ∧ s'.os = s₁.os ∧ AllBare s'.gens) s₁ := by
    intro H hO hS hok hA hK
    have base_of : ∀ {b : Addr} {o : Obj}, s₁.heap.get? b = some o → H b = none → (hidT s₁.heap H).get? b = some o := fun e n => hidT_get e n
    have noA : ∀ {b : Addr} {o : Obj} {es : Array DictEntry} {ep : Nat}, s₁.heap.get? b = some o → o.data = .dict es ep → H b = none := fun {b o es ep} e d => by
      cases q : H b with
      | none => rfl
      | some u =>
        have e' : b = a := hA b (by rw [q]; simp)
        subst e'
        rw [ha] at e; cases e
        have d' : Data.seq vs.toArray _ = Data.dict es ep := d
        cases d'
    have nsK : ∀ {b : Addr} {m : Str → Option Value}, s₁.heap.Ns b m → (hidT s₁.heap H).Ns b m := fun {b m} ⟨o, es, ep, e, d, r⟩ => ⟨o, es, ep, base_of e (noA e d), d, r⟩
    have hKb : K.In (hidT s₁.heap H) := fun b o e => base_of (KX b o e) (by
      cases q : H b with
      | none => rfl
      | some u =>
        have e' : b = a := hA b (by rw [q]; simp)
        subst e'
        rw [hK (by rw [q]; simp)] at e; cases e)
    have hM : Mod K mg (hidT s₁.heap H) := ⟨hKb, nsK hns, ⟨mb, nsK hb, hbb⟩, let ⟨mc, h1, h2⟩ := hlim; ⟨mc, nsK h1, h2⟩⟩
    have e0 : Env0 P w K mg (hidT s₁.heap H) callerA [] s₁ H := ⟨rfl, hM, fun b o e => of_hidT e, Nat.le_of_eq (hidT_size _ _), trivial, fun b hb => absurd (show b ∈ ([] : List Addr) from hb) (by simp), hok, .of_eq hg⟩
    refine codeAny_mono ((F _ hKb (nsK hns)).run callerA [] s₁ H ⟨[.ref a], []⟩ [.ref a] [.ref a] _ _ hr e0 (hbind s₁ (.ref a)) (.cons rfl .nil) (hsp H hO hS)) fun r s' h => ?_
    cases r with
    | error e => exact (hCX H e s' h).elim
    | ok fl =>
      cases fl with
      | next => exact False.elim h
      | brk => exact False.elim h
      | cont => exact False.elim h
      | ret u =>
        obtain ⟨v, H', os, bare, un, hok', r', q⟩ := h
        have q' : v = .bl true := q
        subst q'
        obtain rfl : u = Value.bool true := r'
        refine ⟨rfl, OldK.of_keep fun b o e => ?_, os, bare⟩
        cases q : H b with
        | none => exact un.keep b o e q (by intro z; exact absurd (show b ∈ ([] : List Addr) from z) (by simp)) (by simp)
        | some u =>
          rcases hO b with z | ⟨ob, xs, z⟩
          · rw [q] at z; cases z
          · have z2 := un.frzs b ob _ z
            obtain ⟨e1, _⟩ := hok b _ z
            obtain ⟨e2, _⟩ := hok' b _ z2
            rw [e] at e1; cases e1
            exact e2
  cases hk : K.lookup a with
  | some o =>
    -- the script is one of the module's own objects
    have e := KX a o hk
    rw [ha] at e
    cases e
    refine core (fun _ => none) (fun _ => .inl rfl) (.inr ⟨_, vs.toArray, _, hk, rfl, rfl, rfl, by rw [List.size_toArray, lenV]; exact hl, by simpa using rv⟩) (fun b u z => by have z' : (none : Option HO) = some u := z; cases z') (fun b z => absurd rfl z) fun z => absurd rfl z
  | none =>
    refine core (fun b => if b = a then some (.frz { cls := .type "list", data := .seq vs.toArray } (.lst (ns.map V.int))) else none) (fun b => ?_) (.inl (.inr ⟨{ cls := .type "list", data := .seq vs.toArray }, if_pos rfl⟩)) (fun b u z => ?_) (fun b z => ?_) fun _ => hk
    · by_cases hb : b = a
      · exact .inr ⟨_, _, if_pos hb⟩
      · exact .inl (if_neg hb)
    · by_cases hb : b = a
      · have z' := (if_pos hb).symm.trans z
        cases z'
        subst hb
        exact ⟨ha, by rw [List.length_map]; exact hl, vs, _, rv, ha⟩
      · have z' := (if_neg hb).symm.trans z
        cases z'
    · by_cases hb : b = a
      · exact hb
      · exact absurd (if_neg hb) z
end L2

namespace L2
open PySem PySem.Spec PyProof.Rows

abbrev KOf {K : PySem.W.Frag} {h : Heap} (_ : K.In h) : PySem.W.Frag := K

/-- the goal that k_head leaves (case hc), from the law's promise. F gives the function object fd (K's own) once, then the promise over every base -/
theorem walk_of {l : PySem.W.OpenLaw} {n k : Nat} {q : Program} {loose : List Str} {XP : (Str → Option Value) → Heap → Prop} {YP : World → Heap → Prop} {d : DefRec} {K : Params → PySem.W.Frag} {CX : World → CXT} {sp : World → Sp} {x : Str}
    (hn : l.most = some n) (hn2 : n ≤ sizeLine) (hdf : d.params.defaults = []) (hr : Room k callerA)
    (hY : ∀ (w : World) (h : Heap), YP w h → (K w.params).In h)
    (F : ∀ (w : World) (mg : Str → Option Value) (fa : Addr) (h : Heap), (K w.params).In h → h.Ns mainGlobals mg → mg d.name = some (.ref fa) →
      ∃ fd : FuncData, (∀ (s : Shared) (u : Value), BindsTo s fd ⟨[u], []⟩ [(x, u)]) ∧
        ∀ base : Heap, (K w.params).In base → base.Ns mainGlobals mg → FnOk l.prog w (K w.params) mg base (CX w) k fa fd [x] (sp w))
    (hsp : ∀ (w : World) (H : Hp) (a : Addr) (ns : List Int), ns.length ≤ n → Only H → SqL (K w.params) H a (ns.map V.int) → sp w [.ref a] H (fun v _ => v = .bl true) fun _ _ _ => False)
    (hCX : ∀ (w : World) (H : Hp) (s : Shared) (e : Value) (s' : Shared), CX w [] H s (fun _ _ _ => False) e s' → False) :
    PySem.W.WalkO q loose XP YP l.row.toRowW d [] (fun f vs => PySem.call f vs) := by
  refine Att.attach_call hn hdf fun w s₀ s₁ mg mb fa o pm cd doc a vs ns G Y ho hd hcd hmg hobj hints hlen hg => ?_
  have KX := hY w _ Y
  obtain ⟨fd, hb, hF⟩ := F w mg fa _ KX G.T.g hmg
  exact law_call KX G.T.g G.T.b G.T.builtins G.T.nolimit hg hobj hints (Nat.le_trans hlen hn2) hr hF hb (fun H hO hS => hsp w H a ns hlen hO hS) fun H e s' => hCX w H s₁ e s'
/-- the same where the promise hangs on the written part alone: (sp := My.sp_law), no hole under a binder -/
theorem walk_ofK {l : PySem.W.OpenLaw} {n k : Nat} {q : Program} {loose : List Str} {XP : (Str → Option Value) → Heap → Prop} {YP : World → Heap → Prop} {d : DefRec} {K : Params → PySem.W.Frag} {CX : CXT} {sp : PySem.W.Frag → Sp} {x : Str}
    (hn : l.most = some n) (hn2 : n ≤ sizeLine) (hdf : d.params.defaults = []) (hr : Room k callerA)
    (hY : ∀ (w : World) (h : Heap), YP w h → (K w.params).In h)
    (F : ∀ (w : World) (mg : Str → Option Value) (fa : Addr) (h : Heap), (K w.params).In h → h.Ns mainGlobals mg → mg d.name = some (.ref fa) →
      ∃ fd : FuncData, (∀ (s : Shared) (u : Value), BindsTo s fd ⟨[u], []⟩ [(x, u)]) ∧
        ∀ base : Heap, (K w.params).In base → base.Ns mainGlobals mg → FnOk l.prog w (K w.params) mg base CX k fa fd [x] (sp (K w.params)))
    (hsp : ∀ (K : PySem.W.Frag) (H : Hp) (a : Addr) (ns : List Int), ns.length ≤ n → Only H → SqL K H a (ns.map V.int) → sp K [.ref a] H (fun v _ => v = .bl true) fun _ _ _ => False)
    (hCX : ∀ (H : Hp) (s : Shared) (e : Value) (s' : Shared), CX [] H s (fun _ _ _ => False) e s' → False) :
    PySem.W.WalkO q loose XP YP l.row.toRowW d [] (fun f vs => PySem.call f vs) :=
  walk_of (K := K) (CX := fun _ => CX) (sp := fun w => sp (K w.params)) hn hn2 hdf hr hY F (fun w H a ns h1 h2 h3 => hsp (K w.params) H a ns h1 h2 h3) fun _ H s e s' => hCX H s e s'
end L2

/- THE LAST THEOREM (shape; LID, My.* are yours):
   My.Adr: a structure of the addresses that your layer names (classes, functions); My.Txt K t: a structure (Prop) of the equations over K;
   My.txt_mk : {K} {implicit addresses ..} (e1 : nsIn K mainGlobals "law" = some (some (.ref f))) (e2 : K.lookup f = some ⟨oc, od, .func (fnOf "law" "law" params body scope dV kV doc pm an cdv ct), sl⟩) (e3 : codeIn K cdv "law" = true) .. : ∃ t, My.Txt K t

set_option maxRecDepth 100000 in
set_option maxHeartbeats 0 in
theorem PySem.Challenge.cw_LID_holds : PySem.Challenge.rw_LID.Holds := by
  w_on; o_law; k_head; (case hw => w_witness2)
  k_fill
  refine L2.walk_of (l := PySem.Challenge.rw_LID) (n := 63) (k := 40) (x := "script") (CX := fun w => ..) (sp := fun _ => My.sp_law) rfl (by decide) rfl ⟨rfl, by decide, by decide⟩ (fun w h Y => PySem.W.kIn_of Y) ?F ?S ?C
  case F =>
    intro w mg fa h KX G hmg
    have T : ∃ t, My.Txt (L2.KOf KX) t := by
      dsimp only [L2.KOf]                          -- K must stand as «<heap const> w.params» for k_is
      refine' My.txt_mk ?e1 ?e2 ?e3 ..
      (case e1 => PySem.W.k_is)                    -- in the order: a name -> its address -> its object -> its parts
      (case e2 => PySem.W.k_is)
      ..
    obtain ⟨t, T⟩ := T
    have e0 := hmg.symm.trans (PySem.W.mg_of KX G T.law)
    cases e0                                       -- fa is the law's own address
    exact ⟨_, fun s u => .of_eq rfl, fun base kb nb => My.law_fn T kb nb⟩     -- if «.of_eq rfl» comes too early: refine' ⟨_, ?b, fun base kb nb => My.law_fn T kb nb⟩; exact fun s u => .of_eq rfl
  case S => exact fun w H a ns hl hO hS => ..
  case C => exact ..
(the tactic k_is has no namespace: write k_is) -/

/-! SHORT WORDS over the layer: a def of the text, its body, what a loop and a test want. -/
namespace L2
open PySem PySem.Spec PyProof.Rows

/-! ### the text by places -/
/-- the j-th statement of a class's body -/
def inClass (s : Stmt) (j : Nat) : Stmt := match s with
  | .ClassDef _ _ _ body _ _ _ _ _ _ _ => body.getD j (.Pass ⟨0, 0, 0, 0⟩)
  | _ => .Pass ⟨0, 0, 0, 0⟩
def defArgs (s : Stmt) : Arguments := match s with
  | .FunctionDef _ a _ _ _ _ _ _ _ _ => a
  | _ => { posonlyargs := [], args := [], vararg := none, kwonlyargs := [], kw_defaults := [], kwarg := none, defaults := [] }
def defBody (s : Stmt) : List Stmt := match s with
  | .FunctionDef _ _ b _ _ _ _ _ _ _ => b
  | _ => []
def defScope (s : Stmt) : Scope := match s with
  | .FunctionDef _ _ _ _ _ _ sc _ _ _ => sc
  | _ => { kind := .function, names := [], isGenerator := false, isCoroutine := false }

/-! ### no exception leaves a def -/
abbrev CX0 : CXT := fun _ _ _ _ _ _ => False
abbrev E0 : XK := fun _ _ _ => False
theorem pass0 {X : Cx} : Passes CX0 X E0 := fun _ _ _ _ _ _ _ h => h.elim

/-! ### a def (or method) of the text as it stands behind the top -/
structure Fun (K : PySem.W.Frag) (x qual : Str) (st : Stmt) (f : Addr) (fd : FuncData) : Prop where
  ex : ∃ (oc : Value) (od : Option Addr) (kV doc pm : Value) (an : Option Addr) (cdv ct : Value) (osl : Array (Option Value)),
    fd = PySem.W.fnOf x qual (defArgs st) (defBody st) (defScope st) .none kV doc pm an cdv ct ∧ K.lookup f = some ⟨oc, od, .func fd, osl⟩ ∧ PySem.W.codeIn K cdv qual = true
  kp : PySem.W.keepIn K (.ref f) = true
section
variable {P : Program} {w : World} {K : PySem.W.Frag} {mg : Str → Option Value} {base : Heap}
/-- THE RULE for a def: its body as a term of rules, and the reading of that term -/
theorem Fun.ok {x qual : Str} {st : Stmt} {f : Addr} {fd : FuncData} {N ps : List Str} {k : Nat} {sp : Sp} (F : Fun K x qual st f fd) (S : FnScope N ps (defScope st)) (len : ∀ vs H Q E, sp vs H Q E → vs.length = ps.length)
    (hbody : ∀ (cdv : Value) (A : Around) (outer : List Env) (s : Shared) (H : Hp) (vs : List V) (Q : VK) (E : XK), Room k (A.deeper (envOfC qual (defScope st) s.heap.objs.size f cdv)) → sp vs H Q E →
      ∃ t, PSs (cxOf CX0 P w K mg base N qual (defScope st) f cdv A outer s H E).nox (defBody st) t ∧ t { nx := fun _ H' => Q .non H', rt := Q } (start N vs) H) : FnOk P w K mg base CX0 (k + 1) f fd ps sp := by
  obtain ⟨oc, od, kV, doc, pm, an, cdv, ct, osl, rfl, lk, hcd⟩ := F.ex
  refine fn_of lk hcd S len fun A outer s H vs Q E hr hsp => ?_
  obtain ⟨t, h, q⟩ := hbody cdv A outer s H vs Q E hr hsp
  exact ⟨t, h.nox, q⟩
/-- how its arguments bind (no defaults): h is «fun _ _ _ _ _ _ us hl => match us, hl with | [_, _], _ => rfl», one _ a parameter -/
theorem Fun.binds {x qual : Str} {st : Stmt} {f : Addr} {fd : FuncData} {ps : List Str} (F : Fun K x qual st f fd)
    (h : ∀ (kV doc pm : Value) (an : Option Addr) (cdv ct : Value) (us : List Value), us.length = ps.length → bindArgs (PySem.W.fnOf x qual (defArgs st) (defBody st) (defScope st) .none kV doc pm an cdv ct) ⟨us, []⟩ = pure (ps.zip us)) : Binds K fd ps [] := by
  obtain ⟨oc, od, kV, doc, pm, an, cdv, ct, osl, rfl, lk, hcd⟩ := F.ex
  exact .all (h kV doc pm an cdv ct)
theorem fun_mk {x qual : Str} {st : Stmt} {f : Addr} {oc : Value} {od an : Option Addr} {osl : Array (Option Value)} {kV doc pm cdv ct : Value} (l : K.lookup f = some ⟨oc, od, .func (PySem.W.fnOf x qual (defArgs st) (defBody st) (defScope st) .none kV doc pm an cdv ct), osl⟩)
    (c : PySem.W.codeIn K cdv qual = true) (k : PySem.W.keepIn K (.ref f) = true) : Fun K x qual st f (PySem.W.fnOf x qual (defArgs st) (defBody st) (defScope st) .none kV doc pm an cdv ct) := ⟨⟨oc, od, kV, doc, pm, an, cdv, ct, osl, rfl, l, c⟩, k⟩
end
theorem hu_of {A : Around} {k : Nat} (hr : Room k A) : A.units + 1 < cLine := Nat.lt_of_le_of_lt (Nat.add_le_add_left (by decide : 1 ≤ 64) _) hr.units
theorem small1000 {n : Nat} (h : n ≤ 1000) : n < sizeLine := Nat.lt_of_le_of_lt h (by decide)

/-! ### expressions in short: the name that stands in the i-th slot -/
section
variable {X : Cx}
theorem pv (i : Nat) {x : Str} {pos : Pos} (hN : X.N[i]? = some x := by rfl) (hv : Vis X.env.scope x := by first | exact Or.inl rfl | exact Or.inr (Or.inl rfl) | exact Or.inr (Or.inr rfl)) (hd : (x == ("__debug__" : Str)) = false := by decide)
    (hcd : (x == ("__classdict__" : Str)) = false := by decide) : PE X (.Name x pos) (tVar i) := pe_var hN hv hd hcd
end

/-! ### tests -/
theorem iteF {A B : Prop} (h : B) : if false = true then A else B := by
  rw [if_neg Bool.false_ne_true]
  exact h
theorem iteT {A B : Prop} (h : A) : if true = true then A else B := by
  rw [if_pos rfl]
  exact h
theorem ite2 {c A B : Prop} [Decidable c] (h1 : c → A) (h2 : ¬ c → B) : if c then A else B := by
  by_cases h : c
  · rw [if_pos h]
    exact h1 h
  · rw [if_neg h]
    exact h2 h
theorem iteNS {c A B : Prop} [Decidable c] (hc : c) (h : B) : if (!decide c) = true then A else B := by
  rw [decide_eq_true hc]
  exact iteF h

/-! ### heaps -/
/-- all that was tracked is as it was -/
def Same (H H' : Hp) : Prop := ∀ b o, H b = some o → H' b = some o
theorem Same.refl (H : Hp) : Same H H := fun _ _ h => h
theorem Same.trans {H H1 H2 : Hp} (a : Same H H1) (b : Same H1 H2) : Same H H2 := fun c o h => b c o (a c o h)
theorem Same.free {H H' : Hp} (e : Same H H') {l : Addr} (h : H' l = Option.none) : H l = Option.none := by
  cases q : H l with
  | none => rfl
  | some o =>
    rw [e l o q] at h
    cases h
theorem Same.seq {K : PySem.W.Frag} {H H' : Hp} {a : Addr} {xs : List V} (e : Same H H') (h : SqL K H a xs) : SqL K H' a xs := by
  rcases h with (h | ⟨o, h⟩) | h
  · exact .inl (.inl (e _ _ h))
  · exact .inl (.inr ⟨o, e _ _ h⟩)
  · exact .inr h

end L2


/-! List comprehensions over the layer: the block runs in a context of its own, its free names are the outer names' cells. -/
namespace L2
open PySem PySem.Spec PyProof.Rows

/-! ### the closure of a block -/
def clFrom (cells : List (Str × Addr)) : List (Str × NameKind) → List (Str × Addr) → List (Str × Addr)
  | [], acc => acc
  | (n, k) :: r, acc => if (k == NameKind.free) = true then clFrom cells r ((n, (cells.lookup n).getD 0) :: acc) else clFrom cells r acc

theorem clFrom_mem {cells : List (Str × Addr)} {x : Str} {c : Addr} : ∀ {names : List (Str × NameKind)} {acc : List (Str × Addr)}, (x, c) ∈ clFrom cells names acc → (x, c) ∈ acc ∨ ((x, NameKind.free) ∈ names ∧ c = (cells.lookup x).getD 0)
  | [], _, h => .inl h
  | (n, k) :: r, acc, h => by
    unfold clFrom at h
    by_cases hk : (k == NameKind.free) = true
    · rw [if_pos hk] at h
      have ek : k = NameKind.free := by simpa using hk
      subst ek
      rcases clFrom_mem h with q | ⟨q1, q2⟩
      · rcases List.mem_cons.mp q with e | q
        · cases e; exact .inr ⟨List.mem_cons_self, rfl⟩
        · exact .inl q
      · exact .inr ⟨List.mem_cons_of_mem _ q1, q2⟩
    · rw [if_neg hk] at h
      rcases clFrom_mem h with q | ⟨q1, q2⟩
      · exact .inl q
      · exact .inr ⟨List.mem_cons_of_mem _ q1, q2⟩

theorem lookup_isSome_of_mem {α : Type} {x : Str} {c : α} : ∀ {l : List (Str × α)}, (x, c) ∈ l → (l.lookup x).isSome = true
  | (k, v) :: r, h => by
    rw [List.lookup_cons]
    cases hb : x == k with
    | true => rfl
    | false =>
      rcases List.mem_cons.mp h with e | h
      · cases e; simp at hb
      · exact lookup_isSome_of_mem h

theorem clFrom_has {cells : List (Str × Addr)} {x : Str} : ∀ {names : List (Str × NameKind)} {acc : List (Str × Addr)}, ((x, NameKind.free) ∈ names ∨ (acc.lookup x).isSome = true) → ((clFrom cells names acc).lookup x).isSome = true
  | [], _, h => by
    rcases h with h | h
    · exact absurd h (by simp)
    · exact h
  | (n, k) :: r, acc, h => by
    unfold clFrom
    by_cases hk : (k == NameKind.free) = true
    · rw [if_pos hk]
      refine clFrom_has ?_
      rcases h with h | h
      · rcases List.mem_cons.mp h with e | h
        · cases e
          exact .inr (by rw [List.lookup_cons, beq_self_eq_true]; rfl)
        · exact .inl h
      · refine .inr ?_
        rw [List.lookup_cons]
        cases hb : x == n with
        | true => rfl
        | false => exact h
    · rw [if_neg hk]
      refine clFrom_has ?_
      rcases h with h | h
      · rcases List.mem_cons.mp h with e | h
        · cases e; exact absurd rfl hk
        · exact .inl h
      · exact .inr h

theorem closure_go {env : Env} (f : Str × NameKind → List (Str × Addr) → Sem (ForInStep (List (Str × Addr))))
    (hf : ∀ n k cs, f (n, k) cs = if (k == NameKind.free) = true then (do let a ← cellOf env n; pure (ForInStep.yield ((n, a) :: cs))) else pure (ForInStep.yield cs)) :
    ∀ (names : List (Str × NameKind)) (acc : List (Str × Addr)), (∀ x ∈ names, x.2 = NameKind.free → ∃ c, env.cells.lookup x.1 = some c) → forIn names acc f = (pure (clFrom env.cells names acc) : Sem (List (Str × Addr)))
  | [], acc, _ => by rw [List.forIn_nil]; rfl
  | (n, k) :: r, acc, h => by
    rw [List.forIn_cons, hf]
    unfold clFrom
    have hr : ∀ x ∈ r, x.2 = NameKind.free → ∃ c, env.cells.lookup x.1 = some c := fun x hx => h x (List.mem_cons_of_mem _ hx)
    by_cases hk : (k == NameKind.free) = true
    · rw [if_pos hk, if_pos hk]
      have ek : k = NameKind.free := by simpa using hk
      obtain ⟨c, hc⟩ := h (n, k) List.mem_cons_self ek
      have hc' : env.cells.lookup n = some c := hc
      have e1 : cellOf env n = pure c := by unfold cellOf; rw [hc']
      rw [e1, hc']
      exact closure_go f hf r _ hr
    · rw [if_neg hk, if_neg hk]
      exact closure_go f hf r _ hr

theorem closure_eq {env : Env} {scope : Scope} (h : ∀ x ∈ scope.names, x.2 = NameKind.free → ∃ c, env.cells.lookup x.1 = some c) : closureFor scope env = pure (clFrom env.cells scope.names []) := by
  unfold closureFor
  dsimp only
  rw [closure_go (env := env) _ ?_ scope.names [] h]
  · rfl
  · intro n k cs
    by_cases hk : (k == NameKind.free) = true
    · simp only [hk, if_true]
    · simp only [hk, if_false]

/-! ### own cells -/
theorem cellsFrom_mem {x : Str} {c : Addr} : ∀ {names : List (Str × NameKind)} {n : Nat} {acc : List (Str × Addr)}, (x, c) ∈ cellsFrom n names acc → (x, c) ∈ acc ∨ (n ≤ c ∧ (x, NameKind.cell) ∈ names)
  | [], _, _, h => .inl h
  | (y, k) :: r, n, acc, h => by
    unfold cellsFrom at h
    by_cases hk : (k == NameKind.cell) = true
    · rw [if_pos hk] at h
      have ek : k = NameKind.cell := by simpa using hk
      subst ek
      rcases cellsFrom_mem h with q | ⟨q1, q2⟩
      · rcases List.mem_cons.mp q with e | q
        · cases e; exact .inr ⟨Nat.le_refl _, List.mem_cons_self⟩
        · exact .inl q
      · exact .inr ⟨Nat.le_of_succ_le q1, List.mem_cons_of_mem _ q2⟩
    · rw [if_neg hk] at h
      rcases cellsFrom_mem h with q | ⟨q1, q2⟩
      · exact .inl q
      · exact .inr ⟨q1, List.mem_cons_of_mem _ q2⟩
theorem cellsFrom_inj {x y : Str} {c : Addr} : ∀ {names : List (Str × NameKind)} {n : Nat} {acc : List (Str × Addr)}, (∀ p ∈ acc, p.2 < n) → (x, c) ∈ cellsFrom n names acc → (y, c) ∈ cellsFrom n names acc → ((x, c) ∈ acc ∧ (y, c) ∈ acc) ∨ x = y
  | [], _, _, _, h, h' => .inl ⟨h, h'⟩
  | (z, k) :: r, n, acc, hl, h, h' => by
    unfold cellsFrom at h h'
    by_cases hk : (k == NameKind.cell) = true
    · rw [if_pos hk] at h h'
      have hl' : ∀ p ∈ (z, n) :: acc, p.2 < n + 1 := fun p hp => by
        rcases List.mem_cons.mp hp with e | hp
        · subst e; exact Nat.lt_succ_self _
        · exact Nat.lt_succ_of_lt (hl p hp)
      rcases cellsFrom_inj hl' h h' with ⟨a, b⟩ | e
      · rcases List.mem_cons.mp a with e | a
        · obtain ⟨e1, e2⟩ := Prod.mk.inj e
          rcases List.mem_cons.mp b with e' | b
          · exact .inr (e1.trans (Prod.mk.inj e').1.symm)
          · rw [e2] at b
            exact absurd (show n < n from hl _ b) (Nat.lt_irrefl n)
        · rcases List.mem_cons.mp b with e' | b
          · rw [(Prod.mk.inj e').2] at a
            exact absurd (show n < n from hl _ a) (Nat.lt_irrefl n)
          · exact .inl ⟨a, b⟩
      · exact .inr e
    · rw [if_neg hk] at h h'
      exact cellsFrom_inj hl h h'
theorem pushCells_cell {x : Str} {c : Addr} : ∀ {names : List (Str × NameKind)} {h : Heap} {acc : List (Str × Addr)}, (x, c) ∈ cellsFrom h.objs.size names acc → (x, c) ∈ acc ∨ (pushCells h names).IsCell c none
  | [], _, _, q => .inl q
  | (y, k) :: r, h, acc, q => by
    unfold cellsFrom at q
    unfold pushCells
    by_cases hk : (k == NameKind.cell) = true
    · rw [if_pos hk] at q ⊢
      have q' : (x, c) ∈ cellsFrom (h.push { cls := .type "cell", data := .cell none }).objs.size r ((y, h.objs.size) :: acc) := by rw [Heap.size_push]; exact q
      rcases pushCells_cell q' with z | z
      · rcases List.mem_cons.mp z with e | z
        · cases e
          exact .inr ⟨_, pushCells_keeps r _ _ _ (Heap.get?_push_size _ rfl), rfl⟩
        · exact .inl z
      · exact .inr z
    · rw [if_neg hk] at q ⊢
      exact pushCells_cell q

theorem newEnv_comp {M : Model} {A : Around} {E : Value → Shared → Prop} {s : Shared} {scope : Scope} {globals : Addr} {cl : List (Str × Addr)} {qual : Str} {env : Env} {Q : Env → Shared → Prop}
    (h : Q { scope := scope, locals := s.heap.objs.size, globals := globals, cells := cellsFrom (s.heap.objs.size + 1) scope.names cl, qual := qual, func := none, code := env.code, frame := env.frame, builtins := env.builtins }
      { s with heap := pushCells (s.heap.push { cls := .type "dict", data := .dict #[] }) scope.names }) :
    wpAny M A (newFunctionEnv scope globals cl [] qual none .none (some env)) Q E s := by
  unfold newFunctionEnv
  refine wpAny_bind (wpAny_alloc ?_)
  refine wpAny_bind (wpAny_layCells _ ?_ scope.names cl _ _ ?_)
  · intro name kind cells
    by_cases hk : (kind == NameKind.cell) = true
    · simp only [hk, if_true]
    · simp only [hk, if_false]
  · have e : (s.heap.push { cls := .type "dict", data := .dict #[] }).objs.size = s.heap.objs.size + 1 := Heap.size_push ..
    rw [← e] at h
    exact wpAny_pure h

theorem lookup_relabel {env : Env} {x : Str} {k' : NameKind} : ∀ {names : List (Str × NameKind)}, (names.map fun (n, k) => if (k == NameKind.free && env.scope.kind == .function && env.kindOf n == some .cell) then (n, NameKind.cell) else (n, k)).lookup x = some k' →
    ∃ k, names.lookup x = some k ∧ (k' = k ∨ (k = .free ∧ k' = .cell))
  | [], h => by simp at h
  | (n, k) :: r, h => by
    by_cases hc : (k == NameKind.free && env.scope.kind == .function && env.kindOf n == some .cell) = true
    · simp only [List.map_cons, hc, if_true, List.lookup_cons] at h ⊢
      cases hx : x == n with
      | true =>
        rw [hx] at h
        have ek : k = NameKind.free := by
          have := hc
          simp only [Bool.and_eq_true] at this
          simpa using this.1.1
        exact ⟨k, rfl, .inr ⟨ek, (Option.some.inj h).symm⟩⟩
      | false =>
        rw [hx] at h
        exact lookup_relabel h
    · have hc' : (k == NameKind.free && env.scope.kind == .function && env.kindOf n == some .cell) = false := by simpa using hc
      simp only [List.map_cons, hc', Bool.false_eq_true, if_false, List.lookup_cons] at h ⊢
      cases hx : x == n with
      | true => rw [hx] at h; exact ⟨k, rfl, .inl (Option.some.inj h).symm⟩
      | false =>
        rw [hx] at h
        exact lookup_relabel h
theorem lookup_relabel_of {env : Env} {x : Str} {k : NameKind} : ∀ {names : List (Str × NameKind)}, names.lookup x = some k →
    ∃ k', (names.map fun (n, k) => if (k == NameKind.free && env.scope.kind == .function && env.kindOf n == some .cell) then (n, NameKind.cell) else (n, k)).lookup x = some k' ∧ (k' = k ∨ (k = .free ∧ k' = .cell))
  | [], h => by simp at h
  | (n, k₀) :: r, h => by
    by_cases hc : (k₀ == NameKind.free && env.scope.kind == .function && env.kindOf n == some .cell) = true
    · simp only [List.map_cons, hc, if_true, List.lookup_cons] at h ⊢
      cases hx : x == n with
      | true =>
        rw [hx] at h
        have ek : k₀ = NameKind.free := by
          have := hc
          simp only [Bool.and_eq_true] at this
          simpa using this.1.1
        have e2 : k₀ = k := Option.some.inj h
        exact ⟨_, rfl, .inr ⟨e2 ▸ ek, rfl⟩⟩
      | false =>
        rw [hx] at h
        exact lookup_relabel_of h
    · have hc' : (k₀ == NameKind.free && env.scope.kind == .function && env.kindOf n == some .cell) = false := by simpa using hc
      simp only [List.map_cons, hc', Bool.false_eq_true, if_false, List.lookup_cons] at h ⊢
      cases hx : x == n with
      | true => rw [hx] at h; exact ⟨k₀, rfl, .inl (Option.some.inj h)⟩
      | false =>
        rw [hx] at h
        exact lookup_relabel_of h

/-! ### the block's context -/
def compEnv (sc : Scope) (C : Addr) (env : Env) : Env :=
  { scope := relabel sc env, locals := C, globals := env.globals, cells := cellsFrom (C + 1) sc.names (clFrom env.cells sc.names []), qual := env.qual, func := none, code := env.code, frame := env.frame, builtins := env.builtins }
def cxComp (X : Cx) (N' : List Str) (sc : Scope) (C : Addr) (s₀ : Shared) (H₀ : Hp) (ex : List Addr) : Cx where
  prog := X.prog
  w := X.w
  K := X.K
  mg := X.mg
  base := X.base
  A := X.A
  N := N'
  s₀ := s₀
  H₀ := H₀
  env := compEnv sc C X.env
  outer := X.stack
  stack := X.stack
  ex := ex
  fn := fun x => decide (sc.names.lookup x = some .cell)
  calm := X.calm
  pn := []
  xe := fun _ _ => False

/-- the block's names at its entry: by the outer names' places -/
def capt (ix : List (Option Nat)) (σ : St) : St := ix.map fun o => o.bind fun j => (σ[j]?).join

/-- what a block's scope must be: N' its names, ix the outer place of each free one -/
structure CompScope (X : Cx) (N' : List Str) (ix : List (Option Nat)) (sc : Scope) : Prop where
  kind : sc.kind = .function
  nd : N'.Nodup
  uniq : (sc.names.map (·.1)).Nodup
  len : ix.length = N'.length
  free : ∀ x ∈ sc.names, x.2 = .free → X.env.kindOf x.1 = some .cell ∨ X.env.kindOf x.1 = some .free
  at_ : ∀ (i j : Nat), ix[i]? = some (some j) → ∃ x, N'[i]? = some x ∧ X.N[j]? = some x ∧ sc.names.lookup x = some .free

theorem nodup_lookup {α : Type} {x : Str} {a : α} : ∀ {l : List (Str × α)}, (l.map (·.1)).Nodup → (x, a) ∈ l → l.lookup x = some a
  | (k, v) :: r, nd, h => by
    rw [List.map_cons, List.nodup_cons] at nd
    rw [List.lookup_cons]
    rcases List.mem_cons.mp h with e | h
    · cases e; rw [beq_self_eq_true]
    · have : (x == k) = false := by
        cases q : x == k with
        | false => rfl
        | true =>
          have e : x = k := by simpa using q
          exact absurd (List.mem_map.mpr ⟨_, h, e⟩) nd.1
      rw [this]
      exact nodup_lookup nd.2 h

section
variable {X : Cx} {pins : List (Addr × Obj)} {σ : St} {H : Hp} {s : Shared} {N' : List Str} {ix : List (Option Nat)} {sc : Scope} {ex : List Addr}

/-- a cell that the block sees: an outer one or a new one -/
theorem cells_of (S : CompScope X N' ix sc) {C : Addr} {x : Str} {c : Addr} (h : (compEnv sc C X.env).cells.lookup x = some c) (ok : X.Ok) :
    (X.env.cells.lookup x = some c ∧ sc.names.lookup x = some .free) ∨ (C + 1 ≤ c ∧ sc.names.lookup x = some .cell) := by
  rcases cellsFrom_mem (mem_of_lookup h) with q | ⟨q1, q2⟩
  · rcases clFrom_mem q with q | ⟨q1, q2⟩
    · exact absurd q (by simp)
    · obtain ⟨c', hc⟩ := ok.has x (S.free _ q1 rfl)
      rw [hc] at q2
      exact .inl ⟨by rw [hc, q2]; rfl, nodup_lookup S.uniq q1⟩
  · exact .inr ⟨q1, nodup_lookup S.uniq q2⟩

theorem comp_look (S : CompScope X N' ix sc) (I : Inv X pins σ H s) (C : Addr) {i : Nat} {x : Str} {v : V} (h1 : N'[i]? = some x) (h2 : (capt ix σ)[i]? = some (some v)) :
    ∃ u c, RelV v u ∧ ((compEnv sc C X.env).kindOf x = some .cell ∨ (compEnv sc C X.env).kindOf x = some .free) ∧ (compEnv sc C X.env).cells.lookup x = some c ∧ X.env.cells.lookup x = some c ∧ s.heap.IsCell c (some u) := by
  have h2' : (ix.map fun o => o.bind fun j => (σ[j]?).join)[i]? = some (some v) := h2
  rw [List.getElem?_map] at h2'
  cases e : ix[i]? with
  | none => rw [e] at h2'; cases h2'
  | some o =>
    rw [e] at h2'
    cases o with
    | none => cases h2'
    | some j =>
      have h4 : (σ[j]?).join = some v := Option.some.inj h2'
      have h5 : σ[j]? = some (some v) := by
        cases q : σ[j]? with
        | none => rw [q] at h4; cases h4
        | some o => rw [q] at h4; exact congrArg some h4
      obtain ⟨x', n1, n2, n3⟩ := S.at_ i j e
      rw [n1] at h1
      cases h1
      have kx := S.free _ (mem_of_lookup n3) rfl
      obtain ⟨m, hn, hl⟩ := I.loc
      have vis : Vis X.env.scope x := by
        rcases kx with k | k
        · exact .inr (.inl k)
        · exact .inr (.inr k)
      obtain ⟨u, r, l⟩ := hl j x v n2 h5 vis
      rcases l with ⟨k, _⟩ | ⟨k, c, hc, z⟩
      · rcases kx with k' | k' <;> (rw [k] at k'; cases k')
      · obtain ⟨k', q, z'⟩ := lookup_relabel_of (env := X.env) (names := sc.names) n3
        have : ((cellsFrom (C + 1) sc.names (clFrom X.env.cells sc.names [])).lookup x).isSome = true := PySem.W.cellsFrom_some _ _ _ (.inr (clFrom_has (.inl (mem_of_lookup n3))))
        obtain ⟨c', hc'⟩ := Option.isSome_iff_exists.mp this
        have ec : c = c' := by
          rcases cells_of S (C := C) hc' I.ok with ⟨q1, _⟩ | ⟨_, q2⟩
          · rw [hc] at q1; exact Option.some.inj q1
          · rw [n3] at q2; cases q2
        subst ec
        refine ⟨u, c, r, ?_, hc', hc, z⟩
        show (relabel sc X.env).names.lookup x = some .cell ∨ (relabel sc X.env).names.lookup x = some .free
        rcases z' with z' | ⟨_, z'⟩
        · exact .inr (z' ▸ q)
        · exact .inl (z' ▸ q)

theorem comp_start (S : CompScope X N' ix sc) (I : Inv X pins σ H s) (hf : ∀ b ∈ ex, FpOk X pins H b) (he : ∀ b ∈ ex, ∃ o, s.heap.get? b = some o) :
    Inv (cxComp X N' sc s.heap.objs.size s H ex) [] (capt ix σ) H { s with heap := pushCells (s.heap.push { cls := .type "dict", data := .dict #[] }) sc.names } := by
  have keep : ∀ b o, s.heap.get? b = some o → (pushCells (s.heap.push { cls := .type "dict", data := .dict #[] }) sc.names).get? b = some o := fun b o e => pushCells_keeps _ _ _ _ (Heap.get?_push_of_some _ e)
  have ltC : ∀ x c, X.env.cells.lookup x = some c → c < s.heap.objs.size := fun x c e => by obtain ⟨v, q⟩ := I.cell x c e; exact q.lt
  have ltE : ∀ b ∈ ex, b < s.heap.objs.size := fun b hb => by obtain ⟨o, e⟩ := he b hb; exact Heap.lt_size e
  have ok : (cxComp X N' sc s.heap.objs.size s H ex).Ok := by
    refine ⟨I.ok.mod, S.kind, I.ok.glob, I.ok.blt, Nat.le_refl _, fun x y c h1 h2 => ?_, fun x hx => ?_, fun x c hx hc => ?_, I.ok.hd, I.ok.frames, .inl rfl, fun b hb => ⟨Nat.ne_of_lt (ltE b hb), fun x c h z => ?_⟩, I.bs, Nat.le_trans I.ok.bsz I.sz, fun b o e hb => ?_, fun b hb hm => ?_, I.stack, I.stkFree⟩
    · have l : ∀ p ∈ clFrom X.env.cells sc.names [], p.2 < s.heap.objs.size + 1 := fun p hp => by
        obtain ⟨px, pc⟩ := p
        rcases clFrom_mem hp with q | ⟨q1, q2⟩
        · exact absurd q (by simp)
        · obtain ⟨c', hc⟩ := I.ok.has px (S.free _ q1 rfl)
          rw [hc] at q2
          have := ltC _ _ hc
          show pc < _
          rw [q2]
          exact Nat.lt_succ_of_lt this
      rcases cellsFrom_inj l (mem_of_lookup h1) (mem_of_lookup h2) with ⟨a, b⟩ | e
      · rcases cells_of S h1 I.ok with ⟨q, _⟩ | ⟨q, _⟩
        · rcases cells_of S h2 I.ok with ⟨q', _⟩ | ⟨q', _⟩
          · exact I.ok.inj _ _ _ q q'
          · exact absurd (Nat.lt_of_lt_of_le (ltC _ _ q) (Nat.le_of_succ_le q')) (Nat.lt_irrefl _)
        · exact absurd (l _ a) (Nat.not_lt.mpr q)
      · exact e
    · have hx' : (relabel sc X.env).names.lookup x = some .cell ∨ (relabel sc X.env).names.lookup x = some .free := hx
      have : sc.names.lookup x = some .cell ∨ sc.names.lookup x = some .free := by
        rcases hx' with q | q
        · obtain ⟨k, e, z⟩ := lookup_relabel (names := sc.names) q
          rcases z with z | ⟨z, _⟩
          · exact .inl (z ▸ e)
          · exact .inr (z ▸ e)
        · obtain ⟨k, e, z⟩ := lookup_relabel (names := sc.names) q
          rcases z with z | ⟨_, z⟩
          · exact .inr (z ▸ e)
          · cases z
      refine Option.isSome_iff_exists.mp ?_
      show ((cellsFrom (s.heap.objs.size + 1) sc.names (clFrom X.env.cells sc.names [])).lookup x).isSome = true
      rcases this with q | q
      · exact PySem.W.cellsFrom_some _ _ _ (.inl q)
      · exact PySem.W.cellsFrom_some _ _ _ (.inr (clFrom_has (.inl (mem_of_lookup q))))
    · have hx' : sc.names.lookup x = some .cell := of_decide_eq_true hx
      rcases cells_of S hc I.ok with ⟨_, q⟩ | ⟨q, _⟩
      · rw [hx'] at q; cases q
      · exact Nat.le_of_succ_le q
    · rcases cells_of S h I.ok with ⟨q, _⟩ | ⟨q, _⟩
      · exact (hf b hb).2.2.2.2.1 x c q z
      · exact absurd (Nat.lt_of_lt_of_le (ltE b hb) (Nat.le_of_succ_le (z ▸ q))) (Nat.lt_irrefl _)
    · rcases (hf b hb).2.2.2.1 with z | z
      · exact I.ok.noex b o e z
      · exact absurd (Nat.lt_of_lt_of_le (Heap.lt_size e) (Nat.le_trans I.ok.bsz z)) (Nat.lt_irrefl _)
    · rcases List.mem_cons.mp (I.stkSub b hm) with z | z
      · exact (hf b hb).2.1 z
      · exact (hf b hb).2.2.1 z
  refine ⟨ok, rfl, I.bare, Un.kept keep, ⟨fun _ => none, ?_, fun i x v h1 h2 h3 => ?_⟩, fun x c h => ?_, I.hok.fresh (Nat.le_refl _), fun x c h => ?_, fun p hp => absurd (show p ∈ ([] : List (Addr × Obj)) from hp) (by simp), I.hok.kept keep, ?_⟩
  · exact (Heap.Ns.new s.heap (.type "dict")).keeps fun b o e => pushCells_keeps _ _ _ _ e
  · obtain ⟨u, c, r, k, hc, _, z⟩ := comp_look S I s.heap.objs.size h1 h2
    exact ⟨u, r, .inr ⟨k, c, hc, z.keeps keep⟩⟩
  · rcases cells_of S h I.ok with ⟨q, _⟩ | ⟨q, _⟩
    · obtain ⟨v, z⟩ := I.cell x c q
      exact ⟨v, z.keeps keep⟩
    · have h' : (x, c) ∈ cellsFrom (s.heap.push { cls := .type "dict", data := .dict #[] }).objs.size sc.names (clFrom X.env.cells sc.names []) := by rw [Heap.size_push]; exact mem_of_lookup h
      rcases pushCells_cell h' with z | z
      · rcases clFrom_mem z with z | ⟨z1, z2⟩
        · exact absurd z (by simp)
        · obtain ⟨c', hc⟩ := I.ok.has x (S.free _ z1 rfl)
          rw [hc] at z2
          have := ltC _ _ hc
          rw [show c = c' from z2] at q
          exact absurd (Nat.lt_of_lt_of_le this (Nat.le_of_succ_le q)) (Nat.lt_irrefl _)
      · exact ⟨none, z⟩
  · rcases cells_of S h I.ok with ⟨q, _⟩ | ⟨q, _⟩
    · exact I.freeC x c q
    · exact I.hok.fresh (Nat.le_of_succ_le q)
  · show (ix.map _).length = N'.length
    rw [List.length_map]; exact S.len

/-- the target's names are forgotten, the free ones hold what they held -/
theorem comp_back {H' : Hp} {s' : Shared} {σ' : St} {ps : List (Addr × Obj)} (S : CompScope X N' ix sc) (I : Inv X pins σ H s) (hf : ∀ b ∈ ex, FpOk X pins H b)
    (J : Inv (cxComp X N' sc s.heap.objs.size s H ex) ps σ' H' s') : Inv (cxComp X N' sc s.heap.objs.size s H ex) [] (capt ix σ) H' s' := by
  obtain ⟨m, hn, _⟩ := J.loc
  refine ⟨J.ok, J.os, J.bare, J.base, ⟨m, hn, fun i x v h1 h2 h3 => ?_⟩, J.cell, J.free, J.freeC, fun p hp => absurd (show p ∈ ([] : List (Addr × Obj)) from hp) (by simp), J.hok, ?_⟩
  · obtain ⟨u, c, r, k, hc, hx, ⟨o, ho, hd⟩⟩ := comp_look S I s.heap.objs.size h1 h2
    have u1 : Un (frs X.stack) ex H H' s.heap s'.heap := J.base
    obtain ⟨sl, q⟩ := u1.any ho (I.freeC x c hx) fun z => (hf c z).2.2.2.2.1 x c hx rfl
    exact ⟨u, r, .inr ⟨k, c, hc, _, q, hd⟩⟩
  · show (ix.map _).length = N'.length
    rw [List.length_map]; exact S.len

/-- the block is left: the outer state again -/
theorem comp_leave {H' : Hp} {s' : Shared} {h' : Heap} {σ' : St} {ps : List (Addr × Obj)} (I : Inv X pins σ H s) (hf : ∀ b ∈ ex, FpOk X pins H b)
    (J : Inv (cxComp X N' sc s.heap.objs.size s H ex) ps σ' H' s') (hs : Heap.SameBut s.heap.objs.size s'.heap h') : Inv X pins σ H' { s' with heap := h' } := by
  have u : Un (frs X.stack) ex H H' s.heap s'.heap := J.base
  have ne : ∀ b o, s.heap.get? b = some o → b ≠ s.heap.objs.size := fun b o e => Nat.ne_of_lt (Heap.lt_size e)
  have g : ∀ b, b ≠ s.heap.objs.size → h'.get? b = s'.heap.get? b := fun b hb => hs.2 b hb
  have hC : H' s.heap.objs.size = none := J.free
  refine I.call' (s' := { s' with heap := h' }) (ch := ex) J.os ⟨fun b o e n hb hx => ?_, fun b o e n hb hx => ?_, u.free, fun b o e hx => ?_, u.tups, u.frzs, u.tbls⟩ (fun b o e => ?_) J.bare fun b hb => ?_
  · exact (g b (ne b o e)).trans (u.keep b o e n hb hx)
  · obtain ⟨sl, q⟩ := u.slot b o e n hb hx
    exact ⟨sl, (g b (ne b o e)).trans q⟩
  · obtain ⟨o', q⟩ := u.there b o e hx
    exact ⟨o', (g b (ne b o e)).trans q⟩
  · refine (J.hok b o e).stay (fun c v hc q => (g c ?_).trans q) (fun _ q => q) fun _ _ q => q
    rintro rfl
    rcases hc with z | z
    · rw [← z, hC] at e; cases e
    · rw [hC] at z; cases z
  · obtain ⟨f0, f1, f2, f3, f4, f5⟩ := hf b hb
    exact ⟨f3, f1, f4, f5⟩
end

/-! ### tests of a clause -/
def PF (X : Cx) (ifs : List Expr) (t : TT) : Prop :=
  ∀ (pins : List (Addr × Obj)) (s : Shared) (σ : St) (H : Hp) (Q : Bool → Hp → Prop), Inv X pins σ H s → t σ H Q →
    wpAny (model X.prog X.w) X.A (forIn ifs true fun c r => if r = true then do let ok ← isTrue c X.env (eval c X.env); pure (ForInStep.yield ok) else pure (ForInStep.yield r)) (TP X pins σ Q) X.xe s
def tYes : TT := fun _ H Q => Q true H
theorem pf_nil {X : Cx} : PF X [] tYes := fun _ _ _ H _ I h => wpAny_tests_nil ⟨H, I, h⟩
theorem pf_one {X : Cx} {c : Expr} {t : TT} (h : PT X c t) : PF X [c] t := fun pins s σ H Q I hw => wpAny_tests_one (h pins s σ H Q I hw)

/-! ### the block's loop -/
theorem compLoop_any {prog : Program} {w : World} {A : Around} {R : Result → Shared → Prop} {s : Shared} {elt target iter : Expr} {ifs : List Expr} {scope : Scope} {pos : Pos} {it acc : Value} {env : Env} (I : Nat → Shared → Prop)
    (turn : ∀ n s, I n s → wpAny (model prog w) A (pyNext it) (fun r s₁ => match r with
      | none => R (.ok .next) s₁
      | some v => wpAny (model prog w) A (letOwnedTupleGo target it v) (fun _ s₀ => wpAny (model prog w) A (assign target env v) (fun _ s₂ =>
          wpAny (model prog w) A (forIn ifs true fun c r => if r = true then do let ok ← isTrue c env (eval c env); pure (ForInStep.yield ok) else pure (ForInStep.yield r)) (fun ok s₃ =>
            if ok = true then wpAny (model prog w) A (eval elt env) (fun x s₄ =>
              wpAny (model prog w) A (call (.builtin "list.append") [acc, x]) (fun _ s₅ => ∃ m, m < n ∧ I m s₅) (fun _ _ => False) s₄) (fun _ _ => False) s₃
            else ∃ m, m < n ∧ I m s₃) (fun _ _ => False) s₂) (fun _ _ => False) s₀) (fun _ _ => False) s₁) (fun _ _ => False) s)
    (n : Nat) (h : I n s) :
    codeAny (model prog w) A (.compLoop (.ListComp elt [⟨target, iter, ifs, 0⟩] scope pos) 0 it acc env) R s := by
  refine codeAny_loop rfl I (fun n s hI => ?_) n h
  show wpAny _ A ((compTurn (.ListComp elt [⟨target, iter, ifs, 0⟩] scope pos) 0 it acc env).onRaise (fun x => do noteFrame x env; theTreesLotGoes x)) _ _ s
  refine wpAny_noted ?_
  rw [compTurn_list]
  refine wpAny_bind (wpAny_standAt (wpAny_bind (wpAny_mono (turn n s hI) (fun r s₁ h₁ => ?_) fun _ _ z => z.elim)))
  cases r with
  | none => exact wpAny_pure h₁
  | some v =>
    refine wpAny_bind (wpAny_mono h₁ (fun _ s₀ h₀ => ?_) fun _ _ z => z.elim)
    refine wpAny_bind (wpAny_mono h₀ (fun _ s₂ h₂ => wpAny_bind (wpAny_mono h₂ (fun ok s₃ h₃ => ?_) fun _ _ z => z.elim)) fun _ _ z => z.elim)
    cases ok with
    | false => exact wpAny_pure ⟨rfl, h₃⟩
    | true =>
      exact wpAny_bind (wpAny_bind (wpAny_mono h₃ (fun x s₄ h₄ => wpAny_bind (wpAny_mono h₄ (fun _ s₅ h₅ => wpAny_pure (wpAny_pure ⟨rfl, h₅⟩)) fun _ _ z => z.elim)) fun _ _ z => z.elim))

/-- what a comprehension's reading asks behind its iterator J: W by the turn, a measure, the items so far -/
def CompW (J : It) (ix : List (Option Nat)) (g : TG) (tf : TT) (te : TE) (σ : St) (H1 : Hp) (Q : Addr → Hp → Prop) : Prop :=
  ∀ D, H1 D = none → ∃ W : Nat → Nat → List V → Hp → Prop, (∃ m, W 0 m [] (upd H1 D (.lst []))) ∧ ∀ i m ys H2, W i m ys H2 → H2 D = some (.lst ys) →
    (J.stop i H2 ∧ Q D H2) ∨ (J.go i H2 ∧ ∀ x H3, J.yld i H2 x H3 → g x (capt ix σ) H3 fun σ4 H4 => tf σ4 H4 fun b H5 =>
      if b = true then te σ4 H5 fun v H6 => H6 D = some (.lst ys) ∧ ys.length < sizeLine ∧ ∃ m', m' < m ∧ W (i + 1) m' (ys ++ [v]) (upd H6 D (.lst (ys ++ [v])))
      else H5 D = some (.lst ys) ∧ ∃ m', m' < m ∧ W (i + 1) m' ys H5)
def tComp (wi : TI) (ix : List (Option Nat)) (g : TG) (tf : TT) (te : TE) : TE := fun σ H Q => wi σ H fun J H1 => CompW J ix g tf te σ H1 fun D H2 => Q (.ref D) H2

section
variable {X : Cx} {N' : List Str} {ix : List (Option Nat)} {sc : Scope} {elt tg iter : Expr} {ifs : List Expr} {wi : TI} {g : TG} {tf : TT} {te : TE} {pos : Pos}

set_option maxHeartbeats 1000000 in
/-- the block, from the iterator on -/
theorem comp_block (S : CompScope X N' ix sc) (hc : X.calm = true)
    (hg : ∀ C s₀ H₀ ex, PG (cxComp X N' sc C s₀ H₀ ex) tg g) (hf : ∀ C s₀ H₀ ex, PF (cxComp X N' sc C s₀ H₀ ex) ifs tf) (he : ∀ C s₀ H₀ ex, PE (cxComp X N' sc C s₀ H₀ ex) elt te)
    {pins : List (Addr × Obj)} {σ : St} {s2 : Shared} {itv : Value} {Q : Addr → Hp → Prop} {E : Value → Shared → Prop} {RR : Value → Addr → Result → Shared → Prop}
    (h2 : PIE X pins σ tg (fun J H1 => CompW J ix g tf te σ H1 Q) itv s2)
    (hR : ∀ (D C : Addr) (H3 H' : Hp) (s3 s' : Shared) (σ' : St) (ex : List Addr) (ps : List (Addr × Obj)), C = s3.heap.objs.size → Inv X pins σ H3 s3 → (∀ b ∈ ex, FpOk X pins H3 b) → Inv (cxComp X N' sc s3.heap.objs.size s3 H3 ex) ps σ' H' s' → Q D H' → RR (.ref D) C (.ok .next) s') :
    wpAny (model X.prog X.w) X.A (newList []) (fun acc s₃ => wpAny (model X.prog X.w) X.A (newFunctionEnv sc X.env.globals (clFrom X.env.cells sc.names []) [] X.env.qual none .none (some X.env)) (fun cenv s₄ =>
      codeAny (model X.prog X.w) X.A (.compStart (.ListComp elt [⟨tg, iter, ifs, 0⟩] sc pos) 0 itv acc { cenv with scope := relabel sc X.env }) (RR acc cenv.locals) s₄) E s₃) E s2 := by
  obtain ⟨it, fp, tn, J, H2, rfl, I2, T, st2, f2, cw⟩ := h2
  obtain ⟨W, ⟨m0, w0⟩, turn⟩ := cw s2.heap.objs.size I2.fresh
  refine wpAny_newObj_type ?_
  generalize hs3 : ({ s2 with heap := s2.heap.push { cls := .type "list", dict := none, data := .seq ([] : List Value).toArray } } : Shared) = s3
  have I3 : Inv X pins σ (upd H2 s2.heap.objs.size (.lst [])) s3 := by
    rw [← hs3]
    exact I2.lnew (its := []) (t' := s2.toks) .nil (Nat.zero_le _)
  have k23 : ∀ b o, s2.heap.get? b = some o → s3.heap.get? b = some o := fun b o e => by rw [← hs3]; exact Heap.get?_push_of_some _ e
  have fD : ∀ b ∈ fp, b ≠ s2.heap.objs.size := fun b hb => by
    obtain ⟨o, e, _⟩ := T.obj _ _ st2 b hb
    exact Nat.ne_of_lt (Heap.lt_size e)
  have f3 : ∀ b ∈ fp, FpOk X pins (upd H2 s2.heap.objs.size (.lst [])) b := fun b hb => ⟨by rw [upd_ne (fD b hb)]; exact (f2 b hb).1, (f2 b hb).2⟩
  have st3 : tn 0 s3.heap := T.keep _ _ _ st2 fun b _ o e => k23 b o e
  have e3 : ∀ b ∈ fp, ∃ o, s3.heap.get? b = some o := fun b hb => by
    obtain ⟨o, e, _⟩ := T.obj _ _ st3 b hb
    exact ⟨o, e⟩
  refine newEnv_comp ?_
  have J4 := comp_start (ex := fp) S I3 f3 e3
  have k34 : ∀ b o, s3.heap.get? b = some o → (pushCells (s3.heap.push { cls := .type "dict", data := .dict #[] }) sc.names).get? b = some o := fun b o e => pushCells_keeps _ _ _ _ (Heap.get?_push_of_some _ e)
  generalize hs4 : ({ s3 with heap := pushCells (s3.heap.push { cls := .type "dict", data := .dict #[] }) sc.names } : Shared) = s4 at J4
  have st4 : tn 0 s4.heap := by rw [← hs4]; exact T.keep _ _ _ st3 fun b _ o e => k34 b o e
  show codeAny (model X.prog X.w) X.A (.compStart (.ListComp elt [⟨tg, iter, ifs, 0⟩] sc pos) 0 (.ref it) (.ref s2.heap.objs.size) (compEnv sc s3.heap.objs.size X.env)) (RR (.ref s2.heap.objs.size) s3.heap.objs.size) s4
  generalize hY : cxComp X N' sc s3.heap.objs.size s3 (upd H2 s2.heap.objs.size (.lst [])) fp = Y at J4
  have yP : Y.prog = X.prog := by rw [← hY]; rfl
  have yw : Y.w = X.w := by rw [← hY]; rfl
  have yK : Y.K = X.K := by rw [← hY]; rfl
  have yA : Y.A = X.A := by rw [← hY]; rfl
  have ye : Y.env = compEnv sc s3.heap.objs.size X.env := by rw [← hY]; rfl
  have yx : Y.xe = fun _ _ => False := by rw [← hY]; rfl
  have yc : Y.calm = true := by rw [← hY]; exact hc
  have yfs : Y.fs = frs X.stack := by rw [← hY]; rfl
  have yex : Y.ex = fp := by rw [← hY]; rfl
  have ypn : Y.pn = [] := by rw [← hY]; rfl
  have yl : Y.env.locals = s3.heap.objs.size := by rw [ye]; rfl
  have hgY : PG Y tg g := by rw [← hY]; exact hg _ _ _ _
  have hfY : PF Y ifs tf := by rw [← hY]; exact hf _ _ _ _
  have heY : PE Y elt te := by rw [← hY]; exact he _ _ _ _
  have okY := J4.ok
  have stat : ∀ {H' : Hp}, (∀ b ∈ fp, H' b = none) → ∀ b ∈ fp, FpOk Y [] H' b := fun hn b hb => by
    have x := okY.exf b (by rw [yex]; exact hb)
    exact ⟨hn b hb, x.1, okY.exfs b (by rw [yex]; exact hb), .inl (by rw [yex]; exact hb), x.2, fun p hp => by rw [ypn] at hp; exact absurd hp (by simp)⟩
  have loop : codeAny (model X.prog X.w) X.A (.compLoop (.ListComp elt [⟨tg, iter, ifs, 0⟩] sc pos) 0 (.ref it) (.ref s2.heap.objs.size) (compEnv sc s3.heap.objs.size X.env)) (RR (.ref s2.heap.objs.size) s3.heap.objs.size) s4 := by
    refine compLoop_any (fun n s' => ∃ i ys H', Inv Y [] (capt ix σ) H' s' ∧ tn i s'.heap ∧ (∀ b ∈ fp, H' b = none) ∧ H' s2.heap.objs.size = some (.lst ys) ∧ W i n ys H') ?_ m0 ⟨0, [], _, J4, st4, fun b hb => (f3 b hb).1, upd_same, w0⟩
    rintro n s5 ⟨i, ys, H5, I5, st5, fr5, hD5, w5⟩
    have lenc : (capt ix σ).length = Y.N.length := J4.len
    rcases turn i n ys H5 w5 hD5 with ⟨stop, q⟩ | ⟨go, step⟩
    · have r := T.done Y yP yw yK yc i [] s5 (capt ix σ) H5 (fun _ _ => False) I5 (stat fr5) st5 stop
      rw [yA] at r
      refine thn r fun r s6 ⟨hr, I6⟩ => ?_
      subst hr
      refine hR _ _ _ H5 s3 s6 (capt ix σ) fp [] rfl I3 f3 ?_ q
      rw [hY]; exact I6
    · have r := T.item Y yP yw yK yc i [] s5 (capt ix σ) H5 (fun _ _ => False) I5 (stat fr5) st5 go
      rw [yA] at r
      refine thn r fun r s6 ⟨u, hr, h6⟩ => ?_
      subst hr
      refine thn h6 fun _ s7 ⟨x, H7, I7, r7, y7, st7, fr7⟩ => ?_
      have I7' := I7.pinned (stat fr7) (T.obj _ _ st7)
      have r2 := hgY _ s7 (capt ix σ) H7 x u _ I7' r7 (step x H7 y7)
      rw [yP, yw, yA, ye, yx] at r2
      refine thn r2 fun _ s8 ⟨σ8, H8, I8, q8⟩ => ?_
      have r3 := hfY _ s8 σ8 H8 _ I8 q8
      rw [yP, yw, yA, ye, yx] at r3
      refine thn r3 fun ok s9 ⟨H9, I9, q9⟩ => ?_
      have again : ∀ {s10 : Shared} {σ10 : St} {H10 : Hp}, Inv Y ([] ++ pinsAt fp s7.heap) σ10 H10 s10 → σ10.length = Y.N.length → Inv Y [] (capt ix σ) H10 s10 → tn (i + 1) s10.heap ∧ ∀ b ∈ fp, H10 b = none := fun {s10 σ10 H10} J _ _ => by
        have p := fun b hb o e => J.pin (b, o) (List.mem_append_right _ (List.mem_append_right _ (mem_pinsAt (fp := fp) (h := s7.heap) (b := b) (o := o) hb e)))
        refine ⟨T.keep _ _ _ st7 fun b hb o e => (p b hb o e).1, fun b hb => ?_⟩
        obtain ⟨o, e, d⟩ := T.obj _ _ st7 b hb
        exact (p b hb o e).2.1
      -- the block's free names still hold what they held: their cells are the outer frame's
      have back : ∀ {s10 : Shared} {H10 : Hp}, Inv Y ([] ++ pinsAt fp s7.heap) σ8 H10 s10 → Inv Y [] (capt ix σ) H10 s10 := fun {s10 H10} J => by
        rw [← hY] at J ⊢
        exact comp_back S I3 f3 J
      cases ok with
      | false =>
        rw [if_neg (by decide)] at q9 ⊢
        obtain ⟨hD9, m', hm, w9⟩ := q9
        have B := back I9
        have z := again I9 I9.len B
        exact ⟨m', hm, i + 1, ys, H9, B, z.1, z.2, hD9, w9⟩
      | true =>
        rw [if_pos rfl] at q9 ⊢
        have r4 := heY _ s9 σ8 H9 _ I9 q9
        rw [yP, yw, yA, ye, yx] at r4
        refine thn r4 fun v s10 ⟨y, H10, I10, r10, hD10, hz, m', hm, w10⟩ => ?_
        have r5 := mt_append (X := Y) _ s10 σ8 H10 (.ref s2.heap.objs.size) [y] (.ref s2.heap.objs.size) [v] (fun _ H11 => H11 = upd H10 s2.heap.objs.size (.lst (ys ++ [y]))) I10 rfl (.cons r10 .nil) ⟨_, ys, y, rfl, rfl, hD10, hz, rfl⟩
        rw [yP, yw, yA, yx] at r5
        refine thn r5 fun _ s11 ⟨_, H11, I11, _, e11⟩ => ?_
        subst e11
        have B := back I11
        have z := again I11 I11.len B
        exact ⟨m', hm, i + 1, ys ++ [y], _, B, z.1, z.2, upd_same, w10⟩
  exact codeAny_compStart_list loop (T.self _ 0 _ _ _ st4 loop)

theorem pe_comp (S : CompScope X N' ix sc) (hc : X.calm = true) (hi : PI X tg iter wi)
    (hg : ∀ C s₀ H₀ ex, PG (cxComp X N' sc C s₀ H₀ ex) tg g) (hf : ∀ C s₀ H₀ ex, PF (cxComp X N' sc C s₀ H₀ ex) ifs tf) (he : ∀ C s₀ H₀ ex, PE (cxComp X N' sc C s₀ H₀ ex) elt te)
    (hs : ∀ x, foldedSetIterable iter X.env x = pure x := by intro _; rfl) : PE X (.ListComp elt [⟨tg, iter, ifs, 0⟩] sc pos) (tComp wi ix g tf te) := by
  intro pins s σ H Q I h
  rw [eval_ListComp]
  have hcl : closureFor sc X.env = pure (clFrom X.env.cells sc.names []) := closure_eq fun x hx hk => I.ok.has x.1 (S.free x hx hk)
  have hnames : ∀ x ∈ sc.names, x.2 = .local → sc.names.lookup x.1 = some .local := fun x hx hk => nodup_lookup S.uniq (by rw [← hk]; exact hx)
  refine wpAny_comprehension_free (use := none) rfl hs hcl S.kind hnames (thn (hi pins s σ H _ I h) fun v s1 h1 => thn h1 fun itv s2 h2 => ?_)
  refine comp_block S hc hg hf he (RR := fun acc C => compPost (model X.prog X.w) X.A X.xe none (EP X pins σ Q) acc C) h2 ?_
  intro D C H3 H' s3 s' σ' ex ps eC I3 f3 J q
  subst eC
  obtain ⟨m, hn, _⟩ := J.loc
  exact ⟨m, hn, fun h' hs' => ⟨.ref D, H', comp_leave I3 f3 J hs', rfl, q⟩⟩

/-- name = [..] where the stores are exchanged -/
def tSetComp (i : Nat) (wi : TI) (ix : List (Option Nat)) (g : TG) (tf : TT) (te : TE) : TS := fun D σ H => wi σ H fun J H1 => CompW J ix g tf te σ H1 fun a H2 => D.nx (σ.set i (some (.ref a))) H2
theorem ps_setComp {i : Nat} {y : Str} {py spos : Pos} (hN : X.N.Nodup) (hy : X.N[i]? = some y) (hL : Loc X.env.scope y) (S : CompScope X N' ix sc) (hc : X.calm = true) (hi : PI X tg iter wi)
    (hg : ∀ C s₀ H₀ ex, PG (cxComp X N' sc C s₀ H₀ ex) tg g) (hf : ∀ C s₀ H₀ ex, PF (cxComp X N' sc C s₀ H₀ ex) ifs tf) (he : ∀ C s₀ H₀ ex, PE (cxComp X N' sc C s₀ H₀ ex) elt te)
    (hsw : swapsWith (.ListComp elt [⟨tg, iter, ifs, 0⟩] sc pos) (some (.Name y py)) spos.line X.env = pure true := by rfl)
    (hs : ∀ x, foldedSetIterable iter X.env x = pure x := by intro _; rfl)
    (hfn : X.fn y = true ∨ X.env.scope.names.lookup y = some .local := by first | exact .inl rfl | exact .inr rfl | assumption) :
    PS X (.Assign [.Name y py] (.ListComp elt [⟨tg, iter, ifs, 0⟩] sc pos) spos) (tSetComp i wi ix g tf te) := by
  intro pins s σ H D I h
  rw [exec_Assign_Name_used _ _ _ _ hsw]
  refine wpAny_bind (wpAny_standAt (wpAny_bind ?_))
  show wpAny _ X.A (do let _ ← comprehension (.ListComp elt [⟨tg, iter, ifs, 0⟩] sc pos) sc X.env _ (newList []) false (eval iter X.env) (some (assign (.Name y py) X.env))) _ _ s
  have hcl : closureFor sc X.env = pure (clFrom X.env.cells sc.names []) := closure_eq fun x hx hk => I.ok.has x.1 (S.free x hx hk)
  have hnames : ∀ x ∈ sc.names, x.2 = .local → sc.names.lookup x.1 = some .local := fun x hx hk => nodup_lookup S.uniq (by rw [← hk]; exact hx)
  refine wpAny_bind (wpAny_mono (wpAny_comprehension_free (use := some (assign (.Name y py) X.env)) (Q := fun _ s' => SP X pins D .next s') rfl hs hcl S.kind hnames
    (thn (hi pins s σ H _ I h) fun v s1 h1 => thn h1 fun itv s2 h2 => ?_)) (fun _ s' hq => wpAny_pure (wpAny_pure hq)) fun _ _ e => e)
  refine comp_block S hc hg hf he (RR := fun acc C => compPost (model X.prog X.w) X.A X.xe (some (assign (.Name y py) X.env)) (fun _ s' => SP X pins D .next s') acc C) h2 ?_
  intro a C H3 H' s3 s' σ' ex ps eC I3 f3 J q
  subst eC
  obtain ⟨m, hn, _⟩ := J.loc
  have I5 : Inv X pins σ H' { s' with heap := s'.heap } := comp_leave I3 f3 J (Heap.SameBut.refl _ _)
  have neL : X.env.locals ≠ s3.heap.objs.size := Nat.ne_of_lt I3.lt
  have neC : ∀ x c, X.env.cells.lookup x = some c → c ≠ s3.heap.objs.size := fun x c e => by
    obtain ⟨v, z⟩ := I3.cell x c e
    exact Nat.ne_of_lt z.lt
  show wpAny (model X.prog X.w) X.A (assign (.Name y py) X.env (.ref a)) _ X.xe s'
  refine wpAny_assign_Name (store_ok2 (v := .ref a) I5 hN hy hL rfl (fun s6 I6 hb => ?_) hfn)
  obtain ⟨b, sb, hb⟩ := hb
  have nb : s3.heap.objs.size ≠ b := by
    rcases hb with z | z
    · rw [z]; exact Ne.symm neL
    · exact Ne.symm (neC _ _ z)
  refine ⟨m, hn.sameBut sb nb, fun h' hs' => ?_⟩
  refine ⟨_, H', I6.turned (t' := s6.toks) (it := s3.heap.objs.size) (fun b o hb e => (hs'.2 b hb).trans e) J.free (Ne.symm neL) (.inr I3.sz) neC (fun p hp z => ?_), q⟩
  have := (I3.pin p hp).1
  exact absurd (Heap.lt_size this) (by rw [z]; exact Nat.lt_irrefl _)
end

/-! ### a block's scope, checked -/
def compOk (on : List (Str × NameKind)) (N N' : List Str) (ix : List (Option Nat)) (sc : Scope) : Bool :=
  decide (sc.kind = .function) && decide N'.Nodup && decide (sc.names.map (·.1)).Nodup && decide (ix.length = N'.length) &&
    sc.names.all (fun x => decide (x.2 ≠ .free) || decide (on.lookup x.1 = some .cell) || decide (on.lookup x.1 = some .free)) &&
    (List.range ix.length).all fun i => match ix[i]? with
      | some (some j) => (match N'[i]? with
        | some x => decide (N[j]? = some x) && decide (sc.names.lookup x = some .free)
        | none => false)
      | _ => true
theorem compScope_of {X : Cx} {N' : List Str} {ix : List (Option Nat)} {sc : Scope} (h : compOk X.env.scope.names X.N N' ix sc = true) : CompScope X N' ix sc := by
  unfold compOk at h
  simp only [Bool.and_eq_true, decide_eq_true_eq, List.all_eq_true, Bool.or_eq_true, List.mem_range] at h
  obtain ⟨⟨⟨⟨⟨h1, h2⟩, h3⟩, h4⟩, h5⟩, h6⟩ := h
  refine ⟨h1, h2, h3, h4, fun x hx hk => ?_, fun i j e => ?_⟩
  · rcases h5 x hx with (q | q) | q
    · exact absurd hk q
    · exact .inl q
    · exact .inr q
  · have hi : i < ix.length := (List.getElem?_eq_some_iff.mp e).1
    have q := h6 i hi
    rw [e] at q
    dsimp only at q
    cases e2 : N'[i]? with
    | none => rw [e2] at q; cases q
    | some x =>
      rw [e2] at q
      simp only [Bool.and_eq_true, decide_eq_true_eq] at q
      exact ⟨x, rfl, q.1, q.2⟩

/-! ### the forms one uses: what is tracked stays, new things come -/
theorem Same.new {H : Hp} {p : Addr} (h : H p = none) (o : HO) : Same H (upd H p o) := fun b u q => by rw [upd_ne (ne_of_none q h)]; exact q
theorem Same.put {H H' : Hp} {p : Addr} (e : Same H H') (h : H p = none) (o : HO) : Same H (upd H' p o) := fun b u q => by rw [upd_ne (ne_of_none q h)]; exact e b u q
theorem Same.tup {K : PySem.W.Frag} {H H' : Hp} {a : Addr} {xs : List V} (e : Same H H') (h : SqT K H a xs) : SqT K H' a xs := by
  rcases h with (h | ⟨o, h⟩) | h
  · exact .inl (.inl (e a _ h))
  · exact .inl (.inr ⟨o, e a _ h⟩)
  · exact .inr h

section
variable {K : PySem.W.Frag} {ix : List (Option Nat)} {g : TG} {tf : TT} {te : TE} {σ : St} {H1 : Hp} {Q : Addr → Hp → Prop}

/-- over a list; Pv: what holds of the items made of the first i -/
theorem comp_list {a : Addr} {xs : List V} (hq : SqL K H1 a xs) (hz : xs.length ≤ sizeLine) (Pv : Nat → List V → Hp → Prop)
    (h0 : ∀ D, H1 D = none → Pv 0 [] (upd H1 D (.lst [])))
    (hs : ∀ D i x ys H (R1 : VK) (R0 : Hp → Prop), H1 D = none → xs[i]? = some x → Same H1 H → H D = some (.lst ys) → Pv i ys H → (∀ v H6, Same H H6 → Pv (i + 1) (ys ++ [v]) (upd H6 D (.lst (ys ++ [v]))) → R1 v H6) →
      (∀ H5, Same H H5 → Pv (i + 1) ys H5 → R0 H5) → g x (capt ix σ) H fun σ4 H4 => tf σ4 H4 fun b H5 => if b = true then te σ4 H5 R1 else R0 H5)
    (hd : ∀ D ys H, H1 D = none → Same H1 H → H D = some (.lst ys) → ys.length ≤ xs.length → Pv xs.length ys H → Q D H) : CompW (Itl K a) ix g tf te σ H1 Q := by
  intro D hD
  refine ⟨fun i m ys H => m = xs.length - i ∧ i ≤ xs.length ∧ Same H1 H ∧ ys.length ≤ i ∧ Pv i ys H, ⟨xs.length, by simp, Nat.zero_le _, Same.new hD _, Nat.le_refl _, h0 D hD⟩, ?_⟩
  rintro i m ys H ⟨rfl, hi, sm, hl, p⟩ hDl
  have q := sm.seq hq
  by_cases hlt : i < xs.length
  · refine .inr ⟨⟨xs, xs[i], q, by simp [hlt]⟩, fun x H3 y => ?_⟩
    obtain ⟨e, y⟩ := y
    subst e
    refine hs D i x ys _ _ _ hD (y xs q) sm hDl p (fun v H6 r1 r2 => ?_) fun H5 r1 r2 => ?_
    · refine ⟨r1 _ _ hDl, by omega, xs.length - (i + 1), by omega, rfl, hlt, (sm.trans r1).put hD _, ?_, r2⟩
      rw [List.length_append, List.length_singleton]; omega
    · exact ⟨r1 _ _ hDl, xs.length - (i + 1), by omega, rfl, hlt, sm.trans r1, by omega, r2⟩
  · have e : i = xs.length := by omega
    subst e
    exact .inl ⟨⟨xs, q, Nat.le_refl _⟩, hd D ys H hD sm hDl hl p⟩
/-- over lo, lo + 1, .. -/
theorem comp_range {lo : Int} {n : Nat} (hz : n ≤ sizeLine) (Pv : Nat → List V → Hp → Prop)
    (h0 : ∀ D, H1 D = none → Pv 0 [] (upd H1 D (.lst [])))
    (hs : ∀ D i ys H (R1 : VK) (R0 : Hp → Prop), H1 D = none → i < n → Same H1 H → H D = some (.lst ys) → Pv i ys H → (∀ v H6, Same H H6 → Pv (i + 1) (ys ++ [v]) (upd H6 D (.lst (ys ++ [v]))) → R1 v H6) →
      (∀ H5, Same H H5 → Pv (i + 1) ys H5 → R0 H5) → g (.int (lo + i)) (capt ix σ) H fun σ4 H4 => tf σ4 H4 fun b H5 => if b = true then te σ4 H5 R1 else R0 H5)
    (hd : ∀ D ys H, H1 D = none → Same H1 H → H D = some (.lst ys) → ys.length ≤ n → Pv n ys H → Q D H) : CompW (Itr lo n) ix g tf te σ H1 Q := by
  intro D hD
  refine ⟨fun i m ys H => m = n - i ∧ i ≤ n ∧ Same H1 H ∧ ys.length ≤ i ∧ Pv i ys H, ⟨n, by simp, Nat.zero_le _, Same.new hD _, Nat.le_refl _, h0 D hD⟩, ?_⟩
  rintro i m ys H ⟨rfl, hi, sm, hl, p⟩ hDl
  by_cases hlt : i < n
  · refine .inr ⟨hlt, fun x H3 y => ?_⟩
    obtain ⟨e, y⟩ := y
    subst e; subst y
    refine hs D i ys _ _ _ hD hlt sm hDl p (fun v H6 r1 r2 => ?_) fun H5 r1 r2 => ?_
    · refine ⟨r1 _ _ hDl, by omega, n - (i + 1), by omega, rfl, hlt, (sm.trans r1).put hD _, ?_, r2⟩
      rw [List.length_append, List.length_singleton]; omega
    · exact ⟨r1 _ _ hDl, n - (i + 1), by omega, rfl, hlt, sm.trans r1, by omega, r2⟩
  · have e : i = n := by omega
    subst e
    exact .inl ⟨Nat.le_refl _, hd D ys H hD sm hDl hl p⟩
theorem take_map_succ {α β : Type} (f : α → β) (xs : List α) (i : Nat) (x : α) (h : xs[i]? = some x) : (xs.take (i + 1)).map f = (xs.take i).map f ++ [f x] := by
  rw [List.take_succ, h]
  simp
/-- each item's value by a function, no test: te answers f x and tracks no less -/
theorem comp_list_map {a : Addr} {xs : List V} {i₀ : Nat} (f : V → V) (hq : SqL K H1 a xs) (hz : xs.length ≤ sizeLine)
    (hs : ∀ (i : Nat) (x : V) (H : Hp) (R : VK), xs[i]? = some x → Same H1 H → (∀ H6, Same H H6 → R (f x) H6) → te ((capt ix σ).set i₀ (some x)) H R)
    (hd : ∀ D H, H1 D = none → Same H1 H → H D = some (.lst (xs.map f)) → Q D H) : CompW (Itl K a) ix (gName i₀) tYes te σ H1 Q := by
  refine comp_list hq hz (fun i ys _ => ys = (xs.take i).map f) (fun D hD => by simp) (fun D i x ys H R1 R0 hD hx sm hDl p k1 k0 => ?_) fun D ys H hD sm hDl hl p => ?_
  · show te ((capt ix σ).set i₀ (some x)) H R1
    exact hs i x H R1 hx sm fun H6 s6 => k1 _ _ s6 (by rw [take_map_succ f xs i x hx, p])
  · refine hd D H hD sm ?_
    rw [hDl, p, List.take_length]
theorem comp_range_map {lo : Int} {n i₀ : Nat} (f : Nat → V) (hz : n ≤ sizeLine)
    (hs : ∀ (i : Nat) (H : Hp) (R : VK), i < n → Same H1 H → (∀ H6, Same H H6 → R (f i) H6) → te ((capt ix σ).set i₀ (some (.int (lo + i)))) H R)
    (hd : ∀ D H, H1 D = none → Same H1 H → H D = some (.lst ((List.range n).map f)) → Q D H) : CompW (Itr lo n) ix (gName i₀) tYes te σ H1 Q := by
  refine comp_range hz (fun i ys _ => ys = (List.range i).map f) (fun D hD => by simp) (fun D i ys H R1 R0 hD hi sm hDl p k1 k0 => ?_) fun D ys H hD sm hDl hl p => ?_
  · show te ((capt ix σ).set i₀ (some (.int (lo + i)))) H R1
    exact hs i H R1 hi sm fun H6 s6 => k1 _ _ s6 (by rw [List.range_succ, List.map_append, p]; rfl)
  · refine hd D H hD sm ?_
    rw [hDl, p]
end
end L2


/-! Texts and built-ins over the layer. -/
namespace L2
open PySem PySem.Spec PyProof.Rows

section
variable {X : Cx}

theorem strsAre_of : ∀ {ys : List Str} {us : List Value}, Vals (ys.map V.str) us → StrsAre us ys
  | [], _, h => by cases h; exact .nil
  | y :: ys, _, h => by
    cases h with
    | cons r t =>
      obtain ⟨tk, rfl⟩ := r
      exact .cons y tk (strsAre_of t)

/-- sep.join(xs), xs a list of texts -/
def rJoin (K : PySem.W.Frag) : V → List V → Hp → VK → Prop := fun x vs H Q => ∃ sep a ys, x = .str sep ∧ vs = [.ref a] ∧ SqL K H a (ys.map V.str) ∧ (ys.map (·.length)).sum + ys.length * sep.length ≤ 16777216 ∧ Q (.str (Txt.join sep ys)) H
theorem mt_join : MtR X "str.join" (rJoin X.K) := by
  intro pins s σ H x vs v us Q I rx rv h
  obtain ⟨sep, a, ys, rfl, rfl, hq, hz, q⟩ := h
  obtain ⟨t, rfl⟩ := rx
  obtain ⟨u, rfl, ru⟩ := rv.one
  cases ru
  obtain ⟨its, r, p, _⟩ := I.list hq
  exact join_list p.isList (by simpa using strsAre_of r) hz fun t' k => ⟨.str _, H, I.tok _, ⟨_, rfl⟩, q⟩

/-- x.strip(cs) -/
def rStrip : V → List V → Hp → VK → Prop := fun x vs H Q => ∃ y cs, x = .str y ∧ vs = [.str cs] ∧ y.length ≤ sizeLine ∧ Q (.str (Txt.stripChars y cs)) H
theorem mt_strip : MtR X "str.strip" rStrip := by
  intro pins s σ H x vs v us Q I rx rv h
  obtain ⟨y, cs, rfl, rfl, hz, q⟩ := h
  obtain ⟨t, rfl⟩ := rx
  obtain ⟨u, rfl, t', rfl⟩ := rv.one
  exact SCL.stripChars (fun t' k _ => ⟨.str _, H, I.tok _, ⟨_, rfl⟩, q⟩) hz

/-- a text's slice -/
theorem isSlice_of {h : Heap} {sl : Addr} {vl vu vs : Value} {lo hi st : Option Int} (hs : h.IsSliceOf sl vl vu vs) (pl : IsPart vl lo) (pu : IsPart vu hi) (ps : IsPart vs st) :
    ∃ l u t, l.map (·.1) = lo ∧ u.map (·.1) = hi ∧ t.map (·.1) = st ∧ h.IsSlice sl l u t := by
  obtain ⟨o, ho, hc, hd⟩ := hs
  cases pl <;> cases pu <;> cases ps
  · exact ⟨none, none, none, rfl, rfl, rfl, o, ho, hc, hd⟩
  · exact ⟨none, none, some (_, _), rfl, rfl, rfl, o, ho, hc, hd⟩
  · exact ⟨none, some (_, _), none, rfl, rfl, rfl, o, ho, hc, hd⟩
  · exact ⟨none, some (_, _), some (_, _), rfl, rfl, rfl, o, ho, hc, hd⟩
  · exact ⟨some (_, _), none, none, rfl, rfl, rfl, o, ho, hc, hd⟩
  · exact ⟨some (_, _), none, some (_, _), rfl, rfl, rfl, o, ho, hc, hd⟩
  · exact ⟨some (_, _), some (_, _), none, rfl, rfl, rfl, o, ho, hc, hd⟩
  · exact ⟨some (_, _), some (_, _), some (_, _), rfl, rfl, rfl, o, ho, hc, hd⟩

/-- the codes picked -/
def sliceS (x : Str) (lo hi st : Option Int) : Str :=
  if ((st.getD 1 == 1 && (Builtin.Str.strSliceIndices lo hi (st.getD 1) x.length).length == x.length) = true) then x else ⟨((Builtin.Str.strSliceIndices lo hi (st.getD 1) x.length).filterMap (x.cps[·]?)).toArray⟩
theorem sliceS_le (x : Str) (lo hi st : Option Int) (h0 : st.getD 1 ≠ 0) : (sliceS x lo hi st).length ≤ x.length := by
  unfold sliceS
  split
  · exact Nat.le_refl _
  · show (List.filterMap _ _).toArray.size ≤ x.length
    rw [List.size_toArray]
    exact Nat.le_trans (List.length_filterMap_le _ _) (sliceIndicesBy_le _ _ _ h0 x.length)

theorem getItem_str_cut {pins : List (Addr × Obj)} {s : Shared} {σ : St} {H : Hp} {x : Str} {t : Tok} {sl : Addr} {vl vu vs : Value} {lo hi st : Option Int} {Q : VK} (I : Inv X pins σ H s) (hs : s.heap.IsSliceOf sl vl vu vs) (pl : IsPart vl lo) (pu : IsPart vu hi) (ps : IsPart vs st)
    (h0 : st.getD 1 ≠ 0) (hz : x.length ≤ sizeLine) (q : Q (.str (sliceS x lo hi st)) H) : wpAny (model X.prog X.w) X.A (getItem (.str x t) (.ref sl)) (EP X pins σ Q) X.xe s := by
  obtain ⟨l, u, t', e1, e2, e3, z⟩ := isSlice_of hs pl pu ps
  have e3' : (t'.map (·.1)).getD 1 = st.getD 1 := by rw [e3]
  have hb : ((t'.map (·.1)).getD 1 == 0) = false := by rw [e3']; simpa using h0
  refine wpAny_getItem_str_slice z hb ?_
  have hp : slicePicked x l u t' = Builtin.Str.strSliceIndices lo hi (st.getD 1) x.length := by unfold slicePicked; rw [e1, e2, e3']
  unfold sliceMade
  rw [hp, e3']
  exact post_val_or_str ⟨Nat.le_trans (sliceS_le x lo hi st h0) hz, fun t'' k => ⟨.str _, H, I.tok _, ⟨_, rfl⟩, q⟩⟩

def rSlS : V → Option Int → Option Int → Hp → VK → Prop := fun x lo hi H Q => ∃ y, x = .str y ∧ y.length ≤ sizeLine ∧ Q (.str (sliceS y lo hi none)) H
theorem sl_str : SlR X rSlS := by
  intro pins s σ H x v vl vu lo hi sl Q I rx hs pl pu h
  obtain ⟨y, rfl, hz, q⟩ := h
  obtain ⟨t, rfl⟩ := rx
  exact ⟨"str", _, F.slot_str_getitem.lookup, typeIs_str _ _ _, getItem_str_cut I hs pl pu .none (by decide) hz q⟩

/-! ### a[::-1] -/
variable {e : Expr} {te : TE} {pos p2 p3 p4 : Pos}
def tRev (K : PySem.W.Frag) (te : TE) : TE := fun σ H Q => te σ H fun x H1 => (∃ y, x = .str y ∧ y.length ≤ sizeLine ∧ Q (.str (sliceS y none none (some (-1)))) H1) ∨
  ∃ a xs, x = .ref a ∧ SqL K H1 a xs ∧ ∀ p, H1 p = none → Q (.ref p) (upd H1 p (.lst xs.reverse))

theorem pick_take {α : Type} (xs : List α) : ∀ k : Nat, (List.range k).filterMap (xs[·]?) = xs.take k
  | 0 => by simp
  | k + 1 => by
    rw [List.range_succ, List.filterMap_append, pick_take xs k, List.take_succ]
    cases e : xs[k]? <;> simp [e]
theorem rev_idx (n : Nat) : sliceRange ((n : Int) - 1) (-1) (-1) = (List.range n).reverse := by
  unfold sliceRange
  dsimp only
  rw [if_neg (by decide)]
  have hc : (if ((n : Int) - 1) > -1 then ((n : Int) - 1 - -1 - -1 - 1) / (- -1) else 0) = (n : Int) := by
    split
    · rw [show (- -1 : Int) = 1 by decide, Int.ediv_one]; omega
    · omega
  rw [hc, Int.toNat_natCast]
  refine List.ext_getElem (by simp) fun i h1 h2 => ?_
  have hi : i < n := by simpa using h1
  simp only [List.getElem_map, List.getElem_range, List.getElem_reverse, List.length_range]
  omega
theorem pick_rev {α : Type} (xs : List α) : ((sliceRange ((xs.length : Int) - 1) (-1) (-1)).filterMap (xs[·]?)) = xs.reverse := by
  rw [rev_idx, List.filterMap_reverse, pick_take, List.take_length]
theorem rev_pick (its : List Value) : slicePick its.toArray none none (some (-1)) = its.reverse.toArray := by
  unfold slicePick sliceBounds
  have e := pick_rev its
  simp only [Option.getD_some, show ¬ ((-1 : Int) > 0) by decide, if_false, List.size_toArray]
  rw [← e]
  simp
theorem pe_rev {j : Nat} (he : PE X e te) : PE X (.Subscript e (.Slice none none (some (.UnaryOp .USub (.Constant (.int 1) j p4) p3)) p2) pos) (tRev X.K te) := by
  intro pins s σ H Q I h
  refine Subscript_ (thn (he pins s σ H _ I h) fun v s1 ⟨x, H1, I1, r1, q1⟩ => ?_)
  refine wpAny_Slice ?_
  rw [evalPart_none]
  refine wpAny_pure (wpAny_pure ?_)
  rw [evalPart_some]
  refine thn (pe_un un_neg pe_int pins s1 σ H1 (fun y H2 => y = .int (-1) ∧ H2 = H1) I1 ⟨1, rfl, rfl, rfl⟩) fun vs s2 ⟨y, H2, I2, r2, e1, e2⟩ => ?_
  subst e1; subst e2
  obtain ⟨tk, rfl⟩ := r2
  have I3 : Inv X pins σ H2 { s2 with heap := s2.heap.push { cls := .type "slice", data := .fields #[.none, .none, .int (-1) tk] } } := I2.kept (t' := s2.toks) fun b ob q => Heap.get?_push_of_some _ q
  have hsl : (s2.heap.push { cls := .type "slice", data := .fields #[Value.none, .none, .int (-1) tk] }).IsSliceOf s2.heap.objs.size .none .none (.int (-1) tk) := ⟨_, Heap.get?_push_size _ rfl, rfl, rfl⟩
  show wpAny (model X.prog X.w) X.A (subscriptTail e _ v (.ref s2.heap.objs.size)) (EP X pins σ Q) X.xe { s2 with heap := s2.heap.push { cls := .type "slice", data := .fields #[.none, .none, .int (-1) tk] } }
  rcases q1 with ⟨y, rfl, hz, q⟩ | ⟨a, xs, rfl, hx, q⟩
  · obtain ⟨t, rfl⟩ := r1
    exact tail_any (ops := [.str y t, .ref s2.heap.objs.size]) (typeIs_str _ _ _) F.slot_str_getitem.lookup (getItem_str_cut I3 hsl .none .none (.int _ _) (by decide) hz q) (by with_unfolding_all rfl)
  · cases r1
    obtain ⟨its, r, ht, hz⟩ := I3.list hx
    refine tail_any (ops := [.ref a, .ref s2.heap.objs.size]) ht.isList.typeIs slot_list_getitem.lookup (wpAny_getItem_list_slice ht.isList hsl .none .none (.int _ _) (by decide) ?_ (by rw [List.size_toArray, ← r.length]; exact hz)) (by with_unfolding_all rfl)
    rw [rev_pick]
    refine ⟨.ref _, _, I3.lnew (t' := s2.toks) (ys := xs.reverse) r.reverse (by rw [List.length_reverse]; exact hz), rfl, q _ I3.fresh⟩

/-! ### all -/
theorem call_all : CallR X (.builtin "all") (fun xs H Q => X.calm = true ∧ ∃ (a : Addr) (bs : List Bool), xs = [.ref a] ∧ SqL X.K H a (bs.map V.bl) ∧ Q (.bl (bs.all fun b => b)) H) := by
  intro pins s σ H xs us Q I r h
  obtain ⟨hc, a, bs, rfl, hq, q⟩ := h
  obtain ⟨u, rfl, ru⟩ := vals1 r
  cases ru
  obtain ⟨its, rv, p, hz⟩ := I.list hq
  have hlen := rv.length
  rw [List.length_map] at hlen
  refine call_all_walk (wpAny_pyIter_list p.isList ?_)
  have ha : a ≠ s.heap.objs.size := by obtain ⟨o, n, e, _⟩ := p; exact Nat.ne_of_lt (Heap.lt_size e)
  refine ⟨s.heap.objs.size, _, _, _, _, _, fun i => (bs[i]?).getD true, rfl, Walks.list (by rw [Around.in1_handled]; exact I.ok.hd hc) s.heap.objs.size a ha its.toArray, ?_, ?_, fun h' tk k => ?_⟩
  · exact ⟨⟨_, Heap.get?_push_size _ rfl, rfl, rfl⟩, p.isList.push _⟩
  · intro i v s' Q' E' hv hq'
    have hv' : its.toArray[i]? = some v := hv
    have hi : its[i]? = some v := by simpa using hv'
    have hil : i < bs.length := by rw [hlen]; exact (List.getElem?_eq_some_iff.mp hi).1
    obtain ⟨u', hu', ru'⟩ := rv.get (i := i) (x := .bl bs[i]) (by rw [List.getElem?_map, List.getElem?_eq_getElem hil]; rfl)
    rw [hi] at hu'
    cases hu'
    cases ru'
    have hq2 : Q' ((bs[i]?).getD true) s' := hq'
    rw [List.getElem?_eq_getElem hil] at hq2
    exact wpAny_truthy_bool hq2
  · have e : (List.range its.toArray.size).all (fun i => (bs[i]?).getD true) = bs.all fun b => b := by
      rw [List.size_toArray, ← hlen]
      rw [Bool.eq_iff_iff]
      simp only [List.all_eq_true, List.mem_range]
      constructor
      · intro z b hb
        obtain ⟨i, hi, e⟩ := List.mem_iff_getElem.mp hb
        have := z i hi
        rw [List.getElem?_eq_getElem hi] at this
        rw [← e]; exact this
      · intro z i hi
        rw [List.getElem?_eq_getElem hi]
        exact z _ (List.getElem_mem hi)
    rw [e]
    have I2 : Inv X pins σ H { s with heap := s.heap.push { cls := .type "list_iterator", data := .fields #[.ref a, .int 0 0] } } := I.kept (t' := s.toks) fun b o e => Heap.get?_push_of_some _ e
    exact ⟨.bl _, H, I.kept (t' := tk) (h' := h') fun b o e => k b o (by simp; exact Nat.ne_of_lt (Heap.lt_size e)) (Heap.get?_push_of_some _ e), rfl, q⟩

/-! ### a walk over a text -/
/-- n values, each known by its place -/
def Itv (f : Nat → V) (n : Nat) : It := ⟨fun i _ => i < n, fun i H x H' => H' = H ∧ x = f i, fun i _ => n ≤ i⟩
def signAt (x : Str) (i : Nat) : V := .str ⟨#[x.cps.getD i 0]⟩
theorem turn_str {P : Program} {w : World} {K : PySem.W.Frag} {tg : Expr} (it : Addr) (ty : String) (x : Str) (t : Tok) (hty : ["enumerate", "zip", "dict_itemiterator", "dict_reverseitemiterator", "odict_iterator", "itertools.zip_longest", "itertools.pairwise"].contains ty = false)
    (wi : ∀ (A : Around) (s : Shared) (i c : Nat) (Q : Option Value → Shared → Prop) (E : Value → Shared → Prop), s.heap.IsStrIter it ty x t i → x.cps[i]? = some c → (∀ h', h'.IsStrIter it ty x t (i + 1) → Heap.SameBut it s.heap h' → Q (some (.str ⟨#[c]⟩ s.toks)) { s with heap := h', toks := s.toks + 1 }) → wpAny (model P w) A (pyNext (.ref it)) Q E s)
    (we : ∀ (A : Around) (s : Shared) (i : Nat) (Q : Option Value → Shared → Prop) (E : Value → Shared → Prop), A.handled = none → s.heap.IsStrIter it ty x t i → x.cps[i]? = none → (∀ h', Heap.ExtBut it s.heap h' → Q none { s with heap := h' }) → wpAny (model P w) A (pyNext (.ref it)) Q E s)
    (ws : ∀ (A : Around) (s : Shared) (i : Nat) (Q : Value → Shared → Prop) (E : Value → Shared → Prop), s.heap.IsStrIter it ty x t i → Q (.ref it) s → wpAny (model P w) A (pyIter (.ref it)) Q E s) :
    Turn P w K tg (Itv (signAt x) x.cps.size) [it] it (fun i h => h.IsStrIter it ty x t i) where
  mem := by simp
  obj := fun i h st b hb => by
    have e : b = it := by simpa using hb
    subst e
    obtain ⟨o, e, c, d⟩ := st
    exact ⟨o, e, fun v z => by rw [d] at z; cases z⟩
  keep := fun i h h' st k => by
    obtain ⟨o, e, r⟩ := st
    exact ⟨o, k it (by simp) o e, r⟩
  item := by
    intro X hP hw hK hc i pins s σ H E I hf st hg
    subst hP hw hK
    obtain ⟨f0, f1, f2, f3, f4, f5⟩ := hf it (by simp)
    have hi : i < x.cps.size := hg
    refine wi X.A s i x.cps[i] _ _ st (Array.getElem?_eq_getElem hi) fun h' st' sb => ?_
    have I1 : Inv X pins σ H { s with heap := h', toks := s.toks + 1 } := I.turned (fun b o hb e => (sb.2 b hb).trans e) f0 f1 f3 f4 f5
    obtain ⟨o, e, ec, ed⟩ := id st'
    refine ⟨_, rfl, go_of (s := { s with heap := h', toks := s.toks + 1 }) e ec ed hty ⟨signAt x i, H, I1, ⟨s.toks, ?_⟩, ⟨rfl, rfl⟩, st', fun b hb => (hf b hb).1⟩⟩
    have : x.cps.getD i 0 = x.cps[i] := by rw [Array.getD_eq_getD_getElem?, Array.getElem?_eq_getElem hi]; rfl
    rw [this]
  done := by
    intro X hP hw hK hc i pins s σ H E I hf st hg
    subst hP hw hK
    obtain ⟨f0, f1, f2, f3, f4, f5⟩ := hf it (by simp)
    have hi : x.cps.size ≤ i := hg
    exact we X.A s i _ _ (I.ok.hd hc) st (Array.getElem?_eq_none hi) fun h' eb => ⟨rfl, I.turned (t' := s.toks) (fun b o hb e => eb b o hb e) f0 f1 f3 f4 f5⟩
  self := fun A i s Q E st h => ws A s i Q E st h
def iStr (tl : TE) : TI := fun σ H R => tl σ H fun x H1 => ∃ y, x = .str y ∧ R (Itv (signAt y) y.cps.size) H1
theorem pi_str {tg l : Expr} {tl : TE} (hl : PE X l tl) : PI X tg l (iStr tl) := by
  intro pins s σ H R I h
  refine thn (hl pins s σ H _ I h) fun v s1 ⟨x, H1, I1, r1, q1⟩ => ?_
  obtain ⟨y, e, q⟩ := q1
  subst e
  obtain ⟨t, rfl⟩ := r1
  have fin : ∀ (o : Obj), ∀ b ∈ [s1.heap.objs.size], FpOk X pins H1 b := fun o b hb => by
    have e : b = s1.heap.objs.size := by simpa using hb
    subst e
    exact I1.fpOk (Nat.le_refl _) (I1.hok.fresh (Nat.le_refl _))
  cases ha : y.cps.all (· < 128)
  · refine wpAny_pyIter_wide ha ?_
    exact ⟨s1.heap.objs.size, [s1.heap.objs.size], _, _, H1, rfl, I1.kept (t' := s1.toks) fun b o e => Heap.get?_push_of_some _ e,
      turn_str _ "str_iterator" y t (by decide) (fun A s i c Q E st hx k => wpAny_pyNext_wide_item st hx k) (fun A s i Q E hh st hx k => wpAny_pyNext_wide_end hh st hx k) (fun A s i Q E st k => wpAny_pyIter_striter_wide st k),
      ⟨_, Heap.get?_push_size _ rfl, rfl, rfl⟩, fin default, q⟩
  · refine wpAny_pyIter_ascii ha ?_
    exact ⟨s1.heap.objs.size, [s1.heap.objs.size], _, _, H1, rfl, I1.kept (t' := s1.toks) fun b o e => Heap.get?_push_of_some _ e,
      turn_str _ "str_ascii_iterator" y t (by decide) (fun A s i c Q E st hx k => wpAny_pyNext_ascii_item st hx k) (fun A s i Q E hh st hx k => wpAny_pyNext_ascii_end hh st hx k) (fun A s i Q E st k => wpAny_pyIter_striter_ascii st k),
      ⟨_, Heap.get?_push_size _ rfl, rfl, rfl⟩, fin default, q⟩

/-! ### zip of two lists, unpacked -/
/-- pairs of what two lists hold, as they stand -/
def Itz (K : PySem.W.Frag) (a b : Addr) : It :=
  ⟨fun i H => ∃ xs ys x y, SqL K H a xs ∧ SqL K H b ys ∧ xs[i]? = some x ∧ ys[i]? = some y,
   fun i H v H' => ∃ t, v = .ref t ∧ H t = none ∧ ∃ x y, H' = upd H t (.tup [x, y]) ∧ (∀ xs, SqL K H a xs → xs[i]? = some x) ∧ ∀ ys, SqL K H b ys → ys[i]? = some y,
   fun i H => ∃ xs ys, SqL K H a xs ∧ SqL K H b ys ∧ (xs.length ≤ i ∨ ys.length ≤ i)⟩
theorem zipApart {h : Heap} {a b z TI TO i1 i2 : Addr} {u v : Value} {k1 k2 : Nat} {xs ys : Array Value} (nd : [z, TI, TO, i1, i2].Nodup) (hz : IsZip h z TI TO .none) (hT : IsPair h TI (.ref i1) (.ref i2)) (hO : IsPair h TO u v)
    (h1 : h.IsListIter i1 a k1) (h2 : h.IsListIter i2 b k2) (p : PlainL h a xs) (p2 : PlainL h b ys) : ZipApart z TI TO i1 i2 a b := by
  obtain ⟨o1, e1, c1, d1⟩ := h1
  obtain ⟨o2, e2, c2, d2⟩ := h2
  obtain ⟨o3, n3, e3, c3, _, d3⟩ := p
  obtain ⟨o4, n4, e4, c4, _, d4⟩ := p2
  simp only [List.nodup_cons, List.mem_cons, List.mem_nil_iff, or_false, not_or, List.nodup_nil, and_true, not_false_eq_true] at nd
  obtain ⟨⟨n1, n2, n3', n4'⟩, ⟨n5, n6, n7⟩, ⟨n8, n9⟩, n10⟩ := nd
  have A3 : ∀ {x : Addr} {o : Obj}, h.get? x = some o → o.cls ≠ .type "list" → a ≠ x := fun {x o} e hc q => by
    subst q; rw [e] at e3; cases e3; exact hc c3
  have A4 : ∀ {x : Addr} {o : Obj}, h.get? x = some o → o.cls ≠ .type "list" → b ≠ x := fun {x o} e hc q => by
    subst q; rw [e] at e4; cases e4; exact hc c4
  exact ⟨Ne.symm n1, Ne.symm n2, Ne.symm n3', Ne.symm n4', n5, n6, n7, n8, n9, n10, A3 hz (by show Value.type "zip" ≠ .type "list"; decide), A3 hO (by show Value.type "tuple" ≠ .type "list"; decide), A3 e1 (by rw [c1]; decide), A3 e2 (by rw [c2]; decide), A4 hz (by show Value.type "zip" ≠ .type "list"; decide), A4 hO (by show Value.type "tuple" ≠ .type "list"; decide), A4 e1 (by rw [c1]; decide), A4 e2 (by rw [c2]; decide)⟩
theorem turn_zip {P : Program} {w : World} {K : PySem.W.Frag} {elts : List Expr} {k : Nat} {pos : Pos} (a b z TI TO i1 i2 : Addr) (nd : [z, TI, TO, i1, i2].Nodup) :
    Turn P w K (.Tuple elts k pos) (Itz K a b) [z, TI, TO, i1, i2] z (fun i h => IsZip h z TI TO .none ∧ IsPair h TI (.ref i1) (.ref i2) ∧ (∃ u v, IsPair h TO u v) ∧ h.IsListIter i1 a i ∧ h.IsListIter i2 b i) where
  mem := by simp
  obj := fun i h st c hc => by
    obtain ⟨hz, hT, ⟨u, v, hO⟩, ⟨o1, e1, c1, d1⟩, ⟨o2, e2, c2, d2⟩⟩ := st
    simp only [List.mem_cons, List.mem_nil_iff, or_false] at hc
    rcases hc with rfl | rfl | rfl | rfl | rfl
    · exact ⟨_, hz, fun v z => nomatch z⟩
    · exact ⟨_, hT, fun v z => nomatch z⟩
    · exact ⟨_, hO, fun v z => nomatch z⟩
    · exact ⟨_, e1, fun v z => by rw [d1] at z; cases z⟩
    · exact ⟨_, e2, fun v z => by rw [d2] at z; cases z⟩
  keep := fun i h h' st kk => by
    obtain ⟨hz, hT, ⟨u, v, hO⟩, h1, h2⟩ := st
    exact ⟨kk z (by simp) _ hz, kk TI (by simp) _ hT, ⟨u, v, kk TO (by simp) _ hO⟩, h1.at fun o e => kk i1 (by simp) o e, h2.at fun o e => kk i2 (by simp) o e⟩
  item := by
    intro X hP hw hK hc i pins s σ H E I hf st hg
    subst hP hw hK
    obtain ⟨xs, ys, x, y, hqa, hqb, hx, hy⟩ := hg
    obtain ⟨hz, hT, ⟨u0, v0, hO⟩, h1, h2⟩ := id st
    obtain ⟨its, rv, p, _⟩ := I.list hqa
    obtain ⟨its2, rv2, p2, _⟩ := I.list hqb
    obtain ⟨u, hu, ru⟩ := rv.get hx
    obtain ⟨v, hv, rv'⟩ := rv2.get hy
    have D : ZipApart z TI TO i1 i2 a b := zipApart nd hz hT hO h1 h2 p p2
    refine wpAny_pyNext_zip_item D hz hT hO h1 h2 p.isList p2.isList (x := u) (y := v) (by simpa using hu) (by simpa using hv) fun h' a1 a2 a3 a4 a5 a6 kk => ?_
    refine ⟨_, rfl, wpAny_letOwnedTupleGo_zip a1 fun h'' b1 sb => ?_⟩
    have nT : ∀ c ∈ [z, TI, TO, i1, i2], c ≠ s.heap.objs.size := fun c hc => by
      obtain ⟨o, e, _⟩ := (show ∀ c ∈ [z, TI, TO, i1, i2], ∃ o, s.heap.get? c = some o ∧ True from fun c hc => by
        simp only [List.mem_cons, List.mem_nil_iff, or_false] at hc
        obtain ⟨o1, e1, _⟩ := h1
        obtain ⟨o2, e2, _⟩ := h2
        rcases hc with rfl | rfl | rfl | rfl | rfl
        · exact ⟨_, hz, trivial⟩
        · exact ⟨_, hT, trivial⟩
        · exact ⟨_, hO, trivial⟩
        · exact ⟨_, e1, trivial⟩
        · exact ⟨_, e2, trivial⟩) c hc
      exact Nat.ne_of_lt (Heap.lt_size e)
    have fr : H s.heap.objs.size = none := I.fresh
    have kp : ∀ c o, c ∉ [z, TO, i1, i2] → s.heap.get? c = some o → h''.get? c = some o := fun c o hc e => by
      simp only [List.mem_cons, List.mem_nil_iff, or_false, not_or] at hc
      exact (sb.2 c hc.1).trans (kk c o hc.1 hc.2.1 hc.2.2.1 hc.2.2.2 e)
    have fpn : ∀ c ∈ [z, TO, i1, i2], H c = none := fun c hc => by
      simp only [List.mem_cons, List.mem_nil_iff, or_false] at hc
      rcases hc with rfl | rfl | rfl | rfl <;> exact (hf _ (by simp)).1
    have I1 : Inv X pins σ (upd H s.heap.objs.size (.tup [x, y])) { s with heap := h'' } := by
      refine I.step (g' := s.gens) (d' := s.drawn) (t' := s.toks) (ch := [z, TO, i1, i2]) (fun c hc => ?_) (fun c o _ _ hc e _ => kp c o hc e) (fun c o _ _ hc e _ => ⟨o.slots, kp c o hc e⟩) (fun c o hc e n => ?_) (fun c o hc e => ⟨o, kp c o hc e⟩)
        (fun c us e => ?_) (fun c o us e => ?_) (fun c us e => ⟨#[], ?_⟩) (fun m hm => ?_) (fun c us e => ?_) I.bare
      · simp only [List.mem_cons, List.mem_nil_iff, or_false] at hc
        have : c ∈ [z, TI, TO, i1, i2] := by
          simp only [List.mem_cons, List.mem_nil_iff, or_false]
          rcases hc with q | q | q | q
          · exact .inl q
          · exact .inr (.inr (.inl q))
          · exact .inr (.inr (.inr (.inl q)))
          · exact .inr (.inr (.inr (.inr q)))
        obtain ⟨f0, f1, f2, f3, f4, f5⟩ := hf c this
        exact ⟨f3, f1, f4, f5⟩
      · rw [upd_ne (Nat.ne_of_lt (Heap.lt_size e))]; exact n
      · rw [upd_ne (ne_of_none e fr)]; exact e
      · rw [upd_ne (ne_of_none e fr)]; exact e
      · rw [upd_ne (ne_of_none e fr), e]; simp
      · obtain ⟨o, es, ep, ho, r⟩ := hm
        refine ⟨o, es, ep, kp _ o (fun q => ?_) ho, r⟩
        simp only [List.mem_cons, List.mem_nil_iff, or_false] at q
        rcases q with q | q | q | q
        · exact (hf z (by simp)).2.1 q.symm
        · exact (hf TO (by simp)).2.1 q.symm
        · exact (hf i1 (by simp)).2.1 q.symm
        · exact (hf i2 (by simp)).2.1 q.symm
      · by_cases hcT : c = s.heap.objs.size
        · subst hcT
          rw [upd_same] at e
          cases e
          have e5 : h''.get? s.heap.objs.size = some { cls := .type "tuple", data := .seq #[u, v] } := (sb.2 _ (Ne.symm (nT z (by simp)))).trans a5
          exact ⟨(by show 2 ≤ sizeLine; decide), [u, v], .cons ru (.cons rv' .nil), _, e5, rfl, _, rfl⟩
        · rw [upd_ne hcT] at e
          refine (I.hok c us e).stay (fun d w' hd q => kp d w' (fun q2 => ?_) q) (fun d q => ?_) fun d ws q => ?_
          · have z1 := fpn d q2
            rcases hd with y1 | y1
            · rw [y1, e] at z1; cases z1
            · rw [y1] at z1; cases z1
          · rw [upd_ne (ne_of_none q fr)]; exact q
          · rw [upd_ne (ne_of_none q fr)]; exact q
    refine ⟨.ref s.heap.objs.size, _, I1, rfl, ⟨_, rfl, fr, x, y, rfl, fun zs hz' => by rw [I.list_inj hz' hqa]; exact hx, fun zs hz' => by rw [I.list_inj hz' hqb]; exact hy⟩, ?_, fun c hc => ?_⟩
    · refine ⟨b1, ?_, ⟨u, v, ?_⟩, ?_, ?_⟩
      · exact kp TI _ (by simp only [List.nodup_cons, List.mem_cons, List.mem_nil_iff, or_false, not_or] at nd ⊢; exact ⟨fun q => nd.1.1 q.symm, nd.2.1⟩) hT
      · exact (sb.2 _ D.TOz).trans a2
      · exact a3.extBut sb.extBut D.i1z
      · exact a4.extBut sb.extBut D.i2z
    · rw [upd_ne (nT c hc)]; exact (hf c hc).1
  done := by
    intro X hP hw hK hc i pins s σ H E I hf st hg
    subst hP hw hK
    obtain ⟨xs, ys, hqa, hqb, hend⟩ := hg
    obtain ⟨hz, hT, ⟨u0, v0, hO⟩, h1, h2⟩ := id st
    obtain ⟨its, rv, p, _⟩ := I.list hqa
    obtain ⟨its2, rv2, p2, _⟩ := I.list hqb
    have D : ZipApart z TI TO i1 i2 a b := zipApart nd hz hT hO h1 h2 p p2
    have l1 := rv.length
    have l2 := rv2.length
    refine wpAny_pyNext_zip_end (I.ok.hd hc) D hz hT hO h1 h2 p.isList p2.isList (hend.imp (fun q => by simp; omega) fun q => by simp; omega) fun h' kk => ⟨rfl, ?_⟩
    have kp : ∀ c o, c ∉ [z, TO, i1, i2] → s.heap.get? c = some o → h'.get? c = some o := fun c o hc e => by
      simp only [List.mem_cons, List.mem_nil_iff, or_false, not_or] at hc
      exact kk c o hc.1 hc.2.1 hc.2.2.1 hc.2.2.2 e
    have fpn : ∀ c ∈ [z, TO, i1, i2], H c = none := fun c hc => by
      simp only [List.mem_cons, List.mem_nil_iff, or_false] at hc
      rcases hc with rfl | rfl | rfl | rfl <;> exact (hf _ (by simp)).1
    refine I.step (g' := s.gens) (d' := s.drawn) (t' := s.toks) (ch := [z, TO, i1, i2]) (fun c hc => ?_) (fun c o _ _ hc e _ => kp c o hc e) (fun c o _ _ hc e _ => ⟨o.slots, kp c o hc e⟩) (fun c o hc e n => n) (fun c o hc e => ⟨o, kp c o hc e⟩)
      (fun c us e => e) (fun c o us e => e) (fun c us e => ⟨#[], by rw [e]; simp⟩) (fun m hm => ?_) (fun c us e => ?_) I.bare
    · simp only [List.mem_cons, List.mem_nil_iff, or_false] at hc
      have : c ∈ [z, TI, TO, i1, i2] := by
        simp only [List.mem_cons, List.mem_nil_iff, or_false]
        rcases hc with q | q | q | q
        · exact .inl q
        · exact .inr (.inr (.inl q))
        · exact .inr (.inr (.inr (.inl q)))
        · exact .inr (.inr (.inr (.inr q)))
      obtain ⟨f0, f1, f2, f3, f4, f5⟩ := hf c this
      exact ⟨f3, f1, f4, f5⟩
    · obtain ⟨o, es, ep, ho, r⟩ := hm
      refine ⟨o, es, ep, kp _ o (fun q => ?_) ho, r⟩
      simp only [List.mem_cons, List.mem_nil_iff, or_false] at q
      rcases q with q | q | q | q
      · exact (hf z (by simp)).2.1 q.symm
      · exact (hf TO (by simp)).2.1 q.symm
      · exact (hf i1 (by simp)).2.1 q.symm
      · exact (hf i2 (by simp)).2.1 q.symm
    · refine (I.hok c us e).stay (fun d w' hd q => kp d w' (fun q2 => ?_) q) (fun d q => q) fun d ws q => q
      have z1 := fpn d q2
      rcases hd with y1 | y1
      · rw [y1, e] at z1; cases z1
      · rw [y1] at z1; cases z1
  self := fun _ _ _ _ _ st h => wpAny_pyIter_zip st.1 h
def iZip (K : PySem.W.Frag) (ta : TA) : TI := fun σ H R => ta σ H fun vs H1 => ∃ a b, vs = [.ref a, .ref b] ∧ (∃ xs, SqL K H1 a xs) ∧ (∃ ys, SqL K H1 b ys) ∧ R (Itz K a b) H1
theorem pi_zip {elts : List Expr} {k : Nat} {tpos : Pos} {a b : Expr} {ta : TA} {p pos : Pos} (hg : Gl X "zip") (hm : X.mg "zip" = none) (ha : PA X [a, b] ta) (hs : starEach [a, b] X.env = [(false, eval a X.env), (false, eval b X.env)] := by rfl) (hs2 : starEach [b] X.env = [(false, eval b X.env)] := by rfl) :
    PI X (.Tuple elts k tpos) (.Call (.Name "zip" p) [a, b] [] pos) (iZip X.K ta) := by
  intro pins s σ H R I h
  refine Call_ (ld_blt I hg hm boot_zip (PyProof.Rows.callWith_type1 (thn (ha pos pins s σ H _ I h) fun us s1 ⟨vs, H1, I1, r1, q1⟩ => ?_) (by rw [hs, hs2]) (by rw [hs2]; rfl)))
  obtain ⟨x, y, e, ⟨xs, hx⟩, ⟨ys, hy⟩, q⟩ := q1
  subst e
  obtain ⟨u, v, rfl, ru, rv⟩ := vals2 r1
  cases ru
  cases rv
  obtain ⟨its, rvx, px, _⟩ := I1.list hx
  obtain ⟨its2, rvy, py, _⟩ := I1.list hy
  refine call_zip_2 px.isList py.isList fun h' a1 a2 a3 a4 a5 a6 kk => wpAny_pyIter_zip a1 ?_
  refine ⟨s1.heap.objs.size + 4, [s1.heap.objs.size + 4, s1.heap.objs.size + 2, s1.heap.objs.size + 3, s1.heap.objs.size, s1.heap.objs.size + 1], _, _, H1, rfl, I1.kept (t' := s1.toks) kk, turn_zip x y _ _ _ _ _ ?_, ⟨a1, a2, ⟨_, _, a3⟩, a4, a5⟩, fun b hb => ?_, q⟩
  · generalize s1.heap.objs.size = n
    simp only [List.nodup_cons, List.mem_cons, List.mem_nil_iff, or_false, not_or, List.nodup_nil, and_true, not_false_eq_true]
    refine ⟨⟨?_, ?_, ?_, ?_⟩, ⟨?_, ?_, ?_⟩, ⟨?_, ?_⟩, ?_⟩ <;> (intro h; have h' : (_ : Nat) = _ := h; omega)
  · simp only [List.mem_cons, List.mem_nil_iff, or_false] at hb
    have hl : s1.heap.objs.size ≤ b := by
      rcases hb with h | h | h | h | h <;> rw [h] <;> first | exact Nat.le_add_right _ _ | exact Nat.le_refl _
    exact I1.fpOk hl (I1.hok.fresh hl)

/-! ### texts as lists of codes -/
def revS (x : Str) : Str := ⟨x.cps.toList.reverse.toArray⟩
theorem sliceS_rev (x : Str) : sliceS x none none (some (-1)) = revS x := by
  unfold sliceS revS
  rw [if_neg (by intro h; simp at h)]
  have e := pick_rev x.cps.toList
  have e2 : Builtin.Str.strSliceIndices none none ((some (-1 : Int)).getD 1) x.length = sliceRange ((x.cps.toList.length : Int) - 1) (-1) (-1) := by
    unfold Builtin.Str.strSliceIndices
    simp [Str.length]
  rw [e2]
  have e3 : ((sliceRange ((x.cps.toList.length : Int) - 1) (-1) (-1)).filterMap (x.cps[·]?)) = x.cps.toList.reverse := by
    rw [← e]
    simp
  rw [e3]
theorem revS_length (x : Str) : (revS x).length = x.length := by simp [revS, Str.length]
end
end L2


/-! Exceptions of own classes over the layer: raised, passing through frames, caught by name. -/
namespace L2
open PySem PySem.Spec PyProof.Rows

/-- an exception at a of class cls flies at the frames outer: s, H the state ahead of the call, s', H' the state behind; B: what it leaves as it is -/
structure Fly (P : Program) (w : World) (outer : List Env) (H : Hp) (s : Shared) (a : Addr) (cls a0 : Value) (B : Heap) (H' : Hp) (s' : Shared) : Prop where
  os : s'.os = s.os
  bare : AllBare s'.gens
  un : Un (frs outer) [] H H' s.heap s'.heap
  hok : HOk P w H' s'.heap
  new : s.heap.get? a = none
  out : H' a = none
  fly : Heap.FlyingW B outer a cls a0 s'.heap
  inB : ∀ b o, s.heap.get? b = some o → b ∉ frs outer → ∃ o', B.get? b = some o'
  trB : ∀ b u, H' b = some u → ∃ o', B.get? b = some o'

theorem ObjOk.obj {P : Program} {w : World} {H : Hp} {h : Heap} {a : Addr} {o : HO} (x : ObjOk P w H h a o) : ∃ ob, h.get? a = some ob := by
  cases o with
  | lst xs => obtain ⟨_, _, _, _, e⟩ := x; exact ⟨_, e⟩
  | tup xs => obtain ⟨_, _, _, ob, e, _⟩ := x; exact ⟨_, e⟩
  | dK kvs => obtain ⟨_, _, _, _, o, _, _, e, _⟩ := x; exact ⟨_, e⟩
  | dT kvs => obtain ⟨_, _, _, _, o, _, _, e, _⟩ := x; exact ⟨_, e⟩
  | set S n => obtain ⟨o, _, _, _, e, _⟩ := x; exact ⟨_, e⟩
  | ins C dx fs => obtain ⟨_, _, _, e, _⟩ := x; exact ⟨_, e⟩
  | own y => exact x
  | xd fs => obtain ⟨_, ⟨_, _, _, e, _⟩, _⟩ := x; exact ⟨_, e⟩
  | rng lo hi => obtain ⟨_, _, _, e⟩ := x; exact ⟨_, e⟩
  | frz ob u => obtain ⟨e, _⟩ := x; exact ⟨_, e⟩
  | tbl ps => exact ⟨_, (show h.get? a = some _ from x)⟩
  | met f y => exact ⟨_, (show h.get? a = some _ from x)⟩
  | ext φ => obtain ⟨_, e, _⟩ := x; exact e

/-- how an exception lies behind a call -/
def CX1 (P : Program) (w : World) : CXT := fun outer H s E e s' => ∃ (a : Addr) (cls a0 : Value) (B : Heap) (H' : Hp), e = .ref a ∧ Fly P w outer H s a cls a0 B H' s' ∧ E cls none H'

section
variable {P : Program} {w : World} {outer : List Env} {H H' : Hp} {s s' : Shared} {a : Addr} {cls a0 : Value} {B h5 : Heap}

theorem Fly.frm (F : Fly P w outer H s a cls a0 B H' s') : ∀ b ∈ frs outer, B.get? b = none ∧ ∃ o, s'.heap.get? b = some o ∧ ∀ vs, o.data ≠ .fields vs := fun b hb => F.fly.2.2.1.mem hb
theorem Fly.un' (F : Fly P w outer H s a cls a0 B H' s') (st : B.StaysIn h5) (us : s'.heap.UpToSlots h5) : Un (frs outer) [] H H' s.heap h5 where
  keep := fun b o e n hb hx => by
    have e1 := F.un.keep b o e n hb hx
    obtain ⟨o', e2⟩ := F.inB b o e hb
    have e3 := F.fly.1 b o' e2
    rw [e1] at e3
    cases e3
    exact st b o e2
  slot := fun b o e n hb hx => by
    obtain ⟨sl, e1⟩ := F.un.slot b o e n hb hx
    obtain ⟨_, o2, e2, d2⟩ := F.frm b hb
    rw [e1] at e2
    cases e2
    obtain ⟨sl', e3⟩ := us b _ e1 d2
    exact ⟨sl', e3⟩
  free := F.un.free
  there := fun b o e hx => by
    by_cases hb : b ∈ frs outer
    · obtain ⟨_, o2, e2, d2⟩ := F.frm b hb
      obtain ⟨sl', e3⟩ := us b _ e2 d2
      exact ⟨_, e3⟩
    · obtain ⟨o', e2⟩ := F.inB b o e hb
      exact ⟨o', st b o' e2⟩
  tups := F.un.tups
  frzs := F.un.frzs
  tbls := F.un.tbls
theorem Fly.hok' (F : Fly P w outer H s a cls a0 B H' s') (st : B.StaysIn h5) : HOk P w H' h5 := fun b u e => by
  refine (F.hok b u e).stay (fun c v hc q => ?_) (fun _ q => q) fun _ _ q => q
  have : ∃ u', H' c = some u' := by
    rcases hc with z | z
    · exact ⟨u, z ▸ e⟩
    · exact ⟨_, z⟩
  obtain ⟨u', z⟩ := this
  obtain ⟨o', e2⟩ := F.trB c u' z
  have e3 := F.fly.1 c o' e2
  rw [q] at e3
  cases e3
  exact st c v e2
end

section
variable {X : Cx} {pins : List (Addr × Obj)} {σ : St} {H H' : Hp} {s s' : Shared} {a : Addr} {cls a0 : Value} {B : Heap} {M : Model} {E : Value → Shared → Prop} {Q : Unit → Shared → Prop}

/-- it passes through this frame -/
theorem fly_leave (I : Inv X pins σ H s) (hx : X.ex = []) (hst : X.stack = X.env :: X.outer) (hfr : X.env.frame = some X.env.locals) (F : Fly X.prog X.w X.stack H s a cls a0 B H' s')
    (h : ∀ s'', Fly X.prog X.w X.outer X.H₀ X.s₀ a cls a0 B H' s'' → Q () s'') : wpAny M X.A (leaving X.env (.ref a)) Q E s' := by
  have fl : Heap.FlyingW B (X.env :: X.outer) a cls a0 s'.heap := hst ▸ F.fly
  refine wpAny_leaves_onW (by rw [I.ok.frames, hst]) hfr fl fun h5 fl5 us => h _ ?_
  have u := F.un' fl5.1 us
  have sub : ∀ b, b ∈ frs X.stack ↔ b = X.env.locals ∨ b ∈ X.fs := fun b => by
    rw [hst]
    unfold frs
    rw [List.filterMap_cons, hfr]
    exact List.mem_cons
  have ne : ∀ b o, X.s₀.heap.get? b = some o → b ≠ X.env.locals := fun b o e => Nat.ne_of_lt (Nat.lt_of_lt_of_le (Heap.lt_size e) I.ok.above)
  have nx : ∀ b, b ∉ X.ex := fun b => by rw [hx]; simp
  have nin : ∀ b o, X.s₀.heap.get? b = some o → b ∉ X.fs → b ∉ frs X.stack := fun b o e hb z => by
    rcases (sub b).mp z with q | q
    · exact ne b o e q
    · exact hb q
  refine ⟨F.os.trans I.os, F.bare, ⟨fun b o e n hb _ => ?_, fun b o e n hb _ => ?_, fun b o e n _ => ?_, fun b o e _ => ?_, fun b xs e => u.tups b xs (I.base.tups b xs e), fun b o v e => u.frzs b o v (I.base.frzs b o v e), fun b ps e => ?_⟩, F.hok' fl5.1, ?_, F.out, fl5, fun b o e hb => ?_, F.trB⟩
  · exact u.keep b o (I.base.keep b o e n hb (nx b)) (I.base.free b o e n (nx b)) (nin b o e hb) (by simp)
  · obtain ⟨sl, e1⟩ := I.base.slot b o e n hb (nx b)
    obtain ⟨sl', e2⟩ := u.slot b _ e1 (I.base.free b o e n (nx b)) ((sub b).mpr (.inr hb)) (by simp)
    exact ⟨sl', e2⟩
  · obtain ⟨o', e1⟩ := I.base.there b o e (nx b)
    exact u.free b o' e1 (I.base.free b o e n (nx b)) (by simp)
  · obtain ⟨o', e1⟩ := I.base.there b o e (nx b)
    exact u.there b o' e1 (by simp)
  · obtain ⟨m1, e1⟩ := I.base.tbls b ps e
    obtain ⟨m2, e2⟩ := u.tbls b _ e1
    exact ⟨m1 ++ m2, by rw [e2, Array.append_assoc]⟩
  · cases q : X.s₀.heap.get? a with
    | none => rfl
    | some o =>
      obtain ⟨o', e1⟩ := I.base.there a o q (nx a)
      rw [F.new] at e1; cases e1
  · obtain ⟨o', e1⟩ := I.base.there b o e (nx b)
    exact F.inB b o' e1 (nin b o e hb)

/-- it has just been made here -/
theorem fly_made {h2 : Heap} {args : List Value} (I : Inv X pins σ H s) (hx : X.ex = []) (hst : X.stack = X.env :: X.outer) (hfr : X.env.frame = some X.env.locals) (hm : Heap.MadeExcOf s.heap h2 a cls args)
    (h : ∀ B a0 s'', Fly X.prog X.w X.outer X.H₀ X.s₀ a cls a0 B H s'' → Q () s'') : wpAny M X.A (leaving X.env (.ref a)) Q E { s with heap := h2 } := by
  have fun0 : s.heap.FunFrames X.base (X.env :: X.outer) := hst ▸ I.stack
  have hin : ∀ env ∈ (X.env :: X.outer), ∀ b, env.frame = some b → b ∈ frs X.stack := fun env he b hb => by rw [hst]; exact List.mem_filterMap.mpr ⟨env, he, hb⟩
  refine wpAny_leaves_madeW (base := PySem.W.hideAll s.heap (frs X.stack)) (h := s.heap) (by rw [I.ok.frames, hst]) hfr (fun b o q => PySem.W.of_hideAll _ q) (PySem.W.funFrames_hide fun0 hin) hm fun h5 t fl5 _ _ us => h (PySem.W.hideAll s.heap (frs X.stack)) (.ref t) _ ?_
  have sub : ∀ b, b ∈ frs X.stack ↔ b = X.env.locals ∨ b ∈ X.fs := fun b => by
    rw [hst]
    unfold frs
    rw [List.filterMap_cons, hfr]
    exact List.mem_cons
  have ne : ∀ b o, X.s₀.heap.get? b = some o → b ≠ X.env.locals := fun b o e => Nat.ne_of_lt (Nat.lt_of_lt_of_le (Heap.lt_size e) I.ok.above)
  have nx : ∀ b, b ∉ X.ex := fun b => by rw [hx]; simp
  have nin : ∀ b o, X.s₀.heap.get? b = some o → b ∉ X.fs → b ∉ frs X.stack := fun b o e hb z => by
    rcases (sub b).mp z with q | q
    · exact ne b o e q
    · exact hb q
  have inBs : ∀ b o, s.heap.get? b = some o → b ∉ frs X.stack → (PySem.W.hideAll s.heap (frs X.stack)).get? b = some o := fun b o e hb => PySem.W.hideAll_get _ e hb
  have tr : ∀ b u, H b = some u → ∃ o, s.heap.get? b = some o ∧ b ∉ frs X.stack := fun b u e => by
    obtain ⟨ob, q⟩ := (I.hok b u e).obj
    refine ⟨ob, q, fun z => ?_⟩
    rw [I.stkFree b z] at e; cases e
  have kp : ∀ b o, s.heap.get? b = some o → b ∉ frs X.stack → h5.get? b = some o := fun b o e hb => fl5.1 b o (inBs b o e hb)
  have sl5 : ∀ b o, s.heap.get? b = some o → b ∈ frs X.stack → ∃ sl, h5.get? b = some { o with slots := sl } := fun b o e hb => by
    obtain ⟨_, o2, e2, d2⟩ := I.stack.mem hb
    rw [e] at e2; cases e2
    exact us b o (hm.keeps b o e) d2
  refine ⟨I.os, I.bare, ⟨fun b o e n hb _ => ?_, fun b o e n hb _ => ?_, fun b o e n _ => I.base.free b o e n (nx b), fun b o e _ => ?_, I.base.tups, I.base.frzs, I.base.tbls⟩, fun b u e => ?_, ?_, ?_, fl5, fun b o e hb => ?_, fun b u e => ?_⟩
  · exact kp b o (I.base.keep b o e n hb (nx b)) (nin b o e hb)
  · obtain ⟨sl, e1⟩ := I.base.slot b o e n hb (nx b)
    obtain ⟨sl', e2⟩ := sl5 b _ e1 ((sub b).mpr (.inr hb))
    exact ⟨sl', e2⟩
  · obtain ⟨o', e1⟩ := I.base.there b o e (nx b)
    by_cases hb : b ∈ frs X.stack
    · obtain ⟨sl', e2⟩ := sl5 b _ e1 hb
      exact ⟨_, e2⟩
    · exact ⟨o', kp b o' e1 hb⟩
  · refine (I.hok b u e).stay (fun c v hc q => ?_) (fun _ q => q) fun _ _ q => q
    refine kp c v q fun z => ?_
    have z' := I.stkFree c z
    rcases hc with y | y
    · rw [y, e] at z'; cases z'
    · rw [y] at z'; cases z'
  · cases q : X.s₀.heap.get? a with
    | none => rfl
    | some o =>
      obtain ⟨o', e1⟩ := I.base.there a o q (nx a)
      rw [hm.new] at e1; cases e1
  · cases q : H a with
    | none => rfl
    | some u =>
      obtain ⟨o, e, _⟩ := tr a u q
      rw [hm.new] at e; cases e
  · obtain ⟨o', e1⟩ := I.base.there b o e (nx b)
    exact ⟨o', inBs b o' e1 (nin b o e hb)⟩
  · obtain ⟨o, e1, e2⟩ := tr b u e
    exact ⟨o, inBs b o e1 e2⟩

/-- the state again where it is caught (or looked at) -/
theorem fly_inv {h5 : Heap} (I : Inv X pins σ H s) (F : Fly X.prog X.w X.stack H s a cls a0 B H' s') (st : B.StaysIn h5) (us : s'.heap.UpToSlots h5) : Inv X pins σ H' { s' with heap := h5 } :=
  I.call' (s' := { s' with heap := h5 }) (ch := []) F.os (F.un' st us) (F.hok' st) F.bare fun b hb => absurd hb (by simp)
end

/-! ### raise C("..") -/
/-- what the top has made of an own class of errors below ValueError -/
structure ExcCl (K : PySem.W.Frag) (mg : Str → Option Value) (x : Str) (C : Addr) : Prop where
  mg : mg x = some (.ref C)
  ok : PySem.W.excIn K C [.type "ValueError", .type "Exception", .type "BaseException", .type "object"] "ValueError.__new__" = true

theorem exc_obj {K : PySem.W.Frag} {h : Heap} {C : Addr} {bmB : List Value} {newId : String} (X : K.In h) (q : PySem.W.excIn K C bmB newId = true) :
    ∃ bm N nm qn bs hdct sn sub ab col dd k0 k1 k2 k3 k5 mN, h.get? C = some (excClassObj nm qn C N bs bm hdct sn sub ab col dd k0 k1 k2 k3 k5 newId) ∧ h.Ns N mN ∧ mN "__init__" = none ∧ OwnTail h bmB bm := by
  unfold PySem.W.excIn at q
  split at q
  · rename_i dd cd sl ho
    split at q
    · rename_i C' bm k0 k1 k2 k3 n k5 hm hs
      simp only [Bool.and_eq_true, beq_iff_eq, Bool.not_eq_true'] at q
      obtain ⟨⟨⟨⟨⟨e1, e2⟩, hdel⟩, ht⟩, hok⟩, hni⟩ := q
      subst e1; subst e2
      obtain ⟨nm, bs, mro, ns, qn, hd, sn, sub, ab, col, del⟩ := cd
      dsimp only at hm hdel hok hni
      subst hm; subst hdel
      obtain ⟨l⟩ := sl
      have hs' : l = [k0, k1, k2, k3, some (.builtin n), k5] := hs
      subst hs'
      exact ⟨bm, ns, nm, qn, bs, hd, sn, sub, ab, col, dd, k0, k1, k2, k3, k5, _, X _ _ ho, .of_isNs (PySem.W.isNs_of_in X hok), PySem.W.nsMap_none_of_in X hok hni, PySem.W.tail_of_in X ht⟩
    · cases q
  · cases q

/-- a def of the text whose exceptions leave by CX1: what its context wishes -/
def RaiseX (X : Cx) (E : XK) : Prop := ∀ e s', wpAny (model X.prog X.w) X.A (leaving X.env e) (fun _ s'' => CX1 X.prog X.w X.outer X.H₀ X.s₀ E e s'') (fun e' s'' => CX1 X.prog X.w X.outer X.H₀ X.s₀ E e' s'') s' → X.xe e s'

section
variable {X : Cx} {E E' : XK} {x : Str} {C : Addr} {e₀ : Expr} {rest : List Expr} {ta : TA} {np cpos pos : Pos}
def tRaise (C : Addr) (E : XK) (ta : TA) : TS := fun _ σ H => ta σ H fun vs H1 => vs.length ≤ sizeLine ∧ E (.ref C) none H1
theorem ps_raise (hR : RaiseX X E) (hx : X.ex = []) (hst : X.stack = X.env :: X.outer) (hfr : X.env.frame = some X.env.locals) (hc : X.calm = true) (K : ExcCl X.K X.mg x C) (hg : Gl X x) (ha : PA X (e₀ :: rest) ta)
    (he : starEach (e₀ :: rest) X.env = (false, eval e₀ X.env) :: starEach rest X.env := by rfl) (hp : (backTo cpos (starEach rest X.env)).any (·.1) = false := by rfl) (hd : (x == ("__debug__" : Str)) = false := by decide) :
    PS X (.Raise (some (.Call (.Name x np) (e₀ :: rest) [] cpos)) none pos) (tRaise C E ta) := by
  intro pins s σ H D I h
  obtain ⟨bm, N, nm, qn, bs, hdct, sn, sub, ab, col, dd, k0, k1, k2, k3, k5, mN, hC, hN, hni, T⟩ := exc_obj I.mod.kin K.ok
  refine wpAny_Raise_call_subU (C := C) (nm := nm) (q := qn) (N := N) (bs := bs) (bm := bm) (hdct := hdct) (sn := sn) (sub := sub) (ab := ab) (col := col) (dd := dd) (k0 := k0) (k1 := k1) (k2 := k2) (k3 := k3) (k5 := k5)
    PySem.F.excBase_ValueError rfl PySem.F.excBase_ValueError (mN := mN) (T.hasType PySem.F.excBase_ValueError.hasBase) (I.ok.hd hc) (by rw [he]; exact hp) hni (ld_glob I hg K.mg ⟨rfl, ?_⟩ hd)
  have r := ha cpos pins s σ H _ I h
  rw [he] at r ⊢
  refine Calls.evalArgs_plain (thn r fun us s1 ⟨vs, H1, I1, rv, hl, q⟩ => ?_)
  refine ⟨rfl, by rw [← rv.length]; exact hl, I1.bk _ _ hC, hN.keeps I1.bk, T.keeps I1.bk, fun h' e hm => hR _ _ ?_⟩
  exact fly_made I1 hx hst hfr hm fun B a0 s'' F => ⟨e, _, a0, B, H1, rfl, F, q⟩
/-- an exception of a callee passes through this def -/
theorem passes1 (hR : RaiseX X E) (hx : X.ex = []) (hst : X.stack = X.env :: X.outer) (hfr : X.env.frame = some X.env.locals) (hE : ∀ c d H', E' c d H' → E c d H') : Passes (CX1 X.prog X.w) X E' := by
  intro pins σ H s e s' I h
  obtain ⟨a, cls, a0, B, H', rfl, F, q⟩ := h
  exact hR _ _ (fly_leave I hx hst hfr F fun s'' F' => ⟨a, cls, a0, B, H', rfl, F', hE _ _ _ q⟩)
end

/-- no exception by CX0 is none by any other word -/
theorem FnOk.cx {P : Program} {w : World} {K : PySem.W.Frag} {mg : Str → Option Value} {base : Heap} {CX : CXT} {k : Nat} {f : Addr} {fd : FuncData} {ps : List Str} {sp : Sp} (F : FnOk P w K mg base CX0 k f fd ps sp) : FnOk P w K mg base CX k f fd ps sp :=
  ⟨F.len, fun A outer s H args us vs Q E hr e0 hb hv hs => codeAny_mono (F.run A outer s H args us vs Q E hr e0 hb hv hs) fun r s' h => by
    cases r with
    | ok fl => cases fl <;> exact h
    | error e => exact False.elim h⟩

/-- THE RULE for a def that may raise -/
theorem Fun.okX {P : Program} {w : World} {K : PySem.W.Frag} {mg : Str → Option Value} {base : Heap} {x qual : Str} {st : Stmt} {f : Addr} {fd : FuncData} {N ps : List Str} {k : Nat} {sp : Sp} (F : Fun K x qual st f fd) (S : FnScope N ps (defScope st)) (len : ∀ vs H Q E, sp vs H Q E → vs.length = ps.length)
    (hbody : ∀ (cdv : Value) (A : Around) (outer : List Env) (s : Shared) (H : Hp) (vs : List V) (Q : VK) (E : XK), Room k (A.deeper (envOfC qual (defScope st) s.heap.objs.size f cdv)) → sp vs H Q E →
      ∃ t, PSs (cxOf (CX1 P w) P w K mg base N qual (defScope st) f cdv A outer s H E) (defBody st) t ∧ t { nx := fun _ H' => Q .non H', rt := Q } (start N vs) H) : FnOk P w K mg base (CX1 P w) (k + 1) f fd ps sp := by
  obtain ⟨oc, od, kV, doc, pm, an, cdv, ct, osl, rfl, lk, hcd⟩ := F.ex
  exact fn_of lk hcd S len fun A outer s H vs Q E hr hsp => hbody cdv A outer s H vs Q E hr hsp
theorem raiseX {P : Program} {w : World} {K : PySem.W.Frag} {mg : Str → Option Value} {base : Heap} {N : List Str} {qual : Str} {scope : Scope} {f : Addr} {cd : Value} {A : Around} {outer : List Env} {s : Shared} {H : Hp} {E : XK} :
    RaiseX (cxOf (CX1 P w) P w K mg base N qual scope f cd A outer s H E) E := fun _ _ h => h

/-! ### try: .. except C as n: .. -/
/-- a caught exception at a, of class cls -/
def excO (a : Addr) (cls : Value) : HO := .ext fun h => ∃ o vs, h.get? a = some o ∧ o.cls = cls ∧ o.data = .fields vs

/-- other pins that every state bears, another wish -/
abbrev Cx.guard (X : Cx) (ps : List (Addr × Obj)) (E : Value → Shared → Prop) : Cx := { X with pn := ps, xe := E }
theorem Cx.Ok.guard {X : Cx} (ok : X.Ok) (ps : List (Addr × Obj)) (E : Value → Shared → Prop) : (X.guard ps E).Ok :=
  ⟨ok.mod, ok.kind, ok.glob, ok.blt, ok.above, ok.inj, ok.has, ok.cab, ok.hd, ok.frames, ok.stk, ok.exf, ok.bs, ok.bsz, ok.noex, ok.exfs, ok.funs, ok.frf⟩
theorem Cx.Ok.unguard {X : Cx} {ps : List (Addr × Obj)} {E : Value → Shared → Prop} (ok : (X.guard ps E).Ok) : X.Ok :=
  ⟨ok.mod, ok.kind, ok.glob, ok.blt, ok.above, ok.inj, ok.has, ok.cab, ok.hd, ok.frames, ok.stk, ok.exf, ok.bs, ok.bsz, ok.noex, ok.exfs, ok.funs, ok.frf⟩
/-- within an except suite -/
abbrev Cx.marked (X : Cx) (a : Addr) : Cx := { X with A := X.A.mark (some (.ref a)), calm := false, xe := fun _ _ => False }
theorem Cx.Ok.marked {X : Cx} (ok : X.Ok) (a : Addr) : (X.marked a).Ok :=
  ⟨ok.mod, ok.kind, ok.glob, ok.blt, ok.above, ok.inj, ok.has, ok.cab, (fun z => nomatch z), ok.frames, ok.stk, ok.exf, ok.bs, ok.bsz, ok.noex, ok.exfs, ok.funs, ok.frf⟩
theorem Cx.Ok.unmarked {X : Cx} {a : Addr} (ok : (X.marked a).Ok) (hd : X.calm = true → X.A.handled = none) : X.Ok :=
  ⟨ok.mod, ok.kind, ok.glob, ok.blt, ok.above, ok.inj, ok.has, ok.cab, hd, ok.frames, ok.stk, ok.exf, ok.bs, ok.bsz, ok.noex, ok.exfs, ok.funs, ok.frf⟩
section
variable {X : Cx} {pins : List (Addr × Obj)} {σ : St} {H : Hp} {s : Shared} {E : Value → Shared → Prop} {a : Addr}
theorem Inv.guard (I : Inv X pins σ H s) (E : Value → Shared → Prop) : Inv (X.guard (X.pn ++ pins) E) [] σ H s := ⟨I.ok.guard _ E, I.os, I.bare, I.base, I.loc, I.cell, I.free, I.freeC, fun p hp => I.pin p (by simpa using hp), I.hok, I.len⟩
theorem Inv.unguard {ps : List (Addr × Obj)} (I : Inv (X.guard (X.pn ++ pins) E) ps σ H s) : Inv X pins σ H s := ⟨I.ok.unguard, I.os, I.bare, I.base, I.loc, I.cell, I.free, I.freeC, fun p hp => I.pin p (List.mem_append_left _ hp), I.hok, I.len⟩
theorem Inv.marked (I : Inv X pins σ H s) (a : Addr) : Inv (X.marked a) pins σ H s := ⟨I.ok.marked a, I.os, I.bare, I.base, I.loc, I.cell, I.free, I.freeC, I.pin, I.hok, I.len⟩
theorem Inv.unmarked (I : Inv (X.marked a) pins σ H s) (ok : X.Ok) : Inv X pins σ H s := ⟨ok, I.os, I.bare, I.base, I.loc, I.cell, I.free, I.freeC, I.pin, I.hok, I.len⟩
end

/-- the ends of a suite, behind which the name in slot i is gone -/
def Ends.gone (D : Ends) (i : Nat) : Ends := { nx := fun σ H => D.nx (σ.set i none) H, rt := D.rt, bk := fun σ H => D.bk (σ.set i none) H, ct := fun σ H => D.ct (σ.set i none) H }
/-- what is wanted of an exception that the suite ts (its name in slot i of n) catches; QC: the clause's class -/
def xTry (K : PySem.W.Frag) (QC : Value) (n i : Nat) (ts : TS) (D : Ends) : XK := fun cls _ H => PySem.W.exmOne K cls QC = some true ∧ ∀ a, H a = none → ts (D.gone i) ((List.replicate n none).set i (some (.ref a))) (upd H a (excO a cls))
def tTry (K : PySem.W.Frag) (QC : Value) (n i : Nat) (tb : XK → TS) (ts : TS) : TS := fun D σ H => tb (xTry K QC n i ts D) D σ H

section
variable {X : Cx} {QC : Value} {x n : Str} {i : Nat} {body suite : List Stmt} {b₀ : Stmt} {tb : XK → TS} {ts : TS} {np hpos pos : Pos}
theorem ps_try (hst : X.stack = X.env :: X.outer) (hfr : X.env.frame = some X.env.locals) (hg : Gl X x) (hm : X.mg x = some QC) (hN : X.N.Nodup) (hi : X.N[i]? = some n) (hL : X.env.scope.names.lookup n = some .local)
    (hb : ∀ (ps : List (Addr × Obj)) (xe : Value → Shared → Prop) (E : XK), Passes (CX1 X.prog X.w) (X.guard ps xe) E → PSs (X.guard ps xe) body (tb E))
    (hs : ∀ a, PSs (X.marked a) (b₀ :: suite) ts) (hd : (x == ("__debug__" : Str)) = false := by decide) :
    PS X (.Try body [.ExceptHandler (some (.Name x np)) (some n) (b₀ :: suite) hpos] [] [] pos) (tTry X.K QC X.N.length i tb ts) := by
  intro pins s σ H D I h
  have okX := I.ok
  refine wpAny_Try_except ?_
  have P1 : Passes (CX1 X.prog X.w) (X.guard (X.pn ++ pins) fun e s₁ => wpAny (model X.prog X.w) X.A (noteFrame e X.env) (fun _ s₂ => wpAny (model X.prog X.w) X.A (setFlight e none) (fun _ s₃ => wpAny (model X.prog X.w) X.A (handleBy e X.env [.ExceptHandler (some (.Name x np)) (some n) (b₀ :: suite) hpos]) (SP X pins D) X.xe s₃) X.xe s₂) X.xe s₁) (xTry X.K QC X.N.length i ts D) := by
    intro ps' σ' H1 s1 e s2 I1 hx
    obtain ⟨a, cls, a0, B, H2, rfl, F, hm1, q⟩ := hx
    have J1 : Inv X pins σ' H1 s1 := I1.unguard
    have fl : Heap.FlyingW B (X.env :: X.outer) a cls a0 s2.heap := hst ▸ F.fly
    show wpAny (model X.prog X.w) X.A (noteFrame (.ref a) X.env) _ X.xe s2
    refine wpAny_looks_onW (by rw [okX.frames, hst]) hfr fl fun h3 held3 us3 => ?_
    refine wpAny_landsW held3 fun h4 fl4 us4 => ?_
    have J4 : Inv X pins σ' H2 { s2 with heap := h4 } := fly_inv J1 F fl4.1 (us3.trans us4)
    refine wpAny_handleBy_cons (codeAny_handlers_test ?_) (by intro q; cases q)
    refine ld_glob (X := X.marked a) (J4.marked a) hg hm ?_ hd
    obtain ⟨ob, hob, hcl⟩ := fl4.there
    have LT : PySem.W.Looks (model X.prog X.w) h4 (typeOf (.ref a)) cls := hcl ▸ (PySem.W.Looks.ld hob).andThen PySem.W.Looks.now
    refine (PySem.W.exm_one (K := X.K) J4.kIn LT hm1).here ?_
    show codeAny (model X.prog X.w) (X.A.mark (some (.ref a))) (.handlers (.ref a) [.ExceptHandler none (some n) (b₀ :: suite) hpos] X.env) _ _
    refine codeAny_handlers_suite_as ?_
    refine lands_againW fl4 fun h5 fl5 us5 => ?_
    have us : s2.heap.UpToSlots h5 := (us3.trans us4).trans us5
    obtain ⟨oe, vs, hoe, hoc, hod, _⟩ := fl5.first
    have na : H2 a = none := F.out
    have J5 : Inv X pins (List.replicate X.N.length none) (upd H2 a (excO a cls)) { s2 with heap := h5 } := by
      have u := F.un' fl5.1 us
      have k0 := F.hok' fl5.1
      refine Inv.weak (σ := σ') (J1.call' (s' := { s2 with heap := h5 }) (ch := []) F.os ⟨u.keep, u.slot, fun b o e m hx => ?_, u.there, fun b xs e => ?_, fun b o v e => ?_, fun b p e => ?_⟩ (fun b u' e => ?_) F.bare fun b hb => absurd hb (by simp)) (by rw [List.length_replicate]; exact J1.len.symm) fun j v e => ?_
      · have : b ≠ a := fun z => by rw [z, F.new] at e; cases e
        rw [upd_ne this]; exact u.free b o e m hx
      · have e1 := u.tups b xs e
        rw [upd_ne (ne_of_none e1 na)]; exact e1
      · have e1 := u.frzs b o v e
        rw [upd_ne (ne_of_none e1 na)]; exact e1
      · obtain ⟨more, e1⟩ := u.tbls b p e
        exact ⟨more, by rw [upd_ne (ne_of_none e1 na)]; exact e1⟩
      · by_cases hba : b = a
        · subst hba
          rw [upd_same] at e
          cases e
          exact ⟨⟨oe, vs, hoe, hoc, hod⟩, ⟨oe, hoe⟩, fun h1 h2 ⟨o, ws, e1, e2, e3⟩ k => ⟨o, ws, k o e1, e2, e3⟩⟩
        · rw [upd_ne hba] at e
          refine (k0 b u' e).stay (fun c v _ q => q) (fun c q => ?_) fun c xs q => ?_
          · rw [upd_ne (ne_of_none q na)]; exact q
          · rw [upd_ne (ne_of_none q na)]; exact q
      · rw [List.getElem?_replicate] at e
        split at e <;> cases e
    refine store_ok (X := X.marked a) (v := .ref a) (i := i) (J5.marked a) hN hi (.inl hL) rfl (fun s6 I6 => ?_) (.inr hL)
    refine wpAny_mono (hs a pins s6 _ _ (D.gone i) I6 (q a na)) (fun f s7 h7 => ?_) fun _ _ z => z.elim
    have fin : ∀ {σ7 : St} {H7 : Hp} {R : Unit → Shared → Prop}, Inv (X.marked a) pins σ7 H7 s7 → (∀ s8, Inv X pins (σ7.set i none) H7 s8 → R () s8) → wpAny (model X.prog X.w) X.A (do bindName X.env n .none; unbindBehindTheSuite X.env n hpos) R X.xe s7 := by
      intro σ7 H7 R I7 hq
      have J7 : Inv X pins σ7 H7 s7 := I7.unmarked okX
      refine wpAny_bind (wpAny_bindName (store_ok J7 hN hi (.inl hL) (v := .non) (u := .none) rfl (fun s8 I8 => ?_) (.inr hL)))
      unfold unbindBehindTheSuite
      refine wpAny_onRaise ?_
      obtain ⟨m, hn, hl⟩ := id I8.loc
      have hiσ : i < σ7.length := by rw [J7.len]; exact (List.getElem?_eq_some_iff.mp hi).1
      obtain ⟨u, ru, lk⟩ := hl i n .non hi (by rw [List.getElem?_set_self hiσ]) (.inl hL)
      have hmn : m n = some u := by
        rcases lk with ⟨_, z⟩ | ⟨k, _⟩
        · exact z
        · have hL' : X.env.kindOf n = some .local := hL
          rcases k with k | k <;> (rw [hL'] at k; cases k)
      have hcls : (X.env.scope.kind == .class || (X.env.scope.kind == .module && X.env.locals != X.env.globals)) = false := by rw [okX.kind]; rfl
      refine wpAny_unbindName_local (m := m) hL hn hmn hcls fun h9 u9 hn9 sb9 => hq _ ?_
      obtain ⟨oL, _, _, hoL, _⟩ := id hn
      have I9 : Inv X pins ((σ7.set i (some .non)).set i none) H7 { s8 with heap := h9 } := by
        have neL : ∀ b o, X.s₀.heap.get? b = some o → b ≠ X.env.locals := fun b o e => Nat.ne_of_lt (Nat.lt_of_lt_of_le (Heap.lt_size e) okX.above)
        refine ⟨okX, I8.os, I8.bare, ⟨fun b o e n' hb hx' => ?_, fun b o e n' hb hx' => ?_, I8.base.free, fun b o e hx' => ?_, I8.base.tups, I8.base.frzs, I8.base.tbls⟩, ⟨_, hn9, fun j y v' e1 e2 e3 => ?_⟩, fun y c e => ?_, I8.free, I8.freeC, fun p hp => ?_, fun b ob e => ?_, by simpa using I8.len⟩
        · exact (sb9.2 b (neL b o e)).trans (I8.base.keep b o e n' hb hx')
        · obtain ⟨sl, z⟩ := I8.base.slot b o e n' hb hx'
          exact ⟨sl, (sb9.2 b (neL b o e)).trans z⟩
        · obtain ⟨o', z⟩ := I8.base.there b o e hx'
          exact ⟨o', (sb9.2 b (neL b o e)).trans z⟩
        · have hj : j ≠ i := fun z => by
            subst z
            rw [List.getElem?_set_self (by simpa using hiσ)] at e2
            cases e2
          rw [List.getElem?_set_ne (Ne.symm hj)] at e2
          obtain ⟨u', r', q'⟩ := hl j y v' e1 e2 e3
          refine ⟨u', r', ?_⟩
          rcases q' with ⟨k, z⟩ | ⟨k, c, z, y'⟩
          · refine .inl ⟨k, ?_⟩
            have ny : y ≠ n := fun z => hj (nodup_ix hN e1 (z ▸ hi))
            simp [ny, z]
          · exact .inr ⟨k, c, z, y'.sameBut sb9 (I8.cne y c z)⟩
        · obtain ⟨v, z⟩ := I8.cell y c e
          exact ⟨v, z.sameBut sb9 (I8.cne y c e)⟩
        · obtain ⟨e, n', ne, nf, d⟩ := I8.pin p hp
          exact ⟨(sb9.2 p.1 ne).trans e, n', ne, nf, d⟩
        · refine (I8.hok b ob e).stay (fun c v hc q' => (sb9.2 c ?_).trans q') (fun _ q' => q') fun _ _ q' => q'
          intro z
          have z' := I8.free
          rcases hc with y | y
          · rw [← z, y, e] at z'; cases z'
          · rw [← z, y] at z'; cases z'
      rw [List.set_set] at I9
      exact I9
    cases f with
    | next =>
      obtain ⟨σ7, H7, I7, q7⟩ := h7
      exact fin I7 fun s8 I8 => ⟨_, H7, I8, q7⟩
    | brk =>
      obtain ⟨σ7, H7, I7, q7⟩ := h7
      exact fin I7 fun s8 I8 => ⟨_, H7, I8, q7⟩
    | cont =>
      obtain ⟨σ7, H7, I7, q7⟩ := h7
      exact fin I7 fun s8 I8 => ⟨_, H7, I8, q7⟩
    | ret v =>
      obtain ⟨v', σ7, H7, I7, r7, q7⟩ := h7
      exact fin I7 fun s8 I8 => ⟨v', _, H7, I8, r7, q7⟩
  have back : ∀ {f : Flow} {s' : Shared} {E : Value → Shared → Prop}, SP (X.guard (X.pn ++ pins) E) [] D f s' → SP X pins D f s' := fun {f s' E} q => by
    cases f with
    | next => obtain ⟨σ', H', J, z⟩ := q; exact ⟨σ', H', J.unguard, z⟩
    | brk => obtain ⟨σ', H', J, z⟩ := q; exact ⟨σ', H', J.unguard, z⟩
    | cont => obtain ⟨σ', H', J, z⟩ := q; exact ⟨σ', H', J.unguard, z⟩
    | ret u => obtain ⟨v, σ', H', J, r, z⟩ := q; exact ⟨v, σ', H', J.unguard, r, z⟩
  refine wpAny_mono (hb (X.pn ++ pins) _ _ P1 [] s σ H D (I.guard _) h) (fun f s' q => ?_) fun _ _ z => z
  have q' := back q
  cases f with
  | next => exact wpAny_execs_nil q'
  | brk => exact q'
  | cont => exact q'
  | ret u => exact q'
end
end L2


/-! Data by their contents; == and != of what is alike; count, index, max. -/
namespace L2
open PySem PySem.Spec PyProof.Rows

inductive Dt where
  | non | bl (b : Bool) | int (i : Int) | str (x : Str) | lst (ds : List Dt) | tup (ds : List Dt)

mutual
def Rep (K : PySem.W.Frag) (H : Hp) : Dt → V → Prop
  | .non, v => v = .non
  | .bl b, v => v = .bl b
  | .int i, v => v = .int i
  | .str x, v => v = .str x
  | .lst ds, v => ∃ a xs, v = .ref a ∧ SqL K H a xs ∧ Reps K H ds xs
  | .tup ds, v => ∃ a xs, v = .ref a ∧ SqT K H a xs ∧ Reps K H ds xs
def Reps (K : PySem.W.Frag) (H : Hp) : List Dt → List V → Prop
  | [], xs => xs = []
  | d :: ds, xs => ∃ x r, xs = x :: r ∧ Rep K H d x ∧ Reps K H ds r
end
mutual
def Dt.dep : Dt → Nat
  | .non => 0
  | .bl _ => 0
  | .int _ => 0
  | .str _ => 0
  | .lst ds => Dt.deps ds + 1
  | .tup ds => Dt.deps ds + 1
def Dt.deps : List Dt → Nat
  | [] => 0
  | d :: ds => max (Dt.dep d) (Dt.deps ds)
end
mutual
theorem Rep.same {K : PySem.W.Frag} {H H' : Hp} (e : Same H H') : ∀ {d : Dt} {v : V}, Rep K H d v → Rep K H' d v
  | .non, _, h => by unfold Rep at h ⊢; exact h
  | .bl _, _, h => by unfold Rep at h ⊢; exact h
  | .int _, _, h => by unfold Rep at h ⊢; exact h
  | .str _, _, h => by unfold Rep at h ⊢; exact h
  | .lst ds, _, h => by
    unfold Rep at h ⊢
    obtain ⟨a, xs, rfl, q, r⟩ := h
    exact ⟨a, xs, rfl, e.seq q, Reps.same e r⟩
  | .tup ds, _, h => by
    unfold Rep at h ⊢
    obtain ⟨a, xs, rfl, q, r⟩ := h
    exact ⟨a, xs, rfl, e.tup q, Reps.same e r⟩
theorem Reps.same {K : PySem.W.Frag} {H H' : Hp} (e : Same H H') : ∀ {ds : List Dt} {vs : List V}, Reps K H ds vs → Reps K H' ds vs
  | [], _, h => by unfold Reps at h ⊢; exact h
  | d :: ds, _, h => by
    unfold Reps at h ⊢
    obtain ⟨x, r, rfl, q, t⟩ := h
    exact ⟨x, r, rfl, Rep.same e q, Reps.same e t⟩
end
theorem Reps.length {K : PySem.W.Frag} {H : Hp} : ∀ {ds : List Dt} {vs : List V}, Reps K H ds vs → vs.length = ds.length
  | [], _, h => by unfold Reps at h; rw [h]; rfl
  | d :: ds, _, h => by
    unfold Reps at h
    obtain ⟨x, r, rfl, q, t⟩ := h
    rw [List.length_cons, List.length_cons, Reps.length t]

theorem all_true (n : Nat) : (List.range n).all (fun _ => true) = true := by simp

section
variable {X : Cx} {pins : List (Addr × Obj)} {σ : St} {H : Hp} {s : Shared}
mutual
theorem rep_eq (I : Inv X pins σ H s) : ∀ (d : Dt) {x y : V} {u v : Value} {A : Around}, Rep X.K H d x → Rep X.K H d y → RelV x u → RelV y v → A.units + d.dep < cLine → SeqAt.EqAt A s u v true
  | .non, x, y, u, v, A, hx, hy, rx, ry, _ => by
    unfold Rep at hx hy; subst hx; subst hy; cases rx; cases ry; exact SeqAt.EqAt.same _
  | .bl b, x, y, u, v, A, hx, hy, rx, ry, _ => by
    unfold Rep at hx hy; subst hx; subst hy; cases rx; cases ry; exact SeqAt.EqAt.same _
  | .int i, x, y, u, v, A, hx, hy, rx, ry, _ => by
    unfold Rep at hx hy; subst hx; subst hy
    obtain ⟨t, rfl⟩ := rx; obtain ⟨t', rfl⟩ := ry
    have := SeqAt.EqAt.int_int (A := A) (s := s) i t i t'
    rwa [beq_self_eq_true] at this
  | .str z, x, y, u, v, A, hx, hy, rx, ry, _ => by
    unfold Rep at hx hy; subst hx; subst hy
    obtain ⟨t, rfl⟩ := rx; obtain ⟨t', rfl⟩ := ry
    have := SeqAt.EqAt.str_str (A := A) (s := s) z t z t'
    rwa [beq_self_eq_true] at this
  | .lst ds, x, y, u, v, A, hx, hy, rx, ry, hu => by
    unfold Rep at hx hy
    obtain ⟨a, xs, rfl, qa, ra⟩ := hx
    obtain ⟨b, ys, rfl, qb, rb⟩ := hy
    cases rx; cases ry
    by_cases hab : a = b
    · subst hab; exact SeqAt.EqAt.same _
    · obtain ⟨its, r1, p1, _⟩ := I.list qa
      obtain ⟨its2, r2, p2, _⟩ := I.list qb
      have hu' : A.units + (Dt.deps ds + 1) < cLine := hu
      have l1 : its.length = ds.length := by rw [← r1.length, ra.length]
      have l2 : its2.length = ds.length := by rw [← r2.length, rb.length]
      refine SeqAt.EqAt.of_refs hab ?_
      have := SeqAt.RcAt.lists (A := A) (e := fun _ => true) p1.isList p2.isList (by simp [l1, l2]) (by omega) fun j h1 h2 => by
        have := reps_eq I ds (A := A.in1) ra rb r1 r2 (by show A.units + 1 + Dt.deps ds < cLine; omega) j (by simpa using h1) (by simpa using h2)
        simpa using this
      rwa [all_true] at this
  | .tup ds, x, y, u, v, A, hx, hy, rx, ry, hu => by
    unfold Rep at hx hy
    obtain ⟨a, xs, rfl, qa, ra⟩ := hx
    obtain ⟨b, ys, rfl, qb, rb⟩ := hy
    cases rx; cases ry
    by_cases hab : a = b
    · subst hab; exact SeqAt.EqAt.same _
    · obtain ⟨its, r1, p1, _⟩ := I.tuple qa
      obtain ⟨its2, r2, p2, _⟩ := I.tuple qb
      have hu' : A.units + (Dt.deps ds + 1) < cLine := hu
      have l1 : its.length = ds.length := by rw [← r1.length, ra.length]
      have l2 : its2.length = ds.length := by rw [← r2.length, rb.length]
      refine SeqAt.EqAt.of_refs hab ?_
      have := SeqAt.RcAt.tuples (A := A) (e := fun _ => true) (show s.heap.IsTuple a its.toArray from p1) (show s.heap.IsTuple b its2.toArray from p2) (by omega) fun j h1 h2 => by
        have := reps_eq I ds (A := A.in1) ra rb r1 r2 (by show A.units + 1 + Dt.deps ds < cLine; omega) j (by simpa using h1) (by simpa using h2)
        simpa using this
      have e : (its.toArray.size == its2.toArray.size) = true := by simp [l1, l2]
      rwa [all_true, e, Bool.and_self] at this
theorem reps_eq (I : Inv X pins σ H s) : ∀ (ds : List Dt) {xs ys : List V} {us vs : List Value} {A : Around}, Reps X.K H ds xs → Reps X.K H ds ys → Vals xs us → Vals ys vs → A.units + Dt.deps ds < cLine →
    ∀ (j : Nat) (h1 : j < us.length) (h2 : j < vs.length), SeqAt.EqAt A s us[j] vs[j] true
  | [], xs, ys, us, vs, A, hx, hy, rx, ry, _, j, h1, h2 => by
    unfold Reps at hx; subst hx; cases rx; simp at h1
  | d :: ds, xs, ys, us, vs, A, hx, hy, rx, ry, hu, j, h1, h2 => by
    unfold Reps at hx hy
    obtain ⟨x, r, rfl, q, t⟩ := hx
    obtain ⟨x', r', rfl, q', t'⟩ := hy
    cases rx with
    | cons rx rxs =>
      cases ry with
      | cons ry rys =>
        have hu' : A.units + max (Dt.dep d) (Dt.deps ds) < cLine := hu
        cases j with
        | zero => exact rep_eq I d q q' rx ry (by omega)
        | succ j => exact reps_eq I ds t t' rxs rys (by omega) j (by simpa using h1) (by simpa using h2)
end
end

section
variable {X : Cx}
/-- x == y, both hold the same -/
def rEqD (X : Cx) : R2 := fun x y H Q => X.A.units + 64 < cLine ∧ ∃ d : Dt, d.dep ≤ 60 ∧ Rep X.K H d x ∧ Rep X.K H d y ∧ Q (.bl true) H
theorem op_eqD : OpR X (compareOp .Eq) (rEqD X) := by
  intro pins s σ H x y u v Q I rx ry h
  obtain ⟨hu, d, hd, hx, hy, q⟩ := h
  have fin : EP X pins σ Q (.bool true) s := ⟨.bl true, H, I, rfl, q⟩
  show wpAny (model X.prog X.w) X.A (richCompare .Eq u v) (EP X pins σ Q) X.xe s
  have rc : SeqAt.RcAt X.A s u v true := by
    cases d with
    | non => unfold Rep at hx hy; subst hx; subst hy; cases rx; cases ry; exact SeqAt.RcAt.none_none
    | bl b =>
      unfold Rep at hx hy; subst hx; subst hy; cases rx; cases ry
      have := SeqAt.RcAt.bool_bool (A := X.A) (s := s) b b
      rwa [beq_self_eq_true] at this
    | int i =>
      unfold Rep at hx hy; subst hx; subst hy
      obtain ⟨t, rfl⟩ := rx; obtain ⟨t', rfl⟩ := ry
      have := SeqAt.RcAt.int_int (A := X.A) (s := s) i t i t'
      rwa [beq_self_eq_true] at this
    | str z =>
      unfold Rep at hx hy; subst hx; subst hy
      obtain ⟨t, rfl⟩ := rx; obtain ⟨t', rfl⟩ := ry
      have := SeqAt.RcAt.str_str (A := X.A) (s := s) z t z t'
      rwa [beq_self_eq_true] at this
    | lst ds =>
      unfold Rep at hx hy
      obtain ⟨a, xs, rfl, qa, ra⟩ := hx
      obtain ⟨b, ys, rfl, qb, rb⟩ := hy
      cases rx; cases ry
      obtain ⟨its, r1, p1, _⟩ := I.list qa
      obtain ⟨its2, r2, p2, _⟩ := I.list qb
      have hd' : Dt.deps ds + 1 ≤ 60 := hd
      have l1 : its.length = ds.length := by rw [← r1.length, ra.length]
      have l2 : its2.length = ds.length := by rw [← r2.length, rb.length]
      have := SeqAt.RcAt.lists (A := X.A) (e := fun _ => true) p1.isList p2.isList (by simp [l1, l2]) (by omega) fun j h1 h2 => by
        have := reps_eq I ds (A := X.A.in1) ra rb r1 r2 (by show X.A.units + 1 + Dt.deps ds < cLine; omega) j (by simpa using h1) (by simpa using h2)
        simpa using this
      rwa [all_true] at this
    | tup ds =>
      unfold Rep at hx hy
      obtain ⟨a, xs, rfl, qa, ra⟩ := hx
      obtain ⟨b, ys, rfl, qb, rb⟩ := hy
      cases rx; cases ry
      obtain ⟨its, r1, p1, _⟩ := I.tuple qa
      obtain ⟨its2, r2, p2, _⟩ := I.tuple qb
      have hd' : Dt.deps ds + 1 ≤ 60 := hd
      have l1 : its.length = ds.length := by rw [← r1.length, ra.length]
      have l2 : its2.length = ds.length := by rw [← r2.length, rb.length]
      have := SeqAt.RcAt.tuples (A := X.A) (e := fun _ => true) (show s.heap.IsTuple a its.toArray from p1) (show s.heap.IsTuple b its2.toArray from p2) (by omega) fun j h1 h2 => by
        have := reps_eq I ds (A := X.A.in1) ra rb r1 r2 (by show X.A.units + 1 + Dt.deps ds < cLine; omega) j (by simpa using h1) (by simpa using h2)
        simpa using this
      have e : (its.toArray.size == its2.toArray.size) = true := by simp [l1, l2]
      rwa [all_true, e, Bool.and_self] at this
  exact rc X.prog X.w X.xe _ fin
/-- x != y: both hold the same, or a list against the empty one -/
def rNeD (X : Cx) : R2 := fun x y H Q => X.A.units + 64 < cLine ∧ ((∃ d : Dt, d.dep ≤ 60 ∧ Rep X.K H d x ∧ Rep X.K H d y ∧ Q (.bl false) H) ∨
  ∃ a b xs, x = .ref a ∧ y = .ref b ∧ SqL X.K H a xs ∧ SqL X.K H b [] ∧ Q (.bl (!xs.isEmpty)) H)
theorem op_neD : OpR X (compareOp .NotEq) (rNeD X) := by
  intro pins s σ H x y u v Q I rx ry h
  obtain ⟨hu, h⟩ := h
  show wpAny (model X.prog X.w) X.A (richCompare .NotEq u v) (EP X pins σ Q) X.xe s
  rcases h with ⟨d, hd, hx, hy, q⟩ | ⟨a, b, xs, rfl, rfl, qa, qb, q⟩
  · have fin : EP X pins σ Q (.bool false) s := ⟨.bl false, H, I, rfl, q⟩
    have rc : SeqAt.RcNeAt X.A s u v false := by
      cases d with
      | non => unfold Rep at hx hy; subst hx; subst hy; cases rx; cases ry; exact SeqAt.RcNeAt.none_none
      | bl b =>
        unfold Rep at hx hy; subst hx; subst hy; cases rx; cases ry
        have := SeqAt.RcNeAt.bool_bool (A := X.A) (s := s) b b
        rwa [beq_self_eq_true] at this
      | int i =>
        unfold Rep at hx hy; subst hx; subst hy
        obtain ⟨t, rfl⟩ := rx; obtain ⟨t', rfl⟩ := ry
        have := SeqAt.RcNeAt.int_int (A := X.A) (s := s) i t i t'
        rwa [beq_self_eq_true] at this
      | str z =>
        unfold Rep at hx hy; subst hx; subst hy
        obtain ⟨t, rfl⟩ := rx; obtain ⟨t', rfl⟩ := ry
        have := SeqAt.RcNeAt.str_str (A := X.A) (s := s) z t z t'
        rwa [beq_self_eq_true] at this
      | lst ds =>
        unfold Rep at hx hy
        obtain ⟨a, xs, rfl, qa, ra⟩ := hx
        obtain ⟨b, ys, rfl, qb, rb⟩ := hy
        cases rx; cases ry
        obtain ⟨its, r1, p1, _⟩ := I.list qa
        obtain ⟨its2, r2, p2, _⟩ := I.list qb
        have hd' : Dt.deps ds + 1 ≤ 60 := hd
        have l1 : its.length = ds.length := by rw [← r1.length, ra.length]
        have l2 : its2.length = ds.length := by rw [← r2.length, rb.length]
        have := SeqAt.RcNeAt.lists (A := X.A) (e := fun _ => true) p1.isList p2.isList (by simp [l1, l2]) (by omega) fun j h1 h2 => by
          have := reps_eq I ds (A := X.A.in1) ra rb r1 r2 (by show X.A.units + 1 + Dt.deps ds < cLine; omega) j (by simpa using h1) (by simpa using h2)
          simpa using this
        rwa [all_true] at this
      | tup ds =>
        unfold Rep at hx hy
        obtain ⟨a, xs, rfl, qa, ra⟩ := hx
        obtain ⟨b, ys, rfl, qb, rb⟩ := hy
        cases rx; cases ry
        obtain ⟨its, r1, p1, _⟩ := I.tuple qa
        obtain ⟨its2, r2, p2, _⟩ := I.tuple qb
        have hd' : Dt.deps ds + 1 ≤ 60 := hd
        have l1 : its.length = ds.length := by rw [← r1.length, ra.length]
        have l2 : its2.length = ds.length := by rw [← r2.length, rb.length]
        have := SeqAt.RcNeAt.tuples (A := X.A) (e := fun _ => true) (show s.heap.IsTuple a its.toArray from p1) (show s.heap.IsTuple b its2.toArray from p2) (by omega) fun j h1 h2 => by
          have := reps_eq I ds (A := X.A.in1) ra rb r1 r2 (by show X.A.units + 1 + Dt.deps ds < cLine; omega) j (by simpa using h1) (by simpa using h2)
          simpa using this
        have e : (its.toArray.size == its2.toArray.size) = true := by simp [l1, l2]
        rwa [all_true, e, Bool.and_self] at this
    exact rc X.prog X.w X.xe _ fin
  · cases rx; cases ry
    have fin : EP X pins σ Q (.bool (!xs.isEmpty)) s := ⟨.bl _, H, I, rfl, q⟩
    obtain ⟨its, r1, p1, _⟩ := I.list qa
    obtain ⟨its2, r2, p2, _⟩ := I.list qb
    cases r2
    cases xs with
    | nil =>
      cases r1
      have := SeqAt.RcNeAt.lists (A := X.A) (e := fun _ => true) p1.isList p2.isList rfl (by omega) fun j h1 h2 => absurd h1 (by simp)
      exact this X.prog X.w X.xe _ fin
    | cons x xs =>
      have hne : ((its.toArray.size) != (([] : List Value).toArray.size)) = true := by
        have := r1.length
        simp only [List.length_cons] at this
        simp
        intro z
        rw [z] at this
        simp at this
      exact (SeqAt.RcNeAt.lists_lengths (A := X.A) p1.isList p2.isList hne (by omega)) X.prog X.w X.xe _ fin

/-! ### list.count, list.index -/
theorem count_eqU {x : V} : ∀ {xs : List V} {us : List Value}, Vals xs us → xs.all flatV = true → us.countP (eqU x) = xs.countP fun y => eqV y x
  | _, _, .nil, _ => rfl
  | y :: ys, u :: us, .cons r t, h => by
    simp only [List.all_cons, Bool.and_eq_true] at h
    rw [List.countP_cons, List.countP_cons, count_eqU t h.2, eqU_of r h.1]
def rCount (K : PySem.W.Frag) : V → List V → Hp → VK → Prop := fun x vs H Q => ∃ a xs v, x = .ref a ∧ vs = [v] ∧ SqL K H a xs ∧ xs.all flatV = true ∧ flatV v = true ∧ Q (.int (xs.countP fun y => eqV y v : Nat)) H
theorem mt_count : MtR X "list.count" (rCount X.K) := by
  intro pins s σ H x vs v us Q I rx rv h
  obtain ⟨a, xs, w, rfl, rfl, hq, hf, hw, q⟩ := h
  cases rx
  obtain ⟨u, rfl, ru⟩ := rv.one
  obtain ⟨its, r, ⟨⟨cls, dd, data, sl⟩, n, e, hc, hdd, hd⟩, _⟩ := I.list hq
  simp only at hc hdd hd
  subst hc; subst hdd; subst hd
  refine call_meets F.slot_list_count ⟨_, e, rfl⟩ F.entry_list_count (F.args_list_count_2 _ _) (SeqAt.list_countAt a its.toArray n none sl u (eqU w)) ⟨e, fun y hy => mem_eqAt ru hw r hf y (by simpa using hy), ?_⟩
  refine ⟨.int _, H, I.tok _, ⟨_, rfl⟩, ?_⟩
  have := count_eqU (x := w) r hf
  simp only [this]
  exact q
end
end L2


namespace L2
open PySem PySem.Spec PyProof.Rows

section
variable {X : Cx}
/-! ### list.index -/
theorem eqU_get {x : V} {xs : List V} {us : List Value} (r : Vals xs us) (hf : xs.all flatV = true) (j : Nat) (h1 : j < us.length) (h2 : j < xs.length) : eqU x us[j] = eqV xs[j] x := by
  obtain ⟨u, e, ru⟩ := r.get (i := j) (x := xs[j]) (List.getElem?_eq_getElem h2)
  rw [List.getElem?_eq_getElem h1] at e
  cases e
  exact eqU_of ru (List.all_eq_true.mp hf _ (List.getElem_mem h2))
def rIndex (K : PySem.W.Frag) : V → List V → Hp → VK → Prop := fun x vs H Q => ∃ a xs v, x = .ref a ∧ vs = [v] ∧ SqL K H a xs ∧ xs.all flatV = true ∧ flatV v = true ∧ ∃ (j : Nat) (hj : j < xs.length), eqV xs[j] v = true ∧ (∀ (m : Nat) (hm : m < xs.length), m < j → eqV xs[m] v = false) ∧ Q (.int (j : Nat)) H
theorem mt_index : MtR X "list.index" (rIndex X.K) := by
  intro pins s σ H x vs v us Q I rx rv h
  obtain ⟨a, xs, w, rfl, rfl, hq, hf, hw, j, hj, hit, hno, q⟩ := h
  cases rx
  obtain ⟨u, rfl, ru⟩ := rv.one
  obtain ⟨its, r, ⟨⟨cls, dd, data, sl⟩, n, e, hc, hdd, hd⟩, hz⟩ := I.list hq
  simp only at hc hdd hd
  subst hc; subst hdd; subst hd
  have hl := r.length
  have hs := sizeLine_eq
  refine call_meets F.slot_list_index ⟨_, e, rfl⟩ F.entry_list_index (F.args_list_index_2 _ _) (SeqAt.list_indexAt a its.toArray n none sl u (eqU w) j (by simp; omega) (by omega) ?_ fun m hm hmj => ?_) ⟨e, fun y hy => mem_eqAt ru hw r hf y (by simpa using hy), ?_⟩
  · have := eqU_get (x := w) r hf j (by omega) hj
    simpa [this] using hit
  · have hm' : m < its.length := by simpa using hm
    have := eqU_get (x := w) r hf m hm' (by omega)
    simpa [this] using hno m (by omega) hmj
  · exact ⟨.int _, H, I.tok _, ⟨_, rfl⟩, q⟩

/-! ### max of a list of ints -/
theorem call_max : CallR X (.builtin "max") (fun xs H Q => X.calm = true ∧ ∃ (a : Addr) (ns : List Int), xs = [.ref a] ∧ SqL X.K H a (ns.map V.int) ∧ ns ≠ [] ∧ ∀ m ∈ ns, Q (.int m) H) := by
  intro pins s σ H xs us Q I r h
  obtain ⟨hc, a, ns, rfl, hq, hne, q⟩ := h
  obtain ⟨u, rfl, ru⟩ := vals1 r
  cases ru
  obtain ⟨its, rv, p, hz⟩ := I.list hq
  have hlen := rv.length
  rw [List.length_map] at hlen
  refine call_max_walk (wpAny_pyIter_list p.isList ?_)
  have ha : a < s.heap.objs.size := by obtain ⟨o, n, e, _⟩ := p; exact Heap.lt_size e
  have hh : X.A.in1.handled = none := by rw [Around.in1_handled]; exact I.ok.hd hc
  have at_ : ∀ (i : Nat) (v : Value), its.toArray[i]? = some v → ∃ (hi : i < ns.length) (t : Tok), v = .int ns[i] t := fun i v hv => by
    have hi : its[i]? = some v := by simpa using hv
    have hil : i < ns.length := by rw [hlen]; exact (List.getElem?_eq_some_iff.mp hi).1
    obtain ⟨u', hu', t, ru'⟩ := rv.get (i := i) (x := .int ns[i]) (by rw [List.getElem?_map, List.getElem?_eq_getElem hil]; rfl)
    rw [hi] at hu'
    cases hu'
    exact ⟨hil, t, ru'⟩
  refine ⟨s.heap.objs.size, _, _, _, _, _, fun i j => decide ((ns[i]?).getD 0 > (ns[j]?).getD 0), rfl, Walks.list hh s.heap.objs.size a (Nat.ne_of_lt ha) its.toArray, ?_, ?_, ?_, ?_, fun v h' tk hv k => ?_⟩
  · exact ⟨⟨_, Heap.get?_push_size _ rfl, rfl, rfl⟩, p.isList.push _⟩
  · intro b hb
    simp only [List.mem_cons, List.mem_nil_iff, or_false] at hb
    show b < (s.heap.push _).objs.size
    rw [Heap.size_push]
    rcases hb with h | h <;> rw [h]
    · exact Nat.lt_succ_self _
    · exact Nat.lt_succ_of_lt ha
  · rw [List.size_toArray, ← hlen]
    exact List.length_pos_iff.mpr hne
  · intro i j vi vj s' Q' E' hi hj hq'
    obtain ⟨h1, t1, rfl⟩ := at_ i vi hi
    obtain ⟨h2, t2, rfl⟩ := at_ j vj hj
    have hq2 : Q' (.bool (decide ((ns[i]?).getD 0 > (ns[j]?).getD 0))) s' := hq'
    rw [List.getElem?_eq_getElem h1, List.getElem?_eq_getElem h2] at hq2
    exact gt_int (A := X.A.in1) (by simpa using hq2)
  · obtain ⟨h1, t1, rfl⟩ := at_ _ v hv
    exact ⟨.int _, H, I.kept (t' := tk) (h' := h') fun b o e => k b o (by simp; exact Nat.ne_of_lt (Heap.lt_size e)) (Heap.get?_push_of_some _ e), ⟨t1, rfl⟩, q _ (List.getElem_mem h1)⟩
end

/-! ### isinstance -/
/-- what the top has written of an own class of errors -/
structure ExcIs (K : PySem.W.Frag) (C : Addr) : Prop where
  ga : PySem.W.findIn K (.ref C) "__getattribute__" = some (some (.builtin "BaseException.__getattribute__"))
  gt : PySem.W.findIn K (.ref C) "__getattr__" = some none
  cl : PySem.W.findIn K (.ref C) "__class__" = some (some (.builtin "object.__class__"))
  mb : PySem.W.mroIn K C (.type "BaseException") = some true
  mo : PySem.W.mroIn K C (.type "object") = some true

section
open PySem.W
variable {K : Frag} {prog : Program} {w : World} {A : Around} {E : Value → Shared → Prop} {h : Heap} {g : Array GenState} {d : Drawn} {t : Nat} {os : OsState} {a C : Addr} {o : Obj}

theorem exc_class_get {R : Result → Shared → Prop} (KX : K.In h) (F : ExcIs K C) (hx : h.get? a = some o) (hc : o.cls = .ref C) (hq : R (.ok (.ret (.ref C))) ⟨h, g, d, t, os⟩) :
    codeAny (model prog w) A (.call (.builtin "getset_descriptor.__get__") ⟨[.builtin "object.__class__", .ref a, .ref C], []⟩) R ⟨h, g, d, t, os⟩ := by
  have hT5 : (⟨h, g, d, t, os⟩ : Shared).TypeIs (.builtin "object.__class__") "getset_descriptor" := PySem.F.typeOf_object_class
  have LS : ∀ {A : Around} {Q : Bool → Shared → Prop} {E : Value → Shared → Prop}, Q true ⟨h, g, d, t, os⟩ → wpAny (model prog w) A (isSubtype (.ref C) (.type (".".intercalate ("object.__class__".cutAt '.').dropLast))) Q E ⟨h, g, d, t, os⟩ := fun {A Q E} q => by
    rw [PySem.F.owner_object_class]
    exact (looks_mroIn KX F.mo).at q
  refine codeAny_call_builtin PySem.F.slot_gs_get.plain PySem.F.entry_gs_get (PySem.F.slot_gs_get.check _ _ _ _ _ _ _ _ hT5 (PySem.F.args_gs_get _ _ _) ?_)
  repeat (any_goals (first | assumption | (with_reducible refine wpAny_loadPart_at hx ?_; rw [hc]) | with_reducible refine LS ?_ | wp_step))
  refine ⟨Code.quiet_builtin _ (by decide +kernel), codeAny_builtin PySem.F.entry_object_class ?_⟩
  repeat (any_goals (first | assumption | (with_reducible refine wpAny_loadPart_at hx ?_; rw [hc]) | wp_step))

theorem exc_class_entry {tk : Tok} {Q : Fin → Shared → Prop} (KX : K.In h) (F : ExcIs K C) (hx : h.get? a = some o) (hc : o.cls = .ref C) (hq : Q (.done (.ret (.ref C))) ⟨h, g, d, t, os⟩) :
    wpAny (model prog w) A (Builtin.«object.__getattribute__» ⟨[.ref a, .str "__class__" tk], []⟩) Q E ⟨h, g, d, t, os⟩ := by
  have hT5 : (⟨h, g, d, t, os⟩ : Shared).TypeIs (.builtin "object.__class__") "getset_descriptor" := PySem.F.typeOf_object_class
  have f5 := PySem.F.typeOf_object_class
  have f6 := PySem.F.slot_gs_get.lookup
  have f7 := PySem.F.slot_gs_set.lookup
  have LF : ∀ {A : Around} {Q : Option Value → Shared → Prop} {E : Value → Shared → Prop}, Q (some (.builtin "object.__class__")) ⟨h, g, d, t, os⟩ → wpAny (model prog w) A (typeLookup (.ref C) "__class__") Q E ⟨h, g, d, t, os⟩ := fun {A Q E} q => (looks_findIn KX F.cl).at q
  repeat (any_goals (first | assumption | (with_reducible refine wpAny_loadPart_at hx ?_; rw [hc]) | with_reducible refine LF ?_ | wp_step))
  refine exc_class_get KX F hx hc ?_
  repeat (any_goals (first | assumption | wp_step))

theorem exc_ga_check {nv : Value} {Q : Unit → Shared → Prop} (KX : K.In h) (F : ExcIs K C) (hx : h.get? a = some o) (hc : o.cls = .ref C) (hq : Q () ⟨h, g, d, t, os⟩) :
    wpAny (model prog w) A (checkBuiltinCall "BaseException.__getattribute__" ⟨[.ref a, nv], []⟩) Q E ⟨h, g, d, t, os⟩ := by
  have hk : builtinKind "BaseException.__getattribute__" = some .slot := by decide +kernel
  have hsp : splitId "BaseException.__getattribute__" = some ("BaseException", "__getattribute__") := by decide +kernel
  have ha := PySem.F.args_bexc_ga (.ref a) nv
  have LS : ∀ {A : Around} {Q : Bool → Shared → Prop} {E : Value → Shared → Prop}, Q true ⟨h, g, d, t, os⟩ → wpAny (model prog w) A (isSubtype (.ref C) (.type "BaseException")) Q E ⟨h, g, d, t, os⟩ := fun {A Q E} q => (looks_mroIn KX F.mb).at q
  simp only [checkBuiltinCall, hk, hsp]
  refine wpAny_bind ?_
  unfold isInstance
  repeat (first | (with_reducible refine wpAny_loadPart_at hx ?_; rw [hc]) | with_reducible refine LS ?_ | wp_step)
  exact hq
theorem exc_class_call {tk : Tok} {R : Result → Shared → Prop} (KX : K.In h) (F : ExcIs K C) (hx : h.get? a = some o) (hc : o.cls = .ref C) (hq : R (.ok (.ret (.ref C))) ⟨h, g, d, t, os⟩) :
    codeAny (model prog w) A (.call (.builtin "BaseException.__getattribute__") ⟨[.ref a, .str "__class__" tk], []⟩) R ⟨h, g, d, t, os⟩ :=
  codeAny_call_builtin PySem.F.excAttr_ValueError.ga.plain PySem.F.entry_bexc_ga (exc_ga_check KX F hx hc (exc_class_entry KX F hx hc hq))

theorem exc_class_by {tk : Tok} {Q : Value → Shared → Prop} (KX : K.In h) (F : ExcIs K C) (hx : h.get? a = some o) (hc : o.cls = .ref C) (hq : Q (.ref C) ⟨h, g, d, t, os⟩) :
    wpAny (model prog w) A (getAttrBy (.ref a) (.str "__class__" tk) false) Q E ⟨h, g, d, t, os⟩ := by
  have LG : ∀ {A : Around} {Q : Option Value → Shared → Prop} {E : Value → Shared → Prop}, Q (some (.builtin "BaseException.__getattribute__")) ⟨h, g, d, t, os⟩ → wpAny (model prog w) A (typeLookup (.ref C) "__getattribute__") Q E ⟨h, g, d, t, os⟩ := fun {A Q E} q => (looks_findIn KX F.ga).at q
  have LN : ∀ {A : Around} {Q : Option Value → Shared → Prop} {E : Value → Shared → Prop}, Q none ⟨h, g, d, t, os⟩ → wpAny (model prog w) A (typeLookup (.ref C) "__getattr__") Q E ⟨h, g, d, t, os⟩ := fun {A Q E} q => (looks_findIn KX F.gt).at q
  have hx2 : (Value.builtin "BaseException.__getattribute__" == Value.builtin "object.__getattribute__") = false := by decide +kernel
  have hx1 : (onTheHeap (Value.ref C) && Value.builtin "BaseException.__getattribute__" == Value.builtin "object.__getattribute__") = false := by rw [hx2]; rfl
  have f3 := PySem.F.excAttr_ValueError.ga.bind (.ref a)
  repeat (any_goals (first | assumption | (with_reducible refine wpAny_loadPart_at hx ?_; rw [hc]) | with_reducible refine LG ?_ | with_reducible refine LN ?_ | wp_step))
  refine exc_class_call KX F hx hc ?_
  repeat (any_goals (first | assumption | wp_step))

theorem exc_class_attr {Q : Option Value → Shared → Prop} (KX : K.In h) (F : ExcIs K C) (hx : h.get? a = some o) (hc : o.cls = .ref C) (hq : Q (some (.ref C)) ⟨h, g, d, t + 1, os⟩) :
    wpAny (model prog w) A (getAttr? (.ref a) "__class__") Q E ⟨h, g, d, t, os⟩ := by
  unfold getAttr? getAttrBy?
  repeat (any_goals (first | assumption | with_reducible apply exc_class_by KX F hx hc | wp_step))

/-- the object of a caught exception -/
def ExcOb (a : Addr) (C : Addr) (h : Heap) : Prop := ∃ o vs, h.get? a = some o ∧ o.cls = .ref C ∧ o.data = .fields vs
theorem kitx_exc (F : ExcIs K C) : KitX K (.ref a) (.ref C) (ExcOb a C) where
  ty := fun M h _ ⟨o, vs, h1, h2, _⟩ => h2 ▸ (Looks.ld h1).andThen .now
  it := fun M h KX _ => by
    obtain ⟨cd, hc, _⟩ := Option.bind_eq_some_iff.mp F.mo
    unfold clsIn at hc
    split at hc
    · rename_i c' d' cd' sl' ho
      intro A' Q' E' s' k q
      unfold isType loadHead
      exact wpAny_bind (wpAny_loadPart (k _ _ (KX _ _ ho)) (wpAny_pure q))
    · cases hc
  ne := fun h tp dd its n sl KX htp => by
    obtain ⟨cd, hc, _⟩ := Option.bind_eq_some_iff.mp F.mo
    refine Bool.eq_false_iff.mpr fun q => ?_
    have e : C = tp := Value.ref.inj (beq_iff_eq.mp q)
    subst e
    unfold clsIn at hc
    split at hc
    · rename_i c' d' cd' sl' ho
      have z := (KX _ _ ho).symm.trans htp
      cases z
    · cases hc
  ca := fun {prog w A E Q s} KX ⟨o, vs, h1, h2, _⟩ k => by
    obtain ⟨h, g, d, t, os⟩ := s
    exact exc_class_attr KX F h1 h2 k
end

section
variable {X : Cx}
/-- a class as a value -/
def clsV : V → Value
  | .ref a => .ref a
  | .ty n => .type n
  | _ => .none
/-- the type of a value, that of a caught exception too -/
inductive TyV (K : PySem.W.Frag) (H : Hp) : V → Value → Prop where
  | of {x : V} {t : Value} (h : TyOf K H x t) : TyV K H x t
  | exc {a C : Addr} (e : H a = some (excO a (.ref C))) (F : ExcIs K C) : TyV K H (.ref a) (.ref C)
theorem call_isinstance : CallR X (.builtin "isinstance") (fun xs H Q => ∃ x c t b, xs = [x, c] ∧ ((∃ a, c = .ref a) ∨ ∃ n, c = .ty n) ∧ TyV X.K H x t ∧ PySem.W.kitOne X.K t (clsV c) = some b ∧ Q (.bl b) H) := by
  intro pins s σ H xs us Q I r h
  obtain ⟨x, c, t, b, rfl, hc, ht, hk, q⟩ := h
  obtain ⟨u, cv, rfl, ru, rc⟩ := vals2 r
  have ec : cv = clsV c := by
    rcases hc with ⟨a, rfl⟩ | ⟨n, rfl⟩ <;> exact rc
  subst ec
  have fin : ∀ tk, EP X pins σ Q (.bool b) { s with toks := tk } := fun tk => ⟨.bl b, H, I.tok _, rfl, q⟩
  cases ht with
  | of ht => exact isinst_ok I ru ht hk fin
  | @exc a C e F =>
    cases (show u = Value.ref a from ru)
    obtain ⟨⟨o, vs, h1, h2, h3⟩, _⟩ := (show ObjOk X.prog X.w H s.heap a (excO a (.ref C)) from I.hok a _ e)
    exact PySem.W.kia_one (kitx_exc F) I.kIn ⟨o, vs, h1, h2, h3⟩ hk (fun z => nomatch z) fin
end
end L2


namespace L2
open PySem PySem.Spec PyProof.Rows

/-- a def of the top: its object, how it binds, its name -/
structure Def (K : PySem.W.Frag) (mg : Str → Option Value) (x : Str) (st : Stmt) (f : Addr) (fd : FuncData) (ps : List Str) : Prop where
  fn : Fun K x x st f fd
  bd : Binds K fd ps []
  mg : mg x = some (.ref f)
section
variable {X : Cx} {CX : CXT} {k : Nat} {f : Addr} {fd : FuncData} {ps : List Str} {sp : Sp} {E : XK} {x : Str} {st : Stmt} {p pos : Pos} {e : Expr} {es : List Expr} {t : TA}
theorem pe_callD (D : Def X.K X.mg x st f fd ps) (F : FnOk X.prog X.w X.K X.mg X.base CX k f fd ps sp) (hr : Room k X.A) (hx : Passes CX X E) (ha : PA X (e :: es) t) (hg : Gl X x := by rfl)
    (hdb : (x == ("__debug__" : Str)) = false := by decide) (he : starEach (e :: es) X.env = (false, eval e X.env) :: starEach es X.env := by rfl) (hpl : (backTo pos (starEach es X.env)).any (·.1) = false := by rfl) :
    PE X (.Call (.Name x p) (e :: es) [] pos) (tCall sp [] E t) := pe_call F hr hg D.mg D.fn.kp D.bd .nil hx ha hdb he hpl
end

section
variable {K : PySem.W.Frag} {ix : List (Option Nat)} {te : TE} {σ : St} {H1 : Hp} {Q : Addr → Hp → Prop}
theorem comp_val_map {fv : Nat → V} {n i₀ : Nat} (f : Nat → V) (hz : n ≤ sizeLine)
    (hs : ∀ (i : Nat) (H : Hp) (R : VK), i < n → Same H1 H → (∀ H6, Same H H6 → R (f i) H6) → te ((capt ix σ).set i₀ (some (fv i))) H R)
    (hd : ∀ D H, H1 D = none → Same H1 H → H D = some (.lst ((List.range n).map f)) → Q D H) : CompW (Itv fv n) ix (gName i₀) tYes te σ H1 Q := by
  intro D hD
  refine ⟨fun i m ys H => m = n - i ∧ i ≤ n ∧ Same H1 H ∧ ys = (List.range i).map f, ⟨n, by simp, Nat.zero_le _, Same.new hD _, by simp⟩, ?_⟩
  rintro i m ys H ⟨rfl, hi, sm, p⟩ hDl
  by_cases hlt : i < n
  · refine .inr ⟨hlt, fun x H3 y => ?_⟩
    obtain ⟨e, y⟩ := y
    subst e; subst y
    show te ((capt ix σ).set i₀ (some (fv i))) _ _
    refine hs i _ _ hlt sm fun H6 r1 => ?_
    refine ⟨r1 _ _ hDl, ?_, n - (i + 1), by omega, rfl, hlt, (sm.trans r1).put hD _, ?_⟩
    · rw [p, List.length_map, List.length_range]; omega
    · rw [p, List.range_succ, List.map_append]; rfl
  · have e : i = n := by omega
    subst e
    exact .inl ⟨Nat.le_refl _, hd D H hD sm (by rw [hDl, p])⟩
/-- over pairs of two lists -/
theorem comp_zip_map {a b : Addr} {xs ys : List V} {i₀ j₀ : Nat} (f : V → V → V) (ha : SqL K H1 a xs) (hb : SqL K H1 b ys) (hl : xs.length = ys.length) (hz : xs.length ≤ sizeLine)
    (hs : ∀ (i : Nat) (x y : V) (H : Hp) (R : VK), xs[i]? = some x → ys[i]? = some y → Same H1 H → (∀ H6, Same H H6 → R (f x y) H6) → te (((capt ix σ).set i₀ (some x)).set j₀ (some y)) H R)
    (hd : ∀ D H, H1 D = none → Same H1 H → H D = some (.lst (List.zipWith f xs ys)) → Q D H) : CompW (Itz K a b) ix (gTup K 2 (gCons (gName i₀) (gCons (gName j₀) gNil))) tYes te σ H1 Q := by
  intro D hD
  refine ⟨fun i m zs H => m = xs.length - i ∧ i ≤ xs.length ∧ Same H1 H ∧ zs = (List.zipWith f xs ys).take i, ⟨xs.length, by simp, Nat.zero_le _, Same.new hD _, by simp⟩, ?_⟩
  rintro i m zs H ⟨rfl, hi, sm, p⟩ hDl
  by_cases hlt : i < xs.length
  · have hx : xs[i]? = some xs[i] := List.getElem?_eq_getElem hlt
    have hy : ys[i]? = some ys[i] := List.getElem?_eq_getElem (by omega)
    refine .inr ⟨⟨xs, ys, xs[i], ys[i], sm.seq ha, sm.seq hb, hx, hy⟩, fun v H3 y => ?_⟩
    obtain ⟨t, rfl, ht, x', y', rfl, ex, ey⟩ := y
    have ex' := ex xs (sm.seq ha)
    have ey' := ey ys (sm.seq hb)
    rw [hx] at ex'; rw [hy] at ey'
    cases ex'; cases ey'
    have sT : Same H (upd H t (.tup [xs[i], ys[i]])) := Same.new ht _
    refine ⟨t, _, rfl, SqT.of upd_same, rfl, xs[i], _, rfl, ys[i], _, rfl, rfl, ?_⟩
    show te _ _ _
    refine hs i _ _ _ _ hx hy (sm.trans sT) fun H6 r1 => ?_
    refine ⟨r1 _ _ (sT _ _ hDl), ?_, xs.length - (i + 1), by omega, rfl, hlt, ((sm.trans sT).trans r1).put hD _, ?_⟩
    · rw [p, List.length_take, List.length_zipWith]; omega
    · rw [p, List.take_succ, List.getElem?_zipWith, hx, hy]; rfl
  · have e : i = xs.length := by omega
    subst e
    refine .inl ⟨⟨xs, ys, sm.seq ha, sm.seq hb, .inl (Nat.le_refl _)⟩, hd D H hD sm ?_⟩
    rw [hDl, p, List.take_of_length_le (by rw [List.length_zipWith]; omega)]
end
end L2


/-! Readings that give one value and leave what is tracked as it was. -/
namespace L2
open PySem PySem.Spec PyProof.Rows

def Gv (t : TE) (σ : St) (H : Hp) (v : V) : Prop := ∀ R : VK, (∀ H', Same H H' → R v H') → t σ H R
def Gt (t : TT) (σ : St) (H : Hp) (b : Bool) : Prop := ∀ R : Bool → Hp → Prop, (∀ H', Same H H' → R b H') → t σ H R
def Ga (t : TA) (σ : St) (H : Hp) (vs : List V) : Prop := ∀ R : List V → Hp → Prop, (∀ H', Same H H' → R vs H') → t σ H R
section
variable {σ : St} {H : Hp} {ta tb tc te : TE} {t u : TT} {tt : TA} {v x y : V} {p q b : Bool} {i j k : Int}
theorem gv_var {n : Nat} (h : σ[n]? = some (some v)) : Gv (tVar n) σ H v := fun R r => ⟨v, h, r H (Same.refl H)⟩
theorem gv_c : Gv (tC v) σ H v := fun R r => r H (Same.refl H)
theorem gv_to {R : VK} (h : Gv te σ H v) (r : ∀ H', Same H H' → R v H') : te σ H R := h R r
theorem ga_to {vs : List V} {R : List V → Hp → Prop} (h : Ga tt σ H vs) (r : ∀ H', Same H H' → R vs H') : tt σ H R := h R r
theorem gv_eq (h : Gv te σ H x) (e : x = y) : Gv te σ H y := e ▸ h
theorem gt_eq (h : Gt t σ H p) (e : p = q) : Gt t σ H q := e ▸ h
theorem gt_not (h : Gt t σ H b) : Gt (tNot t) σ H (!b) := fun R r => h _ fun H' s => r H' s
theorem gt_and (h : Gt t σ H p) (g : p = true → ∀ H', Same H H' → Gt u σ H' q) : Gt (tAnd t u) σ H (p && q) := fun R r => h _ fun H' s => by
  cases p with
  | true => rw [if_pos rfl]; exact g rfl H' s _ fun H2 s2 => r H2 (s.trans s2)
  | false => rw [if_neg Bool.false_ne_true]; exact r H' s
theorem gt_or (h : Gt t σ H p) (g : p = false → ∀ H', Same H H' → Gt u σ H' q) : Gt (tOr t u) σ H (p || q) := fun R r => h _ fun H' s => by
  cases p with
  | true => rw [if_pos rfl]; exact r H' s
  | false => rw [if_neg Bool.false_ne_true]; exact g rfl H' s _ fun H2 s2 => r H2 (s.trans s2)
theorem gt_test (h : Gv te σ H (.bl b)) : Gt (tTest te) σ H b := fun R r => h _ fun H' s => ⟨b, rfl, r H' s⟩
theorem gt_tB (h : Gv te σ H (.bl b)) : Gt (tB te) σ H b := fun R r => h _ fun H' s => ⟨b, rfl, r H' s⟩
theorem gv_and (h : Gv ta σ H (.bl p)) (g : p = true → ∀ H', Same H H' → Gv tb σ H' (.bl q)) : Gv (tAndV ta tb) σ H (.bl (p && q)) := fun R r => h _ fun H' s => by
  refine ⟨p, rfl, ?_⟩
  cases p with
  | true => rw [if_pos rfl]; exact g rfl H' s _ fun H2 s2 => r H2 (s.trans s2)
  | false => rw [if_neg Bool.false_ne_true]; exact r H' s
theorem gv_or (h : Gv ta σ H (.bl p)) (g : p = false → ∀ H', Same H H' → Gv tb σ H' (.bl q)) : Gv (tOrV ta tb) σ H (.bl (p || q)) := fun R r => h _ fun H' s => by
  refine ⟨p, rfl, ?_⟩
  cases p with
  | true => rw [if_pos rfl]; exact r H' s
  | false => rw [if_neg Bool.false_ne_true]; exact g rfl H' s _ fun H2 s2 => r H2 (s.trans s2)
theorem gv_not (h : Gv ta σ H (.bl b)) : Gv (tNotV ta) σ H (.bl (!b)) := fun R r => h _ fun H' s => ⟨b, rfl, r H' s⟩
theorem gv_isN (h : Gv ta σ H v) : Gv (tIsN ta) σ H (.bl (decide (v = .non))) := fun R r => h _ fun H' s => r H' s
/-- two ints -/
theorem gv_ii {f : Int → Int → V} (h : Gv ta σ H (.int i)) (g : ∀ H', Same H H' → Gv tb σ H' (.int j)) : Gv (tOp (rI0 f) ta tb) σ H (f i j) := fun R r => h _ fun H' s => g H' s _ fun H2 s2 => ⟨i, j, rfl, rfl, r H2 (s.trans s2)⟩
theorem gv_iic {C : Int → Int → Prop} {f : Int → Int → V} (h : Gv ta σ H (.int i)) (g : ∀ H', Same H H' → Gv tb σ H' (.int j)) (hc : C i j) : Gv (tOp (rI C f) ta tb) σ H (f i j) := fun R r => h _ fun H' s => g H' s _ fun H2 s2 => ⟨i, j, rfl, rfl, hc, r H2 (s.trans s2)⟩
theorem gv_eqI (h : Gv ta σ H x) (g : ∀ H', Same H H' → Gv tb σ H' y) (hs : scal x y = true) : Gv (tOp rEq ta tb) σ H (.bl (decide (x = y))) := fun R r => h _ fun H' s => g H' s _ fun H2 s2 => ⟨hs, r H2 (s.trans s2)⟩
theorem gv_neI (h : Gv ta σ H x) (g : ∀ H', Same H H' → Gv tb σ H' y) (hs : scal x y = true) : Gv (tOp rNe ta tb) σ H (.bl (!decide (x = y))) := fun R r => h _ fun H' s => g H' s _ fun H2 s2 => ⟨hs, r H2 (s.trans s2)⟩
theorem gv_chain {f g : Int → Int → Bool} (h1 : Gv ta σ H (.int i)) (h2 : ∀ H', Same H H' → Gv tb σ H' (.int j)) (h3 : ∀ H', Same H H' → Gv tc σ H' (.int k)) : Gv (tChain (rI0 fun i j => .bl (f i j)) (rI0 fun i j => .bl (g i j)) ta tb tc) σ H (.bl (f i j && g j k)) :=
  fun R r => h1 _ fun H1 s1 => h2 H1 s1 _ fun H2 s2 => ⟨i, j, rfl, rfl, f i j, rfl, by
    cases e : f i j with
    | true => rw [if_pos rfl]; rw [e] at r; exact h3 H2 (s1.trans s2) _ fun H3 s3 => ⟨j, k, rfl, rfl, by rw [Bool.true_and] at r; exact r H3 ((s1.trans s2).trans s3)⟩
    | false => rw [if_neg Bool.false_ne_true]; rw [e, Bool.false_and] at r; exact r H2 (s1.trans s2)⟩
theorem ga_nil : Ga tNil σ H [] := fun R r => r H (Same.refl H)
theorem ga_cons {vs : List V} (h : Gv te σ H v) (g : ∀ H', Same H H' → Ga tt σ H' vs) : Ga (tCons te tt) σ H (v :: vs) := fun R r => h _ fun H' s => g H' s _ fun H2 s2 => r H2 (s.trans s2)
theorem ga_1 (h : Gv te σ H v) : Ga (tCons te tNil) σ H [v] := ga_cons h fun _ _ => ga_nil
/-- len -/
theorem gv_len {K : PySem.W.Frag} {n : Nat} (h : Ga tt σ H [v]) (hl : ∀ H', Same H H' → LenV K v H' n) : Gv (tCB (fun xs H Q => ∃ x n, xs = [x] ∧ LenV K x H n ∧ Q (.int n) H) tt) σ H (.int n) := fun R r => h _ fun H' s => ⟨v, n, rfl, hl H' s, r H' s⟩
theorem gv_lenS {K : PySem.W.Frag} {y : Str} (h : Ga tt σ H [.str y]) (hz : y.length ≤ sizeLine) : Gv (tCB (fun xs H Q => ∃ x n, xs = [x] ∧ LenV K x H n ∧ Q (.int n) H) tt) σ H (.int y.length) := gv_len h fun _ _ => ⟨hz, rfl⟩
theorem gv_lenL {K : PySem.W.Frag} {a : Addr} {xs : List V} (h : Ga tt σ H [.ref a]) (hq : SqL K H a xs) : Gv (tCB (fun xs H Q => ∃ x n, xs = [x] ∧ LenV K x H n ∧ Q (.int n) H) tt) σ H (.int xs.length) := gv_len h fun _ s => .inl ⟨xs, s.seq hq, rfl⟩
theorem atI_zero {α : Type} (x : α) (xs : List α) : atI (x :: xs) 0 = some x := by
  have := atI_nat (xs := x :: xs) (j := 0) (v := x) rfl
  simpa using this
/-- a call by its promise -/
theorem gv_call {sp : Sp} {E : XK} {vs : List V} (h : Ga tt σ H vs) (hc : ∀ H' (R : VK), Same H H' → (∀ H2, Same H' H2 → R v H2) → sp (vs ++ []) H' R E) : Gv (tCall sp [] E tt) σ H v := fun R r => h _ fun H' s => hc H' R s fun H2 s2 => r H2 (s.trans s2)
/-- an item -/
theorem gv_ixL {K : PySem.W.Frag} {a : Addr} {xs : List V} (h : Gv ta σ H (.ref a)) (g : ∀ H', Same H H' → Gv tb σ H' (.int i)) (hq : SqL K H a xs) (hi : atI xs i = some v) : Gv (tOp (rIxL K) ta tb) σ H v := fun R r => h _ fun H' s => g H' s _ fun H2 s2 => ⟨a, xs, i, v, rfl, rfl, (s.trans s2).seq hq, hi, r H2 (s.trans s2)⟩
theorem gv_ixS {z : Str} {c : Nat} (h : Gv ta σ H (.str z)) (g : ∀ H', Same H H' → Gv tb σ H' (.int i)) (hz : z.length ≤ sizeLine) (hi : atI z.cps.toList i = some c) : Gv (tOp rIxS ta tb) σ H (.str ⟨#[c]⟩) := fun R r => h _ fun H' s => g H' s _ fun H2 s2 => ⟨z, i, c, rfl, rfl, hz, hi, r H2 (s.trans s2)⟩
theorem gv_addS {x y : Str} (h : Gv ta σ H (.str x)) (g : ∀ H', Same H H' → Gv tb σ H' (.str y)) (hz : x.length + y.length ≤ sizeLine) : Gv (tOp (fun x y H Q => ∃ i j, x = .str i ∧ y = .str j ∧ i.length + j.length ≤ sizeLine ∧ Q (.str (i ++ j)) H) ta tb) σ H (.str (x ++ y)) := fun R r => h _ fun H' s => g H' s _ fun H2 s2 => ⟨x, y, rfl, rfl, hz, r H2 (s.trans s2)⟩
/-- a if t else b -/
theorem gv_if (h : Gt t σ H p) (g1 : p = true → ∀ H', Same H H' → Gv ta σ H' v) (g2 : p = false → ∀ H', Same H H' → Gv tb σ H' v) : Gv (tIf t ta tb) σ H v := fun R r => h _ fun H' s => by
  cases p with
  | true => rw [if_pos rfl]; exact g1 rfl H' s _ fun H2 s2 => r H2 (s.trans s2)
  | false => rw [if_neg Bool.false_ne_true]; exact g2 rfl H' s _ fun H2 s2 => r H2 (s.trans s2)

/-! ### statements -/
variable {D : Ends} {ts us : TS} {n : Nat}
theorem rs_seq (h : ts { D with nx := us D } σ H) : tSeq ts us D σ H := h
theorem rs_if (h : Gt t σ H b) (k : ∀ H', Same H H' → if b = true then ts D σ H' else us D σ H') : tIfS t ts us D σ H := h _ k
theorem rs_if2 (h : Gt t σ H b) (k1 : b = true → ∀ H', Same H H' → ts D σ H') (k2 : b = false → ∀ H', Same H H' → us D σ H') : tIfS t ts us D σ H := h _ fun H' s => by
  cases b with
  | true => rw [if_pos rfl]; exact k1 rfl H' s
  | false => rw [if_neg Bool.false_ne_true]; exact k2 rfl H' s
theorem rs_set (h : Gv te σ H v) (k : ∀ H', Same H H' → D.nx (σ.set n (some v)) H') : tAsg te (gName n) D σ H := h _ k
theorem rs_ret (h : Gv te σ H v) (k : ∀ H', Same H H' → D.rt v H') : tRet te D σ H := h _ k
theorem rs_drop (h : Gv te σ H v) (k : ∀ H', Same H H' → D.nx σ H') : tDrop te D σ H := h _ k
theorem rs_next (h : D.nx σ H) : tNext D σ H := h

/-! ### comprehensions -/
variable {ix : List (Option Nat)} {g : TG} {tf : TT} {R : VK}
theorem tcompR {jj : Int} (h : Ga tt σ H [.int jj]) (h1 : -(2 ^ 62) ≤ jj) (h2 : jj < 2 ^ 62) (k : ∀ H', Same H H' → CompW (Itr 0 jj.toNat) ix g tf te σ H' fun D' H2 => R (.ref D') H2) : tComp (iRng1 tt) ix g tf te σ H R := h _ fun H' s => ⟨jj, rfl, h1, h2, k H' s⟩
theorem tcompL {K : PySem.W.Frag} {a : Addr} {xs : List V} (h : Gv ta σ H (.ref a)) (hq : SqL K H a xs) (k : ∀ H', Same H H' → SqL K H' a xs → CompW (Itl K a) ix g tf te σ H' fun D' H2 => R (.ref D') H2) : tComp (iList K ta) ix g tf te σ H R := h _ fun H' s => ⟨a, rfl, ⟨xs, s.seq hq⟩, k H' s (s.seq hq)⟩
theorem tcompS {z : Str} (h : Gv ta σ H (.str z)) (k : ∀ H', Same H H' → CompW (Itv (signAt z) z.cps.size) ix g tf te σ H' fun D' H2 => R (.ref D') H2) : tComp (iStr ta) ix g tf te σ H R := h _ fun H' s => ⟨z, rfl, k H' s⟩
theorem tcompZ {K : PySem.W.Frag} {a b : Addr} {xs ys : List V} (h : Ga tt σ H [.ref a, .ref b]) (ha : SqL K H a xs) (hb : SqL K H b ys) (k : ∀ H', Same H H' → SqL K H' a xs → SqL K H' b ys → CompW (Itz K a b) ix g tf te σ H' fun D' H2 => R (.ref D') H2) : tComp (iZip K tt) ix g tf te σ H R :=
  h _ fun H' s => ⟨a, b, rfl, ⟨xs, s.seq ha⟩, ⟨ys, s.seq hb⟩, k H' s (s.seq ha) (s.seq hb)⟩
theorem rs_ret' (h : te σ H D.rt) : tRet te D σ H := h
theorem rs_scR {jj : Int} (h : Ga tt σ H [.int jj]) (h1 : -(2 ^ 62) ≤ jj) (h2 : jj < 2 ^ 62) (k : ∀ H', Same H H' → CompW (Itr 0 jj.toNat) ix g tf te σ H' fun D' H2 => D.nx (σ.set n (some (.ref D'))) H2) : tSetComp n (iRng1 tt) ix g tf te D σ H := h _ fun H' s => ⟨jj, rfl, h1, h2, k H' s⟩
theorem rs_scL {K : PySem.W.Frag} {a : Addr} {xs : List V} (h : Gv ta σ H (.ref a)) (hq : SqL K H a xs) (k : ∀ H', Same H H' → SqL K H' a xs → CompW (Itl K a) ix g tf te σ H' fun D' H2 => D.nx (σ.set n (some (.ref D'))) H2) : tSetComp n (iList K ta) ix g tf te D σ H := h _ fun H' s => ⟨a, rfl, ⟨xs, s.seq hq⟩, k H' s (s.seq hq)⟩
theorem rs_scZ {K : PySem.W.Frag} {a b : Addr} {xs ys : List V} (h : Ga tt σ H [.ref a, .ref b]) (ha : SqL K H a xs) (hb : SqL K H b ys) (k : ∀ H', Same H H' → SqL K H' a xs → SqL K H' b ys → CompW (Itz K a b) ix g tf te σ H' fun D' H2 => D.nx (σ.set n (some (.ref D'))) H2) : tSetComp n (iZip K tt) ix g tf te D σ H :=
  h _ fun H' s => ⟨a, b, rfl, ⟨xs, s.seq ha⟩, ⟨ys, s.seq hb⟩, k H' s (s.seq ha) (s.seq hb)⟩
/-- a call whose promise is shown for the wish at hand -/
theorem tcall {sp : Sp} {E : XK} {vs : List V} (h : Ga tt σ H vs) (k : ∀ H', Same H H' → sp (vs ++ []) H' R E) : tCall sp [] E tt σ H R := h _ fun H' s => k H' s
theorem rs_set' (h : te σ H fun x H1 => D.nx (σ.set n (some x)) H1) : tAsg te (gName n) D σ H := h
theorem rs_drop' (h : te σ H fun _ H1 => D.nx σ H1) : tDrop te D σ H := h

/-! ### a statement and what comes behind it -/
theorem rq_if (h : Gt t σ H b) (k1 : b = true → ∀ H', Same H H' → ts { D with nx := us D } σ H') (k2 : b = false → ∀ H', Same H H' → us D σ H') : tSeq (tIfS t ts tNext) us D σ H := rs_if2 h k1 k2
theorem rq_if2 {ts' : TS} (h : Gt t σ H b) (k1 : b = true → ∀ H', Same H H' → ts { D with nx := us D } σ H') (k2 : b = false → ∀ H', Same H H' → ts' { D with nx := us D } σ H') : tSeq (tIfS t ts ts') us D σ H := rs_if2 h k1 k2
theorem rq_set (h : Gv te σ H v) (k : ∀ H', Same H H' → us D (σ.set n (some v)) H') : tSeq (tAsg te (gName n)) us D σ H := h _ k
theorem rq_set' (h : te σ H fun x H1 => us D (σ.set n (some x)) H1) : tSeq (tAsg te (gName n)) us D σ H := h
theorem rq_drop (h : Gv te σ H v) (k : ∀ H', Same H H' → us D σ H') : tSeq (tDrop te) us D σ H := h _ k
theorem rq_drop' (h : te σ H fun _ H1 => us D σ H1) : tSeq (tDrop te) us D σ H := h
end
end L2


/-! The rules once more with the fragment written out: within a block's context it must not hang on the block. -/
namespace L2
open PySem PySem.Spec PyProof.Rows
section
variable {X : Cx} (K : PySem.W.Frag)
theorem kLen (h : X.K = K := by rfl) : CallR X (.builtin "len") (fun xs H Q => ∃ x n, xs = [x] ∧ LenV K x H n ∧ Q (.int n) H) := h ▸ call_len
theorem kAll (h : X.K = K := by rfl) (hc : X.calm = true := by rfl) : CallR X (.builtin "all") (fun xs H Q => ∃ (a : Addr) (bs : List Bool), xs = [.ref a] ∧ SqL K H a (bs.map V.bl) ∧ Q (.bl (bs.all fun b => b)) H) := by
  subst h
  intro pins s σ H xs us Q I r q
  exact call_all pins s σ H xs us Q I r ⟨hc, q⟩
theorem kMax (h : X.K = K := by rfl) (hc : X.calm = true := by rfl) : CallR X (.builtin "max") (fun xs H Q => ∃ (a : Addr) (ns : List Int), xs = [.ref a] ∧ SqL K H a (ns.map V.int) ∧ ns ≠ [] ∧ ∀ m ∈ ns, Q (.int m) H) := by
  subst h
  intro pins s σ H xs us Q I r q
  exact call_max pins s σ H xs us Q I r ⟨hc, q⟩
theorem kList (h : X.K = K := by rfl) : CallR X (.type "list") (fun xs H Q => ∃ p ys, xs = [.ref p] ∧ (SqL K H p ys ∨ SqT K H p ys) ∧ ∀ l, H l = none → Q (.ref l) (upd H l (.lst ys))) := h ▸ call_list_of
theorem kIsinstance (h : X.K = K := by rfl) : CallR X (.builtin "isinstance") (fun xs H Q => ∃ x c t b, xs = [x, c] ∧ ((∃ a, c = .ref a) ∨ ∃ n, c = .ty n) ∧ TyV K H x t ∧ PySem.W.kitOne K t (clsV c) = some b ∧ Q (.bl b) H) := h ▸ call_isinstance
theorem kIxL (h : X.K = K := by rfl) : IxR X (rIxL K) := h ▸ ix_list
theorem kIxT (h : X.K = K := by rfl) : IxR X (rIxT K) := h ▸ ix_tup
theorem kSlL (h : X.K = K := by rfl) : SlR X (rSlL K) := h ▸ sl_list
theorem kSlT (h : X.K = K := by rfl) : SlR X (rSlT K) := h ▸ sl_tup
theorem kJoin (h : X.K = K := by rfl) : MtR X "str.join" (rJoin K) := h ▸ mt_join
theorem kCount (h : X.K = K := by rfl) : MtR X "list.count" (rCount K) := h ▸ mt_count
theorem kIndex (h : X.K = K := by rfl) : MtR X "list.index" (rIndex K) := h ▸ mt_index
theorem kEqD (hu : X.A.units + 64 < cLine) (h : X.K = K := by rfl) : OpR X (compareOp .Eq) (fun x y H Q => ∃ d : Dt, d.dep ≤ 60 ∧ Rep K H d x ∧ Rep K H d y ∧ Q (.bl true) H) := by
  subst h
  intro pins s σ H x y u v Q I rx ry q
  exact op_eqD pins s σ H x y u v Q I rx ry ⟨hu, q⟩
theorem kNeD (hu : X.A.units + 64 < cLine) (h : X.K = K := by rfl) : OpR X (compareOp .NotEq) (fun x y H Q => (∃ d : Dt, d.dep ≤ 60 ∧ Rep K H d x ∧ Rep K H d y ∧ Q (.bl false) H) ∨
    ∃ a b xs, x = .ref a ∧ y = .ref b ∧ SqL K H a xs ∧ SqL K H b [] ∧ Q (.bl (!xs.isEmpty)) H) := by
  subst h
  intro pins s σ H x y u v Q I rx ry q
  exact op_neD pins s σ H x y u v Q I rx ry ⟨hu, q⟩
theorem kInSeq (h : X.K = K := by rfl) : OpR X (compareOp .In) (rIn K false) := h ▸ op_in_seq
variable {tg l : Expr} {tl ta te to : TE} {t : TA}
theorem kiList (hl : PE X l tl) (h : X.K = K := by rfl) : PI X tg l (iList K tl) := h ▸ pi_list hl
theorem kiTup (hl : PE X l tl) (h : X.K = K := by rfl) : PI X tg l (iTup K tl) := h ▸ pi_tup hl
theorem kiZip {elts : List Expr} {k : Nat} {tpos : Pos} {a b : Expr} {p pos : Pos} (hm : X.mg "zip" = none) (ha : PA X [a, b] t) (h : X.K = K := by rfl) (hg : Gl X "zip" := by rfl) (hs : starEach [a, b] X.env = [(false, eval a X.env), (false, eval b X.env)] := by rfl) (hs2 : starEach [b] X.env = [(false, eval b X.env)] := by rfl) :
    PI X (.Tuple elts k tpos) (.Call (.Name "zip" p) [a, b] [] pos) (iZip K t) := h ▸ pi_zip hg hm ha hs hs2
theorem kTruth {a : Expr} (ha : PE X a ta) (he : ∀ whole, isTrue a X.env whole = (do let v ← whole; standAt a.pos; holding [v] (truthy v))) (h : X.K = K := by rfl) :
    PT X a (fun σ H Q => ta σ H fun x H' => ∃ k, TruV K x H' k ∧ Q k H') := h ▸ pt_truth ha he
theorem kgTup {es : List Expr} {k : Nat} {t : TGs} {n : Nat} {pos : Pos} (h1 : PGs X es t) (h : X.K = K := by rfl) (hc : X.calm = true := by rfl)
    (hn : (assignEach es X.env).length = n := by rfl) (hst : (assignEach es X.env).findIdx? (·.1) = none := by rfl) : PG X (.Tuple es k pos) (gTup K n t) := h ▸ pg_tup hc h1 hn hst
theorem kRev {e : Expr} {j : Nat} {pos p2 p3 p4 : Pos} (he : PE X e te) (h : X.K = K := by rfl) : PE X (.Subscript e (.Slice none none (some (.UnaryOp .USub (.Constant (.int 1) j p4) p3)) p2) pos) (tRev K te) := h ▸ pe_rev he
theorem kBm {o e : Expr} {es : List Expr} {name : Str} {apos cpos : Pos} {T id : String} {r : V → List V → Hp → VK → Prop} (pa : PlainAttrs T) (slot : Slot T name id) (hty : typeOf (.builtin id) = pure (.type "method_descriptor")) (hm : MtR X id r) (ho : PE X o to) (ha : PA X (e :: es) t) (h : X.K = K := by rfl)
    (hbase : attributeBase o name X.env (eval o X.env) = eval o X.env := by rfl)
    (hfew : ((backTo cpos (starEach (e :: es) X.env)).all (fun x => !x.1) && (backToKw cpos (keywordEach [] X.env)).all (fun x => x.1.isSome)
      && decide ((e :: es).length + ([] : List Keyword).length + (if ([] : List Keyword).isEmpty then 0 else 1) < 30)) = true := by rfl)
    (hline : (apos.endLine == cpos.line) = true := by rfl) (hs : starEach (e :: es) X.env = (false, eval e X.env) :: starEach es X.env := by rfl) (hplain : (backTo cpos (starEach es X.env)).any (·.1) = false := by rfl) :
    PE X (.Call (.Attribute o name apos) (e :: es) [] cpos) (tBM K T r to t) := h ▸ pe_bm pa slot hty hm ho ha hbase hfew hline hs hplain
end
end L2


/-! Readings that give a new list. -/
namespace L2
open PySem PySem.Spec PyProof.Rows
def Gn (t : TE) (σ : St) (H : Hp) (xs : List V) : Prop := ∀ R : VK, (∀ p H', H p = none → Same H H' → H' p = some (.lst xs) → R (.ref p) H') → t σ H R
section
variable {σ : St} {H : Hp} {ta tb te : TE} {tt : TA} {xs ys : List V} {K : PySem.W.Frag} {a : Addr} {lo hi : Option Int}
theorem gn_to {R : VK} (h : Gn te σ H xs) (r : ∀ p H', H p = none → Same H H' → H' p = some (.lst xs) → R (.ref p) H') : te σ H R := h R r
theorem tcb1 {r : List V → Hp → VK → Prop} {R : VK} (h : te σ H fun x H1 => r [x] H1 R) : tCB r (tCons te tNil) σ H R := h
theorem gn_eq (h : Gn te σ H xs) (e : xs = ys) : Gn te σ H ys := e ▸ h
theorem gn_lst (h : Ga tt σ H xs) (hz : xs.length ≤ sizeLine) : Gn (tLst tt) σ H xs := fun R r => h _ fun H' s => ⟨hz, fun p hp => r p _ (s.free hp) (s.trans (Same.new hp _)) upd_same⟩
theorem gn_cat (ha : Gv ta σ H (.ref a)) (hl : H a = some (.lst xs)) (hb : ∀ H', Same H H' → Gn tb σ H' ys) (hz : xs.length + ys.length ≤ sizeLine) : Gn (tOp rCat ta tb) σ H (xs ++ ys) :=
  fun R r => ha _ fun H1 s1 => hb H1 s1 _ fun p H2 hp s2 hpl => ⟨a, p, xs, ys, rfl, rfl, s2 _ _ (s1 _ _ hl), hpl, hz, fun q hq => r q _ ((s1.trans s2).free hq) ((s1.trans s2).trans (Same.new hq _)) upd_same⟩
theorem gn_catN (ha : Gn ta σ H xs) (hb : ∀ H', Same H H' → Gn tb σ H' ys) (hz : xs.length + ys.length ≤ sizeLine) : Gn (tOp rCat ta tb) σ H (xs ++ ys) :=
  fun R r => ha _ fun a H1 ha s1 hl => hb H1 s1 _ fun p H2 hp s2 hpl => ⟨a, p, xs, ys, rfl, rfl, s2 _ _ hl, hpl, hz, fun q hq => r q _ ((s1.trans s2).free hq) ((s1.trans s2).trans (Same.new hq _)) upd_same⟩
/-- a slice of a list -/
theorem gn_slLo {i : Int} (ha : Gv ta σ H (.ref a)) (hq : SqL K H a xs) (hb : ∀ H', Same H H' → Gv tb σ H' (.int i)) : Gn (tSl (rSlL K) ta (tPart tb) tNoPart) σ H (cutV xs (some i) none) :=
  fun R r => ha _ fun H1 s1 => hb H1 s1 _ fun H2 s2 => ⟨i, rfl, a, xs, rfl, (s1.trans s2).seq hq, fun q hq' => r q _ ((s1.trans s2).free hq') ((s1.trans s2).trans (Same.new hq' _)) upd_same⟩
theorem gn_slHi {i : Int} (ha : Gv ta σ H (.ref a)) (hq : SqL K H a xs) (hb : ∀ H', Same H H' → Gv tb σ H' (.int i)) : Gn (tSl (rSlL K) ta tNoPart (tPart tb)) σ H (cutV xs none (some i)) :=
  fun R r => ha _ fun H1 s1 => hb H1 s1 _ fun H2 s2 => ⟨i, rfl, a, xs, rfl, (s1.trans s2).seq hq, fun q hq' => r q _ ((s1.trans s2).free hq') ((s1.trans s2).trans (Same.new hq' _)) upd_same⟩
/-- a slice of a text -/
theorem gv_slSLo {i : Int} {z : Str} (ha : Gv ta σ H (.str z)) (hz : z.length ≤ sizeLine) (hb : ∀ H', Same H H' → Gv tb σ H' (.int i)) : Gv (tSl rSlS ta (tPart tb) tNoPart) σ H (.str (sliceS z (some i) none none)) := fun R r => ha _ fun H1 s1 => hb H1 s1 _ fun H2 s2 => ⟨i, rfl, z, rfl, hz, r H2 (s1.trans s2)⟩
theorem gv_slSHi {i : Int} {z : Str} (ha : Gv ta σ H (.str z)) (hz : z.length ≤ sizeLine) (hb : ∀ H', Same H H' → Gv tb σ H' (.int i)) : Gv (tSl rSlS ta tNoPart (tPart tb)) σ H (.str (sliceS z none (some i) none)) := fun R r => ha _ fun H1 s1 => hb H1 s1 _ fun H2 s2 => ⟨i, rfl, z, rfl, hz, r H2 (s1.trans s2)⟩
theorem gv_neg {i : Int} (ha : Gv ta σ H (.int i)) : Gv (tUn (rU fun i => .int (-i)) ta) σ H (.int (-i)) := fun R r => ha _ fun H1 s1 => ⟨i, rfl, r H1 s1⟩
/-- an item of a new list -/
theorem gv_ixN {i : Int} {v : V} (ha : Gn ta σ H xs) (hb : ∀ H', Same H H' → Gv tb σ H' (.int i)) (hi : atI xs i = some v) : Gv (tOp (rIxL K) ta tb) σ H v :=
  fun R r => ha _ fun a H1 ha s1 hl => hb H1 s1 _ fun H2 s2 => ⟨a, xs, i, v, rfl, rfl, SqL.of (s2 _ _ hl), hi, r H2 (s1.trans s2)⟩
/-- isinstance of a caught exception -/
theorem gv_isiE {C : Addr} {c : V} {b : Bool} (h : Ga tt σ H [.ref a, c]) (hc : (∃ x, c = .ref x) ∨ ∃ n, c = .ty n) (e : H a = some (excO a (.ref C))) (F : ExcIs K C) (hk : PySem.W.kitOne K (.ref C) (clsV c) = some b) :
    Gv (tCB (fun xs H Q => ∃ x c t b, xs = [x, c] ∧ ((∃ a, c = .ref a) ∨ ∃ n, c = .ty n) ∧ TyV K H x t ∧ PySem.W.kitOne K t (clsV c) = some b ∧ Q (.bl b) H) tt) σ H (.bl b) := fun R r => h _ fun H' s => ⟨_, c, _, b, rfl, hc, .exc (s _ _ e) F, hk, r H' s⟩
/-- list.count of bools, list.index -/
theorem gv_count {v : V} (ha : Gv ta σ H (.ref a)) (hq : SqL K H a xs) (hb : ∀ H', Same H H' → Ga tt σ H' [v]) (hf : xs.all flatV = true) (hv : flatV v = true) : Gv (tBM K "list" (rCount K) ta tt) σ H (.int (xs.countP fun y => eqV y v : Nat)) :=
  fun R r => ha _ fun H1 s1 => ⟨.inl ⟨rfl, _, s1.seq hq⟩, hb H1 s1 _ fun H2 s2 => ⟨a, xs, v, rfl, rfl, (s1.trans s2).seq hq, hf, hv, r H2 (s1.trans s2)⟩⟩
theorem gv_index {v : V} {j : Nat} (ha : Gv ta σ H (.ref a)) (hq : SqL K H a xs) (hb : ∀ H', Same H H' → Ga tt σ H' [v]) (hf : xs.all flatV = true) (hv : flatV v = true) (hj : j < xs.length) (he : eqV xs[j] v = true) (hn : ∀ (m : Nat) (hm : m < xs.length), m < j → eqV xs[m] v = false) :
    Gv (tBM K "list" (rIndex K) ta tt) σ H (.int (j : Nat)) := fun R r => ha _ fun H1 s1 => ⟨.inl ⟨rfl, _, s1.seq hq⟩, hb H1 s1 _ fun H2 s2 => ⟨a, xs, v, rfl, rfl, (s1.trans s2).seq hq, hf, hv, j, hj, he, hn, r H2 (s1.trans s2)⟩⟩
theorem gv_strip {z cs : Str} (ha : Gv ta σ H (.str z)) (hz : z.length ≤ sizeLine) (hb : ∀ H', Same H H' → Ga tt σ H' [.str cs]) : Gv (tBM K "str" rStrip ta tt) σ H (.str (Txt.stripChars z cs)) :=
  fun R r => ha _ fun H1 s1 => ⟨rfl, hb H1 s1 _ fun H2 s2 => ⟨z, cs, rfl, rfl, hz, r H2 (s1.trans s2)⟩⟩
end
end L2

/-! @KIND text s@ @KIND rows l@ @KIND rows[] s@ @KIND picture l@ @KIND picture[] s@ @KIND row s@ @KIND LETTERS s@ @KIND one l@ @KIND other l@ @KIND left s@ @KIND right s@ @KIND joined l@
 @KIND _law_script l@ @KIND _law_letters s@ @KIND _law_row s@ @KIND _law_picture_here l@ @KIND _law_picture_here[] s@ @KIND _law_one l@ @KIND _law_other l@ @KIND _law_one[] s@ @KIND _law_other[] s@ @KIND _law_found l@ @KIND _law_kinds l@
 @KIND _law_some l@ @KIND _law_pictures l@ @KIND _law_handed l@ @KIND _law_pictures[] l@ @KIND _law_handed[] l@ @KIND _law_some[] s@ @KIND one[] s@ @KIND other[] s@ -/
namespace K01
open PySem PySem.Spec PyProof.Rows L2

def top (i : Nat) : Stmt := PySem.Challenge.pw_quiltyard_k01_pictures.main.body.getD i (.Pass ⟨0, 0, 0, 0⟩)
abbrev s_are_letters : Stmt := top 11
abbrev s_is_picture : Stmt := top 12
abbrev s_look_picture : Stmt := top 13
abbrev s_column_at : Stmt := top 14
abbrev s_columns_of : Stmt := top 15
abbrev s_mirrored : Stmt := top 16
abbrev s_flipped : Stmt := top 17
abbrev s_beside : Stmt := top 18
abbrev s_over : Stmt := top 19
abbrev s__law_cell : Stmt := top 21
abbrev s__law_mix : Stmt := top 22
abbrev s__law_picture : Stmt := top 23
abbrev s__law_refusal : Stmt := top 24
abbrev s__law_good : Stmt := top 25
abbrev s__law_spoilt : Stmt := top 26
abbrev s__law_told : Stmt := top 27
abbrev s__law_due : Stmt := top 28
abbrev s_law : Stmt := top 29

structure Ad where
  f_are_letters : Addr
  d_are_letters : FuncData
  f_is_picture : Addr
  d_is_picture : FuncData
  f_look_picture : Addr
  d_look_picture : FuncData
  f_column_at : Addr
  d_column_at : FuncData
  f_columns_of : Addr
  d_columns_of : FuncData
  f_mirrored : Addr
  d_mirrored : FuncData
  f_flipped : Addr
  d_flipped : FuncData
  f_beside : Addr
  d_beside : FuncData
  f_over : Addr
  d_over : FuncData
  f__law_cell : Addr
  d__law_cell : FuncData
  f__law_mix : Addr
  d__law_mix : FuncData
  f__law_picture : Addr
  d__law_picture : FuncData
  f__law_refusal : Addr
  d__law_refusal : FuncData
  f__law_good : Addr
  d__law_good : FuncData
  f__law_spoilt : Addr
  d__law_spoilt : FuncData
  f__law_told : Addr
  d__law_told : FuncData
  f__law_due : Addr
  d__law_due : FuncData
  f_law : Addr
  d_law : FuncData
  u_LETTERS : Value
  u_MOST_ROWS : Value
  u_MOST_COLUMNS : Value
  c_QuiltError : Addr
  c_BadPicture : Addr
  c_BadSize : Addr
  c_BadSystem : Addr
  c_BadText : Addr
  c_Unlike : Addr
structure Txt (K : PySem.W.Frag) (mg : Str → Option Value) (t : Ad) : Prop where
  are_letters : Def K mg "are_letters" s_are_letters t.f_are_letters t.d_are_letters ["text"]
  is_picture : Def K mg "is_picture" s_is_picture t.f_is_picture t.d_is_picture ["rows"]
  look_picture : Def K mg "look_picture" s_look_picture t.f_look_picture t.d_look_picture ["picture"]
  column_at : Def K mg "column_at" s_column_at t.f_column_at t.d_column_at ["picture", "place"]
  columns_of : Def K mg "columns_of" s_columns_of t.f_columns_of t.d_columns_of ["picture"]
  mirrored : Def K mg "mirrored" s_mirrored t.f_mirrored t.d_mirrored ["picture"]
  flipped : Def K mg "flipped" s_flipped t.f_flipped t.d_flipped ["picture"]
  beside : Def K mg "beside" s_beside t.f_beside t.d_beside ["one", "other"]
  over : Def K mg "over" s_over t.f_over t.d_over ["one", "other"]
  _law_cell : Def K mg "_law_cell" s__law_cell t.f__law_cell t.d__law_cell ["_law_script", "_law_k"]
  _law_mix : Def K mg "_law_mix" s__law_mix t.f__law_mix t.d__law_mix ["_law_script", "_law_k"]
  _law_picture : Def K mg "_law_picture" s__law_picture t.f__law_picture t.d__law_picture ["_law_script", "_law_k", "_law_high", "_law_wide", "_law_letters"]
  _law_refusal : Def K mg "_law_refusal" s__law_refusal t.f__law_refusal t.d__law_refusal ["_law_kept"]
  _law_good : Def K mg "_law_good" s__law_good t.f__law_good t.d__law_good ["_law_picture_here"]
  _law_spoilt : Def K mg "_law_spoilt" s__law_spoilt t.f__law_spoilt t.d__law_spoilt ["_law_picture_here", "_law_number"]
  _law_told : Def K mg "_law_told" s__law_told t.f__law_told t.d__law_told ["_law_way", "_law_one", "_law_other"]
  _law_due : Def K mg "_law_due" s__law_due t.f__law_due t.d__law_due ["_law_way", "_law_one", "_law_other"]
  law : Def K mg "law" s_law t.f_law t.d_law ["_law_script"]
  m_LETTERS : mg "LETTERS" = some t.u_LETTERS
  v_LETTERS : RelV (.str "abcd") t.u_LETTERS
  m_MOST_ROWS : mg "MOST_ROWS" = some t.u_MOST_ROWS
  v_MOST_ROWS : RelV (.int 4) t.u_MOST_ROWS
  m_MOST_COLUMNS : mg "MOST_COLUMNS" = some t.u_MOST_COLUMNS
  v_MOST_COLUMNS : RelV (.int 12) t.u_MOST_COLUMNS
  m_QuiltError : mg "QuiltError" = some (.ref t.c_QuiltError)
  m_BadPicture : mg "BadPicture" = some (.ref t.c_BadPicture)
  m_BadSize : mg "BadSize" = some (.ref t.c_BadSize)
  m_BadSystem : mg "BadSystem" = some (.ref t.c_BadSystem)
  m_BadText : mg "BadText" = some (.ref t.c_BadText)
  m_Unlike : mg "Unlike" = some (.ref t.c_Unlike)
  x_BadPicture : ExcCl K mg "BadPicture" t.c_BadPicture
  i_BadPicture : ExcIs K t.c_BadPicture
  x_Unlike : ExcCl K mg "Unlike" t.c_Unlike
  i_Unlike : ExcIs K t.c_Unlike
  k_BadPicture_BadPicture : PySem.W.kitOne K (.ref t.c_BadPicture) (.ref t.c_BadPicture) = some true
  k_BadPicture_BadSize : PySem.W.kitOne K (.ref t.c_BadPicture) (.ref t.c_BadSize) = some false
  k_BadPicture_BadSystem : PySem.W.kitOne K (.ref t.c_BadPicture) (.ref t.c_BadSystem) = some false
  k_BadPicture_BadText : PySem.W.kitOne K (.ref t.c_BadPicture) (.ref t.c_BadText) = some false
  k_BadPicture_Unlike : PySem.W.kitOne K (.ref t.c_BadPicture) (.ref t.c_Unlike) = some false
  k_BadPicture_ValueError : PySem.W.kitOne K (.ref t.c_BadPicture) (.type "ValueError") = some true
  k_Unlike_BadPicture : PySem.W.kitOne K (.ref t.c_Unlike) (.ref t.c_BadPicture) = some false
  k_Unlike_BadSize : PySem.W.kitOne K (.ref t.c_Unlike) (.ref t.c_BadSize) = some false
  k_Unlike_BadSystem : PySem.W.kitOne K (.ref t.c_Unlike) (.ref t.c_BadSystem) = some false
  k_Unlike_BadText : PySem.W.kitOne K (.ref t.c_Unlike) (.ref t.c_BadText) = some false
  k_Unlike_Unlike : PySem.W.kitOne K (.ref t.c_Unlike) (.ref t.c_Unlike) = some true
  k_Unlike_ValueError : PySem.W.kitOne K (.ref t.c_Unlike) (.type "ValueError") = some true
  h_BadPicture_QuiltError : PySem.W.exmOne K (.ref t.c_BadPicture) (.ref t.c_QuiltError) = some true
  h_Unlike_QuiltError : PySem.W.exmOne K (.ref t.c_Unlike) (.ref t.c_QuiltError) = some true
  kt_list_list : PySem.W.kitOne K (.type "list") (.type "list") = some true
  kt_str_list : PySem.W.kitOne K (.type "str") (.type "list") = some false
  n_len : mg "len" = none
  n_all : mg "all" = none
  n_range : mg "range" = none
  n_zip : mg "zip" = none
  n_isinstance : mg "isinstance" = none
  n_max : mg "max" = none
  n_list : mg "list" = none
  n_ValueError : mg "ValueError" = none

abbrev abcd : Str := "abcd"
def isL (c : Nat) : Bool := decide (c ∈ abcd.cps.toList)
def lettersOk (x : Str) : Bool := x.cps.toList.all isL
def sp_are_letters : Sp := fun vs H Q _ => ∃ x : Str, vs = [.str x] ∧ x.length ≤ 60 ∧ ∀ H', Same H H' → Q (.bl (lettersOk x)) H'

theorem small {n : Nat} (h : n ≤ 1000) : n ≤ sizeLine := Nat.le_of_lt (small1000 h)
theorem map_getD (x : Str) : (List.range x.cps.size).map (fun i => x.cps.getD i 0) = x.cps.toList := by
  refine List.ext_getElem (by simp) fun i h1 h2 => ?_
  simp at h1
  simp [Array.getD, h1]

section
variable {P : Program} {w : World} {K : PySem.W.Frag} {mg : Str → Option Value} {base : Heap} {t : Ad}

theorem sc_are_letters : FnScope ["text"] ["text"] (defScope s_are_letters) := ⟨rfl, rfl, rfl, by decide +kernel, rfl, by decide +kernel, by decide +kernel⟩
theorem ok_are_letters (T : Txt K mg t) : FnOk P w K mg base CX0 1 t.f_are_letters t.d_are_letters ["text"] sp_are_letters := by
  refine T.are_letters.fn.ok sc_are_letters (fun vs H Q E h => ?_) (fun cdv A outer s H vs Q E hr h => ?_)
  · obtain ⟨x, rfl, _⟩ := h
    rfl
  obtain ⟨x, rfl, hl, k⟩ := h
  refine ⟨_, (pss_one (ps_ret (pe_callB (kAll K) (by rfl) T.n_all boot_all (pa_cons (pe_comp (N' := ["sign"]) (ix := [none]) (compScope_of (by kernel_rfl)) rfl (pi_str (pv 0)) (fun _ _ _ _ => (pg_name (i := 0) (show List.Nodup (["sign"] : List Str) from by decide +kernel) rfl (by first | exact Or.inl rfl | exact Or.inr rfl))) (fun _ _ _ _ => pf_nil) (fun _ _ _ _ => (pe_cmpR op_in_str (pv 0) (pe_glob rfl T.m_LETTERS T.v_LETTERS) rfl))) pa_nil)))), ?_⟩
  refine ⟨_, rfl, x, rfl, ?_⟩
  refine comp_val_map (fun i => .bl (isL (x.cps.getD i 0))) (small (by show x.length ≤ 1000; omega)) (fun i H6 R hi sm kk => ?_) fun D H6 hD sm hDl => ?_
  · refine ⟨_, rfl, _, _, rfl, rfl, ?_⟩
    rw [StrLaws.found_one]
    exact kk _ (Same.refl _)
  · refine ⟨D, (List.range x.cps.size).map (fun i => isL (x.cps.getD i 0)), rfl, SqL.of (by rw [hDl, List.map_map]; rfl), ?_⟩
    have e : (((List.range x.cps.size).map (fun i => isL (x.cps.getD i 0))).all fun b => b) = lettersOk x := by
      unfold lettersOk
      rw [← map_getD x, List.all_map, List.all_map]
      rfl
    rw [e]
    exact k _ sm

def Sm (p : List Str) : Prop := p.length ≤ 30 ∧ ∀ r ∈ p, r.length ≤ 40
def wide0 (p : List Str) : Nat := (p.headD ⟨#[]⟩).length
def rowOk (n : Nat) (r : Str) : Bool := decide (V.int r.length = V.int n) && lettersOk r
def picOk (p : List Str) : Bool := (decide ((1 : Int) ≤ p.length) && decide ((p.length : Int) ≤ 4)) && ((decide ((1 : Int) ≤ wide0 p) && decide ((wide0 p : Int) ≤ 12)) && p.all (rowOk (wide0 p)))
def sp_is_picture (K : PySem.W.Frag) : Sp := fun vs H Q _ => ∃ (a : Addr) (p : List Str), vs = [.ref a] ∧ SqL K H a (p.map V.str) ∧ Sm p ∧ ∀ H', Same H H' → Q (.bl (picOk p)) H'
theorem strs_at {p : List Str} {i : Nat} {x : V} (h : (p.map V.str)[i]? = some x) : ∃ r, x = .str r ∧ r ∈ p ∧ p[i]? = some r := by
  rw [List.getElem?_map] at h
  cases e : p[i]? with
  | none => rw [e] at h; cases h
  | some r => rw [e] at h; exact ⟨r, (Option.some.inj h).symm, List.mem_of_getElem? e, rfl⟩
/-- a function of texts upon values -/
def onS (f : Str → V) : V → V
  | .str r => f r
  | v => v
theorem map_onS (f : Str → V) (p : List Str) : (p.map V.str).map (onS f) = p.map f := by rw [List.map_map]; rfl

theorem sc_is_picture : FnScope ["rows", "wide"] ["rows"] (defScope s_is_picture) := ⟨rfl, rfl, rfl, by decide +kernel, rfl, by decide +kernel, by decide +kernel⟩
theorem ok_is_picture (T : Txt K mg t) : FnOk P w K mg base CX0 2 t.f_is_picture t.d_is_picture ["rows"] (sp_is_picture K) := by
  have G_are_letters : FnOk P w K mg base CX0 1 t.f_are_letters t.d_are_letters ["text"] sp_are_letters := ok_are_letters T
  refine T.is_picture.fn.ok sc_is_picture (fun vs H Q E h => ?_) (fun cdv A outer s H vs Q E hr h => ?_)
  · obtain ⟨a, p, rfl, _⟩ := h
    rfl
  obtain ⟨a, p, rfl, hq, hs, k⟩ := h
  have hlen : ∀ H', Same H H' → LenV K (.ref a) H' p.length := fun H' s => .inl ⟨_, s.seq hq, by simp⟩
  refine ⟨_, (pss_cons (ps_if (pt_not (pt_chain op_le op_le pe_int (pe_callB (kLen K) (by rfl) T.n_len boot_len (pa_cons (pv 0) pa_nil)) (pe_glob rfl T.m_MOST_ROWS T.v_MOST_ROWS))) (pss_one (ps_ret pe_bl)) pss_nil) (pss_cons (ps_set (i := 1) sc_is_picture.nd rfl (by first | exact Or.inl rfl | exact Or.inr rfl) (pe_callB (kLen K) (by rfl) T.n_len boot_len (pa_cons (pe_ix (kIxL K) (pv 0) pe_int (fun _ _ => rfl)) pa_nil))) (pss_cons (ps_if (pt_not (pt_chain op_le op_le pe_int (pv 1) (pe_glob rfl T.m_MOST_COLUMNS T.v_MOST_COLUMNS))) (pss_one (ps_ret pe_bl)) pss_nil) (pss_one (ps_ret (pe_callB (kAll K) (by rfl) T.n_all boot_all (pa_cons (pe_comp (N' := ["row", "wide"]) (ix := [none, some 1]) (compScope_of (by kernel_rfl)) rfl (kiList K (pv 0)) (fun _ _ _ _ => (pg_name (i := 0) (show List.Nodup (["row", "wide"] : List Str) from by decide +kernel) rfl (by first | exact Or.inl rfl | exact Or.inr rfl))) (fun _ _ _ _ => pf_nil) (fun _ _ _ _ => (pe_and (pe_cmpR op_eq (pe_callB (kLen K) (by rfl) T.n_len boot_len (pa_cons (pv 0) pa_nil)) (pv 1) (nomark _)) (pe_one (pe_callD T.are_letters G_are_letters (hr.mono (by decide)) pass0 (pa_cons (pv 0) pa_nil)))))) pa_nil))))))), ?_⟩
  refine rs_seq (rs_if2 (gt_not (gt_test (gv_chain gv_c (fun H1 s1 => gv_len (ga_1 (gv_var (by rfl))) fun H2 s2 => hlen H2 (s1.trans s2)) fun H1 s1 => gv_c))) (fun c H1 s1 => ?_) fun c H1 s1 => rs_next ?_)
  · have e : picOk p = false := by
      unfold picOk
      rw [Bool.not_eq_true'] at c
      rw [c, Bool.false_and]
    have := k H1 s1
    rw [e] at this
    exact this
  have c' : (decide ((1 : Int) ≤ p.length) && decide ((p.length : Int) ≤ 4)) = true := by simpa using c
  cases p with
  | nil => simp at c'
  | cons r0 rs =>
    have hr0 : r0.length ≤ 40 := hs.2 r0 List.mem_cons_self
    refine rs_seq (rs_set (gv_lenS (ga_1 (gv_ixL (gv_var (by rfl)) (fun _ _ => gv_c) (s1.seq hq) (atI_zero _ _))) (small (by omega))) fun H2 s2 => ?_)
    refine rs_seq (rs_if2 (gt_not (gt_test (gv_chain gv_c (fun H3 s3 => gv_var (by rfl)) fun H3 s3 => gv_c))) (fun c2 H3 s3 => ?_) fun c2 H3 s3 => rs_next ?_)
    · have e : picOk (r0 :: rs) = false := by
        unfold picOk
        rw [Bool.not_eq_true'] at c2
        have c3 : (decide ((1 : Int) ≤ wide0 (r0 :: rs)) && decide ((wide0 (r0 :: rs) : Int) ≤ 12)) = false := c2
        rw [c3, Bool.false_and, Bool.and_false]
      have := k H3 ((s1.trans s2).trans s3)
      rw [e] at this
      exact this
    have s13 := (s1.trans s2).trans s3
    have c2' : (decide ((1 : Int) ≤ wide0 (r0 :: rs)) && decide ((wide0 (r0 :: rs) : Int) ≤ 12)) = true := by
      have z : (decide ((1 : Int) ≤ r0.length) && decide ((r0.length : Int) ≤ 12)) = true := by simpa using c2
      exact z
    refine ⟨_, rfl, a, rfl, ⟨_, s13.seq hq⟩, ?_⟩
    refine comp_list_map (onS fun r => .bl (rowOk r0.length r)) (s13.seq hq) (small (by have := hs.1; simp at this ⊢; omega)) (fun i x H4 R hx s4 kk => ?_) fun D H4 hD s4 hDl => ?_
    · obtain ⟨r, rfl, hr', _⟩ := strs_at hx
      have hrl := hs.2 r hr'
      refine gv_to (gv_and (gv_eqI (gv_lenS (ga_1 (gv_var (by rfl))) (small (by omega))) (fun H5 s5 => gv_var (by rfl)) (by rfl)) (fun _ H5 s5 => gv_call (ga_1 (gv_var (by rfl))) fun H6 R' s6 kk' => ⟨r, rfl, by omega, kk'⟩)) fun H5 s5 => ?_
      exact kk H5 s5
    · refine ⟨D, (r0 :: rs).map (rowOk r0.length), rfl, SqL.of (by rw [hDl, map_onS, List.map_map]; rfl), ?_⟩
      have e : (((r0 :: rs).map (rowOk r0.length)).all fun b => b) = picOk (r0 :: rs) := by
        unfold picOk
        rw [c', c2', Bool.true_and, Bool.true_and, List.all_map]
        rfl
      rw [e]
      exact k _ (s13.trans s4)

/-! ### look_picture -/
def sp_look (K : PySem.W.Frag) (C : Addr) : Sp := fun vs H Q E => ∃ (a : Addr) (p : List Str), vs = [.ref a] ∧ SqL K H a (p.map V.str) ∧ Sm p ∧ (picOk p = true → ∀ H', Same H H' → Q .non H') ∧ (picOk p = false → ∀ H', Same H H' → E (.ref C) none H')
theorem sc_look_picture : FnScope ["picture"] ["picture"] (defScope s_look_picture) := ⟨rfl, rfl, rfl, by decide +kernel, rfl, by decide +kernel, by decide +kernel⟩
theorem ok_look_picture (T : Txt K mg t) : FnOk P w K mg base (CX1 P w) 3 t.f_look_picture t.d_look_picture ["picture"] (sp_look K t.c_BadPicture) := by
  have G_is_picture : FnOk P w K mg base CX0 2 t.f_is_picture t.d_is_picture ["rows"] (sp_is_picture K) := ok_is_picture T
  refine T.look_picture.fn.okX sc_look_picture (fun vs H Q E h => ?_) (fun cdv A outer s H vs Q E hr h => ?_)
  · obtain ⟨a, p, rfl, _⟩ := h
    rfl
  obtain ⟨a, p, rfl, hq, hs, k1, k2⟩ := h
  refine ⟨_, (pss_one (ps_if (pt_not (pt_val (pe_callD T.is_picture G_is_picture (hr.mono (by decide)) pass0 (pa_cons (pv 0) pa_nil)))) (pss_one (ps_raise raiseX rfl rfl rfl rfl T.x_BadPicture rfl (pa_cons pe_str pa_nil))) pss_nil)), ?_⟩
  refine rs_if2 (gt_not (gt_tB (gv_call (ga_1 (gv_var (by rfl))) fun H1 R s1 kk => ⟨a, p, rfl, s1.seq hq, hs, kk⟩))) (fun c H1 s1 => ?_) fun c H1 s1 => ?_
  · exact ⟨(by show 1 ≤ sizeLine; decide), k2 (by simpa using c) H1 s1⟩
  · exact k1 (by simpa using c) H1 s1

/-! ### columns -/
abbrev one1 (c : Nat) : Str := ⟨#[c]⟩
def colAt (p : List Str) (k : Nat) : Str := Txt.join "" (p.map fun r => one1 (r.cps.getD k 0))
def sp_column_at (K : PySem.W.Frag) : Sp := fun vs H Q _ => ∃ (a : Addr) (p : List Str) (k : Nat), vs = [.ref a, .int k] ∧ SqL K H a (p.map V.str) ∧ Sm p ∧ (∀ r ∈ p, k < r.length) ∧ ∀ H', Same H H' → Q (.str (colAt p k)) H'
theorem atI_code {r : Str} {k : Nat} (h : k < r.length) : atI r.cps.toList (k : Int) = some (r.cps.getD k 0) := by
  refine atI_nat ?_
  have h' : k < r.cps.size := h
  simp [Array.getD, h']
theorem sum_ones (p : List Str) (k : Nat) : ((p.map fun r => one1 (r.cps.getD k 0)).map (·.length)).sum = p.length := by
  rw [List.map_map]
  induction p with
  | nil => rfl
  | cons r rs ih => rw [List.map_cons, List.sum_cons, ih, List.length_cons]; show 1 + _ = _; omega
theorem sc_column_at : FnScope ["picture", "place"] ["picture", "place"] (defScope s_column_at) := ⟨rfl, rfl, rfl, by decide +kernel, rfl, by decide +kernel, by decide +kernel⟩
theorem ok_column_at (T : Txt K mg t) : FnOk P w K mg base CX0 1 t.f_column_at t.d_column_at ["picture", "place"] (sp_column_at K) := by
  refine T.column_at.fn.ok sc_column_at (fun vs H Q E h => ?_) (fun cdv A outer s H vs Q E hr h => ?_)
  · obtain ⟨a, p, k, rfl, _⟩ := h
    rfl
  obtain ⟨a, p, k, rfl, hq, hs, hk, kk⟩ := h
  have hs1 := hs.1
  refine ⟨_, (pss_one (ps_ret (kBm K PySem.F.plainAttrs_str PySem.F.slot_str_join PySem.F.type_str_join (kJoin K) pe_str (pa_cons (pe_comp (N' := ["row", "place"]) (ix := [none, some 1]) (compScope_of (by kernel_rfl)) rfl (kiList K (pv 0)) (fun _ _ _ _ => (pg_name (i := 0) (show List.Nodup (["row", "place"] : List Str) from by decide +kernel) rfl (by first | exact Or.inl rfl | exact Or.inr rfl))) (fun _ _ _ _ => pf_nil) (fun _ _ _ _ => (pe_ix ix_str (pv 0) (pv 1) (fun _ _ => rfl)))) pa_nil)))), ?_⟩
  refine ⟨rfl, _, rfl, a, rfl, ⟨_, hq⟩, ?_⟩
  refine comp_list_map (onS fun r => .str (one1 (r.cps.getD k 0))) hq (small (by rw [List.length_map]; omega)) (fun i x H4 R hx s4 k4 => ?_) fun D H4 hD s4 hDl => ?_
  · obtain ⟨r, rfl, hr', _⟩ := strs_at hx
    have hrl := hs.2 r hr'
    exact gv_to (gv_ixS (gv_var (by rfl)) (fun _ _ => gv_var (by rfl)) (small (by omega)) (atI_code (hk r hr'))) fun H5 s5 => k4 H5 s5
  · refine ⟨"", D, p.map (fun r : Str => one1 (r.cps.getD k 0)), rfl, rfl, SqL.of (by rw [hDl, map_onS, List.map_map]; rfl), ?_, kk _ s4⟩
    rw [sum_ones, List.length_map]
    show p.length + p.length * 0 ≤ 16777216
    omega

/-! ### what is made of pictures -/
inductive Out where
  | made (p : List Str) | bad | unl
/-- what is wanted of an answer: a new list, or an error -/
def Wish (cB cU : Addr) (H : Hp) (Q : VK) (E : XK) : Out → Prop
  | .made p => ∀ (r : Addr) (H' : Hp), H r = none → Same H H' → H' r = some (.lst (p.map V.str)) → Q (.ref r) H'
  | .bad => ∀ H', Same H H' → E (.ref cB) none H'
  | .unl => ∀ H', Same H H' → E (.ref cU) none H'
def sp1 (K : PySem.W.Frag) (cB cU : Addr) (f : List Str → List Str) : Sp := fun vs H Q E => ∃ (a : Addr) (p : List Str), vs = [.ref a] ∧ SqL K H a (p.map V.str) ∧ Sm p ∧ Wish cB cU H Q E (if picOk p = true then .made (f p) else .bad)
def cols (p : List Str) : List Str := (List.range (wide0 p)).map (colAt p)
theorem pic_rows {p : List Str} (h : picOk p = true) : p ≠ [] ∧ ∀ r ∈ p, r.length = wide0 p := by
  unfold picOk at h
  simp only [Bool.and_eq_true, decide_eq_true_eq, List.all_eq_true] at h
  refine ⟨fun e => ?_, fun r hr => ?_⟩
  · rw [e] at h; simp at h
  · have := h.2.2 r hr
    unfold rowOk at this
    simp only [Bool.and_eq_true, decide_eq_true_eq] at this
    have h1 := this.1
    injection h1 with h2
    exact Int.ofNat.inj h2
theorem sc_columns_of : FnScope ["picture"] ["picture"] (defScope s_columns_of) := ⟨rfl, rfl, rfl, by decide +kernel, rfl, by decide +kernel, by decide +kernel⟩
theorem ok_columns_of (T : Txt K mg t) : FnOk P w K mg base (CX1 P w) 4 t.f_columns_of t.d_columns_of ["picture"] (sp1 K t.c_BadPicture t.c_Unlike cols) := by
  have G_look_picture : FnOk P w K mg base (CX1 P w) 3 t.f_look_picture t.d_look_picture ["picture"] (sp_look K t.c_BadPicture) := ok_look_picture T
  have G_column_at : FnOk P w K mg base CX0 1 t.f_column_at t.d_column_at ["picture", "place"] (sp_column_at K) := ok_column_at T
  refine T.columns_of.fn.okX sc_columns_of (fun vs H Q E h => ?_) (fun cdv A outer s H vs Q E hr h => ?_)
  · obtain ⟨a, p, rfl, _⟩ := h
    rfl
  obtain ⟨a, p, rfl, hq, hs, k⟩ := h
  have hs1 := hs.1
  refine ⟨_, (pss_cons (ps_expr (pe_callD T.look_picture G_look_picture (hr.mono (by decide)) (passes1 raiseX rfl rfl rfl (fun _ _ _ z => z)) (pa_cons (pv 0) pa_nil))) (pss_one (ps_ret (pe_comp (N' := ["place", "picture"]) (ix := [none, some 0]) (compScope_of (by kernel_rfl)) rfl (pi_range1 rfl T.n_range (pa_cons (pe_callB (kLen K) (by rfl) T.n_len boot_len (pa_cons (pe_ix (kIxL K) (pv 0) pe_int (fun _ _ => rfl)) pa_nil)) pa_nil)) (fun _ _ _ _ => (pg_name (i := 0) (show List.Nodup (["place", "picture"] : List Str) from by decide +kernel) rfl (by first | exact Or.inl rfl | exact Or.inr rfl))) (fun _ _ _ _ => pf_nil) (fun _ _ _ _ => (pe_callD T.column_at G_column_at (hr.mono (by decide)) pass0 (pa_cons (pv 1) (pa_cons (pv 0) pa_nil)))))))), ?_⟩
  refine ⟨_, rfl, a, p, rfl, hq, hs, fun c H1 s1 => ?_, fun c => ?_⟩
  · rw [c, if_pos rfl] at k
    obtain ⟨hne, hrow⟩ := pic_rows c
    cases p with
    | nil => exact absurd rfl hne
    | cons r0 rs =>
      have hr0 : r0.length ≤ 40 := hs.2 r0 List.mem_cons_self
      refine rs_ret' (tcompR (ga_1 (gv_lenS (ga_1 (gv_ixL (gv_var (by rfl)) (fun _ _ => gv_c) (s1.seq hq) (atI_zero _ _))) (small (by omega)))) (by omega) (by omega) fun H2 s2 => ?_)
      have s12 := s1.trans s2
      refine comp_range_map (fun i => .str (colAt (r0 :: rs) i)) (small (by omega)) (fun i H4 R hi s4 k4 => ?_) fun D H4 hD s4 hDl => ?_
      · have hi' : i < r0.length := by simpa using hi
        refine gv_to (gv_call (ga_cons (gv_var (by rfl)) fun _ _ => ga_1 (gv_var (by rfl))) fun H5 R' s5 k5 => ⟨a, r0 :: rs, i, by simp, ((s12.trans s4).trans s5).seq hq, hs, fun r hr' => ?_, k5⟩) fun H5 s5 => k4 H5 s5
        rw [hrow r hr']
        exact hi'
      · refine k D H4 (s12.free hD) (s12.trans s4) ?_
        rw [hDl]
        unfold cols
        rw [List.map_map]
        rfl
  · rw [c, if_neg (by decide)] at k
    exact k
theorem sc_mirrored : FnScope ["picture"] ["picture"] (defScope s_mirrored) := ⟨rfl, rfl, rfl, by decide +kernel, rfl, by decide +kernel, by decide +kernel⟩
theorem ok_mirrored (T : Txt K mg t) : FnOk P w K mg base (CX1 P w) 4 t.f_mirrored t.d_mirrored ["picture"] (sp1 K t.c_BadPicture t.c_Unlike fun p => p.map revS) := by
  have G_look_picture : FnOk P w K mg base (CX1 P w) 3 t.f_look_picture t.d_look_picture ["picture"] (sp_look K t.c_BadPicture) := ok_look_picture T
  refine T.mirrored.fn.okX sc_mirrored (fun vs H Q E h => ?_) (fun cdv A outer s H vs Q E hr h => ?_)
  · obtain ⟨a, p, rfl, _⟩ := h
    rfl
  obtain ⟨a, p, rfl, hq, hs, k⟩ := h
  have hs1 := hs.1
  refine ⟨_, (pss_cons (ps_expr (pe_callD T.look_picture G_look_picture (hr.mono (by decide)) (passes1 raiseX rfl rfl rfl (fun _ _ _ z => z)) (pa_cons (pv 0) pa_nil))) (pss_one (ps_ret (pe_comp (N' := ["row"]) (ix := [none]) (compScope_of (by kernel_rfl)) rfl (kiList K (pv 0)) (fun _ _ _ _ => (pg_name (i := 0) (show List.Nodup (["row"] : List Str) from by decide +kernel) rfl (by first | exact Or.inl rfl | exact Or.inr rfl))) (fun _ _ _ _ => pf_nil) (fun _ _ _ _ => (kRev K (pv 0))))))), ?_⟩
  refine ⟨_, rfl, a, p, rfl, hq, hs, fun c H1 s1 => ?_, fun c => ?_⟩
  · rw [c, if_pos rfl] at k
    refine ⟨_, rfl, a, rfl, ⟨_, s1.seq hq⟩, ?_⟩
    refine comp_list_map (onS fun r => .str (revS r)) (s1.seq hq) (small (by rw [List.length_map]; omega)) (fun i x H4 R hx s4 k4 => ?_) fun D H4 hD s4 hDl => ?_
    · obtain ⟨r, rfl, hr', _⟩ := strs_at hx
      have hrl := hs.2 r hr'
      refine ⟨_, rfl, .inl ⟨r, rfl, small (by omega), ?_⟩⟩
      rw [sliceS_rev]
      exact k4 _ (Same.refl _)
    · refine k D H4 (s1.free hD) (s1.trans s4) ?_
      rw [hDl, map_onS, List.map_map]
      rfl
  · rw [c, if_neg (by decide)] at k
    exact k
theorem sc_flipped : FnScope ["picture"] ["picture"] (defScope s_flipped) := ⟨rfl, rfl, rfl, by decide +kernel, rfl, by decide +kernel, by decide +kernel⟩
theorem ok_flipped (T : Txt K mg t) : FnOk P w K mg base (CX1 P w) 4 t.f_flipped t.d_flipped ["picture"] (sp1 K t.c_BadPicture t.c_Unlike List.reverse) := by
  have G_look_picture : FnOk P w K mg base (CX1 P w) 3 t.f_look_picture t.d_look_picture ["picture"] (sp_look K t.c_BadPicture) := ok_look_picture T
  refine T.flipped.fn.okX sc_flipped (fun vs H Q E h => ?_) (fun cdv A outer s H vs Q E hr h => ?_)
  · obtain ⟨a, p, rfl, _⟩ := h
    rfl
  obtain ⟨a, p, rfl, hq, hs, k⟩ := h
  refine ⟨_, (pss_cons (ps_expr (pe_callD T.look_picture G_look_picture (hr.mono (by decide)) (passes1 raiseX rfl rfl rfl (fun _ _ _ z => z)) (pa_cons (pv 0) pa_nil))) (pss_one (ps_ret (kRev K (pv 0))))), ?_⟩
  refine ⟨_, rfl, a, p, rfl, hq, hs, fun c H1 s1 => ?_, fun c => ?_⟩
  · rw [c, if_pos rfl] at k
    refine ⟨_, rfl, .inr ⟨a, _, rfl, s1.seq hq, fun r hr' => ?_⟩⟩
    exact k r _ (s1.free hr') (s1.trans (Same.new hr' _)) (by rw [upd_same, List.map_reverse])
  · rw [c, if_neg (by decide)] at k
    exact k
end
end K01

/-! @KIND text s@ @KIND rows l@ @KIND rows[] s@ @KIND picture l@ @KIND picture[] s@ @KIND row s@ @KIND LETTERS s@ @KIND one l@ @KIND other l@ @KIND left s@ @KIND right s@ @KIND joined l@
 @KIND _law_script l@ @KIND _law_letters s@ @KIND _law_row s@ @KIND _law_picture_here l@ @KIND _law_picture_here[] s@ @KIND _law_one l@ @KIND _law_other l@ @KIND _law_one[] s@ @KIND _law_other[] s@ @KIND _law_found l@ @KIND _law_kinds l@
 @KIND _law_some l@ @KIND _law_pictures l@ @KIND _law_handed l@ @KIND _law_pictures[] l@ @KIND _law_handed[] l@ @KIND _law_some[] s@ @KIND one[] s@ @KIND other[] s@ -/
namespace K01
open PySem PySem.Spec PyProof.Rows L2
section
variable {P : Program} {w : World} {K : PySem.W.Frag} {mg : Str → Option Value} {base : Heap} {t : Ad}
theorem str_app (x y : Str) : (x ++ y).length = x.length + y.length := by
  show (x.cps ++ y.cps).size = x.cps.size + y.cps.size
  simp
def Sm' (p : List Str) : Prop := p.length ≤ 15 ∧ ∀ r ∈ p, r.length ≤ 20
theorem Sm'.sm {p : List Str} (h : Sm' p) : Sm p := ⟨by have := h.1; omega, fun r hr => by have := h.2 r hr; omega⟩
def pick (j : List Str) : Out := if picOk j = true then .made j else .bad
def besideO (p q : List Str) : Out := if picOk p = true then (if picOk q = true then (if p.length = q.length then pick (List.zipWith (· ++ ·) p q) else .unl) else .bad) else .bad
def overO (p q : List Str) : Out := if picOk p = true then (if picOk q = true then (if wide0 p = wide0 q then pick (p ++ q) else .unl) else .bad) else .bad
def sp2 (cB cU : Addr) (o : List Str → List Str → Out) : Sp := fun vs H Q E => ∃ (a b : Addr) (p q : List Str), vs = [.ref a, .ref b] ∧ H a = some (.lst (p.map V.str)) ∧ H b = some (.lst (q.map V.str)) ∧ Sm' p ∧ Sm' q ∧ Wish cB cU H Q E (o p q)
def appV : V → V → V
  | .str a, .str b => .str (a ++ b)
  | _, _ => .non
theorem zip_app : ∀ (p q : List Str), List.zipWith appV (p.map V.str) (q.map V.str) = (List.zipWith (· ++ ·) p q).map V.str
  | [], _ => by simp
  | _ :: _, [] => by simp
  | a :: p, b :: q => by
    simp only [List.map_cons, List.zipWith_cons_cons]
    rw [zip_app p q]
    rfl
theorem zip_sm : ∀ {p q : List Str}, (∀ r ∈ p, r.length ≤ 20) → (∀ r ∈ q, r.length ≤ 20) → ∀ r ∈ List.zipWith (· ++ ·) p q, r.length ≤ 40
  | [], _, _, _ => by simp
  | _ :: _, [], _, _ => by simp
  | a :: p, b :: q, h1, h2 => by
    intro r hr
    rw [List.zipWith_cons_cons] at hr
    rcases List.mem_cons.mp hr with e | hr
    · subst e
      show (a ++ b).length ≤ 40
      have := h1 a List.mem_cons_self
      have := h2 b List.mem_cons_self
      rw [str_app]; omega
    · exact zip_sm (fun r h => h1 r (List.mem_cons_of_mem _ h)) (fun r h => h2 r (List.mem_cons_of_mem _ h)) r hr
theorem sc_beside : FnScope ["one", "other", "joined"] ["one", "other"] (defScope s_beside) := ⟨rfl, rfl, rfl, by decide +kernel, rfl, by decide +kernel, by decide +kernel⟩
theorem ok_beside (T : Txt K mg t) : FnOk P w K mg base (CX1 P w) 4 t.f_beside t.d_beside ["one", "other"] (sp2 t.c_BadPicture t.c_Unlike besideO) := by
  have G_look_picture : FnOk P w K mg base (CX1 P w) 3 t.f_look_picture t.d_look_picture ["picture"] (sp_look K t.c_BadPicture) := ok_look_picture T
  refine T.beside.fn.okX sc_beside (fun vs H Q E h => ?_) (fun cdv A outer s H vs Q E hr h => ?_)
  · obtain ⟨a, b, p, q, rfl, _⟩ := h
    rfl
  obtain ⟨a, b, p, q, rfl, ha, hb, hp, hq, k⟩ := h
  have hp1 := hp.1
  have hq1 := hq.1
  unfold besideO at k
  refine ⟨_, (pss_cons (ps_expr (pe_callD T.look_picture G_look_picture (hr.mono (by decide)) (passes1 raiseX rfl rfl rfl (fun _ _ _ z => z)) (pa_cons (pv 0) pa_nil))) (pss_cons (ps_expr (pe_callD T.look_picture G_look_picture (hr.mono (by decide)) (passes1 raiseX rfl rfl rfl (fun _ _ _ z => z)) (pa_cons (pv 1) pa_nil))) (pss_cons (ps_if (pt_cmpR op_ne (pe_callB (kLen K) (by rfl) T.n_len boot_len (pa_cons (pv 0) pa_nil)) (pe_callB (kLen K) (by rfl) T.n_len boot_len (pa_cons (pv 1) pa_nil)) (nomark _)) (pss_one (ps_raise raiseX rfl rfl rfl rfl T.x_Unlike rfl (pa_cons pe_str pa_nil))) pss_nil) (pss_cons (ps_setComp (i := 2) sc_beside.nd rfl (by first | exact Or.inl rfl | exact Or.inr rfl) (N' := ["left", "right"]) (ix := [none, none]) (compScope_of (by kernel_rfl)) rfl (kiZip K T.n_zip (pa_cons (pv 0) (pa_cons (pv 1) pa_nil))) (fun _ _ _ _ => (kgTup K (n := 2) (pgs_cons (pg_name (i := 0) (show List.Nodup (["left", "right"] : List Str) from by decide +kernel) rfl (by first | exact Or.inl rfl | exact Or.inr rfl)) (pgs_cons (pg_name (i := 1) (show List.Nodup (["left", "right"] : List Str) from by decide +kernel) rfl (by first | exact Or.inl rfl | exact Or.inr rfl)) pgs_nil)))) (fun _ _ _ _ => pf_nil) (fun _ _ _ _ => (pe_op op_add_str (pv 0) (pv 1)))) (pss_cons (ps_expr (pe_callD T.look_picture G_look_picture (hr.mono (by decide)) (passes1 raiseX rfl rfl rfl (fun _ _ _ z => z)) (pa_cons (pv 2) pa_nil))) (pss_one (ps_ret (pv 2)))))))), ?_⟩
  refine rs_seq (rs_drop' (tcall (ga_1 (gv_var (by rfl))) fun H1 s1 => ⟨a, p, rfl, SqL.of (s1 _ _ ha), hp.sm, fun c1 H2 s2 => ?_, fun c1 H2 s2 => ?_⟩))
  rotate_left
  · rw [c1, if_neg (by decide)] at k
    exact k H2 (s1.trans s2)
  rw [if_pos c1] at k
  have s02 := s1.trans s2
  refine rs_seq (rs_drop' (tcall (ga_1 (gv_var (by rfl))) fun H3 s3 => ⟨b, q, rfl, SqL.of (s3 _ _ (s02 _ _ hb)), hq.sm, fun c2 H4 s4 => ?_, fun c2 H4 s4 => ?_⟩))
  rotate_left
  · rw [c2, if_neg (by decide)] at k
    exact k H4 (s02.trans (s3.trans s4))
  rw [if_pos c2] at k
  have s04 := s02.trans (s3.trans s4)
  refine rs_seq (rs_if2 (gt_test (gv_neI (gv_lenL (K := K) (xs := p.map V.str) (ga_1 (gv_var (by rfl))) (SqL.of (s04 _ _ ha))) (fun H5 s5 => gv_lenL (K := K) (xs := q.map V.str) (ga_1 (gv_var (by rfl))) (SqL.of (s5 _ _ (s04 _ _ hb)))) (by rfl))) (fun c3 H5 s5 => ?_) fun c3 H5 s5 => rs_next ?_)
  · have ne : ¬ p.length = q.length := by
      have z : ¬ ((p.length : Int) = q.length) := by simpa using c3
      omega
    rw [if_neg ne] at k
    exact ⟨(by show 1 ≤ sizeLine; decide), k H5 (s04.trans s5)⟩
  have eq : p.length = q.length := by
    have z : (p.length : Int) = q.length := by simpa using c3
    omega
  rw [if_pos eq] at k
  have s05 := s04.trans s5
  refine rs_seq (rs_scZ (K := K) (ga_cons (gv_var (by rfl)) fun _ _ => ga_1 (gv_var (by rfl))) (SqL.of (s05 _ _ ha)) (SqL.of (s05 _ _ hb)) fun H6 s6 ha6 hb6 => ?_)
  refine comp_zip_map appV ha6 hb6 (by simp [eq]) (small (by rw [List.length_map]; omega)) (fun i x y H7 R hx hy s7 k7 => ?_) fun D H7 hD s7 hDl => ?_
  · obtain ⟨r, rfl, hr1, _⟩ := strs_at hx
    obtain ⟨r', rfl, hr2, _⟩ := strs_at hy
    have := hp.2 r hr1
    have := hq.2 r' hr2
    exact gv_to (gv_addS (gv_var (by rfl)) (fun _ _ => gv_var (by rfl)) (small (by omega))) fun H8 s8 => k7 H8 s8
  rw [zip_app] at hDl
  have s07 := s05.trans (s6.trans s7)
  unfold pick at k
  refine rs_seq (rs_drop' (tcall (ga_1 (gv_var (by rfl))) fun H8 s8 => ⟨D, List.zipWith (· ++ ·) p q, rfl, SqL.of (s8 _ _ hDl), ⟨by rw [List.length_zipWith]; omega, zip_sm hp.2 hq.2⟩, fun c4 H9 s9 => ?_, fun c4 H9 s9 => ?_⟩))
  · rw [if_pos c4] at k
    refine ⟨_, rfl, ?_⟩
    exact k D H9 ((s05.trans s6).free hD) (s07.trans (s8.trans s9)) (s9 _ _ (s8 _ _ hDl))
  · rw [c4, if_neg (by decide)] at k
    exact k H9 (s07.trans (s8.trans s9))
theorem sc_over : FnScope ["one", "other", "joined"] ["one", "other"] (defScope s_over) := ⟨rfl, rfl, rfl, by decide +kernel, rfl, by decide +kernel, by decide +kernel⟩
theorem ok_over (T : Txt K mg t) : FnOk P w K mg base (CX1 P w) 4 t.f_over t.d_over ["one", "other"] (sp2 t.c_BadPicture t.c_Unlike overO) := by
  have G_look_picture : FnOk P w K mg base (CX1 P w) 3 t.f_look_picture t.d_look_picture ["picture"] (sp_look K t.c_BadPicture) := ok_look_picture T
  refine T.over.fn.okX sc_over (fun vs H Q E h => ?_) (fun cdv A outer s H vs Q E hr h => ?_)
  · obtain ⟨a, b, p, q, rfl, _⟩ := h
    rfl
  obtain ⟨a, b, p, q, rfl, ha, hb, hp, hq, k⟩ := h
  have hp1 := hp.1
  have hq1 := hq.1
  unfold overO at k
  refine ⟨_, (pss_cons (ps_expr (pe_callD T.look_picture G_look_picture (hr.mono (by decide)) (passes1 raiseX rfl rfl rfl (fun _ _ _ z => z)) (pa_cons (pv 0) pa_nil))) (pss_cons (ps_expr (pe_callD T.look_picture G_look_picture (hr.mono (by decide)) (passes1 raiseX rfl rfl rfl (fun _ _ _ z => z)) (pa_cons (pv 1) pa_nil))) (pss_cons (ps_if (pt_cmpR op_ne (pe_callB (kLen K) (by rfl) T.n_len boot_len (pa_cons (pe_ix (kIxL K) (pv 0) pe_int (fun _ _ => rfl)) pa_nil)) (pe_callB (kLen K) (by rfl) T.n_len boot_len (pa_cons (pe_ix (kIxL K) (pv 1) pe_int (fun _ _ => rfl)) pa_nil)) (nomark _)) (pss_one (ps_raise raiseX rfl rfl rfl rfl T.x_Unlike rfl (pa_cons pe_str pa_nil))) pss_nil) (pss_cons (ps_set (i := 2) sc_over.nd rfl (by first | exact Or.inl rfl | exact Or.inr rfl) (pe_op op_cat (pv 0) (pv 1))) (pss_cons (ps_expr (pe_callD T.look_picture G_look_picture (hr.mono (by decide)) (passes1 raiseX rfl rfl rfl (fun _ _ _ z => z)) (pa_cons (pv 2) pa_nil))) (pss_one (ps_ret (pv 2)))))))), ?_⟩
  refine rs_seq (rs_drop' (tcall (ga_1 (gv_var (by rfl))) fun H1 s1 => ⟨a, p, rfl, SqL.of (s1 _ _ ha), hp.sm, fun c1 H2 s2 => ?_, fun c1 H2 s2 => ?_⟩))
  rotate_left
  · rw [c1, if_neg (by decide)] at k
    exact k H2 (s1.trans s2)
  rw [if_pos c1] at k
  have s02 := s1.trans s2
  refine rs_seq (rs_drop' (tcall (ga_1 (gv_var (by rfl))) fun H3 s3 => ⟨b, q, rfl, SqL.of (s3 _ _ (s02 _ _ hb)), hq.sm, fun c2 H4 s4 => ?_, fun c2 H4 s4 => ?_⟩))
  rotate_left
  · rw [c2, if_neg (by decide)] at k
    exact k H4 (s02.trans (s3.trans s4))
  rw [if_pos c2] at k
  have s04 := s02.trans (s3.trans s4)
  obtain ⟨np, _⟩ := pic_rows c1
  obtain ⟨nq, _⟩ := pic_rows c2
  cases p with
  | nil => exact absurd rfl np
  | cons r0 rs =>
    cases q with
    | nil => exact absurd rfl nq
    | cons r1 qs =>
      have l0 := hp.2 r0 List.mem_cons_self
      have l1 := hq.2 r1 List.mem_cons_self
      refine rq_if (gt_test (gv_neI (gv_lenS (K := K) (ga_1 (gv_ixL (gv_var (by rfl)) (fun _ _ => gv_c) (SqL.of (s04 _ _ ha)) (atI_zero _ _))) (small (by omega))) (fun H5 s5 => gv_lenS (K := K) (ga_1 (gv_ixL (gv_var (by rfl)) (fun _ _ => gv_c) (SqL.of (s5 _ _ (s04 _ _ hb))) (atI_zero _ _))) (small (by omega))) (by rfl))) (fun c3 H5 s5 => ?_) fun c3 H5 s5 => ?_
      · have ne : ¬ wide0 (r0 :: rs) = wide0 (r1 :: qs) := by
          have z : ¬ ((r0.length : Int) = r1.length) := by simpa using c3
          show ¬ r0.length = r1.length
          omega
        rw [if_neg ne] at k
        exact ⟨(by show 1 ≤ sizeLine; decide), k H5 (s04.trans s5)⟩
      have eq : wide0 (r0 :: rs) = wide0 (r1 :: qs) := by
        have z : (r0.length : Int) = r1.length := by simpa using c3
        show r0.length = r1.length
        omega
      rw [if_pos eq] at k
      have s05 := s04.trans s5
      refine rq_set' ⟨_, rfl, _, rfl, a, b, _, _, rfl, rfl, s05 _ _ ha, s05 _ _ hb, ?_, fun D hD => ?_⟩
      · rw [List.length_map, List.length_map]
        exact small (by omega)
      have hDl : (upd H5 D (.lst ((r0 :: rs).map V.str ++ (r1 :: qs).map V.str))) D = some (.lst (((r0 :: rs) ++ (r1 :: qs)).map V.str)) := by rw [upd_same, List.map_append]
      have s06 := s05.trans (Same.new hD (.lst ((r0 :: rs).map V.str ++ (r1 :: qs).map V.str)))
      unfold pick at k
      refine rs_seq (rs_drop' (tcall (ga_1 (gv_var (by rfl))) fun H8 s8 => ⟨D, (r0 :: rs) ++ (r1 :: qs), rfl, SqL.of (s8 _ _ hDl), ⟨by rw [List.length_append]; omega, fun r hr => ?_⟩, fun c4 H9 s9 => ?_, fun c4 H9 s9 => ?_⟩))
      · rcases List.mem_append.mp hr with z | z
        · have := hp.2 r z; omega
        · have := hq.2 r z; omega
      · rw [if_pos c4] at k
        refine ⟨_, rfl, ?_⟩
        exact k D H9 (s05.free hD) (s06.trans (s8.trans s9)) (s9 _ _ (s8 _ _ hDl))
      · rw [c4, if_neg (by decide)] at k
        exact k H9 (s06.trans (s8.trans s9))
end
end K01

/-! @KIND text s@ @KIND rows l@ @KIND rows[] s@ @KIND picture l@ @KIND picture[] s@ @KIND row s@ @KIND LETTERS s@ @KIND one l@ @KIND other l@ @KIND left s@ @KIND right s@ @KIND joined l@
 @KIND _law_script l@ @KIND _law_letters s@ @KIND _law_row s@ @KIND _law_picture_here l@ @KIND _law_picture_here[] s@ @KIND _law_one l@ @KIND _law_other l@ @KIND _law_one[] s@ @KIND _law_other[] s@ @KIND _law_found l@ @KIND _law_kinds l@
 @KIND _law_some l@ @KIND _law_pictures l@ @KIND _law_handed l@ @KIND _law_pictures[] l@ @KIND _law_handed[] l@ @KIND _law_some[] s@ @KIND one[] s@ @KIND other[] s@ -/
namespace K01
open PySem PySem.Spec PyProof.Rows L2
section
variable {P : Program} {w : World} {K : PySem.W.Frag} {mg : Str → Option Value} {base : Heap} {t : Ad}
theorem gt_truthL {ta : TE} {σ : L2.St} {H : Hp} {a : Addr} {xs : List V} (h : Gv ta σ H (.ref a)) (hq : SqL K H a xs) : Gt (fun σ H Q => ta σ H fun x H' => ∃ k, TruV K x H' k ∧ Q k H') σ H (!xs.isEmpty) := fun R r => h _ fun H' s => ⟨_, .inl ⟨xs, s.seq hq, rfl⟩, r H' s⟩
def cell (ns : List Int) (k : Int) : Int := if ns = [] then 0 else ns.getD (k % ns.length).toNat 0
def sp_cell (K : PySem.W.Frag) : Sp := fun vs H Q _ => ∃ (a : Addr) (ns : List Int) (k : Int), vs = [.ref a, .int k] ∧ SqL K H a (ns.map V.int) ∧ ns.length ≤ 63 ∧ ∀ H', Same H H' → Q (.int (cell ns k)) H'
theorem sc__law_cell : FnScope ["_law_script", "_law_k"] ["_law_script", "_law_k"] (defScope s__law_cell) := ⟨rfl, rfl, rfl, by decide +kernel, rfl, by decide +kernel, by decide +kernel⟩
theorem ok__law_cell (T : Txt K mg t) : FnOk P w K mg base CX0 1 t.f__law_cell t.d__law_cell ["_law_script", "_law_k"] (sp_cell K) := by
  refine T._law_cell.fn.ok sc__law_cell (fun vs H Q E h => ?_) (fun cdv A outer s H vs Q E hr h => ?_)
  · obtain ⟨a, ns, k, rfl, _⟩ := h
    rfl
  obtain ⟨a, ns, k, rfl, hq, hl, kk⟩ := h
  refine ⟨_, (pss_cons (ps_if (kTruth K (pv 0) (fun _ => rfl)) (pss_one (ps_ret (pe_ix (kIxL K) (pv 0) (pe_op op_mod (pv 1) (pe_callB (kLen K) (by rfl) T.n_len boot_len (pa_cons (pv 0) pa_nil))) (fun _ _ => rfl)))) pss_nil) (pss_one (ps_ret pe_int))), ?_⟩
  refine rq_if (gt_truthL (gv_var (by rfl)) hq) (fun c H1 s1 => ?_) fun c H1 s1 => ?_
  · have ne : ns ≠ [] := fun z => by rw [z] at c; simp at c
    have hpos : 0 < ns.length := List.length_pos_iff.mpr ne
    have hlt : (k % (ns.length : Int)).toNat < ns.length := by
      have h1 := Int.emod_lt_of_pos k (show (0 : Int) < ns.length by omega)
      have h2 := Int.emod_nonneg k (show (ns.length : Int) ≠ 0 by omega)
      omega
    have hat : atI (ns.map V.int) (k % ((ns.map V.int).length : Int)) = some (.int (cell ns k)) := by
      have h2 := Int.emod_nonneg k (show (ns.length : Int) ≠ 0 by omega)
      rw [List.length_map]
      have e : k % (ns.length : Int) = ((k % (ns.length : Int)).toNat : Int) := by omega
      rw [e]
      refine atI_nat ?_
      unfold cell
      rw [if_neg ne, List.getElem?_map, List.getElem?_eq_getElem hlt, List.getD_eq_getElem?_getD, List.getElem?_eq_getElem hlt]
      rfl
    refine rs_ret (gv_ixL (gv_var (by rfl)) (fun H2 s2 => gv_iic (gv_var (by rfl)) (fun H3 s3 => gv_lenL (K := K) (xs := ns.map V.int) (ga_1 (gv_var (by rfl))) ((s1.trans (s2.trans s3)).seq hq)) ?_) (s1.seq hq) hat) fun H2 s2 => kk H2 (s1.trans s2)
    rw [List.length_map]; omega
  · have e : ns = [] := by
      cases ns with
      | nil => rfl
      | cons x xs => simp at c
    have := kk H1 s1
    rw [show cell ns k = 0 by unfold cell; rw [if_pos e]] at this
    exact this
def mix1 (ns : List Int) (k : Int) : Int := (cell ns k + 104729 * (k + 1)) % 4294967291 * 48271 % 4294967279
def mix (ns : List Int) (k : Int) : Int := (mix1 ns k / 64 * 69621 + mix1 ns k) % 4294967231
theorem mix_nn (ns : List Int) (k : Int) : 0 ≤ mix ns k := Int.emod_nonneg _ (by decide)
def sp_mix (K : PySem.W.Frag) : Sp := fun vs H Q _ => ∃ (a : Addr) (ns : List Int) (k : Int), vs = [.ref a, .int k] ∧ SqL K H a (ns.map V.int) ∧ ns.length ≤ 63 ∧ ∀ H', Same H H' → Q (.int (mix ns k)) H'
theorem sc__law_mix : FnScope ["_law_script", "_law_k", "_law_number"] ["_law_script", "_law_k"] (defScope s__law_mix) := ⟨rfl, rfl, rfl, by decide +kernel, rfl, by decide +kernel, by decide +kernel⟩
theorem ok__law_mix (T : Txt K mg t) : FnOk P w K mg base CX0 2 t.f__law_mix t.d__law_mix ["_law_script", "_law_k"] (sp_mix K) := by
  have G__law_cell : FnOk P w K mg base CX0 1 t.f__law_cell t.d__law_cell ["_law_script", "_law_k"] (sp_cell K) := ok__law_cell T
  refine T._law_mix.fn.ok sc__law_mix (fun vs H Q E h => ?_) (fun cdv A outer s H vs Q E hr h => ?_)
  · obtain ⟨a, ns, k, rfl, _⟩ := h
    rfl
  obtain ⟨a, ns, k, rfl, hq, hl, kk⟩ := h
  refine ⟨_, (pss_cons (ps_set (i := 2) sc__law_mix.nd rfl (by first | exact Or.inl rfl | exact Or.inr rfl) (pe_op op_mod (pe_op op_add (pe_callD T._law_cell G__law_cell (hr.mono (by decide)) pass0 (pa_cons (pv 0) (pa_cons (pv 1) pa_nil))) (pe_op op_mul pe_int (pe_op op_add (pv 1) pe_int))) pe_int)) (pss_cons (ps_set (i := 2) sc__law_mix.nd rfl (by first | exact Or.inl rfl | exact Or.inr rfl) (pe_op op_mod (pe_op op_mul (pv 2) pe_int) pe_int)) (pss_one (ps_ret (pe_op op_mod (pe_op op_add (pe_op op_mul (pe_op op_fdiv (pv 2) pe_int) pe_int) (pv 2)) pe_int))))), ?_⟩
  refine rq_set (gv_iic (gv_ii (gv_call (v := .int (cell ns k)) (ga_cons (gv_var (by rfl)) fun _ _ => ga_1 (gv_var (by rfl))) fun H1 R s1 k1 => ⟨a, ns, k, rfl, s1.seq hq, hl, k1⟩) fun H1 s1 => gv_iic gv_c (fun H2 s2 => gv_ii (gv_var (by rfl)) fun _ _ => gv_c) (.inl ⟨by decide, by decide⟩)) (fun _ _ => gv_c) (by decide)) fun H1 s1 => ?_
  refine rq_set (gv_iic (gv_iic (gv_var (by rfl)) (fun _ _ => gv_c) (.inr ⟨by decide, by decide⟩)) (fun _ _ => gv_c) (by decide)) fun H2 s2 => ?_
  refine rs_ret (gv_iic (gv_ii (gv_iic (gv_iic (gv_var (by rfl)) (fun _ _ => gv_c) ⟨by decide, by decide⟩) (fun _ _ => gv_c) (.inr ⟨by decide, by decide⟩)) fun _ _ => gv_var (by rfl)) (fun _ _ => gv_c) (by decide)) fun H3 s3 => ?_
  exact kk H3 (s1.trans (s2.trans s3))

/-! ### a drawn picture -/
def sp_picture (K : PySem.W.Frag) : Sp := fun vs H Q _ => ∃ (a : Addr) (ns : List Int) (k : Int) (hi wi : Nat) (ls : Str), vs = [.ref a, .int k, .int hi, .int wi, .str ls] ∧ SqL K H a (ns.map V.int) ∧ ns.length ≤ 63 ∧ hi ≤ 10 ∧ wi ≤ 15 ∧ ls.length = 4 ∧
  ∀ (r : Addr) (H' : Hp) (p : List Str), H r = none → Same H H' → H' r = some (.lst (p.map V.str)) → p.length = hi → (∀ x ∈ p, x.length ≤ wi) → Q (.ref r) H'
theorem len_ones : ∀ cs : List Nat, ((cs.map one1).map (·.length)).sum = cs.length
  | [] => rfl
  | c :: cs => by
    rw [List.map_cons, List.map_cons, List.sum_cons, len_ones cs, List.length_cons]
    show 1 + _ = _
    omega
theorem join_ones (cs : List Nat) : (Txt.join "" (cs.map one1)).length = cs.length := by
  unfold Txt.join
  rw [size_glued, len_ones]
  show cs.length + _ * 0 = _
  omega
theorem sc__law_picture : FnScope ["_law_script", "_law_k", "_law_high", "_law_wide", "_law_letters", "_law_found", "_law_y"] ["_law_script", "_law_k", "_law_high", "_law_wide", "_law_letters"] (defScope s__law_picture) := ⟨rfl, rfl, rfl, by decide +kernel, rfl, by decide +kernel, by decide +kernel⟩
theorem ok__law_picture (T : Txt K mg t) : FnOk P w K mg base CX0 3 t.f__law_picture t.d__law_picture ["_law_script", "_law_k", "_law_high", "_law_wide", "_law_letters"] (sp_picture K) := by
  have G__law_mix : FnOk P w K mg base CX0 2 t.f__law_mix t.d__law_mix ["_law_script", "_law_k"] (sp_mix K) := ok__law_mix T
  refine T._law_picture.fn.ok sc__law_picture (fun vs H Q E h => ?_) (fun cdv A outer s H vs Q E hr h => ?_)
  · obtain ⟨a, ns, k, hi, wi, ls, rfl, _⟩ := h
    rfl
  obtain ⟨a, ns, k, hi, wi, ls, rfl, hq, hl, hhi, hwi, hls, kk⟩ := h
  refine ⟨_, (pss_cons (ps_set (i := 5) sc__law_picture.nd rfl (by first | exact Or.inl rfl | exact Or.inr rfl) (pe_lst pa_nil)) (pss_cons (ps_for PassesOwn.never rfl (pi_range1 rfl T.n_range (pa_cons (pv 2) pa_nil)) (pg_name (i := 6) sc__law_picture.nd rfl (by first | exact Or.inl rfl | exact Or.inr rfl)) (pss_one (ps_expr (kBm K PySem.F.plainAttrs_list PySem.F.slot_list_append PySem.F.type_list_append mt_append (pv 5) (pa_cons (kBm K PySem.F.plainAttrs_str PySem.F.slot_str_join PySem.F.type_str_join (kJoin K) pe_str (pa_cons (pe_comp (N' := ["_law_x", "_law_letters", "_law_script", "_law_k", "_law_y"]) (ix := [none, some 4, some 0, some 1, some 6]) (compScope_of (by kernel_rfl)) rfl (pi_range1 rfl T.n_range (pa_cons (pv 3) pa_nil)) (fun _ _ _ _ => (pg_name (i := 0) (show List.Nodup (["_law_x", "_law_letters", "_law_script", "_law_k", "_law_y"] : List Str) from by decide +kernel) rfl (by first | exact Or.inl rfl | exact Or.inr rfl))) (fun _ _ _ _ => pf_nil) (fun _ _ _ _ => (pe_ix ix_str (pv 1) (pe_op op_mod (pe_op op_fdiv (pe_callD T._law_mix G__law_mix (hr.mono (by decide)) pass0 (pa_cons (pv 2) (pa_cons (pe_op op_add (pe_op op_add (pv 3) (pe_op op_mul pe_int (pv 4))) (pv 0)) pa_nil))) pe_int) (pe_callB (kLen K) (by rfl) T.n_len boot_len (pa_cons (pv 1) pa_nil))) (fun _ _ => rfl)))) pa_nil)) pa_nil))))) (pss_one (ps_ret (pv 5))))), ?_⟩
  refine rq_set' ⟨(by show 0 ≤ sizeLine; decide), fun r hr' => ?_⟩
  refine ⟨_, rfl, hi, rfl, by omega, by omega, for_range (n := (hi : Int).toNat) (fun i σ H2 => ∃ (y : Option V) (p : List Str), σ = [some (.ref a), some (.int k), some (.int hi), some (.int wi), some (.str ls), some (.ref r), y] ∧ Same H H2 ∧ H2 r = some (.lst (p.map V.str)) ∧ p.length = i ∧ ∀ x ∈ p, x.length ≤ wi)
    ⟨none, [], rfl, Same.new hr' _, upd_same, rfl, fun x hx => absurd hx (by simp)⟩ ?_ ?_⟩
  · rintro i σ H2 hi2 ⟨y, p, rfl, s2, hr2, hpl, hpx⟩
    -- found.append(join of a comprehension)
    refine ⟨_, rfl, .inl ⟨rfl, _, SqL.of hr2⟩, rfl, ?_⟩
    refine tcompR (ga_1 (gv_var (by rfl))) (by omega) (by omega) fun H3 s3 => ?_
    refine comp_range_map (fun j => .str (one1 (ls.cps.getD (mix ns (k + 6 * (0 + (i : Int)) + (0 + (j : Int))) / 8 % 4).toNat 0))) (small (by omega)) (fun j H4 R hj s4 k4 => ?_) fun D H4 hD s4 hDl => ?_
    · have hm := mix_nn ns (k + 6 * (0 + (i : Int)) + (0 + (j : Int)))
      have hdl : (mix ns (k + 6 * (0 + (i : Int)) + (0 + (j : Int))) / 8 % 4).toNat < ls.length := by omega
      have hat : atI ls.cps.toList (mix ns (k + 6 * (0 + (i : Int)) + (0 + (j : Int))) / 8 % (ls.length : Int)) = some (ls.cps.getD (mix ns (k + 6 * (0 + (i : Int)) + (0 + (j : Int))) / 8 % 4).toNat 0) := by
        rw [hls]
        have e : mix ns (k + 6 * (0 + (i : Int)) + (0 + (j : Int))) / 8 % ((4 : Nat) : Int) = ((mix ns (k + 6 * (0 + (i : Int)) + (0 + (j : Int))) / 8 % 4).toNat : Int) := by omega
        rw [e]
        exact atI_code hdl
      refine gv_to (gv_ixS (gv_var (by rfl)) (fun H5 s5 => gv_iic (gv_iic (gv_call (v := .int (mix ns (k + 6 * (0 + (i : Int)) + (0 + (j : Int))))) (ga_cons (gv_var (by rfl)) fun _ _ => ga_1 (gv_ii (gv_ii (gv_var (by rfl)) fun _ _ => gv_iic gv_c (fun _ _ => gv_var (by rfl)) (.inl ⟨by decide, by decide⟩)) fun _ _ => gv_var (by rfl))) fun H6 R' s6 k6 => ⟨a, ns, _, rfl, (((s2.trans s3).trans s4).trans (s5.trans s6)).seq hq, hl, k6⟩) (fun _ _ => gv_c) ⟨by decide, by decide⟩)
        (fun _ _ => gv_lenS (K := K) (ga_1 (gv_var (by rfl))) (small (by omega))) (by rw [hls]; decide)) (small (by omega)) hat) fun H5 s5 => k4 H5 s5
    · have e1 : (List.range (wi : Int).toNat).map (fun (j : Nat) => V.str (one1 (ls.cps.getD (mix ns (k + 6 * (0 + (i : Int)) + (0 + (j : Int))) / 8 % 4).toNat 0))) = (((List.range wi).map fun (j : Nat) => ls.cps.getD (mix ns (k + 6 * (0 + (i : Int)) + (0 + (j : Int))) / 8 % 4).toNat 0).map one1).map V.str := by
        rw [Int.toNat_natCast, List.map_map, List.map_map]; rfl
      rw [e1] at hDl
      generalize hcs : ((List.range wi).map fun (j : Nat) => ls.cps.getD (mix ns (k + 6 * (0 + (i : Int)) + (0 + (j : Int))) / 8 % 4).toNat 0) = cs at hDl
      have hcl : cs.length = wi := by rw [← hcs, List.length_map, List.length_range]
      have hj := join_ones cs
      have s24 := s3.trans s4
      refine ⟨"", D, cs.map one1, rfl, rfl, SqL.of hDl, ?_, ?_⟩
      · rw [len_ones, List.length_map]
        show cs.length + cs.length * 0 ≤ 16777216
        omega
      · refine ⟨r, _, _, rfl, rfl, s24 _ _ hr2, ?_, ?_⟩
        · rw [List.length_map]
          exact Nat.lt_of_le_of_lt (show p.length ≤ 1000 by omega) (by decide)
        · refine ⟨_, p ++ [Txt.join "" (cs.map one1)], rfl, (s2.trans s24).put hr' _, ?_, ?_, fun x hx => ?_⟩
          · rw [upd_same, List.map_append]; rfl
          · rw [List.length_append, List.length_singleton, hpl]
          · rcases List.mem_append.mp hx with z | z
            · exact hpx x z
            · rw [List.mem_singleton.mp z]; omega
  · rintro σ H2 ⟨y, p, rfl, s2, hr2, hpl, hpx⟩
    exact ⟨_, rfl, kk r H2 p hr' s2 hr2 (by simpa using hpl) hpx⟩
end
end K01

/-! @KIND text s@ @KIND rows l@ @KIND rows[] s@ @KIND picture l@ @KIND picture[] s@ @KIND row s@ @KIND LETTERS s@ @KIND one l@ @KIND other l@ @KIND left s@ @KIND right s@ @KIND joined l@
 @KIND _law_script l@ @KIND _law_letters s@ @KIND _law_row s@ @KIND _law_picture_here l@ @KIND _law_picture_here[] s@ @KIND _law_one l@ @KIND _law_other l@ @KIND _law_one[] s@ @KIND _law_other[] s@ @KIND _law_found l@ @KIND _law_kinds l@
 @KIND _law_some l@ @KIND _law_pictures l@ @KIND _law_handed l@ @KIND _law_pictures[] l@ @KIND _law_handed[] l@ @KIND _law_some[] s@ @KIND one[] s@ @KIND other[] s@ -/
namespace K01
open PySem PySem.Spec PyProof.Rows L2
section
variable {P : Program} {w : World} {K : PySem.W.Frag} {mg : Str → Option Value} {base : Heap} {t : Ad}
/-! ### the name of a refusal -/
def sp_refusal (K : PySem.W.Frag) (t : Ad) : Sp := fun vs H Q _ => ∃ (a C : Addr) (wd : Str), vs = [.ref a] ∧ H a = some (excO a (.ref C)) ∧ ((C = t.c_BadPicture ∧ wd = "picture") ∨ (C = t.c_Unlike ∧ wd = "unlike")) ∧ ∀ H', Same H H' → Q (.str wd) H'
/-- which of the five kinds, as bools -/
structure Five (K : PySem.W.Frag) (t : Ad) (C : Addr) (b1 b2 b3 b4 b5 : Bool) : Prop where
  is : ExcIs K C
  k1 : PySem.W.kitOne K (.ref C) (.ref t.c_BadPicture) = some b1
  k2 : PySem.W.kitOne K (.ref C) (.ref t.c_BadSize) = some b2
  k3 : PySem.W.kitOne K (.ref C) (.ref t.c_BadSystem) = some b3
  k4 : PySem.W.kitOne K (.ref C) (.ref t.c_BadText) = some b4
  k5 : PySem.W.kitOne K (.ref C) (.ref t.c_Unlike) = some b5
  k6 : PySem.W.kitOne K (.ref C) (.type "ValueError") = some true
theorem sc__law_refusal : FnScope ["_law_kept", "_law_kinds"] ["_law_kept"] (defScope s__law_refusal) := ⟨rfl, rfl, rfl, by decide +kernel, rfl, by decide +kernel, by decide +kernel⟩
theorem ok__law_refusal (T : Txt K mg t) : FnOk P w K mg base CX0 1 t.f__law_refusal t.d__law_refusal ["_law_kept"] (sp_refusal K t) := by
  refine T._law_refusal.fn.ok sc__law_refusal (fun vs H Q E h => ?_) (fun cdv A outer s H vs Q E hr h => ?_)
  · obtain ⟨a, C, wd, rfl, _⟩ := h
    rfl
  obtain ⟨a, C, wd, rfl, he, hcw, kk⟩ := h
  have hF : ∃ (b1 b2 b3 b4 b5 : Bool) (j : Nat), Five K t C b1 b2 b3 b4 b5 ∧ ([V.bl b1, .bl b2, .bl b3, .bl b4, .bl b5].countP fun y => eqV y (.bl true)) = 1 ∧ (∃ hj : j < 5, eqV ([V.bl b1, .bl b2, .bl b3, .bl b4, .bl b5][j]) (.bl true) = true) ∧
      (∀ (m : Nat) (hm : m < 5), m < j → eqV ([V.bl b1, .bl b2, .bl b3, .bl b4, .bl b5][m]) (.bl true) = false) ∧ atI [V.str "picture", .str "size", .str "system", .str "text", .str "unlike"] (j : Int) = some (.str wd) := by
    rcases hcw with ⟨rfl, rfl⟩ | ⟨rfl, rfl⟩
    · exact ⟨true, false, false, false, false, 0, ⟨T.i_BadPicture, T.k_BadPicture_BadPicture, T.k_BadPicture_BadSize, T.k_BadPicture_BadSystem, T.k_BadPicture_BadText, T.k_BadPicture_Unlike, T.k_BadPicture_ValueError⟩, rfl, ⟨by decide, rfl⟩, fun m hm h => absurd h (by omega), rfl⟩
    · refine ⟨false, false, false, false, true, 4, ⟨T.i_Unlike, T.k_Unlike_BadPicture, T.k_Unlike_BadSize, T.k_Unlike_BadSystem, T.k_Unlike_BadText, T.k_Unlike_Unlike, T.k_Unlike_ValueError⟩, rfl, ⟨by decide, rfl⟩, fun m hm h => ?_, rfl⟩
      match m, h with
      | 0, _ => rfl
      | 1, _ => rfl
      | 2, _ => rfl
      | 3, _ => rfl
      | m + 4, h => exact absurd h (by omega)
  obtain ⟨b1, b2, b3, b4, b5, j, F, hcount, ⟨hj, hjt⟩, hno, hat⟩ := hF
  refine ⟨_, (pss_cons (ps_if (pt_cmp (pc_isN (pv 0))) (pss_one (ps_ret pe_str)) pss_nil) (pss_cons (ps_set (i := 1) sc__law_refusal.nd rfl (by first | exact Or.inl rfl | exact Or.inr rfl) (pe_lst (pa_cons (pe_callB (kIsinstance K) (by rfl) T.n_isinstance boot_isinstance (pa_cons (pv 0) (pa_cons (pe_glob (v := .ref t.c_BadPicture) rfl T.m_BadPicture rfl) pa_nil))) (pa_cons (pe_callB (kIsinstance K) (by rfl) T.n_isinstance boot_isinstance (pa_cons (pv 0) (pa_cons (pe_glob (v := .ref t.c_BadSize) rfl T.m_BadSize rfl) pa_nil))) (pa_cons (pe_callB (kIsinstance K) (by rfl) T.n_isinstance boot_isinstance (pa_cons (pv 0) (pa_cons (pe_glob (v := .ref t.c_BadSystem) rfl T.m_BadSystem rfl) pa_nil))) pa_nil))))) (pss_cons (ps_set (i := 1) sc__law_refusal.nd rfl (by first | exact Or.inl rfl | exact Or.inr rfl) (pe_op op_cat (pv 1) (pe_lst (pa_cons (pe_callB (kIsinstance K) (by rfl) T.n_isinstance boot_isinstance (pa_cons (pv 0) (pa_cons (pe_glob (v := .ref t.c_BadText) rfl T.m_BadText rfl) pa_nil))) (pa_cons (pe_callB (kIsinstance K) (by rfl) T.n_isinstance boot_isinstance (pa_cons (pv 0) (pa_cons (pe_glob (v := .ref t.c_Unlike) rfl T.m_Unlike rfl) pa_nil))) pa_nil))))) (pss_cons (ps_if (PW.pt (pw_or (pt_cmpR op_ne (kBm K PySem.F.plainAttrs_list PySem.F.slot_list_count PySem.F.type_list_count (kCount K) (pv 1) (pa_cons pe_bl pa_nil)) pe_int (nomark _)) (pw_or1 (pt_not (pt_val (pe_callB (kIsinstance K) (by rfl) T.n_isinstance boot_isinstance (pa_cons (pv 0) (pa_cons (pe_bltn (v := .ty "ValueError") rfl T.n_ValueError PyProof.Rows.Boot.ValueError rfl) pa_nil)))))))) (pss_one (ps_ret pe_str)) pss_nil) (pss_one (ps_ret (pe_ix (kIxL K) (pe_lst (pa_cons pe_str (pa_cons pe_str (pa_cons pe_str (pa_cons pe_str (pa_cons pe_str pa_nil)))))) (kBm K PySem.F.plainAttrs_list PySem.F.slot_list_index PySem.F.type_list_index (kIndex K) (pv 1) (pa_cons pe_bl pa_nil)) (fun _ _ => rfl)))))))), ?_⟩
  refine rq_if (b := false) (gt_eq (gt_tB (gv_isN (gv_var (by rfl)))) (by simp)) (fun c H1 s1 => absurd c (by decide)) fun c H1 s1 => ?_
  have isi : ∀ {σ : L2.St} {Hx : Hp} {tt : TA} {c : V} {b : Bool}, Same H Hx → Ga tt σ Hx [.ref a, c] → ((∃ x, c = .ref x) ∨ ∃ n, c = .ty n) → PySem.W.kitOne K (.ref C) (clsV c) = some b → Gv (tCB (fun xs H Q => ∃ x c t b, xs = [x, c] ∧ ((∃ a, c = .ref a) ∨ ∃ n, c = .ty n) ∧ TyV K H x t ∧ PySem.W.kitOne K t (clsV c) = some b ∧ Q (.bl b) H) tt) σ Hx (.bl b) :=
    fun s hg hc hk => gv_isiE hg hc (s _ _ he) F.is hk
  refine rq_set' (gn_to (gn_lst (xs := [.bl b1, .bl b2, .bl b3]) (ga_cons (isi s1 (ga_cons (gv_var (by rfl)) fun _ _ => ga_1 gv_c) (.inl ⟨_, rfl⟩) F.k1) fun H2 s2 => ga_cons (isi (s1.trans s2) (ga_cons (gv_var (by rfl)) fun _ _ => ga_1 gv_c) (.inl ⟨_, rfl⟩) F.k2) fun H3 s3 => ga_1 (isi ((s1.trans s2).trans s3) (ga_cons (gv_var (by rfl)) fun _ _ => ga_1 gv_c) (.inl ⟨_, rfl⟩) F.k3)) (by show 3 ≤ sizeLine; decide)) fun l1 H2 hl1 s2 hl1' => ?_)
  have s02 := s1.trans s2
  refine rq_set' (gn_to (gn_cat (ys := [.bl b4, .bl b5]) (gv_var (by rfl)) hl1' (fun H3 s3 => gn_lst (ga_cons (isi (s02.trans s3) (ga_cons (gv_var (by rfl)) fun _ _ => ga_1 gv_c) (.inl ⟨_, rfl⟩) F.k4) fun H4 s4 => ga_1 (isi ((s02.trans s3).trans s4) (ga_cons (gv_var (by rfl)) fun _ _ => ga_1 gv_c) (.inl ⟨_, rfl⟩) F.k5)) (by show 2 ≤ sizeLine; decide)) (by show 5 ≤ sizeLine; decide)) fun l2 H3 hl2 s3 hl2' => ?_)
  have s03 := s02.trans s3
  have hq2 : SqL K H3 l2 [V.bl b1, .bl b2, .bl b3, .bl b4, .bl b5] := SqL.of hl2'
  refine rq_if (b := false) (gt_eq (gt_or (q := false) (gt_test (gv_neI (gv_count (gv_var (by rfl)) hq2 (fun _ _ => ga_1 gv_c) (by rfl) (by rfl)) (fun _ _ => gv_c) (by rfl))) fun _ H4 s4 => gt_eq (gt_not (gt_tB (isi (s03.trans s4) (ga_cons (gv_var (by rfl)) fun _ _ => ga_1 gv_c) (.inr ⟨_, rfl⟩) F.k6))) rfl) ?_) (fun c H4 s4 => absurd c (by decide)) fun c H4 s4 => ?_
  · rw [hcount]; rfl
  refine rs_ret (gv_ixN (K := K) (xs := [.str "picture", .str "size", .str "system", .str "text", .str "unlike"]) (gn_lst (ga_cons gv_c fun _ _ => ga_cons gv_c fun _ _ => ga_cons gv_c fun _ _ => ga_cons gv_c fun _ _ => ga_1 gv_c) (by show 5 ≤ sizeLine; decide))
    (fun H5 s5 => gv_index (j := j) (gv_var (by rfl)) ((s4.trans s5).seq hq2) (fun _ _ => ga_1 gv_c) (by rfl) (by rfl) hj hjt hno) hat) fun H5 s5 => kk H5 (s03.trans (s4.trans s5))

/-! ### the law's own look at a picture -/
theorem strip_ok (r : Str) : decide (V.str (Txt.stripChars r "abcd") = V.str "") = lettersOk r := by
  have hg : ∀ c, abcd.cps.contains c = isL c := fun c => by unfold isL; simp
  have e : Txt.stripChars r "abcd" = Builtin.Str.strSub r (stripLo abcd.cps.contains true r) (stripHi abcd.cps.contains true r (stripLo abcd.cps.contains true r)) := stripBy_eq _ _ _ _
  obtain ⟨l1, l2, l3⟩ := lo_facts abcd.cps.contains r
  obtain ⟨h1, h2, h3, h4⟩ := hi_facts abcd.cps.contains r _ l1
  generalize stripLo abcd.cps.contains true r = lo at *
  generalize stripHi abcd.cps.contains true r lo = hi at *
  have hlen : (Txt.stripChars r "abcd").length = hi - lo := by rw [e, size_strSub r lo hi h2]
  have all_iff : lettersOk r = true ↔ ∀ k, k < r.length → abcd.cps.contains (r.cps.getD k 0) = true := by
    unfold lettersOk
    rw [List.all_eq_true]
    constructor
    · intro z k hk
      rw [hg]
      refine z _ ?_
      have hk' : k < r.cps.size := hk
      simp [Array.getD, hk']
    · intro z c hc
      obtain ⟨k, hk, e⟩ := List.mem_iff_getElem.mp hc
      have hk' : k < r.cps.size := by simpa using hk
      have := z k hk'
      rw [hg] at this
      simp [Array.getD, hk'] at this
      rw [← e]
      simpa using this
  rw [Bool.eq_iff_iff, decide_eq_true_iff, all_iff]
  constructor
  · intro z k hk
    have z' : Txt.stripChars r "abcd" = "" := by injection z
    rw [z'] at hlen
    have h0 : (0 : Nat) = hi - lo := hlen
    by_cases hkl : k < lo
    · exact l2 k hkl
    · exact h3 k (by omega) hk
  · intro z
    have hlo : lo = r.length := by
      rcases l3 with q | q
      · exact q
      · by_cases hl : lo < r.length
        · rw [z lo hl] at q; cases q
        · omega
    have h0 : (Txt.stripChars r "abcd").length = 0 := by rw [hlen]; omega
    congr 1
    generalize Txt.stripChars r "abcd" = y at h0
    obtain ⟨c⟩ := y
    have : c.size = 0 := h0
    have : c = #[] := Array.eq_empty_of_size_eq_zero this
    rw [this]
    rfl
theorem row_ok (n : Nat) (r : Str) : (decide (V.int r.length = V.int n) && decide (V.str (Txt.stripChars r "abcd") = V.str "")) = rowOk n r := by unfold rowOk; rw [strip_ok]
theorem sc__law_good : FnScope ["_law_picture_here"] ["_law_picture_here"] (defScope s__law_good) := ⟨rfl, rfl, rfl, by decide +kernel, rfl, by decide +kernel, by decide +kernel⟩
theorem ok__law_good (T : Txt K mg t) : FnOk P w K mg base CX0 1 t.f__law_good t.d__law_good ["_law_picture_here"] (sp_is_picture K) := by
  refine T._law_good.fn.ok sc__law_good (fun vs H Q E h => ?_) (fun cdv A outer s H vs Q E hr h => ?_)
  · obtain ⟨a, p, rfl, _⟩ := h
    rfl
  obtain ⟨a, p, rfl, hq, hs, k⟩ := h
  have hs1 := hs.1
  refine ⟨_, (pss_cons (ps_if (PW.pt (pw_or (pt_not (pt_chain op_le op_le pe_int (pe_callB (kLen K) (by rfl) T.n_len boot_len (pa_cons (pv 0) pa_nil)) pe_int)) (pw_or1 (pt_not (pt_chain op_le op_le pe_int (pe_callB (kLen K) (by rfl) T.n_len boot_len (pa_cons (pe_ix (kIxL K) (pv 0) pe_int (fun _ _ => rfl)) pa_nil)) pe_int))))) (pss_one (ps_ret pe_bl)) pss_nil) (pss_one (ps_ret (pe_callB (kAll K) (by rfl) T.n_all boot_all (pa_cons (pe_comp (N' := ["_law_row", "_law_picture_here"]) (ix := [none, some 0]) (compScope_of (by kernel_rfl)) rfl (kiList K (pv 0)) (fun _ _ _ _ => (pg_name (i := 0) (show List.Nodup (["_law_row", "_law_picture_here"] : List Str) from by decide +kernel) rfl (by first | exact Or.inl rfl | exact Or.inr rfl))) (fun _ _ _ _ => pf_nil) (fun _ _ _ _ => (pe_and (pe_cmpR op_eq (pe_callB (kLen K) (by rfl) T.n_len boot_len (pa_cons (pv 0) pa_nil)) (pe_callB (kLen K) (by rfl) T.n_len boot_len (pa_cons (pe_ix (kIxL K) (pv 1) pe_int (fun _ _ => rfl)) pa_nil)) (nomark _)) (pe_one (pe_cmpR op_eq (kBm K PySem.F.plainAttrs_str PySem.F.slot_str_strip PySem.F.type_str_strip mt_strip (pv 0) (pa_cons pe_str pa_nil)) pe_str (nomark _)))))) pa_nil))))), ?_⟩
  have h1 : ∀ {σ : L2.St}, σ[0]? = some (some (V.ref a)) → Gt (tNot (tTest (tChain (rI0 fun i j => .bl (decide (i ≤ j))) (rI0 fun i j => .bl (decide (i ≤ j))) (tC (.int 1)) (tCB (fun xs H Q => ∃ x n, xs = [x] ∧ LenV K x H n ∧ Q (.int n) H) (tCons (tVar 0) tNil)) (tC (.int 4))))) σ H (!(decide ((1 : Int) ≤ p.length) && decide ((p.length : Int) ≤ 4))) := fun h0 =>
    gt_eq (gt_not (gt_test (gv_chain gv_c (fun H1 s1 => gv_lenL (K := K) (xs := p.map V.str) (ga_1 (gv_var h0)) (s1.seq hq)) fun H1 s1 => gv_c))) (by rw [List.length_map])
  by_cases c0 : (decide ((1 : Int) ≤ p.length) && decide ((p.length : Int) ≤ 4)) = true
  · cases p with
    | nil => simp at c0
    | cons r0 rs =>
      have hr0 : r0.length ≤ 40 := hs.2 r0 List.mem_cons_self
      refine rq_if (gt_or (h1 rfl) fun _ H1 s1 => gt_not (gt_test (gv_chain gv_c (fun H2 s2 => gv_lenS (K := K) (ga_1 (gv_ixL (gv_var (by rfl)) (fun _ _ => gv_c) ((s1.trans s2).seq hq) (atI_zero _ _))) (small (by omega))) fun _ _ => gv_c))) (fun c H1 s1 => ?_) fun c H1 s1 => ?_
      · have e : picOk (r0 :: rs) = false := by
          unfold picOk
          rw [c0, Bool.true_and]
          rw [c0] at c
          have z : (decide ((1 : Int) ≤ wide0 (r0 :: rs)) && decide ((wide0 (r0 :: rs) : Int) ≤ 12)) = false := by
            have z2 : (decide ((1 : Int) ≤ r0.length) && decide ((r0.length : Int) ≤ 12)) = false := Bool.eq_false_iff.mpr fun z => by rw [z] at c; exact absurd c (by decide)
            exact z2
          rw [z, Bool.false_and]
        have := k H1 s1
        rw [e] at this
        exact this
      · have c2 : (decide ((1 : Int) ≤ wide0 (r0 :: rs)) && decide ((wide0 (r0 :: rs) : Int) ≤ 12)) = true := by
          rw [c0] at c
          have z2 : (decide ((1 : Int) ≤ r0.length) && decide ((r0.length : Int) ≤ 12)) = true := by
            cases z : (decide ((1 : Int) ≤ r0.length) && decide ((r0.length : Int) ≤ 12)) with
            | true => rfl
            | false => rw [z] at c; exact absurd c (by decide)
          exact z2
        refine rs_ret' (tcb1 (tcompL (K := K) (gv_var (by rfl)) (s1.seq hq) fun H2 s2 hq2 => ?_))
        refine comp_list_map (onS fun r => .bl (rowOk r0.length r)) hq2 (small (by rw [List.length_map]; omega)) (fun i x H4 R hx s4 kk => ?_) fun D H4 hD s4 hDl => ?_
        · obtain ⟨r, rfl, hr', _⟩ := strs_at hx
          have hrl := hs.2 r hr'
          refine gv_to (gv_eq (gv_and (gv_eqI (gv_lenS (ga_1 (gv_var (by rfl))) (small (by omega))) (fun H5 s5 => gv_lenS (K := K) (ga_1 (gv_ixL (gv_var (by rfl)) (fun _ _ => gv_c) ((s4.trans s5).seq hq2) (atI_zero _ _))) (small (by omega))) (by rfl)) (fun _ H5 s5 => gv_eqI (gv_strip (gv_var (by rfl)) (small (by omega)) fun _ _ => ga_1 gv_c) (fun _ _ => gv_c) (by rfl))) (congrArg V.bl (row_ok r0.length r))) fun H5 s5 => ?_
          exact kk H5 s5
        · refine ⟨D, (r0 :: rs).map (rowOk r0.length), rfl, SqL.of (by rw [hDl, map_onS, List.map_map]; rfl), ?_⟩
          have e : (((r0 :: rs).map (rowOk r0.length)).all fun b => b) = picOk (r0 :: rs) := by
            unfold picOk
            rw [c0, c2, Bool.true_and, Bool.true_and, List.all_map]
            rfl
          rw [e]
          exact k _ (s1.trans (s2.trans s4))
  · have c0' : (decide ((1 : Int) ≤ p.length) && decide ((p.length : Int) ≤ 4)) = false := by simpa using c0
    refine rq_if (gt_or (q := true) (gt_eq (h1 rfl) (show _ = true by rw [c0']; rfl)) fun z => absurd z (by decide)) (fun c H1 s1 => ?_) fun c H1 s1 => absurd c (by decide)
    have e : picOk p = false := by
      unfold picOk
      rw [c0', Bool.false_and]
    have := k H1 s1
    rw [e] at this
    exact this
end
end K01

/-! @KIND text s@ @KIND rows l@ @KIND rows[] s@ @KIND picture l@ @KIND picture[] s@ @KIND row s@ @KIND LETTERS s@ @KIND one l@ @KIND other l@ @KIND left s@ @KIND right s@ @KIND joined l@
 @KIND _law_script l@ @KIND _law_letters s@ @KIND _law_row s@ @KIND _law_picture_here l@ @KIND _law_picture_here[] s@ @KIND _law_one l@ @KIND _law_other l@ @KIND _law_one[] s@ @KIND _law_other[] s@ @KIND _law_found l@ @KIND _law_kinds l@
 @KIND _law_some l@ @KIND _law_pictures l@ @KIND _law_handed l@ @KIND _law_pictures[] l@ @KIND _law_handed[] l@ @KIND _law_some[] s@ @KIND one[] s@ @KIND other[] s@ -/
namespace K01
open PySem PySem.Spec PyProof.Rows L2
section
variable {P : Program} {w : World} {K : PySem.W.Frag} {mg : Str → Option Value} {base : Heap} {t : Ad}
/-! ### a picture spoilt -/
def sp_spoilt (K : PySem.W.Frag) : Sp := fun vs H Q _ => ∃ (a : Addr) (p : List Str) (n : Int) (B : Nat), vs = [.ref a, .int n] ∧ H a = some (.lst (p.map V.str)) ∧ p ≠ [] ∧ 0 ≤ n ∧ p.length ≤ 10 ∧ B ≤ 15 ∧ (∀ r ∈ p, r.length ≤ B) ∧
  ∀ (r : Addr) (H' : Hp) (q : List Str), (r = a ∨ H r = none) → Same H H' → H' r = some (.lst (q.map V.str)) → q.length ≤ p.length → (∀ x ∈ q, x.length ≤ B + 1) → Q (.ref r) H'
theorem cut_take (p : List Str) (k : Nat) : cutV (p.map V.str) none (some (k : Int)) = (p.take k).map V.str := by
  unfold cutV
  rw [HT.sIx_none, HT.sIx_nat, List.drop_zero, List.length_map, List.map_take]
  by_cases h : k ≤ p.length
  · rw [Nat.min_eq_left h]; rfl
  · rw [Nat.min_eq_right (by omega), Nat.sub_zero, List.take_of_length_le (by simp), List.take_of_length_le (by simp; omega)]
theorem cut_drop (p : List Str) (k : Nat) : cutV (p.map V.str) (some (k : Int)) none = (p.drop k).map V.str := by
  unfold cutV
  rw [HT.sIx_none, HT.sIx_nat, List.length_map, List.map_drop]
  by_cases h : k ≤ p.length
  · rw [Nat.min_eq_left h, List.take_of_length_le (by simp)]
  · rw [Nat.min_eq_right (by omega), Nat.sub_self, List.take_zero, List.drop_eq_nil_of_le (by simp; omega)]
theorem sc__law_spoilt : FnScope ["_law_picture_here", "_law_number", "_law_at", "_law_row", "_law_some"] ["_law_picture_here", "_law_number"] (defScope s__law_spoilt) := ⟨rfl, rfl, rfl, by decide +kernel, rfl, by decide +kernel, by decide +kernel⟩
theorem ok__law_spoilt (T : Txt K mg t) : FnOk P w K mg base CX0 1 t.f__law_spoilt t.d__law_spoilt ["_law_picture_here", "_law_number"] (sp_spoilt K) := by
  refine T._law_spoilt.fn.ok sc__law_spoilt (fun vs H Q E h => ?_) (fun cdv A outer s H vs Q E hr h => ?_)
  · obtain ⟨a, p, n, B, rfl, _⟩ := h
    rfl
  obtain ⟨a, p, n, B, rfl, ha, hne, hn, hl, hB, hrow, kk⟩ := h
  have hpos : 0 < p.length := List.length_pos_iff.mpr hne
  have hm2 := Int.emod_nonneg (n / 8) (show (p.length : Int) ≠ 0 by omega)
  have hm1 := Int.emod_lt_of_pos (n / 8) (show (0 : Int) < p.length by omega)
  obtain ⟨k, hk⟩ : ∃ k : Nat, n / 8 % (p.length : Int) = (k : Int) := ⟨(n / 8 % (p.length : Int)).toNat, by omega⟩
  have hkl : k < p.length := by omega
  have hat : atI (p.map V.str) (k : Int) = some (.str p[k]) := atI_nat (by rw [List.getElem?_map, List.getElem?_eq_getElem hkl]; rfl)
  have hrl := hrow p[k] (List.getElem_mem hkl)
  refine ⟨_, (pss_cons (ps_set (i := 2) sc__law_spoilt.nd rfl (by first | exact Or.inl rfl | exact Or.inr rfl) (pe_op op_mod (pe_op op_fdiv (pv 1) pe_int) (pe_callB (kLen K) (by rfl) T.n_len boot_len (pa_cons (pv 0) pa_nil)))) (pss_cons (ps_set (i := 3) sc__law_spoilt.nd rfl (by first | exact Or.inl rfl | exact Or.inr rfl) (pe_ix (kIxL K) (pv 0) (pv 2) (fun _ _ => rfl))) (pss_cons (ps_set (i := 4) sc__law_spoilt.nd rfl (by first | exact Or.inl rfl | exact Or.inr rfl) (pe_lst (pa_cons (pe_op op_add_str (pv 3) pe_str) (pa_cons (pe_slice sl_str (pv 3) po_none (po_some (pe_un un_neg pe_int))) (pa_cons (pe_op op_add_str pe_str (pe_slice sl_str (pv 3) (po_some pe_int) po_none)) (pa_cons (pe_op op_add_str (pe_slice sl_str (pv 3) po_none (po_some (pe_un un_neg pe_int))) pe_str) (pa_cons pe_str pa_nil))))))) (pss_cons (ps_if (pt_cmpR op_lt (pe_op op_mod (pv 1) pe_int) pe_int (nomark _)) (pss_one (ps_ret (pe_op op_cat (pe_op op_cat (pe_slice (kSlL K) (pv 0) po_none (po_some (pv 2))) (pe_lst (pa_cons (pe_ix (kIxL K) (pv 4) (pe_op op_mod (pv 1) pe_int) (fun _ _ => rfl)) pa_nil))) (pe_slice (kSlL K) (pv 0) (po_some (pe_op op_add (pv 2) pe_int)) po_none)))) pss_nil) (pss_one (ps_ret (pe_ix (kIxL K) (pe_lst (pa_cons (pe_lst pa_nil) (pa_cons (pv 0) (pa_cons (pv 0) pa_nil)))) (pe_op op_sub (pe_op op_mod (pv 1) pe_int) pe_int) (fun _ _ => rfl)))))))), ?_⟩
  refine rq_set (gv_eq (gv_iic (gv_iic (gv_var (by rfl)) (fun _ _ => gv_c) ⟨by decide, by decide⟩) (fun H1 s1 => gv_lenL (K := K) (xs := p.map V.str) (ga_1 (gv_var (by rfl))) (SqL.of (s1 _ _ ha))) (by rw [List.length_map]; omega)) (y := .int (k : Int)) (by rw [List.length_map]; exact congrArg V.int hk)) fun H1 s1 => ?_
  refine rq_set (gv_ixL (gv_var (by rfl)) (fun _ _ => gv_var (by rfl)) (SqL.of (K := K) (s1 _ _ ha)) hat) fun H2 s2 => ?_
  have s02 := s1.trans s2
  have hz : p[k].length ≤ sizeLine := small (by omega)
  have neg1 : ∀ {σ : L2.St} {Hx : Hp}, Gv (tUn (rU fun i => .int (-i)) (tC (.int 1))) σ Hx (.int (-1)) := gv_neg gv_c
  have hs1 := sliceS_le p[k] none (some (-1)) none (by decide)
  have hs2 := sliceS_le p[k] (some 1) none none (by decide)
  refine rq_set' (gn_to (gn_lst (xs := [.str (p[k] ++ ("a" : Str)), .str (sliceS p[k] none (some (-1)) none), .str (("e" : Str) ++ sliceS p[k] (some 1) none none), .str (sliceS p[k] none (some (-1)) none ++ ("A" : Str)), .str ("" : Str)])
    (ga_cons (gv_addS (gv_var (by rfl)) (fun _ _ => gv_c) (small (by show _ + 1 ≤ _; omega))) fun _ _ => ga_cons (gv_slSHi (gv_var (by rfl)) hz fun _ _ => neg1) fun _ _ =>
      ga_cons (gv_addS gv_c (fun _ _ => gv_slSLo (gv_var (by rfl)) hz fun _ _ => gv_c) (small (by show 1 + _ ≤ _; omega))) fun _ _ =>
      ga_cons (gv_addS (gv_slSHi (gv_var (by rfl)) hz fun _ _ => neg1) (fun _ _ => gv_c) (small (by show _ + 1 ≤ _; omega))) fun _ _ => ga_1 gv_c) (by show 5 ≤ sizeLine; decide)) fun l H3 hl3 s3 hl3' => ?_)
  have s03 := s02.trans s3
  have n8 : 0 ≤ n % 8 := by omega
  refine rq_if (gt_test (gv_ii (gv_iic (gv_var (by rfl)) (fun _ _ => gv_c) (by decide)) fun _ _ => gv_c)) (fun c H4 s4 => ?_) fun c H4 s4 => ?_
  · have hlt : n % 8 < 5 := by simpa using c
    have hsome : ∃ z : Str, atI [V.str (p[k] ++ ("a" : Str)), .str (sliceS p[k] none (some (-1)) none), .str (("e" : Str) ++ sliceS p[k] (some 1) none none), .str (sliceS p[k] none (some (-1)) none ++ ("A" : Str)), .str ("" : Str)] (n % 8) = some (.str z) ∧ z.length ≤ B + 1 := by
      have e5 : n % 8 = 0 ∨ n % 8 = 1 ∨ n % 8 = 2 ∨ n % 8 = 3 ∨ n % 8 = 4 := by omega
      rcases e5 with e | e | e | e | e <;> rw [e]
      · exact ⟨_, rfl, by rw [str_app]; show _ + 1 ≤ _; omega⟩
      · exact ⟨_, rfl, by omega⟩
      · exact ⟨_, rfl, by rw [str_app]; show 1 + _ ≤ _; omega⟩
      · exact ⟨_, rfl, by rw [str_app]; show _ + 1 ≤ _; omega⟩
      · exact ⟨_, rfl, by show 0 ≤ _; omega⟩
    obtain ⟨z, hz1, hz2⟩ := hsome
    have s04 := s03.trans s4
    have hl4 := s4 _ _ hl3'
    refine rs_ret' (gn_to (gn_catN (gn_catN (gn_slHi (K := K) (gv_var (by rfl)) (SqL.of (s04 _ _ ha)) fun _ _ => gv_var (by rfl)) (fun H5 s5 => gn_lst (ga_1 (gv_ixL (K := K) (gv_var (by rfl)) (fun _ _ => gv_iic (gv_var (by rfl)) (fun _ _ => gv_c) (by decide)) (SqL.of (s5 _ _ hl4)) hz1)) (by show 1 ≤ sizeLine; decide)) ?_) (fun H5 s5 => gn_slLo (K := K) (gv_var (by rfl)) (SqL.of (s5 _ _ (s04 _ _ ha))) fun _ _ => gv_ii (gv_var (by rfl)) fun _ _ => gv_c) ?_) fun r H5 hr5 s5 hr5' => ?_)
    · have := cutV_length (p.map V.str) none (some (k : Int))
      rw [List.length_map] at this
      exact small (by simp only [List.length_singleton]; omega)
    · have := cutV_length (p.map V.str) none (some (k : Int))
      have := cutV_length (p.map V.str) (some ((k : Int) + 1)) none
      rw [List.length_map] at *
      exact small (by simp only [List.length_append, List.length_singleton]; omega)
    · refine kk r H5 (p.take k ++ [z] ++ p.drop (k + 1)) (.inr (s04.free hr5)) (s04.trans s5) ?_ ?_ fun x hx => ?_
      · rw [hr5', cut_take, show ((k : Int) + 1) = ((k + 1 : Nat) : Int) by omega, cut_drop, List.map_append, List.map_append]
        rfl
      · simp only [List.length_append, List.length_take, List.length_drop, List.length_singleton]
        omega
      · rcases List.mem_append.mp hx with y | y
        · rcases List.mem_append.mp y with y | y
          · have := hrow x (List.mem_of_mem_take y); omega
          · rw [List.mem_singleton.mp y]; exact hz2
        · have := hrow x (List.mem_of_mem_drop y); omega
  · have hge : ¬ n % 8 < 5 := by simpa using c
    have s04 := s03.trans s4
    refine rs_ret' ⟨(by show 0 ≤ sizeLine; decide), fun e he => ⟨_, rfl, _, rfl, ⟨(by show 3 ≤ sizeLine; decide), fun m hm => ?_⟩⟩⟩
    have s5 : Same H4 (upd H4 e (.lst [])) := Same.new he _
    have s6 := Same.new hm (.lst [V.ref e, .ref a, .ref a])
    refine gv_to (gv_ii (gv_iic (gv_var (by rfl)) (fun _ _ => gv_c) (by decide)) fun _ _ => gv_c) fun H7 s7 => ?_
    have s07 := s04.trans (s5.trans (s6.trans s7))
    have e3 : n % 8 - 5 = 0 ∨ n % 8 - 5 = 1 ∨ n % 8 - 5 = 2 := by omega
    have hm7 : H7 m = some (.lst [V.ref e, .ref a, .ref a]) := s7 _ _ upd_same
    rcases e3 with c | c | c
    · refine ⟨m, _, _, .ref e, rfl, rfl, SqL.of hm7, by rw [c]; rfl, ?_⟩
      exact kk e H7 [] (.inr (s04.free he)) s07 (s7 _ _ (s6 _ _ upd_same)) (by simp) fun x hx => absurd hx (by simp)
    · refine ⟨m, _, _, .ref a, rfl, rfl, SqL.of hm7, by rw [c]; rfl, ?_⟩
      exact kk a H7 p (.inl rfl) s07 (s07 _ _ ha) (Nat.le_refl _) fun x hx => by have := hrow x hx; omega
    · refine ⟨m, _, _, .ref a, rfl, rfl, SqL.of hm7, by rw [c]; rfl, ?_⟩
      exact kk a H7 p (.inl rfl) s07 (s07 _ _ ha) (Nat.le_refl _) fun x hx => by have := hrow x hx; omega
end
end K01

/-! @KIND text s@ @KIND rows l@ @KIND rows[] s@ @KIND picture l@ @KIND picture[] s@ @KIND row s@ @KIND LETTERS s@ @KIND one l@ @KIND other l@ @KIND left s@ @KIND right s@ @KIND joined l@
 @KIND _law_script l@ @KIND _law_letters s@ @KIND _law_row s@ @KIND _law_picture_here l@ @KIND _law_picture_here[] s@ @KIND _law_one l@ @KIND _law_other l@ @KIND _law_one[] s@ @KIND _law_other[] s@ @KIND _law_found l@ @KIND _law_kinds l@
 @KIND _law_some l@ @KIND _law_pictures l@ @KIND _law_handed l@ @KIND _law_pictures[] l@ @KIND _law_handed[] l@ @KIND _law_some[] s@ @KIND one[] s@ @KIND other[] s@ -/
namespace K01
open PySem PySem.Spec PyProof.Rows L2
section
variable {P : Program} {w : World} {K : PySem.W.Frag} {mg : Str → Option Value} {base : Heap} {t : Ad}
/-! ### what a call tells -/
section
variable {tt : TT} {ts us : TS} {D : Ends} {σ : L2.St} {H : Hp} {ta tb : TE} {R : VK}
theorem rs_ifT (h : Gt tt σ H true) (k : ∀ H', Same H H' → ts D σ H') : tIfS tt ts us D σ H := rs_if2 h (fun _ => k) fun z => absurd z (by decide)
theorem rs_ifF (h : Gt tt σ H false) (k : ∀ H', Same H H' → us D σ H') : tIfS tt ts us D σ H := rs_if2 h (fun z => absurd z (by decide)) fun _ => k
theorem rq_ifT (h : Gt tt σ H true) (k : ∀ H', Same H H' → ts { D with nx := us D } σ H') : tSeq (tIfS tt ts tNext) us D σ H := rq_if h (fun _ => k) fun z => absurd z (by decide)
theorem rq_ifF (h : Gt tt σ H false) (k : ∀ H', Same H H' → us D σ H') : tSeq (tIfS tt ts tNext) us D σ H := rq_if h (fun z => absurd z (by decide)) fun _ => k
theorem t_ifT (h : Gt tt σ H true) (k : ∀ H', Same H H' → ta σ H' R) : tIf tt ta tb σ H R := h _ fun H' s => by rw [if_pos rfl]; exact k H' s
theorem t_ifF (h : Gt tt σ H false) (k : ∀ H', Same H H' → tb σ H' R) : tIf tt ta tb σ H R := h _ fun H' s => by rw [if_neg Bool.false_ne_true]; exact k H' s
theorem rq_try {QC : Value} {n i : Nat} {tb : XK → TS} {th : TS} {Px : XK} {Rx : L2.St → Hp → Prop} (h1 : ∀ cls d H', Px cls d H' → xTry K QC n i th { D with nx := us D } cls d H') (h2 : ∀ σ H', Rx σ H' → us D σ H')
    (h : ∀ (E : XK) (nx : L2.St → Hp → Prop), (∀ cls d H', Px cls d H' → E cls d H') → (∀ σ H', Rx σ H' → nx σ H') → tb E { D with nx := nx } σ H) : tSeq (tTry K QC n i tb th) us D σ H := h _ _ h1 h2
end
def WishT (H : Hp) (Q : VK) : Out → Prop
  | .made p => ∀ (r : Addr) (H' : Hp), H r = none → Same H H' → H' r = some (.lst (p.map V.str)) → Q (.ref r) H'
  | .bad => ∀ H', Same H H' → Q (.str "picture") H'
  | .unl => ∀ H', Same H H' → Q (.str "unlike") H'
def toldO (n : Nat) (p q : List Str) : Out := match n with
  | 0 => if picOk p = true then .made (cols p) else .bad
  | 1 => if picOk p = true then .made (p.map revS) else .bad
  | 2 => if picOk p = true then .made p.reverse else .bad
  | 3 => besideO p q
  | _ => overO p q
def sp_told : Sp := fun vs H Q _ => ∃ (n : Nat) (a b : Addr) (p q : List Str), vs = [.int n, .ref a, .ref b] ∧ n ≤ 4 ∧ H a = some (.lst (p.map V.str)) ∧ H b = some (.lst (q.map V.str)) ∧ Sm' p ∧ Sm' q ∧ WishT H Q (toldO n p q)
theorem wish_to {cB cU : Addr} {H H1 : Hp} {Q : VK} {E : XK} {o : Out} (s : Same H H1)
    (hq : ∀ (r : Addr) (p : List Str) (H' : Hp), o = .made p → H r = none → Same H H' → H' r = some (.lst (p.map V.str)) → Q (.ref r) H')
    (hE : ∀ (C : Addr) (H' : Hp), Same H H' → ((o = .bad ∧ C = cB) ∨ (o = .unl ∧ C = cU)) → E (.ref C) none H') : Wish cB cU H1 Q E o := by
  cases o with
  | made p => exact fun r H' hr s' hl => hq r p H' rfl (s.free hr) (s.trans s') hl
  | bad => exact fun H' s' => hE cB H' (s.trans s') (.inl ⟨rfl, rfl⟩)
  | unl => exact fun H' s' => hE cU H' (s.trans s') (.inr ⟨rfl, rfl⟩)
theorem sc__law_told : FnScope ["_law_way", "_law_one", "_law_other", "_law_kept", "_law_found", "e"] ["_law_way", "_law_one", "_law_other"] (defScope s__law_told) := ⟨rfl, rfl, rfl, by decide +kernel, rfl, by decide +kernel, by decide +kernel⟩
theorem ok__law_told (T : Txt K mg t) : FnOk P w K mg base CX0 5 t.f__law_told t.d__law_told ["_law_way", "_law_one", "_law_other"] sp_told := by
  have G_columns_of : FnOk P w K mg base (CX1 P w) 4 t.f_columns_of t.d_columns_of ["picture"] (sp1 K t.c_BadPicture t.c_Unlike cols) := ok_columns_of T
  have G_mirrored : FnOk P w K mg base (CX1 P w) 4 t.f_mirrored t.d_mirrored ["picture"] (sp1 K t.c_BadPicture t.c_Unlike fun p => p.map revS) := ok_mirrored T
  have G_flipped : FnOk P w K mg base (CX1 P w) 4 t.f_flipped t.d_flipped ["picture"] (sp1 K t.c_BadPicture t.c_Unlike List.reverse) := ok_flipped T
  have G_beside : FnOk P w K mg base (CX1 P w) 4 t.f_beside t.d_beside ["one", "other"] (sp2 t.c_BadPicture t.c_Unlike besideO) := ok_beside T
  have G_over : FnOk P w K mg base (CX1 P w) 4 t.f_over t.d_over ["one", "other"] (sp2 t.c_BadPicture t.c_Unlike overO) := ok_over T
  have G__law_refusal : FnOk P w K mg base CX0 1 t.f__law_refusal t.d__law_refusal ["_law_kept"] (sp_refusal K t) := ok__law_refusal T
  refine T._law_told.fn.ok sc__law_told (fun vs H Q E h => ?_) (fun cdv A outer s H vs Q E hr h => ?_)
  · obtain ⟨n, a, b, p, q, rfl, _⟩ := h
    rfl
  obtain ⟨n, a, b, p, q, rfl, hn, ha, hb, hp, hq, k⟩ := h
  generalize ho : toldO n p q = o at k
  refine ⟨_, (pss_cons (ps_set (i := 3) sc__law_told.nd rfl (by first | exact Or.inl rfl | exact Or.inr rfl) pe_non) (pss_cons (ps_set (i := 4) sc__law_told.nd rfl (by first | exact Or.inl rfl | exact Or.inr rfl) pe_non) (pss_cons (ps_try (i := 5) rfl rfl rfl T.m_QuiltError sc__law_told.nd rfl rfl (fun ps xe E hP => (pss_one (ps_if (pt_cmpR op_eq (pv 0) pe_int (nomark _)) (pss_one (ps_set (i := 4) sc__law_told.nd rfl (by first | exact Or.inl rfl | exact Or.inr rfl) (pe_callD T.columns_of G_columns_of (hr.mono (by decide)) hP (pa_cons (pv 1) pa_nil)))) (pss_one (ps_if (pt_cmpR op_eq (pv 0) pe_int (nomark _)) (pss_one (ps_set (i := 4) sc__law_told.nd rfl (by first | exact Or.inl rfl | exact Or.inr rfl) (pe_callD T.mirrored G_mirrored (hr.mono (by decide)) hP (pa_cons (pv 1) pa_nil)))) (pss_one (ps_if (pt_cmpR op_eq (pv 0) pe_int (nomark _)) (pss_one (ps_set (i := 4) sc__law_told.nd rfl (by first | exact Or.inl rfl | exact Or.inr rfl) (pe_callD T.flipped G_flipped (hr.mono (by decide)) hP (pa_cons (pv 1) pa_nil)))) (pss_one (ps_set (i := 4) sc__law_told.nd rfl (by first | exact Or.inl rfl | exact Or.inr rfl) (pe_ifExp (pt_cmpR op_eq (pv 0) pe_int (nomark _)) (pe_callD T.beside G_beside (hr.mono (by decide)) hP (pa_cons (pv 1) (pa_cons (pv 2) pa_nil))) (pe_callD T.over G_over (hr.mono (by decide)) hP (pa_cons (pv 1) (pa_cons (pv 2) pa_nil))))))))))))) (fun _ => (pss_one (ps_set (i := 3) sc__law_told.nd rfl (by first | exact Or.inl rfl | exact Or.inr rfl) (pv 5))))) (pss_one (ps_ret (pe_ifExp (pt_cmp (pc_isN (pv 3))) (pv 4) (pe_callD T._law_refusal G__law_refusal (hr.mono (by decide)) pass0 (pa_cons (pv 3) pa_nil)))))))), ?_⟩
  refine rq_set gv_c fun H1 s1 => ?_
  refine rq_set gv_c fun H2 s2 => ?_
  have s02 := s1.trans s2
  refine rq_try (Px := fun cls _ H' => Same H H' ∧ ((o = .bad ∧ cls = .ref t.c_BadPicture) ∨ (o = .unl ∧ cls = .ref t.c_Unlike)))
    (Rx := fun σ H' => ∃ r p', σ = [some (.int n), some (.ref a), some (.ref b), some .non, some (.ref r), none] ∧ o = .made p' ∧ H r = none ∧ Same H H' ∧ H' r = some (.lst (p'.map V.str))) ?_ ?_ ?_
  · rintro cls d H' ⟨s', hc⟩
    obtain ⟨C, wd, rfl, hcw, hx, kq⟩ : ∃ (C : Addr) (wd : Str), cls = .ref C ∧ ((C = t.c_BadPicture ∧ wd = "picture") ∨ (C = t.c_Unlike ∧ wd = "unlike")) ∧ PySem.W.exmOne K (.ref C) (.ref t.c_QuiltError) = some true ∧ ∀ H', Same H H' → Q (.str wd) H' := by
      rcases hc with ⟨rfl, rfl⟩ | ⟨rfl, rfl⟩
      · exact ⟨_, _, rfl, .inl ⟨rfl, rfl⟩, T.h_BadPicture_QuiltError, k⟩
      · exact ⟨_, _, rfl, .inr ⟨rfl, rfl⟩, T.h_Unlike_QuiltError, k⟩
    refine ⟨hx, fun e he => ?_⟩
    refine rs_set (gv_var (by rfl)) fun H4 s4 => ?_
    have he4 : H4 e = some (excO e (.ref C)) := s4 _ _ upd_same
    refine rs_ret (v := .str wd) (gv_if (p := false) (gt_eq (gt_tB (gv_isN (gv_var (by rfl)))) (by simp)) (fun z => absurd z (by decide)) fun _ H5 s5 => gv_call (ga_1 (gv_var (by rfl))) fun H6 R' s6 k6 => ⟨e, C, wd, rfl, (s5.trans s6) _ _ he4, hcw, k6⟩) fun H5 s5 => ?_
    exact kq H5 ((s'.trans (Same.new he _)).trans (s4.trans s5))
  · rintro σ H' ⟨r, p', rfl, rfl, hr', s', hl⟩
    refine rs_ret (v := .ref r) (gv_if (p := true) (gt_eq (gt_tB (gv_isN (gv_var (by rfl)))) (by simp)) (fun _ H5 s5 => gv_var (by rfl)) fun z => absurd z (by decide)) fun H5 s5 => ?_
    exact k r H5 hr' (s'.trans s5) (s5 _ _ hl)
  · intro E nx hE hnx
    have W : ∀ {H3 : Hp} {Q' : VK}, Same H H3 → (∀ r p' H', o = .made p' → H r = none → Same H H' → H' r = some (.lst (p'.map V.str)) → Q' (.ref r) H') → Wish t.c_BadPicture t.c_Unlike H3 Q' E o := fun s hq' => wish_to s hq' fun C H' s' hc => hE _ _ _ ⟨s', by
      rcases hc with ⟨h1, rfl⟩ | ⟨h1, rfl⟩
      · exact .inl ⟨h1, rfl⟩
      · exact .inr ⟨h1, rfl⟩⟩
    have hlt : n = 0 ∨ n = 1 ∨ n = 2 ∨ n = 3 ∨ n = 4 := by omega
    rcases hlt with rfl | rfl | rfl | rfl | rfl
    · refine rs_ifT (gt_eq (gt_test (gv_eqI (gv_var (by rfl)) (fun _ _ => gv_c) (by rfl))) (by simp)) fun H3 s3 => ?_
      refine rs_set' (tcall (ga_1 (gv_var (by rfl))) fun H4 s4 => ⟨a, p, rfl, SqL.of ((s02.trans (s3.trans s4)) _ _ ha), hp.sm, ?_⟩)
      have e : (if picOk p = true then Out.made (cols p) else .bad) = o := ho
      rw [e]
      exact W (s02.trans (s3.trans s4)) fun r p' H' e1 e2 e3 e4 => hnx _ _ ⟨r, p', rfl, e1, e2, e3, e4⟩
    · refine rs_ifF (gt_eq (gt_test (gv_eqI (gv_var (by rfl)) (fun _ _ => gv_c) (by rfl))) (by simp)) fun H3 s3 => ?_
      refine rs_ifT (gt_eq (gt_test (gv_eqI (gv_var (by rfl)) (fun _ _ => gv_c) (by rfl))) (by simp)) fun H4 s4 => ?_
      refine rs_set' (tcall (ga_1 (gv_var (by rfl))) fun H5 s5 => ⟨a, p, rfl, SqL.of ((s02.trans (s3.trans (s4.trans s5))) _ _ ha), hp.sm, ?_⟩)
      have e : (if picOk p = true then Out.made (p.map revS) else .bad) = o := ho
      show Wish _ _ _ _ _ (if picOk p = true then Out.made (p.map revS) else .bad)
      rw [e]
      exact W (s02.trans (s3.trans (s4.trans s5))) fun r p' H' e1 e2 e3 e4 => hnx _ _ ⟨r, p', rfl, e1, e2, e3, e4⟩
    · refine rs_ifF (gt_eq (gt_test (gv_eqI (gv_var (by rfl)) (fun _ _ => gv_c) (by rfl))) (by simp)) fun H3 s3 => ?_
      refine rs_ifF (gt_eq (gt_test (gv_eqI (gv_var (by rfl)) (fun _ _ => gv_c) (by rfl))) (by simp)) fun H4 s4 => ?_
      refine rs_ifT (gt_eq (gt_test (gv_eqI (gv_var (by rfl)) (fun _ _ => gv_c) (by rfl))) (by simp)) fun H5 s5 => ?_
      refine rs_set' (tcall (ga_1 (gv_var (by rfl))) fun H6 s6 => ⟨a, p, rfl, SqL.of ((s02.trans (s3.trans (s4.trans (s5.trans s6)))) _ _ ha), hp.sm, ?_⟩)
      have e : (if picOk p = true then Out.made p.reverse else .bad) = o := ho
      rw [e]
      exact W (s02.trans (s3.trans (s4.trans (s5.trans s6)))) fun r p' H' e1 e2 e3 e4 => hnx _ _ ⟨r, p', rfl, e1, e2, e3, e4⟩
    · refine rs_ifF (gt_eq (gt_test (gv_eqI (gv_var (by rfl)) (fun _ _ => gv_c) (by rfl))) (by simp)) fun H3 s3 => ?_
      refine rs_ifF (gt_eq (gt_test (gv_eqI (gv_var (by rfl)) (fun _ _ => gv_c) (by rfl))) (by simp)) fun H4 s4 => ?_
      refine rs_ifF (gt_eq (gt_test (gv_eqI (gv_var (by rfl)) (fun _ _ => gv_c) (by rfl))) (by simp)) fun H5 s5 => ?_
      refine rs_set' (t_ifT (gt_eq (gt_test (gv_eqI (gv_var (by rfl)) (fun _ _ => gv_c) (by rfl))) (by simp)) fun H6 s6 => tcall (ga_cons (gv_var (by rfl)) fun _ _ => ga_1 (gv_var (by rfl))) fun H7 s7 => ?_)
      have s07 := s02.trans (s3.trans (s4.trans (s5.trans (s6.trans s7))))
      refine ⟨a, b, p, q, rfl, s07 _ _ ha, s07 _ _ hb, hp, hq, ?_⟩
      have e : besideO p q = o := ho
      rw [e]
      exact W s07 fun r p' H' e1 e2 e3 e4 => hnx _ _ ⟨r, p', rfl, e1, e2, e3, e4⟩
    · refine rs_ifF (gt_eq (gt_test (gv_eqI (gv_var (by rfl)) (fun _ _ => gv_c) (by rfl))) (by simp)) fun H3 s3 => ?_
      refine rs_ifF (gt_eq (gt_test (gv_eqI (gv_var (by rfl)) (fun _ _ => gv_c) (by rfl))) (by simp)) fun H4 s4 => ?_
      refine rs_ifF (gt_eq (gt_test (gv_eqI (gv_var (by rfl)) (fun _ _ => gv_c) (by rfl))) (by simp)) fun H5 s5 => ?_
      refine rs_set' (t_ifF (gt_eq (gt_test (gv_eqI (gv_var (by rfl)) (fun _ _ => gv_c) (by rfl))) (by simp)) fun H6 s6 => tcall (ga_cons (gv_var (by rfl)) fun _ _ => ga_1 (gv_var (by rfl))) fun H7 s7 => ?_)
      have s07 := s02.trans (s3.trans (s4.trans (s5.trans (s6.trans s7))))
      refine ⟨a, b, p, q, rfl, s07 _ _ ha, s07 _ _ hb, hp, hq, ?_⟩
      have e : overO p q = o := ho
      rw [e]
      exact W s07 fun r p' H' e1 e2 e3 e4 => hnx _ _ ⟨r, p', rfl, e1, e2, e3, e4⟩
end
end K01

set_option maxHeartbeats 4000000
/-! @KIND text s@ @KIND rows l@ @KIND rows[] s@ @KIND picture l@ @KIND picture[] s@ @KIND row s@ @KIND LETTERS s@ @KIND one l@ @KIND other l@ @KIND left s@ @KIND right s@ @KIND joined l@
 @KIND _law_script l@ @KIND _law_letters s@ @KIND _law_row s@ @KIND _law_picture_here l@ @KIND _law_picture_here[] s@ @KIND _law_one l@ @KIND _law_other l@ @KIND _law_one[] s@ @KIND _law_other[] s@ @KIND _law_found l@ @KIND _law_kinds l@
 @KIND _law_some l@ @KIND _law_pictures l@ @KIND _law_handed l@ @KIND _law_pictures[] l@ @KIND _law_handed[] l@ @KIND _law_some[] s@ @KIND one[] s@ @KIND other[] s@ -/
namespace K01
open PySem PySem.Spec PyProof.Rows L2
section
variable {P : Program} {w : World} {K : PySem.W.Frag} {mg : Str → Option Value} {base : Heap} {t : Ad}
/-! ### what is due -/
theorem due_bad {n : Nat} {p q : List Str} (c : (!picOk p || (decide ((2 : Int) < n) && !picOk q)) = true) : toldO n p q = .bad := by
  cases hp : picOk p with
  | false =>
    unfold toldO besideO overO
    rw [hp]
    match n with
    | 0 => rfl
    | 1 => rfl
    | 2 => rfl
    | 3 => rfl
    | _ + 4 => rfl
  | true =>
    rw [hp] at c
    have c' : (2 : Int) < n ∧ picOk q = false := by simpa using c
    unfold toldO besideO overO
    rw [hp, c'.2]
    match n, c'.1 with
    | 0, z => omega
    | 1, z => omega
    | 2, z => omega
    | 3, _ => rfl
    | _ + 4, _ => rfl
theorem due_ok {n : Nat} {p q : List Str} (c : (!picOk p || (decide ((2 : Int) < n) && !picOk q)) = false) : picOk p = true ∧ (2 < n → picOk q = true) := by
  cases hp : picOk p with
  | false => rw [hp] at c; simp at c
  | true =>
    refine ⟨rfl, fun hn => ?_⟩
    rw [hp] at c
    have c' : ((2 : Int) < n) → picOk q = true := by simpa using c
    exact c' (by omega)
theorem range_zip (p q : List Str) (h : p.length = q.length) : (List.range p.length).map (fun i => V.str (p.getD i ⟨#[]⟩ ++ q.getD i ⟨#[]⟩)) = (List.zipWith (· ++ ·) p q).map V.str := by
  refine List.ext_getElem (by simp [h]) fun i h1 h2 => ?_
  have hi : i < p.length := by simpa using h1
  have hi2 : i < q.length := by omega
  simp [List.getD_eq_getElem?_getD, hi, hi2]
theorem atI_strs {p : List Str} {i : Nat} (h : i < p.length) : atI (p.map V.str) (i : Int) = some (.str (p.getD i ⟨#[]⟩)) := atI_nat (by simp [List.getD_eq_getElem?_getD, h])
theorem sc__law_due : FnScope ["_law_way", "_law_one", "_law_other", "_law_found"] ["_law_way", "_law_one", "_law_other"] (defScope s__law_due) := ⟨rfl, rfl, rfl, by decide +kernel, rfl, by decide +kernel, by decide +kernel⟩
theorem ok__law_due (T : Txt K mg t) : FnOk P w K mg base CX0 5 t.f__law_due t.d__law_due ["_law_way", "_law_one", "_law_other"] sp_told := by
  have G__law_good : FnOk P w K mg base CX0 1 t.f__law_good t.d__law_good ["_law_picture_here"] (sp_is_picture K) := ok__law_good T
  refine T._law_due.fn.ok sc__law_due (fun vs H Q E h => ?_) (fun cdv A outer s H vs Q E hr h => ?_)
  · obtain ⟨n, a, b, p, q, rfl, _⟩ := h
    rfl
  obtain ⟨n, a, b, p, q, rfl, hn, ha, hb, hp, hq, k⟩ := h
  have hp1 := hp.1
  have hq1 := hq.1
  have good : ∀ {σ : L2.St} {Hx : Hp} {tt : TA} {c : Addr} {j : List Str}, Ga tt σ Hx [.ref c] → Hx c = some (.lst (j.map V.str)) → Sm j → Gv (tCall (sp_is_picture K) [] E0 tt) σ Hx (.bl (picOk j)) :=
    fun hg hc hj => gv_call hg fun H' R s kk => ⟨_, _, rfl, SqL.of (s _ _ hc), hj, kk⟩
  refine ⟨_, (pss_cons (ps_if (PW.pt (pw_or (pt_not (pt_val (pe_callD T._law_good G__law_good (hr.mono (by decide)) pass0 (pa_cons (pv 1) pa_nil)))) (pw_or1 (PW.pt (pw_and (pt_cmpR op_gt (pv 0) pe_int (nomark _)) (pw_and1 (pt_not (pt_val (pe_callD T._law_good G__law_good (hr.mono (by decide)) pass0 (pa_cons (pv 2) pa_nil)))))))))) (pss_one (ps_ret pe_str)) pss_nil) (pss_cons (ps_if (pt_cmpR op_eq (pv 0) pe_int (nomark _)) (pss_one (ps_ret (pe_comp (N' := ["_law_x", "_law_one"]) (ix := [none, some 1]) (compScope_of (by kernel_rfl)) rfl (pi_range1 rfl T.n_range (pa_cons (pe_callB (kLen K) (by rfl) T.n_len boot_len (pa_cons (pe_ix (kIxL K) (pv 1) pe_int (fun _ _ => rfl)) pa_nil)) pa_nil)) (fun _ _ _ _ => (pg_name (i := 0) (show List.Nodup (["_law_x", "_law_one"] : List Str) from by decide +kernel) rfl (by first | exact Or.inl rfl | exact Or.inr rfl))) (fun _ _ _ _ => pf_nil) (fun _ _ _ _ => (kBm K PySem.F.plainAttrs_str PySem.F.slot_str_join PySem.F.type_str_join (kJoin K) pe_str (pa_cons (pe_comp (N' := ["_law_row", "_law_x"]) (ix := [none, some 0]) (compScope_of (by kernel_rfl)) rfl (kiList K (pv 1)) (fun _ _ _ _ => (pg_name (i := 0) (show List.Nodup (["_law_row", "_law_x"] : List Str) from by decide +kernel) rfl (by first | exact Or.inl rfl | exact Or.inr rfl))) (fun _ _ _ _ => pf_nil) (fun _ _ _ _ => (pe_ix ix_str (pv 0) (pv 1) (fun _ _ => rfl)))) pa_nil)))))) pss_nil) (pss_cons (ps_if (pt_cmpR op_lt (pv 0) pe_int (nomark _)) (pss_one (ps_ret (pe_ifExp (pt_cmpR op_eq (pv 0) pe_int (nomark _)) (pe_comp (N' := ["_law_row"]) (ix := [none]) (compScope_of (by kernel_rfl)) rfl (kiList K (pv 1)) (fun _ _ _ _ => (pg_name (i := 0) (show List.Nodup (["_law_row"] : List Str) from by decide +kernel) rfl (by first | exact Or.inl rfl | exact Or.inr rfl))) (fun _ _ _ _ => pf_nil) (fun _ _ _ _ => (kRev K (pv 0)))) (kRev K (pv 1))))) pss_nil) (pss_cons (ps_if (PW.pt (pw_or (PW.pt (pw_and (pt_cmpR op_eq (pv 0) pe_int (nomark _)) (pw_and1 (pt_cmpR op_ne (pe_callB (kLen K) (by rfl) T.n_len boot_len (pa_cons (pv 1) pa_nil)) (pe_callB (kLen K) (by rfl) T.n_len boot_len (pa_cons (pv 2) pa_nil)) (nomark _))))) (pw_or1 (PW.pt (pw_and (pt_cmpR op_eq (pv 0) pe_int (nomark _)) (pw_and1 (pt_cmpR op_ne (pe_callB (kLen K) (by rfl) T.n_len boot_len (pa_cons (pe_ix (kIxL K) (pv 1) pe_int (fun _ _ => rfl)) pa_nil)) (pe_callB (kLen K) (by rfl) T.n_len boot_len (pa_cons (pe_ix (kIxL K) (pv 2) pe_int (fun _ _ => rfl)) pa_nil)) (nomark _)))))))) (pss_one (ps_ret pe_str)) pss_nil) (pss_cons (ps_set (i := 3) sc__law_due.nd rfl (by first | exact Or.inl rfl | exact Or.inr rfl) (pe_ifExp (pt_cmpR op_eq (pv 0) pe_int (nomark _)) (pe_comp (N' := ["_law_k", "_law_one", "_law_other"]) (ix := [none, some 1, some 2]) (compScope_of (by kernel_rfl)) rfl (pi_range1 rfl T.n_range (pa_cons (pe_callB (kLen K) (by rfl) T.n_len boot_len (pa_cons (pv 1) pa_nil)) pa_nil)) (fun _ _ _ _ => (pg_name (i := 0) (show List.Nodup (["_law_k", "_law_one", "_law_other"] : List Str) from by decide +kernel) rfl (by first | exact Or.inl rfl | exact Or.inr rfl))) (fun _ _ _ _ => pf_nil) (fun _ _ _ _ => (pe_op op_add_str (pe_ix (kIxL K) (pv 1) (pv 0) (fun _ _ => rfl)) (pe_ix (kIxL K) (pv 2) (pv 0) (fun _ _ => rfl))))) (pe_op op_cat (pv 1) (pv 2)))) (pss_one (ps_ret (pe_ifExp (pt_val (pe_callD T._law_good G__law_good (hr.mono (by decide)) pass0 (pa_cons (pv 3) pa_nil))) (pv 3) pe_str)))))))), ?_⟩
  refine rq_if (gt_or (gt_not (gt_tB (good (ga_1 (gv_var (by rfl))) ha hp.sm))) fun _ H1 s1 => gt_and (gt_test (gv_ii (gv_var (by rfl)) fun _ _ => gv_c)) fun _ H2 s2 => gt_not (gt_tB (good (ga_1 (gv_var (by rfl))) ((s1.trans s2) _ _ hb) hq.sm))) (fun c H1 s1 => ?_) fun c H1 s1 => ?_
  · rw [due_bad c] at k
    exact k H1 s1
  obtain ⟨okp, okq⟩ := due_ok c
  obtain ⟨np, hrow⟩ := pic_rows okp
  have hlt : n = 0 ∨ n = 1 ∨ n = 2 ∨ n = 3 ∨ n = 4 := by omega
  rcases hlt with rfl | rfl | rfl | rfl | rfl
  · have k' : WishT H Q (.made (cols p)) := by
      have z : toldO 0 p q = .made (cols p) := by show (if picOk p = true then _ else _) = _; rw [if_pos okp]
      rw [z] at k; exact k
    refine rq_ifT (gt_eq (gt_test (gv_eqI (gv_var (by rfl)) (fun _ _ => gv_c) (by rfl))) (by simp)) fun H2 s2 => ?_
    have s02 := s1.trans s2
    cases p with
    | nil => exact absurd rfl np
    | cons r0 rs =>
      have hr0 : r0.length ≤ 20 := hp.2 r0 List.mem_cons_self
      refine rs_ret' (tcompR (ga_1 (gv_lenS (ga_1 (gv_ixL (K := K) (gv_var (by rfl)) (fun _ _ => gv_c) (SqL.of (s02 _ _ ha)) (atI_zero _ _))) (small (by omega)))) (by omega) (by omega) fun H3 s3 => ?_)
      have s03 := s02.trans s3
      refine comp_range_map (fun i => .str (colAt (r0 :: rs) i)) (small (by omega)) (fun i H4 R hi s4 k4 => ?_) fun D H4 hD s4 hDl => ?_
      · have hi' : i < r0.length := by simpa using hi
        have ha4 : SqL K H4 a ((r0 :: rs).map V.str) := SqL.of ((s03.trans s4) _ _ ha)
        refine ⟨rfl, _, rfl, a, rfl, ⟨_, ha4⟩, ?_⟩
        refine comp_list_map (onS fun r => .str (one1 (r.cps.getD i 0))) ha4 (small (by rw [List.length_map]; omega)) (fun j x H5 R5 hx s5 k5 => ?_) fun D H5 hD s5 hDl => ?_
        · obtain ⟨r, rfl, hr', _⟩ := strs_at hx
          have hrl := hp.2 r hr'
          have hil : i < r.length := by rw [hrow r hr']; exact hi'
          refine gv_to (gv_ixS (gv_var (by rfl)) (fun _ _ => gv_var (by rfl)) (small (by omega)) (c := r.cps.getD i 0) ?_) fun H6 s6 => k5 H6 s6
          rw [Int.zero_add]
          exact atI_code hil
        · refine ⟨"", D, (r0 :: rs).map (fun r : Str => one1 (r.cps.getD i 0)), rfl, rfl, SqL.of (by rw [hDl, map_onS, List.map_map]; rfl), ?_, k4 _ s5⟩
          rw [sum_ones, List.length_map]
          show (r0 :: rs).length + (r0 :: rs).length * 0 ≤ 16777216
          omega
      · refine k' D H4 (s03.free hD) (s03.trans s4) ?_
        rw [hDl]
        unfold cols
        rw [List.map_map]
        rfl
  · have k' : WishT H Q (.made (p.map revS)) := by
      have z : toldO 1 p q = .made (p.map revS) := by show (if picOk p = true then _ else _) = _; rw [if_pos okp]
      rw [z] at k; exact k
    refine rq_ifF (gt_eq (gt_test (gv_eqI (gv_var (by rfl)) (fun _ _ => gv_c) (by rfl))) (by simp)) fun H2 s2 => ?_
    refine rq_ifT (gt_eq (gt_test (gv_ii (gv_var (by rfl)) fun _ _ => gv_c)) (by simp)) fun H3 s3 => ?_
    refine rs_ret' (t_ifT (gt_eq (gt_test (gv_eqI (gv_var (by rfl)) (fun _ _ => gv_c) (by rfl))) (by simp)) fun H4 s4 => ?_)
    have s04 := s1.trans (s2.trans (s3.trans s4))
    have ha4 : SqL K H4 a (p.map V.str) := SqL.of (s04 _ _ ha)
    refine ⟨_, rfl, a, rfl, ⟨_, ha4⟩, ?_⟩
    refine comp_list_map (onS fun r => .str (revS r)) ha4 (small (by rw [List.length_map]; omega)) (fun i x H5 R hx s5 k5 => ?_) fun D H5 hD s5 hDl => ?_
    · obtain ⟨r, rfl, hr', _⟩ := strs_at hx
      have hrl := hp.2 r hr'
      refine ⟨_, rfl, .inl ⟨r, rfl, small (by omega), ?_⟩⟩
      rw [sliceS_rev]
      exact k5 _ (Same.refl _)
    · refine k' D H5 (s04.free hD) (s04.trans s5) ?_
      rw [hDl, map_onS, List.map_map]
      rfl
  · have k' : WishT H Q (.made p.reverse) := by
      have z : toldO 2 p q = .made p.reverse := by show (if picOk p = true then _ else _) = _; rw [if_pos okp]
      rw [z] at k; exact k
    refine rq_ifF (gt_eq (gt_test (gv_eqI (gv_var (by rfl)) (fun _ _ => gv_c) (by rfl))) (by simp)) fun H2 s2 => ?_
    refine rq_ifT (gt_eq (gt_test (gv_ii (gv_var (by rfl)) fun _ _ => gv_c)) (by simp)) fun H3 s3 => ?_
    refine rs_ret' (t_ifF (gt_eq (gt_test (gv_eqI (gv_var (by rfl)) (fun _ _ => gv_c) (by rfl))) (by simp)) fun H4 s4 => ?_)
    have s04 := s1.trans (s2.trans (s3.trans s4))
    refine ⟨_, rfl, .inr ⟨a, _, rfl, SqL.of (s04 _ _ ha), fun r hr' => ?_⟩⟩
    exact k' r _ (s04.free hr') (s04.trans (Same.new hr' _)) (by rw [upd_same, List.map_reverse])
  · have okq' := okq (by omega)
    refine rq_ifF (gt_eq (gt_test (gv_eqI (gv_var (by rfl)) (fun _ _ => gv_c) (by rfl))) (by simp)) fun H2 s2 => ?_
    refine rq_ifF (gt_eq (gt_test (gv_ii (gv_var (by rfl)) fun _ _ => gv_c)) (by simp)) fun H3 s3 => ?_
    have s03 := s1.trans (s2.trans s3)
    refine rq_if (b := !decide (p.length = q.length)) (gt_eq (gt_or (q := false) (gt_and (gt_test (gv_eqI (gv_var (by rfl)) (fun _ _ => gv_c) (by rfl))) fun _ H4 s4 => gt_test (gv_neI (gv_lenL (K := K) (xs := p.map V.str) (ga_1 (gv_var (by rfl))) (SqL.of ((s03.trans s4) _ _ ha))) (fun H5 s5 => gv_lenL (K := K) (xs := q.map V.str) (ga_1 (gv_var (by rfl))) (SqL.of ((s03.trans (s4.trans s5)) _ _ hb))) (by rfl)))
      fun _ H4 s4 => gt_eq (gt_and (q := false) (gt_test (gv_eqI (gv_var (by rfl)) (fun _ _ => gv_c) (by rfl))) fun z => absurd z (by simp)) (by simp)) ?_) (fun c H4 s4 => ?_) fun c H4 s4 => ?_
    · simp
      omega
    · have ne : ¬ p.length = q.length := by simpa using c
      have z : toldO 3 p q = .unl := by
        show besideO p q = _
        unfold besideO
        rw [if_pos okp, if_pos okq', if_neg ne]
      rw [z] at k
      exact k H4 (s03.trans s4)
    have eq : p.length = q.length := by simpa using c
    have z : toldO 3 p q = pick (List.zipWith (· ++ ·) p q) := by
      show besideO p q = _
      unfold besideO
      rw [if_pos okp, if_pos okq', if_pos eq]
    rw [z] at k
    unfold pick at k
    have s04 := s03.trans s4
    refine rq_set' (t_ifT (gt_eq (gt_test (gv_eqI (gv_var (by rfl)) (fun _ _ => gv_c) (by rfl))) (by simp)) fun H5 s5 => ?_)
    have s05 := s04.trans s5
    refine tcompR (ga_1 (gv_lenL (K := K) (xs := p.map V.str) (ga_1 (gv_var (by rfl))) (SqL.of (s05 _ _ ha)))) (by rw [List.length_map]; omega) (by rw [List.length_map]; omega) fun H6 s6 => ?_
    have s06 := s05.trans s6
    refine comp_range_map (fun i => .str (p.getD i ⟨#[]⟩ ++ q.getD i ⟨#[]⟩)) (small (by rw [List.length_map]; omega)) (fun i H7 R hi s7 k7 => ?_) fun D H7 hD s7 hDl => ?_
    · have hi' : i < p.length := by simpa using hi
      have hpm : p.getD i ⟨#[]⟩ ∈ p := by rw [List.getD_eq_getElem?_getD, List.getElem?_eq_getElem hi']; exact List.getElem_mem hi'
      have hqm : q.getD i ⟨#[]⟩ ∈ q := by rw [List.getD_eq_getElem?_getD, List.getElem?_eq_getElem (show i < q.length by omega)]; exact List.getElem_mem _
      have l1 := hp.2 _ hpm
      have l2 := hq.2 _ hqm
      have s07 := s06.trans s7
      refine gv_to (gv_addS (gv_ixL (K := K) (gv_var (by rfl)) (fun _ _ => gv_var (by rfl)) (SqL.of (s07 _ _ ha)) (v := .str (p.getD i ⟨#[]⟩)) ?_) (fun H8 s8 => gv_ixL (K := K) (gv_var (by rfl)) (fun _ _ => gv_var (by rfl)) (SqL.of ((s07.trans s8) _ _ hb)) (v := .str (q.getD i ⟨#[]⟩)) ?_) (small (by omega))) fun H8 s8 => k7 H8 s8
      · rw [Int.zero_add]; exact atI_strs hi'
      · rw [Int.zero_add]; exact atI_strs (by omega)
    have s07 := s06.trans s7
    have hDl' : H7 D = some (.lst ((List.zipWith (· ++ ·) p q).map V.str)) := by
      rw [hDl, ← range_zip p q eq, Int.toNat_natCast, List.length_map]
    have smj : Sm (List.zipWith (· ++ ·) p q) := ⟨by rw [List.length_zipWith]; omega, zip_sm hp.2 hq.2⟩
    generalize List.zipWith (· ++ ·) p q = j at *
    cases c4 : picOk j with
    | true =>
      rw [if_pos c4] at k
      refine rs_ret (v := .ref D) (gv_if (p := true) (gt_eq (gt_tB (good (ga_1 (gv_var (by rfl))) hDl' smj)) c4) (fun _ H8 s8 => gv_var (by rfl)) fun z => absurd z (by decide)) fun H8 s8 => ?_
      exact k D H8 (s06.free hD) (s07.trans s8) (s8 _ _ hDl')
    | false =>
      rw [c4, if_neg (by decide)] at k
      refine rs_ret (v := .str "picture") (gv_if (p := false) (gt_eq (gt_tB (good (ga_1 (gv_var (by rfl))) hDl' smj)) c4) (fun z => absurd z (by decide)) fun _ H8 s8 => gv_c) fun H8 s8 => ?_
      exact k H8 (s07.trans s8)
  · have okq' := okq (by omega)
    obtain ⟨nq, _⟩ := pic_rows okq'
    refine rq_ifF (gt_eq (gt_test (gv_eqI (gv_var (by rfl)) (fun _ _ => gv_c) (by rfl))) (by simp)) fun H2 s2 => ?_
    refine rq_ifF (gt_eq (gt_test (gv_ii (gv_var (by rfl)) fun _ _ => gv_c)) (by simp)) fun H3 s3 => ?_
    have s03 := s1.trans (s2.trans s3)
    cases p with
    | nil => exact absurd rfl np
    | cons r0 rs =>
    cases q with
    | nil => exact absurd rfl nq
    | cons r1 qs =>
    have l0 := hp.2 r0 List.mem_cons_self
    have l1 := hq.2 r1 List.mem_cons_self
    refine rq_if (b := !decide (r0.length = r1.length)) (gt_eq (gt_or (p := false) (gt_eq (gt_and (q := false) (gt_test (gv_eqI (gv_var (by rfl)) (fun _ _ => gv_c) (by rfl))) fun z => absurd z (by simp)) (by simp))
      fun _ H4 s4 => gt_and (gt_test (gv_eqI (gv_var (by rfl)) (fun _ _ => gv_c) (by rfl))) fun _ H5 s5 => gt_test (gv_neI (gv_lenS (K := K) (ga_1 (gv_ixL (gv_var (by rfl)) (fun _ _ => gv_c) (SqL.of ((s03.trans (s4.trans s5)) _ _ ha)) (atI_zero _ _))) (small (by omega))) (fun H6 s6 => gv_lenS (K := K) (ga_1 (gv_ixL (gv_var (by rfl)) (fun _ _ => gv_c) (SqL.of ((s03.trans (s4.trans (s5.trans s6))) _ _ hb)) (atI_zero _ _))) (small (by omega))) (by rfl))) ?_) (fun c H4 s4 => ?_) fun c H4 s4 => ?_
    · simp
      omega
    · have ne : ¬ wide0 (r0 :: rs) = wide0 (r1 :: qs) := by
        have z : ¬ r0.length = r1.length := by simpa using c
        exact z
      have z : toldO 4 (r0 :: rs) (r1 :: qs) = .unl := by
        show overO _ _ = _
        unfold overO
        rw [if_pos okp, if_pos okq', if_neg ne]
      rw [z] at k
      exact k H4 (s03.trans s4)
    have eq : wide0 (r0 :: rs) = wide0 (r1 :: qs) := by
      have z : r0.length = r1.length := by simpa using c
      exact z
    have z : toldO 4 (r0 :: rs) (r1 :: qs) = pick ((r0 :: rs) ++ (r1 :: qs)) := by
      show overO _ _ = _
      unfold overO
      rw [if_pos okp, if_pos okq', if_pos eq]
    rw [z] at k
    unfold pick at k
    have s04 := s03.trans s4
    refine rq_set' (t_ifF (gt_eq (gt_test (gv_eqI (gv_var (by rfl)) (fun _ _ => gv_c) (by rfl))) (by simp)) fun H5 s5 => ?_)
    have s05 := s04.trans s5
    refine ⟨_, rfl, _, rfl, a, b, _, _, rfl, rfl, s05 _ _ ha, s05 _ _ hb, ?_, fun D hD => ?_⟩
    · rw [List.length_map, List.length_map]
      exact small (by omega)
    have hDl' : (upd H5 D (.lst ((r0 :: rs).map V.str ++ (r1 :: qs).map V.str))) D = some (.lst (((r0 :: rs) ++ (r1 :: qs)).map V.str)) := by rw [upd_same, List.map_append]
    have s07 := s05.trans (Same.new hD (.lst ((r0 :: rs).map V.str ++ (r1 :: qs).map V.str)))
    have smj : Sm ((r0 :: rs) ++ (r1 :: qs)) := ⟨by rw [List.length_append]; omega, fun r hr => by
      rcases List.mem_append.mp hr with z | z
      · have := hp.2 r z; omega
      · have := hq.2 r z; omega⟩
    generalize (upd H5 D (.lst ((r0 :: rs).map V.str ++ (r1 :: qs).map V.str))) = H7 at *
    generalize (r0 :: rs) ++ (r1 :: qs) = j at *
    cases c4 : picOk j with
    | true =>
      rw [if_pos c4] at k
      refine rs_ret (v := .ref D) (gv_if (p := true) (gt_eq (gt_tB (good (ga_1 (gv_var (by rfl))) hDl' smj)) c4) (fun _ H8 s8 => gv_var (by rfl)) fun z => absurd z (by decide)) fun H8 s8 => ?_
      exact k D H8 (s05.free hD) (s07.trans s8) (s8 _ _ hDl')
    | false =>
      rw [c4, if_neg (by decide)] at k
      refine rs_ret (v := .str "picture") (gv_if (p := false) (gt_eq (gt_tB (good (ga_1 (gv_var (by rfl))) hDl' smj)) c4) (fun z => absurd z (by decide)) fun _ H8 s8 => gv_c) fun H8 s8 => ?_
      exact k H8 (s07.trans s8)
end
end K01

set_option maxHeartbeats 4000000
/-! @KIND text s@ @KIND rows l@ @KIND rows[] s@ @KIND picture l@ @KIND picture[] s@ @KIND row s@ @KIND LETTERS s@ @KIND one l@ @KIND other l@ @KIND left s@ @KIND right s@ @KIND joined l@
 @KIND _law_script l@ @KIND _law_letters s@ @KIND _law_row s@ @KIND _law_picture_here l@ @KIND _law_picture_here[] s@ @KIND _law_one l@ @KIND _law_other l@ @KIND _law_one[] s@ @KIND _law_other[] s@ @KIND _law_found l@ @KIND _law_kinds l@
 @KIND _law_some l@ @KIND _law_pictures l@ @KIND _law_handed l@ @KIND _law_pictures[] l@ @KIND _law_handed[] l@ @KIND _law_some[] s@ @KIND one[] s@ @KIND other[] s@ -/
namespace K01
open PySem PySem.Spec PyProof.Rows L2
section
variable {P : Program} {w : World} {K : PySem.W.Frag} {mg : Str → Option Value} {base : Heap} {t : Ad}
/-! ### the law itself -/
/-- a reading whose value is one of some -/
def Gr (te : TE) (σ : L2.St) (H : Hp) (R : V → Prop) : Prop := ∀ Q : VK, (∀ v H', R v → Same H H' → Q v H') → te σ H Q
theorem gr_of {te : TE} {σ : L2.St} {H : Hp} {v : V} {R : V → Prop} (h : Gv te σ H v) (hv : R v) : Gr te σ H R := fun Q q => h _ fun H' s => q v H' hv s
theorem set_same {σ : L2.St} {n : Nat} {v : V} (h : σ[n]? = some (some v)) : σ.set n (some v) = σ := by
  have hn : n < σ.length := (List.getElem?_eq_some_iff.mp h).1
  have e : σ[n] = some v := (List.getElem?_eq_some_iff.mp h).2
  rw [← e]
  exact List.set_getElem_self hn
theorem rq_ifSet {tt : TT} {te : TE} {us : TS} {D : Ends} {σ : L2.St} {H : Hp} {n : Nat} {b : Bool} {v0 : V} (R : V → Prop) (h : Gt tt σ H b) (h0 : σ[n]? = some (some v0)) (hv : R v0) (k1 : b = true → ∀ H', Same H H' → Gr te σ H' R)
    (k : ∀ v H', R v → Same H H' → us D (σ.set n (some v)) H') : tSeq (tIfS tt (tAsg te (gName n)) tNext) us D σ H := by
  refine rq_if h (fun c H1 s1 => ?_) fun c H1 s1 => ?_
  · exact k1 c H1 s1 _ fun v H2 hv2 s2 => k v H2 hv2 (s1.trans s2)
  · have := k v0 H1 hv s1
    rwa [set_same h0] at this
theorem rq_ifSetH {tt : TT} {te : TE} {us : TS} {D : Ends} {σ : L2.St} {H : Hp} {n : Nat} {b : Bool} {v0 : V} (R : V → Hp → Prop) (h : Gt tt σ H b) (h0 : σ[n]? = some (some v0)) (hv : ∀ H', Same H H' → R v0 H')
    (k1 : b = true → ∀ H', Same H H' → ∀ Q : VK, (∀ v H2, R v H2 → Same H' H2 → Q v H2) → te σ H' Q) (k : ∀ v H', R v H' → Same H H' → us D (σ.set n (some v)) H') : tSeq (tIfS tt (tAsg te (gName n)) tNext) us D σ H := by
  refine rq_if h (fun c H1 s1 => ?_) fun c H1 s1 => ?_
  · exact k1 c H1 s1 _ fun v H2 hv2 s2 => k v H2 hv2 (s1.trans s2)
  · have := k v0 H1 (hv H1 s1) s1
    rwa [set_same h0] at this
/-- an answer, by what it holds -/
def ResT (H : Hp) (x : V) (H' : Hp) : Out → Prop
  | .made p => ∃ r, x = .ref r ∧ H r = none ∧ H' r = some (.lst (p.map V.str))
  | .bad => x = .str "picture"
  | .unl => x = .str "unlike"
theorem wishT_of {H : Hp} {Q : VK} {o : Out} (h : ∀ x H', Same H H' → ResT H x H' o → Q x H') : WishT H Q o := by
  cases o with
  | made p => exact fun r H' hr s hl => h _ H' s ⟨r, rfl, hr, hl⟩
  | bad => exact fun H' s => h _ H' s rfl
  | unl => exact fun H' s => h _ H' s rfl
def dtO : Out → Dt
  | .made p => .lst (p.map Dt.str)
  | .bad => .str "picture"
  | .unl => .str "unlike"
theorem reps_strs {H : Hp} : ∀ p : List Str, Reps K H (p.map Dt.str) (p.map V.str)
  | [] => by unfold Reps; rfl
  | x :: p => by
    rw [List.map_cons, List.map_cons]
    unfold Reps
    exact ⟨_, _, rfl, by unfold Rep; rfl, reps_strs p⟩
theorem rep_strs {H : Hp} {r : Addr} {p : List Str} (h : H r = some (.lst (p.map V.str))) : Rep K H (.lst (p.map Dt.str)) (.ref r) := by
  unfold Rep
  exact ⟨r, _, rfl, SqL.of h, reps_strs p⟩
theorem deps_strs : ∀ p : List Str, Dt.deps (p.map Dt.str) = 0
  | [] => by unfold Dt.deps; rfl
  | x :: p => by
    rw [List.map_cons]
    unfold Dt.deps
    rw [deps_strs p]
    unfold Dt.dep
    rfl
theorem dep_strs (p : List Str) : (Dt.lst (p.map Dt.str)).dep = 1 := by
  unfold Dt.dep
  rw [deps_strs]
theorem rep_res {H H1 H2 : Hp} {o : Out} {x : V} (s : Same H1 H2) (h : ResT H x H1 o) : Rep K H2 (dtO o) x := by
  cases o with
  | made p =>
    obtain ⟨r, rfl, _, hl⟩ := h
    exact rep_strs (s _ _ hl)
  | bad => unfold dtO Rep; exact h
  | unl => unfold dtO Rep; exact h
theorem dep_dtO (o : Out) : (dtO o).dep ≤ 60 := by
  cases o with
  | made p => show (Dt.lst (p.map Dt.str)).dep ≤ 60; rw [dep_strs]; decide
  | bad => show (Dt.str _).dep ≤ 60; unfold Dt.dep; decide
  | unl => show (Dt.str _).dep ≤ 60; unfold Dt.dep; decide
/-- two pictures in a list -/
structure Two (H : Hp) (l c d : Addr) (p q : List Str) : Prop where
  all : H l = some (.lst [.ref c, .ref d])
  one : H c = some (.lst (p.map V.str))
  two : H d = some (.lst (q.map V.str))
theorem Two.same {H H' : Hp} {l c d : Addr} {p q : List Str} (h : Two H l c d p q) (s : Same H H') : Two H' l c d p q := ⟨s _ _ h.all, s _ _ h.one, s _ _ h.two⟩
def dt2 (p q : List Str) : Dt := .lst [.lst (p.map Dt.str), .lst (q.map Dt.str)]
theorem Two.rep {H : Hp} {l c d : Addr} {p q : List Str} (h : Two H l c d p q) : Rep K H (dt2 p q) (.ref l) := by
  unfold dt2 Rep
  refine ⟨l, _, rfl, SqL.of h.all, ?_⟩
  unfold Reps
  refine ⟨_, _, rfl, rep_strs h.one, ?_⟩
  unfold Reps
  refine ⟨_, _, rfl, rep_strs h.two, ?_⟩
  unfold Reps
  rfl
theorem dep_dt2 (p q : List Str) : (dt2 p q).dep ≤ 60 := by
  unfold dt2 Dt.dep Dt.deps Dt.deps Dt.deps
  rw [dep_strs, dep_strs]
  decide
theorem pick8 (xs : List Int) (hl : xs.length = 8) {lo hi : Int} (hx : ∀ x ∈ xs, lo ≤ x ∧ x ≤ hi) (n : Int) : ∃ v : Int, atI (xs.map V.int) (n % 8) = some (.int v) ∧ lo ≤ v ∧ v ≤ hi := by
  have h1 : 0 ≤ n % 8 := by omega
  obtain ⟨j, hj⟩ : ∃ j : Nat, n % 8 = (j : Int) := ⟨(n % 8).toNat, by omega⟩
  have hlt : j < xs.length := by omega
  refine ⟨xs[j], ?_, hx _ (List.getElem_mem hlt)⟩
  rw [hj]
  exact atI_nat (by rw [List.getElem?_map, List.getElem?_eq_getElem hlt]; rfl)
/-- the pictures so far -/
structure Pics (H0 H : Hp) (l : Addr) (cs : List (Addr × List Str)) (B : Nat) : Prop where
  same : Same H0 H
  new : H0 l = none
  all : H l = some (.lst (cs.map fun c => V.ref c.1))
  ne : ∀ c ∈ cs, c.1 ≠ l
  at_ : ∀ c ∈ cs, H c.1 = some (.lst (c.2.map V.str))
  few : ∀ c ∈ cs, c.2.length ≤ 5
  short : ∀ c ∈ cs, ∀ r ∈ c.2, r.length ≤ B
theorem Pics.more {H0 H H' : Hp} {l : Addr} {cs : List (Addr × List Str)} {B : Nat} (h : Pics H0 H l cs B) (s : Same H H') : Pics H0 H' l cs B := ⟨h.same.trans s, h.new, s _ _ h.all, h.ne, fun c hc => s _ _ (h.at_ c hc), h.few, h.short⟩
theorem told_len {n : Nat} {p q r : List Str} (hp : Sm' p) (hq : Sm' q) (h : toldO n p q = .made r) : r.length ≤ 60 := by
  have hp1 := hp.1
  have hq1 := hq.1
  have hw : wide0 p ≤ 20 := by
    cases p with
    | nil => exact Nat.zero_le _
    | cons r0 rs => exact hp.2 r0 List.mem_cons_self
  have one : ∀ {x : List Str}, x.length ≤ 60 → (if picOk p = true then Out.made x else .bad) = .made r → r.length ≤ 60 := fun {x} hx e => by
    by_cases c : picOk p = true
    · rw [if_pos c] at e; cases e; exact hx
    · rw [if_neg c] at e; cases e
  have pk : ∀ {x : List Str}, x.length ≤ 60 → pick x = .made r → r.length ≤ 60 := fun {x} hx e => by
    unfold pick at e
    by_cases c : picOk x = true
    · rw [if_pos c] at e; cases e; exact hx
    · rw [if_neg c] at e; cases e
  match n, h with
  | 0, h => exact one (by unfold cols; rw [List.length_map, List.length_range]; omega) h
  | 1, h => exact one (by rw [List.length_map]; omega) h
  | 2, h => exact one (by rw [List.length_reverse]; omega) h
  | 3, h =>
    have h : besideO p q = .made r := h
    unfold besideO at h
    by_cases c1 : picOk p = true
    · rw [if_pos c1] at h
      by_cases c2 : picOk q = true
      · rw [if_pos c2] at h
        by_cases c3 : p.length = q.length
        · rw [if_pos c3] at h; exact pk (by rw [List.length_zipWith]; omega) h
        · rw [if_neg c3] at h; cases h
      · rw [if_neg c2] at h; cases h
    · rw [if_neg c1] at h; cases h
  | n + 4, h =>
    have h : overO p q = .made r := h
    unfold overO at h
    by_cases c1 : picOk p = true
    · rw [if_pos c1] at h
      by_cases c2 : picOk q = true
      · rw [if_pos c2] at h
        by_cases c3 : wide0 p = wide0 q
        · rw [if_pos c3] at h; exact pk (by rw [List.length_append]; omega) h
        · rw [if_neg c3] at h; cases h
      · rw [if_neg c2] at h; cases h
    · rw [if_neg c1] at h; cases h
/-- copies so far -/
def PvH (p q : List Str) : Nat → List V → Hp → Prop
  | 0, ys, _ => ys = []
  | 1, ys, H => ∃ l, ys = [.ref l] ∧ H l = some (.lst (p.map V.str))
  | _, ys, H => ∃ l m, ys = [.ref l, .ref m] ∧ H l = some (.lst (p.map V.str)) ∧ H m = some (.lst (q.map V.str))
theorem atI_one {α : Type} (x y : α) (xs : List α) : atI (x :: y :: xs) 1 = some y := by
  have := atI_nat (xs := x :: y :: xs) (j := 1) (v := y) rfl
  simpa using this
def spLaw (K : PySem.W.Frag) : Sp := fun vs H Q _ => ∃ (a : Addr) (ns : List Int), vs = [.ref a] ∧ SqL K H a (ns.map V.int) ∧ ns.length ≤ 63 ∧ ∀ H', Q (.bl true) H'
theorem sc_law : FnScope ["_law_script", "_law_sizes", "_law_wide", "_law_pictures", "_law_k", "_law_number", "_law_high", "_law_far", "_law_picture_here", "_law_handed", "_law_way", "_law_found"] ["_law_script"] (defScope s_law) := ⟨rfl, rfl, rfl, by decide +kernel, rfl, by decide +kernel, by decide +kernel⟩
theorem ok_law (T : Txt K mg t) : FnOk P w K mg base CX0 12 t.f_law t.d_law ["_law_script"] (spLaw K) := by
  have G__law_mix : FnOk P w K mg base CX0 2 t.f__law_mix t.d__law_mix ["_law_script", "_law_k"] (sp_mix K) := ok__law_mix T
  have G__law_picture : FnOk P w K mg base CX0 3 t.f__law_picture t.d__law_picture ["_law_script", "_law_k", "_law_high", "_law_wide", "_law_letters"] (sp_picture K) := ok__law_picture T
  have G__law_spoilt : FnOk P w K mg base CX0 1 t.f__law_spoilt t.d__law_spoilt ["_law_picture_here", "_law_number"] (sp_spoilt K) := ok__law_spoilt T
  have G__law_told : FnOk P w K mg base CX0 5 t.f__law_told t.d__law_told ["_law_way", "_law_one", "_law_other"] sp_told := ok__law_told T
  have G__law_due : FnOk P w K mg base CX0 5 t.f__law_due t.d__law_due ["_law_way", "_law_one", "_law_other"] sp_told := ok__law_due T
  refine T.law.fn.ok sc_law (fun vs H Q E h => ?_) (fun cdv A outer s H vs Q E hr h => ?_)
  · obtain ⟨a, ns, rfl, _⟩ := h
    rfl
  obtain ⟨a, ns, rfl, hS, hl, kk⟩ := h
  have mixed : ∀ {σ : L2.St} {Hx : Hp} {tt : TA} {k : Int}, Same H Hx → Ga tt σ Hx [.ref a, .int k] → Gv (tCall (sp_mix K) [] E0 tt) σ Hx (.int (mix ns k)) :=
    fun sx hg => gv_call hg fun H' R s kk => ⟨a, ns, _, rfl, (sx.trans s).seq hS, hl, kk⟩
  refine ⟨_, (pss_cons (ps_set (i := 1) sc_law.nd rfl (by first | exact Or.inl rfl | exact Or.inr rfl) (pe_lst (pa_cons pe_int (pa_cons pe_int (pa_cons pe_int (pa_cons pe_int (pa_cons pe_int (pa_cons pe_int (pa_cons pe_int (pa_cons pe_int pa_nil)))))))))) (pss_cons (ps_set (i := 2) sc_law.nd rfl (by first | exact Or.inl rfl | exact Or.inr rfl) (pe_lst (pa_cons pe_int (pa_cons pe_int (pa_cons pe_int (pa_cons pe_int (pa_cons pe_int (pa_cons pe_int (pa_cons pe_int (pa_cons pe_int pa_nil)))))))))) (pss_cons (ps_set (i := 3) sc_law.nd rfl (by first | exact Or.inl rfl | exact Or.inr rfl) (pe_lst pa_nil)) (pss_cons (ps_for PassesOwn.never rfl (pi_range1 rfl T.n_range (pa_cons pe_int pa_nil)) (pg_name (i := 4) sc_law.nd rfl (by first | exact Or.inl rfl | exact Or.inr rfl)) (pss_cons (ps_set (i := 5) sc_law.nd rfl (by first | exact Or.inl rfl | exact Or.inr rfl) (pe_callD T._law_mix G__law_mix (hr.mono (by decide)) pass0 (pa_cons (pv 0) (pa_cons (pv 4) pa_nil)))) (pss_cons (ps_set (i := 6) sc_law.nd rfl (by first | exact Or.inl rfl | exact Or.inr rfl) (pe_ix (kIxL K) (pv 1) (pe_op op_mod (pe_op op_fdiv (pv 5) pe_int) pe_int) (fun _ _ => rfl))) (pss_cons (ps_set (i := 7) sc_law.nd rfl (by first | exact Or.inl rfl | exact Or.inr rfl) (pe_ix (kIxL K) (pv 2) (pe_op op_mod (pe_op op_fdiv (pv 5) pe_int) pe_int) (fun _ _ => rfl))) (pss_cons (ps_if (PW.pt (pw_and (pt_cmpR op_eq (pv 4) pe_int (nomark _)) (pw_and1 (pt_cmpR op_eq (pe_op op_mod (pv 5) pe_int) pe_int (nomark _))))) (pss_one (ps_set (i := 6) sc_law.nd rfl (by first | exact Or.inl rfl | exact Or.inr rfl) (pe_callB (kLen K) (by rfl) T.n_len boot_len (pa_cons (pe_ix (kIxL K) (pv 3) pe_int (fun _ _ => rfl)) pa_nil)))) pss_nil) (pss_cons (ps_if (PW.pt (pw_and (pt_cmpR op_eq (pv 4) pe_int (nomark _)) (pw_and1 (pt_cmpR op_eq (pe_op op_mod (pv 5) pe_int) pe_int (nomark _))))) (pss_one (ps_set (i := 7) sc_law.nd rfl (by first | exact Or.inl rfl | exact Or.inr rfl) (pe_callB (kMax K) (by rfl) T.n_max boot_max (pa_cons (pe_op op_cat (pe_lst (pa_cons pe_int pa_nil)) (pe_comp (N' := ["_law_row"]) (ix := [none]) (compScope_of (by kernel_rfl)) rfl (kiList K (pe_ix (kIxL K) (pv 3) pe_int (fun _ _ => rfl))) (fun _ _ _ _ => (pg_name (i := 0) (show List.Nodup (["_law_row"] : List Str) from by decide +kernel) rfl (by first | exact Or.inl rfl | exact Or.inr rfl))) (fun _ _ _ _ => pf_nil) (fun _ _ _ _ => (pe_callB (kLen K) (by rfl) T.n_len boot_len (pa_cons (pv 0) pa_nil))))) pa_nil)))) pss_nil) (pss_cons (ps_set (i := 8) sc_law.nd rfl (by first | exact Or.inl rfl | exact Or.inr rfl) (pe_callD T._law_picture G__law_picture (hr.mono (by decide)) pass0 (pa_cons (pv 0) (pa_cons (pe_op op_add pe_int (pe_op op_mul pe_int (pv 4))) (pa_cons (pv 6) (pa_cons (pv 7) (pa_cons pe_str pa_nil))))))) (pss_cons (ps_if (PW.pt (pw_and (pt_cmpR (kNeD K hr.units) (pv 8) (pe_lst pa_nil) (nomark _)) (pw_and1 (pt_cmpR op_eq (pe_op op_mod (pe_callD T._law_mix G__law_mix (hr.mono (by decide)) pass0 (pa_cons (pv 0) (pa_cons (pe_op op_add pe_int (pv 4)) pa_nil))) pe_int) pe_int (nomark _))))) (pss_one (ps_set (i := 8) sc_law.nd rfl (by first | exact Or.inl rfl | exact Or.inr rfl) (pe_callD T._law_spoilt G__law_spoilt (hr.mono (by decide)) pass0 (pa_cons (pv 8) (pa_cons (pe_callD T._law_mix G__law_mix (hr.mono (by decide)) pass0 (pa_cons (pv 0) (pa_cons (pe_op op_add pe_int (pv 4)) pa_nil))) pa_nil))))) pss_nil) (pss_one (ps_expr (kBm K PySem.F.plainAttrs_list PySem.F.slot_list_append PySem.F.type_list_append mt_append (pv 3) (pa_cons (pv 8) pa_nil)))))))))))) (pss_cons (ps_setComp (i := 9) sc_law.nd rfl (by first | exact Or.inl rfl | exact Or.inr rfl) (N' := ["_law_picture_here"]) (ix := [none]) (compScope_of (by kernel_rfl)) rfl (kiList K (pv 3)) (fun _ _ _ _ => (pg_name (i := 0) (show List.Nodup (["_law_picture_here"] : List Str) from by decide +kernel) rfl (by first | exact Or.inl rfl | exact Or.inr rfl))) (fun _ _ _ _ => pf_nil) (fun _ _ _ _ => (pe_callTy (kList K) (by rfl) T.n_list boot_list (pa_cons (pv 0) pa_nil)))) (pss_cons (ps_for PassesOwn.never rfl (pi_range1 rfl T.n_range (pa_cons pe_int pa_nil)) (pg_name (i := 10) sc_law.nd rfl (by first | exact Or.inl rfl | exact Or.inr rfl)) (pss_cons (ps_set (i := 11) sc_law.nd rfl (by first | exact Or.inl rfl | exact Or.inr rfl) (pe_callD T._law_told G__law_told (hr.mono (by decide)) pass0 (pa_cons (pv 10) (pa_cons (pe_ix (kIxL K) (pv 9) pe_int (fun _ _ => rfl)) (pa_cons (pe_ix (kIxL K) (pv 9) pe_int (fun _ _ => rfl)) pa_nil))))) (pss_cons (ps_if (PW.pt (pw_or (pt_cmpR (kNeD K hr.units) (pv 11) (pe_callD T._law_due G__law_due (hr.mono (by decide)) pass0 (pa_cons (pv 10) (pa_cons (pe_ix (kIxL K) (pv 3) pe_int (fun _ _ => rfl)) (pa_cons (pe_ix (kIxL K) (pv 3) pe_int (fun _ _ => rfl)) pa_nil)))) (nomark _)) (pw_or1 (pt_cmpR (kNeD K hr.units) (pv 9) (pv 3) (nomark _))))) (pss_one (ps_ret pe_bl)) pss_nil) (pss_one (ps_if (pt_val (pe_callB (kIsinstance K) (by rfl) T.n_isinstance boot_isinstance (pa_cons (pv 11) (pa_cons (pe_bltn (v := .ty "list") rfl T.n_list boot_list rfl) pa_nil)))) (pss_one (ps_expr (kBm K PySem.F.plainAttrs_list PySem.F.slot_list_append PySem.F.type_list_append mt_append (pv 11) (pa_cons pe_str pa_nil)))) pss_nil))))) (pss_one (ps_ret (pe_cmpR (kEqD K hr.units) (pv 9) (pv 3) (nomark _)))))))))), ?_⟩
  refine rq_set' (gn_to (gn_lst (xs := [1, 2, 3, 4, 5, 2, 3, 1].map V.int) (ga_cons gv_c fun _ _ => ga_cons gv_c fun _ _ => ga_cons gv_c fun _ _ => ga_cons gv_c fun _ _ => ga_cons gv_c fun _ _ => ga_cons gv_c fun _ _ => ga_cons gv_c fun _ _ => ga_1 gv_c) (by show 8 ≤ sizeLine; decide)) fun zs H1 _ s1 hzs => ?_)
  refine rq_set' (gn_to (gn_lst (xs := [1, 2, 5, 6, 12, 13, 3, 7].map V.int) (ga_cons gv_c fun _ _ => ga_cons gv_c fun _ _ => ga_cons gv_c fun _ _ => ga_cons gv_c fun _ _ => ga_cons gv_c fun _ _ => ga_cons gv_c fun _ _ => ga_cons gv_c fun _ _ => ga_1 gv_c) (by show 8 ≤ sizeLine; decide)) fun zw H2 _ s2 hzw => ?_)
  have s02 := s1.trans s2
  have hzs2 := s2 _ _ hzs
  refine rq_set' ⟨(by show 0 ≤ sizeLine; decide), fun lp hlp => ?_⟩
  refine ⟨2, rfl, by decide, by decide, for_range (n := (2 : Int).toNat) (fun i σ H3 => ∃ (e4 e5 e6 e7 e8 : Option V) (cs : List (Addr × List Str)), σ = [some (.ref a), some (.ref zs), some (.ref zw), some (.ref lp), e4, e5, e6, e7, e8, none, none, none] ∧ cs.length = i ∧ Pics H2 H3 lp cs (13 + i))
    ⟨none, none, none, none, none, [], rfl, rfl, Same.new hlp _, hlp, upd_same, fun c hc => absurd hc (by simp), fun c hc => absurd hc (by simp), fun c hc => absurd hc (by simp), fun c hc => absurd hc (by simp)⟩ ?_ ?_⟩
  · rintro i σ H3 hi ⟨e4, e5, e6, e7, e8, cs, rfl, hcs, J⟩
    have hi2 : i < 2 := hi
    refine rq_set (mixed (s02.trans J.same) (ga_cons (gv_var (by rfl)) fun _ _ => ga_1 (gv_var (by rfl)))) fun H4 s4 => ?_
    have hm := mix_nn ns (0 + (i : Int))
    generalize mix ns (0 + (i : Int)) = m at *
    have J4 := J.more s4
    obtain ⟨h, hh1, hh2, hh3⟩ := pick8 [1, 2, 3, 4, 5, 2, 3, 1] rfl (lo := 1) (hi := 5) (by decide) (m / 4)
    refine rq_set (gv_ixL (K := K) (gv_var (by rfl)) (fun _ _ => gv_iic (gv_iic (gv_var (by rfl)) (fun _ _ => gv_c) ⟨by decide, by decide⟩) (fun _ _ => gv_c) (by decide)) (SqL.of (J4.same _ _ hzs2)) hh1) fun H5 s5 => ?_
    have J5 := J4.more s5
    obtain ⟨f, hf1, hf2, hf3⟩ := pick8 [1, 2, 5, 6, 12, 13, 3, 7] rfl (lo := 1) (hi := 13) (by decide) (m / 32)
    refine rq_set (gv_ixL (K := K) (gv_var (by rfl)) (fun _ _ => gv_iic (gv_iic (gv_var (by rfl)) (fun _ _ => gv_c) ⟨by decide, by decide⟩) (fun _ _ => gv_c) (by decide)) (SqL.of (J5.same _ _ hzw)) hf1) fun H6 s6 => ?_
    have J6 := J5.more s6
    -- the first picture, where there is one
    have first : (0 + (i : Int)) = 1 → ∃ c, cs = [c] := fun z => by
      have : cs.length = 1 := by omega
      exact List.length_eq_one_iff.mp this
    refine rq_ifSet (v0 := .int h) (fun v => ∃ n : Nat, v = .int n ∧ n ≤ 5) (gt_and (gt_test (gv_eqI (gv_var (by rfl)) (fun _ _ => gv_c) (by rfl))) fun _ _ _ => gt_test (gv_eqI (gv_iic (gv_var (by rfl)) (fun _ _ => gv_c) (by decide)) (fun _ _ => gv_c) (by rfl))) rfl ⟨h.toNat, by congr 1; omega, by omega⟩ (fun c H7 s7 => ?_) ?_
    · have c1 : (0 + (i : Int)) = 1 := by
        simp only [Bool.and_eq_true, decide_eq_true_eq] at c
        have := c.1
        injection this
      obtain ⟨c0, rfl⟩ := first c1
      have J7 := J6.more s7
      refine gr_of (gv_lenL (K := K) (xs := c0.2.map V.str) (ga_1 (gv_ixL (K := K) (gv_var (by rfl)) (fun _ _ => gv_c) (SqL.of J7.all) (v := .ref c0.1) (atI_zero _ _))) ?_) ⟨_, rfl, by rw [List.length_map]; exact J7.few c0 (by simp)⟩
      exact SqL.of (J7.at_ c0 (by simp))
    rintro _ H7 ⟨hi', rfl, hhi⟩ s7
    have J7 := J6.more s7
    refine rq_ifSet (v0 := .int f) (fun v => ∃ n : Nat, v = .int n ∧ n ≤ 13 + i) (gt_and (gt_test (gv_eqI (gv_var (by rfl)) (fun _ _ => gv_c) (by rfl))) fun _ _ _ => gt_test (gv_eqI (gv_iic (gv_var (by rfl)) (fun _ _ => gv_c) (by decide)) (fun _ _ => gv_c) (by rfl))) rfl ⟨f.toNat, by congr 1; omega, by omega⟩ (fun c H8 s8 => ?_) ?_
    · have c1 : (0 + (i : Int)) = 1 := by
        simp only [Bool.and_eq_true, decide_eq_true_eq] at c
        have := c.1
        injection this
      obtain ⟨c0, rfl⟩ := first c1
      have J8 := J7.more s8
      have hc0 : SqL K H8 c0.1 (c0.2.map V.str) := SqL.of (J8.at_ c0 (by simp))
      have few := J8.few c0 (by simp)
      intro Q' q'
      refine tcb1 ?_
      refine gn_to (gn_catN (xs := [.int 1]) (ys := c0.2.map fun r => .int r.length) (gn_lst (ga_1 gv_c) (by show 1 ≤ sizeLine; decide)) (fun H9 s9 => ?_) (small (by rw [List.length_map]; simp only [List.length_singleton]; omega))) fun r H9 hr9 s9 hr9' => ?_
      · intro R r'
        refine tcompL (K := K) (gv_ixL (K := K) (gv_var (by rfl)) (fun _ _ => gv_c) (SqL.of (s9 _ _ J8.all)) (v := .ref c0.1) (atI_zero _ _)) (s9.seq hc0) fun H10 s10 hq10 => ?_
        refine comp_list_map (onS fun r => .int r.length) hq10 (small (by rw [List.length_map]; omega)) (fun j x H11 R11 hx s11 k11 => ?_) fun D H11 hD s11 hDl => ?_
        · obtain ⟨r, rfl, hr', _⟩ := strs_at hx
          have := J8.short c0 (by simp) r hr'
          exact gv_to (gv_lenS (K := K) (ga_1 (gv_var (by rfl))) (small (by omega))) fun H12 s12 => k11 H12 s12
        · exact r' D H11 (s10.free hD) (s10.trans s11) (by rw [hDl, map_onS])
      · refine ⟨r, (1 :: c0.2.map fun r => (r.length : Int)), rfl, SqL.of (by rw [hr9']; congr 2; rw [List.map_cons, List.map_map]; rfl), by simp, fun m hm' => ?_⟩
        refine q' _ _ ?_ s9
        rcases List.mem_cons.mp hm' with rfl | hm'
        · exact ⟨1, rfl, by omega⟩
        · obtain ⟨x, hx, rfl⟩ := List.mem_map.mp hm'
          have := J8.short c0 (by simp) x hx
          exact ⟨x.length, rfl, by omega⟩
    rintro _ H8 ⟨wi, rfl, hwi⟩ s8
    have J8 := J7.more s8
    refine rq_set' (tcall (ga_cons (gv_var (by rfl)) fun _ _ => ga_cons (gv_ii gv_c fun _ _ => gv_iic gv_c (fun _ _ => gv_var (by rfl)) (.inl ⟨by decide, by decide⟩)) fun _ _ => ga_cons (gv_var (by rfl)) fun _ _ => ga_cons (gv_var (by rfl)) fun _ _ => ga_1 gv_c) fun H9 s9 => ⟨a, ns, _, hi', wi, "abcd", rfl, (s02.trans (J8.same.trans s9)).seq hS, hl, by omega, by omega, rfl, fun r H10 p hr10 s10 hr10' hpl hpx => ?_⟩)
    have J10 := J8.more (s9.trans s10)
    have hrlp : r ≠ lp := fun z => by
      have := (J8.more s9).all
      rw [← z, hr10] at this
      cases this
    have h02 := s02.trans J10.same
    have hpB : ∀ x ∈ p, x.length ≤ 13 + (i + 1) := fun x hx => by have := hpx x hx; omega
    refine rq_ifSetH (v0 := .ref r) (fun v H' => ∃ r' q, v = .ref r' ∧ r' ≠ lp ∧ H' r' = some (.lst (q.map V.str)) ∧ q.length ≤ 5 ∧ ∀ x ∈ q, x.length ≤ 13 + (i + 1))
      (gt_and (p := !(p.map V.str).isEmpty) (fun R' r' => ⟨.ref r, rfl, (by show 0 ≤ sizeLine; decide), fun e he => .inr ⟨r, e, p.map V.str, rfl, rfl, SqL.of (Same.new he _ _ _ hr10'), SqL.of upd_same, ⟨_, rfl, r' _ (Same.new he _)⟩⟩⟩)
        fun _ H11 s11 => gt_test (gv_eqI (gv_iic (mixed (h02.trans s11) (ga_cons (gv_var (by rfl)) fun _ _ => ga_1 (gv_ii gv_c fun _ _ => gv_var (by rfl)))) (fun _ _ => gv_c) (by decide)) (fun _ _ => gv_c) (by rfl)))
      rfl (fun H11 s11 => ⟨r, p, rfl, hrlp, s11 _ _ hr10', by omega, hpB⟩) (fun c H11 s11 Q' q'' => ?_) ?_
    · have hne : p ≠ [] := fun z => by rw [z] at c; simp at c
      refine tcall (ga_cons (gv_var (by rfl)) fun H12 s12 => ga_1 (mixed (h02.trans (s11.trans s12)) (ga_cons (gv_var (by rfl)) fun _ _ => ga_1 (gv_ii gv_c fun _ _ => gv_var (by rfl))))) fun H12 s12 => ?_
      refine ⟨r, p, _, wi, rfl, (s11.trans s12) _ _ hr10', hne, mix_nn _ _, by omega, by omega, hpx, fun r' H13 q' hr13 s13 hl13 hq13 hx13 => ?_⟩
      refine q'' _ H13 ⟨r', q', rfl, ?_, hl13, by omega, fun x hx => ?_⟩ (s12.trans s13)
      · rcases hr13 with rfl | hr13
        · exact hrlp
        · intro z
          have := (J10.more (s11.trans s12)).all
          rw [← z, hr13] at this
          cases this
      · have := hx13 x hx; omega
    rintro _ H11 ⟨r', q, rfl, hr'lp, hr11, hq5, hqx⟩ s11
    have J11 := J10.more s11
    refine ⟨_, rfl, .inl ⟨rfl, _, SqL.of J11.all⟩, _, rfl, lp, _, _, rfl, rfl, J11.all, ?_, ?_⟩
    · rw [List.length_map]
      exact Nat.lt_of_le_of_lt (show cs.length ≤ 1000 by omega) (by decide)
    · refine ⟨_, _, _, _, _, cs ++ [(r', q)], rfl, by rw [List.length_append, hcs]; rfl, J11.same.put J11.new _, J11.new, ?_, fun c hc => ?_, fun c hc => ?_, fun c hc => ?_, fun c hc => ?_⟩
      · rw [upd_same, List.map_append]; rfl
      · rcases List.mem_append.mp hc with z | z
        · exact J11.ne c z
        · rw [List.mem_singleton.mp z]; exact hr'lp
      · rcases List.mem_append.mp hc with z | z
        · rw [upd_ne (J11.ne c z)]; exact J11.at_ c z
        · rw [List.mem_singleton.mp z]
          show upd H11 lp _ r' = _
          rw [upd_ne hr'lp]; exact hr11
      · rcases List.mem_append.mp hc with z | z
        · exact J11.few c z
        · rw [List.mem_singleton.mp z]; exact hq5
      · rcases List.mem_append.mp hc with z | z
        · intro x hx
          have := J11.short c z x hx
          omega
        · rw [List.mem_singleton.mp z]; exact hqx
  · rintro σ H3 ⟨e4, e5, e6, e7, e8, cs, rfl, hcs, J⟩
    obtain ⟨c, d, rfl⟩ : ∃ c d, cs = [c, d] := by
      match cs, hcs with
      | [c, d], _ => exact ⟨c, d, rfl⟩
    obtain ⟨c, p⟩ := c
    obtain ⟨d, q⟩ := d
    have hc := J.at_ (c, p) (by simp)
    have hd := J.at_ (d, q) (by simp)
    have tw : Two H3 lp c d p q := ⟨J.all, hc, hd⟩
    have smp : Sm' p := ⟨by have := J.few (c, p) (by simp); simp only at this; omega, fun r hr => by have := J.short (c, p) (by simp) r hr; simp at this; omega⟩
    have smq : Sm' q := ⟨by have := J.few (d, q) (by simp); simp only at this; omega, fun r hr => by have := J.short (d, q) (by simp) r hr; simp at this; omega⟩
    refine rs_seq (rs_scL (K := K) (gv_var (by rfl)) (SqL.of J.all) fun H4 s4 hq4 => ?_)
    have tw4 := tw.same s4
    refine comp_list hq4 (by show 2 ≤ sizeLine; decide) (PvH p q) (fun D hD => rfl) (fun D i x ys H5 R1 R0 hD hx s5 hDl pv k1 k0 => ?_) fun D ys H5 hD s5 hDl _ pv => ?_
    · have tw5 := tw4.same s5
      match i, hx, pv, k1 with
      | 0, hx, pv, k1 =>
        cases hx
        have e : ys = [] := pv
        subst e
        refine ⟨_, rfl, c, _, rfl, .inl (SqL.of tw5.one), fun l hl5 => ?_⟩
        refine k1 (.ref l) _ (Same.new hl5 _) ⟨l, rfl, ?_⟩
        have ne : l ≠ D := fun z => by rw [z, hDl] at hl5; cases hl5
        rw [upd_ne ne, upd_same]
      | 1, hx, pv, k1 =>
        cases hx
        obtain ⟨l0, rfl, hl0⟩ := pv
        refine ⟨_, rfl, d, _, rfl, .inl (SqL.of tw5.two), fun l hl5 => ?_⟩
        refine k1 (.ref l) _ (Same.new hl5 _) ⟨l0, l, rfl, ?_, ?_⟩
        · have ne : l0 ≠ D := fun z => by
            rw [z, hDl] at hl0
            injection hl0 with hl0
            injection hl0 with hl0
            cases p with
            | nil => cases hl0
            | cons r rs => cases hl0
          have ne2 : l0 ≠ l := fun z => by rw [z, hl5] at hl0; cases hl0
          rw [upd_ne ne, upd_ne ne2]; exact hl0
        · have ne : l ≠ D := fun z => by rw [z, hDl] at hl5; cases hl5
          rw [upd_ne ne, upd_same]
      | i + 2, hx, _, _ => exact absurd hx (by simp)
    obtain ⟨l, m, rfl, hl5, hm5⟩ : ∃ l m, ys = [.ref l, .ref m] ∧ H5 l = some (.lst (p.map V.str)) ∧ H5 m = some (.lst (q.map V.str)) := pv
    have twH : Two H5 D l m p q := ⟨hDl, hl5, hm5⟩
    have twP : Two H5 lp c d p q := tw4.same s5
    refine ⟨5, rfl, by decide, by decide, for_range (n := (5 : Int).toNat) (fun i σ H6 => ∃ e10 e11, σ = [some (.ref a), some (.ref zs), some (.ref zw), some (.ref lp), e4, e5, e6, e7, e8, some (.ref D), e10, e11] ∧ Same H5 H6) ⟨none, none, rfl, Same.refl _⟩ ?_ ?_⟩
    · rintro i σ H6 hi ⟨e10, e11, rfl, s6⟩
      have hi5 : i < 5 := hi
      have twH6 := twH.same s6
      have twP6 := twP.same s6
      refine rq_set' (tcall (ga_cons (gv_var (by rfl)) fun H7 s7 => ga_cons (gv_ixL (K := K) (gv_var (by rfl)) (fun _ _ => gv_c) (SqL.of (twH6.same s7).all) (v := .ref l) (atI_zero _ _)) fun H8 s8 => ga_1 (gv_ixL (K := K) (gv_var (by rfl)) (fun _ _ => gv_c) (SqL.of (twH6.same (s7.trans s8)).all) (v := .ref m) (atI_one _ _ _)))
        fun H7 s7 => ⟨i, l, m, p, q, by simp, by omega, (twH6.same s7).one, (twH6.same s7).two, smp, smq, wishT_of fun x H8 s8 res => ?_⟩)
      have s08 := s6.trans (s7.trans s8)
      have twH8 := twH.same s08
      have twP8 := twP.same s08
      refine rq_ifF (gt_eq (gt_or (p := false) (q := false) (fun R' r' => ⟨x, rfl, tcall (ga_cons (gv_var (by rfl)) fun H9 s9 => ga_cons (gv_ixL (K := K) (gv_var (by rfl)) (fun _ _ => gv_c) (SqL.of (twP8.same s9).all) (v := .ref c) (atI_zero _ _)) fun H10 s10 => ga_1 (gv_ixL (K := K) (gv_var (by rfl)) (fun _ _ => gv_c) (SqL.of (twP8.same (s9.trans s10)).all) (v := .ref d) (atI_one _ _ _)))
          fun H9 s9 => ⟨i, c, d, p, q, by simp, by omega, (twP8.same s9).one, (twP8.same s9).two, smp, smq, wishT_of fun y H10 s10 res2 => .inl ⟨dtO (toldO i p q), dep_dtO _, rep_res (s9.trans s10) res, rep_res (Same.refl _) res2, ⟨false, rfl, r' H10 (s9.trans s10)⟩⟩⟩⟩)
        fun _ H9 s9 => (fun R' r' => ⟨_, rfl, _, rfl, .inl ⟨dt2 p q, dep_dt2 p q, (twH8.same s9).rep, (twP8.same s9).rep, ⟨false, rfl, r' H9 (Same.refl _)⟩⟩⟩)) rfl) fun H9 s9 => ?_
      have hlen : ∀ r, toldO i p q = .made r → r.length ≤ 60 := fun r e => told_len smp smq e
      generalize toldO i p q = o at *
      cases o with
      | made p' =>
        obtain ⟨r, rfl, hr7, hr8⟩ := res
        have hlp' := hlen p' rfl
        refine rs_ifT (gt_tB fun R' r' => ga_to (ga_cons (gv_var (by rfl)) fun _ _ => ga_1 gv_c) fun H10 s10 => ⟨_, _, .type "list", true, rfl, .inr ⟨_, rfl⟩, .of (.lst ((s9.trans s10) _ _ hr8)), T.kt_list_list, r' H10 s10⟩) fun H10 s10 => ?_
        have hr10 := (s9.trans s10) _ _ hr8
        refine ⟨_, rfl, .inl ⟨rfl, _, SqL.of hr10⟩, r, _, _, rfl, rfl, hr10, ?_, ?_⟩
        · rw [List.length_map]
          exact Nat.lt_of_le_of_lt (show p'.length ≤ 1000 by omega) (by decide)
        · exact ⟨_, _, rfl, (s08.trans (s9.trans s10)).put ((s6.trans s7).free hr7) _⟩
      | bad =>
        cases (show x = _ from res)
        refine rs_ifF (gt_tB fun R' r' => ga_to (ga_cons (gv_var (by rfl)) fun _ _ => ga_1 gv_c) fun H10 s10 => ⟨_, _, .type "str", false, rfl, .inr ⟨_, rfl⟩, .of (.str _), T.kt_str_list, r' H10 s10⟩) fun H10 s10 => ?_
        exact ⟨_, _, rfl, s08.trans (s9.trans s10)⟩
      | unl =>
        cases (show x = _ from res)
        refine rs_ifF (gt_tB fun R' r' => ga_to (ga_cons (gv_var (by rfl)) fun _ _ => ga_1 gv_c) fun H10 s10 => ⟨_, _, .type "str", false, rfl, .inr ⟨_, rfl⟩, .of (.str _), T.kt_str_list, r' H10 s10⟩) fun H10 s10 => ?_
        exact ⟨_, _, rfl, s08.trans (s9.trans s10)⟩
    · rintro σ H6 ⟨e10, e11, rfl, s6⟩
      exact ⟨_, rfl, _, rfl, dt2 p q, dep_dt2 p q, (twH.same s6).rep, (twP.same s6).rep, kk _⟩
end
end K01

namespace K01
open PySem PySem.Spec PyProof.Rows L2
theorem txt_mk {K : PySem.W.Frag} {h : Heap} {mg : Str → Option Value} {fa : Addr} (X : K.In h) (G : h.Ns mainGlobals mg) (hfa : mg "law" = some (.ref fa))
    {f_are_letters : Addr} {od_are_letters an_are_letters : Option Addr} {sl_are_letters : Array (Option Value)} {oc_are_letters kV_are_letters dc_are_letters pm_are_letters cd_are_letters ct_are_letters : Value}
    {f_is_picture : Addr} {od_is_picture an_is_picture : Option Addr} {sl_is_picture : Array (Option Value)} {oc_is_picture kV_is_picture dc_is_picture pm_is_picture cd_is_picture ct_is_picture : Value}
    {f_look_picture : Addr} {od_look_picture an_look_picture : Option Addr} {sl_look_picture : Array (Option Value)} {oc_look_picture kV_look_picture dc_look_picture pm_look_picture cd_look_picture ct_look_picture : Value}
    {f_column_at : Addr} {od_column_at an_column_at : Option Addr} {sl_column_at : Array (Option Value)} {oc_column_at kV_column_at dc_column_at pm_column_at cd_column_at ct_column_at : Value}
    {f_columns_of : Addr} {od_columns_of an_columns_of : Option Addr} {sl_columns_of : Array (Option Value)} {oc_columns_of kV_columns_of dc_columns_of pm_columns_of cd_columns_of ct_columns_of : Value}
    {f_mirrored : Addr} {od_mirrored an_mirrored : Option Addr} {sl_mirrored : Array (Option Value)} {oc_mirrored kV_mirrored dc_mirrored pm_mirrored cd_mirrored ct_mirrored : Value}
    {f_flipped : Addr} {od_flipped an_flipped : Option Addr} {sl_flipped : Array (Option Value)} {oc_flipped kV_flipped dc_flipped pm_flipped cd_flipped ct_flipped : Value}
    {f_beside : Addr} {od_beside an_beside : Option Addr} {sl_beside : Array (Option Value)} {oc_beside kV_beside dc_beside pm_beside cd_beside ct_beside : Value}
    {f_over : Addr} {od_over an_over : Option Addr} {sl_over : Array (Option Value)} {oc_over kV_over dc_over pm_over cd_over ct_over : Value}
    {f__law_cell : Addr} {od__law_cell an__law_cell : Option Addr} {sl__law_cell : Array (Option Value)} {oc__law_cell kV__law_cell dc__law_cell pm__law_cell cd__law_cell ct__law_cell : Value}
    {f__law_mix : Addr} {od__law_mix an__law_mix : Option Addr} {sl__law_mix : Array (Option Value)} {oc__law_mix kV__law_mix dc__law_mix pm__law_mix cd__law_mix ct__law_mix : Value}
    {f__law_picture : Addr} {od__law_picture an__law_picture : Option Addr} {sl__law_picture : Array (Option Value)} {oc__law_picture kV__law_picture dc__law_picture pm__law_picture cd__law_picture ct__law_picture : Value}
    {f__law_refusal : Addr} {od__law_refusal an__law_refusal : Option Addr} {sl__law_refusal : Array (Option Value)} {oc__law_refusal kV__law_refusal dc__law_refusal pm__law_refusal cd__law_refusal ct__law_refusal : Value}
    {f__law_good : Addr} {od__law_good an__law_good : Option Addr} {sl__law_good : Array (Option Value)} {oc__law_good kV__law_good dc__law_good pm__law_good cd__law_good ct__law_good : Value}
    {f__law_spoilt : Addr} {od__law_spoilt an__law_spoilt : Option Addr} {sl__law_spoilt : Array (Option Value)} {oc__law_spoilt kV__law_spoilt dc__law_spoilt pm__law_spoilt cd__law_spoilt ct__law_spoilt : Value}
    {f__law_told : Addr} {od__law_told an__law_told : Option Addr} {sl__law_told : Array (Option Value)} {oc__law_told kV__law_told dc__law_told pm__law_told cd__law_told ct__law_told : Value}
    {f__law_due : Addr} {od__law_due an__law_due : Option Addr} {sl__law_due : Array (Option Value)} {oc__law_due kV__law_due dc__law_due pm__law_due cd__law_due ct__law_due : Value}
    {f_law : Addr} {od_law an_law : Option Addr} {sl_law : Array (Option Value)} {oc_law kV_law dc_law pm_law cd_law ct_law : Value}
    {tk_LETTERS : Tok}
    {tk_MOST_ROWS : Tok}
    {tk_MOST_COLUMNS : Tok}
    {c_QuiltError : Addr}
    {c_BadPicture : Addr}
    {c_BadSize : Addr}
    {c_BadSystem : Addr}
    {c_BadText : Addr}
    {c_Unlike : Addr}
    (a_are_letters : PySem.W.nsIn K mainGlobals "are_letters" = some (some (.ref f_are_letters)))
    (l_are_letters : K.lookup f_are_letters = some ⟨oc_are_letters, od_are_letters, .func (PySem.W.fnOf "are_letters" "are_letters" (defArgs s_are_letters) (defBody s_are_letters) (defScope s_are_letters) .none kV_are_letters dc_are_letters pm_are_letters an_are_letters cd_are_letters ct_are_letters), sl_are_letters⟩)
    (c_are_letters : PySem.W.codeIn K cd_are_letters "are_letters" = true)
    (k_are_letters : PySem.W.keepIn K (.ref f_are_letters) = true)
    (a_is_picture : PySem.W.nsIn K mainGlobals "is_picture" = some (some (.ref f_is_picture)))
    (l_is_picture : K.lookup f_is_picture = some ⟨oc_is_picture, od_is_picture, .func (PySem.W.fnOf "is_picture" "is_picture" (defArgs s_is_picture) (defBody s_is_picture) (defScope s_is_picture) .none kV_is_picture dc_is_picture pm_is_picture an_is_picture cd_is_picture ct_is_picture), sl_is_picture⟩)
    (c_is_picture : PySem.W.codeIn K cd_is_picture "is_picture" = true)
    (k_is_picture : PySem.W.keepIn K (.ref f_is_picture) = true)
    (a_look_picture : PySem.W.nsIn K mainGlobals "look_picture" = some (some (.ref f_look_picture)))
    (l_look_picture : K.lookup f_look_picture = some ⟨oc_look_picture, od_look_picture, .func (PySem.W.fnOf "look_picture" "look_picture" (defArgs s_look_picture) (defBody s_look_picture) (defScope s_look_picture) .none kV_look_picture dc_look_picture pm_look_picture an_look_picture cd_look_picture ct_look_picture), sl_look_picture⟩)
    (c_look_picture : PySem.W.codeIn K cd_look_picture "look_picture" = true)
    (k_look_picture : PySem.W.keepIn K (.ref f_look_picture) = true)
    (a_column_at : PySem.W.nsIn K mainGlobals "column_at" = some (some (.ref f_column_at)))
    (l_column_at : K.lookup f_column_at = some ⟨oc_column_at, od_column_at, .func (PySem.W.fnOf "column_at" "column_at" (defArgs s_column_at) (defBody s_column_at) (defScope s_column_at) .none kV_column_at dc_column_at pm_column_at an_column_at cd_column_at ct_column_at), sl_column_at⟩)
    (c_column_at : PySem.W.codeIn K cd_column_at "column_at" = true)
    (k_column_at : PySem.W.keepIn K (.ref f_column_at) = true)
    (a_columns_of : PySem.W.nsIn K mainGlobals "columns_of" = some (some (.ref f_columns_of)))
    (l_columns_of : K.lookup f_columns_of = some ⟨oc_columns_of, od_columns_of, .func (PySem.W.fnOf "columns_of" "columns_of" (defArgs s_columns_of) (defBody s_columns_of) (defScope s_columns_of) .none kV_columns_of dc_columns_of pm_columns_of an_columns_of cd_columns_of ct_columns_of), sl_columns_of⟩)
    (c_columns_of : PySem.W.codeIn K cd_columns_of "columns_of" = true)
    (k_columns_of : PySem.W.keepIn K (.ref f_columns_of) = true)
    (a_mirrored : PySem.W.nsIn K mainGlobals "mirrored" = some (some (.ref f_mirrored)))
    (l_mirrored : K.lookup f_mirrored = some ⟨oc_mirrored, od_mirrored, .func (PySem.W.fnOf "mirrored" "mirrored" (defArgs s_mirrored) (defBody s_mirrored) (defScope s_mirrored) .none kV_mirrored dc_mirrored pm_mirrored an_mirrored cd_mirrored ct_mirrored), sl_mirrored⟩)
    (c_mirrored : PySem.W.codeIn K cd_mirrored "mirrored" = true)
    (k_mirrored : PySem.W.keepIn K (.ref f_mirrored) = true)
    (a_flipped : PySem.W.nsIn K mainGlobals "flipped" = some (some (.ref f_flipped)))
    (l_flipped : K.lookup f_flipped = some ⟨oc_flipped, od_flipped, .func (PySem.W.fnOf "flipped" "flipped" (defArgs s_flipped) (defBody s_flipped) (defScope s_flipped) .none kV_flipped dc_flipped pm_flipped an_flipped cd_flipped ct_flipped), sl_flipped⟩)
    (c_flipped : PySem.W.codeIn K cd_flipped "flipped" = true)
    (k_flipped : PySem.W.keepIn K (.ref f_flipped) = true)
    (a_beside : PySem.W.nsIn K mainGlobals "beside" = some (some (.ref f_beside)))
    (l_beside : K.lookup f_beside = some ⟨oc_beside, od_beside, .func (PySem.W.fnOf "beside" "beside" (defArgs s_beside) (defBody s_beside) (defScope s_beside) .none kV_beside dc_beside pm_beside an_beside cd_beside ct_beside), sl_beside⟩)
    (c_beside : PySem.W.codeIn K cd_beside "beside" = true)
    (k_beside : PySem.W.keepIn K (.ref f_beside) = true)
    (a_over : PySem.W.nsIn K mainGlobals "over" = some (some (.ref f_over)))
    (l_over : K.lookup f_over = some ⟨oc_over, od_over, .func (PySem.W.fnOf "over" "over" (defArgs s_over) (defBody s_over) (defScope s_over) .none kV_over dc_over pm_over an_over cd_over ct_over), sl_over⟩)
    (c_over : PySem.W.codeIn K cd_over "over" = true)
    (k_over : PySem.W.keepIn K (.ref f_over) = true)
    (a__law_cell : PySem.W.nsIn K mainGlobals "_law_cell" = some (some (.ref f__law_cell)))
    (l__law_cell : K.lookup f__law_cell = some ⟨oc__law_cell, od__law_cell, .func (PySem.W.fnOf "_law_cell" "_law_cell" (defArgs s__law_cell) (defBody s__law_cell) (defScope s__law_cell) .none kV__law_cell dc__law_cell pm__law_cell an__law_cell cd__law_cell ct__law_cell), sl__law_cell⟩)
    (c__law_cell : PySem.W.codeIn K cd__law_cell "_law_cell" = true)
    (k__law_cell : PySem.W.keepIn K (.ref f__law_cell) = true)
    (a__law_mix : PySem.W.nsIn K mainGlobals "_law_mix" = some (some (.ref f__law_mix)))
    (l__law_mix : K.lookup f__law_mix = some ⟨oc__law_mix, od__law_mix, .func (PySem.W.fnOf "_law_mix" "_law_mix" (defArgs s__law_mix) (defBody s__law_mix) (defScope s__law_mix) .none kV__law_mix dc__law_mix pm__law_mix an__law_mix cd__law_mix ct__law_mix), sl__law_mix⟩)
    (c__law_mix : PySem.W.codeIn K cd__law_mix "_law_mix" = true)
    (k__law_mix : PySem.W.keepIn K (.ref f__law_mix) = true)
    (a__law_picture : PySem.W.nsIn K mainGlobals "_law_picture" = some (some (.ref f__law_picture)))
    (l__law_picture : K.lookup f__law_picture = some ⟨oc__law_picture, od__law_picture, .func (PySem.W.fnOf "_law_picture" "_law_picture" (defArgs s__law_picture) (defBody s__law_picture) (defScope s__law_picture) .none kV__law_picture dc__law_picture pm__law_picture an__law_picture cd__law_picture ct__law_picture), sl__law_picture⟩)
    (c__law_picture : PySem.W.codeIn K cd__law_picture "_law_picture" = true)
    (k__law_picture : PySem.W.keepIn K (.ref f__law_picture) = true)
    (a__law_refusal : PySem.W.nsIn K mainGlobals "_law_refusal" = some (some (.ref f__law_refusal)))
    (l__law_refusal : K.lookup f__law_refusal = some ⟨oc__law_refusal, od__law_refusal, .func (PySem.W.fnOf "_law_refusal" "_law_refusal" (defArgs s__law_refusal) (defBody s__law_refusal) (defScope s__law_refusal) .none kV__law_refusal dc__law_refusal pm__law_refusal an__law_refusal cd__law_refusal ct__law_refusal), sl__law_refusal⟩)
    (c__law_refusal : PySem.W.codeIn K cd__law_refusal "_law_refusal" = true)
    (k__law_refusal : PySem.W.keepIn K (.ref f__law_refusal) = true)
    (a__law_good : PySem.W.nsIn K mainGlobals "_law_good" = some (some (.ref f__law_good)))
    (l__law_good : K.lookup f__law_good = some ⟨oc__law_good, od__law_good, .func (PySem.W.fnOf "_law_good" "_law_good" (defArgs s__law_good) (defBody s__law_good) (defScope s__law_good) .none kV__law_good dc__law_good pm__law_good an__law_good cd__law_good ct__law_good), sl__law_good⟩)
    (c__law_good : PySem.W.codeIn K cd__law_good "_law_good" = true)
    (k__law_good : PySem.W.keepIn K (.ref f__law_good) = true)
    (a__law_spoilt : PySem.W.nsIn K mainGlobals "_law_spoilt" = some (some (.ref f__law_spoilt)))
    (l__law_spoilt : K.lookup f__law_spoilt = some ⟨oc__law_spoilt, od__law_spoilt, .func (PySem.W.fnOf "_law_spoilt" "_law_spoilt" (defArgs s__law_spoilt) (defBody s__law_spoilt) (defScope s__law_spoilt) .none kV__law_spoilt dc__law_spoilt pm__law_spoilt an__law_spoilt cd__law_spoilt ct__law_spoilt), sl__law_spoilt⟩)
    (c__law_spoilt : PySem.W.codeIn K cd__law_spoilt "_law_spoilt" = true)
    (k__law_spoilt : PySem.W.keepIn K (.ref f__law_spoilt) = true)
    (a__law_told : PySem.W.nsIn K mainGlobals "_law_told" = some (some (.ref f__law_told)))
    (l__law_told : K.lookup f__law_told = some ⟨oc__law_told, od__law_told, .func (PySem.W.fnOf "_law_told" "_law_told" (defArgs s__law_told) (defBody s__law_told) (defScope s__law_told) .none kV__law_told dc__law_told pm__law_told an__law_told cd__law_told ct__law_told), sl__law_told⟩)
    (c__law_told : PySem.W.codeIn K cd__law_told "_law_told" = true)
    (k__law_told : PySem.W.keepIn K (.ref f__law_told) = true)
    (a__law_due : PySem.W.nsIn K mainGlobals "_law_due" = some (some (.ref f__law_due)))
    (l__law_due : K.lookup f__law_due = some ⟨oc__law_due, od__law_due, .func (PySem.W.fnOf "_law_due" "_law_due" (defArgs s__law_due) (defBody s__law_due) (defScope s__law_due) .none kV__law_due dc__law_due pm__law_due an__law_due cd__law_due ct__law_due), sl__law_due⟩)
    (c__law_due : PySem.W.codeIn K cd__law_due "_law_due" = true)
    (k__law_due : PySem.W.keepIn K (.ref f__law_due) = true)
    (a_law : PySem.W.nsIn K mainGlobals "law" = some (some (.ref f_law)))
    (l_law : K.lookup f_law = some ⟨oc_law, od_law, .func (PySem.W.fnOf "law" "law" (defArgs s_law) (defBody s_law) (defScope s_law) .none kV_law dc_law pm_law an_law cd_law ct_law), sl_law⟩)
    (c_law : PySem.W.codeIn K cd_law "law" = true)
    (k_law : PySem.W.keepIn K (.ref f_law) = true)
    (a_LETTERS : PySem.W.nsIn K mainGlobals "LETTERS" = some (some (.str "abcd" tk_LETTERS)))
    (a_MOST_ROWS : PySem.W.nsIn K mainGlobals "MOST_ROWS" = some (some (.int 4 tk_MOST_ROWS)))
    (a_MOST_COLUMNS : PySem.W.nsIn K mainGlobals "MOST_COLUMNS" = some (some (.int 12 tk_MOST_COLUMNS)))
    (a_QuiltError : PySem.W.nsIn K mainGlobals "QuiltError" = some (some (.ref c_QuiltError)))
    (a_BadPicture : PySem.W.nsIn K mainGlobals "BadPicture" = some (some (.ref c_BadPicture)))
    (a_BadSize : PySem.W.nsIn K mainGlobals "BadSize" = some (some (.ref c_BadSize)))
    (a_BadSystem : PySem.W.nsIn K mainGlobals "BadSystem" = some (some (.ref c_BadSystem)))
    (a_BadText : PySem.W.nsIn K mainGlobals "BadText" = some (some (.ref c_BadText)))
    (a_Unlike : PySem.W.nsIn K mainGlobals "Unlike" = some (some (.ref c_Unlike)))
    (e_BadPicture : PySem.W.excIn K c_BadPicture [.type "ValueError", .type "Exception", .type "BaseException", .type "object"] "ValueError.__new__" = true)
    (g1_BadPicture : PySem.W.findIn K (.ref c_BadPicture) "__getattribute__" = some (some (.builtin "BaseException.__getattribute__")))
    (g2_BadPicture : PySem.W.findIn K (.ref c_BadPicture) "__getattr__" = some none)
    (g3_BadPicture : PySem.W.findIn K (.ref c_BadPicture) "__class__" = some (some (.builtin "object.__class__")))
    (g4_BadPicture : PySem.W.mroIn K c_BadPicture (.type "BaseException") = some true)
    (g5_BadPicture : PySem.W.mroIn K c_BadPicture (.type "object") = some true)
    (e_Unlike : PySem.W.excIn K c_Unlike [.type "ValueError", .type "Exception", .type "BaseException", .type "object"] "ValueError.__new__" = true)
    (g1_Unlike : PySem.W.findIn K (.ref c_Unlike) "__getattribute__" = some (some (.builtin "BaseException.__getattribute__")))
    (g2_Unlike : PySem.W.findIn K (.ref c_Unlike) "__getattr__" = some none)
    (g3_Unlike : PySem.W.findIn K (.ref c_Unlike) "__class__" = some (some (.builtin "object.__class__")))
    (g4_Unlike : PySem.W.mroIn K c_Unlike (.type "BaseException") = some true)
    (g5_Unlike : PySem.W.mroIn K c_Unlike (.type "object") = some true)
    (kk_BadPicture_BadPicture : PySem.W.kitOne K (.ref c_BadPicture) (.ref c_BadPicture) = some true)
    (kk_BadPicture_BadSize : PySem.W.kitOne K (.ref c_BadPicture) (.ref c_BadSize) = some false)
    (kk_BadPicture_BadSystem : PySem.W.kitOne K (.ref c_BadPicture) (.ref c_BadSystem) = some false)
    (kk_BadPicture_BadText : PySem.W.kitOne K (.ref c_BadPicture) (.ref c_BadText) = some false)
    (kk_BadPicture_Unlike : PySem.W.kitOne K (.ref c_BadPicture) (.ref c_Unlike) = some false)
    (kk_BadPicture_ValueError : PySem.W.kitOne K (.ref c_BadPicture) (.type "ValueError") = some true)
    (kk_Unlike_BadPicture : PySem.W.kitOne K (.ref c_Unlike) (.ref c_BadPicture) = some false)
    (kk_Unlike_BadSize : PySem.W.kitOne K (.ref c_Unlike) (.ref c_BadSize) = some false)
    (kk_Unlike_BadSystem : PySem.W.kitOne K (.ref c_Unlike) (.ref c_BadSystem) = some false)
    (kk_Unlike_BadText : PySem.W.kitOne K (.ref c_Unlike) (.ref c_BadText) = some false)
    (kk_Unlike_Unlike : PySem.W.kitOne K (.ref c_Unlike) (.ref c_Unlike) = some true)
    (kk_Unlike_ValueError : PySem.W.kitOne K (.ref c_Unlike) (.type "ValueError") = some true)
    (hh_BadPicture_QuiltError : PySem.W.exmOne K (.ref c_BadPicture) (.ref c_QuiltError) = some true)
    (hh_Unlike_QuiltError : PySem.W.exmOne K (.ref c_Unlike) (.ref c_QuiltError) = some true)
    (kkt_list_list : PySem.W.kitOne K (.type "list") (.type "list") = some true)
    (kkt_str_list : PySem.W.kitOne K (.type "str") (.type "list") = some false)
    (z_len : PySem.W.nsIn K mainGlobals "len" = some none)
    (z_all : PySem.W.nsIn K mainGlobals "all" = some none)
    (z_range : PySem.W.nsIn K mainGlobals "range" = some none)
    (z_zip : PySem.W.nsIn K mainGlobals "zip" = some none)
    (z_isinstance : PySem.W.nsIn K mainGlobals "isinstance" = some none)
    (z_max : PySem.W.nsIn K mainGlobals "max" = some none)
    (z_list : PySem.W.nsIn K mainGlobals "list" = some none)
    (z_ValueError : PySem.W.nsIn K mainGlobals "ValueError" = some none) :
    ∃ t : Ad, Txt K mg t ∧ fa = t.f_law ∧ ∀ (s : Shared) (u : Value), BindsTo s t.d_law ⟨[u], []⟩ [("_law_script", u)] := by
  have e := hfa.symm.trans (PySem.W.mg_of X G a_law)
  cases e
  exact ⟨⟨f_are_letters, PySem.W.fnOf "are_letters" "are_letters" (defArgs s_are_letters) (defBody s_are_letters) (defScope s_are_letters) .none kV_are_letters dc_are_letters pm_are_letters an_are_letters cd_are_letters ct_are_letters, f_is_picture, PySem.W.fnOf "is_picture" "is_picture" (defArgs s_is_picture) (defBody s_is_picture) (defScope s_is_picture) .none kV_is_picture dc_is_picture pm_is_picture an_is_picture cd_is_picture ct_is_picture, f_look_picture, PySem.W.fnOf "look_picture" "look_picture" (defArgs s_look_picture) (defBody s_look_picture) (defScope s_look_picture) .none kV_look_picture dc_look_picture pm_look_picture an_look_picture cd_look_picture ct_look_picture, f_column_at, PySem.W.fnOf "column_at" "column_at" (defArgs s_column_at) (defBody s_column_at) (defScope s_column_at) .none kV_column_at dc_column_at pm_column_at an_column_at cd_column_at ct_column_at, f_columns_of, PySem.W.fnOf "columns_of" "columns_of" (defArgs s_columns_of) (defBody s_columns_of) (defScope s_columns_of) .none kV_columns_of dc_columns_of pm_columns_of an_columns_of cd_columns_of ct_columns_of, f_mirrored, PySem.W.fnOf "mirrored" "mirrored" (defArgs s_mirrored) (defBody s_mirrored) (defScope s_mirrored) .none kV_mirrored dc_mirrored pm_mirrored an_mirrored cd_mirrored ct_mirrored, f_flipped, PySem.W.fnOf "flipped" "flipped" (defArgs s_flipped) (defBody s_flipped) (defScope s_flipped) .none kV_flipped dc_flipped pm_flipped an_flipped cd_flipped ct_flipped, f_beside, PySem.W.fnOf "beside" "beside" (defArgs s_beside) (defBody s_beside) (defScope s_beside) .none kV_beside dc_beside pm_beside an_beside cd_beside ct_beside, f_over, PySem.W.fnOf "over" "over" (defArgs s_over) (defBody s_over) (defScope s_over) .none kV_over dc_over pm_over an_over cd_over ct_over, f__law_cell, PySem.W.fnOf "_law_cell" "_law_cell" (defArgs s__law_cell) (defBody s__law_cell) (defScope s__law_cell) .none kV__law_cell dc__law_cell pm__law_cell an__law_cell cd__law_cell ct__law_cell, f__law_mix, PySem.W.fnOf "_law_mix" "_law_mix" (defArgs s__law_mix) (defBody s__law_mix) (defScope s__law_mix) .none kV__law_mix dc__law_mix pm__law_mix an__law_mix cd__law_mix ct__law_mix, f__law_picture, PySem.W.fnOf "_law_picture" "_law_picture" (defArgs s__law_picture) (defBody s__law_picture) (defScope s__law_picture) .none kV__law_picture dc__law_picture pm__law_picture an__law_picture cd__law_picture ct__law_picture, f__law_refusal, PySem.W.fnOf "_law_refusal" "_law_refusal" (defArgs s__law_refusal) (defBody s__law_refusal) (defScope s__law_refusal) .none kV__law_refusal dc__law_refusal pm__law_refusal an__law_refusal cd__law_refusal ct__law_refusal, f__law_good, PySem.W.fnOf "_law_good" "_law_good" (defArgs s__law_good) (defBody s__law_good) (defScope s__law_good) .none kV__law_good dc__law_good pm__law_good an__law_good cd__law_good ct__law_good, f__law_spoilt, PySem.W.fnOf "_law_spoilt" "_law_spoilt" (defArgs s__law_spoilt) (defBody s__law_spoilt) (defScope s__law_spoilt) .none kV__law_spoilt dc__law_spoilt pm__law_spoilt an__law_spoilt cd__law_spoilt ct__law_spoilt, f__law_told, PySem.W.fnOf "_law_told" "_law_told" (defArgs s__law_told) (defBody s__law_told) (defScope s__law_told) .none kV__law_told dc__law_told pm__law_told an__law_told cd__law_told ct__law_told, f__law_due, PySem.W.fnOf "_law_due" "_law_due" (defArgs s__law_due) (defBody s__law_due) (defScope s__law_due) .none kV__law_due dc__law_due pm__law_due an__law_due cd__law_due ct__law_due, fa, PySem.W.fnOf "law" "law" (defArgs s_law) (defBody s_law) (defScope s_law) .none kV_law dc_law pm_law an_law cd_law ct_law, .str "abcd" tk_LETTERS, .int 4 tk_MOST_ROWS, .int 12 tk_MOST_COLUMNS, c_QuiltError, c_BadPicture, c_BadSize, c_BadSystem, c_BadText, c_Unlike⟩, ⟨⟨fun_mk (st := s_are_letters) l_are_letters c_are_letters k_are_letters, (fun_mk (st := s_are_letters) l_are_letters c_are_letters k_are_letters).binds (ps := ["text"]) (fun _ _ _ _ _ _ us hl => match us, hl with | [_], _ => rfl), PySem.W.mg_of X G a_are_letters⟩,
    ⟨fun_mk (st := s_is_picture) l_is_picture c_is_picture k_is_picture, (fun_mk (st := s_is_picture) l_is_picture c_is_picture k_is_picture).binds (ps := ["rows"]) (fun _ _ _ _ _ _ us hl => match us, hl with | [_], _ => rfl), PySem.W.mg_of X G a_is_picture⟩,
    ⟨fun_mk (st := s_look_picture) l_look_picture c_look_picture k_look_picture, (fun_mk (st := s_look_picture) l_look_picture c_look_picture k_look_picture).binds (ps := ["picture"]) (fun _ _ _ _ _ _ us hl => match us, hl with | [_], _ => rfl), PySem.W.mg_of X G a_look_picture⟩,
    ⟨fun_mk (st := s_column_at) l_column_at c_column_at k_column_at, (fun_mk (st := s_column_at) l_column_at c_column_at k_column_at).binds (ps := ["picture", "place"]) (fun _ _ _ _ _ _ us hl => match us, hl with | [_, _], _ => rfl), PySem.W.mg_of X G a_column_at⟩,
    ⟨fun_mk (st := s_columns_of) l_columns_of c_columns_of k_columns_of, (fun_mk (st := s_columns_of) l_columns_of c_columns_of k_columns_of).binds (ps := ["picture"]) (fun _ _ _ _ _ _ us hl => match us, hl with | [_], _ => rfl), PySem.W.mg_of X G a_columns_of⟩,
    ⟨fun_mk (st := s_mirrored) l_mirrored c_mirrored k_mirrored, (fun_mk (st := s_mirrored) l_mirrored c_mirrored k_mirrored).binds (ps := ["picture"]) (fun _ _ _ _ _ _ us hl => match us, hl with | [_], _ => rfl), PySem.W.mg_of X G a_mirrored⟩,
    ⟨fun_mk (st := s_flipped) l_flipped c_flipped k_flipped, (fun_mk (st := s_flipped) l_flipped c_flipped k_flipped).binds (ps := ["picture"]) (fun _ _ _ _ _ _ us hl => match us, hl with | [_], _ => rfl), PySem.W.mg_of X G a_flipped⟩,
    ⟨fun_mk (st := s_beside) l_beside c_beside k_beside, (fun_mk (st := s_beside) l_beside c_beside k_beside).binds (ps := ["one", "other"]) (fun _ _ _ _ _ _ us hl => match us, hl with | [_, _], _ => rfl), PySem.W.mg_of X G a_beside⟩,
    ⟨fun_mk (st := s_over) l_over c_over k_over, (fun_mk (st := s_over) l_over c_over k_over).binds (ps := ["one", "other"]) (fun _ _ _ _ _ _ us hl => match us, hl with | [_, _], _ => rfl), PySem.W.mg_of X G a_over⟩,
    ⟨fun_mk (st := s__law_cell) l__law_cell c__law_cell k__law_cell, (fun_mk (st := s__law_cell) l__law_cell c__law_cell k__law_cell).binds (ps := ["_law_script", "_law_k"]) (fun _ _ _ _ _ _ us hl => match us, hl with | [_, _], _ => rfl), PySem.W.mg_of X G a__law_cell⟩,
    ⟨fun_mk (st := s__law_mix) l__law_mix c__law_mix k__law_mix, (fun_mk (st := s__law_mix) l__law_mix c__law_mix k__law_mix).binds (ps := ["_law_script", "_law_k"]) (fun _ _ _ _ _ _ us hl => match us, hl with | [_, _], _ => rfl), PySem.W.mg_of X G a__law_mix⟩,
    ⟨fun_mk (st := s__law_picture) l__law_picture c__law_picture k__law_picture, (fun_mk (st := s__law_picture) l__law_picture c__law_picture k__law_picture).binds (ps := ["_law_script", "_law_k", "_law_high", "_law_wide", "_law_letters"]) (fun _ _ _ _ _ _ us hl => match us, hl with | [_, _, _, _, _], _ => rfl), PySem.W.mg_of X G a__law_picture⟩,
    ⟨fun_mk (st := s__law_refusal) l__law_refusal c__law_refusal k__law_refusal, (fun_mk (st := s__law_refusal) l__law_refusal c__law_refusal k__law_refusal).binds (ps := ["_law_kept"]) (fun _ _ _ _ _ _ us hl => match us, hl with | [_], _ => rfl), PySem.W.mg_of X G a__law_refusal⟩,
    ⟨fun_mk (st := s__law_good) l__law_good c__law_good k__law_good, (fun_mk (st := s__law_good) l__law_good c__law_good k__law_good).binds (ps := ["_law_picture_here"]) (fun _ _ _ _ _ _ us hl => match us, hl with | [_], _ => rfl), PySem.W.mg_of X G a__law_good⟩,
    ⟨fun_mk (st := s__law_spoilt) l__law_spoilt c__law_spoilt k__law_spoilt, (fun_mk (st := s__law_spoilt) l__law_spoilt c__law_spoilt k__law_spoilt).binds (ps := ["_law_picture_here", "_law_number"]) (fun _ _ _ _ _ _ us hl => match us, hl with | [_, _], _ => rfl), PySem.W.mg_of X G a__law_spoilt⟩,
    ⟨fun_mk (st := s__law_told) l__law_told c__law_told k__law_told, (fun_mk (st := s__law_told) l__law_told c__law_told k__law_told).binds (ps := ["_law_way", "_law_one", "_law_other"]) (fun _ _ _ _ _ _ us hl => match us, hl with | [_, _, _], _ => rfl), PySem.W.mg_of X G a__law_told⟩,
    ⟨fun_mk (st := s__law_due) l__law_due c__law_due k__law_due, (fun_mk (st := s__law_due) l__law_due c__law_due k__law_due).binds (ps := ["_law_way", "_law_one", "_law_other"]) (fun _ _ _ _ _ _ us hl => match us, hl with | [_, _, _], _ => rfl), PySem.W.mg_of X G a__law_due⟩,
    ⟨fun_mk (st := s_law) l_law c_law k_law, (fun_mk (st := s_law) l_law c_law k_law).binds (ps := ["_law_script"]) (fun _ _ _ _ _ _ us hl => match us, hl with | [_], _ => rfl), PySem.W.mg_of X G a_law⟩,
    PySem.W.mg_of X G a_LETTERS,
    ⟨_, rfl⟩,
    PySem.W.mg_of X G a_MOST_ROWS,
    ⟨_, rfl⟩,
    PySem.W.mg_of X G a_MOST_COLUMNS,
    ⟨_, rfl⟩,
    PySem.W.mg_of X G a_QuiltError,
    PySem.W.mg_of X G a_BadPicture,
    PySem.W.mg_of X G a_BadSize,
    PySem.W.mg_of X G a_BadSystem,
    PySem.W.mg_of X G a_BadText,
    PySem.W.mg_of X G a_Unlike,
    ⟨PySem.W.mg_of X G a_BadPicture, e_BadPicture⟩,
    ⟨g1_BadPicture, g2_BadPicture, g3_BadPicture, g4_BadPicture, g5_BadPicture⟩,
    ⟨PySem.W.mg_of X G a_Unlike, e_Unlike⟩,
    ⟨g1_Unlike, g2_Unlike, g3_Unlike, g4_Unlike, g5_Unlike⟩,
    kk_BadPicture_BadPicture,
    kk_BadPicture_BadSize,
    kk_BadPicture_BadSystem,
    kk_BadPicture_BadText,
    kk_BadPicture_Unlike,
    kk_BadPicture_ValueError,
    kk_Unlike_BadPicture,
    kk_Unlike_BadSize,
    kk_Unlike_BadSystem,
    kk_Unlike_BadText,
    kk_Unlike_Unlike,
    kk_Unlike_ValueError,
    hh_BadPicture_QuiltError,
    hh_Unlike_QuiltError,
    kkt_list_list,
    kkt_str_list,
    PySem.W.mg_none_of X G z_len,
    PySem.W.mg_none_of X G z_all,
    PySem.W.mg_none_of X G z_range,
    PySem.W.mg_none_of X G z_zip,
    PySem.W.mg_none_of X G z_isinstance,
    PySem.W.mg_none_of X G z_max,
    PySem.W.mg_none_of X G z_list,
    PySem.W.mg_none_of X G z_ValueError⟩, rfl, fun s u => .of_eq rfl⟩

theorem all_of {P : Program} {w : World} {K : PySem.W.Frag} {mg : Str → Option Value} {fa : Addr} (h : ∃ t : Ad, Txt K mg t ∧ fa = t.f_law ∧ ∀ (s : Shared) (u : Value), BindsTo s t.d_law ⟨[u], []⟩ [("_law_script", u)]) :
    ∃ fd : FuncData, (∀ (s : Shared) (u : Value), BindsTo s fd ⟨[u], []⟩ [("_law_script", u)]) ∧ ∀ base : Heap, K.In base → base.Ns mainGlobals mg → FnOk P w K mg base CX0 12 fa fd ["_law_script"] (spLaw K) := by
  obtain ⟨t, T, rfl, hb⟩ := h
  exact ⟨_, hb, fun base _ _ => ok_law T⟩
theorem walk {l : PySem.W.OpenLaw} {q : Program} {loose : List Str} {XP : (Str → Option Value) → Heap → Prop} {YP : World → Heap → Prop} {d : DefRec} {K : Params → PySem.W.Frag} (hn : l.most = some 63) (hdf : d.params.defaults = [])
    (hY : ∀ (w : World) (h : Heap), YP w h → (K w.params).In h)
    (F : ∀ (w : World) (mg : Str → Option Value) (fa : Addr) (h : Heap), (K w.params).In h → h.Ns mainGlobals mg → mg d.name = some (.ref fa) →
      ∃ fd : FuncData, (∀ (s : Shared) (u : Value), BindsTo s fd ⟨[u], []⟩ [("_law_script", u)]) ∧ ∀ base : Heap, (K w.params).In base → base.Ns mainGlobals mg → FnOk l.prog w (K w.params) mg base CX0 12 fa fd ["_law_script"] (spLaw (K w.params))) :
    PySem.W.WalkO q loose XP YP l.row.toRowW d [] (fun f vs => PySem.call f vs) :=
  L2.walk_of (n := 63) (k := 12) (x := "_law_script") (CX := fun _ => CX0) (sp := fun w => spLaw (K w.params)) hn (by decide) hdf ⟨rfl, by decide, by decide⟩ hY F (fun _ _ a ns hl _ hS => ⟨a, ns, rfl, hS, hl, fun _ => rfl⟩) fun _ _ _ _ _ z => z
end K01
open PySem PySem.W PyProof.Rows
set_option maxRecDepth 100000 in
set_option maxHeartbeats 0 in
theorem PySem.Challenge.cw_quiltyard_k01_pictures_holds : PySem.Challenge.rw_quiltyard_k01_pictures.Holds := by
  w_on; o_law; k_head; (case hw => w_witness2)
  k_fill
  refine K01.walk (l := PySem.Challenge.rw_quiltyard_k01_pictures) rfl rfl (fun w h Y => PySem.W.kIn_of Y) ?F
  case F =>
    intro w mg fa h KX G hmg
    refine K01.all_of ?T
    case T =>
      refine' K01.txt_mk KX G hmg ?a_are_letters ?l_are_letters ?c_are_letters ?k_are_letters ?a_is_picture ?l_is_picture ?c_is_picture ?k_is_picture ?a_look_picture ?l_look_picture ?c_look_picture ?k_look_picture ?a_column_at ?l_column_at ?c_column_at ?k_column_at ?a_columns_of ?l_columns_of ?c_columns_of ?k_columns_of ?a_mirrored ?l_mirrored ?c_mirrored ?k_mirrored ?a_flipped ?l_flipped ?c_flipped ?k_flipped ?a_beside ?l_beside ?c_beside ?k_beside ?a_over ?l_over ?c_over ?k_over ?a__law_cell ?l__law_cell ?c__law_cell ?k__law_cell ?a__law_mix ?l__law_mix ?c__law_mix ?k__law_mix ?a__law_picture ?l__law_picture ?c__law_picture ?k__law_picture ?a__law_refusal ?l__law_refusal ?c__law_refusal ?k__law_refusal ?a__law_good ?l__law_good ?c__law_good ?k__law_good ?a__law_spoilt ?l__law_spoilt ?c__law_spoilt ?k__law_spoilt ?a__law_told ?l__law_told ?c__law_told ?k__law_told ?a__law_due ?l__law_due ?c__law_due ?k__law_due ?a_law ?l_law ?c_law ?k_law ?a_LETTERS ?a_MOST_ROWS ?a_MOST_COLUMNS ?a_QuiltError ?a_BadPicture ?a_BadSize ?a_BadSystem ?a_BadText ?a_Unlike ?e_BadPicture ?g1_BadPicture ?g2_BadPicture ?g3_BadPicture ?g4_BadPicture ?g5_BadPicture ?e_Unlike ?g1_Unlike ?g2_Unlike ?g3_Unlike ?g4_Unlike ?g5_Unlike ?kk_BadPicture_BadPicture ?kk_BadPicture_BadSize ?kk_BadPicture_BadSystem ?kk_BadPicture_BadText ?kk_BadPicture_Unlike ?kk_BadPicture_ValueError ?kk_Unlike_BadPicture ?kk_Unlike_BadSize ?kk_Unlike_BadSystem ?kk_Unlike_BadText ?kk_Unlike_Unlike ?kk_Unlike_ValueError ?hh_BadPicture_QuiltError ?hh_Unlike_QuiltError ?kkt_list_list ?kkt_str_list ?z_len ?z_all ?z_range ?z_zip ?z_isinstance ?z_max ?z_list ?z_ValueError
      (case a_are_letters => k_is)
      (case l_are_letters => k_is)
      (case c_are_letters => k_is)
      (case k_are_letters => k_is)
      (case a_is_picture => k_is)
      (case l_is_picture => k_is)
      (case c_is_picture => k_is)
      (case k_is_picture => k_is)
      (case a_look_picture => k_is)
      (case l_look_picture => k_is)
      (case c_look_picture => k_is)
      (case k_look_picture => k_is)
      (case a_column_at => k_is)
      (case l_column_at => k_is)
      (case c_column_at => k_is)
      (case k_column_at => k_is)
      (case a_columns_of => k_is)
      (case l_columns_of => k_is)
      (case c_columns_of => k_is)
      (case k_columns_of => k_is)
      (case a_mirrored => k_is)
      (case l_mirrored => k_is)
      (case c_mirrored => k_is)
      (case k_mirrored => k_is)
      (case a_flipped => k_is)
      (case l_flipped => k_is)
      (case c_flipped => k_is)
      (case k_flipped => k_is)
      (case a_beside => k_is)
      (case l_beside => k_is)
      (case c_beside => k_is)
      (case k_beside => k_is)
      (case a_over => k_is)
      (case l_over => k_is)
      (case c_over => k_is)
      (case k_over => k_is)
      (case a__law_cell => k_is)
      (case l__law_cell => k_is)
      (case c__law_cell => k_is)
      (case k__law_cell => k_is)
      (case a__law_mix => k_is)
      (case l__law_mix => k_is)
      (case c__law_mix => k_is)
      (case k__law_mix => k_is)
      (case a__law_picture => k_is)
      (case l__law_picture => k_is)
      (case c__law_picture => k_is)
      (case k__law_picture => k_is)
      (case a__law_refusal => k_is)
      (case l__law_refusal => k_is)
      (case c__law_refusal => k_is)
      (case k__law_refusal => k_is)
      (case a__law_good => k_is)
      (case l__law_good => k_is)
      (case c__law_good => k_is)
      (case k__law_good => k_is)
      (case a__law_spoilt => k_is)
      (case l__law_spoilt => k_is)
      (case c__law_spoilt => k_is)
      (case k__law_spoilt => k_is)
      (case a__law_told => k_is)
      (case l__law_told => k_is)
      (case c__law_told => k_is)
      (case k__law_told => k_is)
      (case a__law_due => k_is)
      (case l__law_due => k_is)
      (case c__law_due => k_is)
      (case k__law_due => k_is)
      (case a_law => k_is)
      (case l_law => k_is)
      (case c_law => k_is)
      (case k_law => k_is)
      (case a_LETTERS => k_is)
      (case a_MOST_ROWS => k_is)
      (case a_MOST_COLUMNS => k_is)
      (case a_QuiltError => k_is)
      (case a_BadPicture => k_is)
      (case a_BadSize => k_is)
      (case a_BadSystem => k_is)
      (case a_BadText => k_is)
      (case a_Unlike => k_is)
      (case e_BadPicture => first | rfl | kernel_rfl)
      (case g1_BadPicture => k_is)
      (case g2_BadPicture => k_is)
      (case g3_BadPicture => k_is)
      (case g4_BadPicture => k_is)
      (case g5_BadPicture => k_is)
      (case e_Unlike => first | rfl | kernel_rfl)
      (case g1_Unlike => k_is)
      (case g2_Unlike => k_is)
      (case g3_Unlike => k_is)
      (case g4_Unlike => k_is)
      (case g5_Unlike => k_is)
      (case kk_BadPicture_BadPicture => kit_is)
      (case kk_BadPicture_BadSize => kit_is)
      (case kk_BadPicture_BadSystem => kit_is)
      (case kk_BadPicture_BadText => kit_is)
      (case kk_BadPicture_Unlike => kit_is)
      (case kk_BadPicture_ValueError => kit_is)
      (case kk_Unlike_BadPicture => kit_is)
      (case kk_Unlike_BadSize => kit_is)
      (case kk_Unlike_BadSystem => kit_is)
      (case kk_Unlike_BadText => kit_is)
      (case kk_Unlike_Unlike => kit_is)
      (case kk_Unlike_ValueError => kit_is)
      (case hh_BadPicture_QuiltError => kts_exm)
      (case hh_Unlike_QuiltError => kts_exm)
      (case kkt_list_list => kit_is)
      (case kkt_str_list => kit_is)
      (case z_len => k_is)
      (case z_all => k_is)
      (case z_range => k_is)
      (case z_zip => k_is)
      (case z_isinstance => k_is)
      (case z_max => k_is)
      (case z_list => k_is)
      (case z_ValueError => k_is)
