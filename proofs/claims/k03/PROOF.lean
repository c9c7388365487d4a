import PyProof.Rows.All
import Wide.All
import OpenK.AllK
import Wide.FinOn
import Lean
import PyProof.EqAt
import PyProof.EqKinds
import PyProof.TupleCall
import PySem.Challenge.RW_oathhall_k03_a_house_that_leads
set_option Elab.async false
set_option linter.all false
set_option maxRecDepth 100000
/-! THE HAND LAYER, for ints, bools, texts, own classes, LISTS and tuples (index, slices, in, append, pop ..), calls, loops. Paste it whole ahead of your own text; what your proof does not reach may be deleted. -/
namespace L2
open PySem PySem.Spec PyProof.Rows

/-- a key: an int or a str -/
abbrev Key := Sum Int Str
def keyIs : Key → Value → Bool
  | .inl k, v => Value.isInt k v
  | .inr x, v => Value.isStrOf x v
def keyH (w : World) : Key → Int
  | .inl k => hashInt k
  | .inr x => hashStr w x
theorem keyIs_shape : ∀ {k : Key} {v : Value}, keyIs k v = true → (∃ i t, k = Sum.inl i ∧ v = Value.int i t) ∨ (∃ x t, k = Sum.inr x ∧ v = Value.str x t)
  | .inl i, v, h => by
    obtain ⟨t, e⟩ := Value.isInt_shape (k := i) (v := v) h
    exact .inl ⟨i, t, rfl, e⟩
  | .inr x, v, h => by
    obtain ⟨t, e⟩ := Value.isStrOf_shape (x := x) (v := v) h
    exact .inr ⟨x, t, rfl, e⟩
theorem keyIs_int (i : Int) (t : Tok) : keyIs (.inl i) (.int i t) = true := by simp [keyIs, Value.isInt]
theorem keyIs_str (x : Str) (t : Tok) : keyIs (.inr x) (.str x t) = true := by simp [keyIs, Value.isStrOf]
theorem key_ll (a b : Int) : decide ((Sum.inl a : Key) = Sum.inl b) = (a == b) := by
  by_cases e : a = b
  · subst e; simp
  · have h : ¬ (Sum.inl a : Key) = Sum.inl b := fun q => e (Sum.inl.inj q)
    rw [decide_eq_false h]
    exact (beq_eq_false_iff_ne.mpr e).symm
theorem key_rr (a b : Str) : decide ((Sum.inr a : Key) = Sum.inr b) = decide (a = b) := by
  by_cases e : a = b
  · subst e; simp
  · have h : ¬ (Sum.inr a : Key) = Sum.inr b := fun q => e (Sum.inr.inj q)
    rw [decide_eq_false h, decide_eq_false e]
theorem key_lr (a : Int) (b : Str) : decide ((Sum.inl a : Key) = Sum.inr b) = false := decide_eq_false (fun q => nomatch q)
theorem key_rl (a : Str) (b : Int) : decide ((Sum.inr a : Key) = Sum.inl b) = false := decide_eq_false (fun q => nomatch q)

def mixKind (prog : Program) (w : World) : PySem.KeyKind prog w Key where
  is := keyIs
  hash := keyH w
  inj := fun v a b ha hb => by
    rcases keyIs_shape ha with ⟨i, t, rfl, rfl⟩ | ⟨x, t, rfl, rfl⟩
    · rcases keyIs_shape hb with ⟨j, u, rfl, e⟩ | ⟨y, u, rfl, e⟩
      · injection e with e1 _; rw [e1]
      · exact nomatch e
    · rcases keyIs_shape hb with ⟨j, u, rfl, e⟩ | ⟨y, u, rfl, e⟩
      · exact nomatch e
      · injection e with e1 _; rw [e1]
  byValue := fun k v h => by
    rcases keyIs_shape h with ⟨i, t, rfl, rfl⟩ | ⟨x, t, rfl, rfl⟩ <;> rfl
  pyHash := fun hv h => by
    rcases keyIs_shape hv with ⟨i, t, rfl, rfl⟩ | ⟨x, t, rfl, rfl⟩
    · exact wpAny_pyHash_int h
    · exact wpAny_pyHash_str h
  eqBool := fun hu hv h => by
    rcases keyIs_shape hu with ⟨i, t, rfl, rfl⟩ | ⟨x, t, rfl, rfl⟩
    · rcases keyIs_shape hv with ⟨j, u, rfl, rfl⟩ | ⟨y, u, rfl, rfl⟩
      · rw [key_ll] at h; exact wpAny_eqBool_int h
      · rw [key_lr] at h; exact SeqAt.EqAt.int_str i t y u _ _ _ _ h
    · rcases keyIs_shape hv with ⟨j, u, rfl, rfl⟩ | ⟨y, u, rfl, rfl⟩
      · rw [key_rl] at h; exact SeqAt.EqAt.str_int x t j u _ _ _ _ h
      · rw [key_rr] at h; exact wpAny_eqBool_str h
  «strs» := fun k x t v h => by
    rcases keyIs_shape h with ⟨i, u, rfl, e⟩ | ⟨y, u, rfl, e⟩
    · exact nomatch e
    · injection e with e1 _
      subst e1
      cases v <;> rfl

theorem mixKind_is (prog : Program) (w : World) (k : Key) (v : Value) : (mixKind prog w).is k v = keyIs k v := rfl
theorem mixKind_int (prog : Program) (w : World) (i : Int) (t : Tok) : (mixKind prog w).is (.inl i) (.int i t) = true := keyIs_int i t
theorem mixKind_str (prog : Program) (w : World) (x : Str) (t : Tok) : (mixKind prog w).is (.inr x) (.str x t) = true := keyIs_str x t
end L2

namespace L2
open PySem PySem.Spec PyProof.Rows

/-- a value, without the heap -/
inductive V where
  | non | bl (b : Bool) | int (i : Int) | str (x : Str) | byt (b : Array UInt8) | flt (b : UInt64) | ref (a : Addr) | ty (n : String)
  deriving DecidableEq

def RelV : V → Value → Prop
  | .non, u => u = Value.none
  | .bl b, u => u = Value.bool b
  | .int i, u => ∃ t, u = Value.int i t
  | .str x, u => ∃ t, u = Value.str x t
  | .byt b, u => ∃ t, u = Value.bytes b t
  | .flt b, u => ∃ t, u = Value.float b t
  | .ref a, u => u = Value.ref a
  | .ty n, u => u = Value.type n

abbrev Vals : List V → List Value → Prop := Paired RelV
theorem Vals.length {xs : List V} {us : List Value} (r : Vals xs us) : xs.length = us.length := Paired.length r
theorem Vals.get : ∀ {xs : List V} {us : List Value} {i : Nat} {x : V}, Vals xs us → xs[i]? = some x → ∃ u, us[i]? = some u ∧ RelV x u
  | _, _, _, _, .nil, e => by simp at e
  | _, _, 0, _, .cons r _, e => by simp at e; subst e; exact ⟨_, rfl, r⟩
  | _, _, i + 1, x, .cons _ t, e => by
    obtain ⟨u, h1, h2⟩ := Vals.get (i := i) (x := x) t (by simpa using e)
    exact ⟨u, by simpa using h1, h2⟩
theorem Vals.set {x : V} {u : Value} (r : RelV x u) : ∀ {xs : List V} {us : List Value} (i : Nat), Vals xs us → Vals (xs.set i x) (us.set i u)
  | _, _, _, .nil => .nil
  | _, _, 0, .cons _ t => .cons r t
  | _, _, i + 1, .cons q t => .cons q (Vals.set r i t)
theorem Vals.append : ∀ {xs ys : List V} {us ws : List Value}, Vals xs us → Vals ys ws → Vals (xs ++ ys) (us ++ ws)
  | _, _, _, _, .nil, s => s
  | _, _, _, _, .cons r t, s => .cons r (Vals.append t s)
theorem Vals.take : ∀ {xs : List V} {us : List Value} (n : Nat), Vals xs us → Vals (xs.take n) (us.take n)
  | _, _, 0, _ => .nil
  | _, _, _ + 1, .nil => .nil
  | _, _, n + 1, .cons r t => .cons r (Vals.take n t)
theorem Vals.drop : ∀ {xs : List V} {us : List Value} (n : Nat), Vals xs us → Vals (xs.drop n) (us.drop n)
  | _, _, 0, r => r
  | _, _, _ + 1, .nil => .nil
  | _, _, n + 1, .cons _ t => Vals.drop n t
theorem Vals.none_of : ∀ {xs : List V} {us : List Value} {i : Nat}, Vals xs us → xs[i]? = none → us[i]? = none := fun {xs us i} r e => by
  have h1 := r.length
  have h2 : xs.length ≤ i := List.getElem?_eq_none_iff.mp e
  exact List.getElem?_eq_none_iff.mpr (by omega)

def RelO : Option V → Option Value → Prop
  | some v, some u => RelV v u
  | none, none => True
  | _, _ => False
def KV {κ : Type} : List (κ × V) → List (κ × Value) → Prop := Paired fun (p : κ × V) (q : κ × Value) => p.1 = q.1 ∧ RelV p.2 q.2

/-- a key of a dict (00_mix): an int or a text -/
def kV : Key → V
  | .inl i => .int i
  | .inr x => .str x

/-- what stands at a tracked address -/
inductive HO where
  /-- a list -/
  | lst (xs : List V)
  /-- a tuple (never changes) -/
  | tup (xs : List V)
  /-- a dict whose keys are ints and texts; one whose keys are tuples of ints and texts (the empty one is both) -/
  | dK (kvs : List (Key × V)) | dT (kvs : List (List Key × V))
  /-- a set of ints: its members, its size -/
  | set (S : Int → Bool) (n : Nat)
  /-- an instance of the class at C, its dict at dx, its attributes -/
  | ins (C dx : Addr) (fs : List (Str × V))
  /-- the dict of the instance at x -/
  | own (x : Addr)
  /-- the dict of an exception -/
  | xd (fs : List (Str × V))
  /-- a bound method, f of x -/
  | met (f x : Addr)
  /-- a range object lo, lo + 1, .. below hi -/
  | rng (lo hi : Int)
  /-- a thing that is known to the object (the script; a dict while a loop walks it): read, never written while it is so -/
  | frz (o : Obj) (u : HO)
  /-- a code object's table -/
  | tbl (ps : Array Value)
  /-- any other thing, by what is true of its one object (a def of one's own: SetO a S n := HO.ext fun h => ..) -/
  | ext (φ : Heap → Prop)

abbrev Hp := Addr → Option HO
def upd (H : Hp) (a : Addr) (o : HO) : Hp := fun b => if b = a then some o else H b
theorem upd_same {H : Hp} {a : Addr} {o : HO} : upd H a o a = some o := by unfold upd; rw [if_pos rfl]
theorem upd_ne {H : Hp} {a b : Addr} {o : HO} (h : b ≠ a) : upd H a o b = H b := by unfold upd; rw [if_neg h]
theorem upd_upd {H : Hp} {a : Addr} {o u : HO} : upd (upd H a o) a u = upd H a u := by
  funext b; unfold upd; split <;> rfl
/-- two objects of different content stand apart -/
theorem ne_of {H : Hp} {a b : Addr} {o u : HO} (h : H a = some o) (h' : H b = some u) (d : o ≠ u) : a ≠ b := by
  intro e; subst e; rw [h] at h'; exact d (Option.some.inj h')
theorem ne_of_none {H : Hp} {a b : Addr} {o : HO} (h : H a = some o) (h' : H b = none) : a ≠ b := by
  intro e; subst e; rw [h] at h'; cases h'

section
variable (P : Program) (w : World)
def ObjOk (H : Hp) (h : Heap) (a : Addr) : HO → Prop
  | .lst xs => xs.length ≤ sizeLine ∧ ∃ (its : List Value) (n : Nat), Vals xs its ∧ h.get? a = some { cls := .type "list", data := .seq its.toArray n }
  | .tup xs => xs.length ≤ sizeLine ∧ ∃ its : List Value, Vals xs its ∧ IsTup h a its.toArray
  | .dK kvs => kvs.length ≤ sizeLine ∧ (a == sysModules) = false ∧ ∃ vs, KV kvs vs ∧ h.DictOf (mixKind P w) a vs
  | .dT kvs => kvs.length ≤ sizeLine ∧ (a == sysModules) = false ∧ ∃ xs : List (List Key × Addr × Value),
      Paired (fun (p : List Key × V) (q : List Key × Addr × Value) => p.1 = q.1 ∧ H q.2.1 = some (.tup (p.1.map kV)) ∧ RelV p.2 q.2.2) kvs xs ∧
      ∃ o es ep, h.get? a = some o ∧ o.ExactDict ∧ o.data = .dict es ep ∧ es.toList = xs.map (entryOfKey (tupleKind (mixKind P w))) ∧ (xs.map (·.1)).Nodup
  | .set S n => h.SetOf (intKind P w) a S n
  | .ins C dx fs => H dx = some (.own a) ∧ fs.length ≤ 1000 ∧ dx ≠ a ∧ h.get? a = some (PySem.W.instObj C dx) ∧
      ∃ mA, h.Ns1 dx mA ∧ (∀ f, RelO (fs.lookup f) (mA f)) ∧ PySem.Within mA (fs.map (·.1))
  | .own _ => ∃ o, h.get? a = some o
  | .xd fs => ∃ mA, h.Ns1 a mA ∧ ∀ f, RelO (fs.lookup f) (mA f)
  | .rng lo hi => ∃ t u v, h.get? a = some { cls := .type "range", data := .fields #[.int lo t, .int hi u, .int 1 v] }
  | .frz o u => h.get? a = some o ∧ ObjOk H h a u
  | .tbl ps => h.get? a = some { cls := .none, data := .fields ps }
  | .met f x => h.get? a = some (PySem.W.methodObj (.ref f) (.ref x))
  | .ext φ => φ h ∧ (∃ o, h.get? a = some o) ∧ ∀ h1 h2 : Heap, φ h1 → (∀ o, h1.get? a = some o → h2.get? a = some o) → φ h2
/-- the abstract heap is held -/
def HOk (H : Hp) (h : Heap) : Prop := ∀ a o, H a = some o → ObjOk P w H h a o
end

section
variable {P : Program} {w : World} {H H' : Hp} {h h' : Heap} {a : Addr} {o : HO}
theorem ObjOk.lt (x : ObjOk P w H h a o) : a < h.objs.size := by
  cases o with
  | lst xs => obtain ⟨_, _, _, _, e⟩ := x; exact Heap.lt_size e
  | tup xs => obtain ⟨_, _, _, p⟩ := x; exact p.lt
  | dK kvs => obtain ⟨_, _, _, _, o, _, _, e, _⟩ := x; exact Heap.lt_size e
  | dT kvs => obtain ⟨_, _, _, _, o, _, _, e, _⟩ := x; exact Heap.lt_size e
  | set S n => obtain ⟨o, _, _, _, e, _⟩ := x; exact Heap.lt_size e
  | ins C dx fs => obtain ⟨_, _, _, e, _⟩ := x; exact Heap.lt_size e
  | own y => obtain ⟨_, e⟩ := x; exact Heap.lt_size e
  | xd fs => obtain ⟨_, ⟨_, _, _, e, _⟩, _⟩ := x; exact Heap.lt_size e
  | rng lo hi => obtain ⟨_, _, _, e⟩ := x; exact Heap.lt_size e
  | frz ob u => obtain ⟨e, _⟩ := x; exact Heap.lt_size e
  | tbl ps => exact Heap.lt_size (show h.get? a = some _ from x)
  | met f y => exact Heap.lt_size (show h.get? a = some _ from x)
  | ext φ => obtain ⟨_, ⟨_, e⟩, _⟩ := x; exact Heap.lt_size e
theorem Paired.mapP {α β : Type} {F G : α → β → Prop} : ∀ {l₁ : List α} {l₂ : List β}, Paired F l₁ l₂ → (∀ a b, F a b → G a b) → Paired G l₁ l₂
  | _, _, .nil, _ => .nil
  | _, _, .cons r t, f => .cons (f _ _ r) (Paired.mapP t f)
theorem Paired.imp' {α β : Type} {F G : α → β → Prop} (f : ∀ a b, F a b → G a b) {l₁ : List α} {l₂ : List β} (r : Paired F l₁ l₂) : Paired G l₁ l₂ := Paired.mapP r f
/-- what an object's description leans on: its own object, its own dict, the tuples -/
theorem ObjOk.stay (x : ObjOk P w H h a o) (k : ∀ b u, (b = a ∨ H b = some (.own a)) → h.get? b = some u → h'.get? b = some u)
    (ho : ∀ b, H b = some (.own a) → H' b = some (.own a)) (ht : ∀ b xs, H b = some (.tup xs) → H' b = some (.tup xs)) : ObjOk P w H' h' a o := by
  induction o with
  | lst xs => obtain ⟨z, its, n, r, e⟩ := x; exact ⟨z, its, n, r, k _ _ (.inl rfl) e⟩
  | tup xs => obtain ⟨z, its, r, ob, e, c⟩ := x; exact ⟨z, its, r, ob, k _ _ (.inl rfl) e, c⟩
  | dK kvs => obtain ⟨z, y, vs, r, ob, es, ep, e, c⟩ := x; exact ⟨z, y, vs, r, ob, es, ep, k _ _ (.inl rfl) e, c⟩
  | dT kvs =>
    obtain ⟨z, y, xs, r, ob, es, ep, e, c⟩ := x
    exact ⟨z, y, xs, Paired.mapP r fun p q z => ⟨z.1, ht _ _ z.2.1, z.2.2⟩, ob, es, ep, k _ _ (.inl rfl) e, c⟩
  | set S n => obtain ⟨ob, es, ep, t, e, c⟩ := x; exact ⟨ob, es, ep, t, k _ _ (.inl rfl) e, c⟩
  | ins C dx fs =>
    obtain ⟨d, z, ne, e, mA, ⟨od, es, ep, e2, c⟩, r⟩ := x
    exact ⟨ho _ d, z, ne, k _ _ (.inl rfl) e, mA, ⟨od, es, ep, k _ _ (.inr d) e2, c⟩, r⟩
  | own y => obtain ⟨ob, e⟩ := x; exact ⟨ob, k _ _ (.inl rfl) e⟩
  | xd fs => obtain ⟨mA, ⟨od, es, ep, e, c⟩, r⟩ := x; exact ⟨mA, ⟨od, es, ep, k _ _ (.inl rfl) e, c⟩, r⟩
  | rng lo hi => obtain ⟨t, u, v, e⟩ := x; exact ⟨t, u, v, k _ _ (.inl rfl) e⟩
  | frz ob u ih => obtain ⟨e, q⟩ := x; exact ⟨k _ _ (.inl rfl) e, ih q⟩
  | tbl ps =>
    have e : h.get? a = some { cls := .none, data := .fields ps } := x
    show h'.get? a = some { cls := .none, data := .fields ps }
    exact k a _ (.inl rfl) e
  | met f y =>
    have e : h.get? a = some (PySem.W.methodObj (.ref f) (.ref y)) := x
    show h'.get? a = some (PySem.W.methodObj (.ref f) (.ref y))
    exact k a _ (.inl rfl) e
  | ext φ => obtain ⟨p, ⟨o, e⟩, st⟩ := x; exact ⟨st _ _ p fun o q => k _ _ (.inl rfl) q, ⟨o, k _ _ (.inl rfl) e⟩, st⟩
theorem HOk.lt (x : HOk P w H h) (e : H a = some o) : a < h.objs.size := (x a o e).lt
theorem HOk.fresh (x : HOk P w H h) (e : h.objs.size ≤ a) : H a = none := by
  cases q : H a with
  | none => rfl
  | some u => exact absurd (Nat.lt_of_lt_of_le (x.lt q) e) (Nat.lt_irrefl _)
/-- every object of the heap is kept -/
theorem HOk.kept (x : HOk P w H h) (k : ∀ b u, h.get? b = some u → h'.get? b = some u) : HOk P w H h' := fun a o e =>
  (x a o e).stay (fun b u _ q => k b u q) (fun _ q => q) fun _ _ q => q
/-- a new object is laid and tracked -/
theorem HOk.laid (x : HOk P w H h) (k : ∀ b u, h.get? b = some u → h'.get? b = some u) (hp : h.objs.size ≤ a) (new : ObjOk P w (upd H a o) h' a o) : HOk P w (upd H a o) h' := fun b u e => by
  have hn := x.fresh hp
  by_cases hb : b = a
  · subst hb; rw [upd_same] at e; cases e; exact new
  · rw [upd_ne hb] at e
    exact (x b u e).stay (fun c v _ q => k c v q) (fun c q => by rw [upd_ne (ne_of_none q hn)]; exact q) fun c xs q => by rw [upd_ne (ne_of_none q hn)]; exact q
end

/-- what may be read as u: it is u, or a known u -/
def Rd (H : Hp) (a : Addr) (u : HO) : Prop := H a = some u ∨ ∃ o, H a = some (.frz o u)
theorem Rd.of {H : Hp} {a : Addr} {u : HO} (h : H a = some u) : Rd H a u := .inl h
theorem Rd.ok {P : Program} {w : World} {H : Hp} {h : Heap} {a : Addr} {u : HO} (r : Rd H a u) (x : HOk P w H h) : ObjOk P w H h a u := by
  rcases r with r | ⟨o, r⟩
  · exact x a u r
  · obtain ⟨_, q⟩ := x a _ r
    exact q
/-- what may be written -/
def Mut : Option HO → Prop
  | some (.lst _) => True
  | some (.dK _) => True
  | some (.dT _) => True
  | some (.set _ _) => True
  | some (.ins _ _ _) => True
  | some (.ext _) => True
  | _ => False
section
variable {P : Program} {w : World} {H : Hp} {h h' : Heap} {x e : Addr} {o' : HO}
/-- the object at e is changed: x itself, or the dict of the instance x -/
theorem HOk.write (ok : HOk P w H h) (mu : Mut (H x)) (he : e = x ∨ H e = some (.own x)) (k : ∀ b u, b ≠ e → h.get? b = some u → h'.get? b = some u) (heo : ∃ u, h'.get? e = some u)
    (new : ObjOk P w (upd H x o') h' x o') : HOk P w (upd H x o') h' := fun b u q => by
  have nown : ∀ c y, H c = some (.own y) → c ≠ x := fun c y r z => by subst z; rw [r] at mu; exact mu
  have ntup : ∀ c xs, H c = some (.tup xs) → c ≠ x := fun c xs r z => by subst z; rw [r] at mu; exact mu
  by_cases hb : b = x
  · subst hb; rw [upd_same] at q; cases q; exact new
  · rw [upd_ne hb] at q
    by_cases hbe : b = e
    · have q' : H b = some (.own x) := by
        rcases he with z | z
        · exact absurd (hbe.trans z) hb
        · rw [hbe]; exact z
      rw [q] at q'; cases q'
      obtain ⟨v, hv⟩ := heo
      exact ⟨v, by rw [hbe]; exact hv⟩
    · refine (ok b u q).stay (fun c v hc r => k c v ?_ r) (fun c r => by rw [upd_ne (nown c b r)]; exact r) fun c xs r => by rw [upd_ne (ntup c xs r)]; exact r
      rcases hc with rfl | hc
      · exact hbe
      · rintro rfl
        rcases he with z | z
        · exact nown c b hc z
        · rw [hc] at z; cases z; exact hb rfl
end

/-! ### kept unless tracked; of the frames at fs (the callers') the slots may change (an exception that passes writes there); of the records at ex (iterators) nothing is said -/
structure Un (fs ex : List Addr) (H H' : Hp) (h h' : Heap) : Prop where
  keep : ∀ b o, h.get? b = some o → H b = none → b ∉ fs → b ∉ ex → h'.get? b = some o
  slot : ∀ b o, h.get? b = some o → H b = none → b ∈ fs → b ∉ ex → ∃ sl, h'.get? b = some { o with slots := sl }
  free : ∀ b o, h.get? b = some o → H b = none → b ∉ ex → H' b = none
  there : ∀ b o, h.get? b = some o → b ∉ ex → ∃ o', h'.get? b = some o'
  tups : ∀ b xs, H b = some (.tup xs) → H' b = some (.tup xs)
  frzs : ∀ b o u, H b = some (.frz o u) → H' b = some (.frz o u)
  tbls : ∀ b ps, H b = some (.tbl ps) → ∃ more, H' b = some (.tbl (ps ++ more))
section
variable {fs fs' ex ex' : List Addr} {H H1 H2 : Hp} {h h1 h2 h' : Heap} {a x e : Addr} {o : HO}
theorem Un.any (u : Un fs ex H H1 h h1) {b : Addr} {ob : Obj} (q : h.get? b = some ob) (n : H b = none) (hx : b ∉ ex) : ∃ sl, h1.get? b = some { ob with slots := sl } := by
  by_cases hb : b ∈ fs
  · exact u.slot b ob q n hb hx
  · exact ⟨ob.slots, u.keep b ob q n hb hx⟩
theorem Un.trans (a : Un fs ex H H1 h h1) (b : Un fs ex H1 H2 h1 h2) : Un fs ex H H2 h h2 where
  keep := fun c ob q n hc hx => b.keep c ob (a.keep c ob q n hc hx) (a.free c ob q n hx) hc hx
  slot := fun c ob q n hc hx => by
    obtain ⟨sl, e1⟩ := a.slot c ob q n hc hx
    obtain ⟨sl', e2⟩ := b.slot c _ e1 (a.free c ob q n hx) hc hx
    exact ⟨sl', e2⟩
  free := fun c ob q n hx => by
    obtain ⟨o', e1⟩ := a.there c ob q hx
    exact b.free c o' e1 (a.free c ob q n hx) hx
  there := fun c ob q hx => by
    obtain ⟨o', e1⟩ := a.there c ob q hx
    exact b.there c o' e1 hx
  tups := fun c xs q => b.tups c xs (a.tups c xs q)
  frzs := fun c ob xs q => b.frzs c ob xs (a.frzs c ob xs q)
  tbls := fun c ps q => by
    obtain ⟨m1, e1⟩ := a.tbls c ps q
    obtain ⟨m2, e2⟩ := b.tbls c _ e1
    exact ⟨m1 ++ m2, by rw [e2, Array.append_assoc]⟩
theorem Un.kept (k : ∀ b u, h.get? b = some u → h'.get? b = some u) : Un fs ex H H h h' :=
  ⟨fun b ob q _ _ _ => k b ob q, fun b ob q _ _ _ => ⟨ob.slots, k b ob q⟩, fun _ _ _ n _ => n, fun b ob q _ => ⟨ob, k b ob q⟩, fun _ _ q => q, fun _ _ _ q => q, fun _ ps q => ⟨#[], by rw [q]; simp⟩⟩
theorem Un.refl : Un fs ex H H h h := Un.kept fun _ _ q => q
theorem Un.laid (k : ∀ b u, h.get? b = some u → h'.get? b = some u) (hp : h.objs.size ≤ a) (hn : H a = none) : Un fs ex H (upd H a o) h h' where
  keep := fun b u q _ _ _ => k b u q
  slot := fun b u q _ _ _ => ⟨u.slots, k b u q⟩
  free := fun b u q n _ => by rw [upd_ne (Nat.ne_of_lt (Nat.lt_of_lt_of_le (Heap.lt_size q) hp))]; exact n
  there := fun b u q _ => ⟨u, k b u q⟩
  tups := fun b xs q => by rw [upd_ne (ne_of_none q hn)]; exact q
  frzs := fun b u xs q => by rw [upd_ne (ne_of_none q hn)]; exact q
  tbls := fun b ps q => ⟨#[], by rw [upd_ne (ne_of_none q hn), q]; simp⟩
theorem Un.write (mu : Mut (H x)) (he : e = x ∨ H e = some (.own x)) (k : ∀ b u, b ≠ e → h.get? b = some u → h'.get? b = some u) (heo : ∃ u, h'.get? e = some u) : Un fs ex H (upd H x o) h h' := by
  have hx : ∀ b, H b = none → b ≠ x := fun b n z => by subst z; rw [n] at mu; exact mu
  have hb : ∀ b, H b = none → b ≠ e := fun b n z => by
    subst z
    rcases he with r | r
    · exact hx b n r
    · rw [n] at r; cases r
  have hm : ∀ b u, H b = some u → ¬ Mut (some u) → b ≠ x := fun b u q nm z => by subst z; rw [q] at mu; exact nm mu
  refine ⟨fun b u q n _ _ => k b u (hb b n) q, fun b u q n _ _ => ⟨u.slots, k b u (hb b n) q⟩, fun b u q n _ => by rw [upd_ne (hx b n)]; exact n, fun b u q _ => ?_,
    fun b xs q => by rw [upd_ne (hm b _ q fun z => z)]; exact q, fun b u xs q => by rw [upd_ne (hm b _ q fun z => z)]; exact q, fun b ps q => ⟨#[], by rw [upd_ne (hm b _ q fun z => z), q]; simp⟩⟩
  by_cases hbe : b = e
  · subst hbe; exact heo
  · exact ⟨u, k b u hbe q⟩
theorem Un.mono (u : Un fs ex H H1 h h1) (hs : ∀ b ∈ fs, b ∈ fs') (hx : ∀ b ∈ ex, b ∈ ex') : Un fs' ex' H H1 h h1 :=
  ⟨fun b ob q n hb he => u.keep b ob q n (fun z => hb (hs b z)) fun z => he (hx b z), fun _ _ q n _ he => u.any q n fun z => he (hx _ z), fun b ob q n he => u.free b ob q n fun z => he (hx b z), fun b ob q he => u.there b ob q fun z => he (hx b z), u.tups, u.frzs, u.tbls⟩
end

/-! ### the heap without what is tracked -/
def trk (h : Heap) (H : Hp) : List Addr := (List.range h.objs.size).filter fun a => (H a).isSome
def hidT (h : Heap) (H : Hp) : Heap := PySem.W.hideAll h (trk h H)
theorem hidT_size (h : Heap) (H : Hp) : (hidT h H).objs.size = h.objs.size := PySem.W.hideAll_size _ _
theorem hidT_get {h : Heap} {H : Hp} {b : Addr} {o : Obj} (e : h.get? b = some o) (n : H b = none) : (hidT h H).get? b = some o :=
  PySem.W.hideAll_get _ e fun hm => by
    have q : (H b).isSome = true := (List.mem_filter.mp hm).2
    rw [n] at q; simp at q
theorem of_hidT {h : Heap} {H : Hp} {b : Addr} {o : Obj} (e : (hidT h H).get? b = some o) : h.get? b = some o ∧ H b = none := by
  have e' : h.get? b = some o := PySem.W.of_hideAll (trk h H) e
  refine ⟨e', ?_⟩
  cases q : H b with
  | none => rfl
  | some x =>
    have hm : b ∈ trk h H := List.mem_filter.mpr ⟨List.mem_range.mpr (Heap.lt_size e'), by simp [q]⟩
    have z : (hidT h H).get? b = none := PySem.W.hideAll_none (trk h H) hm
    rw [z] at e; cases e

/-! ### OpenK's ledger, filled with every new object but one -/
def allNews (g h : Heap) (L : Addr) : List (Addr × Obj) := (List.range h.objs.size).filterMap fun a => if a = L ∨ (g.get? a).isSome = true then none else (h.get? a).map fun o => (a, o)
theorem mem_allNews {g h : Heap} {L a : Addr} {o : Obj} (h1 : a ≠ L) (h2 : g.get? a = none) (h3 : h.get? a = some o) : (a, o) ∈ allNews g h L :=
  List.mem_filterMap.mpr ⟨a, List.mem_range.mpr (Heap.lt_size h3), by simp [h1, h2, h3]⟩
theorem of_mem_allNews {g h : Heap} {L : Addr} {p : Addr × Obj} (hp : p ∈ allNews g h L) : p.1 ≠ L ∧ g.get? p.1 = none ∧ h.get? p.1 = some p.2 := by
  obtain ⟨b, _, e⟩ := List.mem_filterMap.mp hp
  split at e
  · cases e
  · rename_i hn
    cases q : h.get? b with
    | none => rw [q] at e; simp at e
    | some u =>
      rw [q] at e
      simp only [Option.map_some, Option.some.injEq] at e
      subst e
      refine ⟨fun z => hn (.inl z), ?_, q⟩
      show g.get? b = none
      cases r : g.get? b with
      | none => rfl
      | some v => exact (hn (.inr (by simp [r]))).elim
def rest (g h : Heap) (L d : Addr) : List (Addr × Obj) := (allNews g h L).filter fun p => decide (p.1 ≠ d)
theorem rest_ne {g h : Heap} {L d : Addr} : ∀ p ∈ rest g h L d, p.1 ≠ d := fun p hp => of_decide_eq_true (List.mem_filter.mp hp).2
theorem mem_rest {g h : Heap} {L d a : Addr} {o : Obj} (h1 : a ≠ L) (h2 : g.get? a = none) (h3 : h.get? a = some o) (h4 : a ≠ d) : (a, o) ∈ rest g h L d :=
  List.mem_filter.mpr ⟨mem_allNews h1 h2 h3, decide_eq_true h4⟩
theorem news_all {g h : Heap} {L : Addr} : News g L h (allNews g h L) := fun p hp => let ⟨a, b, c⟩ := of_mem_allNews hp; ⟨c, a, b⟩
theorem news_at {g h : Heap} {L d : Addr} {o : Obj} (h1 : d ≠ L) (h2 : g.get? d = none) (h3 : h.get? d = some o) : News g L h ((d, o) :: rest g h L d) := fun p hp => by
  rcases List.mem_cons.mp hp with rfl | hp
  · exact ⟨h3, h1, h2⟩
  · exact news_all p (List.mem_filter.mp hp).1
/-- behind a rule that changed d alone: all else but the frame is kept -/
theorem kept_of_news {g h h' : Heap} {L d : Addr} {m : Str → Option Value} (k : ∀ b o, g.get? b = some o → h.get? b = some o) (F : Fr g L h' m) (N : News g L h' (rest g h L d)) :
    ∀ b o, b ≠ L → b ≠ d → h.get? b = some o → h'.get? b = some o := fun b o h1 h2 e => by
  cases q : g.get? b with
  | some u =>
    have := k b u q
    rw [e] at this; cases this
    exact F.keep b _ q
  | none => exact (N (b, o) (mem_rest h1 q e h2)).1
end L2

namespace L2
open PySem PySem.Spec PyProof.Rows

/-- the module's facts, over the base: the heap at the law's entry without what is tracked there -/
structure Mod (K : PySem.W.Frag) (mg : Str → Option Value) (base : Heap) : Prop where
  kin : K.In base
  glob : base.Ns mainGlobals mg
  blt : ∃ mb, base.Ns builtinsNs mb ∧ ∀ x : Str, x ≠ "__name__" → mb x = bootBuiltins x
  nolimit : base.NoLimit

/-- the context: a def's body (or a comprehension's block) running. base: fixed through the whole law; s₀, H₀: the entry; outer: the frames whose slots others may change (a def's callers); stack: all frames that run;
   ex: iterators that were made ahead of the entry and are walked here (a comprehension's); fn: the names whose cells were made at the entry (a def: all; a comprehension's block: its own); calm: not within an except suite; pn: pins that every state bears; xe: what is wanted of an exception that leaves the code -/
structure Cx where
  prog : Program
  w : World
  K : PySem.W.Frag
  mg : Str → Option Value
  base : Heap
  A : Around
  N : List Str
  s₀ : Shared
  H₀ : Hp
  env : Env
  outer : List Env
  stack : List Env
  ex : List Addr
  fn : Str → Bool
  calm : Bool
  pn : List (Addr × Obj)
  xe : Value → Shared → Prop
/-- the callers' frames -/
def frs (l : List Env) : List Addr := l.filterMap (·.frame)
abbrev Cx.fs (X : Cx) : List Addr := frs X.outer

def Vis (sc : Scope) (x : Str) : Prop := sc.names.lookup x = some .local ∨ sc.names.lookup x = some .cell ∨ sc.names.lookup x = some .free
def Loc (sc : Scope) (x : Str) : Prop := sc.names.lookup x = some .local ∨ sc.names.lookup x = some .cell
def Look (env : Env) (h : Heap) (m : Str → Option Value) (x : Str) (u : Value) : Prop :=
  (env.kindOf x = some .local ∧ m x = some u) ∨ ((env.kindOf x = some .cell ∨ env.kindOf x = some .free) ∧ ∃ c, env.cells.lookup x = some c ∧ h.IsCell c (some u))

structure Cx.Ok (X : Cx) : Prop where
  mod : Mod X.K X.mg X.base
  kind : X.env.scope.kind = .function
  glob : X.env.globals = mainGlobals
  blt : X.env.builtins = builtinsNs
  above : X.s₀.heap.objs.size ≤ X.env.locals
  inj : ∀ x y c, X.env.cells.lookup x = some c → X.env.cells.lookup y = some c → x = y
  has : ∀ x, (X.env.kindOf x = some .cell ∨ X.env.kindOf x = some .free) → ∃ c, X.env.cells.lookup x = some c
  cab : ∀ x c, X.fn x = true → X.env.cells.lookup x = some c → X.s₀.heap.objs.size ≤ c
  hd : X.calm = true → X.A.handled = none
  frames : X.A.frames = some X.stack
  stk : X.stack = X.outer ∨ (X.stack = X.env :: X.outer ∧ X.env.frame = some X.env.locals)
  exf : ∀ b ∈ X.ex, b ≠ X.env.locals ∧ ∀ x c, X.env.cells.lookup x = some c → c ≠ b
  bs : ∀ b o, X.base.get? b = some o → X.s₀.heap.get? b = some o ∧ X.H₀ b = none
  bsz : X.base.objs.size ≤ X.s₀.heap.objs.size
  noex : ∀ b o, X.base.get? b = some o → b ∉ X.ex
  exfs : ∀ b ∈ X.ex, b ∉ X.fs
  funs : X.s₀.heap.FunFrames X.base X.outer
  frf : ∀ b ∈ X.fs, X.H₀ b = none

structure Inv (X : Cx) (pins : List (Addr × Obj)) (σ : List (Option V)) (H : Hp) (s : Shared) : Prop where
  ok : X.Ok
  os : s.os = X.s₀.os
  bare : AllBare s.gens
  base : Un X.fs X.ex X.H₀ H X.s₀.heap s.heap
  loc : ∃ m, s.heap.Ns X.env.locals m ∧ ∀ (i : Nat) (x : Str) (v : V), X.N[i]? = some x → σ[i]? = some (some v) → Vis X.env.scope x → ∃ u, RelV v u ∧ Look X.env s.heap m x u
  cell : ∀ x c, X.env.cells.lookup x = some c → ∃ v, s.heap.IsCell c v
  free : H X.env.locals = none
  freeC : ∀ x c, X.env.cells.lookup x = some c → H c = none
  pin : ∀ p ∈ X.pn ++ pins, s.heap.get? p.1 = some p.2 ∧ H p.1 = none ∧ p.1 ≠ X.env.locals ∧ p.1 ∉ X.fs ∧ ∀ v, p.2.data ≠ .cell v
  hok : HOk X.prog X.w H s.heap
  len : σ.length = X.N.length

section
variable {X : Cx} {pins : List (Addr × Obj)} {σ : List (Option V)} {H H' : Hp} {s : Shared} {h' : Heap}

theorem Cx.Ok.nofr (ok : X.Ok) {b : Addr} {o : Obj} (e : X.base.get? b = some o) : b ∉ X.fs := fun hb => by
  have := (ok.funs.mem hb).1
  rw [e] at this; cases this
theorem Inv.bs (I : Inv X pins σ H s) : ∀ b o, X.base.get? b = some o → s.heap.get? b = some o ∧ H b = none := fun b o e =>
  ⟨I.base.keep b o (I.ok.bs b o e).1 (I.ok.bs b o e).2 (I.ok.nofr e) (I.ok.noex b o e), I.base.free b o (I.ok.bs b o e).1 (I.ok.bs b o e).2 (I.ok.noex b o e)⟩
theorem Inv.bk (I : Inv X pins σ H s) : ∀ b o, X.base.get? b = some o → s.heap.get? b = some o := fun b o e => (I.bs b o e).1
theorem Inv.mod (I : Inv X pins σ H s) : Mod X.K X.mg X.base := I.ok.mod
theorem Inv.kIn (I : Inv X pins σ H s) : X.K.In s.heap := I.ok.mod.kin.keeps I.bk
theorem Inv.nolimit (I : Inv X pins σ H s) : s.heap.NoLimit := I.ok.mod.nolimit.keeps I.bk
/-- the frame over the base: for OpenK's rules (K.In X.base is I.mod.kin) -/
theorem Inv.fr (I : Inv X pins σ H s) : ∃ m, Fr X.base X.env.locals s.heap m :=
  let ⟨m, hn, _⟩ := I.loc
  ⟨m, hn, I.bk, Nat.le_trans I.ok.bsz I.ok.above⟩
theorem Inv.lt (I : Inv X pins σ H s) : X.env.locals < s.heap.objs.size := let ⟨_, hn, _⟩ := I.loc; hn.lt
theorem Inv.sz (I : Inv X pins σ H s) : X.s₀.heap.objs.size ≤ s.heap.objs.size := Nat.le_trans I.ok.above (Nat.le_of_lt I.lt)
theorem Inv.nofs (I : Inv X pins σ H s) {a : Addr} (h : s.heap.objs.size ≤ a) : a ∉ X.fs := fun hb => by
  obtain ⟨_, o, ho, _⟩ := I.ok.funs.mem hb
  exact absurd (Nat.lt_of_lt_of_le (Heap.lt_size ho) (Nat.le_trans I.sz h)) (Nat.lt_irrefl _)
theorem Inv.cne (I : Inv X pins σ H s) : ∀ x c, X.env.cells.lookup x = some c → c ≠ X.env.locals := fun x c e z => by
  obtain ⟨v, o, ho, hd⟩ := I.cell x c e
  obtain ⟨m, ⟨o', es, ep, ho', hd', _⟩, _⟩ := I.loc
  rw [z, ho'] at ho; cases ho; rw [hd'] at hd; cases hd
theorem Inv.funs (I : Inv X pins σ H s) : s.heap.FunFrames X.base X.outer := by
  have all : ∀ (l : List Env), (∀ b ∈ frs l, b ∈ X.fs) → X.s₀.heap.FunFrames X.base l → s.heap.FunFrames X.base l := by
    intro l
    induction l with
    | nil => intro _ _; trivial
    | cons env r ih =>
      intro hs hl
      obtain ⟨hk, ⟨L, o, hf, hn, ho, hd⟩, hr⟩ := hl
      have hL : L ∈ X.fs := hs L (by unfold frs; rw [List.filterMap_cons, hf]; exact List.mem_cons_self)
      obtain ⟨sl, e⟩ := I.base.slot L o ho (I.ok.frf L hL) hL fun z => I.ok.exfs L z hL
      exact ⟨hk, ⟨L, _, hf, hn, e, hd⟩, ih (fun b hb => hs b (by unfold frs; rw [List.filterMap_cons, hf]; exact List.mem_cons_of_mem _ hb)) hr⟩
  exact all X.outer (fun _ hb => hb) I.ok.funs

/-- the frames that run, for a call -/
theorem Inv.stack (I : Inv X pins σ H s) : s.heap.FunFrames X.base X.stack := by
  rcases I.ok.stk with e | ⟨e, hf⟩
  · rw [e]; exact I.funs
  · rw [e]
    obtain ⟨m, hn, _⟩ := I.loc
    refine .cons (by rw [I.ok.kind]; decide) hf hn ?_ I.funs
    exact Heap.get?_none_of_le (Nat.le_trans I.ok.bsz I.ok.above)
theorem Inv.stkSub (I : Inv X pins σ H s) : ∀ b ∈ frs X.stack, b ∈ X.env.locals :: X.fs := fun b hb => by
  rcases I.ok.stk with e | ⟨e, hf⟩
  · rw [e] at hb; exact List.mem_cons_of_mem _ hb
  · rw [e] at hb
    unfold frs at hb
    rw [List.filterMap_cons, hf] at hb
    exact hb
theorem Inv.stkFree (I : Inv X pins σ H s) : ∀ b ∈ frs X.stack, H b = none := fun b hb => by
  rcases List.mem_cons.mp (I.stkSub b hb) with e | hb
  · rw [e]; exact I.free
  · obtain ⟨_, o, ho, _⟩ := I.ok.funs.mem hb
    exact I.base.free b o ho (I.ok.frf b hb) fun z => I.ok.exfs b z hb

/-- THE STEP: the untracked objects but the frame and the records at ch are kept (the callers' frames up to slots), the frame's map is kept, the new abstract heap is held -/
theorem Inv.step {g' : Array GenState} {t' : Nat} {d' : Drawn} {ch : List Addr} (I : Inv X pins σ H s)
    (hch : ∀ b ∈ ch, (b ∈ X.ex ∨ X.s₀.heap.objs.size ≤ b) ∧ b ≠ X.env.locals ∧ (∀ x c, X.env.cells.lookup x = some c → c ≠ b) ∧ ∀ p ∈ X.pn ++ pins, p.1 ≠ b)
    (keep : ∀ b o, b ≠ X.env.locals → b ∉ X.fs → b ∉ ch → s.heap.get? b = some o → H b = none → h'.get? b = some o)
    (slot : ∀ b o, b ≠ X.env.locals → b ∈ X.fs → b ∉ ch → s.heap.get? b = some o → H b = none → ∃ sl, h'.get? b = some { o with slots := sl }) (free : ∀ b o, b ∉ ch → s.heap.get? b = some o → H b = none → H' b = none)
    (there : ∀ b o, b ∉ ch → s.heap.get? b = some o → ∃ o', h'.get? b = some o')
    (tups : ∀ b xs, H b = some (.tup xs) → H' b = some (.tup xs)) (frzs : ∀ b o u, H b = some (.frz o u) → H' b = some (.frz o u)) (tbls : ∀ b ps, H b = some (.tbl ps) → ∃ more, H' b = some (.tbl (ps ++ more)))
    (ns : ∀ m, s.heap.Ns X.env.locals m → h'.Ns X.env.locals m) (hok : HOk X.prog X.w H' h') (hg : AllBare g') :
    Inv X pins σ H' { s with heap := h', gens := g', drawn := d', toks := t' } := by
  have neL : ∀ b o, X.s₀.heap.get? b = some o → b ≠ X.env.locals := fun b o e => Nat.ne_of_lt (Nat.lt_of_lt_of_le (Heap.lt_size e) I.ok.above)
  have neC : ∀ b o, X.s₀.heap.get? b = some o → b ∉ X.ex → b ∉ ch := fun b o e hx hb => by
    rcases (hch b hb).1 with z | z
    · exact hx z
    · exact absurd (Nat.lt_of_lt_of_le (Heap.lt_size e) z) (Nat.lt_irrefl _)
  have cellK : ∀ x c, X.env.cells.lookup x = some c → ∀ v, s.heap.IsCell c v → h'.IsCell c v := fun x c e v ⟨o, ho, hd⟩ => by
    have nch : c ∉ ch := fun z => (hch c z).2.2.1 x c e rfl
    by_cases hc : c ∈ X.fs
    · obtain ⟨sl, q⟩ := slot c o (I.cne x c e) hc nch ho (I.freeC x c e)
      exact ⟨_, q, hd⟩
    · exact ⟨o, keep c o (I.cne x c e) hc nch ho (I.freeC x c e), hd⟩
  refine ⟨I.ok, I.os, hg, ⟨fun b o e n hb hx => ?_, fun b o e n hb hx => ?_, fun b o e n hx => ?_, fun b o e hx => ?_, fun b xs e => tups b xs (I.base.tups b xs e), fun b o xs e => frzs b o xs (I.base.frzs b o xs e), fun b ps e => ?_⟩, ?_, fun x c e => ?_, ?_, fun x c e => ?_, fun p hp => ?_, hok, I.len⟩
  · exact keep b o (neL b o e) hb (neC b o e hx) (I.base.keep b o e n hb hx) (I.base.free b o e n hx)
  · obtain ⟨sl, e1⟩ := I.base.slot b o e n hb hx
    obtain ⟨sl', e2⟩ := slot b _ (neL b o e) hb (neC b o e hx) e1 (I.base.free b o e n hx)
    exact ⟨sl', e2⟩
  · obtain ⟨o', e1⟩ := I.base.there b o e hx
    exact free b o' (neC b o e hx) e1 (I.base.free b o e n hx)
  · obtain ⟨o', e1⟩ := I.base.there b o e hx
    exact there b o' (neC b o e hx) e1
  · obtain ⟨m1, e1⟩ := I.base.tbls b ps e
    obtain ⟨m2, e2⟩ := tbls b _ e1
    exact ⟨m1 ++ m2, by rw [e2, Array.append_assoc]⟩
  · obtain ⟨m, hn, hl⟩ := I.loc
    refine ⟨m, ns m hn, fun i x v e1 e2 e3 => ?_⟩
    obtain ⟨u, r, l⟩ := hl i x v e1 e2 e3
    refine ⟨u, r, ?_⟩
    rcases l with l | ⟨k, c, e, z⟩
    · exact .inl l
    · exact .inr ⟨k, c, e, cellK x c e _ z⟩
  · obtain ⟨v, z⟩ := I.cell x c e
    exact ⟨v, cellK x c e v z⟩
  · obtain ⟨m, ⟨o, _, _, ho, _⟩, _⟩ := I.loc
    exact free _ o (fun z => (hch _ z).2.1 rfl) ho I.free
  · obtain ⟨v, o, ho, hd⟩ := I.cell x c e
    exact free c o (fun z => (hch c z).2.2.1 x c e rfl) ho (I.freeC x c e)
  · obtain ⟨e, n, ne, nf, d⟩ := I.pin p hp
    have nch : p.1 ∉ ch := fun z => (hch p.1 z).2.2.2 p hp rfl
    exact ⟨keep p.1 p.2 ne nf nch e n, free p.1 p.2 nch e n, ne, nf, d⟩
/-- .. where the frame's own object is kept too -/
theorem Inv.un {t' : Nat} (I : Inv X pins σ H s) (u : Un X.fs [] H H' s.heap h') (hok : HOk X.prog X.w H' h') : Inv X pins σ H' { s with heap := h', toks := t' } := by
  obtain ⟨m, ⟨o, es, ep, ho, r⟩, _⟩ := id I.loc
  obtain ⟨sl, hL⟩ := u.any ho I.free (by simp)
  exact I.step (g' := s.gens) (d' := s.drawn) (ch := []) (fun _ z => nomatch z) (fun b o _ hb _ e n => u.keep b o e n hb (by simp)) (fun b o _ hb _ e n => u.slot b o e n hb (by simp)) (fun b o _ e n => u.free b o e n (by simp)) (fun b o _ e => u.there b o e (by simp)) u.tups u.frzs u.tbls (fun m' hm => by
    obtain ⟨o', es', ep', ho', r'⟩ := hm
    rw [ho] at ho'; cases ho'
    exact ⟨_, es', ep', hL, r'⟩) hok I.bare
/-- behind a call (or a comprehension's block): the slots of this frame may have changed too, the records at ch may have turned -/
theorem Inv.call {g' : Array GenState} {t' : Nat} {d' : Drawn} {ch : List Addr} (I : Inv X pins σ H s) (u : Un (frs X.stack) ch H H' s.heap h') (hok : HOk X.prog X.w H' h') (hg : AllBare g')
    (hch : ∀ b ∈ ch, (b ∈ X.ex ∨ X.s₀.heap.objs.size ≤ b) ∧ b ≠ X.env.locals ∧ (∀ x c, X.env.cells.lookup x = some c → c ≠ b) ∧ ∀ p ∈ X.pn ++ pins, p.1 ≠ b) :
    Inv X pins σ H' { s with heap := h', gens := g', drawn := d', toks := t' } := by
  obtain ⟨m, ⟨o, es, ep, ho, r⟩, _⟩ := id I.loc
  obtain ⟨sl, hL⟩ := u.any ho I.free fun z => (hch _ z).2.1 rfl
  exact I.step (ch := ch) hch (fun b o hL hb hc e n => u.keep b o e n (fun z => (List.mem_cons.mp (I.stkSub b z)).elim hL hb) hc) (fun b o _ _ hc e n => u.any e n hc) (fun b o hc e n => u.free b o e n hc) (fun b o hc e => u.there b o e hc) u.tups u.frzs u.tbls (fun m' hm => by
    obtain ⟨o', es', ep', ho', r'⟩ := hm
    rw [ho] at ho'; cases ho'
    exact ⟨_, es', ep', hL, r'⟩) hok hg
/-- an untracked record of ours (an iterator) has turned -/
theorem Inv.turned {t' : Nat} {it : Addr} (I : Inv X pins σ H s) (k : ∀ b o, b ≠ it → s.heap.get? b = some o → h'.get? b = some o) (hn : H it = none) (hL : it ≠ X.env.locals)
    (h1 : it ∈ X.ex ∨ X.s₀.heap.objs.size ≤ it) (h2 : ∀ x c, X.env.cells.lookup x = some c → c ≠ it) (h3 : ∀ p ∈ X.pn ++ pins, p.1 ≠ it) : Inv X pins σ H { s with heap := h', toks := t' } := by
  have nit : ∀ b u, H b = some u → b ≠ it := fun b u e z => by rw [z, hn] at e; cases e
  refine I.step (g' := s.gens) (d' := s.drawn) (ch := [it]) (fun b hb => ?_) (fun b o _ _ hc e _ => k b o (fun z => hc (by simp [z])) e) (fun b o _ _ hc e _ => ⟨o.slots, k b o (fun z => hc (by simp [z])) e⟩) (fun _ _ _ _ n => n)
    (fun b o hc e => ⟨o, k b o (fun z => hc (by simp [z])) e⟩) (fun _ _ e => e) (fun _ _ _ e => e) (fun b ps e => ⟨#[], by rw [e]; simp⟩) (fun m hm => ?_) (fun b u e => ?_) I.bare
  · have e : b = it := by simpa using hb
    subst e
    exact ⟨h1, hL, h2, h3⟩
  · obtain ⟨o, es, ep, ho, r⟩ := hm
    exact ⟨o, es, ep, k _ o (Ne.symm hL) ho, r⟩
  · refine (I.hok b u e).stay (fun c v hc q => k c v ?_ q) (fun _ q => q) fun _ _ q => q
    rcases hc with z | z
    · rw [z]; exact nit b u e
    · exact nit c _ z
theorem Inv.tok (I : Inv X pins σ H s) (t : Nat) : Inv X pins σ H { s with toks := t } := I.un (h' := s.heap) (t' := t) Un.refl I.hok
/-- all objects kept -/
theorem Inv.kept {t' : Nat} (I : Inv X pins σ H s) (k : ∀ b u, s.heap.get? b = some u → h'.get? b = some u) : Inv X pins σ H { s with heap := h', toks := t' } := I.un (Un.kept k) (I.hok.kept k)
/-- a new object laid and tracked -/
theorem Inv.laid {a : Addr} {o : HO} {t' : Nat} (I : Inv X pins σ H s) (k : ∀ b u, s.heap.get? b = some u → h'.get? b = some u) (hp : s.heap.objs.size ≤ a) (new : ObjOk X.prog X.w (upd H a o) h' a o) :
    Inv X pins σ (upd H a o) { s with heap := h', toks := t' } := I.un (Un.laid k hp (I.hok.fresh hp)) (I.hok.laid k hp new)
/-- an object written -/
theorem Inv.write {x e : Addr} {o : HO} {t' : Nat} (I : Inv X pins σ H s) (mu : Mut (H x)) (he : e = x ∨ H e = some (.own x)) (k : ∀ b u, b ≠ e → s.heap.get? b = some u → h'.get? b = some u) (heo : ∃ u, h'.get? e = some u)
    (new : ObjOk X.prog X.w (upd H x o) h' x o) : Inv X pins σ (upd H x o) { s with heap := h', toks := t' } := I.un (Un.write mu he k heo) (I.hok.write mu he k heo new)
/-- forgetting slots, pins -/
theorem Inv.weak {σ' : List (Option V)} (I : Inv X pins σ H s) (hl : σ'.length = σ.length) (w : ∀ (i : Nat) v, σ'[i]? = some (some v) → σ[i]? = some (some v)) : Inv X pins σ' H s :=
  ⟨I.ok, I.os, I.bare, I.base, let ⟨m, hn, hl'⟩ := I.loc; ⟨m, hn, fun i x v e1 e2 e3 => hl' i x v e1 (w i v e2) e3⟩, I.cell, I.free, I.freeC, I.pin, I.hok, hl.trans I.len⟩
theorem Inv.pins_of {pins' : List (Addr × Obj)} (I : Inv X pins σ H s) (h : ∀ p ∈ pins', s.heap.get? p.1 = some p.2 ∧ H p.1 = none ∧ p.1 ≠ X.env.locals ∧ p.1 ∉ X.fs ∧ ∀ v, p.2.data ≠ .cell v) : Inv X pins' σ H s :=
  ⟨I.ok, I.os, I.bare, I.base, I.loc, I.cell, I.free, I.freeC, fun p hp => (List.mem_append.mp hp).elim (fun z => I.pin p (List.mem_append_left _ z)) (h p), I.hok, I.len⟩

theorem nodup_ix {N : List Str} (hN : N.Nodup) {i j : Nat} {x : Str} (a : N[i]? = some x) (b : N[j]? = some x) : i = j := by
  obtain ⟨h1, e1⟩ := List.getElem?_eq_some_iff.mp a
  obtain ⟨h2, e2⟩ := List.getElem?_eq_some_iff.mp b
  exact (List.getElem_inj hN).mp (e1.trans e2.symm)

/-- a name is stored; what changed -/
theorem store_ok2 {M : Model} {A : Around} {E : Value → Shared → Prop} {i : Nat} {x : Str} {v : V} {u : Value} {Q : Unit → Shared → Prop} (I : Inv X pins σ H s) (hN : X.N.Nodup) (hi : X.N[i]? = some x) (hx : Loc X.env.scope x) (r : RelV v u)
    (h : ∀ s', Inv X pins (σ.set i (some v)) H s' → (∃ a, Heap.SameBut a s.heap s'.heap ∧ (a = X.env.locals ∨ X.env.cells.lookup x = some a)) → Q () s') (hf : X.fn x = true ∨ X.env.scope.names.lookup x = some .local := by first | exact .inl rfl | exact .inr rfl | assumption) : wpAny M A (storeName X.env x u) Q E s := by
  obtain ⟨m, hn, hl⟩ := id I.loc
  have hcls : (X.env.scope.kind == .class || (X.env.scope.kind == .module && X.env.locals != X.env.globals)) = false := by rw [I.ok.kind]; rfl
  have hiσ : i < σ.length := by rw [I.len]; exact (List.getElem?_eq_some_iff.mp hi).1
  have cne := I.cne
  have tracked : ∀ {a : Addr} {h' : Heap}, (∃ o, s.heap.get? a = some o ∧ H a = none) → Heap.SameBut a s.heap h' → HOk X.prog X.w H h' := fun {a h'} ha hs b ob e => by
    obtain ⟨_, _, hfree⟩ := ha
    refine (I.hok b ob e).stay (fun c w' hc q => (hs.2 c ?_).trans q) (fun _ q => q) fun _ _ q => q
    rintro rfl
    rcases hc with rfl | hc
    · rw [hfree] at e; cases e
    · rw [hfree] at hc; cases hc
  rcases hx with hk | hk
  · refine wpAny_storeName_local hk hn (fun h' hn' hs => ?_) hcls
    obtain ⟨oL, _, _, hoL, _⟩ := id hn
    refine h _ ⟨I.ok, I.os, I.bare, ⟨fun b o e n hb hx => ?_, fun b o e n hb hx => ?_, I.base.free, fun b o e hx => ?_, I.base.tups, I.base.frzs, I.base.tbls⟩, ⟨_, hn', fun j y v' e1 e2 e3 => ?_⟩, fun y c e => ?_, I.free, I.freeC, fun p hp => ?_, tracked ⟨oL, hoL, I.free⟩ hs, by simpa using I.len⟩ ⟨_, hs, .inl rfl⟩
    · exact (hs.2 b (Nat.ne_of_lt (Nat.lt_of_lt_of_le (Heap.lt_size e) I.ok.above))).trans (I.base.keep b o e n hb hx)
    · obtain ⟨sl, e1⟩ := I.base.slot b o e n hb hx
      exact ⟨sl, (hs.2 b (Nat.ne_of_lt (Nat.lt_of_lt_of_le (Heap.lt_size e) I.ok.above))).trans e1⟩
    · obtain ⟨o', e1⟩ := I.base.there b o e hx
      exact ⟨o', (hs.2 b (Nat.ne_of_lt (Nat.lt_of_lt_of_le (Heap.lt_size e) I.ok.above))).trans e1⟩
    · by_cases hj : j = i
      · subst hj
        rw [hi] at e1; cases e1
        rw [List.getElem?_set_self hiσ] at e2
        cases e2
        exact ⟨u, r, .inl ⟨hk, by simp⟩⟩
      · rw [List.getElem?_set_ne (Ne.symm hj)] at e2
        obtain ⟨u', r', q⟩ := hl j y v' e1 e2 e3
        refine ⟨u', r', ?_⟩
        rcases q with ⟨k, e⟩ | ⟨k, c, e, z⟩
        · refine .inl ⟨k, ?_⟩
          have : y ≠ x := fun e => hj (nodup_ix hN e1 (e ▸ hi))
          simp [this, e]
        · exact .inr ⟨k, c, e, z.sameBut hs (cne y c e)⟩
    · obtain ⟨w', z⟩ := I.cell y c e
      exact ⟨w', z.sameBut hs (cne y c e)⟩
    · obtain ⟨e, n, ne, nf, d⟩ := I.pin p hp
      exact ⟨(hs.2 p.1 ne).trans e, n, ne, nf, d⟩
  · have hfn : X.fn x = true := by
      rcases hf with z | z
      · exact z
      · rw [z] at hk; cases hk
    obtain ⟨c, hc⟩ := I.ok.has x (.inl hk)
    obtain ⟨w', z⟩ := I.cell x c hc
    refine wpAny_storeName_cell I.ok.kind hk hc z (fun h' hc' hs => ?_)
    obtain ⟨oc, hoc, hocd⟩ := id z
    refine h { s with heap := h' } ⟨I.ok, I.os, I.bare, ⟨fun b o e n hb hx => ?_, fun b o e n hb hx => ?_, I.base.free, fun b o e hx => ?_, I.base.tups, I.base.frzs, I.base.tbls⟩, ⟨m, hn.sameBut hs (Ne.symm (cne x c hc)), fun j y v' e1 e2 e3 => ?_⟩, fun y c' e => ?_, I.free, I.freeC, fun p hp => ?_, tracked ⟨oc, hoc, I.freeC x c hc⟩ hs, by simpa using I.len⟩ ⟨c, hs, .inr hc⟩
    · exact (hs.2 b (Nat.ne_of_lt (Nat.lt_of_lt_of_le (Heap.lt_size e) (I.ok.cab x c hfn hc)))).trans (I.base.keep b o e n hb hx)
    · obtain ⟨sl, e1⟩ := I.base.slot b o e n hb hx
      exact ⟨sl, (hs.2 b (Nat.ne_of_lt (Nat.lt_of_lt_of_le (Heap.lt_size e) (I.ok.cab x c hfn hc)))).trans e1⟩
    · obtain ⟨o', e1⟩ := I.base.there b o e hx
      exact ⟨o', (hs.2 b (Nat.ne_of_lt (Nat.lt_of_lt_of_le (Heap.lt_size e) (I.ok.cab x c hfn hc)))).trans e1⟩
    · by_cases hj : j = i
      · subst hj
        rw [hi] at e1; cases e1
        rw [List.getElem?_set_self hiσ] at e2
        cases e2
        exact ⟨u, r, .inr ⟨.inl hk, c, hc, hc'⟩⟩
      · rw [List.getElem?_set_ne (Ne.symm hj)] at e2
        obtain ⟨u', r', q⟩ := hl j y v' e1 e2 e3
        refine ⟨u', r', ?_⟩
        rcases q with q | ⟨k, c', e, z'⟩
        · exact .inl q
        · refine .inr ⟨k, c', e, z'.sameBut hs ?_⟩
          rintro rfl
          exact hj (nodup_ix hN e1 (I.ok.inj _ _ _ e hc ▸ hi))
    · by_cases hcc : c' = c
      · subst hcc; exact ⟨_, hc'⟩
      · obtain ⟨w2, z2⟩ := I.cell y c' e
        exact ⟨w2, z2.sameBut hs hcc⟩
    · obtain ⟨e, n, ne, nf, d⟩ := I.pin p hp
      refine ⟨(hs.2 p.1 ?_).trans e, n, ne, nf, d⟩
      intro q
      rw [q, hoc] at e
      have q' : oc = p.2 := Option.some.inj e
      exact d w' (by rw [← q']; exact hocd)
theorem store_ok {M : Model} {A : Around} {E : Value → Shared → Prop} {i : Nat} {x : Str} {v : V} {u : Value} {Q : Unit → Shared → Prop} (I : Inv X pins σ H s) (hN : X.N.Nodup) (hi : X.N[i]? = some x) (hx : Loc X.env.scope x) (r : RelV v u)
    (h : ∀ s', Inv X pins (σ.set i (some v)) H s' → Q () s') (hf : X.fn x = true ∨ X.env.scope.names.lookup x = some .local := by first | exact .inl rfl | exact .inr rfl | assumption) : wpAny M A (storeName X.env x u) Q E s :=
  store_ok2 I hN hi hx r (fun s' I' _ => h s' I') hf
/-- behind a call or a block, the state as it is -/
theorem Inv.call' {s' : Shared} {ch : List Addr} (I : Inv X pins σ H s) (ho : s'.os = s.os) (u : Un (frs X.stack) ch H H' s.heap s'.heap) (hok : HOk X.prog X.w H' s'.heap) (hg : AllBare s'.gens)
    (hch : ∀ b ∈ ch, (b ∈ X.ex ∨ X.s₀.heap.objs.size ≤ b) ∧ b ≠ X.env.locals ∧ (∀ x c, X.env.cells.lookup x = some c → c ≠ b) ∧ ∀ p ∈ X.pn ++ pins, p.1 ≠ b) : Inv X pins σ H' s' := by
  obtain ⟨h', g', d', t', o'⟩ := s'
  have e : o' = s.os := ho
  subst e
  exact I.call (g' := g') (t' := t') (d' := d') u hok hg hch
end

/-! ### the judgements -/
/-- an exception: its class, its own dict's address (where it has one), the abstract heap behind it -/
abbrev XK := Value → Option Addr → Hp → Prop
abbrev St := List (Option V)
abbrev VK := V → Hp → Prop
/-- an expression's reading; a test's; an argument list's -/
abbrev TE := St → Hp → VK → Prop
abbrev TT := St → Hp → (Bool → Hp → Prop) → Prop
abbrev TA := St → Hp → (List V → Hp → Prop) → Prop
/-- what is wanted behind a statement -/
structure Ends where
  nx : St → Hp → Prop
  rt : VK
  bk : St → Hp → Prop := fun _ _ => False
  ct : St → Hp → Prop := fun _ _ => False
abbrev TS := Ends → St → Hp → Prop

def EP (X : Cx) (pins : List (Addr × Obj)) (σ : St) (Q : VK) (u : Value) (s' : Shared) : Prop := ∃ v H', Inv X pins σ H' s' ∧ RelV v u ∧ Q v H'
def TP (X : Cx) (pins : List (Addr × Obj)) (σ : St) (Q : Bool → Hp → Prop) (b : Bool) (s' : Shared) : Prop := ∃ H', Inv X pins σ H' s' ∧ Q b H'
def AP (X : Cx) (pins : List (Addr × Obj)) (σ : St) (Q : List V → Hp → Prop) (us : List Value) (s' : Shared) : Prop := ∃ vs H', Inv X pins σ H' s' ∧ Vals vs us ∧ Q vs H'
def SP (X : Cx) (pins : List (Addr × Obj)) (D : Ends) (f : Flow) (s' : Shared) : Prop :=
  match f with
  | .next => ∃ σ' H', Inv X pins σ' H' s' ∧ D.nx σ' H'
  | .brk => ∃ σ' H', Inv X pins σ' H' s' ∧ D.bk σ' H'
  | .cont => ∃ σ' H', Inv X pins σ' H' s' ∧ D.ct σ' H'
  | .ret u => ∃ v σ' H', Inv X pins σ' H' s' ∧ RelV v u ∧ D.rt v H'

def PE (X : Cx) (e : Expr) (t : TE) : Prop :=
  ∀ (pins : List (Addr × Obj)) (s : Shared) (σ : St) (H : Hp) (Q : VK), Inv X pins σ H s → t σ H Q → wpAny (model X.prog X.w) X.A (eval e X.env) (EP X pins σ Q) X.xe s
def PT (X : Cx) (e : Expr) (t : TT) : Prop :=
  ∀ (pins : List (Addr × Obj)) (s : Shared) (σ : St) (H : Hp) (Q : Bool → Hp → Prop), Inv X pins σ H s → t σ H Q → wpAny (model X.prog X.w) X.A (isTrue e X.env (eval e X.env)) (TP X pins σ Q) X.xe s
/-- a test whatever its 'whole' is (and, or) -/
def PW (X : Cx) (e : Expr) (t : TT) : Prop :=
  ∀ (whole : Sem Value) (pins : List (Addr × Obj)) (s : Shared) (σ : St) (H : Hp) (Q : Bool → Hp → Prop), Inv X pins σ H s → t σ H Q → wpAny (model X.prog X.w) X.A (isTrue e X.env whole) (TP X pins σ Q) X.xe s
theorem PW.pt {X : Cx} {e : Expr} {t : TT} (h : PW X e t) : PT X e t := h _
/-- an argument list (no star), from the left -/
def PA (X : Cx) (es : List Expr) (t : TA) : Prop :=
  ∀ (pos : Pos) (pins : List (Addr × Obj)) (s : Shared) (σ : St) (H : Hp) (Q : List V → Hp → Prop), Inv X pins σ H s → t σ H Q → wpAny (model X.prog X.w) X.A (spliced (backTo pos (starEach es X.env))) (AP X pins σ Q) X.xe s
def PS (X : Cx) (st : Stmt) (t : TS) : Prop :=
  ∀ (pins : List (Addr × Obj)) (s : Shared) (σ : St) (H : Hp) (D : Ends), Inv X pins σ H s → t D σ H → wpAny (model X.prog X.w) X.A (exec st X.env) (SP X pins D) X.xe s
def PSs (X : Cx) (st : List Stmt) (t : TS) : Prop :=
  ∀ (pins : List (Addr × Obj)) (s : Shared) (σ : St) (H : Hp) (D : Ends), Inv X pins σ H s → t D σ H → wpAny (model X.prog X.w) X.A (execs st X.env) (SP X pins D) X.xe s
/-- weaken the end -/
theorem thn {α : Type} {t : Sem α} {Q Q' : α → Shared → Prop} {M : Model} {A : Around} {E : Value → Shared → Prop} {s : Shared} (h : wpAny M A t Q E s) (hQ : ∀ a s, Q a s → Q' a s) : wpAny M A t Q' E s := wpAny_mono h hQ fun _ _ x => x
end L2

namespace L2
open PySem PySem.Spec PyProof.Rows
section
variable {X : Cx}

/-- two expressions in a row -/
theorem bin {a b : Expr} {ta tb : TE} (ha : PE X a ta) (hb : PE X b tb) {pins : List (Addr × Obj)} {s : Shared} {σ : St} {H : Hp} {R : V → V → Hp → Prop} (I : Inv X pins σ H s) (h : ta σ H fun x H1 => tb σ H1 fun y H2 => R x y H2)
    {α : Type} {Q : α → Shared → Prop} {f : Value → Value → Sem α}
    (hf : ∀ v u s2 x y H2, Inv X pins σ H2 s2 → RelV x v → RelV y u → R x y H2 → wpAny (model X.prog X.w) X.A (f v u) Q X.xe s2) :
    wpAny (model X.prog X.w) X.A (eval a X.env) (fun v s₁ => wpAny (model X.prog X.w) X.A (eval b X.env) (fun u s₂ => wpAny (model X.prog X.w) X.A (f v u) Q X.xe s₂) X.xe s₁) X.xe s := by
  refine thn (ha pins s σ H _ I h) fun v s1 ⟨x, H1, I1, r1, q1⟩ => ?_
  refine thn (hb pins s1 σ H1 _ I1 q1) fun u s2 ⟨y, H2, I2, r2, q2⟩ => ?_
  exact hf v u s2 x y H2 I2 r1 r2 q2

/-! ### names and constants -/
def tVar (i : Nat) : TE := fun σ H Q => ∃ v, σ[i]? = some (some v) ∧ Q v H
def tC (v : V) : TE := fun _ H Q => Q v H
theorem pe_var {i : Nat} {x : Str} {pos : Pos} (hN : X.N[i]? = some x) (hv : Vis X.env.scope x) (hd : (x == ("__debug__" : Str)) = false := by decide) (hcd : (x == ("__classdict__" : Str)) = false := by decide) : PE X (.Name x pos) (tVar i) := by
  intro pins s σ H Q I h
  obtain ⟨v, e, h⟩ := h
  obtain ⟨m, hn, hl⟩ := I.loc
  obtain ⟨u, r, l⟩ := hl i x v hN e hv
  have fin : EP X pins σ Q u s := ⟨v, H, I, r, h⟩
  rcases l with ⟨hk, hm⟩ | ⟨hk, c, hc, hcell⟩
  · exact wpAny_Name (wpAny_loadName_local I.ok.kind hk hn hm fin) hd
  · rcases hk with hk | hk
    · exact wpAny_Name (wpAny_loadName_cell I.ok.kind hk hc hcell fin) hd
    · exact wpAny_Name (wpAny_loadName_free I.ok.kind hk hc hcell fin hcd) hd
theorem pe_int {i j pos} : PE X (.Constant (.int i) j pos) (tC (.int i)) := fun _ _ _ H _ I h => wpAny_Constant_int ⟨.int i, H, I.tok _, ⟨_, rfl⟩, h⟩
theorem pe_bl {b j pos} : PE X (.Constant (.bool b) j pos) (tC (.bl b)) := fun _ _ _ H _ I h => Constant_bool ⟨.bl b, H, I, rfl, h⟩
theorem pe_non {j pos} : PE X (.Constant .none j pos) (tC .non) := fun _ _ _ H _ I h => Constant_none ⟨.non, H, I, rfl, h⟩
theorem pe_str {x j pos} : PE X (.Constant (.str x) j pos) (tC (.str x)) := fun _ _ _ H _ I h => Calls.Constant_str ⟨.str x, H, I.tok _, ⟨_, rfl⟩, h⟩

/-- a global name of the def -/
def Gl (X : Cx) (x : Str) : Prop := X.env.kindOf x = some .globalImplicit
theorem ld_glob {E : Value → Shared → Prop} {pins : List (Addr × Obj)} {s : Shared} {σ : St} {H : Hp} {x : Str} {u : Value} {pos : Pos} {Q : Value → Shared → Prop} (I : Inv X pins σ H s) (hg : Gl X x) (hm : X.mg x = some u) (h : Q u s)
    (hd : (x == ("__debug__" : Str)) = false := by decide) : wpAny (model X.prog X.w) X.A (eval (.Name x pos) X.env) Q E s :=
  Calls.Name_function_global I.ok.kind hg (Calls.loadGlobal_global (by rw [I.ok.glob]; exact I.mod.glob.keeps I.bk) hm h) hd
theorem ld_blt {E : Value → Shared → Prop} {pins : List (Addr × Obj)} {s : Shared} {σ : St} {H : Hp} {x : Str} {u : Value} {pos : Pos} {Q : Value → Shared → Prop} (I : Inv X pins σ H s) (hg : Gl X x) (hm : X.mg x = none) (hv : bootBuiltins x = some u) (h : Q u s)
    (hn : x ≠ "__name__" := by decide) (hd : (x == ("__debug__" : Str)) = false := by decide) : wpAny (model X.prog X.w) X.A (eval (.Name x pos) X.env) Q E s := by
  obtain ⟨mb, h1, h2⟩ := I.mod.blt
  exact Calls.Name_function_global I.ok.kind hg (Calls.loadGlobal_builtin (by rw [I.ok.glob]; exact I.mod.glob.keeps I.bk) hm (by rw [I.ok.blt]; exact h1.keeps I.bk) ((h2 x hn).trans hv) h) hd
/-- a module's constant, a class, a function, as a value -/
theorem pe_glob {x : Str} {v : V} {u : Value} {pos : Pos} (hg : Gl X x) (hm : X.mg x = some u) (r : RelV v u) (hd : (x == ("__debug__" : Str)) = false := by decide) : PE X (.Name x pos) (tC v) :=
  fun _ _ _ H _ I h => ld_glob I hg hm ⟨v, H, I, r, h⟩ hd
theorem pe_bltn {x : Str} {v : V} {u : Value} {pos : Pos} (hg : Gl X x) (hm : X.mg x = none) (hv : bootBuiltins x = some u) (r : RelV v u) (hn : x ≠ "__name__" := by decide) (hd : (x == ("__debug__" : Str)) = false := by decide) : PE X (.Name x pos) (tC v) :=
  fun _ _ _ H _ I h => ld_blt I hg hm hv ⟨v, H, I, r, h⟩ hn hd

/-! ### arithmetic -/
/-- two ints -/
def t2I (ta tb : TE) (k : Int → Int → Hp → Prop) : St → Hp → Prop := fun σ H => ta σ H fun x H1 => tb σ H1 fun y H2 => ∃ i j, x = .int i ∧ y = .int j ∧ k i j H2
def tAdd (ta tb : TE) : TE := fun σ H Q => t2I ta tb (fun i j H2 => Q (.int (i + j)) H2) σ H
def tSub (ta tb : TE) : TE := fun σ H Q => t2I ta tb (fun i j H2 => Q (.int (i - j)) H2) σ H
/-- the left factor below 2^64 -/
def tMul (ta tb : TE) : TE := fun σ H Q => t2I ta tb (fun i j H2 => (-(2 ^ 64) < i ∧ i < 2 ^ 64) ∧ Q (.int (i * j)) H2) σ H
variable {a b : Expr} {ta tb : TE} {pos : Pos}
theorem pe_add (ha : PE X a ta) (hb : PE X b tb) : PE X (.BinOp a .Add b pos) (tAdd ta tb) := by
  intro pins s σ H Q I h
  refine wpAny_BinOp (bin ha hb I h fun v u s2 x y H2 I2 rx ry q => ?_)
  obtain ⟨i, j, rfl, rfl, q⟩ := q
  obtain ⟨t, rfl⟩ := rx
  obtain ⟨t', rfl⟩ := ry
  exact add_int ⟨.int _, H2, I2.tok _, ⟨_, rfl⟩, q⟩
theorem pe_sub (ha : PE X a ta) (hb : PE X b tb) : PE X (.BinOp a .Sub b pos) (tSub ta tb) := by
  intro pins s σ H Q I h
  refine wpAny_BinOp (bin ha hb I h fun v u s2 x y H2 I2 rx ry q => ?_)
  obtain ⟨i, j, rfl, rfl, q⟩ := q
  obtain ⟨t, rfl⟩ := rx
  obtain ⟨t', rfl⟩ := ry
  exact sub_int ⟨.int _, H2, I2.tok _, ⟨_, rfl⟩, q⟩
theorem pe_mul (ha : PE X a ta) (hb : PE X b tb) : PE X (.BinOp a .Mult b pos) (tMul ta tb) := by
  intro pins s σ H Q I h
  refine wpAny_BinOp (bin ha hb I h fun v u s2 x y H2 I2 rx ry q => ?_)
  obtain ⟨i, j, rfl, rfl, ⟨q1, q2⟩, q⟩ := q
  obtain ⟨t, rfl⟩ := rx
  obtain ⟨t', rfl⟩ := ry
  exact mul_int ⟨.int _, H2, I2.tok _, ⟨_, rfl⟩, q⟩ (.of_left (intBits_le_64 q1 q2))

/-! ### comparisons -/
def PC (X : Cx) (op : CmpOp) (a b : Expr) (t : TE) : Prop :=
  ∀ (pins : List (Addr × Obj)) (s : Shared) (σ : St) (H : Hp) (Q : VK), Inv X pins σ H s → t σ H Q →
    wpAny (model X.prog X.w) X.A (eval a X.env) (fun v s₁ => wpAny (model X.prog X.w) X.A (eval b X.env) (fun u s₂ => wpAny (model X.prog X.w) X.A (compareOp op v u) (EP X pins σ Q) X.xe s₂) X.xe s₁) X.xe s
theorem nobehind (b : Expr) {op : CmpOp} (h : op ≠ .In) (h2 : op ≠ .NotIn) : behindInMarks op b = false := by
  have e1 : (op == CmpOp.In) = false := by cases op <;> first | rfl | exact absurd rfl h
  have e2 : (op == CmpOp.NotIn) = false := by cases op <;> first | rfl | exact absurd rfl h2
  cases b <;> simp [behindInMarks, e1, e2]
def tCmp (p : Int → Int → Bool) (ta tb : TE) : TE := fun σ H Q => t2I ta tb (fun i j H2 => Q (.bl (p i j)) H2) σ H
abbrev tLt : TE → TE → TE := tCmp fun i j => decide (i < j)
abbrev tLe : TE → TE → TE := tCmp fun i j => decide (i ≤ j)
abbrev tGt : TE → TE → TE := tCmp fun i j => decide (j < i)
abbrev tGe : TE → TE → TE := tCmp fun i j => decide (j ≤ i)
abbrev tEqI : TE → TE → TE := tCmp fun i j => decide (i = j)
abbrev tNeI : TE → TE → TE := tCmp fun i j => !decide (i = j)
/-- a comparison of two ints, by its rule -/
theorem pc_int {op : CmpOp} {p : Int → Int → Bool} (ha : PE X a ta) (hb : PE X b tb)
    (rule : ∀ (i j : Int) (t u : Tok) (Q : Value → Shared → Prop) (s : Shared), Q (.bool (p i j)) s → wpAny (model X.prog X.w) X.A (compareOp op (.int i t) (.int j u)) Q X.xe s) : PC X op a b (tCmp p ta tb) := by
  intro pins s σ H Q I h
  refine bin ha hb I h fun v u s2 x y H2 I2 rx ry q => ?_
  obtain ⟨i, j, rfl, rfl, q⟩ := q
  obtain ⟨t, rfl⟩ := rx
  obtain ⟨t', rfl⟩ := ry
  exact rule i j t t' _ s2 ⟨.bl _, H2, I2, rfl, q⟩
theorem pc_lt (ha : PE X a ta) (hb : PE X b tb) : PC X .Lt a b (tLt ta tb) := pc_int ha hb fun _ _ _ _ _ _ h => lt_int h
theorem pc_le (ha : PE X a ta) (hb : PE X b tb) : PC X .LtE a b (tLe ta tb) := pc_int ha hb fun _ _ _ _ _ _ h => le_int h
theorem pc_gt (ha : PE X a ta) (hb : PE X b tb) : PC X .Gt a b (tGt ta tb) := pc_int ha hb fun _ _ _ _ _ _ h => gt_int h
theorem pc_ge (ha : PE X a ta) (hb : PE X b tb) : PC X .GtE a b (tGe ta tb) := pc_int ha hb fun _ _ _ _ _ _ h => ge_int h
theorem pc_eqI (ha : PE X a ta) (hb : PE X b tb) : PC X .Eq a b (tEqI ta tb) := pc_int ha hb fun _ _ _ _ _ _ h => eq_int (by rw [Bool.beq_eq_decide_eq]; exact h)
theorem pc_neI (ha : PE X a ta) (hb : PE X b tb) : PC X .NotEq a b (tNeI ta tb) := pc_int ha hb fun _ _ _ _ _ _ h => ne_int (by rw [bne, Bool.beq_eq_decide_eq]; exact h)
/-- is None -/
def tIsN (ta : TE) : TE := fun σ H Q => ta σ H fun x H1 => Q (.bl (decide (x = .non))) H1
def tNotN (ta : TE) : TE := fun σ H Q => ta σ H fun x H1 => Q (.bl (!decide (x = .non))) H1
theorem RelV.none_iff {x : V} {v : Value} (r : RelV x v) : (v == Value.none) = decide (x = .non) := by
  cases x with
  | non => cases r; rfl
  | bl _ => cases r; rfl
  | int _ => obtain ⟨t, rfl⟩ := r; rfl
  | str _ => obtain ⟨t, rfl⟩ := r; rfl
  | byt _ => obtain ⟨t, rfl⟩ := r; rfl
  | flt _ => obtain ⟨t, rfl⟩ := r; rfl
  | ref _ => cases r; rfl
  | ty _ => cases r; rfl
theorem pc_isN {j pos'} (ha : PE X a ta) : PC X .Is a (.Constant .none j pos') (tIsN ta) := by
  intro pins s σ H Q I h
  refine thn (ha pins s σ H _ I h) fun v s1 ⟨x, H1, I1, r1, q1⟩ => ?_
  exact Constant_none (is_none_gen ⟨.bl _, H1, I1, by rw [r1.none_iff]; rfl, q1⟩)
theorem pc_notN {j pos'} (ha : PE X a ta) : PC X .IsNot a (.Constant .none j pos') (tNotN ta) := by
  intro pins s σ H Q I h
  refine thn (ha pins s σ H _ I h) fun v s1 ⟨x, H1, I1, r1, q1⟩ => ?_
  exact Constant_none (isnot_none_gen ⟨.bl _, H1, I1, by rw [r1.none_iff]; rfl, q1⟩)
/-- a comparison as a value, as a test -/
def tB (t : TE) : TT := fun σ H Q => t σ H fun x H1 => ∃ c, x = .bl c ∧ Q c H1
theorem pe_cmp {op : CmpOp} {t : TE} (h : PC X op a b t) (h1 : behindInMarks op b = false := by first | exact nobehind _ (by decide) (by decide) | rfl) : PE X (.Compare a [op] [b] pos) t := fun pins s σ H Q I hw => wpAny_Compare1 (h pins s σ H Q I hw) h1
theorem pt_cmp {op : CmpOp} {t : TE} (h : PC X op a b t) (h1 : behindInMarks op b = false := by first | exact nobehind _ (by decide) (by decide) | rfl) : PT X (.Compare a [op] [b] pos) (tB t) := by
  intro pins s σ H Q I hw
  refine wpAny_isTrue_Compare1 (thn (h pins s σ H _ I hw) fun v s1 h1 => thn h1 fun u s2 h2 => thn h2 fun c s3 ⟨x, H1, I1, r1, q1⟩ => ?_) h1
  obtain ⟨d, rfl, q⟩ := q1
  cases r1
  exact wpAny_truthy_bool ⟨H1, I1, q⟩
/-- an expression whose value is a bool, as a test -/
theorem pt_val {e : Expr} {t : TE} (h : PE X e t) (he : ∀ whole, isTrue e X.env whole = (do let v ← whole; standAt e.pos; holding [v] (truthy v)) := by intro _; rfl) : PT X e (tB t) := by
  intro pins s σ H Q I hw
  refine isTrue_plain (thn (h pins s σ H _ I hw) fun v s1 ⟨x, H1, I1, r1, q1⟩ => ?_) (he _)
  obtain ⟨d, rfl, q⟩ := q1
  cases r1
  exact wpAny_truthy_bool ⟨H1, I1, q⟩

/-! ### and, or, not -/
variable {tA tB' : TT} {rest : List Expr}
def tAnd (t u : TT) : TT := fun σ H Q => t σ H fun c H1 => if c = true then u σ H1 Q else Q false H1
def tOr (t u : TT) : TT := fun σ H Q => t σ H fun c H1 => if c = true then Q true H1 else u σ H1 Q
def tNot (t : TT) : TT := fun σ H Q => t σ H fun c H1 => Q (!c) H1
theorem pw_and1 (ha : PT X a tA) : PW X (.BoolOp .And [a] pos) tA := by
  intro wh pins s σ H Q I h
  refine isTrue_and (thn (ha pins s σ H Q I h) fun c s1 e => ?_)
  cases c with
  | true => exact isTrue_and_nil e
  | false => exact e
theorem pw_or1 (ha : PT X a tA) : PW X (.BoolOp .Or [a] pos) tA := by
  intro wh pins s σ H Q I h
  refine isTrue_or (thn (ha pins s σ H Q I h) fun c s1 e => ?_)
  cases c with
  | false => exact isTrue_or_nil e
  | true => exact e
theorem pw_and (ha : PT X a tA) (hb : PW X (.BoolOp .And (b :: rest) pos) tB') : PW X (.BoolOp .And (a :: b :: rest) pos) (tAnd tA tB') := by
  intro wh pins s σ H Q I h
  refine isTrue_and (thn (ha pins s σ H _ I h) fun c s1 ⟨H1, I1, q1⟩ => ?_)
  cases c with
  | true => exact hb wh pins s1 σ H1 Q I1 q1
  | false => exact ⟨H1, I1, q1⟩
theorem pw_or (ha : PT X a tA) (hb : PW X (.BoolOp .Or (b :: rest) pos) tB') : PW X (.BoolOp .Or (a :: b :: rest) pos) (tOr tA tB') := by
  intro wh pins s σ H Q I h
  refine isTrue_or (thn (ha pins s σ H _ I h) fun c s1 ⟨H1, I1, q1⟩ => ?_)
  cases c with
  | true => exact ⟨H1, I1, q1⟩
  | false => exact hb wh pins s1 σ H1 Q I1 q1
theorem pt_not (ha : PT X a tA) : PT X (.UnaryOp .Not a pos) (tNot tA) := by
  intro pins s σ H Q I h
  exact isTrue_not (ha pins s σ H (fun c H1 => Q (!c) H1) I h)
/-- .. as values (bools) -/
def tAndV (ta tb : TE) : TE := fun σ H Q => ta σ H fun x H1 => ∃ c, x = .bl c ∧ if c = true then tb σ H1 Q else Q (.bl false) H1
def tOrV (ta tb : TE) : TE := fun σ H Q => ta σ H fun x H1 => ∃ c, x = .bl c ∧ if c = true then Q (.bl true) H1 else tb σ H1 Q
def tNotV (ta : TE) : TE := fun σ H Q => ta σ H fun x H1 => ∃ c, x = .bl c ∧ Q (.bl (!c)) H1
theorem pe_one {op} {t : TE} (h : PE X a t) : PE X (.BoolOp op [a] pos) t := fun pins s σ H Q I hw => BoolOp_one (h pins s σ H Q I hw)
theorem pe_and (ha : PE X a ta) (hb : PE X (.BoolOp .And (b :: rest) pos) tb) : PE X (.BoolOp .And (a :: b :: rest) pos) (tAndV ta tb) := by
  intro pins s σ H Q I h
  refine BoolOp_and (thn (ha pins s σ H _ I h) fun v s1 ⟨x, H1, I1, r1, q1⟩ => ?_)
  obtain ⟨c, rfl, q1⟩ := q1
  cases r1
  refine wpAny_truthy_bool ?_
  cases c with
  | true => exact hb pins s1 σ H1 Q I1 q1
  | false => exact ⟨.bl false, H1, I1, rfl, q1⟩
theorem pe_or (ha : PE X a ta) (hb : PE X (.BoolOp .Or (b :: rest) pos) tb) : PE X (.BoolOp .Or (a :: b :: rest) pos) (tOrV ta tb) := by
  intro pins s σ H Q I h
  refine BoolOp_or (thn (ha pins s σ H _ I h) fun v s1 ⟨x, H1, I1, r1, q1⟩ => ?_)
  obtain ⟨c, rfl, q1⟩ := q1
  cases r1
  refine wpAny_truthy_bool ?_
  cases c with
  | false => exact hb pins s1 σ H1 Q I1 q1
  | true => exact ⟨.bl true, H1, I1, rfl, q1⟩
theorem pe_not (ha : PE X a ta) : PE X (.UnaryOp .Not a pos) (tNotV ta) := by
  intro pins s σ H Q I h
  refine UnaryOp_ (thn (ha pins s σ H _ I h) fun v s1 ⟨x, H1, I1, r1, q1⟩ => ?_)
  obtain ⟨c, rfl, q1⟩ := q1
  cases r1
  exact not_of (wpAny_truthy_bool ⟨.bl (!c), H1, I1, rfl, q1⟩)
/-- a if t else b -/
def tIf (t : TT) (ta tb : TE) : TE := fun σ H Q => t σ H fun c H1 => if c = true then ta σ H1 Q else tb σ H1 Q
theorem pe_ifExp {c : Expr} (hc : PT X c tA) (ha : PE X a ta) (hb : PE X b tb) : PE X (.IfExp c a b pos) (tIf tA ta tb) := by
  intro pins s σ H Q I h
  refine wpAny_IfExp (thn (hc pins s σ H _ I h) fun d s1 ⟨H1, I1, q1⟩ => ?_)
  cases d with
  | true => exact ha pins s1 σ H1 Q I1 q1
  | false => exact hb pins s1 σ H1 Q I1 q1
end
end L2

namespace L2
open PySem PySem.Spec PyProof.Rows

/-! ### a list, a tuple that is read: tracked, frozen, or an object of the module -/
def SqL (K : PySem.W.Frag) (H : Hp) (a : Addr) (xs : List V) : Prop :=
  Rd H a (.lst xs) ∨
    ∃ (o : Obj) (its : Array Value) (n : Nat), K.lookup a = some o ∧ o.cls = .type "list" ∧ o.dict = none ∧ o.data = .seq its n ∧ its.size ≤ sizeLine ∧ Vals xs its.toList
def SqT (K : PySem.W.Frag) (H : Hp) (a : Addr) (xs : List V) : Prop :=
  Rd H a (.tup xs) ∨
    ∃ (o : Obj) (its : Array Value) (n : Nat), K.lookup a = some o ∧ o.cls = .type "tuple" ∧ o.data = .seq its n ∧ its.size ≤ sizeLine ∧ Vals xs its.toList
def absV : Value → Option V
  | .none => some .non
  | .bool b => some (.bl b)
  | .int i _ => some (.int i)
  | .str x _ => some (.str x)
  | .bytes b _ => some (.byt b)
  | .float b _ => some (.flt b)
  | .ref a => some (.ref a)
  | .type n => some (.ty n)
  | _ => none
theorem RelV.abs {x : V} {u : Value} (r : RelV x u) : absV u = some x := by
  cases x with
  | non => cases r; rfl
  | bl _ => cases r; rfl
  | int _ => obtain ⟨t, rfl⟩ := r; rfl
  | str _ => obtain ⟨t, rfl⟩ := r; rfl
  | byt _ => obtain ⟨t, rfl⟩ := r; rfl
  | flt _ => obtain ⟨t, rfl⟩ := r; rfl
  | ref _ => cases r; rfl
  | ty _ => cases r; rfl
theorem RelV.inj {x y : V} {u : Value} (r : RelV x u) (q : RelV y u) : x = y := Option.some.inj (r.abs.symm.trans q.abs)
theorem Vals.inj : ∀ {xs ys : List V} {us : List Value}, Vals xs us → Vals ys us → xs = ys
  | _, _, _, .nil, .nil => rfl
  | _, _, _, .cons r t, .cons r' t' => by rw [r.inj r', Vals.inj t t']
section
variable {X : Cx} {pins : List (Addr × Obj)} {σ : St} {H : Hp} {s : Shared} {a : Addr} {xs ys : List V}
theorem SqL.of {K : PySem.W.Frag} (h : H a = some (.lst xs)) : SqL K H a xs := .inl (.inl h)
theorem SqT.of {K : PySem.W.Frag} (h : H a = some (.tup xs)) : SqT K H a xs := .inl (.inl h)
theorem Inv.list (I : Inv X pins σ H s) (h : SqL X.K H a xs) : ∃ its : List Value, Vals xs its ∧ PlainL s.heap a its.toArray ∧ xs.length ≤ sizeLine := by
  rcases h with h | ⟨o, its, n, hk, hc, hd, hs, hz, r⟩
  · obtain ⟨z, its, n, r, e⟩ := h.ok I.hok
    exact ⟨its, r, ⟨_, n, e, rfl, rfl, rfl⟩, z⟩
  · refine ⟨its.toList, r, ⟨o, n, I.kIn a o hk, hc, hd, by simpa using hs⟩, ?_⟩
    have e := r.length
    simp only [Array.length_toList] at e
    omega
theorem Inv.tuple (I : Inv X pins σ H s) (h : SqT X.K H a xs) : ∃ its : List Value, Vals xs its ∧ IsTup s.heap a its.toArray ∧ xs.length ≤ sizeLine := by
  rcases h with h | ⟨o, its, n, hk, hc, hs, hz, r⟩
  · obtain ⟨z, its, r, p⟩ := h.ok I.hok
    exact ⟨its, r, p, z⟩
  · refine ⟨its.toList, r, ⟨o, I.kIn a o hk, hc, n, by simpa using hs⟩, ?_⟩
    have e := r.length
    simp only [Array.length_toList] at e
    omega
theorem Inv.list_inj (I : Inv X pins σ H s) (h : SqL X.K H a xs) (h' : SqL X.K H a ys) : xs = ys := by
  obtain ⟨its, r, ⟨o, n, e, _, _, d⟩, _⟩ := I.list h
  obtain ⟨its', r', ⟨o', n', e', _, _, d'⟩, _⟩ := I.list h'
  rw [e] at e'; cases e'
  rw [d] at d'
  injection d' with d1 _
  have : its = its' := by simpa using congrArg Array.toList d1
  subst this
  exact r.inj r'
theorem Inv.tuple_inj (I : Inv X pins σ H s) (h : SqT X.K H a xs) (h' : SqT X.K H a ys) : xs = ys := by
  obtain ⟨its, r, ⟨o, e, _, n, d⟩, _⟩ := I.tuple h
  obtain ⟨its', r', ⟨o', e', _, n', d'⟩, _⟩ := I.tuple h'
  rw [e] at e'; cases e'
  rw [d] at d'
  injection d' with d1 _
  have : its = its' := by simpa using congrArg Array.toList d1
  subst this
  exact r.inj r'
end

/-! ### another wish about exceptions -/
abbrev Cx.wish (X : Cx) (E : Value → Shared → Prop) : Cx := { X with xe := E }
/-- no exception leaves -/
abbrev Cx.nox (X : Cx) : Cx := X.wish fun _ _ => False
theorem Cx.Ok.wish {X : Cx} (ok : X.Ok) (E : Value → Shared → Prop) : (X.wish E).Ok :=
  ⟨ok.mod, ok.kind, ok.glob, ok.blt, ok.above, ok.inj, ok.has, ok.cab, ok.hd, ok.frames, ok.stk, ok.exf, ok.bs, ok.bsz, ok.noex, ok.exfs, ok.funs, ok.frf⟩
theorem Cx.Ok.unwish {X : Cx} {E : Value → Shared → Prop} (ok : (X.wish E).Ok) : X.Ok :=
  ⟨ok.mod, ok.kind, ok.glob, ok.blt, ok.above, ok.inj, ok.has, ok.cab, ok.hd, ok.frames, ok.stk, ok.exf, ok.bs, ok.bsz, ok.noex, ok.exfs, ok.funs, ok.frf⟩
section
variable {X : Cx} {pins : List (Addr × Obj)} {σ : St} {H : Hp} {s : Shared} {E : Value → Shared → Prop}
theorem Inv.wish (I : Inv X pins σ H s) (E : Value → Shared → Prop) : Inv (X.wish E) pins σ H s := ⟨I.ok.wish E, I.os, I.bare, I.base, I.loc, I.cell, I.free, I.freeC, I.pin, I.hok, I.len⟩
theorem Inv.unwish (I : Inv (X.wish E) pins σ H s) : Inv X pins σ H s := ⟨I.ok.unwish, I.os, I.bare, I.base, I.loc, I.cell, I.free, I.freeC, I.pin, I.hok, I.len⟩
theorem SP.unwish {D : Ends} {f : Flow} {s' : Shared} (h : SP (X.wish E) pins D f s') : SP X pins D f s' := by
  cases f with
  | next => obtain ⟨σ', H', I, q⟩ := h; exact ⟨σ', H', I.unwish, q⟩
  | brk => obtain ⟨σ', H', I, q⟩ := h; exact ⟨σ', H', I.unwish, q⟩
  | cont => obtain ⟨σ', H', I, q⟩ := h; exact ⟨σ', H', I.unwish, q⟩
  | ret u => obtain ⟨v, σ', H', I, r, q⟩ := h; exact ⟨v, σ', H', I.unwish, r, q⟩
theorem PE.nox {e : Expr} {t : TE} (h : PE X.nox e t) : PE X e t := fun pins s σ H Q I hw =>
  wpAny_mono (h pins s σ H Q (I.wish _) hw) (fun _ _ ⟨v, H', I', r, q⟩ => ⟨v, H', I'.unwish, r, q⟩) fun _ _ z => False.elim z
theorem PT.nox {e : Expr} {t : TT} (h : PT X.nox e t) : PT X e t := fun pins s σ H Q I hw =>
  wpAny_mono (h pins s σ H Q (I.wish _) hw) (fun _ _ ⟨H', I', q⟩ => ⟨H', I'.unwish, q⟩) fun _ _ z => False.elim z
theorem PSs.nox {st : List Stmt} {t : TS} (h : PSs X.nox st t) : PSs X st t := fun pins s σ H D I hw =>
  wpAny_mono (h pins s σ H D (I.wish _) hw) (fun _ _ q => q.unwish) fun _ _ z => False.elim z
end

/-! ### blocks and small statements -/
section
variable {X : Cx} {st : Stmt} {rest : List Stmt} {t u : TS} {e : Expr} {te : TE} {pos : Pos}
def tNext : TS := fun D σ H => D.nx σ H
def tSeq (t u : TS) : TS := fun D σ H => t { D with nx := u D } σ H
theorem pss_nil : PSs X [] tNext := fun _ _ σ H _ I h => wpAny_execs_nil ⟨σ, H, I, h⟩
theorem pss_cons (h1 : PS X st t) (h2 : PSs X rest u) : PSs X (st :: rest) (tSeq t u) := by
  intro pins s σ H D I h
  refine wpAny_execs_cons (thn (h1 pins s σ H { D with nx := u D } I h) fun f s1 q => ?_)
  cases f with
  | next =>
    obtain ⟨σ', H', I', q⟩ := q
    exact h2 pins s1 σ' H' D I' q
  | ret v => exact q
  | brk => exact q
  | cont => exact q
theorem pss_one (h1 : PS X st t) : PSs X [st] t := by
  intro pins s σ H D I h
  refine wpAny_execs_cons (thn (h1 pins s σ H D I h) fun f s1 q => ?_)
  cases f with
  | next => exact wpAny_execs_nil q
  | ret v => exact q
  | brk => exact q
  | cont => exact q
def tBreak : TS := fun D σ H => D.bk σ H
def tCont : TS := fun D σ H => D.ct σ H
theorem ps_pass : PS X (.Pass pos) tNext := fun _ _ σ H _ I h => wpAny_Pass ⟨σ, H, I, h⟩
theorem ps_break : PS X (.Break pos) tBreak := fun _ _ σ H _ I h => wpAny_Break ⟨σ, H, I, h⟩
theorem ps_continue : PS X (.Continue pos) tCont := fun _ _ σ H _ I h => wpAny_Continue ⟨σ, H, I, h⟩
/-- in a def's body nothing is shown -/
theorem Inv.quiet {pins : List (Addr × Obj)} {σ : St} {H : Hp} {s : Shared} (I : Inv X pins σ H s) : interactive X.env = false := by simp [interactive, I.ok.kind]
/-- a docstring -/
theorem ps_doc {x j pos pos'} : PS X (.Expr (.Constant (.str x) j pos) pos') tNext := fun _ s σ H _ I h => wpAny_Expr (Calls.Constant_str (show SP X _ _ .next { s with toks := s.toks + 1 } from ⟨σ, H, I.tok _, h⟩)) I.quiet
/-- an expression whose value is dropped -/
def tDrop (te : TE) : TS := fun D σ H => te σ H fun _ H1 => D.nx σ H1
theorem ps_expr (he : PE X e te) (hs : swapsWith e none pos.line X.env = pure false := by rfl) : PS X (.Expr e pos) (tDrop te) := by
  intro pins s σ H D I h
  exact wpAny_Expr_any (thn (he pins s σ H _ I h) fun v s1 ⟨x, H1, I1, r1, q1⟩ => ⟨σ, H1, I1, q1⟩) I.quiet hs
def tRet (te : TE) : TS := fun D σ H => te σ H D.rt
theorem ps_ret (he : PE X e te) : PS X (.Return (some e) pos) (tRet te) := by
  intro pins s σ H D I h
  exact wpAny_Return_some (thn (he pins s σ H _ I h) fun v s1 ⟨x, H1, I1, r1, q1⟩ => ⟨x, σ, H1, I1, r1, q1⟩)
def tRetN : TS := fun D _ H => D.rt .non H
theorem ps_retN : PS X (.Return none pos) tRetN := fun _ _ σ H _ I h => wpAny_Return_none ⟨.non, σ, H, I, rfl, h⟩
def tIfS (c : TT) (t u : TS) : TS := fun D σ H => c σ H fun b H1 => if b = true then t D σ H1 else u D σ H1
theorem ps_if {c : Expr} {a b : List Stmt} {tc : TT} (hc : PT X c tc) (ha : PSs X a t) (hb : PSs X b u) : PS X (.If c a b pos) (tIfS tc t u) := by
  intro pins s σ H D I h
  refine wpAny_If (thn (hc pins s σ H _ I h) fun d s1 ⟨H1, I1, q1⟩ => ?_)
  cases d with
  | true => exact ha pins s1 σ H1 D I1 q1
  | false => exact hb pins s1 σ H1 D I1 q1
/-- code that the proof never comes to -/
def tNever : TS := fun _ _ _ => False
theorem ps_never : PS X st tNever := fun _ _ _ _ _ _ h => h.elim
theorem pss_never {sts : List Stmt} : PSs X sts tNever := fun _ _ _ _ _ _ h => h.elim
end

/-! ### targets -/
abbrev TG := V → St → Hp → (St → Hp → Prop) → Prop
abbrev TGs := List V → St → Hp → (St → Hp → Prop) → Prop
def PG (X : Cx) (target : Expr) (t : TG) : Prop :=
  ∀ (pins : List (Addr × Obj)) (s : Shared) (σ : St) (H : Hp) (v : V) (u : Value) (Q : St → Hp → Prop), Inv X pins σ H s → RelV v u → t v σ H Q →
    wpAny (model X.prog X.w) X.A (assign target X.env u) (fun _ s' => ∃ σ' H', Inv X pins σ' H' s' ∧ Q σ' H') X.xe s
/-- several targets, one after another -/
def PGs (X : Cx) (ts : List Expr) (t : TGs) : Prop :=
  ∀ (pins : List (Addr × Obj)) (s : Shared) (σ : St) (H : Hp) (vs : List V) (us : List Value) (Q : St → Hp → Prop), Inv X pins σ H s → Vals vs us → t vs σ H Q →
    wpAny (model X.prog X.w) X.A (assignInOrder ((assignEach ts X.env).map (·.2)) us) (fun _ s' => ∃ σ' H', Inv X pins σ' H' s' ∧ Q σ' H') X.xe s
/-- o[i] = v, by values -/
abbrev TSet := V → V → V → Hp → (Hp → Prop) → Prop
def PSet (X : Cx) (t : TSet) : Prop :=
  ∀ (pins : List (Addr × Obj)) (s : Shared) (σ : St) (H : Hp) (o i v : V) (ov iv u : Value) (Q : Hp → Prop), Inv X pins σ H s → RelV o ov → RelV i iv → RelV v u → t o i v H Q →
    wpAny (model X.prog X.w) X.A (setItem ov iv u) (fun _ s' => ∃ H', Inv X pins σ H' s' ∧ Q H') X.xe s
/-- a op= b, by values -/
abbrev TIp := V → V → Hp → VK → Prop
def PIp (X : Cx) (op : Operator) (t : TIp) : Prop :=
  ∀ (pins : List (Addr × Obj)) (s : Shared) (σ : St) (H : Hp) (x y : V) (v u : Value) (Q : VK), Inv X pins σ H s → RelV x v → RelV y u → t x y H Q →
    wpAny (model X.prog X.w) X.A (inplaceOp op v u) (EP X pins σ Q) X.xe s
section
variable {X : Cx} {pos : Pos}
def gName (i : Nat) : TG := fun v σ H Q => Q (σ.set i (some v)) H
theorem pg_name {i : Nat} {x : Str} (hN : X.N.Nodup) (hi : X.N[i]? = some x) (hx : Loc X.env.scope x) (hf : X.fn x = true ∨ X.env.scope.names.lookup x = some .local := by first | exact .inl rfl | exact .inr rfl | assumption) : PG X (.Name x pos) (gName i) := by
  intro pins s σ H v u Q I r h
  exact wpAny_assign_Name (store_ok I hN hi hx r (fun s' I' => ⟨_, H, I', h⟩) hf)
def gNil : TGs := fun vs σ H Q => vs = [] ∧ Q σ H
def gCons (t : TG) (u : TGs) : TGs := fun vs σ H Q => ∃ v r, vs = v :: r ∧ t v σ H fun σ' H' => u r σ' H' Q
theorem pgs_nil : PGs X [] gNil := by
  intro pins s σ H vs us Q I r h
  obtain ⟨e, h⟩ := h
  subst e
  cases r
  exact assignInOrder_nil ⟨σ, H, I, h⟩
theorem pgs_cons {e : Expr} {es : List Expr} {t : TG} {u : TGs} (h1 : PG X e t) (h2 : PGs X es u)
    (hs : (assignEach (e :: es) X.env).map (·.2) = assign e X.env :: (assignEach es X.env).map (·.2) := by rfl) : PGs X (e :: es) (gCons t u) := by
  intro pins s σ H vs us Q I r h
  obtain ⟨v, vr, e1, h⟩ := h
  subst e1
  cases r with
  | cons r rr =>
    rw [hs]
    refine assignInOrder_cons (thn (h1 pins s σ H _ _ _ I r h) fun _ s1 ⟨σ1, H1, I1, q1⟩ => ?_)
    exact h2 pins s1 σ1 H1 _ _ Q I1 rr q1
/-- (a, b, ..) = a tuple of that length -/
def gTup (K : PySem.W.Frag) (n : Nat) (t : TGs) : TG := fun v σ H Q => ∃ a xs, v = .ref a ∧ SqT K H a xs ∧ xs.length = n ∧ t xs σ H Q
theorem pg_tup {es : List Expr} {k : Nat} {t : TGs} {n : Nat} (hc : X.calm = true) (h : PGs X es t)
    (hn : (assignEach es X.env).length = n := by rfl) (hst : (assignEach es X.env).findIdx? (·.1) = none := by rfl) : PG X (.Tuple es k pos) (gTup X.K n t) := by
  intro pins s σ H v u Q I r hw
  obtain ⟨a, xs, e1, hq, hl, hw⟩ := hw
  subst e1
  cases r
  obtain ⟨its, rv, ht, hz⟩ := I.tuple hq
  refine assign_Tuple_tuple (I.ok.hd hc) ht (by simp [hn, ← hl, rv.length]) hst fun h' hx => ?_
  have I1 : Inv X pins σ H { s with heap := h' } := I.kept (t' := s.toks) fun b o e => hx b o (Nat.ne_of_lt (Heap.lt_size e)) e
  exact h pins _ σ H xs _ Q I1 (by simpa using rv) hw
/-- o[i] = .. -/
def gSub (to ti : TE) (t : TSet) : TG := fun v σ H Q => to σ H fun o H1 => ti σ H1 fun i H2 => t o i v H2 fun H3 => Q σ H3
theorem pg_sub {o i : Expr} {to ti : TE} {t : TSet} (ho : PE X o to) (hi : PE X i ti) (hs : PSet X t)
    (ha : ∀ v, assign (.Subscript o i pos) X.env v = (do
      let ov ← holding [v] (eval o X.env)
      let iv ← holding [v, ov] (eval i X.env)
      standAt pos
      holding [v, ov, iv] (setItem ov iv v)
      release [v, ov, iv] []) := by intro _; rfl) : PG X (.Subscript o i pos) (gSub to ti t) := by
  intro pins s σ H v u Q I r h
  rw [ha]
  refine wpAny_bind (wpAny_holding (thn (ho pins s σ H _ I h) fun ov s1 ⟨x, H1, I1, r1, q1⟩ => ?_))
  refine wpAny_bind (wpAny_holding (thn (hi pins s1 σ H1 _ I1 q1) fun iv s2 ⟨y, H2, I2, r2, q2⟩ => ?_))
  refine wpAny_bind (wpAny_standAt (wpAny_bind (wpAny_holding (thn (hs pins s2 σ H2 x y v ov iv u _ I2 r1 r2 r q2) fun _ s3 ⟨H3, I3, q3⟩ => ?_))))
  exact wpAny_release ⟨σ, H3, I3, q3⟩
/-- target = value -/
def tAsg (te : TE) (g : TG) : TS := fun D σ H => te σ H fun x H1 => g x σ H1 D.nx
theorem ps_asg {tg e : Expr} {te : TE} {g : TG} (he : PE X e te) (hg : PG X tg g) (hs : swapsWithSole [tg] e pos.line X.env = pure false := by rfl) (hw : swappedStores [tg] e X.env = pure none := by rfl)
    (h1 : (assignEach [tg] X.env).map (·.2) = [assign tg X.env] := by rfl) : PS X (.Assign [tg] e pos) (tAsg te g) := by
  intro pins s σ H D I h
  refine wpAny_Assign_stores (thn (he pins s σ H _ I h) fun v s1 ⟨x, H1, I1, r1, q1⟩ => ?_) hs hw
  rw [h1]
  exact thn (hg pins s1 σ H1 x v _ I1 r1 q1) fun _ s2 q => q
/-- name = value -/
theorem ps_set {i : Nat} {x : Str} {e : Expr} {te : TE} {pos' : Pos} (hN : X.N.Nodup) (hi : X.N[i]? = some x) (hx : Loc X.env.scope x) (he : PE X e te) (hs : swapsWith e (some (.Name x pos')) pos.line X.env = pure false := by rfl) (hf : X.fn x = true ∨ X.env.scope.names.lookup x = some .local := by first | exact .inl rfl | exact .inr rfl | assumption) :
    PS X (.Assign [.Name x pos'] e pos) (tAsg te (gName i)) := by
  intro pins s σ H D I h
  refine wpAny_Assign_Name (thn (he pins s σ H _ I h) fun v s1 ⟨y, H1, I1, r1, q1⟩ => ?_) hs
  exact store_ok I1 hN hi hx r1 (fun s2 I2 => ⟨_, H1, I2, q1⟩) hf
/-- a, b = x, y with plain local names: stored from the right; the pair itself is not tracked (the opening rows as in PyProof/Rows/TupAssign.lean:23) -/
def tPar (i j : Nat) (ta : TA) : TS := fun D σ H => ta σ H fun vs H1 => ∃ v w, vs = [v, w] ∧ D.nx ((σ.set i (some v)).set j (some w)) H1
theorem ps_par {i j : Nat} {x y : Str} {a b : Expr} {ta : TA} {px py pt : Pos} {kt k2 pt2} (hc : X.calm = true) (hN : X.N.Nodup) (hi : X.N[i]? = some x) (hj : X.N[j]? = some y) (hij : i ≠ j)
    (hx : X.env.scope.names.lookup x = some .local) (hy : X.env.scope.names.lookup y = some .local) (ha : PA X [a, b] ta)
    (hw : swappedStores [.Tuple [.Name x px, .Name y py] kt pt] (.Tuple [a, b] k2 pt2) X.env = pure (some [x, y]))
    (hs : swapsWithSole [.Tuple [.Name x px, .Name y py] kt pt] (.Tuple [a, b] k2 pt2) pos.line X.env = pure false := by rfl) :
    PS X (.Assign [.Tuple [.Name x px, .Name y py] kt pt] (.Tuple [a, b] k2 pt2) pos) (tPar i j ta) := by
  intro pins s σ H D I h
  rw [exec_Assign_arm]
  refine wpAny_bind (wpAny_standAt ?_)
  rw [hs]
  refine wpAny_bind (wpAny_pure ?_)
  rw [if_neg (by decide)]
  refine wpAny_bind (Tuple_ (thn (ha _ pins s σ H _ I h) fun us s1 ⟨vs, H1, I1, r1, q1⟩ => ?_))
  obtain ⟨v, w, e1, q1⟩ := q1
  subst e1
  obtain ⟨u1, u2, rfl, rv, rw'⟩ : ∃ u1 u2, us = [u1, u2] ∧ RelV v u1 ∧ RelV w u2 := by
    cases r1 with
    | cons p q =>
      cases q with
      | cons p' q' =>
        cases q'
        exact ⟨_, _, rfl, p, p'⟩
  refine wpAny_newObj_type ?_ (by show 2 ≤ sizeLine; decide)
  have I2 : Inv X pins σ H1 { s1 with heap := s1.heap.push { cls := .type "tuple", data := .seq [u1, u2].toArray } } := I1.kept (t' := s1.toks) fun b o e => Heap.get?_push_of_some _ e
  rw [hw]
  refine wpAny_bind (wpAny_pure ?_)
  show wpAny (model X.prog X.w) X.A (do rule "assign.swapped-stores"; let items ← unpackItems (.ref s1.heap.objs.size) 2 none; assignInOrder [fun v => bindName X.env y v, fun v => bindName X.env x v] items.reverse; pure Flow.next) _ _ _
  refine wpAny_bind (wpAny_rule (wpAny_bind (unpackItems_tuple (items := #[u1, u2]) (I.ok.hd hc) (IsTup.new s1.heap _) fun h' hx' => ?_)))
  have I3 := I2.kept (h' := h') (t' := s1.toks) fun b o e => hx' b o (Nat.ne_of_lt (Heap.lt_size e)) e
  show wpAny _ _ (assignInOrder [fun v => bindName X.env y v, fun v => bindName X.env x v] [u2, u1] >>= fun _ => pure Flow.next) _ _ _
  refine wpAny_bind (assignInOrder_cons (wpAny_bindName (store_ok I3 hN hj (.inl hy) rw' (fun s2 I4 => ?_) (.inr hy))))
  refine assignInOrder_cons (wpAny_bindName (store_ok I4 hN hi (.inl hx) rv (fun s3 I5 => assignInOrder_nil (wpAny_pure ?_)) (.inr hx)))
  rw [List.set_comm _ _ (Ne.symm hij)] at I5
  exact ⟨_, H1, I5, q1⟩
/-- name op= e -/
def tAug (i : Nat) (te : TE) (ti : TIp) : TS := fun D σ H => ∃ x, σ[i]? = some (some x) ∧ te σ H fun y H1 => ti x y H1 fun z H2 => D.nx (σ.set i (some z)) H2
theorem ps_aug {i : Nat} {x : Str} {e : Expr} {te : TE} {op : Operator} {ti : TIp} {pos' : Pos} (hN : X.N.Nodup) (hi : X.N[i]? = some x) (hx : Loc X.env.scope x) (he : PE X e te) (ho : PIp X op ti) (hf : X.fn x = true ∨ X.env.scope.names.lookup x = some .local := by first | exact .inl rfl | exact .inr rfl | assumption) :
    PS X (.AugAssign (.Name x pos') op e pos) (tAug i te ti) := by
  intro pins s σ H D I h
  obtain ⟨v, e1, h⟩ := h
  obtain ⟨m, hn, hl⟩ := I.loc
  have vis : Vis X.env.scope x := by rcases hx with k | k; exact .inl k; exact .inr (.inl k)
  obtain ⟨u, r, l⟩ := hl i x v hi e1 vis
  refine wpAny_AugAssign_Name ?_
  have go : wpAny (model X.prog X.w) X.A (eval e X.env) (fun w s₂ => wpAny (model X.prog X.w) X.A (inplaceOp op u w) (fun r s₃ => wpAny (model X.prog X.w) X.A (storeName X.env x r) (fun _ => SP X pins D .next) X.xe s₃) X.xe s₂) X.xe s := by
    refine thn (he pins s σ H _ I h) fun w s1 ⟨y, H1, I1, r1, q1⟩ => ?_
    refine thn (ho pins s1 σ H1 v y u w _ I1 r r1 q1) fun z s2 ⟨zv, H2, I2, r2, q2⟩ => ?_
    exact store_ok I2 hN hi hx r2 (fun s3 I3 => ⟨_, H2, I3, q2⟩) hf
  rcases l with ⟨hk, hm⟩ | ⟨hk, c, hc, hcell⟩
  · exact wpAny_loadName_local I.ok.kind hk hn hm go
  · rcases hk with hk | hk
    · exact wpAny_loadName_cell I.ok.kind hk hc hcell go
    · rcases hx with k | k
      · have : X.env.scope.names.lookup x = some .free := hk
        rw [k] at this; cases this
      · have : X.env.scope.names.lookup x = some .free := hk
        rw [k] at this; cases this
/-- o[i] op= e -/
def tAugS (to ti te : TE) (tget : V → V → Hp → VK → Prop) (tip : TIp) (tset : TSet) : TS := fun D σ H => to σ H fun o H1 => ti σ H1 fun i H2 => tget o i H2 fun x H3 => te σ H3 fun y H4 => tip x y H4 fun z H5 => tset o i z H5 fun H6 => D.nx σ H6
/-- o[i], by values -/
def PGet (X : Cx) (t : V → V → Hp → VK → Prop) : Prop :=
  ∀ (pins : List (Addr × Obj)) (s : Shared) (σ : St) (H : Hp) (o i : V) (ov iv : Value) (Q : VK), Inv X pins σ H s → RelV o ov → RelV i iv → t o i H Q →
    wpAny (model X.prog X.w) X.A (getItem ov iv) (EP X pins σ Q) X.xe s
theorem ps_augS {o i e : Expr} {to ti te : TE} {tget : V → V → Hp → VK → Prop} {tip : TIp} {tset : TSet} {op : Operator} {tpos : Pos} (ho : PE X o to) (hi : PE X i ti) (hg : PGet X tget) (he : PE X e te) (hp : PIp X op tip) (hs : PSet X tset)
    (ha : ∀ ov iv new, augStore i ov iv new = (do holding [new, ov, iv] (setItem ov iv new); release [new, ov, iv] []; pure .next) := by intros; rfl) : PS X (.AugAssign (.Subscript o i tpos) op e pos) (tAugS to ti te tget tip tset) := by
  intro pins s σ H D I h
  refine wpAny_AugAssign_SubscriptAny (thn (ho pins s σ H _ I h) fun ov s1 ⟨x1, H1, I1, r1, q1⟩ => ?_) ha
  refine thn (hi pins s1 σ H1 _ I1 q1) fun iv s2 ⟨x2, H2, I2, r2, q2⟩ => ?_
  refine thn (hg pins s2 σ H2 x1 x2 ov iv _ I2 r1 r2 q2) fun old s3 ⟨x3, H3, I3, r3, q3⟩ => ?_
  refine thn (he pins s3 σ H3 _ I3 q3) fun v s4 ⟨x4, H4, I4, r4, q4⟩ => ?_
  refine thn (hp pins s4 σ H4 x3 x4 old v _ I4 r3 r4 q4) fun new s5 ⟨x5, H5, I5, r5, q5⟩ => ?_
  exact thn (hs pins s5 σ H5 x1 x2 x5 ov iv new _ I5 r1 r2 r5 q5) fun _ s6 ⟨H6, I6, q6⟩ => ⟨σ, H6, I6, q6⟩
/-- ints -/
def ipI (f : Int → Int → Int) : TIp := fun x y H Q => ∃ i j, x = .int i ∧ y = .int j ∧ Q (.int (f i j)) H
theorem ip_add : PIp X .Add (ipI fun i j => i + j) := by
  intro pins s σ H x y v u Q I r1 r2 h
  obtain ⟨i, j, e1, e2, q⟩ := h
  subst e1; subst e2
  obtain ⟨t, rfl⟩ := r1
  obtain ⟨t', rfl⟩ := r2
  exact iadd_int ⟨.int _, H, I.tok _, ⟨_, rfl⟩, q⟩
theorem ip_sub : PIp X .Sub (ipI fun i j => i - j) := by
  intro pins s σ H x y v u Q I r1 r2 h
  obtain ⟨i, j, e1, e2, q⟩ := h
  subst e1; subst e2
  obtain ⟨t, rfl⟩ := r1
  obtain ⟨t', rfl⟩ := r2
  exact isub_int ⟨.int _, H, I.tok _, ⟨_, rfl⟩, q⟩
end

/-! ### while -/
section
variable {X : Cx} {pos : Pos}
/-- the invariant W with its measure -/
def tWhile (c : TT) (tb : TS) : TS := fun D σ H => ∃ W : Nat → St → Hp → Prop, (∃ m, W m σ H) ∧ ∀ m σ H, W m σ H →
  c σ H fun b H1 => if b = true then ∃ N : St → Hp → Prop, (∀ σ' H', N σ' H' → ∃ m', m' < m ∧ W m' σ' H') ∧ tb { D with nx := N, ct := N, bk := D.nx } σ H1 else D.nx σ H1
theorem ps_while {c : Expr} {body : List Stmt} {tc : TT} {tb : TS} (hp : PassesOwn (model X.prog X.w) X.A X.env X.xe) (hc : PT X c tc) (hb : PSs X body tb) : PS X (.While c body [] pos) (tWhile tc tb) := by
  intro pins s σ H D I h
  obtain ⟨W, ⟨m0, w0⟩, turn⟩ := h
  refine wpAny_While (codeAny_whileLoop (fun n s' => ∃ σ' H', Inv X pins σ' H' s' ∧ W n σ' H') ?_ m0 ⟨σ, H, I, w0⟩)
  rintro n s1 ⟨σ1, H1, I1, w1⟩
  refine wpAny_passesOwn hp (thn (hc pins s1 σ1 H1 _ I1 (turn n σ1 H1 w1)) fun b s2 ⟨H2, I2, q2⟩ => ?_)
  cases b with
  | true =>
    obtain ⟨N, hN, q2⟩ := q2
    rw [if_pos rfl]
    refine wpAny_passesOwn hp (thn (hb pins s2 σ1 H2 _ I2 q2) fun f s3 q3 => ?_)
    cases f with
    | next =>
      obtain ⟨σ3, H3, I3, n3⟩ := q3
      obtain ⟨m', hm, w3⟩ := hN σ3 H3 n3
      exact ⟨m', hm, σ3, H3, I3, w3⟩
    | cont =>
      obtain ⟨σ3, H3, I3, n3⟩ := q3
      obtain ⟨m', hm, w3⟩ := hN σ3 H3 n3
      exact ⟨m', hm, σ3, H3, I3, w3⟩
    | brk => exact q3
    | ret v => exact q3
  | false =>
    rw [if_neg Bool.false_ne_true]
    exact wpAny_execs_nil ⟨σ1, H2, I2, q2⟩
end

/-! ### what a loop or a comprehension walks -/
/-- at turn i: it yields x (the heap may grow), or it stops -/
structure It where
  go : Nat → Hp → Prop
  yld : Nat → Hp → V → Hp → Prop
  stop : Nat → Hp → Prop
/-- the iterator's own objects may turn: they are not the frame's, not pinned, younger than the entry (or a comprehension's own) -/
def FpOk (X : Cx) (pins : List (Addr × Obj)) (H : Hp) (b : Addr) : Prop :=
  H b = none ∧ b ≠ X.env.locals ∧ b ∉ X.fs ∧ (b ∈ X.ex ∨ X.s₀.heap.objs.size ≤ b) ∧ (∀ x c, X.env.cells.lookup x = some c → c ≠ b) ∧ ∀ p ∈ X.pn ++ pins, p.1 ≠ b
theorem Inv.fpOk {X : Cx} {pins : List (Addr × Obj)} {σ : St} {H H' : Hp} {s : Shared} {b : Addr} (I : Inv X pins σ H s) (hb : s.heap.objs.size ≤ b) (hn : H' b = none) : FpOk X pins H' b := by
  refine ⟨hn, Nat.ne_of_gt (Nat.lt_of_lt_of_le I.lt hb), I.nofs hb, .inr (Nat.le_trans I.sz hb), fun x c e z => ?_, fun p hp z => ?_⟩
  · obtain ⟨v, q⟩ := I.cell x c e
    exact absurd (Nat.lt_of_lt_of_le q.lt (by rw [z]; exact hb)) (Nat.lt_irrefl _)
  · exact absurd (Nat.lt_of_lt_of_le (Heap.lt_size (I.pin p hp).1) (by rw [z]; exact hb)) (Nat.lt_irrefl _)
structure Turn (P : Program) (w : World) (K : PySem.W.Frag) (tg : Expr) (J : It) (fp : List Addr) (it : Addr) (tn : Nat → Heap → Prop) : Prop where
  mem : it ∈ fp
  obj : ∀ i h, tn i h → ∀ b ∈ fp, ∃ o, h.get? b = some o ∧ ∀ v, o.data ≠ .cell v
  keep : ∀ i h h', tn i h → (∀ b ∈ fp, ∀ o, h.get? b = some o → h'.get? b = some o) → tn i h'
  item : ∀ (X : Cx), X.prog = P → X.w = w → X.K = K → X.calm = true → ∀ (i : Nat) (pins : List (Addr × Obj)) (s : Shared) (σ : St) (H : Hp) (E : Value → Shared → Prop), Inv X pins σ H s → (∀ b ∈ fp, FpOk X pins H b) → tn i s.heap → J.go i H →
    wpAny (model P w) X.A (pyNext (.ref it)) (fun r s1 => ∃ u, r = some u ∧
      wpAny (model P w) X.A (letOwnedTupleGo tg (.ref it) u) (fun _ s2 => ∃ x H', Inv X pins σ H' s2 ∧ RelV x u ∧ J.yld i H x H' ∧ tn (i + 1) s2.heap ∧ ∀ b ∈ fp, H' b = none) E s1) E s
  done : ∀ (X : Cx), X.prog = P → X.w = w → X.K = K → X.calm = true → ∀ (i : Nat) (pins : List (Addr × Obj)) (s : Shared) (σ : St) (H : Hp) (E : Value → Shared → Prop), Inv X pins σ H s → (∀ b ∈ fp, FpOk X pins H b) → tn i s.heap → J.stop i H →
    wpAny (model P w) X.A (pyNext (.ref it)) (fun r s1 => r = none ∧ Inv X pins σ H s1) E s
  self : ∀ (A : Around) (i : Nat) (s : Shared) (Q : Value → Shared → Prop) (E : Value → Shared → Prop), tn i s.heap → Q (.ref it) s → wpAny (model P w) A (pyIter (.ref it)) Q E s
abbrev TI := St → Hp → (It → Hp → Prop) → Prop
/-- an iterator has come -/
def PIE (X : Cx) (pins : List (Addr × Obj)) (σ : St) (tg : Expr) (R : It → Hp → Prop) (itv : Value) (s2 : Shared) : Prop :=
  ∃ (it : Addr) (fp : List Addr) (tn : Nat → Heap → Prop) (J : It) (H' : Hp), itv = .ref it ∧ Inv X pins σ H' s2 ∧ Turn X.prog X.w X.K tg J fp it tn ∧ tn 0 s2.heap ∧ (∀ b ∈ fp, FpOk X pins H' b) ∧ R J H'
def PI (X : Cx) (tg iter : Expr) (wi : TI) : Prop :=
  ∀ (pins : List (Addr × Obj)) (s : Shared) (σ : St) (H : Hp) (R : It → Hp → Prop), Inv X pins σ H s → wi σ H R →
    wpAny (model X.prog X.w) X.A (eval iter X.env) (fun v s1 => wpAny (model X.prog X.w) X.A (pyIter v) (PIE X pins σ tg R) X.xe s1) X.xe s

/-- the step ahead of the store is nothing for an iterator that keeps no tuple -/
theorem go_of {M : Model} {A : Around} {E : Value → Shared → Prop} {s : Shared} {tg : Expr} {it : Addr} {u : Value} {o : Obj} {n : String} {vs : Array Value} {Q : Unit → Shared → Prop} (ho : s.heap.get? it = some o) (hc : o.cls = .type n) (hd : o.data = .fields vs)
    (hn : ["enumerate", "zip", "dict_itemiterator", "dict_reverseitemiterator", "odict_iterator", "itertools.zip_longest", "itertools.pairwise"].contains n = false) (hQ : Q () s) : wpAny M A (letOwnedTupleGo tg (.ref it) u) Q E s := by
  unfold letOwnedTupleGo
  cases tg <;> first
    | exact wpAny_pure hQ
    | (cases u <;> first
        | exact wpAny_pure hQ
        | (refine wpAny_bind (wpAny_load ho ?_)
           rw [hc, hd]
           show wpAny M A (if (["enumerate", "zip", "dict_itemiterator", "dict_reverseitemiterator", "odict_iterator", "itertools.zip_longest", "itertools.pairwise"].contains n && vs[0]? == some (rawInt _)) = true then _ else _) Q E s
           rw [if_neg (by intro h; rw [hn, Bool.false_and] at h; cases h)]
           exact wpAny_pure hQ))

/-- the list at a, as it stands at each turn (a loop may append to it) -/
def Itl (K : PySem.W.Frag) (a : Addr) : It :=
  ⟨fun i H => ∃ xs x, SqL K H a xs ∧ xs[i]? = some x, fun i H x H' => H' = H ∧ ∀ xs, SqL K H a xs → xs[i]? = some x, fun i H => ∃ xs, SqL K H a xs ∧ xs.length ≤ i⟩
def Itt (K : PySem.W.Frag) (a : Addr) : It :=
  ⟨fun i H => ∃ xs x, SqT K H a xs ∧ xs[i]? = some x, fun i H x H' => H' = H ∧ ∀ xs, SqT K H a xs → xs[i]? = some x, fun i H => ∃ xs, SqT K H a xs ∧ xs.length ≤ i⟩
/-- lo, lo + 1, .. (n of them) -/
def Itr (lo : Int) (n : Nat) : It := ⟨fun i _ => i < n, fun i H x H' => H' = H ∧ x = .int (lo + i), fun i _ => n ≤ i⟩
theorem turn_list {P : Program} {w : World} {K : PySem.W.Frag} {tg : Expr} (a it : Addr) : Turn P w K tg (Itl K a) [it] it (fun i h => h.IsListIter it a i) where
  mem := by simp
  obj := fun i h st b hb => by
    have e : b = it := by simpa using hb
    subst e
    obtain ⟨o, e, c, d⟩ := st
    exact ⟨o, e, fun v z => by rw [d] at z; cases z⟩
  keep := fun i h h' st k => st.at fun o e => k it (by simp) o e
  item := by
    intro X hP hw hK hc i pins s σ H E I hf st hg
    subst hP hw hK
    obtain ⟨xs, x, hq, hx⟩ := hg
    obtain ⟨its, rv, p, hz⟩ := I.list hq
    obtain ⟨u, hu, ru⟩ := rv.get hx
    obtain ⟨f0, f1, f2, f3, f4, f5⟩ := hf it (by simp)
    refine wpAny_pyNext_list_item st p.isList (x := u) (by simpa using hu) fun h' st' sb => ?_
    have I1 : Inv X pins σ H { s with heap := h' } := I.turned (t' := s.toks) (fun b o hb e => (sb.2 b hb).trans e) f0 f1 f3 f4 f5
    obtain ⟨o, e, c, d⟩ := id st'
    exact ⟨u, rfl, go_of (s := { s with heap := h' }) e c d (by decide) ⟨x, H, I1, ru, ⟨rfl, fun ys hy => by rw [I.list_inj hy hq]; exact hx⟩, st', fun b hb => (hf b hb).1⟩⟩
  done := by
    intro X hP hw hK hc i pins s σ H E I hf st hg
    subst hP hw hK
    obtain ⟨xs, hq, hx⟩ := hg
    obtain ⟨its, rv, p, hz⟩ := I.list hq
    obtain ⟨f0, f1, f2, f3, f4, f5⟩ := hf it (by simp)
    have hl := rv.length
    exact wpAny_pyNext_list_end (I.ok.hd hc) st p.isList (by simp; omega) fun h' eb => ⟨rfl, I.turned (t' := s.toks) (fun b o hb e => eb b o hb e) f0 f1 f3 f4 f5⟩
  self := fun _ _ _ _ _ st h => wpAny_pyIter_listiter st h
theorem turn_tuple {P : Program} {w : World} {K : PySem.W.Frag} {tg : Expr} (a it : Addr) : Turn P w K tg (Itt K a) [it] it (fun i h => h.IsTupleIter it a i) where
  mem := by simp
  obj := fun i h st b hb => by
    have e : b = it := by simpa using hb
    subst e
    obtain ⟨o, e, c, d⟩ := st
    exact ⟨o, e, fun v z => by rw [d] at z; cases z⟩
  keep := fun i h h' st k => st.at fun o e => k it (by simp) o e
  item := by
    intro X hP hw hK hc i pins s σ H E I hf st hg
    subst hP hw hK
    obtain ⟨xs, x, hq, hx⟩ := hg
    obtain ⟨its, rv, p, hz⟩ := I.tuple hq
    obtain ⟨u, hu, ru⟩ := rv.get hx
    obtain ⟨f0, f1, f2, f3, f4, f5⟩ := hf it (by simp)
    refine wpAny_pyNext_tuple_item st (show s.heap.IsTuple a its.toArray from p) (x := u) (by simpa using hu) fun h' st' sb => ?_
    have I1 : Inv X pins σ H { s with heap := h' } := I.turned (t' := s.toks) (fun b o hb e => (sb.2 b hb).trans e) f0 f1 f3 f4 f5
    obtain ⟨o, e, c, d⟩ := id st'
    exact ⟨u, rfl, go_of (s := { s with heap := h' }) e c d (by decide) ⟨x, H, I1, ru, ⟨rfl, fun ys hy => by rw [I.tuple_inj hy hq]; exact hx⟩, st', fun b hb => (hf b hb).1⟩⟩
  done := by
    intro X hP hw hK hc i pins s σ H E I hf st hg
    subst hP hw hK
    obtain ⟨xs, hq, hx⟩ := hg
    obtain ⟨its, rv, p, hz⟩ := I.tuple hq
    obtain ⟨f0, f1, f2, f3, f4, f5⟩ := hf it (by simp)
    have hl := rv.length
    exact wpAny_pyNext_tuple_end (I.ok.hd hc) st (show s.heap.IsTuple a its.toArray from p) (by simp; omega) fun h' eb => ⟨rfl, I.turned (t' := s.toks) (fun b o hb e => eb b o hb e) f0 f1 f3 f4 f5⟩
  self := fun _ _ _ _ _ st h => wpAny_pyIter_tupleiter st h
theorem turn_range {P : Program} {w : World} {K : PySem.W.Frag} {tg : Expr} (it : Addr) (lo : Int) (n : Nat) : Turn P w K tg (Itr lo n) [it] it (fun i h => IsRangeIter h it (lo + (i : Nat) * 1) ((n : Int) - (i : Nat)) 1) where
  mem := by simp
  obj := fun i h st b hb => by
    have e : b = it := by simpa using hb
    subst e
    exact ⟨_, st, fun v z => by
      have z' : Data.fields _ = Data.cell v := z
      cases z'⟩
  keep := fun i h h' st k => k it (by simp) _ st
  item := by
    intro X hP hw hK hc i pins s σ H E I hf st hg
    subst hP hw hK
    obtain ⟨f0, f1, f2, f3, f4, f5⟩ := hf it (by simp)
    have W := Walks.range (prog := X.prog) (w := X.w) (I.ok.hd hc) it lo 1 n
    refine W.item i s _ _ hg st fun v h' tk hv st' kk => ?_
    obtain ⟨t, rfl⟩ := hv
    have I1 : Inv X pins σ H { s with heap := h', toks := tk } := I.turned (fun b o hb e => kk b o (by simpa using hb) e) f0 f1 f3 f4 f5
    refine ⟨_, rfl, go_of (s := { s with heap := h', toks := tk }) (n := "range_iterator") st' rfl rfl (by decide) ⟨.int (lo + i), H, I1, ⟨t, ?_⟩, ⟨rfl, rfl⟩, st', fun b hb => (hf b hb).1⟩⟩
    rw [Int.mul_one]
  done := by
    intro X hP hw hK hc i pins s σ H E I hf st hg
    subst hP hw hK
    obtain ⟨f0, f1, f2, f3, f4, f5⟩ := hf it (by simp)
    exact wpAny_pyNext_range_end (I.ok.hd hc) st (by have : n ≤ i := hg; omega) fun h' eb => ⟨rfl, I.turned (t' := s.toks) (fun b o hb e => eb b o hb e) f0 f1 f3 f4 f5⟩
  self := fun _ _ _ _ _ st h => wpAny_pyIter_rangeiter st h
end L2

namespace L2
open PySem PySem.Spec PyProof.Rows
section
variable {X : Cx} {tg : Expr}
def iList (K : PySem.W.Frag) (tl : TE) : TI := fun σ H R => tl σ H fun x H1 => ∃ a, x = .ref a ∧ (∃ xs, SqL K H1 a xs) ∧ R (Itl K a) H1
def iTup (K : PySem.W.Frag) (tl : TE) : TI := fun σ H R => tl σ H fun x H1 => ∃ a, x = .ref a ∧ (∃ xs, SqT K H1 a xs) ∧ R (Itt K a) H1
theorem pi_list {l : Expr} {tl : TE} (hl : PE X l tl) : PI X tg l (iList X.K tl) := by
  intro pins s σ H R I h
  refine thn (hl pins s σ H _ I h) fun v s1 ⟨x, H1, I1, r1, q1⟩ => ?_
  obtain ⟨a, e, ⟨xs, hq⟩, q⟩ := q1
  subst e
  cases r1
  obtain ⟨its, rv, p, hz⟩ := I1.list hq
  refine wpAny_pyIter_list p.isList ?_
  refine ⟨s1.heap.objs.size, [s1.heap.objs.size], _, _, H1, rfl, I1.kept (t' := s1.toks) fun b o e => Heap.get?_push_of_some _ e, turn_list a _, ⟨_, Heap.get?_push_size _ rfl, rfl, rfl⟩, fun b hb => ?_, q⟩
  have e : b = s1.heap.objs.size := by simpa using hb
  subst e
  exact I1.fpOk (Nat.le_refl _) (I1.hok.fresh (Nat.le_refl _))
theorem pi_tup {l : Expr} {tl : TE} (hl : PE X l tl) : PI X tg l (iTup X.K tl) := by
  intro pins s σ H R I h
  refine thn (hl pins s σ H _ I h) fun v s1 ⟨x, H1, I1, r1, q1⟩ => ?_
  obtain ⟨a, e, ⟨xs, hq⟩, q⟩ := q1
  subst e
  cases r1
  obtain ⟨its, rv, p, hz⟩ := I1.tuple hq
  refine wpAny_pyIter_tuple (show s1.heap.IsTuple a its.toArray from p) ?_
  refine ⟨s1.heap.objs.size, [s1.heap.objs.size], _, _, H1, rfl, I1.kept (t' := s1.toks) fun b o e => Heap.get?_push_of_some _ e, turn_tuple a _, ⟨_, Heap.get?_push_size _ rfl, rfl, rfl⟩, fun b hb => ?_, q⟩
  have e : b = s1.heap.objs.size := by simpa using hb
  subst e
  exact I1.fpOk (Nat.le_refl _) (I1.hok.fresh (Nat.le_refl _))
/-- a range object just made, walked -/
theorem range_it {pins : List (Addr × Obj)} {σ : St} {H : Hp} {s : Shared} {R : It → Hp → Prop} {E : Value → Shared → Prop} {lo hi : Int} {t u v : Tok} {tk : Nat} (I : Inv X pins σ H s) (h1 : -(2 ^ 62) ≤ lo) (h2 : lo < 2 ^ 62) (h3 : -(2 ^ 62) ≤ hi) (h4 : hi < 2 ^ 62)
    (q : R (Itr lo (hi - lo).toNat) H) : wpAny (model X.prog X.w) X.A (pyIter (.ref s.heap.objs.size)) (PIE X pins σ tg R) E { s with heap := s.heap.push { cls := .type "range", data := .fields #[.int lo t, .int hi u, .int 1 v] }, toks := tk } := by
  refine wpAny_pyIter_range (IsRange.new ..) (small_one h1 h2 h3 h4) ?_
  have I1 : Inv X pins σ H { s with heap := s.heap.push { cls := .type "range", data := .fields #[.int lo t, .int hi u, .int 1 v] }, toks := tk } := I.kept fun b o e => Heap.get?_push_of_some _ e
  refine ⟨(s.heap.push { cls := .type "range", data := .fields #[.int lo t, .int hi u, .int 1 v] }).objs.size, [(s.heap.push { cls := .type "range", data := .fields #[.int lo t, .int hi u, .int 1 v] }).objs.size], _, _, H, rfl,
    I1.kept (t' := tk) fun b o e => Heap.get?_push_of_some _ e, turn_range _ lo (hi - lo).toNat, ?_, fun b hb => ?_, q⟩
  · have e1 : lo + ((0 : Nat) : Int) * 1 = lo := by simp
    have e2 : (((hi - lo).toNat : Nat) : Int) - ((0 : Nat) : Int) = Builtin.Range.rangeSize lo hi 1 := by rw [rangeSize_one]; split <;> omega
    show IsRangeIter _ _ (lo + ((0 : Nat) : Int) * 1) ((((hi - lo).toNat : Nat) : Int) - ((0 : Nat) : Int)) 1
    rw [e1, e2]
    exact Heap.get?_push_size _ rfl
  · have e : b = (s.heap.push { cls := .type "range", data := .fields #[.int lo t, .int hi u, .int 1 v] }).objs.size := by simpa using hb
    subst e
    exact I1.fpOk (Nat.le_refl _) (I1.hok.fresh (Nat.le_refl _))
def iRng1 (ta : TA) : TI := fun σ H R => ta σ H fun vs H1 => ∃ j : Int, vs = [.int j] ∧ -(2 ^ 62) ≤ j ∧ j < 2 ^ 62 ∧ R (Itr 0 j.toNat) H1
def iRng2 (ta : TA) : TI := fun σ H R => ta σ H fun vs H1 => ∃ i j : Int, vs = [.int i, .int j] ∧ (-(2 ^ 62) ≤ i ∧ i < 2 ^ 62 ∧ -(2 ^ 62) ≤ j ∧ j < 2 ^ 62) ∧ R (Itr i (j - i).toNat) H1
theorem pi_range1 {a : Expr} {ta : TA} {p pos : Pos} (hg : Gl X "range") (hm : X.mg "range" = none) (ha : PA X [a] ta) (hs : starEach [a] X.env = [(false, eval a X.env)] := by rfl) : PI X tg (.Call (.Name "range" p) [a] [] pos) (iRng1 ta) := by
  intro pins s σ H R I h
  refine Call_ (ld_blt I hg hm boot_range (PyProof.Rows.callWith_type1 (thn (ha pos pins s σ H _ I h) fun us s1 ⟨vs, H1, I1, r1, q1⟩ => ?_) hs rfl))
  obtain ⟨j, e, q1, q2, q⟩ := q1
  subst e
  cases r1 with
  | cons r rr =>
    cases rr
    obtain ⟨t, rfl⟩ := r
    exact call_range_1 (range_it I1 (by omega) (by omega) q1 q2 (by simpa using q))
theorem pi_range2 {a b : Expr} {ta : TA} {p pos : Pos} (hg : Gl X "range") (hm : X.mg "range" = none) (ha : PA X [a, b] ta) (hs : starEach [a, b] X.env = [(false, eval a X.env), (false, eval b X.env)] := by rfl) (hs2 : starEach [b] X.env = [(false, eval b X.env)] := by rfl) :
    PI X tg (.Call (.Name "range" p) [a, b] [] pos) (iRng2 ta) := by
  intro pins s σ H R I h
  refine Call_ (ld_blt I hg hm boot_range (PyProof.Rows.callWith_type1 (thn (ha pos pins s σ H _ I h) fun us s1 ⟨vs, H1, I1, r1, q1⟩ => ?_) (by rw [hs, hs2]) (by rw [hs2]; rfl)))
  obtain ⟨i, j, e, ⟨q1, q2, q3, q4⟩, q⟩ := q1
  subst e
  cases r1 with
  | cons r rr =>
    cases rr with
    | cons r' rr =>
      cases rr
      obtain ⟨t, rfl⟩ := r
      obtain ⟨t', rfl⟩ := r'
      exact call_range_2 (range_it I1 q1 q2 q3 q4 q)

/-! ### for -/
/-- W: the invariant by the turn and a measure; N: what the body is to reach -/
def tFor (wi : TI) (g : TG) (tb : TS) : TS := fun D σ H => wi σ H fun J H1 => ∃ W : Nat → Nat → St → Hp → Prop, (∃ m, W 0 m σ H1) ∧ ∀ i m σ H, W i m σ H →
  (J.stop i H ∧ D.nx σ H) ∨ (J.go i H ∧ ∃ N : St → Hp → Prop, (∀ σ' H', N σ' H' → ∃ m', m' < m ∧ W (i + 1) m' σ' H') ∧ ∀ x H', J.yld i H x H' → g x σ H' fun σ2 H2 => tb { D with nx := N, ct := N, bk := D.nx } σ2 H2)
/-- the records at fp as they stand -/
def pinsAt (fp : List Addr) (h : Heap) : List (Addr × Obj) := fp.filterMap fun b => (h.get? b).map fun o => (b, o)
theorem mem_pinsAt {fp : List Addr} {h : Heap} {b : Addr} {o : Obj} (hb : b ∈ fp) (e : h.get? b = some o) : (b, o) ∈ pinsAt fp h := List.mem_filterMap.mpr ⟨b, hb, by rw [e]; rfl⟩
theorem of_pinsAt {fp : List Addr} {h : Heap} {p : Addr × Obj} (hp : p ∈ pinsAt fp h) : p.1 ∈ fp ∧ h.get? p.1 = some p.2 := by
  obtain ⟨b, hb, e⟩ := List.mem_filterMap.mp hp
  cases q : h.get? b with
  | none => rw [q] at e; cases e
  | some o =>
    rw [q] at e
    have e' : (b, o) = p := Option.some.inj e
    subst e'
    exact ⟨hb, q⟩
theorem Inv.pinned {pins : List (Addr × Obj)} {σ : St} {H : Hp} {s : Shared} {fp : List Addr} (I : Inv X pins σ H s) (hf : ∀ b ∈ fp, FpOk X pins H b) (ho : ∀ b ∈ fp, ∃ o, s.heap.get? b = some o ∧ ∀ v, o.data ≠ .cell v) : Inv X (pins ++ pinsAt fp s.heap) σ H s :=
  I.pins_of fun p hp => (List.mem_append.mp hp).elim (fun z => I.pin p (List.mem_append_right _ z)) fun z => by
    obtain ⟨hb, e⟩ := of_pinsAt z
    obtain ⟨f0, f1, f2, _⟩ := hf p.1 hb
    obtain ⟨o, e', d⟩ := ho p.1 hb
    rw [e] at e'; cases e'
    exact ⟨e, f0, f1, f2, d⟩
theorem Inv.unpinned {pins pl : List (Addr × Obj)} {σ : St} {H : Hp} {s : Shared} (I : Inv X (pins ++ pl) σ H s) : Inv X pins σ H s := I.pins_of fun p hp => I.pin p (List.mem_append_right _ (List.mem_append_left _ hp))
theorem ps_for {iter : Expr} {body : List Stmt} {wi : TI} {g : TG} {tb : TS} {pos : Pos} (hp : PassesOwn (model X.prog X.w) X.A X.env X.xe) (hc : X.calm = true) (hi : PI X tg iter wi) (hg : PG X tg g) (hb : PSs X body tb)
    (hs : ∀ x, foldedSetIterable iter X.env x = pure x := by intro _; rfl) : PS X (.For tg iter body [] pos) (tFor wi g tb) := by
  intro pins s σ H D I h
  refine wpAny_For (thn (hi pins s σ H _ I h) fun v s1 h1 => thn h1 fun itv s2 h2 => ?_) hs
  obtain ⟨it, fp, tn, J, H2, e, I2, T, st2, f2, W, ⟨m0, w0⟩, turn⟩ := h2
  subst e
  -- what stays true of the iterator's objects through the loop
  have stat : ∀ {H' : Hp}, (∀ b ∈ fp, H' b = none) → ∀ b ∈ fp, FpOk X pins H' b := fun hn b hb => ⟨hn b hb, (f2 b hb).2⟩
  refine codeAny_forLoop_any (fun n s' => ∃ i σ' H', Inv X pins σ' H' s' ∧ tn i s'.heap ∧ (∀ b ∈ fp, H' b = none) ∧ W i n σ' H') ?_ m0 ⟨0, σ, H2, I2, st2, fun b hb => (f2 b hb).1, w0⟩
  rintro n s3 ⟨i, σ3, H3, I3, st3, fr3, w3⟩
  rcases turn i n σ3 H3 w3 with ⟨stop, qn⟩ | ⟨go, N, hN, step⟩
  · refine wpAny_passesOwn hp (thn (T.done X rfl rfl rfl hc i pins s3 σ3 H3 X.xe I3 (stat fr3) st3 stop) fun r s4 ⟨hr, I4⟩ => ?_)
    subst hr
    exact wpAny_execs_nil ⟨σ3, H3, I4, qn⟩
  · refine wpAny_passesOwn hp (thn (T.item X rfl rfl rfl hc i pins s3 σ3 H3 X.xe I3 (stat fr3) st3 go) fun r s4 ⟨u, hr, h4⟩ => ?_)
    subst hr
    refine wpAny_passesOwn hp (thn h4 fun _ s5 ⟨x, H5, I5, r5, y5, st5, fr5⟩ => ?_)
    have I5' := I5.pinned (stat fr5) (T.obj _ _ st5)
    refine wpAny_passesOwn hp (thn (hg _ s5 σ3 H5 x u _ I5' r5 (step x H5 y5)) fun _ s6 ⟨σ6, H6, I6, q6⟩ => ?_)
    refine wpAny_passesOwn hp (thn (hb _ s6 σ6 H6 _ I6 q6) fun f s7 q7 => ?_)
    have again : ∀ {σ7 : St} {H7 : Hp}, Inv X (pins ++ pinsAt fp s5.heap) σ7 H7 s7 → N σ7 H7 → ∃ m, m < n ∧ ∃ i σ' H', Inv X pins σ' H' s7 ∧ tn i s7.heap ∧ (∀ b ∈ fp, H' b = none) ∧ W i m σ' H' := fun {σ7 H7} I7 n7 => by
      obtain ⟨m', hm, w7⟩ := hN σ7 H7 n7
      refine ⟨m', hm, i + 1, σ7, H7, I7.unpinned, T.keep _ _ _ st5 fun b hb o e => (I7.pin (b, o) (List.mem_append_right _ (List.mem_append_right _ (mem_pinsAt hb e)))).1, fun b hb => ?_, w7⟩
      obtain ⟨o, e, d⟩ := T.obj _ _ st5 b hb
      exact (I7.pin (b, o) (List.mem_append_right _ (List.mem_append_right _ (mem_pinsAt hb e)))).2.1
    cases f with
    | next => obtain ⟨σ7, H7, I7, n7⟩ := q7; exact again I7 n7
    | cont => obtain ⟨σ7, H7, I7, n7⟩ := q7; exact again I7 n7
    | brk => obtain ⟨σ7, H7, I7, q7⟩ := q7; exact ⟨σ7, H7, I7.unpinned, q7⟩
    | ret v => obtain ⟨x7, σ7, H7, I7, r7, q7⟩ := q7; exact ⟨x7, σ7, H7, I7.unpinned, r7, q7⟩
end

/-! ### the forms one uses -/
/-- over a list that the body leaves as it is -/
theorem for_list {K : PySem.W.Frag} {a : Addr} {xs : List V} {g : TG} {tb : TS} {D : Ends} {σ : St} {H : Hp} (Pv : Nat → St → Hp → Prop) (h0 : Pv 0 σ H) (hl : ∀ i σ H, i ≤ xs.length → Pv i σ H → SqL K H a xs)
    (hs : ∀ i x σ H, xs[i]? = some x → Pv i σ H → g x σ H fun σ2 H2 => tb { D with nx := Pv (i + 1), ct := Pv (i + 1), bk := D.nx } σ2 H2) (hd : ∀ σ H, Pv xs.length σ H → D.nx σ H) :
    ∃ W : Nat → Nat → St → Hp → Prop, (∃ m, W 0 m σ H) ∧ ∀ i m σ H, W i m σ H →
      ((Itl K a).stop i H ∧ D.nx σ H) ∨ ((Itl K a).go i H ∧ ∃ N : St → Hp → Prop, (∀ σ' H', N σ' H' → ∃ m', m' < m ∧ W (i + 1) m' σ' H') ∧ ∀ x H', (Itl K a).yld i H x H' → g x σ H' fun σ2 H2 => tb { D with nx := N, ct := N, bk := D.nx } σ2 H2) := by
  refine ⟨fun i m σ H => m = xs.length - i ∧ i ≤ xs.length ∧ Pv i σ H, ⟨xs.length, by simp, Nat.zero_le _, h0⟩, ?_⟩
  rintro i m σ H ⟨rfl, hi, p⟩
  have q := hl i σ H hi p
  by_cases hlt : i < xs.length
  · refine .inr ⟨⟨xs, xs[i], q, by simp [hlt]⟩, Pv (i + 1), fun σ' H' p' => ⟨xs.length - (i + 1), by omega, rfl, hlt, p'⟩, fun x H' y => ?_⟩
    obtain ⟨e, y⟩ := y
    subst e
    exact hs i x σ _ (y xs q) p
  · have e : i = xs.length := by omega
    subst e
    exact .inl ⟨⟨xs, q, Nat.le_refl _⟩, hd σ H p⟩
theorem for_tup {K : PySem.W.Frag} {a : Addr} {xs : List V} {g : TG} {tb : TS} {D : Ends} {σ : St} {H : Hp} (Pv : Nat → St → Hp → Prop) (h0 : Pv 0 σ H) (hl : ∀ i σ H, i ≤ xs.length → Pv i σ H → SqT K H a xs)
    (hs : ∀ i x σ H, xs[i]? = some x → Pv i σ H → g x σ H fun σ2 H2 => tb { D with nx := Pv (i + 1), ct := Pv (i + 1), bk := D.nx } σ2 H2) (hd : ∀ σ H, Pv xs.length σ H → D.nx σ H) :
    ∃ W : Nat → Nat → St → Hp → Prop, (∃ m, W 0 m σ H) ∧ ∀ i m σ H, W i m σ H →
      ((Itt K a).stop i H ∧ D.nx σ H) ∨ ((Itt K a).go i H ∧ ∃ N : St → Hp → Prop, (∀ σ' H', N σ' H' → ∃ m', m' < m ∧ W (i + 1) m' σ' H') ∧ ∀ x H', (Itt K a).yld i H x H' → g x σ H' fun σ2 H2 => tb { D with nx := N, ct := N, bk := D.nx } σ2 H2) := by
  refine ⟨fun i m σ H => m = xs.length - i ∧ i ≤ xs.length ∧ Pv i σ H, ⟨xs.length, by simp, Nat.zero_le _, h0⟩, ?_⟩
  rintro i m σ H ⟨rfl, hi, p⟩
  have q := hl i σ H hi p
  by_cases hlt : i < xs.length
  · refine .inr ⟨⟨xs, xs[i], q, by simp [hlt]⟩, Pv (i + 1), fun σ' H' p' => ⟨xs.length - (i + 1), by omega, rfl, hlt, p'⟩, fun x H' y => ?_⟩
    obtain ⟨e, y⟩ := y
    subst e
    exact hs i x σ _ (y xs q) p
  · have e : i = xs.length := by omega
    subst e
    exact .inl ⟨⟨xs, q, Nat.le_refl _⟩, hd σ H p⟩
theorem for_range {lo : Int} {n : Nat} {g : TG} {tb : TS} {D : Ends} {σ : St} {H : Hp} (Pv : Nat → St → Hp → Prop) (h0 : Pv 0 σ H)
    (hs : ∀ i σ H, i < n → Pv i σ H → g (.int (lo + i)) σ H fun σ2 H2 => tb { D with nx := Pv (i + 1), ct := Pv (i + 1), bk := D.nx } σ2 H2) (hd : ∀ σ H, Pv n σ H → D.nx σ H) :
    ∃ W : Nat → Nat → St → Hp → Prop, (∃ m, W 0 m σ H) ∧ ∀ i m σ H, W i m σ H →
      ((Itr lo n).stop i H ∧ D.nx σ H) ∨ ((Itr lo n).go i H ∧ ∃ N : St → Hp → Prop, (∀ σ' H', N σ' H' → ∃ m', m' < m ∧ W (i + 1) m' σ' H') ∧ ∀ x H', (Itr lo n).yld i H x H' → g x σ H' fun σ2 H2 => tb { D with nx := N, ct := N, bk := D.nx } σ2 H2) := by
  refine ⟨fun i m σ H => m = n - i ∧ i ≤ n ∧ Pv i σ H, ⟨n, by simp, Nat.zero_le _, h0⟩, ?_⟩
  rintro i m σ H ⟨rfl, hi, p⟩
  by_cases hlt : i < n
  · refine .inr ⟨hlt, Pv (i + 1), fun σ' H' p' => ⟨n - (i + 1), by omega, rfl, hlt, p'⟩, fun x H' y => ?_⟩
    obtain ⟨e, y⟩ := y
    subst e y
    exact hs i σ _ hlt p
  · have e : i = n := by omega
    subst e
    exact .inl ⟨Nat.le_refl _, hd σ H p⟩
/-- while, by a word and a measure of the state -/
theorem while_by {c : TT} {tb : TS} {D : Ends} {σ : St} {H : Hp} (Pv : St → Hp → Prop) (μ : St → Hp → Nat) (h0 : Pv σ H)
    (hs : ∀ σ H, Pv σ H → c σ H fun b H1 => if b = true then tb { D with nx := fun σ' H' => Pv σ' H' ∧ μ σ' H' < μ σ H, ct := fun σ' H' => Pv σ' H' ∧ μ σ' H' < μ σ H, bk := D.nx } σ H1 else D.nx σ H1)
    (mono : ∀ σ H Q Q', (∀ b H1, Q b H1 → Q' b H1) → c σ H Q → c σ H Q') : tWhile c tb D σ H := by
  refine ⟨fun m σ H => m = μ σ H ∧ Pv σ H, ⟨_, rfl, h0⟩, ?_⟩
  rintro m σ H ⟨rfl, p⟩
  refine mono σ H _ _ (fun b H1 q => ?_) (hs σ H p)
  cases b with
  | true => exact ⟨_, fun σ' H' ⟨p', l⟩ => ⟨_, l, rfl, p'⟩, q⟩
  | false => exact q
end L2

namespace L2
open PySem PySem.Spec PyProof.Rows

abbrev R2 := V → V → Hp → VK → Prop
/-- a two-place operation on values: f is binaryOp op, inplaceOp op or compareOp op -/
def OpR (X : Cx) (f : Value → Value → Sem Value) (r : R2) : Prop :=
  ∀ (pins : List (Addr × Obj)) (s : Shared) (σ : St) (H : Hp) (x y : V) (v u : Value) (Q : VK), Inv X pins σ H s → RelV x v → RelV y u → r x y H Q →
    wpAny (model X.prog X.w) X.A (f v u) (EP X pins σ Q) X.xe s
/-- a one-place operation -/
def UnR (X : Cx) (f : Value → Sem Value) (r : V → Hp → VK → Prop) : Prop :=
  ∀ (pins : List (Addr × Obj)) (s : Shared) (σ : St) (H : Hp) (x : V) (v : Value) (Q : VK), Inv X pins σ H s → RelV x v → r x H Q →
    wpAny (model X.prog X.w) X.A (f v) (EP X pins σ Q) X.xe s
/-- a call of a value that is known (a builtin, a type) with values -/
def CallR (X : Cx) (f : Value) (r : List V → Hp → VK → Prop) : Prop :=
  ∀ (pins : List (Addr × Obj)) (s : Shared) (σ : St) (H : Hp) (xs : List V) (us : List Value) (Q : VK), Inv X pins σ H s → Vals xs us → r xs H Q →
    wpAny (model X.prog X.w) X.A (call f us) (EP X pins σ Q) X.xe s
/-- a value's truth -/
def TruR (X : Cx) (r : V → Hp → (Bool → Hp → Prop) → Prop) : Prop :=
  ∀ (pins : List (Addr × Obj)) (s : Shared) (σ : St) (H : Hp) (x : V) (v : Value) (Q : Bool → Hp → Prop), Inv X pins σ H s → RelV x v → r x H Q →
    wpAny (model X.prog X.w) X.A (truthy v) (TP X pins σ Q) X.xe s

def tOp (r : R2) (ta tb : TE) : TE := fun σ H Q => ta σ H fun x H1 => tb σ H1 fun y H2 => r x y H2 Q
def tUn (r : V → Hp → VK → Prop) (ta : TE) : TE := fun σ H Q => ta σ H fun x H1 => r x H1 Q
/-- ints in, under C, and a value out -/
def rI (C : Int → Int → Prop) (g : Int → Int → V) : R2 := fun x y H Q => ∃ i j, x = .int i ∧ y = .int j ∧ C i j ∧ Q (g i j) H
def rI0 (g : Int → Int → V) : R2 := fun x y H Q => ∃ i j, x = .int i ∧ y = .int j ∧ Q (g i j) H
def rU (g : Int → V) : V → Hp → VK → Prop := fun x H Q => ∃ i, x = .int i ∧ Q (g i) H

section
variable {X : Cx} {a b c : Expr} {ta tb tc : TE} {pos : Pos}

theorem binT (ha : PE X a ta) (hb : PE X b tb) {pins : List (Addr × Obj)} {s : Shared} {σ : St} {H : Hp} {R : V → V → Hp → Prop} (I : Inv X pins σ H s)
    (h : ta σ H fun x H1 => tb σ H1 fun y H2 => R x y H2) {Q : Value → Shared → Prop} {f : Value → Value → Sem Value}
    (hf : ∀ v u s2 x y H2, Inv X pins σ H2 s2 → RelV x v → RelV y u → R x y H2 → wpAny (model X.prog X.w) X.A (f v u) Q X.xe s2) :
    wpAny (model X.prog X.w) X.A (eval a X.env) (fun v s₁ => wpAny (model X.prog X.w) X.A (eval b X.env) (fun u s₂ => wpAny (model X.prog X.w) X.A (f v u) Q X.xe s₂) X.xe s₁) X.xe s := by
  refine thn (ha pins s σ H _ I h) fun v s1 ⟨x, H1, I1, r1, q1⟩ => ?_
  refine thn (hb pins s1 σ H1 _ I1 q1) fun u s2 ⟨y, H2, I2, r2, q2⟩ => ?_
  exact hf v u s2 x y H2 I2 r1 r2 q2

theorem pe_op {op : Operator} {r : R2} (ho : OpR X (binaryOp op) r) (ha : PE X a ta) (hb : PE X b tb) : PE X (.BinOp a op b pos) (tOp r ta tb) := by
  intro pins s σ H Q I h
  exact wpAny_BinOp (binT ha hb I h fun v u s2 x y H2 I2 rx ry q => ho pins s2 σ H2 x y v u Q I2 rx ry q)
theorem pe_un {op : UnaryOp} {r : V → Hp → VK → Prop} (ho : UnR X (unaryOp op) r) (ha : PE X a ta) : PE X (.UnaryOp op a pos) (tUn r ta) := by
  intro pins s σ H Q I h
  exact UnaryOp_ (thn (ha pins s σ H _ I h) fun v s1 ⟨x, H1, I1, r1, q1⟩ => ho pins s1 σ H1 x v Q I1 r1 q1)
/-- a op= e at a name: the name's slot i -/
theorem augR {op : Operator} {r : R2} (ho : OpR X (inplaceOp op) r) {pins : List (Addr × Obj)} {s : Shared} {σ : St} {H : Hp} {x y : V} {v u : Value} {Q : VK} (I : Inv X pins σ H s)
    (rx : RelV x v) (ry : RelV y u) (q : r x y H Q) : wpAny (model X.prog X.w) X.A (inplaceOp op v u) (EP X pins σ Q) X.xe s := ho pins s σ H x y v u Q I rx ry q

/-! ### ints -/
theorem opI {f : Value → Value → Sem Value} {C : Int → Int → Prop} {g : Int → Int → Int}
    (rule : ∀ (i j : Int) (t u : Tok) (s : Shared) (Q : Value → Shared → Prop) (E : Value → Shared → Prop), C i j → Q (.int (g i j) s.toks) { s with toks := s.toks + 1 } → wpAny (model X.prog X.w) X.A (f (.int i t) (.int j u)) Q E s) :
    OpR X f (rI C fun i j => .int (g i j)) := by
  intro pins s σ H x y v u Q I rx ry h
  obtain ⟨i, j, rfl, rfl, hc, q⟩ := h
  obtain ⟨t, rfl⟩ := rx
  obtain ⟨t', rfl⟩ := ry
  exact rule i j t t' s _ _ hc ⟨.int (g i j), H, I.tok _, ⟨_, rfl⟩, q⟩
theorem opI0 {f : Value → Value → Sem Value} {g : Int → Int → Int}
    (rule : ∀ (i j : Int) (t u : Tok) (s : Shared) (Q : Value → Shared → Prop) (E : Value → Shared → Prop), Q (.int (g i j) s.toks) { s with toks := s.toks + 1 } → wpAny (model X.prog X.w) X.A (f (.int i t) (.int j u)) Q E s) :
    OpR X f (rI0 fun i j => .int (g i j)) := by
  intro pins s σ H x y v u Q I rx ry h
  obtain ⟨i, j, rfl, rfl, q⟩ := h
  obtain ⟨t, rfl⟩ := rx
  obtain ⟨t', rfl⟩ := ry
  exact rule i j t t' s _ _ ⟨.int (g i j), H, I.tok _, ⟨_, rfl⟩, q⟩
theorem opB0 {f : Value → Value → Sem Value} {g : Int → Int → Bool}
    (rule : ∀ (i j : Int) (t u : Tok) (s : Shared) (Q : Value → Shared → Prop) (E : Value → Shared → Prop), Q (.bool (g i j)) s → wpAny (model X.prog X.w) X.A (f (.int i t) (.int j u)) Q E s) :
    OpR X f (rI0 fun i j => .bl (g i j)) := by
  intro pins s σ H x y v u Q I rx ry h
  obtain ⟨i, j, rfl, rfl, q⟩ := h
  obtain ⟨t, rfl⟩ := rx
  obtain ⟨t', rfl⟩ := ry
  exact rule i j t t' s _ _ ⟨.bl (g i j), H, I, rfl, q⟩

def CDiv (i j : Int) : Prop := 0 < j ∧ j < 1073741824
def CDivN (i j : Int) : Prop := j ≠ 0 ∧ j.natAbs < 1073741824
def CPow (i j : Int) : Prop := 0 ≤ j ∧ j ≤ 1000000 ∧ i.natAbs < 2 ^ 64
def CMul (i j : Int) : Prop := (-(2 ^ 64) < i ∧ i < 2 ^ 64) ∨ (-(2 ^ 64) < j ∧ j < 2 ^ 64)
theorem CMul.ok {i j : Int} (h : CMul i j) : IntMulOk i j := by
  rcases h with ⟨h1, h2⟩ | ⟨h1, h2⟩
  · exact .of_left (intBits_le_64 h1 h2)
  · exact .of_right (intBits_le_64 h1 h2)
theorem two_pow_nn (k : Nat) : (0 : Int) ≤ 2 ^ k := by
  rw [two_pow_cast]
  exact Int.natCast_nonneg _

theorem op_add : OpR X (binaryOp .Add) (rI0 fun i j => .int (i + j)) := opI0 fun _ _ _ _ _ _ _ q => add_int q
theorem op_sub : OpR X (binaryOp .Sub) (rI0 fun i j => .int (i - j)) := opI0 fun _ _ _ _ _ _ _ q => sub_int q
theorem op_mul : OpR X (binaryOp .Mult) (rI CMul fun i j => .int (i * j)) := opI fun _ _ _ _ _ _ _ hc q => mul_int q hc.ok
/-- // by a positive divisor -/
theorem op_fdiv : OpR X (binaryOp .FloorDiv) (rI CDiv fun i j => .int (i / j)) := opI fun i j _ _ _ _ _ hc q => by
  have h1 : (0 : Int) < j := hc.1
  have h2 : j < 1073741824 := hc.2
  exact floordiv_int (by omega) (by rw [Int.fdiv_eq_ediv_of_nonneg i (by omega)]; exact q) (.inl (PyProof.noPylong_small (by omega)))
theorem op_fdivN : OpR X (binaryOp .FloorDiv) (rI CDivN fun i j => .int (i.fdiv j)) := opI fun _ _ _ _ _ _ _ hc q => floordiv_int hc.1 q (.inl (PyProof.noPylong_small hc.2))
/-- % by a positive divisor of any size -/
theorem op_mod : OpR X (binaryOp .Mod) (rI (fun _ j => 0 < j) fun i j => .int (i % j)) := opI fun i j _ _ _ _ _ hc q => by
  have h1 : (0 : Int) < j := hc
  exact mod_int' (by omega) (by rw [Int.fmod_eq_emod_of_nonneg i (by omega)]; exact q)
theorem op_modN : OpR X (binaryOp .Mod) (rI (fun _ j => j ≠ 0) fun i j => .int (i.fmod j)) := opI fun _ _ _ _ _ _ _ hc q => mod_int' hc q
theorem op_pow : OpR X (binaryOp .Pow) (rI CPow fun i j => .int (i ^ j.toNat)) := opI fun _ _ _ _ _ _ _ hc q => pow_int_small hc.1 hc.2.1 hc.2.2 q
theorem op_shl : OpR X (binaryOp .LShift) (rI CPow fun i j => .int (i * 2 ^ j.toNat)) := opI fun _ _ _ _ _ _ _ hc q => lshift_int_small hc.1 hc.2.1 hc.2.2 q
theorem op_shr : OpR X (binaryOp .RShift) (rI (fun _ j => 0 ≤ j) fun i j => .int (i / 2 ^ j.toNat)) := opI fun i j _ _ _ _ _ hc q =>
  rshift_int hc (by rw [Int.fdiv_eq_ediv_of_nonneg i (two_pow_nn _)]; exact q)
theorem op_and : OpR X (binaryOp .BitAnd) (rI0 fun i j => .int (Builtin.bitAnd i j)) := opI0 fun _ _ _ _ _ _ _ q => and_int q
theorem op_or : OpR X (binaryOp .BitOr) (rI0 fun i j => .int (Builtin.bitOr i j)) := opI0 fun _ _ _ _ _ _ _ q => or_int q
theorem op_xor : OpR X (binaryOp .BitXor) (rI0 fun i j => .int (Builtin.bitXor i j)) := opI0 fun _ _ _ _ _ _ _ q => xor_int q

theorem iop_add : OpR X (inplaceOp .Add) (rI0 fun i j => .int (i + j)) := opI0 fun _ _ _ _ _ _ _ q => iadd_int q
theorem iop_sub : OpR X (inplaceOp .Sub) (rI0 fun i j => .int (i - j)) := opI0 fun _ _ _ _ _ _ _ q => isub_int q
theorem iop_mul : OpR X (inplaceOp .Mult) (rI CMul fun i j => .int (i * j)) := opI fun _ _ _ _ _ _ _ hc q => imul_int q hc.ok
theorem iop_fdiv : OpR X (inplaceOp .FloorDiv) (rI CDiv fun i j => .int (i / j)) := opI fun i j _ _ _ _ _ hc q => by
  have h1 : (0 : Int) < j := hc.1
  have h2 : j < 1073741824 := hc.2
  exact ifloordiv_int (by omega) (by rw [Int.fdiv_eq_ediv_of_nonneg i (by omega)]; exact q) (.inl (PyProof.noPylong_small (by omega)))
theorem iop_mod : OpR X (inplaceOp .Mod) (rI (fun _ j => 0 < j) fun i j => .int (i % j)) := opI fun i j _ _ _ _ _ hc q => by
  have h1 : (0 : Int) < j := hc
  exact imod_int (by omega) (by rw [Int.fmod_eq_emod_of_nonneg i (by omega)]; exact q)
theorem iop_shl : OpR X (inplaceOp .LShift) (rI CPow fun i j => .int (i * 2 ^ j.toNat)) := opI fun _ _ _ _ _ _ _ hc q => ilshift_int_small hc.1 hc.2.1 hc.2.2 q
theorem iop_shr : OpR X (inplaceOp .RShift) (rI (fun _ j => 0 ≤ j) fun i j => .int (i / 2 ^ j.toNat)) := opI fun i j _ _ _ _ _ hc q =>
  irshift_int hc (by rw [Int.fdiv_eq_ediv_of_nonneg i (two_pow_nn _)]; exact q)
theorem iop_and : OpR X (inplaceOp .BitAnd) (rI0 fun i j => .int (Builtin.bitAnd i j)) := opI0 fun _ _ _ _ _ _ _ q => iand_int q
theorem iop_or : OpR X (inplaceOp .BitOr) (rI0 fun i j => .int (Builtin.bitOr i j)) := opI0 fun _ _ _ _ _ _ _ q => ior_int q
theorem iop_xor : OpR X (inplaceOp .BitXor) (rI0 fun i j => .int (Builtin.bitXor i j)) := opI0 fun _ _ _ _ _ _ _ q => ixor_int q

theorem unI {f : Value → Sem Value} {g : Int → Int}
    (rule : ∀ (i : Int) (t : Tok) (s : Shared) (Q : Value → Shared → Prop) (E : Value → Shared → Prop), Q (.int (g i) s.toks) { s with toks := s.toks + 1 } → wpAny (model X.prog X.w) X.A (f (.int i t)) Q E s) :
    UnR X f (rU fun i => .int (g i)) := by
  intro pins s σ H x v Q I rx h
  obtain ⟨i, rfl, q⟩ := h
  obtain ⟨t, rfl⟩ := rx
  exact rule i t s _ _ ⟨.int (g i), H, I.tok _, ⟨_, rfl⟩, q⟩
theorem un_neg : UnR X (unaryOp .USub) (rU fun i => .int (-i)) := unI fun _ _ _ _ _ q => neg_int q
theorem un_inv : UnR X (unaryOp .Invert) (rU fun i => .int (Builtin.bitNot i)) := unI fun _ _ _ _ _ q => invert_int q

/-! ### bools among ints: n += (a < b) -/
theorem op_add_ib : OpR X (binaryOp .Add) (fun x y H Q => ∃ i k, x = .int i ∧ y = .bl k ∧ Q (.int (i + b2i k)) H) := by
  intro pins s σ H x y v u Q I rx ry h
  obtain ⟨i, k, rfl, rfl, q⟩ := h
  obtain ⟨t, rfl⟩ := rx
  cases ry
  exact add_int_bool ⟨.int (i + b2i k), H, I.tok _, ⟨_, rfl⟩, q⟩
end

/-! ### comparisons -/
/-- the scalars that == tells apart as data does -/
def scal : V → V → Bool
  | .non, .non => true | .non, .int _ => true | .int _, .non => true | .non, .bl _ => true | .bl _, .non => true | .non, .str _ => true | .str _, .non => true
  | .int _, .int _ => true | .bl _, .bl _ => true | .str _, .str _ => true | .byt _, .byt _ => true
  | .int _, .str _ => true | .str _, .int _ => true | .bl _, .str _ => true | .str _, .bl _ => true
  | _, _ => false
def rEq : R2 := fun x y H Q => scal x y = true ∧ Q (.bl (decide (x = y))) H
def rNe : R2 := fun x y H Q => scal x y = true ∧ Q (.bl (!decide (x = y))) H

theorem dec_int {i j : Int} : decide (V.int i = V.int j) = (i == j) := by
  rw [Bool.eq_iff_iff]
  simp
theorem dec_bl {i j : Bool} : decide (V.bl i = V.bl j) = (i == j) := by
  rw [Bool.eq_iff_iff]
  simp
theorem dec_str {i j : Str} : decide (V.str i = V.str j) = (i == j) := by
  rw [Bool.eq_iff_iff]
  simp
theorem dec_byt {i j : Array UInt8} : decide (V.byt i = V.byt j) = (i.toList == j.toList) := by
  rw [Bool.eq_iff_iff]
  cases i
  cases j
  simp

section
variable {X : Cx} {a b c : Expr} {ta tb tc : TE} {pos : Pos}
theorem fin_bl {pins : List (Addr × Obj)} {σ : St} {H : Hp} {s : Shared} {Q : VK} {k k' : Bool} (I : Inv X pins σ H s) (q : Q (.bl k) H) (e : k = k') : EP X pins σ Q (.bool k') s := by
  subst e
  exact ⟨.bl k, H, I, rfl, q⟩
theorem op_eq : OpR X (compareOp .Eq) rEq := by
  intro pins s σ H x y v u Q I rx ry h
  obtain ⟨hs, q⟩ := h
  cases x with
  | non =>
    cases rx
    cases y with
    | non => cases ry; exact PySem.EqNone.eq_none_none (fin_bl I q (by simp))
    | bl j => cases ry; exact PySem.EqNone.eq_none_bool (fin_bl I q (by simp))
    | int j => obtain ⟨t', rfl⟩ := ry; exact PySem.EqNone.eq_none_int (fin_bl I q (by simp))
    | str j => obtain ⟨t', rfl⟩ := ry; exact PySem.EqNone.eq_none_str (fin_bl I q (by simp))
    | _ => exact absurd (show false = true from hs) Bool.false_ne_true
  | bl i =>
    cases rx
    cases y with
    | non => cases ry; exact PySem.EqNone.eq_bool_none (fin_bl I q (by simp))
    | bl j => cases ry; exact eq_bool (fin_bl I q dec_bl)
    | str j => obtain ⟨t', rfl⟩ := ry; exact PySem.EqMixed.eq_bool_str (fin_bl I q (by simp))
    | _ => exact absurd (show false = true from hs) Bool.false_ne_true
  | int i =>
    obtain ⟨t, rfl⟩ := rx
    cases y with
    | non => cases ry; exact PySem.EqNone.eq_int_none (fin_bl I q (by simp))
    | int j => obtain ⟨t', rfl⟩ := ry; exact eq_int (fin_bl I q dec_int)
    | str j => obtain ⟨t', rfl⟩ := ry; exact PySem.EqMixed.eq_int_str (fin_bl I q (by simp))
    | _ => exact absurd (show false = true from hs) Bool.false_ne_true
  | str i =>
    obtain ⟨t, rfl⟩ := rx
    cases y with
    | non => cases ry; exact PySem.EqNone.eq_str_none (fin_bl I q (by simp))
    | bl j => cases ry; exact PySem.EqMixed.eq_str_bool (fin_bl I q (by simp))
    | int j => obtain ⟨t', rfl⟩ := ry; exact PySem.EqMixed.eq_str_int (fin_bl I q (by simp))
    | str j => obtain ⟨t', rfl⟩ := ry; exact eq_str (fin_bl I q dec_str)
    | _ => exact absurd (show false = true from hs) Bool.false_ne_true
  | byt i =>
    obtain ⟨t, rfl⟩ := rx
    cases y with
    | byt j => obtain ⟨t', rfl⟩ := ry; exact PySem.W.eq_bytes (fin_bl I q dec_byt)
    | _ => exact absurd (show false = true from hs) Bool.false_ne_true
  | _ => cases y <;> exact absurd (show false = true from hs) Bool.false_ne_true
theorem op_ne : OpR X (compareOp .NotEq) rNe := by
  intro pins s σ H x y v u Q I rx ry h
  obtain ⟨hs, q⟩ := h
  cases x with
  | non =>
    cases rx
    cases y with
    | non => cases ry; exact PySem.EqNone.ne_none_none (fin_bl I q (by simp))
    | bl j => cases ry; exact PySem.EqNone.ne_none_bool (fin_bl I q (by simp))
    | int j => obtain ⟨t', rfl⟩ := ry; exact PySem.EqNone.ne_none_int (fin_bl I q (by simp))
    | str j => obtain ⟨t', rfl⟩ := ry; exact PySem.EqNone.ne_none_str (fin_bl I q (by simp))
    | _ => exact absurd (show false = true from hs) Bool.false_ne_true
  | bl i =>
    cases rx
    cases y with
    | non => cases ry; exact PySem.EqNone.ne_bool_none (fin_bl I q (by simp))
    | bl j => cases ry; exact ne_bool (fin_bl I q (congrArg not dec_bl))
    | str j => obtain ⟨t', rfl⟩ := ry; exact PySem.EqMixed.ne_bool_str (fin_bl I q (by simp))
    | _ => exact absurd (show false = true from hs) Bool.false_ne_true
  | int i =>
    obtain ⟨t, rfl⟩ := rx
    cases y with
    | non => cases ry; exact PySem.EqNone.ne_int_none (fin_bl I q (by simp))
    | int j => obtain ⟨t', rfl⟩ := ry; exact ne_int (fin_bl I q (congrArg not dec_int))
    | str j => obtain ⟨t', rfl⟩ := ry; exact PySem.EqMixed.ne_int_str (fin_bl I q (by simp))
    | _ => exact absurd (show false = true from hs) Bool.false_ne_true
  | str i =>
    obtain ⟨t, rfl⟩ := rx
    cases y with
    | non => cases ry; exact PySem.EqNone.ne_str_none (fin_bl I q (by simp))
    | bl j => cases ry; exact PySem.EqMixed.ne_str_bool (fin_bl I q (by simp))
    | int j => obtain ⟨t', rfl⟩ := ry; exact PySem.EqMixed.ne_str_int (fin_bl I q (by simp))
    | str j => obtain ⟨t', rfl⟩ := ry; exact ne_str (fin_bl I q (congrArg not dec_str))
    | _ => exact absurd (show false = true from hs) Bool.false_ne_true
  | byt i =>
    obtain ⟨t, rfl⟩ := rx
    cases y with
    | byt j => obtain ⟨t', rfl⟩ := ry; exact PySem.W.ne_bytes (fin_bl I q (congrArg not dec_byt))
    | _ => exact absurd (show false = true from hs) Bool.false_ne_true
  | _ => cases y <;> exact absurd (show false = true from hs) Bool.false_ne_true

theorem op_lt : OpR X (compareOp .Lt) (rI0 fun i j => .bl (decide (i < j))) := opB0 fun _ _ _ _ _ _ _ q => lt_int q
theorem op_le : OpR X (compareOp .LtE) (rI0 fun i j => .bl (decide (i ≤ j))) := opB0 fun _ _ _ _ _ _ _ q => le_int q
theorem op_gt : OpR X (compareOp .Gt) (rI0 fun i j => .bl (decide (j < i))) := opB0 fun _ _ _ _ _ _ _ q => gt_int q
theorem op_ge : OpR X (compareOp .GtE) (rI0 fun i j => .bl (decide (j ≤ i))) := opB0 fun _ _ _ _ _ _ _ q => ge_int q
theorem op_lt_str : OpR X (compareOp .Lt) (fun x y H Q => ∃ i j, x = .str i ∧ y = .str j ∧ Q (.bl (decide (i.cps.toList < j.cps.toList))) H) := by
  intro pins s σ H x y v u Q I rx ry h
  obtain ⟨i, j, rfl, rfl, q⟩ := h
  obtain ⟨t, rfl⟩ := rx
  obtain ⟨t', rfl⟩ := ry
  exact lt_str (fin_bl I q rfl)
/-- the one string within the other -/
theorem op_in_str : OpR X (compareOp .In) (fun x y H Q => ∃ i j, x = .str i ∧ y = .str j ∧ Q (.bl (!(Builtin.Str.occurrences j i 0 j.length 1).isEmpty)) H) := by
  intro pins s σ H x y v u Q I rx ry h
  obtain ⟨i, j, rfl, rfl, q⟩ := h
  obtain ⟨t, rfl⟩ := rx
  obtain ⟨t', rfl⟩ := ry
  exact in_str (fin_bl I q rfl)

/-- is None, is not None: the right side a value none -/
theorem op_isN : OpR X (compareOp .Is) (fun x y H Q => y = .non ∧ Q (.bl (decide (x = .non))) H) := by
  intro pins s σ H x y v u Q I rx ry h
  obtain ⟨rfl, q⟩ := h
  cases ry
  refine is_none_gen (fin_bl I q ?_)
  cases x <;> first
    | (cases rx; rfl)
    | (obtain ⟨t, rfl⟩ := rx; rfl)
theorem op_notN : OpR X (compareOp .IsNot) (fun x y H Q => y = .non ∧ Q (.bl (!decide (x = .non))) H) := by
  intro pins s σ H x y v u Q I rx ry h
  obtain ⟨rfl, q⟩ := h
  cases ry
  refine isnot_none_gen (fin_bl I q ?_)
  cases x <;> first
    | (cases rx; rfl)
    | (obtain ⟨t, rfl⟩ := rx; rfl)

theorem op_notin_str : OpR X (compareOp .NotIn) (fun x y H Q => ∃ i j, x = .str i ∧ y = .str j ∧ Q (.bl (!(!(Builtin.Str.occurrences j i 0 j.length 1).isEmpty))) H) := by
  intro pins s σ H x y v u Q I rx ry h
  obtain ⟨i, j, rfl, rfl, q⟩ := h
  obtain ⟨t, rfl⟩ := rx
  obtain ⟨t', rfl⟩ := ry
  exact notIn_str (fin_bl I q rfl)
/-- is, is not of two objects that are tracked lists or instances -/
def isObj : HO → Bool
  | .lst _ => true
  | .ins _ _ _ => true
  | _ => false
theorem obj_there {pins : List (Addr × Obj)} {s : Shared} {σ : St} {H : Hp} {a : Addr} {o : HO} (I : Inv X pins σ H s) (h : H a = some o) (p : isObj o = true) : ∃ ob, s.heap.get? a = some ob ∧ ob.cls ≠ .type "tuple" := by
  cases o with
  | lst xs =>
    obtain ⟨_, its, n, _, e⟩ : xs.length ≤ sizeLine ∧ ∃ (its : List Value) (n : Nat), Vals xs its ∧ s.heap.get? a = some { cls := .type "list", data := .seq its.toArray n } := I.hok a _ h
    exact ⟨_, e, (by show Value.type "list" ≠ .type "tuple"; decide +kernel)⟩
  | ins C dx fs =>
    have x := I.hok a _ h
    obtain ⟨_, _, _, e, _⟩ := x
    exact ⟨_, e, (by show Value.ref C ≠ .type "tuple"; exact fun z => by cases z)⟩
  | _ => exact absurd (show false = true from p) Bool.false_ne_true
theorem op_is_ref : OpR X (compareOp .Is) (fun x y H Q => ∃ a b oa ob, x = .ref a ∧ y = .ref b ∧ H a = some oa ∧ isObj oa = true ∧ H b = some ob ∧ isObj ob = true ∧ Q (.bl (decide (a = b))) H) := by
  intro pins s σ H x y v u Q I rx ry h
  obtain ⟨a, b, oa, ob, rfl, rfl, ha, pa, hb, pb, q⟩ := h
  cases rx
  cases ry
  obtain ⟨o1, e1, n1⟩ := obj_there I ha pa
  obtain ⟨o2, e2, _⟩ := obj_there I hb pb
  by_cases z : a = b
  · subst z
    exact wpAny_is_ref_self (fin_bl I q (by simp))
  · exact wpAny_is_ref_other z e1 e2 n1 (fin_bl I q (by simp [z]))
theorem op_isnot_ref : OpR X (compareOp .IsNot) (fun x y H Q => ∃ a b oa ob, x = .ref a ∧ y = .ref b ∧ H a = some oa ∧ isObj oa = true ∧ H b = some ob ∧ isObj ob = true ∧ Q (.bl (!decide (a = b))) H) := by
  intro pins s σ H x y v u Q I rx ry h
  obtain ⟨a, b, oa, ob, rfl, rfl, ha, pa, hb, pb, q⟩ := h
  cases rx
  cases ry
  obtain ⟨o1, e1, n1⟩ := obj_there I ha pa
  obtain ⟨o2, e2, _⟩ := obj_there I hb pb
  by_cases z : a = b
  · subst z
    exact wpAny_isNot_ref_self (fin_bl I q (by simp))
  · exact wpAny_isNot_ref_other z e1 e2 n1 (fin_bl I q (by simp [z]))

/-- two rules for one operation: by cases -/
theorem OpR.or {f : Value → Value → Sem Value} {r r' : R2} (h : OpR X f r) (h' : OpR X f r') : OpR X f (fun x y H Q => r x y H Q ∨ r' x y H Q) := by
  intro pins s σ H x y v u Q I rx ry q
  rcases q with q | q
  · exact h pins s σ H x y v u Q I rx ry q
  · exact h' pins s σ H x y v u Q I rx ry q

theorem nomark (b : Expr) {op : CmpOp} (h : op ≠ .In := by decide) (h2 : op ≠ .NotIn := by decide) : behindInMarks op b = false := by
  have e1 : (op == CmpOp.In) = false := by cases op <;> first | rfl | exact absurd rfl h
  have e2 : (op == CmpOp.NotIn) = false := by cases op <;> first | rfl | exact absurd rfl h2
  cases b <;> simp [behindInMarks, e1, e2]
/-- a comparison as a value; hm: nomark b, or (for in, not in) by with_unfolding_all rfl -/
theorem pe_cmpR {op : CmpOp} {r : R2} (ho : OpR X (compareOp op) r) (ha : PE X a ta) (hb : PE X b tb) (hm : behindInMarks op b = false) : PE X (.Compare a [op] [b] pos) (tOp r ta tb) := by
  intro pins s σ H Q I h
  exact wpAny_Compare1 (binT ha hb I h fun v u s2 x y H2 I2 rx ry q => ho pins s2 σ H2 x y v u Q I2 rx ry q) hm
/-- a reading of a value as a test -/
def tTest (t : TE) : TT := fun σ H Q => t σ H fun x H' => ∃ k, x = .bl k ∧ Q k H'
theorem pt_cmpR {op : CmpOp} {r : R2} (ho : OpR X (compareOp op) r) (ha : PE X a ta) (hb : PE X b tb) (hm : behindInMarks op b = false) : PT X (.Compare a [op] [b] pos) (tTest (tOp r ta tb)) := by
  intro pins s σ H Q I h
  refine wpAny_isTrue_Compare1 (thn (ha pins s σ H _ I h) fun v s1 ⟨x, H1, I1, r1, q1⟩ => thn (hb pins s1 σ H1 _ I1 q1) fun u s2 ⟨y, H2, I2, r2, q2⟩ =>
    thn (ho pins s2 σ H2 x y v u _ I2 r1 r2 q2) fun c s3 ⟨z, H3, I3, r3, k, e, q3⟩ => ?_) hm
  subst e
  cases r3
  exact wpAny_truthy_bool ⟨H3, I3, q3⟩
/-- a op1 b op2 c -/
def tChain (r r' : R2) (ta tb tc : TE) : TE := fun σ H Q => ta σ H fun x H1 => tb σ H1 fun y H2 => r x y H2 fun z H3 => ∃ k, z = .bl k ∧
  (if k = true then tc σ H3 fun w' H4 => r' y w' H4 Q else Q (.bl false) H3)
theorem pe_chain {op op' : CmpOp} {r r' : R2} (ho : OpR X (compareOp op) r) (ho' : OpR X (compareOp op') r') (ha : PE X a ta) (hb : PE X b tb) (hc : PE X c tc)
    (hm : lastMarks [op, op'] [b, c] = false := by with_unfolding_all rfl) : PE X (.Compare a [op, op'] [b, c] pos) (tChain r r' ta tb tc) := by
  intro pins s σ H Q I h
  refine Compare_chain (thn (ha pins s σ H _ I h) fun v s1 ⟨x, H1, I1, r1, q1⟩ => chain_link (thn (hb pins s1 σ H1 _ I1 q1) fun u s2 ⟨y, H2, I2, r2, q2⟩ =>
    thn (ho pins s2 σ H2 x y v u _ I2 r1 r2 q2) fun d s3 ⟨z, H3, I3, r3, k, e, q3⟩ => ?_)) hm
  subst e
  cases r3
  refine wpAny_truthy_bool ?_
  cases k with
  | false => exact ite_ff ⟨.bl false, H3, I3, rfl, q3⟩
  | true => exact ite_tt (chain_last (thn (hc pins s3 σ H3 _ I3 q3) fun w' s4 ⟨z', H4, I4, r4, q4⟩ => ho' pins s4 σ H4 y z' u w' Q I4 r2 r4 q4))
theorem pt_chain {op op' : CmpOp} {r r' : R2} (ho : OpR X (compareOp op) r) (ho' : OpR X (compareOp op') r') (ha : PE X a ta) (hb : PE X b tb) (hc : PE X c tc)
    (hm : lastMarks [op, op'] [b, c] = false := by with_unfolding_all rfl) : PT X (.Compare a [op, op'] [b, c] pos) (tTest (tChain r r' ta tb tc)) := by
  intro pins s σ H Q I h
  refine isTrue_chain (thn (ha pins s σ H _ I h) fun v s1 ⟨x, H1, I1, r1, q1⟩ => test_link (thn (hb pins s1 σ H1 _ I1 q1) fun u s2 ⟨y, H2, I2, r2, q2⟩ =>
    thn (ho pins s2 σ H2 x y v u _ I2 r1 r2 q2) fun d s3 ⟨z, H3, I3, r3, k, e, q3⟩ => ?_)) hm
  subst e
  cases r3
  refine wpAny_truthy_bool ?_
  cases k with
  | false =>
    obtain ⟨k', e', q'⟩ := q3
    cases e'
    exact ite_ff ⟨H3, I3, q'⟩
  | true =>
    refine ite_tt (test_last (thn (hc pins s3 σ H3 _ I3 q3) fun w' s4 ⟨z', H4, I4, r4, q4⟩ => thn (ho' pins s4 σ H4 y z' u w' _ I4 r2 r4 q4) fun d' s5 ⟨z2, H5, I5, r5, k2, e2, q5⟩ => ?_))
    subst e2
    cases r5
    exact wpAny_truthy_bool ⟨H5, I5, q5⟩

/-! ### truth -/
/-- a value's truth by the abstract heap -/
def TruV (K : PySem.W.Frag) (x : V) (H : Hp) (k : Bool) : Prop :=
  match x with
  | .non => k = false
  | .bl b => k = b
  | .int i => k = (i != 0)
  | .str y => y.length ≤ sizeLine ∧ k = ((y.length : Int) != 0)
  | .byt y => y.size ≤ sizeLine ∧ k = ((y.size : Int) != 0)
  | .ref p => (∃ xs, SqL K H p xs ∧ k = !xs.isEmpty) ∨ (∃ xs, SqT K H p xs ∧ k = !xs.isEmpty) ∨ ∃ kvs, H p = some (.dK kvs) ∧ k = !kvs.isEmpty
  | _ => False
theorem isEmpty_kv {κ : Type} {kvs : List (κ × V)} {vs : List (κ × Value)} (r : KV kvs vs) : (!vs.isEmpty) = !kvs.isEmpty := by
  cases r <;> rfl
theorem isEmpty_of {xs : List V} {its : List Value} (r : Vals xs its) : (!its.toArray.isEmpty) = !xs.isEmpty := by
  cases r <;> simp
theorem line63 : (sizeLine : Nat) < 2 ^ 63 := by rw [sizeLine_eq]; decide
theorem tru_ok : TruR X (fun x H Q => ∃ k, TruV X.K x H k ∧ Q k H) := by
  intro pins s σ H x v Q I rx h
  obtain ⟨k, e, q⟩ := h
  have hl := line63
  have hs : sizeLine = 16777216 := sizeLine_eq
  cases x with
  | non =>
    cases rx
    have e' : k = false := e
    subst e'
    exact truthy_none ⟨H, I, q⟩
  | bl b =>
    cases rx
    have e' : k = b := e
    subst e'
    exact wpAny_truthy_bool ⟨H, I, q⟩
  | int i =>
    obtain ⟨t, rfl⟩ := rx
    have e' : k = (i != 0) := e
    subst e'
    exact PySem.P.truthy_int ⟨H, I, q⟩
  | str y =>
    obtain ⟨t, rfl⟩ := rx
    obtain ⟨hy, e'⟩ : y.length ≤ sizeLine ∧ k = ((y.length : Int) != 0) := e
    subst e'
    exact PySem.P.truthy_str (by omega) ⟨H, I.tok _, q⟩
  | byt y =>
    obtain ⟨t, rfl⟩ := rx
    obtain ⟨hy, e'⟩ : y.size ≤ sizeLine ∧ k = ((y.size : Int) != 0) := e
    subst e'
    exact PySem.W.truthy_bytes (by omega) ⟨H, I.tok _, q⟩
  | ref p =>
    cases rx
    have e' : (∃ xs, SqL X.K H p xs ∧ k = !xs.isEmpty) ∨ (∃ xs, SqT X.K H p xs ∧ k = !xs.isEmpty) ∨ ∃ kvs, H p = some (.dK kvs) ∧ k = !kvs.isEmpty := e
    rcases e' with ⟨xs, hx, e'⟩ | ⟨xs, hx, e'⟩ | ⟨kvs, hx, e'⟩
    · subst e'
      obtain ⟨its, r, pl, hz⟩ := I.list hx
      have hlen := r.length
      exact wpAny_truthy_list pl.isList (by simp only [List.size_toArray]; omega) ⟨H, I.tok _, by rw [isEmpty_of r]; exact q⟩
    · subst e'
      obtain ⟨its, r, pl, hz⟩ := I.tuple hx
      have hlen := r.length
      exact truthy_tuple pl (by simp only [List.size_toArray]; omega) ⟨H, I.tok _, by rw [isEmpty_of r]; exact q⟩
    · subst e'
      obtain ⟨hz, hS, vs, r, m⟩ : kvs.length ≤ sizeLine ∧ (p == sysModules) = false ∧ ∃ vs, KV kvs vs ∧ s.heap.DictOf (mixKind X.prog X.w) p vs := I.hok p _ hx
      have hlen : kvs.length = vs.length := Paired.length r
      exact wpAny_truthy_dict hS m (by omega) ⟨H, I.tok _, by rw [isEmpty_kv r]; exact q⟩
  | _ => exact (show False from e).elim
/-- any expression whose test is its value's truth (a name, a call, a subscript, a field ..: he by fun _ => rfl) -/
theorem pt_truth (ha : PE X a ta) (he : ∀ whole, isTrue a X.env whole = (do let v ← whole; standAt a.pos; holding [v] (truthy v))) :
    PT X a (fun σ H Q => ta σ H fun x H' => ∃ k, TruV X.K x H' k ∧ Q k H') := by
  intro pins s σ H Q I h
  exact isTrue_plain (thn (ha pins s σ H _ I h) fun v s1 ⟨x, H1, I1, r1, q1⟩ => tru_ok pins s1 σ H1 x v Q I1 r1 q1) (he _)

/-! ### strs and bytes -/
theorem pe_byt {x : List UInt8} {k : Nat} : PE X (.Constant (.bytes x) k pos) (fun _ H Q => Q (.byt x.toArray) H) := fun _ _ _ H _ I h => PySem.W.Constant_bytes ⟨.byt x.toArray, H, I.tok _, ⟨_, rfl⟩, h⟩
theorem op_add_str : OpR X (binaryOp .Add) (fun x y H Q => ∃ i j, x = .str i ∧ y = .str j ∧ i.length + j.length ≤ sizeLine ∧ Q (.str (i ++ j)) H) := by
  intro pins s σ H x y v u Q I rx ry h
  obtain ⟨i, j, rfl, rfl, hz, q⟩ := h
  obtain ⟨t, rfl⟩ := rx
  obtain ⟨t', rfl⟩ := ry
  exact add_str (fun t' tk => ⟨.str (i ++ j), H, I.tok _, ⟨_, rfl⟩, q⟩) hz
theorem iop_add_str : OpR X (inplaceOp .Add) (fun x y H Q => ∃ i j, x = .str i ∧ y = .str j ∧ i.length + j.length ≤ sizeLine ∧ Q (.str (i ++ j)) H) := by
  intro pins s σ H x y v u Q I rx ry h
  obtain ⟨i, j, rfl, rfl, hz, q⟩ := h
  obtain ⟨t, rfl⟩ := rx
  obtain ⟨t', rfl⟩ := ry
  exact iadd_str (fun t' tk => ⟨.str (i ++ j), H, I.tok _, ⟨_, rfl⟩, q⟩) hz
theorem op_add_byt : OpR X (binaryOp .Add) (fun x y H Q => ∃ i j, x = .byt i ∧ y = .byt j ∧ i.size + j.size ≤ 16777216 ∧ Q (.byt (i ++ j)) H) := by
  intro pins s σ H x y v u Q I rx ry h
  obtain ⟨i, j, rfl, rfl, hz, q⟩ := h
  obtain ⟨t, rfl⟩ := rx
  obtain ⟨t', rfl⟩ := ry
  exact PySem.W.KBy.add_bytes hz (fun t' tk => ⟨.byt (i ++ j), H, I.tok _, ⟨_, rfl⟩, q⟩)

def PlainIxT (b : Expr) : Prop := ∀ o i, subscripted b false o i = operate [o, i] (getItem o i)
/-- s[i], 0 ≤ i < len -/
theorem pe_item_str (ha : PE X a ta) (hb : PE X b tb) (hs : PlainIxT b) :
    PE X (.Subscript a b pos) (tOp (fun x y H Q => ∃ z i c, x = .str z ∧ y = .int i ∧ 0 ≤ i ∧ i < 2 ^ 63 ∧ i < z.length ∧ z.cps[i.toNat]? = some c ∧ Q (.str ⟨#[c]⟩) H) ta tb) := by
  intro pins s σ H Q I h
  refine Subscript_ (binT ha hb I h fun v u s2 x y H2 I2 rx ry q => ?_)
  obtain ⟨z, i, c, rfl, rfl, h0, h63, h1, hc, q⟩ := q
  obtain ⟨t, rfl⟩ := rx
  obtain ⟨t', rfl⟩ := ry
  have e : seqIndex? i z.length = some i.toNat := PySem.StrLaws.seqIndex_nonneg h0 h1
  exact tail_any (typeIs_str s2 z t) slot_str_getitem.lookup (getItem_str (c := c) (by
    have e1 : decide (i < -(2 ^ 63 : Int)) = false := decide_eq_false (by omega)
    have e2 : decide (i ≥ 2 ^ 63) = false := decide_eq_false (by omega)
    rw [e1, e2] <;> rfl) (by rw [e]; exact hc) ⟨.str ⟨#[c]⟩, H2, I2.tok _, ⟨_, rfl⟩, q⟩) (hs _ _)
/-- b[i], 0 ≤ i < len -/
theorem pe_item_byt (ha : PE X a ta) (hb : PE X b tb) (hs : PlainIxT b) :
    PE X (.Subscript a b pos) (tOp (fun x y H Q => ∃ (z : List UInt8) (i : Int), x = .byt z.toArray ∧ y = .int i ∧ z.length ≤ sizeLine ∧ 0 ≤ i ∧ i < z.length ∧ Q (.int ((z.getD i.toNat 0).toNat : Nat)) H) ta tb) := by
  intro pins s σ H Q I h
  refine Subscript_ (binT ha hb I h fun v u s2 x y H2 I2 rx ry q => ?_)
  obtain ⟨z, i, rfl, rfl, hz, h0, h1, q⟩ := q
  obtain ⟨t, rfl⟩ := rx
  obtain ⟨t', rfl⟩ := ry
  have hl : sizeLine = 16777216 := sizeLine_eq
  exact tail_any (PySem.W.typeIs_bytes s2 z.toArray t) PySem.W.FB.slot_bytes_getitem.lookup (PySem.W.getItem_bytes (by omega) h0 h1 ⟨.int ((z.getD i.toNat 0).toNat : Nat), H2, I2.tok _, ⟨_, rfl⟩, q⟩) (hs _ _)

/-! ### scalar builtins, by CallR -/
theorem vals1 {x : V} {us : List Value} (r : Vals [x] us) : ∃ u, us = [u] ∧ RelV x u := by
  cases r with
  | cons r1 r2 => cases r2; exact ⟨_, rfl, r1⟩
theorem vals2 {x y : V} {us : List Value} (r : Vals [x, y] us) : ∃ u w', us = [u, w'] ∧ RelV x u ∧ RelV y w' := by
  cases r with
  | cons r1 r2 =>
    cases r2 with
    | cons r3 r4 => cases r4; exact ⟨_, _, rfl, r1, r3⟩
theorem call_abs : CallR X (.builtin "abs") (fun xs H Q => ∃ i, xs = [.int i] ∧ Q (.int (if i < 0 then -i else i)) H) := by
  intro pins s σ H xs us Q I r h
  obtain ⟨i, rfl, q⟩ := h
  obtain ⟨u, rfl, t, rfl⟩ := vals1 r
  exact call_abs_int fun u tk => ⟨.int (if i < 0 then -i else i), H, I.tok _, ⟨_, rfl⟩, q⟩
theorem call_max2 (hc : X.calm = true) : CallR X (.builtin "max") (fun xs H Q => ∃ i j, xs = [.int i, .int j] ∧ Q (.int (if j > i then j else i)) H) := by
  intro pins s σ H xs us Q I r h
  obtain ⟨i, j, rfl, q⟩ := h
  obtain ⟨u, w', rfl, ⟨t, rfl⟩, ⟨t', rfl⟩⟩ := vals2 r
  refine max_two_ints (I.ok.hd hc) fun h' tk k => ⟨_, H, I.kept k, ?_, q⟩
  by_cases hj : j > i
  · rw [if_pos hj, if_pos hj]; exact ⟨_, rfl⟩
  · rw [if_neg hj, if_neg hj]; exact ⟨_, rfl⟩
theorem call_min2 (hc : X.calm = true) : CallR X (.builtin "min") (fun xs H Q => ∃ i j, xs = [.int i, .int j] ∧ Q (.int (if j < i then j else i)) H) := by
  intro pins s σ H xs us Q I r h
  obtain ⟨i, j, rfl, q⟩ := h
  obtain ⟨u, w', rfl, ⟨t, rfl⟩, ⟨t', rfl⟩⟩ := vals2 r
  refine min_two_ints (I.ok.hd hc) fun h' tk k => ⟨_, H, I.kept k, ?_, q⟩
  by_cases hj : j < i
  · rw [if_pos hj, if_pos hj]; exact ⟨_, rfl⟩
  · rw [if_neg hj, if_neg hj]; exact ⟨_, rfl⟩
theorem call_int1 : CallR X (.type "int") (fun xs H Q => (∃ i, xs = [.int i] ∧ Q (.int i) H) ∨ ∃ k, xs = [.bl k] ∧ Q (.int (if k then 1 else 0)) H) := by
  intro pins s σ H xs us Q I r h
  rcases h with ⟨i, rfl, q⟩ | ⟨k, rfl, q⟩
  · obtain ⟨u, rfl, t, rfl⟩ := vals1 r
    exact call_int_int ⟨.int i, H, I, ⟨_, rfl⟩, q⟩
  · obtain ⟨u, rfl, r1⟩ := vals1 r
    cases r1
    exact call_int_bool ⟨.int (if k then 1 else 0), H, I.tok _, ⟨_, rfl⟩, q⟩
theorem call_bool1 : CallR X (.type "bool") (fun xs H Q => (∃ i, xs = [.int i] ∧ Q (.bl (i != 0)) H) ∨ ∃ k, xs = [.bl k] ∧ Q (.bl k) H) := by
  intro pins s σ H xs us Q I r h
  rcases h with ⟨i, rfl, q⟩ | ⟨k, rfl, q⟩
  · obtain ⟨u, rfl, t, rfl⟩ := vals1 r
    exact call_bool_int ⟨.bl (i != 0), H, I, rfl, q⟩
  · obtain ⟨u, rfl, r1⟩ := vals1 r
    cases r1
    exact call_bool_bool ⟨.bl k, H, I, rfl, q⟩
theorem call_str_int : CallR X (.type "str") (fun xs H Q => ∃ i, xs = [.int i] ∧ i.natAbs.log2 < 1920 ∧ Q (.str (toString i)) H) := by
  intro pins s σ H xs us Q I r h
  obtain ⟨i, rfl, hz, q⟩ := h
  obtain ⟨u, rfl, t, rfl⟩ := vals1 r
  exact PySem.P.str_of_int hz ⟨.str _, H, I.tok _, ⟨_, rfl⟩, q⟩
theorem call_ord : CallR X (.builtin "ord") (fun xs H Q => ∃ x, xs = [.str x] ∧ x.length = 1 ∧ Q (.int (x.cps.getD 0 0 : Nat)) H) := by
  intro pins s σ H xs us Q I r h
  obtain ⟨x, rfl, hz, q⟩ := h
  obtain ⟨u, rfl, t, rfl⟩ := vals1 r
  exact ord_of_one hz ⟨.int _, H, I.tok _, ⟨_, rfl⟩, q⟩
theorem call_chr : CallR X (.builtin "chr") (fun xs H Q => ∃ i, xs = [.int i] ∧ 0 ≤ i ∧ i ≤ 1114111 ∧ Q (.str ⟨#[i.toNat]⟩) H) := by
  intro pins s σ H xs us Q I r h
  obtain ⟨i, rfl, h0, h1, q⟩ := h
  obtain ⟨u, rfl, t, rfl⟩ := vals1 r
  exact chr_of_range h0 h1 ⟨.str _, H, I.tok _, ⟨_, rfl⟩, q⟩
/-- len of a str, a bytes, a list, a tuple -/
def LenV (K : PySem.W.Frag) (x : V) (H : Hp) (n : Nat) : Prop :=
  match x with
  | .str y => y.length ≤ sizeLine ∧ n = y.length
  | .byt y => y.size ≤ sizeLine ∧ n = y.size
  | .ref p => (∃ xs, SqL K H p xs ∧ n = xs.length) ∨ ∃ xs, SqT K H p xs ∧ n = xs.length
  | _ => False
theorem call_len : CallR X (.builtin "len") (fun xs H Q => ∃ x n, xs = [x] ∧ LenV X.K x H n ∧ Q (.int n) H) := by
  intro pins s σ H xs us Q I r h
  obtain ⟨x, n, rfl, e, q⟩ := h
  obtain ⟨u, rfl, rx⟩ := vals1 r
  have hl := line63
  have hs : sizeLine = 16777216 := sizeLine_eq
  cases x with
  | str y =>
    obtain ⟨t, rfl⟩ := rx
    obtain ⟨hy, e'⟩ : y.length ≤ sizeLine ∧ n = y.length := e
    subst e'
    exact len_str (by omega) ⟨.int _, H, I.tok _, ⟨_, rfl⟩, q⟩
  | byt y =>
    obtain ⟨t, rfl⟩ := rx
    obtain ⟨hy, e'⟩ : y.size ≤ sizeLine ∧ n = y.size := e
    subst e'
    exact PySem.W.len_bytes (by omega) ⟨.int _, H, I.tok _, ⟨_, rfl⟩, q⟩
  | ref p =>
    cases rx
    have e' : (∃ xs, SqL X.K H p xs ∧ n = xs.length) ∨ ∃ xs, SqT X.K H p xs ∧ n = xs.length := e
    rcases e' with ⟨xs, hx, e'⟩ | ⟨xs, hx, e'⟩
    · subst e'
      obtain ⟨its, r', pl, hz⟩ := I.list hx
      have hlen := r'.length
      exact Calls.call_len_list pl.isList (by simp only [List.size_toArray]; omega) ⟨.int xs.length, H, I.tok _, ⟨_, by simp only [List.size_toArray]; rw [hlen]⟩, q⟩
    · subst e'
      obtain ⟨its, r', pl, hz⟩ := I.tuple hx
      have hlen := r'.length
      exact len_tuple pl (by simp only [List.size_toArray]; omega) ⟨.int xs.length, H, I.tok _, ⟨_, by simp only [List.size_toArray]; rw [hlen]⟩, q⟩
  | _ => exact (show False from e).elim
/-- divmod: a new tuple -/
theorem call_divmod : CallR X (.builtin "divmod") (fun xs H Q => ∃ i j, xs = [.int i, .int j] ∧ CDiv i j ∧ ∀ p, H p = none → Q (.ref p) (upd H p (.tup [.int (i / j), .int (i % j)]))) := by
  intro pins s σ H xs us Q I r h
  obtain ⟨i, j, rfl, ⟨h1, h2⟩, q⟩ := h
  obtain ⟨u, w', rfl, ⟨t, rfl⟩, ⟨t', rfl⟩⟩ := vals2 r
  refine divmod_int (by omega) ?_ (.inl (PyProof.noPylong_small (by omega)))
  rw [Int.fdiv_eq_ediv_of_nonneg i (by omega), Int.fmod_eq_emod_of_nonneg i (by omega)]
  have hn : H s.heap.objs.size = none := I.hok.fresh (Nat.le_refl _)
  refine ⟨.ref s.heap.objs.size, _, ?_, rfl, q _ hn⟩
  refine I.laid (fun b o e => Heap.get?_push_of_some _ e) (Nat.le_refl _) ⟨by simp only [List.length_cons, List.length_nil]; rw [sizeLine_eq]; decide, [.int (i / j) s.toks, .int (i % j) (s.toks + 1)], .cons ⟨_, rfl⟩ (.cons ⟨_, rfl⟩ .nil), ?_⟩
  exact ⟨_, Heap.get?_push_size s.heap rfl, rfl, 0, rfl⟩
end
end L2

namespace L2
open PySem PySem.Spec PyProof.Rows

/-! ### an instance, its attributes a map -/
structure ObjM (h : Heap) (x dx C : Addr) (mA : Str → Option Value) : Prop where
  obj : h.get? x = some (PySem.W.instObj C dx)
  ns : h.Ns1 dx mA
  ne : dx ≠ x

theorem lookIn_ns {h : Heap} {dx : Addr} {mA : Str → Option Value} (n : h.Ns1 dx mA) : ∃ od, h.get? dx = some od ∧ ∀ name, PySem.W.lookIn name od = some (mA name) := by
  obtain ⟨o, es, ep, ho, hd, hk, _, hm⟩ := n
  refine ⟨o, ho, fun name => ?_⟩
  have e := hm name
  unfold nsFind findBy at e
  rw [← Array.find?_toList] at e
  unfold PySem.W.lookIn
  rw [hd]
  dsimp only
  split
  · rename_i y q
    rw [q] at e
    exact congrArg some e
  · rename_i q
    rw [q] at e
    have a : es.toList.any (·.refKey) = false := by
      rw [List.any_eq_false]
      intro y hy
      obtain ⟨z, t, hkey⟩ := hk y (Array.mem_toList_iff.mp hy)
      simp [DictEntry.refKey, hkey]
    have a' : ¬ es.toList.any (·.refKey) = true := by rw [a]; exact Bool.false_ne_true
    rw [if_neg a']
    exact congrArg some e

theorem ObjM.look {h : Heap} {x dx C : Addr} {mA : Str → Option Value} (I : ObjM h x dx C mA) : ∃ od, PySem.W.InstAt h x (PySem.W.instObj C dx) C (some od) ∧ ∀ name, PySem.W.lookIn name od = some (mA name) :=
  let ⟨od, ho, hl⟩ := lookIn_ns I.ns
  ⟨od, ⟨I.obj, rfl, rfl, ho⟩, hl⟩

section
variable {prog : Program} {w : World} {A : Around} {E : Value → Shared → Prop} {s : Shared} {K : PySem.W.Frag} {x dx C f : Addr} {mA : Str → Option Value} {name : Str} {v : Value}

theorem get_map {expr : Bool} {Q : Value → Shared → Prop} (X : K.In s.heap) (I : ObjM s.heap x dx C mA) (hg : PySem.W.plainGet K C name = true) (hh : PySem.W.hasDictIn K C = true)
    (ha : PySem.W.findIn K (.ref C) name = some none) (hv : mA name = some v) (hv' : PySem.W.handedIn v = true) (h : Q v { s with toks := s.toks + 1 }) :
    wpAny (model prog w) A (getAttr (.ref x) name expr) Q E s := by
  obtain ⟨od, J, hl⟩ := I.look
  exact PySem.W.get_value X J (PySem.W.plainGet_of hg).1 (PySem.W.findObj_own hh ha rfl (by rw [hl, hv])) hv' h

theorem get_const {expr : Bool} {a : Value} {Q : Value → Shared → Prop} (X : K.In s.heap) (I : ObjM s.heap x dx C mA) (hg : PySem.W.plainGet K C name = true) (hh : PySem.W.hasDictIn K C = true)
    (ha : PySem.W.findIn K (.ref C) name = some (some a)) (hn : PySem.W.specialIn K a "__get__" = some none) (hc : PySem.W.copiedNames.contains name = false) (hv : mA name = none) (hv' : PySem.W.handedIn a = true)
    (h : Q a { s with toks := s.toks + 1 }) : wpAny (model prog w) A (getAttr (.ref x) name expr) Q E s := by
  obtain ⟨od, J, hl⟩ := I.look
  exact PySem.W.get_value X J (PySem.W.plainGet_of hg).1 (PySem.W.findObj_cls hh ha hn hv' hc (by rw [hl, hv])) hv' h

theorem get_meth {pl : Sem Bool} {Q : Value × List Value → Shared → Prop} (X : K.In s.heap) (I : ObjM s.heap x dx C mA) (hg : PySem.W.plainGet K C name = true)
    (hf : PySem.W.findIn K (.ref C) name = some (some (.ref f))) (ht : PySem.W.isFn K (.ref f) = true) (hv : mA name = none) (h : Q (.ref f, [.ref x]) s) :
    wpAny (model prog w) A (getMethod (.ref x) name pl) Q E s := by
  obtain ⟨od, J, hl⟩ := I.look
  exact PySem.W.method_fn X J (PySem.W.plainGet_of hg).1 (PySem.W.plainGet_of hg).2 hf (beq_iff_eq.mp ht) (by show (PySem.W.lookIn name od).map (·.isSome) = some false; rw [hl, hv]; rfl) h

theorem set_map {ns : List Str} {Q : Unit → Shared → Prop} (X : K.In s.heap) (I : ObjM s.heap x dx C mA)
    (hs : PySem.W.findIn K (.ref C) "__setattr__" = some (some (.builtin "object.__setattr__"))) (hp : PySem.W.plainOver K C = true) (ht : PySem.W.takerIn K C name = some none) (hh : PySem.W.hasDictIn K C = true)
    (hw : PySem.Within mA ns) (hsz : ns.length ≤ sizeLine)
    (h : ∀ h', ObjM h' x dx C (fun y => if y = name then some v else mA y) → Heap.SameBut dx s.heap h' → Q () { s with heap := h', toks := s.toks + 2 }) :
    wpAny (model prog w) A (setAttr (.ref x) name v) Q E s := by
  obtain ⟨od, J, hl⟩ := I.look
  refine PySem.W.set_plain X J hs (PySem.W.osa_open (s := { s with toks := s.toks + 1 }) (r := none) X J hp ht fun b => ?_)
  obtain ⟨cd, hc, hd'⟩ := PySem.W.any_some hh
  have hx : s.heap.get? x = some ⟨.ref C, some dx, .plain, #[]⟩ := I.obj
  refine wpAny_bind (wpAny_pure (wpAny_bind (wpAny_bind (wpAny_loadPart hx (wpAny_bind (PySem.W.Looks.here (s := { s with toks := s.toks + 1 }) (PySem.W.looks_clsIn X hc) ?_))))))
  rw [hd']
  refine wpAny_pure (a := some dx) (wpAny_bind (wpAny_pure (wpAny_bind ?_)))
  refine wpAny_nsSet1 (s := { s with toks := s.toks + 1 }) I.ns fun h' hn2 hs2 => ?_
  obtain ⟨oD, esD, epD, hoD, hdD, hcD⟩ := hn2.count (PySem.Within.cons name v hw)
  refine wpAny_bind (wpAny_lookBehind hoD (by rw [hdD]; exact pastItsLine_dict (Nat.le_trans hcD (by rw [List.length_cons]; omega))) ?_)
  exact wpAny_pure (h _ ⟨(hs2.2 _ (Ne.symm I.ne)).trans I.obj, hn2, I.ne⟩ hs2)

/-- C(..): the dict at the heap's end, the instance behind it; then its __init__ -/
theorem make_map {R : Result → Shared → Prop} {vs : List Value} {kw : List (Str × Value)} (X : K.In s.heap) (hm : PySem.W.makesIn K C = true)
    (hi : PySem.W.findIn K (.ref C) "__init__" = some (some (.ref f))) (hf : PySem.W.typeIn K (.ref f) = some (.type "function"))
    (h : codeAny (model prog w) (A.under (.builtin "type.__call__" ⟨.ref C :: vs, kw⟩)) (.call (.ref f) ⟨.ref (s.heap.objs.size + 1) :: vs, kw⟩) (PySem.W.InitBack (s.heap.objs.size + 1) R)
      { s with heap := (s.heap.push PySem.W.emptyDict).push (PySem.W.instObj C s.heap.objs.size) }) :
    codeAny (model prog w) A (.call (.ref C) ⟨vs, kw⟩) R s := by
  obtain ⟨hh, g, d, t, os⟩ := s
  exact PySem.W.make_core (PySem.W.makes_of X hm) (PySem.W.looks_findIn X hi) (fun self => PySem.W.bind_fn X self hf) (.inl rfl) h
/-- C() where there is no __init__ but object's -/
theorem make_map0 {R : Result → Shared → Prop} (X : K.In s.heap) (hm : PySem.W.makesIn K C = true)
    (hi : PySem.W.findIn K (.ref C) "__init__" = some (some (.builtin "object.__init__")))
    (hb : ∀ self, PySem.W.Looks (model prog w) s.heap (bindSpecial (.builtin "object.__init__") self) (.builtin "object.__init__", [self]))
    (h : codeAny (model prog w) (A.under (.builtin "type.__call__" ⟨[.ref C], []⟩)) (.call (.builtin "object.__init__") ⟨[.ref (s.heap.objs.size + 1)], []⟩) (PySem.W.InitBack (s.heap.objs.size + 1) R)
      { s with heap := (s.heap.push PySem.W.emptyDict).push (PySem.W.instObj C s.heap.objs.size) }) :
    codeAny (model prog w) A (.call (.ref C) ⟨[], []⟩) R s := by
  obtain ⟨hh, g, d, t, os⟩ := s
  exact PySem.W.make_core (PySem.W.makes_of X hm) (PySem.W.looks_findIn X hi) hb (.inr ⟨rfl, rfl⟩) h
end

/-! ### the attributes as a list of pairs -/
def putF (f : Str) (v : V) : List (Str × V) → List (Str × V)
  | [] => [(f, v)]
  | (g, x) :: r => if g = f then (g, v) :: r else (g, x) :: putF f v r
theorem lookup_putF (f g : Str) (v : V) : ∀ fs : List (Str × V), (putF f v fs).lookup g = if g = f then some v else fs.lookup g
  | [] => by
    show List.lookup g [(f, v)] = _
    by_cases h : g = f
    · have hb : (g == f) = true := beq_iff_eq.mpr h
      simp only [List.lookup, hb, if_pos h]
    · have hb : (g == f) = false := beq_eq_false_iff_ne.mpr h
      simp only [List.lookup, hb, if_neg h]
  | (k, x) :: r => by
    have ih := lookup_putF f g v r
    rw [show putF f v ((k, x) :: r) = (if k = f then (k, v) :: r else (k, x) :: putF f v r) from rfl]
    by_cases hk : k = f
    · rw [if_pos hk]
      by_cases h : g = k
      · have hb : (g == k) = true := beq_iff_eq.mpr h
        simp only [List.lookup, hb, if_pos (h.trans hk)]
      · have hb : (g == k) = false := beq_eq_false_iff_ne.mpr h
        simp only [List.lookup, hb, if_neg (fun e : g = f => h (e.trans hk.symm))]
    · rw [if_neg hk]
      by_cases h : g = k
      · have hb : (g == k) = true := beq_iff_eq.mpr h
        simp only [List.lookup, hb, if_neg (fun e : g = f => hk (h.symm.trans e))]
      · have hb : (g == k) = false := beq_eq_false_iff_ne.mpr h
        simp only [List.lookup, hb]
        exact ih
theorem keys_putF (f : Str) (v : V) : ∀ fs : List (Str × V), f ∈ (putF f v fs).map (·.1) ∧ ∀ g, g ∈ fs.map (·.1) → g ∈ (putF f v fs).map (·.1)
  | [] => ⟨by simp [putF], fun g h => by simp at h⟩
  | (k, x) :: r => by
    obtain ⟨i1, i2⟩ := keys_putF f v r
    rw [show putF f v ((k, x) :: r) = (if k = f then (k, v) :: r else (k, x) :: putF f v r) from rfl]
    by_cases hk : k = f
    · rw [if_pos hk]
      subst hk
      exact ⟨by simp, fun g h => by simpa using h⟩
    · rw [if_neg hk]
      refine ⟨?_, fun g h => ?_⟩
      · rw [List.map_cons]
        exact List.mem_cons_of_mem _ i1
      · rw [List.map_cons] at h ⊢
        rcases List.mem_cons.mp h with e | e
        · exact List.mem_cons.mpr (.inl e)
        · exact List.mem_cons_of_mem _ (i2 g e)
theorem length_putF (f : Str) (v : V) : ∀ fs : List (Str × V), (putF f v fs).length ≤ fs.length + 1
  | [] => by simp [putF]
  | (k, x) :: r => by
    have ih := length_putF f v r
    rw [show putF f v ((k, x) :: r) = (if k = f then (k, v) :: r else (k, x) :: putF f v r) from rfl]
    by_cases hk : k = f
    · rw [if_pos hk, List.length_cons, List.length_cons]; omega
    · rw [if_neg hk, List.length_cons, List.length_cons]; omega

theorem RelO.some_of {v : V} {o : Option Value} (r : RelO (some v) o) : ∃ u, o = some u ∧ RelV v u := by
  cases o with
  | none => exact (show False from r).elim
  | some u => exact ⟨u, rfl, r⟩
theorem RelO.none_of {o : Option Value} (r : RelO none o) : o = none := by
  cases o with
  | none => rfl
  | some u => exact (show False from r).elim
theorem handed_of {v : V} {u : Value} (r : RelV v u) : PySem.W.handedIn u = true := by
  cases v with
  | non => cases (show u = Value.none from r); rfl
  | bl b => cases (show u = Value.bool b from r); rfl
  | int i => obtain ⟨t, e⟩ := (show ∃ t, u = Value.int i t from r); cases e; rfl
  | str x => obtain ⟨t, e⟩ := (show ∃ t, u = Value.str x t from r); cases e; rfl
  | byt b => obtain ⟨t, e⟩ := (show ∃ t, u = Value.bytes b t from r); cases e; rfl
  | flt b => obtain ⟨t, e⟩ := (show ∃ t, u = Value.float b t from r); cases e; rfl
  | ref a => cases (show u = Value.ref a from r); rfl
  | ty n => cases (show u = Value.type n from r); rfl

section
variable {P : Program} {w : World} {H H' : Hp} {h h' : Heap} {a C dx : Addr} {fs fs' : List (Str × V)}
theorem ins_get (hok : HOk P w H h) (e : H a = some (.ins C dx fs)) : ∃ mA, ObjM h a dx C mA ∧ (∀ f, RelO (fs.lookup f) (mA f)) ∧ PySem.Within mA (fs.map (·.1)) ∧ fs.length ≤ 1000 ∧ H dx = some (.own a) := by
  obtain ⟨d, z, ne, ob, mA, n, r, q⟩ := (show ObjOk P w H h a (.ins C dx fs) from hok a _ e)
  exact ⟨mA, ⟨ob, n, ne⟩, r, q, z, d⟩
end

/-! ### what of the text a class must have -/
structure Cls (K : PySem.W.Frag) (C : Addr) : Prop where
  pg : PySem.W.plainGet K C Str.empty = true
  hd : PySem.W.hasDictIn K C = true
  po : PySem.W.plainOver K C = true
  sa : PySem.W.findIn K (.ref C) "__setattr__" = some (some (.builtin "object.__setattr__"))
theorem Cls.get {K : PySem.W.Frag} {C : Addr} (c : Cls K C) (f : Str) : PySem.W.plainGet K C f = true := c.pg
/-- no class of it has the name -/
def NoAttr (K : PySem.W.Frag) (C : Addr) (f : Str) : Prop := PySem.W.findIn K (.ref C) f = some none
theorem NoAttr.taker {K : PySem.W.Frag} {C : Addr} {f : Str} (n : NoAttr K C f) : PySem.W.takerIn K C f = some none := by
  unfold PySem.W.takerIn
  rw [show PySem.W.findIn K (.ref C) f = some none from n]
  rfl
/-- a constant of the class -/
structure Con (K : PySem.W.Frag) (C : Addr) (f : Str) (v : V) (u : Value) : Prop where
  at_ : PySem.W.findIn K (.ref C) f = some (some u)
  rel : RelV v u
  get : PySem.W.specialIn K u "__get__" = some none
  cp : PySem.W.copiedNames.contains f = false
/-- a method: a plain def of the class or of one above it -/
structure Meth (K : PySem.W.Frag) (C : Addr) (m : Str) (f : Addr) : Prop where
  at_ : PySem.W.findIn K (.ref C) m = some (some (.ref f))
  fn : PySem.W.isFn K (.ref f) = true
  kp : PySem.W.keepIn K (.ref f) = true

section
variable {X : Cx} {pins : List (Addr × Obj)} {σ : St} {H : Hp} {s : Shared} {a C dx : Addr} {fs : List (Str × V)} {f : Str} {v : V} {A : Around} {E : Value → Shared → Prop}

theorem getattr_ok {b : Bool} {Q : Value → Shared → Prop} (I : Inv X pins σ H s) (e : H a = some (.ins C dx fs)) (c : Cls X.K C) (n : NoAttr X.K C f) (l : fs.lookup f = some v)
    (h : ∀ u s', Inv X pins σ H s' → RelV v u → Q u s') : wpAny (model X.prog X.w) A (getAttr (.ref a) f b) Q E s := by
  obtain ⟨mA, O, r, _, _, _⟩ := ins_get I.hok e
  obtain ⟨u, hu, ru⟩ := RelO.some_of (v := v) (o := mA f) (by rw [← l]; exact r f)
  exact get_map I.kIn O (c.get f) c.hd n hu (handed_of ru) (h u _ (I.tok _) ru)

theorem getcon_ok {b : Bool} {u : Value} {Q : Value → Shared → Prop} (I : Inv X pins σ H s) (e : H a = some (.ins C dx fs)) (c : Cls X.K C) (k : Con X.K C f v u) (l : fs.lookup f = none)
    (h : ∀ s', Inv X pins σ H s' → Q u s') : wpAny (model X.prog X.w) A (getAttr (.ref a) f b) Q E s := by
  obtain ⟨mA, O, r, _, _, _⟩ := ins_get I.hok e
  have hn : mA f = none := RelO.none_of (by rw [← l]; exact r f)
  exact get_const I.kIn O (c.get f) c.hd k.at_ k.get k.cp hn (handed_of k.rel) (h _ (I.tok _))

theorem getmeth_ok {m : Str} {g : Addr} {pl : Sem Bool} {Q : Value × List Value → Shared → Prop} (I : Inv X pins σ H s) (e : H a = some (.ins C dx fs)) (c : Cls X.K C) (k : Meth X.K C m g) (l : fs.lookup m = none)
    (h : Q (.ref g, [.ref a]) s) : wpAny (model X.prog X.w) A (getMethod (.ref a) m pl) Q E s := by
  obtain ⟨mA, O, r, _, _, _⟩ := ins_get I.hok e
  have hn : mA m = none := RelO.none_of (by rw [← l]; exact r m)
  exact get_meth I.kIn O (c.get m) k.at_ k.fn hn h

theorem setattr_ok {y : V} {u : Value} {Q : Unit → Shared → Prop} (I : Inv X pins σ H s) (e : H a = some (.ins C dx fs)) (c : Cls X.K C) (n : NoAttr X.K C f) (hl : fs.length < 1000) (ry : RelV y u)
    (h : ∀ s', Inv X pins σ (upd H a (.ins C dx (putF f y fs))) s' → Q () s') : wpAny (model X.prog X.w) A (setAttr (.ref a) f u) Q E s := by
  obtain ⟨mA, O, r, wi, _, ho⟩ := ins_get I.hok e
  have hz : (fs.map (·.1)).length ≤ sizeLine := by rw [List.length_map, sizeLine_eq]; omega
  refine set_map I.kIn O c.sa c.po n.taker c.hd wi hz fun h' O' sb => h _ ?_
  have hd : ∃ o, h'.get? dx = some o := let ⟨o, _, _, e', _⟩ := O'.ns; ⟨o, e'⟩
  refine I.write (x := a) (e := dx) (by rw [e]; exact True.intro) (.inr ho) (fun b q hb z => (sb.2 b hb).trans z) hd ?_
  refine ⟨by rw [upd_ne O.ne]; exact ho, ?_, O.ne, O'.obj, _, O'.ns, fun g => ?_, fun g hg => ?_⟩
  · have := length_putF f y fs; omega
  · show RelO ((putF f y fs).lookup g) (if g = f then some u else mA g)
    rw [lookup_putF]
    by_cases q : g = f
    · rw [if_pos q, if_pos q]; exact ry
    · rw [if_neg q, if_neg q]; exact r g
  · by_cases q : g = f
    · rw [q]; exact (keys_putF f y fs).1
    · refine (keys_putF f y fs).2 g (wi g fun z => hg ?_)
      show (if g = f then some u else mA g) = none
      rw [if_neg q]; exact z

/-- a new instance, tracked, without attributes -/
theorem Inv.made (I : Inv X pins σ H s) : Inv X pins σ (upd (upd H s.heap.objs.size (.own (s.heap.objs.size + 1))) (s.heap.objs.size + 1) (.ins C s.heap.objs.size []))
    { s with heap := (s.heap.push PySem.W.emptyDict).push (PySem.W.instObj C s.heap.objs.size) } := by
  have e1 : (s.heap.push PySem.W.emptyDict).get? s.heap.objs.size = some PySem.W.emptyDict := Heap.get?_push_size s.heap rfl
  have e2 : ((s.heap.push PySem.W.emptyDict).push (PySem.W.instObj C s.heap.objs.size)).get? (s.heap.objs.size + 1) = some (PySem.W.instObj C s.heap.objs.size) := by
    have := Heap.get?_push_size (s.heap.push PySem.W.emptyDict) (o := PySem.W.instObj C s.heap.objs.size) rfl
    rwa [Heap.size_push] at this
  have e3 : (s.heap.push PySem.W.emptyDict).Ns s.heap.objs.size (fun _ => none) := ⟨PySem.W.emptyDict, #[], _, e1, rfl, (fun e he => absurd he (by simp)), fun _ => rfl⟩
  have I1 := I.laid (a := s.heap.objs.size) (o := .own (s.heap.objs.size + 1)) (h' := s.heap.push PySem.W.emptyDict) (t' := s.toks) (fun b u q => Heap.get?_push_of_some _ q) (Nat.le_refl _) ⟨_, e1⟩
  refine I1.laid (a := s.heap.objs.size + 1) (o := .ins C s.heap.objs.size []) (t' := s.toks) (fun b u q => Heap.get?_push_of_some _ q) (Nat.le_of_eq (Heap.size_push _ _)) ?_
  have ne : s.heap.objs.size ≠ s.heap.objs.size + 1 := Nat.ne_of_lt (Nat.lt_succ_self _)
  refine ⟨by rw [upd_ne ne, upd_same], Nat.zero_le _, ne, e2, fun _ => none, (Heap.Ns1.of_empty e3).at fun o q => Heap.get?_push_of_some _ q, fun _ => True.intro, fun y hy => absurd rfl hy⟩

/-- e.f where nothing but the object is asked: through attributeBase (super) and the last hold -/
theorem attr_of {prog : Program} {w : World} {env : Env} {e : Expr} {f : Str} {pos : Pos} {s : Shared} {Q : Value → Shared → Prop} (hb : attributeBase e f env (eval e env) = eval e env)
    (h : wpAny (model prog w) A (eval e env) (fun o s₁ => wpAny (model prog w) A (getAttr o f true) Q E s₁) E s) : wpAny (model prog w) A (eval (.Attribute e f pos) env) Q E s :=
  Attribute_any_ h (by rw [arm_eval_Attribute, hb])
end

/-! ### readings and rules -/
/-- e.f, an attribute of the instance -/
def tFld (K : PySem.W.Frag) (ta : TE) (f : Str) : TE := fun σ H Q => ta σ H fun x H1 => ∃ a C dx fs v, x = .ref a ∧ H1 a = some (.ins C dx fs) ∧ Cls K C ∧ NoAttr K C f ∧ fs.lookup f = some v ∧ Q v H1
/-- e.f, a constant of the class -/
def tCon (K : PySem.W.Frag) (ta : TE) (f : Str) : TE := fun σ H Q => ta σ H fun x H1 => ∃ a C dx fs v u, x = .ref a ∧ H1 a = some (.ins C dx fs) ∧ Cls K C ∧ Con K C f v u ∧ fs.lookup f = none ∧ Q v H1
/-- e.f = value -/
def sFld (K : PySem.W.Frag) (ta tv : TE) (f : Str) : TS := fun D σ H => tv σ H fun y H1 => ta σ H1 fun x H2 => ∃ a C dx fs, x = .ref a ∧ H2 a = some (.ins C dx fs) ∧ Cls K C ∧ NoAttr K C f ∧ fs.length < 1000 ∧
  D.nx σ (upd H2 a (.ins C dx (putF f y fs)))
/-- an augmented operator on two values -/
def InOp (X : Cx) (op : Operator) (rd : V → V → Hp → VK → Prop) : Prop :=
  ∀ (pins : List (Addr × Obj)) (s : Shared) (σ : St) (H : Hp) (x y : V) (u v : Value) (Q : VK), Inv X pins σ H s → RelV x u → RelV y v → rd x y H Q → wpAny (model X.prog X.w) X.A (inplaceOp op u v) (EP X pins σ Q) X.xe s
/-- e.f op= value -/
def sFldAug (K : PySem.W.Frag) (ta tv : TE) (rd : V → V → Hp → VK → Prop) (f : Str) : TS := fun D σ H => ta σ H fun x H1 => ∃ a C dx fs v, x = .ref a ∧ H1 a = some (.ins C dx fs) ∧ Cls K C ∧ NoAttr K C f ∧ fs.lookup f = some v ∧
  tv σ H1 fun y H2 => rd v y H2 fun z H3 => ∃ dx' fs', H3 a = some (.ins C dx' fs') ∧ fs'.length < 1000 ∧ D.nx σ (upd H3 a (.ins C dx' (putF f z fs')))

section
variable {X : Cx} {o e value : Expr} {f : Str} {pos pos' tpos : Pos} {ta tv : TE}
theorem pe_fld (he : PE X e ta) (hb : attributeBase e f X.env (eval e X.env) = eval e X.env) : PE X (.Attribute e f pos) (tFld X.K ta f) := by
  intro pins s σ H Q I h
  refine attr_of hb (thn (he pins s σ H _ I h) fun u s1 ⟨x, H1, I1, rx, a, C, dx, fs, v, ex, ea, c, n, l, q⟩ => ?_)
  subst ex
  obtain rfl : u = Value.ref a := rx
  exact getattr_ok I1 ea c n l fun u' s2 I2 ru => ⟨v, H1, I2, ru, q⟩
theorem pe_con (he : PE X e ta) (hb : attributeBase e f X.env (eval e X.env) = eval e X.env) : PE X (.Attribute e f pos) (tCon X.K ta f) := by
  intro pins s σ H Q I h
  refine attr_of hb (thn (he pins s σ H _ I h) fun u s1 ⟨x, H1, I1, rx, a, C, dx, fs, v, u0, ex, ea, c, k, l, q⟩ => ?_)
  subst ex
  obtain rfl : u = Value.ref a := rx
  exact getcon_ok I1 ea c k l fun s2 I2 => ⟨v, H1, I2, k.rel, q⟩
theorem ps_fld (ha : PE X o ta) (hv : PE X value tv) (hs : swapsWith value (some (.Attribute o f pos')) pos.line X.env = pure false) : PS X (.Assign [.Attribute o f pos'] value pos) (sFld X.K ta tv f) := by
  intro pins s σ H D I h
  refine plainObj_wpAny_Assign_Attribute (thn (hv pins s σ H _ I h) fun u s1 ⟨y, H1, I1, ry, q⟩ => thn (ha pins s1 σ H1 _ I1 q) fun ov s2 ⟨x, H2, I2, rx, a, C, dx, fs, ex, ea, c, n, l, q2⟩ => ?_) hs
  subst ex
  obtain rfl : ov = Value.ref a := rx
  exact setattr_ok I2 ea c n l ry fun s3 I3 => ⟨σ, _, I3, q2⟩
theorem ps_fldaug {op : Operator} {rd : V → V → Hp → VK → Prop} (ha : PE X o ta) (hv : PE X value tv) (hop : InOp X op rd) : PS X (.AugAssign (.Attribute o f tpos) op value pos) (sFldAug X.K ta tv rd f) := by
  intro pins s σ H D I h
  refine wpAny_AugAssign_AttributeAny (thn (ha pins s σ H _ I h) fun ov s1 ⟨x, H1, I1, rx, a, C, dx, fs, v, ex, ea, c, n, l, q⟩ => ?_)
  subst ex
  obtain rfl : ov = Value.ref a := rx
  refine getattr_ok I1 ea c n l fun u s2 I2 ru => thn (hv pins s2 σ H1 _ I2 q) fun w3 s3 ⟨y, H2, I3, ry, q3⟩ => thn (hop pins s3 σ H2 v y u w3 _ I3 ru ry q3) fun w4 s4 ⟨z, H3, I4, rz, dx', fs', ea', l', q4⟩ => ?_
  exact setattr_ok I4 ea' c n l' rz fun s5 I5 => ⟨σ, _, I5, q4⟩
def rAdd : V → V → Hp → VK → Prop := fun x y H Q => ∃ i j, x = .int i ∧ y = .int j ∧ Q (.int (i + j)) H
def rSub : V → V → Hp → VK → Prop := fun x y H Q => ∃ i j, x = .int i ∧ y = .int j ∧ Q (.int (i - j)) H
theorem in_add : InOp X .Add rAdd := by
  rintro pins s σ H x y u v Q I rx ry ⟨i, j, rfl, rfl, q⟩
  obtain ⟨t, rfl⟩ := (show ∃ t, u = Value.int i t from rx)
  obtain ⟨t', rfl⟩ := (show ∃ t', v = Value.int j t' from ry)
  exact PyProof.Rows.iadd_int ⟨.int (i + j), H, I.tok _, ⟨_, rfl⟩, q⟩
theorem in_sub : InOp X .Sub rSub := by
  rintro pins s σ H x y u v Q I rx ry ⟨i, j, rfl, rfl, q⟩
  obtain ⟨t, rfl⟩ := (show ∃ t, u = Value.int i t from rx)
  obtain ⟨t', rfl⟩ := (show ∃ t', v = Value.int j t' from ry)
  exact PyProof.Rows.isub_int ⟨.int (i - j), H, I.tok _, ⟨_, rfl⟩, q⟩

/-- what is between an instance and its method: the tree of a method call -/
theorem methcall_of {pl : Sem Bool} {m : Str} {apos : Pos} {args : List Expr} {pins : List (Addr × Obj)} {s : Shared} {σ : St} {H : Hp} {Q : Value → Shared → Prop} {te : TE} (he : PE X e te) (I : Inv X pins σ H s)
    (h : te σ H fun x H1 => ∃ a C dx fs g, x = .ref a ∧ H1 a = some (.ins C dx fs) ∧ Cls X.K C ∧ Meth X.K C m g ∧ fs.lookup m = none ∧
      ∀ s1, Inv X pins σ H1 s1 → wpAny (model X.prog X.w) X.A (callWith pos (.ref g) [.ref a] (backTo pos (starEach args X.env)) (backToKw pos (keywordEach [] X.env))) Q X.xe s1)
    (ht : eval (.Call (.Attribute e m apos) args [] pos) X.env = (do
      let ov ← eval e X.env
      standAt apos.atName
      let (f, first) ← holding [ov] (getMethod ov m pl)
      callWith pos f first (backTo pos (starEach args X.env)) (backToKw pos (keywordEach [] X.env)))) :
    wpAny (model X.prog X.w) X.A (eval (.Call (.Attribute e m apos) args [] pos) X.env) Q X.xe s := by
  refine PySem.W.methodCall_KW (pl := pl) (thn (he pins s σ H _ I h) fun u s1 ⟨x, H1, I1, rx, a, C, dx, fs, g, ex, ea, c, k, l, q⟩ => ?_) ht
  subst ex
  obtain rfl : u = Value.ref a := rx
  exact getmeth_ok I1 ea c k l (q s1 I1)
end

/-! ### isinstance -/
section
variable {X : Cx} {pins : List (Addr × Obj)} {σ : St} {H : Hp} {s : Shared} {A : Around} {E : Value → Shared → Prop} {Q : Value → Shared → Prop} {c : Value} {b : Bool}
/-- the type of a value, as the fragment's deciders take it; for an instance its class -/
inductive TyOf (K : PySem.W.Frag) (H : Hp) : V → Value → Prop where
  | non : TyOf K H .non (.type "NoneType")
  | bl (x : Bool) : TyOf K H (.bl x) (.type "bool")
  | int (i : Int) : TyOf K H (.int i) (.type "int")
  | str (x : Str) : TyOf K H (.str x) (.type "str")
  | flt (x : UInt64) : TyOf K H (.flt x) (.type "float")
  | lst {a : Addr} {xs : List V} (e : H a = some (.lst xs)) : TyOf K H (.ref a) (.type "list")
  | frz {a : Addr} {o : Obj} {xs : List V} (e : H a = some (.frz o (.lst xs))) : TyOf K H (.ref a) (.type "list")
  | tup {a : Addr} {xs : List V} (e : H a = some (.tup xs)) : TyOf K H (.ref a) (.type "tuple")
  | dK {a : Addr} {kvs : List (Key × V)} (e : H a = some (.dK kvs)) : TyOf K H (.ref a) (.type "dict")
  | dT {a : Addr} {kvs : List (List Key × V)} (e : H a = some (.dT kvs)) : TyOf K H (.ref a) (.type "dict")
  | ins {a C dx : Addr} {fs : List (Str × V)} (e : H a = some (.ins C dx fs)) (cl : Cls K C) (ha : PySem.W.findIn K (.ref C) "__class__" = some (some (.builtin "object.__class__")))
      (hn : PySem.W.specialIn K (.builtin "object.__class__") "__get__" = some (some (.builtin "getset_descriptor.__get__"))) (htk : PySem.W.takesIn K (.builtin "object.__class__") = some true)
      (hm : PySem.W.mroIn K C (.type "object") = some true) : TyOf K H (.ref a) (.ref C)
/-- isinstance(x, c) for one class c, a built-in or an own one: kitOne's answer -/
theorem isinst_ok {x : V} {u t : Value} (I : Inv X pins σ H s) (rx : RelV x u) (ty : TyOf X.K H x t) (e : PySem.W.kitOne X.K t c = some b) (h : ∀ tk, Q (.bool b) { s with toks := tk }) :
    wpAny (model X.prog X.w) A (call (.builtin "isinstance") [u, c]) Q E s := by
  cases ty with
  | non => cases (show u = Value.none from rx); exact PySem.W.kia_one PySem.W.kitx_none I.kIn True.intro e (fun z => nomatch z) h
  | bl y => cases (show u = Value.bool y from rx); exact PySem.W.kia_one PySem.W.kitx_bool I.kIn True.intro e (fun z => nomatch z) h
  | int i => obtain ⟨t, q⟩ := (show ∃ t, u = Value.int i t from rx); cases q; exact PySem.W.kia_one PySem.W.kitx_int I.kIn True.intro e (fun z => nomatch z) h
  | str y => obtain ⟨t, q⟩ := (show ∃ t, u = Value.str y t from rx); cases q; exact PySem.W.kia_one PySem.W.kitx_str I.kIn True.intro e (fun z => nomatch z) h
  | flt y => obtain ⟨t, q⟩ := (show ∃ t, u = Value.float y t from rx); cases q; exact PySem.W.kia_one PySem.W.kitx_float I.kIn True.intro e (fun z => nomatch z) h
  | @lst a xs ea =>
    cases (show u = Value.ref a from rx)
    obtain ⟨_, _, n, _, h1⟩ := (show ObjOk X.prog X.w H s.heap a (.lst xs) from I.hok a _ ea)
    exact PySem.W.kia_one PySem.W.kitx_list I.kIn ⟨_, h1, rfl⟩ e (fun z => nomatch z) h
  | @frz a ob xs ea =>
    cases (show u = Value.ref a from rx)
    obtain ⟨_, _, _, n, _, h1⟩ := (show ObjOk X.prog X.w H s.heap a (.frz ob (.lst xs)) from I.hok a _ ea)
    exact PySem.W.kia_one PySem.W.kitx_list I.kIn ⟨_, h1, rfl⟩ e (fun z => nomatch z) h
  | @tup a xs ea =>
    cases (show u = Value.ref a from rx)
    obtain ⟨_, _, _, p⟩ := (show ObjOk X.prog X.w H s.heap a (.tup xs) from I.hok a _ ea)
    obtain ⟨o, h1, h2, _⟩ := p
    exact PySem.W.kia_one PySem.W.kitx_tuple I.kIn ⟨o, h1, h2⟩ e (fun z => nomatch z) h
  | @dK a kvs ea =>
    cases (show u = Value.ref a from rx)
    obtain ⟨_, _, vs, _, p⟩ := (show ObjOk X.prog X.w H s.heap a (.dK kvs) from I.hok a _ ea)
    obtain ⟨o, es, ep, h1, h2, _⟩ := p
    exact PySem.W.kia_one PySem.W.kitx_dict I.kIn ⟨o, h1, h2.1⟩ e (fun z => nomatch z) h
  | @dT a kvs ea =>
    cases (show u = Value.ref a from rx)
    obtain ⟨_, _, xs, _, o, es, ep, h1, h2, _⟩ := (show ObjOk X.prog X.w H s.heap a (.dT kvs) from I.hok a _ ea)
    exact PySem.W.kia_one PySem.W.kitx_dict I.kIn ⟨o, h1, h2.1⟩ e (fun z => nomatch z) h
  | @ins a C dx fs ea cl ha hn htk hm =>
    cases (show u = Value.ref a from rx)
    obtain ⟨mA, O, _⟩ := ins_get I.hok ea
    obtain ⟨od, J, _⟩ := O.look
    exact PySem.W.kia_one (PySem.W.kitx_own (cl.get _) cl.hd ha hn htk hm) I.kIn J e (fun z => nomatch z) h
end
end L2

namespace L2
open PySem PySem.Spec PyProof.Rows

/-! ### room -/
structure Room (k : Nat) (A : Around) : Prop where
  hd : A.handled = none
  dp : A.depth + 3 * k + 5 < recursionLimit
  un : A.units + 16 * k + 200 < cLine
theorem Room.mono {j k : Nat} {A : Around} (r : Room k A) (h : j ≤ k) : Room j A := ⟨r.hd, by have := r.dp; omega, by have := r.un; omega⟩
theorem Room.deeper {k : Nat} {A : Around} (r : Room (k + 1) A) (env : Env) : Room k (A.deeper env) :=
  ⟨r.hd, by have := r.dp; show A.depth + 1 + 3 * k + 5 < _; omega, by have := r.un; show A.units + 3 + 16 * k + 200 < _; omega⟩
theorem Room.in1 {k : Nat} {A : Around} (r : Room (k + 1) A) : Room k A.in1 :=
  ⟨r.hd, by have := r.dp; show A.depth + 3 * k + 5 < _; omega, by have := r.un; show A.units + 1 + 16 * k + 200 < _; omega⟩
theorem make_depth {A : Around} {C : Addr} {us : List Value} {kw : List (Str × Value)} : (A.under (.builtin "type.__call__" ⟨.ref C :: us, kw⟩)).depth = A.depth + 1 := by
  first | rfl | simp [Around.under, Code.weight, Code.isCreation, Code.isGuard, Code.isCaller, Code.frames, Code.isFrame, guardIds]
theorem make_units {A : Around} {C : Addr} {us : List Value} {kw : List (Str × Value)} : (A.under (.builtin "type.__call__" ⟨.ref C :: us, kw⟩)).units = A.units + 1 := by
  first | rfl | simp [Around.under, Code.cUnits, Code.frames, Code.isFrame]
theorem Room.make {k : Nat} {A : Around} (r : Room (k + 1) A) (C : Addr) (us : List Value) (kw : List (Str × Value)) : Room k (A.under (.builtin "type.__call__" ⟨.ref C :: us, kw⟩)) :=
  ⟨r.hd, by have := r.dp; rw [make_depth]; omega, by have := r.un; rw [make_units]; omega⟩
theorem Room.depth {k : Nat} {A : Around} (r : Room k A) : A.depth < recursionLimit := by have := r.dp; omega
theorem Room.units {k : Nat} {A : Around} (r : Room k A) : A.units + 64 < cLine := by have := r.un; omega
theorem Room.units0 {k : Nat} {A : Around} (r : Room k A) : A.units < cLine := by have := r.un; omega

/-! ### argument lists and displays -/
def tNil : TA := fun _ H Q => Q [] H
def tCons (ta : TE) (tr : TA) : TA := fun σ H Q => ta σ H fun x H1 => tr σ H1 fun xs H2 => Q (x :: xs) H2
section
variable {X : Cx} {e : Expr} {es : List Expr} {te : TE} {t : TA} {pos : Pos}
theorem pa_nil : PA X [] tNil := fun _ _ _ _ H Q I h => Calls.spliced_nil ⟨[], H, I, .nil, h⟩
theorem pa_cons (ha : PE X e te) (hr : PA X es t) (hs : starEach (e :: es) X.env = (false, eval e X.env) :: starEach es X.env := by rfl) : PA X (e :: es) (tCons te t) := by
  intro pos pins s σ H Q I h
  rw [hs]
  show wpAny _ _ (spliced ((false, eval e X.env) :: backTo pos (starEach es X.env))) _ _ s
  refine Calls.spliced_cons (thn (ha pins s σ H _ I h) fun u s1 ⟨x, H1, I1, r1, q1⟩ => ?_)
  exact thn (hr pos pins s1 σ H1 _ I1 q1) fun us s2 ⟨xs, H2, I2, r2, q2⟩ => ⟨x :: xs, H2, I2, .cons r1 r2, q2⟩

/-- a tuple, a list of written items -/
def tTup (t : TA) : TE := fun σ H Q => t σ H fun xs H1 => xs.length ≤ sizeLine ∧ ∀ p, H1 p = none → Q (.ref p) (upd H1 p (.tup xs))
def tLst (t : TA) : TE := fun σ H Q => t σ H fun xs H1 => xs.length ≤ sizeLine ∧ ∀ p, H1 p = none → Q (.ref p) (upd H1 p (.lst xs))
theorem pe_tup {x1} (h : PA X es t) : PE X (.Tuple es x1 pos) (tTup t) := by
  intro pins s σ H Q I hq
  refine wpAny_Tuple_spliced (thn (h pos pins s σ H _ I hq) fun us s1 ⟨xs, H1, I1, r, z, q⟩ => ⟨by rw [← r.length]; exact z, ?_⟩)
  have hf : H1 s1.heap.objs.size = none := I1.hok.fresh (Nat.le_refl _)
  refine ⟨.ref s1.heap.objs.size, upd H1 s1.heap.objs.size (.tup xs), I1.laid (t' := s1.toks) (fun b u e => Heap.get?_push_of_some _ e) (Nat.le_refl _) ?_, rfl, q _ hf⟩
  exact ⟨z, us, r, ⟨_, Heap.get?_push_size _ rfl, rfl, _, rfl⟩⟩
theorem pe_lst (h : PA X es t) : PE X (.List es pos) (tLst t) := by
  intro pins s σ H Q I hq
  refine wpAny_List_spliced (thn (h pos pins s σ H _ I hq) fun us s1 ⟨xs, H1, I1, r, z, q⟩ => ⟨by rw [← r.length]; exact z, ?_⟩)
  have hf : H1 s1.heap.objs.size = none := I1.hok.fresh (Nat.le_refl _)
  refine ⟨.ref s1.heap.objs.size, upd H1 s1.heap.objs.size (.lst xs), I1.laid (t' := s1.toks) (fun b u e => Heap.get?_push_of_some _ e) (Nat.le_refl _) ?_, rfl, q _ hf⟩
  exact ⟨z, us, 0, r, Heap.get?_push_size _ rfl⟩
end

/-! ### what a def promises -/
/-- a def's promise: the bound arguments in the parameters' order, the heap, the wanted end, the wanted exception -/
abbrev Sp := List V → Hp → VK → XK → Prop
/-- how an exception lies behind a call (file 08 gives it): the callers' frames, abstract heap and state ahead of the call, the wish, the exception, the state -/
abbrev CXT := List Env → Hp → Shared → XK → Value → Shared → Prop

/-- the state at a call -/
structure Env0 (P : Program) (w : World) (K : PySem.W.Frag) (mg : Str → Option Value) (base : Heap) (A : Around) (outer : List Env) (s : Shared) (H : Hp) : Prop where
  frames : A.frames = some outer
  mod : Mod K mg base
  bs : ∀ b o, base.get? b = some o → s.heap.get? b = some o ∧ H b = none
  bsz : base.objs.size ≤ s.heap.objs.size
  funs : s.heap.FunFrames base outer
  frf : ∀ b ∈ frs outer, H b = none
  hok : HOk P w H s.heap
  bare : AllBare s.gens
/-- a call's end -/
def CE (outer : List Env) (P : Program) (w : World) (H : Hp) (s : Shared) (Q : VK) (u : Value) (s' : Shared) : Prop :=
  ∃ v H', s'.os = s.os ∧ AllBare s'.gens ∧ Un (frs outer) [] H H' s.heap s'.heap ∧ HOk P w H' s'.heap ∧ RelV v u ∧ Q v H'
def CR (CX : CXT) (outer : List Env) (P : Program) (w : World) (H : Hp) (s : Shared) (Q : VK) (E : XK) (r : Result) (s' : Shared) : Prop :=
  match r with
  | .ok (.ret u) => CE outer P w H s Q u s'
  | .ok _ => False
  | .error e => CX outer H s E e s'
structure FnOk (P : Program) (w : World) (K : PySem.W.Frag) (mg : Str → Option Value) (base : Heap) (CX : CXT) (k : Nat) (f : Addr) (fd : FuncData) (ps : List Str) (sp : Sp) : Prop where
  len : ∀ vs H Q E, sp vs H Q E → vs.length = ps.length
  run : ∀ (A : Around) (outer : List Env) (s : Shared) (H : Hp) (args : Args) (us : List Value) (vs : List V) (Q : VK) (E : XK), Room k A → Env0 P w K mg base A outer s H → BindsTo s fd args (ps.zip us) → Vals vs us → sp vs H Q E →
    codeAny (model P w) A (.call (.ref f) args) (CR CX outer P w H s Q E) s
theorem FnOk.mono {P : Program} {w : World} {K : PySem.W.Frag} {mg : Str → Option Value} {base : Heap} {CX : CXT} {j k : Nat} {f : Addr} {fd : FuncData} {ps : List Str} {sp : Sp} (F : FnOk P w K mg base CX j f fd ps sp) (h : j ≤ k) :
    FnOk P w K mg base CX k f fd ps sp := ⟨F.len, fun A outer s H args us vs Q E hr => F.run A outer s H args us vs Q E (hr.mono h)⟩
/-- a weaker promise -/
theorem FnOk.imp {P : Program} {w : World} {K : PySem.W.Frag} {mg : Str → Option Value} {base : Heap} {CX : CXT} {k : Nat} {f : Addr} {fd : FuncData} {ps : List Str} {sp sp' : Sp} (F : FnOk P w K mg base CX k f fd ps sp)
    (h : ∀ vs H Q E, sp' vs H Q E → sp vs H Q E) : FnOk P w K mg base CX k f fd ps sp' :=
  ⟨fun vs H Q E q => F.len vs H Q E (h _ _ _ _ q), fun A outer s H args us vs Q E hr he hb hv hs => F.run A outer s H args us vs Q E hr he hb hv (h _ _ _ _ hs)⟩

theorem Env0.make {P : Program} {w : World} {K : PySem.W.Frag} {mg : Str → Option Value} {base : Heap} {A : Around} {outer : List Env} {s : Shared} {H : Hp} (e : Env0 P w K mg base A outer s H) (C : Addr) (us : List Value) (kw : List (Str × Value)) :
    Env0 P w K mg base (A.under (.builtin "type.__call__" ⟨.ref C :: us, kw⟩)) outer s H := ⟨by first | exact e.frames | (simpa [Around.under, Code.envs, Code.isFrame, pushEnvs] using e.frames), e.mod, e.bs, e.bsz, e.funs, e.frf, e.hok, e.bare⟩
theorem Env0.in1 {P : Program} {w : World} {K : PySem.W.Frag} {mg : Str → Option Value} {base : Heap} {A : Around} {outer : List Env} {s : Shared} {H : Hp} (e : Env0 P w K mg base A outer s H) :
    Env0 P w K mg base A.in1 outer s H := ⟨e.frames, e.mod, e.bs, e.bsz, e.funs, e.frf, e.hok, e.bare⟩

section
variable {X : Cx} {pins : List (Addr × Obj)} {σ : St} {H : Hp} {s s' : Shared}
/-- from a body: what a callee wants -/
theorem Inv.env0 (I : Inv X pins σ H s) : Env0 X.prog X.w X.K X.mg X.base X.A X.stack s H :=
  ⟨I.ok.frames, I.ok.mod, I.bs, Nat.le_trans I.ok.bsz I.sz, I.stack, I.stkFree, I.hok, I.bare⟩
/-- behind a call -/
theorem Inv.after {Q : VK} {u : Value} (I : Inv X pins σ H s) (h : CE X.stack X.prog X.w H s Q u s') : EP X pins σ Q u s' := by
  obtain ⟨v, H', os, bare, un, hok, r, q⟩ := h
  obtain ⟨hh, g, d, t, os'⟩ := s'
  obtain rfl : os' = s.os := os
  exact ⟨v, H', I.call (h' := hh) (g' := g) (d' := d) (t' := t) (ch := []) un hok bare (fun b z => absurd z (by simp)), r, q⟩
end

/-! ### calls -/
/-- f(..): the written arguments, then the defaults dvs; E: what is wanted of an exception -/
def tCall (sp : Sp) (dvs : List V) (E : XK) (t : TA) : TE := fun σ H Q => t σ H fun vs H1 => sp (vs ++ dvs) H1 Q E
/-- o.m(..) of an instance of the class at C -/
def tMeth (C : Addr) (m : Str) (sp : Sp) (dvs : List V) (E : XK) (ta : TE) (t : TA) : TE := fun σ H Q => ta σ H fun x H1 => ∃ a dx fs, x = .ref a ∧ H1 a = some (.ins C dx fs) ∧ fs.lookup m = none ∧
  t σ H1 fun vs H2 => sp (x :: (vs ++ dvs)) H2 Q E
/-- C(..): a new instance and its dict, then __init__ -/
def tMake (C : Addr) (sp : Sp) (dvs : List V) (E : XK) (t : TA) : TE := fun σ H Q => t σ H fun vs H1 => ∀ x dx, H1 x = none → H1 dx = none → dx ≠ x →
  sp (.ref x :: (vs ++ dvs)) (upd (upd H1 dx (.own x)) x (.ins C dx [])) (fun v H2 => v = .non ∧ Q (.ref x) H2) E

/-- how the parameters are bound: us the positional arguments, kw the keywords' values by name, ds the defaults that fill up -/
def Binds (K : PySem.W.Frag) (fd : FuncData) (ps : List Str) (ds : List Value) : Prop :=
  ∀ (s : Shared) (us : List Value), K.In s.heap → (us ++ ds).length = ps.length → BindsTo s fd ⟨us, []⟩ (ps.zip (us ++ ds))
/-- every parameter is given -/
theorem Binds.all {K : PySem.W.Frag} {fd : FuncData} {ps : List Str} (h : ∀ us : List Value, us.length = ps.length → bindArgs fd ⟨us, []⟩ = pure (ps.zip us)) : Binds K fd ps [] := fun s us _ hl => by
  rw [List.append_nil] at hl ⊢
  exact .of_eq (h us hl)

/-- an exception of a callee reaches what this body wants of exceptions -/
def Passes (CX : CXT) (X : Cx) (E : XK) : Prop := ∀ (pins : List (Addr × Obj)) (σ : St) (H : Hp) (s : Shared) (e : Value) (s' : Shared), Inv X pins σ H s → CX X.stack H s E e s' → X.xe e s'

section
variable {X : Cx} {CX : CXT} {k : Nat} {f C : Addr} {fd : FuncData} {ps : List Str} {sp : Sp} {dvs : List V} {ds : List Value} {E : XK} {x m : Str} {p pos apos : Pos} {e o : Expr} {es : List Expr} {ta : TE} {t : TA}

/-- the callee runs -/
theorem run_fn {pins : List (Addr × Obj)} {σ : St} {H : Hp} {s : Shared} {Q : VK} {us : List Value} {vs : List V} (F : FnOk X.prog X.w X.K X.mg X.base CX k f fd ps sp) (hr : Room k X.A) (hb : Binds X.K fd ps ds) (hd : Vals dvs ds) (hx : Passes CX X E)
    (I : Inv X pins σ H s) (r : Vals vs us) (h : sp (vs ++ dvs) H Q E) : wpAny (model X.prog X.w) X.A (call (.ref f) us) (EP X pins σ Q) X.xe s := by
  have r2 : Vals (vs ++ dvs) (us ++ ds) := r.append hd
  have hl : (us ++ ds).length = ps.length := by rw [← r2.length]; exact F.len _ _ _ _ h
  refine wpAny_call (codeAny_mono (F.run X.A X.stack s H ⟨us, []⟩ (us ++ ds) (vs ++ dvs) Q E hr I.env0 (hb s us I.kIn hl) r2 h) fun r s' hq => ?_)
  cases r with
  | error e => exact hx pins σ H s e s' I hq
  | ok fl =>
    cases fl with
    | ret u => exact I.after hq
    | next => exact False.elim hq
    | brk => exact False.elim hq
    | cont => exact False.elim hq

theorem pe_call (F : FnOk X.prog X.w X.K X.mg X.base CX k f fd ps sp) (hr : Room k X.A) (hg : Gl X x) (hm : X.mg x = some (.ref f)) (hk : PySem.W.keepIn X.K (.ref f) = true) (hb : Binds X.K fd ps ds) (hd : Vals dvs ds) (hx : Passes CX X E)
    (ha : PA X (e :: es) t) (hdb : (x == ("__debug__" : Str)) = false := by decide) (he : starEach (e :: es) X.env = (false, eval e X.env) :: starEach es X.env := by rfl) (hpl : (backTo pos (starEach es X.env)).any (·.1) = false := by rfl) :
    PE X (.Call (.Name x p) (e :: es) [] pos) (tCall sp dvs E t) := by
  intro pins s σ H Q I h
  refine wpAny_Call_Name_kw (ld_glob I hg hm ?_ hdb)
  refine PySem.W.callWith_K (h₀ := X.base) I.ok.mod.kin hk (thn (ha pos pins s σ H _ I h) fun us s1 ⟨vs, H1, I1, r, q⟩ => ⟨I1.kIn, ?_⟩) he hpl
  exact run_fn F hr hb hd hx I1 r q
theorem pe_call0 (F : FnOk X.prog X.w X.K X.mg X.base CX k f fd ps sp) (hr : Room k X.A) (hg : Gl X x) (hm : X.mg x = some (.ref f)) (hk : PySem.W.keepIn X.K (.ref f) = true) (hb : Binds X.K fd ps ds) (hd : Vals dvs ds) (hx : Passes CX X E)
    (hdb : (x == ("__debug__" : Str)) = false := by decide) : PE X (.Call (.Name x p) [] [] pos) (tCall sp dvs E tNil) := by
  intro pins s σ H Q I h
  refine wpAny_Call_Name_kw (ld_glob I hg hm ?_ hdb)
  exact PySem.W.callWith_K0 I.kIn hk (run_fn (us := []) F hr hb hd hx I .nil h)

/-- o.m(e, ..) -/
theorem pe_meth {pl : Sem Bool} (he : PE X o ta) (c : Cls X.K C) (hm : Meth X.K C m f) (F : FnOk X.prog X.w X.K X.mg X.base CX k f fd ps sp) (hr : Room k X.A) (hb : Binds X.K fd ps ds) (hd : Vals dvs ds) (hx : Passes CX X E) (ha : PA X (e :: es) t)
    (hst : starEach (e :: es) X.env = (false, eval e X.env) :: starEach es X.env := by rfl) (hpl : (backTo pos (starEach es X.env)).any (·.1) = false := by rfl)
    (ht : eval (.Call (.Attribute o m apos) (e :: es) [] pos) X.env = (do
      let ov ← eval o X.env
      standAt apos.atName
      let (f, first) ← holding [ov] (getMethod ov m pl)
      callWith pos f first (backTo pos (starEach (e :: es) X.env)) (backToKw pos (keywordEach [] X.env))) := by rfl) :
    PE X (.Call (.Attribute o m apos) (e :: es) [] pos) (tMeth C m sp dvs E ta t) := by
  intro pins s σ H Q I h
  refine PySem.W.methodCall_KW (pl := pl) (thn (he pins s σ H _ I h) fun u s1 ⟨x, H1, I1, rx, a, dx, fs, ex, ea, l, q⟩ => ?_) ht
  subst ex
  obtain rfl : u = Value.ref a := rx
  refine getmeth_ok I1 ea c hm l ?_
  refine PySem.W.callWith_K (first := [.ref a]) (h₀ := X.base) I.ok.mod.kin hm.kp (thn (ha pos pins s1 σ H1 _ I1 q) fun us s2 ⟨vs, H2, I2, r, q2⟩ => ⟨I2.kIn, ?_⟩) hst hpl
  exact run_fn (us := .ref a :: us) (vs := .ref a :: vs) F hr hb hd hx I2 (.cons rfl r) q2
/-- o.m() -/
theorem pe_meth0 {pl : Sem Bool} (he : PE X o ta) (c : Cls X.K C) (hm : Meth X.K C m f) (F : FnOk X.prog X.w X.K X.mg X.base CX k f fd ps sp) (hr : Room k X.A) (hb : Binds X.K fd ps ds) (hd : Vals dvs ds) (hx : Passes CX X E)
    (ht : eval (.Call (.Attribute o m apos) [] [] pos) X.env = (do
      let ov ← eval o X.env
      standAt apos.atName
      let (f, first) ← holding [ov] (getMethod ov m pl)
      callWith pos f first (backTo pos (starEach [] X.env)) (backToKw pos (keywordEach [] X.env))) := by rfl) :
    PE X (.Call (.Attribute o m apos) [] [] pos) (tMeth C m sp dvs E ta tNil) := by
  intro pins s σ H Q I h
  refine PySem.W.methodCall_KW (pl := pl) (thn (he pins s σ H _ I h) fun u s1 ⟨x, H1, I1, rx, a, dx, fs, ex, ea, l, q⟩ => ?_) ht
  subst ex
  obtain rfl : u = Value.ref a := rx
  refine getmeth_ok I1 ea c hm l ?_
  exact PySem.W.callWith_K0 (first := [.ref a]) I1.kIn hm.kp (run_fn (us := [.ref a]) (vs := [.ref a]) F hr hb hd hx I1 (.cons rfl .nil) q)

/-- what a class must have to be made -/
structure Mk (K : PySem.W.Frag) (C f : Addr) : Prop where
  makes : PySem.W.makesIn K C = true
  init : PySem.W.findIn K (.ref C) "__init__" = some (some (.ref f))
  fn : PySem.W.isFn K (.ref f) = true
  kp : PySem.W.keepIn K (.ref C) = true

theorem run_make {pins : List (Addr × Obj)} {σ : St} {H : Hp} {s : Shared} {Q : VK} {us : List Value} {vs : List V} (M : Mk X.K C f) (F : FnOk X.prog X.w X.K X.mg X.base CX k f fd ps sp) (hr : Room (k + 1) X.A) (hb : Binds X.K fd ps ds) (hd : Vals dvs ds)
    (hx : Passes CX X E) (I : Inv X pins σ H s) (r : Vals vs us)
    (h : ∀ x dx, H x = none → H dx = none → dx ≠ x → sp (.ref x :: (vs ++ dvs)) (upd (upd H dx (.own x)) x (.ins C dx [])) (fun v H2 => v = .non ∧ Q (.ref x) H2) E) :
    wpAny (model X.prog X.w) X.A (call (.ref C) us) (EP X pins σ Q) X.xe s := by
  have hq := h (s.heap.objs.size + 1) s.heap.objs.size (I.hok.fresh (Nat.le_succ _)) (I.hok.fresh (Nat.le_refl _)) (Nat.ne_of_lt (Nat.lt_succ_self _))
  have I2 := Inv.made (C := C) I
  have r2 : Vals (V.ref (s.heap.objs.size + 1) :: (vs ++ dvs)) (Value.ref (s.heap.objs.size + 1) :: (us ++ ds)) := .cons rfl (r.append hd)
  have hl : (Value.ref (s.heap.objs.size + 1) :: us ++ ds).length = ps.length := by
    have e := r2.length
    rw [F.len _ _ _ _ hq] at e
    exact e.symm
  refine wpAny_call (make_map (f := f) I.kIn M.makes M.init (beq_iff_eq.mp M.fn) (codeAny_mono (F.run _ X.stack _ _ ⟨Value.ref (s.heap.objs.size + 1) :: us, []⟩ (Value.ref (s.heap.objs.size + 1) :: (us ++ ds)) _ _ E (hr.make C us [])
    (I2.env0.make C us []) (hb _ (Value.ref (s.heap.objs.size + 1) :: us) I2.kIn hl) r2 hq) fun r s' hq' => ?_))
  cases r with
  | error e => exact hx pins σ _ _ e s' I2 hq'
  | ok fl =>
    cases fl with
    | ret u =>
      obtain ⟨v, H', I3, rv, ev, q3⟩ := I2.after hq'
      subst ev
      exact ⟨rv, ⟨V.ref (s.heap.objs.size + 1), H', I3, rfl, q3⟩⟩
    | next => exact False.elim hq'
    | brk => exact False.elim hq'
    | cont => exact False.elim hq'
theorem pe_make (M : Mk X.K C f) (F : FnOk X.prog X.w X.K X.mg X.base CX k f fd ps sp) (hr : Room (k + 1) X.A) (hg : Gl X x) (hm : X.mg x = some (.ref C)) (hb : Binds X.K fd ps ds) (hd : Vals dvs ds) (hx : Passes CX X E)
    (ha : PA X (e :: es) t) (hdb : (x == ("__debug__" : Str)) = false := by decide) (he : starEach (e :: es) X.env = (false, eval e X.env) :: starEach es X.env := by rfl) (hpl : (backTo pos (starEach es X.env)).any (·.1) = false := by rfl) :
    PE X (.Call (.Name x p) (e :: es) [] pos) (tMake C sp dvs E t) := by
  intro pins s σ H Q I h
  refine wpAny_Call_Name_kw (ld_glob I hg hm ?_ hdb)
  refine PySem.W.callWith_K (h₀ := X.base) I.ok.mod.kin M.kp (thn (ha pos pins s σ H _ I h) fun us s1 ⟨vs, H1, I1, r, q⟩ => ⟨I1.kIn, ?_⟩) he hpl
  exact run_make M F hr hb hd hx I1 r q
theorem pe_make0 (M : Mk X.K C f) (F : FnOk X.prog X.w X.K X.mg X.base CX k f fd ps sp) (hr : Room (k + 1) X.A) (hg : Gl X x) (hm : X.mg x = some (.ref C)) (hb : Binds X.K fd ps ds) (hd : Vals dvs ds) (hx : Passes CX X E)
    (hdb : (x == ("__debug__" : Str)) = false := by decide) : PE X (.Call (.Name x p) [] [] pos) (tMake C sp dvs E tNil) := by
  intro pins s σ H Q I h
  refine wpAny_Call_Name_kw (ld_glob I hg hm ?_ hdb)
  exact PySem.W.callWith_K0 I.kIn M.kp (run_make (us := []) M F hr hb hd hx I .nil h)
end

/-! ### keywords -/
/-- the values of the keywords, from the left -/
def PK (X : Cx) (kws : List Keyword) (t : TA) : Prop :=
  ∀ (pos : Pos) (pins : List (Addr × Obj)) (s : Shared) (σ : St) (H : Hp) (Q : List V → Hp → Prop), Inv X pins σ H s → t σ H Q → wpAny (model X.prog X.w) X.A (evalAll ((backToKw pos (keywordEach kws X.env)).map (·.2))) (AP X pins σ Q) X.xe s
section
variable {X : Cx} {CX : CXT} {k : Nat} {f C : Addr} {fd : FuncData} {ps ks : List Str} {sp : Sp} {E : XK} {x m : Str} {p pos apos kpos : Pos} {e o : Expr} {es : List Expr} {kws : List Keyword} {te ta : TE} {t tk : TA} {nm : Option Str}
theorem pk_nil : PK X [] tNil := fun _ _ _ _ H Q I h => wpAny_evalAll_nil ⟨[], H, I, .nil, h⟩
theorem pk_cons (ha : PE X e te) (hr : PK X kws t) : PK X (⟨nm, e, kpos⟩ :: kws) (tCons te t) := by
  intro pos pins s σ H Q I h
  show wpAny _ _ (evalAll ((do let v ← eval e X.env; standAt pos; pure v) :: (backToKw pos (keywordEach kws X.env)).map (·.2))) _ _ s
  refine wpAny_evalAll_cons (wpAny_bind (thn (ha pins s σ H _ I h) fun u s1 ⟨x, H1, I1, r1, q1⟩ => wpAny_bind (wpAny_standAt (wpAny_pure ?_))))
  exact thn (hr pos pins s1 σ H1 _ I1 q1) fun us s2 ⟨xs, H2, I2, r2, q2⟩ => ⟨x :: xs, H2, I2, .cons r1 r2, q2⟩

/-- how a call with keywords binds: g puts the positional values us and the keywords' values ws (names ks) in the parameters' order, defaults among them -/
structure KBinds (K : PySem.W.Frag) (fd : FuncData) (ps ks : List Str) (g : List Value → List Value → List Value) (gV : List V → List V → List V) : Prop where
  to : ∀ (s : Shared) (us ws : List Value), K.In s.heap → (g us ws).length = ps.length → BindsTo s fd ⟨us, ks.zip ws⟩ (ps.zip (g us ws))
  rel : ∀ {vs : List V} {us : List Value} {zs : List V} {ws : List Value}, Vals vs us → Vals zs ws → Vals (gV vs zs) (g us ws)
def tCallK (sp : Sp) (gV : List V → List V → List V) (E : XK) (t tk : TA) : TE := fun σ H Q => t σ H fun vs H1 => tk σ H1 fun zs H2 => sp (gV vs zs) H2 Q E
variable {g : List Value → List Value → List Value} {gV : List V → List V → List V}
theorem run_fnk {pins : List (Addr × Obj)} {σ : St} {H : Hp} {s : Shared} {Q : VK} {us ws : List Value} {vs zs : List V} (F : FnOk X.prog X.w X.K X.mg X.base CX k f fd ps sp) (hr : Room k X.A) (hb : KBinds X.K fd ps ks g gV) (hx : Passes CX X E)
    (I : Inv X pins σ H s) (r : Vals vs us) (rz : Vals zs ws) (h : sp (gV vs zs) H Q E) : wpAny (model X.prog X.w) X.A (call (.ref f) us (ks.zip ws)) (EP X pins σ Q) X.xe s := by
  have r2 := hb.rel r rz
  have hl : (g us ws).length = ps.length := by rw [← r2.length]; exact F.len _ _ _ _ h
  refine wpAny_call (codeAny_mono (F.run X.A X.stack s H ⟨us, ks.zip ws⟩ (g us ws) (gV vs zs) Q E hr I.env0 (hb.to s us ws I.kIn hl) r2 h) fun r s' hq => ?_)
  cases r with
  | error e => exact hx pins σ H s e s' I hq
  | ok fl =>
    cases fl with
    | ret u => exact I.after hq
    | next => exact False.elim hq
    | brk => exact False.elim hq
    | cont => exact False.elim hq
/-- f(e, .., k = v, ..) -/
theorem pe_callK (F : FnOk X.prog X.w X.K X.mg X.base CX k f fd ps sp) (hr : Room k X.A) (hg : Gl X x) (hm : X.mg x = some (.ref f)) (hk : PySem.W.keepIn X.K (.ref f) = true) (hb : KBinds X.K fd ps ks g gV) (hx : Passes CX X E)
    (ha : PA X (e :: es) t) (hkw : PK X kws tk) (hall : (backToKw pos (keywordEach kws X.env)).all (·.1.isSome) = true := by rfl) (hks : (backToKw pos (keywordEach kws X.env)).filterMap (·.1) = ks := by rfl)
    (hdb : (x == ("__debug__" : Str)) = false := by decide) (he : starEach (e :: es) X.env = (false, eval e X.env) :: starEach es X.env := by rfl)
    (hpl : ((backTo pos (starEach (e :: es) X.env)).any (·.1) || (backToKw pos (keywordEach kws X.env)).any (·.1.isNone)) = false := by rfl) :
    PE X (.Call (.Name x p) (e :: es) kws pos) (tCallK sp gV E t tk) := by
  intro pins s σ H Q I h
  refine wpAny_Call_Name_kw (ld_glob I hg hm ?_ hdb)
  refine PySem.W.callWith_KW (h₀ := X.base) I.ok.mod.kin hk hall (thn (ha pos pins s σ H _ I h) fun us s1 ⟨vs, H1, I1, r, q⟩ => ?_) hpl he
  refine thn (hkw pos pins s1 σ H1 _ I1 q) fun ws s2 ⟨zs, H2, I2, rz, q2⟩ => ⟨I2.kIn, ?_⟩
  rw [hks]
  exact run_fnk F hr hb hx I2 r rz q2
end

/-! ### a def's body keeps its promise -/
/-- names: the parameters first -/
structure FnScope (N P : List Str) (sc : Scope) : Prop where
  kind : sc.kind = .function
  co : sc.isCoroutine = false
  gen : sc.isGenerator = false
  nd : N.Nodup
  pre : N.take P.length = P
  par : ∀ x ∈ P, sc.names.lookup x = some .local ∨ sc.names.lookup x = some .cell
  nofree : ∀ y ∈ sc.names, y.2 ≠ .free

theorem bindL_out {kindOf : Str → Option NameKind} {x : Str} : ∀ {binds : List (Str × Value)} {m : Str → Option Value}, (∀ v, (x, v) ∉ binds) → bindL kindOf binds m x = m x
  | [], _, _ => rfl
  | (n, v) :: r, m, h => by
    unfold bindL
    rw [bindL_out fun w hw => h w (List.mem_cons_of_mem _ hw)]
    split
    · have : x ≠ n := by rintro rfl; exact h v List.mem_cons_self
      simp [this]
    · rfl
theorem bindC_out {kindOf : Str → Option NameKind} {x : Str} : ∀ {binds : List (Str × Value)} {m : Str → Option Value}, (∀ v, (x, v) ∉ binds) → bindC kindOf binds m x = m x
  | [], _, _ => rfl
  | (n, v) :: r, m, h => by
    unfold bindC
    rw [bindC_out fun w hw => h w (List.mem_cons_of_mem _ hw)]
    split
    · rfl
    · have : x ≠ n := by rintro rfl; exact h v List.mem_cons_self
      simp [this]
theorem bindL_get {kindOf : Str → Option NameKind} {x : Str} {v : Value} : ∀ {P : List Str} {vs : List Value} {i : Nat} {m : Str → Option Value}, P.Nodup → P[i]? = some x → vs[i]? = some v → kindOf x = some .local →
    bindL kindOf (P.zip vs) m x = some v
  | [], _, _, _, _, h, _, _ => by simp at h
  | _ :: _, [], _, _, _, _, h, _ => by simp at h
  | p :: P, w :: vs, 0, m, nd, h1, h2, hk => by
    simp at h1 h2; subst h1; subst h2
    show bindL kindOf ((p, w) :: P.zip vs) m p = _
    unfold bindL
    rw [bindL_out fun v hv => (List.nodup_cons.mp nd).1 (List.of_mem_zip hv).1, if_pos hk]
    simp
  | p :: P, w :: vs, i + 1, m, nd, h1, h2, hk => by
    show bindL kindOf ((p, w) :: P.zip vs) m x = _
    unfold bindL
    exact bindL_get (i := i) (List.nodup_cons.mp nd).2 (by simpa using h1) (by simpa using h2) hk
theorem bindC_get {kindOf : Str → Option NameKind} {x : Str} {v : Value} : ∀ {P : List Str} {vs : List Value} {i : Nat} {m : Str → Option Value}, P.Nodup → P[i]? = some x → vs[i]? = some v → kindOf x ≠ some .local →
    bindC kindOf (P.zip vs) m x = some v
  | [], _, _, _, _, h, _, _ => by simp at h
  | _ :: _, [], _, _, _, _, h, _ => by simp at h
  | p :: P, w :: vs, 0, m, nd, h1, h2, hk => by
    simp at h1 h2; subst h1; subst h2
    show bindC kindOf ((p, w) :: P.zip vs) m p = _
    unfold bindC
    rw [bindC_out fun v hv => (List.nodup_cons.mp nd).1 (List.of_mem_zip hv).1, if_neg hk]
    simp
  | p :: P, w :: vs, i + 1, m, nd, h1, h2, hk => by
    show bindC kindOf ((p, w) :: P.zip vs) m x = _
    unfold bindC
    exact bindC_get (i := i) (List.nodup_cons.mp nd).2 (by simpa using h1) (by simpa using h2) hk

/-- the names' values at the entry -/
def start (N : List Str) (vs : List V) : St := vs.map some ++ List.replicate (N.length - vs.length) none

/-- the context of a def's body, at its entry; an exception leaves the frame, then lies as CX says -/
def cxOf (CX : CXT) (P : Program) (w : World) (K : PySem.W.Frag) (mg : Str → Option Value) (base : Heap) (N : List Str) (qual : Str) (scope : Scope) (f : Addr) (cd : Value) (A : Around) (outer : List Env) (s : Shared) (H : Hp) (E : XK) : Cx where
  prog := P
  w := w
  K := K
  mg := mg
  base := base
  A := A.deeper (envOfC qual scope s.heap.objs.size f cd)
  N := N
  s₀ := s
  H₀ := H
  env := envOfC qual scope s.heap.objs.size f cd
  outer := outer
  stack := envOfC qual scope s.heap.objs.size f cd :: outer
  ex := []
  calm := true
  fn := fun _ => true
  pn := []
  xe := fun e s' => wpAny (model P w) (A.deeper (envOfC qual scope s.heap.objs.size f cd)) (leaving (envOfC qual scope s.heap.objs.size f cd) e) (fun _ s'' => CX outer H s E e s'') (fun e' s'' => CX outer H s E e' s'') s'

theorem cell_has {sc : Scope} {n : Nat} {x : Str} (h : sc.names.lookup x = some .cell) : ∃ c, (cellsFrom n sc.names []).lookup x = some c := by
  have q := PySem.W.cellsFrom_some sc.names n [] (.inl h)
  exact Option.isSome_iff_exists.mp q

theorem inv_start {CX : CXT} {P : Program} {w : World} {K : PySem.W.Frag} {mg : Str → Option Value} {base : Heap} {N ps : List Str} {qual : Str} {scope : Scope} {f : Addr} {cd : Value} {A : Around} {outer : List Env} {s s1 : Shared} {H : Hp} {E : XK} {us : List Value} {vs : List V}
    (S : FnScope N ps scope) (hd : A.handled = none) (e0 : Env0 P w K mg base A outer s H) (hl : vs.length = ps.length) (r : Vals vs us)
    (x : InCallC s s.heap.objs.size (bindL (envOfC qual scope s.heap.objs.size f cd).kindOf (ps.zip us) fun _ => none) (cellsFrom (s.heap.objs.size + 1) scope.names []) (bindC (envOfC qual scope s.heap.objs.size f cd).kindOf (ps.zip us) fun _ => none) s1) :
    Inv (cxOf CX P w K mg base N qual scope f cd A outer s H E) [] (start N vs) H s1 := by
  have hpl : ps.length ≤ N.length := by have := congrArg List.length S.pre; rw [List.length_take] at this; omega
  obtain ⟨h1, tk, rfl, hk⟩ := x.done
  have noA : ∀ b : Addr, b ∉ (cxOf CX P w K mg base N qual scope f cd A outer s H E).ex := fun b z => absurd (show b ∈ ([] : List Addr) from z) (by simp)
  refine ⟨⟨e0.mod, S.kind, rfl, rfl, Nat.le_refl _, fun y z c h1 h2 => ?_, fun y hy => ?_, fun y c _ h => ?_, fun _ => hd, Around.frames_deeper e0.frames, .inr ⟨rfl, rfl⟩, fun b z => absurd z (noA b), e0.bs, e0.bsz, fun b _ _ => noA b, fun b z => absurd z (noA b), e0.funs, e0.frf⟩,
    rfl, e0.bare, Un.kept hk, ⟨_, x.toInCall.ns, fun i y v h1 h2 h3 => ?_⟩, fun y c h => ⟨_, x.cell y c h⟩, e0.hok.fresh (Nat.le_refl _), fun y c h => ?_, fun p hp => absurd (show p ∈ ([] : List (Addr × Obj)) from hp) (by simp), e0.hok.kept hk, ?_⟩
  · exact name_of_addr x.apart (PySem.mem_of_lookup h1) (PySem.mem_of_lookup h2)
  · have hy : scope.names.lookup y = some .cell ∨ scope.names.lookup y = some .free := hy
    rcases hy with hy | hy
    · exact cell_has hy
    · exact absurd rfl (S.nofree _ (PySem.mem_of_lookup hy))
  · exact Nat.le_of_lt (x.above y c (PySem.mem_of_lookup h))
  · have hi : i < vs.length := by
      unfold start at h2
      by_cases hi : i < vs.length
      · exact hi
      · rw [List.getElem?_append_right (by simpa using hi)] at h2
        rw [List.getElem?_replicate] at h2
        split at h2 <;> cases h2
    have ha : vs[i]? = some v := by
      unfold start at h2
      rw [List.getElem?_append_left (by simpa using hi), List.getElem?_map] at h2
      cases e : vs[i]? with
      | none => rw [e] at h2; cases h2
      | some a => rw [e] at h2; cases h2; rfl
    obtain ⟨u, hu, rv⟩ := r.get ha
    have hp : ps[i]? = some y := by
      rw [← S.pre, List.getElem?_take_of_lt (by omega)]; exact h1
    have ndP : ps.Nodup := by rw [← S.pre]; exact S.nd.sublist (List.take_sublist _ _)
    refine ⟨u, rv, ?_⟩
    rcases S.par y (List.mem_of_getElem? hp) with k | k
    · exact .inl ⟨k, bindL_get ndP hp hu k⟩
    · obtain ⟨c, e⟩ := cell_has (n := s.heap.objs.size + 1) k
      refine .inr ⟨.inl k, c, e, ?_⟩
      have q := x.cell y c e
      rw [bindC_get ndP hp hu (by show scope.names.lookup y ≠ _; rw [k]; decide)] at q
      exact q
  · exact e0.hok.fresh (Nat.le_of_lt (x.above y c (PySem.mem_of_lookup h)))
  · unfold start
    show _ = N.length
    rw [List.length_append, List.length_map, List.length_replicate]
    omega

/-- THE RULE: a def (or a method) of the text, by its body. The body's reading t is chosen for each entry; it is run at the parameters' values -/
theorem fn_of {CX : CXT} {P : Program} {w : World} {K : PySem.W.Frag} {mg : Str → Option Value} {base : Heap} {k : Nat} {f : Addr} {name qual : Str} {params : Arguments} {body : List Stmt} {scope : Scope} {dV kV doc pm cdv ct oc : Value} {an od : Option Addr}
    {osl : Array (Option Value)} {N ps : List Str} {sp : Sp} (lk : K.lookup f = some ⟨oc, od, .func (PySem.W.fnOf name qual params body scope dV kV doc pm an cdv ct), osl⟩) (hcd : PySem.W.codeIn K cdv qual = true) (S : FnScope N ps scope)
    (len : ∀ vs H Q E, sp vs H Q E → vs.length = ps.length)
    (hbody : ∀ (A : Around) (outer : List Env) (s : Shared) (H : Hp) (vs : List V) (Q : VK) (E : XK), Room k (A.deeper (envOfC qual scope s.heap.objs.size f cdv)) → sp vs H Q E →
      ∃ t, PSs (cxOf CX P w K mg base N qual scope f cdv A outer s H E) body t ∧ t { nx := fun _ H' => Q .non H', rt := Q } (start N vs) H) :
    FnOk P w K mg base CX (k + 1) f (PySem.W.fnOf name qual params body scope dV kV doc pm an cdv ct) ps sp := by
  refine ⟨len, fun A outer s H args us vs Q E hr e0 hb r hsp => ?_⟩
  have hl := len _ _ _ _ hsp
  have KX : K.In s.heap := e0.mod.kin.keeps fun b o e => (e0.bs b o e).1
  have lim : s.heap.NoLimit := e0.mod.nolimit.keeps fun b o e => (e0.bs b o e).1
  have hkind : ∀ y ∈ ps.zip us, scope.names.lookup y.1 = some .local ∨ (scope.names.lookup y.1 = some .cell ∧ ((cellsFrom (s.heap.objs.size + 1) scope.names []).lookup y.1).isSome = true) := fun ⟨n, v⟩ hy => by
    rcases S.par n (List.of_mem_zip hy).1 with q | q
    · exact .inl q
    · exact .inr ⟨q, PySem.W.cellsFrom_some _ _ _ (.inl q)⟩
  refine codeAny_call_function hr.depth (KX _ _ lk) rfl S.co S.gen rfl (PySem.W.codeRec_of KX hcd) (hb _ _ _ _ ?_)
  refine wpAny_newFunctionEnv_cells S.kind hkind fun env he s1 x => ?_
  subst he
  refine ⟨lim.keeps x.toInCall.keep, codeAny_func ?_⟩
  obtain ⟨t, ht, hq⟩ := hbody A outer s H vs Q E (hr.deeper _) hsp
  have I : Inv (cxOf CX P w K mg base N qual scope f cdv A outer s H E) [] (start N vs) H s1 := inv_start S hr.hd e0 hl r x
  refine wpAny_mono (ht [] s1 (start N vs) H _ I hq) (fun fl s' hs => ?_) fun e s' hs => hs
  have fin : ∀ {σ' : St} {H' : Hp} {v : V} {u : Value}, Inv (cxOf CX P w K mg base N qual scope f cdv A outer s H E) [] σ' H' s' → RelV v u → Q v H' → CE outer P w H s Q u s' :=
    fun {σ' H' v u} J rv q => ⟨v, H', J.os, J.bare, J.base, J.hok, rv, q⟩
  cases fl with
  | ret u =>
    obtain ⟨v, σ', H', J, rv, q⟩ := hs
    exact fin J rv q
  | next =>
    obtain ⟨σ', H', J, q⟩ := hs
    exact fin (v := V.non) (u := Value.none) J rfl q
  | brk =>
    obtain ⟨_, _, _, q⟩ := hs
    exact False.elim q
  | cont =>
    obtain ⟨_, _, _, q⟩ := hs
    exact False.elim q
end L2

namespace L2
open PySem PySem.Spec PyProof.Rows
section
variable {X : Cx} {x : Str} {p pos : Pos} {e : Expr} {es : List Expr} {t : TA} {id T : String} {r : List V → Hp → VK → Prop}

def tCB (r : List V → Hp → VK → Prop) (t : TA) : TE := fun σ H Q => t σ H fun vs H1 => r vs H1 Q
/-- f(e, ..), f a built-in function -/
theorem pe_callB (hc : CallR X (.builtin id) r) (hg : Gl X x) (hm : X.mg x = none) (hv : bootBuiltins x = some (.builtin id)) (ha : PA X (e :: es) t) (hn : x ≠ "__name__" := by decide) (hdb : (x == ("__debug__" : Str)) = false := by decide)
    (he : starEach (e :: es) X.env = (false, eval e X.env) :: starEach es X.env := by rfl) (hpl : (backTo pos (starEach es X.env)).any (·.1) = false := by rfl) : PE X (.Call (.Name x p) (e :: es) [] pos) (tCB r t) := by
  intro pins s σ H Q I h
  refine wpAny_Call_Name_kw (ld_blt I hg hm hv ?_ hn hdb)
  exact PyProof.Rows.callWith_builtin1 (thn (ha pos pins s σ H _ I h) fun us s1 ⟨vs, H1, I1, r1, q1⟩ => hc pins s1 σ H1 vs us Q I1 r1 q1) he hpl
/-- T(e, ..), T a built-in type -/
theorem pe_callTy (hc : CallR X (.type T) r) (hg : Gl X x) (hm : X.mg x = none) (hv : bootBuiltins x = some (.type T)) (ha : PA X (e :: es) t) (hn : x ≠ "__name__" := by decide) (hdb : (x == ("__debug__" : Str)) = false := by decide)
    (he : starEach (e :: es) X.env = (false, eval e X.env) :: starEach es X.env := by rfl) (hpl : (backTo pos (starEach es X.env)).any (·.1) = false := by rfl) : PE X (.Call (.Name x p) (e :: es) [] pos) (tCB r t) := by
  intro pins s σ H Q I h
  refine wpAny_Call_Name_kw (ld_blt I hg hm hv ?_ hn hdb)
  exact PyProof.Rows.callWith_type1 (thn (ha pos pins s σ H _ I h) fun us s1 ⟨vs, H1, I1, r1, q1⟩ => hc pins s1 σ H1 vs us Q I1 r1 q1) he hpl
/-- T() -/
theorem pe_callTy0 (hc : CallR X (.type T) r) (hg : Gl X x) (hm : X.mg x = none) (hv : bootBuiltins x = some (.type T)) (hn : x ≠ "__name__" := by decide) (hdb : (x == ("__debug__" : Str)) = false := by decide) :
    PE X (.Call (.Name x p) [] [] pos) (tCB r tNil) := by
  intro pins s σ H Q I h
  refine wpAny_Call_Name_kw (ld_blt I hg hm hv ?_ hn hdb)
  exact PyProof.Rows.callWith_type0 (hc pins s σ H [] [] Q I .nil h)
end
end L2

namespace HT
open PySem PyProof.Rows

/-- t < u of tuples of ints -/
def lexLt : List Int → List Int → Bool
  | [], [] => false
  | [], _ :: _ => true
  | _ :: _, [] => false
  | x :: xs, y :: ys => if x = y then lexLt xs ys else decide (x < y)
theorem lexLt_cons (x y : Int) (xs ys : List Int) : lexLt (x :: xs) (y :: ys) = if x = y then lexLt xs ys else decide (x < y) := rfl
theorem lexLt_nil_nil : lexLt [] [] = false := rfl
theorem lexLt_nil_cons (y : Int) (ys : List Int) : lexLt [] (y :: ys) = true := rfl
theorem lexLt_cons_nil (x : Int) (xs : List Int) : lexLt (x :: xs) [] = false := rfl

theorem eqAt_int (A : Around) (s : Shared) (a : Int) (t : Tok) (c : Int) (u : Tok) : ∃ e, SeqAt.EqAt A s (.int a t) (.int c u) e ∧ (e = true ↔ a = c) :=
  ⟨(a == c), SeqAt.EqAt.int_int a t c u, by simp⟩
theorem rcLt_int (A : Around) (s : Shared) (a : Int) (t : Tok) (c : Int) (u : Tok) (prog : Program) (w : World) (E : Value → Shared → Prop) (Q : Value → Shared → Prop) (h : Q (.bool (decide (a < c))) s) :
    wpAny (model prog w) A (richCompare .Lt (.int a t) (.int c u)) Q E s :=
  (PyProof.Rows.lt_int h : wpAny (model prog w) A (compareOp .Lt (.int a t) (.int c u)) Q E s)

section
open PySem.SeqAt
open PySem.AutoSeq1 (wpAny_loadPart')
open PySem.MeetsSeq PySem.MeetsSeq2 PySem.MeetsSeq3

theorem tuple_lt_ints (l b : Addr) (items items2 : Array Value) (n n2 : Nat) (dd dd2 : Option Addr) (sl sl2 : Array (Option Value)) (ns ms : List Int) (hi : IntsAre items.toList ns) (hj : IntsAre items2.toList ms) :
    Meets (Builtin.«tuple.__lt__» ⟨[.ref l, .ref b], []⟩)
      (fun _ R s => s.heap.get? l = some { cls := .type "tuple", dict := dd, data := .seq items n, slots := sl } ∧ s.heap.get? b = some { cls := .type "tuple", dict := dd2, data := .seq items2 n2, slots := sl2 } ∧
        R (.ok (.ret (.bool (lexLt ns ms)))) s) :=
  .of_wp fun prog w A R s h => by
    obtain ⟨hp, g, d, tk, os⟩ := s; obtain ⟨hl, hb, h⟩ := h
    have f2 := AutoSeq1.sub_tuple_tuple
    have z1 : items.size = ns.length := by rw [← hi.length]; simp
    have z2 : items2.size = ms.length := by rw [← hj.length]; simp
    wp_walk using wpAny_loadPart' hl, wpAny_loadPart' hb, wpAny_forIn_list _ (fun rest b s' => b.1 = none ∧ s' = ⟨hp, g, d, tk, os⟩ ∧ ∃ (vs ws : List Value) (ns' ms' : List Int), rest = vs.zip ws ∧
      IntsAre vs ns' ∧ IntsAre ws ms' ∧ ns'.length + items2.size = ms'.length + items.size ∧ R (.ok (.ret (.bool (lexLt ns' ms')))) ⟨hp, g, d, tk, os⟩) _
    case turn =>
      rintro ⟨y, x⟩ rest b s' ⟨hb', rfl, vs, ws, ns', ms', hz, hvi, hwi, hlen, hR⟩
      cases hvi with
      | nil => rw [List.zip_nil_left] at hz; cases hz
      | cons a t hvi' =>
        cases hwi with
        | nil => rw [List.zip_nil_right] at hz; cases hz
        | cons c u hwi' =>
          rw [List.zip_cons_cons] at hz
          injection hz with hyx hrest
          injection hyx with hy hx
          subst hy hx
          rw [lexLt_cons] at hR
          simp only [List.length_cons] at hlen
          obtain ⟨e, he, hiff⟩ := eqAt_int A.in1 ⟨hp, g, d, tk, os⟩ a t c u
          refine wpAny_bind (he prog w _ _ ?_)
          cases e with
          | true =>
            rw [if_pos (hiff.mp rfl)] at hR
            wp_walk
            exact ⟨rfl, rfl, _, _, _, _, hrest, hvi', hwi', by omega, hR⟩
          | false =>
            rw [if_neg (fun q => absurd (hiff.mpr q) Bool.false_ne_true)] at hR
            have hri := rcLt_int A.in1 ⟨hp, g, d, tk, os⟩ a t c u prog w
            wp_walk using hri
            exact ⟨_, rfl, by simpa using hR⟩
    case fin =>
      rintro ⟨b1, b2⟩ s' ⟨hb', rfl, vs, ws, ns', ms', hz, hvi, hwi, hlen, hR⟩
      simp only at hb'
      subst hb'
      have hv : lexLt ns' ms' = decide (items.size < items2.size) := by
        cases hvi with
        | nil =>
          cases hwi with
          | nil =>
            simp only [List.length_nil] at hlen
            rw [lexLt_nil_nil]
            exact (decide_eq_false (by omega)).symm
          | cons c u hw =>
            simp only [List.length_nil, List.length_cons] at hlen
            rw [lexLt_nil_cons]
            exact (decide_eq_true (by omega)).symm
        | cons a t hv =>
          cases hwi with
          | nil =>
            simp only [List.length_nil, List.length_cons] at hlen
            rw [lexLt_cons_nil]
            exact (decide_eq_false (by omega)).symm
          | cons c u hw =>
            rw [List.zip_cons_cons] at hz
            cases hz
      rw [hv] at hR
      wp_walk
      exact ⟨_, rfl, by simpa [Builtin.Tuple.tupleCompareSizes] using hR⟩
    case h =>
      exact ⟨rfl, rfl, items.toList, items2.toList, ns, ms, rfl, hi, hj, by omega, h⟩
end

section
variable {prog : Program} {w : World} {A : Around} {E : Value → Shared → Prop} {s : Shared}

theorem lt_tupInts {l b : Addr} {items items2 : Array Value} {ns ms : List Int} {Q : Value → Shared → Prop} (hl : IsTup s.heap l items) (hb : IsTup s.heap b items2) (hi : IntsAre items.toList ns) (hj : IntsAre items2.toList ms)
    (hu : A.units < cLine) (h : Q (.bool (lexLt ns ms)) s) : wpAny (model prog w) A (compareOp .Lt (.ref l) (.ref b)) Q E s := by
  obtain ⟨⟨cls, dd, data, sl⟩, ho, hc, n, hd⟩ := id hl
  obtain ⟨⟨cls2, dd2, data2, sl2⟩, ho2, hc2, n2, hd2⟩ := id hb
  simp only at hc hd hc2 hd2
  subst hc hd hc2 hd2
  exact richCompare_meets_room (op := .Lt) ⟨_, ho, rfl⟩ ⟨_, ho2, rfl⟩ PySem.F.slot_tuple_lt PySem.F.entry_tuple_lt (PySem.F.args_tuple_lt_2 _ _) (tuple_lt_ints l b items items2 n n2 dd dd2 sl sl2 ns ms hi hj)
    ⟨ho, ho2, show Value.bool (lexLt ns ms) ≠ Value.notImplemented ∧ Q (.bool (lexLt ns ms)) s from ⟨(fun x => nomatch x), h⟩⟩ hu

/-- t + u, t not empty -/
theorem cat_tup {t b : Addr} {vs ws : List Value} {Q : Value → Shared → Prop} (ht : IsTup s.heap t vs.toArray) (hb : IsTup s.heap b ws.toArray) (hv : vs ≠ [])
    (h1 : ws = [] → Q (.ref t) s) (h2 : ws ≠ [] → Q (.ref s.heap.objs.size) { s with heap := s.heap.push { cls := .type "tuple", data := .seq (vs ++ ws).toArray } })
    (hsz : vs.length + ws.length ≤ sizeLine) : wpAny (model prog w) A (binaryOp .Add (.ref t) (.ref b)) Q E s := by
  obtain ⟨⟨cls, dd, data, sl⟩, ho, hc, n, hd⟩ := id ht
  obtain ⟨⟨cls2, dd2, data2, sl2⟩, ho2, hc2, n2, hd2⟩ := id hb
  simp only at hc hd hc2 hd2
  subst hc hd hc2 hd2
  have e : vs.toArray ++ ws.toArray = (vs ++ ws).toArray := by simp
  by_cases hw : ws = []
  · exact concat_meets ⟨_, ho, rfl⟩ ⟨_, ho2, rfl⟩ noFill_tuple_add seq_tuple_add PySem.F.slot_tuple_add PySem.F.entry_tuple_add (PySem.F.args_tuple_add_2 _ _)
      (tuple_addW1 t b vs.toArray ws.toArray n n2 dd dd2 sl sl2 (by simpa using hv) (by simp [hw])) ⟨ho, ho2, h1 hw⟩
  · refine concat_meets ⟨_, ho, rfl⟩ ⟨_, ho2, rfl⟩ noFill_tuple_add seq_tuple_add PySem.F.slot_tuple_add PySem.F.entry_tuple_add (PySem.F.args_tuple_add_2 _ _)
      (tuple_addW2 t b vs.toArray ws.toArray n n2 dd dd2 sl sl2 (by simpa using hv) (by simpa using hw) (by rw [List.size_toArray, List.size_toArray]; exact hsz)) ⟨ho, ho2, ?_⟩
    rw [e]
    exact h2 hw

/-! ### t[a:b], not the whole -/
/-- a slice's bound as a place among n (d where it is left out) -/
def sIx (n d : Nat) : Option Int → Nat
  | none => d
  | some v => if v < 0 then (v + (n : Int)).toNat else min v.toNat n
theorem sIx_none (n d : Nat) : sIx n d none = d := rfl
theorem sIx_nat (n d k : Nat) : sIx n d (some (k : Int)) = min k n := by
  show (if (k : Int) < 0 then ((k : Int) + (n : Int)).toNat else min (k : Int).toNat n) = min k n
  rw [if_neg (by omega), Int.toNat_natCast]
theorem sIx_le (n d : Nat) (hd : d ≤ n) (o : Option Int) : sIx n d o ≤ n := by
  cases o with
  | none => exact hd
  | some v =>
    show (if v < 0 then (v + (n : Int)).toNat else min v.toNat n) ≤ n
    by_cases hv : v < 0
    · rw [if_pos hv]; omega
    · rw [if_neg hv]; exact Nat.min_le_right _ _
theorem clip_eq (v : Int) (n d : Nat) : (if v < 0 then max (v + (n : Int)) 0 else min v (n : Int)) = ((sIx n d (some v) : Nat) : Int) := by
  show (if v < 0 then max (v + (n : Int)) 0 else min v (n : Int)) = (((if v < 0 then (v + (n : Int)).toNat else min v.toNat n) : Nat) : Int)
  by_cases hv : v < 0
  · simp only [if_pos hv]; omega
  · simp only [if_neg hv]; omega
theorem adjust_gen (lo hi : Option Int) (n : Nat) : Builtin.Slice.sliceAdjust lo hi 1 (n : Int) = (((sIx n 0 lo : Nat) : Int), ((sIx n n hi : Nat) : Int)) := by
  have h1 : ¬ ((1 : Int) < 0) := by omega
  unfold Builtin.Slice.sliceAdjust
  simp only [h1, if_false]
  refine Prod.ext ?_ ?_
  · cases lo with
    | none => rfl
    | some v => exact clip_eq v n 0
  · cases hi with
    | none => rfl
    | some v => exact clip_eq v n n
theorem places_gen (i j : Nat) : Builtin.Slice.slicePlaces (i : Int) (j : Int) 1 = j - i := by
  unfold Builtin.Slice.slicePlaces
  have h1 : (1 : Int) > 0 := by omega
  simp only [h1, if_true, Int.ediv_one]
  split <;> omega
theorem slicePart_ {v : Value} {o : Option Int} {Q : Option Int → Shared → Prop} (p : IsPart v o) (h : Q o s) : wpAny (model prog w) A (Builtin.Slice.slicePartIndex v) Q E s := by
  cases p with
  | none => exact slicePart_none h
  | int i t => exact slicePart_int h
theorem sliceApplied_gen {sl : Addr} {vl vu : Value} {lo hi : Option Int} {n : Nat} {Q : Int × Int × Nat → Shared → Prop} (hs : s.heap.IsSliceOf sl vl vu .none) (pl : IsPart vl lo) (pu : IsPart vu hi)
    (h : Q (((sIx n 0 lo : Nat) : Int), 1, sIx n n hi - sIx n 0 lo) s) : wpAny (model prog w) A (Builtin.Slice.sliceApplied (.ref sl) (pure (n : Int))) Q E s := by
  obtain ⟨os, hos, hcs, hds⟩ := id hs
  unfold Builtin.Slice.sliceApplied Builtin.Slice.sliceFields
  refine wpAny_bind (wpAny_bind (wpAny_field hos hds (x := vl) rfl (wpAny_bind (wpAny_field hos hds (x := vu) rfl (wpAny_bind (wpAny_field hos hds (x := .none) rfl (wpAny_pure ?_)))))))
  refine wpAny_bind (slicePart_none ?_)
  show wpAny _ _ (if ((1 : Int) == 0) = true then _ else _) _ _ s
  rw [if_neg (by decide)]
  refine wpAny_bind (slicePart_ pl (wpAny_bind (slicePart_ pu (wpAny_bind (wpAny_pure ?_)))))
  show wpAny _ _ (match Builtin.Slice.sliceAdjust lo hi 1 (n : Int) with | (lo, hi) => pure (lo, (1 : Int), Builtin.Slice.slicePlaces lo hi 1)) _ _ s
  rw [adjust_gen lo hi n]
  show wpAny _ _ (pure (((sIx n 0 lo : Nat) : Int), (1 : Int), Builtin.Slice.slicePlaces ((sIx n 0 lo : Nat) : Int) ((sIx n n hi : Nat) : Int) 1)) _ _ s
  rw [places_gen]
  exact wpAny_pure h
theorem pick_gen (xs : Array Value) (i k : Nat) : ((List.range k).filterMap fun (m : Nat) => xs[((i : Int) + (m : Int) * 1).toNat]?).toArray = ((xs.toList.drop i).take k).toArray := by
  have e : (fun (m : Nat) => xs[((i : Int) + (m : Int) * 1).toNat]?) = fun m => xs[i + m]? := by
    funext m
    have : ((i : Int) + (m : Int) * 1).toNat = i + m := by omega
    rw [this]
  rw [e]
  have := pick_run xs i k
  rw [List.filterMap_map] at this
  have e2 : ((fun x => xs[x]?) ∘ fun x => i + x) = fun m => xs[i + m]? := rfl
  rw [e2] at this
  rw [this]

theorem getItem_tuple_cut {t sl : Addr} {items : Array Value} {vl vu : Value} {lo hi : Option Int} {Q : Value → Shared → Prop} (ht : IsTup s.heap t items) (hs : s.heap.IsSliceOf sl vl vu .none) (pl : IsPart vl lo) (pu : IsPart vu hi)
    (hw : ¬ (sIx items.size 0 lo = 0 ∧ sIx items.size items.size hi = items.size))
    (h : Q (.ref s.heap.objs.size) { s with heap := s.heap.push { cls := .type "tuple", data := .seq ((items.toList.drop (sIx items.size 0 lo)).take (sIx items.size items.size hi - sIx items.size 0 lo)).toArray } })
    (hsz : items.size ≤ sizeLine) : wpAny (model prog w) A (getItem (.ref t) (.ref sl)) Q E s := by
  have htake : sizeOk (.seq ((items.toList.drop (sIx items.size 0 lo)).take (sIx items.size items.size hi - sIx items.size 0 lo)).toArray) := by
    show ((items.toList.drop (sIx items.size 0 lo)).take (sIx items.size items.size hi - sIx items.size 0 lo)).toArray.size ≤ sizeLine
    rw [List.size_toArray, List.length_take, List.length_drop, Array.length_toList]
    omega
  have hj : sIx items.size items.size hi ≤ items.size := sIx_le _ _ (Nat.le_refl _) hi
  obtain ⟨os, hos, hcs, hds⟩ := id hs
  have hTs : s.TypeIs (.ref sl) "slice" := ⟨os, hos, hcs⟩
  unfold getItem
  try with_reducible refine wpAny_holding ?_
  first | refine wpAny_bind (wpAny_pure ?_) | skip
  refine wpAny_bind (wpAny_sequenceKey ht.typeIs (by decide) ?_)
  refine wpAny_bind (wpAny_callSpecial?_slot (name := Str.ofString "__getitem__") ht.typeIs PyProof.Rows.slot_tuple_getitem
    (wpAny_call_entry PyProof.Rows.slot_tuple_getitem ht.typeIs entry_tuple_getitem ?_ (args_tuple_getitem _ _)))
  show wpAny _ _ (Builtin.Tuple.tupleItemsOf (.ref t) >>= _) _ _ s
  refine wpAny_bind (tupleItemsOf_ ht ?_)
  refine wpAny_bind (wpAny_typeOf hTs ?_)
  rw [if_pos (by decide)]
  refine wpAny_bind (sliceApplied_gen hs pl pu ?_)
  have hno : ¬ ((((sIx items.size 0 lo : Nat) : Int) == 0 && (1 : Int) == 1 && (sIx items.size items.size hi - sIx items.size 0 lo) == items.size) = true) := by
    intro q
    rw [Bool.and_eq_true, Bool.and_eq_true] at q
    have q1 : ((sIx items.size 0 lo : Nat) : Int) = 0 := eq_of_beq q.1.1
    have q2 : sIx items.size items.size hi - sIx items.size 0 lo = items.size := eq_of_beq q.2
    exact hw ⟨by omega, by omega⟩
  show wpAny _ _ (if (((sIx items.size 0 lo : Nat) : Int) == 0 && (1 : Int) == 1 && (sIx items.size items.size hi - sIx items.size 0 lo) == items.size) = true then _ else _) _ _ s
  rw [if_neg hno, pick_gen]
  first
    | exact wpAny_bind (m := Builtin.Tuple.tupleExact _) (wpAny_newObj_type (wpAny_pure ⟨_, rfl, wpAny_pure h⟩) htake)
    | exact wpAny_bind (m := Builtin.Tuple.tupleExact _) (wpAny_newObj_type (wpAny_bind (wpAny_pure (wpAny_pure ⟨_, rfl, wpAny_pure h⟩))) htake)
    | exact wpAny_bind (wpAny_bind (m := Builtin.Tuple.tupleExact _) (wpAny_newObj_type (wpAny_pure (wpAny_pure ⟨_, rfl, wpAny_pure h⟩)) htake))
    | exact wpAny_bind (wpAny_bind (m := Builtin.Tuple.tupleExact _) (wpAny_newObj_type (wpAny_pure ⟨_, rfl, wpAny_pure h⟩) htake))
end
end HT

namespace L2
open PySem PySem.Spec PyProof.Rows

/-! ### the parts of a slice -/
abbrev TO := St → Hp → (Option Int → Hp → Prop) → Prop
/-- a slice's part (left out, or an int) -/
def PO (X : Cx) (e : Option Expr) (t : TO) : Prop :=
  ∀ (pins : List (Addr × Obj)) (s : Shared) (σ : St) (H : Hp) (Q : Option Int → Hp → Prop), Inv X pins σ H s → t σ H Q →
    wpAny (model X.prog X.w) X.A (evalPart e X.env) (fun u s' => ∃ o H', Inv X pins σ H' s' ∧ IsPart u o ∧ Q o H') X.xe s
def tNoPart : TO := fun _ H Q => Q none H
def tPart (t : TE) : TO := fun σ H Q => t σ H fun x H1 => ∃ i, x = .int i ∧ Q (some i) H1

theorem intsAre_of {ns : List Int} : ∀ {us : List Value}, Vals (ns.map V.int) us → IntsAre us ns := by
  induction ns with
  | nil => intro us r; rw [List.map_nil] at r; cases r; exact .nil
  | cons n ns ih =>
    intro us r
    rw [List.map_cons] at r
    cases r with
    | cons r1 r2 =>
      obtain ⟨t, e⟩ := r1
      subst e
      exact .cons n t (ih r2)

section
variable {X : Cx} {e : Expr} {te : TE} {lo hi : Option Expr} {tl th : TO} {pos p2 : Pos}

theorem po_none : PO X none tNoPart := by
  intro pins s σ H Q I h
  rw [evalPart_none]
  exact wpAny_pure ⟨none, H, I, .none, h⟩
theorem po_some (h : PE X e te) : PO X (some e) (tPart te) := by
  intro pins s σ H Q I hw
  rw [evalPart_some]
  refine thn (h pins s σ H _ I hw) fun u s1 ⟨x, H1, I1, r1, q1⟩ => ?_
  obtain ⟨i, rfl, q⟩ := q1
  obtain ⟨t, rfl⟩ := r1
  exact ⟨some i, H1, I1, .int i t, q⟩

/-- what a slice of a value is, by values: the slice object stands at sl -/
def SlR (X : Cx) (r : V → Option Int → Option Int → Hp → VK → Prop) : Prop :=
  ∀ (pins : List (Addr × Obj)) (s : Shared) (σ : St) (H : Hp) (x : V) (v vl vu : Value) (lo hi : Option Int) (sl : Addr) (Q : VK), Inv X pins σ H s → RelV x v → s.heap.IsSliceOf sl vl vu .none → IsPart vl lo → IsPart vu hi → r x lo hi H Q →
    ∃ T id, typeLookup (.type T) "__getitem__" = pure (some (.builtin id)) ∧ s.TypeIs v T ∧ wpAny (model X.prog X.w) X.A (getItem v (.ref sl)) (EP X pins σ Q) X.xe s
theorem SlR.or {r r' : V → Option Int → Option Int → Hp → VK → Prop} (h : SlR X r) (h' : SlR X r') : SlR X (fun x lo hi H Q => r x lo hi H Q ∨ r' x lo hi H Q) := by
  intro pins s σ H x v vl vu lo hi sl Q I rx hs pl pu q
  rcases q with q | q
  · exact h pins s σ H x v vl vu lo hi sl Q I rx hs pl pu q
  · exact h' pins s σ H x v vl vu lo hi sl Q I rx hs pl pu q
def tSl (r : V → Option Int → Option Int → Hp → VK → Prop) (te : TE) (tl th : TO) : TE := fun σ H Q => te σ H fun x H1 => tl σ H1 fun l H2 => th σ H2 fun u H3 => r x l u H3 Q
/-- a[lo:hi], any a -/
theorem pe_slice {r : V → Option Int → Option Int → Hp → VK → Prop} (hr : SlR X r) (he : PE X e te) (hl : PO X lo tl) (hu : PO X hi th) : PE X (.Subscript e (.Slice lo hi none p2) pos) (tSl r te tl th) := by
  intro pins s σ H Q I h
  refine Subscript_ (thn (he pins s σ H _ I h) fun v s1 ⟨x, H1, I1, r1, q1⟩ => ?_)
  refine wpAny_Slice (thn (hl pins s1 σ H1 _ I1 q1) fun vl s2 ⟨l, H2, I2, pl, q2⟩ => thn (hu pins s2 σ H2 _ I2 q2) fun vu s3 ⟨u, H3, I3, pu, q3⟩ => ?_)
  rw [evalPart_none]
  refine wpAny_pure ?_
  have I4 : Inv X pins σ H3 { s3 with heap := s3.heap.push { cls := .type "slice", data := .fields #[vl, vu, .none] } } := I3.kept (t' := s3.toks) fun b ob q => Heap.get?_push_of_some _ q
  obtain ⟨T, id, hT, ht, hg⟩ := hr pins { s3 with heap := s3.heap.push { cls := .type "slice", data := .fields #[vl, vu, .none] } } σ H3 x v vl vu l u s3.heap.objs.size Q I4 r1 (Heap.IsSliceOf.new ..) pl pu q3
  show wpAny (model X.prog X.w) X.A (subscriptTail e (.Slice lo hi none p2) v (.ref s3.heap.objs.size)) (EP X pins σ Q) X.xe { s3 with heap := s3.heap.push { cls := .type "slice", data := .fields #[vl, vu, .none] } }
  exact tail_any (ops := [.ref s3.heap.objs.size, v]) ht hT hg (by with_unfolding_all rfl)

/-- the items of xs[lo:hi] -/
def cutV (xs : List V) (lo hi : Option Int) : List V := (xs.drop (HT.sIx xs.length 0 lo)).take (HT.sIx xs.length xs.length hi - HT.sIx xs.length 0 lo)
theorem cutV_length (xs : List V) (lo hi : Option Int) : (cutV xs lo hi).length ≤ xs.length := by
  unfold cutV
  rw [List.length_take, List.length_drop]
  omega
/-- t[lo:hi], not the whole of it (the whole would be t itself) -/
def rSlT (K : PySem.W.Frag) : V → Option Int → Option Int → Hp → VK → Prop := fun x lo hi H Q => ∃ a xs, x = .ref a ∧ SqT K H a xs ∧
  ¬ (HT.sIx xs.length 0 lo = 0 ∧ HT.sIx xs.length xs.length hi = xs.length) ∧ ∀ p, H p = none → Q (.ref p) (upd H p (.tup (cutV xs lo hi)))
theorem sl_tup : SlR X (rSlT X.K) := by
  intro pins s σ H x v vl vu lo hi sl Q I rx hs pl pu h
  obtain ⟨a, xs, rfl, hx, hw, q⟩ := h
  cases rx
  obtain ⟨its, r, ht, hz⟩ := I.tuple hx
  have hlen : its.toArray.size = xs.length := by rw [List.size_toArray]; exact r.length.symm
  refine ⟨"tuple", _, PyProof.Rows.slot_tuple_getitem.lookup, ht.typeIs, ?_⟩
  refine HT.getItem_tuple_cut ht hs pl pu (by rw [hlen]; exact hw) ?_ (by rw [hlen]; exact hz)
  rw [hlen]
  refine ⟨.ref s.heap.objs.size, _, I.laid (t' := s.toks) (o := .tup (cutV xs lo hi)) (fun b ob q => Heap.get?_push_of_some _ q) (Nat.le_refl _) ?_, rfl, q _ (I.hok.fresh (Nat.le_refl _))⟩
  exact ⟨Nat.le_trans (cutV_length xs lo hi) hz, _, (r.drop (HT.sIx xs.length 0 lo)).take (HT.sIx xs.length xs.length hi - HT.sIx xs.length 0 lo), IsTup.new _ _⟩

/-! ### t < u, t + u -/
def rLtT (K : PySem.W.Frag) : R2 := fun x y H Q => ∃ a b ns ms, x = .ref a ∧ y = .ref b ∧ SqT K H a (ns.map V.int) ∧ SqT K H b (ms.map V.int) ∧ Q (.bl (HT.lexLt ns ms)) H
theorem op_ltT (hu : X.A.units < cLine) : OpR X (compareOp .Lt) (rLtT X.K) := by
  intro pins s σ H x y v u Q I rx ry h
  obtain ⟨a, b, ns, ms, rfl, rfl, ha, hb, q⟩ := h
  cases rx
  cases ry
  obtain ⟨its, r1, p1, _⟩ := I.tuple ha
  obtain ⟨its2, r2, p2, _⟩ := I.tuple hb
  have i1 : IntsAre its.toArray.toList ns := intsAre_of r1
  have i2 : IntsAre its2.toArray.toList ms := intsAre_of r2
  exact HT.lt_tupInts p1 p2 i1 i2 hu ⟨.bl (HT.lexLt ns ms), H, I, rfl, q⟩
/-- t + u, t not empty: u empty gives t itself -/
def rCatT (K : PySem.W.Frag) : R2 := fun x y H Q => ∃ a b xs ys, x = .ref a ∧ y = .ref b ∧ SqT K H a xs ∧ SqT K H b ys ∧ xs ≠ [] ∧ xs.length + ys.length ≤ sizeLine ∧
  (ys = [] → Q (.ref a) H) ∧ (ys ≠ [] → ∀ p, H p = none → Q (.ref p) (upd H p (.tup (xs ++ ys))))
theorem Vals.nil_iff {xs : List V} {us : List Value} (r : Vals xs us) : us = [] ↔ xs = [] := by
  cases r with
  | nil => simp
  | cons _ _ => simp
theorem op_catT : OpR X (binaryOp .Add) (rCatT X.K) := by
  intro pins s σ H x y v u Q I rx ry h
  obtain ⟨a, b, xs, ys, rfl, rfl, ha, hb, hx, hz, q1, q2⟩ := h
  cases rx
  cases ry
  obtain ⟨its, r1, p1, _⟩ := I.tuple ha
  obtain ⟨its2, r2, p2, _⟩ := I.tuple hb
  refine HT.cat_tup p1 p2 (fun z => hx (r1.nil_iff.mp z)) (fun z => ⟨.ref a, H, I, rfl, q1 (r2.nil_iff.mp z)⟩) (fun z => ?_) (by rw [← r1.length, ← r2.length]; exact hz)
  refine ⟨.ref s.heap.objs.size, _, I.laid (t' := s.toks) (o := .tup (xs ++ ys)) (fun b ob q => Heap.get?_push_of_some _ q) (Nat.le_refl _) ?_, rfl, q2 (fun w => z (r2.nil_iff.mpr w)) _ (I.hok.fresh (Nat.le_refl _))⟩
  exact ⟨by rw [List.length_append]; exact hz, _, r1.append r2, IsTup.new _ _⟩
/-- tuple(t) -/
theorem call_tupleT : CallR X (.type "tuple") (fun xs H Q => ∃ a ys, xs = [.ref a] ∧ SqT X.K H a ys ∧ Q (.ref a) H) := by
  intro pins s σ H xs us Q I r h
  obtain ⟨a, ys, rfl, ha, q⟩ := h
  obtain ⟨u, rfl, ru⟩ := vals1 r
  cases ru
  obtain ⟨its, _, p1, _⟩ := I.tuple ha
  exact call_tuple_same (items := its.toArray) p1 ⟨.ref a, H, I, rfl, q⟩
end
end L2

namespace L2
open PySem PySem.Spec PyProof.Rows

/-! ### places -/
/-- the place that an index of any sign means -/
def ixN (n : Nat) (i : Int) : Option Nat := if 0 ≤ i then (if i < n then some i.toNat else none) else if -(n : Int) ≤ i then some (i + n).toNat else none
def atI {α : Type} (xs : List α) (i : Int) : Option α := (ixN xs.length i).bind fun j => xs[j]?
theorem ixN_seq {n : Nat} {i : Int} {j : Nat} (h : ixN n i = some j) : seqIndex? i n = some j ∧ j < n ∧ -(n : Int) ≤ i ∧ i < n := by
  unfold ixN at h
  by_cases h0 : 0 ≤ i
  · rw [if_pos h0] at h
    by_cases h1 : i < n
    · rw [if_pos h1] at h
      have e : i.toNat = j := Option.some.inj h
      exact ⟨by rw [seqIndex_of h0 h1, e], by omega, by omega, h1⟩
    · rw [if_neg h1] at h; cases h
  · rw [if_neg h0] at h
    by_cases h1 : -(n : Int) ≤ i
    · rw [if_pos h1] at h
      have e : (i + n).toNat = j := Option.some.inj h
      exact ⟨by rw [seqIndex_neg (by omega) h1, e], by omega, h1, by omega⟩
    · rw [if_neg h1] at h; cases h
theorem atI_get {α : Type} {xs : List α} {i : Int} {v : α} (h : atI xs i = some v) : ∃ j, seqIndex? i xs.length = some j ∧ xs[j]? = some v ∧ j < xs.length ∧ -(xs.length : Int) ≤ i ∧ i < xs.length := by
  unfold atI at h
  cases e : ixN xs.length i with
  | none => rw [e] at h; cases h
  | some j =>
    rw [e] at h
    obtain ⟨h1, h2, h3, h4⟩ := ixN_seq e
    exact ⟨j, h1, h, h2, h3, h4⟩
theorem atI_nat {α : Type} {xs : List α} {j : Nat} {v : α} (h : xs[j]? = some v) : atI xs (j : Int) = some v := by
  have hj : j < xs.length := (List.getElem?_eq_some_iff.mp h).1
  have e : ixN xs.length (j : Int) = some j := by
    unfold ixN
    rw [if_pos (by omega), if_pos (by omega)]; simp
  unfold atI; rw [e]; exact h
theorem atI_last {α : Type} (xs : List α) (v : α) : atI (xs ++ [v]) (-1) = some v := by
  have hl : (xs ++ [v]).length = xs.length + 1 := by simp
  have e : ixN (xs ++ [v]).length (-1) = some xs.length := by
    unfold ixN
    rw [hl, if_neg (by decide), if_pos (by omega)]
    congr 1
    omega
  unfold atI
  rw [e]
  show (xs ++ [v])[xs.length]? = some v
  simp

/-! ### what may be subscripted -/
/-- what stands as an index of a plain subscript -/
def PlainIx (b : Expr) : Prop := ∀ o i, subscripted b false o i = operate [o, i] (getItem o i)
/-- a subscript by values -/
def IxR (X : Cx) (r : R2) : Prop :=
  ∀ (value slice : Expr) (pins : List (Addr × Obj)) (s : Shared) (σ : St) (H : Hp) (x y : V) (v u : Value) (Q : VK), Inv X pins σ H s → RelV x v → RelV y u → r x y H Q →
    subscripted slice false v u = operate [v, u] (getItem v u) → wpAny (model X.prog X.w) X.A (subscriptTail value slice v u) (EP X pins σ Q) X.xe s
/-- a call of a builtin's method by values: the receiver, the arguments -/
def MtR (X : Cx) (id : String) (r : V → List V → Hp → VK → Prop) : Prop :=
  ∀ (pins : List (Addr × Obj)) (s : Shared) (σ : St) (H : Hp) (x : V) (xs : List V) (v : Value) (us : List Value) (Q : VK), Inv X pins σ H s → RelV x v → Vals xs us → r x xs H Q →
    wpAny (model X.prog X.w) X.A (call (.builtin id) (v :: us)) (EP X pins σ Q) X.xe s
section
variable {X : Cx} {a b : Expr} {ta tb : TE} {pos : Pos}
theorem IxR.or {r r' : R2} (h : IxR X r) (h' : IxR X r') : IxR X (fun x y H Q => r x y H Q ∨ r' x y H Q) := by
  intro value slice pins s σ H x y v u Q I rx ry q hs
  rcases q with q | q
  · exact h value slice pins s σ H x y v u Q I rx ry q hs
  · exact h' value slice pins s σ H x y v u Q I rx ry q hs
theorem MtR.or {id : String} {r r' : V → List V → Hp → VK → Prop} (h : MtR X id r) (h' : MtR X id r') : MtR X id (fun x xs H Q => r x xs H Q ∨ r' x xs H Q) := by
  intro pins s σ H x xs v us Q I rx rs q
  rcases q with q | q
  · exact h pins s σ H x xs v us Q I rx rs q
  · exact h' pins s σ H x xs v us Q I rx rs q
/-- a[b] -/
theorem pe_ix {r : R2} (hr : IxR X r) (ha : PE X a ta) (hb : PE X b tb) (hs : PlainIx b) : PE X (.Subscript a b pos) (tOp r ta tb) := by
  intro pins s σ H Q I h
  exact Subscript_ (binT ha hb I h fun v u s2 x y H2 I2 rx ry q => hr a b pins s2 σ H2 x y v u Q I2 rx ry q (hs _ _))

def rIxL (K : PySem.W.Frag) : R2 := fun x y H Q => ∃ p xs i v, x = .ref p ∧ y = .int i ∧ SqL K H p xs ∧ atI xs i = some v ∧ Q v H
def rIxT (K : PySem.W.Frag) : R2 := fun x y H Q => ∃ p xs i v, x = .ref p ∧ y = .int i ∧ SqT K H p xs ∧ atI xs i = some v ∧ Q v H
def rIxS : R2 := fun x y H Q => ∃ z i c, x = .str z ∧ y = .int i ∧ z.length ≤ sizeLine ∧ atI z.cps.toList i = some c ∧ Q (.str ⟨#[c]⟩) H
theorem ix_list : IxR X (rIxL X.K) := by
  intro value slice pins s σ H x y v u Q I rx ry h hs
  obtain ⟨p, xs, i, z, rfl, rfl, hq, he, q⟩ := h
  cases rx
  obtain ⟨t, rfl⟩ := ry
  obtain ⟨its, r, pl, hz⟩ := I.list hq
  obtain ⟨j, h1, h2, h3, h4, h5⟩ := atI_get he
  obtain ⟨w, ew, rw'⟩ := r.get h2
  have hl := r.length
  have hn := line63
  have fin : EP X pins σ Q w s := ⟨z, H, I, rw', q⟩
  by_cases h0 : 0 ≤ i
  · have hj : i.toNat = j := by
      rw [seqIndex_of h0 h5] at h1
      exact Option.some.inj h1
    exact item_listR pl.isList h0 (by omega) (by rw [hj]; simpa using ew) fin hs
  · have hj : (i + (its.toArray.size : Int)).toNat = j := by
      rw [seqIndex_neg (by omega) h4] at h1
      rw [List.size_toArray, ← hl]
      exact Option.some.inj h1
    exact subscriptTail_builtinR (x := w) pl.isList.typeIs slot_list_getitem.lookup
      (wpAny_getItem_list_neg (Q := fun r s' => r = w ∧ EP X pins σ Q r s') pl.isList (by omega) (by rw [List.size_toArray] <;> omega) (by omega) (by rw [hj]; simpa using ew) ⟨rfl, fin⟩) hs
theorem ix_tup : IxR X (rIxT X.K) := by
  intro value slice pins s σ H x y v u Q I rx ry h hs
  obtain ⟨p, xs, i, z, rfl, rfl, hq, he, q⟩ := h
  cases rx
  obtain ⟨t, rfl⟩ := ry
  obtain ⟨its, r, pl, hz⟩ := I.tuple hq
  obtain ⟨j, h1, h2, h3, h4, h5⟩ := atI_get he
  obtain ⟨w, ew, rw'⟩ := r.get h2
  have hl := r.length
  have hn := line63
  have fin : EP X pins σ Q w s := ⟨z, H, I, rw', q⟩
  exact subscriptTail_builtinR (x := w) pl.typeIs slot_tuple_getitem.lookup
    (getItem_tuple (j := j) (Q := fun r s' => r = w ∧ EP X pins σ Q r s') pl (by omega) (by omega) (by rw [List.size_toArray, ← hl]; exact h1) (by simpa using ew) ⟨rfl, fin⟩) hs
theorem ix_str : IxR X rIxS := by
  intro value slice pins s σ H x y v u Q I rx ry h hs
  obtain ⟨z, i, c, rfl, rfl, hz, he, q⟩ := h
  obtain ⟨t, rfl⟩ := rx
  obtain ⟨t', rfl⟩ := ry
  obtain ⟨j, h1, h2, h3, h4, h5⟩ := atI_get he
  have hl : z.cps.toList.length = z.length := by simp [Str.length]
  rw [hl] at h1 h4 h5
  have hn := line63
  exact tail_any (typeIs_str s z t) slot_str_getitem.lookup (getItem_str (c := c) (by
    have e1 : decide (i < -(2 ^ 63 : Int)) = false := decide_eq_false (by omega)
    have e2 : decide (i ≥ 2 ^ 63) = false := decide_eq_false (by omega)
    rw [e1, e2, Bool.or_false]) (by rw [h1]; simpa using h2) ⟨.str ⟨#[c]⟩, H, I.tok _, ⟨_, rfl⟩, q⟩) hs
/-- list, tuple or str -/
def rIx (K : PySem.W.Frag) : R2 := fun x y H Q => rIxL K x y H Q ∨ rIxT K x y H Q ∨ rIxS x y H Q
theorem ix_seq : IxR X (rIx X.K) := ix_list.or (ix_tup.or ix_str)

/-! ### xs[i] = v, any sign -/
/-- the list's object behind a store -/
theorem mapSeq_set (its : List Value) (n j : Nat) (u : Value) : Obj.mapSeq (·.setIfInBounds j u) { cls := .type "list", data := .seq its.toArray n } = { cls := .type "list", data := .seq (its.set j u).toArray n } := by
  simp [Obj.mapSeq]
theorem Inv.lst {pins : List (Addr × Obj)} {σ : St} {H : Hp} {s : Shared} {p : Addr} {xs : List V} (I : Inv X pins σ H s) (h : H p = some (.lst xs)) :
    ∃ (its : List Value) (n : Nat), Vals xs its ∧ s.heap.get? p = some { cls := .type "list", data := .seq its.toArray n } ∧ xs.length ≤ sizeLine := by
  obtain ⟨z, its, n, r, e⟩ := I.hok p _ h
  exact ⟨its, n, r, e, z⟩
/-- the list at p is written by an update of its object -/
theorem Inv.lstUpd {pins : List (Addr × Obj)} {σ : St} {H : Hp} {s : Shared} {p : Addr} {xs ys : List V} {its its' : List Value} {n n' : Nat} {f : Obj → Obj} (I : Inv X pins σ H s) (h : H p = some (.lst xs))
    (ho : s.heap.get? p = some { cls := .type "list", data := .seq its.toArray n }) (hf : f { cls := .type "list", data := .seq its.toArray n } = { cls := .type "list", data := .seq its'.toArray n' }) (r : Vals ys its') (hz : ys.length ≤ sizeLine) (t : Nat) :
    Inv X pins σ (upd H p (.lst ys)) { s with heap := s.heap.update p f, toks := t } := by
  have e : (s.heap.update p f).get? p = some { cls := .type "list", data := .seq its'.toArray n' } := by
    rw [Heap.get?_update_self f ho (by rw [hf] <;> rfl), hf]
  refine I.write (x := p) (e := p) (by rw [h]; trivial) (.inl rfl) (fun b u hb q => (Heap.get?_update_other _ _ (Ne.symm hb)).trans q) ⟨_, e⟩ ?_
  exact ⟨hz, its', n', r, e⟩
def rSetL : V → V → V → Hp → (Hp → Prop) → Prop := fun o i v H Q => ∃ p xs k j, o = .ref p ∧ i = .int k ∧ H p = some (.lst xs) ∧ ixN xs.length k = some j ∧ Q (upd H p (.lst (xs.set j v)))
theorem set_list : PSet X rSetL := by
  intro pins s σ H o i v ov iv u Q I ro ri rv h
  obtain ⟨p, xs, k, j, rfl, rfl, hp, hj, q⟩ := h
  cases ro
  obtain ⟨t, rfl⟩ := ri
  obtain ⟨its, n, r, ho, hz⟩ := I.lst hp
  obtain ⟨h1, h2, h3, h4⟩ := ixN_seq hj
  have hl := r.length
  have hn := line63
  have I' : Inv X pins σ (upd H p (.lst (xs.set j v))) { s with heap := s.heap.update p (Obj.mapSeq (·.setIfInBounds j u)) } :=
    I.lstUpd hp ho (mapSeq_set its n j u) (r.set rv j) (by rw [List.length_set]; exact hz) s.toks
  by_cases h0 : 0 ≤ k
  · have hk : k.toNat = j := by
      rw [seqIndex_of h0 h4] at h1
      exact Option.some.inj h1
    exact PySem.W.ki_setAt ho h0 (by omega) (by rw [List.size_toArray, ← hl]; exact h4) (by rw [hk]; exact ⟨_, I', q⟩)
  · have hk : (k + (its.toArray.size : Int)).toNat = j := by
      rw [seqIndex_neg (by omega) h3] at h1
      rw [List.size_toArray, ← hl]
      exact Option.some.inj h1
    exact PySem.W.ki_setBack ho (by omega) (by rw [List.size_toArray, ← hl]; exact h3) (by omega) (by rw [hk]; exact ⟨_, I', q⟩)

/-! ### slices -/
theorem slice_bounds (lo hi : Option Int) (n : Nat) : (sliceBounds lo hi none n).1 = ((HT.sIx n 0 lo : Nat) : Int) ∧ (sliceBounds lo hi none n).2.1 = ((HT.sIx n n hi : Nat) : Int) ∧ (sliceBounds lo hi none n).2.2 = 1 := by
  refine ⟨?_, ?_, rfl⟩
  · cases lo with
    | none => simp [sliceBounds, HT.sIx]
    | some i =>
      simp only [sliceBounds, HT.sIx, Option.getD_none, show (1 : Int) > 0 by decide, if_true]
      by_cases h : i < 0
      · simp only [h, if_true] <;> omega
      · simp only [h, if_false] <;> omega
  · cases hi with
    | none => simp [sliceBounds, HT.sIx]
    | some i =>
      simp only [sliceBounds, HT.sIx, Option.getD_none, show (1 : Int) > 0 by decide, if_true]
      by_cases h : i < 0
      · simp only [h, if_true] <;> omega
      · simp only [h, if_false] <;> omega
theorem slicePick_cut (its : List Value) (lo hi : Option Int) : slicePick its.toArray lo hi none = ((its.drop (HT.sIx its.length 0 lo)).take (HT.sIx its.length its.length hi - HT.sIx its.length 0 lo)).toArray := by
  obtain ⟨h1, h2, h3⟩ := slice_bounds lo hi its.toArray.size
  unfold slicePick
  rw [h1, h2, h3]
  simp only [sliceRange_one, pick_run, List.size_toArray] <;> rfl
/-- xs[lo:hi] of a list: a new list -/
def rSlL (K : PySem.W.Frag) : V → Option Int → Option Int → Hp → VK → Prop := fun x lo hi H Q => ∃ a xs, x = .ref a ∧ SqL K H a xs ∧ ∀ p, H p = none → Q (.ref p) (upd H p (.lst (cutV xs lo hi)))
theorem sl_list : SlR X (rSlL X.K) := by
  intro pins s σ H x v vl vu lo hi sl Q I rx hs pl pu h
  obtain ⟨a, xs, rfl, hx, q⟩ := h
  cases rx
  obtain ⟨its, r, ht, hz⟩ := I.list hx
  have hlen := r.length
  refine ⟨"list", _, slot_list_getitem.lookup, ht.isList.typeIs, ?_⟩
  refine wpAny_getItem_list_slice ht.isList hs pl pu .none (by simp) ?_ (by rw [List.size_toArray] <;> omega)
  rw [slicePick_cut, ← hlen]
  refine ⟨.ref s.heap.objs.size, _, I.laid (t' := s.toks) (o := .lst (cutV xs lo hi)) (fun b ob q => Heap.get?_push_of_some _ q) (Nat.le_refl _) ?_, rfl, q _ (I.hok.fresh (Nat.le_refl _))⟩
  exact ⟨Nat.le_trans (cutV_length xs lo hi) hz, _, 0, (r.drop (HT.sIx xs.length 0 lo)).take (HT.sIx xs.length xs.length hi - HT.sIx xs.length 0 lo), Heap.get?_push_size _ rfl⟩

/-! ### in, not in: flat items -/
def flatV : V → Bool
  | .non => true
  | .bl _ => true
  | .int _ => true
  | .str _ => true
  | _ => false
/-- == of flat values -/
def eqV : V → V → Bool
  | .non, .non => true
  | .bl a, .bl b => a == b
  | .bl a, .int b => (if a then 1 else 0) == b
  | .int a, .bl b => a == (if b then 1 else 0)
  | .int a, .int b => a == b
  | .str a, .str b => a == b
  | _, _ => false
theorem eqAt_V {A : Around} {s : Shared} {y x : V} {u v : Value} (ry : RelV y u) (rx : RelV x v) (fy : flatV y = true) (fx : flatV x = true) : SeqAt.EqAt A s u v (eqV y x) := by
  cases y with
  | non =>
    cases ry
    cases x with
    | non => cases rx; exact SeqAt.EqAt.same _
    | bl b => cases rx; exact SeqAt.EqAt.none_bool b
    | int b => obtain ⟨t, rfl⟩ := rx; exact SeqAt.EqAt.none_int b t
    | str b => obtain ⟨t, rfl⟩ := rx; exact SeqAt.EqAt.none_str b t
    | _ => exact absurd (show false = true from fx) Bool.false_ne_true
  | bl a =>
    cases ry
    cases x with
    | non => cases rx; exact SeqAt.EqAt.bool_none a
    | bl b => cases rx; exact SeqAt.EqAt.bool_bool a b
    | int b => obtain ⟨t, rfl⟩ := rx; exact SeqAt.EqAt.bool_int a b t
    | str b => obtain ⟨t, rfl⟩ := rx; exact SeqAt.EqAt.bool_str a b t
    | _ => exact absurd (show false = true from fx) Bool.false_ne_true
  | int a =>
    obtain ⟨t', rfl⟩ := ry
    cases x with
    | non => cases rx; exact SeqAt.EqAt.int_none a t'
    | bl b => cases rx; exact SeqAt.EqAt.int_bool a t' b
    | int b => obtain ⟨t, rfl⟩ := rx; exact SeqAt.EqAt.int_int a t' b t
    | str b => obtain ⟨t, rfl⟩ := rx; exact SeqAt.EqAt.int_str a t' b t
    | _ => exact absurd (show false = true from fx) Bool.false_ne_true
  | str a =>
    obtain ⟨t', rfl⟩ := ry
    cases x with
    | non => cases rx; exact SeqAt.EqAt.str_none a t'
    | bl b => cases rx; exact SeqAt.EqAt.str_bool a t' b
    | int b => obtain ⟨t, rfl⟩ := rx; exact SeqAt.EqAt.str_int a t' b t
    | str b => obtain ⟨t, rfl⟩ := rx; exact SeqAt.EqAt.str_str a t' b t
    | _ => exact absurd (show false = true from fx) Bool.false_ne_true
  | _ => exact absurd (show false = true from fy) Bool.false_ne_true
/-- the items' answers, read off the values (a value's own answer does not lean on its token) -/
def eqU (x : V) (u : Value) : Bool := match u with
  | .none => eqV .non x
  | .bool b => eqV (.bl b) x
  | .int i _ => eqV (.int i) x
  | .str z _ => eqV (.str z) x
  | _ => false
theorem eqU_of {x y : V} {u : Value} (r : RelV y u) (f : flatV y = true) : eqU x u = eqV y x := by
  cases y with
  | non => cases r; rfl
  | bl b => cases r; rfl
  | int i => obtain ⟨t, rfl⟩ := r; rfl
  | str z => obtain ⟨t, rfl⟩ := r; rfl
  | _ => exact absurd (show false = true from f) Bool.false_ne_true
theorem any_eqU {x : V} : ∀ {xs : List V} {us : List Value}, Vals xs us → xs.all flatV = true → us.any (eqU x) = xs.any fun y => eqV y x
  | _, _, .nil, _ => rfl
  | y :: xs, u :: us, .cons r t, f => by
    rw [List.all_cons, Bool.and_eq_true] at f
    rw [List.any_cons, List.any_cons, eqU_of r f.1, any_eqU t f.2]
theorem mem_eqAt {A : Around} {s : Shared} {x : V} {v : Value} (rx : RelV x v) (fx : flatV x = true) : ∀ {xs : List V} {us : List Value}, Vals xs us → xs.all flatV = true → ∀ u ∈ us, SeqAt.EqAt A s u v (eqU x u)
  | _, _, .nil, _ => fun u hu => by cases hu
  | y :: xs, u :: us, .cons r t, f => fun u' hu => by
    rw [List.all_cons, Bool.and_eq_true] at f
    rcases List.mem_cons.mp hu with rfl | hu
    · rw [eqU_of r f.1]; exact eqAt_V r rx f.1 fx
    · exact mem_eqAt rx fx t f.2 u' hu
def inV (x : V) (xs : List V) : Bool := xs.any fun y => eqV y x
/-- x in a list or tuple of flat items -/
def rIn (K : PySem.W.Frag) (neg : Bool) : R2 := fun x y H Q => ∃ p xs, y = .ref p ∧ (SqL K H p xs ∨ SqT K H p xs) ∧ flatV x = true ∧ xs.all flatV = true ∧ Q (.bl (if neg then !inV x xs else inV x xs)) H
theorem op_in_seq : OpR X (compareOp .In) (rIn X.K false) := by
  intro pins s σ H x y v u Q I rx ry h
  obtain ⟨p, xs, rfl, hq, fx, fs, q⟩ := h
  cases ry
  rcases hq with hq | hq
  · obtain ⟨its, r, pl, hz⟩ := I.list hq
    refine SeqAt.in_listAt (eqU x) pl.isList (fun w hw => mem_eqAt rx fx r fs w (by simpa using hw)) ⟨.bl _, H, I, rfl, ?_⟩
    rw [show its.toArray.any (eqU x) = its.any (eqU x) by simp, any_eqU r fs]
    exact q
  · obtain ⟨its, r, pl, hz⟩ := I.tuple hq
    refine SeqAt.in_tupleAt (eqU x) pl (fun w hw => mem_eqAt rx fx r fs w (by simpa using hw)) ⟨.bl _, H, I, rfl, ?_⟩
    rw [show its.toArray.any (eqU x) = its.any (eqU x) by simp, any_eqU r fs]
    exact q
theorem op_notIn_seq : OpR X (compareOp .NotIn) (rIn X.K true) := by
  intro pins s σ H x y v u Q I rx ry h
  obtain ⟨p, xs, rfl, hq, fx, fs, q⟩ := h
  cases ry
  rcases hq with hq | hq
  · obtain ⟨its, r, pl, hz⟩ := I.list hq
    refine SeqAt.notIn_listAt (eqU x) pl.isList (fun w hw => mem_eqAt rx fx r fs w (by simpa using hw)) ⟨.bl _, H, I, rfl, ?_⟩
    rw [show its.toArray.any (eqU x) = its.any (eqU x) by simp, any_eqU r fs]
    exact q
  · obtain ⟨its, r, pl, hz⟩ := I.tuple hq
    refine SeqAt.notIn_tupleAt (eqU x) pl (fun w hw => mem_eqAt rx fx r fs w (by simpa using hw)) ⟨.bl _, H, I, rfl, ?_⟩
    rw [show its.toArray.any (eqU x) = its.any (eqU x) by simp, any_eqU r fs]
    exact q
theorem op_notIn_str : OpR X (compareOp .NotIn) (fun x y H Q => ∃ i j, x = .str i ∧ y = .str j ∧ Q (.bl (!(!(Builtin.Str.occurrences j i 0 j.length 1).isEmpty))) H) := by
  intro pins s σ H x y v u Q I rx ry h
  obtain ⟨i, j, rfl, rfl, q⟩ := h
  obtain ⟨t, rfl⟩ := rx
  obtain ⟨t', rfl⟩ := ry
  exact notIn_str ⟨.bl _, H, I, rfl, q⟩

/-! ### len, list(x), tuple(x) of any list or tuple that is read -/
theorem call_len_seq : CallR X (.builtin "len") (fun xs H Q => ∃ p ys, xs = [.ref p] ∧ (SqL X.K H p ys ∨ SqT X.K H p ys) ∧ Q (.int ys.length) H) := by
  intro pins s σ H xs us Q I r h
  obtain ⟨p, ys, rfl, hq, q⟩ := h
  obtain ⟨u, rfl, rx⟩ := vals1 r
  cases rx
  have hn := line63
  rcases hq with hq | hq
  · obtain ⟨its, r', pl, hz⟩ := I.list hq
    have hlen := r'.length
    exact Calls.call_len_list pl.isList (by simp only [List.size_toArray] <;> omega) ⟨.int ys.length, H, I.tok _, ⟨s.toks + 1, by rw [List.size_toArray, hlen]⟩, q⟩
  · obtain ⟨its, r', pl, hz⟩ := I.tuple hq
    have hlen := r'.length
    exact len_tuple pl (by simp only [List.size_toArray] <;> omega) ⟨.int ys.length, H, I.tok _, ⟨s.toks + 1, by rw [List.size_toArray, hlen]⟩, q⟩
theorem call_len_str : CallR X (.builtin "len") (fun xs H Q => ∃ z, xs = [.str z] ∧ z.length ≤ sizeLine ∧ Q (.int z.length) H) := by
  intro pins s σ H xs us Q I r h
  obtain ⟨z, rfl, hz, q⟩ := h
  obtain ⟨u, rfl, t, rfl⟩ := vals1 r
  have hn := line63
  exact len_str (by omega) ⟨.int z.length, H, I.tok _, ⟨_, rfl⟩, q⟩
theorem CallR.or {f : Value} {r r' : List V → Hp → VK → Prop} (h : CallR X f r) (h' : CallR X f r') : CallR X f (fun xs H Q => r xs H Q ∨ r' xs H Q) := by
  intro pins s σ H xs us Q I rs q
  rcases q with q | q
  · exact h pins s σ H xs us Q I rs q
  · exact h' pins s σ H xs us Q I rs q
theorem call_list_of : CallR X (.type "list") (fun xs H Q => ∃ p ys, xs = [.ref p] ∧ (SqL X.K H p ys ∨ SqT X.K H p ys) ∧ ∀ l, H l = none → Q (.ref l) (upd H l (.lst ys))) := by
  intro pins s σ H xs us Q I r h
  obtain ⟨p, ys, rfl, hq, q⟩ := h
  obtain ⟨u, rfl, rx⟩ := vals1 r
  cases rx
  have fin : ∀ (its : List Value), Vals ys its → ys.length ≤ sizeLine → ∀ (h' : Heap) (c' : Nat), (∀ b o', s.heap.get? b = some o' → h'.get? b = some o') →
      h'.get? s.heap.objs.size = some { cls := .type "list", dict := none, data := .seq its.toArray c', slots := #[] } → EP X pins σ Q (.ref s.heap.objs.size) { s with heap := h' } := fun its r' hz h' c' kp e =>
    ⟨.ref s.heap.objs.size, _, I.laid (t' := s.toks) kp (Nat.le_refl _) (show ObjOk X.prog X.w _ h' _ (.lst ys) from ⟨hz, its, c', r', e⟩), rfl, q _ (I.hok.fresh (Nat.le_refl _))⟩
  rcases hq with hq | hq
  · obtain ⟨its, r', pl, hz⟩ := I.list hq
    have hlen := r'.length
    obtain ⟨o, ho, hc, n, hd⟩ := pl.isList
    exact call_list_seq p (.inl rfl) ho hc hd (fun h' c' kp e => fin its r' hz h' c' kp e) (by simp only [List.size_toArray] <;> omega)
  · obtain ⟨its, r', pl, hz⟩ := I.tuple hq
    have hlen := r'.length
    obtain ⟨o, ho, hc, n, hd⟩ := pl
    exact call_list_seq p (.inr rfl) ho hc hd (fun h' c' kp e => fin its r' hz h' c' kp e) (by simp only [List.size_toArray] <;> omega)
theorem call_tuple_of : CallR X (.type "tuple") (fun xs H Q => ∃ p ys, xs = [.ref p] ∧ ((SqL X.K H p ys ∧ ∀ l, H l = none → Q (.ref l) (upd H l (.tup ys))) ∨ (SqT X.K H p ys ∧ Q (.ref p) H))) := by
  intro pins s σ H xs us Q I r h
  obtain ⟨p, ys, rfl, h⟩ := h
  obtain ⟨u, rfl, rx⟩ := vals1 r
  cases rx
  rcases h with ⟨hq, q⟩ | ⟨hq, q⟩
  · obtain ⟨its, r', pl, hz⟩ := I.list hq
    have hlen := r'.length
    refine call_tuple_list pl.isList (fun h' kp => ?_) (by simp only [List.size_toArray] <;> omega)
    have I1 : Inv X pins σ H { s with heap := h' } := I.kept (t' := s.toks) kp
    have I2 : Inv X pins σ (upd H h'.objs.size (.tup ys)) { s with heap := h'.push { cls := .type "tuple", data := .seq its.toArray } } :=
      I1.laid (t' := s.toks) (fun b o e => Heap.get?_push_of_some _ e) (Nat.le_refl _) (show ObjOk X.prog X.w _ _ _ (.tup ys) from ⟨hz, its, r', IsTup.new _ _⟩)
    exact ⟨.ref h'.objs.size, _, I2, rfl, q _ (I1.hok.fresh (Nat.le_refl _))⟩
  · obtain ⟨its, r', pl, hz⟩ := I.tuple hq
    exact call_tuple_same pl ⟨.ref p, H, I, rfl, q⟩

/-! ### the call of a builtin's method: o.m(..) -/
/-- the value is of that builtin type -/
def tyV (K : PySem.W.Frag) (T : String) (x : V) (H : Hp) : Prop := match x with
  | .str _ => T = "str"
  | .int _ => T = "int"
  | .ref p => (T = "list" ∧ ∃ xs, SqL K H p xs) ∨ (T = "tuple" ∧ ∃ o, K.lookup p = some o ∧ o.cls = .type "tuple" ∧ o.dict = none) ∨
      (T = "dict" ∧ ((∃ kvs, H p = some (.dK kvs)) ∨ ∃ kvs, H p = some (.dT kvs))) ∨ (T = "set" ∧ ∃ S n, H p = some (.set S n))
  | _ => False
theorem tyV_is {pins : List (Addr × Obj)} {σ : St} {H : Hp} {s : Shared} {T : String} {x : V} {v : Value} (I : Inv X pins σ H s) (r : RelV x v) (ty : tyV X.K T x H) :
    s.TypeIs v T ∧ ∀ a, v = .ref a → ∃ ob, s.heap.get? a = some ob ∧ ob.dict = none := by
  cases x with
  | str z =>
    obtain ⟨t, rfl⟩ := r
    cases (show T = "str" from ty)
    exact ⟨typeIs_str s z t, fun _ e => nomatch e⟩
  | int i =>
    obtain ⟨t, rfl⟩ := r
    cases (show T = "int" from ty)
    exact ⟨typeIs_int s i t, fun _ e => nomatch e⟩
  | ref p =>
    cases r
    rcases ty with ⟨rfl, xs, hq⟩ | ⟨rfl, o, hk, hc, hd⟩ | ⟨rfl, hk⟩ | ⟨rfl, S, n, hk⟩
    · obtain ⟨its, _, pl, _⟩ := I.list hq
      refine ⟨pl.isList.typeIs, fun a e => ?_⟩
      cases e
      obtain ⟨o, n, e, c, hd, _⟩ := pl
      exact ⟨o, e, hd⟩
    · refine ⟨⟨o, I.kIn p o hk, hc⟩, fun a e => ?_⟩
      cases e
      exact ⟨o, I.kIn _ o hk, hd⟩
    · have z : ∃ o, s.heap.get? p = some o ∧ o.ExactDict := by
        rcases hk with ⟨kvs, hk⟩ | ⟨kvs, hk⟩
        · obtain ⟨_, _, _, _, o, _, _, e, ex, _⟩ := I.hok p _ hk
          exact ⟨o, e, ex⟩
        · obtain ⟨_, _, _, _, o, _, _, e, ex, _⟩ := I.hok p _ hk
          exact ⟨o, e, ex⟩
      obtain ⟨o, e, ex⟩ := z
      refine ⟨⟨o, e, ex.1⟩, fun a e2 => ?_⟩
      cases e2
      exact ⟨o, e, ex.2.1⟩
    · obtain ⟨o, _, _, _, e, ex, _⟩ := I.hok p _ hk
      refine ⟨⟨o, e, ex.1⟩, fun a e2 => ?_⟩
      cases e2
      exact ⟨o, e, ex.2.1⟩
  | _ => exact False.elim ty
def tBM0 (K : PySem.W.Frag) (T : String) (r : V → List V → Hp → VK → Prop) (to : TE) : TE := fun σ H Q => to σ H fun x H1 => tyV K T x H1 ∧ r x [] H1 Q
def tBM (K : PySem.W.Frag) (T : String) (r : V → List V → Hp → VK → Prop) (to : TE) (t : TA) : TE := fun σ H Q => to σ H fun x H1 => tyV K T x H1 ∧ t σ H1 fun xs H2 => r x xs H2 Q
variable {o e : Expr} {es : List Expr} {to : TE} {t : TA} {name : Str} {apos cpos : Pos} {T id : String} {r : V → List V → Hp → VK → Prop}
theorem pe_bm0 (pa : PlainAttrs T) (slot : Slot T name id) (hty : typeOf (.builtin id) = pure (.type "method_descriptor")) (hm : MtR X id r) (ho : PE X o to)
    (hbase : attributeBase o name X.env (eval o X.env) = eval o X.env := by rfl) (hline : (apos.endLine == cpos.line) = true := by rfl) : PE X (.Call (.Attribute o name apos) [] [] cpos) (tBM0 X.K T r to) := by
  intro pins s σ H Q I h
  refine wpAny_Call_method0_late hbase hline (thn (ho pins s σ H _ I h) fun v s1 ⟨x, H1, I1, r1, ty, q1⟩ => ?_)
  obtain ⟨h1, h2⟩ := tyV_is I1 r1 ty
  exact ⟨T, id, pa, slot, hty, h1, h2, Calls.callWith_builtin rfl (PySem.evalArgs_none (hm pins s1 σ H1 x [] v [] Q I1 r1 .nil q1))⟩
theorem pe_bm (pa : PlainAttrs T) (slot : Slot T name id) (hty : typeOf (.builtin id) = pure (.type "method_descriptor")) (hm : MtR X id r) (ho : PE X o to) (ha : PA X (e :: es) t)
    (hbase : attributeBase o name X.env (eval o X.env) = eval o X.env := by rfl)
    (hfew : ((backTo cpos (starEach (e :: es) X.env)).all (fun x => !x.1) && (backToKw cpos (keywordEach [] X.env)).all (fun x => x.1.isSome)
      && decide ((e :: es).length + ([] : List Keyword).length + (if ([] : List Keyword).isEmpty then 0 else 1) < 30)) = true := by rfl)
    (hline : (apos.endLine == cpos.line) = true := by rfl) (hs : starEach (e :: es) X.env = (false, eval e X.env) :: starEach es X.env := by rfl) (hplain : (backTo cpos (starEach es X.env)).any (·.1) = false := by rfl) :
    PE X (.Call (.Attribute o name apos) (e :: es) [] cpos) (tBM X.K T r to t) := by
  intro pins s σ H Q I h
  refine wpAny_Call_method_late hbase hfew hline rfl (thn (ho pins s σ H _ I h) fun v s1 ⟨x, H1, I1, r1, ty, q1⟩ => ?_)
  obtain ⟨h1, h2⟩ := tyV_is I1 r1 ty
  refine ⟨T, id, pa, slot, hty, h1, h2, ?_⟩
  have hA := ha cpos pins s1 σ H1 _ I1 q1
  rw [hs] at hA ⊢
  refine Calls.callWith_builtin (by show (false || (backTo cpos (starEach es X.env)).any (·.1)) = false; rw [hplain] <;> rfl) (Calls.evalArgs_plain ?_)
  exact thn hA fun us s2 ⟨vs, H2, I2, r2, q2⟩ => hm pins s2 σ H2 x vs v us Q I2 r1 r2 q2
/- xs.append(e), list.index on a module's tuple .. are MtR facts of 06m -/
end
end L2

namespace L2
open PySem PySem.Spec PyProof.Rows

def MtM (X : Cx) (id : String) (r : V → List V → Hp → VK → Prop) : Prop :=
  ∀ (pins : List (Addr × Obj)) (s : Shared) (σ : St) (H : Hp) (x : V) (xs : List V) (v : Value) (us : List Value) (Q : VK), Inv X pins σ H s → RelV x v → Vals xs us → r x xs H Q →
    wpAny (model X.prog X.w) X.A (call (.builtin id) (v :: us)) (EP X pins σ Q) X.xe s

/-! ### lists of values -/
theorem Vals.one : ∀ {x : V} {us : List Value}, Vals [x] us → ∃ u, us = [u] ∧ RelV x u
  | _, _, .cons r .nil => ⟨_, rfl, r⟩
theorem Vals.two : ∀ {x y : V} {us : List Value}, Vals [x, y] us → ∃ u v, us = [u, v] ∧ RelV x u ∧ RelV y v
  | _, _, _, .cons r (.cons q .nil) => ⟨_, _, rfl, r, q⟩
theorem Vals.zero : ∀ {us : List Value}, Vals [] us → us = []
  | _, .nil => rfl
theorem Vals.dropLast {xs : List V} {us : List Value} (h : Vals xs us) : Vals xs.dropLast us.dropLast := by
  induction h with
  | nil => exact .nil
  | cons r t ih =>
    cases t with
    | nil => exact .nil
    | cons q t' => exact .cons r ih
theorem Vals.eraseIdx : ∀ {xs : List V} {us : List Value} (i : Nat), Vals xs us → Vals (xs.eraseIdx i) (us.eraseIdx i)
  | _, _, _, .nil => .nil
  | _, _, 0, .cons _ t => t
  | _, _, i + 1, .cons r t => .cons r (Vals.eraseIdx i t)
theorem Vals.reverse {xs : List V} {us : List Value} (h : Vals xs us) : Vals xs.reverse us.reverse := by
  induction h with
  | nil => exact .nil
  | cons r t ih => rw [List.reverse_cons, List.reverse_cons]; exact Vals.append ih (.cons r .nil)
theorem Vals.rep {xs : List V} {us : List Value} (h : Vals xs us) : ∀ k : Nat, Vals (List.replicate k xs).flatten (List.replicate k us).flatten
  | 0 => .nil
  | k + 1 => by
    rw [List.replicate_succ, List.replicate_succ, List.flatten_cons, List.flatten_cons]
    exact Vals.append h (Vals.rep h k)
theorem erase_last {α : Type} (l : List α) : l.eraseIdx (l.length - 1) = l.dropLast := by
  induction l with
  | nil => rfl
  | cons a r ih =>
    cases r with
    | nil => rfl
    | cons b r =>
      have e : (a :: b :: r).length - 1 = ((b :: r).length - 1) + 1 := by
        have h1 : (a :: b :: r).length = r.length + 2 := rfl
        have h2 : (b :: r).length = r.length + 1 := rfl
        omega
      rw [e, List.eraseIdx_cons_succ, ih]
      all_goals rfl
theorem len_erase {α : Type} : ∀ (l : List α) (i : Nat), (l.eraseIdx i).length ≤ l.length
  | [], _ => Nat.le_refl _
  | _ :: _, 0 => Nat.le_succ _
  | _ :: r, i + 1 => Nat.succ_le_succ (len_erase r i)
theorem foldl_rep (its : List Value) : ∀ (k : Nat) (acc : List Value),
    List.foldl (fun x1 x2 => x1 ++ x2) acc.toArray (List.replicate k its.toArray) = (acc ++ (List.replicate k its).flatten).toArray
  | 0, acc => by simp
  | k + 1, acc => by
    have e : acc.toArray ++ its.toArray = (acc ++ its).toArray := by simp
    have e2 : (acc ++ its) ++ (List.replicate k its).flatten = acc ++ (List.replicate (k + 1) its).flatten := by
      rw [List.replicate_succ, List.flatten_cons, List.append_assoc]
    rw [← e2, ← foldl_rep its k (acc ++ its), ← e, List.replicate_succ, List.foldl_cons]

section
variable {X : Cx} {pins : List (Addr × Obj)} {σ : St} {H : Hp} {s : Shared} {l b : Addr} {xs ys zs : List V}

/-! ### the two steps: a tracked list is rewritten, a new list is laid -/
theorem Inv.lset {its its' : List Value} {n : Nat} {f : Array Value → Array Value} {t' : Nat} (I : Inv X pins σ H s) (hH : H l = some (.lst xs))
    (e : s.heap.get? l = some { cls := .type "list", data := .seq its.toArray n }) (hf : f its.toArray = its'.toArray) (hv : Vals ys its') (hz : ys.length ≤ sizeLine) :
    Inv X pins σ (upd H l (.lst ys)) { s with heap := s.heap.update l (Obj.mapSeq f), toks := t' } := by
  have q := PySem.IsL.update e f
  rw [hf] at q
  refine I.write (x := l) (e := l) (by rw [hH]; exact trivial) (.inl rfl) (fun b' u hb hu => (Heap.get?_update_other s.heap (Obj.mapSeq f) (Ne.symm hb)).trans hu) ⟨_, q⟩ ?_
  exact ⟨hz, its', _, hv, q⟩
theorem Inv.lnew {its : List Value} {t' : Nat} (I : Inv X pins σ H s) (hv : Vals ys its) (hz : ys.length ≤ sizeLine) :
    Inv X pins σ (upd H s.heap.objs.size (.lst ys)) { s with heap := s.heap.push { cls := .type "list", data := .seq its.toArray }, toks := t' } :=
  I.laid (fun _ _ q => Heap.get?_push_of_some _ q) (Nat.le_refl _) ⟨hz, its, 0, hv, Heap.get?_push_size _ rfl⟩
theorem Inv.fresh (I : Inv X pins σ H s) : H s.heap.objs.size = none := I.hok.fresh (Nat.le_refl _)
theorem Inv.lstM (I : Inv X pins σ H s) (hH : H l = some (.lst xs)) : xs.length ≤ sizeLine ∧ ∃ (its : List Value) (n : Nat), Vals xs its ∧ xs.length = its.length ∧ s.heap.get? l = some { cls := .type "list", data := .seq its.toArray n } := by
  obtain ⟨z, its, n, r, e⟩ := I.hok l _ hH
  exact ⟨z, its, n, r, r.length, e⟩

theorem notLongL {n : Nat} (h : n ≤ sizeLine) : Builtin.List.listTooLong n = false := by
  unfold Builtin.List.listTooLong
  exact decide_eq_false (by omega)
end

section
variable {X : Cx}

/-! ### methods -/
def rAppend : V → List V → Hp → VK → Prop := fun x vs H Q => ∃ l xs y, x = .ref l ∧ vs = [y] ∧ H l = some (.lst xs) ∧ xs.length < sizeLine ∧ Q .non (upd H l (.lst (xs ++ [y])))
theorem mt_append : MtM X "list.append" rAppend := by
  intro pins s σ H x vs v us Q I rx rv h
  obtain ⟨l, xs, y, rfl, rfl, hH, hz, q⟩ := h
  cases rx
  obtain ⟨u, rfl, ru⟩ := rv.one
  obtain ⟨z, its, n, r, hl, e⟩ := I.lstM hH
  refine call_meets F.slot_list_append ⟨_, e, rfl⟩ F.entry_list_append (F.args_list_append_2 _ _) (PySem.list_append l its.toArray n u (by rw [List.size_toArray]; omega)) ⟨e, ?_⟩
  refine ⟨.non, _, I.lset (its' := its ++ [u]) hH e (by simp) (r.append (.cons ru .nil)) ?_, rfl, q⟩
  rw [List.length_append, List.length_singleton]
  omega

def rExtend : V → List V → Hp → VK → Prop := fun x vs H Q => ∃ l b xs zs, x = .ref l ∧ vs = [.ref b] ∧ H l = some (.lst xs) ∧ H b = some (.lst zs) ∧ xs.length + zs.length ≤ sizeLine ∧ Q .non (upd H l (.lst (xs ++ zs)))
theorem mt_extend : MtM X "list.extend" rExtend := by
  intro pins s σ H x vs v us Q I rx rv h
  obtain ⟨l, b, xs, zs, rfl, rfl, hH, hB, hz, q⟩ := h
  cases rx
  obtain ⟨u, rfl, ru⟩ := rv.one
  cases ru
  obtain ⟨z, its, n, r, hl, e⟩ := I.lstM hH
  obtain ⟨z2, its2, n2, r2, hl2, e2⟩ := I.lstM hB
  have hsz : its.toArray.size + its2.toArray.size ≤ sizeLine := by rw [List.size_toArray, List.size_toArray]; omega
  have hlong : ¬ (!its.toArray.isEmpty && Builtin.List.listTooLong (its.toArray.size + its2.toArray.size)) = true := by
    rw [notLongL hsz, Bool.and_false]
    exact Bool.false_ne_true
  refine call_meets F.slot_list_extend ⟨_, e, rfl⟩ F.entry_list_extend (F.args_list_extend_2 _ _)
    (AutoSeq1.list_extend_list_list_0 l its.toArray n b its2.toArray n2 hlong (by rw [List.size_toArray]; omega) (by omega)) ⟨e, e2, ?_⟩
  refine ⟨.non, _, I.lset (its' := its ++ its2) hH e (by simp) (r.append r2) ?_, rfl, q⟩
  rw [List.length_append]
  omega

def rPop : V → List V → Hp → VK → Prop := fun x vs H Q => ∃ l xs y, x = .ref l ∧ vs = [] ∧ H l = some (.lst xs) ∧ xs[xs.length - 1]? = some y ∧ Q y (upd H l (.lst xs.dropLast))
theorem mt_pop : MtM X "list.pop" rPop := by
  intro pins s σ H x vs v us Q I rx rv h
  obtain ⟨l, xs, y, rfl, rfl, hH, hy, q⟩ := h
  cases rx
  have hus := rv.zero
  subst hus
  obtain ⟨z, its, n, r, hl, e⟩ := I.lstM hH
  obtain ⟨u, hu, ru⟩ := r.get hy
  have hy' : its.toArray[its.toArray.size - 1]? = some u := by
    show its.toArray[its.length - 1]? = some u
    rw [← Array.getElem?_toList, ← hl]
    exact hu
  refine call_meets F.slot_list_pop ⟨_, e, rfl⟩ F.entry_list_pop (F.args_list_pop_1 _) (MeetsSeq.list_pop_last l its.toArray n u hy' (by rw [List.size_toArray]; omega)) ⟨e, ?_⟩
  refine ⟨y, _, I.lset (its' := its.dropLast) hH e ?_ r.dropLast ?_, ru, q⟩
  · show its.toArray.eraseIdxIfInBounds (its.toArray.size - 1) = its.dropLast.toArray
    rw [List.size_toArray, List.eraseIdxIfInBounds_toArray, erase_last]
  · rw [List.length_dropLast]
    omega

def rPopAt : V → List V → Hp → VK → Prop := fun x vs H Q => ∃ l xs i k y, x = .ref l ∧ vs = [.int i] ∧ H l = some (.lst xs) ∧ -(2 ^ 63) ≤ i ∧ i < 2 ^ 63 ∧ seqIndex? i xs.length = some k ∧ xs[k]? = some y ∧ Q y (upd H l (.lst (xs.eraseIdx k)))
theorem mt_popAt : MtM X "list.pop" rPopAt := by
  intro pins s σ H x vs v us Q I rx rv h
  obtain ⟨l, xs, i, k, y, rfl, rfl, hH, h1, h2, hk, hy, q⟩ := h
  cases rx
  obtain ⟨u, rfl, ru⟩ := rv.one
  obtain ⟨t, rfl⟩ := ru
  obtain ⟨z, its, n, r, hl, e⟩ := I.lstM hH
  obtain ⟨w, hw, rw'⟩ := r.get hy
  refine call_meets F.slot_list_pop ⟨_, e, rfl⟩ F.entry_list_pop (F.args_list_pop_2 _ _)
    (MeetsSeq.list_pop_at l its.toArray n i t k w (fitsIndex_both h1 h2) (by rw [List.size_toArray, ← hl]; exact hk) (by rw [← Array.getElem?_toList]; exact hw) (by rw [List.size_toArray]; omega)) ⟨e, ?_⟩
  refine ⟨y, _, I.lset (its' := its.eraseIdx k) hH e ?_ (r.eraseIdx k) ?_, rw', q⟩
  · show its.toArray.eraseIdxIfInBounds k = (its.eraseIdx k).toArray
    rw [List.eraseIdxIfInBounds_toArray]
  · have := len_erase xs k
    omega

def rReverse : V → List V → Hp → VK → Prop := fun x vs H Q => ∃ l xs, x = .ref l ∧ vs = [] ∧ H l = some (.lst xs) ∧ Q .non (upd H l (.lst xs.reverse))
theorem mt_reverse : MtM X "list.reverse" rReverse := by
  intro pins s σ H x vs v us Q I rx rv h
  obtain ⟨l, xs, rfl, rfl, hH, q⟩ := h
  cases rx
  have hus := rv.zero
  subst hus
  obtain ⟨z, its, n, r, hl, e⟩ := I.lstM hH
  refine call_meets F.slot_list_reverse ⟨_, e, rfl⟩ F.entry_list_reverse (F.args_list_reverse_1 _) (AutoSeq1.list_reverse_list_0 l its.toArray n (by rw [List.size_toArray]; omega)) ⟨e, ?_⟩
  refine ⟨.non, _, I.lset (its' := its.reverse) hH e (by simp) r.reverse ?_, rfl, q⟩
  rw [List.length_reverse]
  omega

def rClear : V → List V → Hp → VK → Prop := fun x vs H Q => ∃ l xs, x = .ref l ∧ vs = [] ∧ H l = some (.lst xs) ∧ Q .non (upd H l (.lst []))
theorem mt_clear : MtM X "list.clear" rClear := by
  intro pins s σ H x vs v us Q I rx rv h
  obtain ⟨l, xs, rfl, rfl, hH, q⟩ := h
  cases rx
  have hus := rv.zero
  subst hus
  obtain ⟨z, its, n, r, hl, e⟩ := I.lstM hH
  refine call_meets F.slot_list_clear ⟨_, e, rfl⟩ F.entry_list_clear (F.args_list_clear_1 _) (AutoSeq1.list_clear_list_0 l its.toArray n (by rw [List.size_toArray]; omega)) ⟨e, ?_⟩
  exact ⟨.non, _, I.lset (its' := []) (ys := []) hH e rfl .nil (Nat.zero_le _), rfl, q⟩

/-! ### list + list, list += list, list * int -/
def rCat : R2 := fun x y H Q => ∃ l b xs zs, x = .ref l ∧ y = .ref b ∧ H l = some (.lst xs) ∧ H b = some (.lst zs) ∧ xs.length + zs.length ≤ sizeLine ∧ ∀ p, H p = none → Q (.ref p) (upd H p (.lst (xs ++ zs)))
theorem op_cat : OpR X (binaryOp .Add) rCat := by
  intro pins s σ H x y v u Q I rx ry h
  obtain ⟨l, b, xs, zs, rfl, rfl, hH, hB, hz, q⟩ := h
  cases rx
  cases ry
  obtain ⟨z, its, n, r, hl, e⟩ := I.lstM hH
  obtain ⟨z2, its2, n2, r2, hl2, e2⟩ := I.lstM hB
  refine PySem.P.add_list e e2 ?_ (by rw [List.size_toArray, List.size_toArray]; omega)
  have ea : its.toArray ++ its2.toArray = (its ++ its2).toArray := by simp
  rw [ea]
  exact ⟨.ref _, _, I.lnew (t' := s.toks) (r.append r2) (by rw [List.length_append]; omega), rfl, q _ I.fresh⟩
/-- a list times an int (a negative one is nothing) -/
def rRep : R2 := fun x y H Q => ∃ l k xs, x = .ref l ∧ y = .int k ∧ H l = some (.lst xs) ∧ -(2 ^ 63) ≤ k ∧ k < 2 ^ 63 ∧ xs.length * k.toNat ≤ sizeLine ∧
  ∀ p, H p = none → Q (.ref p) (upd H p (.lst (List.replicate k.toNat xs).flatten))
theorem len_rep {α : Type} (xs : List α) (k : Nat) : (List.replicate k xs).flatten.length = k * xs.length := by
  induction k with
  | zero => simp
  | succ k ih => rw [List.replicate_succ, List.flatten_cons, List.length_append, ih, Nat.succ_mul, Nat.add_comm]
theorem op_rep : OpR X (binaryOp .Mult) rRep := by
  intro pins s σ H x y v u Q I rx ry h
  obtain ⟨l, k, xs, rfl, rfl, hH, h1, h2, hz, q⟩ := h
  cases rx
  obtain ⟨t, rfl⟩ := ry
  obtain ⟨z, its, n, r, hl, e⟩ := I.lstM hH
  have hlen : its.toArray.size * k.toNat ≤ sizeLine := by rw [List.size_toArray, ← hl]; exact hz
  have hcap : ¬ its.toArray.size * k.toNat > (2 ^ 63 - 1) / 8 := by
    have : (sizeLine : Nat) ≤ (2 ^ 63 - 1) / 8 := by decide
    omega
  have hfit : ¬ (!Builtin.List.listFitsIndex k) = true := by
    rw [fitsIndex_both h1 h2]
    exact Bool.false_ne_true
  have hlong : ¬ Builtin.List.listTooLong (its.toArray.size * k.toNat) = true := by
    rw [notLongL hlen]
    exact Bool.false_ne_true
  have hnew : List.foldl (fun x1 x2 => x1 ++ x2) #[] (List.replicate (if its.toArray.isEmpty = true then 0 else k.toNat) its.toArray) = (List.replicate k.toNat its).flatten.toArray := by
    have f0 : ∀ m : Nat, List.foldl (fun x1 x2 => x1 ++ x2) #[] (List.replicate m its.toArray) = (List.replicate m its).flatten.toArray := fun m => by
      have := foldl_rep its m []
      rw [List.nil_append] at this
      exact this
    rw [f0]
    cases its with
    | nil => simp
    | cons a r' => rw [if_neg (by simp)]
  refine wpAny_binaryOp_repeat_ref (T := "list") (U := "int") (by decide) ⟨_, e, rfl⟩ (fun s' => typeIs_int s' k t) noFill_list_mul F.fills_int_mul F.slot_int_rmul repeat_list F.slot_int_index.lookup
    (call_meets F.slot_int_rmul (typeIs_int s k t) F.entry_int_rmul (F.args_int_rmul_2 _ _) (int___rmul___int_list k t l its.toArray n)
      ⟨e, rfl, ⟨_, e, rfl⟩, call_meets F.slot_list_mul ⟨_, e, rfl⟩ F.entry_list_mul (F.args_list_mul_2 _ _) (AutoListH.list___mul___list_int_3 l its.toArray n k t hfit hcap hlong) ⟨e, ?_⟩⟩)
  rw [hnew]
  exact ⟨.ref _, _, I.lnew (t' := s.toks) (r.rep k.toNat) (by rw [len_rep, Nat.mul_comm]; exact hz), rfl, q _ I.fresh⟩

/-! ### del xs[i] -/
theorem del_list {pins : List (Addr × Obj)} {s : Shared} {σ : St} {H : Hp} {l : Addr} {xs : List V} {i : Int} {t : Tok} {k : Nat} {Q : Unit → Shared → Prop} (I : Inv X pins σ H s) (hH : H l = some (.lst xs))
    (h1 : -(2 ^ 63) ≤ i) (h2 : i < 2 ^ 63) (hk : seqIndex? i xs.length = some k) (h : ∀ s', Inv X pins σ (upd H l (.lst (xs.eraseIdx k))) s' → Q () s') :
    wpAny (model X.prog X.w) X.A (delItem (.ref l) (.int i t)) Q X.xe s := by
  obtain ⟨z, its, n, r, hl, e⟩ := I.lstM hH
  refine PySem.P.delItem_list (k := k) e (fitsIndex_both h1 h2) (by rw [List.size_toArray, ← hl]; exact hk) (h _ ?_) (by rw [List.size_toArray]; omega)
  refine I.lset (its' := its.eraseIdx k) (t' := s.toks) hH e ?_ (r.eraseIdx k) ?_
  · show its.toArray.eraseIdxIfInBounds k = (its.eraseIdx k).toArray
    rw [List.eraseIdxIfInBounds_toArray]
  · have := len_erase xs k
    omega
end

/-! ### xs[a:b] = ys -/
section
variable {prog : Program} {w : World} {A : Around} {E : Value → Shared → Prop} {s : Shared}
theorem splice_eq (its its2 : List Value) (a c : Nat) : its.toArray.extract 0 a ++ its2.toArray ++ its.toArray.extract c its.toArray.size = (its.take a ++ its2 ++ its.drop c).toArray := by
  apply Array.toList_inj.mp
  first
    | (simp
       exact List.take_of_length_le (by simp))
    | simp [List.take_of_length_le]
    | simp
theorem bounds_run {a c n : Nat} (hac : a ≤ c) (hc : c ≤ n) : sliceBounds (some (a : Int)) (some (c : Int)) none n = ((a : Int), (c : Int), 1) := by
  simp only [sliceBounds, Option.getD_none]
  have h1 : ¬ ((a : Int) < 0) := by omega
  have h2 : ¬ ((c : Int) < 0) := by omega
  simp only [h1, h2, if_false, show (1 : Int) > 0 by decide, if_true]
  congr 1
  · omega
  · congr 1; omega
set_option maxRecDepth 100000 in
/-- list.__setitem__ with a slice of step one and another list -/
theorem setItem_slice {l b sl : Addr} {items new : Array Value} {n n2 : Nat} {vl vu : Value} {a c : Nat} {Q : Unit → Shared → Prop}
    (e : s.heap.get? l = some { cls := .type "list", data := .seq items n }) (e2 : s.heap.get? b = some { cls := .type "list", data := .seq new n2 }) (hne : l ≠ b)
    (hs : s.heap.IsSliceOf sl vl vu .none) (pl : IsPart vl (some (a : Int))) (pu : IsPart vu (some (c : Int))) (hac : a ≤ c) (hc : c ≤ items.size)
    (hsz : items.size + new.size ≤ sizeLine) (h : Q () { s with heap := s.heap.update l (Obj.mapSeq fun xs => xs.extract 0 a ++ new ++ xs.extract c xs.size) }) :
    wpAny (model prog w) A (setItem (.ref l) (.ref sl) (.ref b)) Q E s := by
  have hl : s.heap.IsList l items := PySem.IsL.isList e
  have hb : s.heap.IsList b new := PySem.IsL.isList e2
  obtain ⟨os, hos, hcs, hds⟩ := id hs
  have hTs : s.TypeIs (.ref sl) "slice" := ⟨os, hos, hcs⟩
  have hstep : ¬ ((rawPart none == rawInt 0) = true) := Bool.false_ne_true
  have hsame : Builtin.List.listSameRef (.ref l) (.ref b) = false := by
    unfold Builtin.List.listSameRef
    exact beq_eq_false_iff_ne.mpr hne
  have hmax : (max (a : Int) (c : Int)).toNat = c := by omega
  have hz' : ((fun xs : Array Value => xs.extract 0 a ++ new ++ xs.extract c xs.size) items).size ≤ sizeLine + 1 := by
    simp only [Array.size_append, Array.size_extract]
    omega
  unfold setItem
  try with_reducible refine wpAny_holding ?_
  first | refine wpAny_bind (wpAny_pure ?_) | skip
  refine wpAny_bind (wpAny_sequenceKey hl.typeIs (by decide) ?_)
  refine wpAny_bind (wpAny_callSpecial?_slot (name := Str.ofString "__setitem__") hl.typeIs slot_list_setitem
    (wpAny_call_entry slot_list_setitem hl.typeIs entry_list_setitem ?_ (args_list_setitem _ _ _)))
  show wpAny _ _ (Builtin.List.listSubscript? (.ref sl) >>= _) _ _ s
  refine wpAny_bind ?_
  unfold Builtin.List.listSubscript?
  refine wpAny_bind (wpAny_specialOf hTs slice_no_index ?_)
  simp only [Option.isNone_none, if_true]
  refine wpAny_pure ?_
  show wpAny _ _ (typeOf (.ref sl) >>= _) _ _ s
  refine wpAny_bind (wpAny_typeOf hTs ?_)
  first
    | rw [if_neg (by decide)]
    | refine PySem.W.KFB.if_not (by decide) ?_
  rw [listSliceParts_eq]
  refine wpAny_bind (wpAny_bind (wpAny_field hos hds (x := .none) rfl (wpAny_bind (wpAny_listPart .none ?_))))
  rw [if_neg hstep]
  refine wpAny_bind (wpAny_field hos hds (x := vl) rfl (wpAny_bind (wpAny_listPart pl ?_)))
  refine wpAny_bind (wpAny_field hos hds (x := vu) rfl (wpAny_bind (wpAny_listPart pu (wpAny_pure ?_))))
  first
    | simp only [hsame, Bool.false_eq_true, if_false]
    | refine PySem.W.KFB.if_not hsame ?_
    | (dsimp only
       rw [if_neg (by rw [hsame]; exact Bool.false_ne_true)])
  refine wpAny_bind (m := Builtin.List.listAllItems (.ref b) "must assign iterable to extended slice") ?_
  unfold Builtin.List.listAllItems
  refine wpAny_bind (wpAny_typeOf hb.typeIs ?_)
  first
    | refine PySem.W.KFB.if_so (by decide) ?_
    | rw [if_pos (by decide)]
    | simp only [beq_self_eq_true, Bool.true_or, if_true]
  unfold Builtin.List.listItems
  refine wpAny_bind (wpAny_seqItems e2 rfl (wpAny_pure ?_))
  refine wpAny_bind (wpAny_bind (wpAny_seqItems e rfl (wpAny_pure ?_)))
  refine wpAny_bind (wpAny_of_eq ((sliceIndices_raw (some (a : Int)) (some (c : Int)) none items.size (by simp)).trans (congrArg (pure : Int × Int × Int → Sem (Int × Int × Int)) (bounds_run hac hc))) ?_)
  show wpAny _ _ (if ((1 : Int) == 1) = true then _ else _) _ _ s
  rw [if_pos (by decide)]
  refine wpAny_bind (wpAny_rule ?_)
  first
    | simp only [notLongL hsz, Bool.false_eq_true, if_false]
    | refine PySem.W.KFB.if_not (notLongL hsz) ?_
  first | refine wpAny_bind (wpAny_pure ?_) | skip
  show wpAny _ _ (updateSeq l (fun xs => xs.extract 0 ((a : Int)).toNat ++ new ++ xs.extract (max (a : Int) (c : Int)).toNat xs.size) >>= _) _ _ s
  rw [hmax, Int.toNat_natCast]
  refine wpAny_bind (wpAny_updateSeq (hz := Nat.le_trans (Nat.le_add_right _ _) hsz) (_hz' := hz') e rfl ?_)
  refine wpAny_bind (wpAny_letGo ?_)
  first
    | exact wpAny_bind (wpAny_pure (wpAny_pure ⟨.none, rfl, wpAny_pure h⟩))
    | exact wpAny_pure ⟨.none, rfl, wpAny_pure h⟩
end

section
variable {X : Cx}
/-- xs[a:c] = ys of another list, at the value level: sl is the slice object that was just made -/
theorem set_slice {pins : List (Addr × Obj)} {s : Shared} {σ : St} {H : Hp} {l b sl : Addr} {xs ys : List V} {a c : Int} {vl vu : Value} {Q : Unit → Shared → Prop} (I : Inv X pins σ H s)
    (hH : H l = some (.lst xs)) (hB : H b = some (.lst ys)) (hne : l ≠ b) (hs : s.heap.IsSliceOf sl vl vu .none) (ra : RelV (.int a) vl) (rc : RelV (.int c) vu) (h0 : 0 ≤ a) (hac : a ≤ c) (hc : c ≤ xs.length)
    (hz : xs.length + ys.length ≤ sizeLine) (h : ∀ s', Inv X pins σ (upd H l (.lst (xs.take a.toNat ++ ys ++ xs.drop c.toNat))) s' → Q () s') :
    wpAny (model X.prog X.w) X.A (setItem (.ref l) (.ref sl) (.ref b)) Q X.xe s := by
  obtain ⟨ta, rfl⟩ := ra
  obtain ⟨tc, rfl⟩ := rc
  obtain ⟨z, its, n, r, hl, e⟩ := I.lstM hH
  obtain ⟨z2, its2, n2, r2, hl2, e2⟩ := I.lstM hB
  obtain ⟨a', rfl⟩ := Int.eq_ofNat_of_zero_le h0
  obtain ⟨c', rfl⟩ := Int.eq_ofNat_of_zero_le (Int.le_trans h0 hac)
  simp only [Int.toNat_natCast] at h
  refine setItem_slice (a := a') (c := c') e e2 hne hs (.int _ _) (.int _ _) (by omega) (by rw [List.size_toArray]; omega) (by rw [List.size_toArray, List.size_toArray]; omega) (h _ ?_)
  refine I.lset (its' := its.take a' ++ its2 ++ its.drop c') (t' := s.toks) hH e ?_ (Vals.append (Vals.append (r.take _) r2) (r.drop _)) ?_
  · exact splice_eq its its2 a' c'
  · rw [List.length_append, List.length_append, List.length_take, List.length_drop]
    omega
end
end L2

namespace L2
open PySem PySem.Spec PyProof.Rows

/-! ### lists of pairs as tables -/
section
variable {κ : Type} [DecidableEq κ]
def valV (kvs : List (κ × V)) (k : κ) : Option V := (kvs.find? fun kv => decide (kv.1 = k)).map (·.2)
/-- in its place, or at the end -/
def putK (kvs : List (κ × V)) (k : κ) (v : V) : List (κ × V) :=
  if (kvs.any fun kv => decide (kv.1 = k)) = true then kvs.map (fun kv => if kv.1 = k then (kv.1, v) else kv) else kvs ++ [(k, v)]
def dropK (kvs : List (κ × V)) (k : κ) : List (κ × V) := kvs.filter fun kv => decide (kv.1 ≠ k)

theorem valV_nil {k : κ} : valV ([] : List (κ × V)) k = none := rfl
theorem valV_pos {p : κ × V} {r : List (κ × V)} {k : κ} (e : p.1 = k) : valV (p :: r) k = some p.2 := by simp [valV, List.find?_cons, e]
theorem valV_neg {p : κ × V} {r : List (κ × V)} {k : κ} (e : ¬ p.1 = k) : valV (p :: r) k = valV r k := by simp [valV, List.find?_cons, e]
theorem valV_any (k : κ) : ∀ kvs : List (κ × V), (kvs.any fun kv => decide (kv.1 = k)) = (valV kvs k).isSome
  | [] => rfl
  | p :: r => by
    rw [List.any_cons]
    by_cases e : p.1 = k
    · simp only [valV_pos e, decide_eq_true e, Bool.true_or, Option.isSome_some]
    · rw [valV_neg e, decide_eq_false e, Bool.false_or]; exact valV_any k r
theorem valV_map (k j : κ) (y : V) : ∀ kvs : List (κ × V), valV (kvs.map fun kv => if kv.1 = k then (kv.1, y) else kv) j = (valV kvs j).map fun x => if j = k then y else x
  | [] => rfl
  | p :: r => by
    have ih := valV_map k j y r
    rw [List.map_cons]
    by_cases h : p.1 = k
    · rw [if_pos h]
      by_cases e : p.1 = j
      · rw [valV_pos (p := (p.1, y)) e, valV_pos e, Option.map_some, if_pos (e.symm.trans h)]
      · rw [valV_neg (p := (p.1, y)) e, valV_neg e, ih]
    · rw [if_neg h]
      by_cases e : p.1 = j
      · rw [valV_pos (p := p) e, valV_pos e, Option.map_some, if_neg (fun z => h (e.trans z))]
      · rw [valV_neg (p := p) e, valV_neg e, ih]
theorem valV_snoc (k j : κ) (y : V) : ∀ kvs : List (κ × V), valV kvs k = none → valV (kvs ++ [(k, y)]) j = if j = k then some y else valV kvs j
  | [], _ => by
    by_cases e : k = j
    · rw [if_pos e.symm]; exact valV_pos (p := (k, y)) e
    · rw [if_neg (fun z => e z.symm)]; exact valV_neg (p := (k, y)) e
  | p :: r, hn => by
    rw [List.cons_append]
    have hk : ¬ p.1 = k := fun z => by rw [valV_pos z] at hn; cases hn
    rw [valV_neg hk] at hn
    have ih := valV_snoc k j y r hn
    by_cases e : p.1 = j
    · rw [valV_pos e, valV_pos e, if_neg (fun z => hk (e.trans z))]
    · rw [valV_neg e, valV_neg e, ih]
theorem valV_put (kvs : List (κ × V)) (k j : κ) (y : V) : valV (putK kvs k y) j = if j = k then some y else valV kvs j := by
  unfold putK
  by_cases a : (kvs.any fun kv => decide (kv.1 = k)) = true
  · rw [if_pos a, valV_map]
    rw [valV_any] at a
    by_cases e : j = k
    · obtain ⟨x, hx⟩ := Option.isSome_iff_exists.mp a
      rw [if_pos e, e, hx, Option.map_some, if_pos rfl]
    · rw [if_neg e]
      cases valV kvs j with
      | none => rfl
      | some x => rw [Option.map_some, if_neg e]
  · rw [if_neg a]
    refine valV_snoc k j y kvs ?_
    rw [valV_any] at a
    cases q : valV kvs k with
    | none => rfl
    | some x => rw [q] at a; exact (a rfl).elim
theorem length_putK (kvs : List (κ × V)) (k : κ) (v : V) : (putK kvs k v).length ≤ kvs.length + 1 := by
  unfold putK
  split
  · rw [List.length_map]; omega
  · rw [List.length_append, List.length_cons, List.length_nil]; omega
theorem putK_new {kvs : List (κ × V)} {k : κ} (v : V) (h : valV kvs k = none) : putK kvs k v = kvs ++ [(k, v)] := by
  unfold putK
  rw [valV_any, h]
  exact if_neg (by decide)

theorem RelO.isSome_eq {o : Option V} {u : Option Value} (r : RelO o u) : o.isSome = u.isSome := by
  cases o with
  | none => cases u with
    | none => rfl
    | some _ => exact (show False from r).elim
  | some _ => cases u with
    | none => exact (show False from r).elim
    | some _ => rfl
theorem RelO.getD {o : Option V} {u : Option Value} {d : V} {d' : Value} (r : RelO o u) (rd : RelV d d') : RelV (o.getD d) (u.getD d') := by
  cases o with
  | none => cases u with
    | none => exact rd
    | some _ => exact (show False from r).elim
  | some _ => cases u with
    | none => exact (show False from r).elim
    | some _ => exact r

/-- raw tables of the same keys -/
theorem KV.val {kvs : List (κ × V)} {vs : List (κ × Value)} (r : KV kvs vs) (k : κ) : RelO (valV kvs k) (valueAt vs k) := by
  unfold KV at r
  induction r with
  | nil => exact True.intro
  | @cons p q ps qs h t ih =>
    obtain ⟨h1, h2⟩ := h
    by_cases e : p.1 = k
    · have e' : q.1 = k := h1.symm.trans e
      have b : valueAt (q :: qs) k = some q.2 := by simp [valueAt, List.find?_cons, e']
      rw [valV_pos e, b]; exact h2
    · have e' : ¬ q.1 = k := fun z => e (h1.trans z)
      have b : valueAt (q :: qs) k = valueAt qs k := by simp [valueAt, List.find?_cons, e']
      rw [valV_neg e, b]; exact ih
theorem KV.any {kvs : List (κ × V)} {vs : List (κ × Value)} (r : KV kvs vs) (k : κ) : (kvs.any fun kv => decide (kv.1 = k)) = vs.any fun kv => decide (kv.1 = k) := by
  unfold KV at r
  induction r with
  | nil => rfl
  | cons h t ih => rw [List.any_cons, List.any_cons, ih, h.1]
theorem KV.repl {kvs : List (κ × V)} {vs : List (κ × Value)} (r : KV kvs vs) (k : κ) {y : V} {u : Value} (ry : RelV y u) :
    KV (kvs.map fun kv => if kv.1 = k then (kv.1, y) else kv) (vs.map fun kv => if kv.1 = k then (kv.1, u) else kv) := by
  unfold KV at r ⊢
  induction r with
  | nil => exact .nil
  | @cons p q ps qs h t ih =>
    rw [List.map_cons, List.map_cons]
    refine .cons ?_ ih
    obtain ⟨h1, h2⟩ := h
    by_cases e : p.1 = k
    · rw [if_pos e, if_pos (h1.symm.trans e)]; exact ⟨h1, ry⟩
    · rw [if_neg e, if_neg (fun z => e (h1.trans z))]; exact ⟨h1, h2⟩
theorem KV.put {kvs : List (κ × V)} {vs : List (κ × Value)} (r : KV kvs vs) (k : κ) {y : V} {u : Value} (ry : RelV y u) : KV (putK kvs k y) (stored vs k u) := by
  unfold putK stored
  rw [r.any k]
  by_cases e : (vs.any fun kv => decide (kv.1 = k)) = true
  · rw [if_pos e, if_pos e]; exact r.repl k ry
  · rw [if_neg e, if_neg e]; exact Paired.snoc r ⟨rfl, ry⟩
theorem KV.drop {kvs : List (κ × V)} {vs : List (κ × Value)} (r : KV kvs vs) (k : κ) : KV (dropK kvs k) (without vs k) := by
  unfold KV at r ⊢
  unfold dropK without
  induction r with
  | nil => exact .nil
  | @cons p q ps qs h t ih =>
    obtain ⟨h1, h2⟩ := h
    rw [List.filter_cons, List.filter_cons]
    by_cases e : p.1 = k
    · have a : ¬ decide (p.1 ≠ k) = true := by simp [e]
      have b : ¬ decide (q.1 ≠ k) = true := by simp [h1.symm.trans e]
      rw [if_neg a, if_neg b]; exact ih
    · have e' : ¬ q.1 = k := fun z => e (h1.trans z)
      have a : decide (p.1 ≠ k) = true := by simp [e]
      have b : decide (q.1 ≠ k) = true := by simp [e']
      rw [if_pos a, if_pos b]; exact .cons ⟨h1, h2⟩ ih
theorem KV.keys {kvs : List (κ × V)} {vs : List (κ × Value)} (r : KV kvs vs) : kvs.map (·.1) = vs.map (·.1) := by
  unfold KV at r
  induction r with
  | nil => rfl
  | cons h t ih => rw [List.map_cons, List.map_cons, ih, h.1]
theorem KV.length {kvs : List (κ × V)} {vs : List (κ × Value)} (r : KV kvs vs) : kvs.length = vs.length := Paired.length r
theorem dropK_le (kvs : List (κ × V)) (k : κ) : (dropK kvs k).length ≤ kvs.length := List.length_filter_le _ _
end


/-! ### a tracked dict, its keys ints and texts or tuples of these -/
theorem kV_is {P : Program} {w : World} {k : Key} {u : Value} (r : RelV (kV k) u) : (mixKind P w).is k u = true := by
  cases k with
  | inl i => obtain ⟨t, e⟩ := (show ∃ t, u = Value.int i t from r); subst e; exact mixKind_int P w i t
  | inr x => obtain ⟨t, e⟩ := (show ∃ t, u = Value.str x t from r); subst e; exact mixKind_str P w x t
theorem kV_inj {a b : Key} (e : kV a = kV b) : a = b := by
  cases a with
  | inl i => cases b with
    | inl j => have e' : V.int i = V.int j := e; injection e' with e'; rw [e']
    | inr y => exact nomatch (show V.int i = V.str y from e)
  | inr x => cases b with
    | inl j => exact nomatch (show V.str x = V.int j from e)
    | inr y => have e' : V.str x = V.str y := e; injection e' with e'; rw [e']
theorem kVs_inj : ∀ {a b : List Key}, a.map kV = b.map kV → a = b
  | [], [], _ => rfl
  | [], _ :: _, e => by simp at e
  | _ :: _, [], e => by simp at e
  | x :: xs, y :: ys, e => by
    rw [List.map_cons, List.map_cons] at e
    injection e with e1 e2
    rw [kV_inj e1, kVs_inj e2]
theorem items_are {P : Program} {w : World} : ∀ {ks : List Key} {us : List Value}, Vals (ks.map kV) us → ItemsAre (mixKind P w) ks us
  | [], _, r => by rw [List.map_nil] at r; cases r; exact .nil
  | k :: ks, _, r => by
    rw [List.map_cons] at r
    cases r with
    | cons h t => exact .cons (kV_is h) (items_are t)

/-- raw entries of a dict with tuple keys -/
abbrev KT (H : Hp) : List (List Key × V) → List (List Key × Addr × Value) → Prop := Paired fun p q => p.1 = q.1 ∧ H q.2.1 = some (.tup (p.1.map kV)) ∧ RelV p.2 q.2.2
theorem KT.val {H : Hp} {kvs : List (List Key × V)} {xs : List (List Key × Addr × Value)} (r : KT H kvs xs) (k : List Key) : RelO (valV kvs k) ((atKey xs k).map (·.2)) := by
  induction r with
  | nil => exact True.intro
  | @cons p q ps qs h t ih =>
    obtain ⟨h1, _, h2⟩ := h
    by_cases e : p.1 = k
    · have e' : q.1 = k := h1.symm.trans e
      have b : atKey (q :: qs) k = some q.2 := by simp [atKey, List.find?_cons, e']
      rw [valV_pos e, b]; exact h2
    · have e' : ¬ q.1 = k := fun z => e (h1.trans z)
      have b : atKey (q :: qs) k = atKey qs k := by simp [atKey, List.find?_cons, e']
      rw [valV_neg e, b]; exact ih
theorem KT.repl {H : Hp} {kvs : List (List Key × V)} {xs : List (List Key × Addr × Value)} (r : KT H kvs xs) (k : List Key) {y : V} {u : Value} (ry : RelV y u) :
    KT H (kvs.map fun kv => if kv.1 = k then (kv.1, y) else kv) (xs.map (putAt k u)) := by
  induction r with
  | nil => exact .nil
  | @cons p q ps qs h t ih =>
    rw [List.map_cons, List.map_cons]
    refine .cons ?_ ih
    obtain ⟨h1, h2, h3⟩ := h
    unfold putAt
    by_cases e : p.1 = k
    · rw [if_pos e, if_pos (h1.symm.trans e)]; exact ⟨h1, h2, ry⟩
    · rw [if_neg e, if_neg (fun z => e (h1.trans z))]; exact ⟨h1, h2, h3⟩
theorem KT.put {H : Hp} {kvs : List (List Key × V)} {xs : List (List Key × Addr × Value)} (r : KT H kvs xs) (k : List Key) {b : Addr} {y : V} {u : Value} (hb : H b = some (.tup (k.map kV))) (ry : RelV y u) :
    KT H (putK kvs k y) (storedH xs k b u) := by
  have e : (kvs.any fun kv => decide (kv.1 = k)) = (atKey xs k).isSome := by
    rw [valV_any, (r.val k).isSome_eq, Option.isSome_map]
  unfold putK storedH
  rw [e]
  by_cases q : (atKey xs k).isSome = true
  · rw [if_pos q, if_pos q]; exact r.repl k ry
  · rw [if_neg q, if_neg q]; exact Paired.snoc r ⟨rfl, hb, ry⟩
theorem KT.keeps {H H' : Hp} {kvs : List (List Key × V)} {xs : List (List Key × Addr × Value)} (r : KT H kvs xs) (ht : ∀ b ys, H b = some (.tup ys) → H' b = some (.tup ys)) : KT H' kvs xs :=
  Paired.mapP r fun _ _ z => ⟨z.1, ht _ _ z.2.1, z.2.2⟩

section
variable {P : Program} {w : World} {H : Hp} {h : Heap} {a : Addr}
theorem rd_of {u : HO} (ok : HOk P w H h) (e : Rd H a u) : ObjOk P w H h a u := e.ok ok
theorem dk_rd {kvs : List (Key × V)} (ok : HOk P w H h) (e : Rd H a (.dK kvs)) : kvs.length ≤ sizeLine ∧ (a == sysModules) = false ∧ ∃ vs, KV kvs vs ∧ h.DictOf (mixKind P w) a vs :=
  show ObjOk P w H h a (.dK kvs) from rd_of ok e
theorem dk_of {kvs : List (Key × V)} (ok : HOk P w H h) (e : H a = some (.dK kvs)) : kvs.length ≤ sizeLine ∧ (a == sysModules) = false ∧ ∃ vs, KV kvs vs ∧ h.DictOf (mixKind P w) a vs := dk_rd ok (.inl e)
/-- a tracked tuple of ints and texts is a key -/
theorem key_of {ks : List Key} (ok : HOk P w H h) (e : H a = some (.tup (ks.map kV))) : (tupleKind (mixKind P w)).is h ks a := by
  obtain ⟨_, its, r, o, h1, h2, n, h3⟩ := (show ObjOk P w H h a (.tup (ks.map kV)) from ok a _ e)
  exact ⟨o, its.toArray, n, h1, h2, h3, by simpa using items_are r⟩
theorem dt_rd {kvs : List (List Key × V)} (ok : HOk P w H h) (e : Rd H a (.dT kvs)) : kvs.length ≤ sizeLine ∧ (a == sysModules) = false ∧
    ∃ xs, KT H kvs xs ∧ h.DictOfH (tupleKind (mixKind P w)) a xs := by
  obtain ⟨z, y, xs, r, o, es, ep, h1, h2, h3, h4, h5⟩ := (show ObjOk P w H h a (.dT kvs) from rd_of ok e)
  refine ⟨z, y, xs, r, o, es, ep, h1, h2, h3, h4, fun x hx => ?_, h5⟩
  have all : ∀ {l : List (List Key × V)} {m : List (List Key × Addr × Value)}, KT H l m → ∀ x ∈ m, (tupleKind (mixKind P w)).is h x.1 x.2.1 := by
    intro l m q
    induction q with
    | nil => intro x hx; exact nomatch hx
    | @cons p q ps qs hq t ih =>
      intro x hx
      rcases List.mem_cons.mp hx with e | hx
      · subst e
        exact key_of ok (by rw [← hq.1]; exact hq.2.1)
      · exact ih x hx
  exact all r x hx
theorem dt_of {kvs : List (List Key × V)} (ok : HOk P w H h) (e : H a = some (.dT kvs)) : kvs.length ≤ sizeLine ∧ (a == sysModules) = false ∧
    ∃ xs, KT H kvs xs ∧ h.DictOfH (tupleKind (mixKind P w)) a xs := dt_rd ok (.inl e)
end

/-- what the dict at a holds at the key y -/
def DGet (H : Hp) (a : Addr) (y : V) (r : Option V) : Prop :=
  (∃ kvs k, Rd H a (.dK kvs) ∧ y = kV k ∧ r = valV kvs k) ∨ ∃ kvs k b, Rd H a (.dT kvs) ∧ y = .ref b ∧ H b = some (.tup (k.map kV)) ∧ r = valV kvs k
/-- the heap behind a[y] = v -/
def DPut (H : Hp) (a : Addr) (y v : V) (H' : Hp) : Prop :=
  (∃ kvs k, H a = some (.dK kvs) ∧ y = kV k ∧ kvs.length < sizeLine ∧ H' = upd H a (.dK (putK kvs k v))) ∨
  ∃ kvs k b, H a = some (.dT kvs) ∧ y = .ref b ∧ H b = some (.tup (k.map kV)) ∧ kvs.length < sizeLine ∧ H' = upd H a (.dT (putK kvs k v))
theorem DGet.k {H : Hp} {a : Addr} {kvs : List (Key × V)} {k : Key} (e : H a = some (.dK kvs)) : DGet H a (kV k) (valV kvs k) := .inl ⟨kvs, k, .inl e, rfl, rfl⟩
theorem DGet.t {H : Hp} {a b : Addr} {kvs : List (List Key × V)} {k : List Key} (e : H a = some (.dT kvs)) (eb : H b = some (.tup (k.map kV))) : DGet H a (.ref b) (valV kvs k) := .inr ⟨kvs, k, b, .inl e, rfl, eb, rfl⟩
theorem DPut.k {H : Hp} {a : Addr} {kvs : List (Key × V)} {k : Key} {v : V} (e : H a = some (.dK kvs)) (hl : kvs.length < sizeLine) : DPut H a (kV k) v (upd H a (.dK (putK kvs k v))) := .inl ⟨kvs, k, e, rfl, hl, rfl⟩
theorem DPut.t {H : Hp} {a b : Addr} {kvs : List (List Key × V)} {k : List Key} {v : V} (e : H a = some (.dT kvs)) (eb : H b = some (.tup (k.map kV))) (hl : kvs.length < sizeLine) :
    DPut H a (.ref b) v (upd H a (.dT (putK kvs k v))) := .inr ⟨kvs, k, b, e, rfl, eb, hl, rfl⟩


section
variable {X : Cx} {pins : List (Addr × Obj)} {σ : St} {H : Hp} {s : Shared} {a : Addr} {y v : V} {u r : Value} {o : Option V} {A : Around} {E : Value → Shared → Prop}

theorem Inv.big (I : Inv X pins σ H s) : sysModules < s.heap.objs.size := by
  have h : mainGlobals < s.heap.objs.size := (I.mod.glob.keeps I.bk).lt
  exact Nat.lt_trans (by decide) h

/-- d[y], there -/
theorem d_getItem {Q : Value → Shared → Prop} (hu : A.units + 1 < cLine) (I : Inv X pins σ H s) (g : DGet H a y (some v)) (ry : RelV y u) (h : ∀ w' s', Inv X pins σ H s' → RelV v w' → Q w' s') :
    wpAny (model X.prog X.w) A (getItem (.ref a) u) Q E s := by
  rcases g with ⟨kvs, k, e, ey, l⟩ | ⟨kvs, k, b, e, ey, eb, l⟩
  · subst ey
    obtain ⟨z, hd, vs, rel, dd⟩ := dk_rd I.hok e
    obtain ⟨w', hw, rw'⟩ := RelO.some_of (v := v) (o := valueAt vs k) (by rw [l]; exact rel.val k)
    exact wpAny_getItem_of (kV_is ry) dd.mapOf hw (h w' _ (I.tok _) rw')
  · subst ey
    cases (show u = Value.ref b from ry)
    obtain ⟨z, hd, xs, rel, dd⟩ := dt_rd I.hok e
    obtain ⟨w', hw, rw'⟩ := RelO.some_of (v := v) (o := (atKey xs k).map (·.2)) (by rw [l]; exact rel.val k)
    obtain ⟨p, hp, hp2⟩ := Option.map_eq_some_iff.mp hw
    refine wpAny_getItem_heap (tupleKind_room_in1 hu) (key_of I.hok eb) dd hp ?_
    rw [hp2]
    exact h w' _ (I.tok _) rw'
/-- y in d -/
theorem d_in {Q : Value → Shared → Prop} (hu : A.units + 1 < cLine) (I : Inv X pins σ H s) (g : DGet H a y o) (ry : RelV y u) (h : ∀ s', Inv X pins σ H s' → Q (.bool o.isSome) s') :
    wpAny (model X.prog X.w) A (compareOp .In u (.ref a)) Q E s := by
  rcases g with ⟨kvs, k, e, ey, l⟩ | ⟨kvs, k, b, e, ey, eb, l⟩
  · subst ey
    obtain ⟨z, hd, vs, rel, dd⟩ := dk_rd I.hok e
    refine wpAny_in_of (kV_is ry) hd dd.mapOf ?_
    rw [← (rel.val k).isSome_eq, ← l]
    exact h _ (I.tok _)
  · subst ey
    cases (show u = Value.ref b from ry)
    obtain ⟨z, hd, xs, rel, dd⟩ := dt_rd I.hok e
    refine wpAny_in_heap (tupleKind_room_in1 hu) (key_of I.hok eb) hd dd ?_
    have q := (rel.val k).isSome_eq
    rw [Option.isSome_map] at q
    rw [← q, ← l]
    exact h _ (I.tok _)
theorem d_notIn {Q : Value → Shared → Prop} (hu : A.units + 1 < cLine) (I : Inv X pins σ H s) (g : DGet H a y o) (ry : RelV y u) (h : ∀ s', Inv X pins σ H s' → Q (.bool (!o.isSome)) s') :
    wpAny (model X.prog X.w) A (compareOp .NotIn u (.ref a)) Q E s := by
  rcases g with ⟨kvs, k, e, ey, l⟩ | ⟨kvs, k, b, e, ey, eb, l⟩
  · subst ey
    obtain ⟨z, hd, vs, rel, dd⟩ := dk_rd I.hok e
    refine wpAny_notIn_of (kV_is ry) hd dd.mapOf ?_
    rw [← (rel.val k).isSome_eq, ← l]
    exact h _ (I.tok _)
  · subst ey
    cases (show u = Value.ref b from ry)
    obtain ⟨z, hd, xs, rel, dd⟩ := dt_rd I.hok e
    refine wpAny_notIn_heap (tupleKind_room_in1 hu) (key_of I.hok eb) hd dd ?_
    have q := (rel.val k).isSome_eq
    rw [Option.isSome_map] at q
    rw [← q, ← l]
    exact h _ (I.tok _)
/-- a dict's object is replaced -/
theorem d_write {h' : Heap} {t' : Nat} {ob : HO} (I : Inv X pins σ H s) (mu : Mut (H a)) (hs : Heap.SameBut a s.heap h') (he : ∃ q, h'.get? a = some q) (new : ObjOk X.prog X.w (upd H a ob) h' a ob) :
    Inv X pins σ (upd H a ob) { s with heap := h', toks := t' } :=
  I.write (x := a) (e := a) mu (.inl rfl) (fun b q hb z => (hs.2 b hb).trans z) he new
theorem dk_new {P : Program} {w : World} {H' : Hp} {h' : Heap} {kvs : List (Key × V)} {vs : List (Key × Value)} (z : kvs.length ≤ sizeLine) (hd : (a == sysModules) = false) (rel : KV kvs vs) (dd : h'.DictOf (mixKind P w) a vs) :
    ObjOk P w H' h' a (.dK kvs) := ⟨z, hd, vs, rel, dd⟩
/-- d[y] = v -/
theorem d_setItem {H' : Hp} {Q : Unit → Shared → Prop} (hu : A.units + 1 < cLine) (I : Inv X pins σ H s) (g : DPut H a y v H') (ry : RelV y u) (rv : RelV v r) (h : ∀ s', Inv X pins σ H' s' → Q () s') :
    wpAny (model X.prog X.w) A (setItem (.ref a) u r) Q E s := by
  rcases g with ⟨kvs, k, e, ey, l, eH⟩ | ⟨kvs, k, b, e, ey, eb, l, eH⟩
  · subst ey eH
    obtain ⟨z, hd, vs, rel, dd⟩ := dk_of I.hok e
    have hz : vs.length ≤ sizeLine := by rw [← rel.length]; exact z
    have hl : (putK kvs k v).length ≤ sizeLine := by have := length_putK kvs k v; omega
    refine wpAny_setItem_pairs (hsz := hz) (kV_is ry) dd fun h' dd' hs => h _ ?_
    have he : ∃ q, h'.get? a = some q := let ⟨q, _, _, hq, _⟩ := dd'; ⟨q, hq⟩
    exact d_write I (by rw [e]; exact True.intro) hs he (dk_new hl hd (rel.put k rv) dd')
  · subst ey eH
    cases (show u = Value.ref b from ry)
    obtain ⟨z, hd, xs, rel, dd⟩ := dt_of I.hok e
    have hz : xs.length ≤ sizeLine := by rw [← Paired.length rel]; exact z
    have hl : (putK kvs k v).length ≤ sizeLine := by have := length_putK kvs k v; omega
    refine wpAny_setItem_heap (hsz := hz) (tupleKind_room_in1 hu) (key_of I.hok eb) dd fun h' dd' hs => h _ ?_
    obtain ⟨q, es, ep, hq, h2, h3, h4, _, h5⟩ := dd'
    refine d_write I (by rw [e]; exact True.intro) hs ⟨q, hq⟩ ⟨hl, hd, _, (rel.put k eb rv).keeps fun c ys ec => ?_, q, es, ep, hq, h2, h3, h4, h5⟩
    rw [upd_ne (ne_of ec e (fun z => nomatch z))]
    exact ec
end

section
variable {X : Cx} {pins : List (Addr × Obj)} {σ : St} {H : Hp} {s : Shared} {a : Addr} {kvs : List (Key × V)} {k : Key} {u : Value} {A : Around} {E : Value → Shared → Prop}
/-- del d[k] -/
theorem d_delItem {Q : Unit → Shared → Prop} (I : Inv X pins σ H s) (e : H a = some (.dK kvs)) (ry : RelV (kV k) u) (l : (valV kvs k).isSome = true) (h : ∀ s', Inv X pins σ (upd H a (.dK (dropK kvs k))) s' → Q () s') :
    wpAny (model X.prog X.w) A (delItem (.ref a) u) Q E s := by
  obtain ⟨z, hd, vs, rel, dd⟩ := dk_of I.hok e
  refine wpAny_delItem_slot dd.typeIs (by decide) PySem.F.slot_dict_delitem
    (call_meetsIn PySem.F.slot_dict_delitem dd.typeIs PySem.F.entry_dict_delitem (PySem.F.args_dict_delitem_2 _ _) (meets_dict_delitem_pairs (mixKind X.prog X.w) a (kV_is ry)) ⟨vs, dd, by rw [← rel.length]; exact z, by rw [← (rel.val k).isSome_eq]; exact l, fun h' dd' hs => h _ ?_⟩)
  have he : ∃ q, h'.get? a = some q := let ⟨q, _, _, hq, _⟩ := dd'; ⟨q, hq⟩
  exact d_write I (by rw [e]; exact True.intro) hs he (dk_new (Nat.le_trans (dropK_le kvs k) z) hd (rel.drop k) dd')
/-- d.pop(k[, x]), there -/
theorem d_pop {v : V} {more : List Value} {Q : Value → Shared → Prop} (I : Inv X pins σ H s) (e : H a = some (.dK kvs)) (ry : RelV (kV k) u) (l : valV kvs k = some v) (hm : more = [] ∨ ∃ x, more = [x])
    (h : ∀ w' s', Inv X pins σ (upd H a (.dK (dropK kvs k))) s' → RelV v w' → Q w' s') : wpAny (model X.prog X.w) A (call (.builtin "dict.pop") (.ref a :: u :: more)) Q E s := by
  obtain ⟨z, hd, vs, rel, dd⟩ := dk_of I.hok e
  obtain ⟨w', hw, rw'⟩ := RelO.some_of (v := v) (o := valueAt vs k) (by rw [← l]; exact rel.val k)
  have hp : (keyPart u).isSome = true := by
    cases k with
    | inl i => obtain ⟨t, q⟩ := (show ∃ t, u = Value.int i t from ry); subst q; rfl
    | inr x => obtain ⟨t, q⟩ := (show ∃ t, u = Value.str x t from ry); subst q; rfl
  have ha : argsOk "dict.pop" ⟨.ref a :: u :: more, []⟩ := by
    rcases hm with q | ⟨x, q⟩
    · subst q; exact PySem.F.args_dict_pop_2 _ _
    · subst q; exact PySem.F.args_dict_pop_3 _ _ _
  refine call_meetsIn PySem.F.slot_dict_pop dd.typeIs PySem.F.entry_dict_pop ha (meets_dict_pop_there (mixKind X.prog X.w) a (kV_is ry) more hm hp)
    ⟨vs, w', dd, by rw [← rel.length]; exact z, hw, fun h' dd' hs => h w' _ ?_ rw'⟩
  have he : ∃ q, h'.get? a = some q := let ⟨q, _, _, hq, _⟩ := dd'; ⟨q, hq⟩
  exact d_write I (by rw [e]; exact True.intro) hs he (dk_new (Nat.le_trans (dropK_le kvs k) z) hd (rel.drop k) dd')
/-- d.pop(k, x), not there -/
theorem d_popD {r : Value} {Q : Value → Shared → Prop} (I : Inv X pins σ H s) (e : H a = some (.dK kvs)) (ry : RelV (kV k) u) (l : valV kvs k = none) (h : ∀ s', Inv X pins σ H s' → Q r s') :
    wpAny (model X.prog X.w) A (call (.builtin "dict.pop") [.ref a, u, r]) Q E s := by
  obtain ⟨z, hd, vs, rel, dd⟩ := dk_of I.hok e
  have hn : valueAt vs k = none := RelO.none_of (by rw [← l]; exact rel.val k)
  have hp : (keyPart u).isSome = true := by
    cases k with
    | inl i => obtain ⟨t, q⟩ := (show ∃ t, u = Value.int i t from ry); subst q; rfl
    | inr x => obtain ⟨t, q⟩ := (show ∃ t, u = Value.str x t from ry); subst q; rfl
  exact call_meetsIn PySem.F.slot_dict_pop dd.typeIs PySem.F.entry_dict_pop (PySem.F.args_dict_pop_3 _ _ _) (meets_dict_pop_default (mixKind X.prog X.w) a (kV_is ry) hd hp r) ⟨vs, dd, hn, h _ (I.tok _)⟩
/-- d.clear() -/
theorem d_clear {Q : Value → Shared → Prop} (I : Inv X pins σ H s) (e : H a = some (.dK kvs)) (h : ∀ s', Inv X pins σ (upd H a (.dK [])) s' → Q .none s') : wpAny (model X.prog X.w) A (call (.builtin "dict.clear") [.ref a]) Q E s := by
  obtain ⟨z, hd, vs, rel, dd⟩ := dk_of I.hok e
  refine call_meetsIn PySem.F.slot_dict_clear dd.typeIs PySem.F.entry_dict_clear (PySem.F.args_dict_clear_1 _) (meets_dict_clear (mixKind X.prog X.w) a) ⟨vs, dd, by rw [← rel.length]; exact z, fun h' dd' hs => h _ ?_⟩
  have he : ∃ q, h'.get? a = some q := let ⟨q, _, _, hq, _⟩ := dd'; ⟨q, hq⟩
  exact d_write (t' := s.toks) I (by rw [e]; exact True.intro) hs he (dk_new (Nat.zero_le _) hd .nil dd')
/-- len(d) -/
theorem d_len {Q : Value → Shared → Prop} (I : Inv X pins σ H s) (e : Rd H a (.dK kvs)) (h : ∀ t s', Inv X pins σ H s' → Q (.int kvs.length t) s') : wpAny (model X.prog X.w) A (call (.builtin "len") [.ref a]) Q E s := by
  obtain ⟨z, hd, vs, rel, dd⟩ := dk_rd I.hok e
  refine call_len_dict hd dd (by rw [← rel.length]; rw [sizeLine_eq] at z; omega) ?_
  rw [← rel.length]
  exact h _ _ (I.tok _)
/-- if d -/
theorem d_truth {Q : Bool → Shared → Prop} (I : Inv X pins σ H s) (e : Rd H a (.dK kvs)) (h : ∀ s', Inv X pins σ H s' → Q (!kvs.isEmpty) s') : wpAny (model X.prog X.w) A (truthy (.ref a)) Q E s := by
  obtain ⟨z, hd, vs, rel, dd⟩ := dk_rd I.hok e
  refine wpAny_truthy_dict hd dd (by rw [← rel.length]; rw [sizeLine_eq] at z; omega) ?_
  have q : kvs.isEmpty = vs.isEmpty := by cases rel <;> rfl
  rw [← q]
  exact h _ (I.tok _)
end


/-! ### readings and rules -/
/-- the element of a subscription, not a slice -/
def NoSl (i : Expr) : Prop := ∀ ov iv, subscripted i false ov iv = operate [ov, iv] (getItem ov iv)
theorem subD_of {prog : Program} {w : World} {A : Around} {E : Value → Shared → Prop} {s : Shared} {env : Env} {value slice : Expr} {pos : Pos} {T id : String} {Q : Value → Shared → Prop}
    (hl : typeLookup (.type T) "__getitem__" = pure (some (.builtin id))) (hs : NoSl slice)
    (h : wpAny (model prog w) A (eval value env) (fun o s₁ => wpAny (model prog w) A (eval slice env) (fun i s₂ => s₂.TypeIs o T ∧ wpAny (model prog w) A (getItem o i) Q E s₂) E s₁) E s) :
    wpAny (model prog w) A (eval (.Subscript value slice pos) env) Q E s := by
  refine Subscript_ (wpAny_mono h (fun o s₁ h₁ => wpAny_mono h₁ (fun i s₂ h₂ => ?_) fun _ _ x => x) fun _ _ x => x)
  obtain ⟨hT, h₂⟩ := h₂
  unfold subscriptTail
  refine wpAny_bind ?_
  rw [getitemInPython_of_ne hT.not_modules]
  refine wpAny_bind (wpAny_specialOf hT hl ?_)
  have fin : wpAny (model prog w) A (subscripted slice false o i) (fun r s₃ => wpAny (model prog w) A (letTemporaryGo value o r >>= fun _ => pure r) Q E s₃) E s₂ := by
    rw [hs o i]
    exact wpAny_operating (wpAny_mono h₂ (fun r s₃ h₃ => wpAny_bind (wpAny_letTemporaryGo (wpAny_pure h₃))) fun _ _ x => x)
  first
    | exact wpAny_pure (wpAny_bind fin)
    | exact wpAny_bind (wpAny_pure (wpAny_bind fin))
    | exact wpAny_bind fin

theorem dict_typeIs {X : Cx} {pins : List (Addr × Obj)} {σ : St} {H : Hp} {s : Shared} {a : Addr} {y : V} {o : Option V} (I : Inv X pins σ H s) (g : DGet H a y o) : s.TypeIs (.ref a) "dict" := by
  rcases g with ⟨kvs, k, e, _, _⟩ | ⟨kvs, k, b, e, _, _, _⟩
  · obtain ⟨_, _, vs, _, dd⟩ := dk_rd I.hok e
    exact dd.typeIs
  · obtain ⟨_, _, xs, _, dd⟩ := dt_rd I.hok e
    exact dd.typeIs
theorem dict_noDict {X : Cx} {pins : List (Addr × Obj)} {σ : St} {H : Hp} {s : Shared} {a : Addr} {y : V} {o : Option V} (I : Inv X pins σ H s) (g : DGet H a y o) :
    ∀ b, Value.ref a = .ref b → ∃ ob, s.heap.get? b = some ob ∧ ob.dict = none := fun b q => by
  cases q
  rcases g with ⟨kvs, k, e, _, _⟩ | ⟨kvs, k, b, e, _, _, _⟩
  · obtain ⟨_, _, vs, _, ob, _, _, h1, h2, _⟩ := dk_rd I.hok e
    exact ⟨ob, h1, h2.2.1⟩
  · obtain ⟨_, _, xs, _, ob, _, _, h1, h2, _⟩ := dt_rd I.hok e
    exact ⟨ob, h1, h2.2.1⟩

/-- d[y] -/
def tDGet (td ty : TE) : TE := fun σ H Q => td σ H fun x H1 => ty σ H1 fun y H2 => ∃ a v, x = .ref a ∧ DGet H2 a y (some v) ∧ Q v H2
/-- y in d, y not in d -/
def tDIn (ty td : TE) : TE := fun σ H Q => ty σ H fun y H1 => td σ H1 fun x H2 => ∃ a o, x = .ref a ∧ DGet H2 a y o ∧ Q (.bl o.isSome) H2
def tDNotIn (ty td : TE) : TE := fun σ H Q => ty σ H fun y H1 => td σ H1 fun x H2 => ∃ a o, x = .ref a ∧ DGet H2 a y o ∧ Q (.bl (!o.isSome)) H2
/-- d[y] = v -/
def sDPut (td ty tv : TE) : TS := fun D σ H => tv σ H fun v H1 => td σ H1 fun x H2 => ty σ H2 fun y H3 => ∃ a H4, x = .ref a ∧ DPut H3 a y v H4 ∧ D.nx σ H4
/-- d[y] op= v -/
def sDAug (td ty tv : TE) (rd : V → V → Hp → VK → Prop) : TS := fun D σ H => td σ H fun x H1 => ty σ H1 fun y H2 => ∃ a v, x = .ref a ∧ DGet H2 a y (some v) ∧
  tv σ H2 fun y2 H3 => rd v y2 H3 fun z H4 => ∃ H5, DPut H4 a y z H5 ∧ D.nx σ H5
/-- del d[y] -/
def sDDel (td ty : TE) : TS := fun D σ H => td σ H fun x H1 => ty σ H1 fun y H2 => ∃ a kvs k, x = .ref a ∧ H2 a = some (.dK kvs) ∧ y = kV k ∧ (valV kvs k).isSome = true ∧ D.nx σ (upd H2 a (.dK (dropK kvs k)))

section
variable {X : Cx} {o i e value : Expr} {pos pos' tpos : Pos} {td ty tv : TE}
theorem pe_dget (hu : X.A.units + 1 < cLine) (ho : PE X o td) (hi : PE X i ty) (hs : NoSl i) : PE X (.Subscript o i pos) (tDGet td ty) := by
  intro pins s σ H Q I h
  refine subD_of PySem.F.slot_dict_getitem.lookup hs (thn (ho pins s σ H _ I h) fun u s1 ⟨x, H1, I1, rx, q1⟩ => thn (hi pins s1 σ H1 _ I1 q1) fun iv s2 ⟨y, H2, I2, ry, a, v, ex, g, q2⟩ => ?_)
  subst ex
  obtain rfl : u = Value.ref a := rx
  exact ⟨dict_typeIs I2 g, d_getItem hu I2 g ry fun w' s3 I3 rw' => ⟨v, H2, I3, rw', q2⟩⟩
theorem pc_din (hu : X.A.units + 1 < cLine) (hi : PE X i ty) (ho : PE X o td) : PC X .In i o (tDIn ty td) := by
  intro pins s σ H Q I h
  refine thn (hi pins s σ H _ I h) fun iv s1 ⟨y, H1, I1, ry, q1⟩ => thn (ho pins s1 σ H1 _ I1 q1) fun u s2 ⟨x, H2, I2, rx, a, ov, ex, g, q2⟩ => ?_
  subst ex
  obtain rfl : u = Value.ref a := rx
  exact d_in hu I2 g ry fun s3 I3 => ⟨.bl ov.isSome, H2, I3, rfl, q2⟩
theorem pc_dnotin (hu : X.A.units + 1 < cLine) (hi : PE X i ty) (ho : PE X o td) : PC X .NotIn i o (tDNotIn ty td) := by
  intro pins s σ H Q I h
  refine thn (hi pins s σ H _ I h) fun iv s1 ⟨y, H1, I1, ry, q1⟩ => thn (ho pins s1 σ H1 _ I1 q1) fun u s2 ⟨x, H2, I2, rx, a, ov, ex, g, q2⟩ => ?_
  subst ex
  obtain rfl : u = Value.ref a := rx
  exact d_notIn hu I2 g ry fun s3 I3 => ⟨.bl (!ov.isSome), H2, I3, rfl, q2⟩
theorem ps_dput (hu : X.A.units + 1 < cLine) (ho : PE X o td) (hi : PE X i ty) (hv : PE X value tv) (hs : swapsWith value (some (.Subscript o i pos')) pos.line X.env = pure false) :
    PS X (.Assign [.Subscript o i pos'] value pos) (sDPut td ty tv) := by
  intro pins s σ H D I h
  refine wpAny_Assign_Subscript (thn (hv pins s σ H _ I h) fun r s1 ⟨v, H1, I1, rv, q1⟩ => thn (ho pins s1 σ H1 _ I1 q1) fun u s2 ⟨x, H2, I2, rx, q2⟩ => thn (hi pins s2 σ H2 _ I2 q2) fun iv s3 ⟨y, H3, I3, ry, a, H4, ex, g, q3⟩ => ?_) hs
  subst ex
  obtain rfl : u = Value.ref a := rx
  exact d_setItem hu I3 g ry rv fun s4 I4 => ⟨σ, H4, I4, q3⟩
theorem ps_daug {op : Operator} {rd : V → V → Hp → VK → Prop} (hu : X.A.units + 1 < cLine) (ho : PE X o td) (hi : PE X i ty) (hv : PE X value tv) (hop : InOp X op rd)
    (ha : ∀ ov iv new, augStore i ov iv new = (do holding [new, ov, iv] (setItem ov iv new); release [new, ov, iv] []; pure .next)) : PS X (.AugAssign (.Subscript o i tpos) op value pos) (sDAug td ty tv rd) := by
  intro pins s σ H D I h
  refine wpAny_AugAssign_SubscriptAny (thn (ho pins s σ H _ I h) fun u s1 ⟨x, H1, I1, rx, q1⟩ => thn (hi pins s1 σ H1 _ I1 q1) fun iv s2 ⟨y, H2, I2, ry, a, v, ex, g, q2⟩ => ?_) ha
  subst ex
  obtain rfl : u = Value.ref a := rx
  refine d_getItem hu I2 g ry fun w' s3 I3 rw' => thn (hv pins s3 σ H2 _ I3 q2) fun w2 s4 ⟨y2, H3, I4, ry2, q3⟩ => thn (hop pins s4 σ H3 v y2 w' w2 _ I4 rw' ry2 q3) fun w3 s5 ⟨z, H4, I5, rz, H5, g5, q4⟩ => ?_
  exact d_setItem hu I5 g5 ry rz fun s6 I6 => ⟨σ, H5, I6, q4⟩
theorem ps_ddel (ho : PE X o td) (hi : PE X i ty) : PS X (.Delete [.Subscript o i tpos] pos) (sDDel td ty) := by
  intro pins s σ H D I h
  refine wpAny_Delete (wpAny_deleteEach_cons (wpAny_delete_Subscript (thn (ho pins s σ H _ I h) fun u s1 ⟨x, H1, I1, rx, q1⟩ => thn (hi pins s1 σ H1 _ I1 q1) fun iv s2 ⟨y, H2, I2, ry, a, kvs, k, ex, e, ey, l, q2⟩ => ?_)))
  subst ex ey
  obtain rfl : u = Value.ref a := rx
  exact d_delItem I2 e ry l fun s3 I3 => wpAny_deleteEach_nil ⟨σ, _, I3, q2⟩
end


/-! ### displays -/
theorem dk_empty {P : Program} {w : World} {H : Hp} (h : Heap) (hb : sysModules < h.objs.size) : ObjOk P w H (h.push { cls := .type "dict", data := .dict #[] }) h.objs.size (.dK []) :=
  ⟨Nat.zero_le _, beq_eq_false_iff_ne.mpr (Ne.symm (Nat.ne_of_lt hb)), [], .nil, Heap.DictOf.new h⟩
theorem dt_empty {P : Program} {w : World} {H : Hp} (h : Heap) (hb : sysModules < h.objs.size) : ObjOk P w H (h.push { cls := .type "dict", data := .dict #[] }) h.objs.size (.dT []) :=
  ⟨Nat.zero_le _, beq_eq_false_iff_ne.mpr (Ne.symm (Nat.ne_of_lt hb)), [], .nil, _, #[], 0, Heap.get?_push_size _ rfl, ⟨rfl, rfl, rfl⟩, rfl, rfl, List.nodup_nil⟩
/-- {}, to be a dict of the kind that is wanted -/
def tDNewK : TE := fun _ H Q => ∀ p, H p = none → Q (.ref p) (upd H p (.dK []))
def tDNewT : TE := fun _ H Q => ∀ p, H p = none → Q (.ref p) (upd H p (.dT []))
section
variable {X : Cx} {pos : Pos}
theorem pe_dnewK : PE X (.Dict [] [] pos) tDNewK := fun pins s σ H Q I h =>
  wpAny_Dict_empty ⟨.ref s.heap.objs.size, _, I.laid (a := s.heap.objs.size) (o := .dK []) (t' := s.toks) (fun _ _ q => Heap.get?_push_of_some _ q) (Nat.le_refl _) (dk_empty s.heap I.big), rfl, h _ (I.hok.fresh (Nat.le_refl _))⟩
theorem pe_dnewT : PE X (.Dict [] [] pos) tDNewT := fun pins s σ H Q I h =>
  wpAny_Dict_empty ⟨.ref s.heap.objs.size, _, I.laid (a := s.heap.objs.size) (o := .dT []) (t' := s.toks) (fun _ _ q => Heap.get?_push_of_some _ q) (Nat.le_refl _) (dt_empty s.heap I.big), rfl, h _ (I.hok.fresh (Nat.le_refl _))⟩
end

/-- the pairs of a display, from the left -/
def tPairs : List (TE × TE) → St → Hp → (List (V × V) → Hp → Prop) → Prop
  | [], _, H, Q => Q [] H
  | (tk, tv) :: r, σ, H, Q => tk σ H fun x H1 => tv σ H1 fun y H2 => tPairs r σ H2 fun ps H3 => Q ((x, y) :: ps) H3
abbrev VV : List (V × V) → List (Value × Value) → Prop := Paired fun p q => RelV p.1 q.1 ∧ RelV p.2 q.2
def PPs (X : Cx) (pos : Pos) (keys : List (Option Expr)) (values : List Expr) (trs : List (TE × TE)) : Prop :=
  ∀ (pins : List (Addr × Obj)) (s : Shared) (σ : St) (H : Hp) (Q : List (V × V) → Hp → Prop), Inv X pins σ H s → tPairs trs σ H Q →
    wpAny (model X.prog X.w) X.A (evalPairs (pairTrees keys values X.env pos)) (fun vs s' => ∃ ps H', Inv X pins σ H' s' ∧ VV ps vs ∧ Q ps H') X.xe s
theorem pps_nil {X : Cx} {pos : Pos} : PPs X pos [] [] [] := fun pins s σ H Q I h => pairTrees_nil_walk ⟨[], H, I, .nil, h⟩
theorem pps_cons {X : Cx} {pos : Pos} {k v : Expr} {ks : List (Option Expr)} {vs : List Expr} {tk tv : TE} {trs : List (TE × TE)} (hk : PE X k tk) (hv : PE X v tv) (hr : PPs X pos ks vs trs) :
    PPs X pos (some k :: ks) (v :: vs) ((tk, tv) :: trs) := fun pins s σ H Q I h =>
  pairTrees_cons_walk (thn (hk pins s σ H _ I h) fun u s1 ⟨x, H1, I1, rx, q1⟩ => thn (hv pins s1 σ H1 _ I1 q1) fun w2 s2 ⟨y, H2, I2, ry, q2⟩ =>
    thn (hr pins s2 σ H2 _ I2 q2) fun ws s3 ⟨ps, H3, I3, rel, q3⟩ => ⟨(x, y) :: ps, H3, I3, .cons ⟨rx, ry⟩ rel, q3⟩)

def mergeK (kvs more : List (Key × V)) : List (Key × V) := more.foldl (fun acc kv => putK acc kv.1 kv.2) kvs
theorem KV.merge : ∀ {more : List (Key × V)} {rs : List (Key × Value)} {kvs : List (Key × V)} {vs : List (Key × Value)}, KV more rs → KV kvs vs → KV (mergeK kvs more) (merged vs rs) := by
  intro more rs kvs vs r
  unfold KV at r
  induction r generalizing kvs vs with
  | nil => intro q; exact q
  | @cons p q ps qs h t ih =>
    intro r0
    have e : KV (putK kvs p.1 p.2) (stored vs q.1 q.2) := by
      have := r0.put p.1 h.2
      rw [← h.1]; exact this
    exact ih e
theorem length_mergeK : ∀ (more kvs : List (Key × V)), (mergeK kvs more).length ≤ kvs.length + more.length
  | [], kvs => by show kvs.length ≤ kvs.length + 0; omega
  | p :: r, kvs => by
    have h1 := length_mergeK r (putK kvs p.1 p.2)
    have h2 := length_putK kvs p.1 p.2
    show (mergeK (putK kvs p.1 p.2) r).length ≤ _
    rw [List.length_cons]; omega
theorem carries_of {P : Program} {w : World} : ∀ {kvs : List (Key × V)} {ws : List (Value × Value)}, VV (kvs.map fun kv => (kV kv.1, kv.2)) ws → ∃ rs, Carries (mixKind P w) ws rs ∧ KV kvs rs
  | [], _, r => by rw [List.map_nil] at r; cases r; exact ⟨[], True.intro, .nil⟩
  | p :: kvs, _, r => by
    rw [List.map_cons] at r
    cases r with
    | @cons a b as bs h t =>
      obtain ⟨rs, c, q⟩ := carries_of (P := P) (w := w) t
      obtain ⟨b1, b2⟩ := b
      exact ⟨(p.1, b2) :: rs, ⟨kV_is h.1, rfl, c⟩, .cons ⟨rfl, h.2⟩ q⟩
/-- {k: v, ..} with keys ints and texts; the new dict stands empty while the pairs are made -/
def tDisp (trs : List (TE × TE)) : TE := fun σ H Q => ∀ p, H p = none → tPairs trs σ (upd H p (.dK [])) fun ps H2 => H2 p = some (.dK []) ∧ ∃ kvs : List (Key × V), ps = kvs.map (fun kv => (kV kv.1, kv.2)) ∧ kvs.length ≤ 15 ∧ Q (.ref p) (upd H2 p (.dK (mergeK [] kvs)))
theorem pe_disp {X : Cx} {pos : Pos} {keys : List (Option Expr)} {values : List Expr} {trs : List (TE × TE)} (h : PPs X pos keys values trs) (hall : keys.all (·.isSome) = true) (hl : keys.length = values.length) (h0 : keys ≠ [])
    (h15 : keys.length ≤ 15) : PE X (.Dict keys values pos) (tDisp trs) := by
  intro pins s σ H Q I q
  have hn := I.hok.fresh (Nat.le_refl s.heap.objs.size)
  have I1 := I.laid (a := s.heap.objs.size) (o := .dK []) (h' := s.heap.push { cls := .type "dict", data := .dict #[] }) (t' := s.toks) (fun _ _ q => Heap.get?_push_of_some _ q) (Nat.le_refl _) (dk_empty s.heap I.big)
  refine wpAny_Dict_walk (knd := mixKind X.prog X.w) hall hl h0 h15 (thn (h pins _ σ _ _ I1 (q _ hn)) fun ws s2 ⟨ps, H2, I2, rel, e, kvs, ep, lk, q2⟩ => ?_)
  subst ep
  obtain ⟨rs, c, rk⟩ := carries_of (P := X.prog) (w := X.w) rel
  obtain ⟨z, hd, vs0, r0, dd⟩ := dk_of I2.hok e
  cases r0
  refine ⟨rs, c, dd, fun h' dd' hs => ⟨.ref s.heap.objs.size, _, ?_, rfl, q2⟩⟩
  have hz : (mergeK [] kvs).length ≤ sizeLine := by
    have h1 := length_mergeK kvs []
    rw [List.length_nil] at h1
    rw [sizeLine_eq]; omega
  have he : ∃ q, h'.get? s.heap.objs.size = some q := let ⟨q, _, _, hq, _⟩ := dd'; ⟨q, hq⟩
  exact d_write I2 (by rw [e]; exact True.intro) hs he (dk_new hz hd (rk.merge .nil) dd')


/-! ### methods -/
/-- a method call o.m(e) of a built-in, with one argument: what must be seen of the text -/
structure M1 (X : Cx) (o : Expr) (m : Str) (apos : Pos) (e : Expr) (cpos : Pos) : Prop where
  base : attributeBase o m X.env (eval o X.env) = eval o X.env
  few : ((backTo cpos (starEach [e] X.env)).all (fun x => !x.1) && (backToKw cpos (keywordEach [] X.env)).all (fun x => x.1.isSome)
    && decide (([e] : List Expr).length + ([] : List Keyword).length + (if ([] : List Keyword).isEmpty then 0 else 1) < 30)) = true
  line : (apos.endLine == cpos.line) = true
  trees : backTo cpos (starEach [e] X.env) = [(false, eval e X.env)]
structure M2 (X : Cx) (o : Expr) (m : Str) (apos : Pos) (e f : Expr) (cpos : Pos) : Prop where
  base : attributeBase o m X.env (eval o X.env) = eval o X.env
  few : ((backTo cpos (starEach [e, f] X.env)).all (fun x => !x.1) && (backToKw cpos (keywordEach [] X.env)).all (fun x => x.1.isSome)
    && decide (([e, f] : List Expr).length + ([] : List Keyword).length + (if ([] : List Keyword).isEmpty then 0 else 1) < 30)) = true
  line : (apos.endLine == cpos.line) = true
  trees : backTo cpos (starEach [e, f] X.env) = [(false, eval e X.env), (false, eval f X.env)]

/-- a is a dict, whatever its keys -/
def IsD (H : Hp) (a : Addr) : Prop := (∃ kvs, Rd H a (.dK kvs)) ∨ ∃ kvs, Rd H a (.dT kvs)
theorem isD_at {X : Cx} {pins : List (Addr × Obj)} {σ : St} {H : Hp} {s : Shared} {a : Addr} (I : Inv X pins σ H s) (d : IsD H a) :
    s.TypeIs (.ref a) "dict" ∧ (∀ b, Value.ref a = .ref b → ∃ ob, s.heap.get? b = some ob ∧ ob.dict = none) ∧ (a == sysModules) = false := by
  rcases d with ⟨kvs, e⟩ | ⟨kvs, e⟩
  · obtain ⟨_, hd, vs, _, dd⟩ := dk_rd I.hok e
    refine ⟨dd.typeIs, fun b q => ?_, hd⟩
    cases q
    obtain ⟨ob, _, _, h1, h2, _⟩ := dd
    exact ⟨ob, h1, h2.2.1⟩
  · obtain ⟨_, hd, xs, _, dd⟩ := dt_rd I.hok e
    refine ⟨dd.typeIs, fun b q => ?_, hd⟩
    cases q
    obtain ⟨ob, _, _, h1, h2, _⟩ := dd
    exact ⟨ob, h1, h2.2.1⟩

section
variable {X : Cx} {pins : List (Addr × Obj)} {σ : St} {H : Hp} {s : Shared} {a : Addr} {y d : V} {u r : Value} {o : Option V} {A : Around} {E : Value → Shared → Prop}
/-- d.get(y) -/
theorem d_get1 {Q : Value → Shared → Prop} (hu : A.units + 1 < cLine) (I : Inv X pins σ H s) (g : DGet H a y o) (ry : RelV y u) (h : ∀ w' s', Inv X pins σ H s' → RelV (o.getD .non) w' → Q w' s') :
    wpAny (model X.prog X.w) A (call (.builtin "dict.get") [.ref a, u]) Q E s := by
  rcases g with ⟨kvs, k, e, ey, l⟩ | ⟨kvs, k, b, e, ey, eb, l⟩
  · subst ey
    obtain ⟨z, hd, vs, rel, dd⟩ := dk_rd I.hok e
    refine call_meetsIn PySem.F.slot_dict_get dd.typeIs PySem.F.entry_dict_get (PySem.F.args_dict_get_2 _ _) (meets_dict_get (mixKind X.prog X.w) a (kV_is ry) hd) ⟨_, dd.mapOf, h _ _ (I.tok _) ?_⟩
    rw [l]
    exact (rel.val k).getD rfl
  · subst ey
    cases (show u = Value.ref b from ry)
    obtain ⟨z, hd, xs, rel, dd⟩ := dt_rd I.hok e
    refine call_meetsIn PySem.F.slot_dict_get dd.typeIs PySem.F.entry_dict_get (PySem.F.args_dict_get_2 _ _) (meetsH_dict_get (tupleKind (mixKind X.prog X.w)) a b hd) ⟨tupleKind_room_in1 hu, k, xs, key_of I.hok eb, dd, h _ _ (I.tok _) ?_⟩
    rw [l]
    exact (rel.val k).getD rfl
/-- d.get(y, x) -/
theorem d_get2 {Q : Value → Shared → Prop} (hu : A.units + 1 < cLine) (I : Inv X pins σ H s) (g : DGet H a y o) (ry : RelV y u) (rd : RelV d r) (h : ∀ w' s', Inv X pins σ H s' → RelV (o.getD d) w' → Q w' s') :
    wpAny (model X.prog X.w) A (call (.builtin "dict.get") [.ref a, u, r]) Q E s := by
  rcases g with ⟨kvs, k, e, ey, l⟩ | ⟨kvs, k, b, e, ey, eb, l⟩
  · subst ey
    obtain ⟨z, hd, vs, rel, dd⟩ := dk_rd I.hok e
    refine call_meetsIn PySem.F.slot_dict_get dd.typeIs PySem.F.entry_dict_get (PySem.F.args_dict_get_3 _ _ _) (meets_dict_get_default (mixKind X.prog X.w) a (kV_is ry) hd r) ⟨_, dd.mapOf, h _ _ (I.tok _) ?_⟩
    rw [l]
    exact (rel.val k).getD rd
  · subst ey
    cases (show u = Value.ref b from ry)
    obtain ⟨z, hd, xs, rel, dd⟩ := dt_rd I.hok e
    refine call_meetsIn PySem.F.slot_dict_get dd.typeIs PySem.F.entry_dict_get (PySem.F.args_dict_get_3 _ _ _) (meetsH_dict_get_default (tupleKind (mixKind X.prog X.w)) a b hd r) ⟨tupleKind_room_in1 hu, k, xs, key_of I.hok eb, dd, h _ _ (I.tok _) ?_⟩
    rw [l]
    exact (rel.val k).getD rd
end

def tDGet1 (td ty : TE) : TE := fun σ H Q => td σ H fun x H1 => ∃ a, x = .ref a ∧ IsD H1 a ∧ ty σ H1 fun y H2 => ∃ o, DGet H2 a y o ∧ Q (o.getD .non) H2
def tDGet2 (td ty tx : TE) : TE := fun σ H Q => td σ H fun x H1 => ∃ a, x = .ref a ∧ IsD H1 a ∧ ty σ H1 fun y H2 => tx σ H2 fun z H3 => ∃ o, DGet H3 a y o ∧ Q (o.getD z) H3
/-- d.pop(k): there; d.pop(k, x): there or not -/
def tDPop1 (td ty : TE) : TE := fun σ H Q => td σ H fun x H1 => ∃ a, x = .ref a ∧ IsD H1 a ∧ ty σ H1 fun y H2 => ∃ kvs k v, H2 a = some (.dK kvs) ∧ y = kV k ∧ valV kvs k = some v ∧ Q v (upd H2 a (.dK (dropK kvs k)))
def tDPop2 (td ty tx : TE) : TE := fun σ H Q => td σ H fun x H1 => ∃ a, x = .ref a ∧ IsD H1 a ∧ ty σ H1 fun y H2 => tx σ H2 fun z H3 => ∃ kvs k, H3 a = some (.dK kvs) ∧ y = kV k ∧
  (∀ v, valV kvs k = some v → Q v (upd H3 a (.dK (dropK kvs k)))) ∧ (valV kvs k = none → Q z H3)
section
variable {X : Cx} {o e f : Expr} {apos cpos : Pos} {td ty tx : TE}
theorem pe_dget1 (hu : X.A.units + 1 < cLine) (ho : PE X o td) (he : PE X e ty) (m : M1 X o "get" apos e cpos) : PE X (.Call (.Attribute o "get" apos) [e] [] cpos) (tDGet1 td ty) := by
  intro pins s σ H Q I h
  refine wpAny_Call_method m.base m.few m.line PySem.F.plainAttrs_dict PySem.F.slot_dict_get PySem.F.type_dict_get (thn (ho pins s σ H _ I h) fun u s1 ⟨x, H1, I1, rx, a, ex, d, q1⟩ => ?_)
  subst ex
  obtain rfl : u = Value.ref a := rx
  obtain ⟨t1, t2, _⟩ := isD_at I1 d
  refine ⟨t1, t2, ?_⟩
  rw [m.trees]
  refine Calls.callWith_builtin rfl (Calls.evalArgs_plain (Calls.spliced_cons (thn (he pins s1 σ H1 _ I1 q1) fun iv s2 ⟨y, H2, I2, ry, ov, g, q2⟩ => Calls.spliced_nil ?_)))
  exact d_get1 hu I2 g ry fun w' s3 I3 rw' => ⟨_, H2, I3, rw', q2⟩
theorem pe_dget2 (hu : X.A.units + 1 < cLine) (ho : PE X o td) (he : PE X e ty) (hf : PE X f tx) (m : M2 X o "get" apos e f cpos) : PE X (.Call (.Attribute o "get" apos) [e, f] [] cpos) (tDGet2 td ty tx) := by
  intro pins s σ H Q I h
  refine wpAny_Call_method m.base m.few m.line PySem.F.plainAttrs_dict PySem.F.slot_dict_get PySem.F.type_dict_get (thn (ho pins s σ H _ I h) fun u s1 ⟨x, H1, I1, rx, a, ex, d, q1⟩ => ?_)
  subst ex
  obtain rfl : u = Value.ref a := rx
  obtain ⟨t1, t2, _⟩ := isD_at I1 d
  refine ⟨t1, t2, ?_⟩
  rw [m.trees]
  refine Calls.callWith_builtin rfl (Calls.evalArgs_plain (Calls.spliced_cons (thn (he pins s1 σ H1 _ I1 q1) fun iv s2 ⟨y, H2, I2, ry, q2⟩ =>
    Calls.spliced_cons (thn (hf pins s2 σ H2 _ I2 q2) fun fv s3 ⟨z, H3, I3, rz, ov, g, q3⟩ => Calls.spliced_nil ?_))))
  exact d_get2 hu I3 g ry rz fun w' s4 I4 rw' => ⟨_, H3, I4, rw', q3⟩
theorem pe_dpop1 (ho : PE X o td) (he : PE X e ty) (m : M1 X o "pop" apos e cpos) : PE X (.Call (.Attribute o "pop" apos) [e] [] cpos) (tDPop1 td ty) := by
  intro pins s σ H Q I h
  refine wpAny_Call_method m.base m.few m.line PySem.F.plainAttrs_dict PySem.F.slot_dict_pop PySem.F.type_dict_pop (thn (ho pins s σ H _ I h) fun u s1 ⟨x, H1, I1, rx, a, ex, d, q1⟩ => ?_)
  subst ex
  obtain rfl : u = Value.ref a := rx
  obtain ⟨t1, t2, _⟩ := isD_at I1 d
  refine ⟨t1, t2, ?_⟩
  rw [m.trees]
  refine Calls.callWith_builtin rfl (Calls.evalArgs_plain (Calls.spliced_cons (thn (he pins s1 σ H1 _ I1 q1) fun iv s2 ⟨y, H2, I2, ry, kvs, k, v, ea, ey, l, q2⟩ => Calls.spliced_nil ?_)))
  subst ey
  exact d_pop I2 ea ry l (.inl rfl) fun w' s3 I3 rw' => ⟨v, _, I3, rw', q2⟩
theorem pe_dpop2 (ho : PE X o td) (he : PE X e ty) (hf : PE X f tx) (m : M2 X o "pop" apos e f cpos) : PE X (.Call (.Attribute o "pop" apos) [e, f] [] cpos) (tDPop2 td ty tx) := by
  intro pins s σ H Q I h
  refine wpAny_Call_method m.base m.few m.line PySem.F.plainAttrs_dict PySem.F.slot_dict_pop PySem.F.type_dict_pop (thn (ho pins s σ H _ I h) fun u s1 ⟨x, H1, I1, rx, a, ex, d, q1⟩ => ?_)
  subst ex
  obtain rfl : u = Value.ref a := rx
  obtain ⟨t1, t2, _⟩ := isD_at I1 d
  refine ⟨t1, t2, ?_⟩
  rw [m.trees]
  refine Calls.callWith_builtin rfl (Calls.evalArgs_plain (Calls.spliced_cons (thn (he pins s1 σ H1 _ I1 q1) fun iv s2 ⟨y, H2, I2, ry, q2⟩ =>
    Calls.spliced_cons (thn (hf pins s2 σ H2 _ I2 q2) fun fv s3 ⟨z, H3, I3, rz, kvs, k, ea, ey, q3, q4⟩ => Calls.spliced_nil ?_))))
  subst ey
  cases l : valV kvs k with
  | some v => exact d_pop I3 ea ry l (.inr ⟨fv, rfl⟩) fun w' s4 I4 rw' => ⟨v, _, I4, rw', q3 v l⟩
  | none => exact d_popD I3 ea ry l fun s4 I4 => ⟨z, H3, I4, rz, q4 l⟩
end

/-! ### dict(d): a copy -/
section
variable {X : Cx} {pins : List (Addr × Obj)} {σ : St} {H : Hp} {s : Shared} {a : Addr} {kvs : List (Key × V)} {A : Around} {E : Value → Shared → Prop}
theorem d_copyOf {Q : Value → Shared → Prop} (I : Inv X pins σ H s) (e : Rd H a (.dK kvs)) (h : ∀ p s', H p = none → Inv X pins σ (upd H p (.dK kvs)) s' → Q (.ref p) s') : wpAny (model X.prog X.w) A (call (.type "dict") [.ref a]) Q E s := by
  obtain ⟨z, hd, vs, rel, dd⟩ := dk_rd I.hok e
  refine kt_call_dict hd dd (by rw [← rel.length]; exact z) fun h' dd' hs => ?_
  refine h _ _ (I.hok.fresh (Nat.le_refl _)) (I.laid (a := s.heap.objs.size) (o := .dK kvs) (t' := s.toks) (fun b q hq => ?_) (Nat.le_refl _) (dk_new z (beq_eq_false_iff_ne.mpr (Ne.symm (Nat.ne_of_lt I.big))) rel dd'))
  exact (hs.2 b (Nat.ne_of_lt (Heap.lt_size hq))).trans (Heap.get?_push_of_some _ hq)
end


section
variable {X : Cx} {pins : List (Addr × Obj)} {σ : St} {H : Hp} {s : Shared} {a : Addr} {y : V} {u : Value} {A : Around} {E : Value → Shared → Prop}
/-- d[y], not there: a KeyError -/
theorem d_missing {Q : Value → Shared → Prop} (hu : A.units + 1 < cLine) (hh : A.handled = none) (I : Inv X pins σ H s) (g : DGet H a y none) (ry : RelV y u)
    (h : ∀ h' e t', Heap.NewExc s.heap h' e "KeyError" → E (.ref e) { s with heap := h', toks := t' }) : wpAny (model X.prog X.w) A (getItem (.ref a) u) Q E s := by
  rcases g with ⟨kvs, k, e, ey, l⟩ | ⟨kvs, k, b, e, ey, eb, l⟩
  · subst ey
    obtain ⟨z, hd, vs, rel, dd⟩ := dk_rd I.hok e
    have hn : valueAt vs k = none := RelO.none_of (by rw [l]; exact rel.val k)
    exact wpAny_getItem_missing_of (kV_is ry) hd hh dd.mapOf hn fun h' ex ne => h h' ex _ ne
  · subst ey
    cases (show u = Value.ref b from ry)
    obtain ⟨z, hd, xs, rel, dd⟩ := dt_rd I.hok e
    have hn : (atKey xs k).map (·.2) = none := RelO.none_of (by rw [l]; exact rel.val k)
    exact wpAny_getItem_missing_heap (tupleKind_room_in1 hu) (key_of I.hok eb) hd hh dd (Option.map_eq_none_iff.mp hn) fun h' ex ne => h h' ex _ ne
end
end L2

namespace Att
open PySem PySem.W PySem.Calls PyProof.Rows

/-! ### the script -/
theorem ints_of_wellAll {P : Params} {h : Heap} : ∀ (ns : List Int) (vs : List Value), WellAll P h vs (ns.map WData.int) → IntsAre vs ns := by
  intro ns
  induction ns with
  | nil =>
    intro vs w
    rw [List.map_nil] at w
    cases w
    exact .nil
  | cons n ns ih =>
    intro vs w
    rw [List.map_cons] at w
    cases w with
    | cons a b =>
      cases a
      exact .cons _ _ (ih _ b)

theorem script_of {l : OpenLaw} {n : Nat} (hn : l.most = some n) {P : Params} {h : Heap} {args : List WData} {vals : List Value}
    (hpre : l.row.toRowW.claim.pre args = true) (hwl : WellAll P h vals args) :
    ∃ a vs ns, vals = [Value.ref a] ∧ args = [WData.list (ns.map WData.int)] ∧ h.get? a = some { cls := .type "list", data := .seq vs.toArray } ∧ IntsAre vs ns ∧ ns.length ≤ n := by
  have hsh : WShape.hasAll [] args [.list .int] = true := (pre_splitW hpre).1
  have hc : l.pre.holds [] { args := args } = true := (pre_splitW hpre).2
  obtain ⟨d, r, rfl, h1, h2⟩ := hasAllW_cons hsh
  obtain rfl := hasAllW_nil h2
  obtain ⟨xs, rfl, h3⟩ := hasW_list h1
  obtain ⟨ns, rfl⟩ := items_int h3
  have hlen : ns.length ≤ n := by
    unfold OpenLaw.pre at hc
    have h4 : (WTm.not (.lt (.lit (.int (n : Int))) (.len (.arg 0)))).holds [] { args := [.list (ns.map .int)] } = true := by
      have h4 := (holds_andW hc).1
      rw [hn] at h4
      exact h4
    have h5 := condW_of h4 (w_not (w_lt w_lit (w_len_list (w_arg rfl))))
    rw [List.length_map] at h5
    refine Nat.le_of_not_lt fun q => ?_
    have q' : (n : Int) < ((ns.length : Nat) : Int) := by omega
    first
      | (rw [decide_eq_true q'] at h5; exact absurd h5 (by decide))
      | (simp at h5; omega)
  cases hwl with
  | cons w1 w2 =>
    cases w2
    cases w1 with
    | list ho hall => exact ⟨_, _, ns, rfl, rfl, ho, ints_of_wellAll ns _ hall, hlen⟩

theorem post_true (l : OpenLaw) (args : List WData) : l.row.toRowW.claim.post args (.bool true) args = true :=
  postW_of (r := l.row.toRowW) (X := (true == true))
    (show WShape.has [] (.bool true) .bool = true by first | rfl | decide | simp [WShape.has, WShape.arms, WShape.armsAll])
    (show (WTm.eq .res (.lit (.bool true))).value [] { args := args, res := some (.bool true), after := args } = some (.bool (true == true)) from w_eq_bool (w_res rfl) w_lit) rfl

/-! ### the attachment: holds_open's last premise (the goal 'hc' behind k_head) from a wpAny of the law's body -/
theorem attach {l : OpenLaw} {n : Nat} {q : Program} {loose : List Str} {XP : (Str → Option Value) → Heap → Prop} {YP : World → Heap → Prop} {d : DefRec} {x : Str}
    (hn : l.most = some n) (hdf : d.params.defaults = [])
    (hbind : ∀ pm cd doc v : Value, bindArgs (docDef d.name d.params d.body d.scope pm cd doc) ⟨[v], []⟩ = pure [(x, v)])
    (hx : d.scope.names.lookup x = some .local ∨ d.scope.names.lookup x = some .cell)
    (hk : d.scope.kind = .function) (hco : d.scope.isCoroutine = false) (hgen : d.scope.isGenerator = false)
    (body : ∀ (w : World) (s₀ s₁ s : Shared) (mg mb : Str → Option Value) (fa : Addr) (o : Obj) (pm cd doc : Value) (a : Addr) (vs : List Value) (ns : List Int),
      Ground q loose [] XP w s₀ mg mb s₁.heap → YP w s₁.heap →
      s₁.heap.get? fa = some o → o.data = .func (docDef d.name d.params d.body d.scope pm cd doc) → s₁.heap.CodeRec cd d.name → mg d.name = some (.ref fa) →
      s₁.heap.get? a = some { cls := .type "list", data := .seq vs.toArray } → IntsAre vs ns → ns.length ≤ n →
      s.gens = #[] → s.os = s₁.os →
      Fr s₁.heap s₁.heap.objs.size s.heap (bindL (envOfC d.name d.scope s₁.heap.objs.size fa cd).kindOf [(x, .ref a)] fun _ => none) →
      Cl s₁.heap.objs.size (cellsFrom (s₁.heap.objs.size + 1) d.scope.names []) s.heap (bindC (envOfC d.name d.scope s₁.heap.objs.size fa cd).kindOf [(x, .ref a)] fun _ => none) →
      wpAny (model l.prog w) (callerA.deeper (envOfC d.name d.scope s₁.heap.objs.size fa cd)) (execs d.body (envOfC d.name d.scope s₁.heap.objs.size fa cd))
        (fun f s' => f = .ret (.bool true) ∧ OldK s₁.heap s'.heap ∧ s'.os = s₁.os ∧ AllBare s'.gens) (fun _ _ => False) s) :
    WalkO q loose XP YP l.row.toRowW d [] (fun f vs => PySem.call f vs) := by
  intro w s₀ s₁ mg mb G Y fa o pm cd doc dV kV ho hd hcd hD hmg hg args vals as hpre hlay hrd hwl hlo
  obtain rfl : dV = .none := Dflts.none hD hdf
  obtain rfl : kV = .none := Dflts.noKw hD
  obtain ⟨a, vs, ns, rfl, rfl, hobj, hints, hlen⟩ := script_of hn hpre hwl
  refine enter_call ?_
  refine call_cells_ret (o := o) (by rw [depth_caller]; decide) ho (fd_plain hd) G.T.nolimit hcd (hbind pm cd doc (.ref a)) (fun y hy => ?_) (fun h₁ tk F X => ?_) hco hgen hk
  · obtain rfl : y = (x, Value.ref a) := List.mem_singleton.mp hy
    rcases hx with e | e
    · exact .inl e
    · exact .inr ⟨e, cellsFrom_some _ _ _ (.inl e)⟩
  · refine wpAny_mono (body w s₀ s₁ { s₁ with heap := h₁, toks := tk } mg mb fa o pm cd doc a vs ns G Y ho (fd_plain hd) hcd hmg hobj hints hlen hg rfl F X) (fun f s' hq => ?_) (fun _ _ hq => hq)
    obtain ⟨rfl, h2, h3, h4⟩ := hq
    exact ⟨.inl ⟨.bool true, .bool true, [], rfl, fun _ => rfl, .bool true, post_true l _, fun _ => ⟨List.Pairwise.nil, fun _ hm => (nomatch hm)⟩⟩, h2, h3, h4⟩

/-- the same from a codeAny of the CALL (for a layer whose function contracts speak of calls) -/
theorem attach_call {l : OpenLaw} {n : Nat} {q : Program} {loose : List Str} {XP : (Str → Option Value) → Heap → Prop} {YP : World → Heap → Prop} {d : DefRec}
    (hn : l.most = some n) (hdf : d.params.defaults = [])
    (call : ∀ (w : World) (s₀ s₁ : Shared) (mg mb : Str → Option Value) (fa : Addr) (o : Obj) (pm cd doc : Value) (a : Addr) (vs : List Value) (ns : List Int),
      Ground q loose [] XP w s₀ mg mb s₁.heap → YP w s₁.heap →
      s₁.heap.get? fa = some o → o.data = .func (docDef d.name d.params d.body d.scope pm cd doc) → s₁.heap.CodeRec cd d.name → mg d.name = some (.ref fa) →
      s₁.heap.get? a = some { cls := .type "list", data := .seq vs.toArray } → IntsAre vs ns → ns.length ≤ n → s₁.gens = #[] →
      codeAny (model l.prog w) callerA (.call (.ref fa) ⟨[.ref a], []⟩) (fun r s' => r = .ok (.ret (.bool true)) ∧ OldK s₁.heap s'.heap ∧ s'.os = s₁.os ∧ AllBare s'.gens) s₁) :
    WalkO q loose XP YP l.row.toRowW d [] (fun f vs => PySem.call f vs) := by
  intro w s₀ s₁ mg mb G Y fa o pm cd doc dV kV ho hd hcd hD hmg hg args vals as hpre hlay hrd hwl hlo
  obtain rfl : dV = .none := Dflts.none hD hdf
  obtain rfl : kV = .none := Dflts.noKw hD
  obtain ⟨a, vs, ns, rfl, rfl, hobj, hints, hlen⟩ := script_of hn hpre hwl
  refine enter_call (codeAny_mono (call w s₀ s₁ mg mb fa o pm cd doc a vs ns G Y ho (fd_plain hd) hcd hmg hobj hints hlen hg) fun r s' hq => ?_)
  obtain ⟨rfl, h2, h3, h4⟩ := hq
  exact ⟨.inl ⟨.bool true, .bool true, [], rfl, fun _ => rfl, .bool true, post_true l _, fun _ => ⟨List.Pairwise.nil, fun _ hm => (nomatch hm)⟩⟩, h2, h3, h4⟩

/-- the same where the top left finished generators (o_head chose holds_openN): nothing may have changed at all and no generator may be left -/
theorem attachN {l : OpenLaw} {n : Nat} {q : Program} {loose : List Str} {XP : (Str → Option Value) → Heap → Prop} {YP : World → Heap → Prop} {d : DefRec} {x : Str}
    (hn : l.most = some n) (hdf : d.params.defaults = [])
    (hbind : ∀ pm cd doc v : Value, bindArgs (docDef d.name d.params d.body d.scope pm cd doc) ⟨[v], []⟩ = pure [(x, v)])
    (hx : d.scope.names.lookup x = some .local ∨ d.scope.names.lookup x = some .cell)
    (hk : d.scope.kind = .function) (hco : d.scope.isCoroutine = false) (hgen : d.scope.isGenerator = false)
    (body : ∀ (w : World) (s₀ s₁ s : Shared) (mg mb : Str → Option Value) (fa : Addr) (o : Obj) (pm cd doc : Value) (a : Addr) (vs : List Value) (ns : List Int),
      Ground q loose [] XP w s₀ mg mb s₁.heap → YP w s₁.heap →
      s₁.heap.get? fa = some o → o.data = .func (docDef d.name d.params d.body d.scope pm cd doc) → s₁.heap.CodeRec cd d.name → mg d.name = some (.ref fa) →
      s₁.heap.get? a = some { cls := .type "list", data := .seq vs.toArray } → IntsAre vs ns → ns.length ≤ n →
      s.gens = #[] → s.os = s₁.os →
      Fr s₁.heap s₁.heap.objs.size s.heap (bindL (envOfC d.name d.scope s₁.heap.objs.size fa cd).kindOf [(x, .ref a)] fun _ => none) →
      Cl s₁.heap.objs.size (cellsFrom (s₁.heap.objs.size + 1) d.scope.names []) s.heap (bindC (envOfC d.name d.scope s₁.heap.objs.size fa cd).kindOf [(x, .ref a)] fun _ => none) →
      wpAny (model l.prog w) (callerA.deeper (envOfC d.name d.scope s₁.heap.objs.size fa cd)) (execs d.body (envOfC d.name d.scope s₁.heap.objs.size fa cd))
        (fun f s' => f = .ret (.bool true) ∧ (∀ b o, s₁.heap.get? b = some o → s'.heap.get? b = some o) ∧ s'.os = s₁.os ∧ s'.gens = #[]) (fun _ _ => False) s) :
    WalkN q loose XP YP l.row.toRowW d [] (fun f vs => PySem.call f vs) := by
  intro w s₀ s₁ mg mb G Y fa o pm cd doc dV kV ho hd hcd hD hmg hg args vals as hpre hlay hrd hwl hlo
  obtain rfl : dV = .none := Dflts.none hD hdf
  obtain rfl : kV = .none := Dflts.noKw hD
  obtain ⟨a, vs, ns, rfl, rfl, hobj, hints, hlen⟩ := script_of hn hpre hwl
  refine enter_callW ?_
  refine call_cells_ret (o := o) (by rw [depth_caller]; decide) ho (fd_plain hd) G.T.nolimit hcd (hbind pm cd doc (.ref a)) (fun y hy => ?_) (fun h₁ tk F X => ?_) hco hgen hk
  · obtain rfl : y = (x, Value.ref a) := List.mem_singleton.mp hy
    rcases hx with e | e
    · exact .inl e
    · exact .inr ⟨e, cellsFrom_some _ _ _ (.inl e)⟩
  · refine wpAny_mono (body w s₀ s₁ { s₁ with heap := h₁, toks := tk } mg mb fa o pm cd doc a vs ns G Y ho (fd_plain hd) hcd hmg hobj hints hlen hg rfl F X) (fun f s' hq => ?_) (fun _ _ hq => hq)
    obtain ⟨rfl, h2, h3, h4⟩ := hq
    exact ⟨.inl ⟨.bool true, .bool true, [], rfl, fun _ => rfl, .bool true, post_true l _, fun _ => ⟨List.Pairwise.nil, fun _ hm => (nomatch hm)⟩⟩, h2, h3, h4⟩

/-! ### rules over ANY heap (no ledger) from facts about the written part K: the library's own take a ledger (News) for what they write -/
section
variable {prog : Program} {w : World} {A : Around} {E : Value → Shared → Prop} {s : Shared} {K : Frag}

/-- a def of the module, or a method (qual 'C.m'), entered: the frame is the next address; cells behind it -/
theorem call_fn {R : Result → Shared → Prop} {name qual : Str} {params : Arguments} {body : List Stmt} {scope : Scope} {dV kV doc pm cdv ct oc : Value} {an od : Option Addr} {osl : Array (Option Value)} {f : Addr} {args : Args} {binds : List (Str × Value)}
    (X : K.In s.heap) (hlim : s.heap.NoLimit) (ho : K.lookup f = some ⟨oc, od, .func (fnOf name qual params body scope dV kV doc pm an cdv ct), osl⟩) (hcd : codeIn K cdv qual = true) (hroom : A.depth < recursionLimit)
    (hbind : BindsTo s (fnOf name qual params body scope dV kV doc pm an cdv ct) args binds)
    (hkind : (binds.all fun y => scope.names.lookup y.1 == some .local || scope.names.lookup y.1 == some .cell) = true)
    (h : ∀ s₁, InCallC s s.heap.objs.size (bindL (envOfC qual scope s.heap.objs.size f cdv).kindOf binds fun _ => none) (cellsFrom (s.heap.objs.size + 1) scope.names [])
        (bindC (envOfC qual scope s.heap.objs.size f cdv).kindOf binds fun _ => none) s₁ →
      wpAny (model prog w) (A.deeper (envOfC qual scope s.heap.objs.size f cdv)) (execs body (envOfC qual scope s.heap.objs.size f cdv))
        (fun fl s' => R (.ok (.ret (match fl with | .ret v => v | _ => .none))) s')
        (fun e s' => wpAny (model prog w) (A.deeper (envOfC qual scope s.heap.objs.size f cdv)) (leaving (envOfC qual scope s.heap.objs.size f cdv) e) (fun _ s'' => R (.error e) s'') (fun e' s'' => R (.error e') s'') s') s₁)
    (hco : scope.isCoroutine = false) (hgen : scope.isGenerator = false) (hk : scope.kind = .function) : codeAny (model prog w) A (.call (.ref f) args) R s := by
  refine codeAny_call_function hroom (X _ _ ho) rfl hco hgen rfl (codeRec_of X hcd) (hbind _ _ _ _ ?_)
  refine wpAny_newFunctionEnv_cells hk (kindsX hkind _) fun env he s₁ x => ?_
  subst he
  exact ⟨hlim.keeps x.toInCall.keep, codeAny_func (h s₁ x)⟩

/-- C(..): dict at size, instance at size + 1, then __init__ -/
theorem make_obj {R : Result → Shared → Prop} {C fI : Addr} {rest : List Value} {kw : List (Str × Value)}
    (X : K.In s.heap) (hm : makesIn K C = true) (hi : findIn K (.ref C) "__init__" = some (some (.ref fI))) (hf : isFn K (.ref fI) = true)
    (h : codeAny (model prog w) (A.under (.builtin "type.__call__" ⟨.ref C :: rest, kw⟩)) (.call (.ref fI) ⟨.ref (s.heap.objs.size + 1) :: rest, kw⟩) (InitBack (s.heap.objs.size + 1) R)
      { s with heap := (s.heap.push emptyDict).push (instObj C s.heap.objs.size) }) : codeAny (model prog w) A (.call (.ref C) ⟨rest, kw⟩) R s := by
  obtain ⟨hh, g, d, t, os⟩ := s
  exact make_core (makes_of X hm) (looks_findIn X hi) (fun self => bind_fn X self (beq_iff_eq.mp hf)) (.inl rfl) h

/-- x.name where the instance's dict holds the name and the class does not -/
theorem get_field {x C : Addr} {ox : Obj} {es : List DictEntry} {n : Nat} {name : Str} {expr : Bool} {v : Value} {Q : Value → Shared → Prop}
    (X : K.In s.heap) (I : PySem.W.InstAt s.heap x ox C (some (dictOf es n))) (hg : plainGet K C name = true) (hh : hasDictIn K C = true) (ha : findIn K (.ref C) name = some none)
    (hl : getL name es = some (some v)) (hv : handedIn v = true) (h : Q v { s with toks := s.toks + 1 }) : wpAny (model prog w) A (getAttr (.ref x) name expr) Q E s :=
  get_value X I (plainGet_of hg).1 (findObj_own hh ha rfl hl) hv h

/-- x.m(..): the method found in the class -/
theorem get_method {x C f : Addr} {ox : Obj} {es : List DictEntry} {n : Nat} {name : Str} {pl : Sem Bool} {Q : Value × List Value → Shared → Prop}
    (X : K.In s.heap) (I : PySem.W.InstAt s.heap x ox C (some (dictOf es n))) (hg : plainGet K C name = true) (hf : findIn K (.ref C) name = some (some (.ref f))) (ht : isFn K (.ref f) = true)
    (hl : getL name es = some none) (h : Q (.ref f, [.ref x]) s) : wpAny (model prog w) A (getMethod (.ref x) name pl) Q E s :=
  method_fn X I (plainGet_of hg).1 (plainGet_of hg).2 hf (beq_iff_eq.mp ht) (by show (lookIn name (dictOf es n)).map _ = _; rw [lookIn_dict, hl]; rfl) h

/-! the whole heap as the ledger: makes every rule that writes through a ledger a rule over any heap -/
def noObjs (h : Heap) : Heap := { h with objs := #[] }
theorem noObjs_get (h : Heap) (b : Addr) : (noObjs h).get? b = none := by
  cases e : (noObjs h).get? b with
  | none => rfl
  | some o => exact absurd (Heap.lt_size e) (Nat.not_lt_zero _)
def ledger (h : Heap) (L d : Addr) : List (Addr × Obj) := (List.range h.objs.size).filterMap fun a => if a = L ∨ a = d then none else (h.get? a).map fun o => (a, o)
theorem mem_ledger {h : Heap} {L d a : Addr} {o : Obj} : (a, o) ∈ ledger h L d ↔ a ≠ L ∧ a ≠ d ∧ h.get? a = some o := by
  unfold ledger
  rw [List.mem_filterMap]
  constructor
  · rintro ⟨b, _, e⟩
    split at e
    · cases e
    · rename_i hb
      obtain ⟨o', ho, e'⟩ := Option.map_eq_some_iff.mp e
      cases e'
      exact ⟨fun q => hb (.inl q), fun q => hb (.inr q), ho⟩
  · rintro ⟨n1, n2, ho⟩
    refine ⟨a, List.mem_range.mpr (Heap.lt_size ho), ?_⟩
    rw [if_neg (show ¬ (a = L ∨ a = d) from fun q => q.elim n1 n2), ho] <;> rfl
theorem news_ledger {h : Heap} {L d : Addr} {od : Obj} (hne : d ≠ L) (ho : h.get? d = some od) : News (noObjs h) L h ([] ++ (d, od) :: ledger h L d) := by
  rintro ⟨a, o⟩ hp
  rcases List.mem_cons.mp hp with e | hp
  · cases e
    exact ⟨ho, hne, noObjs_get _ _⟩
  · obtain ⟨n1, n2, e⟩ := mem_ledger.mp hp
    exact ⟨e, n1, noObjs_get _ _⟩
theorem fr_all {h : Heap} {L : Addr} {m : Str → Option Value} (n : h.Ns L m) : Fr (noObjs h) L h m :=
  ⟨n, fun b o e => (by rw [noObjs_get] at e; cases e), Nat.zero_le _⟩
/-- Upd of the head entry (for append_K, setItem_K ..) -/
theorem upd_ledger {h : Heap} {L d : Addr} {o o' : Obj} : Upd d o o' ((d, o) :: ledger h L d) ((d, o') :: ledger h L d) :=
  .head fun ⟨_, _⟩ hp => (mem_ledger.mp hp).2.1

/-- x.name = v over any heap: L is any namespace of the heap (the frame's, say): its map stays, its object is not told; all else but the dict stays -/
theorem set_field {x C dx L : Addr} {ox : Obj} {m : Str → Option Value} {es es' : List DictEntry} {n n' : Nat} {name : Str} {v : Value} {Q : Unit → Shared → Prop}
    (X : K.In s.heap) (I : PySem.W.InstAt s.heap x ox C (some (dictOf es n))) (hd : ox.dict = some dx) (hL : s.heap.Ns L m) (hne : dx ≠ L)
    (hs : findIn K (.ref C) "__setattr__" = some (some (.builtin "object.__setattr__"))) (hp : plainOver K C = true) (ht : takerIn K C name = some none) (hh : hasDictIn K C = true) (hl : (getL name es).isSome = true)
    (e : (putL name (PyData.keyHash w.params name) (.str name (s.toks + 1)) v es, putN name es n) = (es', n')) (hz : es'.length ≤ 1000)
    (h : ∀ h' : Heap, h'.Ns L m → h'.get? dx = some (dictOf es' n') → (∀ b o, b ≠ dx → b ≠ L → s.heap.get? b = some o → h'.get? b = some o) → Q () { s with heap := h', toks := s.toks + 2 }) :
    wpAny (model prog w) A (setAttr (.ref x) name v) Q E s := by
  obtain ⟨e1, e2⟩ := Prod.mk.inj e
  have hdx : s.heap.get? dx = some (dictOf es n) := by
    have := I.dict
    rw [hd] at this
    exact this
  refine set_plain X I hs (osa_dict (s := { s with toks := s.toks + 1 }) (h₀ := noObjs s.heap) (L := L) (m := m) (od := dictOf es n) (od' := dictOf es' n') (es := es') (n := n') (pre := []) (post := ledger s.heap L dx)
    (fr_all hL) (news_ledger hne hdx) X I hd hp ht hh hl (fun _ q => nomatch q) (fun ⟨_, _⟩ q => (mem_ledger.mp q).2.1) (by rw [putName_dict, e1, e2]) rfl hz fun h' F' N' => ?_)
  exact h h' F'.ns (N'.get (List.Mem.head _)) fun b o n1 n2 ho => N'.get (List.Mem.tail _ (mem_ledger.mpr ⟨n2, n1, ho⟩))
end
end Att

namespace L2
open PySem PySem.Spec PyProof.Rows

theorem vals_ints : ∀ {vs : List Value} {ns : List Int}, IntsAre vs ns → Vals (ns.map V.int) vs
  | _, _, .nil => .nil
  | _, _, .cons n t h => .cons ⟨t, rfl⟩ (vals_ints h)

/-- nothing is tracked but the script, known to the object (or it is an object of the module) -/
def Only (H : Hp) : Prop := ∀ b, H b = none ∨ ∃ o xs, H b = some (.frz o (.lst xs))

/-- THE HEAD: the law's promise, at the heap behind the top. F, the promise of the law's def, may use that base is part of the heap (so K.In base, base.Ns mainGlobals mg stand in Mod) -/
theorem law_call {P : Program} {w : World} {K : PySem.W.Frag} {mg mb : Str → Option Value} {CX : CXT} {k : Nat} {fa a : Addr} {fd : FuncData} {x : Str} {sp : Sp} {s₁ : Shared} {vs : List Value} {ns : List Int}
    (KX : K.In s₁.heap) (hns : s₁.heap.Ns mainGlobals mg) (hb : s₁.heap.Ns builtinsNs mb) (hbb : ∀ x : Str, x ≠ "__name__" → mb x = bootBuiltins x) (hlim : s₁.heap.NoLimit) (hg : s₁.gens = #[])
    (ha : s₁.heap.get? a = some { cls := .type "list", data := .seq vs.toArray }) (hi : IntsAre vs ns) (hl : ns.length ≤ sizeLine) (hr : Room k callerA)
    (F : ∀ base : Heap, K.In base → base.Ns mainGlobals mg → FnOk P w K mg base CX k fa fd [x] sp) (hbind : ∀ (s : Shared) (u : Value), BindsTo s fd ⟨[u], []⟩ [(x, u)])
    (hsp : ∀ H : Hp, Only H → SqL K H a (ns.map V.int) → sp [.ref a] H (fun v _ => v = .bl true) fun _ _ _ => False)
    (hCX : ∀ H e s', CX [] H s₁ (fun _ _ _ => False) e s' → False) :
    codeAny (model P w) callerA (.call (.ref fa) ⟨[.ref a], []⟩) (fun r s' => r = .ok (.ret (.bool true)) ∧ OldK s₁.heap s'.heap ∧ s'.os = s₁.os ∧ AllBare s'.gens) s₁ := by
  have rv := vals_ints hi
  have lenV := hi.length
  -- from an abstract heap in which nothing but the script may be tracked
  have core : ∀ H : Hp, Only H → SqL K H a (ns.map V.int) → HOk P w H s₁.heap → (∀ b, H b ≠ none → b = a) → (H a ≠ none → K.lookup a = none) →
      codeAny (model P w) callerA (.call (.ref fa) ⟨[.ref a], []⟩) (fun r s' => r = .ok (.ret (.bool true)) ∧ OldK s₁.heap s'.heap ∧ s'.os = s₁.os ∧ AllBare s'.gens) s₁ := by
    intro H hO hS hok hA hK
    have base_of : ∀ {b : Addr} {o : Obj}, s₁.heap.get? b = some o → H b = none → (hidT s₁.heap H).get? b = some o := fun e n => hidT_get e n
    have noA : ∀ {b : Addr} {o : Obj} {es : Array DictEntry} {ep : Nat}, s₁.heap.get? b = some o → o.data = .dict es ep → H b = none := fun {b o es ep} e d => by
      cases q : H b with
      | none => rfl
      | some u =>
        have e' : b = a := hA b (by rw [q]; simp)
        subst e'
        rw [ha] at e; cases e
        have d' : Data.seq vs.toArray _ = Data.dict es ep := d
        cases d'
    have nsK : ∀ {b : Addr} {m : Str → Option Value}, s₁.heap.Ns b m → (hidT s₁.heap H).Ns b m := fun {b m} ⟨o, es, ep, e, d, r⟩ => ⟨o, es, ep, base_of e (noA e d), d, r⟩
    have hKb : K.In (hidT s₁.heap H) := fun b o e => base_of (KX b o e) (by
      cases q : H b with
      | none => rfl
      | some u =>
        have e' : b = a := hA b (by rw [q]; simp)
        subst e'
        rw [hK (by rw [q]; simp)] at e; cases e)
    have hM : Mod K mg (hidT s₁.heap H) := ⟨hKb, nsK hns, ⟨mb, nsK hb, hbb⟩, let ⟨mc, h1, h2⟩ := hlim; ⟨mc, nsK h1, h2⟩⟩
    have e0 : Env0 P w K mg (hidT s₁.heap H) callerA [] s₁ H := ⟨rfl, hM, fun b o e => of_hidT e, Nat.le_of_eq (hidT_size _ _), trivial, fun b hb => absurd (show b ∈ ([] : List Addr) from hb) (by simp), hok, .of_eq hg⟩
    refine codeAny_mono ((F _ hKb (nsK hns)).run callerA [] s₁ H ⟨[.ref a], []⟩ [.ref a] [.ref a] _ _ hr e0 (hbind s₁ (.ref a)) (.cons rfl .nil) (hsp H hO hS)) fun r s' h => ?_
    cases r with
    | error e => exact (hCX H e s' h).elim
    | ok fl =>
      cases fl with
      | next => exact False.elim h
      | brk => exact False.elim h
      | cont => exact False.elim h
      | ret u =>
        obtain ⟨v, H', os, bare, un, hok', r', q⟩ := h
        have q' : v = .bl true := q
        subst q'
        obtain rfl : u = Value.bool true := r'
        refine ⟨rfl, OldK.of_keep fun b o e => ?_, os, bare⟩
        cases q : H b with
        | none => exact un.keep b o e q (by intro z; exact absurd (show b ∈ ([] : List Addr) from z) (by simp)) (by simp)
        | some u =>
          rcases hO b with z | ⟨ob, xs, z⟩
          · rw [q] at z; cases z
          · have z2 := un.frzs b ob _ z
            obtain ⟨e1, _⟩ := hok b _ z
            obtain ⟨e2, _⟩ := hok' b _ z2
            rw [e] at e1; cases e1
            exact e2
  cases hk : K.lookup a with
  | some o =>
    -- the script is one of the module's own objects
    have e := KX a o hk
    rw [ha] at e
    cases e
    refine core (fun _ => none) (fun _ => .inl rfl) (.inr ⟨_, vs.toArray, _, hk, rfl, rfl, rfl, by rw [List.size_toArray, lenV]; exact hl, by simpa using rv⟩) (fun b u z => by have z' : (none : Option HO) = some u := z; cases z') (fun b z => absurd rfl z) fun z => absurd rfl z
  | none =>
    refine core (fun b => if b = a then some (.frz { cls := .type "list", data := .seq vs.toArray } (.lst (ns.map V.int))) else none) (fun b => ?_) (.inl (.inr ⟨{ cls := .type "list", data := .seq vs.toArray }, if_pos rfl⟩)) (fun b u z => ?_) (fun b z => ?_) fun _ => hk
    · by_cases hb : b = a
      · exact .inr ⟨_, _, if_pos hb⟩
      · exact .inl (if_neg hb)
    · by_cases hb : b = a
      · have z' := (if_pos hb).symm.trans z
        cases z'
        subst hb
        exact ⟨ha, by rw [List.length_map]; exact hl, vs, _, rv, ha⟩
      · have z' := (if_neg hb).symm.trans z
        cases z'
    · by_cases hb : b = a
      · exact hb
      · exact absurd (if_neg hb) z
end L2

namespace L2
open PySem PySem.Spec PyProof.Rows

abbrev KOf {K : PySem.W.Frag} {h : Heap} (_ : K.In h) : PySem.W.Frag := K

/-- the goal that k_head leaves (case hc), from the law's promise. F gives the function object fd (K's own) once, then the promise over every base -/
theorem walk_of {l : PySem.W.OpenLaw} {n k : Nat} {q : Program} {loose : List Str} {XP : (Str → Option Value) → Heap → Prop} {YP : World → Heap → Prop} {d : DefRec} {K : Params → PySem.W.Frag} {CX : World → CXT} {sp : World → Sp} {x : Str}
    (hn : l.most = some n) (hn2 : n ≤ sizeLine) (hdf : d.params.defaults = []) (hr : Room k callerA)
    (hY : ∀ (w : World) (h : Heap), YP w h → (K w.params).In h)
    (F : ∀ (w : World) (mg : Str → Option Value) (fa : Addr) (h : Heap), (K w.params).In h → h.Ns mainGlobals mg → mg d.name = some (.ref fa) →
      ∃ fd : FuncData, (∀ (s : Shared) (u : Value), BindsTo s fd ⟨[u], []⟩ [(x, u)]) ∧
        ∀ base : Heap, (K w.params).In base → base.Ns mainGlobals mg → FnOk l.prog w (K w.params) mg base (CX w) k fa fd [x] (sp w))
    (hsp : ∀ (w : World) (H : Hp) (a : Addr) (ns : List Int), ns.length ≤ n → Only H → SqL (K w.params) H a (ns.map V.int) → sp w [.ref a] H (fun v _ => v = .bl true) fun _ _ _ => False)
    (hCX : ∀ (w : World) (H : Hp) (s : Shared) (e : Value) (s' : Shared), CX w [] H s (fun _ _ _ => False) e s' → False) :
    PySem.W.WalkO q loose XP YP l.row.toRowW d [] (fun f vs => PySem.call f vs) := by
  refine Att.attach_call hn hdf fun w s₀ s₁ mg mb fa o pm cd doc a vs ns G Y ho hd hcd hmg hobj hints hlen hg => ?_
  have KX := hY w _ Y
  obtain ⟨fd, hb, hF⟩ := F w mg fa _ KX G.T.g hmg
  exact law_call KX G.T.g G.T.b G.T.builtins G.T.nolimit hg hobj hints (Nat.le_trans hlen hn2) hr hF hb (fun H hO hS => hsp w H a ns hlen hO hS) fun H e s' => hCX w H s₁ e s'
/-- the same where the promise hangs on the written part alone: (sp := My.sp_law), no hole under a binder -/
theorem walk_ofK {l : PySem.W.OpenLaw} {n k : Nat} {q : Program} {loose : List Str} {XP : (Str → Option Value) → Heap → Prop} {YP : World → Heap → Prop} {d : DefRec} {K : Params → PySem.W.Frag} {CX : CXT} {sp : PySem.W.Frag → Sp} {x : Str}
    (hn : l.most = some n) (hn2 : n ≤ sizeLine) (hdf : d.params.defaults = []) (hr : Room k callerA)
    (hY : ∀ (w : World) (h : Heap), YP w h → (K w.params).In h)
    (F : ∀ (w : World) (mg : Str → Option Value) (fa : Addr) (h : Heap), (K w.params).In h → h.Ns mainGlobals mg → mg d.name = some (.ref fa) →
      ∃ fd : FuncData, (∀ (s : Shared) (u : Value), BindsTo s fd ⟨[u], []⟩ [(x, u)]) ∧
        ∀ base : Heap, (K w.params).In base → base.Ns mainGlobals mg → FnOk l.prog w (K w.params) mg base CX k fa fd [x] (sp (K w.params)))
    (hsp : ∀ (K : PySem.W.Frag) (H : Hp) (a : Addr) (ns : List Int), ns.length ≤ n → Only H → SqL K H a (ns.map V.int) → sp K [.ref a] H (fun v _ => v = .bl true) fun _ _ _ => False)
    (hCX : ∀ (H : Hp) (s : Shared) (e : Value) (s' : Shared), CX [] H s (fun _ _ _ => False) e s' → False) :
    PySem.W.WalkO q loose XP YP l.row.toRowW d [] (fun f vs => PySem.call f vs) :=
  walk_of (K := K) (CX := fun _ => CX) (sp := fun w => sp (K w.params)) hn hn2 hdf hr hY F (fun w H a ns h1 h2 h3 => hsp (K w.params) H a ns h1 h2 h3) fun _ H s e s' => hCX H s e s'
end L2

/- THE LAST THEOREM (shape; LID, My.* are yours):
   My.Adr: a structure of the addresses that your layer names (classes, functions); My.Txt K t: a structure (Prop) of the equations over K;
   My.txt_mk : {K} {implicit addresses ..} (e1 : nsIn K mainGlobals "law" = some (some (.ref f))) (e2 : K.lookup f = some ⟨oc, od, .func (fnOf "law" "law" params body scope dV kV doc pm an cdv ct), sl⟩) (e3 : codeIn K cdv "law" = true) .. : ∃ t, My.Txt K t

set_option maxRecDepth 100000 in
set_option maxHeartbeats 0 in
theorem PySem.Challenge.cw_LID_holds : PySem.Challenge.rw_LID.Holds := by
  w_on; o_law; k_head; (case hw => w_witness2)
  k_fill
  refine L2.walk_of (l := PySem.Challenge.rw_LID) (n := 63) (k := 40) (x := "script") (CX := fun w => ..) (sp := fun _ => My.sp_law) rfl (by decide) rfl ⟨rfl, by decide, by decide⟩ (fun w h Y => PySem.W.kIn_of Y) ?F ?S ?C
  case F =>
    intro w mg fa h KX G hmg
    have T : ∃ t, My.Txt (L2.KOf KX) t := by
      dsimp only [L2.KOf]                          -- K must stand as «<heap const> w.params» for k_is
      refine' My.txt_mk ?e1 ?e2 ?e3 ..
      (case e1 => PySem.W.k_is)                    -- in the order: a name -> its address -> its object -> its parts
      (case e2 => PySem.W.k_is)
      ..
    obtain ⟨t, T⟩ := T
    have e0 := hmg.symm.trans (PySem.W.mg_of KX G T.law)
    cases e0                                       -- fa is the law's own address
    exact ⟨_, fun s u => .of_eq rfl, fun base kb nb => My.law_fn T kb nb⟩     -- if «.of_eq rfl» comes too early: refine' ⟨_, ?b, fun base kb nb => My.law_fn T kb nb⟩; exact fun s u => .of_eq rfl
  case S => exact fun w H a ns hl hO hS => ..
  case C => exact ..
(the tactic k_is has no namespace: write k_is) -/

/-! SHORT WORDS over the layer: a def of the text, its body, what a loop and a test want. -/
namespace L2
open PySem PySem.Spec PyProof.Rows

/-! ### the text by places -/
/-- the j-th statement of a class's body -/
def inClass (s : Stmt) (j : Nat) : Stmt := match s with
  | .ClassDef _ _ _ body _ _ _ _ _ _ _ => body.getD j (.Pass ⟨0, 0, 0, 0⟩)
  | _ => .Pass ⟨0, 0, 0, 0⟩
def defArgs (s : Stmt) : Arguments := match s with
  | .FunctionDef _ a _ _ _ _ _ _ _ _ => a
  | _ => { posonlyargs := [], args := [], vararg := none, kwonlyargs := [], kw_defaults := [], kwarg := none, defaults := [] }
def defBody (s : Stmt) : List Stmt := match s with
  | .FunctionDef _ _ b _ _ _ _ _ _ _ => b
  | _ => []
def defScope (s : Stmt) : Scope := match s with
  | .FunctionDef _ _ _ _ _ _ sc _ _ _ => sc
  | _ => { kind := .function, names := [], isGenerator := false, isCoroutine := false }

/-! ### no exception leaves a def -/
abbrev CX0 : CXT := fun _ _ _ _ _ _ => False
abbrev E0 : XK := fun _ _ _ => False
theorem pass0 {X : Cx} : Passes CX0 X E0 := fun _ _ _ _ _ _ _ h => h.elim

/-! ### a def (or method) of the text as it stands behind the top -/
structure Fun (K : PySem.W.Frag) (x qual : Str) (st : Stmt) (f : Addr) (fd : FuncData) : Prop where
  ex : ∃ (oc : Value) (od : Option Addr) (kV doc pm : Value) (an : Option Addr) (cdv ct : Value) (osl : Array (Option Value)),
    fd = PySem.W.fnOf x qual (defArgs st) (defBody st) (defScope st) .none kV doc pm an cdv ct ∧ K.lookup f = some ⟨oc, od, .func fd, osl⟩ ∧ PySem.W.codeIn K cdv qual = true
  kp : PySem.W.keepIn K (.ref f) = true
section
variable {P : Program} {w : World} {K : PySem.W.Frag} {mg : Str → Option Value} {base : Heap}
/-- THE RULE for a def: its body as a term of rules, and the reading of that term -/
theorem Fun.ok {x qual : Str} {st : Stmt} {f : Addr} {fd : FuncData} {N ps : List Str} {k : Nat} {sp : Sp} (F : Fun K x qual st f fd) (S : FnScope N ps (defScope st)) (len : ∀ vs H Q E, sp vs H Q E → vs.length = ps.length)
    (hbody : ∀ (cdv : Value) (A : Around) (outer : List Env) (s : Shared) (H : Hp) (vs : List V) (Q : VK) (E : XK), Room k (A.deeper (envOfC qual (defScope st) s.heap.objs.size f cdv)) → sp vs H Q E →
      ∃ t, PSs (cxOf CX0 P w K mg base N qual (defScope st) f cdv A outer s H E).nox (defBody st) t ∧ t { nx := fun _ H' => Q .non H', rt := Q } (start N vs) H) : FnOk P w K mg base CX0 (k + 1) f fd ps sp := by
  obtain ⟨oc, od, kV, doc, pm, an, cdv, ct, osl, rfl, lk, hcd⟩ := F.ex
  refine fn_of lk hcd S len fun A outer s H vs Q E hr hsp => ?_
  obtain ⟨t, h, q⟩ := hbody cdv A outer s H vs Q E hr hsp
  exact ⟨t, h.nox, q⟩
/-- how its arguments bind (no defaults): h is «fun _ _ _ _ _ _ us hl => match us, hl with | [_, _], _ => rfl», one _ a parameter -/
theorem Fun.binds {x qual : Str} {st : Stmt} {f : Addr} {fd : FuncData} {ps : List Str} (F : Fun K x qual st f fd)
    (h : ∀ (kV doc pm : Value) (an : Option Addr) (cdv ct : Value) (us : List Value), us.length = ps.length → bindArgs (PySem.W.fnOf x qual (defArgs st) (defBody st) (defScope st) .none kV doc pm an cdv ct) ⟨us, []⟩ = pure (ps.zip us)) : Binds K fd ps [] := by
  obtain ⟨oc, od, kV, doc, pm, an, cdv, ct, osl, rfl, lk, hcd⟩ := F.ex
  exact .all (h kV doc pm an cdv ct)
theorem fun_mk {x qual : Str} {st : Stmt} {f : Addr} {oc : Value} {od an : Option Addr} {osl : Array (Option Value)} {kV doc pm cdv ct : Value} (l : K.lookup f = some ⟨oc, od, .func (PySem.W.fnOf x qual (defArgs st) (defBody st) (defScope st) .none kV doc pm an cdv ct), osl⟩)
    (c : PySem.W.codeIn K cdv qual = true) (k : PySem.W.keepIn K (.ref f) = true) : Fun K x qual st f (PySem.W.fnOf x qual (defArgs st) (defBody st) (defScope st) .none kV doc pm an cdv ct) := ⟨⟨oc, od, kV, doc, pm, an, cdv, ct, osl, rfl, l, c⟩, k⟩
end
theorem hu_of {A : Around} {k : Nat} (hr : Room k A) : A.units + 1 < cLine := Nat.lt_of_le_of_lt (Nat.add_le_add_left (by decide : 1 ≤ 64) _) hr.units
theorem small1000 {n : Nat} (h : n ≤ 1000) : n < sizeLine := Nat.lt_of_le_of_lt h (by decide)

/-! ### expressions in short: the name that stands in the i-th slot -/
section
variable {X : Cx}
theorem pv (i : Nat) {x : Str} {pos : Pos} (hN : X.N[i]? = some x := by rfl) (hv : Vis X.env.scope x := by first | exact Or.inl rfl | exact Or.inr (Or.inl rfl) | exact Or.inr (Or.inr rfl)) (hd : (x == ("__debug__" : Str)) = false := by decide)
    (hcd : (x == ("__classdict__" : Str)) = false := by decide) : PE X (.Name x pos) (tVar i) := pe_var hN hv hd hcd
end

/-! ### tests -/
theorem iteF {A B : Prop} (h : B) : if false = true then A else B := by
  rw [if_neg Bool.false_ne_true]
  exact h
theorem iteT {A B : Prop} (h : A) : if true = true then A else B := by
  rw [if_pos rfl]
  exact h
theorem ite2 {c A B : Prop} [Decidable c] (h1 : c → A) (h2 : ¬ c → B) : if c then A else B := by
  by_cases h : c
  · rw [if_pos h]
    exact h1 h
  · rw [if_neg h]
    exact h2 h
theorem iteNS {c A B : Prop} [Decidable c] (hc : c) (h : B) : if (!decide c) = true then A else B := by
  rw [decide_eq_true hc]
  exact iteF h

/-! ### heaps -/
/-- all that was tracked is as it was -/
def Same (H H' : Hp) : Prop := ∀ b o, H b = some o → H' b = some o
theorem Same.refl (H : Hp) : Same H H := fun _ _ h => h
theorem Same.trans {H H1 H2 : Hp} (a : Same H H1) (b : Same H1 H2) : Same H H2 := fun c o h => b c o (a c o h)
theorem Same.free {H H' : Hp} (e : Same H H') {l : Addr} (h : H' l = Option.none) : H l = Option.none := by
  cases q : H l with
  | none => rfl
  | some o =>
    rw [e l o q] at h
    cases h
theorem Same.seq {K : PySem.W.Frag} {H H' : Hp} {a : Addr} {xs : List V} (e : Same H H') (h : SqL K H a xs) : SqL K H' a xs := by
  rcases h with (h | ⟨o, h⟩) | h
  · exact .inl (.inl (e _ _ h))
  · exact .inl (.inr ⟨o, e _ _ h⟩)
  · exact .inr h

end L2

namespace L2
open PySem PySem.Spec PyProof.Rows
section
variable {X : Cx}
theorem call_lenD : CallR X (.builtin "len") (fun xs H Q => ∃ a kvs, xs = [V.ref a] ∧ H a = some (.dK kvs) ∧ Q (.int kvs.length) H) := by
  intro pins s σ H xs us Q I r h
  obtain ⟨a, kvs, rfl, ha, q⟩ := h
  obtain ⟨u, rfl, ru⟩ := vals1 r
  cases ru
  exact d_len I (.inl ha) fun t s' I' => ⟨.int kvs.length, H, I', ⟨t, rfl⟩, q⟩
end
/-! ### a dict's pairs: keys that differ -/
section
variable {κ : Type} [DecidableEq κ]
theorem valV_not {kvs : List (κ × V)} {k : κ} (h : valV kvs k = none) : ¬ k ∈ kvs.map (·.1) := by
  intro m
  obtain ⟨p, hp, e⟩ := List.mem_map.mp m
  have q : (kvs.any fun kv => decide (kv.1 = k)) = true := List.any_eq_true.mpr ⟨p, hp, decide_eq_true e⟩
  rw [valV_any, h] at q
  exact absurd q (by simp)
theorem valV_in {kvs : List (κ × V)} {k : κ} {v : V} (h : valV kvs k = some v) : k ∈ kvs.map (·.1) := by
  have q : (kvs.any fun kv => decide (kv.1 = k)) = true := by
    rw [valV_any, h]
    all_goals rfl
  obtain ⟨p, hp, e⟩ := List.any_eq_true.mp q
  exact List.mem_map.mpr ⟨p, hp, of_decide_eq_true e⟩
theorem nd_snoc : ∀ {l : List κ} {k : κ}, l.Nodup → ¬ k ∈ l → (l ++ [k]).Nodup
  | [], k, _, _ => by simp
  | a :: r, k, h, hk => by
    obtain ⟨h1, h2⟩ := List.nodup_cons.mp h
    show (a :: (r ++ [k])).Nodup
    refine List.nodup_cons.mpr ⟨fun m => ?_, nd_snoc h2 fun m => hk (List.mem_cons.mpr (Or.inr m))⟩
    rcases List.mem_append.mp m with q | q
    · exact h1 q
    · exact hk (List.mem_cons.mpr (Or.inl (List.mem_singleton.mp q).symm))
theorem nd_putK {kvs : List (κ × V)} {k : κ} (v : V) (hn : (kvs.map (·.1)).Nodup) (h : valV kvs k = none) : ((putK kvs k v).map (·.1)).Nodup := by
  rw [putK_new v h, List.map_append]
  exact nd_snoc hn (valV_not h)
theorem dropK_pos {p : κ × V} {r : List (κ × V)} {k : κ} (e : p.1 = k) : dropK (p :: r) k = dropK r k := by
  unfold dropK
  rw [List.filter_cons, if_neg (by simp [e])]
theorem dropK_neg {p : κ × V} {r : List (κ × V)} {k : κ} (e : ¬ p.1 = k) : dropK (p :: r) k = p :: dropK r k := by
  unfold dropK
  rw [List.filter_cons, if_pos (by simp [e])]
theorem dropK_no : ∀ {kvs : List (κ × V)} {k : κ}, ¬ k ∈ kvs.map (·.1) → dropK kvs k = kvs
  | [], _, _ => rfl
  | p :: r, k, h => by
    have h' : ¬ k ∈ r.map (·.1) := fun m => by
      obtain ⟨q, hq, e⟩ := List.mem_map.mp m
      exact h (List.mem_map.mpr ⟨q, List.mem_cons.mpr (Or.inr hq), e⟩)
    rw [dropK_neg fun e => h (List.mem_map.mpr ⟨p, List.mem_cons.mpr (Or.inl rfl), e⟩), dropK_no h']
theorem dropK_mem {kvs : List (κ × V)} {k : κ} {p : κ × V} (h : p ∈ dropK kvs k) : p ∈ kvs := (List.mem_filter.mp h).1
theorem nd_dropK : ∀ {kvs : List (κ × V)} {k : κ}, (kvs.map (·.1)).Nodup → ((dropK kvs k).map (·.1)).Nodup
  | [], _, _ => List.nodup_nil
  | p :: r, k, h => by
    have h : (p.1 :: r.map (·.1)).Nodup := h
    obtain ⟨h1, h2⟩ := List.nodup_cons.mp h
    by_cases e : p.1 = k
    · rw [dropK_pos e]
      exact nd_dropK h2
    · rw [dropK_neg e]
      show (p.1 :: (dropK r k).map (·.1)).Nodup
      refine List.nodup_cons.mpr ⟨fun m => h1 ?_, nd_dropK h2⟩
      obtain ⟨q, hq, eq⟩ := List.mem_map.mp m
      exact List.mem_map.mpr ⟨q, dropK_mem hq, eq⟩
theorem dropK_len : ∀ {kvs : List (κ × V)} {k : κ}, (kvs.map (·.1)).Nodup → k ∈ kvs.map (·.1) → (dropK kvs k).length + 1 = kvs.length
  | [], _, _, m => by simp at m
  | p :: r, k, h, m => by
    have h : (p.1 :: r.map (·.1)).Nodup := h
    have m : k = p.1 ∨ k ∈ r.map (·.1) := List.mem_cons.mp m
    obtain ⟨h1, h2⟩ := List.nodup_cons.mp h
    by_cases e : p.1 = k
    · subst e
      rw [dropK_pos rfl, dropK_no h1]
      all_goals rfl
    · have m' : k ∈ r.map (·.1) := m.resolve_left fun z => e z.symm
      have q := dropK_len h2 m'
      rw [dropK_neg e, List.length_cons, List.length_cons]
      omega
end
end L2


set_option Elab.async false
set_option linter.all false
set_option maxRecDepth 100000
set_option maxHeartbeats 4000000
namespace L2
open PySem PySem.Spec PyProof.Rows

/-! ## deep data at the abstract heap: S, the lists that may be changed and are no part of it -/
mutual
inductive Rep (H : Hp) (S : List Addr) : V → PyData → Prop
  | non : Rep H S .non .none
  | bl (b : Bool) : Rep H S (.bl b) (.bool b)
  | int (i : Int) : Rep H S (.int i) (.int i)
  | str (x : Str) : Rep H S (.str x) (.str x)
  | lst {a : Addr} {xs : List V} {ds : List PyData} : Rd H a (.lst xs) → ¬ a ∈ S → Reps H S xs ds → Rep H S (.ref a) (.list ds)
  | tup {a : Addr} {xs : List V} {ds : List PyData} : Rd H a (.tup xs) → Reps H S xs ds → Rep H S (.ref a) (.tuple ds)
inductive Reps (H : Hp) (S : List Addr) : List V → List PyData → Prop
  | nil : Reps H S [] []
  | cons {x : V} {xs : List V} {d : PyData} {ds : List PyData} : Rep H S x d → Reps H S xs ds → Reps H S (x :: xs) (d :: ds)
end

/-- all that was tracked is as it was, but what stands at S (never a tuple, never what is frozen) -/
structure Chg (S : List Addr) (H H' : Hp) : Prop where
  keep : ∀ b o, H b = some o → ¬ b ∈ S → H' b = some o
  tups : ∀ b xs, H b = some (.tup xs) → H' b = some (.tup xs)
  frzs : ∀ b o u, H b = some (.frz o u) → H' b = some (.frz o u)
section
variable {H H' H1 H2 : Hp} {S T : List Addr} {a p : Addr} {o : HO}
theorem Chg.refl (S : List Addr) (H : Hp) : Chg S H H := ⟨fun _ _ e _ => e, fun _ _ e => e, fun _ _ _ e => e⟩
theorem Chg.trans (x : Chg S H H1) (y : Chg S H1 H2) : Chg S H H2 := ⟨fun b o e n => y.keep b o (x.keep b o e n) n, fun b xs e => y.tups b xs (x.tups b xs e), fun b o u e => y.frzs b o u (x.frzs b o u e)⟩
theorem Chg.mono (x : Chg S H H') (h : ∀ b ∈ S, b ∈ T) : Chg T H H' := ⟨fun b o e n => x.keep b o e fun m => n (h b m), x.tups, x.frzs⟩
theorem Chg.of_same (s : Same H H') : Chg S H H' := ⟨fun b o e _ => s b o e, fun b xs e => s b _ e, fun b o u e => s b _ e⟩
theorem Chg.same (x : Chg [] H H') : Same H H' := fun b o e => x.keep b o e (by simp)
theorem Same.new (hp : H p = none) : Same H (upd H p o) := fun b u e => by rw [upd_ne (ne_of_none e hp)]; exact e
theorem Chg.new (hp : H p = none) : Chg S H (upd H p o) := .of_same (.new hp)
theorem Chg.set (mu : Mut (H a)) (ha : a ∈ S) : Chg S H (upd H a o) := by
  refine ⟨fun b u e n => ?_, fun b xs e => ?_, fun b u w e => ?_⟩
  · rw [upd_ne (by rintro rfl; exact n ha)]; exact e
  · rw [upd_ne (by rintro rfl; rw [e] at mu; exact mu)]; exact e
  · rw [upd_ne (by rintro rfl; rw [e] at mu; exact mu)]; exact e
/-- what was not there ahead need not be named -/
theorem Chg.drop (x : Chg (p :: S) H H') (hp : H p = none) : Chg S H H' :=
  ⟨fun b o e n => x.keep b o e fun m => (List.mem_cons.mp m).elim (fun z => by rw [z, hp] at e; cases e) n, x.tups, x.frzs⟩
theorem Rd.chgT {xs : List V} (c : Chg S H H') (r : Rd H a (.tup xs)) : Rd H' a (.tup xs) := r.elim (fun e => .inl (c.tups _ _ e)) fun ⟨o, e⟩ => .inr ⟨o, c.frzs _ _ _ e⟩
theorem Rd.chgL {xs : List V} (c : Chg S H H') (ha : ¬ a ∈ S) (r : Rd H a (.lst xs)) : Rd H' a (.lst xs) := r.elim (fun e => .inl (c.keep _ _ e ha)) fun ⟨o, e⟩ => .inr ⟨o, c.frzs _ _ _ e⟩
theorem Rd.some {u : HO} (r : Rd H a u) : ∃ o, H a = some o := r.elim (fun e => ⟨_, e⟩) fun ⟨_, e⟩ => ⟨_, e⟩
mutual
theorem Rep.chg (c : Chg S H H') : ∀ {v : V} {d : PyData}, Rep H S v d → Rep H' S v d
  | _, _, .non => .non
  | _, _, .bl b => .bl b
  | _, _, .int i => .int i
  | _, _, .str x => .str x
  | _, _, .lst r n rs => .lst (r.chgL c n) n (Reps.chg c rs)
  | _, _, .tup r rs => .tup (r.chgT c) (Reps.chg c rs)
theorem Reps.chg (c : Chg S H H') : ∀ {vs : List V} {ds : List PyData}, Reps H S vs ds → Reps H' S vs ds
  | _, _, .nil => .nil
  | _, _, .cons h t => .cons (Rep.chg c h) (Reps.chg c t)
end
mutual
theorem Rep.mono (c : ∀ b ∈ T, b ∈ S) : ∀ {v : V} {d : PyData}, Rep H S v d → Rep H T v d
  | _, _, .non => .non
  | _, _, .bl b => .bl b
  | _, _, .int i => .int i
  | _, _, .str x => .str x
  | _, _, .lst r n rs => .lst r (fun m => n (c _ m)) (Reps.mono c rs)
  | _, _, .tup r rs => .tup r (Reps.mono c rs)
theorem Reps.mono (c : ∀ b ∈ T, b ∈ S) : ∀ {vs : List V} {ds : List PyData}, Reps H S vs ds → Reps H T vs ds
  | _, _, .nil => .nil
  | _, _, .cons h t => .cons (Rep.mono c h) (Reps.mono c t)
end
mutual
theorem Rep.fresh (hp : H p = none) : ∀ {v : V} {d : PyData}, Rep H S v d → Rep H (p :: S) v d
  | _, _, .non => .non
  | _, _, .bl b => .bl b
  | _, _, .int i => .int i
  | _, _, .str x => .str x
  | _, _, .lst r n rs => .lst r (fun m => (List.mem_cons.mp m).elim (fun z => by obtain ⟨o, e⟩ := r.some; rw [z, hp] at e; cases e) n) (Reps.fresh hp rs)
  | _, _, .tup r rs => .tup r (Reps.fresh hp rs)
theorem Reps.fresh (hp : H p = none) : ∀ {vs : List V} {ds : List PyData}, Reps H S vs ds → Reps H (p :: S) vs ds
  | _, _, .nil => .nil
  | _, _, .cons h t => .cons (Rep.fresh hp h) (Reps.fresh hp t)
end
theorem Rep.plain {v : V} {d : PyData} (r : Rep H S v d) : Rep H [] v d := r.mono (by simp)
theorem Reps.plain {v : List V} {d : List PyData} (r : Reps H S v d) : Reps H [] v d := r.mono (by simp)
theorem Rep.same {v : V} {d : PyData} (s : Same H H') (r : Rep H S v d) : Rep H' S v d := r.chg (.of_same s)
theorem Reps.same {v : List V} {d : List PyData} (s : Same H H') (r : Reps H S v d) : Reps H' S v d := r.chg (.of_same s)
theorem Reps.length : ∀ {vs : List V} {ds : List PyData}, Reps H S vs ds → vs.length = ds.length
  | _, _, .nil => rfl
  | _, _, .cons _ t => by rw [List.length_cons, List.length_cons, Reps.length t]
theorem Reps.get : ∀ {vs : List V} {ds : List PyData} {i : Nat} {v : V}, Reps H S vs ds → vs[i]? = some v → ∃ d, ds[i]? = some d ∧ Rep H S v d
  | _, _, i, v, .nil, h => by simp at h
  | _, _, 0, v, .cons h t, e => by simp at e; subst e; exact ⟨_, rfl, h⟩
  | _, _, i + 1, v, .cons h t, e => by
    simp at e
    obtain ⟨d, h1, h2⟩ := Reps.get t e
    exact ⟨d, by simpa using h1, h2⟩
theorem Reps.getD : ∀ {vs : List V} {ds : List PyData} {i : Nat} {d : PyData}, Reps H S vs ds → ds[i]? = some d → ∃ v, vs[i]? = some v ∧ Rep H S v d
  | _, _, i, v, .nil, h => by simp at h
  | _, _, 0, v, .cons h t, e => by simp at e; subst e; exact ⟨_, rfl, h⟩
  | _, _, i + 1, v, .cons h t, e => by
    simp at e
    obtain ⟨d, h1, h2⟩ := Reps.getD t e
    exact ⟨d, by simpa using h1, h2⟩
theorem Reps.append : ∀ {vs ws : List V} {ds es : List PyData}, Reps H S vs ds → Reps H S ws es → Reps H S (vs ++ ws) (ds ++ es)
  | _, _, _, _, .nil, h => h
  | _, _, _, _, .cons x t, h => .cons x (Reps.append t h)
theorem Reps.one {v : V} {d : PyData} (h : Rep H S v d) : Reps H S [v] [d] := .cons h .nil
theorem Reps.snoc {vs : List V} {ds : List PyData} {v : V} {d : PyData} (h : Reps H S vs ds) (q : Rep H S v d) : Reps H S (vs ++ [v]) (ds ++ [d]) := h.append (.one q)
theorem Reps.take : ∀ {vs : List V} {ds : List PyData} (n : Nat), Reps H S vs ds → Reps H S (vs.take n) (ds.take n)
  | _, _, 0, _ => by simpa using Reps.nil
  | _, _, n + 1, .nil => by simpa using Reps.nil
  | _, _, n + 1, .cons h t => by simpa using Reps.cons h (Reps.take n t)
theorem Reps.drop : ∀ {vs : List V} {ds : List PyData} (n : Nat), Reps H S vs ds → Reps H S (vs.drop n) (ds.drop n)
  | _, _, 0, h => by simpa using h
  | _, _, n + 1, .nil => by simpa using Reps.nil
  | _, _, n + 1, .cons h t => by simpa using Reps.drop n t
/-! what stands where -/
theorem Rep.non_inv {v : V} (r : Rep H S v .none) : v = .non := by cases r; rfl
theorem Rep.bl_inv {v : V} {b : Bool} (r : Rep H S v (.bool b)) : v = .bl b := by cases r; rfl
theorem Rep.int_inv {v : V} {i : Int} (r : Rep H S v (.int i)) : v = .int i := by cases r; rfl
theorem Rep.str_inv {v : V} {x : Str} (r : Rep H S v (.str x)) : v = .str x := by cases r; rfl
theorem Rep.lst_inv {v : V} {ds : List PyData} (r : Rep H S v (.list ds)) : ∃ a xs, v = .ref a ∧ Rd H a (.lst xs) ∧ ¬ a ∈ S ∧ Reps H S xs ds := by cases r with | lst h n t => exact ⟨_, _, rfl, h, n, t⟩
theorem Rep.tup_inv {v : V} {ds : List PyData} (r : Rep H S v (.tuple ds)) : ∃ a xs, v = .ref a ∧ Rd H a (.tup xs) ∧ Reps H S xs ds := by cases r with | tup h t => exact ⟨_, _, rfl, h, t⟩
theorem Reps.nil_inv {vs : List V} (r : Reps H S vs []) : vs = [] := by cases r; rfl
theorem Reps.cons_inv {vs : List V} {d : PyData} {ds : List PyData} (r : Reps H S vs (d :: ds)) : ∃ x xs, vs = x :: xs ∧ Rep H S x d ∧ Reps H S xs ds := by cases r with | cons h t => exact ⟨_, _, rfl, h, t⟩
theorem Reps.strs : ∀ {vs : List V} {xs : List Str}, Reps H S vs (xs.map .str) → vs = xs.map .str
  | _, [], r => by rw [List.map_nil] at r; exact r.nil_inv
  | _, x :: xs, r => by
    rw [List.map_cons] at r
    obtain ⟨v, vs, rfl, h, t⟩ := r.cons_inv
    rw [h.str_inv, Reps.strs t, List.map_cons]
theorem reps_strs : ∀ (xs : List Str), Reps H S (xs.map .str) (xs.map .str)
  | [] => .nil
  | x :: xs => .cons (.str x) (reps_strs xs)
theorem Reps.ints : ∀ {vs : List V} {xs : List Int}, Reps H S vs (xs.map .int) → vs = xs.map .int
  | _, [], r => by rw [List.map_nil] at r; exact r.nil_inv
  | _, x :: xs, r => by
    rw [List.map_cons] at r
    obtain ⟨v, vs, rfl, h, t⟩ := r.cons_inv
    rw [h.int_inv, Reps.ints t, List.map_cons]
theorem reps_ints : ∀ (xs : List Int), Reps H S (xs.map .int) (xs.map .int)
  | [] => .nil
  | x :: xs => .cons (.int x) (reps_ints xs)
end

section
variable {X : Cx} {pins : List (Addr × Obj)} {σ : St} {H : Hp} {s : Shared} {S : List Addr}
mutual
theorem Rep.reads (I : Inv X pins σ H s) : ∀ {v : V} {d : PyData} {u : Value}, Rep H S v d → RelV v u → ∃ as, Reads s.heap u d as
  | _, _, _, .non, r => by cases (show _ = Value.none from r); exact ⟨_, .none⟩
  | _, _, _, .bl b, r => by cases (show _ = Value.bool b from r); exact ⟨_, .bool b⟩
  | _, _, _, .int i, r => by obtain ⟨t, e⟩ := (show ∃ t, _ = Value.int i t from r); subst e; exact ⟨_, .int i t⟩
  | _, _, _, .str x, r => by obtain ⟨t, e⟩ := (show ∃ t, _ = Value.str x t from r); subst e; exact ⟨_, .str x t⟩
  | _, _, _, .lst (a := a) h _ rs, r => by
    cases (show _ = Value.ref a from r)
    obtain ⟨its, rv, ⟨o, n, e, c, _, d⟩, _⟩ := I.list (Or.inl h)
    obtain ⟨as, q⟩ := Reps.reads I rs rv
    exact ⟨_, .list e c d (by simpa using q)⟩
  | _, _, _, .tup (a := a) h rs, r => by
    cases (show _ = Value.ref a from r)
    obtain ⟨its, rv, ⟨o, e, c, n, d⟩, _⟩ := I.tuple (Or.inl h)
    obtain ⟨as, q⟩ := Reps.reads I rs rv
    exact ⟨_, .tuple e c d (by simpa using q)⟩
theorem Reps.reads (I : Inv X pins σ H s) : ∀ {vs : List V} {ds : List PyData} {us : List Value}, Reps H S vs ds → Vals vs us → ∃ as, ReadsAll s.heap us ds as
  | _, _, _, .nil, r => by cases r; exact ⟨_, .nil⟩
  | _, _, _, .cons h t, r => by
    cases r with
    | cons r1 r2 =>
      obtain ⟨as, q⟩ := Rep.reads I h r1
      obtain ⟨bs, p⟩ := Reps.reads I t r2
      exact ⟨_, .cons q p⟩
end
end

/-! ## == and in, of data -/
def rEqD : R2 := fun x y H Q => ∃ d e, Rep H [] x d ∧ Rep H [] y e ∧ SeqAt.shaped d = true ∧ SeqAt.shaped e = true ∧ Q (.bl (PyData.eqv d e)) H
def rNeD : R2 := fun x y H Q => ∃ d e, Rep H [] x d ∧ Rep H [] y e ∧ SeqAt.shaped d = true ∧ SeqAt.shaped e = true ∧ Q (.bl (!PyData.eqv d e)) H
def rInD (neg : Bool) : R2 := fun x y H Q => ∃ d ds, Rep H [] x d ∧ (Rep H [] y (.list ds) ∨ Rep H [] y (.tuple ds)) ∧ PyData.canLayAll0 ds = true ∧ SeqAt.shaped d = true ∧
  Q (.bl (if neg then !(ds.any fun e => PyData.eqv e d) else ds.any fun e => PyData.eqv e d)) H
section
variable {X : Cx}
theorem op_eqD (hu : X.A.units + 64 < cLine) : OpR X (compareOp .Eq) rEqD := by
  intro pins s σ H x y v u Q I rx ry h
  obtain ⟨d, e, rd, re, sd, se, q⟩ := h
  obtain ⟨as, ra⟩ := rd.reads I rx
  obtain ⟨bs, rb⟩ := re.reads I ry
  exact SeqAt.compareEq_shaped ra rb sd se hu ⟨.bl _, H, I, rfl, q⟩
theorem op_neD (hu : X.A.units + 64 < cLine) : OpR X (compareOp .NotEq) rNeD := by
  intro pins s σ H x y v u Q I rx ry h
  obtain ⟨d, e, rd, re, sd, se, q⟩ := h
  obtain ⟨as, ra⟩ := rd.reads I rx
  obtain ⟨bs, rb⟩ := re.reads I ry
  exact SeqAt.compareNe_shaped ra rb sd se hu ⟨.bl _, H, I, rfl, q⟩
theorem op_inD (hu : X.A.units + 65 < cLine) : OpR X (compareOp .In) (rInD false) := by
  intro pins s σ H x y v u Q I rx ry h
  obtain ⟨d, ds, rd, re, sd, se, q⟩ := h
  obtain ⟨as, ra⟩ := rd.reads I rx
  rcases re with re | re
  · obtain ⟨bs, rb⟩ := re.reads I ry
    exact SeqAt.in_list_reads rb ra sd (SeqAt.canLay_of_shaped se) (room_in_shaped se hu) ⟨.bl _, H, I, rfl, q⟩
  · obtain ⟨bs, rb⟩ := re.reads I ry
    exact SeqAt.in_tuple_reads rb ra sd (SeqAt.canLay_of_shaped se) (room_in_shaped se hu) ⟨.bl _, H, I, rfl, q⟩
theorem op_notInD (hu : X.A.units + 65 < cLine) : OpR X (compareOp .NotIn) (rInD true) := by
  intro pins s σ H x y v u Q I rx ry h
  obtain ⟨d, ds, rd, re, sd, se, q⟩ := h
  obtain ⟨as, ra⟩ := rd.reads I rx
  rcases re with re | re
  · obtain ⟨bs, rb⟩ := re.reads I ry
    exact SeqAt.notIn_list_reads rb ra sd (SeqAt.canLay_of_shaped se) (room_in_shaped se hu) ⟨.bl _, H, I, rfl, q⟩
  · obtain ⟨bs, rb⟩ := re.reads I ry
    exact SeqAt.notIn_tuple_reads rb ra sd (SeqAt.canLay_of_shaped se) (room_in_shaped se hu) ⟨.bl _, H, I, rfl, q⟩
/-! ## isinstance(x, T) -/
/-- the type of a value; a tuple may be frozen too -/
def TyO (K : PySem.W.Frag) (H : Hp) (x : V) (t : Value) : Prop := TyOf K H x t ∨ ∃ a ys, x = .ref a ∧ Rd H a (.tup ys) ∧ t = .type "tuple"
theorem call_isinst : CallR X (.builtin "isinstance") (fun xs H Q => ∃ x T t b, xs = [x, .ty T] ∧ TyO X.K H x t ∧ PySem.W.kitOne X.K t (.type T) = some b ∧ Q (.bl b) H) := by
  intro pins s σ H xs us Q I r h
  obtain ⟨x, T, t, b, rfl, ty, e, q⟩ := h
  obtain ⟨u, v, rfl, ru, rv⟩ := Vals.two r
  cases (show v = Value.type T from rv)
  rcases ty with ty | ⟨a, ys, rfl, rd, rfl⟩
  · exact isinst_ok I ru ty e fun tk => ⟨.bl b, H, I.tok tk, rfl, q⟩
  · cases (show u = Value.ref a from ru)
    obtain ⟨its, _, ⟨o, h1, h2, _⟩, _⟩ := I.tuple (Or.inl rd)
    exact PySem.W.kia_one PySem.W.kitx_tuple I.kIn ⟨o, h1, h2⟩ e (fun z => nomatch z) fun tk => ⟨.bl b, H, I.tok tk, rfl, q⟩
end
theorem kit_same (K : PySem.W.Frag) (T : String) : PySem.W.kitOne K (.type T) (.type T) = some true := by unfold PySem.W.kitOne; rw [if_pos (by simp)]

/-! ## d.setdefault(k, v) -/
def tDSetD (td ty tx : TE) : TE := fun σ H Q => td σ H fun x H1 => ∃ a, x = .ref a ∧ IsD H1 a ∧ ty σ H1 fun y H2 => tx σ H2 fun z H3 => ∃ kvs k, H3 a = some (.dK kvs) ∧ y = kV k ∧ kvs.length < sizeLine ∧
  (∀ v, valV kvs k = some v → Q v H3) ∧ (valV kvs k = none → Q z (upd H3 a (.dK (putK kvs k z))))
section
variable {X : Cx} {o e f : Expr} {apos cpos : Pos} {td ty tx : TE}
theorem pe_dsetd (ho : PE X o td) (he : PE X e ty) (hf : PE X f tx) (m : M2 X o "setdefault" apos e f cpos) : PE X (.Call (.Attribute o "setdefault" apos) [e, f] [] cpos) (tDSetD td ty tx) := by
  intro pins s σ H Q I h
  refine wpAny_Call_method m.base m.few m.line PySem.F.plainAttrs_dict PySem.F.slot_dict_setdefault PySem.F.type_dict_setdefault (thn (ho pins s σ H _ I h) fun u s1 ⟨x, H1, I1, rx, a, ex, d, q1⟩ => ?_)
  subst ex
  obtain rfl : u = Value.ref a := rx
  obtain ⟨t1, t2, _⟩ := isD_at I1 d
  refine ⟨t1, t2, ?_⟩
  rw [m.trees]
  refine Calls.callWith_builtin rfl (Calls.evalArgs_plain (Calls.spliced_cons (thn (he pins s1 σ H1 _ I1 q1) fun iv s2 ⟨y, H2, I2, ry, q2⟩ =>
    Calls.spliced_cons (thn (hf pins s2 σ H2 _ I2 q2) fun fv s3 ⟨z, H3, I3, rz, kvs, k, ea, ey, lz, q3, q4⟩ => Calls.spliced_nil ?_))))
  subst ey
  obtain ⟨z', hd, vs, rel, dd⟩ := dk_of I3.hok ea
  refine call_meetsIn PySem.F.slot_dict_setdefault dd.typeIs PySem.F.entry_dict_setdefault (PySem.F.args_dict_setdefault_3 _ _ _) (kt_meets_setdefault (mixKind X.prog X.w) a (kV_is ry) hd fv)
    ⟨vs, dd, by rw [← rel.length]; exact z', fun v hv => ?_, fun hn h' dd' hs => ?_⟩
  · have rl := rel.val k
    rw [hv] at rl
    cases e : valV kvs k with
    | none => rw [e] at rl; exact (show False from rl).elim
    | some x =>
      rw [e] at rl
      exact ⟨x, H3, I3.tok _, rl, q3 x e⟩
  · have rl := rel.val k
    rw [hn] at rl
    cases e : valV kvs k with
    | some x => rw [e] at rl; exact (show False from rl).elim
    | none =>
      have hl : (putK kvs k z).length ≤ sizeLine := by have := length_putK kvs k z; omega
      have he : ∃ q, h'.get? a = some q := let ⟨q, _, _, hq, _⟩ := dd'; ⟨q, hq⟩
      exact ⟨z, _, d_write I3 (by rw [ea]; exact True.intro) hs he (dk_new hl hd (rel.put k rz) dd'), rz, q4 e⟩
end

/-! ## short names for the readings that gen.py writes -/
abbrev rAddI : R2 := rI0 fun i j => .int (i + j)
abbrev rSubI : R2 := rI0 fun i j => .int (i - j)
abbrev rMulI : R2 := rI CMul fun i j => .int (i * j)
abbrev rModI : R2 := rI (fun _ j => 0 < j) fun i j => .int (i % j)
abbrev rDivI : R2 := rI CDiv fun i j => .int (i / j)
abbrev rLtI : R2 := rI0 fun i j => .bl (decide (i < j))
abbrev rLeI : R2 := rI0 fun i j => .bl (decide (i ≤ j))
abbrev rGtI : R2 := rI0 fun i j => .bl (decide (j < i))
abbrev rGeI : R2 := rI0 fun i j => .bl (decide (j ≤ i))
abbrev rNegI : V → Hp → VK → Prop := rU fun i => .int (-i)
abbrev rLenQ (K : PySem.W.Frag) : List V → Hp → VK → Prop := fun xs H Q => ∃ p ys, xs = [.ref p] ∧ (SqL K H p ys ∨ SqT K H p ys) ∧ Q (.int ys.length) H
abbrev rLenS : List V → Hp → VK → Prop := fun xs H Q => ∃ z, xs = [.str z] ∧ z.length ≤ sizeLine ∧ Q (.int z.length) H
abbrev rLenD : List V → Hp → VK → Prop := fun xs H Q => ∃ a kvs, xs = [V.ref a] ∧ H a = some (.dK kvs) ∧ Q (.int kvs.length) H
abbrev rListQ (K : PySem.W.Frag) : List V → Hp → VK → Prop := fun xs H Q => ∃ p ys, xs = [.ref p] ∧ (SqL K H p ys ∨ SqT K H p ys) ∧ ∀ l, H l = none → Q (.ref l) (upd H l (.lst ys))
abbrev rMin2 : List V → Hp → VK → Prop := fun xs H Q => ∃ i j, xs = [.int i, .int j] ∧ Q (.int (if j < i then j else i)) H
abbrev rInt1 : List V → Hp → VK → Prop := fun xs H Q => (∃ i, xs = [.int i] ∧ Q (.int i) H) ∨ ∃ k, xs = [.bl k] ∧ Q (.int (if k then 1 else 0)) H
abbrev rIsi (K : PySem.W.Frag) : List V → Hp → VK → Prop := fun xs H Q => ∃ x T t b, xs = [x, .ty T] ∧ TyO K H x t ∧ PySem.W.kitOne K t (.type T) = some b ∧ Q (.bl b) H
abbrev rCatS : R2 := fun x y H Q => ∃ i j, x = .str i ∧ y = .str j ∧ i.length + j.length ≤ sizeLine ∧ Q (.str (i ++ j)) H
theorem hu65_of {A : Around} {k : Nat} (hr : Room k A) : A.units + 65 < cLine := by have := hr.un; omega
/-- a def of the text, its promise kept -/
def Has (P : Program) (w : World) (K : PySem.W.Frag) (mg : Str → Option Value) (base : Heap) (k : Nat) (x : Str) (ps : List Str) (sp : Sp) : Prop :=
  ∃ f fd, FnOk P w K mg base CX0 k f fd ps sp ∧ mg x = some (.ref f) ∧ PySem.W.keepIn K (.ref f) = true ∧ Binds K fd ps []
/-- a method of the class at C -/
def HasM (P : Program) (w : World) (K : PySem.W.Frag) (mg : Str → Option Value) (base : Heap) (C : Addr) (k : Nat) (x : Str) (ps : List Str) (sp : Sp) : Prop :=
  ∃ f fd, FnOk P w K mg base CX0 k f fd ps sp ∧ Meth K C x f ∧ Binds K fd ps []
/-- the class's __init__ -/
def HasI (P : Program) (w : World) (K : PySem.W.Frag) (mg : Str → Option Value) (base : Heap) (C : Addr) (k : Nat) (ps : List Str) (sp : Sp) : Prop :=
  ∃ f fd, FnOk P w K mg base CX0 k f fd ps sp ∧ Mk K C f ∧ Binds K fd ps []

/-! ## list(d): the keys -/
theorem Vals.of_get : ∀ {xs : List V} {us : List Value}, xs.length = us.length → (∀ (i : Nat) x u, xs[i]? = some x → us[i]? = some u → RelV x u) → Vals xs us
  | [], [], _, _ => .nil
  | [], _ :: _, h, _ => by simp at h
  | _ :: _, [], h, _ => by simp at h
  | x :: xs, u :: us, h, g => .cons (g 0 x u rfl rfl) (Vals.of_get (by simpa using h) fun i x' u' a b => g (i + 1) x' u' (by simpa using a) (by simpa using b))
theorem keyIs_rel {k : Key} {u : Value} (h : keyIs k u = true) : RelV (kV k) u := by
  rcases keyIs_shape h with ⟨i, t, rfl, rfl⟩ | ⟨x, t, rfl, rfl⟩
  · exact ⟨t, rfl⟩
  · exact ⟨t, rfl⟩
abbrev rListD : List V → Hp → VK → Prop := fun xs H Q => ∃ a kvs, xs = [V.ref a] ∧ H a = some (.dK kvs) ∧ ∀ l, H l = none → Q (.ref l) (upd H l (.lst (kvs.map fun kv => kV kv.1)))
theorem call_listD {X : Cx} (hc : X.calm = true) : CallR X (.type "list") rListD := by
  intro pins s σ H xs us Q I r h
  obtain ⟨a, kvs, rfl, ha, q⟩ := h
  obtain ⟨u, rfl, ru⟩ := Vals.one r
  cases (show u = Value.ref a from ru)
  obtain ⟨z, hd, vs, rel, dd⟩ := dk_of I.hok ha
  obtain ⟨ep, da⟩ := dd.dictAt
  refine PySem.W.kdl_call (PySem.W.kdl_dict hd) (I.ok.hd hc) da (by rw [← rel.length]; exact z) fun h' tk acc' c' hk hD hacc => ?_
  refine ⟨.ref s.heap.objs.size, _, I.laid (a := s.heap.objs.size) (o := .lst (kvs.map fun kv => kV kv.1)) hk (Nat.le_refl _) ⟨by rw [List.length_map]; exact z, acc'.toList, c', ?_, by simpa using hD⟩, rfl, q _ I.fresh⟩
  refine Vals.of_get (by rw [List.length_map, rel.length, Array.length_toList]; exact hacc.1.symm) fun i x u hx hu => ?_
  obtain ⟨k, y, e1, e2⟩ := hacc.2 i u (by rw [← Array.getElem?_toList]; exact hu)
  rw [List.getElem?_map] at hx
  cases hkv : kvs[i]? with
  | none => rw [hkv] at hx; cases hx
  | some kv =>
    rw [hkv] at hx
    have ex : kV kv.1 = x := Option.some.inj hx
    subst ex
    have ek : (kvs.map (·.1))[i]? = some kv.1 := by rw [List.getElem?_map, hkv]; rfl
    rw [rel.keys, List.getElem?_map, e1] at ek
    have e3 : k = kv.1 := Option.some.inj ek
    rw [← e3]
    exact keyIs_rel e2
/-- what is more is new -/
def Grow (R : List Addr) (H : Hp) (R' : List Addr) : Prop := ∀ a ∈ R', a ∈ R ∨ H a = none
theorem Grow.refl (R : List Addr) (H : Hp) : Grow R H R := fun _ h => .inl h
theorem Grow.trans {R R1 R2 : List Addr} {H H1 : Hp} (g1 : Grow R H R1) (c : Chg R H H1) (g2 : Grow R1 H1 R2) : Grow R H R2 := fun a ha => by
  rcases g2 a ha with z | z
  · exact g1 a z
  · by_cases m : a ∈ R
    · exact .inl m
    · cases e : H a with
      | none => exact .inr rfl
      | some o => rw [c.keep a o e m] at z; cases z
theorem Chg.grow {R R1 : List Addr} {H H1 H2 : Hp} (c : Chg R H H1) (g : Grow R H R1) (c2 : Chg R1 H1 H2) : Chg R H H2 :=
  ⟨fun b o e n => c2.keep b o (c.keep b o e n) fun m => (g b m).elim n fun z => (by rw [e] at z; cases z), fun b xs e => c2.tups b xs (c.tups b xs e), fun b o u e => c2.frzs b o u (c.frzs b o u e)⟩
mutual
theorem Rep.grow {H : Hp} {S T : List Addr} (g : Grow S H T) : ∀ {v : V} {d : PyData}, Rep H S v d → Rep H T v d
  | _, _, .non => .non
  | _, _, .bl b => .bl b
  | _, _, .int i => .int i
  | _, _, .str x => .str x
  | _, _, .lst r n rs => .lst r (fun m => (g _ m).elim n fun z => by obtain ⟨o, e⟩ := r.some; rw [z] at e; cases e) (Reps.grow g rs)
  | _, _, .tup r rs => .tup r (Reps.grow g rs)
theorem Reps.grow {H : Hp} {S T : List Addr} (g : Grow S H T) : ∀ {v : List V} {d : List PyData}, Reps H S v d → Reps H T v d
  | _, _, .nil => .nil
  | _, _, .cons h t => .cons (Rep.grow g h) (Reps.grow g t)
end
theorem Chg.put {S : List Addr} {H H' : Hp} {p : Addr} {o : HO} (c : Chg S H H') (hp : H p = none) : Chg S H (upd H' p o) :=
  ⟨fun b u e n => by rw [upd_ne (ne_of_none e hp)]; exact c.keep b u e n, fun b xs e => by rw [upd_ne (ne_of_none e hp)]; exact c.tups b xs e, fun b u w e => by rw [upd_ne (ne_of_none e hp)]; exact c.frzs b u w e⟩
theorem TyO.int {K : PySem.W.Frag} {H : Hp} (i : Int) : TyO K H (.int i) (.type "int") := .inl (.int i)
theorem TyO.bl {K : PySem.W.Frag} {H : Hp} (i : Bool) : TyO K H (.bl i) (.type "bool") := .inl (.bl i)
theorem TyO.str {K : PySem.W.Frag} {H : Hp} (i : Str) : TyO K H (.str i) (.type "str") := .inl (.str i)
theorem TyO.lst {K : PySem.W.Frag} {H : Hp} {a : Addr} {xs : List V} (r : H a = some (.lst xs)) : TyO K H (.ref a) (.type "list") := .inl (.lst r)
theorem TyO.list {K : PySem.W.Frag} {H : Hp} {a : Addr} {xs : List V} (r : Rd H a (.lst xs)) : TyO K H (.ref a) (.type "list") := r.elim (fun e => .inl (.lst e)) fun ⟨_, e⟩ => .inl (.frz e)
theorem TyO.tup {K : PySem.W.Frag} {H : Hp} {a : Addr} {xs : List V} (r : Rd H a (.tup xs)) : TyO K H (.ref a) (.type "tuple") := .inr ⟨a, xs, rfl, r, rfl⟩
end L2


set_option Elab.async false
set_option linter.all false
set_option maxRecDepth 100000
set_option maxHeartbeats 4000000
/-! list comprehensions: one clause, at most one test, nothing raised within -/
namespace L2
open PySem PySem.Spec PyProof.Rows

/-- the block's context -/
abbrev ccx (X : Cx) (N : List Str) (scope : Scope) (cl : List (Str × Addr)) (C : Addr) (s : Shared) (H : Hp) (fp : List Addr) : Cx :=
  { X with N := N, s₀ := s, H₀ := H, env := compEnvC scope cl C X.env, outer := X.stack, ex := fp, fn := fun _ => false, pn := [], xe := fun _ _ => False }
def picked (pick : List (Option Nat)) (σ : St) : St := pick.map fun o => o.bind fun i => (σ[i]?).bind id
/-- the block's names: its own (none), or a name that is free in it, by its slot outside -/
def Picks (X : Cx) (scope : Scope) (cl : List (Str × Addr)) : List Str → List (Option Nat) → Prop
  | [], [] => True
  | _ :: xs, none :: ps => Picks X scope cl xs ps
  | x :: xs, some i :: ps => (X.N[i]? = some x ∧ (X.env.kindOf x = some .cell ∨ X.env.kindOf x = some .free) ∧
      ((relabel scope X.env).names.lookup x = some .cell ∨ (relabel scope X.env).names.lookup x = some .free) ∧ ∃ c, X.env.cells.lookup x = some c ∧ cl.lookup x = some c) ∧ Picks X scope cl xs ps
  | _, _ => False
def ClosOk (X : Cx) : List (Str × Addr) → Prop
  | [] => True
  | p :: r => X.env.cells.lookup p.1 = some p.2 ∧ ClosOk X r
structure CompOk (X : Cx) (N : List Str) (scope : Scope) (cl : List (Str × Addr)) (pick : List (Option Nat)) : Prop where
  clos : closureFor scope X.env = pure cl
  kind : scope.kind = .function
  nocell : (scope.names.all fun y => y.2 != .cell) = true
  loc : (scope.names.all fun y => y.2 != .local || scope.names.lookup y.1 == some .local) = true
  free : (scope.names.all fun y => y.2 != .free || (cl.lookup y.1).isSome) = true
  cells : ClosOk X cl
  picks : Picks X scope cl N pick

theorem ClosOk.look {X : Cx} : ∀ {cl : List (Str × Addr)} {x : Str} {c : Addr}, ClosOk X cl → cl.lookup x = some c → X.env.cells.lookup x = some c
  | [], _, _, _, h => by simp at h
  | (n, a) :: r, x, c, ⟨h1, h2⟩, h => by
    rw [List.lookup_cons] at h
    cases e : x == n with
    | true =>
      rw [e] at h
      have e' : x = n := by simpa using e
      subst e'
      cases h
      exact h1
    | false =>
      rw [e] at h
      exact h2.look h
theorem Picks.length {X : Cx} {scope : Scope} {cl : List (Str × Addr)} : ∀ {N : List Str} {ps : List (Option Nat)}, Picks X scope cl N ps → ps.length = N.length
  | [], [], _ => rfl
  | [], _ :: _, h => (show False from h).elim
  | _ :: _, [], h => (show False from h).elim
  | _ :: xs, none :: ps, h => by
    have h' : Picks X scope cl xs ps := h
    rw [List.length_cons, List.length_cons, h'.length]
  | _ :: xs, some i :: ps, h => by
    have h' : Picks X scope cl xs ps := h.2
    rw [List.length_cons, List.length_cons, h'.length]
theorem Picks.at {X : Cx} {scope : Scope} {cl : List (Str × Addr)} : ∀ {N : List Str} {ps : List (Option Nat)} {j i : Nat} {x : Str}, Picks X scope cl N ps → N[j]? = some x → ps[j]? = some (some i) →
    X.N[i]? = some x ∧ (X.env.kindOf x = some .cell ∨ X.env.kindOf x = some .free) ∧
      ((relabel scope X.env).names.lookup x = some .cell ∨ (relabel scope X.env).names.lookup x = some .free) ∧ ∃ c, X.env.cells.lookup x = some c ∧ cl.lookup x = some c
  | [], _, j, _, _, _, h, _ => by simp at h
  | _ :: _, [], j, _, _, _, _, h => by simp at h
  | y :: xs, none :: ps, 0, _, _, _, _, h => by simp at h
  | y :: xs, some k :: ps, 0, i, x, p, h1, h2 => by
    simp at h1 h2
    subst h1 h2
    exact p.1
  | y :: xs, none :: ps, j + 1, i, x, p, h1, h2 => Picks.at (N := xs) (ps := ps) p (by simpa using h1) (by simpa using h2)
  | y :: xs, some k :: ps, j + 1, i, x, p, h1, h2 => Picks.at (N := xs) (ps := ps) p.2 (by simpa using h1) (by simpa using h2)

theorem compLoop_any {prog : Program} {w : World} {A : Around} {R : Result → Shared → Prop} {s : Shared} {elt target iter : Expr} {ifs : List Expr} {scope : Scope} {pos : Pos} {it acc : Value} {env : Env} (I : Nat → Shared → Prop)
    (turn : ∀ n s, I n s → wpAny (model prog w) A (pyNext it) (fun r s₁ => match r with
      | none => R (.ok .next) s₁
      | some v => wpAny (model prog w) A (letOwnedTupleGo target it v) (fun _ s' => wpAny (model prog w) A (assign target env v) (fun _ s₂ =>
          wpAny (model prog w) A (forIn ifs true fun c r => if r = true then do let ok ← isTrue c env (eval c env); pure (ForInStep.yield ok) else pure (ForInStep.yield r)) (fun ok s₃ =>
            if ok = true then wpAny (model prog w) A (eval elt env) (fun x s₄ =>
              wpAny (model prog w) A (call (.builtin "list.append") [acc, x]) (fun _ s₅ => ∃ m, m < n ∧ I m s₅) (fun _ _ => False) s₄) (fun _ _ => False) s₃
            else ∃ m, m < n ∧ I m s₃) (fun _ _ => False) s₂) (fun _ _ => False) s') (fun _ _ => False) s₁) (fun _ _ => False) s)
    (n : Nat) (h : I n s) :
    codeAny (model prog w) A (.compLoop (.ListComp elt [⟨target, iter, ifs, 0⟩] scope pos) 0 it acc env) R s := by
  refine codeAny_loop rfl I (fun n s hI => ?_) n h
  show wpAny _ A ((compTurn (.ListComp elt [⟨target, iter, ifs, 0⟩] scope pos) 0 it acc env).onRaise (fun x => do noteFrame x env; theTreesLotGoes x)) _ _ s
  refine wpAny_noted ?_
  rw [compTurn_list]
  refine wpAny_bind (wpAny_standAt (wpAny_bind (wpAny_mono (turn n s hI) (fun r s₁ h₁ => ?_) fun _ _ h' => h'.elim)))
  cases r with
  | none => exact wpAny_pure h₁
  | some v =>
    refine wpAny_bind (wpAny_mono h₁ (fun _ s' h' => wpAny_bind (wpAny_mono h' (fun _ s₂ h₂ => wpAny_bind (wpAny_mono h₂ (fun ok s₃ h₃ => ?_) fun _ _ h' => h'.elim)) fun _ _ h' => h'.elim)) fun _ _ h' => h'.elim)
    cases ok with
    | false => exact wpAny_pure ⟨rfl, h₃⟩
    | true =>
      exact wpAny_bind (wpAny_bind (wpAny_mono h₃ (fun x s₄ h₄ => wpAny_bind (wpAny_mono h₄ (fun _ s₅ h₅ => wpAny_pure (wpAny_pure ⟨rfl, h₅⟩)) fun _ _ h' => h'.elim)) fun _ _ h' => h'.elim))

/-- the tests of a clause -/
def PIfs (X : Cx) (ifs : List Expr) (t : TT) : Prop :=
  ∀ (pins : List (Addr × Obj)) (s : Shared) (σ : St) (H : Hp) (Q : Bool → Hp → Prop), Inv X pins σ H s → t σ H Q →
    wpAny (model X.prog X.w) X.A (forIn ifs true fun c r => if r = true then do let ok ← isTrue c X.env (eval c X.env); pure (ForInStep.yield ok) else pure (ForInStep.yield r)) (TP X pins σ Q) X.xe s
def tNoIf : TT := fun _ H Q => Q true H
theorem pifs_nil {X : Cx} : PIfs X [] tNoIf := fun _ _ _ H _ I h => wpAny_tests_nil ⟨H, I, h⟩
theorem pifs_one {X : Cx} {c : Expr} {t : TT} (h : PT X c t) : PIfs X [c] t := fun pins s σ H Q I q => wpAny_tests_one (h pins s σ H Q I q)

/-- a record that is no part of what is known: it may turn -/
def Loose (X : Cx) (pins : List (Addr × Obj)) (H : Hp) (C : Addr) : Prop :=
  H C = none ∧ C ≠ X.env.locals ∧ X.s₀.heap.objs.size ≤ C ∧ (∀ x c, X.env.cells.lookup x = some c → c ≠ C) ∧ ∀ q ∈ X.pn ++ pins, q.1 ≠ C

/-- the invariant of a comprehension: the turn, a measure, the block's slots, the heap; p: the new list -/
def LcInv (J : It) (g : TG) (ti : TT) (te : TE) (σ0 : St) (H1 : Hp) (Q : VK) (p : Addr) : Prop :=
  ∃ W : Nat → Nat → St → Hp → Prop, (∃ m, W 0 m σ0 (upd H1 p (.lst []))) ∧ ∀ i m σ H, W i m σ H →
    (J.stop i H ∧ Q (.ref p) H) ∨ (J.go i H ∧ ∃ N : St → Hp → Prop, (∀ σ' H', N σ' H' → ∃ m', m' < m ∧ W (i + 1) m' σ' H') ∧
      ∀ x H', J.yld i H x H' → g x σ H' fun σ2 H2 => ti σ2 H2 fun b H3 => if b = true then te σ2 H3 fun v H4 => ∃ xs, H4 p = some (.lst xs) ∧ xs.length < sizeLine ∧ N σ2 (upd H4 p (.lst (xs ++ [v]))) else N σ2 H3)

theorem HOk.turn {P : Program} {w : World} {H : Hp} {h h' : Heap} {C : Addr} (x : HOk P w H h) (hC : H C = none) (hs : Heap.SameBut C h h') : HOk P w H h' := fun a o e =>
  (x a o e).stay (fun b u hb q => (hs.2 b (by
    rintro rfl
    rcases hb with rfl | z
    · rw [hC] at e; cases e
    · rw [hC] at z; cases z)).trans q) (fun b z => z) fun b xs z => z

section
variable {X : Cx} {pins : List (Addr × Obj)} {σ : St} {H2 : Hp} {s2 : Shared} {N : List Str} {scope : Scope} {cl : List (Str × Addr)} {pick : List (Option Nat)} {elt tg iter : Expr} {ifs : List Expr} {pos : Pos}
  {g : TG} {ti : TT} {te : TE} {it : Addr} {fp : List Addr} {tn : Nat → Heap → Prop} {J : It} {Q : VK}

theorem lc_ok {C : Addr} {s3 : Shared} {H3 : Hp} (S : CompOk X N scope cl pick) (I3 : Inv X pins σ H3 s3) (hC : s3.heap.objs.size ≤ C) (f3 : ∀ b ∈ fp, FpOk X pins H3 b) (hlt : ∀ b ∈ fp, b < s3.heap.objs.size) :
    (ccx X N scope cl C s3 H3 fp).Ok where
  mod := I3.mod
  kind := S.kind
  glob := I3.ok.glob
  blt := I3.ok.blt
  above := hC
  inj := fun x y c a b => I3.ok.inj x y c (S.cells.look a) (S.cells.look b)
  has := fun x h => by
    have key : ∀ (names : List (Str × NameKind)), (names.all fun y => y.2 != .cell) = true → (names.all fun y => y.2 != .free || (cl.lookup y.1).isSome) = true →
        ((names.map fun (n, k) => if (k == NameKind.free && X.env.scope.kind == .function && X.env.kindOf n == some .cell) then (n, NameKind.cell) else (n, k)).lookup x = some .cell ∨
         (names.map fun (n, k) => if (k == NameKind.free && X.env.scope.kind == .function && X.env.kindOf n == some .cell) then (n, NameKind.cell) else (n, k)).lookup x = some .free) → ∃ c, cl.lookup x = some c := by
      intro names
      induction names with
      | nil => intro _ _ h; simp at h
      | cons y r ih =>
        obtain ⟨n, k⟩ := y
        intro h1 h2 h3
        rw [List.all_cons, Bool.and_eq_true] at h1 h2
        rw [List.map_cons] at h3
        cases hx : x == n with
        | true =>
          have hx' : x = n := by simpa using hx
          subst hx'
          cases k with
          | free =>
            have q := h2.1
            rw [Bool.or_eq_true] at q
            exact Option.isSome_iff_exists.mp (q.resolve_left (by simp))
          | cell => exact absurd h1.1 (by simp)
          | _ => simp [List.lookup_cons] at h3
        | false =>
          refine ih h1.2 h2.2 ?_
          have e : ∀ (k' : NameKind), List.lookup x ((n, k') :: (r.map fun (n, k) => if (k == NameKind.free && X.env.scope.kind == .function && X.env.kindOf n == some .cell) then (n, NameKind.cell) else (n, k))) =
              List.lookup x (r.map fun (n, k) => if (k == NameKind.free && X.env.scope.kind == .function && X.env.kindOf n == some .cell) then (n, NameKind.cell) else (n, k)) := fun k' => by rw [List.lookup_cons, hx]
          by_cases hc : (k == NameKind.free && X.env.scope.kind == .function && X.env.kindOf n == some .cell) = true
          · simp only [if_pos hc] at h3; rw [e] at h3; exact h3
          · simp only [if_neg hc] at h3; rw [e] at h3; exact h3
    exact key scope.names S.nocell S.free h
  cab := fun x c h => by cases h
  hd := I3.ok.hd
  frames := I3.ok.frames
  stk := .inl rfl
  exf := fun b hb => ⟨fun e => absurd (hlt b hb) (Nat.not_lt.mpr (by rw [show b = C from e]; exact hC)), fun x c e => (f3 b hb).2.2.2.2.1 x c (S.cells.look e)⟩
  bs := I3.bs
  bsz := Nat.le_trans I3.ok.bsz I3.sz
  noex := fun b o e hb => by
    rcases (f3 b hb).2.2.2.1 with z | z
    · exact I3.ok.noex b o e z
    · exact absurd (Nat.lt_of_lt_of_le (Heap.lt_size (I3.ok.bs b o e).1) z) (Nat.lt_irrefl _)
  exfs := fun b hb m => by
    rcases List.mem_cons.mp (I3.stkSub b m) with z | z
    · exact (f3 b hb).2.1 z
    · exact (f3 b hb).2.2.1 z
  funs := I3.stack
  frf := I3.stkFree

theorem lc_inv {C : Addr} {s3 : Shared} {H3 : Hp} {h4 : Heap} {t4 : Nat} {m : Str → Option Value} (S : CompOk X N scope cl pick) (I3 : Inv X pins σ H3 s3) (hC : s3.heap.objs.size ≤ C) (f3 : ∀ b ∈ fp, FpOk X pins H3 b) (hlt : ∀ b ∈ fp, b < s3.heap.objs.size)
    (hn : h4.Ns C m) (hk : ∀ b o, s3.heap.get? b = some o → h4.get? b = some o) : Inv (ccx X N scope cl C s3 H3 fp) [] (picked pick σ) H3 { s3 with heap := h4, toks := t4 } where
  ok := lc_ok S I3 hC f3 hlt
  os := rfl
  bare := I3.bare
  base := Un.kept hk
  loc := by
    refine ⟨m, hn, fun j x v hj hσ hv => ?_⟩
    have hj' : N[j]? = some x := hj
    unfold picked at hσ
    rw [List.getElem?_map] at hσ
    cases hp : pick[j]? with
    | none => rw [hp] at hσ; cases hσ
    | some o =>
      rw [hp] at hσ
      cases o with
      | none => cases hσ
      | some i =>
        obtain ⟨a1, a2, a3, c, a4, a5⟩ := S.picks.at hj' hp
        have hσ' : σ[i]? = some (some v) := by
          have : (σ[i]?).bind id = some v := by simpa using hσ
          cases q : σ[i]? with
          | none => rw [q] at this; cases this
          | some z => rw [q] at this; have e : z = some v := this; rw [e]
        obtain ⟨m0, _, hl⟩ := I3.loc
        have vis : Vis X.env.scope x := a2.elim (fun e => .inr (.inl e)) fun e => .inr (.inr e)
        obtain ⟨u, ru, lk⟩ := hl i x v a1 hσ' vis
        refine ⟨u, ru, .inr ⟨a3, c, a5, ?_⟩⟩
        rcases lk with ⟨z, _⟩ | ⟨_, c', e', ic⟩
        · rcases a2 with y | y <;> (rw [y] at z; cases z)
        · rw [a4] at e'; cases e'
          obtain ⟨o, e, d⟩ := ic
          exact ⟨o, hk _ _ e, d⟩
  cell := fun x c e => by
    obtain ⟨v, o, q, d⟩ := I3.cell x c (S.cells.look e)
    exact ⟨v, o, hk _ _ q, d⟩
  free := I3.hok.fresh hC
  freeC := fun x c e => I3.freeC x c (S.cells.look e)
  pin := fun p hp => nomatch hp
  hok := I3.hok.kept hk
  len := by
    show (picked pick σ).length = N.length
    unfold picked
    rw [List.length_map, S.picks.length]

theorem lc_block {E : Value → Shared → Prop} {RR : Value → Addr → Result → Shared → Prop} (hc : X.calm = true) (S : CompOk X N scope cl pick)
    (hg : ∀ C s H fp, PG (ccx X N scope cl C s H fp) tg g) (ht : ∀ C s H fp, PIfs (ccx X N scope cl C s H fp) ifs ti) (he : ∀ C s H fp, PE (ccx X N scope cl C s H fp) elt te)
    (I2 : Inv X pins σ H2 s2) (T : Turn X.prog X.w X.K tg J fp it tn) (st2 : tn 0 s2.heap) (f2 : ∀ b ∈ fp, FpOk X pins H2 b)
    (hq : ∀ p, H2 p = none → LcInv J g ti te (picked pick σ) H2 Q p)
    (hRR : ∀ C p H' s1 m, Inv X pins σ H' s1 → Loose X pins H' C → s1.heap.Ns C m → Q (.ref p) H' → RR (.ref p) C (.ok .next) s1) :
    wpAny (model X.prog X.w) X.A (newList []) (fun acc s₃ => wpAny (model X.prog X.w) X.A (newFunctionEnv scope X.env.globals cl [] X.env.qual none .none (some X.env)) (fun cenv s₄ =>
      codeAny (model X.prog X.w) X.A (.compStart (.ListComp elt [⟨tg, iter, ifs, 0⟩] scope pos) 0 (.ref it) acc { cenv with scope := relabel scope X.env }) (RR acc cenv.locals) s₄) E s₃) E s2 := by
  have hcell : ∀ y ∈ scope.names, y.2 ≠ .cell := fun y hy => by simpa using List.all_eq_true.mp S.nocell y hy
  refine wpAny_newObj_type (wpAny_newFunctionEnv hcell (by intro y hy; simp at hy) (fun h₁ hns₁ hsb₁ => ?_) S.kind)
  dsimp only at hns₁ hsb₁ ⊢
  have I3 : Inv X pins σ (upd H2 s2.heap.objs.size (.lst [])) { s2 with heap := s2.heap.push { cls := .type "list", data := .seq ([] : List Value).toArray } } :=
    I2.lnew (ys := []) (its := []) (t' := s2.toks) .nil (Nat.zero_le _)
  have hp : H2 s2.heap.objs.size = none := I2.fresh
  obtain ⟨W, ⟨m0, w0⟩, turn⟩ := hq _ hp
  generalize hA : s2.heap.objs.size = acc at *
  generalize hS3 : ({ s2 with heap := s2.heap.push { cls := .type "list", data := .seq ([] : List Value).toArray } } : Shared) = s3 at *
  have hh3 : s3.heap = s2.heap.push { cls := .type "list", data := .seq ([] : List Value).toArray } := by rw [← hS3]
  have hsz : s3.heap.objs.size = acc + 1 := by rw [hh3, Heap.size_push, hA]
  have hlt2 : ∀ b ∈ fp, b < acc := fun b hb => by
    obtain ⟨o, e, _⟩ := T.obj 0 _ st2 b hb
    rw [← hA]; exact Heap.lt_size e
  have hlt : ∀ b ∈ fp, b < s3.heap.objs.size := fun b hb => by rw [hsz]; exact Nat.lt_succ_of_lt (hlt2 b hb)
  have f3 : ∀ b ∈ fp, FpOk X pins (upd H2 acc (.lst [])) b := fun b hb => ⟨by rw [upd_ne (Nat.ne_of_lt (hlt2 b hb))]; exact (f2 b hb).1, (f2 b hb).2⟩
  have hk : ∀ b o, s3.heap.get? b = some o → h₁.get? b = some o := fun b o e => by
    refine hsb₁.extBut b o (Nat.ne_of_lt ?_) (Heap.get?_push_of_some _ ?_)
    · have := Heap.lt_size e
      rw [hh3] at this
      exact this
    · rw [hh3] at e; exact e
  have hCe : (s2.heap.push { cls := .type "list", data := .seq ([] : List Value).toArray }).objs.size = acc + 1 := by rw [Heap.size_push, hA]
  have e4 : ({ s2 with heap := h₁, toks := s2.toks + ([] : List (Str × Value)).length } : Shared) = { s3 with heap := h₁, toks := s2.toks } := by rw [← hS3]; rfl
  have hns : h₁.Ns (acc + 1) (fun x => ([] : List (Str × Value)).reverse.lookup x) := by rw [← hCe]; exact hns₁
  have I4 : Inv (ccx X N scope cl (acc + 1) s3 (upd H2 acc (.lst [])) fp) [] (picked pick σ) (upd H2 acc (.lst [])) { s3 with heap := h₁, toks := s2.toks } :=
    lc_inv S I3 (by rw [hsz]; exact Nat.le_refl _) f3 hlt hns hk
  have st4 : tn 0 h₁ := T.keep _ _ _ st2 fun b hb o e => hk b o (by rw [hh3]; exact Heap.get?_push_of_some _ e)
  have stat : ∀ {H' : Hp}, (∀ b ∈ fp, H' b = none) → ∀ b ∈ fp, FpOk (ccx X N scope cl (acc + 1) s3 (upd H2 acc (.lst [])) fp) [] H' b := fun {H'} hn b hb => by
    have ok := I4.ok
    exact ⟨hn b hb, (ok.exf b hb).1, ok.exfs b hb, .inl hb, (ok.exf b hb).2, fun p hp => nomatch hp⟩
  -- behind the loop: the outer frame again
  have out : ∀ {σ' : St} {H' : Hp} {s1 : Shared}, Inv (ccx X N scope cl (acc + 1) s3 (upd H2 acc (.lst [])) fp) [] σ' H' s1 → Q (.ref acc) H' → RR (.ref acc) (acc + 1) (.ok .next) s1 := fun {σ' H' s1} I' q' => by
    obtain ⟨m', hn', _⟩ := I'.loc
    refine hRR (acc + 1) acc H' s1 m' ?_ ?_ hn' q'
    · exact I3.call' I'.os I'.base I'.hok I'.bare fun b hb => ⟨(f3 b hb).2.2.2.1, (f3 b hb).2.1, (f3 b hb).2.2.2.2.1, (f3 b hb).2.2.2.2.2⟩
    · have big : s3.heap.objs.size ≤ acc + 1 := by rw [hsz]; exact Nat.le_refl _
      refine ⟨I'.free, Nat.ne_of_gt (Nat.lt_of_lt_of_le I3.lt big), Nat.le_trans I3.sz big, fun x c e z => ?_, fun p hp z => ?_⟩
      · obtain ⟨v, ic⟩ := I3.cell x c e
        exact absurd (Nat.lt_of_lt_of_le ic.lt (by rw [z]; exact big)) (Nat.lt_irrefl _)
      · exact absurd (Nat.lt_of_lt_of_le (Heap.lt_size (I3.pin p hp).1) (by rw [z]; exact big)) (Nat.lt_irrefl _)
  have loop : codeAny (model X.prog X.w) X.A (.compLoop (.ListComp elt [⟨tg, iter, ifs, 0⟩] scope pos) 0 (.ref it) (.ref acc) (compEnvC scope cl (acc + 1) X.env)) (RR (.ref acc) (acc + 1)) { s3 with heap := h₁, toks := s2.toks } := by
    refine compLoop_any (fun n s' => ∃ i σ' H', Inv (ccx X N scope cl (acc + 1) s3 (upd H2 acc (.lst [])) fp) [] σ' H' s' ∧ tn i s'.heap ∧ (∀ b ∈ fp, H' b = none) ∧ W i n σ' H') ?_ m0
      ⟨0, _, _, I4, st4, fun b hb => (f3 b hb).1, w0⟩
    rintro n s5 ⟨i, σ5, H5, I5, st5, fr5, w5⟩
    rcases turn i n σ5 H5 w5 with ⟨stop, qn⟩ | ⟨go, Nx, hN, step⟩
    · refine thn (T.done (ccx X N scope cl (acc + 1) s3 (upd H2 acc (.lst [])) fp) rfl rfl rfl hc i [] s5 σ5 H5 _ I5 (stat fr5) st5 stop) fun r s6 ⟨hr, I6⟩ => ?_
      subst hr
      exact out I6 qn
    · refine thn (T.item (ccx X N scope cl (acc + 1) s3 (upd H2 acc (.lst [])) fp) rfl rfl rfl hc i [] s5 σ5 H5 _ I5 (stat fr5) st5 go) fun r s6 ⟨u, hr, h6⟩ => ?_
      subst hr
      refine thn h6 fun _ s7 ⟨x, H7, I7, r7, y7, st7, fr7⟩ => ?_
      have I7' := I7.pinned (stat fr7) (T.obj _ _ st7)
      refine thn (hg _ _ _ _ _ s7 σ5 H7 x u _ I7' r7 (step x H7 y7)) fun _ s8 ⟨σ8, H8, I8, q8⟩ => ?_
      have again : ∀ {s9 : Shared} {σ9 : St} {H9 : Hp}, Inv (ccx X N scope cl (acc + 1) s3 (upd H2 acc (.lst [])) fp) ([] ++ pinsAt fp s7.heap) σ9 H9 s9 → Nx σ9 H9 → ∃ m, m < n ∧ ∃ i σ' H', Inv (ccx X N scope cl (acc + 1) s3 (upd H2 acc (.lst [])) fp) [] σ' H' s9 ∧ tn i s9.heap ∧ (∀ b ∈ fp, H' b = none) ∧ W i m σ' H' := fun {s9 σ9 H9} I9 n9 => by
        obtain ⟨m', hm, w9⟩ := hN σ9 H9 n9
        refine ⟨m', hm, i + 1, σ9, H9, I9.unpinned, T.keep _ _ _ st7 fun b hb o e => (I9.pin (b, o) (List.mem_append_right _ (List.mem_append_right _ (mem_pinsAt hb e)))).1, fun b hb => ?_, w9⟩
        obtain ⟨o, e, d⟩ := T.obj _ _ st7 b hb
        exact (I9.pin (b, o) (List.mem_append_right _ (List.mem_append_right _ (mem_pinsAt hb e)))).2.1
      refine thn (ht _ _ _ _ _ s8 σ8 H8 _ I8 q8) fun ok s9 ⟨H9, I9, q9⟩ => ?_
      cases ok with
      | false => exact again I9 q9
      | true =>
        refine thn (he _ _ _ _ _ s9 σ8 H9 _ I9 q9) fun y s10 ⟨v, H10, I10, r10, xs, hx, hl, n10⟩ => ?_
        refine thn (mt_append _ s10 σ8 H10 (.ref acc) [v] (.ref acc) [y] (fun _ H' => Nx σ8 H') I10 rfl (.cons r10 .nil) ⟨acc, xs, v, rfl, rfl, hx, hl, n10⟩) fun _ s11 ⟨_, H11, I11, _, n11⟩ => again I11 n11
  rw [e4]
  have e5 : ({ newEnv scope (s2.heap.push { cls := .type "list", data := .seq ([] : List Value).toArray }).objs.size X.env.globals cl X.env.qual none .none (some X.env) builtinsNs with scope := relabel scope X.env } : Env) = compEnvC scope cl (acc + 1) X.env := by
    rw [hCe]; rfl
  have e6 : (newEnv scope (s2.heap.push { cls := .type "list", data := .seq ([] : List Value).toArray }).objs.size X.env.globals cl X.env.qual none .none (some X.env) builtinsNs).locals = acc + 1 := by
    rw [hCe]; rfl
  rw [e5, e6]
  exact codeAny_compStart_list loop (T.self _ 0 _ _ _ st4 loop)
end

/-- [elt for tg in iter if ..]: pick, the slots outside of the names that are free within -/
def tLC (wi : TI) (g : TG) (ti : TT) (te : TE) (pick : List (Option Nat)) : TE := fun σ H Q => wi σ H fun J H1 => ∀ p, H1 p = none → LcInv J g ti te (picked pick σ) H1 Q p
section
variable {X : Cx} {N : List Str} {scope : Scope} {cl : List (Str × Addr)} {pick : List (Option Nat)} {elt tg iter : Expr} {ifs : List Expr} {pos pos' spos : Pos} {wi : TI} {g : TG} {ti : TT} {te : TE}
theorem pe_lc (hc : X.calm = true) (S : CompOk X N scope cl pick) (hi : PI X tg iter wi)
    (hg : ∀ C s H fp, PG (ccx X N scope cl C s H fp) tg g) (ht : ∀ C s H fp, PIfs (ccx X N scope cl C s H fp) ifs ti) (he : ∀ C s H fp, PE (ccx X N scope cl C s H fp) elt te)
    (hs : ∀ x, foldedSetIterable iter X.env x = pure x := by intro _; rfl) : PE X (.ListComp elt [⟨tg, iter, ifs, 0⟩] scope pos) (tLC wi g ti te pick) := by
  intro pins s σ H Q I h
  have hloc : ∀ y ∈ scope.names, y.2 = .local → scope.names.lookup y.1 = some .local := fun y hy e => by
    have := List.all_eq_true.mp S.loc y hy
    rw [e] at this
    simpa using this
  rw [eval_ListComp]
  refine wpAny_comprehension_free (use := none) rfl hs S.clos S.kind hloc (thn (hi pins s σ H _ I h) fun xv s₁ h₁ => thn h₁ fun itv s₂ h₂ => ?_)
  obtain ⟨it, fp, tn, J, H2, e, I2, T, st2, f2, hq⟩ := h₂
  subst e
  refine lc_block (RR := fun acc C => compPost (model X.prog X.w) X.A X.xe none (EP X pins σ Q) acc C) hc S hg ht he I2 T st2 f2 hq ?_
  intro C p H' s1 m I1 L hn q
  refine ⟨m, hn, fun h' hs' => ⟨.ref p, H', I1.turned (t' := s1.toks) (fun b o hb e => (hs'.2 b hb).trans e) L.1 L.2.1 (.inr L.2.2.1) L.2.2.2.1 L.2.2.2.2, rfl, q⟩⟩

/-- name = [..] on one row -/
theorem ps_setLC {i : Nat} {y : Str} (hsw : swapsWith (.ListComp elt [⟨tg, iter, ifs, 0⟩] scope pos) (some (.Name y pos')) spos.line X.env = pure true) (hN : X.N.Nodup) (hi' : X.N[i]? = some y) (hx : Loc X.env.scope y)
    (hc : X.calm = true) (S : CompOk X N scope cl pick) (hi : PI X tg iter wi)
    (hg : ∀ C s H fp, PG (ccx X N scope cl C s H fp) tg g) (ht : ∀ C s H fp, PIfs (ccx X N scope cl C s H fp) ifs ti) (he : ∀ C s H fp, PE (ccx X N scope cl C s H fp) elt te)
    (hs : ∀ x, foldedSetIterable iter X.env x = pure x := by intro _; rfl) (hf : X.fn y = true ∨ X.env.scope.names.lookup y = some .local := by first | exact .inl rfl | exact .inr rfl | assumption) :
    PS X (.Assign [.Name y pos'] (.ListComp elt [⟨tg, iter, ifs, 0⟩] scope pos) spos) (tAsg (tLC wi g ti te pick) (gName i)) := by
  intro pins s σ H D I h
  have hloc : ∀ y ∈ scope.names, y.2 = .local → scope.names.lookup y.1 = some .local := fun y hy e => by
    have := List.all_eq_true.mp S.loc y hy
    rw [e] at this
    simpa using this
  rw [exec_Assign_Name_used _ _ _ _ hsw]
  refine wpAny_bind (wpAny_standAt (wpAny_bind ?_))
  show wpAny _ X.A (do let _ ← comprehension (.ListComp elt [⟨tg, iter, ifs, 0⟩] scope pos) scope X.env _ (newList []) false (eval iter X.env) (some (assign (.Name y pos') X.env))) _ _ s
  refine wpAny_bind (wpAny_mono (wpAny_comprehension_free (use := some (assign (.Name y pos') X.env)) (Q := fun _ s' => SP X pins D .next s') rfl hs S.clos S.kind hloc
    (thn (hi pins s σ H _ I h) fun xv s₁ h₁ => thn h₁ fun itv s₂ h₂ => ?_)) (fun _ s' hq => wpAny_pure (wpAny_pure hq)) fun _ _ e => e)
  obtain ⟨it, fp, tn, J, H2, e, I2, T, st2, f2, hq⟩ := h₂
  subst e
  refine lc_block (RR := fun acc C => compPost (model X.prog X.w) X.A X.xe (some (assign (.Name y pos') X.env)) (fun _ s' => SP X pins D .next s') acc C) hc S hg ht he I2 T st2 f2 hq ?_
  intro C p H' s1 m I1 L hn q
  show wpAny _ X.A (assign (.Name y pos') X.env (.ref p)) _ _ _
  refine wpAny_assign_Name (store_ok2 I1 hN hi' hx (v := .ref p) rfl (fun s2 I2 hch => ?_) hf)
  obtain ⟨a, sb, ha⟩ := hch
  have hCa : C ≠ a := by
    rcases ha with rfl | e
    · exact L.2.1
    · exact (L.2.2.2.1 y a e).symm
  refine ⟨m, hn.sameBut sb hCa, fun h' hs' => ⟨_, H', I2.turned (t' := s2.toks) (fun b o hb e => (hs'.2 b hb).trans e) L.1 L.2.1 (.inr L.2.2.1) L.2.2.2.1 L.2.2.2.2, q⟩⟩
end

/-! ### the forms one uses -/
def LcEnd (p : Addr) (Pv : Nat → List V → St → Hp → Prop) (i : Nat) (σ : St) (H : Hp) : Prop := ∃ ys, H p = some (.lst ys) ∧ Pv i ys σ H
/-- over a list that stays as it is: Pv turn, the new list's items, the block's slots, the heap -/
theorem lc_list {K : PySem.W.Frag} {a p : Addr} {xs : List V} {g : TG} {ti : TT} {te : TE} {σ0 : St} {H1 : Hp} {Q : VK} (Pv : Nat → List V → St → Hp → Prop) (h0 : Pv 0 [] σ0 (upd H1 p (.lst [])))
    (hl : ∀ i ys σ H, i ≤ xs.length → H p = some (.lst ys) → Pv i ys σ H → SqL K H a xs)
    (hs : ∀ i x ys σ H, xs[i]? = some x → H p = some (.lst ys) → Pv i ys σ H → g x σ H fun σ2 H2 => ti σ2 H2 fun b H3 => if b = true then te σ2 H3 fun v H4 => ∃ zs, H4 p = some (.lst zs) ∧ zs.length < sizeLine ∧ LcEnd p Pv (i + 1) σ2 (upd H4 p (.lst (zs ++ [v])))
      else LcEnd p Pv (i + 1) σ2 H3)
    (hd : ∀ ys σ H, H p = some (.lst ys) → Pv xs.length ys σ H → Q (.ref p) H) :
    LcInv (Itl K a) g ti te σ0 H1 Q p := by
  refine ⟨fun i m σ H => m = xs.length - i ∧ i ≤ xs.length ∧ LcEnd p Pv i σ H, ⟨xs.length, by simp, Nat.zero_le _, [], upd_same, h0⟩, ?_⟩
  rintro i m σ H ⟨rfl, hi, ys, hp, pv⟩
  have q := hl i ys σ H hi hp pv
  by_cases hlt : i < xs.length
  · refine .inr ⟨⟨xs, xs[i], q, by simp [hlt]⟩, LcEnd p Pv (i + 1), fun σ' H' z => ⟨xs.length - (i + 1), by omega, rfl, hlt, z⟩, fun x H' y => ?_⟩
    obtain ⟨e, y⟩ := y
    subst e
    exact hs i x ys σ H' (y xs q) hp pv
  · have e : i = xs.length := by omega
    subst e
    exact .inl ⟨⟨xs, q, Nat.le_refl _⟩, hd ys σ H hp pv⟩
/-- over a tuple -/
theorem lc_tup {K : PySem.W.Frag} {a p : Addr} {xs : List V} {g : TG} {ti : TT} {te : TE} {σ0 : St} {H1 : Hp} {Q : VK} (Pv : Nat → List V → St → Hp → Prop) (h0 : Pv 0 [] σ0 (upd H1 p (.lst [])))
    (hl : ∀ i ys σ H, i ≤ xs.length → H p = some (.lst ys) → Pv i ys σ H → SqT K H a xs)
    (hs : ∀ i x ys σ H, xs[i]? = some x → H p = some (.lst ys) → Pv i ys σ H → g x σ H fun σ2 H2 => ti σ2 H2 fun b H3 => if b = true then te σ2 H3 fun v H4 => ∃ zs, H4 p = some (.lst zs) ∧ zs.length < sizeLine ∧ LcEnd p Pv (i + 1) σ2 (upd H4 p (.lst (zs ++ [v])))
      else LcEnd p Pv (i + 1) σ2 H3)
    (hd : ∀ ys σ H, H p = some (.lst ys) → Pv xs.length ys σ H → Q (.ref p) H) :
    LcInv (Itt K a) g ti te σ0 H1 Q p := by
  refine ⟨fun i m σ H => m = xs.length - i ∧ i ≤ xs.length ∧ LcEnd p Pv i σ H, ⟨xs.length, by simp, Nat.zero_le _, [], upd_same, h0⟩, ?_⟩
  rintro i m σ H ⟨rfl, hi, ys, hp, pv⟩
  have q := hl i ys σ H hi hp pv
  by_cases hlt : i < xs.length
  · refine .inr ⟨⟨xs, xs[i], q, by simp [hlt]⟩, LcEnd p Pv (i + 1), fun σ' H' z => ⟨xs.length - (i + 1), by omega, rfl, hlt, z⟩, fun x H' y => ?_⟩
    obtain ⟨e, y⟩ := y
    subst e
    exact hs i x ys σ H' (y xs q) hp pv
  · have e : i = xs.length := by omega
    subst e
    exact .inl ⟨⟨xs, q, Nat.le_refl _⟩, hd ys σ H hp pv⟩
/-- over a range -/
theorem lc_range {lo : Int} {n : Nat} {p : Addr} {g : TG} {ti : TT} {te : TE} {σ0 : St} {H1 : Hp} {Q : VK} (Pv : Nat → List V → St → Hp → Prop) (h0 : Pv 0 [] σ0 (upd H1 p (.lst [])))
    (hs : ∀ i ys σ H, i < n → H p = some (.lst ys) → Pv i ys σ H → g (.int (lo + i)) σ H fun σ2 H2 => ti σ2 H2 fun b H3 => if b = true then te σ2 H3 fun v H4 => ∃ zs, H4 p = some (.lst zs) ∧ zs.length < sizeLine ∧ LcEnd p Pv (i + 1) σ2 (upd H4 p (.lst (zs ++ [v])))
      else LcEnd p Pv (i + 1) σ2 H3)
    (hd : ∀ ys σ H, H p = some (.lst ys) → Pv n ys σ H → Q (.ref p) H) :
    LcInv (Itr lo n) g ti te σ0 H1 Q p := by
  refine ⟨fun i m σ H => m = n - i ∧ i ≤ n ∧ LcEnd p Pv i σ H, ⟨n, by simp, Nat.zero_le _, [], upd_same, h0⟩, ?_⟩
  rintro i m σ H ⟨rfl, hi, ys, hp, pv⟩
  by_cases hlt : i < n
  · refine .inr ⟨hlt, LcEnd p Pv (i + 1), fun σ' H' z => ⟨n - (i + 1), by omega, rfl, hlt, z⟩, fun x H' y => ?_⟩
    obtain ⟨e, y⟩ := y
    subst e
    subst y
    exact hs i ys σ H' hlt hp pv
  · have e : i = n := by omega
    subst e
    exact .inl ⟨Nat.le_refl _, hd ys σ H hp pv⟩

/-! ### a statement, and what is to hold behind it -/
def tCut (t u : TS) : TS := fun D σ H => ∃ P : St → Hp → Prop, t { D with nx := P } σ H ∧ ∀ σ' H', P σ' H' → u D σ' H'
theorem pss_cut {X : Cx} {st : Stmt} {rest : List Stmt} {t u : TS} (h1 : PS X st t) (h2 : PSs X rest u) : PSs X (st :: rest) (tCut t u) := by
  intro pins s σ H D I ⟨P, h, hu⟩
  refine wpAny_execs_cons (thn (h1 pins s σ H _ I h) fun f s1 q => ?_)
  cases f with
  | next =>
    obtain ⟨σ1, H1, I1, q1⟩ := q
    exact h2 pins s1 σ1 H1 D I1 (hu σ1 H1 q1)
  | brk => exact q
  | cont => exact q
  | ret v => exact q
theorem st_cut {t u : TS} {D : Ends} {σ : St} {H : Hp} (P : St → Hp → Prop) (h : t { D with nx := P } σ H) (hu : ∀ σ' H', P σ' H' → u D σ' H') : tCut t u D σ H := ⟨P, h, hu⟩
end L2


set_option Elab.async false
set_option linter.all false
set_option maxRecDepth 100000
set_option maxHeartbeats 4000000
/-! one step a construct: what is left to show behind it -/
namespace L2
open PySem PySem.Spec PyProof.Rows
section
variable {σ : St} {H : Hp} {Q : VK} {D : Ends} {ta tb tc te : TE} {t u : TS} {c d : TT} {K : PySem.W.Frag} {QB : Bool → Hp → Prop} {x y v : V} {i j : Int} {a p : Addr} {xs ys : List V} {r : R2} {QL : List V → Hp → Prop}
theorem st_var {n : Nat} (h : σ[n]? = some (some v)) (q : Q v H) : tVar n σ H Q := ⟨v, h, q⟩
theorem st_c (q : Q v H) : tC v σ H Q := q
theorem st_op (q : ta σ H fun x H1 => tb σ H1 fun y H2 => r x y H2 Q) : tOp r ta tb σ H Q := q
theorem st_un {r : V → Hp → VK → Prop} (q : ta σ H fun x H1 => r x H1 Q) : tUn r ta σ H Q := q
theorem st_rI {C : Int → Int → Prop} {g : Int → Int → V} (hc : C i j) (q : Q (g i j) H) : rI C g (.int i) (.int j) H Q := ⟨i, j, rfl, rfl, hc, q⟩
theorem st_rI0 {g : Int → Int → V} (q : Q (g i j) H) : rI0 g (.int i) (.int j) H Q := ⟨i, j, rfl, rfl, q⟩
theorem st_rU {g : Int → V} (q : Q (g i) H) : rU g (.int i) H Q := ⟨i, rfl, q⟩
theorem st_rEq (h : scal x y = true) (q : Q (.bl (decide (x = y))) H) : rEq x y H Q := ⟨h, q⟩
theorem st_rNe (h : scal x y = true) (q : Q (.bl (!decide (x = y))) H) : rNe x y H Q := ⟨h, q⟩
theorem st_isN (q : ta σ H fun x H1 => Q (.bl (decide (x = .non))) H1) : tIsN ta σ H Q := q
theorem st_notN (q : ta σ H fun x H1 => Q (.bl (!decide (x = .non))) H1) : tNotN ta σ H Q := q
theorem st_B (q : ta σ H fun x H1 => ∃ c, x = .bl c ∧ QB c H1) : tB ta σ H QB := q
theorem st_test (q : ta σ H fun x H1 => ∃ c, x = .bl c ∧ QB c H1) : tTest ta σ H QB := q
theorem st_bl {P : Bool → Prop} {b : Bool} (q : P b) : ∃ c, V.bl b = .bl c ∧ P c := ⟨b, rfl, q⟩
theorem st_and (q : c σ H fun b H1 => if b = true then d σ H1 QB else QB false H1) : tAnd c d σ H QB := q
theorem st_or (q : c σ H fun b H1 => if b = true then QB true H1 else d σ H1 QB) : tOr c d σ H QB := q
theorem st_not (q : c σ H fun b H1 => QB (!b) H1) : tNot c σ H QB := q
theorem st_andV (q : ta σ H fun x H1 => ∃ c, x = .bl c ∧ if c = true then tb σ H1 Q else Q (.bl false) H1) : tAndV ta tb σ H Q := q
theorem st_orV (q : ta σ H fun x H1 => ∃ c, x = .bl c ∧ if c = true then Q (.bl true) H1 else tb σ H1 Q) : tOrV ta tb σ H Q := q
theorem st_notV (q : ta σ H fun x H1 => ∃ c, x = .bl c ∧ Q (.bl (!c)) H1) : tNotV ta σ H Q := q
theorem st_ifE (q : c σ H fun b H1 => if b = true then ta σ H1 Q else tb σ H1 Q) : tIf c ta tb σ H Q := q
theorem st_chain {r' : R2} (q : ta σ H fun x H1 => tb σ H1 fun y H2 => r x y H2 fun z H3 => ∃ k, z = .bl k ∧ (if k = true then tc σ H3 fun w' H4 => r' y w' H4 Q else Q (.bl false) H3)) : tChain r r' ta tb tc σ H Q := q
theorem st_nil (q : QL [] H) : tNil σ H QL := q
theorem st_cons {tr : TA} (q : ta σ H fun x H1 => tr σ H1 fun xs H2 => QL (x :: xs) H2) : tCons ta tr σ H QL := q
theorem st_tup {t : TA} (q : t σ H fun xs H1 => xs.length ≤ sizeLine ∧ ∀ p, H1 p = none → Q (.ref p) (upd H1 p (.tup xs))) : tTup t σ H Q := q
theorem st_lst {t : TA} (q : t σ H fun xs H1 => xs.length ≤ sizeLine ∧ ∀ p, H1 p = none → Q (.ref p) (upd H1 p (.lst xs))) : tLst t σ H Q := q
theorem st_dnew (q : ∀ p, H p = none → Q (.ref p) (upd H p (.dK []))) : tDNewK σ H Q := q
theorem st_call {sp : Sp} {dvs : List V} {E : XK} {t : TA} (q : t σ H fun vs H1 => sp (vs ++ dvs) H1 Q E) : tCall sp dvs E t σ H Q := q
theorem st_cb {r : List V → Hp → VK → Prop} {t : TA} (q : t σ H fun vs H1 => r vs H1 Q) : tCB r t σ H Q := q
theorem st_lenL (h : SqL K H a ys) (q : Q (.int ys.length) H) : rLenQ K [.ref a] H Q := ⟨a, ys, rfl, .inl h, q⟩
theorem st_lenT (h : SqT K H a ys) (q : Q (.int ys.length) H) : rLenQ K [.ref a] H Q := ⟨a, ys, rfl, .inr h, q⟩
theorem st_lenD {kvs : List (Key × V)} (h : H a = some (.dK kvs)) (q : Q (.int kvs.length) H) : rLenD [.ref a] H Q := ⟨a, kvs, rfl, h, q⟩
theorem st_listL (h : SqL K H a ys) (q : ∀ l, H l = none → Q (.ref l) (upd H l (.lst ys))) : rListQ K [.ref a] H Q := ⟨a, ys, rfl, .inl h, q⟩
theorem st_min (q : Q (.int (if j < i then j else i)) H) : rMin2 [.int i, .int j] H Q := ⟨i, j, rfl, q⟩
theorem st_intB {b : Bool} (q : Q (.int (if b then 1 else 0)) H) : rInt1 [.bl b] H Q := .inr ⟨b, rfl, q⟩
theorem st_ixL (h : SqL K H a xs) (e : atI xs i = some v) (q : Q v H) : rIxL K (.ref a) (.int i) H Q := ⟨a, xs, i, v, rfl, rfl, h, e, q⟩
theorem st_ixT (h : SqT K H a xs) (e : atI xs i = some v) (q : Q v H) : rIxT K (.ref a) (.int i) H Q := ⟨a, xs, i, v, rfl, rfl, h, e, q⟩
theorem st_sl {r : V → Option Int → Option Int → Hp → VK → Prop} {tl th : TO} (q : te σ H fun x H1 => tl σ H1 fun l H2 => th σ H2 fun u H3 => r x l u H3 Q) : tSl r te tl th σ H Q := q
theorem st_noPart {QO : Option Int → Hp → Prop} (q : QO none H) : tNoPart σ H QO := q
theorem st_part {QO : Option Int → Hp → Prop} (q : te σ H fun x H1 => ∃ i, x = .int i ∧ QO (some i) H1) : tPart te σ H QO := q
theorem st_int {P : Int → Prop} (q : P i) : ∃ k, V.int i = .int k ∧ P k := ⟨i, rfl, q⟩
theorem st_slL {lo hi : Option Int} (h : SqL K H a xs) (q : ∀ p, H p = none → Q (.ref p) (upd H p (.lst (cutV xs lo hi)))) : rSlL K (.ref a) lo hi H Q := ⟨a, xs, rfl, h, q⟩
theorem st_inL {n : Bool} (h : SqL K H a xs) (f : flatV x = true) (g : xs.all flatV = true) (q : Q (.bl (if n then !inV x xs else inV x xs)) H) : rIn K n x (.ref a) H Q := ⟨a, xs, rfl, .inl h, f, g, q⟩
theorem st_inT {n : Bool} (h : SqT K H a xs) (f : flatV x = true) (g : xs.all flatV = true) (q : Q (.bl (if n then !inV x xs else inV x xs)) H) : rIn K n x (.ref a) H Q := ⟨a, xs, rfl, .inr h, f, g, q⟩
theorem st_bm {T : String} {r : V → List V → Hp → VK → Prop} {t : TA} (q : te σ H fun x H1 => tyV K T x H1 ∧ t σ H1 fun xs H2 => r x xs H2 Q) : tBM K T r te t σ H Q := q
theorem st_append (h : H a = some (.lst xs)) (l : xs.length < sizeLine) (q : Q .non (upd H a (.lst (xs ++ [v])))) : rAppend (.ref a) [v] H Q := ⟨a, xs, v, rfl, rfl, h, l, q⟩
theorem st_extend {b : Addr} (h : H a = some (.lst xs)) (h' : H b = some (.lst ys)) (l : xs.length + ys.length ≤ sizeLine) (q : Q .non (upd H a (.lst (xs ++ ys)))) : rExtend (.ref a) [.ref b] H Q := ⟨a, b, xs, ys, rfl, rfl, h, h', l, q⟩
theorem st_cat {b : Addr} (h : H a = some (.lst xs)) (h' : H b = some (.lst ys)) (l : xs.length + ys.length ≤ sizeLine) (q : ∀ p, H p = none → Q (.ref p) (upd H p (.lst (xs ++ ys)))) : rCat (.ref a) (.ref b) H Q := ⟨a, b, xs, ys, rfl, rfl, h, h', l, q⟩
theorem st_fld {f : Str} (q : ta σ H fun x H1 => ∃ a C dx fs v, x = .ref a ∧ H1 a = some (.ins C dx fs) ∧ Cls K C ∧ NoAttr K C f ∧ fs.lookup f = some v ∧ Q v H1) : tFld K ta f σ H Q := q
theorem st_ins {f : Str} {C dx : Addr} {fs : List (Str × V)} {P : V → Prop} (h : H a = some (.ins C dx fs)) (hc : Cls K C) (hn : NoAttr K C f) (hl : fs.lookup f = some v) (q : P v) :
    ∃ a' C dx fs v, V.ref a = .ref a' ∧ H a' = some (.ins C dx fs) ∧ Cls K C ∧ NoAttr K C f ∧ fs.lookup f = some v ∧ P v := ⟨a, C, dx, fs, v, rfl, h, hc, hn, hl, q⟩
/-! statements -/
theorem st_seq (q : t { D with nx := u D } σ H) : tSeq t u D σ H := q
theorem st_next (q : D.nx σ H) : tNext D σ H := q
theorem st_ret (q : te σ H D.rt) : tRet te D σ H := q
theorem st_retN (q : D.rt .non H) : tRetN D σ H := q
theorem st_drop (q : te σ H fun _ H1 => D.nx σ H1) : tDrop te D σ H := q
theorem st_if (q : c σ H fun b H1 => if b = true then t D σ H1 else u D σ H1) : tIfS c t u D σ H := q
theorem st_asg {g : TG} (q : te σ H fun x H1 => g x σ H1 D.nx) : tAsg te g D σ H := q
theorem st_gname {n : Nat} {QS : St → Hp → Prop} (q : QS (σ.set n (some v)) H) : gName n v σ H QS := q
theorem st_dput {td ty tv : TE} (q : tv σ H fun v H1 => td σ H1 fun x H2 => ty σ H2 fun y H3 => ∃ a H4, x = .ref a ∧ DPut H3 a y v H4 ∧ D.nx σ H4) : sDPut td ty tv D σ H := q
theorem st_dputK {kvs : List (Key × V)} {k : Int} {P : Hp → Prop} (h : H a = some (.dK kvs)) (l : kvs.length < sizeLine) (q : P (upd H a (.dK (putK kvs (Sum.inl k) v)))) :
    ∃ a' H4, V.ref a = .ref a' ∧ DPut H a' (.int k) v H4 ∧ P H4 := ⟨a, _, rfl, DPut.k (k := Sum.inl k) h l, q⟩
theorem st_dget2 {td ty tx : TE} (q : td σ H fun x H1 => ∃ a, x = .ref a ∧ IsD H1 a ∧ ty σ H1 fun y H2 => tx σ H2 fun z H3 => ∃ o, DGet H3 a y o ∧ Q (o.getD z) H3) : tDGet2 td ty tx σ H Q := q
theorem st_isD {kvs : List (Key × V)} {P : Addr → Prop} (h : H a = some (.dK kvs)) (q : P a) : ∃ a', V.ref a = .ref a' ∧ IsD H a' ∧ P a' := ⟨a, rfl, .inl ⟨kvs, .inl h⟩, q⟩
theorem st_dgetK {kvs : List (Key × V)} {k : Int} {P : Option V → Prop} (h : H a = some (.dK kvs)) (q : P (valV kvs (Sum.inl k))) : ∃ o, DGet H a (.int k) o ∧ P o := ⟨_, DGet.k (k := Sum.inl k) h, q⟩
theorem st_dget {td ty : TE} (q : td σ H fun x H1 => ty σ H1 fun y H2 => ∃ a v, x = .ref a ∧ DGet H2 a y (some v) ∧ Q v H2) : tDGet td ty σ H Q := q
theorem st_dgetV {kvs : List (Key × V)} {k : Int} (h : H a = some (.dK kvs)) (e : valV kvs (Sum.inl k) = some v) (q : Q v H) : ∃ a' v, V.ref a = .ref a' ∧ DGet H a' (.int k) (some v) ∧ Q v H := ⟨a, v, rfl, e ▸ DGet.k (k := Sum.inl k) h, q⟩
theorem st_dsetd {td ty tx : TE} (q : td σ H fun x H1 => ∃ a, x = .ref a ∧ IsD H1 a ∧ ty σ H1 fun y H2 => tx σ H2 fun z H3 => ∃ kvs k, H3 a = some (.dK kvs) ∧ y = kV k ∧ kvs.length < sizeLine ∧
  (∀ v, valV kvs k = some v → Q v H3) ∧ (valV kvs k = none → Q z (upd H3 a (.dK (putK kvs k z))))) : tDSetD td ty tx σ H Q := q
theorem st_sz {n : Nat} {P : Prop} (h : Nat.ble n 1000 = true) (q : P) : n ≤ sizeLine ∧ P := ⟨Nat.le_of_lt (small1000 (Nat.le_of_ble_eq_true h)), q⟩
theorem st_all {P : Addr → Prop} (q : ∀ p, H p = none → P p) : ∀ p, H p = none → P p := q
theorem st_for {wi : TI} {g : TG} {tb : TS} (q : wi σ H fun J H1 => ∃ W : Nat → Nat → St → Hp → Prop, (∃ m, W 0 m σ H1) ∧ ∀ i m σ H, W i m σ H →
  (J.stop i H ∧ D.nx σ H) ∨ (J.go i H ∧ ∃ N : St → Hp → Prop, (∀ σ' H', N σ' H' → ∃ m', m' < m ∧ W (i + 1) m' σ' H') ∧ ∀ x H', J.yld i H x H' → g x σ H' fun σ2 H2 => tb { D with nx := N, ct := N, bk := D.nx } σ2 H2)) : tFor wi g tb D σ H := q
theorem st_iList {R : It → Hp → Prop} (q : te σ H fun x H1 => ∃ a, x = .ref a ∧ (∃ xs, SqL K H1 a xs) ∧ R (Itl K a) H1) : iList K te σ H R := q
theorem st_itl {P : Addr → Prop} (h : SqL K H a xs) (q : P a) : ∃ a', V.ref a = .ref a' ∧ (∃ xs, SqL K H a' xs) ∧ P a' := ⟨a, rfl, ⟨xs, h⟩, q⟩
theorem st_iRng {R : It → Hp → Prop} {t : TA} (q : t σ H fun vs H1 => ∃ j : Int, vs = [.int j] ∧ -(2 ^ 62) ≤ j ∧ j < 2 ^ 62 ∧ R (Itr 0 j.toNat) H1) : iRng1 t σ H R := q
theorem st_itr {P : Int → Prop} {n : Nat} (h : n ≤ 1000000) (q : P (n : Int)) : ∃ j : Int, [V.int (n : Int)] = [.int j] ∧ -(2 ^ 62) ≤ j ∧ j < 2 ^ 62 ∧ P j := ⟨n, rfl, by omega, by omega, q⟩
theorem st_lc {wi : TI} {g : TG} {ti : TT} {pick : List (Option Nat)} (q : wi σ H fun J H1 => ∀ p, H1 p = none → LcInv J g ti te (picked pick σ) H1 Q p) : tLC wi g ti te pick σ H Q := q
theorem st_noIf (q : QB true H) : tNoIf σ H QB := q
theorem st_meth {C : Addr} {m : Str} {sp : Sp} {dvs : List V} {E : XK} {t : TA} (q : ta σ H fun x H1 => ∃ a dx fs, x = .ref a ∧ H1 a = some (.ins C dx fs) ∧ fs.lookup m = none ∧ t σ H1 fun vs H2 => sp (x :: (vs ++ dvs)) H2 Q E) : tMeth C m sp dvs E ta t σ H Q := q
theorem st_insM {C dx : Addr} {fs : List (Str × V)} {m : Str} {P : Prop} (h : H a = some (.ins C dx fs)) (hl : fs.lookup m = none) (q : P) : ∃ a' dx fs, V.ref a = .ref a' ∧ H a' = some (.ins C dx fs) ∧ fs.lookup m = none ∧ P := ⟨a, dx, fs, rfl, h, hl, q⟩
theorem st_sfld {tv : TE} {f : Str} (q : tv σ H fun y H1 => ta σ H1 fun x H2 => ∃ a C dx fs, x = .ref a ∧ H2 a = some (.ins C dx fs) ∧ Cls K C ∧ NoAttr K C f ∧ fs.length < 1000 ∧ D.nx σ (upd H2 a (.ins C dx (putF f y fs)))) : sFld K ta tv f D σ H := q
theorem st_make {C : Addr} {sp : Sp} {dvs : List V} {E : XK} {t : TA} (q : t σ H fun vs H1 => ∀ x dx, H1 x = none → H1 dx = none → dx ≠ x → sp (.ref x :: (vs ++ dvs)) (upd (upd H1 dx (.own x)) x (.ins C dx [])) (fun v H2 => v = .non ∧ Q (.ref x) H2) E) : tMake C sp dvs E t σ H Q := q
/-! facts -/
theorem upd_at {H : Hp} {a b : Addr} {o u : HO} (h : b ≠ a) (e : H b = some u) : upd H a o b = some u := by rw [upd_ne h]; exact e
theorem Same.at {H H' : Hp} {b : Addr} {u : HO} (s : Same H H') (e : H b = some u) : H' b = some u := s b u e
theorem sqL {H : Hp} (h : H a = some (.lst xs)) : SqL K H a xs := .inl (.inl h)
theorem sqLr {H : Hp} (h : Rd H a (.lst xs)) : SqL K H a xs := .inl h
theorem sqT {H : Hp} (h : H a = some (.tup xs)) : SqT K H a xs := .inl (.inl h)
theorem sqTr {H : Hp} (h : Rd H a (.tup xs)) : SqT K H a xs := .inl h
theorem Rd.upd {H : Hp} {a b : Addr} {o u : HO} (h : b ≠ a) (r : Rd H b u) : Rd (L2.upd H a o) b u := r.elim (fun e => .inl (upd_at h e)) fun ⟨q, e⟩ => .inr ⟨q, upd_at h e⟩
theorem Rd.same {H H' : Hp} {b : Addr} {u : HO} (s : Same H H') (r : Rd H b u) : Rd H' b u := r.elim (fun e => .inl (s _ _ e)) fun ⟨q, e⟩ => .inr ⟨q, s _ _ e⟩
theorem Rd.ne_none {H : Hp} {a b : Addr} {u : HO} (r : Rd H a u) (h : H b = none) : a ≠ b := by obtain ⟨o, e⟩ := r.some; exact ne_of_none e h
theorem ne_new {H : Hp} {a b : Addr} {o : HO} (h' : H b = none) (h : H a = some o) : a ≠ b := ne_of_none h h'
theorem ne_newR {H : Hp} {a b : Addr} {u : HO} (h' : H b = none) (r : Rd H a u) : a ≠ b := r.ne_none h'
theorem SqL.new {H : Hp} {o : HO} (hp : H p = none) (h : SqL K H a xs) : SqL K (L2.upd H p o) a xs := (Same.new hp).seq h
theorem Same.put {H0 H : Hp} {o : HO} (s : Same H0 H) (hp : H0 p = none) : Same H0 (L2.upd H p o) := fun b u e => upd_at (ne_of_none e hp) (s b u e)
theorem same_of {H H' : Hp} {o : HO} (hp : H p = none) (e : L2.upd H p o = H') : Same H H' := e ▸ Same.new hp
theorem at_of {H H' : Hp} {o : HO} (e : L2.upd H p o = H') : H' p = some o := e ▸ upd_same
theorem mulR {i j : Int} (h : -(2 ^ 64) < j ∧ j < 2 ^ 64) : CMul i j := .inr h
theorem divR {i j : Int} (h : 0 < j ∧ j < 1073741824) : CDiv i j := h
theorem modR {i j : Int} (h : 0 < j) : (fun (_ j : Int) => 0 < j) i j := h
theorem flat_strs (xs : List Str) : (xs.map V.str).all flatV = true := by rw [List.all_map]; exact List.all_eq_true.mpr fun _ _ => rfl
theorem flat_ints (xs : List Int) : (xs.map V.int).all flatV = true := by rw [List.all_map]; exact List.all_eq_true.mpr fun _ _ => rfl
end
end L2


set_option Elab.async false
set_option linter.all false
set_option maxRecDepth 100000
set_option maxHeartbeats 4000000
/-! oathhall/books.py: what each def is worth, in plain lists, and that it is so -/
namespace Oh
open PySem L2
abbrev Line := Str × Int
def wordsOf (b : List Line) (n : Int) : List Str := (b.filter fun l => decide (l.2 = n)).map (·.1)
def voteIn (b : List Line) (n : Int) : Option Str := (wordsOf b n).find? fun w => decide (w = "open" ∨ w = "yes" ∨ w = "no")
def decisionIn (b : List Line) (n : Int) : Option Str := if ("bound" : Str) ∈ wordsOf b n then some ("bound" : Str) else if ("off" : Str) ∈ wordsOf b n ∨ ("no" : Str) ∈ wordsOf b n then some ("off" : Str) else none
def unsure (b : List Line) (n : Int) : Bool := decide (voteIn b n = some ("yes" : Str)) && decide (decisionIn b n = none)
def leftOpen (b : List Line) : List Int := (b.filter fun l => decide (l.1 = ("open" : Str)) && decide (decisionIn b l.2 = none)).map (·.2)
def canStand (w : Str) (ws : List Str) : Bool :=
  if ws = [] then decide (w = "open" ∨ w = "yes" ∨ w = "no" ∨ w = "off") else decide (ws = ([("open" : Str)]) ∨ ws = ([("yes" : Str)])) && decide (w = "bound" ∨ w = "off")
/-- each line can stand behind those ahead of it -/
def soundFrom (seen : List Line) : List Line → Bool
  | [] => true
  | l :: r => canStand l.1 (wordsOf seen l.2) && soundFrom (seen ++ [l]) r
def sound (b : List Line) : Bool := soundFrom [] b
def lineD (l : Line) : PyData := .tuple [.str l.1, .int l.2]
def bookD (b : List Line) : PyData := .list (b.map lineD)
def optV : Option Str → V
  | none => .non
  | some x => .str x
def OkB (b : List Line) : Prop := ∀ l ∈ b, PyData.strOk l.1 = true

theorem wordsOf_snoc (b : List Line) (l : Line) (n : Int) : wordsOf (b ++ [l]) n = if l.2 = n then wordsOf b n ++ [l.1] else wordsOf b n := by
  unfold wordsOf
  rw [List.filter_append, List.map_append, List.filter_cons, List.filter_nil]
  by_cases e : l.2 = n
  · simp [e]
  · simp [e]
theorem take_snoc {α : Type} {b : List α} {i : Nat} {l : α} (h : b[i]? = some l) : b.take (i + 1) = b.take i ++ [l] := by rw [List.take_add_one, h]; rfl
theorem wordsOf_len (b : List Line) (n : Int) : (wordsOf b n).length ≤ b.length := by
  unfold wordsOf; rw [List.length_map]; exact List.length_filter_le _ _
theorem wordsOf_ok {b : List Line} {n : Int} (ok : OkB b) : ∀ w ∈ wordsOf b n, PyData.strOk w = true := by
  intro w hw
  obtain ⟨l, hl, rfl⟩ := List.mem_map.mp hw
  exact ok l (List.mem_filter.mp hl).1
theorem line_at {H : Hp} {S : List Addr} {b : List Line} {xs : List V} {i : Nat} {x : V} (rs : Reps H S xs (b.map lineD)) (hx : xs[i]? = some x) :
    ∃ l t, b[i]? = some l ∧ x = .ref t ∧ Rd H t (.tup [.str l.1, .int l.2]) := by
  obtain ⟨d, hd, rx⟩ := rs.get hx
  rw [List.getElem?_map] at hd
  cases hb : b[i]? with
  | none => rw [hb] at hd; cases hd
  | some l =>
    rw [hb] at hd
    have e : lineD l = d := Option.some.inj hd
    subst e
    obtain ⟨t, ys, rfl, rt, rs'⟩ := rx.tup_inv
    obtain ⟨y1, r1, rfl, h1, t1⟩ := rs'.cons_inv
    obtain ⟨y2, r2, rfl, h2, t2⟩ := t1.cons_inv
    cases t2.nil_inv
    rw [h1.str_inv, h2.int_inv] at rt
    exact ⟨l, t, rfl, rfl, rt⟩
theorem len_small {n : Nat} (h : n ≤ 1000000) : n < sizeLine := Nat.lt_of_le_of_lt h (by decide)
theorem in_strs (x : Str) (ws : List Str) : inV (.str x) (ws.map .str) = decide (x ∈ ws) := by
  unfold inV
  rw [List.any_map]
  induction ws with
  | nil => rfl
  | cons w r ih =>
    rw [List.any_cons, ih]
    show ((w == x) || decide (x ∈ r)) = decide (x ∈ w :: r)
    by_cases e : x = w
    · subst e; simp
    · have e' : ¬ w = x := fun z => e z.symm
      simp [e, e']

def R_words_of (K : PySem.W.Frag)  : TS :=
    (tRet (tLC (iList K (tVar 0)) (gName 0) (tTest (tOp rEq (tOp (rIxT K) (tVar 0) (tC (.int 1))) (tVar 1))) (tOp (rIxT K) (tVar 0) (tC (.int 0))) [none, some 1]))
def R_knows (K : PySem.W.Frag) (sp_words_of : Sp) : TS :=
    (tRet (tOp rGtI (tCB (rLenQ K) (tCons (tCall sp_words_of [] E0 (tCons (tVar 0) (tCons (tVar 1) tNil))) tNil)) (tC (.int 0))))
def R_vote_in (K : PySem.W.Frag) (sp_words_of : Sp) : TS :=
    (tSeq (tFor (iList K (tCall sp_words_of [] E0 (tCons (tVar 0) (tCons (tVar 1) tNil)))) (gName 2)
    (tIfS (tTest (tOp (rIn K false) (tVar 2) (tTup (tCons (tC (.str "open")) (tCons (tC (.str "yes")) (tCons (tC (.str "no")) tNil))))))
    (tRet (tVar 2))
    tNext))
    (tRet (tC .non)))
def R_decision_in (K : PySem.W.Frag) (sp_words_of : Sp) : TS :=
    (tSeq (tAsg (tCall sp_words_of [] E0 (tCons (tVar 0) (tCons (tVar 1) tNil))) (gName 2))
    (tSeq (tIfS (tTest (tOp (rIn K false) (tC (.str "bound")) (tVar 2)))
    (tRet (tC (.str "bound")))
    tNext)
    (tSeq (tIfS (tOr (tTest (tOp (rIn K false) (tC (.str "off")) (tVar 2))) (tTest (tOp (rIn K false) (tC (.str "no")) (tVar 2))))
    (tRet (tC (.str "off")))
    tNext)
    (tRet (tC .non)))))
def R_is_unsure (K : PySem.W.Frag) (sp_vote_in : Sp) (sp_decision_in : Sp) : TS :=
    (tRet (tAndV (tOp rEq (tCall sp_vote_in [] E0 (tCons (tVar 0) (tCons (tVar 1) tNil))) (tC (.str "yes"))) (tIsN (tCall sp_decision_in [] E0 (tCons (tVar 0) (tCons (tVar 1) tNil))))))
def R_left_open (K : PySem.W.Frag) (sp_decision_in : Sp) : TS :=
    (tRet (tLC (iList K (tVar 0)) (gName 0) (tAnd (tTest (tOp rEq (tOp (rIxT K) (tVar 0) (tC (.int 0))) (tC (.str "open")))) (tB (tIsN (tCall sp_decision_in [] E0 (tCons (tVar 1) (tCons (tOp (rIxT K) (tVar 0) (tC (.int 1))) tNil)))))) (tOp (rIxT K) (tVar 0) (tC (.int 1))) [none, some 0]))
def R_can_stand (K : PySem.W.Frag)  : TS :=
    (tSeq (tIfS (tTest (tOp rEq (tCB (rLenQ K) (tCons (tVar 1) tNil)) (tC (.int 0))))
    (tRet (tOp (rIn K false) (tVar 0) (tTup (tCons (tC (.str "open")) (tCons (tC (.str "yes")) (tCons (tC (.str "no")) (tCons (tC (.str "off")) tNil)))))))
    tNext)
    (tRet (tAndV (tOp (rInD false) (tVar 1) (tTup (tCons (tLst (tCons (tC (.str "open")) tNil)) (tCons (tLst (tCons (tC (.str "yes")) tNil)) tNil)))) (tOp (rIn K false) (tVar 0) (tTup (tCons (tC (.str "bound")) (tCons (tC (.str "off")) tNil)))))))
def R_is_sound (K : PySem.W.Frag) (sp_can_stand : Sp) : TS :=
    (tSeq (tAsg tDNewK (gName 1))
    (tSeq (tFor (iList K (tVar 0)) (gName 2)
    (tSeq (tAsg (tDSetD (tVar 1) (tOp (rIxT K) (tVar 2) (tC (.int 1))) (tLst tNil)) (gName 3))
    (tSeq (tIfS (tNot (tB (tCall sp_can_stand [] E0 (tCons (tOp (rIxT K) (tVar 2) (tC (.int 0))) (tCons (tVar 3) tNil)))))
    (tRet (tC (.bl false)))
    tNext)
    (tDrop (tBM K "list" rAppend (tVar 3) (tCons (tOp (rIxT K) (tVar 2) (tC (.int 0))) tNil))))))
    (tRet (tC (.bl true)))))
local macro_rules | `(tactic| walk_at "ne") => `(tactic| first | assumption | (refine' Ne.symm ?k1; (case k1 => assumption)) | (refine' ne_new ?k1 ?k2; (case k1 => assumption); (case k2 => walk_at "hl")) | (refine' ne_newR ?k1 ?k2; (case k1 => assumption); (case k2 => walk_at "rd")) | (refine' Ne.symm (ne_new ?k1 ?k2); (case k1 => assumption); (case k2 => walk_at "hl")) | (refine' Ne.symm (ne_newR ?k1 ?k2); (case k1 => assumption); (case k2 => walk_at "rd")))
local macro_rules | `(tactic| walk_at "hl") => `(tactic| with_reducible first | assumption | exact upd_same | (refine' upd_at ?k1 ?k2; (case k1 => walk_at "ne"); (case k2 => walk_at "hl")) | (refine' Same.at ?k1 ?k2; (case k1 => assumption); (case k2 => walk_at "hl")))
local macro_rules | `(tactic| walk_at "rd") => `(tactic| with_reducible first | assumption | (refine' Rd.of ?k1; (case k1 => walk_at "hl")) | (refine' Rd.upd ?k1 ?k2; (case k1 => walk_at "ne"); (case k2 => walk_at "rd")) | (refine' Rd.same ?k1 ?k2; (case k1 => assumption); (case k2 => walk_at "rd")))
local macro_rules | `(tactic| walk_at "sq") => `(tactic| with_reducible first | assumption | (refine' sqLr ?k1; (case k1 => walk_at "rd")) | (refine' sqTr ?k1; (case k1 => walk_at "rd")) | (refine' SqL.new ?k1 ?k2; (case k1 => assumption); (case k2 => walk_at "sq")) | (refine' Same.seq ?k1 ?k2; (case k1 => assumption); (case k2 => walk_at "sq")))
local macro_rules | `(tactic| walk_at "rf") => `(tactic| first | with_unfolding_all rfl | assumption)
local macro_rules | `(tactic| walk_at "fl") => `(tactic| first | with_unfolding_all rfl | exact flat_strs _ | exact flat_ints _)
local macro_rules | `(tactic| walk_at "st") => `(tactic| with_reducible first
  | refine st_seq ?_ | refine st_asg ?_ | refine st_gname ?_ | refine st_if ?_ | refine st_ret ?_ | refine st_retN ?_
  | refine st_drop ?_ | refine st_next ?_ | refine st_test ?_ | refine st_B ?_ | refine st_bl ?_ | refine st_int ?_
  | refine st_and ?_ | refine st_or ?_ | refine st_not ?_ | refine st_andV ?_ | refine st_orV ?_ | refine st_notV ?_ | refine st_ifE ?_
  | refine st_chain ?_ | refine st_op ?_ | refine st_un ?_ | refine st_isN ?_ | refine st_notN ?_
  | refine st_nil ?_ | refine st_cons ?_ | refine st_tup ?_ | refine st_lst ?_ | refine st_dnew ?_ | refine st_call ?_ | refine st_cb ?_
  | (refine' st_var ?k1 ?_; (case k1 => walk_at "rf")) | refine st_c ?_
  | refine st_rI0 ?_ | refine st_rU ?_ | (refine' st_rI ?k1 ?_; (case k1 => first | exact mulR (by decide) | exact divR (by decide) | decide | (show (0 : Int) < _; decide)))
  | (refine' st_rEq ?k1 ?_; (case k1 => walk_at "rf")) | (refine' st_rNe ?k1 ?_; (case k1 => walk_at "rf"))
  | (refine' st_ixL ?k1 ?k2 ?_; (case k1 => walk_at "sq"); (case k2 => walk_at "rf")) | (refine' st_ixT ?k1 ?k2 ?_; (case k1 => walk_at "sq"); (case k2 => walk_at "rf"))
  | (refine' st_lenL ?k1 ?_; (case k1 => walk_at "sq")) | (refine' st_lenT ?k1 ?_; (case k1 => walk_at "sq"))
  | (refine' st_inL ?k1 ?k2 ?k3 ?_; (case k1 => walk_at "sq"); (case k2 => walk_at "rf"); (case k3 => walk_at "fl"))
  | (refine' st_inT ?k1 ?k2 ?k3 ?_; (case k1 => walk_at "sq"); (case k2 => walk_at "rf"); (case k3 => walk_at "fl"))
  | (refine' st_listL ?k1 ?_; (case k1 => walk_at "sq")) | refine st_min ?_ | refine st_intB ?_
  | refine st_sl ?_ | refine st_noPart ?_ | refine st_part ?_ | (refine' st_slL ?k1 ?_; (case k1 => walk_at "sq"))
  | refine st_meth ?_ | (refine' st_insM ?k1 ?k2 ?_; (case k1 => walk_at "hl"); (case k2 => walk_at "rf")) | refine st_sfld ?_
  | (refine' st_ins ?k1 ?k2 ?k3 ?k4 ?_; (case k1 => walk_at "hl"); (case k2 => assumption); (case k3 => assumption); (case k4 => walk_at "rf")) | (refine' st_lenD ?k1 ?_; (case k1 => walk_at "hl"))
  | refine st_bm ?_ | refine st_fld ?_ | refine st_dput ?_ | refine st_dget2 ?_ | refine st_dget ?_ | refine st_dsetd ?_
  | refine st_for ?_ | refine st_iList ?_ | (refine' st_itl ?k1 ?_; (case k1 => walk_at "sq")) | refine st_iRng ?_ | refine st_lc ?_ | refine st_noIf ?_
  | (refine' st_sz ?k1 ?_; (case k1 => with_unfolding_all rfl))
  | (refine' st_isD ?k1 ?_; (case k1 => walk_at "hl")) | (refine' st_dgetK ?k1 ?_; (case k1 => walk_at "hl")))
local macro_rules | `(tactic| walk_at "go") => `(tactic| repeat walk_at "st")
local macro_rules | `(tactic| walk_at "new") => `(tactic| ((with_reducible refine st_all ?_); intro p hp; generalize hH : upd _ p _ = H'; have hs := same_of hp hH; have hg := at_of hH; clear hH))
local macro_rules | `(tactic| walk_at "sm") => `(tactic| with_reducible first | assumption | exact Same.refl _ | (refine' Same.trans ?k1 ?k2; (case k2 => assumption); (case k1 => walk_at "sm")))
local macro_rules | `(tactic| walk_at "goA") => `(tactic| repeat (first | walk_at "st" | walk_at "new"))

/-! ### words_of -/
def sp_words_of : Sp := fun vs H Q _ => ∃ a b n, vs = [.ref a, .int n] ∧ Rep H [] (.ref a) (bookD b) ∧ b.length ≤ 1000000 ∧ ∀ p H', H p = none → Same H H' → H' p = some (.lst ((wordsOf b n).map .str)) → Q (.ref p) H'
theorem rd_words_of {K : PySem.W.Frag} {vs : List V} {H : Hp} {Q : VK} {E : XK} (h : sp_words_of vs H Q E) : R_words_of K { nx := fun _ H' => Q .non H', rt := Q } (start ["book", "bargain"] vs) H := by
  obtain ⟨a, b, n, rfl, hb, hl, k⟩ := h
  obtain ⟨_, xs, e, rd, _, rs⟩ := hb.lst_inv
  cases e
  refine ⟨_, rfl, a, rfl, ⟨xs, sqLr rd⟩, fun p hp => ?_⟩
  have hxl : xs.length = b.length := by rw [rs.length, List.length_map]
  refine lc_list (K := K) (a := a) (xs := xs) (fun i ys σ H' => ∃ v, σ = [v, some (.int n)] ∧ H' = upd H p (.lst ys) ∧ ys = (wordsOf (b.take i) n).map .str) ⟨none, rfl, rfl, rfl⟩ ?_ ?_ ?_
  · rintro i ys σ H' hi hp' ⟨v, rfl, rfl, rfl⟩
    walk_at "sq"
  · rintro i x ys σ H' hx hp' ⟨v, rfl, rfl, rfl⟩
    obtain ⟨l, t, hb', rfl, rt⟩ := line_at rs hx
    walk_at "go"
    by_cases e : l.2 = n
    · rw [if_pos (by simp [e])]
      walk_at "go"
      refine ⟨_, upd_same, ?_, _, upd_same, _, rfl, upd_upd, ?_⟩
      · rw [List.length_map]
        exact len_small (Nat.le_trans (wordsOf_len _ _) (Nat.le_trans (by rw [List.length_take]; omega) hl))
      · rw [take_snoc hb', wordsOf_snoc, if_pos e, List.map_append]; rfl
    · rw [if_neg (by simp [e])]
      exact ⟨_, upd_same, _, rfl, rfl, by rw [take_snoc hb', wordsOf_snoc, if_neg e]⟩
  · rintro ys σ H' hp' ⟨v, rfl, rfl, rfl⟩
    refine k p _ hp (Same.new hp) ?_
    rw [upd_same, List.take_of_length_le (by omega)]
/-! ### knows -/
def sp_knows : Sp := fun vs H Q _ => ∃ a b n, vs = [.ref a, .int n] ∧ Rep H [] (.ref a) (bookD b) ∧ b.length ≤ 1000000 ∧ ∀ H', Same H H' → Q (.bl (!decide (wordsOf b n = []))) H'
theorem rd_knows {K : PySem.W.Frag} {vs : List V} {H : Hp} {Q : VK} {E : XK} (h : sp_knows vs H Q E) : R_knows K sp_words_of { nx := fun _ H' => Q .non H', rt := Q } (start ["book", "bargain"] vs) H := by
  obtain ⟨a, b, n, rfl, hb, hl, k⟩ := h
  unfold R_knows
  walk_at "go"
  refine ⟨a, b, n, rfl, hb, hl, fun p H' hp s hp' => ?_⟩
  walk_at "go"
  have e : decide ((0 : Int) < (((wordsOf b n).map V.str).length : Int)) = !decide (wordsOf b n = []) := by
    rw [List.length_map]
    cases wordsOf b n with
    | nil => rfl
    | cons x r => simp
  show Q (.bl (decide ((0 : Int) < (((wordsOf b n).map V.str).length : Int)))) H'
  rw [e]
  exact k H' s
/-! ### vote_in -/
def isVote (w : Str) : Bool := decide (w = "open" ∨ w = "yes" ∨ w = "no")
theorem in_votes (w : Str) : inV (.str w) [.str "open", .str "yes", .str "no"] = isVote w := by
  have := in_strs w ["open", "yes", "no"]
  simp only [List.map_cons, List.map_nil] at this
  rw [this]
  unfold isVote
  simp [List.mem_cons]
theorem find_at {α : Type} {p : α → Bool} {l : List α} {i : Nat} {x : α} (hx : l[i]? = some x) (hp : p x = true) (hn : ∀ y ∈ l.take i, p y = false) : l.find? p = some x := by
  have e : l = l.take i ++ x :: l.drop (i + 1) := by
    have hi : i < l.length := (List.getElem?_eq_some_iff.mp hx).1
    have he : l[i] = x := (List.getElem?_eq_some_iff.mp hx).2
    rw [← he, ← List.drop_eq_getElem_cons hi, List.take_append_drop]
  rw [e, List.find?_append, List.find?_eq_none.mpr (by intro y hy; rw [hn y hy]; simp), List.find?_cons, hp]
  rfl
def sp_vote_in : Sp := fun vs H Q _ => ∃ a b n, vs = [.ref a, .int n] ∧ Rep H [] (.ref a) (bookD b) ∧ b.length ≤ 1000000 ∧ ∀ H', Same H H' → Q (optV (voteIn b n)) H'
theorem rd_vote_in {K : PySem.W.Frag} {vs : List V} {H : Hp} {Q : VK} {E : XK} (h : sp_vote_in vs H Q E) : R_vote_in K sp_words_of { nx := fun _ H' => Q .non H', rt := Q } (start ["book", "bargain", "word"] vs) H := by
  obtain ⟨a, b, n, rfl, hb, hl, k⟩ := h
  unfold R_vote_in
  walk_at "go"
  refine ⟨a, b, n, rfl, hb, hl, fun p H' hp s hp' => ?_⟩
  walk_at "go"
  refine for_list (K := K) (a := p) (xs := (wordsOf b n).map .str) (fun i σ H2 => ∃ v, σ = [some (.ref a), some (.int n), v] ∧ Same H' H2 ∧ ∀ w ∈ (wordsOf b n).take i, isVote w = false) ⟨none, rfl, Same.refl _, by simp⟩ ?_ ?_ ?_
  · rintro i σ H2 hi ⟨v, rfl, s2, hn⟩
    exact sqL (s2 _ _ hp')
  · rintro i x σ H2 hx ⟨v, rfl, s2, hn⟩
    rw [List.getElem?_map] at hx
    cases hw : (wordsOf b n)[i]? with
    | none => rw [hw] at hx; cases hx
    | some w =>
      rw [hw] at hx
      have e : V.str w = x := Option.some.inj hx
      subst e
      walk_at "goA"
      rename_i q hq H3 s3 g3
      show if (if false = true then !inV (.str w) _ else inV (.str w) _) = true then _ else _
      rw [if_neg (by decide : ¬ (false = true)), in_votes]
      cases hv : isVote w with
      | true =>
        refine iteT ?_
        walk_at "go"
        have e : voteIn b n = some w := find_at hw hv hn
        have := k H3 ((s.trans s2).trans s3)
        rw [e] at this
        exact this
      | false =>
        refine iteF ?_
        refine ⟨some (.str w), rfl, s2.trans s3, fun y hy => ?_⟩
        rw [take_snoc hw] at hy
        rcases List.mem_append.mp hy with z | z
        · exact hn y z
        · rw [List.mem_singleton.mp z]; exact hv
  · rintro σ H2 ⟨v, rfl, s2, hn⟩
    walk_at "go"
    have e : voteIn b n = none := List.find?_eq_none.mpr (by
      intro y hy
      have := hn y (by rw [List.length_map, List.take_length]; exact hy)
      unfold isVote at this
      rw [this]; simp)
    have := k H2 (s.trans s2)
    rw [e] at this
    exact this
/-! ### decision_in -/
def sp_decision_in : Sp := fun vs H Q _ => ∃ a b n, vs = [.ref a, .int n] ∧ Rep H [] (.ref a) (bookD b) ∧ b.length ≤ 1000000 ∧ ∀ H', Same H H' → Q (optV (decisionIn b n)) H'
theorem rd_decision_in {K : PySem.W.Frag} {vs : List V} {H : Hp} {Q : VK} {E : XK} (h : sp_decision_in vs H Q E) : R_decision_in K sp_words_of { nx := fun _ H' => Q .non H', rt := Q } (start ["book", "bargain", "words"] vs) H := by
  obtain ⟨a, b, n, rfl, hb, hl, k⟩ := h
  unfold R_decision_in
  walk_at "go"
  refine ⟨a, b, n, rfl, hb, hl, fun p H' hp s hp' => ?_⟩
  have kk := k H' s
  unfold decisionIn at kk
  walk_at "go"
  show if (if false = true then !inV (.str "bound") _ else inV (.str "bound") _) = true then _ else _
  rw [if_neg (by decide : ¬ (false = true)), in_strs]
  by_cases e1 : ("bound" : Str) ∈ wordsOf b n
  · rw [if_pos (by simp [e1])]
    rw [if_pos e1] at kk
    walk_at "go"
    exact kk
  rw [if_neg (by simp [e1])]
  rw [if_neg e1] at kk
  walk_at "go"
  show if (if false = true then !inV (.str "off") _ else inV (.str "off") _) = true then _ else _
  rw [if_neg (by decide : ¬ (false = true)), in_strs]
  by_cases e2 : ("off" : Str) ∈ wordsOf b n
  · rw [if_pos (by simp [e2])]
    rw [if_pos (.inl e2)] at kk
    refine iteT ?_
    walk_at "go"
    exact kk
  rw [if_neg (by simp [e2])]
  walk_at "go"
  show if (if false = true then !inV (.str "no") _ else inV (.str "no") _) = true then _ else _
  rw [if_neg (by decide : ¬ (false = true)), in_strs]
  by_cases e3 : ("no" : Str) ∈ wordsOf b n
  · rw [if_pos (by simp [e3])]
    rw [if_pos (.inr e3)] at kk
    walk_at "go"
    exact kk
  rw [if_neg (by simp [e3])]
  rw [if_neg (by simp [e2, e3])] at kk
  walk_at "go"
  exact kk
/-! ### is_unsure -/
def sp_is_unsure : Sp := fun vs H Q _ => ∃ a b n, vs = [.ref a, .int n] ∧ Rep H [] (.ref a) (bookD b) ∧ b.length ≤ 1000000 ∧ ∀ H', Same H H' → Q (.bl (unsure b n)) H'
theorem optV_scal (o : Option Str) (x : Str) : scal (optV o) (.str x) = true := by cases o <;> rfl
theorem optV_eq (o : Option Str) (x : Str) : decide (optV o = .str x) = decide (o = some x) := by
  cases o with
  | none => simp [optV]
  | some y => simp [optV]
theorem optV_non (o : Option Str) : decide (optV o = .non) = decide (o = none) := by cases o <;> simp [optV]
theorem rd_is_unsure {K : PySem.W.Frag} {vs : List V} {H : Hp} {Q : VK} {E : XK} (h : sp_is_unsure vs H Q E) : R_is_unsure K sp_vote_in sp_decision_in { nx := fun _ H' => Q .non H', rt := Q } (start ["book", "bargain"] vs) H := by
  obtain ⟨a, b, n, rfl, hb, hl, k⟩ := h
  unfold R_is_unsure
  walk_at "go"
  refine ⟨a, b, n, rfl, hb, hl, fun H' s => ?_⟩
  walk_at "go"
  refine st_rEq (optV_scal _ _) ?_
  walk_at "go"
  rw [optV_eq]
  by_cases e : voteIn b n = some ("yes" : Str)
  · rw [if_pos (by simp [e])]
    walk_at "go"
    refine ⟨a, b, n, rfl, hb.same s, hl, fun H2 s2 => ?_⟩
    have := k H2 (s.trans s2)
    unfold unsure at this
    rw [decide_eq_true e, Bool.true_and, ← optV_non] at this
    exact this
  · rw [if_neg (by simp [e])]
    have := k H' s
    unfold unsure at this
    rw [decide_eq_false e, Bool.false_and] at this
    exact this
/-! ### left_open -/
def sp_left_open : Sp := fun vs H Q _ => ∃ a b, vs = [.ref a] ∧ Rep H [] (.ref a) (bookD b) ∧ b.length ≤ 1000000 ∧ ∀ p H', H p = none → Same H H' → H' p = some (.lst ((leftOpen b).map .int)) → Q (.ref p) H'
def openIn (b : List Line) (l : Line) : Bool := decide (l.1 = ("open" : Str)) && decide (decisionIn b l.2 = none)
theorem rd_left_open {K : PySem.W.Frag} {vs : List V} {H : Hp} {Q : VK} {E : XK} (h : sp_left_open vs H Q E) : R_left_open K sp_decision_in { nx := fun _ H' => Q .non H', rt := Q } (start ["book"] vs) H := by
  obtain ⟨a, b, rfl, hb, hl, k⟩ := h
  obtain ⟨_, xs, e, rd, _, rs⟩ := id hb.lst_inv
  cases e
  have hxl : xs.length = b.length := by rw [rs.length, List.length_map]
  refine ⟨_, rfl, a, rfl, ⟨xs, sqLr rd⟩, fun p hp => ?_⟩
  refine lc_list (K := K) (a := a) (xs := xs) (fun i ys σ H' => ∃ v, σ = [v, some (.ref a)] ∧ Same H H' ∧ ys = (((b.take i).filter (openIn b)).map (·.2)).map .int) ⟨none, rfl, Same.new hp, rfl⟩ ?_ ?_ ?_
  · rintro i ys σ H' hi hp' ⟨v, rfl, s, rfl⟩
    exact s.seq (sqLr rd)
  · rintro i x ys σ H' hx hp' ⟨v, rfl, s, rfl⟩
    obtain ⟨l, t, hb', rfl, rt⟩ := line_at rs hx
    walk_at "go"
    have fin : ∀ (c : Bool), openIn b l = c → (if c = true then ((((b.take i).filter (openIn b)).map (·.2)).map V.int) ++ [V.int l.2] else (((b.take i).filter (openIn b)).map (·.2)).map V.int) = (((b.take (i + 1)).filter (openIn b)).map (·.2)).map V.int := by
      intro c hc
      rw [take_snoc hb', List.filter_append, List.filter_cons, hc]
      cases c <;> simp
    by_cases e : l.1 = ("open" : Str)
    · rw [if_pos (by simp [e])]
      walk_at "go"
      refine ⟨a, b, l.2, rfl, hb.same s, hl, fun H2 s2 => ?_⟩
      walk_at "go"
      rw [optV_non]
      have hc : openIn b l = decide (decisionIn b l.2 = none) := by unfold openIn; rw [decide_eq_true e, Bool.true_and]
      have f := fin _ hc
      by_cases e2 : decisionIn b l.2 = none
      · rw [if_pos (by simp [e2])]
        rw [if_pos (by simp [e2])] at f
        walk_at "go"
        refine ⟨_, s2 _ _ hp', ?_, _, upd_same, _, rfl, (s.trans s2).put hp, f⟩
        rw [List.length_map, List.length_map]
        exact len_small (Nat.le_trans (List.length_filter_le _ _) (Nat.le_trans (by rw [List.length_take]; omega) hl))
      · rw [if_neg (by simp [e2])]
        rw [if_neg (by simp [e2])] at f
        exact ⟨_, s2 _ _ hp', _, rfl, s.trans s2, f⟩
    · rw [if_neg (by simp [e])]
      have hc : openIn b l = false := by unfold openIn; rw [decide_eq_false e, Bool.false_and]
      have f := fin _ hc
      rw [if_neg (by decide)] at f
      refine iteF ?_
      exact ⟨_, hp', _, rfl, s, f⟩
  · rintro ys σ H' hp' ⟨v, rfl, s, rfl⟩
    refine k p _ hp s ?_
    rw [List.take_of_length_le (by omega)] at hp'
    exact hp'
end Oh


set_option Elab.async false
set_option linter.all false
set_option maxRecDepth 100000
set_option maxHeartbeats 4000000
namespace Oh
open PySem L2
local macro_rules | `(tactic| walk_at "ne") => `(tactic| first | assumption | (refine' Ne.symm ?k1; (case k1 => assumption)) | (refine' ne_new ?k1 ?k2; (case k1 => assumption); (case k2 => walk_at "hl")) | (refine' ne_newR ?k1 ?k2; (case k1 => assumption); (case k2 => walk_at "rd")) | (refine' Ne.symm (ne_new ?k1 ?k2); (case k1 => assumption); (case k2 => walk_at "hl")) | (refine' Ne.symm (ne_newR ?k1 ?k2); (case k1 => assumption); (case k2 => walk_at "rd")))
local macro_rules | `(tactic| walk_at "hl") => `(tactic| with_reducible first | assumption | exact upd_same | (refine' upd_at ?k1 ?k2; (case k1 => walk_at "ne"); (case k2 => walk_at "hl")) | (refine' Same.at ?k1 ?k2; (case k1 => assumption); (case k2 => walk_at "hl")))
local macro_rules | `(tactic| walk_at "rd") => `(tactic| with_reducible first | assumption | (refine' Rd.of ?k1; (case k1 => walk_at "hl")) | (refine' Rd.upd ?k1 ?k2; (case k1 => walk_at "ne"); (case k2 => walk_at "rd")) | (refine' Rd.same ?k1 ?k2; (case k1 => assumption); (case k2 => walk_at "rd")))
local macro_rules | `(tactic| walk_at "sq") => `(tactic| with_reducible first | assumption | (refine' sqLr ?k1; (case k1 => walk_at "rd")) | (refine' sqTr ?k1; (case k1 => walk_at "rd")) | (refine' SqL.new ?k1 ?k2; (case k1 => assumption); (case k2 => walk_at "sq")) | (refine' Same.seq ?k1 ?k2; (case k1 => assumption); (case k2 => walk_at "sq")))
local macro_rules | `(tactic| walk_at "rf") => `(tactic| first | with_unfolding_all rfl | assumption)
local macro_rules | `(tactic| walk_at "fl") => `(tactic| first | with_unfolding_all rfl | exact flat_strs _ | exact flat_ints _)
local macro_rules | `(tactic| walk_at "st") => `(tactic| with_reducible first
  | refine st_seq ?_ | refine st_asg ?_ | refine st_gname ?_ | refine st_if ?_ | refine st_ret ?_ | refine st_retN ?_
  | refine st_drop ?_ | refine st_next ?_ | refine st_test ?_ | refine st_B ?_ | refine st_bl ?_ | refine st_int ?_
  | refine st_and ?_ | refine st_or ?_ | refine st_not ?_ | refine st_andV ?_ | refine st_orV ?_ | refine st_notV ?_ | refine st_ifE ?_
  | refine st_chain ?_ | refine st_op ?_ | refine st_un ?_ | refine st_isN ?_ | refine st_notN ?_
  | refine st_nil ?_ | refine st_cons ?_ | refine st_tup ?_ | refine st_lst ?_ | refine st_dnew ?_ | refine st_call ?_ | refine st_cb ?_
  | (refine' st_var ?k1 ?_; (case k1 => walk_at "rf")) | refine st_c ?_
  | refine st_rI0 ?_ | refine st_rU ?_ | (refine' st_rI ?k1 ?_; (case k1 => first | exact mulR (by decide) | exact divR (by decide) | decide | (show (0 : Int) < _; decide)))
  | (refine' st_rEq ?k1 ?_; (case k1 => walk_at "rf")) | (refine' st_rNe ?k1 ?_; (case k1 => walk_at "rf"))
  | (refine' st_ixL ?k1 ?k2 ?_; (case k1 => walk_at "sq"); (case k2 => walk_at "rf")) | (refine' st_ixT ?k1 ?k2 ?_; (case k1 => walk_at "sq"); (case k2 => walk_at "rf"))
  | (refine' st_lenL ?k1 ?_; (case k1 => walk_at "sq")) | (refine' st_lenT ?k1 ?_; (case k1 => walk_at "sq"))
  | (refine' st_inL ?k1 ?k2 ?k3 ?_; (case k1 => walk_at "sq"); (case k2 => walk_at "rf"); (case k3 => walk_at "fl"))
  | (refine' st_inT ?k1 ?k2 ?k3 ?_; (case k1 => walk_at "sq"); (case k2 => walk_at "rf"); (case k3 => walk_at "fl"))
  | (refine' st_listL ?k1 ?_; (case k1 => walk_at "sq")) | refine st_min ?_ | refine st_intB ?_
  | refine st_sl ?_ | refine st_noPart ?_ | refine st_part ?_ | (refine' st_slL ?k1 ?_; (case k1 => walk_at "sq"))
  | refine st_meth ?_ | (refine' st_insM ?k1 ?k2 ?_; (case k1 => walk_at "hl"); (case k2 => walk_at "rf")) | refine st_sfld ?_
  | (refine' st_ins ?k1 ?k2 ?k3 ?k4 ?_; (case k1 => walk_at "hl"); (case k2 => assumption); (case k3 => assumption); (case k4 => walk_at "rf")) | (refine' st_lenD ?k1 ?_; (case k1 => walk_at "hl"))
  | refine st_bm ?_ | refine st_fld ?_ | refine st_dput ?_ | refine st_dget2 ?_ | refine st_dget ?_ | refine st_dsetd ?_
  | refine st_for ?_ | refine st_iList ?_ | (refine' st_itl ?k1 ?_; (case k1 => walk_at "sq")) | refine st_iRng ?_ | refine st_lc ?_ | refine st_noIf ?_
  | (refine' st_sz ?k1 ?_; (case k1 => with_unfolding_all rfl))
  | (refine' st_isD ?k1 ?_; (case k1 => walk_at "hl")) | (refine' st_dgetK ?k1 ?_; (case k1 => walk_at "hl")))
local macro_rules | `(tactic| walk_at "go") => `(tactic| repeat walk_at "st")
local macro_rules | `(tactic| walk_at "new") => `(tactic| ((with_reducible refine st_all ?_); intro p hp; generalize hH : upd _ p _ = H'; have hs := same_of hp hH; have hg := at_of hH; clear hH))
local macro_rules | `(tactic| walk_at "sm") => `(tactic| with_reducible first | assumption | exact Same.refl _ | (refine' Same.trans ?k1 ?k2; (case k2 => assumption); (case k1 => walk_at "sm")))
local macro_rules | `(tactic| walk_at "goA") => `(tactic| repeat (first | walk_at "st" | walk_at "new"))
/-! ### can_stand -/
def OkW (ws : List Str) : Prop := ∀ w ∈ ws, PyData.strOk w = true
def listS (ws : List Str) : PyData := .list (ws.map .str)
theorem canLay_strs {ws : List Str} (ok : OkW ws) : PyData.canLayAll0 (ws.map .str) = true := by
  induction ws with
  | nil => rfl
  | cons w r ih =>
    rw [List.map_cons, PyData.canLayAll0, PyData.canLay0, ok w (by simp), Bool.true_and]
    exact ih fun x hx => ok x (List.mem_cons_of_mem _ hx)
theorem depth_strs (ws : List Str) : PyData.depthAll (ws.map .str) ≤ 1 := by
  induction ws with
  | nil => simp [PyData.depthAll]
  | cons w r ih => rw [List.map_cons, PyData.depthAll, PyData.depth]; omega
theorem shaped_strs {ws : List Str} (ok : OkW ws) : SeqAt.shaped (listS ws) = true := by
  unfold SeqAt.shaped listS
  rw [PyData.canLay0, canLay_strs ok, Bool.true_and, PyData.depth]
  have := depth_strs ws
  exact decide_eq_true (by omega)
theorem eqv_strs : ∀ (xs ys : List Str), PyData.eqv (listS xs) (listS ys) = decide (xs = ys) := by
  intro xs ys
  unfold listS
  rw [PyData.eqv]
  induction xs generalizing ys with
  | nil => cases ys <;> simp [PyData.eqvAll]
  | cons x r ih =>
    cases ys with
    | nil => simp [PyData.eqvAll]
    | cons y s =>
      rw [List.map_cons, List.map_cons, PyData.eqvAll, PyData.eqv, ih s]
      by_cases e : x = y
      · subst e; simp
      · simp [e]
theorem rep_strs {H : Hp} {a : Addr} {ws : List Str} (h : Rd H a (.lst (ws.map .str))) : Rep H [] (.ref a) (listS ws) := .lst h (by simp) (reps_strs ws)
theorem in_list (w : Str) (ws : List Str) : decide (w ∈ ws) = ws.any fun x => decide (w = x) := by
  induction ws with
  | nil => rfl
  | cons x r ih => rw [List.any_cons, ← ih]; simp [List.mem_cons]
def sp_can_stand : Sp := fun vs H Q _ => ∃ w a ws, vs = [.str w, .ref a] ∧ Rd H a (.lst (ws.map .str)) ∧ OkW ws ∧ ∀ H', Same H H' → Q (.bl (canStand w ws)) H'
theorem rd_can_stand {K : PySem.W.Frag} {vs : List V} {H : Hp} {Q : VK} {E : XK} (h : sp_can_stand vs H Q E) : R_can_stand K { nx := fun _ H' => Q .non H', rt := Q } (start ["word", "ahead"] vs) H := by
  obtain ⟨w, a, ws, rfl, ha, ok, k⟩ := h
  unfold R_can_stand
  unfold canStand at k
  walk_at "go"
  by_cases e : ws = []
  · subst e
    refine iteT ?_
    simp only [if_true] at k
    walk_at "goA"
    have e1 : inV (.str w) [.str "open", .str "yes", .str "no", .str "off"] = decide (w = "open" ∨ w = "yes" ∨ w = "no" ∨ w = "off") := by
      have := in_strs w ["open", "yes", "no", "off"]
      simp only [List.map_cons, List.map_nil] at this
      rw [this]; simp [List.mem_cons]
    show Q (.bl (if false = true then !inV (.str w) _ else inV (.str w) _)) _
    rw [if_neg (by decide : ¬ (false = true)), e1]
    exact k _ (by walk_at "sm")
  · rw [if_neg (by simpa using e)]
    rw [if_neg e] at k
    walk_at "goA"
    rename_i q1 h1 H1 s1 g1 q2 h2 H2 s2 g2 q3 h3 H3 s3 g3
    have r1 : Rep H3 [] (.ref q3) (.tuple [listS ["open"], listS ["yes"]]) :=
      .tup (by walk_at "rd") (.cons (rep_strs (ws := ["open"]) (by show Rd _ q1 (.lst [.str "open"]); walk_at "rd")) (.cons (rep_strs (ws := ["yes"]) (by show Rd _ q2 (.lst [.str "yes"]); walk_at "rd")) .nil))
    refine ⟨listS ws, [listS ["open"], listS ["yes"]], rep_strs (by walk_at "rd"), .inr r1, by decide +kernel, shaped_strs ok, ?_⟩
    have e2 : ([listS ["open"], listS ["yes"]].any fun e => PyData.eqv e (listS ws)) = decide (ws = ([("open" : Str)]) ∨ ws = ([("yes" : Str)])) := by
      simp only [List.any_cons, List.any_nil, eqv_strs, Bool.or_false]
      by_cases z1 : ws = [("open" : Str)]
      · subst z1; simp
      · by_cases z2 : ws = [("yes" : Str)]
        · subst z2; simp
        · have z1' : ¬ [("open" : Str)] = ws := fun z => z1 z.symm
          have z2' : ¬ [("yes" : Str)] = ws := fun z => z2 z.symm
          simp [z1, z2, z1', z2']
    show ∃ c, V.bl (if false = true then _ else _) = .bl c ∧ _
    rw [if_neg (by decide : ¬ (false = true)), e2]
    walk_at "go"
    by_cases z : ws = ([("open" : Str)]) ∨ ws = ([("yes" : Str)])
    · rw [if_pos (decide_eq_true z)]
      walk_at "goA"
      have e1 : inV (.str w) [.str "bound", .str "off"] = decide (w = "bound" ∨ w = "off") := by
        have := in_strs w ["bound", "off"]
        simp only [List.map_cons, List.map_nil] at this
        rw [this]; simp [List.mem_cons]
      show Q (.bl (if false = true then !inV (.str w) _ else inV (.str w) _)) _
      rw [if_neg (by decide : ¬ (false = true)), e1]
      rw [decide_eq_true z, Bool.true_and] at k
      exact k _ (by walk_at "sm")
    · rw [if_neg (by simpa using z)]
      rw [decide_eq_false z, Bool.false_and] at k
      exact k _ (by walk_at "sm")
/-! ### is_sound -/
structure WTab (H0 H : Hp) (kvs : List (Key × V)) (seen : List Line) : Prop where
  no : ∀ n, valV kvs (Sum.inl n : Key) = none → wordsOf seen n = []
  yes : ∀ n v, valV kvs (Sum.inl n : Key) = some v → ∃ r, v = .ref r ∧ H0 r = none ∧ H r = some (.lst ((wordsOf seen n).map .str))
  inj : ∀ n m r, valV kvs (Sum.inl n : Key) = some (.ref r) → valV kvs (Sum.inl m : Key) = some (.ref r) → n = m
theorem sound_at {b : List Line} {i : Nat} {l : Line} (h : b[i]? = some l) : soundFrom (b.take i) (b.drop i) = (canStand l.1 (wordsOf (b.take i) l.2) && soundFrom (b.take (i + 1)) (b.drop (i + 1))) := by
  have hi : i < b.length := (List.getElem?_eq_some_iff.mp h).1
  have he : b[i] = l := (List.getElem?_eq_some_iff.mp h).2
  rw [List.drop_eq_getElem_cons hi, he, soundFrom, take_snoc h]
def sp_is_sound : Sp := fun vs H Q _ => ∃ a b, vs = [.ref a] ∧ Rep H [] (.ref a) (bookD b) ∧ b.length ≤ 900 ∧ OkB b ∧ ∀ H', Same H H' → Q (.bl (sound b)) H'
theorem rd_is_sound {K : PySem.W.Frag} {vs : List V} {H : Hp} {Q : VK} {E : XK} (h : sp_is_sound vs H Q E) : R_is_sound K sp_can_stand { nx := fun _ H' => Q .non H', rt := Q } (start ["book", "words_so_far", "line", "ahead"] vs) H := by
  obtain ⟨a, b, rfl, hb, hl, ok, k⟩ := h
  obtain ⟨_, xs, e, rd, _, rs⟩ := id hb.lst_inv
  cases e
  have hxl : xs.length = b.length := by rw [rs.length, List.length_map]
  unfold R_is_sound
  walk_at "goA"
  rename_i d hd H1 s1 g1
  refine for_list (K := K) (a := a) (xs := xs) (fun i σ H2 => ∃ v2 v3 kvs, σ = [some (.ref a), some (.ref d), v2, v3] ∧ Same H H2 ∧ H2 d = some (.dK kvs) ∧ kvs.length ≤ i ∧ WTab H H2 kvs (b.take i) ∧ sound b = soundFrom (b.take i) (b.drop i))
    ⟨none, none, [], rfl, s1, g1, Nat.le_refl _, ⟨fun _ _ => rfl, fun _ _ z => (by cases z), fun _ _ _ z => (by cases z)⟩, rfl⟩ ?_ ?_ ?_
  · rintro i σ H2 hi ⟨v2, v3, kvs, rfl, s2, g2, hk, W, hs⟩
    exact s2.seq (sqLr rd)
  · rintro i x σ H2 hx ⟨v2, v3, kvs, rfl, s2, g2, hk, W, hs⟩
    obtain ⟨l, t, hb', rfl, rt⟩ := line_at rs hx
    have hi : i < b.length := (List.getElem?_eq_some_iff.mp hb').1
    have okw : OkW (wordsOf (b.take i) l.2) := wordsOf_ok fun z hz => ok z (List.mem_of_mem_take hz)
    rw [sound_at hb'] at hs
    -- behind setdefault
    have after : ∀ (r : Addr) (H5 : Hp) (kvs5 : List (Key × V)) (D : Ends), D.rt = Q → (∀ (σ' : St) (H' : Hp), (∃ v2 v3 kvs, σ' = [some (.ref a), some (.ref d), v2, v3] ∧ Same H H' ∧ H' d = some (.dK kvs) ∧ kvs.length ≤ i + 1 ∧ WTab H H' kvs (b.take (i + 1)) ∧ sound b = soundFrom (b.take (i + 1)) (b.drop (i + 1))) → D.nx σ' H') →
        Same H H5 → H5 d = some (.dK kvs5) → kvs5.length ≤ i + 1 → WTab H H5 kvs5 (b.take i) → valV kvs5 (Sum.inl l.2 : Key) = some (.ref r) →
        tSeq (tIfS (tNot (tB (tCall sp_can_stand [] E0 (tCons (tOp (rIxT K) (tVar 2) (tC (.int 0))) (tCons (tVar 3) tNil))))) (tRet (tC (.bl false))) tNext)
          (tDrop (tBM K "list" rAppend (tVar 3) (tCons (tOp (rIxT K) (tVar 2) (tC (.int 0))) tNil))) D [some (.ref a), some (.ref d), some (.ref t), some (.ref r)] H5 := by
      intro r H5 kvs5 D hrt hnx s5 g5 hk5 W5 hv5
      obtain ⟨r', er, hr0, gr⟩ := W5.yes _ _ hv5
      cases er
      have rt5 := rt.same s5
      walk_at "go"
      refine ⟨l.1, r, wordsOf (b.take i) l.2, rfl, .inl gr, okw, fun H6 s6 => ?_⟩
      have g6r := s6 _ _ gr
      have rt6 := rt5.same s6
      have hls : ((wordsOf (b.take i) l.2).map V.str).length < sizeLine := by
        rw [List.length_map]
        exact len_small (Nat.le_trans (wordsOf_len _ _) (by rw [List.length_take]; omega))
      walk_at "go"
      cases hc : canStand l.1 (wordsOf (b.take i) l.2) with
      | false =>
        refine iteT ?_
        walk_at "go"
        rw [hc, Bool.false_and] at hs
        rw [hs] at k
        rw [hrt]
        exact k _ (s5.trans s6)
      | true =>
        rw [hc, Bool.true_and] at hs
        refine iteF ?_
        walk_at "go"
        refine ⟨.inl ⟨rfl, _, sqL g6r⟩, ?_⟩
        walk_at "go"
        refine st_append g6r hls ?_
        refine hnx _ _ ⟨_, _, kvs5, rfl, (s5.trans s6).put hr0, upd_at (ne_of (s6 _ _ g5) g6r (by intro z; cases z)) (s6 _ _ g5), hk5, ⟨fun n hn => ?_, fun n v hv => ?_, W5.inj⟩, hs⟩
        · have hne : ¬ l.2 = n := by rintro rfl; rw [hv5] at hn; cases hn
          rw [take_snoc hb', wordsOf_snoc, if_neg hne]
          exact W5.no n hn
        · obtain ⟨r', rfl, hr', gr'⟩ := W5.yes n v hv
          refine ⟨r', rfl, hr', ?_⟩
          rw [take_snoc hb', wordsOf_snoc]
          by_cases hne : l.2 = n
          · subst hne
            rw [hv5] at hv
            cases hv
            rw [if_pos rfl, List.map_append, upd_same]; rfl
          · rw [if_neg hne, upd_ne (by rintro rfl; exact hne (W5.inj _ _ _ hv5 hv))]
            exact s6 _ _ gr'
    have rt2 := rt.same s2
    walk_at "go"
    walk_at "new"
    rename_i p hp H3 s3 g3
    have hp0 : H p = none := s2.free hp
    have g3d := s3 _ _ g2
    refine ⟨kvs, Sum.inl l.2, g3d, rfl, len_small (by omega), fun v hv => ?_, fun hn => ?_⟩
    · obtain ⟨r, rfl, hr0, gr⟩ := W.yes _ _ hv
      walk_at "st"
      refine after r H3 kvs _ rfl (fun σ' H' z => z) (s2.trans s3) g3d (by omega) ⟨W.no, fun n v hv => ?_, W.inj⟩ hv
      obtain ⟨r', e, h1, h2⟩ := W.yes n v hv
      exact ⟨r', e, h1, s3 _ _ h2⟩
    · walk_at "st"
      have nd : p ≠ d := ne_of g3 g3d (by intro z; cases z)
      have hval : ∀ n : Int, valV (putK kvs (Sum.inl l.2 : Key) (V.ref p)) (Sum.inl n : Key) = if n = l.2 then some (.ref p) else valV kvs (Sum.inl n : Key) := fun n => by
        rw [valV_put]
        by_cases e : n = l.2
        · subst e; simp
        · rw [if_neg e, if_neg (by intro z; exact e (Sum.inl.inj z))]
      refine after p _ (putK kvs (Sum.inl l.2 : Key) (V.ref p)) _ rfl (fun σ' H' z => z) ((s2.trans s3).put hd) upd_same (Nat.le_trans (length_putK _ _ _) (by omega)) ⟨fun n hv => ?_, fun n v hv => ?_, fun n m r h1 h2 => ?_⟩ (by rw [hval, if_pos rfl])
      · rw [hval] at hv
        by_cases e : n = l.2
        · rw [if_pos e] at hv; cases hv
        · rw [if_neg e] at hv; exact W.no n hv
      · rw [hval] at hv
        by_cases e : n = l.2
        · rw [if_pos e] at hv
          cases hv
          subst e
          exact ⟨p, rfl, hp0, by rw [upd_ne nd, g3, W.no _ hn]; rfl⟩
        · rw [if_neg e] at hv
          obtain ⟨r', e', h1, h2⟩ := W.yes n v hv
          have h3 := s3 _ _ h2
          exact ⟨r', e', h1, by rw [upd_ne (ne_of h3 g3d (by intro z; cases z))]; exact h3⟩
      · rw [hval] at h1 h2
        have fresh : ∀ q, valV kvs (Sum.inl q : Key) = some (.ref p) → False := fun q hq => by
          obtain ⟨r', e', _, h5⟩ := W.yes q _ hq
          cases e'
          rw [hp] at h5
          cases h5
        by_cases e1 : n = l.2
        · by_cases e2 : m = l.2
          · rw [e1, e2]
          · rw [if_pos e1] at h1; rw [if_neg e2] at h2
            cases h1
            exact (fresh _ h2).elim
        · by_cases e2 : m = l.2
          · rw [if_neg e1] at h1; rw [if_pos e2] at h2
            cases h2
            exact (fresh _ h1).elim
          · rw [if_neg e1] at h1; rw [if_neg e2] at h2
            exact W.inj n m r h1 h2
  · rintro σ H2 ⟨v2, v3, kvs, rfl, s2, g2, hk, W, hs⟩
    walk_at "go"
    rw [hxl, List.drop_length, soundFrom] at hs
    rw [hs] at k
    exact k _ s2
/-! ### data -/
theorem st_eqS {H : Hp} {Q : VK} {a b : Addr} {xs ys : List Str} (h1 : Rd H a (.lst (xs.map .str))) (h2 : Rd H b (.lst (ys.map .str))) (o1 : OkW xs) (o2 : OkW ys) (q : Q (.bl (decide (xs = ys))) H) : rEqD (.ref a) (.ref b) H Q :=
  ⟨listS xs, listS ys, rep_strs h1, rep_strs h2, shaped_strs o1, shaped_strs o2, by rw [eqv_strs]; exact q⟩
theorem canLay_lines {b : List Line} (ok : OkB b) : PyData.canLayAll0 (b.map lineD) = true := by
  induction b with
  | nil => rfl
  | cons l r ih =>
    rw [List.map_cons, PyData.canLayAll0, ih fun z hz => ok z (List.mem_cons_of_mem _ hz)]
    simp [lineD, PyData.canLay0, PyData.canLayAll0, ok l (by simp)]
theorem depth_lines (b : List Line) : PyData.depthAll (b.map lineD) ≤ 3 := by
  induction b with
  | nil => simp [PyData.depthAll]
  | cons l r ih =>
    rw [List.map_cons, PyData.depthAll]
    have : PyData.depth (lineD l) ≤ 3 := by simp [lineD, PyData.depth, PyData.depthAll]
    omega
theorem shaped_book {b : List Line} (ok : OkB b) : SeqAt.shaped (bookD b) = true := by
  unfold SeqAt.shaped bookD
  rw [PyData.canLay0, canLay_lines ok, Bool.true_and, PyData.depth]
  have := depth_lines b
  exact decide_eq_true (by omega)
theorem eqv_book {b : List Line} (ok : OkB b) : PyData.eqv (bookD b) (bookD b) = true := SeqAt.eqv_refl _ (SeqAt.canLay_of_shaped (shaped_book ok))
/-- an item of a table at a place that is in it -/
theorem atI_mem {xs : List V} {r : Int} (h0 : 0 ≤ r) (h1 : r < xs.length) : ∃ v, v ∈ xs ∧ atI xs r = some v := by
  have hlt : r.toNat < xs.length := by omega
  refine ⟨xs[r.toNat], List.getElem_mem hlt, ?_⟩
  have := atI_nat (xs := xs) (j := r.toNat) (v := xs[r.toNat]) (by simp [hlt])
  rwa [Int.toNat_of_nonneg h0] at this
def isWord (w : Str) : Prop := w = "open" ∨ w = "yes" ∨ w = "no" ∨ w = "off" ∨ w = "bound"
theorem isWord.ok {w : Str} (h : isWord w) : PyData.strOk w = true := by rcases h with rfl | rfl | rfl | rfl | rfl <;> decide +kernel
theorem emod_lo (a : Int) {m : Int} (h : 0 < m) : 0 ≤ a % m := Int.emod_nonneg _ (by omega)
theorem cut_take {xs : List V} {i : Nat} (h : i ≤ xs.length) : cutV xs none (some ((0 : Int) + (i : Int))) = xs.take i := by
  unfold cutV
  rw [Int.zero_add, HT.sIx_none, HT.sIx_nat, List.drop_zero, Nat.sub_zero, Nat.min_eq_left h]
theorem any_open_yes (ws : List Str) : ([listS ["open"], listS ["yes"]].any fun e => PyData.eqv e (listS ws)) = decide (ws = ([("open" : Str)]) ∨ ws = ([("yes" : Str)])) := by
  simp only [List.any_cons, List.any_nil, eqv_strs, Bool.or_false]
  by_cases z1 : ws = [("open" : Str)]
  · subst z1; simp
  · by_cases z2 : ws = [("yes" : Str)]
    · subst z2; simp
    · have z1' : ¬ [("open" : Str)] = ws := fun z => z1 z.symm
      have z2' : ¬ [("yes" : Str)] = ws := fun z => z2 z.symm
      simp [z1, z2, z1', z2']
theorem in_bound_off (w : Str) : inV (.str w) [.str "bound", .str "off"] = decide (w = "bound" ∨ w = "off") := by
  have := in_strs w ["bound", "off"]
  simp only [List.map_cons, List.map_nil] at this
  rw [this]; simp [List.mem_cons]
end Oh


set_option Elab.async false
set_option linter.all false
set_option maxRecDepth 100000
set_option maxHeartbeats 4000000
namespace Oh
open PySem L2
def R_House_init (K : PySem.W.Frag) (sp_House_forget : Sp) (C_House : Addr) : TS :=
    (tSeq (sFld K (tVar 0) (tVar 1) "number")
    (tSeq (sFld K (tVar 0) (tLC (iRng1 (tCons (tVar 2) tNil)) (gName 0) (tTest (tOp rNe (tVar 0) (tVar 1))) (tVar 0) [none, some 1]) "others")
    (tSeq (sFld K (tVar 0) (tCB (rListQ K) (tCons (tVar 3) tNil)) "against")
    (tSeq (sFld K (tVar 0) (tLst tNil) "book")
    (tSeq (sFld K (tVar 0) (tC (.bl true)) "awake")
    (tDrop (tMeth C_House "forget" sp_House_forget [] E0 (tVar 0) tNil)))))))
def R_House_forget (K : PySem.W.Frag)  : TS :=
    (tSeq (sFld K (tVar 0) tDNewK "counted")
    (tSeq (sFld K (tVar 0) tDNewK "pages")
    (sFld K (tVar 0) (tC (.int 0)) "lines_read")))
def R_House_begin (K : PySem.W.Frag) (sp_House_write : Sp) (sp_House_to_others : Sp) (C_House : Addr) : TS :=
    (tSeq (tIfS (tTest (tOp (rIn K false) (tVar 1) (tFld K (tVar 0) "against")))
    (tSeq (tDrop (tMeth C_House "write" sp_House_write [] E0 (tVar 0) (tCons (tC (.str "no")) (tCons (tVar 1) tNil))))
    (tRet (tLst tNil)))
    tNext)
    (tSeq (tDrop (tMeth C_House "write" sp_House_write [] E0 (tVar 0) (tCons (tC (.str "open")) (tCons (tVar 1) tNil))))
    (tRet (tMeth C_House "to_others" sp_House_to_others [] E0 (tVar 0) (tCons (tVar 1) (tCons (tC (.str "ask")) tNil))))))
def R_House_got (K : PySem.W.Frag) (sp_House_got_ask : Sp) (sp_House_got_query : Sp) (sp_House_got_vote : Sp) (sp_House_got_decision : Sp) (C_House : Addr) : TS :=
    (tSeq (tAsg (tOp (rIxT K) (tVar 1) (tC (.int 0))) (gName 2))
    (tSeq (tAsg (tOp (rIxT K) (tVar 1) (tC (.int 2))) (gName 3))
    (tSeq (tAsg (tOp (rIxT K) (tVar 1) (tC (.int 3))) (gName 4))
    (tSeq (tIfS (tTest (tOp rEq (tVar 4) (tC (.str "ask"))))
    (tRet (tMeth C_House "got_ask" sp_House_got_ask [] E0 (tVar 0) (tCons (tVar 2) (tCons (tVar 3) tNil))))
    tNext)
    (tSeq (tIfS (tTest (tOp rEq (tVar 4) (tC (.str "query"))))
    (tRet (tMeth C_House "got_query" sp_House_got_query [] E0 (tVar 0) (tCons (tVar 2) (tCons (tVar 3) tNil))))
    tNext)
    (tSeq (tIfS (tTest (tOp (rIn K false) (tVar 4) (tTup (tCons (tC (.str "yes")) (tCons (tC (.str "no")) tNil)))))
    (tRet (tMeth C_House "got_vote" sp_House_got_vote [] E0 (tVar 0) (tCons (tVar 2) (tCons (tVar 3) (tCons (tVar 4) tNil)))))
    tNext)
    (tRet (tMeth C_House "got_decision" sp_House_got_decision [] E0 (tVar 0) (tCons (tVar 3) (tCons (tVar 4) tNil))))))))))
def R_House_query (K : PySem.W.Frag) (sp_is_unsure : Sp) (sp_House_page : Sp) (sp_House_to_others : Sp) (C_House : Addr) : TS :=
    (tSeq (tIfS (tOr (tNot (tB (tFld K (tVar 0) "awake"))) (tNot (tB (tCall sp_is_unsure [] E0 (tCons (tMeth C_House "page" sp_House_page [] E0 (tVar 0) (tCons (tVar 1) tNil)) (tCons (tVar 1) tNil))))))
    (tRet (tLst tNil))
    tNext)
    (tRet (tMeth C_House "to_others" sp_House_to_others [] E0 (tVar 0) (tCons (tVar 1) (tCons (tC (.str "query")) tNil)))))
def R_House_stop (K : PySem.W.Frag) (sp_House_forget : Sp) (C_House : Addr) : TS :=
    (tSeq (sFld K (tVar 0) (tC (.bl false)) "awake")
    (tDrop (tMeth C_House "forget" sp_House_forget [] E0 (tVar 0) tNil)))
def R_House_wake (K : PySem.W.Frag) (sp_left_open : Sp) (sp_House_decide : Sp) (C_House : Addr) : TS :=
    (tSeq (sFld K (tVar 0) (tC (.bl true)) "awake")
    (tSeq (tAsg (tCall sp_left_open [] E0 (tCons (tFld K (tVar 0) "book") tNil)) (gName 1))
    (tSeq (tAsg (tLst tNil) (gName 2))
    (tSeq (tFor (iList K (tVar 1)) (gName 3)
    (tDrop (tBM K "list" rExtend (tVar 2) (tCons (tMeth C_House "decide" sp_House_decide [] E0 (tVar 0) (tCons (tVar 3) (tCons (tC (.str "off")) tNil))) tNil))))
    (tRet (tVar 2))))))
def R_House_is_spent (K : PySem.W.Frag) (sp_House_decision : Sp) (C_House : Addr) : TS :=
    (tSeq (tIfS (tTest (tOp (rIn K true) (tOp (rIxT K) (tVar 1) (tC (.int 3))) (tTup (tCons (tC (.str "no")) (tCons (tC (.str "bound")) (tCons (tC (.str "off")) tNil))))))
    (tRet (tC (.bl false)))
    tNext)
    (tRet (tNotN (tMeth C_House "decision" sp_House_decision [] E0 (tVar 0) (tCons (tOp (rIxT K) (tVar 1) (tC (.int 2))) tNil)))))
def R_House_got_ask (K : PySem.W.Frag) (sp_knows : Sp) (sp_House_page : Sp) (sp_House_write : Sp) (sp_House_decision : Sp) (sp_House_to_one : Sp) (C_House : Addr) : TS :=
    (tCut (tIfS (tNot (tB (tCall sp_knows [] E0 (tCons (tMeth C_House "page" sp_House_page [] E0 (tVar 0) (tCons (tVar 2) tNil)) (tCons (tVar 2) tNil)))))
    (tDrop (tMeth C_House "write" sp_House_write [] E0 (tVar 0) (tCons (tIf (tTest (tOp (rIn K false) (tVar 2) (tFld K (tVar 0) "against"))) (tC (.str "no")) (tC (.str "yes"))) (tCons (tVar 2) tNil))))
    tNext)
    (tSeq (tIfS (tTest (tOp rEq (tMeth C_House "decision" sp_House_decision [] E0 (tVar 0) (tCons (tVar 2) tNil)) (tC (.str "off"))))
    (tRet (tMeth C_House "to_one" sp_House_to_one [] E0 (tVar 0) (tCons (tVar 1) (tCons (tVar 2) (tCons (tC (.str "no")) tNil)))))
    tNext)
    (tRet (tMeth C_House "to_one" sp_House_to_one [] E0 (tVar 0) (tCons (tVar 1) (tCons (tVar 2) (tCons (tC (.str "yes")) tNil)))))))
def R_House_got_vote (K : PySem.W.Frag) (sp_House_decision : Sp) (sp_House_to_one : Sp) (sp_House_decide : Sp) (C_House : Addr) : TS :=
    (tSeq (tAsg (tMeth C_House "decision" sp_House_decision [] E0 (tVar 0) (tCons (tVar 2) tNil)) (gName 4))
    (tSeq (tIfS (tB (tNotN (tVar 4)))
    (tRet (tIf (tTest (tOp rEq (tVar 3) (tC (.str "yes")))) (tMeth C_House "to_one" sp_House_to_one [] E0 (tVar 0) (tCons (tVar 1) (tCons (tVar 2) (tCons (tVar 4) tNil)))) (tLst tNil)))
    tNext)
    (tSeq (tIfS (tTest (tOp rEq (tVar 3) (tC (.str "no"))))
    (tRet (tMeth C_House "decide" sp_House_decide [] E0 (tVar 0) (tCons (tVar 2) (tCons (tC (.str "off")) tNil))))
    tNext)
    (tSeq (tAsg (tDSetD (tFld K (tVar 0) "counted") (tVar 2) tDNewK) (gName 5))
    (tSeq (sDPut (tVar 5) (tVar 1) (tC (.bl true)))
    (tSeq (tIfS (tTest (tOp rLtI (tCB rLenD (tCons (tVar 5) tNil)) (tCB (rLenQ K) (tCons (tFld K (tVar 0) "others") tNil))))
    (tRet (tLst tNil))
    tNext)
    (tRet (tMeth C_House "decide" sp_House_decide [] E0 (tVar 0) (tCons (tVar 2) (tCons (tC (.str "bound")) tNil))))))))))
def R_House_got_decision (K : PySem.W.Frag) (sp_House_decision : Sp) (sp_House_write : Sp) (C_House : Addr) : TS :=
    (tCut (tIfS (tB (tIsN (tMeth C_House "decision" sp_House_decision [] E0 (tVar 0) (tCons (tVar 1) tNil))))
    (tDrop (tMeth C_House "write" sp_House_write [] E0 (tVar 0) (tCons (tVar 2) (tCons (tVar 1) tNil))))
    tNext)
    (tRet (tLst tNil)))
def R_House_got_query (K : PySem.W.Frag) (sp_is_unsure : Sp) (sp_knows : Sp) (sp_House_page : Sp) (sp_House_decision : Sp) (sp_House_to_one : Sp) (sp_House_decide : Sp) (sp_House_write : Sp) (C_House : Addr) : TS :=
    (tSeq (tIfS (tB (tCall sp_is_unsure [] E0 (tCons (tMeth C_House "page" sp_House_page [] E0 (tVar 0) (tCons (tVar 2) tNil)) (tCons (tVar 2) tNil))))
    (tRet (tLst tNil))
    tNext)
    (tSeq (tAsg (tMeth C_House "decision" sp_House_decision [] E0 (tVar 0) (tCons (tVar 2) tNil)) (gName 3))
    (tSeq (tIfS (tB (tNotN (tVar 3)))
    (tRet (tMeth C_House "to_one" sp_House_to_one [] E0 (tVar 0) (tCons (tVar 1) (tCons (tVar 2) (tCons (tVar 3) tNil)))))
    tNext)
    (tSeq (tIfS (tB (tCall sp_knows [] E0 (tCons (tMeth C_House "page" sp_House_page [] E0 (tVar 0) (tCons (tVar 2) tNil)) (tCons (tVar 2) tNil))))
    (tRet (tMeth C_House "decide" sp_House_decide [] E0 (tVar 0) (tCons (tVar 2) (tCons (tC (.str "off")) tNil))))
    tNext)
    (tSeq (tDrop (tMeth C_House "write" sp_House_write [] E0 (tVar 0) (tCons (tC (.str "no")) (tCons (tVar 2) tNil))))
    (tRet (tMeth C_House "to_one" sp_House_to_one [] E0 (tVar 0) (tCons (tVar 1) (tCons (tVar 2) (tCons (tC (.str "off")) tNil))))))))))
def R_House_decide (K : PySem.W.Frag) (sp_House_write : Sp) (sp_House_to_others : Sp) (C_House : Addr) : TS :=
    (tSeq (tDrop (tMeth C_House "write" sp_House_write [] E0 (tVar 0) (tCons (tVar 2) (tCons (tVar 1) tNil))))
    (tRet (tMeth C_House "to_others" sp_House_to_others [] E0 (tVar 0) (tCons (tVar 1) (tCons (tVar 2) tNil)))))
def R_House_decision (K : PySem.W.Frag) (sp_decision_in : Sp) (sp_House_page : Sp) (C_House : Addr) : TS :=
    (tRet (tCall sp_decision_in [] E0 (tCons (tMeth C_House "page" sp_House_page [] E0 (tVar 0) (tCons (tVar 1) tNil)) (tCons (tVar 1) tNil))))
def R_House_page (K : PySem.W.Frag)  : TS :=
    (tSeq (tWhile (tTest (tOp rLtI (tFld K (tVar 0) "lines_read") (tCB (rLenQ K) (tCons (tFld K (tVar 0) "book") tNil))))
    (tSeq (tAsg (tOp (rIxL K) (tFld K (tVar 0) "book") (tFld K (tVar 0) "lines_read")) (gName 2))
    (tSeq (tDrop (tBM K "list" rAppend (tDSetD (tFld K (tVar 0) "pages") (tOp (rIxT K) (tVar 2) (tC (.int 1))) (tLst tNil)) (tCons (tVar 2) tNil)))
    (sFldAug K (tVar 0) (tC (.int 1)) rAdd "lines_read"))))
    (tRet (tDGet2 (tFld K (tVar 0) "pages") (tVar 1) (tLst tNil))))
def R_House_write (K : PySem.W.Frag)  : TS :=
    (tDrop (tBM K "list" rAppend (tFld K (tVar 0) "book") (tCons (tTup (tCons (tVar 1) (tCons (tVar 2) tNil))) tNil)))
def R_House_to_one (K : PySem.W.Frag)  : TS :=
    (tRet (tLst (tCons (tTup (tCons (tFld K (tVar 0) "number") (tCons (tVar 1) (tCons (tVar 2) (tCons (tVar 3) tNil))))) tNil)))
def R_House_to_others (K : PySem.W.Frag)  : TS :=
    (tRet (tLC (iList K (tFld K (tVar 0) "others")) (gName 0) tNoIf (tTup (tCons (tFld K (tVar 3) "number") (tCons (tVar 0) (tCons (tVar 1) (tCons (tVar 2) tNil))))) [none, some 1, some 2, some 0]))
def R_got_all (K : PySem.W.Frag) (sp_House_got : Sp) (C_House : Addr) : TS :=
    (tRet (tLC (iList K (tVar 1)) (gName 0) tNoIf (tMeth C_House "got" sp_House_got [] E0 (tVar 1) (tCons (tVar 0) tNil)) [none, some 0]))
structure HouseTxt (K : PySem.W.Frag) (C : Addr) : Prop where
  cl : Cls K C
  f1 : NoAttr K C "number"
  f2 : NoAttr K C "others"
  f3 : NoAttr K C "against"
  f4 : NoAttr K C "book"
  f5 : NoAttr K C "awake"
  f6 : NoAttr K C "counted"
  f7 : NoAttr K C "pages"
  f8 : NoAttr K C "lines_read"
end Oh


set_option Elab.async false
set_option linter.all false
set_option maxRecDepth 100000
set_option maxHeartbeats 4000000
namespace Oh
open PySem L2
local macro_rules | `(tactic| walk_at "ne") => `(tactic| first | assumption | (refine' Ne.symm ?k1; (case k1 => assumption)) | (refine' ne_new ?k1 ?k2; (case k1 => assumption); (case k2 => walk_at "hl")) | (refine' ne_newR ?k1 ?k2; (case k1 => assumption); (case k2 => walk_at "rd")) | (refine' Ne.symm (ne_new ?k1 ?k2); (case k1 => assumption); (case k2 => walk_at "hl")) | (refine' Ne.symm (ne_newR ?k1 ?k2); (case k1 => assumption); (case k2 => walk_at "rd")))
local macro_rules | `(tactic| walk_at "hl") => `(tactic| with_reducible first | assumption | exact upd_same | (refine' upd_at ?k1 ?k2; (case k1 => walk_at "ne"); (case k2 => walk_at "hl")) | (refine' Same.at ?k1 ?k2; (case k1 => assumption); (case k2 => walk_at "hl")))
local macro_rules | `(tactic| walk_at "rd") => `(tactic| with_reducible first | assumption | (refine' Rd.of ?k1; (case k1 => walk_at "hl")) | (refine' Rd.upd ?k1 ?k2; (case k1 => walk_at "ne"); (case k2 => walk_at "rd")) | (refine' Rd.same ?k1 ?k2; (case k1 => assumption); (case k2 => walk_at "rd")))
local macro_rules | `(tactic| walk_at "sq") => `(tactic| with_reducible first | assumption | (refine' sqLr ?k1; (case k1 => walk_at "rd")) | (refine' sqTr ?k1; (case k1 => walk_at "rd")) | (refine' SqL.new ?k1 ?k2; (case k1 => assumption); (case k2 => walk_at "sq")) | (refine' Same.seq ?k1 ?k2; (case k1 => assumption); (case k2 => walk_at "sq")))
local macro_rules | `(tactic| walk_at "rf") => `(tactic| first | with_unfolding_all rfl | assumption)
local macro_rules | `(tactic| walk_at "fl") => `(tactic| first | with_unfolding_all rfl | exact flat_strs _ | exact flat_ints _)
local macro_rules | `(tactic| walk_at "st") => `(tactic| with_reducible first
  | refine st_seq ?_ | refine st_asg ?_ | refine st_gname ?_ | refine st_if ?_ | refine st_ret ?_ | refine st_retN ?_
  | refine st_drop ?_ | refine st_next ?_ | refine st_test ?_ | refine st_B ?_ | refine st_bl ?_ | refine st_int ?_
  | refine st_and ?_ | refine st_or ?_ | refine st_not ?_ | refine st_andV ?_ | refine st_orV ?_ | refine st_notV ?_ | refine st_ifE ?_
  | refine st_chain ?_ | refine st_op ?_ | refine st_un ?_ | refine st_isN ?_ | refine st_notN ?_
  | refine st_nil ?_ | refine st_cons ?_ | refine st_tup ?_ | refine st_lst ?_ | refine st_dnew ?_ | refine st_call ?_ | refine st_cb ?_
  | (refine' st_var ?k1 ?_; (case k1 => walk_at "rf")) | refine st_c ?_
  | refine st_rI0 ?_ | refine st_rU ?_ | (refine' st_rI ?k1 ?_; (case k1 => first | exact mulR (by decide) | exact divR (by decide) | decide | (show (0 : Int) < _; decide)))
  | (refine' st_rEq ?k1 ?_; (case k1 => walk_at "rf")) | (refine' st_rNe ?k1 ?_; (case k1 => walk_at "rf"))
  | (refine' st_ixL ?k1 ?k2 ?_; (case k1 => walk_at "sq"); (case k2 => walk_at "rf")) | (refine' st_ixT ?k1 ?k2 ?_; (case k1 => walk_at "sq"); (case k2 => walk_at "rf"))
  | (refine' st_lenL ?k1 ?_; (case k1 => walk_at "sq")) | (refine' st_lenT ?k1 ?_; (case k1 => walk_at "sq"))
  | (refine' st_inL ?k1 ?k2 ?k3 ?_; (case k1 => walk_at "sq"); (case k2 => walk_at "rf"); (case k3 => walk_at "fl"))
  | (refine' st_inT ?k1 ?k2 ?k3 ?_; (case k1 => walk_at "sq"); (case k2 => walk_at "rf"); (case k3 => walk_at "fl"))
  | (refine' st_listL ?k1 ?_; (case k1 => walk_at "sq")) | refine st_min ?_ | refine st_intB ?_
  | refine st_sl ?_ | refine st_noPart ?_ | refine st_part ?_ | (refine' st_slL ?k1 ?_; (case k1 => walk_at "sq"))
  | refine st_meth ?_ | (refine' st_insM ?k1 ?k2 ?_; (case k1 => walk_at "hl"); (case k2 => walk_at "rf")) | refine st_sfld ?_
  | (refine' st_ins ?k1 ?k2 ?k3 ?k4 ?_; (case k1 => walk_at "hl"); (case k2 => assumption); (case k3 => assumption); (case k4 => walk_at "rf")) | (refine' st_lenD ?k1 ?_; (case k1 => walk_at "hl"))
  | refine st_bm ?_ | refine st_fld ?_ | refine st_dput ?_ | refine st_dget2 ?_ | refine st_dget ?_ | refine st_dsetd ?_
  | refine st_for ?_ | refine st_iList ?_ | (refine' st_itl ?k1 ?_; (case k1 => walk_at "sq")) | refine st_iRng ?_ | refine st_lc ?_ | refine st_noIf ?_
  | (refine' st_sz ?k1 ?_; (case k1 => with_unfolding_all rfl))
  | (refine' st_isD ?k1 ?_; (case k1 => walk_at "hl")) | (refine' st_dgetK ?k1 ?_; (case k1 => walk_at "hl")))
local macro_rules | `(tactic| walk_at "go") => `(tactic| repeat walk_at "st")
local macro_rules | `(tactic| walk_at "new") => `(tactic| ((with_reducible refine st_all ?_); intro p hp; generalize hH : upd _ p _ = H'; have hs := same_of hp hH; have hg := at_of hH; clear hH))
local macro_rules | `(tactic| walk_at "sm") => `(tactic| with_reducible first | assumption | exact Same.refl _ | (refine' Same.trans ?k1 ?k2; (case k2 => assumption); (case k1 => walk_at "sm")))
local macro_rules | `(tactic| walk_at "goA") => `(tactic| repeat (first | walk_at "st" | walk_at "new"))
/-! ## a house: its state in plain lists, and how it lies -/
structure HS where
  num : Int
  oth : List Int
  agn : List Int
  book : List Line
  up : Bool
  cnt : Int → List Int
abbrev Letter := Int × Int × Int × Str
def letterD (l : Letter) : PyData := .tuple [.int l.1, .int l.2.1, .int l.2.2.1, .str l.2.2.2]
def lettersD (ls : List Letter) : PyData := .list (ls.map letterD)
def HS.wr (h : HS) (w : Str) (n : Int) : HS := { h with book := h.book ++ [(w, n)] }
def HS.toOthers (h : HS) (n : Int) (w : Str) : List Letter := h.oth.map fun k => (h.num, k, n, w)
def HS.begin (h : HS) (n : Int) : HS × List Letter := if n ∈ h.agn then (h.wr "no" n, []) else (h.wr "open" n, h.toOthers n "ask")
def HS.decide (h : HS) (n : Int) (w : Str) : HS × List Letter := (h.wr w n, h.toOthers n w)
def HS.asked (h : HS) (n : Int) : HS := if wordsOf h.book n = [] then h.wr (if n ∈ h.agn then "no" else "yes") n else h
def HS.gotAsk (h : HS) (g n : Int) : HS × List Letter := (h.asked n, [(h.num, g, n, if decisionIn (h.asked n).book n = some ("off" : Str) then "no" else "yes")])
def addG (g : Int) (gs : List Int) : List Int := if g ∈ gs then gs else gs ++ [g]
def HS.count (h : HS) (g n : Int) : HS := { h with cnt := fun m => if m = n then addG g (h.cnt n) else h.cnt m }
def HS.gotVote (h : HS) (g n : Int) (w : Str) : HS × List Letter :=
  match decisionIn h.book n with
  | some d => (h, if w = "yes" then [(h.num, g, n, d)] else [])
  | none => if w = "no" then h.decide n "off" else if (addG g (h.cnt n)).length < h.oth.length then (h.count g n, []) else (h.count g n).decide n "bound"
def HS.gotDecision (h : HS) (n : Int) (w : Str) : HS × List Letter := (if decisionIn h.book n = none then h.wr w n else h, [])
def HS.gotQuery (h : HS) (g n : Int) : HS × List Letter :=
  if unsure h.book n = true then (h, []) else match decisionIn h.book n with
  | some d => (h, [(h.num, g, n, d)])
  | none => if wordsOf h.book n = [] then (h.wr "no" n, [(h.num, g, n, "off")]) else h.decide n "off"
def HS.got (h : HS) (l : Letter) : HS × List Letter :=
  if l.2.2.2 = "ask" then h.gotAsk l.1 l.2.2.1 else if l.2.2.2 = "query" then h.gotQuery l.1 l.2.2.1 else if l.2.2.2 = "yes" ∨ l.2.2.2 = "no" then h.gotVote l.1 l.2.2.1 l.2.2.2 else h.gotDecision l.2.2.1 l.2.2.2
def HS.stop (h : HS) : HS := { h with up := false, cnt := fun _ => [] }
/-- off, one after the other -/
def HS.offAll (h : HS) : List Int → HS × List Letter
  | [] => (h, [])
  | n :: r => let q := (h.decide n "off").1.offAll r; (q.1, (h.decide n "off").2 ++ q.2)
def HS.wake (h : HS) : HS × List Letter := { h with up := true : HS }.offAll (leftOpen h.book)
def HS.gotAll (h : HS) : List Letter → HS × List (List Letter)
  | [] => (h, [])
  | l :: r => let q := (h.got l).1.gotAll r; (q.1, (h.got l).2 :: q.2)

def gv (g : Int) : Key × V := (Sum.inl g, V.bl true)
structure CntAt (H : Hp) (kvs : List (Key × V)) (cnt : Int → List Int) (R : List Addr) (pc pp : Addr) : Prop where
  no : ∀ n, valV kvs (Sum.inl n : Key) = none → cnt n = []
  yes : ∀ n v, valV kvs (Sum.inl n : Key) = some v → ∃ q, v = .ref q ∧ H q = some (.dK ((cnt n).map gv)) ∧ q ∈ R ∧ q ≠ pc ∧ q ≠ pp
  inj : ∀ n m q, valV kvs (Sum.inl n : Key) = some (.ref q) → valV kvs (Sum.inl m : Key) = some (.ref q) → n = m
/-- the lines of a bargain, as a page of the book -/
def pageOf (b : List Line) (n : Int) : List Line := b.filter fun l => decide (l.2 = n)
theorem pageOf_words (b : List Line) (n : Int) : wordsOf (pageOf b n) n = wordsOf b n := by
  unfold wordsOf pageOf
  rw [List.filter_filter]
  simp
theorem pageOf_dec (b : List Line) (n : Int) : decisionIn (pageOf b n) n = decisionIn b n := by unfold decisionIn; rw [pageOf_words]
theorem pageOf_unsure (b : List Line) (n : Int) : unsure (pageOf b n) n = unsure b n := by unfold unsure voteIn; rw [pageOf_dec, pageOf_words]
theorem pageOf_snoc (b : List Line) (l : Line) (n : Int) : pageOf (b ++ [l]) n = if l.2 = n then pageOf b n ++ [l] else pageOf b n := by
  unfold pageOf
  rw [List.filter_append]
  by_cases e : l.2 = n <;> simp [e]
theorem pageOf_len (b : List Line) (n : Int) : (pageOf b n).length ≤ b.length := List.length_filter_le _ _
structure PagAt (H : Hp) (pvs : List (Key × V)) (b : List Line) (R : List Addr) (po pa pk : Addr) : Prop where
  no : ∀ n, valV pvs (Sum.inl n : Key) = none → pageOf b n = []
  yes : ∀ n v, valV pvs (Sum.inl n : Key) = some v → ∃ q xs, v = .ref q ∧ H q = some (.lst xs) ∧ Reps H [] xs ((pageOf b n).map lineD) ∧ q ∈ R ∧ q ≠ po ∧ q ≠ pa ∧ q ≠ pk
  inj : ∀ n m q, valV pvs (Sum.inl n : Key) = some (.ref q) → valV pvs (Sum.inl m : Key) = some (.ref q) → n = m
theorem PagAt.keep {H H' : Hp} {pvs : List (Key × V)} {b : List Line} {R R' : List Addr} {po pa pk : Addr} (P : PagAt H pvs b R po pa pk) (sub : ∀ a ∈ R, a ∈ R') (kp : ∀ q xs, H q = some (.lst xs) → q ∈ R → q ≠ po → q ≠ pa → q ≠ pk → H' q = some (.lst xs))
    (ch : ∀ (b : List Line) xs, Reps H [] xs (b.map lineD) → Reps H' [] xs (b.map lineD)) : PagAt H' pvs b R' po pa pk :=
  ⟨P.no, fun n v hv => by obtain ⟨q, xs, e, h1, h2, h3, h4, h5, h6⟩ := P.yes n v hv; exact ⟨q, xs, e, kp _ _ h1 h3 h4 h5 h6, ch _ _ h2, sub _ h3, h4, h5, h6⟩, P.inj⟩
/-- what a house keeps beside: who was counted, the pages, how far the book was read -/
structure Pg where
  kvs : List (Key × V)
  pp : Addr
  nr : Nat
  pvs : List (Key × V)
def hfs (num : Int) (po pa pk : Addr) (up : Bool) (pc pp : Addr) (nr : Nat) : List (Str × V) := [("number", .int num), ("others", .ref po), ("against", .ref pa), ("book", .ref pk), ("awake", .bl up), ("counted", .ref pc), ("pages", .ref pp), ("lines_read", .int nr)]
/-- a House stands at p; R: all that is its own; N: how much it may hold -/
structure HouseI0 (C : Addr) (H : Hp) (p : Addr) (h : HS) (R : List Addr) (N : Nat) (dx po pa pk pc : Addr) (xs : List V) (z : Pg) : Prop where
  ob : H p = some (.ins C dx (hfs h.num po pa pk h.up pc z.pp z.nr))
  ot : H po = some (.lst (h.oth.map .int))
  ag : H pa = some (.lst (h.agn.map .int))
  bk : H pk = some (.lst xs)
  bs : Reps H [] xs (h.book.map lineD)
  cn : H pc = some (.dK z.kvs)
  ct : CntAt H z.kvs h.cnt R pc z.pp
  pg : H z.pp = some (.dK z.pvs)
  pt : PagAt H z.pvs (h.book.take z.nr) R po pa pk
  n1 : po ≠ pk
  n2 : pa ≠ pk
  n3 : pc ≠ z.pp
  m1 : p ∈ R
  m2 : po ∈ R
  m3 : pa ∈ R
  m4 : pk ∈ R
  m5 : pc ∈ R
  m6 : z.pp ∈ R
  trk : ∀ a ∈ R, ∃ o, H a = some o
  l1 : h.book.length ≤ N
  l2 : z.kvs.length ≤ N
  l3 : ∀ n, (h.cnt n).length ≤ N
  l5 : z.nr ≤ h.book.length
  okb : OkB h.book
structure HouseIn (C : Addr) (H : Hp) (p : Addr) (h : HS) (R : List Addr) (N : Nat) (dx po pa pk pc : Addr) (xs : List V) (z : Pg) : Prop extends HouseI0 C H p h R N dx po pa pk pc xs z where
  l4 : z.pvs.length ≤ z.nr
def HouseAt (C : Addr) (H : Hp) (p : Addr) (h : HS) (R : List Addr) (N : Nat) : Prop := ∃ dx po pa pk pc xs z, HouseIn C H p h R N dx po pa pk pc xs z
structure Move (C p : Addr) (H : Hp) (R : List Addr) (H' : Hp) (h' : HS) (R' : List Addr) (N' : Nat) : Prop where
  at_ : HouseAt C H' p h' R' N'
  chg : Chg R H H'
  gr : Grow R H R'
  sb : ∀ a ∈ R, a ∈ R'
theorem lines_any {H : Hp} {S T : List Addr} : ∀ {b : List Line} {xs : List V}, Reps H S xs (b.map lineD) → Reps H T xs (b.map lineD)
  | [], xs, r => by rw [List.map_nil] at r ⊢; rw [r.nil_inv]; exact .nil
  | l :: b, xs, r => by
    rw [List.map_cons] at r ⊢
    obtain ⟨x, ys, rfl, h, t⟩ := r.cons_inv
    obtain ⟨a, zs, rfl, rt, rs⟩ := h.tup_inv
    obtain ⟨y1, r1, rfl, h1, t1⟩ := rs.cons_inv
    obtain ⟨y2, r2, rfl, h2, t2⟩ := t1.cons_inv
    cases t2.nil_inv
    rw [h1.str_inv, h2.int_inv] at rt
    exact .cons (.tup rt (.cons (.str _) (.cons (.int _) .nil))) (lines_any t)
theorem lines_chg {H H' : Hp} {S T : List Addr} {b : List Line} {xs : List V} (r : Reps H S xs (b.map lineD)) (c : Chg T H H') : Reps H' S xs (b.map lineD) := lines_any ((lines_any (T := T) r).chg c)
theorem Move.trans {C p : Addr} {H H1 H2 : Hp} {R R1 R2 : List Addr} {h1 h2 : HS} {N1 N2 : Nat} (a : Move C p H R H1 h1 R1 N1) (b : Move C p H1 R1 H2 h2 R2 N2) : Move C p H R H2 h2 R2 N2 :=
  ⟨b.at_, a.chg.grow a.gr b.chg, a.gr.trans a.chg b.gr, fun x hx => b.sb x (a.sb x hx)⟩
theorem HouseIn.same {C : Addr} {H H' : Hp} {p : Addr} {h : HS} {R : List Addr} {N : Nat} {dx po pa pk pc : Addr} {xs : List V} {z : Pg} (I : HouseIn C H p h R N dx po pa pk pc xs z) (s : Same H H') : HouseIn C H' p h R N dx po pa pk pc xs z :=
  { I with ob := s _ _ I.ob, ot := s _ _ I.ot, ag := s _ _ I.ag, bk := s _ _ I.bk, bs := I.bs.same s, cn := s _ _ I.cn, pg := s _ _ I.pg,
           ct := ⟨I.ct.no, fun n v hv => (by obtain ⟨q, e, h1, h2⟩ := I.ct.yes n v hv; exact ⟨q, e, s _ _ h1, h2⟩), I.ct.inj⟩,
           pt := I.pt.keep (fun _ h => h) (fun q xs h _ _ _ _ => s _ _ h) fun b xs r => r.same s,
           trk := fun a ha => (by obtain ⟨o, e⟩ := I.trk a ha; exact ⟨o, s _ _ e⟩) }
theorem HouseAt.same {C : Addr} {H H' : Hp} {p : Addr} {h : HS} {R : List Addr} {N : Nat} (I : HouseAt C H p h R N) (s : Same H H') : HouseAt C H' p h R N := by
  obtain ⟨dx, po, pa, pk, pc, xs, kvs, I⟩ := I
  exact ⟨dx, po, pa, pk, pc, xs, kvs, I.same s⟩
theorem HouseAt.move {C : Addr} {H H' : Hp} {p : Addr} {h : HS} {R : List Addr} {N : Nat} (I : HouseAt C H p h R N) (s : Same H H') : Move C p H R H' h R N := ⟨I.same s, .of_same s, .refl _ _, fun _ h => h⟩
theorem HouseIn.more {C : Addr} {H : Hp} {p : Addr} {h : HS} {R : List Addr} {N M : Nat} {dx po pa pk pc : Addr} {xs : List V} {z : Pg} (I : HouseIn C H p h R N dx po pa pk pc xs z) (hN : N ≤ M) : HouseIn C H p h R M dx po pa pk pc xs z :=
  { I with l1 := Nat.le_trans I.l1 hN, l2 := Nat.le_trans I.l2 hN, l3 := fun n => Nat.le_trans (I.l3 n) hN }
theorem HouseAt.more {C : Addr} {H : Hp} {p : Addr} {h : HS} {R : List Addr} {N M : Nat} (I : HouseAt C H p h R N) (hN : N ≤ M) : HouseAt C H p h R M := by
  obtain ⟨dx, po, pa, pk, pc, xs, kvs, I⟩ := I
  exact ⟨dx, po, pa, pk, pc, xs, kvs, I.more hN⟩
theorem Move.more {C p : Addr} {H H' : Hp} {R R' : List Addr} {h' : HS} {N' M : Nat} (m : Move C p H R H' h' R' N') (hN : N' ≤ M) : Move C p H R H' h' R' M := ⟨m.at_.more hN, m.chg, m.gr, m.sb⟩
/-- what another one changes -/
theorem HouseAt.chg {C : Addr} {H H' : Hp} {p : Addr} {h : HS} {R T : List Addr} {N : Nat} (I : HouseAt C H p h R N) (c : Chg T H H') (d : ∀ a ∈ R, ¬ a ∈ T) : HouseAt C H' p h R N := by
  obtain ⟨dx, po, pa, pk, pc, xs, kvs, I⟩ := I
  have kp : ∀ a o, a ∈ R → H a = some o → H' a = some o := fun a o ha e => c.keep a o e (d a ha)
  refine ⟨dx, po, pa, pk, pc, xs, kvs, { I with ob := kp _ _ I.m1 I.ob, ot := kp _ _ I.m2 I.ot, ag := kp _ _ I.m3 I.ag, bk := kp _ _ I.m4 I.bk, bs := (lines_chg I.bs c), cn := kp _ _ I.m5 I.cn, pg := kp _ _ I.m6 I.pg, ct := ⟨I.ct.no, fun n v hv => (by obtain ⟨q, e, h1, h2, h3⟩ := I.ct.yes n v hv; exact ⟨q, e, kp _ _ h2 h1, h2, h3⟩), I.ct.inj⟩, pt := (I.pt.keep (fun _ h => h) (fun q xs h m _ _ _ => kp _ _ m h) (fun b xs r => lines_chg r c)), trk := (fun a ha => (by obtain ⟨o, e⟩ := I.trk a ha; exact ⟨o, kp _ _ ha e⟩)) }⟩
/-- an own object is changed and stays tracked -/
theorem trk_upd {H : Hp} {R : List Addr} {a : Addr} {o : HO} (t : ∀ a ∈ R, ∃ o, H a = some o) : ∀ b ∈ R, ∃ u, upd H a o b = some u := fun b hb => by
  by_cases e : b = a
  · subst e; exact ⟨o, upd_same⟩
  · rw [upd_ne e]; exact t b hb

/-! ### write, to_one, to_others, decide -/
def sp_House_write (C : Addr) : Sp := fun vs H Q _ => ∃ p w n h R N, vs = [.ref p, .str w, .int n] ∧ HouseAt C H p h R N ∧ N ≤ 900000 ∧ PyData.strOk w = true ∧ ∀ H', Move C p H R H' (h.wr w n) R (N + 1) → Q .non H'
theorem rd_House_write {K : PySem.W.Frag} {C : Addr} {vs : List V} {H : Hp} {Q : VK} {E : XK} (T : HouseTxt K C) (h : sp_House_write C vs H Q E) : R_House_write K { nx := fun _ H' => Q .non H', rt := Q } (start ["self", "word", "bargain"] vs) H := by
  obtain ⟨p, w, n, h, R, N, rfl, ⟨dx, po, pa, pk, pc, xs, kvs, I⟩, hN, okw, k⟩ := h
  obtain ⟨cl, f1, f2, f3, f4, f5, f6, f7, f8⟩ := T
  obtain ⟨⟨ob, ot, ag, bk, bs, cn, ct, pg, pt, n1, n2, n3, m1, m2, m3, m4, m5, m6, trk, l1, l2, l3, l5, okb⟩, l4⟩ := id I
  have hxl : xs.length = h.book.length := by rw [bs.length, List.length_map]
  unfold R_House_write
  walk_at "go"
  refine ⟨.inl ⟨rfl, _, sqL bk⟩, ?_⟩
  walk_at "goA"
  rename_i t ht H1 s1 g1
  have bk1 := s1 _ _ bk
  refine st_append bk1 (len_small (by omega)) ?_
  have ntk : t ≠ pk := ne_of g1 bk1 (by intro z; cases z)
  have kp : ∀ a o, a ≠ pk → H1 a = some o → upd H1 pk (.lst (xs ++ [.ref t])) a = some o := fun a o e z => upd_at e z
  have cB : Chg R H1 (upd H1 pk (.lst (xs ++ [.ref t]))) := .set (by rw [bk1]; exact True.intro) m4
  refine k _ ⟨⟨dx, po, pa, pk, pc, xs ++ [.ref t], kvs, ?_⟩, (Chg.of_same s1).trans cB, .refl _ _, fun _ h => h⟩
  exact { ob := kp _ _ (ne_of (s1 _ _ ob) bk1 (by intro z; cases z)) (s1 _ _ ob), ot := kp _ _ n1 (s1 _ _ ot), ag := kp _ _ n2 (s1 _ _ ag), bk := upd_same,
          bs := (by
            show Reps _ [] _ ((h.book ++ [(w, n)]).map lineD)
            rw [List.map_append]
            exact (lines_chg (bs.same s1) cB).snoc (.tup (.inl (kp _ _ ntk g1)) (.cons (.str _) (.cons (.int _) .nil)))),
          cn := kp _ _ (ne_of (s1 _ _ cn) bk1 (by intro z; cases z)) (s1 _ _ cn), pg := kp _ _ (ne_of (s1 _ _ pg) bk1 (by intro z; cases z)) (s1 _ _ pg),
          ct := ⟨ct.no, fun n v hv => (by obtain ⟨q, e, h1, h2⟩ := ct.yes n v hv; exact ⟨q, e, kp _ _ (ne_of (s1 _ _ h1) bk1 (by intro z; cases z)) (s1 _ _ h1), h2⟩), ct.inj⟩,
          pt := (by
            show PagAt _ _ ((h.book ++ [(w, n)]).take kvs.nr) _ _ _ _
            rw [List.take_append_of_le_length l5]
            exact pt.keep (fun _ h => h) (fun q xs hq _ _ _ nk => kp _ _ nk (s1 _ _ hq)) fun b xs r => lines_chg (r.same s1) cB),
          n1 := n1, n2 := n2, n3 := n3, m1 := m1, m2 := m2, m3 := m3, m4 := m4, m5 := m5, m6 := m6,
          trk := trk_upd fun a ha => (by obtain ⟨o, e⟩ := trk a ha; exact ⟨o, s1 _ _ e⟩),
          l1 := (by show (h.book ++ [(w, n)]).length ≤ N + 1; rw [List.length_append]; show h.book.length + 1 ≤ N + 1; omega), l2 := (by omega), l3 := fun n => Nat.le_succ_of_le (l3 n),
          l4 := l4, l5 := (by show kvs.nr ≤ (h.book ++ [(w, n)]).length; rw [List.length_append]; omega),
          okb := by
            intro l hl
            rcases List.mem_append.mp hl with z | z
            · exact okb l z
            · rw [List.mem_singleton.mp z]; exact okw }
theorem notin_new {H : Hp} {R : List Addr} {l : Addr} (t : ∀ a ∈ R, ∃ o, H a = some o) (hl : H l = none) : ¬ l ∈ R := fun m => by obtain ⟨o, e⟩ := t l m; rw [hl] at e; cases e
theorem letters_any {H : Hp} {S T : List Addr} : ∀ {b : List Letter} {xs : List V}, Reps H S xs (b.map letterD) → Reps H T xs (b.map letterD)
  | [], xs, r => by rw [List.map_nil] at r ⊢; rw [r.nil_inv]; exact .nil
  | l :: b, xs, r => by
    rw [List.map_cons] at r ⊢
    obtain ⟨x, ys, rfl, h, t⟩ := r.cons_inv
    obtain ⟨a, zs, rfl, rt, rs⟩ := h.tup_inv
    obtain ⟨y1, r1, rfl, h1, t1⟩ := rs.cons_inv
    obtain ⟨y2, r2, rfl, h2, t2⟩ := t1.cons_inv
    obtain ⟨y3, r3, rfl, h3, t3⟩ := t2.cons_inv
    obtain ⟨y4, r4, rfl, h4, t4⟩ := t3.cons_inv
    cases t4.nil_inv
    rw [h1.int_inv, h2.int_inv, h3.int_inv, h4.str_inv] at rt
    exact .cons (.tup rt (.cons (.int _) (.cons (.int _) (.cons (.int _) (.cons (.str _) .nil))))) (letters_any t)
theorem letters_chg {H H' : Hp} {S T : List Addr} {b : List Letter} {xs : List V} (r : Reps H S xs (b.map letterD)) (c : Chg T H H') : Reps H' S xs (b.map letterD) := letters_any ((letters_any (T := T) r).chg c)
theorem rep_letter {H : Hp} {S : List Addr} {t : Addr} {a b c : Int} {w : Str} (g : Rd H t (.tup [.int a, .int b, .int c, .str w])) : Rep H S (.ref t) (letterD (a, b, c, w)) := .tup g (.cons (.int _) (.cons (.int _) (.cons (.int _) (.cons (.str _) .nil))))
def Fresh (H : Hp) (v : V) : Prop := ∀ l, v = .ref l → H l = none
theorem Fresh.back {H H1 : Hp} {v : V} (f : Fresh H1 v) (s : Same H H1) : Fresh H v := fun l e => s.free (f l e)
theorem Move.free {C p : Addr} {H H' : Hp} {R R' : List Addr} {h' : HS} {N' : Nat} (m : Move C p H R H' h' R' N') {b : Addr} (hb : H' b = none) : H b = none := by
  cases e : H b with
  | none => rfl
  | some o =>
    by_cases y : b ∈ R
    · obtain ⟨dx, po, pa, pk, pc, xs, kvs, I⟩ := m.at_
      obtain ⟨o', e'⟩ := I.trk b (m.sb b y)
      rw [hb] at e'; cases e'
    · rw [m.chg.keep b o e y] at hb; cases hb
/-- a new list of letters -/
def LL (H : Hp) (R : List Addr) (v : V) (ls : List Letter) : Prop := ∃ l ys, v = .ref l ∧ H l = some (.lst ys) ∧ ¬ l ∈ R ∧ Reps H R ys (ls.map letterD)
theorem LL.rep {H : Hp} {R : List Addr} {v : V} {ls : List Letter} (h : LL H R v ls) : Rep H R v (lettersD ls) := by
  obtain ⟨l, ys, rfl, g, n, r⟩ := h
  exact .lst (.inl g) n r
def sp_House_to_one (C : Addr) : Sp := fun vs H Q _ => ∃ p o n w h R N, vs = [.ref p, .int o, .int n, .str w] ∧ HouseAt C H p h R N ∧ ∀ v H', Same H H' → LL H' R v [(h.num, o, n, w)] → Fresh H v → Q v H'
theorem rd_House_to_one {K : PySem.W.Frag} {C : Addr} {vs : List V} {H : Hp} {Q : VK} {E : XK} (T : HouseTxt K C) (h : sp_House_to_one C vs H Q E) : R_House_to_one K { nx := fun _ H' => Q .non H', rt := Q } (start ["self", "other", "bargain", "word"] vs) H := by
  obtain ⟨p, o, n, w, h, R, N, rfl, ⟨dx, po, pa, pk, pc, xs, kvs, I⟩, k⟩ := h
  obtain ⟨cl, f1, f2, f3, f4, f5, f6, f7, f8⟩ := T
  have ob := I.ob
  unfold R_House_to_one
  walk_at "goA"
  rename_i t ht H1 s1 g1 l hl H2 s2 g2
  refine k _ _ (s1.trans s2) ⟨_, _, rfl, g2, notin_new (fun a ha => ?_) hl, .cons (rep_letter (.inl (s2 _ _ g1))) .nil⟩ (by rintro _ ⟨⟩; exact s1.free hl)
  obtain ⟨o, e⟩ := I.trk a ha
  exact ⟨o, s1 _ _ e⟩
def sp_House_to_others (C : Addr) : Sp := fun vs H Q _ => ∃ p n w h R N, vs = [.ref p, .int n, .str w] ∧ HouseAt C H p h R N ∧ h.oth.length ≤ 900000 ∧ ∀ v H', Same H H' → LL H' R v (h.toOthers n w) → Fresh H v → Q v H'
theorem rd_House_to_others {K : PySem.W.Frag} {C : Addr} {vs : List V} {H : Hp} {Q : VK} {E : XK} (T : HouseTxt K C) (h : sp_House_to_others C vs H Q E) : R_House_to_others K { nx := fun _ H' => Q .non H', rt := Q } (start ["self", "bargain", "word"] vs) H := by
  obtain ⟨p, n, w, h, R, N, rfl, ⟨dx, po, pa, pk, pc, xs, kvs, I⟩, hol, k⟩ := h
  obtain ⟨cl, f1, f2, f3, f4, f5, f6, f7, f8⟩ := T
  have ob := I.ob
  have ot := I.ot
  unfold R_House_to_others
  walk_at "go"
  intro q hq
  refine lc_list (K := K) (a := po) (xs := h.oth.map .int) (fun i ys σ H' => ∃ v, σ = [v, some (.int n), some (.str w), some (.ref p)] ∧ Same H H' ∧ Reps H' [] ys ((((h.oth.take i).map fun k => (h.num, k, n, w)) : List Letter).map letterD)) ⟨none, rfl, Same.new hq, .nil⟩ ?_ ?_ ?_
  · rintro i ys σ H' hi hq' ⟨v, rfl, s, rs⟩
    exact sqL (s _ _ ot)
  · rintro i x ys σ H1 hx hq' ⟨v, rfl, s, rs⟩
    rw [List.getElem?_map] at hx
    cases hk : h.oth[i]? with
    | none => rw [hk] at hx; cases hx
    | some z =>
      rw [hk] at hx
      have e : V.int z = x := Option.some.inj hx
      subst e
      have hi : i < h.oth.length := (List.getElem?_eq_some_iff.mp hk).1
      have ob1 := s _ _ ob
      walk_at "go"
      rw [if_pos rfl]
      walk_at "goA"
      rename_i t ht H2 s2 g2
      have hyl : ys.length = i := by rw [rs.length, List.length_map, List.length_map, List.length_take]; omega
      refine ⟨ys, s2 _ _ hq', len_small (by omega), ys ++ [.ref t], upd_same, _, rfl, (s.trans s2).put hq, ?_⟩
      rw [take_snoc hk, List.map_append, List.map_append]
      have c : Chg [q] H2 (upd H2 q (.lst (ys ++ [.ref t]))) := .set (by rw [s2 _ _ hq']; exact True.intro) (by simp)
      have ntq : t ≠ q := ne_of g2 (s2 _ _ hq') (by intro z; cases z)
      exact (letters_chg (rs.same s2) c).snoc (rep_letter (.inl (upd_at ntq g2)))
  · rintro ys σ H1 hq' ⟨v, rfl, s, rs⟩
    refine k _ _ s ⟨_, _, rfl, hq', notin_new I.trk hq, ?_⟩ (by rintro _ ⟨⟩; exact hq)
    rw [List.length_map, List.take_length] at rs
    exact letters_any rs
/-- what comes of a deed of a house: letters -/
def Ret (C p : Addr) (H : Hp) (R : List Addr) (N : Nat) (r : HS × List Letter) (Q : VK) : Prop := ∀ v H' R', Move C p H R H' r.1 R' N → LL H' R' v r.2 → Fresh H v → Q v H'
theorem Ret.after {C p : Addr} {H H1 : Hp} {R R1 : List Addr} {N N1 : Nat} {h1 : HS} {r : HS × List Letter} {Q : VK} (k : Ret C p H R N r Q) (m : Move C p H R H1 h1 R1 N1) : Ret C p H1 R1 N r Q := fun v H' R' m' l f => k v H' R' (m.trans m') l fun a e => m.free (f a e)
theorem Ret.same {C p : Addr} {H H1 : Hp} {R : List Addr} {N : Nat} {r : HS × List Letter} {Q : VK} {h : HS} {M : Nat} (k : Ret C p H R N r Q) (I : HouseAt C H p h R M) (s : Same H H1) : Ret C p H1 R N r Q := k.after (I.move s)
/-- the end: nothing more is done -/
theorem Ret.done {C p : Addr} {H H' : Hp} {R : List Addr} {N M : Nat} {h : HS} {ls : List Letter} {Q : VK} {v : V} (k : Ret C p H R N (h, ls) Q) (I : HouseAt C H p h R M) (hM : M ≤ N) (s : Same H H') (r : LL H' R v ls) (f : Fresh H v) : Q v H' := k v H' R ((I.move s).more hM) r f
theorem Ret.nil {C p : Addr} {H H' : Hp} {R : List Addr} {N M : Nat} {h : HS} {Q : VK} {l : Addr} (k : Ret C p H R N (h, []) Q) (I : HouseAt C H p h R M) (hM : M ≤ N) (s : Same H H') (hl : H l = none) (g : H' l = some (.lst [])) : Q (.ref l) H' :=
  k.done I hM s ⟨_, _, rfl, g, notin_new (by obtain ⟨dx, po, pa, pk, pc, xs, kvs, I⟩ := I; exact I.trk) hl, .nil⟩ (by rintro _ ⟨⟩; exact hl)
def sp_House_decide (C : Addr) : Sp := fun vs H Q _ => ∃ p n w h R N, vs = [.ref p, .int n, .str w] ∧ HouseAt C H p h R N ∧ N ≤ 800000 ∧ h.oth.length ≤ 900000 ∧ PyData.strOk w = true ∧ Ret C p H R (N + 1) (h.decide n w) Q
theorem rd_House_decide {K : PySem.W.Frag} {C : Addr} {vs : List V} {H : Hp} {Q : VK} {E : XK} (T : HouseTxt K C) (h : sp_House_decide C vs H Q E) : R_House_decide K (sp_House_write C) (sp_House_to_others C) C { nx := fun _ H' => Q .non H', rt := Q } (start ["self", "bargain", "word"] vs) H := by
  obtain ⟨p, n, w, h, R, N, rfl, I, hN, hol, okw, k⟩ := h
  obtain ⟨dx, po, pa, pk, pc, xs, kvs, I0⟩ := id I
  have ob := I0.ob
  unfold R_House_decide
  walk_at "go"
  refine ⟨p, w, n, h, R, N, rfl, I, by omega, okw, fun H1 m => ?_⟩
  obtain ⟨dx1, po1, pa1, pk1, pc1, xs1, kvs1, I1⟩ := id m.at_
  have ob1 := I1.ob
  walk_at "go"
  refine ⟨p, n, w, h.wr w n, R, N + 1, rfl, m.at_, hol, fun v H2 s2 r f => ?_⟩
  exact (k.after m).done m.at_ (Nat.le_refl _) s2 r f
theorem okS {w : Str} (h : w ∈ ([("ask" : Str), "yes", "no", "bound", "off", "query", "open"] : List Str)) : PyData.strOk w = true := by
  simp only [List.mem_cons, List.not_mem_nil, or_false] at h
  rcases h with rfl | rfl | rfl | rfl | rfl | rfl | rfl <;> decide +kernel
theorem in_ints (x : Int) (ws : List Int) : inV (.int x) (ws.map .int) = decide (x ∈ ws) := by
  unfold inV
  rw [List.any_map]
  induction ws with
  | nil => rfl
  | cons w r ih =>
    rw [List.any_cons, ih]
    show ((w == x) || decide (x ∈ r)) = decide (x ∈ w :: r)
    by_cases e : x = w
    · subst e; simp
    · have e' : ¬ w = x := fun z => e z.symm
      simp [e, e']
/-! ### begin -/
def sp_House_begin (C : Addr) : Sp := fun vs H Q _ => ∃ p n h R N, vs = [.ref p, .int n] ∧ HouseAt C H p h R N ∧ N ≤ 800000 ∧ h.oth.length ≤ 900000 ∧ Ret C p H R (N + 1) (h.begin n) Q
theorem rd_House_begin {K : PySem.W.Frag} {C : Addr} {vs : List V} {H : Hp} {Q : VK} {E : XK} (T : HouseTxt K C) (h : sp_House_begin C vs H Q E) : R_House_begin K (sp_House_write C) (sp_House_to_others C) C { nx := fun _ H' => Q .non H', rt := Q } (start ["self", "bargain"] vs) H := by
  obtain ⟨p, n, h, R, N, rfl, I, hN, hol, k⟩ := h
  obtain ⟨cl, f1, f2, f3, f4, f5, f6, f7, f8⟩ := T
  obtain ⟨dx, po, pa, pk, pc, xs, kvs, I0⟩ := id I
  have ob := I0.ob
  have ag := I0.ag
  unfold R_House_begin
  walk_at "go"
  show if (if false = true then _ else inV (.int n) _) = true then _ else _
  rw [if_neg (by decide : ¬ (false = true)), in_ints]
  unfold HS.begin at k
  by_cases e : n ∈ h.agn
  · rw [if_pos (decide_eq_true e)]
    rw [if_pos e] at k
    walk_at "go"
    refine ⟨p, "no", n, h, R, N, rfl, I, by omega, okS (by simp), fun H1 m => ?_⟩
    walk_at "goA"
    rename_i l hl H2 s2 g2
    exact (k.after m).nil m.at_ (Nat.le_refl _) s2 hl g2
  · rw [if_neg (by simpa using e)]
    rw [if_neg e] at k
    walk_at "go"
    refine ⟨p, "open", n, h, R, N, rfl, I, by omega, okS (by simp), fun H1 m => ?_⟩
    obtain ⟨dx1, po1, pa1, pk1, pc1, xs1, kvs1, I1⟩ := id m.at_
    have ob1 := I1.ob
    walk_at "go"
    refine ⟨p, n, "ask", h.wr "open" n, R, N + 1, rfl, m.at_, hol, fun v H2 s2 r f => ?_⟩
    exact (k.after m).done m.at_ (Nat.le_refl _) s2 r f
theorem HouseIn.rep {C : Addr} {H : Hp} {p : Addr} {h : HS} {R : List Addr} {N : Nat} {dx po pa pk pc : Addr} {xs : List V} {kvs : Pg} (I : HouseIn C H p h R N dx po pa pk pc xs kvs) : Rep H [] (.ref pk) (bookD h.book) := .lst (.inl I.bk) (by simp) I.bs
/-! ### page, decision -/
theorem hfs_read (num : Int) (po pa pk : Addr) (u : Bool) (pc pp : Addr) (nr m : Nat) : putF "lines_read" (.int m) (hfs num po pa pk u pc pp nr) = hfs num po pa pk u pc pp m := by with_unfolding_all rfl
def sp_House_page (C : Addr) : Sp := fun vs H Q _ => ∃ p n h R N, vs = [.ref p, .int n] ∧ HouseAt C H p h R N ∧ N ≤ 900000 ∧ ∀ q H' R', Move C p H R H' h R' N → Rep H' [] (.ref q) (bookD (pageOf h.book n)) → Q (.ref q) H'
theorem rd_House_page {K : PySem.W.Frag} {C : Addr} {vs : List V} {H : Hp} {Q : VK} {E : XK} (T : HouseTxt K C) (h : sp_House_page C vs H Q E) : R_House_page K { nx := fun _ H' => Q .non H', rt := Q } (start ["self", "bargain", "line"] vs) H := by
  obtain ⟨p, n, h, R, N, rfl, ⟨dx, po, pa, pk, pc, xs, z, I⟩, hN, k⟩ := h
  obtain ⟨cl, f1, f2, f3, f4, f5, f6, f7, f8⟩ := T
  unfold R_House_page
  refine st_seq ?_
  refine ⟨fun m σ H' => ∃ v R' z', σ = [some (.ref p), some (.int n), v] ∧ m = h.book.length - z'.nr ∧ HouseIn C H' p h R' N dx po pa pk pc xs z' ∧ Chg R H H' ∧ Grow R H R' ∧ ∀ a ∈ R, a ∈ R',
    ⟨_, none, R, z, rfl, rfl, I, .refl _ _, .refl _ _, fun _ h => h⟩, ?_⟩
  rintro m σ H1 ⟨v, R1, z1, rfl, rfl, I1, c1, g1, sb1⟩
  have ob1 := I1.ob
  have bk1 := I1.bk
  have hxl : xs.length = h.book.length := by rw [I1.bs.length, List.length_map]
  have hbl := I1.l1
  have hnr := I1.l5
  walk_at "go"
  by_cases lt : z1.nr < h.book.length
  · rw [if_pos (by simp only [decide_eq_true_eq]; show (z1.nr : Int) < (xs.length : Int); omega)]
    refine ⟨fun σ' H' => ∃ m', m' < h.book.length - z1.nr ∧ ∃ v R' z', σ' = [some (.ref p), some (.int n), v] ∧ m' = h.book.length - z'.nr ∧ HouseIn C H' p h R' N dx po pa pk pc xs z' ∧ Chg R H H' ∧ Grow R H R' ∧ ∀ a ∈ R, a ∈ R', fun σ' H' q => q, ?_⟩
    have hget : ∃ l, h.book[z1.nr]? = some l := ⟨_, List.getElem?_eq_getElem lt⟩
    obtain ⟨l, hl⟩ := hget
    obtain ⟨x, hx, rx⟩ := I1.bs.getD (i := z1.nr) (d := lineD l) (by rw [List.getElem?_map, hl]; rfl)
    obtain ⟨t, ys, rfl, rt, rs⟩ := rx.tup_inv
    obtain ⟨y1, r1, rfl, h1, t1⟩ := rs.cons_inv
    obtain ⟨y2, r2, rfl, h2, t2⟩ := t1.cons_inv
    cases t2.nil_inv
    rw [h1.str_inv, h2.int_inv] at rt
    have htk : h.book.take (z1.nr + 1) = h.book.take z1.nr ++ [l] := take_snoc hl
    walk_at "go"
    refine st_ixL (sqL bk1) (atI_nat hx) ?_
    have after : ∀ (q : Addr) (H5 : Hp) (R5 : List Addr) (z5 : Pg) (D : Ends), z5.nr = z1.nr → D.nx = (fun σ' H' => ∃ m', m' < h.book.length - z1.nr ∧ ∃ v R' z', σ' = [some (.ref p), some (.int n), v] ∧ m' = h.book.length - z'.nr ∧ HouseIn C H' p h R' N dx po pa pk pc xs z' ∧ Chg R H H' ∧ Grow R H R' ∧ ∀ a ∈ R, a ∈ R') →
        HouseI0 C H5 p h R5 N dx po pa pk pc xs z5 → z5.pvs.length ≤ z1.nr + 1 → Chg R H H5 → Grow R H R5 → (∀ a ∈ R, a ∈ R5) → valV z5.pvs (Sum.inl l.2 : Key) = some (.ref q) → Rd H5 t (.tup [.str l.1, .int l.2]) →
        tyV K "list" (.ref q) H5 ∧ (tCons (tVar 2) tNil) [some (.ref p), some (.int n), some (.ref t)] H5 (fun ys H6 => rAppend (.ref q) ys H6 fun _ H7 => sFldAug K (tVar 0) (tC (.int 1)) rAdd "lines_read" D [some (.ref p), some (.int n), some (.ref t)] H7) := by
      intro q H5 R5 z5 D hnr5 hD I5 hl5 c5 g5 sb5 hv rt5
      have P5 := I5.pt
      rw [hnr5] at P5
      obtain ⟨q', ws, eq, gq, rq, mq, no, na, nk⟩ := P5.yes _ _ hv
      cases eq
      refine ⟨.inl ⟨rfl, _, sqL gq⟩, ?_⟩
      have hwl : ws.length ≤ h.book.length := by
        rw [rq.length, List.length_map]
        exact Nat.le_trans (pageOf_len _ _) (by rw [List.length_take]; omega)
      walk_at "go"
      refine st_append gq (len_small (by omega)) ?_
      have c6 : Chg R5 H5 (upd H5 q (.lst (ws ++ [.ref t]))) := .set (by rw [gq]; exact True.intro) mq
      have kp : ∀ a o, a ≠ q → H5 a = some o → upd H5 q (.lst (ws ++ [.ref t])) a = some o := fun a o e z => upd_at e z
      have nq : ∀ {a : Addr} {o : HO}, H5 a = some o → o ≠ .lst ws → a ≠ q := fun z1 z2 => ne_of z1 gq z2
      have npq : p ≠ q := nq I5.ob (by intro z; cases z)
      have ob6 := kp _ _ npq I5.ob
      have gq6 : upd H5 q (.lst (ws ++ [.ref t])) q = some (.lst (ws ++ [.ref t])) := upd_same
      generalize upd H5 q (.lst (ws ++ [.ref t])) = H6 at *
      refine ⟨_, rfl, p, C, dx, _, _, rfl, ob6, cl, f8, by with_unfolding_all rfl, _, _, rfl, rfl, dx, _, ob6, (by show 8 < 1000; decide), ?_⟩
      rw [hnr5, (by omega : ((z1.nr : Int) + 1) = ((z1.nr + 1 : Nat) : Int)), hfs_read, hD]
      have c7 : Chg R5 H6 (upd H6 p (.ins C dx (hfs h.num po pa pk h.up pc z5.pp (z1.nr + 1)))) := .set (by rw [ob6]; exact True.intro) I5.m1
      have c57 := c6.trans c7
      have kq : ∀ a o, a ≠ q → a ≠ p → H5 a = some o → upd H6 p (.ins C dx (hfs h.num po pa pk h.up pc z5.pp (z1.nr + 1))) a = some o := fun a o e e' z => upd_at e' (kp _ _ e z)
      have np : ∀ {a : Addr} {o : HO}, H5 a = some o → o ≠ .ins C dx (hfs h.num po pa pk h.up pc z5.pp z5.nr) → a ≠ p := fun z1 z2 => ne_of z1 I5.ob z2
      have gq7 : upd H6 p (.ins C dx (hfs h.num po pa pk h.up pc z5.pp (z1.nr + 1))) q = some (.lst (ws ++ [.ref t])) := upd_at npq.symm gq6
      have tr7 : ∀ a ∈ R5, ∃ o, upd H6 p (.ins C dx (hfs h.num po pa pk h.up pc z5.pp (z1.nr + 1))) a = some o := trk_upd fun a ha => by
        by_cases e : a = q
        · subst e; exact ⟨_, gq6⟩
        · obtain ⟨o, eo⟩ := I5.trk a ha; exact ⟨o, kp _ _ e eo⟩
      have rt7 : Rd (upd H6 p (.ins C dx (hfs h.num po pa pk h.up pc z5.pp (z1.nr + 1)))) t (.tup [.str l.1, .int l.2]) := by
        rcases rt5 with e | ⟨o, e⟩
        · exact .inl (c57.tups _ _ e)
        · exact .inr ⟨o, c57.frzs _ _ _ e⟩
      refine ⟨h.book.length - (z1.nr + 1), by omega, _, R5, { z5 with nr := z1.nr + 1 }, rfl, rfl, ?_, c5.grow g5 c57, g5, sb5⟩
      exact { ob := upd_same, ot := kq _ _ no.symm (np I5.ot (by intro z; cases z)) I5.ot, ag := kq _ _ na.symm (np I5.ag (by intro z; cases z)) I5.ag, bk := kq _ _ nk.symm (np I5.bk (by intro z; cases z)) I5.bk,
              bs := lines_chg I5.bs c57, cn := kq _ _ (nq I5.cn (by intro z; cases z)) (np I5.cn (by intro z; cases z)) I5.cn, pg := kq _ _ (nq I5.pg (by intro z; cases z)) (np I5.pg (by intro z; cases z)) I5.pg,
              ct := ⟨I5.ct.no, fun m v hm => (by obtain ⟨q2, e2, h2, h3⟩ := I5.ct.yes m v hm; exact ⟨q2, e2, kq _ _ (nq h2 (by intro z; cases z)) (np h2 (by intro z; cases z)) h2, h3⟩), I5.ct.inj⟩,
              pt := (by
                show PagAt _ z5.pvs (h.book.take (z1.nr + 1)) _ _ _ _
                rw [htk]
                refine ⟨fun m hm => ?_, fun m v hm => ?_, P5.inj⟩
                · rw [pageOf_snoc, if_neg (by rintro rfl; rw [hv] at hm; cases hm)]
                  exact P5.no m hm
                · rw [pageOf_snoc]
                  by_cases e : l.2 = m
                  · subst e
                    rw [hv] at hm
                    cases hm
                    rw [if_pos rfl, List.map_append]
                    exact ⟨q, _, rfl, gq7, (lines_chg rq c57).snoc (.tup rt7 (.cons (.str _) (.cons (.int _) .nil))), mq, no, na, nk⟩
                  · rw [if_neg e]
                    obtain ⟨q2, w2, e2, h2, h3, h4, h5⟩ := P5.yes m v hm
                    subst e2
                    exact ⟨q2, w2, rfl, kq _ _ (by rintro rfl; exact e (P5.inj _ _ _ hv hm)) (np h2 (by intro z; cases z)) h2, lines_chg h3 c57, h4, h5⟩),
              n1 := I5.n1, n2 := I5.n2, n3 := I5.n3, m1 := I5.m1, m2 := I5.m2, m3 := I5.m3, m4 := I5.m4, m5 := I5.m5, m6 := I5.m6, trk := tr7, l1 := I5.l1, l2 := I5.l2, l3 := I5.l3, l5 := lt, okb := I5.okb, l4 := hl5 }
    have pg1 := I1.pg
    have n1l : H1 = H1 := rfl
    walk_at "go"
    walk_at "new"
    rename_i p1 hp1 H2 s2 g2
    have I2 := I1.same s2
    refine ⟨z1.pvs, Sum.inl l.2, I2.pg, rfl, len_small (by have := I2.l4; omega), fun v hv => ?_, fun hn => ?_⟩
    · obtain ⟨q, ws, rfl, _⟩ := I2.pt.yes _ _ hv
      exact after q H2 R1 z1 _ rfl rfl I2.toHouseI0 (Nat.le_succ_of_le I2.l4) (c1.trans (.of_same s2)) g1 sb1 hv (rt.same s2)
    · have hval : ∀ m : Int, valV (putK z1.pvs (Sum.inl l.2 : Key) (V.ref p1)) (Sum.inl m : Key) = if m = l.2 then some (.ref p1) else valV z1.pvs (Sum.inl m : Key) := fun m => by
        rw [valV_put]
        by_cases e : m = l.2
        · subst e; simp
        · rw [if_neg e, if_neg (by intro y; exact e (Sum.inl.inj y))]
      have c3 : Chg R1 H2 (upd H2 z1.pp (.dK (putK z1.pvs (Sum.inl l.2 : Key) (V.ref p1)))) := .set (by rw [I2.pg]; exact True.intro) I2.m6
      have kp : ∀ a o, a ≠ z1.pp → H2 a = some o → upd H2 z1.pp (.dK (putK z1.pvs (Sum.inl l.2 : Key) (V.ref p1))) a = some o := fun a o e z => upd_at e z
      have nq : ∀ {a : Addr} {o : HO}, H2 a = some o → o ≠ .dK z1.pvs → a ≠ z1.pp := fun z1 z2 => ne_of z1 I2.pg z2
      have gr : Grow R H (p1 :: R1) := fun a ha => by
        rcases List.mem_cons.mp ha with rfl | y
        · refine .inr ?_
          cases e : H a with
          | none => rfl
          | some o =>
            by_cases m : a ∈ R
            · obtain ⟨o', e'⟩ := I1.trk a (sb1 a m)
              rw [hp1] at e'; cases e'
            · rw [c1.keep a o e m] at hp1; cases hp1
        · exact g1 a y
      refine after p1 _ (p1 :: R1) { z1 with pvs := putK z1.pvs (Sum.inl l.2 : Key) (V.ref p1) } _ rfl rfl ?_ (Nat.le_trans (length_putK _ _ _) (Nat.succ_le_succ I2.l4)) ((c1.trans (.of_same s2)).grow g1 c3) gr (fun a ha => List.mem_cons_of_mem _ (sb1 a ha)) (by rw [hval, if_pos rfl]) ?_
      · exact { ob := kp _ _ (nq I2.ob (by intro z; cases z)) I2.ob, ot := kp _ _ (nq I2.ot (by intro z; cases z)) I2.ot, ag := kp _ _ (nq I2.ag (by intro z; cases z)) I2.ag, bk := kp _ _ (nq I2.bk (by intro z; cases z)) I2.bk,
                bs := lines_chg I2.bs c3, cn := kp _ _ I2.n3 I2.cn, pg := upd_same,
                ct := ⟨I2.ct.no, fun m v hm => (by obtain ⟨q2, e2, h2, h3, h4, h5⟩ := I2.ct.yes m v hm; exact ⟨q2, e2, kp _ _ h5 h2, List.mem_cons_of_mem _ h3, h4, h5⟩), I2.ct.inj⟩,
                pt := ⟨fun m hm => (by
                        rw [hval] at hm
                        by_cases e : m = l.2
                        · rw [if_pos e] at hm; cases hm
                        · rw [if_neg e] at hm; exact I2.pt.no m hm),
                      fun m v hm => (by
                        rw [hval] at hm
                        by_cases e : m = l.2
                        · rw [if_pos e] at hm
                          cases hm
                          subst e
                          refine ⟨p1, [], rfl, kp _ _ (nq g2 (by intro z; cases z)) g2, ?_, by simp, ?_, ?_, ?_⟩
                          · show Reps _ _ _ ((pageOf (h.book.take z1.nr) l.2).map lineD)
                            rw [I2.pt.no _ hn]; exact .nil
                          · exact (ne_new hp1 I1.ot).symm
                          · exact (ne_new hp1 I1.ag).symm
                          · exact (ne_new hp1 I1.bk).symm
                        · rw [if_neg e] at hm
                          obtain ⟨q2, w2, e2, h2, h3, h4, h5⟩ := I2.pt.yes m v hm
                          exact ⟨q2, w2, e2, kp _ _ (nq h2 (by intro z; cases z)) h2, lines_chg h3 c3, List.mem_cons_of_mem _ h4, h5⟩),
                      fun m m2 q h1 h2 => (by
                        rw [hval] at h1 h2
                        have fresh : ∀ r, valV z1.pvs (Sum.inl r : Key) = some (.ref p1) → False := fun r hr => by
                          obtain ⟨q2, w2, e2, h3, _⟩ := I1.pt.yes r _ hr
                          cases e2
                          rw [hp1] at h3
                          cases h3
                        by_cases e1 : m = l.2
                        · by_cases e2 : m2 = l.2
                          · rw [e1, e2]
                          · rw [if_pos e1] at h1; rw [if_neg e2] at h2
                            cases h1
                            exact (fresh _ h2).elim
                        · by_cases e2 : m2 = l.2
                          · rw [if_neg e1] at h1; rw [if_pos e2] at h2
                            cases h2
                            exact (fresh _ h1).elim
                          · rw [if_neg e1] at h1; rw [if_neg e2] at h2
                            exact I2.pt.inj m m2 q h1 h2)⟩,
                n1 := I2.n1, n2 := I2.n2, n3 := I2.n3, m1 := List.mem_cons_of_mem _ I2.m1, m2 := List.mem_cons_of_mem _ I2.m2, m3 := List.mem_cons_of_mem _ I2.m3, m4 := List.mem_cons_of_mem _ I2.m4, m5 := List.mem_cons_of_mem _ I2.m5, m6 := List.mem_cons_of_mem _ I2.m6,
                trk := trk_upd fun a ha => (by
                  rcases List.mem_cons.mp ha with rfl | y
                  · exact ⟨_, g2⟩
                  · exact I2.trk a y),
                l1 := I2.l1, l2 := I2.l2, l3 := I2.l3, l5 := I2.l5, okb := I2.okb }
      · rcases rt.same s2 with e | ⟨o, e⟩
        · exact .inl (c3.tups _ _ e)
        · exact .inr ⟨o, c3.frzs _ _ _ e⟩
  · rw [if_neg (by simp only [decide_eq_true_eq]; show ¬ (z1.nr : Int) < (xs.length : Int); omega)]
    have pg1 := I1.pg
    walk_at "goA"
    rename_i p1 hp1 H2 s2 g2
    have I2 := I1.same s2
    have m2 : Move C p H R H2 h R1 N := ⟨⟨_, _, _, _, _, _, _, I2⟩, c1.trans (.of_same s2), g1, sb1⟩
    have hall : h.book.take z1.nr = h.book := List.take_of_length_le (by omega)
    have P2 := I2.pt
    rw [hall] at P2
    cases hv : valV z1.pvs (Sum.inl n : Key) with
    | none => exact k p1 _ _ m2 (by rw [P2.no _ hv]; exact .lst (.inl g2) (by simp) .nil)
    | some v =>
      obtain ⟨q, ws, rfl, gq, rq, _⟩ := P2.yes _ _ hv
      exact k q _ _ m2 (.lst (.inl gq) (by simp) rq)
def sp_House_decision (C : Addr) : Sp := fun vs H Q _ => ∃ p n h R N, vs = [.ref p, .int n] ∧ HouseAt C H p h R N ∧ N ≤ 900000 ∧ ∀ H' R', Move C p H R H' h R' N → Q (optV (decisionIn h.book n)) H'
theorem rd_House_decision {K : PySem.W.Frag} {C : Addr} {vs : List V} {H : Hp} {Q : VK} {E : XK} (T : HouseTxt K C) (h : sp_House_decision C vs H Q E) : R_House_decision K sp_decision_in (sp_House_page C) C { nx := fun _ H' => Q .non H', rt := Q } (start ["self", "bargain"] vs) H := by
  obtain ⟨p, n, h, R, N, rfl, I, hN, k⟩ := h
  obtain ⟨dx, po, pa, pk, pc, xs, kvs, I0⟩ := id I
  have ob := I0.ob
  have hl1 := I0.l1
  unfold R_House_decision
  walk_at "go"
  refine ⟨p, n, h, R, N, rfl, I, hN, fun q H1 R1 m1 r1 => ?_⟩
  walk_at "go"
  refine ⟨q, pageOf h.book n, n, rfl, r1, Nat.le_trans (pageOf_len _ _) (by omega), fun H2 s2 => ?_⟩
  rw [pageOf_dec]
  exact k _ _ (m1.trans (m1.at_.move s2))
/-! ### got_ask -/
def sp_House_got_ask (C : Addr) : Sp := fun vs H Q _ => ∃ p g n h R N, vs = [.ref p, .int g, .int n] ∧ HouseAt C H p h R N ∧ N ≤ 800000 ∧ Ret C p H R (N + 1) (h.gotAsk g n) Q
theorem rd_House_got_ask {K : PySem.W.Frag} {C : Addr} {vs : List V} {H : Hp} {Q : VK} {E : XK} (T : HouseTxt K C) (h : sp_House_got_ask C vs H Q E) : R_House_got_ask K sp_knows (sp_House_page C) (sp_House_write C) (sp_House_decision C) (sp_House_to_one C) C { nx := fun _ H' => Q .non H', rt := Q } (start ["self", "giver", "bargain"] vs) H := by
  obtain ⟨p, g, n, h, R, N, rfl, I, hN, k⟩ := h
  obtain ⟨cl, f1, f2, f3, f4, f5, f6, f7, f8⟩ := T
  obtain ⟨dx, po, pa, pk, pc, xs, kvs, I0⟩ := id I
  have ob := I0.ob
  have hl1 := I0.l1
  unfold R_House_got_ask
  refine st_cut (fun σ' H' => σ' = [some (.ref p), some (.int g), some (.int n)] ∧ ∃ R', Move C p H R H' (h.asked n) R' (N + 1)) ?_ ?_
  · walk_at "go"
    refine ⟨p, n, h, R, N, rfl, I, by omega, fun q H0 R0 m0 r0 => ?_⟩
    walk_at "go"
    refine ⟨q, pageOf h.book n, n, rfl, r0, Nat.le_trans (pageOf_len _ _) (by omega), fun H1 s1 => ?_⟩
    rw [pageOf_words]
    have m1 := m0.trans (m0.at_.move s1)
    obtain ⟨dx1, po1, pa1, pk1, pc1, xs1, kvs1, I1⟩ := id m1.at_
    have ob1 := I1.ob
    have ag1 := I1.ag
    walk_at "go"
    unfold HS.asked
    by_cases e : wordsOf h.book n = []
    · rw [if_pos (by simp [e]), if_pos e]
      walk_at "go"
      show if (if false = true then _ else inV (.int n) _) = true then _ else _
      rw [if_neg (by decide : ¬ (false = true)), in_ints]
      by_cases e2 : n ∈ h.agn
      · rw [if_pos (decide_eq_true e2), if_pos e2]
        walk_at "go"
        exact ⟨p, "no", n, h, R0, N, rfl, m1.at_, by omega, okS (by simp), fun H2 m => ⟨rfl, _, m1.trans m⟩⟩
      · rw [if_neg (by simpa using e2), if_neg e2]
        walk_at "go"
        exact ⟨p, "yes", n, h, R0, N, rfl, m1.at_, by omega, okS (by simp), fun H2 m => ⟨rfl, _, m1.trans m⟩⟩
    · rw [if_neg (by simp [e]), if_neg e]
      walk_at "go"
      exact ⟨rfl, _, m1.more (by omega)⟩
  rintro σ' H1 ⟨rfl, R1, m⟩
  obtain ⟨dx1, po1, pa1, pk1, pc1, xs1, kvs1, I1⟩ := id m.at_
  have ob1 := I1.ob
  walk_at "go"
  refine ⟨p, n, h.asked n, R1, N + 1, rfl, m.at_, by omega, fun H2 R2 m2 => ?_⟩
  obtain ⟨dx2, po2, pa2, pk2, pc2, xs2, kvs2, I2⟩ := id m2.at_
  have ob2 := I2.ob
  walk_at "go"
  refine st_rEq (optV_scal _ _) ?_
  walk_at "go"
  rw [optV_eq]
  have hnum : (h.asked n).num = h.num := by unfold HS.asked HS.wr; split <;> rfl
  have kk := (k.after m).after m2
  unfold HS.gotAsk at kk
  by_cases e : decisionIn (h.asked n).book n = some ("off" : Str)
  · rw [if_pos (decide_eq_true e)]
    rw [if_pos e] at kk
    walk_at "go"
    refine ⟨p, g, n, "no", h.asked n, R2, N + 1, rfl, m2.at_, fun v H3 s3 r f => ?_⟩
    rw [hnum] at r
    exact kk.done m2.at_ (Nat.le_refl _) s3 r f
  · rw [if_neg (by simpa using e)]
    rw [if_neg e] at kk
    walk_at "go"
    refine ⟨p, g, n, "yes", h.asked n, R2, N + 1, rfl, m2.at_, fun v H3 s3 r f => ?_⟩
    rw [hnum] at r
    exact kk.done m2.at_ (Nat.le_refl _) s3 r f
/-! ### got_decision -/
def sp_House_got_decision (C : Addr) : Sp := fun vs H Q _ => ∃ p n w h R N, vs = [.ref p, .int n, .str w] ∧ HouseAt C H p h R N ∧ N ≤ 800000 ∧ PyData.strOk w = true ∧ Ret C p H R (N + 1) (h.gotDecision n w) Q
theorem rd_House_got_decision {K : PySem.W.Frag} {C : Addr} {vs : List V} {H : Hp} {Q : VK} {E : XK} (T : HouseTxt K C) (h : sp_House_got_decision C vs H Q E) : R_House_got_decision K (sp_House_decision C) (sp_House_write C) C { nx := fun _ H' => Q .non H', rt := Q } (start ["self", "bargain", "word"] vs) H := by
  obtain ⟨p, n, w, h, R, N, rfl, I, hN, okw, k⟩ := h
  obtain ⟨cl, f1, f2, f3, f4, f5, f6, f7, f8⟩ := T
  obtain ⟨dx, po, pa, pk, pc, xs, kvs, I0⟩ := id I
  have ob := I0.ob
  unfold R_House_got_decision
  refine st_cut (fun σ' H' => ∃ R', Move C p H R H' (h.gotDecision n w).1 R' (N + 1)) ?_ ?_
  · walk_at "go"
    refine ⟨p, n, h, R, N, rfl, I, by omega, fun H1 R1 m1 => ?_⟩
    obtain ⟨dx1, po1, pa1, pk1, pc1, xs1, kvs1, I1⟩ := id m1.at_
    have ob1 := I1.ob
    walk_at "go"
    rw [optV_non]
    unfold HS.gotDecision
    by_cases e : decisionIn h.book n = none
    · rw [if_pos (decide_eq_true e), if_pos e]
      walk_at "go"
      exact ⟨p, w, n, h, R1, N, rfl, m1.at_, by omega, okw, fun H2 m => ⟨_, m1.trans m⟩⟩
    · rw [if_neg (by simpa using e), if_neg e]
      walk_at "go"
      exact ⟨_, m1.more (by omega)⟩
  rintro σ' H1 ⟨R1, m⟩
  walk_at "goA"
  rename_i l hl H2 s2 g2
  exact (k.after m).nil m.at_ (Nat.le_refl _) s2 hl g2
/-! ### got_query -/
def sp_House_got_query (C : Addr) : Sp := fun vs H Q _ => ∃ p g n h R N, vs = [.ref p, .int g, .int n] ∧ HouseAt C H p h R N ∧ N ≤ 800000 ∧ h.oth.length ≤ 900000 ∧ Ret C p H R (N + 1) (h.gotQuery g n) Q
theorem rd_House_got_query {K : PySem.W.Frag} {C : Addr} {vs : List V} {H : Hp} {Q : VK} {E : XK} (T : HouseTxt K C) (h : sp_House_got_query C vs H Q E) :
    R_House_got_query K sp_is_unsure sp_knows (sp_House_page C) (sp_House_decision C) (sp_House_to_one C) (sp_House_decide C) (sp_House_write C) C { nx := fun _ H' => Q .non H', rt := Q } (start ["self", "giver", "bargain", "decided"] vs) H := by
  obtain ⟨p, g, n, h, R, N, rfl, I, hN, hol, k⟩ := h
  obtain ⟨cl, f1, f2, f3, f4, f5, f6, f7, f8⟩ := T
  obtain ⟨dx, po, pa, pk, pc, xs, kvs, I0⟩ := id I
  have ob := I0.ob
  have hl1 : h.book.length ≤ 1000000 := Nat.le_trans I0.l1 (by omega)
  have hlp : (pageOf h.book n).length ≤ 1000000 := Nat.le_trans (pageOf_len _ _) hl1
  unfold R_House_got_query
  unfold HS.gotQuery at k
  walk_at "go"
  refine ⟨p, n, h, R, N, rfl, I, by omega, fun q H0 R0 m0 r0 => ?_⟩
  walk_at "go"
  refine ⟨q, pageOf h.book n, n, rfl, r0, hlp, fun H1 s1 => ?_⟩
  rw [pageOf_unsure]
  have m1 := m0.trans (m0.at_.move s1)
  obtain ⟨dx1, po1, pa1, pk1, pc1, xs1, kvs1, I1⟩ := id m1.at_
  have ob1 := I1.ob
  have k1 := k.after m1
  walk_at "go"
  by_cases e : unsure h.book n = true
  · rw [if_pos e]
    rw [if_pos e] at k1
    walk_at "goA"
    rename_i l hl H2 s2 g2
    exact k1.nil m1.at_ (by omega) s2 hl g2
  rw [if_neg e]
  rw [if_neg e] at k1
  walk_at "go"
  refine ⟨p, n, h, R0, N, rfl, m1.at_, by omega, fun H2 R2 m2 => ?_⟩
  obtain ⟨dx2, po2, pa2, pk2, pc2, xs2, kvs2, I2⟩ := id m2.at_
  have ob2 := I2.ob
  have k2 := k1.after m2
  have J2 := m2.at_
  cases ed : decisionIn h.book n with
  | some d =>
    rw [ed] at k2
    walk_at "go"
    rw [if_pos (by simp [optV])]
    walk_at "go"
    exact ⟨p, g, n, d, h, R2, N, rfl, J2, fun v H3 s3 r f => k2.done J2 (by omega) s3 r f⟩
  | none =>
    rw [ed] at k2
    walk_at "go"
    rw [if_neg (by simp [optV])]
    walk_at "go"
    refine ⟨p, n, h, R2, N, rfl, J2, by omega, fun q3 H3 R3 m3 r3 => ?_⟩
    walk_at "go"
    refine ⟨q3, pageOf h.book n, n, rfl, r3, hlp, fun H4 s4 => ?_⟩
    rw [pageOf_words]
    have m4 := m3.trans (m3.at_.move s4)
    obtain ⟨dx4, po4, pa4, pk4, pc4, xs4, kvs4, I4⟩ := id m4.at_
    have ob4 := I4.ob
    have k4 := k2.after m4
    have J4 := m4.at_
    walk_at "go"
    by_cases e3 : wordsOf h.book n = []
    · rw [if_neg (by simp [e3])]
      simp only [if_pos e3] at k4
      walk_at "go"
      refine ⟨p, "no", n, h, R3, N, rfl, J4, by omega, okS (by simp), fun H5 m => ?_⟩
      obtain ⟨dx5, po5, pa5, pk5, pc5, xs5, kvs5, I5⟩ := id m.at_
      have ob5 := I5.ob
      walk_at "go"
      exact ⟨p, g, n, "off", h.wr "no" n, R3, N + 1, rfl, m.at_, fun v H5 s5 r f => (k4.after m).done m.at_ (Nat.le_refl _) s5 r f⟩
    · rw [if_pos (by simp [e3])]
      simp only [if_neg e3] at k4
      walk_at "go"
      exact ⟨p, n, "off", h, R3, N, rfl, J4, hN, hol, okS (by simp), k4⟩
/-! ### got_vote -/
theorem put_gv (g : Int) (gs : List Int) : putK (gs.map gv) (Sum.inl g : Key) (V.bl true) = (addG g gs).map gv := by
  unfold putK addG
  have e : ((gs.map gv).any fun kv => decide (kv.1 = (Sum.inl g : Key))) = decide (g ∈ gs) := by
    rw [List.any_map]
    induction gs with
    | nil => rfl
    | cons x r ih =>
      rw [List.any_cons, ih]
      show (decide ((Sum.inl x : Key) = Sum.inl g) || decide (g ∈ r)) = decide (g ∈ x :: r)
      by_cases z : g = x
      · subst z; simp
      · have z' : ¬ x = g := fun y => z y.symm
        simp [z, z']
  rw [e]
  by_cases m : g ∈ gs
  · rw [if_pos (decide_eq_true m), if_pos m, List.map_map]
    refine List.map_congr_left fun x _ => ?_
    show (if (Sum.inl x : Key) = Sum.inl g then ((Sum.inl x : Key), V.bl true) else (Sum.inl x, V.bl true)) = _
    split <;> rfl
  · rw [if_neg (by simpa using m), if_neg m, List.map_append]; rfl
theorem addG_len (g : Int) (gs : List Int) : (addG g gs).length ≤ gs.length + 1 := by unfold addG; split <;> simp
def sp_House_got_vote (C : Addr) : Sp := fun vs H Q _ => ∃ p g n w h R N, vs = [.ref p, .int g, .int n, .str w] ∧ HouseAt C H p h R N ∧ N ≤ 790000 ∧ h.oth.length ≤ 900000 ∧ Ret C p H R (N + 3) (h.gotVote g n w) Q
theorem rd_House_got_vote {K : PySem.W.Frag} {C : Addr} {vs : List V} {H : Hp} {Q : VK} {E : XK} (T : HouseTxt K C) (h : sp_House_got_vote C vs H Q E) :
    R_House_got_vote K (sp_House_decision C) (sp_House_to_one C) (sp_House_decide C) C { nx := fun _ H' => Q .non H', rt := Q } (start ["self", "giver", "bargain", "word", "decided", "givers"] vs) H := by
  obtain ⟨p, g, n, w, h, R, N, rfl, I, hN, hol, k⟩ := h
  obtain ⟨cl, f1, f2, f3, f4, f5, f6, f7, f8⟩ := T
  obtain ⟨dx0, po0, pa0, pk0, pc0, xs0, kvs0, I0⟩ := id I
  have ob := I0.ob
  have hl1 : h.book.length ≤ 1000000 := Nat.le_trans I0.l1 (by omega)
  unfold R_House_got_vote
  unfold HS.gotVote at k
  walk_at "go"
  refine ⟨p, n, h, R, N, rfl, I, by omega, fun H1 R1 m1 => ?_⟩
  obtain ⟨dx, po, pa, pk, pc, xs, kvs, I1⟩ := id m1.at_
  have J1 := m1.at_
  have ob1 := I1.ob
  have k1 := k.after m1
  cases ed : decisionIn h.book n with
  | some d =>
    rw [ed] at k1
    walk_at "go"
    rw [if_pos (by simp [optV])]
    walk_at "go"
    by_cases e : w = "yes"
    · rw [if_pos (by simp [e])]
      simp only [if_pos e] at k1
      walk_at "go"
      exact ⟨p, g, n, d, h, R1, N, rfl, J1, fun v H3 s3 r f => k1.done J1 (by omega) s3 r f⟩
    · rw [if_neg (by simp [e])]
      simp only [if_neg e] at k1
      walk_at "goA"
      rename_i l hl H2 s2 g2
      exact k1.nil J1 (by omega) s2 hl g2
  | none =>
    rw [ed] at k1
    walk_at "go"
    rw [if_neg (by simp [optV])]
    walk_at "go"
    by_cases e : w = "no"
    · rw [if_pos (by simp [e])]
      simp only [if_pos e] at k1
      walk_at "go"
      exact ⟨p, n, "off", h, R1, N, rfl, J1, by omega, hol, okS (by simp), fun v H' R' m => k1 v H' R' (m.more (by omega))⟩
    rw [if_neg (by simp [e])]
    simp only [if_neg e] at k1
    have after : ∀ (q : Addr) (H5 : Hp) (R5 : List Addr) (kvs5 : Pg) (D : Ends), D.rt = Q → HouseIn C H5 p h R5 (N + 1) dx po pa pk pc xs kvs5 → Chg R1 H1 H5 → Grow R1 H1 R5 → (∀ a ∈ R1, a ∈ R5) → valV kvs5.kvs (Sum.inl n : Key) = some (.ref q) →
        tSeq (sDPut (tVar 5) (tVar 1) (tC (.bl true)))
          (tSeq (tIfS (tTest (tOp rLtI (tCB rLenD (tCons (tVar 5) tNil)) (tCB (rLenQ K) (tCons (tFld K (tVar 0) "others") tNil)))) (tRet (tLst tNil)) tNext)
            (tRet (tMeth C "decide" (sp_House_decide C) [] E0 (tVar 0) (tCons (tVar 2) (tCons (tC (.str "bound")) tNil))))) D
          [some (.ref p), some (.int g), some (.int n), some (.str w), some (optV none), some (.ref q)] H5 := by
      intro q H5 R5 kvs5 D hrt I5 c5 g5 sb5 hv5
      obtain ⟨q', eq, gq, hqR, hqc, hqp⟩ := I5.ct.yes _ _ hv5
      cases eq
      walk_at "go"
      refine st_dputK gq (len_small (by rw [List.length_map]; have := I5.l3 n; omega)) ?_
      rw [put_gv]
      have nq : ∀ {a : Addr} {o : HO}, H5 a = some o → o ≠ .dK ((h.cnt n).map gv) → a ≠ q := fun z1 z2 => ne_of z1 gq z2
      have kp : ∀ a o, a ≠ q → H5 a = some o → upd H5 q (.dK ((addG g (h.cnt n)).map gv)) a = some o := fun a o e z => upd_at e z
      have c6 : Chg R5 H5 (upd H5 q (.dK ((addG g (h.cnt n)).map gv))) := .set (by rw [gq]; exact True.intro) hqR
      have I6 : HouseIn C (upd H5 q (.dK ((addG g (h.cnt n)).map gv))) p (h.count g n) R5 (N + 2) dx po pa pk pc xs kvs5 :=
        { ob := kp _ _ (nq I5.ob (by intro z; cases z)) I5.ob, ot := kp _ _ (nq I5.ot (by intro z; cases z)) I5.ot, ag := kp _ _ (nq I5.ag (by intro z; cases z)) I5.ag, bk := kp _ _ (nq I5.bk (by intro z; cases z)) I5.bk,
          bs := lines_chg I5.bs c6, cn := kp _ _ hqc.symm I5.cn, pg := kp _ _ hqp.symm I5.pg,
          pt := I5.pt.keep (fun _ h => h) (fun q2 w2 h2 _ _ _ _ => kp _ _ (nq h2 (by intro z; cases z)) h2) (fun b w2 r => lines_chg r c6), n3 := I5.n3, m6 := I5.m6, l4 := I5.l4, l5 := I5.l5,
          ct := ⟨fun m hm => (by
                  have hne : ¬ m = n := by rintro rfl; rw [hv5] at hm; cases hm
                  show (if m = n then _ else h.cnt m) = []
                  rw [if_neg hne]; exact I5.ct.no m hm),
                fun m v hm => (by
                  obtain ⟨q2, e2, h2, h3, h4⟩ := I5.ct.yes m v hm
                  refine ⟨q2, e2, ?_, h3, h4⟩
                  show _ = some (HO.dK ((if m = n then addG g (h.cnt n) else h.cnt m).map gv))
                  by_cases z : m = n
                  · subst z
                    rw [hv5] at hm
                    cases hm
                    cases e2
                    rw [if_pos rfl, upd_same]
                  · rw [if_neg z]
                    exact kp _ _ (by rintro rfl; rw [e2] at hm; exact z (I5.ct.inj _ _ _ hm hv5)) h2), I5.ct.inj⟩,
          n1 := I5.n1, n2 := I5.n2, m1 := I5.m1, m2 := I5.m2, m3 := I5.m3, m4 := I5.m4, m5 := I5.m5, trk := trk_upd I5.trk, l1 := Nat.le_succ_of_le I5.l1, l2 := Nat.le_succ_of_le I5.l2,
          l3 := fun m => (by
            show (if m = n then addG g (h.cnt n) else h.cnt m).length ≤ N + 2
            have h1 := I5.l3 m
            have h2 := I5.l3 n
            have h3 := addG_len g (h.cnt n)
            split <;> omega),
          okb := I5.okb }
      have m6 : Move C p H1 R1 (upd H5 q (.dK ((addG g (h.cnt n)).map gv))) (h.count g n) R5 (N + 2) := ⟨⟨_, _, _, _, _, _, _, I6⟩, c5.grow g5 c6, g5, sb5⟩
      have gq6 : upd H5 q (.dK ((addG g (h.cnt n)).map gv)) q = some (.dK ((addG g (h.cnt n)).map gv)) := upd_same
      have ob6 := I6.ob
      have ot6 := I6.ot
      have k6 := k1.after m6
      generalize upd H5 q (.dK ((addG g (h.cnt n)).map gv)) = H6 at *
      walk_at "go"
      by_cases e2 : (addG g (h.cnt n)).length < h.oth.length
      · rw [if_pos (by simp only [List.length_map, decide_eq_true_eq]; show ((addG g (h.cnt n)).length : Int) < (h.oth.length : Int); omega)]
        simp only [if_pos e2] at k6
        walk_at "goA"
        rename_i l hl H7 s7 g7
        rw [hrt]
        exact k6.nil m6.at_ (by omega) s7 hl g7
      · rw [if_neg (by simp only [List.length_map, decide_eq_true_eq]; show ¬ ((addG g (h.cnt n)).length : Int) < (h.oth.length : Int); omega)]
        simp only [if_neg e2] at k6
        walk_at "go"
        rw [hrt]
        exact ⟨p, n, "bound", h.count g n, R5, N + 2, rfl, m6.at_, by omega, hol, okS (by simp), k6⟩
    have cn1 := I1.cn
    walk_at "go"
    walk_at "new"
    rename_i p1 hp1 H2 s2 g2
    have I2 := I1.same s2
    refine ⟨kvs.kvs, Sum.inl n, I2.cn, rfl, len_small (by have := I2.l2; omega), fun v hv => ?_, fun hn => ?_⟩
    · obtain ⟨q, rfl, _⟩ := I2.ct.yes _ _ hv
      walk_at "st"
      exact after q H2 R1 kvs _ rfl (I2.more (by omega)) (.of_same s2) (.refl _ _) (fun _ h => h) hv
    · walk_at "st"
      have n1c : p1 ≠ pc := (ne_new hp1 cn1).symm
      have hval : ∀ m : Int, valV (putK kvs.kvs (Sum.inl n : Key) (V.ref p1)) (Sum.inl m : Key) = if m = n then some (.ref p1) else valV kvs.kvs (Sum.inl m : Key) := fun m => by
        rw [valV_put]
        by_cases z : m = n
        · subst z; simp
        · rw [if_neg z, if_neg (by intro y; exact z (Sum.inl.inj y))]
      have c3 : Chg R1 H2 (upd H2 pc (.dK (putK kvs.kvs (Sum.inl n : Key) (V.ref p1)))) := .set (by rw [I2.cn]; exact True.intro) I2.m5
      have kp : ∀ a o, a ≠ pc → H2 a = some o → upd H2 pc (.dK (putK kvs.kvs (Sum.inl n : Key) (V.ref p1))) a = some o := fun a o e z => upd_at e z
      have nq : ∀ {a : Addr} {o : HO}, H2 a = some o → o ≠ .dK kvs.kvs → a ≠ pc := fun z1 z2 => ne_of z1 I2.cn z2
      refine after p1 _ (p1 :: R1) { kvs with kvs := putK kvs.kvs (Sum.inl n : Key) (V.ref p1) } _ rfl ?_ ((Chg.of_same s2).trans c3) (fun a ha => ?_) (fun _ h => List.mem_cons_of_mem _ h) (by rw [hval, if_pos rfl])
      · exact { ob := kp _ _ (nq I2.ob (by intro z; cases z)) I2.ob, ot := kp _ _ (nq I2.ot (by intro z; cases z)) I2.ot, ag := kp _ _ (nq I2.ag (by intro z; cases z)) I2.ag, bk := kp _ _ (nq I2.bk (by intro z; cases z)) I2.bk,
                bs := lines_chg I2.bs c3, cn := upd_same, pg := kp _ _ I2.n3.symm I2.pg,
                pt := I2.pt.keep (fun _ h => List.mem_cons_of_mem _ h) (fun q2 w2 h2 _ _ _ _ => kp _ _ (nq h2 (by intro z; cases z)) h2) (fun b w2 r => lines_chg r c3), n3 := I2.n3, m6 := List.mem_cons_of_mem _ I2.m6, l4 := I2.l4, l5 := I2.l5,
                ct := ⟨fun m hm => (by
                        rw [hval] at hm
                        by_cases z : m = n
                        · rw [if_pos z] at hm; cases hm
                        · rw [if_neg z] at hm; exact I2.ct.no m hm),
                      fun m v hm => (by
                        rw [hval] at hm
                        by_cases z : m = n
                        · rw [if_pos z] at hm
                          cases hm
                          subst z
                          exact ⟨p1, rfl, by rw [upd_ne n1c, g2, I2.ct.no _ hn]; rfl, by simp, n1c, (ne_new hp1 I1.pg).symm⟩
                        · rw [if_neg z] at hm
                          obtain ⟨q2, e2, h2, h3, h4⟩ := I2.ct.yes m v hm
                          exact ⟨q2, e2, kp _ _ h4.1 h2, by simp [h3], h4⟩),
                      fun m m2 q h1 h2 => (by
                        rw [hval] at h1 h2
                        have fresh : ∀ r, valV kvs.kvs (Sum.inl r : Key) = some (.ref p1) → False := fun r hr => by
                          obtain ⟨q2, e2, h3, _⟩ := I1.ct.yes r _ hr
                          cases e2
                          rw [hp1] at h3
                          cases h3
                        by_cases e1 : m = n
                        · by_cases e2 : m2 = n
                          · rw [e1, e2]
                          · rw [if_pos e1] at h1; rw [if_neg e2] at h2
                            cases h1
                            exact (fresh _ h2).elim
                        · by_cases e2 : m2 = n
                          · rw [if_neg e1] at h1; rw [if_pos e2] at h2
                            cases h2
                            exact (fresh _ h1).elim
                          · rw [if_neg e1] at h1; rw [if_neg e2] at h2
                            exact I2.ct.inj m m2 q h1 h2)⟩,
                n1 := I2.n1, n2 := I2.n2, m1 := by simp [I2.m1], m2 := by simp [I2.m2], m3 := by simp [I2.m3], m4 := by simp [I2.m4], m5 := by simp [I2.m5],
                trk := trk_upd fun a ha => (by
                  rcases List.mem_cons.mp ha with rfl | z
                  · exact ⟨_, g2⟩
                  · exact I2.trk a z),
                l1 := Nat.le_succ_of_le I2.l1, l2 := Nat.le_trans (length_putK _ _ _) (by have := I2.l2; omega), l3 := fun m => Nat.le_succ_of_le (I2.l3 m), okb := I2.okb }
      · rcases List.mem_cons.mp ha with rfl | z
        · exact .inr hp1
        · exact .inl z
/-! ### got -/
def sp_House_got (C : Addr) : Sp := fun vs H Q _ => ∃ p t l h R N, vs = [.ref p, .ref t] ∧ HouseAt C H p h R N ∧ Rd H t (.tup [.int l.1, .int l.2.1, .int l.2.2.1, .str l.2.2.2]) ∧ N ≤ 790000 ∧ h.oth.length ≤ 900000 ∧ PyData.strOk l.2.2.2 = true ∧ Ret C p H R (N + 3) (h.got l) Q
theorem in_yes_no (w : Str) : inV (.str w) [.str "yes", .str "no"] = decide (w = "yes" ∨ w = "no") := by
  have := in_strs w ["yes", "no"]
  simp only [List.map_cons, List.map_nil] at this
  rw [this]; simp [List.mem_cons]
theorem Ret.less {C p : Addr} {H : Hp} {R : List Addr} {N M : Nat} {r : HS × List Letter} {Q : VK} (k : Ret C p H R N r Q) (h : M ≤ N) : Ret C p H R M r Q := fun v H' R' m => k v H' R' (m.more h)
theorem rd_House_got {K : PySem.W.Frag} {C : Addr} {vs : List V} {H : Hp} {Q : VK} {E : XK} (T : HouseTxt K C) (h : sp_House_got C vs H Q E) :
    R_House_got K (sp_House_got_ask C) (sp_House_got_query C) (sp_House_got_vote C) (sp_House_got_decision C) C { nx := fun _ H' => Q .non H', rt := Q } (start ["self", "letter", "giver", "bargain", "word"] vs) H := by
  obtain ⟨p, t, ⟨g, to, n, w⟩, h, R, N, rfl, I, gt, hN, hol, okw, k⟩ := h
  obtain ⟨dx, po, pa, pk, pc, xs, kvs, I0⟩ := id I
  have ob := I0.ob
  unfold R_House_got
  unfold HS.got at k
  dsimp only at gt okw k
  walk_at "go"
  by_cases e1 : w = "ask"
  · rw [if_pos (by simp [e1])]
    rw [if_pos e1] at k
    walk_at "go"
    exact ⟨p, g, n, h, R, N, rfl, I, by omega, k.less (by omega)⟩
  rw [if_neg (by simp [e1])]
  rw [if_neg e1] at k
  walk_at "go"
  by_cases e2 : w = "query"
  · rw [if_pos (by simp [e2])]
    rw [if_pos e2] at k
    walk_at "go"
    exact ⟨p, g, n, h, R, N, rfl, I, by omega, hol, k.less (by omega)⟩
  rw [if_neg (by simp [e2])]
  rw [if_neg e2] at k
  walk_at "goA"
  rename_i q hq H1 s1 g1
  show if (if false = true then _ else inV (.str w) _) = true then _ else _
  rw [if_neg (by decide : ¬ (false = true)), in_yes_no]
  have k1 := k.same I s1
  have ob1 := s1 _ _ ob
  by_cases e3 : w = "yes" ∨ w = "no"
  · rw [if_pos (decide_eq_true e3)]
    rw [if_pos e3] at k1
    walk_at "go"
    exact ⟨p, g, n, w, h, R, N, rfl, I.same s1, hN, hol, k1⟩
  · rw [if_neg (by simpa using e3)]
    rw [if_neg e3] at k1
    walk_at "go"
    exact ⟨p, n, w, h, R, N, rfl, I.same s1, by omega, okw, k1.less (by omega)⟩
/-! ### forget, stop -/
/-- while __init__ runs: the object at p, all else as it was -/
structure Made (C : Addr) (H : Hp) (p dx : Addr) (fs : List (Str × V)) (H' : Hp) : Prop where
  ob : H' p = some (.ins C dx fs)
  chg : Chg [p] H H'
  free : ∀ b, H' b = none → H b = none
theorem Made.same {C : Addr} {H : Hp} {p dx : Addr} {fs : List (Str × V)} {H' H2 : Hp} (m : Made C H p dx fs H') (s : Same H' H2) : Made C H p dx fs H2 := ⟨s _ _ m.ob, m.chg.trans (.of_same s), fun b hb => m.free b (s.free hb)⟩
theorem Made.put {C : Addr} {H : Hp} {p dx : Addr} {fs : List (Str × V)} {H' : Hp} (m : Made C H p dx fs H') (gs : List (Str × V)) : Made C H p dx gs (upd H' p (.ins C dx gs)) :=
  ⟨upd_same, m.chg.trans (.set (by rw [m.ob]; exact True.intro) (by simp)), fun b hb => by
    by_cases e : b = p
    · rw [e, upd_same] at hb; cases hb
    · rw [upd_ne e] at hb; exact m.free b hb⟩
theorem Made.keep {C : Addr} {H : Hp} {p dx : Addr} {fs gs : List (Str × V)} {H' : Hp} (m : Made C H p dx fs H') {b : Addr} {o : HO} (e : H' b = some o) (n : o ≠ .ins C dx fs) : upd H' p (.ins C dx gs) b = some o := upd_at (ne_of e m.ob n) e
def fgt (pc pp : Addr) (fs : List (Str × V)) : List (Str × V) := putF "lines_read" (.int 0) (putF "pages" (.ref pp) (putF "counted" (.ref pc) fs))
def sp_House_forget (C : Addr) : Sp := fun vs H Q _ => ∃ p dx fs, vs = [.ref p] ∧ H p = some (.ins C dx fs) ∧ fs.length < 900 ∧
  ∀ pc pp H', H pc = none → H pp = none → pc ≠ pp → H' pc = some (.dK []) → H' pp = some (.dK []) → Made C H p dx (fgt pc pp fs) H' → Q .non H'
theorem rd_House_forget {K : PySem.W.Frag} {C : Addr} {vs : List V} {H : Hp} {Q : VK} {E : XK} (T : HouseTxt K C) (h : sp_House_forget C vs H Q E) : R_House_forget K { nx := fun _ H' => Q .non H', rt := Q } (start ["self"] vs) H := by
  obtain ⟨p, dx, fs, rfl, ob, hl, k⟩ := h
  unfold R_House_forget
  have M0 : Made C H p dx fs H := ⟨ob, .refl _ _, fun _ h => h⟩
  have l1 := length_putF "counted"
  have l2 := length_putF "pages"
  walk_at "go"
  walk_at "new"
  rename_i pc hpc H1 s1 g1
  have M1 := M0.same s1
  walk_at "go"
  refine ⟨p, C, dx, _, rfl, M1.ob, T.cl, T.f6, by omega, ?_⟩
  have M2 := M1.put (putF "counted" (.ref pc) fs)
  have g2 := M1.keep (gs := putF "counted" (.ref pc) fs) g1 (by intro z; cases z)
  generalize upd H1 p (.ins C dx (putF "counted" (.ref pc) fs)) = H2 at *
  walk_at "go"
  walk_at "new"
  rename_i pp hpp H3 s3 g3
  have M3 := M2.same s3
  have g3c := s3 _ _ g2
  have nn : pc ≠ pp := ne_new hpp g2
  walk_at "go"
  refine ⟨p, C, dx, _, rfl, M3.ob, T.cl, T.f7, by have := l1 (.ref pc) fs; omega, ?_⟩
  have M4 := M3.put (putF "pages" (.ref pp) (putF "counted" (.ref pc) fs))
  have g4c := M3.keep (gs := putF "pages" (.ref pp) (putF "counted" (.ref pc) fs)) g3c (by intro z; cases z)
  have g4p := M3.keep (gs := putF "pages" (.ref pp) (putF "counted" (.ref pc) fs)) g3 (by intro z; cases z)
  generalize upd H3 p (.ins C dx (putF "pages" (.ref pp) (putF "counted" (.ref pc) fs))) = H4 at *
  walk_at "go"
  refine ⟨p, C, dx, _, rfl, M4.ob, T.cl, T.f8, by have h1 := l1 (.ref pc) fs; have h2 := l2 (.ref pp) (putF "counted" (.ref pc) fs); omega, ?_⟩
  exact k pc pp _ hpc (M2.free _ hpp) nn (M4.keep (gs := fgt pc pp fs) g4c (by intro z; cases z)) (M4.keep (gs := fgt pc pp fs) g4p (by intro z; cases z)) (M4.put (fgt pc pp fs))
theorem hfs_awake (num : Int) (po pa pk : Addr) (u v : Bool) (pc pp : Addr) (nr : Nat) : putF "awake" (.bl v) (hfs num po pa pk u pc pp nr) = hfs num po pa pk v pc pp nr := by with_unfolding_all rfl
theorem hfs_fgt (num : Int) (po pa pk : Addr) (u : Bool) (pc pp : Addr) (nr : Nat) (qc qp : Addr) : fgt qc qp (hfs num po pa pk u pc pp nr) = hfs num po pa pk u qc qp 0 := by with_unfolding_all rfl
/-- a house's own fields are put anew -/
theorem HouseIn.put {C : Addr} {H : Hp} {p : Addr} {h : HS} {R : List Addr} {N : Nat} {dx po pa pk pc : Addr} {xs : List V} {z : Pg} (I : HouseIn C H p h R N dx po pa pk pc xs z) (u : Bool) :
    HouseIn C (upd H p (.ins C dx (hfs h.num po pa pk u pc z.pp z.nr))) p { h with up := u } R N dx po pa pk pc xs z := by
  have kp : ∀ a o, a ≠ p → H a = some o → upd H p (.ins C dx (hfs h.num po pa pk u pc z.pp z.nr)) a = some o := fun a o e z => upd_at e z
  have nq : ∀ {a : Addr} {o : HO}, H a = some o → o ≠ .ins C dx (hfs h.num po pa pk h.up pc z.pp z.nr) → a ≠ p := fun z1 z2 => ne_of z1 I.ob z2
  have c : Chg R H (upd H p (.ins C dx (hfs h.num po pa pk u pc z.pp z.nr))) := .set (by rw [I.ob]; exact True.intro) I.m1
  exact { ob := upd_same, ot := kp _ _ (nq I.ot (by intro z; cases z)) I.ot, ag := kp _ _ (nq I.ag (by intro z; cases z)) I.ag, bk := kp _ _ (nq I.bk (by intro z; cases z)) I.bk, bs := lines_chg I.bs c, cn := kp _ _ (nq I.cn (by intro z; cases z)) I.cn, pg := kp _ _ (nq I.pg (by intro z; cases z)) I.pg,
          ct := ⟨I.ct.no, fun n v hv => (by obtain ⟨q, e, h1, h2⟩ := I.ct.yes n v hv; exact ⟨q, e, kp _ _ (nq h1 (by intro z; cases z)) h1, h2⟩), I.ct.inj⟩,
          pt := I.pt.keep (fun _ h => h) (fun q2 w2 h2 _ _ _ _ => kp _ _ (nq h2 (by intro z; cases z)) h2) (fun b w2 r => lines_chg r c),
          n1 := I.n1, n2 := I.n2, n3 := I.n3, m1 := I.m1, m2 := I.m2, m3 := I.m3, m4 := I.m4, m5 := I.m5, m6 := I.m6, trk := trk_upd I.trk, l1 := I.l1, l2 := I.l2, l3 := I.l3, l4 := I.l4, l5 := I.l5, okb := I.okb }
def sp_House_stop (C : Addr) : Sp := fun vs H Q _ => ∃ p h R N, vs = [.ref p] ∧ HouseAt C H p h R N ∧ ∀ H' R', Move C p H R H' h.stop R' N → Q .non H'
theorem rd_House_stop {K : PySem.W.Frag} {C : Addr} {vs : List V} {H : Hp} {Q : VK} {E : XK} (T : HouseTxt K C) (h : sp_House_stop C vs H Q E) : R_House_stop K (sp_House_forget C) C { nx := fun _ H' => Q .non H', rt := Q } (start ["self"] vs) H := by
  obtain ⟨p, h, R, N, rfl, ⟨dx, po, pa, pk, pc, xs, z, I⟩, k⟩ := h
  unfold R_House_stop
  walk_at "go"
  refine ⟨p, C, dx, _, rfl, I.ob, T.cl, T.f5, (by show 8 < 1000; decide), ?_⟩
  rw [hfs_awake]
  have I1 := I.put false
  have c1 : Chg R H (upd H p (.ins C dx (hfs h.num po pa pk false pc z.pp z.nr))) := .set (by rw [I.ob]; exact True.intro) I.m1
  generalize upd H p (.ins C dx (hfs h.num po pa pk false pc z.pp z.nr)) = H1 at *
  have ob1 := I1.ob
  walk_at "go"
  refine ⟨p, dx, _, rfl, ob1, (by show 8 < 900; decide), fun qc qp H2 hqc hqp nn gc gp M => ?_⟩
  have ob2 := M.ob
  rw [hfs_fgt] at ob2
  have np : ∀ {a : Addr} {o : HO}, H1 a = some o → (∀ D fs, o ≠ .ins C D fs) → ¬ a ∈ [p] := fun z1 z2 y => by rw [List.mem_singleton.mp y, ob1] at z1; cases z1; exact z2 _ _ rfl
  have kp : ∀ {a : Addr} {o : HO}, H1 a = some o → (∀ D fs, o ≠ .ins C D fs) → H2 a = some o := fun z1 z2 => M.chg.keep _ _ z1 (np z1 z2)
  have trk2 : ∀ a ∈ R, ∃ o, H2 a = some o := fun a ha => by
    cases e : H2 a with
    | some o => exact ⟨o, rfl⟩
    | none => obtain ⟨o, e'⟩ := I1.trk a ha; rw [M.free a e] at e'; cases e'
  have fr : ∀ {a : Addr}, H1 a = none → H a = none := fun {a} hq => by
    cases e : H a with
    | none => rfl
    | some o =>
      by_cases m : a ∈ R
      · obtain ⟨o', e'⟩ := I1.trk a m
        rw [hq] at e'; cases e'
      · rw [c1.keep a o e m] at hq; cases hq
  refine k _ (qc :: qp :: R) ⟨⟨dx, po, pa, pk, qc, xs, ⟨[], qp, 0, []⟩, ?_⟩, c1.trans (M.chg.mono fun b hb => by rw [List.mem_singleton.mp hb]; exact I.m1), fun a ha => ?_, fun _ h => List.mem_cons_of_mem _ (List.mem_cons_of_mem _ h)⟩
  · exact { ob := ob2, ot := kp I1.ot (by intro _ _ z; cases z), ag := kp I1.ag (by intro _ _ z; cases z), bk := kp I1.bk (by intro _ _ z; cases z), bs := lines_chg I1.bs M.chg, cn := gc, pg := gp,
            ct := ⟨fun _ _ => rfl, fun _ _ z => (by cases z), fun _ _ _ z => (by cases z)⟩, pt := ⟨fun _ _ => rfl, fun _ _ z => (by cases z), fun _ _ _ z => (by cases z)⟩, n1 := I1.n1, n2 := I1.n2, n3 := nn, m1 := by simp [I1.m1], m2 := by simp [I1.m2], m3 := by simp [I1.m3], m4 := by simp [I1.m4], m5 := by simp, m6 := by simp,
            trk := fun a ha => (by
              rcases List.mem_cons.mp ha with rfl | y
              · exact ⟨_, gc⟩
              rcases List.mem_cons.mp y with rfl | y
              · exact ⟨_, gp⟩
              · exact trk2 a y),
            l1 := I1.l1, l2 := Nat.zero_le _, l3 := fun _ => Nat.zero_le _, l4 := Nat.le_refl _, l5 := Nat.zero_le _, okb := I1.okb }
  · rcases List.mem_cons.mp ha with rfl | y
    · exact .inr (fr hqc)
    rcases List.mem_cons.mp y with rfl | y
    · exact .inr (fr hqp)
    · exact .inl y
/-! ### wake -/
def sp_House_wake (C : Addr) : Sp := fun vs H Q _ => ∃ p h R N, vs = [.ref p] ∧ HouseAt C H p h R N ∧ N ≤ 780000 ∧ (leftOpen h.book).length ≤ 10000 ∧ h.oth.length ≤ 20 ∧ Ret C p H R (N + (leftOpen h.book).length) h.wake Q
theorem offAll_snoc (h : HS) (ns : List Int) (n : Int) : h.offAll (ns ++ [n]) = (((h.offAll ns).1.decide n "off").1, (h.offAll ns).2 ++ ((h.offAll ns).1.decide n "off").2) := by
  induction ns generalizing h with
  | nil => simp [HS.offAll]
  | cons x r ih => simp [HS.offAll, ih]
theorem offAll_oth (h : HS) (ns : List Int) : (h.offAll ns).1.oth = h.oth := by
  induction ns generalizing h with
  | nil => rfl
  | cons x r ih => exact ih _
theorem offAll_len (h : HS) (ns : List Int) : (h.offAll ns).2.length = ns.length * h.oth.length := by
  induction ns generalizing h with
  | nil => simp [HS.offAll]
  | cons x r ih =>
    show ((h.decide x "off").2 ++ ((h.decide x "off").1.offAll r).2).length = _
    rw [List.length_append, ih]
    show (h.oth.map _).length + r.length * h.oth.length = _
    rw [List.length_map, List.length_cons, Nat.succ_mul, Nat.add_comm]
theorem letters_app {H : Hp} {S : List Addr} {xs ys : List V} {a b : List Letter} (r : Reps H S xs (a.map letterD)) (q : Reps H S ys (b.map letterD)) : Reps H S (xs ++ ys) ((a ++ b).map letterD) := by rw [List.map_append]; exact r.append q
theorem rd_House_wake {K : PySem.W.Frag} {C : Addr} {vs : List V} {H : Hp} {Q : VK} {E : XK} (T : HouseTxt K C) (h : sp_House_wake C vs H Q E) : R_House_wake K sp_left_open (sp_House_decide C) C { nx := fun _ H' => Q .non H', rt := Q } (start ["self", "undecided", "sent", "bargain"] vs) H := by
  obtain ⟨p, h, R, N, rfl, ⟨dx, po, pa, pk, pc, xs, kvs, I⟩, hN, hlt, hol, k⟩ := h
  obtain ⟨cl, f1, f2, f3, f4, f5, f6, f7, f8⟩ := T
  unfold R_House_wake
  walk_at "go"
  refine ⟨p, C, dx, _, rfl, I.ob, cl, f5, (by show 8 < 1000; decide), ?_⟩
  rw [hfs_awake]
  have I1 := I.put true
  have c1 : Chg R H (upd H p (.ins C dx (hfs h.num po pa pk true pc kvs.pp kvs.nr))) := .set (by rw [I.ob]; exact True.intro) I.m1
  generalize upd H p (.ins C dx (hfs h.num po pa pk true pc kvs.pp kvs.nr)) = H1 at *
  have ob1 := I1.ob
  walk_at "go"
  refine ⟨pk, h.book, rfl, I1.rep, Nat.le_trans I1.l1 (by omega), fun pl H2 hpl s2 g2 => ?_⟩
  have I2 := I1.same s2
  have m2 : Move C p H R H2 { h with up := true } R N := ⟨⟨_, _, _, _, _, _, _, I2⟩, c1.trans (.of_same s2), .refl _ _, fun _ h => h⟩
  walk_at "go"
  walk_at "new"
  rename_i ps hps H3 s3 g3
  have g3l := s3 _ _ g2
  have npl : pl ≠ ps := ne_new hps g2
  have k2 := k.after m2
  have hlo : (leftOpen h.book).length ≤ N := by
    unfold leftOpen
    rw [List.length_map]
    exact Nat.le_trans (List.length_filter_le _ _) I.l1
  walk_at "go"
  refine for_list (K := K) (a := pl) (xs := (leftOpen h.book).map .int) (fun i σ H' => ∃ v ys R', σ = [some (.ref p), some (.ref pl), some (.ref ps), v] ∧ HouseAt C H' p (({ h with up := true } : HS).offAll ((leftOpen h.book).take i)).1 R' (N + i) ∧ Chg R H2 H' ∧ (Grow R H2 R' ∧ ∀ a ∈ R, a ∈ R') ∧
      H' ps = some (.lst ys) ∧ ¬ ps ∈ R' ∧ Reps H' [] ys ((({ h with up := true } : HS).offAll ((leftOpen h.book).take i)).2.map letterD) ∧ H' pl = some (.lst ((leftOpen h.book).map .int)))
    ⟨none, [], R, rfl, ⟨_, _, _, _, _, _, _, I2.same s3⟩, .of_same s3, ⟨.refl _ _, fun _ h => h⟩, g3, notin_new I2.trk hps, .nil, g3l⟩ ?_ ?_ ?_
  · rintro i σ H' hi ⟨v, ys, R', rfl, J, c, ⟨g, sb⟩, gs, ns, rs, gl⟩
    exact sqL gl
  · rintro i x σ H4 hx ⟨v, ys, R', rfl, J, c, ⟨g, sb⟩, gs, ns, rs, gl⟩
    rw [List.getElem?_map] at hx
    cases hk : (leftOpen h.book)[i]? with
    | none => rw [hk] at hx; cases hx
    | some z =>
      rw [hk] at hx
      have e : V.int z = x := Option.some.inj hx
      subst e
      have hi : i < (leftOpen h.book).length := (List.getElem?_eq_some_iff.mp hk).1
      obtain ⟨dx4, po4, pa4, pk4, pc4, xs4, kvs4, I4⟩ := id J
      have ob4 := I4.ob
      walk_at "go"
      refine ⟨.inl ⟨rfl, _, sqL gs⟩, ?_⟩
      walk_at "go"
      refine ⟨p, z, "off", _, R', N + i, rfl, J, by omega, by rw [offAll_oth]; show h.oth.length ≤ 900000; omega, okS (by simp), ?_⟩
      intro v' H5 R5 m5 rep5 _
      obtain ⟨a5, zs, rfl, g5, ni5, rs5⟩ := rep5
      have gs5 := m5.chg.keep _ _ gs ns
      have ns5 : ¬ ps ∈ R5 := fun y => (m5.gr _ y).elim ns fun q => by rw [gs] at q; cases q
      have npl5 : ¬ pl ∈ R' := fun y => (g _ y).elim (notin_new I1.trk hpl) fun q => by rw [g2] at q; cases q
      have gl5 := m5.chg.keep _ _ gl npl5
      have ly : ys.length = i * h.oth.length := by
        rw [rs.length, List.length_map, offAll_len, List.length_take, Nat.min_eq_left (Nat.le_of_lt hi)]
      have lz : zs.length = h.oth.length := by
        rw [rs5.length, List.length_map]
        show (List.map _ _).length = _
        rw [List.length_map, offAll_oth]
      have hsz : ys.length + zs.length ≤ sizeLine := by
        have h1 : i * h.oth.length ≤ 10000 * 20 := Nat.mul_le_mul (by omega) hol
        rw [sizeLine_eq]
        omega
      walk_at "go"
      refine st_extend gs5 g5 hsz ?_
      have cp : Chg [ps] H5 (upd H5 ps (.lst (ys ++ zs))) := .set (by rw [gs5]; exact True.intro) (by simp)
      refine ⟨_, _, R5, rfl, ?_, (c.grow g m5.chg).put hps, ⟨g.trans c m5.gr, fun x hx => m5.sb x (sb x hx)⟩, upd_same, ns5, ?_, upd_at npl gl5⟩
      · rw [take_snoc hk, offAll_snoc]
        exact m5.at_.chg cp fun a ha y => by rw [List.mem_singleton.mp y] at ha; exact ns5 ha
      · rw [take_snoc hk, offAll_snoc]
        exact letters_app (letters_chg (letters_chg rs m5.chg) cp) (letters_any (letters_chg rs5 cp))
  · rintro σ H4 ⟨v, ys, R', rfl, J, c, ⟨g, sb⟩, gs, ns, rs, gl⟩
    walk_at "go"
    rw [List.length_map, List.take_length] at J rs
    exact k2 _ _ _ ⟨J.more (by omega), c, g, sb⟩ ⟨_, _, rfl, gs, ns, letters_any rs⟩ (by rintro _ ⟨⟩; exact hps)
/-! ### House(number, count, against) -/
def othersOf (num : Int) (count : Nat) : List Int := ((List.range count).map fun (k : Nat) => (k : Int)).filter fun k => !decide (k = num)
def newHS (num : Int) (count : Nat) (agn : List Int) : HS := ⟨num, othersOf num count, agn, [], true, fun _ => []⟩
theorem othersOf_le (num : Int) (count : Nat) : (othersOf num count).length ≤ count := by
  unfold othersOf
  refine Nat.le_trans (List.length_filter_le _ _) ?_
  rw [List.length_map, List.length_range]; exact Nat.le_refl _
theorem others_snoc (num : Int) (i : Nat) : othersOf num (i + 1) = if (i : Int) = num then othersOf num i else othersOf num i ++ [(i : Int)] := by
  unfold othersOf
  rw [List.range_succ, List.map_append, List.filter_append]
  by_cases e : (i : Int) = num
  · simp [e]
  · simp [e]
def sp_House_init (C : Addr) : Sp := fun vs H Q _ => ∃ (p dx a : Addr) (num : Int) (count : Nat) (agn : List Int), vs = [.ref p, .int num, .int count, .ref a] ∧ H p = some (.ins C dx []) ∧ count ≤ 900000 ∧ Rd H a (.lst (agn.map .int)) ∧
  ∀ H' R', HouseAt C H' p (newHS num count agn) R' 0 → Chg [p] H H' → (∀ b ∈ R', b = p ∨ H b = none) → Q .non H'
def fl1 (a : V) : List (Str × V) := [("number", a)]
def fl2 (a b : V) : List (Str × V) := [("number", a), ("others", b)]
def fl3 (a b c : V) : List (Str × V) := [("number", a), ("others", b), ("against", c)]
def fl4 (a b c d : V) : List (Str × V) := [("number", a), ("others", b), ("against", c), ("book", d)]
def fl5 (a b c d e : V) : List (Str × V) := [("number", a), ("others", b), ("against", c), ("book", d), ("awake", e)]
theorem putF1 (v : V) : putF "number" v [] = fl1 v := rfl
theorem putF2 (a v : V) : putF "others" v (fl1 a) = fl2 a v := by with_unfolding_all rfl
theorem putF3 (a b v : V) : putF "against" v (fl2 a b) = fl3 a b v := by with_unfolding_all rfl
theorem putF4 (a b c v : V) : putF "book" v (fl3 a b c) = fl4 a b c v := by with_unfolding_all rfl
theorem putF5 (a b c d v : V) : putF "awake" v (fl4 a b c d) = fl5 a b c d v := by with_unfolding_all rfl
theorem fl5_fgt (num : Int) (po pa pk : Addr) (u : Bool) (pc pp : Addr) : fgt pc pp (fl5 (.int num) (.ref po) (.ref pa) (.ref pk) (.bl u)) = hfs num po pa pk u pc pp 0 := by with_unfolding_all rfl
theorem rd_House_init {K : PySem.W.Frag} {C : Addr} {vs : List V} {H : Hp} {Q : VK} {E : XK} (T : HouseTxt K C) (h : sp_House_init C vs H Q E) : R_House_init K (sp_House_forget C) C { nx := fun _ H' => Q .non H', rt := Q } (start ["self", "number", "count", "against"] vs) H := by
  obtain ⟨p, dx, a, num, count, agn, rfl, ob, hc, ha, k⟩ := h
  have nap : a ≠ p := by
    rintro rfl
    rcases ha with z | ⟨o, z⟩ <;> (rw [ob] at z; cases z)
  unfold R_House_init
  have M0 : Made C H p dx [] H := ⟨ob, .refl _ _, fun _ h => h⟩
  walk_at "go"
  refine ⟨p, C, dx, _, rfl, ob, T.cl, T.f1, (by show 0 < 1000; decide), ?_⟩
  rw [putF1]
  have M1 := M0.put (fl1 (.int num))
  have ha1 : Rd (upd H p (.ins C dx (fl1 (.int num)))) a (.lst (agn.map .int)) := ha.upd nap
  generalize upd H p (.ins C dx (fl1 (.int num))) = H1 at *
  walk_at "go"
  refine st_itr (by omega) ?_
  intro po hpo
  refine lc_range (n := count) (fun i ys σ H' => ∃ v, σ = [v, some (.int num)] ∧ H' = upd H1 po (.lst ys) ∧ ys = (othersOf num i).map .int) ⟨none, rfl, rfl, rfl⟩ ?_ ?_
  · rintro i ys σ H' hi hp' ⟨v, rfl, rfl, rfl⟩
    walk_at "go"
    have e0 : ((0 : Int) + (i : Int)) = (i : Int) := Int.zero_add _
    by_cases e : (i : Int) = num
    · rw [if_neg (by simp [e0, e])]
      exact ⟨_, upd_same, _, rfl, rfl, by rw [others_snoc, if_pos e]⟩
    · rw [if_pos (by simp [e0, e])]
      walk_at "go"
      refine ⟨_, upd_same, len_small (by rw [List.length_map]; exact Nat.le_trans (othersOf_le _ _) (by omega)), _, upd_same, _, rfl, upd_upd, ?_⟩
      rw [others_snoc, if_neg e, List.map_append, e0]; rfl
  rintro ys σ H2 g2 ⟨v, rfl, hH2, rfl⟩
  have s2 : Same H1 H2 := by rw [hH2]; exact Same.new hpo
  clear hH2
  have M2 := M1.same s2
  have ha2 := ha1.same s2
  have po0 : H po = none := M1.free _ hpo
  walk_at "go"
  refine ⟨p, C, dx, _, rfl, M2.ob, T.cl, T.f2, (by show 1 < 1000; decide), ?_⟩
  rw [putF2]
  have M3 := M2.put (fl2 (.int num) (.ref po))
  have g3 := M2.keep (gs := (fl2 (.int num) (.ref po))) g2 (by intro z; cases z)
  have ha3 : Rd (upd H2 p (.ins C dx (fl2 (.int num) (.ref po)))) a (.lst (agn.map .int)) := ha2.upd nap
  generalize upd H2 p (.ins C dx (fl2 (.int num) (.ref po))) = H3 at *
  walk_at "go"
  walk_at "new"
  rename_i pa hpa H4 s4 g4
  have M4 := M3.same s4
  have g4o := s4 _ _ g3
  have pa0 : H pa = none := M3.free _ hpa
  walk_at "go"
  refine ⟨p, C, dx, _, rfl, M4.ob, T.cl, T.f3, (by show 2 < 1000; decide), ?_⟩
  rw [putF3]
  have M5 := M4.put (fl3 (.int num) (.ref po) (.ref pa))
  have g5o := M4.keep (gs := (fl3 (.int num) (.ref po) (.ref pa))) g4o (by intro z; cases z)
  have g5a := M4.keep (gs := (fl3 (.int num) (.ref po) (.ref pa))) g4 (by intro z; cases z)
  generalize upd H4 p (.ins C dx (fl3 (.int num) (.ref po) (.ref pa))) = H5 at *
  walk_at "go"
  walk_at "new"
  rename_i pk hpk H6 s6 g6
  have M6 := M5.same s6
  have pk0 : H pk = none := M5.free _ hpk
  have n1 : po ≠ pk := ne_new hpk g5o
  have n2 : pa ≠ pk := ne_new hpk g5a
  walk_at "go"
  refine ⟨p, C, dx, _, rfl, M6.ob, T.cl, T.f4, (by show 3 < 1000; decide), ?_⟩
  rw [putF4]
  have M7 := M6.put (fl4 (.int num) (.ref po) (.ref pa) (.ref pk))
  have g7o := M6.keep (gs := (fl4 (.int num) (.ref po) (.ref pa) (.ref pk))) (s6 _ _ g5o) (by intro z; cases z)
  have g7a := M6.keep (gs := (fl4 (.int num) (.ref po) (.ref pa) (.ref pk))) (s6 _ _ g5a) (by intro z; cases z)
  have g7k := M6.keep (gs := (fl4 (.int num) (.ref po) (.ref pa) (.ref pk))) g6 (by intro z; cases z)
  generalize upd H6 p (.ins C dx (fl4 (.int num) (.ref po) (.ref pa) (.ref pk))) = H7 at *
  walk_at "go"
  refine ⟨p, C, dx, _, rfl, M7.ob, T.cl, T.f5, (by show 4 < 1000; decide), ?_⟩
  rw [putF5]
  have M8 := M7.put (fl5 (.int num) (.ref po) (.ref pa) (.ref pk) (.bl true))
  have g8o := M7.keep (gs := (fl5 (.int num) (.ref po) (.ref pa) (.ref pk) (.bl true))) g7o (by intro z; cases z)
  have g8a := M7.keep (gs := (fl5 (.int num) (.ref po) (.ref pa) (.ref pk) (.bl true))) g7a (by intro z; cases z)
  have g8k := M7.keep (gs := (fl5 (.int num) (.ref po) (.ref pa) (.ref pk) (.bl true))) g7k (by intro z; cases z)
  generalize upd H7 p (.ins C dx (fl5 (.int num) (.ref po) (.ref pa) (.ref pk) (.bl true))) = H8 at *
  have ob8 := M8.ob
  walk_at "go"
  refine ⟨p, dx, _, rfl, ob8, (by show 5 < 900; decide), fun pc pp H9 hpc hpp nn gc gp M => ?_⟩
  have ob9 := M.ob
  rw [fl5_fgt] at ob9
  have pc0 : H pc = none := M8.free _ hpc
  have pp0 : H pp = none := M8.free _ hpp
  have np : ∀ {a : Addr} {o : HO}, H8 a = some o → (∀ D fs, o ≠ .ins C D fs) → ¬ a ∈ [p] := fun z1 z2 y => by rw [List.mem_singleton.mp y, ob8] at z1; cases z1; exact z2 _ _ rfl
  have kp : ∀ {a : Addr} {o : HO}, H8 a = some o → (∀ D fs, o ≠ .ins C D fs) → H9 a = some o := fun z1 z2 => M.chg.keep _ _ z1 (np z1 z2)
  have gAo := kp g8o (by intro _ _ z; cases z)
  have gAa := kp g8a (by intro _ _ z; cases z)
  have gAk := kp g8k (by intro _ _ z; cases z)
  refine k _ [p, po, pa, pk, pc, pp] ⟨dx, po, pa, pk, pc, [], ⟨[], pp, 0, []⟩, ?_⟩ (M8.chg.trans M.chg) (fun b hb => ?_)
  · exact { ob := ob9, ot := gAo, ag := gAa, bk := gAk, bs := .nil, cn := gc, pg := gp, ct := ⟨fun _ _ => rfl, fun _ _ z => (by cases z), fun _ _ _ z => (by cases z)⟩, pt := ⟨fun _ _ => rfl, fun _ _ z => (by cases z), fun _ _ _ z => (by cases z)⟩, n1 := n1, n2 := n2, n3 := nn,
            m1 := by simp, m2 := by simp, m3 := by simp, m4 := by simp, m5 := by simp, m6 := by simp,
            trk := fun b hb => (by
              simp only [List.mem_cons, List.not_mem_nil, or_false] at hb
              rcases hb with rfl | rfl | rfl | rfl | rfl | rfl
              · exact ⟨_, ob9⟩
              · exact ⟨_, gAo⟩
              · exact ⟨_, gAa⟩
              · exact ⟨_, gAk⟩
              · exact ⟨_, gc⟩
              · exact ⟨_, gp⟩),
            l1 := Nat.le_refl _, l2 := Nat.le_refl _, l3 := fun _ => Nat.le_refl _, l4 := Nat.le_refl _, l5 := Nat.le_refl _, okb := (by intro l hl; cases hl) }
  · simp only [List.mem_cons, List.not_mem_nil, or_false] at hb
    rcases hb with rfl | rfl | rfl | rfl | rfl | rfl
    · exact .inl rfl
    · exact .inr po0
    · exact .inr pa0
    · exact .inr pk0
    · exact .inr pc0
    · exact .inr pp0
/-! ### got_all -/
def LLL (H : Hp) (R : List Addr) (v : V) (ls : List (List Letter)) : Prop := ∃ l ys, v = .ref l ∧ H l = some (.lst ys) ∧ ¬ l ∈ R ∧ Reps H R ys (ls.map lettersD)
theorem LLL.rep {H : Hp} {R : List Addr} {v : V} {ls : List (List Letter)} (h : LLL H R v ls) : Rep H R v (.list (ls.map lettersD)) := by
  obtain ⟨l, ys, rfl, g, n, r⟩ := h
  exact .lst (.inl g) n r
theorem gotAll_snoc (h : HS) (ls : List Letter) (l : Letter) : h.gotAll (ls ++ [l]) = (((h.gotAll ls).1.got l).1, (h.gotAll ls).2 ++ [((h.gotAll ls).1.got l).2]) := by
  induction ls generalizing h with
  | nil => simp [HS.gotAll]
  | cons x r ih => simp [HS.gotAll, ih]
theorem gotAll_len (h : HS) (ls : List Letter) : (h.gotAll ls).2.length = ls.length := by
  induction ls generalizing h with
  | nil => rfl
  | cons x r ih => simp [HS.gotAll, ih]
theorem got_oth (h : HS) (l : Letter) : (h.got l).1.oth = h.oth := by
  unfold HS.got HS.gotAsk HS.asked HS.gotQuery HS.gotVote HS.gotDecision HS.decide HS.count HS.wr
  repeat' split
  all_goals rfl
theorem gotAll_oth (h : HS) (ls : List Letter) : (h.gotAll ls).1.oth = h.oth := by
  induction ls generalizing h with
  | nil => rfl
  | cons x r ih => exact (ih _).trans (got_oth h x)
theorem letter_at {H : Hp} {S : List Addr} {b : List Letter} {xs : List V} {i : Nat} {x : V} (rs : Reps H S xs (b.map letterD)) (hx : xs[i]? = some x) :
    ∃ l t, b[i]? = some l ∧ x = .ref t ∧ Rd H t (.tup [.int l.1, .int l.2.1, .int l.2.2.1, .str l.2.2.2]) := by
  obtain ⟨d, hd, rx⟩ := rs.get hx
  rw [List.getElem?_map] at hd
  cases hb : b[i]? with
  | none => rw [hb] at hd; cases hd
  | some l =>
    rw [hb] at hd
    have e : letterD l = d := Option.some.inj hd
    subst e
    obtain ⟨t, ys, rfl, rt, rs'⟩ := rx.tup_inv
    obtain ⟨y1, r1, rfl, h1, t1⟩ := rs'.cons_inv
    obtain ⟨y2, r2, rfl, h2, t2⟩ := t1.cons_inv
    obtain ⟨y3, r3, rfl, h3, t3⟩ := t2.cons_inv
    obtain ⟨y4, r4, rfl, h4, t4⟩ := t3.cons_inv
    cases t4.nil_inv
    rw [h1.int_inv, h2.int_inv, h3.int_inv, h4.str_inv] at rt
    exact ⟨l, t, rfl, rfl, rt⟩
def sp_got_all (C : Addr) : Sp := fun vs H Q _ => ∃ p a ls xs h R N, vs = [.ref p, .ref a] ∧ HouseAt C H p h R N ∧ H a = some (.lst xs) ∧ ¬ a ∈ R ∧ Reps H [] xs (ls.map letterD) ∧ N + 3 * ls.length ≤ 790000 ∧ h.oth.length ≤ 900000 ∧ (∀ l ∈ ls, PyData.strOk l.2.2.2 = true) ∧
  ∀ v H' R', Move C p H R H' (h.gotAll ls).1 R' (N + 3 * ls.length) → LLL H' R' v (h.gotAll ls).2 → Q v H'
theorem rd_got_all {K : PySem.W.Frag} {C : Addr} {vs : List V} {H : Hp} {Q : VK} {E : XK} (T : HouseTxt K C) (h : sp_got_all C vs H Q E) : R_got_all K (sp_House_got C) C { nx := fun _ H' => Q .non H', rt := Q } (start ["house", "letters"] vs) H := by
  obtain ⟨p, a, ls, xs, h, R, N, rfl, I, ga, na, rs, hN, hol, ok, k⟩ := h
  have hxl : xs.length = ls.length := by rw [rs.length, List.length_map]
  unfold R_got_all
  walk_at "go"
  intro q hq
  have trk : ∀ a ∈ R, ∃ o, H a = some o := by obtain ⟨dx, po, pa, pk, pc, xs, kvs, I⟩ := I; exact I.trk
  have nqa : a ≠ q := ne_new hq ga
  refine lc_list (K := K) (a := a) (xs := xs) (fun i ys σ H' => ∃ v R', σ = [v, some (.ref p)] ∧ HouseAt C H' p (h.gotAll (ls.take i)).1 R' (N + 3 * i) ∧ Chg R H H' ∧ (Grow R H R' ∧ ∀ a ∈ R, a ∈ R') ∧ ¬ q ∈ R' ∧ H' a = some (.lst xs) ∧ Reps H' (q :: R') ys ((h.gotAll (ls.take i)).2.map lettersD))
    ⟨none, R, rfl, I.same (Same.new hq), .new hq, ⟨.refl _ _, fun _ h => h⟩, notin_new trk hq, upd_at nqa ga, .nil⟩ ?_ ?_ ?_
  · rintro i ys σ H' hi hq' ⟨v, R', rfl, J, c, ⟨g, sb⟩, nq, gl, rr⟩
    exact sqL gl
  · rintro i x ys σ H1 hx hq' ⟨v, R', rfl, J, c, ⟨g, sb⟩, nq, gl, rr⟩
    obtain ⟨l, t, hb, rfl, rt⟩ := letter_at (letters_chg rs c) hx
    have hi : i < ls.length := (List.getElem?_eq_some_iff.mp hb).1
    obtain ⟨dx, po, pa, pk, pc, xs1, kvs, I1⟩ := id J
    have ob1 := I1.ob
    walk_at "go"
    rw [if_pos rfl]
    walk_at "go"
    refine ⟨p, t, l, _, R', N + 3 * i, rfl, J, rt, by omega, by rw [gotAll_oth]; exact hol, ok l (List.mem_of_getElem? hb), ?_⟩
    intro w H2 R2 m2 ⟨l2, zs, ew, g2, n2, rs2⟩ fw
    subst ew
    have gq2 := m2.chg.keep _ _ hq' nq
    have nq2 : ¬ q ∈ R2 := fun y => (m2.gr _ y).elim nq fun z => by rw [hq'] at z; cases z
    have na1 : ¬ a ∈ R' := fun y => (g _ y).elim na fun z => by rw [ga] at z; cases z
    have ga2 := m2.chg.keep _ _ gl na1
    have nl2 : l2 ≠ q := (ne_new (fw _ rfl) hq').symm
    have hyl : ys.length = i := by rw [rr.length, List.length_map, gotAll_len, List.length_take]; omega
    have cq : Chg [q] H2 (upd H2 q (.lst (ys ++ [.ref l2]))) := .set (by rw [gq2]; exact True.intro) (by simp)
    refine ⟨ys, gq2, len_small (by omega), ys ++ [.ref l2], upd_same, _, R2, rfl, ?_, (c.grow g m2.chg).put hq, ⟨g.trans c m2.gr, fun x hx => m2.sb x (sb x hx)⟩, nq2, upd_at nqa ga2, ?_⟩
    · rw [take_snoc hb, gotAll_snoc]
      exact (m2.at_.chg cq fun b hb y => by rw [List.mem_singleton.mp y] at hb; exact nq2 hb).more (by omega)
    · rw [take_snoc hb, gotAll_snoc, List.map_append]
      have gr2 : Grow (q :: R') H1 (q :: R2) := fun b hb => by
        rcases List.mem_cons.mp hb with z | z
        · exact .inl (by simp [z])
        · exact (m2.gr b z).imp (fun y => List.mem_cons_of_mem _ y) id
      have r1 := ((rr.grow gr2).chg (m2.chg.mono fun b hb => List.mem_cons_of_mem _ (m2.sb b hb))).chg (cq.mono fun b hb => by rw [List.mem_singleton.mp hb]; simp)
      refine r1.snoc (.lst (.inl (upd_at nl2 g2)) (fun y => ?_) (letters_any (letters_chg rs2 cq)))
      rcases List.mem_cons.mp y with z | z
      · exact nl2 z
      · exact n2 z
  · rintro ys σ H1 hq' ⟨v, R', rfl, J, c, ⟨g, sb⟩, nq, gl, rr⟩
    rw [hxl, List.take_length] at J rr
    exact k _ _ _ ⟨J, c, g, sb⟩ ⟨_, _, rfl, hq', nq, rr.mono (by intro b hb; exact List.mem_cons_of_mem _ hb)⟩
/-! ### query, is_spent -/
def HS.query (h : HS) (n : Int) : List Letter := if h.up = true ∧ unsure h.book n = true then h.toOthers n "query" else []
def sp_House_query (C : Addr) : Sp := fun vs H Q _ => ∃ p n h R N, vs = [.ref p, .int n] ∧ HouseAt C H p h R N ∧ N ≤ 800000 ∧ h.oth.length ≤ 900000 ∧ Ret C p H R N (h, h.query n) Q
theorem rd_House_query {K : PySem.W.Frag} {C : Addr} {vs : List V} {H : Hp} {Q : VK} {E : XK} (T : HouseTxt K C) (h : sp_House_query C vs H Q E) :
    R_House_query K sp_is_unsure (sp_House_page C) (sp_House_to_others C) C { nx := fun _ H' => Q .non H', rt := Q } (start ["self", "bargain"] vs) H := by
  obtain ⟨p, n, h, R, N, rfl, I, hN, hol, k⟩ := h
  obtain ⟨cl, f1, f2, f3, f4, f5, f6, f7, f8⟩ := T
  obtain ⟨dx, po, pa, pk, pc, xs, kvs, I0⟩ := id I
  have ob := I0.ob
  have hl1 := I0.l1
  unfold R_House_query
  unfold HS.query at k
  walk_at "go"
  cases hu : h.up with
  | false =>
    rw [hu] at k
    rw [if_neg (by simp)] at k
    rw [if_pos (by rfl), if_pos (by rfl)]
    walk_at "goA"
    rename_i l hl H2 s2 g2
    exact k.nil I (Nat.le_refl _) s2 hl g2
  | true =>
    rw [hu] at k
    rw [if_neg (by decide)]
    walk_at "go"
    refine ⟨p, n, h, R, N, rfl, I, by omega, fun q H0 R0 m0 r0 => ?_⟩
    walk_at "go"
    refine ⟨q, pageOf h.book n, n, rfl, r0, Nat.le_trans (pageOf_len _ _) (by omega), fun H1 s1 => ?_⟩
    rw [pageOf_unsure]
    have m1 := m0.trans (m0.at_.move s1)
    obtain ⟨dx1, po1, pa1, pk1, pc1, xs1, kvs1, I1⟩ := id m1.at_
    have ob1 := I1.ob
    have k1 := k.after m1
    walk_at "go"
    cases e : unsure h.book n with
    | true =>
      rw [if_pos (by simp [e])] at k1
      rw [if_neg (by simp)]
      walk_at "go"
      exact ⟨p, n, "query", h, R0, N, rfl, m1.at_, hol, fun v H2 s2 r f => k1.done m1.at_ (Nat.le_refl _) s2 r f⟩
    | false =>
      rw [if_neg (by simp [e])] at k1
      rw [if_pos (by simp)]
      walk_at "goA"
      rename_i l hl H2 s2 g2
      exact k1.nil m1.at_ (Nat.le_refl _) s2 hl g2
def HS.spent (h : HS) (l : Letter) : Bool := Decidable.decide (l.2.2.2 = "no" ∨ l.2.2.2 = "bound" ∨ l.2.2.2 = "off") && !Decidable.decide (decisionIn h.book l.2.2.1 = none)
theorem in_spent (w : Str) : inV (.str w) [.str "no", .str "bound", .str "off"] = decide (w = "no" ∨ w = "bound" ∨ w = "off") := by
  have := in_strs w ["no", "bound", "off"]
  simp only [List.map_cons, List.map_nil] at this
  rw [this]; simp [List.mem_cons]
def sp_House_is_spent (C : Addr) : Sp := fun vs H Q _ => ∃ p t l h R N, vs = [.ref p, .ref t] ∧ HouseAt C H p h R N ∧ Rd H t (.tup [.int l.1, .int l.2.1, .int l.2.2.1, .str l.2.2.2]) ∧ N ≤ 800000 ∧ ∀ H' R', Move C p H R H' h R' N → Q (.bl (h.spent l)) H'
theorem rd_House_is_spent {K : PySem.W.Frag} {C : Addr} {vs : List V} {H : Hp} {Q : VK} {E : XK} (T : HouseTxt K C) (h : sp_House_is_spent C vs H Q E) :
    R_House_is_spent K (sp_House_decision C) C { nx := fun _ H' => Q .non H', rt := Q } (start ["self", "letter"] vs) H := by
  obtain ⟨p, t, ⟨g, to, n, w⟩, h, R, N, rfl, I, gt, hN, k⟩ := h
  obtain ⟨dx, po, pa, pk, pc, xs, kvs, I0⟩ := id I
  have ob := I0.ob
  unfold R_House_is_spent
  unfold HS.spent at k
  dsimp only at gt k
  walk_at "goA"
  rename_i q hq H1 s1 g1
  show if (if true = true then !(inV (.str w) _) else _) = true then _ else _
  rw [if_pos rfl, in_spent]
  have ob1 := s1 _ _ ob
  by_cases e : w = "no" ∨ w = "bound" ∨ w = "off"
  · rw [if_neg (by simp [e])]
    rw [decide_eq_true e, Bool.true_and] at k
    have gt1 := gt.same s1
    walk_at "go"
    refine ⟨p, n, h, R, N, rfl, I.same s1, by omega, fun H2 R2 m2 => ?_⟩
    walk_at "go"
    have kk := k _ _ ((I.move s1).trans m2)
    cases ed : decisionIn h.book n with
    | none => rw [ed] at kk; exact kk
    | some d => rw [ed] at kk; exact kk
  · rw [if_pos (by simp [e])]
    rw [decide_eq_false e, Bool.false_and] at k
    walk_at "go"
    exact k _ _ (I.move s1)
end Oh


set_option Elab.async false
set_option linter.all false
set_option maxRecDepth 100000
set_option maxHeartbeats 4000000
namespace Oh
open PySem L2
def R_law_whole (K : PySem.W.Frag)  : TS :=
    (tRet (tAndV (tCB (rIsi K) (tCons (tVar 0) (tCons (tC (.ty "int")) tNil))) (tNotV (tCB (rIsi K) (tCons (tVar 0) (tCons (tC (.ty "bool")) tNil))))))
def R_law_at (K : PySem.W.Frag)  : TS :=
    (tSeq (tIfS (tTest (tOp rLtI (tVar 1) (tCB (rLenQ K) (tCons (tVar 0) tNil))))
    (tRet (tOp (rIxL K) (tVar 0) (tVar 1)))
    tNext)
    (tRet (tC (.int 0))))
def R_law_is_line (K : PySem.W.Frag) (sp_law_whole : Sp) : TS :=
    (tSeq (tIfS (tOr (tNot (tB (tCB (rIsi K) (tCons (tVar 0) (tCons (tC (.ty "tuple")) tNil))))) (tTest (tOp rNe (tCB (rLenQ K) (tCons (tVar 0) tNil)) (tC (.int 2)))))
    (tRet (tC (.bl false)))
    tNext)
    (tSeq (tIfS (tOr (tNot (tB (tCB (rIsi K) (tCons (tOp (rIxT K) (tVar 0) (tC (.int 0))) (tCons (tC (.ty "str")) tNil))))) (tNot (tB (tCall sp_law_whole [] E0 (tCons (tOp (rIxT K) (tVar 0) (tC (.int 1))) tNil)))))
    (tRet (tC (.bl false)))
    tNext)
    (tRet (tOp (rIn K false) (tOp (rIxT K) (tVar 0) (tC (.int 0))) (tLst (tCons (tC (.str "open")) (tCons (tC (.str "yes")) (tCons (tC (.str "no")) (tCons (tC (.str "bound")) (tCons (tC (.str "off")) tNil))))))))))
def R_law_are_lines (K : PySem.W.Frag) (sp_law_is_line : Sp) : TS :=
    (tSeq (tIfS (tNot (tB (tCB (rIsi K) (tCons (tVar 0) (tCons (tC (.ty "list")) tNil)))))
    (tRet (tC (.bl false)))
    tNext)
    (tSeq (tFor (iList K (tVar 0)) (gName 1)
    (tIfS (tNot (tB (tCall sp_law_is_line [] E0 (tCons (tVar 1) tNil))))
    (tRet (tC (.bl false)))
    tNext))
    (tRet (tC (.bl true)))))
def R_law_is_letter (K : PySem.W.Frag) (sp_law_whole : Sp) : TS :=
    (tSeq (tIfS (tOr (tNot (tB (tCB (rIsi K) (tCons (tVar 0) (tCons (tC (.ty "tuple")) tNil))))) (tOr (tTest (tOp rNe (tCB (rLenQ K) (tCons (tVar 0) tNil)) (tC (.int 4)))) (tNot (tB (tCB (rIsi K) (tCons (tOp (rIxT K) (tVar 0) (tC (.int 3))) (tCons (tC (.ty "str")) tNil)))))))
    (tRet (tC (.bl false)))
    tNext)
    (tSeq (tFor (iTup K (tSl (rSlT K) (tVar 0) tNoPart (tPart (tC (.int 3))))) (gName 2)
    (tIfS (tNot (tB (tCall sp_law_whole [] E0 (tCons (tVar 2) tNil))))
    (tRet (tC (.bl false)))
    tNext))
    (tSeq (tIfS (tTest (tOp (rIn K true) (tOp (rIxT K) (tVar 0) (tC (.int 3))) (tLst (tCons (tC (.str "ask")) (tCons (tC (.str "yes")) (tCons (tC (.str "no")) (tCons (tC (.str "bound")) (tCons (tC (.str "off")) (tCons (tC (.str "query")) tNil)))))))))
    (tRet (tC (.bl false)))
    tNext)
    (tRet (tAndV (tChain rLeI rLtI (tC (.int 0)) (tOp (rIxT K) (tVar 0) (tC (.int 0))) (tVar 1)) (tAndV (tChain rLeI rLtI (tC (.int 0)) (tOp (rIxT K) (tVar 0) (tC (.int 1))) (tVar 1)) (tOp rNe (tOp (rIxT K) (tVar 0) (tC (.int 0))) (tOp (rIxT K) (tVar 0) (tC (.int 1))))))))))
def R_law_are_letters (K : PySem.W.Frag) (sp_law_is_letter : Sp) : TS :=
    (tSeq (tIfS (tNot (tB (tCB (rIsi K) (tCons (tVar 0) (tCons (tC (.ty "list")) tNil)))))
    (tRet (tC (.bl false)))
    tNext)
    (tSeq (tFor (iList K (tVar 0)) (gName 2)
    (tIfS (tNot (tB (tCall sp_law_is_letter [] E0 (tCons (tVar 2) (tCons (tVar 1) tNil)))))
    (tRet (tC (.bl false)))
    tNext))
    (tRet (tC (.bl true)))))
end Oh


set_option Elab.async false
set_option linter.all false
set_option maxRecDepth 100000
set_option maxHeartbeats 4000000
namespace Oh
open PySem L2
local macro_rules | `(tactic| walk_at "ne") => `(tactic| first | assumption | (refine' Ne.symm ?k1; (case k1 => assumption)) | (refine' ne_new ?k1 ?k2; (case k1 => assumption); (case k2 => walk_at "hl")) | (refine' ne_newR ?k1 ?k2; (case k1 => assumption); (case k2 => walk_at "rd")) | (refine' Ne.symm (ne_new ?k1 ?k2); (case k1 => assumption); (case k2 => walk_at "hl")) | (refine' Ne.symm (ne_newR ?k1 ?k2); (case k1 => assumption); (case k2 => walk_at "rd")))
local macro_rules | `(tactic| walk_at "hl") => `(tactic| with_reducible first | assumption | exact upd_same | (refine' upd_at ?k1 ?k2; (case k1 => walk_at "ne"); (case k2 => walk_at "hl")) | (refine' Same.at ?k1 ?k2; (case k1 => assumption); (case k2 => walk_at "hl")))
local macro_rules | `(tactic| walk_at "rd") => `(tactic| with_reducible first | assumption | (refine' Rd.of ?k1; (case k1 => walk_at "hl")) | (refine' Rd.upd ?k1 ?k2; (case k1 => walk_at "ne"); (case k2 => walk_at "rd")) | (refine' Rd.same ?k1 ?k2; (case k1 => assumption); (case k2 => walk_at "rd")))
local macro_rules | `(tactic| walk_at "sq") => `(tactic| with_reducible first | assumption | (refine' sqLr ?k1; (case k1 => walk_at "rd")) | (refine' sqTr ?k1; (case k1 => walk_at "rd")) | (refine' SqL.new ?k1 ?k2; (case k1 => assumption); (case k2 => walk_at "sq")) | (refine' Same.seq ?k1 ?k2; (case k1 => assumption); (case k2 => walk_at "sq")))
local macro_rules | `(tactic| walk_at "rf") => `(tactic| first | with_unfolding_all rfl | assumption)
local macro_rules | `(tactic| walk_at "fl") => `(tactic| first | with_unfolding_all rfl | exact flat_strs _ | exact flat_ints _)
local macro_rules | `(tactic| walk_at "st") => `(tactic| with_reducible first
  | refine st_seq ?_ | refine st_asg ?_ | refine st_gname ?_ | refine st_if ?_ | refine st_ret ?_ | refine st_retN ?_
  | refine st_drop ?_ | refine st_next ?_ | refine st_test ?_ | refine st_B ?_ | refine st_bl ?_ | refine st_int ?_
  | refine st_and ?_ | refine st_or ?_ | refine st_not ?_ | refine st_andV ?_ | refine st_orV ?_ | refine st_notV ?_ | refine st_ifE ?_
  | refine st_chain ?_ | refine st_op ?_ | refine st_un ?_ | refine st_isN ?_ | refine st_notN ?_
  | refine st_nil ?_ | refine st_cons ?_ | refine st_tup ?_ | refine st_lst ?_ | refine st_dnew ?_ | refine st_call ?_ | refine st_cb ?_
  | (refine' st_var ?k1 ?_; (case k1 => walk_at "rf")) | refine st_c ?_
  | refine st_rI0 ?_ | refine st_rU ?_ | (refine' st_rI ?k1 ?_; (case k1 => first | exact mulR (by decide) | exact divR (by decide) | decide | (show (0 : Int) < _; decide)))
  | (refine' st_rEq ?k1 ?_; (case k1 => walk_at "rf")) | (refine' st_rNe ?k1 ?_; (case k1 => walk_at "rf"))
  | (refine' st_ixL ?k1 ?k2 ?_; (case k1 => walk_at "sq"); (case k2 => walk_at "rf")) | (refine' st_ixT ?k1 ?k2 ?_; (case k1 => walk_at "sq"); (case k2 => walk_at "rf"))
  | (refine' st_lenL ?k1 ?_; (case k1 => walk_at "sq")) | (refine' st_lenT ?k1 ?_; (case k1 => walk_at "sq"))
  | (refine' st_inL ?k1 ?k2 ?k3 ?_; (case k1 => walk_at "sq"); (case k2 => walk_at "rf"); (case k3 => walk_at "fl"))
  | (refine' st_inT ?k1 ?k2 ?k3 ?_; (case k1 => walk_at "sq"); (case k2 => walk_at "rf"); (case k3 => walk_at "fl"))
  | (refine' st_listL ?k1 ?_; (case k1 => walk_at "sq")) | refine st_min ?_ | refine st_intB ?_
  | refine st_sl ?_ | refine st_noPart ?_ | refine st_part ?_ | (refine' st_slL ?k1 ?_; (case k1 => walk_at "sq"))
  | refine st_meth ?_ | (refine' st_insM ?k1 ?k2 ?_; (case k1 => walk_at "hl"); (case k2 => walk_at "rf")) | refine st_sfld ?_
  | (refine' st_ins ?k1 ?k2 ?k3 ?k4 ?_; (case k1 => walk_at "hl"); (case k2 => assumption); (case k3 => assumption); (case k4 => walk_at "rf")) | (refine' st_lenD ?k1 ?_; (case k1 => walk_at "hl"))
  | refine st_bm ?_ | refine st_fld ?_ | refine st_dput ?_ | refine st_dget2 ?_ | refine st_dget ?_ | refine st_dsetd ?_
  | refine st_for ?_ | refine st_iList ?_ | (refine' st_itl ?k1 ?_; (case k1 => walk_at "sq")) | refine st_iRng ?_ | refine st_lc ?_ | refine st_noIf ?_
  | (refine' st_sz ?k1 ?_; (case k1 => with_unfolding_all rfl))
  | (refine' st_isD ?k1 ?_; (case k1 => walk_at "hl")) | (refine' st_dgetK ?k1 ?_; (case k1 => walk_at "hl")))
local macro_rules | `(tactic| walk_at "go") => `(tactic| repeat walk_at "st")
local macro_rules | `(tactic| walk_at "new") => `(tactic| ((with_reducible refine st_all ?_); intro p hp; generalize hH : upd _ p _ = H'; have hs := same_of hp hH; have hg := at_of hH; clear hH))
local macro_rules | `(tactic| walk_at "sm") => `(tactic| with_reducible first | assumption | exact Same.refl _ | (refine' Same.trans ?k1 ?k2; (case k2 => assumption); (case k1 => walk_at "sm")))
local macro_rules | `(tactic| walk_at "goA") => `(tactic| repeat (first | walk_at "st" | walk_at "new"))
theorem kit_int_bool (K : PySem.W.Frag) : PySem.W.kitOne K (.type "int") (.type "bool") = some false := by with_unfolding_all rfl
def sp_law_whole : Sp := fun vs H Q _ => ∃ i : Int, vs = [.int i] ∧ Q (.bl true) H
theorem rd_law_whole {K : PySem.W.Frag} {vs : List V} {H : Hp} {Q : VK} {E : XK} (h : sp_law_whole vs H Q E) : R_law_whole K { nx := fun _ H' => Q .non H', rt := Q } (start ["_law_found"] vs) H := by
  obtain ⟨i, rfl, k⟩ := h
  unfold R_law_whole
  walk_at "go"
  refine ⟨_, _, _, true, rfl, TyO.int _, kit_same _ _, ?_⟩
  walk_at "go"
  refine iteT ?_
  walk_at "go"
  refine ⟨_, _, _, false, rfl, TyO.int _, kit_int_bool _, ?_⟩
  walk_at "go"
  exact k
/-- script[k], or nought: some int -/
def sp_law_at (K : PySem.W.Frag) : Sp := fun vs H Q _ => ∃ (a : Addr) (ns : List Int) (k : Nat), vs = [.ref a, .int k] ∧ SqL K H a (ns.map .int) ∧ ∀ z : Int, Q (.int z) H
theorem rd_law_at {K : PySem.W.Frag} {vs : List V} {H : Hp} {Q : VK} {E : XK} (h : sp_law_at K vs H Q E) : R_law_at K { nx := fun _ H' => Q .non H', rt := Q } (start ["_law_script", "_law_k"] vs) H := by
  obtain ⟨a, ns, k, rfl, hS, q⟩ := h
  unfold R_law_at
  walk_at "go"
  by_cases e : k < ns.length
  · rw [if_pos (by simp only [List.length_map, decide_eq_true_eq]; show (k : Int) < (ns.length : Int); omega)]
    have hat : atI (ns.map V.int) (k : Int) = some (.int ns[k]) := atI_nat (by simp [e])
    walk_at "go"
    exact q _
  · rw [if_neg (by simp only [List.length_map, decide_eq_true_eq]; show ¬ (k : Int) < (ns.length : Int); omega)]
    walk_at "go"
    exact q _
/-! ### lines -/
def isLineW (w : Str) : Prop := w = "open" ∨ w = "yes" ∨ w = "no" ∨ w = "bound" ∨ w = "off"
theorem in_lineW {w : Str} (h : isLineW w) : inV (.str w) [.str "open", .str "yes", .str "no", .str "bound", .str "off"] = true := by
  have := in_strs w ["open", "yes", "no", "bound", "off"]
  simp only [List.map_cons, List.map_nil] at this
  rw [this]
  exact decide_eq_true (by simp only [List.mem_cons, List.not_mem_nil, or_false]; exact h)
theorem isLineW.ok {w : Str} (h : isLineW w) : PyData.strOk w = true := by rcases h with rfl | rfl | rfl | rfl | rfl <;> decide +kernel
def sp_law_is_line : Sp := fun vs H Q _ => ∃ t w n, vs = [.ref t] ∧ Rd H t (.tup [.str w, .int n]) ∧ isLineW w ∧ ∀ H', Same H H' → Q (.bl true) H'
theorem rd_law_is_line {K : PySem.W.Frag} {vs : List V} {H : Hp} {Q : VK} {E : XK} (h : sp_law_is_line vs H Q E) : R_law_is_line K sp_law_whole { nx := fun _ H' => Q .non H', rt := Q } (start ["_law_found"] vs) H := by
  obtain ⟨t, w, n, rfl, rt, hw, k⟩ := h
  unfold R_law_is_line
  walk_at "go"
  refine ⟨_, _, _, true, rfl, TyO.tup rt, kit_same _ _, ?_⟩
  walk_at "go"
  refine iteF ?_
  refine st_test (st_op (st_cb (st_cons (st_var (by rfl) (st_nil (st_lenT (sqTr rt) ?_))))))
  walk_at "go"
  rw [if_neg (by simp)]
  walk_at "go"
  refine ⟨_, _, _, true, rfl, TyO.str _, kit_same _ _, ?_⟩
  walk_at "go"
  refine iteF ?_
  walk_at "go"
  refine ⟨n, rfl, ?_⟩
  walk_at "go"
  refine iteF ?_
  walk_at "goA"
  rename_i q hq H1 s1 g1
  show Q (.bl (if false = true then _ else inV (.str w) _)) H1
  rw [if_neg (by decide : ¬ (false = true)), in_lineW hw]
  exact k H1 s1
def LineWs (b : List Line) : Prop := ∀ l ∈ b, isLineW l.1
def sp_law_are_lines : Sp := fun vs H Q _ => ∃ a b, vs = [.ref a] ∧ Rep H [] (.ref a) (bookD b) ∧ LineWs b ∧ ∀ H', Same H H' → Q (.bl true) H'
theorem rd_law_are_lines {K : PySem.W.Frag} {vs : List V} {H : Hp} {Q : VK} {E : XK} (h : sp_law_are_lines vs H Q E) : R_law_are_lines K sp_law_is_line { nx := fun _ H' => Q .non H', rt := Q } (start ["_law_found", "_law_line"] vs) H := by
  obtain ⟨a, b, rfl, hb, hw, k⟩ := h
  obtain ⟨_, xs, e, rd, _, rs⟩ := id hb.lst_inv
  cases e
  unfold R_law_are_lines
  walk_at "go"
  refine ⟨_, _, _, true, rfl, TyO.list rd, kit_same _ _, ?_⟩
  walk_at "go"
  refine iteF ?_
  walk_at "go"
  refine for_list (K := K) (a := a) (xs := xs) (fun i σ H' => ∃ v, σ = [some (.ref a), v] ∧ Same H H') ⟨none, rfl, Same.refl _⟩ ?_ ?_ ?_
  · rintro i σ H' hi ⟨v, rfl, s⟩
    exact s.seq (sqLr rd)
  · rintro i x σ H' hx ⟨v, rfl, s⟩
    obtain ⟨l, t, hb', rfl, rt⟩ := line_at rs hx
    walk_at "go"
    refine ⟨t, l.1, l.2, rfl, rt.same s, hw l (List.mem_of_getElem? hb'), fun H2 s2 => ?_⟩
    walk_at "go"
    refine iteF ?_
    walk_at "go"
    exact ⟨_, rfl, s.trans s2⟩
  · rintro σ H' ⟨v, rfl, s⟩
    walk_at "go"
    exact k H' s
/-! ### letters -/
def isLetW (w : Str) : Prop := w = "ask" ∨ w = "yes" ∨ w = "no" ∨ w = "bound" ∨ w = "off" ∨ w = "query"
theorem in_letW {w : Str} (h : isLetW w) : inV (.str w) [.str "ask", .str "yes", .str "no", .str "bound", .str "off", .str "query"] = true := by
  have := in_strs w ["ask", "yes", "no", "bound", "off", "query"]
  simp only [List.map_cons, List.map_nil] at this
  rw [this]
  exact decide_eq_true (by simp only [List.mem_cons, List.not_mem_nil, or_false]; exact h)
theorem isLetW.ok {w : Str} (h : isLetW w) : PyData.strOk w = true := by rcases h with rfl | rfl | rfl | rfl | rfl | rfl <;> decide +kernel
def GoodL (c : Int) (l : Letter) : Prop := 0 ≤ l.1 ∧ l.1 < c ∧ 0 ≤ l.2.1 ∧ l.2.1 < c ∧ l.1 ≠ l.2.1 ∧ isLetW l.2.2.2
def sp_law_is_letter : Sp := fun vs H Q _ => ∃ t c l, vs = [.ref t, .int c] ∧ Rd H t (.tup [.int l.1, .int l.2.1, .int l.2.2.1, .str l.2.2.2]) ∧ GoodL c l ∧ ∀ H', Same H H' → Q (.bl true) H'
theorem rd_law_is_letter {K : PySem.W.Frag} {vs : List V} {H : Hp} {Q : VK} {E : XK} (h : sp_law_is_letter vs H Q E) : R_law_is_letter K sp_law_whole { nx := fun _ H' => Q .non H', rt := Q } (start ["_law_found", "_law_count", "_law_number"] vs) H := by
  obtain ⟨t, c, ⟨g, to, n, w⟩, rfl, rt, ⟨h1, h2, h3, h4, h5, hw⟩, k⟩ := h
  dsimp only at rt h1 h2 h3 h4 h5 hw
  unfold R_law_is_letter
  walk_at "go"
  refine ⟨_, _, _, true, rfl, TyO.tup rt, kit_same _ _, ?_⟩
  walk_at "go"
  refine iteF ?_
  refine st_or (st_test (st_op (st_cb (st_cons (st_var (by rfl) (st_nil (st_lenT (sqTr rt) ?_)))))))
  walk_at "go"
  rw [if_neg (by simp)]
  walk_at "go"
  refine ⟨_, _, _, true, rfl, TyO.str _, kit_same _ _, ?_⟩
  walk_at "go"
  refine iteF ?_
  walk_at "go"
  refine ⟨_, rfl, 3, rfl, t, _, rfl, sqTr rt, by simp [HT.sIx], fun p hp => ?_⟩
  refine ⟨p, rfl, ⟨_, sqT upd_same⟩, ?_⟩
  have s1 : Same H (upd H p (.tup [.int g, .int to, .int n])) := Same.new hp
  have g1 : upd H p (.tup [.int g, .int to, .int n]) p = some (.tup [.int g, .int to, .int n]) := upd_same
  show ∃ W : Nat → Nat → St → Hp → Prop, (∃ m, W 0 m _ (upd H p (.tup [.int g, .int to, .int n]))) ∧ _
  generalize upd H p (.tup [.int g, .int to, .int n]) = H1 at *
  refine for_tup (K := K) (a := p) (xs := [.int g, .int to, .int n]) (fun i σ H' => ∃ v, σ = [some (.ref t), some (.int c), v] ∧ H' = H1) ⟨none, rfl, rfl⟩ ?_ ?_ ?_
  · rintro i σ H' hi ⟨v, rfl, rfl⟩
    exact sqT g1
  · rintro i x σ H' hx ⟨v, rfl, rfl⟩
    obtain ⟨z, rfl⟩ : ∃ z, x = V.int z := by
      have := List.mem_of_getElem? hx
      simp only [List.mem_cons, List.not_mem_nil, or_false] at this
      rcases this with rfl | rfl | rfl <;> exact ⟨_, rfl⟩
    walk_at "go"
    refine ⟨z, rfl, ?_⟩
    walk_at "go"
    refine iteF ?_
    walk_at "go"
    exact ⟨_, rfl, rfl⟩
  · rintro σ H' ⟨v, rfl, rfl⟩
    have rt1 := rt.same s1
    walk_at "goA"
    rename_i q hq H2 s2 g2
    show if (if true = true then !inV (.str w) _ else _) = true then _ else _
    rw [if_pos (rfl : true = true), in_letW hw]
    refine iteF ?_
    have rt2 := rt1.same s2
    walk_at "go"
    rw [if_pos (decide_eq_true h1)]
    walk_at "go"
    rw [if_pos (decide_eq_true h2)]
    walk_at "go"
    rw [if_pos (decide_eq_true h3)]
    walk_at "go"
    rw [if_pos (decide_eq_true h4)]
    walk_at "go"
    rw [show (!decide (V.int g = V.int to)) = true by simp [h5]]
    exact k H2 (s1.trans s2)
def GoodLs (c : Int) (ls : List Letter) : Prop := ∀ l ∈ ls, GoodL c l
def sp_law_are_letters : Sp := fun vs H Q _ => ∃ a c ls, vs = [.ref a, .int c] ∧ Rep H [] (.ref a) (lettersD ls) ∧ GoodLs c ls ∧ ∀ H', Same H H' → Q (.bl true) H'
theorem rd_law_are_letters {K : PySem.W.Frag} {vs : List V} {H : Hp} {Q : VK} {E : XK} (h : sp_law_are_letters vs H Q E) : R_law_are_letters K sp_law_is_letter { nx := fun _ H' => Q .non H', rt := Q } (start ["_law_found", "_law_count", "_law_letter"] vs) H := by
  obtain ⟨a, c, ls, rfl, hb, hw, k⟩ := h
  obtain ⟨_, xs, e, rd, _, rs⟩ := id hb.lst_inv
  cases e
  unfold R_law_are_letters
  walk_at "go"
  refine ⟨_, _, _, true, rfl, TyO.list rd, kit_same _ _, ?_⟩
  walk_at "go"
  refine iteF ?_
  walk_at "go"
  refine for_list (K := K) (a := a) (xs := xs) (fun i σ H' => ∃ v, σ = [some (.ref a), some (.int c), v] ∧ Same H H') ⟨none, rfl, Same.refl _⟩ ?_ ?_ ?_
  · rintro i σ H' hi ⟨v, rfl, s⟩
    exact s.seq (sqLr rd)
  · rintro i x σ H' hx ⟨v, rfl, s⟩
    obtain ⟨l, t, hb', rfl, rt⟩ := letter_at rs hx
    walk_at "go"
    refine ⟨t, c, l, rfl, rt.same s, hw l (List.mem_of_getElem? hb'), fun H2 s2 => ?_⟩
    walk_at "go"
    refine iteF ?_
    walk_at "go"
    exact ⟨_, rfl, s.trans s2⟩
  · rintro σ H' ⟨v, rfl, s⟩
    walk_at "go"
    exact k H' s
/-! ### data of letters -/
theorem canLay_letters {ls : List Letter} (ok : ∀ l ∈ ls, PyData.strOk l.2.2.2 = true) : PyData.canLayAll0 (ls.map letterD) = true := by
  induction ls with
  | nil => rfl
  | cons l r ih =>
    rw [List.map_cons, PyData.canLayAll0, ih fun z hz => ok z (List.mem_cons_of_mem _ hz)]
    simp [letterD, PyData.canLay0, PyData.canLayAll0, ok l (by simp)]
theorem depth_letters (ls : List Letter) : PyData.depthAll (ls.map letterD) ≤ 3 := by
  induction ls with
  | nil => simp [PyData.depthAll]
  | cons l r ih =>
    rw [List.map_cons, PyData.depthAll]
    have : PyData.depth (letterD l) ≤ 3 := by simp [letterD, PyData.depth, PyData.depthAll]
    omega
theorem shaped_letters {ls : List Letter} (ok : ∀ l ∈ ls, PyData.strOk l.2.2.2 = true) : SeqAt.shaped (lettersD ls) = true := by
  unfold SeqAt.shaped lettersD
  rw [PyData.canLay0, canLay_letters ok, Bool.true_and, PyData.depth]
  have := depth_letters ls
  exact decide_eq_true (by omega)
theorem eqv_letters {ls : List Letter} (ok : ∀ l ∈ ls, PyData.strOk l.2.2.2 = true) : PyData.eqv (lettersD ls) (lettersD ls) = true := SeqAt.eqv_refl _ (SeqAt.canLay_of_shaped (shaped_letters ok))
end Oh


set_option Elab.async false
set_option linter.all false
namespace L2
open PySem PySem.Spec PyProof.Rows
/-! ### is, of truths -/
def rIsB : R2 := fun x y H Q => ∃ b c, x = .bl b ∧ y = .bl c ∧ Q (.bl (decide (b = c))) H
theorem op_isB {X : Cx} : OpR X (compareOp .Is) rIsB := by
  intro pins s σ H x y v u Q I rx ry h
  obtain ⟨b, c, rfl, rfl, q⟩ := h
  cases rx
  cases ry
  exact wpAny_pure (fin_bl I q (by cases b <;> cases c <;> rfl))
end L2


set_option Elab.async false
set_option linter.all false
set_option maxRecDepth 100000
set_option maxHeartbeats 4000000
namespace Oh
open PySem L2
local macro_rules | `(tactic| walk_at "ne") => `(tactic| first | assumption | (refine' Ne.symm ?k1; (case k1 => assumption)) | (refine' ne_new ?k1 ?k2; (case k1 => assumption); (case k2 => walk_at "hl")) | (refine' ne_newR ?k1 ?k2; (case k1 => assumption); (case k2 => walk_at "rd")) | (refine' Ne.symm (ne_new ?k1 ?k2); (case k1 => assumption); (case k2 => walk_at "hl")) | (refine' Ne.symm (ne_newR ?k1 ?k2); (case k1 => assumption); (case k2 => walk_at "rd")))
local macro_rules | `(tactic| walk_at "hl") => `(tactic| with_reducible first | assumption | exact upd_same | (refine' upd_at ?k1 ?k2; (case k1 => walk_at "ne"); (case k2 => walk_at "hl")) | (refine' Same.at ?k1 ?k2; (case k1 => assumption); (case k2 => walk_at "hl")))
local macro_rules | `(tactic| walk_at "rd") => `(tactic| with_reducible first | assumption | (refine' Rd.of ?k1; (case k1 => walk_at "hl")) | (refine' Rd.upd ?k1 ?k2; (case k1 => walk_at "ne"); (case k2 => walk_at "rd")) | (refine' Rd.same ?k1 ?k2; (case k1 => assumption); (case k2 => walk_at "rd")))
local macro_rules | `(tactic| walk_at "sq") => `(tactic| with_reducible first | assumption | (refine' sqLr ?k1; (case k1 => walk_at "rd")) | (refine' sqTr ?k1; (case k1 => walk_at "rd")) | (refine' SqL.new ?k1 ?k2; (case k1 => assumption); (case k2 => walk_at "sq")) | (refine' Same.seq ?k1 ?k2; (case k1 => assumption); (case k2 => walk_at "sq")))
local macro_rules | `(tactic| walk_at "rf") => `(tactic| first | with_unfolding_all rfl | assumption)
local macro_rules | `(tactic| walk_at "fl") => `(tactic| first | with_unfolding_all rfl | exact flat_strs _ | exact flat_ints _)
local macro_rules | `(tactic| walk_at "st") => `(tactic| with_reducible first
  | refine st_seq ?_ | refine st_asg ?_ | refine st_gname ?_ | refine st_if ?_ | refine st_ret ?_ | refine st_retN ?_
  | refine st_drop ?_ | refine st_next ?_ | refine st_test ?_ | refine st_B ?_ | refine st_bl ?_ | refine st_int ?_
  | refine st_and ?_ | refine st_or ?_ | refine st_not ?_ | refine st_andV ?_ | refine st_orV ?_ | refine st_notV ?_ | refine st_ifE ?_
  | refine st_chain ?_ | refine st_op ?_ | refine st_un ?_ | refine st_isN ?_ | refine st_notN ?_
  | refine st_nil ?_ | refine st_cons ?_ | refine st_tup ?_ | refine st_lst ?_ | refine st_dnew ?_ | refine st_call ?_ | refine st_cb ?_
  | (refine' st_var ?k1 ?_; (case k1 => walk_at "rf")) | refine st_c ?_
  | refine st_rI0 ?_ | refine st_rU ?_ | (refine' st_rI ?k1 ?_; (case k1 => first | exact mulR (by decide) | exact divR (by decide) | decide | (show (0 : Int) < _; decide)))
  | (refine' st_rEq ?k1 ?_; (case k1 => walk_at "rf")) | (refine' st_rNe ?k1 ?_; (case k1 => walk_at "rf"))
  | (refine' st_ixL ?k1 ?k2 ?_; (case k1 => walk_at "sq"); (case k2 => walk_at "rf")) | (refine' st_ixT ?k1 ?k2 ?_; (case k1 => walk_at "sq"); (case k2 => walk_at "rf"))
  | (refine' st_lenL ?k1 ?_; (case k1 => walk_at "sq")) | (refine' st_lenT ?k1 ?_; (case k1 => walk_at "sq"))
  | (refine' st_inL ?k1 ?k2 ?k3 ?_; (case k1 => walk_at "sq"); (case k2 => walk_at "rf"); (case k3 => walk_at "fl"))
  | (refine' st_inT ?k1 ?k2 ?k3 ?_; (case k1 => walk_at "sq"); (case k2 => walk_at "rf"); (case k3 => walk_at "fl"))
  | (refine' st_listL ?k1 ?_; (case k1 => walk_at "sq")) | refine st_min ?_ | refine st_intB ?_
  | refine st_sl ?_ | refine st_noPart ?_ | refine st_part ?_ | (refine' st_slL ?k1 ?_; (case k1 => walk_at "sq"))
  | refine st_meth ?_ | (refine' st_insM ?k1 ?k2 ?_; (case k1 => walk_at "hl"); (case k2 => walk_at "rf")) | refine st_sfld ?_
  | (refine' st_ins ?k1 ?k2 ?k3 ?k4 ?_; (case k1 => walk_at "hl"); (case k2 => assumption); (case k3 => assumption); (case k4 => walk_at "rf")) | (refine' st_lenD ?k1 ?_; (case k1 => walk_at "hl"))
  | refine st_bm ?_ | refine st_fld ?_ | refine st_dput ?_ | refine st_dget2 ?_ | refine st_dget ?_ | refine st_dsetd ?_
  | refine st_for ?_ | refine st_iList ?_ | (refine' st_itl ?k1 ?_; (case k1 => walk_at "sq")) | refine st_iRng ?_ | refine st_lc ?_ | refine st_noIf ?_
  | (refine' st_sz ?k1 ?_; (case k1 => with_unfolding_all rfl))
  | (refine' st_isD ?k1 ?_; (case k1 => walk_at "hl")) | (refine' st_dgetK ?k1 ?_; (case k1 => walk_at "hl")))
local macro_rules | `(tactic| walk_at "go") => `(tactic| repeat walk_at "st")
local macro_rules | `(tactic| walk_at "new") => `(tactic| ((with_reducible refine st_all ?_); intro p hp; generalize hH : upd _ p _ = H'; have hs := same_of hp hH; have hg := at_of hH; clear hH))
local macro_rules | `(tactic| walk_at "sm") => `(tactic| with_reducible first | assumption | exact Same.refl _ | (refine' Same.trans ?k1 ?k2; (case k2 => assumption); (case k1 => walk_at "sm")))
local macro_rules | `(tactic| walk_at "goA") => `(tactic| repeat (first | walk_at "st" | walk_at "new"))
/-! ## k03, plain part -/
def isW3 (w : Str) : Prop := w = "yes" ∨ w = "no" ∨ w = "query"
def toAll (m : Int) (c : Nat) (n : Int) (w : Str) : List Letter := (othersOf m c).map fun k => (m, k, n, w)
def St3 (b : List Line) (n : Int) : Prop := wordsOf b n = [("open" : Str)] ∨ wordsOf b n = [("open" : Str), "bound"] ∨ wordsOf b n = [("open" : Str), "off"]
def dueF (m : Int) (c : Nat) (b : List Line) (gs : List Int) (g n : Int) (w : Str) : List Line × List Int × List Letter :=
  if (wordsOf b n).length = 2 then (b, gs, if w = "no" then [] else [(m, g, n, (wordsOf b n).getD 1 "")]) else
  if w = "yes" then if (addG g gs).length < c - 1 then (b, addG g gs, []) else (b ++ [(("bound" : Str), n)], addG g gs, toAll m c n "bound") else (b ++ [(("off" : Str), n)], gs, toAll m c n "off")
structure LeadHS (m : Int) (c : Nat) (h : HS) : Prop where
  num : h.num = m
  oth : h.oth = othersOf m c
  up : h.up = true
theorem others_len {m : Int} {c : Nat} (h0 : 0 ≤ m) (h1 : m < c) : (othersOf m c).length = c - 1 := by
  have : ∀ n : Nat, (othersOf m n).length = if m < n then n - 1 else n := fun n => by
    induction n with
    | zero => simp [othersOf]
    | succ i ih =>
      rw [others_snoc]
      by_cases e : (i : Int) = m
      · rw [if_pos e, ih, if_neg (by omega), if_pos (by omega)]; omega
      · rw [if_neg e, List.length_append, ih]
        by_cases z : m < i
        · rw [if_pos z, if_pos (by omega)]; show i - 1 + 1 = _; omega
        · rw [if_neg z, if_neg (by omega)]; rfl
  rw [this, if_pos h1]
theorem others_mem {m : Int} {c : Nat} {g : Int} (h : g ∈ othersOf m c) : 0 ≤ g ∧ g < c ∧ g ≠ m := by
  unfold othersOf at h
  rw [List.mem_filter] at h
  obtain ⟨h1, h2⟩ := h
  obtain ⟨k, hk, rfl⟩ := List.mem_map.mp h1
  exact ⟨by omega, by have := List.mem_range.mp hk; omega, by simpa using h2⟩
theorem wordsOf_app (a b : List Line) (n : Int) : wordsOf (a ++ b) n = wordsOf a n ++ wordsOf b n := by simp [wordsOf]
theorem wordsOf_one (w : Str) (k n : Int) : wordsOf [(w, k)] n = if k = n then [w] else [] := by
  unfold wordsOf
  by_cases e : k = n <;> simp [e]
theorem got_lead {m : Int} {c : Nat} {h : HS} {g n : Int} {w : Str} (L : LeadHS m c h) (m0 : 0 ≤ m) (m1 : m < c) (s : St3 h.book n) (hw : isW3 w) :
    h.got (g, m, n, w) = ({ h with book := (dueF m c h.book (h.cnt n) g n w).1, cnt := fun x => if x = n then (dueF m c h.book (h.cnt n) g n w).2.1 else h.cnt x }, (dueF m c h.book (h.cnt n) g n w).2.2) := by
  have keep : (fun x => if x = n then h.cnt n else h.cnt x) = h.cnt := funext fun x => by by_cases e : x = n <;> simp [e]
  have ol : h.oth.length = c - 1 := by rw [L.oth]; exact others_len m0 m1
  have dec : decisionIn h.book n = if wordsOf h.book n = [("open" : Str)] then none else some ((wordsOf h.book n).getD 1 "") := by
    unfold decisionIn
    rcases s with e | e | e <;> rw [e] <;> decide
  have vot : unsure h.book n = false := by
    unfold unsure voteIn decisionIn
    rcases s with e | e | e <;> rw [e] <;> decide
  have nonil : ¬ wordsOf h.book n = [] := by
    rcases s with e | e | e <;> rw [e] <;> simp
  have two : (wordsOf h.book n).length = 2 ↔ ¬ wordsOf h.book n = [("open" : Str)] := by
    rcases s with e | e | e <;> rw [e] <;> decide
  unfold dueF
  by_cases e1 : wordsOf h.book n = [("open" : Str)]
  · rw [if_neg (fun y => two.mp y e1)]
    rw [if_pos e1] at dec
    rcases hw with rfl | rfl | rfl
    · rw [if_pos rfl]
      have : h.got (g, m, n, "yes") = h.gotVote g n "yes" := by
        unfold HS.got; dsimp only; rw [if_neg (by decide), if_neg (by decide), if_pos (.inl rfl)]
      rw [this]
      unfold HS.gotVote
      rw [dec]
      simp only []
      rw [if_neg (by decide), ol]
      by_cases e2 : (addG g (h.cnt n)).length < c - 1
      · rw [if_pos e2, if_pos e2]; rfl
      · rw [if_neg e2, if_neg e2]
        unfold HS.decide HS.toOthers toAll HS.count HS.wr
        dsimp only
        rw [L.oth, L.num]
    · rw [if_neg (by decide)]
      have : h.got (g, m, n, "no") = h.gotVote g n "no" := by
        unfold HS.got; dsimp only; rw [if_neg (by decide), if_neg (by decide), if_pos (.inr rfl)]
      rw [this]
      unfold HS.gotVote
      rw [dec]
      simp only []
      rw [if_pos trivial, keep]
      unfold HS.decide HS.toOthers toAll HS.wr
      rw [L.oth, L.num]
    · rw [if_neg (by decide)]
      have : h.got (g, m, n, "query") = h.gotQuery g n := by
        unfold HS.got; dsimp only; rw [if_neg (by decide), if_pos rfl]
      rw [this]
      unfold HS.gotQuery
      rw [vot, dec, if_neg (by decide)]
      simp only []
      rw [if_neg nonil, keep]
      unfold HS.decide HS.toOthers toAll HS.wr
      rw [L.oth, L.num]
  · rw [if_pos (two.mpr e1)]
    rw [if_neg e1] at dec
    dsimp only
    rw [keep]
    rcases hw with rfl | rfl | rfl
    · have : h.got (g, m, n, "yes") = h.gotVote g n "yes" := by
        unfold HS.got; dsimp only; rw [if_neg (by decide), if_neg (by decide), if_pos (.inl rfl)]
      rw [this, if_neg (by decide)]
      unfold HS.gotVote
      rw [dec]
      simp only []
      rw [if_pos trivial, ← L.num]
    · have : h.got (g, m, n, "no") = h.gotVote g n "no" := by
        unfold HS.got; dsimp only; rw [if_neg (by decide), if_neg (by decide), if_pos (.inr rfl)]
      rw [this, if_pos rfl]
      unfold HS.gotVote
      rw [dec]
      simp only []
      rw [if_neg (by decide)]
    · have : h.got (g, m, n, "query") = h.gotQuery g n := by
        unfold HS.got; dsimp only; rw [if_neg (by decide), if_pos rfl]
      rw [this, if_neg (by decide)]
      unfold HS.gotQuery
      rw [vot, dec, if_neg (by decide)]
      simp only []
      rw [← L.num]
theorem due_st {m : Int} {c : Nat} {b : List Line} {gs : List Int} {g n k : Int} {w : Str} (s : St3 b n) (sk : St3 b k) : St3 (dueF m c b gs g n w).1 k := by
  unfold dueF
  by_cases e : (wordsOf b n).length = 2
  · rw [if_pos e]; exact sk
  · have e1 : wordsOf b n = [("open" : Str)] := by
      rcases s with y | y | y
      · exact y
      · rw [y] at e; exact absurd rfl e
      · rw [y] at e; exact absurd rfl e
    have add : ∀ v : Str, v = "bound" ∨ v = "off" → St3 (b ++ [(v, n)]) k := fun v hv => by
      unfold St3
      rw [wordsOf_app, wordsOf_one]
      by_cases z : n = k
      · subst z
        rw [if_pos rfl, e1]
        rcases hv with rfl | rfl
        · exact .inr (.inl rfl)
        · exact .inr (.inr rfl)
      · rw [if_neg z, List.append_nil]; exact sk
    rw [if_neg e]
    split
    · split
      · exact sk
      · exact add _ (.inl rfl)
    · exact add _ (.inr rfl)
theorem due_good {m : Int} {c : Nat} {b : List Line} {gs : List Int} {g n : Int} {w : Str} (m0 : 0 ≤ m) (m1 : m < c) (g0 : 0 ≤ g) (g1 : g < c) (gm : g ≠ m) (s : St3 b n) : GoodLs c (dueF m c b gs g n w).2.2 := by
  have all : ∀ v : Str, v = "bound" ∨ v = "off" → GoodLs c (toAll m c n v) := fun v hv l hl => by
    unfold toAll at hl
    obtain ⟨k, hk, rfl⟩ := List.mem_map.mp hl
    obtain ⟨q1, q2, q3⟩ := others_mem hk
    refine ⟨m0, m1, q1, q2, fun y => q3 y.symm, ?_⟩
    rcases hv with rfl | rfl
    · exact .inr (.inr (.inr (.inl rfl)))
    · exact .inr (.inr (.inr (.inr (.inl rfl))))
  have nil : GoodLs c [] := fun l hl => by cases hl
  unfold dueF
  split
  · dsimp only
    split
    · exact nil
    · intro l hl
      rw [List.mem_singleton.mp hl]
      refine ⟨m0, m1, g0, g1, fun y => gm y.symm, ?_⟩
      rcases s with y | y | y
      · rename_i e _; rw [y] at e; exact absurd e (by decide)
      · rw [y]; exact .inr (.inr (.inr (.inl rfl)))
      · rw [y]; exact .inr (.inr (.inr (.inr (.inl rfl))))
  · split
    · split
      · exact nil
      · exact all _ (.inl rfl)
    · exact all _ (.inr rfl)
theorem due_words {m : Int} {c : Nat} {b : List Line} {gs : List Int} {g n : Int} {w : Str} (h : LineWs b) : LineWs (dueF m c b gs g n w).1 := by
  have add : ∀ v : Str, isLineW v → LineWs (b ++ [(v, n)]) := fun v hv l hl => by
    rcases List.mem_append.mp hl with z | z
    · exact h l z
    · rw [List.mem_singleton.mp z]; exact hv
  unfold dueF
  split
  · exact h
  · split
    · split
      · exact h
      · exact add _ (.inr (.inr (.inr (.inl rfl))))
    · exact add _ (.inr (.inr (.inr (.inr rfl))))
theorem due_lens (m : Int) (c : Nat) (b : List Line) (gs : List Int) (g n : Int) (w : Str) : (dueF m c b gs g n w).1.length ≤ b.length + 1 ∧ (dueF m c b gs g n w).2.1.length ≤ gs.length + 1 := by
  have := addG_len g gs
  unfold dueF
  split
  · exact ⟨by dsimp only; omega, by dsimp only; omega⟩
  · split
    · split
      · exact ⟨by dsimp only; omega, this⟩
      · exact ⟨by dsimp only; rw [List.length_append]; exact Nat.le_refl _, this⟩
    · exact ⟨by dsimp only; rw [List.length_append]; exact Nat.le_refl _, by dsimp only; omega⟩
end Oh


set_option Elab.async false
set_option linter.all false
set_option maxRecDepth 100000
set_option maxHeartbeats 4000000
namespace Oh
open PySem L2
def R_law_to_all (K : PySem.W.Frag)  : TS :=
    (tRet (tLC (iRng1 (tCons (tVar 1) tNil)) (gName 0) (tTest (tOp rNe (tVar 0) (tVar 1))) (tTup (tCons (tVar 1) (tCons (tVar 0) (tCons (tVar 2) (tCons (tVar 3) tNil))))) [none, some 0, some 2, some 3]))
def R_law_due_letters (K : PySem.W.Frag) (sp_law_to_all : Sp) : TS :=
    (tSeq (tAsg (tVar 2) (gTup K 4 (gCons (gName 4) (gCons (gName 5) (gCons (gName 6) (gCons (gName 7) gNil))))))
    (tSeq (tAsg (tLC (iList K (tVar 0)) (gName 0) (tTest (tOp rEq (tOp (rIxT K) (tVar 0) (tC (.int 1))) (tVar 1))) (tOp (rIxT K) (tVar 0) (tC (.int 0))) [none, some 6]) (gName 8))
    (tSeq (tIfS (tTest (tOp rEq (tCB (rLenQ K) (tCons (tVar 8) tNil)) (tC (.int 2))))
    (tSeq (tIfS (tTest (tOp rEq (tVar 7) (tC (.str "no"))))
    (tRet (tLst tNil))
    tNext)
    (tRet (tLst (tCons (tTup (tCons (tVar 5) (tCons (tVar 4) (tCons (tVar 6) (tCons (tOp (rIxL K) (tVar 8) (tC (.int 1))) tNil))))) tNil))))
    tNext)
    (tSeq (tIfS (tTest (tOp rEq (tVar 7) (tC (.str "yes"))))
    (tCut (tIfS (tTest (tOp (rIn K true) (tVar 4) (tDGet (tVar 1) (tVar 6))))
    (tDrop (tBM K "list" rAppend (tDGet (tVar 1) (tVar 6)) (tCons (tVar 4) tNil)))
    tNext)
    (tSeq (tIfS (tTest (tOp rLtI (tCB (rLenQ K) (tCons (tDGet (tVar 1) (tVar 6)) tNil)) (tOp rSubI (tVar 3) (tC (.int 1)))))
    (tRet (tLst tNil))
    tNext)
    (tSeq (tDrop (tBM K "list" rAppend (tVar 0) (tCons (tTup (tCons (tC (.str "bound")) (tCons (tVar 6) tNil))) tNil)))
    (tRet (tCall sp_law_to_all [] E0 (tCons (tVar 5) (tCons (tVar 3) (tCons (tVar 6) (tCons (tC (.str "bound")) tNil)))))))))
    tNext)
    (tSeq (tDrop (tBM K "list" rAppend (tVar 0) (tCons (tTup (tCons (tC (.str "off")) (tCons (tVar 6) tNil))) tNil)))
    (tRet (tCall sp_law_to_all [] E0 (tCons (tVar 5) (tCons (tVar 3) (tCons (tVar 6) (tCons (tC (.str "off")) tNil)))))))))))
def R_law_has_book (K : PySem.W.Frag) (sp_law_are_lines : Sp) : TS :=
    (tRet (tAndV (tCall sp_law_are_lines [] E0 (tCons (tFld K (tVar 0) "book") tNil)) (tAndV (tOp rEqD (tFld K (tVar 0) "book") (tVar 1)) (tOp rIsB (tFld K (tVar 0) "awake") (tC (.bl true))))))
def R_law (K : PySem.W.Frag) (sp_law_at : Sp) (sp_law_to_all : Sp) (sp_law_are_letters : Sp) (sp_law_due_letters : Sp) (sp_got_all : Sp) (sp_law_has_book : Sp) (sp_House_init : Sp) (sp_House_begin : Sp) (sp_House_got : Sp) (C_House : Addr) : TS :=
    (tSeq (tAsg (tOp (rIxL K) (tLst (tCons (tC (.int 2)) (tCons (tC (.int 3)) (tCons (tC (.int 4)) (tCons (tC (.int 5)) (tCons (tC (.int 2)) (tCons (tC (.int 3)) (tCons (tC (.int 4)) (tCons (tC (.int 12)) tNil))))))))) (tOp rModI (tOp rModI (tOp rMulI (tCall sp_law_at [] E0 (tCons (tVar 0) (tCons (tC (.int 0)) tNil))) (tC (.int 48271))) (tC (.int 1013))) (tC (.int 8)))) (gName 1))
    (tSeq (tAsg (tOp rModI (tOp rModI (tOp rMulI (tCall sp_law_at [] E0 (tCons (tVar 0) (tCons (tC (.int 1)) tNil))) (tC (.int 48271))) (tC (.int 1009))) (tVar 1)) (gName 2))
    (tSeq (tAsg (tLst (tCons (tVar 2) (tCons (tOp rAddI (tVar 2) (tVar 1)) (tCons (tOp rAddI (tVar 2) (tOp rMulI (tC (.int 1000000)) (tVar 1))) (tCons (tOp rAddI (tVar 2) (tOp rMulI (tC (.int 3)) (tVar 1))) tNil))))) (gName 3))
    (tSeq (tAsg (tMake C_House sp_House_init [] E0 (tCons (tVar 2) (tCons (tVar 1) (tCons (tLst (tCons (tOp (rIxL K) (tVar 3) (tC (.int 3))) tNil)) tNil)))) (gName 4))
    (tSeq (tAsg (tMake C_House sp_House_init [] E0 (tCons (tVar 2) (tCons (tVar 1) (tCons (tLst tNil) tNil)))) (gName 5))
    (tSeq (tAsg (tLst tNil) (gName 6))
    (tSeq (tAsg tDNewK (gName 7))
    (tSeq (tAsg (tLst tNil) (gName 8))
    (tSeq (tFor (iRng1 (tCons (tC (.int 4)) tNil)) (gName 9)
    (tSeq (tAsg (tCall sp_law_to_all [] E0 (tCons (tVar 2) (tCons (tVar 1) (tCons (tOp (rIxL K) (tVar 3) (tVar 9)) (tCons (tC (.str "ask")) tNil))))) (gName 10))
    (tSeq (tDrop (tBM K "list" rAppend (tVar 6) (tCons (tTup (tCons (tOp (rIxL K) (tLst (tCons (tC (.str "open")) (tCons (tC (.str "no")) tNil))) (tCB rInt1 (tCons (tOp rEq (tVar 9) (tC (.int 3))) tNil))) (tCons (tOp (rIxL K) (tVar 3) (tVar 9)) tNil))) tNil)))
    (tSeq (sDPut (tVar 7) (tOp (rIxL K) (tVar 3) (tVar 9)) (tLst tNil))
    (tCut (tIfS (tTest (tOp rEq (tVar 9) (tC (.int 3))))
    (tAsg (tLst tNil) (gName 10))
    tNext)
    (tSeq (tAsg (tMeth C_House "begin" sp_House_begin [] E0 (tVar 4) (tCons (tOp (rIxL K) (tVar 3) (tVar 9)) tNil)) (gName 11))
    (tIfS (tOr (tNot (tB (tCall sp_law_are_letters [] E0 (tCons (tVar 11) (tCons (tVar 1) tNil))))) (tTest (tOp rNeD (tVar 11) (tVar 10))))
    (tRet (tC (.bl false)))
    tNext)))))))
    (tSeq (tFor (iList K (tSl (rSlL K) (tVar 0) (tPart (tC (.int 2))) (tPart (tC (.int 150))))) (gName 12)
    (tSeq (tAsg (tOp (rIxL K) (tVar 3) (tOp rModI (tOp rModI (tOp rMulI (tVar 12) (tC (.int 48271))) (tC (.int 1019))) (tC (.int 3)))) (gName 13))
    (tSeq (tAsg (tOp rModI (tOp rAddI (tOp rAddI (tVar 2) (tC (.int 1))) (tOp rModI (tOp rModI (tOp rMulI (tVar 12) (tC (.int 48271))) (tC (.int 1031))) (tOp rSubI (tVar 1) (tC (.int 1))))) (tVar 1)) (gName 14))
    (tSeq (tAsg (tOp (rIxL K) (tLst (tCons (tC (.str "yes")) (tCons (tC (.str "yes")) (tCons (tC (.str "yes")) (tCons (tC (.str "yes")) (tCons (tC (.str "yes")) (tCons (tC (.str "yes")) (tCons (tC (.str "no")) (tCons (tC (.str "query")) tNil))))))))) (tOp rModI (tOp rModI (tOp rMulI (tVar 12) (tC (.int 48271))) (tC (.int 1021))) (tC (.int 8)))) (gName 15))
    (tCut (tIfS (tTest (tOp (rInD false) (tTup (tCons (tVar 14) (tCons (tVar 13) tNil))) (tVar 8)))
    (tAsg (tC (.str "no")) (gName 15))
    (tIfS (tAnd (tTest (tOp rEq (tVar 15) (tC (.str "no")))) (tTest (tOp (rInD false) (tTup (tCons (tC (.str "bound")) (tCons (tVar 13) tNil))) (tVar 6))))
    (tAsg (tC (.str "yes")) (gName 15))
    tNext))
    (tCut (tIfS (tTest (tOp rEq (tVar 15) (tC (.str "no"))))
    (tDrop (tBM K "list" rAppend (tVar 8) (tCons (tTup (tCons (tVar 14) (tCons (tVar 13) tNil))) tNil)))
    tNext)
    (tSeq (tAsg (tTup (tCons (tVar 14) (tCons (tVar 2) (tCons (tVar 13) (tCons (tVar 15) tNil))))) (gName 16))
    (tSeq (tAsg (tCall sp_law_due_letters [] E0 (tCons (tVar 6) (tCons (tVar 7) (tCons (tVar 16) (tCons (tVar 1) tNil))))) (gName 10))
    (tCut (tIfS (tTest (tOp rEq (tOp rModI (tOp rModI (tOp rMulI (tVar 12) (tC (.int 48271))) (tC (.int 1087))) (tC (.int 2))) (tC (.int 1))))
    (tAsg (tLst (tCons (tMeth C_House "got" sp_House_got [] E0 (tVar 4) (tCons (tVar 16) tNil)) tNil)) (gName 11))
    (tAsg (tCall sp_got_all [] E0 (tCons (tVar 4) (tCons (tLst (tCons (tVar 16) tNil)) tNil))) (gName 11)))
    (tSeq (tIfS (tOr (tNot (tB (tCB (rIsi K) (tCons (tVar 11) (tCons (tC (.ty "list")) tNil))))) (tTest (tOp rNe (tCB (rLenQ K) (tCons (tVar 11) tNil)) (tC (.int 1)))))
    (tRet (tC (.bl false)))
    tNext)
    (tIfS (tOr (tNot (tB (tCall sp_law_are_letters [] E0 (tCons (tOp (rIxL K) (tVar 11) (tC (.int 0))) (tCons (tVar 1) tNil))))) (tTest (tOp rNeD (tOp (rIxL K) (tVar 11) (tC (.int 0))) (tVar 10))))
    (tRet (tC (.bl false)))
    tNext)))))))))))
    (tRet (tAndV (tCall sp_law_has_book [] E0 (tCons (tVar 4) (tCons (tVar 6) tNil))) (tCall sp_law_has_book [] E0 (tCons (tVar 5) (tCons (tLst tNil) tNil)))))))))))))))
end Oh


set_option Elab.async false
set_option linter.all false
set_option maxRecDepth 100000
set_option maxHeartbeats 4000000
namespace Oh
open PySem L2
def top (i : Nat) : Stmt := PySem.Challenge.pw_oathhall_k03_a_house_that_leads.main.body.getD i (.Pass ⟨0, 0, 0, 0⟩)
abbrev s_words_of : Stmt := top 2
abbrev s_knows : Stmt := top 3
abbrev s_vote_in : Stmt := top 4
abbrev s_decision_in : Stmt := top 5
abbrev s_is_unsure : Stmt := top 6
abbrev s_House_init : Stmt := inClass (top 8) 0
abbrev s_House_forget : Stmt := inClass (top 8) 1
abbrev s_House_begin : Stmt := inClass (top 8) 2
abbrev s_House_got : Stmt := inClass (top 8) 3
abbrev s_House_got_ask : Stmt := inClass (top 8) 8
abbrev s_House_got_vote : Stmt := inClass (top 8) 9
abbrev s_House_got_decision : Stmt := inClass (top 8) 10
abbrev s_House_got_query : Stmt := inClass (top 8) 11
abbrev s_House_decide : Stmt := inClass (top 8) 12
abbrev s_House_decision : Stmt := inClass (top 8) 13
abbrev s_House_page : Stmt := inClass (top 8) 14
abbrev s_House_write : Stmt := inClass (top 8) 15
abbrev s_House_to_one : Stmt := inClass (top 8) 16
abbrev s_House_to_others : Stmt := inClass (top 8) 17
abbrev s_got_all : Stmt := top 9
abbrev s_law_whole : Stmt := top 11
abbrev s_law_at : Stmt := top 12
abbrev s_law_is_line : Stmt := top 13
abbrev s_law_are_lines : Stmt := top 14
abbrev s_law_is_letter : Stmt := top 15
abbrev s_law_are_letters : Stmt := top 16
abbrev s_law_to_all : Stmt := top 17
abbrev s_law_due_letters : Stmt := top 18
abbrev s_law_has_book : Stmt := top 19
abbrev s_law : Stmt := top 20
structure Txt (K : PySem.W.Frag) (mg : Str → Option Value) (C_House : Addr) : Prop where
  ok : True
  n_bool : mg "bool" = none
  n_int : mg "int" = none
  n_isinstance : mg "isinstance" = none
  n_len : mg "len" = none
  n_list : mg "list" = none
  n_range : mg "range" = none
  n_str : mg "str" = none
  n_tuple : mg "tuple" = none
  cl_House : Cls K C_House
  m_House : mg "House" = some (.ref C_House)
  f_House_against : NoAttr K C_House "against"
  f_House_awake : NoAttr K C_House "awake"
  f_House_book : NoAttr K C_House "book"
  f_House_counted : NoAttr K C_House "counted"
  f_House_lines_read : NoAttr K C_House "lines_read"
  f_House_number : NoAttr K C_House "number"
  f_House_others : NoAttr K C_House "others"
  f_House_pages : NoAttr K C_House "pages"
theorem sc_words_of : FnScope ["book", "bargain"] ["book", "bargain"] (defScope s_words_of) := ⟨rfl, rfl, rfl, by decide +kernel, rfl, by decide +kernel, by decide +kernel⟩
theorem nd_words_of_0 : List.Nodup (["line", "bargain"] : List Str) := by decide +kernel
theorem sc_knows : FnScope ["book", "bargain"] ["book", "bargain"] (defScope s_knows) := ⟨rfl, rfl, rfl, by decide +kernel, rfl, by decide +kernel, by decide +kernel⟩
theorem sc_vote_in : FnScope ["book", "bargain", "word"] ["book", "bargain"] (defScope s_vote_in) := ⟨rfl, rfl, rfl, by decide +kernel, rfl, by decide +kernel, by decide +kernel⟩
theorem sc_decision_in : FnScope ["book", "bargain", "words"] ["book", "bargain"] (defScope s_decision_in) := ⟨rfl, rfl, rfl, by decide +kernel, rfl, by decide +kernel, by decide +kernel⟩
theorem sc_is_unsure : FnScope ["book", "bargain"] ["book", "bargain"] (defScope s_is_unsure) := ⟨rfl, rfl, rfl, by decide +kernel, rfl, by decide +kernel, by decide +kernel⟩
theorem sc_House_init : FnScope ["self", "number", "count", "against"] ["self", "number", "count", "against"] (defScope s_House_init) := ⟨rfl, rfl, rfl, by decide +kernel, rfl, by decide +kernel, by decide +kernel⟩
theorem nd_House_init_0 : List.Nodup (["other", "number"] : List Str) := by decide +kernel
theorem sc_House_forget : FnScope ["self"] ["self"] (defScope s_House_forget) := ⟨rfl, rfl, rfl, by decide +kernel, rfl, by decide +kernel, by decide +kernel⟩
theorem sc_House_begin : FnScope ["self", "bargain"] ["self", "bargain"] (defScope s_House_begin) := ⟨rfl, rfl, rfl, by decide +kernel, rfl, by decide +kernel, by decide +kernel⟩
theorem sc_House_got : FnScope ["self", "letter", "giver", "bargain", "word"] ["self", "letter"] (defScope s_House_got) := ⟨rfl, rfl, rfl, by decide +kernel, rfl, by decide +kernel, by decide +kernel⟩
theorem sc_House_got_ask : FnScope ["self", "giver", "bargain"] ["self", "giver", "bargain"] (defScope s_House_got_ask) := ⟨rfl, rfl, rfl, by decide +kernel, rfl, by decide +kernel, by decide +kernel⟩
theorem sc_House_got_vote : FnScope ["self", "giver", "bargain", "word", "decided", "givers"] ["self", "giver", "bargain", "word"] (defScope s_House_got_vote) := ⟨rfl, rfl, rfl, by decide +kernel, rfl, by decide +kernel, by decide +kernel⟩
theorem sc_House_got_decision : FnScope ["self", "bargain", "word"] ["self", "bargain", "word"] (defScope s_House_got_decision) := ⟨rfl, rfl, rfl, by decide +kernel, rfl, by decide +kernel, by decide +kernel⟩
theorem sc_House_got_query : FnScope ["self", "giver", "bargain", "decided"] ["self", "giver", "bargain"] (defScope s_House_got_query) := ⟨rfl, rfl, rfl, by decide +kernel, rfl, by decide +kernel, by decide +kernel⟩
theorem sc_House_decide : FnScope ["self", "bargain", "word"] ["self", "bargain", "word"] (defScope s_House_decide) := ⟨rfl, rfl, rfl, by decide +kernel, rfl, by decide +kernel, by decide +kernel⟩
theorem sc_House_decision : FnScope ["self", "bargain"] ["self", "bargain"] (defScope s_House_decision) := ⟨rfl, rfl, rfl, by decide +kernel, rfl, by decide +kernel, by decide +kernel⟩
theorem sc_House_page : FnScope ["self", "bargain", "line"] ["self", "bargain"] (defScope s_House_page) := ⟨rfl, rfl, rfl, by decide +kernel, rfl, by decide +kernel, by decide +kernel⟩
theorem sc_House_write : FnScope ["self", "word", "bargain"] ["self", "word", "bargain"] (defScope s_House_write) := ⟨rfl, rfl, rfl, by decide +kernel, rfl, by decide +kernel, by decide +kernel⟩
theorem sc_House_to_one : FnScope ["self", "other", "bargain", "word"] ["self", "other", "bargain", "word"] (defScope s_House_to_one) := ⟨rfl, rfl, rfl, by decide +kernel, rfl, by decide +kernel, by decide +kernel⟩
theorem sc_House_to_others : FnScope ["self", "bargain", "word"] ["self", "bargain", "word"] (defScope s_House_to_others) := ⟨rfl, rfl, rfl, by decide +kernel, rfl, by decide +kernel, by decide +kernel⟩
theorem nd_House_to_others_0 : List.Nodup (["other", "bargain", "word", "self"] : List Str) := by decide +kernel
theorem sc_got_all : FnScope ["house", "letters"] ["house", "letters"] (defScope s_got_all) := ⟨rfl, rfl, rfl, by decide +kernel, rfl, by decide +kernel, by decide +kernel⟩
theorem nd_got_all_0 : List.Nodup (["letter", "house"] : List Str) := by decide +kernel
theorem sc_law_whole : FnScope ["_law_found"] ["_law_found"] (defScope s_law_whole) := ⟨rfl, rfl, rfl, by decide +kernel, rfl, by decide +kernel, by decide +kernel⟩
theorem sc_law_at : FnScope ["_law_script", "_law_k"] ["_law_script", "_law_k"] (defScope s_law_at) := ⟨rfl, rfl, rfl, by decide +kernel, rfl, by decide +kernel, by decide +kernel⟩
theorem sc_law_is_line : FnScope ["_law_found"] ["_law_found"] (defScope s_law_is_line) := ⟨rfl, rfl, rfl, by decide +kernel, rfl, by decide +kernel, by decide +kernel⟩
theorem sc_law_are_lines : FnScope ["_law_found", "_law_line"] ["_law_found"] (defScope s_law_are_lines) := ⟨rfl, rfl, rfl, by decide +kernel, rfl, by decide +kernel, by decide +kernel⟩
theorem sc_law_is_letter : FnScope ["_law_found", "_law_count", "_law_number"] ["_law_found", "_law_count"] (defScope s_law_is_letter) := ⟨rfl, rfl, rfl, by decide +kernel, rfl, by decide +kernel, by decide +kernel⟩
theorem sc_law_are_letters : FnScope ["_law_found", "_law_count", "_law_letter"] ["_law_found", "_law_count"] (defScope s_law_are_letters) := ⟨rfl, rfl, rfl, by decide +kernel, rfl, by decide +kernel, by decide +kernel⟩
theorem sc_law_to_all : FnScope ["_law_mine", "_law_count", "_law_bargain", "_law_word"] ["_law_mine", "_law_count", "_law_bargain", "_law_word"] (defScope s_law_to_all) := ⟨rfl, rfl, rfl, by decide +kernel, rfl, by decide +kernel, by decide +kernel⟩
theorem nd_law_to_all_0 : List.Nodup (["_law_k", "_law_mine", "_law_bargain", "_law_word"] : List Str) := by decide +kernel
theorem sc_law_due_letters : FnScope ["_law_book", "_law_votes", "_law_letter", "_law_count", "_law_giver", "_law_mine", "_law_bargain", "_law_word", "_law_lines"] ["_law_book", "_law_votes", "_law_letter", "_law_count"] (defScope s_law_due_letters) := ⟨rfl, rfl, rfl, by decide +kernel, rfl, by decide +kernel, by decide +kernel⟩
theorem nd_law_due_letters_0 : List.Nodup (["_law_line", "_law_bargain"] : List Str) := by decide +kernel
theorem sc_law_has_book : FnScope ["_law_house", "_law_book"] ["_law_house", "_law_book"] (defScope s_law_has_book) := ⟨rfl, rfl, rfl, by decide +kernel, rfl, by decide +kernel, by decide +kernel⟩
theorem sc_law : FnScope ["_law_script", "_law_count", "_law_mine", "_law_bargains", "_law_house", "_law_beside", "_law_book", "_law_votes", "_law_against", "_law_k", "_law_due", "_law_found", "_law_cell", "_law_bargain", "_law_giver", "_law_word", "_law_letter"] ["_law_script"] (defScope s_law) := ⟨rfl, rfl, rfl, by decide +kernel, rfl, by decide +kernel, by decide +kernel⟩
theorem Txt.hs {K : PySem.W.Frag} {mg : Str → Option Value} {C_House : Addr} (T : Txt K mg C_House) : HouseTxt K C_House := ⟨T.cl_House, T.f_House_number, T.f_House_others, T.f_House_against, T.f_House_book, T.f_House_awake, T.f_House_counted, T.f_House_pages, T.f_House_lines_read⟩
set_option maxHeartbeats 4000000 in
theorem der_words_of {P : Program} {w : World} {K : PySem.W.Frag} {mg : Str → Option Value} {base : Heap} {f : Addr} {cdv : Value} {A : Around} {outer : List Env} {s : Shared} {H : Hp} {E : XK} {C_House : Addr}  (T : Txt K mg C_House)
    
    (hr : Room 0 (A.deeper (PyProof.Rows.envOfC "words_of" (defScope s_words_of) s.heap.objs.size f cdv))) :
    PSs (cxOf CX0 P w K mg base ["book", "bargain"] "words_of" (defScope s_words_of) f cdv A outer s H E).nox (defBody s_words_of) (R_words_of K ) := by
  have hu := hu_of hr
  have hu64 := hr.units
  have hu65 := hu65_of hr
  unfold R_words_of
  exact (pss_one (ps_ret (pe_lc rfl (show CompOk _ (["line", "bargain"] : List Str) _ ([("bargain", s.heap.objs.size + 1 + 0)] : List (Str × Addr)) ([none, some 1] : List (Option Nat)) from ⟨by with_unfolding_all rfl, rfl, rfl, rfl, rfl, ⟨rfl, trivial⟩, ⟨⟨rfl, Or.inl rfl, Or.inl rfl, _, rfl, rfl⟩, trivial⟩⟩) (pi_list (pv 0)) (fun _ _ _ _ => (pg_name (i := 0) nd_words_of_0 rfl (Or.inl rfl))) (fun _ _ _ _ => (pifs_one (pt_cmpR op_eq (pe_ix ix_tup (pv 0) pe_int (fun _ _ => rfl)) (pv 1) (nomark _)))) (fun _ _ _ _ => (pe_ix ix_tup (pv 0) pe_int (fun _ _ => rfl))))))
set_option maxHeartbeats 4000000 in
theorem der_knows {P : Program} {w : World} {K : PySem.W.Frag} {mg : Str → Option Value} {base : Heap} {f : Addr} {cdv : Value} {A : Around} {outer : List Env} {s : Shared} {H : Hp} {E : XK} {C_House : Addr} (sp_words_of : Sp) (T : Txt K mg C_House)
    (h_words_of : Has P w K mg base 1 "words_of" ["book", "bargain"] sp_words_of)
    (hr : Room 1 (A.deeper (PyProof.Rows.envOfC "knows" (defScope s_knows) s.heap.objs.size f cdv))) :
    PSs (cxOf CX0 P w K mg base ["book", "bargain"] "knows" (defScope s_knows) f cdv A outer s H E).nox (defBody s_knows) (R_knows K sp_words_of) := by
  have hu := hu_of hr
  have hu64 := hr.units
  have hu65 := hu65_of hr
  obtain ⟨f_words_of, fd_words_of, G_words_of, m_words_of, k_words_of, b_words_of⟩ := h_words_of
  have hr_words_of := hr.mono (j := 1) (by decide)
  unfold R_knows
  exact (pss_one (ps_ret (pe_cmpR op_gt (pe_callB call_len_seq (by rfl) T.n_len PySem.boot_len (pa_cons (pe_call G_words_of hr_words_of rfl m_words_of k_words_of b_words_of .nil pass0 (pa_cons (pv 0) (pa_cons (pv 1) pa_nil))) pa_nil)) pe_int (nomark _))))
set_option maxHeartbeats 4000000 in
theorem der_vote_in {P : Program} {w : World} {K : PySem.W.Frag} {mg : Str → Option Value} {base : Heap} {f : Addr} {cdv : Value} {A : Around} {outer : List Env} {s : Shared} {H : Hp} {E : XK} {C_House : Addr} (sp_words_of : Sp) (T : Txt K mg C_House)
    (h_words_of : Has P w K mg base 1 "words_of" ["book", "bargain"] sp_words_of)
    (hr : Room 1 (A.deeper (PyProof.Rows.envOfC "vote_in" (defScope s_vote_in) s.heap.objs.size f cdv))) :
    PSs (cxOf CX0 P w K mg base ["book", "bargain", "word"] "vote_in" (defScope s_vote_in) f cdv A outer s H E).nox (defBody s_vote_in) (R_vote_in K sp_words_of) := by
  have hu := hu_of hr
  have hu64 := hr.units
  have hu65 := hu65_of hr
  obtain ⟨f_words_of, fd_words_of, G_words_of, m_words_of, k_words_of, b_words_of⟩ := h_words_of
  have hr_words_of := hr.mono (j := 1) (by decide)
  unfold R_vote_in
  exact (pss_cons (ps_for PassesOwn.never rfl (pi_list (pe_call G_words_of hr_words_of rfl m_words_of k_words_of b_words_of .nil pass0 (pa_cons (pv 0) (pa_cons (pv 1) pa_nil)))) (pg_name (i := 2) sc_vote_in.nd rfl (Or.inl rfl))
      (pss_one (ps_if (pt_cmpR op_in_seq (pv 2) (pe_tup (pa_cons pe_str (pa_cons pe_str (pa_cons pe_str pa_nil)))) (by with_unfolding_all rfl))
      (pss_one (ps_ret (pv 2)))
      pss_nil)))
      (pss_one (ps_ret pe_non)))
set_option maxHeartbeats 4000000 in
theorem der_decision_in {P : Program} {w : World} {K : PySem.W.Frag} {mg : Str → Option Value} {base : Heap} {f : Addr} {cdv : Value} {A : Around} {outer : List Env} {s : Shared} {H : Hp} {E : XK} {C_House : Addr} (sp_words_of : Sp) (T : Txt K mg C_House)
    (h_words_of : Has P w K mg base 1 "words_of" ["book", "bargain"] sp_words_of)
    (hr : Room 1 (A.deeper (PyProof.Rows.envOfC "decision_in" (defScope s_decision_in) s.heap.objs.size f cdv))) :
    PSs (cxOf CX0 P w K mg base ["book", "bargain", "words"] "decision_in" (defScope s_decision_in) f cdv A outer s H E).nox (defBody s_decision_in) (R_decision_in K sp_words_of) := by
  have hu := hu_of hr
  have hu64 := hr.units
  have hu65 := hu65_of hr
  obtain ⟨f_words_of, fd_words_of, G_words_of, m_words_of, k_words_of, b_words_of⟩ := h_words_of
  have hr_words_of := hr.mono (j := 1) (by decide)
  unfold R_decision_in
  exact (pss_cons (ps_set (i := 2) sc_decision_in.nd rfl (Or.inl rfl) (pe_call G_words_of hr_words_of rfl m_words_of k_words_of b_words_of .nil pass0 (pa_cons (pv 0) (pa_cons (pv 1) pa_nil))))
      (pss_cons (ps_if (pt_cmpR op_in_seq pe_str (pv 2) (by with_unfolding_all rfl))
      (pss_one (ps_ret pe_str))
      pss_nil)
      (pss_cons (ps_if (PW.pt (pw_or (pt_cmpR op_in_seq pe_str (pv 2) (by with_unfolding_all rfl)) (pw_or1 (pt_cmpR op_in_seq pe_str (pv 2) (by with_unfolding_all rfl)))))
      (pss_one (ps_ret pe_str))
      pss_nil)
      (pss_one (ps_ret pe_non)))))
set_option maxHeartbeats 4000000 in
theorem der_is_unsure {P : Program} {w : World} {K : PySem.W.Frag} {mg : Str → Option Value} {base : Heap} {f : Addr} {cdv : Value} {A : Around} {outer : List Env} {s : Shared} {H : Hp} {E : XK} {C_House : Addr} (sp_vote_in : Sp) (sp_decision_in : Sp) (T : Txt K mg C_House)
    (h_vote_in : Has P w K mg base 2 "vote_in" ["book", "bargain"] sp_vote_in) (h_decision_in : Has P w K mg base 2 "decision_in" ["book", "bargain"] sp_decision_in)
    (hr : Room 2 (A.deeper (PyProof.Rows.envOfC "is_unsure" (defScope s_is_unsure) s.heap.objs.size f cdv))) :
    PSs (cxOf CX0 P w K mg base ["book", "bargain"] "is_unsure" (defScope s_is_unsure) f cdv A outer s H E).nox (defBody s_is_unsure) (R_is_unsure K sp_vote_in sp_decision_in) := by
  have hu := hu_of hr
  have hu64 := hr.units
  have hu65 := hu65_of hr
  obtain ⟨f_vote_in, fd_vote_in, G_vote_in, m_vote_in, k_vote_in, b_vote_in⟩ := h_vote_in
  have hr_vote_in := hr.mono (j := 2) (by decide)
  obtain ⟨f_decision_in, fd_decision_in, G_decision_in, m_decision_in, k_decision_in, b_decision_in⟩ := h_decision_in
  have hr_decision_in := hr.mono (j := 2) (by decide)
  unfold R_is_unsure
  exact (pss_one (ps_ret (pe_and (pe_cmpR op_eq (pe_call G_vote_in hr_vote_in rfl m_vote_in k_vote_in b_vote_in .nil pass0 (pa_cons (pv 0) (pa_cons (pv 1) pa_nil))) pe_str (nomark _)) (pe_one (pe_cmp (pc_isN (pe_call G_decision_in hr_decision_in rfl m_decision_in k_decision_in b_decision_in .nil pass0 (pa_cons (pv 0) (pa_cons (pv 1) pa_nil)))))))))
set_option maxHeartbeats 4000000 in
theorem der_House_init {P : Program} {w : World} {K : PySem.W.Frag} {mg : Str → Option Value} {base : Heap} {f : Addr} {cdv : Value} {A : Around} {outer : List Env} {s : Shared} {H : Hp} {E : XK} (sp_House_forget : Sp) (C_House : Addr) (T : Txt K mg C_House)
    (h_House_forget : HasM P w K mg base C_House 1 "forget" ["self"] sp_House_forget)
    (hr : Room 1 (A.deeper (PyProof.Rows.envOfC "House.__init__" (defScope s_House_init) s.heap.objs.size f cdv))) :
    PSs (cxOf CX0 P w K mg base ["self", "number", "count", "against"] "House.__init__" (defScope s_House_init) f cdv A outer s H E).nox (defBody s_House_init) (R_House_init K sp_House_forget C_House) := by
  have hu := hu_of hr
  have hu64 := hr.units
  have hu65 := hu65_of hr
  obtain ⟨f_House_forget, fd_House_forget, G_House_forget, mt_House_forget, b_House_forget⟩ := h_House_forget
  have hr_House_forget := hr.mono (j := 1) (by decide)
  unfold R_House_init
  exact (pss_cons (ps_fld (pv 0) (pv 1) rfl)
      (pss_cons (ps_fld (pv 0) (pe_lc rfl (show CompOk _ (["other", "number"] : List Str) _ ([("number", s.heap.objs.size + 1 + 0)] : List (Str × Addr)) ([none, some 1] : List (Option Nat)) from ⟨by with_unfolding_all rfl, rfl, rfl, rfl, rfl, ⟨rfl, trivial⟩, ⟨⟨rfl, Or.inl rfl, Or.inl rfl, _, rfl, rfl⟩, trivial⟩⟩) (pi_range1 rfl T.n_range (pa_cons (pv 2) pa_nil)) (fun _ _ _ _ => (pg_name (i := 0) nd_House_init_0 rfl (Or.inl rfl))) (fun _ _ _ _ => (pifs_one (pt_cmpR op_ne (pv 0) (pv 1) (nomark _)))) (fun _ _ _ _ => (pv 0))) rfl)
      (pss_cons (ps_fld (pv 0) (pe_callTy call_list_of (by rfl) T.n_list PySem.Pv.boot_list (pa_cons (pv 3) pa_nil)) rfl)
      (pss_cons (ps_fld (pv 0) (pe_lst pa_nil) rfl)
      (pss_cons (ps_fld (pv 0) pe_bl rfl)
      (pss_one (ps_expr (pe_meth0 (pv 0) T.cl_House mt_House_forget G_House_forget hr_House_forget b_House_forget .nil pass0))))))))
set_option maxHeartbeats 4000000 in
theorem der_House_forget {P : Program} {w : World} {K : PySem.W.Frag} {mg : Str → Option Value} {base : Heap} {f : Addr} {cdv : Value} {A : Around} {outer : List Env} {s : Shared} {H : Hp} {E : XK} {C_House : Addr}  (T : Txt K mg C_House)
    
    (hr : Room 0 (A.deeper (PyProof.Rows.envOfC "House.forget" (defScope s_House_forget) s.heap.objs.size f cdv))) :
    PSs (cxOf CX0 P w K mg base ["self"] "House.forget" (defScope s_House_forget) f cdv A outer s H E).nox (defBody s_House_forget) (R_House_forget K ) := by
  have hu := hu_of hr
  have hu64 := hr.units
  have hu65 := hu65_of hr
  unfold R_House_forget
  exact (pss_cons (ps_fld (pv 0) pe_dnewK rfl)
      (pss_cons (ps_fld (pv 0) pe_dnewK rfl)
      (pss_one (ps_fld (pv 0) pe_int rfl))))
set_option maxHeartbeats 4000000 in
theorem der_House_begin {P : Program} {w : World} {K : PySem.W.Frag} {mg : Str → Option Value} {base : Heap} {f : Addr} {cdv : Value} {A : Around} {outer : List Env} {s : Shared} {H : Hp} {E : XK} (sp_House_write : Sp) (sp_House_to_others : Sp) (C_House : Addr) (T : Txt K mg C_House)
    (h_House_write : HasM P w K mg base C_House 1 "write" ["self", "word", "bargain"] sp_House_write) (h_House_to_others : HasM P w K mg base C_House 1 "to_others" ["self", "bargain", "word"] sp_House_to_others)
    (hr : Room 1 (A.deeper (PyProof.Rows.envOfC "House.begin" (defScope s_House_begin) s.heap.objs.size f cdv))) :
    PSs (cxOf CX0 P w K mg base ["self", "bargain"] "House.begin" (defScope s_House_begin) f cdv A outer s H E).nox (defBody s_House_begin) (R_House_begin K sp_House_write sp_House_to_others C_House) := by
  have hu := hu_of hr
  have hu64 := hr.units
  have hu65 := hu65_of hr
  obtain ⟨f_House_write, fd_House_write, G_House_write, mt_House_write, b_House_write⟩ := h_House_write
  have hr_House_write := hr.mono (j := 1) (by decide)
  obtain ⟨f_House_to_others, fd_House_to_others, G_House_to_others, mt_House_to_others, b_House_to_others⟩ := h_House_to_others
  have hr_House_to_others := hr.mono (j := 1) (by decide)
  unfold R_House_begin
  exact (pss_cons (ps_if (pt_cmpR op_in_seq (pv 1) (pe_fld (pv 0) rfl) (by with_unfolding_all rfl))
      (pss_cons (ps_expr (pe_meth (pv 0) T.cl_House mt_House_write G_House_write hr_House_write b_House_write .nil pass0 (pa_cons pe_str (pa_cons (pv 1) pa_nil))))
      (pss_one (ps_ret (pe_lst pa_nil))))
      pss_nil)
      (pss_cons (ps_expr (pe_meth (pv 0) T.cl_House mt_House_write G_House_write hr_House_write b_House_write .nil pass0 (pa_cons pe_str (pa_cons (pv 1) pa_nil))))
      (pss_one (ps_ret (pe_meth (pv 0) T.cl_House mt_House_to_others G_House_to_others hr_House_to_others b_House_to_others .nil pass0 (pa_cons (pv 1) (pa_cons pe_str pa_nil)))))))
set_option maxHeartbeats 4000000 in
theorem der_House_got {P : Program} {w : World} {K : PySem.W.Frag} {mg : Str → Option Value} {base : Heap} {f : Addr} {cdv : Value} {A : Around} {outer : List Env} {s : Shared} {H : Hp} {E : XK} (sp_House_got_ask : Sp) (sp_House_got_query : Sp) (sp_House_got_vote : Sp) (sp_House_got_decision : Sp) (C_House : Addr) (T : Txt K mg C_House)
    (h_House_got_ask : HasM P w K mg base C_House 4 "got_ask" ["self", "giver", "bargain"] sp_House_got_ask) (h_House_got_query : HasM P w K mg base C_House 4 "got_query" ["self", "giver", "bargain"] sp_House_got_query) (h_House_got_vote : HasM P w K mg base C_House 4 "got_vote" ["self", "giver", "bargain", "word"] sp_House_got_vote) (h_House_got_decision : HasM P w K mg base C_House 4 "got_decision" ["self", "bargain", "word"] sp_House_got_decision)
    (hr : Room 4 (A.deeper (PyProof.Rows.envOfC "House.got" (defScope s_House_got) s.heap.objs.size f cdv))) :
    PSs (cxOf CX0 P w K mg base ["self", "letter", "giver", "bargain", "word"] "House.got" (defScope s_House_got) f cdv A outer s H E).nox (defBody s_House_got) (R_House_got K sp_House_got_ask sp_House_got_query sp_House_got_vote sp_House_got_decision C_House) := by
  have hu := hu_of hr
  have hu64 := hr.units
  have hu65 := hu65_of hr
  obtain ⟨f_House_got_ask, fd_House_got_ask, G_House_got_ask, mt_House_got_ask, b_House_got_ask⟩ := h_House_got_ask
  have hr_House_got_ask := hr.mono (j := 4) (by decide)
  obtain ⟨f_House_got_query, fd_House_got_query, G_House_got_query, mt_House_got_query, b_House_got_query⟩ := h_House_got_query
  have hr_House_got_query := hr.mono (j := 4) (by decide)
  obtain ⟨f_House_got_vote, fd_House_got_vote, G_House_got_vote, mt_House_got_vote, b_House_got_vote⟩ := h_House_got_vote
  have hr_House_got_vote := hr.mono (j := 4) (by decide)
  obtain ⟨f_House_got_decision, fd_House_got_decision, G_House_got_decision, mt_House_got_decision, b_House_got_decision⟩ := h_House_got_decision
  have hr_House_got_decision := hr.mono (j := 4) (by decide)
  unfold R_House_got
  exact (pss_cons (ps_set (i := 2) sc_House_got.nd rfl (Or.inl rfl) (pe_ix ix_tup (pv 1) pe_int (fun _ _ => rfl)))
      (pss_cons (ps_set (i := 3) sc_House_got.nd rfl (Or.inl rfl) (pe_ix ix_tup (pv 1) pe_int (fun _ _ => rfl)))
      (pss_cons (ps_set (i := 4) sc_House_got.nd rfl (Or.inl rfl) (pe_ix ix_tup (pv 1) pe_int (fun _ _ => rfl)))
      (pss_cons (ps_if (pt_cmpR op_eq (pv 4) pe_str (nomark _))
      (pss_one (ps_ret (pe_meth (pv 0) T.cl_House mt_House_got_ask G_House_got_ask hr_House_got_ask b_House_got_ask .nil pass0 (pa_cons (pv 2) (pa_cons (pv 3) pa_nil)))))
      pss_nil)
      (pss_cons (ps_if (pt_cmpR op_eq (pv 4) pe_str (nomark _))
      (pss_one (ps_ret (pe_meth (pv 0) T.cl_House mt_House_got_query G_House_got_query hr_House_got_query b_House_got_query .nil pass0 (pa_cons (pv 2) (pa_cons (pv 3) pa_nil)))))
      pss_nil)
      (pss_cons (ps_if (pt_cmpR op_in_seq (pv 4) (pe_tup (pa_cons pe_str (pa_cons pe_str pa_nil))) (by with_unfolding_all rfl))
      (pss_one (ps_ret (pe_meth (pv 0) T.cl_House mt_House_got_vote G_House_got_vote hr_House_got_vote b_House_got_vote .nil pass0 (pa_cons (pv 2) (pa_cons (pv 3) (pa_cons (pv 4) pa_nil))))))
      pss_nil)
      (pss_one (ps_ret (pe_meth (pv 0) T.cl_House mt_House_got_decision G_House_got_decision hr_House_got_decision b_House_got_decision .nil pass0 (pa_cons (pv 3) (pa_cons (pv 4) pa_nil)))))))))))
set_option maxHeartbeats 4000000 in
theorem der_House_got_ask {P : Program} {w : World} {K : PySem.W.Frag} {mg : Str → Option Value} {base : Heap} {f : Addr} {cdv : Value} {A : Around} {outer : List Env} {s : Shared} {H : Hp} {E : XK} (sp_knows : Sp) (sp_House_page : Sp) (sp_House_write : Sp) (sp_House_decision : Sp) (sp_House_to_one : Sp) (C_House : Addr) (T : Txt K mg C_House)
    (h_knows : Has P w K mg base 2 "knows" ["book", "bargain"] sp_knows) (h_House_page : HasM P w K mg base C_House 1 "page" ["self", "bargain"] sp_House_page) (h_House_write : HasM P w K mg base C_House 1 "write" ["self", "word", "bargain"] sp_House_write) (h_House_decision : HasM P w K mg base C_House 3 "decision" ["self", "bargain"] sp_House_decision) (h_House_to_one : HasM P w K mg base C_House 1 "to_one" ["self", "other", "bargain", "word"] sp_House_to_one)
    (hr : Room 3 (A.deeper (PyProof.Rows.envOfC "House.got_ask" (defScope s_House_got_ask) s.heap.objs.size f cdv))) :
    PSs (cxOf CX0 P w K mg base ["self", "giver", "bargain"] "House.got_ask" (defScope s_House_got_ask) f cdv A outer s H E).nox (defBody s_House_got_ask) (R_House_got_ask K sp_knows sp_House_page sp_House_write sp_House_decision sp_House_to_one C_House) := by
  have hu := hu_of hr
  have hu64 := hr.units
  have hu65 := hu65_of hr
  obtain ⟨f_knows, fd_knows, G_knows, m_knows, k_knows, b_knows⟩ := h_knows
  have hr_knows := hr.mono (j := 2) (by decide)
  obtain ⟨f_House_page, fd_House_page, G_House_page, mt_House_page, b_House_page⟩ := h_House_page
  have hr_House_page := hr.mono (j := 1) (by decide)
  obtain ⟨f_House_write, fd_House_write, G_House_write, mt_House_write, b_House_write⟩ := h_House_write
  have hr_House_write := hr.mono (j := 1) (by decide)
  obtain ⟨f_House_decision, fd_House_decision, G_House_decision, mt_House_decision, b_House_decision⟩ := h_House_decision
  have hr_House_decision := hr.mono (j := 3) (by decide)
  obtain ⟨f_House_to_one, fd_House_to_one, G_House_to_one, mt_House_to_one, b_House_to_one⟩ := h_House_to_one
  have hr_House_to_one := hr.mono (j := 1) (by decide)
  unfold R_House_got_ask
  exact (pss_cut (ps_if (pt_not (pt_val (pe_call G_knows hr_knows rfl m_knows k_knows b_knows .nil pass0 (pa_cons (pe_meth (pv 0) T.cl_House mt_House_page G_House_page hr_House_page b_House_page .nil pass0 (pa_cons (pv 2) pa_nil)) (pa_cons (pv 2) pa_nil)))))
      (pss_one (ps_expr (pe_meth (pv 0) T.cl_House mt_House_write G_House_write hr_House_write b_House_write .nil pass0 (pa_cons (pe_ifExp (pt_cmpR op_in_seq (pv 2) (pe_fld (pv 0) rfl) (by with_unfolding_all rfl)) pe_str pe_str) (pa_cons (pv 2) pa_nil)))))
      pss_nil)
      (pss_cons (ps_if (pt_cmpR op_eq (pe_meth (pv 0) T.cl_House mt_House_decision G_House_decision hr_House_decision b_House_decision .nil pass0 (pa_cons (pv 2) pa_nil)) pe_str (nomark _))
      (pss_one (ps_ret (pe_meth (pv 0) T.cl_House mt_House_to_one G_House_to_one hr_House_to_one b_House_to_one .nil pass0 (pa_cons (pv 1) (pa_cons (pv 2) (pa_cons pe_str pa_nil))))))
      pss_nil)
      (pss_one (ps_ret (pe_meth (pv 0) T.cl_House mt_House_to_one G_House_to_one hr_House_to_one b_House_to_one .nil pass0 (pa_cons (pv 1) (pa_cons (pv 2) (pa_cons pe_str pa_nil))))))))
set_option maxHeartbeats 4000000 in
theorem der_House_got_vote {P : Program} {w : World} {K : PySem.W.Frag} {mg : Str → Option Value} {base : Heap} {f : Addr} {cdv : Value} {A : Around} {outer : List Env} {s : Shared} {H : Hp} {E : XK} (sp_House_decision : Sp) (sp_House_to_one : Sp) (sp_House_decide : Sp) (C_House : Addr) (T : Txt K mg C_House)
    (h_House_decision : HasM P w K mg base C_House 3 "decision" ["self", "bargain"] sp_House_decision) (h_House_to_one : HasM P w K mg base C_House 1 "to_one" ["self", "other", "bargain", "word"] sp_House_to_one) (h_House_decide : HasM P w K mg base C_House 2 "decide" ["self", "bargain", "word"] sp_House_decide)
    (hr : Room 3 (A.deeper (PyProof.Rows.envOfC "House.got_vote" (defScope s_House_got_vote) s.heap.objs.size f cdv))) :
    PSs (cxOf CX0 P w K mg base ["self", "giver", "bargain", "word", "decided", "givers"] "House.got_vote" (defScope s_House_got_vote) f cdv A outer s H E).nox (defBody s_House_got_vote) (R_House_got_vote K sp_House_decision sp_House_to_one sp_House_decide C_House) := by
  have hu := hu_of hr
  have hu64 := hr.units
  have hu65 := hu65_of hr
  obtain ⟨f_House_decision, fd_House_decision, G_House_decision, mt_House_decision, b_House_decision⟩ := h_House_decision
  have hr_House_decision := hr.mono (j := 3) (by decide)
  obtain ⟨f_House_to_one, fd_House_to_one, G_House_to_one, mt_House_to_one, b_House_to_one⟩ := h_House_to_one
  have hr_House_to_one := hr.mono (j := 1) (by decide)
  obtain ⟨f_House_decide, fd_House_decide, G_House_decide, mt_House_decide, b_House_decide⟩ := h_House_decide
  have hr_House_decide := hr.mono (j := 2) (by decide)
  unfold R_House_got_vote
  exact (pss_cons (ps_set (i := 4) sc_House_got_vote.nd rfl (Or.inl rfl) (pe_meth (pv 0) T.cl_House mt_House_decision G_House_decision hr_House_decision b_House_decision .nil pass0 (pa_cons (pv 2) pa_nil)))
      (pss_cons (ps_if (pt_cmp (pc_notN (pv 4)))
      (pss_one (ps_ret (pe_ifExp (pt_cmpR op_eq (pv 3) pe_str (nomark _)) (pe_meth (pv 0) T.cl_House mt_House_to_one G_House_to_one hr_House_to_one b_House_to_one .nil pass0 (pa_cons (pv 1) (pa_cons (pv 2) (pa_cons (pv 4) pa_nil)))) (pe_lst pa_nil))))
      pss_nil)
      (pss_cons (ps_if (pt_cmpR op_eq (pv 3) pe_str (nomark _))
      (pss_one (ps_ret (pe_meth (pv 0) T.cl_House mt_House_decide G_House_decide hr_House_decide b_House_decide .nil pass0 (pa_cons (pv 2) (pa_cons pe_str pa_nil)))))
      pss_nil)
      (pss_cons (ps_set (i := 5) sc_House_got_vote.nd rfl (Or.inl rfl) (pe_dsetd (pe_fld (pv 0) rfl) (pv 2) pe_dnewK ⟨rfl, rfl, rfl, rfl⟩))
      (pss_cons (ps_dput hu (pv 5) (pv 1) pe_bl rfl)
      (pss_cons (ps_if (pt_cmpR op_lt (pe_callB call_lenD (by rfl) T.n_len PySem.boot_len (pa_cons (pv 5) pa_nil)) (pe_callB call_len_seq (by rfl) T.n_len PySem.boot_len (pa_cons (pe_fld (pv 0) rfl) pa_nil)) (nomark _))
      (pss_one (ps_ret (pe_lst pa_nil)))
      pss_nil)
      (pss_one (ps_ret (pe_meth (pv 0) T.cl_House mt_House_decide G_House_decide hr_House_decide b_House_decide .nil pass0 (pa_cons (pv 2) (pa_cons pe_str pa_nil)))))))))))
set_option maxHeartbeats 4000000 in
theorem der_House_got_decision {P : Program} {w : World} {K : PySem.W.Frag} {mg : Str → Option Value} {base : Heap} {f : Addr} {cdv : Value} {A : Around} {outer : List Env} {s : Shared} {H : Hp} {E : XK} (sp_House_decision : Sp) (sp_House_write : Sp) (C_House : Addr) (T : Txt K mg C_House)
    (h_House_decision : HasM P w K mg base C_House 3 "decision" ["self", "bargain"] sp_House_decision) (h_House_write : HasM P w K mg base C_House 1 "write" ["self", "word", "bargain"] sp_House_write)
    (hr : Room 3 (A.deeper (PyProof.Rows.envOfC "House.got_decision" (defScope s_House_got_decision) s.heap.objs.size f cdv))) :
    PSs (cxOf CX0 P w K mg base ["self", "bargain", "word"] "House.got_decision" (defScope s_House_got_decision) f cdv A outer s H E).nox (defBody s_House_got_decision) (R_House_got_decision K sp_House_decision sp_House_write C_House) := by
  have hu := hu_of hr
  have hu64 := hr.units
  have hu65 := hu65_of hr
  obtain ⟨f_House_decision, fd_House_decision, G_House_decision, mt_House_decision, b_House_decision⟩ := h_House_decision
  have hr_House_decision := hr.mono (j := 3) (by decide)
  obtain ⟨f_House_write, fd_House_write, G_House_write, mt_House_write, b_House_write⟩ := h_House_write
  have hr_House_write := hr.mono (j := 1) (by decide)
  unfold R_House_got_decision
  exact (pss_cut (ps_if (pt_cmp (pc_isN (pe_meth (pv 0) T.cl_House mt_House_decision G_House_decision hr_House_decision b_House_decision .nil pass0 (pa_cons (pv 1) pa_nil))))
      (pss_one (ps_expr (pe_meth (pv 0) T.cl_House mt_House_write G_House_write hr_House_write b_House_write .nil pass0 (pa_cons (pv 2) (pa_cons (pv 1) pa_nil)))))
      pss_nil)
      (pss_one (ps_ret (pe_lst pa_nil))))
set_option maxHeartbeats 4000000 in
theorem der_House_got_query {P : Program} {w : World} {K : PySem.W.Frag} {mg : Str → Option Value} {base : Heap} {f : Addr} {cdv : Value} {A : Around} {outer : List Env} {s : Shared} {H : Hp} {E : XK} (sp_is_unsure : Sp) (sp_knows : Sp) (sp_House_page : Sp) (sp_House_decision : Sp) (sp_House_to_one : Sp) (sp_House_decide : Sp) (sp_House_write : Sp) (C_House : Addr) (T : Txt K mg C_House)
    (h_is_unsure : Has P w K mg base 3 "is_unsure" ["book", "bargain"] sp_is_unsure) (h_knows : Has P w K mg base 2 "knows" ["book", "bargain"] sp_knows) (h_House_page : HasM P w K mg base C_House 1 "page" ["self", "bargain"] sp_House_page) (h_House_decision : HasM P w K mg base C_House 3 "decision" ["self", "bargain"] sp_House_decision) (h_House_to_one : HasM P w K mg base C_House 1 "to_one" ["self", "other", "bargain", "word"] sp_House_to_one) (h_House_decide : HasM P w K mg base C_House 2 "decide" ["self", "bargain", "word"] sp_House_decide) (h_House_write : HasM P w K mg base C_House 1 "write" ["self", "word", "bargain"] sp_House_write)
    (hr : Room 3 (A.deeper (PyProof.Rows.envOfC "House.got_query" (defScope s_House_got_query) s.heap.objs.size f cdv))) :
    PSs (cxOf CX0 P w K mg base ["self", "giver", "bargain", "decided"] "House.got_query" (defScope s_House_got_query) f cdv A outer s H E).nox (defBody s_House_got_query) (R_House_got_query K sp_is_unsure sp_knows sp_House_page sp_House_decision sp_House_to_one sp_House_decide sp_House_write C_House) := by
  have hu := hu_of hr
  have hu64 := hr.units
  have hu65 := hu65_of hr
  obtain ⟨f_is_unsure, fd_is_unsure, G_is_unsure, m_is_unsure, k_is_unsure, b_is_unsure⟩ := h_is_unsure
  have hr_is_unsure := hr.mono (j := 3) (by decide)
  obtain ⟨f_knows, fd_knows, G_knows, m_knows, k_knows, b_knows⟩ := h_knows
  have hr_knows := hr.mono (j := 2) (by decide)
  obtain ⟨f_House_page, fd_House_page, G_House_page, mt_House_page, b_House_page⟩ := h_House_page
  have hr_House_page := hr.mono (j := 1) (by decide)
  obtain ⟨f_House_decision, fd_House_decision, G_House_decision, mt_House_decision, b_House_decision⟩ := h_House_decision
  have hr_House_decision := hr.mono (j := 3) (by decide)
  obtain ⟨f_House_to_one, fd_House_to_one, G_House_to_one, mt_House_to_one, b_House_to_one⟩ := h_House_to_one
  have hr_House_to_one := hr.mono (j := 1) (by decide)
  obtain ⟨f_House_decide, fd_House_decide, G_House_decide, mt_House_decide, b_House_decide⟩ := h_House_decide
  have hr_House_decide := hr.mono (j := 2) (by decide)
  obtain ⟨f_House_write, fd_House_write, G_House_write, mt_House_write, b_House_write⟩ := h_House_write
  have hr_House_write := hr.mono (j := 1) (by decide)
  unfold R_House_got_query
  exact (pss_cons (ps_if (pt_val (pe_call G_is_unsure hr_is_unsure rfl m_is_unsure k_is_unsure b_is_unsure .nil pass0 (pa_cons (pe_meth (pv 0) T.cl_House mt_House_page G_House_page hr_House_page b_House_page .nil pass0 (pa_cons (pv 2) pa_nil)) (pa_cons (pv 2) pa_nil))))
      (pss_one (ps_ret (pe_lst pa_nil)))
      pss_nil)
      (pss_cons (ps_set (i := 3) sc_House_got_query.nd rfl (Or.inl rfl) (pe_meth (pv 0) T.cl_House mt_House_decision G_House_decision hr_House_decision b_House_decision .nil pass0 (pa_cons (pv 2) pa_nil)))
      (pss_cons (ps_if (pt_cmp (pc_notN (pv 3)))
      (pss_one (ps_ret (pe_meth (pv 0) T.cl_House mt_House_to_one G_House_to_one hr_House_to_one b_House_to_one .nil pass0 (pa_cons (pv 1) (pa_cons (pv 2) (pa_cons (pv 3) pa_nil))))))
      pss_nil)
      (pss_cons (ps_if (pt_val (pe_call G_knows hr_knows rfl m_knows k_knows b_knows .nil pass0 (pa_cons (pe_meth (pv 0) T.cl_House mt_House_page G_House_page hr_House_page b_House_page .nil pass0 (pa_cons (pv 2) pa_nil)) (pa_cons (pv 2) pa_nil))))
      (pss_one (ps_ret (pe_meth (pv 0) T.cl_House mt_House_decide G_House_decide hr_House_decide b_House_decide .nil pass0 (pa_cons (pv 2) (pa_cons pe_str pa_nil)))))
      pss_nil)
      (pss_cons (ps_expr (pe_meth (pv 0) T.cl_House mt_House_write G_House_write hr_House_write b_House_write .nil pass0 (pa_cons pe_str (pa_cons (pv 2) pa_nil))))
      (pss_one (ps_ret (pe_meth (pv 0) T.cl_House mt_House_to_one G_House_to_one hr_House_to_one b_House_to_one .nil pass0 (pa_cons (pv 1) (pa_cons (pv 2) (pa_cons pe_str pa_nil)))))))))))
set_option maxHeartbeats 4000000 in
theorem der_House_decide {P : Program} {w : World} {K : PySem.W.Frag} {mg : Str → Option Value} {base : Heap} {f : Addr} {cdv : Value} {A : Around} {outer : List Env} {s : Shared} {H : Hp} {E : XK} (sp_House_write : Sp) (sp_House_to_others : Sp) (C_House : Addr) (T : Txt K mg C_House)
    (h_House_write : HasM P w K mg base C_House 1 "write" ["self", "word", "bargain"] sp_House_write) (h_House_to_others : HasM P w K mg base C_House 1 "to_others" ["self", "bargain", "word"] sp_House_to_others)
    (hr : Room 1 (A.deeper (PyProof.Rows.envOfC "House.decide" (defScope s_House_decide) s.heap.objs.size f cdv))) :
    PSs (cxOf CX0 P w K mg base ["self", "bargain", "word"] "House.decide" (defScope s_House_decide) f cdv A outer s H E).nox (defBody s_House_decide) (R_House_decide K sp_House_write sp_House_to_others C_House) := by
  have hu := hu_of hr
  have hu64 := hr.units
  have hu65 := hu65_of hr
  obtain ⟨f_House_write, fd_House_write, G_House_write, mt_House_write, b_House_write⟩ := h_House_write
  have hr_House_write := hr.mono (j := 1) (by decide)
  obtain ⟨f_House_to_others, fd_House_to_others, G_House_to_others, mt_House_to_others, b_House_to_others⟩ := h_House_to_others
  have hr_House_to_others := hr.mono (j := 1) (by decide)
  unfold R_House_decide
  exact (pss_cons (ps_expr (pe_meth (pv 0) T.cl_House mt_House_write G_House_write hr_House_write b_House_write .nil pass0 (pa_cons (pv 2) (pa_cons (pv 1) pa_nil))))
      (pss_one (ps_ret (pe_meth (pv 0) T.cl_House mt_House_to_others G_House_to_others hr_House_to_others b_House_to_others .nil pass0 (pa_cons (pv 1) (pa_cons (pv 2) pa_nil))))))
set_option maxHeartbeats 4000000 in
theorem der_House_decision {P : Program} {w : World} {K : PySem.W.Frag} {mg : Str → Option Value} {base : Heap} {f : Addr} {cdv : Value} {A : Around} {outer : List Env} {s : Shared} {H : Hp} {E : XK} (sp_decision_in : Sp) (sp_House_page : Sp) (C_House : Addr) (T : Txt K mg C_House)
    (h_decision_in : Has P w K mg base 2 "decision_in" ["book", "bargain"] sp_decision_in) (h_House_page : HasM P w K mg base C_House 1 "page" ["self", "bargain"] sp_House_page)
    (hr : Room 2 (A.deeper (PyProof.Rows.envOfC "House.decision" (defScope s_House_decision) s.heap.objs.size f cdv))) :
    PSs (cxOf CX0 P w K mg base ["self", "bargain"] "House.decision" (defScope s_House_decision) f cdv A outer s H E).nox (defBody s_House_decision) (R_House_decision K sp_decision_in sp_House_page C_House) := by
  have hu := hu_of hr
  have hu64 := hr.units
  have hu65 := hu65_of hr
  obtain ⟨f_decision_in, fd_decision_in, G_decision_in, m_decision_in, k_decision_in, b_decision_in⟩ := h_decision_in
  have hr_decision_in := hr.mono (j := 2) (by decide)
  obtain ⟨f_House_page, fd_House_page, G_House_page, mt_House_page, b_House_page⟩ := h_House_page
  have hr_House_page := hr.mono (j := 1) (by decide)
  unfold R_House_decision
  exact (pss_one (ps_ret (pe_call G_decision_in hr_decision_in rfl m_decision_in k_decision_in b_decision_in .nil pass0 (pa_cons (pe_meth (pv 0) T.cl_House mt_House_page G_House_page hr_House_page b_House_page .nil pass0 (pa_cons (pv 1) pa_nil)) (pa_cons (pv 1) pa_nil)))))
set_option maxHeartbeats 4000000 in
theorem der_House_page {P : Program} {w : World} {K : PySem.W.Frag} {mg : Str → Option Value} {base : Heap} {f : Addr} {cdv : Value} {A : Around} {outer : List Env} {s : Shared} {H : Hp} {E : XK} {C_House : Addr}  (T : Txt K mg C_House)
    
    (hr : Room 0 (A.deeper (PyProof.Rows.envOfC "House.page" (defScope s_House_page) s.heap.objs.size f cdv))) :
    PSs (cxOf CX0 P w K mg base ["self", "bargain", "line"] "House.page" (defScope s_House_page) f cdv A outer s H E).nox (defBody s_House_page) (R_House_page K ) := by
  have hu := hu_of hr
  have hu64 := hr.units
  have hu65 := hu65_of hr
  unfold R_House_page
  exact (pss_cons (ps_while PassesOwn.never (pt_cmpR op_lt (pe_fld (pv 0) rfl) (pe_callB call_len_seq (by rfl) T.n_len PySem.boot_len (pa_cons (pe_fld (pv 0) rfl) pa_nil)) (nomark _))
      (pss_cons (ps_set (i := 2) sc_House_page.nd rfl (Or.inl rfl) (pe_ix ix_list (pe_fld (pv 0) rfl) (pe_fld (pv 0) rfl) (fun _ _ => rfl)))
      (pss_cons (ps_expr (pe_bm PySem.F.plainAttrs_list PySem.F.slot_list_append PySem.F.type_list_append mt_append (pe_dsetd (pe_fld (pv 0) rfl) (pe_ix ix_tup (pv 2) pe_int (fun _ _ => rfl)) (pe_lst pa_nil) ⟨rfl, rfl, rfl, rfl⟩) (pa_cons (pv 2) pa_nil)))
      (pss_one (ps_fldaug (pv 0) pe_int in_add)))))
      (pss_one (ps_ret (pe_dget2 hu (pe_fld (pv 0) rfl) (pv 1) (pe_lst pa_nil) ⟨rfl, rfl, rfl, rfl⟩))))
set_option maxHeartbeats 4000000 in
theorem der_House_write {P : Program} {w : World} {K : PySem.W.Frag} {mg : Str → Option Value} {base : Heap} {f : Addr} {cdv : Value} {A : Around} {outer : List Env} {s : Shared} {H : Hp} {E : XK} {C_House : Addr}  (T : Txt K mg C_House)
    
    (hr : Room 0 (A.deeper (PyProof.Rows.envOfC "House.write" (defScope s_House_write) s.heap.objs.size f cdv))) :
    PSs (cxOf CX0 P w K mg base ["self", "word", "bargain"] "House.write" (defScope s_House_write) f cdv A outer s H E).nox (defBody s_House_write) (R_House_write K ) := by
  have hu := hu_of hr
  have hu64 := hr.units
  have hu65 := hu65_of hr
  unfold R_House_write
  exact (pss_one (ps_expr (pe_bm PySem.F.plainAttrs_list PySem.F.slot_list_append PySem.F.type_list_append mt_append (pe_fld (pv 0) rfl) (pa_cons (pe_tup (pa_cons (pv 1) (pa_cons (pv 2) pa_nil))) pa_nil))))
set_option maxHeartbeats 4000000 in
theorem der_House_to_one {P : Program} {w : World} {K : PySem.W.Frag} {mg : Str → Option Value} {base : Heap} {f : Addr} {cdv : Value} {A : Around} {outer : List Env} {s : Shared} {H : Hp} {E : XK} {C_House : Addr}  (T : Txt K mg C_House)
    
    (hr : Room 0 (A.deeper (PyProof.Rows.envOfC "House.to_one" (defScope s_House_to_one) s.heap.objs.size f cdv))) :
    PSs (cxOf CX0 P w K mg base ["self", "other", "bargain", "word"] "House.to_one" (defScope s_House_to_one) f cdv A outer s H E).nox (defBody s_House_to_one) (R_House_to_one K ) := by
  have hu := hu_of hr
  have hu64 := hr.units
  have hu65 := hu65_of hr
  unfold R_House_to_one
  exact (pss_one (ps_ret (pe_lst (pa_cons (pe_tup (pa_cons (pe_fld (pv 0) rfl) (pa_cons (pv 1) (pa_cons (pv 2) (pa_cons (pv 3) pa_nil))))) pa_nil))))
set_option maxHeartbeats 4000000 in
theorem der_House_to_others {P : Program} {w : World} {K : PySem.W.Frag} {mg : Str → Option Value} {base : Heap} {f : Addr} {cdv : Value} {A : Around} {outer : List Env} {s : Shared} {H : Hp} {E : XK} {C_House : Addr}  (T : Txt K mg C_House)
    
    (hr : Room 0 (A.deeper (PyProof.Rows.envOfC "House.to_others" (defScope s_House_to_others) s.heap.objs.size f cdv))) :
    PSs (cxOf CX0 P w K mg base ["self", "bargain", "word"] "House.to_others" (defScope s_House_to_others) f cdv A outer s H E).nox (defBody s_House_to_others) (R_House_to_others K ) := by
  have hu := hu_of hr
  have hu64 := hr.units
  have hu65 := hu65_of hr
  unfold R_House_to_others
  exact (pss_one (ps_ret (pe_lc rfl (show CompOk _ (["other", "bargain", "word", "self"] : List Str) _ ([("word", s.heap.objs.size + 1 + 2), ("self", s.heap.objs.size + 1 + 0), ("bargain", s.heap.objs.size + 1 + 1)] : List (Str × Addr)) ([none, some 1, some 2, some 0] : List (Option Nat)) from ⟨by with_unfolding_all rfl, rfl, rfl, rfl, rfl, ⟨rfl, ⟨rfl, ⟨rfl, trivial⟩⟩⟩, ⟨⟨rfl, Or.inl rfl, Or.inl rfl, _, rfl, rfl⟩, ⟨⟨rfl, Or.inl rfl, Or.inl rfl, _, rfl, rfl⟩, ⟨⟨rfl, Or.inl rfl, Or.inl rfl, _, rfl, rfl⟩, trivial⟩⟩⟩⟩) (pi_list (pe_fld (pv 0) rfl)) (fun _ _ _ _ => (pg_name (i := 0) nd_House_to_others_0 rfl (Or.inl rfl))) (fun _ _ _ _ => pifs_nil) (fun _ _ _ _ => (pe_tup (pa_cons (pe_fld (pv 3) rfl) (pa_cons (pv 0) (pa_cons (pv 1) (pa_cons (pv 2) pa_nil)))))))))
set_option maxHeartbeats 4000000 in
theorem der_got_all {P : Program} {w : World} {K : PySem.W.Frag} {mg : Str → Option Value} {base : Heap} {f : Addr} {cdv : Value} {A : Around} {outer : List Env} {s : Shared} {H : Hp} {E : XK} (sp_House_got : Sp) (C_House : Addr) (T : Txt K mg C_House)
    (h_House_got : HasM P w K mg base C_House 5 "got" ["self", "letter"] sp_House_got)
    (hr : Room 5 (A.deeper (PyProof.Rows.envOfC "got_all" (defScope s_got_all) s.heap.objs.size f cdv))) :
    PSs (cxOf CX0 P w K mg base ["house", "letters"] "got_all" (defScope s_got_all) f cdv A outer s H E).nox (defBody s_got_all) (R_got_all K sp_House_got C_House) := by
  have hu := hu_of hr
  have hu64 := hr.units
  have hu65 := hu65_of hr
  obtain ⟨f_House_got, fd_House_got, G_House_got, mt_House_got, b_House_got⟩ := h_House_got
  have hr_House_got := hr.mono (j := 5) (by decide)
  unfold R_got_all
  exact (pss_one (ps_ret (pe_lc rfl (show CompOk _ (["letter", "house"] : List Str) _ ([("house", s.heap.objs.size + 1 + 0)] : List (Str × Addr)) ([none, some 0] : List (Option Nat)) from ⟨by with_unfolding_all rfl, rfl, rfl, rfl, rfl, ⟨rfl, trivial⟩, ⟨⟨rfl, Or.inl rfl, Or.inl rfl, _, rfl, rfl⟩, trivial⟩⟩) (pi_list (pv 1)) (fun _ _ _ _ => (pg_name (i := 0) nd_got_all_0 rfl (Or.inl rfl))) (fun _ _ _ _ => pifs_nil) (fun _ _ _ _ => (pe_meth (pv 1) T.cl_House mt_House_got G_House_got hr_House_got b_House_got .nil pass0 (pa_cons (pv 0) pa_nil))))))
set_option maxHeartbeats 4000000 in
theorem der_law_whole {P : Program} {w : World} {K : PySem.W.Frag} {mg : Str → Option Value} {base : Heap} {f : Addr} {cdv : Value} {A : Around} {outer : List Env} {s : Shared} {H : Hp} {E : XK} {C_House : Addr}  (T : Txt K mg C_House)
    
    (hr : Room 0 (A.deeper (PyProof.Rows.envOfC "_law_whole" (defScope s_law_whole) s.heap.objs.size f cdv))) :
    PSs (cxOf CX0 P w K mg base ["_law_found"] "_law_whole" (defScope s_law_whole) f cdv A outer s H E).nox (defBody s_law_whole) (R_law_whole K ) := by
  have hu := hu_of hr
  have hu64 := hr.units
  have hu65 := hu65_of hr
  unfold R_law_whole
  exact (pss_one (ps_ret (pe_and (pe_callB call_isinst (by rfl) T.n_isinstance PyProof.Rows.boot_isinstance (pa_cons (pv 0) (pa_cons (pe_bltn (by rfl) T.n_int PySem.Pv.boot_int (v := .ty "int") rfl) pa_nil))) (pe_one (pe_not (pe_callB call_isinst (by rfl) T.n_isinstance PyProof.Rows.boot_isinstance (pa_cons (pv 0) (pa_cons (pe_bltn (by rfl) T.n_bool PySem.Pv.boot_bool (v := .ty "bool") rfl) pa_nil))))))))
set_option maxHeartbeats 4000000 in
theorem der_law_at {P : Program} {w : World} {K : PySem.W.Frag} {mg : Str → Option Value} {base : Heap} {f : Addr} {cdv : Value} {A : Around} {outer : List Env} {s : Shared} {H : Hp} {E : XK} {C_House : Addr}  (T : Txt K mg C_House)
    
    (hr : Room 0 (A.deeper (PyProof.Rows.envOfC "_law_at" (defScope s_law_at) s.heap.objs.size f cdv))) :
    PSs (cxOf CX0 P w K mg base ["_law_script", "_law_k"] "_law_at" (defScope s_law_at) f cdv A outer s H E).nox (defBody s_law_at) (R_law_at K ) := by
  have hu := hu_of hr
  have hu64 := hr.units
  have hu65 := hu65_of hr
  unfold R_law_at
  exact (pss_cons (ps_if (pt_cmpR op_lt (pv 1) (pe_callB call_len_seq (by rfl) T.n_len PySem.boot_len (pa_cons (pv 0) pa_nil)) (nomark _))
      (pss_one (ps_ret (pe_ix ix_list (pv 0) (pv 1) (fun _ _ => rfl))))
      pss_nil)
      (pss_one (ps_ret pe_int)))
set_option maxHeartbeats 4000000 in
theorem der_law_is_line {P : Program} {w : World} {K : PySem.W.Frag} {mg : Str → Option Value} {base : Heap} {f : Addr} {cdv : Value} {A : Around} {outer : List Env} {s : Shared} {H : Hp} {E : XK} {C_House : Addr} (sp_law_whole : Sp) (T : Txt K mg C_House)
    (h_law_whole : Has P w K mg base 1 "_law_whole" ["_law_found"] sp_law_whole)
    (hr : Room 1 (A.deeper (PyProof.Rows.envOfC "_law_is_line" (defScope s_law_is_line) s.heap.objs.size f cdv))) :
    PSs (cxOf CX0 P w K mg base ["_law_found"] "_law_is_line" (defScope s_law_is_line) f cdv A outer s H E).nox (defBody s_law_is_line) (R_law_is_line K sp_law_whole) := by
  have hu := hu_of hr
  have hu64 := hr.units
  have hu65 := hu65_of hr
  obtain ⟨f_law_whole, fd_law_whole, G_law_whole, m_law_whole, k_law_whole, b_law_whole⟩ := h_law_whole
  have hr_law_whole := hr.mono (j := 1) (by decide)
  unfold R_law_is_line
  exact (pss_cons (ps_if (PW.pt (pw_or (pt_not (pt_val (pe_callB call_isinst (by rfl) T.n_isinstance PyProof.Rows.boot_isinstance (pa_cons (pv 0) (pa_cons (pe_bltn (by rfl) T.n_tuple PySem.Pv.boot_tuple (v := .ty "tuple") rfl) pa_nil))))) (pw_or1 (pt_cmpR op_ne (pe_callB call_len_seq (by rfl) T.n_len PySem.boot_len (pa_cons (pv 0) pa_nil)) pe_int (nomark _)))))
      (pss_one (ps_ret pe_bl))
      pss_nil)
      (pss_cons (ps_if (PW.pt (pw_or (pt_not (pt_val (pe_callB call_isinst (by rfl) T.n_isinstance PyProof.Rows.boot_isinstance (pa_cons (pe_ix ix_tup (pv 0) pe_int (fun _ _ => rfl)) (pa_cons (pe_bltn (by rfl) T.n_str PySem.Pv.boot_str (v := .ty "str") rfl) pa_nil))))) (pw_or1 (pt_not (pt_val (pe_call G_law_whole hr_law_whole rfl m_law_whole k_law_whole b_law_whole .nil pass0 (pa_cons (pe_ix ix_tup (pv 0) pe_int (fun _ _ => rfl)) pa_nil)))))))
      (pss_one (ps_ret pe_bl))
      pss_nil)
      (pss_one (ps_ret (pe_cmpR op_in_seq (pe_ix ix_tup (pv 0) pe_int (fun _ _ => rfl)) (pe_lst (pa_cons pe_str (pa_cons pe_str (pa_cons pe_str (pa_cons pe_str (pa_cons pe_str pa_nil)))))) (by with_unfolding_all rfl))))))
set_option maxHeartbeats 4000000 in
theorem der_law_are_lines {P : Program} {w : World} {K : PySem.W.Frag} {mg : Str → Option Value} {base : Heap} {f : Addr} {cdv : Value} {A : Around} {outer : List Env} {s : Shared} {H : Hp} {E : XK} {C_House : Addr} (sp_law_is_line : Sp) (T : Txt K mg C_House)
    (h_law_is_line : Has P w K mg base 2 "_law_is_line" ["_law_found"] sp_law_is_line)
    (hr : Room 2 (A.deeper (PyProof.Rows.envOfC "_law_are_lines" (defScope s_law_are_lines) s.heap.objs.size f cdv))) :
    PSs (cxOf CX0 P w K mg base ["_law_found", "_law_line"] "_law_are_lines" (defScope s_law_are_lines) f cdv A outer s H E).nox (defBody s_law_are_lines) (R_law_are_lines K sp_law_is_line) := by
  have hu := hu_of hr
  have hu64 := hr.units
  have hu65 := hu65_of hr
  obtain ⟨f_law_is_line, fd_law_is_line, G_law_is_line, m_law_is_line, k_law_is_line, b_law_is_line⟩ := h_law_is_line
  have hr_law_is_line := hr.mono (j := 2) (by decide)
  unfold R_law_are_lines
  exact (pss_cons (ps_if (pt_not (pt_val (pe_callB call_isinst (by rfl) T.n_isinstance PyProof.Rows.boot_isinstance (pa_cons (pv 0) (pa_cons (pe_bltn (by rfl) T.n_list PySem.Pv.boot_list (v := .ty "list") rfl) pa_nil)))))
      (pss_one (ps_ret pe_bl))
      pss_nil)
      (pss_cons (ps_for PassesOwn.never rfl (pi_list (pv 0)) (pg_name (i := 1) sc_law_are_lines.nd rfl (Or.inl rfl))
      (pss_one (ps_if (pt_not (pt_val (pe_call G_law_is_line hr_law_is_line rfl m_law_is_line k_law_is_line b_law_is_line .nil pass0 (pa_cons (pv 1) pa_nil))))
      (pss_one (ps_ret pe_bl))
      pss_nil)))
      (pss_one (ps_ret pe_bl))))
set_option maxHeartbeats 4000000 in
theorem der_law_is_letter {P : Program} {w : World} {K : PySem.W.Frag} {mg : Str → Option Value} {base : Heap} {f : Addr} {cdv : Value} {A : Around} {outer : List Env} {s : Shared} {H : Hp} {E : XK} {C_House : Addr} (sp_law_whole : Sp) (T : Txt K mg C_House)
    (h_law_whole : Has P w K mg base 1 "_law_whole" ["_law_found"] sp_law_whole)
    (hr : Room 1 (A.deeper (PyProof.Rows.envOfC "_law_is_letter" (defScope s_law_is_letter) s.heap.objs.size f cdv))) :
    PSs (cxOf CX0 P w K mg base ["_law_found", "_law_count", "_law_number"] "_law_is_letter" (defScope s_law_is_letter) f cdv A outer s H E).nox (defBody s_law_is_letter) (R_law_is_letter K sp_law_whole) := by
  have hu := hu_of hr
  have hu64 := hr.units
  have hu65 := hu65_of hr
  obtain ⟨f_law_whole, fd_law_whole, G_law_whole, m_law_whole, k_law_whole, b_law_whole⟩ := h_law_whole
  have hr_law_whole := hr.mono (j := 1) (by decide)
  unfold R_law_is_letter
  exact (pss_cons (ps_if (PW.pt (pw_or (pt_not (pt_val (pe_callB call_isinst (by rfl) T.n_isinstance PyProof.Rows.boot_isinstance (pa_cons (pv 0) (pa_cons (pe_bltn (by rfl) T.n_tuple PySem.Pv.boot_tuple (v := .ty "tuple") rfl) pa_nil))))) (pw_or (pt_cmpR op_ne (pe_callB call_len_seq (by rfl) T.n_len PySem.boot_len (pa_cons (pv 0) pa_nil)) pe_int (nomark _)) (pw_or1 (pt_not (pt_val (pe_callB call_isinst (by rfl) T.n_isinstance PyProof.Rows.boot_isinstance (pa_cons (pe_ix ix_tup (pv 0) pe_int (fun _ _ => rfl)) (pa_cons (pe_bltn (by rfl) T.n_str PySem.Pv.boot_str (v := .ty "str") rfl) pa_nil)))))))))
      (pss_one (ps_ret pe_bl))
      pss_nil)
      (pss_cons (ps_for PassesOwn.never rfl (pi_tup (pe_slice sl_tup (pv 0) po_none (po_some pe_int))) (pg_name (i := 2) sc_law_is_letter.nd rfl (Or.inl rfl))
      (pss_one (ps_if (pt_not (pt_val (pe_call G_law_whole hr_law_whole rfl m_law_whole k_law_whole b_law_whole .nil pass0 (pa_cons (pv 2) pa_nil))))
      (pss_one (ps_ret pe_bl))
      pss_nil)))
      (pss_cons (ps_if (pt_cmpR op_notIn_seq (pe_ix ix_tup (pv 0) pe_int (fun _ _ => rfl)) (pe_lst (pa_cons pe_str (pa_cons pe_str (pa_cons pe_str (pa_cons pe_str (pa_cons pe_str (pa_cons pe_str pa_nil))))))) (by with_unfolding_all rfl))
      (pss_one (ps_ret pe_bl))
      pss_nil)
      (pss_one (ps_ret (pe_and (pe_chain op_le op_lt pe_int (pe_ix ix_tup (pv 0) pe_int (fun _ _ => rfl)) (pv 1)) (pe_and (pe_chain op_le op_lt pe_int (pe_ix ix_tup (pv 0) pe_int (fun _ _ => rfl)) (pv 1)) (pe_one (pe_cmpR op_ne (pe_ix ix_tup (pv 0) pe_int (fun _ _ => rfl)) (pe_ix ix_tup (pv 0) pe_int (fun _ _ => rfl)) (nomark _))))))))))
set_option maxHeartbeats 4000000 in
theorem der_law_are_letters {P : Program} {w : World} {K : PySem.W.Frag} {mg : Str → Option Value} {base : Heap} {f : Addr} {cdv : Value} {A : Around} {outer : List Env} {s : Shared} {H : Hp} {E : XK} {C_House : Addr} (sp_law_is_letter : Sp) (T : Txt K mg C_House)
    (h_law_is_letter : Has P w K mg base 2 "_law_is_letter" ["_law_found", "_law_count"] sp_law_is_letter)
    (hr : Room 2 (A.deeper (PyProof.Rows.envOfC "_law_are_letters" (defScope s_law_are_letters) s.heap.objs.size f cdv))) :
    PSs (cxOf CX0 P w K mg base ["_law_found", "_law_count", "_law_letter"] "_law_are_letters" (defScope s_law_are_letters) f cdv A outer s H E).nox (defBody s_law_are_letters) (R_law_are_letters K sp_law_is_letter) := by
  have hu := hu_of hr
  have hu64 := hr.units
  have hu65 := hu65_of hr
  obtain ⟨f_law_is_letter, fd_law_is_letter, G_law_is_letter, m_law_is_letter, k_law_is_letter, b_law_is_letter⟩ := h_law_is_letter
  have hr_law_is_letter := hr.mono (j := 2) (by decide)
  unfold R_law_are_letters
  exact (pss_cons (ps_if (pt_not (pt_val (pe_callB call_isinst (by rfl) T.n_isinstance PyProof.Rows.boot_isinstance (pa_cons (pv 0) (pa_cons (pe_bltn (by rfl) T.n_list PySem.Pv.boot_list (v := .ty "list") rfl) pa_nil)))))
      (pss_one (ps_ret pe_bl))
      pss_nil)
      (pss_cons (ps_for PassesOwn.never rfl (pi_list (pv 0)) (pg_name (i := 2) sc_law_are_letters.nd rfl (Or.inl rfl))
      (pss_one (ps_if (pt_not (pt_val (pe_call G_law_is_letter hr_law_is_letter rfl m_law_is_letter k_law_is_letter b_law_is_letter .nil pass0 (pa_cons (pv 2) (pa_cons (pv 1) pa_nil)))))
      (pss_one (ps_ret pe_bl))
      pss_nil)))
      (pss_one (ps_ret pe_bl))))
set_option maxHeartbeats 4000000 in
theorem der_law_to_all {P : Program} {w : World} {K : PySem.W.Frag} {mg : Str → Option Value} {base : Heap} {f : Addr} {cdv : Value} {A : Around} {outer : List Env} {s : Shared} {H : Hp} {E : XK} {C_House : Addr}  (T : Txt K mg C_House)
    
    (hr : Room 0 (A.deeper (PyProof.Rows.envOfC "_law_to_all" (defScope s_law_to_all) s.heap.objs.size f cdv))) :
    PSs (cxOf CX0 P w K mg base ["_law_mine", "_law_count", "_law_bargain", "_law_word"] "_law_to_all" (defScope s_law_to_all) f cdv A outer s H E).nox (defBody s_law_to_all) (R_law_to_all K ) := by
  have hu := hu_of hr
  have hu64 := hr.units
  have hu65 := hu65_of hr
  unfold R_law_to_all
  exact (pss_one (ps_ret (pe_lc rfl (show CompOk _ (["_law_k", "_law_mine", "_law_bargain", "_law_word"] : List Str) _ ([("_law_word", s.heap.objs.size + 1 + 2), ("_law_mine", s.heap.objs.size + 1 + 0), ("_law_bargain", s.heap.objs.size + 1 + 1)] : List (Str × Addr)) ([none, some 0, some 2, some 3] : List (Option Nat)) from ⟨by with_unfolding_all rfl, rfl, rfl, rfl, rfl, ⟨rfl, ⟨rfl, ⟨rfl, trivial⟩⟩⟩, ⟨⟨rfl, Or.inl rfl, Or.inl rfl, _, rfl, rfl⟩, ⟨⟨rfl, Or.inl rfl, Or.inl rfl, _, rfl, rfl⟩, ⟨⟨rfl, Or.inl rfl, Or.inl rfl, _, rfl, rfl⟩, trivial⟩⟩⟩⟩) (pi_range1 rfl T.n_range (pa_cons (pv 1) pa_nil)) (fun _ _ _ _ => (pg_name (i := 0) nd_law_to_all_0 rfl (Or.inl rfl))) (fun _ _ _ _ => (pifs_one (pt_cmpR op_ne (pv 0) (pv 1) (nomark _)))) (fun _ _ _ _ => (pe_tup (pa_cons (pv 1) (pa_cons (pv 0) (pa_cons (pv 2) (pa_cons (pv 3) pa_nil)))))))))
set_option maxHeartbeats 4000000 in
theorem der_law_due_letters {P : Program} {w : World} {K : PySem.W.Frag} {mg : Str → Option Value} {base : Heap} {f : Addr} {cdv : Value} {A : Around} {outer : List Env} {s : Shared} {H : Hp} {E : XK} {C_House : Addr} (sp_law_to_all : Sp) (T : Txt K mg C_House)
    (h_law_to_all : Has P w K mg base 1 "_law_to_all" ["_law_mine", "_law_count", "_law_bargain", "_law_word"] sp_law_to_all)
    (hr : Room 1 (A.deeper (PyProof.Rows.envOfC "_law_due_letters" (defScope s_law_due_letters) s.heap.objs.size f cdv))) :
    PSs (cxOf CX0 P w K mg base ["_law_book", "_law_votes", "_law_letter", "_law_count", "_law_giver", "_law_mine", "_law_bargain", "_law_word", "_law_lines"] "_law_due_letters" (defScope s_law_due_letters) f cdv A outer s H E).nox (defBody s_law_due_letters) (R_law_due_letters K sp_law_to_all) := by
  have hu := hu_of hr
  have hu64 := hr.units
  have hu65 := hu65_of hr
  obtain ⟨f_law_to_all, fd_law_to_all, G_law_to_all, m_law_to_all, k_law_to_all, b_law_to_all⟩ := h_law_to_all
  have hr_law_to_all := hr.mono (j := 1) (by decide)
  unfold R_law_due_letters
  exact (pss_cons (ps_asg (pv 2) (pg_tup rfl (pgs_cons (pg_name (i := 4) sc_law_due_letters.nd rfl (Or.inl rfl)) (pgs_cons (pg_name (i := 5) sc_law_due_letters.nd rfl (Or.inl rfl)) (pgs_cons (pg_name (i := 6) sc_law_due_letters.nd rfl (Or.inr rfl)) (pgs_cons (pg_name (i := 7) sc_law_due_letters.nd rfl (Or.inl rfl)) pgs_nil))))))
      (pss_cons (ps_setLC (i := 8) rfl sc_law_due_letters.nd rfl (Or.inl rfl) rfl (show CompOk _ (["_law_line", "_law_bargain"] : List Str) _ ([("_law_bargain", s.heap.objs.size + 1 + 0)] : List (Str × Addr)) ([none, some 6] : List (Option Nat)) from ⟨by with_unfolding_all rfl, rfl, rfl, rfl, rfl, ⟨rfl, trivial⟩, ⟨⟨rfl, Or.inl rfl, Or.inl rfl, _, rfl, rfl⟩, trivial⟩⟩) (pi_list (pv 0)) (fun _ _ _ _ => (pg_name (i := 0) nd_law_due_letters_0 rfl (Or.inl rfl))) (fun _ _ _ _ => (pifs_one (pt_cmpR op_eq (pe_ix ix_tup (pv 0) pe_int (fun _ _ => rfl)) (pv 1) (nomark _)))) (fun _ _ _ _ => (pe_ix ix_tup (pv 0) pe_int (fun _ _ => rfl))))
      (pss_cons (ps_if (pt_cmpR op_eq (pe_callB call_len_seq (by rfl) T.n_len PySem.boot_len (pa_cons (pv 8) pa_nil)) pe_int (nomark _))
      (pss_cons (ps_if (pt_cmpR op_eq (pv 7) pe_str (nomark _))
      (pss_one (ps_ret (pe_lst pa_nil)))
      pss_nil)
      (pss_one (ps_ret (pe_lst (pa_cons (pe_tup (pa_cons (pv 5) (pa_cons (pv 4) (pa_cons (pv 6) (pa_cons (pe_ix ix_list (pv 8) pe_int (fun _ _ => rfl)) pa_nil))))) pa_nil)))))
      pss_nil)
      (pss_cons (ps_if (pt_cmpR op_eq (pv 7) pe_str (nomark _))
      (pss_cut (ps_if (pt_cmpR op_notIn_seq (pv 4) (pe_dget hu (pv 1) (pv 6) (fun _ _ => rfl)) (by with_unfolding_all rfl))
      (pss_one (ps_expr (pe_bm PySem.F.plainAttrs_list PySem.F.slot_list_append PySem.F.type_list_append mt_append (pe_dget hu (pv 1) (pv 6) (fun _ _ => rfl)) (pa_cons (pv 4) pa_nil))))
      pss_nil)
      (pss_cons (ps_if (pt_cmpR op_lt (pe_callB call_len_seq (by rfl) T.n_len PySem.boot_len (pa_cons (pe_dget hu (pv 1) (pv 6) (fun _ _ => rfl)) pa_nil)) (pe_op op_sub (pv 3) pe_int) (nomark _))
      (pss_one (ps_ret (pe_lst pa_nil)))
      pss_nil)
      (pss_cons (ps_expr (pe_bm PySem.F.plainAttrs_list PySem.F.slot_list_append PySem.F.type_list_append mt_append (pv 0) (pa_cons (pe_tup (pa_cons pe_str (pa_cons (pv 6) pa_nil))) pa_nil)))
      (pss_one (ps_ret (pe_call G_law_to_all hr_law_to_all rfl m_law_to_all k_law_to_all b_law_to_all .nil pass0 (pa_cons (pv 5) (pa_cons (pv 3) (pa_cons (pv 6) (pa_cons pe_str pa_nil))))))))))
      pss_nil)
      (pss_cons (ps_expr (pe_bm PySem.F.plainAttrs_list PySem.F.slot_list_append PySem.F.type_list_append mt_append (pv 0) (pa_cons (pe_tup (pa_cons pe_str (pa_cons (pv 6) pa_nil))) pa_nil)))
      (pss_one (ps_ret (pe_call G_law_to_all hr_law_to_all rfl m_law_to_all k_law_to_all b_law_to_all .nil pass0 (pa_cons (pv 5) (pa_cons (pv 3) (pa_cons (pv 6) (pa_cons pe_str pa_nil))))))))))))
set_option maxHeartbeats 4000000 in
theorem der_law_has_book {P : Program} {w : World} {K : PySem.W.Frag} {mg : Str → Option Value} {base : Heap} {f : Addr} {cdv : Value} {A : Around} {outer : List Env} {s : Shared} {H : Hp} {E : XK} {C_House : Addr} (sp_law_are_lines : Sp) (T : Txt K mg C_House)
    (h_law_are_lines : Has P w K mg base 3 "_law_are_lines" ["_law_found"] sp_law_are_lines)
    (hr : Room 3 (A.deeper (PyProof.Rows.envOfC "_law_has_book" (defScope s_law_has_book) s.heap.objs.size f cdv))) :
    PSs (cxOf CX0 P w K mg base ["_law_house", "_law_book"] "_law_has_book" (defScope s_law_has_book) f cdv A outer s H E).nox (defBody s_law_has_book) (R_law_has_book K sp_law_are_lines) := by
  have hu := hu_of hr
  have hu64 := hr.units
  have hu65 := hu65_of hr
  obtain ⟨f_law_are_lines, fd_law_are_lines, G_law_are_lines, m_law_are_lines, k_law_are_lines, b_law_are_lines⟩ := h_law_are_lines
  have hr_law_are_lines := hr.mono (j := 3) (by decide)
  unfold R_law_has_book
  exact (pss_one (ps_ret (pe_and (pe_call G_law_are_lines hr_law_are_lines rfl m_law_are_lines k_law_are_lines b_law_are_lines .nil pass0 (pa_cons (pe_fld (pv 0) rfl) pa_nil)) (pe_and (pe_cmpR (op_eqD hu64) (pe_fld (pv 0) rfl) (pv 1) (nomark _)) (pe_one (pe_cmpR op_isB (pe_fld (pv 0) rfl) pe_bl (nomark _)))))))
set_option maxHeartbeats 4000000 in
theorem der_law {P : Program} {w : World} {K : PySem.W.Frag} {mg : Str → Option Value} {base : Heap} {f : Addr} {cdv : Value} {A : Around} {outer : List Env} {s : Shared} {H : Hp} {E : XK} (sp_law_at : Sp) (sp_law_to_all : Sp) (sp_law_are_letters : Sp) (sp_law_due_letters : Sp) (sp_got_all : Sp) (sp_law_has_book : Sp) (sp_House_init : Sp) (sp_House_begin : Sp) (sp_House_got : Sp) (C_House : Addr) (T : Txt K mg C_House)
    (h_law_at : Has P w K mg base 1 "_law_at" ["_law_script", "_law_k"] sp_law_at) (h_law_to_all : Has P w K mg base 1 "_law_to_all" ["_law_mine", "_law_count", "_law_bargain", "_law_word"] sp_law_to_all) (h_law_are_letters : Has P w K mg base 3 "_law_are_letters" ["_law_found", "_law_count"] sp_law_are_letters) (h_law_due_letters : Has P w K mg base 2 "_law_due_letters" ["_law_book", "_law_votes", "_law_letter", "_law_count"] sp_law_due_letters) (h_got_all : Has P w K mg base 6 "got_all" ["house", "letters"] sp_got_all) (h_law_has_book : Has P w K mg base 4 "_law_has_book" ["_law_house", "_law_book"] sp_law_has_book) (h_House_begin : HasM P w K mg base C_House 2 "begin" ["self", "bargain"] sp_House_begin) (h_House_got : HasM P w K mg base C_House 5 "got" ["self", "letter"] sp_House_got) (h_House_init : HasI P w K mg base C_House 2 ["self", "number", "count", "against"] sp_House_init)
    (hr : Room 6 (A.deeper (PyProof.Rows.envOfC "law" (defScope s_law) s.heap.objs.size f cdv))) :
    PSs (cxOf CX0 P w K mg base ["_law_script", "_law_count", "_law_mine", "_law_bargains", "_law_house", "_law_beside", "_law_book", "_law_votes", "_law_against", "_law_k", "_law_due", "_law_found", "_law_cell", "_law_bargain", "_law_giver", "_law_word", "_law_letter"] "law" (defScope s_law) f cdv A outer s H E).nox (defBody s_law) (R_law K sp_law_at sp_law_to_all sp_law_are_letters sp_law_due_letters sp_got_all sp_law_has_book sp_House_init sp_House_begin sp_House_got C_House) := by
  have hu := hu_of hr
  have hu64 := hr.units
  have hu65 := hu65_of hr
  obtain ⟨f_law_at, fd_law_at, G_law_at, m_law_at, k_law_at, b_law_at⟩ := h_law_at
  have hr_law_at := hr.mono (j := 1) (by decide)
  obtain ⟨f_law_to_all, fd_law_to_all, G_law_to_all, m_law_to_all, k_law_to_all, b_law_to_all⟩ := h_law_to_all
  have hr_law_to_all := hr.mono (j := 1) (by decide)
  obtain ⟨f_law_are_letters, fd_law_are_letters, G_law_are_letters, m_law_are_letters, k_law_are_letters, b_law_are_letters⟩ := h_law_are_letters
  have hr_law_are_letters := hr.mono (j := 3) (by decide)
  obtain ⟨f_law_due_letters, fd_law_due_letters, G_law_due_letters, m_law_due_letters, k_law_due_letters, b_law_due_letters⟩ := h_law_due_letters
  have hr_law_due_letters := hr.mono (j := 2) (by decide)
  obtain ⟨f_got_all, fd_got_all, G_got_all, m_got_all, k_got_all, b_got_all⟩ := h_got_all
  have hr_got_all := hr.mono (j := 6) (by decide)
  obtain ⟨f_law_has_book, fd_law_has_book, G_law_has_book, m_law_has_book, k_law_has_book, b_law_has_book⟩ := h_law_has_book
  have hr_law_has_book := hr.mono (j := 4) (by decide)
  obtain ⟨f_House_begin, fd_House_begin, G_House_begin, mt_House_begin, b_House_begin⟩ := h_House_begin
  have hr_House_begin := hr.mono (j := 2) (by decide)
  obtain ⟨f_House_got, fd_House_got, G_House_got, mt_House_got, b_House_got⟩ := h_House_got
  have hr_House_got := hr.mono (j := 5) (by decide)
  obtain ⟨f_House_init, fd_House_init, G_House_init, mk_House, b_House_init⟩ := h_House_init
  have hr_House_init := hr.mono (j := 3) (by decide)
  unfold R_law
  exact (pss_cons (ps_set (i := 1) sc_law.nd rfl (Or.inl rfl) (pe_ix ix_list (pe_lst (pa_cons pe_int (pa_cons pe_int (pa_cons pe_int (pa_cons pe_int (pa_cons pe_int (pa_cons pe_int (pa_cons pe_int (pa_cons pe_int pa_nil))))))))) (pe_op op_mod (pe_op op_mod (pe_op op_mul (pe_call G_law_at hr_law_at rfl m_law_at k_law_at b_law_at .nil pass0 (pa_cons (pv 0) (pa_cons pe_int pa_nil))) pe_int) pe_int) pe_int) (fun _ _ => rfl)))
      (pss_cons (ps_set (i := 2) sc_law.nd rfl (Or.inl rfl) (pe_op op_mod (pe_op op_mod (pe_op op_mul (pe_call G_law_at hr_law_at rfl m_law_at k_law_at b_law_at .nil pass0 (pa_cons (pv 0) (pa_cons pe_int pa_nil))) pe_int) pe_int) (pv 1)))
      (pss_cons (ps_set (i := 3) sc_law.nd rfl (Or.inl rfl) (pe_lst (pa_cons (pv 2) (pa_cons (pe_op op_add (pv 2) (pv 1)) (pa_cons (pe_op op_add (pv 2) (pe_op op_mul pe_int (pv 1))) (pa_cons (pe_op op_add (pv 2) (pe_op op_mul pe_int (pv 1))) pa_nil))))))
      (pss_cons (ps_set (i := 4) sc_law.nd rfl (Or.inl rfl) (pe_make mk_House G_House_init hr_House_init rfl T.m_House b_House_init .nil pass0 (pa_cons (pv 2) (pa_cons (pv 1) (pa_cons (pe_lst (pa_cons (pe_ix ix_list (pv 3) pe_int (fun _ _ => rfl)) pa_nil)) pa_nil)))))
      (pss_cons (ps_set (i := 5) sc_law.nd rfl (Or.inl rfl) (pe_make mk_House G_House_init hr_House_init rfl T.m_House b_House_init .nil pass0 (pa_cons (pv 2) (pa_cons (pv 1) (pa_cons (pe_lst pa_nil) pa_nil)))))
      (pss_cons (ps_set (i := 6) sc_law.nd rfl (Or.inl rfl) (pe_lst pa_nil))
      (pss_cons (ps_set (i := 7) sc_law.nd rfl (Or.inl rfl) pe_dnewK)
      (pss_cons (ps_set (i := 8) sc_law.nd rfl (Or.inl rfl) (pe_lst pa_nil))
      (pss_cons (ps_for PassesOwn.never rfl (pi_range1 rfl T.n_range (pa_cons pe_int pa_nil)) (pg_name (i := 9) sc_law.nd rfl (Or.inl rfl))
      (pss_cons (ps_set (i := 10) sc_law.nd rfl (Or.inl rfl) (pe_call G_law_to_all hr_law_to_all rfl m_law_to_all k_law_to_all b_law_to_all .nil pass0 (pa_cons (pv 2) (pa_cons (pv 1) (pa_cons (pe_ix ix_list (pv 3) (pv 9) (fun _ _ => rfl)) (pa_cons pe_str pa_nil))))))
      (pss_cons (ps_expr (pe_bm PySem.F.plainAttrs_list PySem.F.slot_list_append PySem.F.type_list_append mt_append (pv 6) (pa_cons (pe_tup (pa_cons (pe_ix ix_list (pe_lst (pa_cons pe_str (pa_cons pe_str pa_nil))) (pe_callTy call_int1 (by rfl) T.n_int PySem.Pv.boot_int (pa_cons (pe_cmpR op_eq (pv 9) pe_int (nomark _)) pa_nil)) (fun _ _ => rfl)) (pa_cons (pe_ix ix_list (pv 3) (pv 9) (fun _ _ => rfl)) pa_nil))) pa_nil)))
      (pss_cons (ps_dput hu (pv 7) (pe_ix ix_list (pv 3) (pv 9) (fun _ _ => rfl)) (pe_lst pa_nil) rfl)
      (pss_cut (ps_if (pt_cmpR op_eq (pv 9) pe_int (nomark _))
      (pss_one (ps_set (i := 10) sc_law.nd rfl (Or.inl rfl) (pe_lst pa_nil)))
      pss_nil)
      (pss_cons (ps_set (i := 11) sc_law.nd rfl (Or.inl rfl) (pe_meth (pv 4) T.cl_House mt_House_begin G_House_begin hr_House_begin b_House_begin .nil pass0 (pa_cons (pe_ix ix_list (pv 3) (pv 9) (fun _ _ => rfl)) pa_nil)))
      (pss_one (ps_if (PW.pt (pw_or (pt_not (pt_val (pe_call G_law_are_letters hr_law_are_letters rfl m_law_are_letters k_law_are_letters b_law_are_letters .nil pass0 (pa_cons (pv 11) (pa_cons (pv 1) pa_nil))))) (pw_or1 (pt_cmpR (op_neD hu64) (pv 11) (pv 10) (nomark _)))))
      (pss_one (ps_ret pe_bl))
      pss_nil))))))))
      (pss_cons (ps_for PassesOwn.never rfl (pi_list (pe_slice sl_list (pv 0) (po_some pe_int) (po_some pe_int))) (pg_name (i := 12) sc_law.nd rfl (Or.inl rfl))
      (pss_cons (ps_set (i := 13) sc_law.nd rfl (Or.inl rfl) (pe_ix ix_list (pv 3) (pe_op op_mod (pe_op op_mod (pe_op op_mul (pv 12) pe_int) pe_int) pe_int) (fun _ _ => rfl)))
      (pss_cons (ps_set (i := 14) sc_law.nd rfl (Or.inl rfl) (pe_op op_mod (pe_op op_add (pe_op op_add (pv 2) pe_int) (pe_op op_mod (pe_op op_mod (pe_op op_mul (pv 12) pe_int) pe_int) (pe_op op_sub (pv 1) pe_int))) (pv 1)))
      (pss_cons (ps_set (i := 15) sc_law.nd rfl (Or.inl rfl) (pe_ix ix_list (pe_lst (pa_cons pe_str (pa_cons pe_str (pa_cons pe_str (pa_cons pe_str (pa_cons pe_str (pa_cons pe_str (pa_cons pe_str (pa_cons pe_str pa_nil))))))))) (pe_op op_mod (pe_op op_mod (pe_op op_mul (pv 12) pe_int) pe_int) pe_int) (fun _ _ => rfl)))
      (pss_cut (ps_if (pt_cmpR (op_inD hu65) (pe_tup (pa_cons (pv 14) (pa_cons (pv 13) pa_nil))) (pv 8) (by with_unfolding_all rfl))
      (pss_one (ps_set (i := 15) sc_law.nd rfl (Or.inl rfl) pe_str))
      (pss_one (ps_if (PW.pt (pw_and (pt_cmpR op_eq (pv 15) pe_str (nomark _)) (pw_and1 (pt_cmpR (op_inD hu65) (pe_tup (pa_cons pe_str (pa_cons (pv 13) pa_nil))) (pv 6) (by with_unfolding_all rfl)))))
      (pss_one (ps_set (i := 15) sc_law.nd rfl (Or.inl rfl) pe_str))
      pss_nil)))
      (pss_cut (ps_if (pt_cmpR op_eq (pv 15) pe_str (nomark _))
      (pss_one (ps_expr (pe_bm PySem.F.plainAttrs_list PySem.F.slot_list_append PySem.F.type_list_append mt_append (pv 8) (pa_cons (pe_tup (pa_cons (pv 14) (pa_cons (pv 13) pa_nil))) pa_nil))))
      pss_nil)
      (pss_cons (ps_set (i := 16) sc_law.nd rfl (Or.inl rfl) (pe_tup (pa_cons (pv 14) (pa_cons (pv 2) (pa_cons (pv 13) (pa_cons (pv 15) pa_nil))))))
      (pss_cons (ps_set (i := 10) sc_law.nd rfl (Or.inl rfl) (pe_call G_law_due_letters hr_law_due_letters rfl m_law_due_letters k_law_due_letters b_law_due_letters .nil pass0 (pa_cons (pv 6) (pa_cons (pv 7) (pa_cons (pv 16) (pa_cons (pv 1) pa_nil))))))
      (pss_cut (ps_if (pt_cmpR op_eq (pe_op op_mod (pe_op op_mod (pe_op op_mul (pv 12) pe_int) pe_int) pe_int) pe_int (nomark _))
      (pss_one (ps_set (i := 11) sc_law.nd rfl (Or.inl rfl) (pe_lst (pa_cons (pe_meth (pv 4) T.cl_House mt_House_got G_House_got hr_House_got b_House_got .nil pass0 (pa_cons (pv 16) pa_nil)) pa_nil))))
      (pss_one (ps_set (i := 11) sc_law.nd rfl (Or.inl rfl) (pe_call G_got_all hr_got_all rfl m_got_all k_got_all b_got_all .nil pass0 (pa_cons (pv 4) (pa_cons (pe_lst (pa_cons (pv 16) pa_nil)) pa_nil))))))
      (pss_cons (ps_if (PW.pt (pw_or (pt_not (pt_val (pe_callB call_isinst (by rfl) T.n_isinstance PyProof.Rows.boot_isinstance (pa_cons (pv 11) (pa_cons (pe_bltn (by rfl) T.n_list PySem.Pv.boot_list (v := .ty "list") rfl) pa_nil))))) (pw_or1 (pt_cmpR op_ne (pe_callB call_len_seq (by rfl) T.n_len PySem.boot_len (pa_cons (pv 11) pa_nil)) pe_int (nomark _)))))
      (pss_one (ps_ret pe_bl))
      pss_nil)
      (pss_one (ps_if (PW.pt (pw_or (pt_not (pt_val (pe_call G_law_are_letters hr_law_are_letters rfl m_law_are_letters k_law_are_letters b_law_are_letters .nil pass0 (pa_cons (pe_ix ix_list (pv 11) pe_int (fun _ _ => rfl)) (pa_cons (pv 1) pa_nil))))) (pw_or1 (pt_cmpR (op_neD hu64) (pe_ix ix_list (pv 11) pe_int (fun _ _ => rfl)) (pv 10) (nomark _)))))
      (pss_one (ps_ret pe_bl))
      pss_nil))))))))))))
      (pss_one (ps_ret (pe_and (pe_call G_law_has_book hr_law_has_book rfl m_law_has_book k_law_has_book b_law_has_book .nil pass0 (pa_cons (pv 4) (pa_cons (pv 6) pa_nil))) (pe_one (pe_call G_law_has_book hr_law_has_book rfl m_law_has_book k_law_has_book b_law_has_book .nil pass0 (pa_cons (pv 5) (pa_cons (pe_lst pa_nil) pa_nil)))))))))))))))))
end Oh


set_option Elab.async false
set_option linter.all false
set_option maxRecDepth 100000
set_option maxHeartbeats 4000000
namespace Oh
open PySem L2
local macro_rules | `(tactic| walk_at "ne") => `(tactic| first | assumption | (refine' Ne.symm ?k1; (case k1 => assumption)) | (refine' ne_new ?k1 ?k2; (case k1 => assumption); (case k2 => walk_at "hl")) | (refine' ne_newR ?k1 ?k2; (case k1 => assumption); (case k2 => walk_at "rd")) | (refine' Ne.symm (ne_new ?k1 ?k2); (case k1 => assumption); (case k2 => walk_at "hl")) | (refine' Ne.symm (ne_newR ?k1 ?k2); (case k1 => assumption); (case k2 => walk_at "rd")))
local macro_rules | `(tactic| walk_at "hl") => `(tactic| with_reducible first | assumption | exact upd_same | (refine' upd_at ?k1 ?k2; (case k1 => walk_at "ne"); (case k2 => walk_at "hl")) | (refine' Same.at ?k1 ?k2; (case k1 => assumption); (case k2 => walk_at "hl")))
local macro_rules | `(tactic| walk_at "rd") => `(tactic| with_reducible first | assumption | (refine' Rd.of ?k1; (case k1 => walk_at "hl")) | (refine' Rd.upd ?k1 ?k2; (case k1 => walk_at "ne"); (case k2 => walk_at "rd")) | (refine' Rd.same ?k1 ?k2; (case k1 => assumption); (case k2 => walk_at "rd")))
local macro_rules | `(tactic| walk_at "sq") => `(tactic| with_reducible first | assumption | (refine' sqLr ?k1; (case k1 => walk_at "rd")) | (refine' sqTr ?k1; (case k1 => walk_at "rd")) | (refine' SqL.new ?k1 ?k2; (case k1 => assumption); (case k2 => walk_at "sq")) | (refine' Same.seq ?k1 ?k2; (case k1 => assumption); (case k2 => walk_at "sq")))
local macro_rules | `(tactic| walk_at "rf") => `(tactic| first | with_unfolding_all rfl | assumption)
local macro_rules | `(tactic| walk_at "fl") => `(tactic| first | with_unfolding_all rfl | exact flat_strs _ | exact flat_ints _)
local macro_rules | `(tactic| walk_at "st") => `(tactic| with_reducible first
  | refine st_seq ?_ | refine st_asg ?_ | refine st_gname ?_ | refine st_if ?_ | refine st_ret ?_ | refine st_retN ?_
  | refine st_drop ?_ | refine st_next ?_ | refine st_test ?_ | refine st_B ?_ | refine st_bl ?_ | refine st_int ?_
  | refine st_and ?_ | refine st_or ?_ | refine st_not ?_ | refine st_andV ?_ | refine st_orV ?_ | refine st_notV ?_ | refine st_ifE ?_
  | refine st_chain ?_ | refine st_op ?_ | refine st_un ?_ | refine st_isN ?_ | refine st_notN ?_
  | refine st_nil ?_ | refine st_cons ?_ | refine st_tup ?_ | refine st_lst ?_ | refine st_dnew ?_ | refine st_call ?_ | refine st_cb ?_
  | (refine' st_var ?k1 ?_; (case k1 => walk_at "rf")) | refine st_c ?_
  | refine st_rI0 ?_ | refine st_rU ?_ | (refine' st_rI ?k1 ?_; (case k1 => first | exact mulR (by decide) | exact divR (by decide) | decide | (show (0 : Int) < _; decide)))
  | (refine' st_rEq ?k1 ?_; (case k1 => walk_at "rf")) | (refine' st_rNe ?k1 ?_; (case k1 => walk_at "rf"))
  | (refine' st_ixL ?k1 ?k2 ?_; (case k1 => walk_at "sq"); (case k2 => walk_at "rf")) | (refine' st_ixT ?k1 ?k2 ?_; (case k1 => walk_at "sq"); (case k2 => walk_at "rf"))
  | (refine' st_lenL ?k1 ?_; (case k1 => walk_at "sq")) | (refine' st_lenT ?k1 ?_; (case k1 => walk_at "sq"))
  | (refine' st_inL ?k1 ?k2 ?k3 ?_; (case k1 => walk_at "sq"); (case k2 => walk_at "rf"); (case k3 => walk_at "fl"))
  | (refine' st_inT ?k1 ?k2 ?k3 ?_; (case k1 => walk_at "sq"); (case k2 => walk_at "rf"); (case k3 => walk_at "fl"))
  | (refine' st_listL ?k1 ?_; (case k1 => walk_at "sq")) | refine st_min ?_ | refine st_intB ?_
  | refine st_sl ?_ | refine st_noPart ?_ | refine st_part ?_ | (refine' st_slL ?k1 ?_; (case k1 => walk_at "sq"))
  | refine st_meth ?_ | (refine' st_insM ?k1 ?k2 ?_; (case k1 => walk_at "hl"); (case k2 => walk_at "rf")) | refine st_sfld ?_
  | (refine' st_ins ?k1 ?k2 ?k3 ?k4 ?_; (case k1 => walk_at "hl"); (case k2 => assumption); (case k3 => assumption); (case k4 => walk_at "rf")) | (refine' st_lenD ?k1 ?_; (case k1 => walk_at "hl"))
  | refine st_bm ?_ | refine st_fld ?_ | refine st_dput ?_ | refine st_dget2 ?_ | refine st_dget ?_ | refine st_dsetd ?_
  | refine st_for ?_ | refine st_iList ?_ | (refine' st_itl ?k1 ?_; (case k1 => walk_at "sq")) | refine st_iRng ?_ | refine st_lc ?_ | refine st_noIf ?_
  | (refine' st_sz ?k1 ?_; (case k1 => with_unfolding_all rfl))
  | (refine' st_isD ?k1 ?_; (case k1 => walk_at "hl")) | (refine' st_dgetK ?k1 ?_; (case k1 => walk_at "hl")))
local macro_rules | `(tactic| walk_at "go") => `(tactic| repeat walk_at "st")
local macro_rules | `(tactic| walk_at "new") => `(tactic| ((with_reducible refine st_all ?_); intro p hp; generalize hH : upd _ p _ = H'; have hs := same_of hp hH; have hg := at_of hH; clear hH))
local macro_rules | `(tactic| walk_at "sm") => `(tactic| with_reducible first | assumption | exact Same.refl _ | (refine' Same.trans ?k1 ?k2; (case k2 => assumption); (case k1 => walk_at "sm")))
local macro_rules | `(tactic| walk_at "goA") => `(tactic| repeat (first | walk_at "st" | walk_at "new"))
/-! ## k03: the law's smaller defs -/
theorem st_eqD_book {H : Hp} {Q : VK} {x y : V} {b : List Line} (h1 : Rep H [] x (bookD b)) (h2 : Rep H [] y (bookD b)) (ok : OkB b) (q : Q (.bl true) H) : rEqD x y H Q :=
  ⟨_, _, h1, h2, shaped_book ok, shaped_book ok, by rw [eqv_book ok]; exact q⟩
theorem st_neD_letters {H : Hp} {Q : VK} {x y : V} {b : List Letter} (h1 : Rep H [] x (lettersD b)) (h2 : Rep H [] y (lettersD b)) (ok : ∀ l ∈ b, PyData.strOk l.2.2.2 = true) (q : Q (.bl false) H) : rNeD x y H Q :=
  ⟨_, _, h1, h2, shaped_letters ok, shaped_letters ok, by rw [eqv_letters ok]; exact q⟩
theorem HouseAt.trk {C : Addr} {H : Hp} {p : Addr} {h : HS} {R : List Addr} {N : Nat} (I : HouseAt C H p h R N) : ∀ a ∈ R, ∃ o, H a = some o := by
  obtain ⟨dx, po, pa, pk, pc, xs, kvs, I⟩ := I; exact I.trk
theorem HouseAt.okb {C : Addr} {H : Hp} {p : Addr} {h : HS} {R : List Addr} {N : Nat} (I : HouseAt C H p h R N) : OkB h.book := by
  obtain ⟨dx, po, pa, pk, pc, xs, kvs, I⟩ := I; exact I.okb
theorem st_dgetP {H : Hp} {a : Addr} {v : V} {kvs : List (Key × V)} {k : Int} {P : V → Prop} (h : H a = some (.dK kvs)) (e : valV kvs (Sum.inl k) = some v) (q : P v) : ∃ a' v, V.ref a = .ref a' ∧ DGet H a' (.int k) (some v) ∧ P v := ⟨a, v, rfl, e ▸ DGet.k (k := Sum.inl k) h, q⟩
def sp_law_has_book (C : Addr) : Sp := fun vs H Q _ => ∃ p h R N pb, vs = [.ref p, .ref pb] ∧ HouseAt C H p h R N ∧ h.up = true ∧ Rep H [] (.ref pb) (bookD h.book) ∧ LineWs h.book ∧ ∀ H', Same H H' → Q (.bl true) H'
theorem rd_law_has_book {K : PySem.W.Frag} {C : Addr} {vs : List V} {H : Hp} {Q : VK} {E : XK} (T : HouseTxt K C) (h : sp_law_has_book C vs H Q E) : R_law_has_book K sp_law_are_lines { nx := fun _ H' => Q .non H', rt := Q } (start ["_law_house", "_law_book"] vs) H := by
  obtain ⟨p, h, R, N, pb, rfl, I, up, rb, lw, k⟩ := h
  obtain ⟨cl, f1, f2, f3, f4, f5, f6⟩ := T
  obtain ⟨dx, po, pa, pk, pc, xs, kvs, I0⟩ := id I
  have ob := I0.ob
  unfold R_law_has_book
  walk_at "go"
  refine ⟨pk, h.book, rfl, I0.rep, lw, fun H1 s1 => ?_⟩
  have I1 := I0.same s1
  have ob1 := I1.ob
  walk_at "go"
  refine iteT ?_
  walk_at "go"
  refine st_eqD_book I1.rep (rb.same s1) I1.okb ?_
  walk_at "go"
  refine iteT ?_
  walk_at "go"
  refine ⟨h.up, true, rfl, rfl, ?_⟩
  rw [up]
  exact k H1 s1
def sp_law_to_all : Sp := fun vs H Q _ => ∃ (m : Int) (c : Nat) (n : Int) (w : Str), vs = [.int m, .int c, .int n, .str w] ∧ c ≤ 1000 ∧ ∀ v H', Same H H' → LL H' [] v (toAll m c n w) → Fresh H v → Q v H'
theorem rd_law_to_all {K : PySem.W.Frag} {vs : List V} {H : Hp} {Q : VK} {E : XK} (h : sp_law_to_all vs H Q E) : R_law_to_all K { nx := fun _ H' => Q .non H', rt := Q } (start ["_law_mine", "_law_count", "_law_bargain", "_law_word"] vs) H := by
  obtain ⟨m, c, n, w, rfl, hc, k⟩ := h
  unfold R_law_to_all
  walk_at "go"
  refine st_itr (by omega) ?_
  intro q hq
  refine lc_range (n := c) (fun i ys σ H' => ∃ v, σ = [v, some (.int m), some (.int n), some (.str w)] ∧ Same H H' ∧ ys.length ≤ i ∧ Reps H' [] ys ((toAll m i n w).map letterD)) ⟨none, rfl, Same.new hq, Nat.le_refl _, .nil⟩ ?_ ?_
  · rintro i ys σ H1 hi hq' ⟨v, rfl, s, hl, rs⟩
    have e0 : ((0 : Int) + (i : Int)) = (i : Int) := Int.zero_add _
    walk_at "go"
    by_cases e : (i : Int) = m
    · rw [if_neg (by simp [e0, e])]
      exact ⟨ys, hq', _, rfl, s, by omega, by unfold toAll; rw [others_snoc, if_pos e]; exact rs⟩
    · rw [if_pos (by simp [e0, e])]
      walk_at "goA"
      rename_i t ht H2 s2 g2
      rw [e0] at g2
      refine ⟨ys, s2 _ _ hq', len_small (by omega), ys ++ [.ref t], upd_same, _, rfl, (s.trans s2).put hq, by rw [List.length_append]; show ys.length + 1 ≤ _; omega, ?_⟩
      unfold toAll at rs ⊢
      rw [others_snoc, if_neg e, List.map_append, List.map_append]
      have ch : Chg [q] H2 (upd H2 q (.lst (ys ++ [.ref t]))) := .set (by rw [s2 _ _ hq']; exact True.intro) (by simp)
      have ntq : t ≠ q := ne_of g2 (s2 _ _ hq') (by intro z; cases z)
      exact (letters_chg (rs.same s2) ch).snoc (rep_letter (.inl (upd_at ntq g2)))
  · rintro ys σ H1 hq' ⟨v, rfl, s, hl, rs⟩
    exact k _ _ s ⟨q, ys, rfl, hq', by simp, rs⟩ (by rintro _ ⟨⟩; exact hq)
def sp_law_due_letters : Sp := fun vs H Q _ => ∃ (pb pv pl : Addr) (c : Nat) (b : List Line) (xs : List V) (kvs : List (Key × V)) (q : Addr) (gs : List Int) (g m n : Int) (w : Str), vs = [.ref pb, .ref pv, .ref pl, .int c] ∧
  H pb = some (.lst xs) ∧ Reps H [] xs (b.map lineD) ∧ b.length ≤ 1000 ∧ H pv = some (.dK kvs) ∧ valV kvs (Sum.inl n) = some (.ref q) ∧ H q = some (.lst (gs.map .int)) ∧ q ≠ pb ∧ gs.length ≤ 1000 ∧ 2 ≤ c ∧ c ≤ 12 ∧
  Rd H pl (.tup [.int g, .int m, .int n, .str w]) ∧
  ∀ v H' xs', Chg [pb, q] H H' → H' pb = some (.lst xs') → Reps H' [] xs' ((dueF m c b gs g n w).1.map lineD) → H' q = some (.lst ((dueF m c b gs g n w).2.1.map .int)) → LL H' [] v (dueF m c b gs g n w).2.2 → Fresh H v → Q v H'
theorem rd_law_due_letters {K : PySem.W.Frag} {vs : List V} {H : Hp} {Q : VK} {E : XK} (h : sp_law_due_letters vs H Q E) : R_law_due_letters K sp_law_to_all { nx := fun _ H' => Q .non H', rt := Q } (start ["_law_book", "_law_votes", "_law_letter", "_law_count", "_law_giver", "_law_mine", "_law_bargain", "_law_word", "_law_lines"] vs) H := by
  obtain ⟨pb, pv, pl, c, b, xs, kvs, q, gs, g, m, n, w, rfl, gb, rb, hbl, gv, hq, gq, nqb, hgl, c2, c12, rl, k⟩ := h
  have hxl : xs.length = b.length := by rw [rb.length, List.length_map]
  unfold R_law_due_letters
  walk_at "go"
  refine ⟨pl, _, rfl, sqTr rl, rfl, _, _, rfl, ?_⟩
  walk_at "go"
  refine ⟨_, _, rfl, ?_⟩
  walk_at "go"
  refine ⟨_, _, rfl, ?_⟩
  walk_at "go"
  refine ⟨_, _, rfl, ?_⟩
  walk_at "go"
  refine ⟨rfl, ?_⟩
  have gb' : SqL K H pb xs := sqL gb
  walk_at "go"
  intro ps hps
  refine lc_list (K := K) (a := pb) (xs := xs) (fun i ys σ H' => ∃ v, σ = [v, some (.int n)] ∧ H' = upd H ps (.lst ys) ∧ ys = (wordsOf (b.take i) n).map .str) ⟨none, rfl, rfl, rfl⟩ ?_ ?_ ?_
  · rintro i ys σ H' hi hp' ⟨v, rfl, rfl, rfl⟩
    exact (Same.new hps).seq gb'
  · rintro i x ys σ H' hx hp' ⟨v, rfl, rfl, rfl⟩
    obtain ⟨l, t, hb', rfl, rt⟩ := line_at (rb.same (Same.new hps (o := .lst ((wordsOf (b.take i) n).map V.str)))) hx
    walk_at "go"
    by_cases e : l.2 = n
    · rw [if_pos (by simp [e])]
      walk_at "go"
      refine ⟨_, upd_same, len_small ?_, _, upd_same, _, rfl, upd_upd, ?_⟩
      · rw [List.length_map]
        exact Nat.le_trans (wordsOf_len _ _) (Nat.le_trans (by rw [List.length_take]; omega) (Nat.le_trans hbl (by omega)))
      · rw [take_snoc hb', wordsOf_snoc, if_pos e, List.map_append]; rfl
    · rw [if_neg (by simp [e])]
      exact ⟨_, upd_same, _, rfl, rfl, by rw [take_snoc hb', wordsOf_snoc, if_neg e]⟩
  rintro ys σ H1 g1 ⟨v, rfl, hH1, hys⟩
  rw [hxl, List.take_length] at hys
  subst hys
  have s1 : Same H H1 := by rw [hH1]; exact Same.new hps
  clear hH1 v
  have gb1 := s1 _ _ gb
  have rb1 := rb.same s1
  have gv1 := s1 _ _ gv
  have gq1 := s1 _ _ gq
  have g1' : SqL K H1 ps _ := sqL g1
  have c1 : Chg [pb, q] H H1 := .of_same s1
  have k1 : ∀ v H' xs', Chg [pb, q] H1 H' → H' pb = some (.lst xs') → Reps H' [] xs' ((dueF m c b gs g n w).1.map lineD) → H' q = some (.lst ((dueF m c b gs g n w).2.1.map .int)) → LL H' [] v (dueF m c b gs g n w).2.2 → Fresh H1 v → Q v H' :=
    fun v H' xs' c a1 a2 a3 a4 a5 => k v H' xs' (c1.trans c) a1 a2 a3 a4 (a5.back s1)
  unfold dueF at k1
  have hwl : ((wordsOf b n).map V.str).length = (wordsOf b n).length := List.length_map _
  walk_at "go"
  by_cases e2 : (wordsOf b n).length = 2
  · rw [if_pos (by rw [hwl, e2]; rfl)]
    rw [if_pos e2] at k1
    walk_at "go"
    by_cases en : w = "no"
    · rw [if_pos (by simp [en])]
      rw [if_pos en] at k1
      walk_at "goA"
      rename_i l hl H2 s2 g2
      exact k1 _ _ xs (.of_same s2) (s2 _ _ gb1) (rb1.same s2) (s2 _ _ gq1) ⟨l, [], rfl, g2, by simp, .nil⟩ (by rintro _ ⟨⟩; exact hl)
    · rw [if_neg (by simp [en])]
      rw [if_neg en] at k1
      have at1 : atI ((wordsOf b n).map V.str) 1 = some (.str ((wordsOf b n).getD 1 "")) := atI_nat (j := 1) (by rw [List.getElem?_map, List.getD_eq_getElem?_getD, List.getElem?_eq_getElem (show 1 < (wordsOf b n).length by omega)]; rfl)
      walk_at "goA"
      rename_i t ht H2 s2 g2 l hl H3 s3 g3
      have s := s2.trans s3
      exact k1 _ _ xs (.of_same s) (s _ _ gb1) (rb1.same s) (s _ _ gq1) ⟨l, _, rfl, g3, by simp, .cons (rep_letter (.inl (s3 _ _ g2))) .nil⟩ (by rintro _ ⟨⟩; exact s2.free hl)
  rw [if_neg (by rw [hwl]; intro y; exact e2 (by have := V.int.inj (of_decide_eq_true y); omega))]
  rw [if_neg e2] at k1
  -- a line written, all told
  have tell : ∀ (v : Str) (D : Ends) (H2 : Hp) (gs2 : List Int) (w8 : Option V), D.rt = Q → Chg [pb, q] H1 H2 → (∀ b, H2 b = none → H1 b = none) → H2 pb = some (.lst xs) → Reps H2 [] xs (b.map lineD) → H2 q = some (.lst (gs2.map .int)) → isLineW v →
      (∀ v' H' xs', Chg [pb, q] H1 H' → H' pb = some (.lst xs') → Reps H' [] xs' ((b ++ [(v, n)]).map lineD) → H' q = some (.lst (gs2.map .int)) → LL H' [] v' (toAll m c n v) → Fresh H1 v' → Q v' H') →
      tSeq (tDrop (tBM K "list" rAppend (tVar 0) (tCons (tTup (tCons (tC (.str v)) (tCons (tVar 6) tNil))) tNil)))
        (tRet (tCall sp_law_to_all [] E0 (tCons (tVar 5) (tCons (tVar 3) (tCons (tVar 6) (tCons (tC (.str v)) tNil)))))) D
        [some (.ref pb), some (.ref pv), some (.ref pl), some (.int c), some (.int g), some (.int m), some (.int n), some (.str w), w8] H2 := by
    intro v D H2 gs2 w8 hrt c2' fr2 gb2 rb2 gq2 hv kk
    walk_at "go"
    refine ⟨.inl ⟨rfl, _, sqL gb2⟩, ?_⟩
    walk_at "goA"
    rename_i t ht H3 s3 g3
    have gb3 := s3 _ _ gb2
    refine st_append gb3 (len_small (by omega)) ?_
    have c4 : Chg [pb] H3 (upd H3 pb (.lst (xs ++ [.ref t]))) := .set (by rw [gb3]; exact True.intro) (by simp)
    have fr4 : ∀ b, upd H3 pb (.lst (xs ++ [.ref t])) b = none → H1 b = none := fun b hb => by
      by_cases e : b = pb
      · rw [e, upd_same] at hb; cases hb
      · rw [upd_ne e] at hb; exact fr2 _ (s3.free hb)
    have rb4 : Reps (upd H3 pb (.lst (xs ++ [.ref t]))) [] (xs ++ [.ref t]) ((b ++ [(v, n)]).map lineD) := by
      rw [List.map_append]
      exact (lines_chg (rb2.same s3) c4).snoc (.tup (.inl (upd_at (ne_of g3 gb3 (by intro z; cases z)) g3)) (.cons (.str _) (.cons (.int _) .nil)))
    have gq4 : upd H3 pb (.lst (xs ++ [.ref t])) q = _ := upd_at nqb (s3 _ _ gq2)
    have gb4 : upd H3 pb (.lst (xs ++ [.ref t])) pb = some (.lst (xs ++ [.ref t])) := upd_same
    have cc : Chg [pb, q] H1 (upd H3 pb (.lst (xs ++ [.ref t]))) := (c2'.trans (.of_same s3)).trans (c4.mono (by simp))
    generalize upd H3 pb (.lst (xs ++ [.ref t])) = H4 at *
    walk_at "go"
    refine ⟨m, c, n, v, rfl, by omega, fun v' H5 s5 ll f5 => ?_⟩
    rw [hrt]
    exact kk v' H5 _ (cc.trans (.of_same s5)) (s5 _ _ gb4) (rb4.same s5) (s5 _ _ gq4) ll (fun a ha => fr4 _ (f5 a ha))
  walk_at "go"
  by_cases ey : w = "yes"
  · rw [if_pos (by simp [ey])]
    rw [if_pos ey] at k1
    have gq1' : SqL K H1 q _ := sqL gq1
    refine st_cut (fun σ' H' => σ' = [some (.ref pb), some (.ref pv), some (.ref pl), some (.int c), some (.int g), some (.int m), some (.int n), some (.str w), some (.ref ps)] ∧ Chg [pb, q] H1 H' ∧ (∀ b, H' b = none → H1 b = none) ∧ H' pb = some (.lst xs) ∧ Reps H' [] xs (b.map lineD) ∧ H' pv = some (.dK kvs) ∧ H' q = some (.lst ((addG g gs).map .int))) ?_ ?_
    · walk_at "go"
      refine st_dgetP gv1 hq ?_
      walk_at "go"
      rw [if_pos rfl, in_ints]
      unfold addG
      by_cases eg : g ∈ gs
      · rw [if_neg (by simp [eg]), if_pos eg]
        walk_at "go"
        exact ⟨rfl, .refl _ _, fun _ h => h, gb1, rb1, gv1, gq1⟩
      · rw [if_pos (by simp [eg]), if_neg eg]
        walk_at "go"
        refine st_dgetP gv1 hq ?_
        refine ⟨.inl ⟨rfl, _, sqL gq1⟩, ?_⟩
        walk_at "go"
        refine st_append gq1 (len_small (by rw [List.length_map]; omega)) ?_
        have cq : Chg [q] H1 (upd H1 q (.lst (gs.map .int ++ [.int g]))) := .set (by rw [gq1]; exact True.intro) (by simp)
        refine ⟨rfl, cq.mono (by simp), fun b hb => ?_, upd_at nqb.symm gb1, lines_chg rb1 cq, upd_at (ne_of gv1 gq1 (by intro z; cases z)) gv1, by rw [upd_same, List.map_append]; rfl⟩
        by_cases e : b = q
        · rw [e, upd_same] at hb; cases hb
        · rw [upd_ne e] at hb; exact hb
    · rintro σ' H2 ⟨rfl, c2', fr2, gb2, rb2, gv2, gq2⟩
      walk_at "go"
      refine st_dgetP gv2 hq ?_
      have gq2' : SqL K H2 q _ := sqL gq2
      walk_at "go"
      by_cases el : (addG g gs).length < c - 1
      · rw [if_pos (by simp only [List.length_map, decide_eq_true_eq]; show ((addG g gs).length : Int) < (c : Int) - 1; omega)]
        rw [if_pos el] at k1
        walk_at "goA"
        rename_i l hl H3 s3 g3
        exact k1 _ _ xs (c2'.trans (.of_same s3)) (s3 _ _ gb2) (rb2.same s3) (s3 _ _ gq2) ⟨l, [], rfl, g3, by simp, .nil⟩ (by rintro _ ⟨⟩; exact fr2 _ hl)
      · rw [if_neg (by simp only [List.length_map, decide_eq_true_eq]; show ¬ ((addG g gs).length : Int) < (c : Int) - 1; omega)]
        rw [if_neg el] at k1
        walk_at "st"
        exact tell "bound" _ H2 _ _ rfl c2' fr2 gb2 rb2 gq2 (.inr (.inr (.inr (.inl rfl)))) k1
  · rw [if_neg (by simp [ey])]
    rw [if_neg ey] at k1
    walk_at "st"
    exact tell "off" _ H1 _ _ rfl (.refl _ _) (fun _ h => h) gb1 rb1 gq1 (.inr (.inr (.inr (.inr rfl)))) k1
end Oh


set_option Elab.async false
set_option linter.all false
set_option maxRecDepth 100000
set_option maxHeartbeats 4000000
namespace Oh
open PySem L2
local macro_rules | `(tactic| walk_at "ne") => `(tactic| first | assumption | (refine' Ne.symm ?k1; (case k1 => assumption)) | (refine' ne_new ?k1 ?k2; (case k1 => assumption); (case k2 => walk_at "hl")) | (refine' ne_newR ?k1 ?k2; (case k1 => assumption); (case k2 => walk_at "rd")) | (refine' Ne.symm (ne_new ?k1 ?k2); (case k1 => assumption); (case k2 => walk_at "hl")) | (refine' Ne.symm (ne_newR ?k1 ?k2); (case k1 => assumption); (case k2 => walk_at "rd")))
local macro_rules | `(tactic| walk_at "hl") => `(tactic| with_reducible first | assumption | exact upd_same | (refine' upd_at ?k1 ?k2; (case k1 => walk_at "ne"); (case k2 => walk_at "hl")) | (refine' Same.at ?k1 ?k2; (case k1 => assumption); (case k2 => walk_at "hl")))
local macro_rules | `(tactic| walk_at "rd") => `(tactic| with_reducible first | assumption | (refine' Rd.of ?k1; (case k1 => walk_at "hl")) | (refine' Rd.upd ?k1 ?k2; (case k1 => walk_at "ne"); (case k2 => walk_at "rd")) | (refine' Rd.same ?k1 ?k2; (case k1 => assumption); (case k2 => walk_at "rd")))
local macro_rules | `(tactic| walk_at "sq") => `(tactic| with_reducible first | assumption | (refine' sqLr ?k1; (case k1 => walk_at "rd")) | (refine' sqTr ?k1; (case k1 => walk_at "rd")) | (refine' SqL.new ?k1 ?k2; (case k1 => assumption); (case k2 => walk_at "sq")) | (refine' Same.seq ?k1 ?k2; (case k1 => assumption); (case k2 => walk_at "sq")))
local macro_rules | `(tactic| walk_at "rf") => `(tactic| first | with_unfolding_all rfl | assumption)
local macro_rules | `(tactic| walk_at "fl") => `(tactic| first | with_unfolding_all rfl | exact flat_strs _ | exact flat_ints _)
local macro_rules | `(tactic| walk_at "st") => `(tactic| with_reducible first
  | refine st_seq ?_ | refine st_asg ?_ | refine st_gname ?_ | refine st_if ?_ | refine st_ret ?_ | refine st_retN ?_
  | refine st_drop ?_ | refine st_next ?_ | refine st_test ?_ | refine st_B ?_ | refine st_bl ?_ | refine st_int ?_
  | refine st_and ?_ | refine st_or ?_ | refine st_not ?_ | refine st_andV ?_ | refine st_orV ?_ | refine st_notV ?_ | refine st_ifE ?_
  | refine st_chain ?_ | refine st_op ?_ | refine st_un ?_ | refine st_isN ?_ | refine st_notN ?_
  | refine st_nil ?_ | refine st_cons ?_ | refine st_tup ?_ | refine st_lst ?_ | refine st_dnew ?_ | refine st_call ?_ | refine st_cb ?_
  | (refine' st_var ?k1 ?_; (case k1 => walk_at "rf")) | refine st_c ?_
  | refine st_rI0 ?_ | refine st_rU ?_ | (refine' st_rI ?k1 ?_; (case k1 => first | exact mulR (by decide) | exact divR (by decide) | decide | (show (0 : Int) < _; decide)))
  | (refine' st_rEq ?k1 ?_; (case k1 => walk_at "rf")) | (refine' st_rNe ?k1 ?_; (case k1 => walk_at "rf"))
  | (refine' st_ixL ?k1 ?k2 ?_; (case k1 => walk_at "sq"); (case k2 => walk_at "rf")) | (refine' st_ixT ?k1 ?k2 ?_; (case k1 => walk_at "sq"); (case k2 => walk_at "rf"))
  | (refine' st_lenL ?k1 ?_; (case k1 => walk_at "sq")) | (refine' st_lenT ?k1 ?_; (case k1 => walk_at "sq"))
  | (refine' st_inL ?k1 ?k2 ?k3 ?_; (case k1 => walk_at "sq"); (case k2 => walk_at "rf"); (case k3 => walk_at "fl"))
  | (refine' st_inT ?k1 ?k2 ?k3 ?_; (case k1 => walk_at "sq"); (case k2 => walk_at "rf"); (case k3 => walk_at "fl"))
  | (refine' st_listL ?k1 ?_; (case k1 => walk_at "sq")) | refine st_min ?_ | refine st_intB ?_
  | refine st_sl ?_ | refine st_noPart ?_ | refine st_part ?_ | (refine' st_slL ?k1 ?_; (case k1 => walk_at "sq"))
  | refine st_meth ?_ | (refine' st_insM ?k1 ?k2 ?_; (case k1 => walk_at "hl"); (case k2 => walk_at "rf")) | refine st_sfld ?_
  | (refine' st_ins ?k1 ?k2 ?k3 ?k4 ?_; (case k1 => walk_at "hl"); (case k2 => assumption); (case k3 => assumption); (case k4 => walk_at "rf")) | (refine' st_lenD ?k1 ?_; (case k1 => walk_at "hl"))
  | refine st_bm ?_ | refine st_fld ?_ | refine st_dput ?_ | refine st_dget2 ?_ | refine st_dget ?_ | refine st_dsetd ?_
  | refine st_for ?_ | refine st_iList ?_ | (refine' st_itl ?k1 ?_; (case k1 => walk_at "sq")) | refine st_iRng ?_ | refine st_lc ?_ | refine st_noIf ?_
  | (refine' st_sz ?k1 ?_; (case k1 => with_unfolding_all rfl))
  | (refine' st_isD ?k1 ?_; (case k1 => walk_at "hl")) | (refine' st_dgetK ?k1 ?_; (case k1 => walk_at "hl")))
local macro_rules | `(tactic| walk_at "go") => `(tactic| repeat walk_at "st")
local macro_rules | `(tactic| walk_at "new") => `(tactic| ((with_reducible refine st_all ?_); intro p hp; generalize hH : upd _ p _ = H'; have hs := same_of hp hH; have hg := at_of hH; clear hH))
local macro_rules | `(tactic| walk_at "sm") => `(tactic| with_reducible first | assumption | exact Same.refl _ | (refine' Same.trans ?k1 ?k2; (case k2 => assumption); (case k1 => walk_at "sm")))
local macro_rules | `(tactic| walk_at "goA") => `(tactic| repeat (first | walk_at "st" | walk_at "new"))
/-! ## k03: the law -/
def pairD (x : Int × Int) : PyData := .tuple [.int x.1, .int x.2]
theorem pairs_any {H : Hp} {S T : List Addr} : ∀ {b : List (Int × Int)} {xs : List V}, Reps H S xs (b.map pairD) → Reps H T xs (b.map pairD)
  | [], xs, r => by rw [List.map_nil] at r ⊢; rw [r.nil_inv]; exact .nil
  | l :: b, xs, r => by
    rw [List.map_cons] at r ⊢
    obtain ⟨x, ys, rfl, h, t⟩ := r.cons_inv
    obtain ⟨a, zs, rfl, rt, rs⟩ := h.tup_inv
    obtain ⟨y1, r1, rfl, h1, t1⟩ := rs.cons_inv
    obtain ⟨y2, r2, rfl, h2, t2⟩ := t1.cons_inv
    cases t2.nil_inv
    rw [h1.int_inv, h2.int_inv] at rt
    exact .cons (.tup rt (.cons (.int _) (.cons (.int _) .nil))) (pairs_any t)
theorem pairs_chg {H H' : Hp} {S T : List Addr} {b : List (Int × Int)} {xs : List V} (r : Reps H S xs (b.map pairD)) (c : Chg T H H') : Reps H' S xs (b.map pairD) := pairs_any ((pairs_any (T := T) r).chg c)
theorem canLay_pairs (ag : List (Int × Int)) : PyData.canLayAll0 (ag.map pairD) = true := by
  induction ag with
  | nil => rfl
  | cons l r ih => rw [List.map_cons, PyData.canLayAll0, ih]; simp [pairD, PyData.canLay0, PyData.canLayAll0]
theorem shaped_pair (x : Int × Int) : SeqAt.shaped (pairD x) = true := by
  unfold SeqAt.shaped
  simp [pairD, PyData.canLay0, PyData.canLayAll0, PyData.depth, PyData.depthAll]
theorem shaped_line {l : Line} (ok : PyData.strOk l.1 = true) : SeqAt.shaped (lineD l) = true := by
  unfold SeqAt.shaped
  simp [lineD, PyData.canLay0, PyData.canLayAll0, PyData.depth, PyData.depthAll, ok]
structure LeadIn (C p p2 pb pv pa ps : Addr) (m : Int) (c : Nat) (bs : List Int) (kvs : List (Key × V)) (qs : List (Int × Addr)) (h : HS) (R R2 : List Addr) (N : Nat) (b : List Line) (vc : Int → List Int) (xs as : List V) (ag : List (Int × Int)) (H : Hp) : Prop where
  at_ : HouseAt C H p h R N
  at2 : HouseAt C H p2 (newHS m c []) R2 0
  lead : LeadHS m c h
  gb : H pb = some (.lst xs)
  rb : Reps H [] xs (b.map lineD)
  gv : H pv = some (.dK kvs)
  ga : H pa = some (.lst as)
  ra : Reps H [] as (ag.map pairD)
  gs : H ps = some (.lst (bs.map .int))
  vt : ∀ x ∈ qs, H x.2 = some (.lst ((vc x.1).map .int))
  vk : ∀ x ∈ qs, valV kvs (Sum.inl x.1 : Key) = some (.ref x.2)
  st : ∀ x ∈ qs, St3 b x.1
  qi : ∀ x ∈ qs, ∀ y ∈ qs, x.2 = y.2 → x.1 = y.1
  qf : ∀ x ∈ qs, x.2 ≠ pb ∧ x.2 ≠ pa ∧ x.2 ≠ ps ∧ ¬ x.2 ∈ R ∧ ¬ x.2 ∈ R2
  n1 : pb ≠ pa
  n2 : pb ≠ ps
  n3 : pa ≠ ps
  fb : ¬ pb ∈ R ∧ ¬ pb ∈ R2
  fv : ¬ pv ∈ R ∧ ¬ pv ∈ R2
  fa : ¬ pa ∈ R ∧ ¬ pa ∈ R2
  fs : ¬ ps ∈ R ∧ ¬ ps ∈ R2
  dj : ∀ a ∈ R, ¬ a ∈ R2
section
variable {C p p2 pb pv pa ps : Addr} {m : Int} {c : Nat} {bs : List Int} {kvs : List (Key × V)} {qs : List (Int × Addr)} {h h' : HS} {R R' R2 : List Addr} {N N' : Nat} {b : List Line} {vc : Int → List Int} {xs as : List V} {ag : List (Int × Int)} {H H' : Hp}
theorem LeadIn.same (L : LeadIn C p p2 pb pv pa ps m c bs kvs qs h R R2 N b vc xs as ag H) (s : Same H H') : LeadIn C p p2 pb pv pa ps m c bs kvs qs h R R2 N b vc xs as ag H' :=
  { L with at_ := L.at_.same s, at2 := L.at2.same s, gb := s _ _ L.gb, rb := L.rb.same s, gv := s _ _ L.gv, ga := s _ _ L.ga, ra := L.ra.same s, gs := s _ _ L.gs, vt := fun x hx => s _ _ (L.vt x hx) }
theorem grow_not {a : Addr} {o : HO} (n : ¬ a ∈ R) (e : H a = some o) (g : Grow R H R') : ¬ a ∈ R' := fun y => (g _ y).elim n fun z => by rw [e] at z; cases z
theorem LeadIn.move (L : LeadIn C p p2 pb pv pa ps m c bs kvs qs h R R2 N b vc xs as ag H) (mv : Move C p H R H' h' R' N') (l' : LeadHS m c h') : LeadIn C p p2 pb pv pa ps m c bs kvs qs h' R' R2 N' b vc xs as ag H' :=
  { at_ := mv.at_, at2 := L.at2.chg mv.chg (fun a ha y => L.dj a y ha), lead := l', gb := mv.chg.keep _ _ L.gb L.fb.1, rb := lines_chg L.rb mv.chg, gv := mv.chg.keep _ _ L.gv L.fv.1, ga := mv.chg.keep _ _ L.ga L.fa.1, ra := pairs_chg L.ra mv.chg, gs := mv.chg.keep _ _ L.gs L.fs.1,
    vt := fun x hx => mv.chg.keep _ _ (L.vt x hx) (L.qf x hx).2.2.2.1, vk := L.vk, st := L.st, qi := L.qi,
    qf := fun x hx => ⟨(L.qf x hx).1, (L.qf x hx).2.1, (L.qf x hx).2.2.1, grow_not (L.qf x hx).2.2.2.1 (L.vt x hx) mv.gr, (L.qf x hx).2.2.2.2⟩,
    n1 := L.n1, n2 := L.n2, n3 := L.n3, fb := ⟨grow_not L.fb.1 L.gb mv.gr, L.fb.2⟩, fv := ⟨grow_not L.fv.1 L.gv mv.gr, L.fv.2⟩, fa := ⟨grow_not L.fa.1 L.ga mv.gr, L.fa.2⟩, fs := ⟨grow_not L.fs.1 L.gs mv.gr, L.fs.2⟩,
    dj := fun a ha y => by
      rcases mv.gr a ha with z | z
      · exact L.dj a z y
      · obtain ⟨o, e⟩ := L.at2.trk a y
        rw [z] at e; cases e }
/-- both the book and the votes of one bargain -/
theorem LeadIn.due (L : LeadIn C p p2 pb pv pa ps m c bs kvs qs h R R2 N b vc xs as ag H) {n : Int} {q : Addr} (hq : (n, q) ∈ qs) {xs' : List V} {b' : List Line} {gs' : List Int} (ch : Chg [pb, q] H H') (g1 : H' pb = some (.lst xs')) (r1 : Reps H' [] xs' (b'.map lineD)) (g2 : H' q = some (.lst (gs'.map .int)))
    (hs : ∀ x ∈ qs, St3 b' x.1) : LeadIn C p p2 pb pv pa ps m c bs kvs qs h R R2 N b' (fun x => if x = n then gs' else vc x) xs' as ag H' := by
  have hf := L.qf _ hq
  have off : ∀ a, a ≠ pb → a ≠ q → ¬ a ∈ [pb, q] := fun a e1 e2 y => by
    simp only [List.mem_cons, List.not_mem_nil, or_false] at y
    exact y.elim e1 e2
  refine { L with at_ := L.at_.chg ch ?_, at2 := L.at2.chg ch ?_, gb := g1, rb := r1, gv := ?_, ga := ?_, ra := pairs_chg L.ra ch, gs := ?_, vt := ?_, st := hs }
  · exact fun a ha => off a (fun e => L.fb.1 (e ▸ ha)) (fun e => hf.2.2.2.1 (e ▸ ha))
  · exact fun a ha => off a (fun e => L.fb.2 (e ▸ ha)) (fun e => hf.2.2.2.2 (e ▸ ha))
  · exact ch.keep _ _ L.gv (off _ (ne_of L.gv L.gb (by intro z; cases z)) (ne_of L.gv (L.vt _ hq) (by intro z; cases z)))
  · exact ch.keep _ _ L.ga (off _ L.n1.symm hf.2.1.symm)
  · exact ch.keep _ _ L.gs (off _ L.n2.symm hf.2.2.1.symm)
  · intro x hx
    by_cases e : x.1 = n
    · have e2 : x.2 = q := by
        have a := L.vk x hx
        have b := L.vk _ hq
        rw [e] at a
        rw [a] at b
        exact V.ref.inj (Option.some.inj b)
      rw [e2]
      simp only [if_pos e]
      exact g2
    · simp only [if_neg e]
      exact ch.keep _ _ (L.vt x hx) (off _ (L.qf x hx).1 fun y => e (L.qi x hx _ hq y))
theorem LeadIn.line (L : LeadIn C p p2 pb pv pa ps m c bs kvs qs h R R2 N b vc xs as ag H) {t : Addr} {w : Str} {n : Int} (g : H t = some (.tup [.str w, .int n])) (hn : ∀ x ∈ qs, x.1 ≠ n) :
    LeadIn C p p2 pb pv pa ps m c bs kvs qs h R R2 N (b ++ [(w, n)]) vc (xs ++ [.ref t]) as ag (upd H pb (.lst (xs ++ [.ref t]))) := by
  have ch : Chg [pb] H (upd H pb (.lst (xs ++ [.ref t]))) := .set (by rw [L.gb]; exact True.intro) (by simp)
  refine { L with at_ := L.at_.chg ch fun a ha y => (by rw [List.mem_singleton.mp y] at ha; exact L.fb.1 ha), at2 := L.at2.chg ch fun a ha y => (by rw [List.mem_singleton.mp y] at ha; exact L.fb.2 ha), gb := upd_same, rb := ?_, gv := upd_at (ne_of L.gv L.gb (by intro z; cases z)) L.gv, ga := upd_at L.n1.symm L.ga, ra := pairs_chg L.ra ch, gs := upd_at L.n2.symm L.gs, vt := fun x hx => upd_at (L.qf x hx).1 (L.vt x hx), st := ?_ }
  · rw [List.map_append]
    exact (lines_chg L.rb ch).snoc (.tup (.inl (upd_at (ne_of g L.gb (by intro z; cases z)) g)) (.cons (.str _) (.cons (.int _) .nil)))
  · intro x hx
    unfold St3
    rw [wordsOf_app, wordsOf_one, if_neg (hn x hx).symm, List.append_nil]
    exact L.st x hx
theorem LeadIn.agn (L : LeadIn C p p2 pb pv pa ps m c bs kvs qs h R R2 N b vc xs as ag H) {t : Addr} {x y : Int} (g : H t = some (.tup [.int x, .int y])) :
    LeadIn C p p2 pb pv pa ps m c bs kvs qs h R R2 N b vc xs (as ++ [.ref t]) (ag ++ [(x, y)]) (upd H pa (.lst (as ++ [.ref t]))) := by
  have ch : Chg [pa] H (upd H pa (.lst (as ++ [.ref t]))) := .set (by rw [L.ga]; exact True.intro) (by simp)
  refine { L with at_ := L.at_.chg ch fun a ha y => (by rw [List.mem_singleton.mp y] at ha; exact L.fa.1 ha), at2 := L.at2.chg ch fun a ha y => (by rw [List.mem_singleton.mp y] at ha; exact L.fa.2 ha), gb := upd_at L.n1 L.gb, rb := lines_chg L.rb ch, gv := upd_at (ne_of L.gv L.ga (by intro z; cases z)) L.gv, ga := upd_same, ra := ?_, gs := upd_at L.n3.symm L.gs, vt := fun x hx => upd_at (L.qf x hx).2.1 (L.vt x hx) }
  rw [List.map_append]
  exact (pairs_chg L.ra ch).snoc (.tup (.inl (upd_at (ne_of g L.ga (by intro z; cases z)) g)) (.cons (.int _) (.cons (.int _) .nil)))
theorem LeadIn.put (L : LeadIn C p p2 pb pv pa ps m c bs kvs qs h R R2 N b vc xs as ag H) {n : Int} {q : Addr} (hn : ∀ x ∈ qs, x.1 ≠ n) :
    LeadIn C p p2 pb pv pa ps m c bs (putK kvs (Sum.inl n) (.ref q)) qs h R R2 N b vc xs as ag (upd H pv (.dK (putK kvs (Sum.inl n) (.ref q)))) := by
  have ch : Chg [pv] H (upd H pv (.dK (putK kvs (Sum.inl n) (.ref q)))) := .set (by rw [L.gv]; exact True.intro) (by simp)
  refine { L with at_ := L.at_.chg ch fun a ha y => (by rw [List.mem_singleton.mp y] at ha; exact L.fv.1 ha), at2 := L.at2.chg ch fun a ha y => (by rw [List.mem_singleton.mp y] at ha; exact L.fv.2 ha), gb := upd_at (ne_of L.gb L.gv (by intro z; cases z)) L.gb, rb := lines_chg L.rb ch, gv := upd_same, ga := upd_at (ne_of L.ga L.gv (by intro z; cases z)) L.ga, ra := pairs_chg L.ra ch, gs := upd_at (ne_of L.gs L.gv (by intro z; cases z)) L.gs, vt := fun x hx => upd_at (ne_of (L.vt x hx) L.gv (by intro z; cases z)) (L.vt x hx), vk := ?_ }
  intro x hx
  rw [valV_put, if_neg (fun e => hn x hx (Sum.inl.inj e))]
  exact L.vk x hx
theorem LeadIn.more (L : LeadIn C p p2 pb pv pa ps m c bs kvs qs h R R2 N b vc xs as ag H) {n : Int} {q : Addr} (e1 : valV kvs (Sum.inl n : Key) = some (.ref q)) (e2 : H q = some (.lst ((vc n).map .int))) (e3 : St3 b n) (hq : ∀ x ∈ qs, x.2 ≠ q) (f : q ≠ pb ∧ q ≠ pa ∧ q ≠ ps ∧ ¬ q ∈ R ∧ ¬ q ∈ R2) :
    LeadIn C p p2 pb pv pa ps m c bs kvs (qs ++ [(n, q)]) h R R2 N b vc xs as ag H := by
  have sp : ∀ {P : Int × Addr → Prop}, (∀ x ∈ qs, P x) → P (n, q) → ∀ x ∈ qs ++ [(n, q)], P x := fun h1 h2 x hx => by
    rcases List.mem_append.mp hx with z | z
    · exact h1 x z
    · rw [List.mem_singleton.mp z]; exact h2
  refine { L with vt := sp L.vt e2, vk := sp L.vk e1, st := sp L.st e3, qi := ?_, qf := sp L.qf f }
  intro x hx y hy e
  rcases List.mem_append.mp hx with z | z
  · rcases List.mem_append.mp hy with u | u
    · exact L.qi x z y u e
    · rw [List.mem_singleton.mp u] at e; exact absurd e (hq x z)
  · rcases List.mem_append.mp hy with u | u
    · rw [List.mem_singleton.mp z] at e; exact absurd e.symm (hq y u)
    · rw [List.mem_singleton.mp z, List.mem_singleton.mp u]
theorem LeadIn.out (L : LeadIn C p p2 pb pv pa ps m c bs kvs qs h R R2 N b vc xs as ag H) {q : Addr} (hq : H q = none) : q ≠ pb ∧ q ≠ pa ∧ q ≠ ps ∧ ¬ q ∈ R ∧ ¬ q ∈ R2 :=
  ⟨(ne_new hq L.gb).symm, (ne_new hq L.ga).symm, (ne_new hq L.gs).symm, notin_new L.at_.trk hq, notin_new L.at2.trk hq⟩
/-- a list of letters beside it -/
structure DueAt (pb pa : Addr) (R : List Addr) (v : V) (ls : List Letter) (pd : Addr) (ys : List V) (H : Hp) : Prop where
  ev : v = .ref pd
  g : H pd = some (.lst ys)
  r : Reps H [] ys (ls.map letterD)
  n1 : pd ≠ pb
  n2 : pd ≠ pa
  n3 : ¬ pd ∈ R
theorem DueAt.of {v : V} {ls : List Letter} (L : LeadIn C p p2 pb pv pa ps m c bs kvs qs h R R2 N b vc xs as ag H) (ll : LL H' [] v ls) (f : Fresh H v) : ∃ pd ys, DueAt pb pa R v ls pd ys H' := by
  obtain ⟨l, ys, rfl, g, _, r⟩ := ll
  have o := L.out (f l rfl)
  exact ⟨l, ys, rfl, g, r, o.1, o.2.1, o.2.2.2.1⟩
theorem DueAt.same {v : V} {ls : List Letter} {pd : Addr} {ys : List V} (D : DueAt pb pa R v ls pd ys H) (s : Same H H') : DueAt pb pa R v ls pd ys H' := ⟨D.ev, s _ _ D.g, D.r.same s, D.n1, D.n2, D.n3⟩
theorem DueAt.chg {v : V} {ls : List Letter} {pd : Addr} {ys : List V} {T : List Addr} (D : DueAt pb pa R v ls pd ys H) (c : Chg T H H') (hn : ¬ pd ∈ T) : DueAt pb pa R v ls pd ys H' := ⟨D.ev, c.keep _ _ D.g hn, letters_chg D.r c, D.n1, D.n2, D.n3⟩
theorem DueAt.move {v : V} {ls : List Letter} {pd : Addr} {ys : List V} (D : DueAt pb pa R v ls pd ys H) (mv : Move C p H R H' h' R' N') : DueAt pb pa R' v ls pd ys H' := ⟨D.ev, mv.chg.keep _ _ D.g D.n3, letters_chg D.r mv.chg, D.n1, D.n2, grow_not D.n3 D.g mv.gr⟩
theorem DueAt.rep {v : V} {ls : List Letter} {pd : Addr} {ys : List V} (D : DueAt pb pa R v ls pd ys H) : Rep H [] v (lettersD ls) := by rw [D.ev]; exact .lst (.inl D.g) (by simp) D.r
end
theorem toAll_good {m : Int} {c : Nat} {n : Int} {w : Str} (m0 : 0 ≤ m) (m1 : m < c) (hw : isLetW w) : GoodLs c (toAll m c n w) := fun l hl => by
  unfold toAll at hl
  obtain ⟨k, hk, rfl⟩ := List.mem_map.mp hl
  obtain ⟨q1, q2, q3⟩ := others_mem hk
  exact ⟨m0, m1, q1, q2, fun y => q3 y.symm, hw⟩
theorem good_ok {c : Int} {ls : List Letter} (g : GoodLs c ls) : ∀ l ∈ ls, PyData.strOk l.2.2.2 = true := fun l hl => (g l hl).2.2.2.2.2.ok
end Oh


set_option Elab.async false
set_option linter.all false
set_option maxRecDepth 100000
set_option maxHeartbeats 4000000
namespace Oh
open PySem L2
local macro_rules | `(tactic| walk_at "ne") => `(tactic| first | assumption | (refine' Ne.symm ?k1; (case k1 => assumption)) | (refine' ne_new ?k1 ?k2; (case k1 => assumption); (case k2 => walk_at "hl")) | (refine' ne_newR ?k1 ?k2; (case k1 => assumption); (case k2 => walk_at "rd")) | (refine' Ne.symm (ne_new ?k1 ?k2); (case k1 => assumption); (case k2 => walk_at "hl")) | (refine' Ne.symm (ne_newR ?k1 ?k2); (case k1 => assumption); (case k2 => walk_at "rd")))
local macro_rules | `(tactic| walk_at "hl") => `(tactic| with_reducible first | assumption | exact upd_same | (refine' upd_at ?k1 ?k2; (case k1 => walk_at "ne"); (case k2 => walk_at "hl")) | (refine' Same.at ?k1 ?k2; (case k1 => assumption); (case k2 => walk_at "hl")))
local macro_rules | `(tactic| walk_at "rd") => `(tactic| with_reducible first | assumption | (refine' Rd.of ?k1; (case k1 => walk_at "hl")) | (refine' Rd.upd ?k1 ?k2; (case k1 => walk_at "ne"); (case k2 => walk_at "rd")) | (refine' Rd.same ?k1 ?k2; (case k1 => assumption); (case k2 => walk_at "rd")))
local macro_rules | `(tactic| walk_at "sq") => `(tactic| with_reducible first | assumption | (refine' sqLr ?k1; (case k1 => walk_at "rd")) | (refine' sqTr ?k1; (case k1 => walk_at "rd")) | (refine' SqL.new ?k1 ?k2; (case k1 => assumption); (case k2 => walk_at "sq")) | (refine' Same.seq ?k1 ?k2; (case k1 => assumption); (case k2 => walk_at "sq")))
local macro_rules | `(tactic| walk_at "rf") => `(tactic| first | with_unfolding_all rfl | assumption)
local macro_rules | `(tactic| walk_at "fl") => `(tactic| first | with_unfolding_all rfl | exact flat_strs _ | exact flat_ints _)
local macro_rules | `(tactic| walk_at "st") => `(tactic| with_reducible first
  | refine st_seq ?_ | refine st_asg ?_ | refine st_gname ?_ | refine st_if ?_ | refine st_ret ?_ | refine st_retN ?_
  | refine st_drop ?_ | refine st_next ?_ | refine st_test ?_ | refine st_B ?_ | refine st_bl ?_ | refine st_int ?_
  | refine st_and ?_ | refine st_or ?_ | refine st_not ?_ | refine st_andV ?_ | refine st_orV ?_ | refine st_notV ?_ | refine st_ifE ?_
  | refine st_chain ?_ | refine st_op ?_ | refine st_un ?_ | refine st_isN ?_ | refine st_notN ?_
  | refine st_nil ?_ | refine st_cons ?_ | refine st_tup ?_ | refine st_lst ?_ | refine st_dnew ?_ | refine st_call ?_ | refine st_cb ?_
  | (refine' st_var ?k1 ?_; (case k1 => walk_at "rf")) | refine st_c ?_
  | refine st_rI0 ?_ | refine st_rU ?_ | (refine' st_rI ?k1 ?_; (case k1 => first | exact mulR (by decide) | exact divR (by decide) | decide | (show (0 : Int) < _; decide)))
  | (refine' st_rEq ?k1 ?_; (case k1 => walk_at "rf")) | (refine' st_rNe ?k1 ?_; (case k1 => walk_at "rf"))
  | (refine' st_ixL ?k1 ?k2 ?_; (case k1 => walk_at "sq"); (case k2 => walk_at "rf")) | (refine' st_ixT ?k1 ?k2 ?_; (case k1 => walk_at "sq"); (case k2 => walk_at "rf"))
  | (refine' st_lenL ?k1 ?_; (case k1 => walk_at "sq")) | (refine' st_lenT ?k1 ?_; (case k1 => walk_at "sq"))
  | (refine' st_inL ?k1 ?k2 ?k3 ?_; (case k1 => walk_at "sq"); (case k2 => walk_at "rf"); (case k3 => walk_at "fl"))
  | (refine' st_inT ?k1 ?k2 ?k3 ?_; (case k1 => walk_at "sq"); (case k2 => walk_at "rf"); (case k3 => walk_at "fl"))
  | (refine' st_listL ?k1 ?_; (case k1 => walk_at "sq")) | refine st_min ?_ | refine st_intB ?_
  | refine st_sl ?_ | refine st_noPart ?_ | refine st_part ?_ | (refine' st_slL ?k1 ?_; (case k1 => walk_at "sq"))
  | refine st_meth ?_ | (refine' st_insM ?k1 ?k2 ?_; (case k1 => walk_at "hl"); (case k2 => walk_at "rf")) | refine st_sfld ?_
  | (refine' st_ins ?k1 ?k2 ?k3 ?k4 ?_; (case k1 => walk_at "hl"); (case k2 => assumption); (case k3 => assumption); (case k4 => walk_at "rf")) | (refine' st_lenD ?k1 ?_; (case k1 => walk_at "hl"))
  | refine st_bm ?_ | refine st_fld ?_ | refine st_dput ?_ | refine st_dget2 ?_ | refine st_dget ?_ | refine st_dsetd ?_
  | refine st_for ?_ | refine st_iList ?_ | (refine' st_itl ?k1 ?_; (case k1 => walk_at "sq")) | refine st_iRng ?_ | refine st_lc ?_ | refine st_noIf ?_
  | (refine' st_sz ?k1 ?_; (case k1 => with_unfolding_all rfl))
  | (refine' st_isD ?k1 ?_; (case k1 => walk_at "hl")) | (refine' st_dgetK ?k1 ?_; (case k1 => walk_at "hl")))
local macro_rules | `(tactic| walk_at "go") => `(tactic| repeat walk_at "st")
local macro_rules | `(tactic| walk_at "new") => `(tactic| ((with_reducible refine st_all ?_); intro p hp; generalize hH : upd _ p _ = H'; have hs := same_of hp hH; have hg := at_of hH; clear hH))
local macro_rules | `(tactic| walk_at "sm") => `(tactic| with_reducible first | assumption | exact Same.refl _ | (refine' Same.trans ?k1 ?k2; (case k2 => assumption); (case k1 => walk_at "sm")))
local macro_rules | `(tactic| walk_at "goA") => `(tactic| repeat (first | walk_at "st" | walk_at "new"))
def spLaw (K : PySem.W.Frag) : Sp := fun vs H Q _ => ∃ (a : Addr) (ns : List Int), vs = [.ref a] ∧ SqL K H a (ns.map V.int) ∧ ns.length ≤ 63 ∧ ∀ H', Q (.bl true) H'
def bargs (m : Int) (c : Nat) : List Int := [m, m + c, m + 1000000 * c, m + 3 * c]
theorem cut_ints (ns : List Int) (lo hi : Option Int) : ∃ cs : List Int, cutV (ns.map V.int) lo hi = cs.map V.int ∧ cs.length ≤ ns.length := by
  refine ⟨(ns.drop (HT.sIx (ns.map V.int).length 0 lo)).take (HT.sIx (ns.map V.int).length (ns.map V.int).length hi - HT.sIx (ns.map V.int).length 0 lo), ?_, ?_⟩
  · unfold cutV
    rw [List.map_take, List.map_drop]
  · rw [List.length_take, List.length_drop]; omega
theorem giver_ok {m z : Int} {c : Nat} (m0 : 0 ≤ m) (m1 : m < c) (c2 : 2 ≤ c) (c12 : c ≤ 12) : 0 ≤ (m + 1 + z % ((c : Int) - 1)) % (c : Int) ∧ (m + 1 + z % ((c : Int) - 1)) % (c : Int) < c ∧ (m + 1 + z % ((c : Int) - 1)) % (c : Int) ≠ m := by
  have h1 : c = 2 ∨ c = 3 ∨ c = 4 ∨ c = 5 ∨ c = 6 ∨ c = 7 ∨ c = 8 ∨ c = 9 ∨ c = 10 ∨ c = 11 ∨ c = 12 := by omega
  have r0 : 0 ≤ z % ((c : Int) - 1) := Int.emod_nonneg _ (by omega)
  have r1 : z % ((c : Int) - 1) < (c : Int) - 1 := Int.emod_lt_of_pos _ (by omega)
  generalize z % ((c : Int) - 1) = r at *
  rcases h1 with rfl | rfl | rfl | rfl | rfl | rfl | rfl | rfl | rfl | rfl | rfl <;> (refine ⟨?_, ?_, ?_⟩ <;> omega)
theorem init_same {C : Addr} {H H' : Hp} {x dx : Addr} (hx : H x = none) (hdx : H dx = none) (nxd : dx ≠ x) (ch : Chg [x] (upd (upd H dx (.own x)) x (.ins C dx [])) H') : Same H H' := fun b o e =>
  ch.keep b o (((Same.new hdx).trans (Same.new (by rw [upd_ne nxd.symm]; exact hx))) _ _ e) (fun y => by rw [List.mem_singleton.mp y, hx] at e; cases e)
theorem init_base {C : Addr} {H : Hp} {x dx : Addr} (hx : H x = none) (hdx : H dx = none) (nxd : dx ≠ x) : Same H (upd (upd H dx (.own x)) x (.ins C dx [])) := (Same.new hdx).trans (Same.new (by rw [upd_ne nxd.symm]; exact hx))
/-- the script, while other things change -/
def ScrOk (K : PySem.W.Frag) (a : Addr) (ns : List Int) (pb pv : Addr) (R : List Addr) (H : Hp) : Prop := (Rd H a (.lst (ns.map .int)) ∧ ¬ a ∈ R ∧ a ≠ pb ∧ a ≠ pv) ∨ ∀ H', SqL K H' a (ns.map .int)
section
variable {K : PySem.W.Frag} {a pb pv C p : Addr} {ns : List Int} {R R' : List Addr} {H H' : Hp} {h' : HS} {N' : Nat}
theorem ScrOk.seq (s : ScrOk K a ns pb pv R H) : SqL K H a (ns.map .int) := s.elim (fun y => .inl y.1) fun y => y H
theorem ScrOk.same (s : ScrOk K a ns pb pv R H) (e : Same H H') : ScrOk K a ns pb pv R H' := s.imp (fun y => ⟨Rd.same e y.1, y.2⟩) id
theorem ScrOk.upd1 {o : HO} (s : ScrOk K a ns pb pv R H) : ScrOk K a ns pb pv R (upd H pb o) := s.imp (fun y => ⟨y.1.upd y.2.2.1, y.2⟩) id
theorem ScrOk.upd2 {o : HO} (s : ScrOk K a ns pb pv R H) : ScrOk K a ns pb pv R (upd H pv o) := s.imp (fun y => ⟨y.1.upd y.2.2.2, y.2⟩) id
theorem ScrOk.move (s : ScrOk K a ns pb pv R H) (mv : Move C p H R H' h' R' N') : ScrOk K a ns pb pv R' H' := s.imp (fun y => ⟨y.1.chgL mv.chg y.2.1, by obtain ⟨o, e⟩ := y.1.some; exact grow_not y.2.1 e mv.gr, y.2.2⟩) id
end
structure Aside (pl pb pa : Addr) (qs : List (Int × Addr)) (R : List Addr) (cs : List V) (H : Hp) : Prop where
  g : H pl = some (.lst cs)
  n1 : pl ≠ pb
  n2 : pl ≠ pa
  n3 : ¬ pl ∈ R
  n4 : ∀ y ∈ qs, y.2 ≠ pl
section
variable {pl pb pa C p : Addr} {qs : List (Int × Addr)} {R R' : List Addr} {cs : List V} {H H' : Hp} {h' : HS} {N' : Nat}
theorem Aside.same (A : Aside pl pb pa qs R cs H) (s : Same H H') : Aside pl pb pa qs R cs H' := ⟨s _ _ A.g, A.n1, A.n2, A.n3, A.n4⟩
theorem Aside.chg {T : List Addr} (A : Aside pl pb pa qs R cs H) (c : Chg T H H') (n : ¬ pl ∈ T) : Aside pl pb pa qs R cs H' := ⟨c.keep _ _ A.g n, A.n1, A.n2, A.n3, A.n4⟩
theorem Aside.move (A : Aside pl pb pa qs R cs H) (mv : Move C p H R H' h' R' N') : Aside pl pb pa qs R' cs H' := ⟨mv.chg.keep _ _ A.g A.n3, A.n1, A.n2, grow_not A.n3 A.g mv.gr, A.n4⟩
end
theorem st_inP {H : Hp} {Q : VK} {x y : V} {d : PyData} {ds : List PyData} (h1 : Rep H [] x d) (h2 : Rep H [] y (.list ds)) (h3 : PyData.canLayAll0 ds = true) (h4 : SeqAt.shaped d = true) (q : ∀ bb : Bool, Q (.bl bb) H) : rInD false x y H Q :=
  ⟨d, ds, h1, .inl h2, h3, h4, q _⟩
theorem rd_law {K : PySem.W.Frag} {C : Addr} {vs : List V} {H : Hp} {Q : VK} {E : XK} (T : HouseTxt K C) (h : spLaw K vs H Q E) :
    R_law K (sp_law_at K) sp_law_to_all sp_law_are_letters sp_law_due_letters (sp_got_all C) (sp_law_has_book C) (sp_House_init C) (sp_House_begin C) (sp_House_got C) C { nx := fun _ H' => Q .non H', rt := Q }
      (start ["_law_script", "_law_count", "_law_mine", "_law_bargains", "_law_house", "_law_beside", "_law_book", "_law_votes", "_law_against", "_law_k", "_law_due", "_law_found", "_law_cell", "_law_bargain", "_law_giver", "_law_word", "_law_letter"] vs) H := by
  obtain ⟨a, ns, rfl, hS, hl, k⟩ := h
  unfold R_law
  walk_at "goA"
  rename_i pc hpc H1 s1 g1
  have hS1 := s1.seq hS
  refine ⟨a, ns, 0, rfl, hS1, fun z0 => ?_⟩
  obtain ⟨cv, hcv, ec⟩ := atI_mem (xs := [V.int 2, V.int 3, V.int 4, V.int 5, V.int 2, V.int 3, V.int 4, V.int 12]) (r := z0 * 48271 % 1013 % 8) (by omega) (by show _ < (8 : Int); omega)
  obtain ⟨c, rfl, c2, c12⟩ : ∃ c : Nat, cv = .int c ∧ 2 ≤ c ∧ c ≤ 12 := by
    simp only [List.mem_cons, List.not_mem_nil, or_false] at hcv
    rcases hcv with rfl | rfl | rfl | rfl | rfl | rfl | rfl | rfl
    · exact ⟨2, rfl, by omega, by omega⟩
    · exact ⟨3, rfl, by omega, by omega⟩
    · exact ⟨4, rfl, by omega, by omega⟩
    · exact ⟨5, rfl, by omega, by omega⟩
    · exact ⟨2, rfl, by omega, by omega⟩
    · exact ⟨3, rfl, by omega, by omega⟩
    · exact ⟨4, rfl, by omega, by omega⟩
    · exact ⟨12, rfl, by omega, by omega⟩
  have g1' : SqL K H1 pc _ := sqL g1
  walk_at "go"
  refine ⟨a, ns, 1, rfl, hS1, fun z1 => ?_⟩
  walk_at "go"
  refine st_rI (show (0 : Int) < (c : Int) by omega) ?_
  walk_at "go"
  have m0 : 0 ≤ z1 * 48271 % 1009 % (c : Int) := Int.emod_nonneg _ (by omega)
  have m1 : z1 * 48271 % 1009 % (c : Int) < c := Int.emod_lt_of_pos _ (by omega)
  generalize z1 * 48271 % 1009 % (c : Int) = m at *
  refine st_rI (.inl ⟨by decide, by decide⟩) ?_
  walk_at "go"
  refine st_rI (.inl ⟨by decide, by decide⟩) ?_
  walk_at "go"
  walk_at "new"
  rename_i ps hps H2 s2 g2
  change H2 ps = some (.lst ((bargs m c).map .int)) at g2
  have hS2 := s2.seq hS1
  have g2' : SqL K H2 ps _ := sqL g2
  have at3 : atI ((bargs m c).map V.int) 3 = some (.int (m + 3 * c)) := rfl
  clear g1 g1' hS hS1 hcv ec hpc s1
  walk_at "go"
  refine st_make ?_
  walk_at "goA"
  rename_i pg hpg H3 s3 g3
  intro x dx hx hdx nxd
  refine ⟨x, dx, pg, m, c, [m + 3 * c], rfl, upd_same, by omega, .inl (init_base hx hdx nxd _ _ g3), fun H4 R4 I4 ch4 own4 => ⟨rfl, ?_⟩⟩
  have s4 := s3.trans (init_same hx hdx nxd ch4)
  have hS4 := s4.seq hS2
  have g4 := s4 _ _ g2
  have nR4 : ¬ ps ∈ R4 := fun y => by
    rcases own4 _ y with e | e
    · rw [← e, s3 _ _ g2] at hx; cases hx
    · rw [init_base hx hdx nxd _ _ (s3 _ _ g2)] at e; cases e
  have aR4 : ∀ o, H3 a = some o → ¬ a ∈ R4 := fun o e y => by
    rcases own4 _ y with z | z
    · rw [← z, e] at hx; cases hx
    · rw [init_base hx hdx nxd _ _ e] at z; cases z
  have sc3 : SqL K H3 a (ns.map .int) := s3.seq hS2
  have s34 := init_same hx hdx nxd ch4
  clear ch4 own4 g3 s4 s3 hpg hS2 g2 g2' s2 hps hx hdx nxd
  walk_at "go"
  refine st_make ?_
  walk_at "goA"
  rename_i pg5 hpg5 H5 s5 g5
  intro x2 dx2 hx2 hdx2 nxd2
  refine ⟨x2, dx2, pg5, m, c, [], rfl, upd_same, by omega, .inl (init_base hx2 hdx2 nxd2 _ _ g5), fun H6 R6 I6 ch6 own6 => ⟨rfl, ?_⟩⟩
  have s6 := s5.trans (init_same hx2 hdx2 nxd2 ch6)
  have hS6 := s6.seq hS4
  have g6 := s6 _ _ g4
  have own : ∀ b o, H4 b = some o → ¬ b ∈ R6 := fun b o e y => by
    rcases own6 _ y with z | z
    · rw [← z, s5 _ _ e] at hx2; cases hx2
    · rw [init_base hx2 hdx2 nxd2 _ _ (s5 _ _ e)] at z; cases z
  have nR6 := own _ _ g4
  have dj6 : ∀ a ∈ R4, ¬ a ∈ R6 := fun a ha => by obtain ⟨o, e⟩ := I4.trk a ha; exact own a o e
  have I46 := I4.same s6
  have s36 := s34.trans s6
  clear ch6 own6 g5 s6 s5 hpg5 hS4 g4 own I4 hx2 hdx2 nxd2
  walk_at "go"
  walk_at "new"
  rename_i pb hpb H7 s7 g7
  walk_at "go"
  walk_at "new"
  rename_i pv hpv H8 s8 g8
  walk_at "go"
  walk_at "new"
  rename_i pa hpa H9 s9 g9
  have s79 := s7.trans (s8.trans s9)
  have hS9 : ScrOk K a ns pb pv R4 H9 := by
    rcases sc3 with rd | z
    · obtain ⟨o, e⟩ := rd.some
      exact .inl ⟨Rd.same s79 (Rd.same s36 rd), aR4 o e, ne_new hpb (s36 _ _ e), ne_new hpv (s7 _ _ (s36 _ _ e))⟩
    · exact .inr fun _ => .inr z
  have gb9 := s9 _ _ (s8 _ _ g7)
  have gv9 := s9 _ _ g8
  have B9 : LeadIn C x x2 pb pv pa ps m c (bargs m c) [] [] (newHS m c [m + 3 * c]) R4 R6 0 [] (fun _ => []) [] [] [] H9 :=
    { at_ := I46.same s79, at2 := I6.same s79, lead := ⟨rfl, rfl, rfl⟩, gb := gb9, rb := .nil, gv := gv9, ga := g9, ra := .nil, gs := s79 _ _ g6,
      vt := fun x hx => (by cases hx), vk := fun x hx => (by cases hx), st := fun x hx => (by cases hx), qi := fun x hx => (by cases hx), qf := fun x hx => (by cases hx),
      n1 := ne_new hpa (s8 _ _ g7), n2 := (ne_new hpb g6).symm, n3 := (ne_new hpa (s8 _ _ (s7 _ _ g6))).symm,
      fb := ⟨notin_new I46.trk hpb, notin_new I6.trk hpb⟩, fv := ⟨notin_new (I46.same s7).trk hpv, notin_new (I6.same s7).trk hpv⟩, fa := ⟨notin_new (I46.same (s7.trans s8)).trk hpa, notin_new (I6.same (s7.trans s8)).trk hpa⟩, fs := ⟨nR4, nR6⟩, dj := dj6 }
  clear g9 gv9 gb9 s79 dj6 nR4 nR6 g6 I46 I6 hS6 s7 s8 s9 g7 g8 hpb hpv hpa
  walk_at "go"
  refine st_itr (n := 4) (by omega) ?_
  refine for_range (n := 4) (fun i σ H' => ∃ v9 v10 v11 kvs qs h R xs, σ = [some (.ref a), some (.int c), some (.int m), some (.ref ps), some (.ref x), some (.ref x2), some (.ref pb), some (.ref pv), some (.ref pa), v9, v10, v11, none, none, none, none, none] ∧
    ScrOk K a ns pb pv R H' ∧ kvs.length ≤ i ∧ xs.length ≤ i ∧ h.agn = [m + 3 * c] ∧ h.cnt = (fun _ => []) ∧ qs.map (·.1) = (bargs m c).take (if i < 4 then i else 3) ∧ (∀ n, ¬ n ∈ (bargs m c).take i → wordsOf h.book n = []) ∧ LineWs h.book ∧
    LeadIn C x x2 pb pv pa ps m c (bargs m c) kvs qs h R R6 i h.book (fun _ => []) xs [] [] H')
    ⟨none, none, none, [], [], _, _, [], rfl, hS9, Nat.le_refl _, Nat.le_refl _, rfl, rfl, rfl, fun _ _ => rfl, fun l hl => (by cases hl), B9⟩ ?_ ?_
  · clear B9 hS9
    rintro i σ HA hi ⟨v9, v10, v11, kvs, qs, h, R, xs, rfl, hSA, hkl, hxl, hag, hcn, hqs, hwn, hlw, LA⟩
    have e0 : ((0 : Int) + (i : Int)) = (i : Int) := Int.zero_add _
    rw [e0]
    -- the bargain of this round
    obtain ⟨n, hn⟩ : ∃ n, (bargs m c)[i]? = some n := ⟨(bargs m c)[i]'(by show i < 4; exact hi), List.getElem?_eq_getElem _⟩
    have hat : atI ((bargs m c).map V.int) (i : Int) = some (.int n) := atI_nat (by rw [List.getElem?_map, hn]; rfl)
    have hnew : ¬ n ∈ (bargs m c).take i := by
      have h4 : i = 0 ∨ i = 1 ∨ i = 2 ∨ i = 3 := by omega
      unfold bargs at hn ⊢
      rcases h4 with rfl | rfl | rfl | rfl
      · simp
      · cases Option.some.inj hn; simp; omega
      · cases Option.some.inj hn; simp; omega
      · cases Option.some.inj hn; simp; omega
    have h3 : n = m + 3 * c ↔ i = 3 := by
      have h4 : i = 0 ∨ i = 1 ∨ i = 2 ∨ i = 3 := by omega
      unfold bargs at hn
      rcases h4 with rfl | rfl | rfl | rfl
      · cases Option.some.inj hn; omega
      · cases Option.some.inj hn; omega
      · cases Option.some.inj hn; omega
      · cases Option.some.inj hn; omega
    have hqn : ∀ y ∈ qs, y.1 ≠ n := fun y hy e => by
      have : y.1 ∈ qs.map (·.1) := List.mem_map.mpr ⟨y, hy, rfl⟩
      rw [hqs, if_pos hi, e] at this
      exact hnew this
    have hw0 := hwn n hnew
    have gsA : SqL K HA ps _ := sqL LA.gs
    walk_at "go"
    refine ⟨m, c, n, "ask", rfl, by omega, fun v HB sB ll fr => ?_⟩
    obtain ⟨pd, ys, DB⟩ := DueAt.of LA ll fr
    have LB := LA.same sB
    have hSB := hSA.same sB
    clear LA ll fr gsA hSA
    have gsB : SqL K HB ps _ := sqL LB.gs
    walk_at "go"
    refine ⟨.inl ⟨rfl, _, sqL LB.gb⟩, ?_⟩
    have hw : atI [V.str "open", V.str "no"] (if decide (V.int (i : Int) = V.int 3) = true then (1 : Int) else 0) = some (.str (if i = 3 then "no" else "open")) := by
      by_cases e : i = 3
      · rw [if_pos (decide_eq_true (by rw [e]; rfl)), if_pos e]; rfl
      · rw [if_neg (fun y => e (by have := V.int.inj (of_decide_eq_true y); omega)), if_neg e]; rfl
    have okw : isLineW (if i = 3 then ("no" : Str) else "open") := by
      split
      · exact .inr (.inr (.inl rfl))
      · exact .inl rfl
    generalize hwd : (if i = 3 then ("no" : Str) else "open") = wd at *
    walk_at "goA"
    rename_i pw hpw HC sC gC t ht HD sD gD
    have LD := LB.same (sC.trans sD)
    have DD := DB.same (sC.trans sD)
    have hSD := hSB.same (sC.trans sD)
    refine st_append LD.gb (len_small (by omega)) ?_
    have LE := LD.line gD hqn
    have ch : Chg [pb] HD (upd HD pb (.lst (xs ++ [.ref t]))) := .set (by rw [LD.gb]; exact True.intro) (by simp)
    have DE := DD.chg ch (by simp [DD.n1])
    have hSE := hSD.upd1 (o := .lst (xs ++ [.ref t]))
    clear ch LD DD hSD gD LB DB hSB gC gsB sC sD hpw ht
    generalize upd HD pb (.lst (xs ++ [.ref t])) = HE at *
    have gsE : SqL K HE ps _ := sqL LE.gs
    walk_at "goA"
    rename_i q hq HF sF gF
    have oq := LE.out hq
    have oq2 : ∀ y ∈ qs, y.2 ≠ q := fun y hy => ne_new hq (LE.vt y hy)
    have LF := LE.same sF
    have DF := DE.same sF
    have hSF := hSE.same sF
    refine st_dputK LF.gv (len_small (by omega)) ?_
    have LG := LF.put (q := q) hqn
    have ch : Chg [pv] HF (upd HF pv (.dK (putK kvs (Sum.inl n) (.ref q)))) := .set (by rw [LF.gv]; exact True.intro) (by simp)
    have DG := DF.chg ch (by rw [List.mem_singleton]; exact ne_of DF.g LF.gv (by intro z; cases z))
    have hSG := hSF.upd2 (o := .dK (putK kvs (Sum.inl n) (.ref q)))
    have gqG : upd HF pv (.dK (putK kvs (Sum.inl n) (.ref q))) q = some (.lst []) := upd_at (ne_of gF LF.gv (by intro z; cases z)) gF
    clear ch LF DF hSF gF LE DE hSE gsE sF hq
    generalize upd HF pv (.dK (putK kvs (Sum.inl n) (.ref q))) = HG at *
    refine st_cut (fun σ' H' => ∃ v10 pd ys, σ' = [some (.ref a), some (.int c), some (.int m), some (.ref ps), some (.ref x), some (.ref x2), some (.ref pb), some (.ref pv), some (.ref pa), some (.int i), some v10, v11, none, none, none, none, none] ∧
      DueAt pb pa R v10 (if i = 3 then [] else toAll m c n "ask") pd ys H' ∧ Same HG H') ?_ ?_
    · walk_at "go"
      by_cases e : i = 3
      · rw [if_pos (decide_eq_true (by rw [e]; rfl)), if_pos e]
        walk_at "goA"
        rename_i l hl HH sH gH
        have o := LG.out hl
        exact ⟨_, l, [], rfl, ⟨rfl, gH, .nil, o.1, o.2.1, o.2.2.2.1⟩, sH⟩
      · rw [if_neg (fun y => e (by have := V.int.inj (of_decide_eq_true y); omega)), if_neg e]
        walk_at "go"
        exact ⟨_, pd, ys, rfl, DG, Same.refl _⟩
    clear DG pd ys v10
    rintro σ' HH ⟨v10, pd, ys, rfl, DH, sH⟩
    have LH := LG.same sH
    have hSH := hSG.same sH
    have gqH := sH _ _ gqG
    clear LG hSG gqG sH
    obtain ⟨dx', po', pa', pk', pc', ws', kvs', I0⟩ := id LH.at_
    have ob := I0.ob
    clear I0
    have gsH : SqL K HH ps _ := sqL LH.gs
    walk_at "go"
    have hol : h.oth.length ≤ c := by rw [LH.lead.oth]; exact othersOf_le _ _
    refine ⟨x, n, h, R, i, rfl, LH.at_, by omega, by omega, fun v HI RI mv ll fr => ?_⟩
    have hb : h.begin n = (h.wr wd n, if i = 3 then [] else toAll m c n "ask") := by
      unfold HS.begin
      rw [hag]
      by_cases e : i = 3
      · rw [if_pos (by simp [h3.mpr e]), if_pos e, ← hwd, if_pos e]
      · rw [if_neg (by intro y; exact e (h3.mp (by simpa using y))), if_neg e, ← hwd, if_neg e]
        unfold HS.toOthers toAll
        show (h.wr "open" n, h.oth.map fun k => (h.num, k, n, _)) = _
        rw [LH.lead.num, LH.lead.oth]
    rw [hb] at mv ll
    dsimp only at mv ll
    have LI := LH.move mv ⟨LH.lead.num, LH.lead.oth, LH.lead.up⟩
    have DI := DH.move mv
    have hSI := hSH.move mv
    have gqI := mv.chg.keep _ _ gqH oq.2.2.2.1
    have oqI : ¬ q ∈ RI := grow_not oq.2.2.2.1 gqH mv.gr
    have hgood : GoodLs c (if i = 3 then [] else toAll m c n "ask") := by
      split
      · intro l hl; cases hl
      · exact toAll_good m0 m1 (.inl rfl)
    obtain ⟨l, zs, rfl, gl, nl, rl⟩ := ll
    have rv : Rep HI [] (.ref l) (lettersD (if i = 3 then [] else toAll m c n "ask")) := .lst (.inl gl) (by simp) rl.plain
    clear LH DH hSH gqH mv fr ob gsH rl gl nl
    generalize (if i = 3 then ([] : List Letter) else toAll m c n "ask") = ls at *
    walk_at "go"
    refine ⟨l, c, ls, rfl, rv, hgood, fun HJ sJ => ?_⟩
    walk_at "go"
    refine iteF ?_
    walk_at "go"
    refine st_neD_letters (rv.same sJ) (DI.same sJ).rep (good_ok hgood) ?_
    walk_at "go"
    refine iteF ?_
    walk_at "go"
    have LJ := LI.same sJ
    have hkl' : (putK kvs (Sum.inl n : Key) (V.ref q)).length ≤ i + 1 := Nat.le_trans (length_putK _ _ _) (by omega)
    have hwn' : ∀ n', ¬ n' ∈ (bargs m c).take (i + 1) → wordsOf (h.wr wd n).book n' = [] := fun n' hn' => by
      rw [take_snoc hn] at hn'
      show wordsOf (h.book ++ [(wd, n)]) n' = []
      rw [wordsOf_app, wordsOf_one, if_neg (fun e => hn' (by simp [e])), hwn n' (fun y => hn' (by simp [y]))]; rfl
    have hlw' : LineWs (h.wr wd n).book := fun l hl => by
      rcases List.mem_append.mp hl with z | z
      · exact hlw l z
      · rw [List.mem_singleton.mp z]; exact okw
    by_cases e3 : i = 3
    · refine ⟨_, _, _, _, qs, h.wr wd n, RI, xs ++ [V.ref t], rfl, hSI.same sJ, hkl', by rw [List.length_append]; show xs.length + 1 ≤ _; omega, hag, hcn, ?_, hwn', hlw', LJ⟩
      rw [hqs, if_pos hi, if_neg (by omega), e3]
    · refine ⟨_, _, _, _, qs ++ [(n, q)], h.wr wd n, RI, xs ++ [V.ref t], rfl, hSI.same sJ, hkl', by rw [List.length_append]; show xs.length + 1 ≤ _; omega, hag, hcn, ?_, hwn', hlw', ?_⟩
      · rw [List.map_append, hqs, if_pos hi, if_pos (by omega), take_snoc hn]; rfl
      · refine LJ.more (by rw [valV_put, if_pos rfl]) (sJ _ _ gqI) (.inl ?_) oq2 ⟨oq.1, oq.2.1, oq.2.2.1, oqI, oq.2.2.2.2⟩
        show wordsOf (h.book ++ [(wd, n)]) n = _
        rw [wordsOf_app, wordsOf_one, if_pos rfl, hw0, ← hwd, if_neg e3]; rfl
  · clear B9 hS9
    rintro σ HA ⟨v9, v10, v11, kvs, qs, h, R, xs, rfl, hSA, hkl, hxl, hag, hcn, hqs, hwn, hlw, LA⟩
    rw [if_neg (by omega)] at hqs
    have hSA' := hSA.seq
    walk_at "go"
    walk_at "new"
    rename_i pl hpl HB sB gB
    obtain ⟨cs, ecs, hcs⟩ := cut_ints ns (some 2) (some 150)
    rw [ecs] at gB
    have oB := LA.out hpl
    have AB : Aside pl pb pa qs R (cs.map .int) HB := ⟨gB, oB.1, oB.2.1, oB.2.2.2.1, fun y hy => ne_new hpl (LA.vt y hy)⟩
    have LB := LA.same sB
    rw [← hcn] at LB
    clear LA hSA hSA' hwn hag hcn oB gB hpl ecs
    have gB' : SqL K HB pl _ := sqL AB.g
    walk_at "go"
    refine for_list (K := K) (a := pl) (xs := cs.map .int) (fun i σ H' => ∃ v9 v10 v11 v12 v13 v14 v15 v16 h R xs as ag, σ = [some (.ref a), some (.int c), some (.int m), some (.ref ps), some (.ref x), some (.ref x2), some (.ref pb), some (.ref pv), some (.ref pa), v9, v10, v11, v12, v13, v14, v15, v16] ∧
      Aside pl pb pa qs R (cs.map .int) H' ∧ as.length ≤ i ∧ LineWs h.book ∧ LeadIn C x x2 pb pv pa ps m c (bargs m c) kvs qs h R R6 (10 + 3 * i) h.book h.cnt xs as ag H')
      ⟨_, _, _, _, _, _, _, _, h, R, xs, [], [], rfl, AB, Nat.le_refl _, hlw, { LB with at_ := LB.at_.more (by omega) }⟩ ?_ ?_ ?_
    · rintro i σ H' hi ⟨v9, v10, v11, v12, v13, v14, v15, v16, h, R, xs, as, ag, rfl, A, _⟩
      exact sqL A.g
    · clear AB LB gB' hlw hxl xs R h v9 v10 v11
      rintro i y σ HC hy ⟨v9, v10, v11, v12, v13, v14, v15, v16, h, R, xs, as, ag, rfl, AC, hal, hlw, LC⟩
      have hics : i < cs.length := by have := (List.getElem?_eq_some_iff.mp hy).1; rwa [List.length_map] at this
      rw [List.getElem?_map] at hy
      obtain ⟨z, hz⟩ : ∃ z, cs[i]? = some z := ⟨cs[i], List.getElem?_eq_getElem hics⟩
      rw [hz] at hy
      cases Option.some.inj hy
      -- the bargain
      obtain ⟨n, q, hat, hqm⟩ : ∃ n q, atI ((bargs m c).map V.int) (z * 48271 % 1019 % 3) = some (.int n) ∧ (n, q) ∈ qs := by
        obtain ⟨n, hn, hnm⟩ : ∃ n, atI ((bargs m c).map V.int) (z * 48271 % 1019 % 3) = some (.int n) ∧ n ∈ (bargs m c).take 3 := by
          have h3 : z * 48271 % 1019 % 3 = 0 ∨ z * 48271 % 1019 % 3 = 1 ∨ z * 48271 % 1019 % 3 = 2 := by omega
          rcases h3 with e | e | e <;> rw [e]
          · exact ⟨_, rfl, by simp [bargs]⟩
          · exact ⟨_, rfl, by simp [bargs]⟩
          · exact ⟨_, rfl, by simp [bargs]⟩
        rw [← hqs] at hnm
        obtain ⟨y, hy, e⟩ := List.mem_map.mp hnm
        exact ⟨n, y.2, hn, by rw [← e]; exact hy⟩
      have gsC : SqL K HC ps _ := sqL LC.gs
      walk_at "go"
      refine st_rI (show (0 : Int) < (c : Int) - 1 by omega) ?_
      walk_at "go"
      refine st_rI (show (0 : Int) < (c : Int) by omega) ?_
      obtain ⟨g0, g1, gm⟩ := giver_ok (z := z * 48271 % 1031) m0 m1 c2 c12
      generalize (m + 1 + z * 48271 % 1031 % ((c : Int) - 1)) % (c : Int) = g at *
      obtain ⟨wv, hwv, ew⟩ := atI_mem (xs := [V.str "yes", V.str "yes", V.str "yes", V.str "yes", V.str "yes", V.str "yes", V.str "no", V.str "query"]) (r := z * 48271 % 1021 % 8) (by omega) (by show _ < (8 : Int); omega)
      obtain ⟨w, rfl, hw⟩ : ∃ w, wv = .str w ∧ isW3 w := by
        simp only [List.mem_cons, List.not_mem_nil, or_false] at hwv
        rcases hwv with rfl | rfl | rfl | rfl | rfl | rfl | rfl | rfl
        · exact ⟨_, rfl, .inl rfl⟩
        · exact ⟨_, rfl, .inl rfl⟩
        · exact ⟨_, rfl, .inl rfl⟩
        · exact ⟨_, rfl, .inl rfl⟩
        · exact ⟨_, rfl, .inl rfl⟩
        · exact ⟨_, rfl, .inl rfl⟩
        · exact ⟨_, rfl, .inr (.inl rfl)⟩
        · exact ⟨_, rfl, .inr (.inr rfl)⟩
      clear hwv
      walk_at "goA"
      rename_i pw hpw HD sD gD
      have LD := LC.same sD
      have AD := AC.same sD
      clear LC AC gsC gD hpw sD ew
      refine st_cut (fun σ' H' => ∃ w, isW3 w ∧ Same HD H' ∧ σ' = [some (.ref a), some (.int c), some (.int m), some (.ref ps), some (.ref x), some (.ref x2), some (.ref pb), some (.ref pv), some (.ref pa), v9, v10, v11, some (.int z), some (.int n), some (.int g), some (.str w), v16]) ?_ ?_
      · walk_at "goA"
        rename_i t ht HE sE gE
        refine st_inP (d := pairD (g, n)) (.tup (.inl gE) (.cons (.int _) (.cons (.int _) .nil))) (.lst (.inl (sE _ _ LD.ga)) (by simp) (LD.ra.same sE)) (canLay_pairs ag) (shaped_pair _) (fun bb => ?_)
        walk_at "go"
        cases bb with
        | true =>
          rw [if_pos rfl]
          walk_at "go"
          exact ⟨"no", .inr (.inl rfl), sE, rfl⟩
        | false =>
          rw [if_neg (by decide)]
          walk_at "go"
          by_cases en : w = "no"
          · rw [if_pos (by simp [en])]
            walk_at "goA"
            rename_i t2 ht2 HF sF gF
            refine st_inP (d := lineD ("bound", n)) (.tup (.inl gF) (.cons (.str _) (.cons (.int _) .nil))) (.lst (.inl (sF _ _ (sE _ _ LD.gb))) (by simp) (LD.rb.same (sE.trans sF))) (canLay_lines LD.at_.okb) (shaped_line (okS (by simp))) (fun bb => ?_)
            walk_at "go"
            cases bb with
            | true =>
              rw [if_pos rfl]
              walk_at "go"
              exact ⟨"yes", .inl rfl, sE.trans sF, rfl⟩
            | false =>
              rw [if_neg (by decide)]
              walk_at "go"
              exact ⟨w, hw, sE.trans sF, rfl⟩
          · rw [if_neg (by simp [en])]
            refine iteF ?_
            walk_at "go"
            exact ⟨w, hw, sE, rfl⟩
      clear hw w
      rintro σ' HE ⟨w, hw, sE, rfl⟩
      have LE := LD.same sE
      have AE := AD.same sE
      clear LD AD sE
      refine st_cut (fun σ' H' => ∃ as ag, σ' = [some (.ref a), some (.int c), some (.int m), some (.ref ps), some (.ref x), some (.ref x2), some (.ref pb), some (.ref pv), some (.ref pa), v9, v10, v11, some (.int z), some (.int n), some (.int g), some (.str w), v16] ∧ as.length ≤ i + 1 ∧
        Aside pl pb pa qs R (cs.map .int) H' ∧ LeadIn C x x2 pb pv pa ps m c (bargs m c) kvs qs h R R6 (10 + 3 * i) h.book h.cnt xs as ag H') ?_ ?_
      · walk_at "go"
        by_cases en : w = "no"
        · rw [if_pos (by simp [en])]
          walk_at "go"
          refine ⟨.inl ⟨rfl, _, sqL LE.ga⟩, ?_⟩
          walk_at "goA"
          rename_i t ht HF sF gF
          have LF := LE.same sF
          have AF := AE.same sF
          refine st_append LF.ga (len_small (by omega)) ?_
          have ch : Chg [pa] HF (upd HF pa (.lst (as ++ [.ref t]))) := .set (by rw [LF.ga]; exact True.intro) (by simp)
          exact ⟨as ++ [V.ref t], ag ++ [(g, n)], rfl, by rw [List.length_append]; show as.length + 1 ≤ _; omega, AF.chg ch (by simp [AF.n2]), LF.agn gF⟩
        · rw [if_neg (by simp [en])]
          walk_at "go"
          exact ⟨as, ag, rfl, by omega, AE, LE⟩
      clear LE AE hal as ag
      rintro σ' HF ⟨as, ag, rfl, hal, AF, LF⟩
      walk_at "goA"
      rename_i pt ht HG sG gG
      have LG := LF.same sG
      have AG := AF.same sG
      clear LF AF sG ht
      have hbl : h.book.length ≤ 10 + 3 * i ∧ (h.cnt n).length ≤ 10 + 3 * i := by
        obtain ⟨_, _, _, _, _, _, _, I0⟩ := LG.at_
        exact ⟨I0.l1, I0.l3 n⟩
      have st := LG.st _ hqm
      have qf := LG.qf _ hqm
      refine ⟨pb, pv, pt, c, h.book, xs, kvs, q, h.cnt n, g, m, n, w, rfl, LG.gb, LG.rb, by omega, LG.gv, LG.vk _ hqm, LG.vt _ hqm, qf.1, by omega, c2, c12, .inl gG, fun v HH xs' ch gb' rb' gq' ll fr => ?_⟩
      obtain ⟨pd, ys, DH⟩ := DueAt.of LG ll fr
      have LH := LG.due hqm ch gb' rb' gq' fun y hy => due_st st (LG.st y hy)
      have AH := AG.chg ch (by
        simp only [List.mem_cons, List.not_mem_nil, or_false]
        exact fun y => y.elim AG.n1 fun e => AG.n4 _ hqm e.symm)
      have gtH : HH pt = some (.tup [.int g, .int m, .int n, .str w]) := ch.tups _ _ gG
      have hgot := got_lead (g := g) (n := n) (w := w) LG.lead m0 m1 st hw
      have hgood := due_good (b := h.book) (gs := h.cnt n) (w := w) m0 m1 g0 g1 gm st
      have hlw' := due_words (m := m) (c := c) (gs := h.cnt n) (g := g) (n := n) (w := w) hlw
      have okw : PyData.strOk w = true := by rcases hw with rfl | rfl | rfl <;> exact okS (by simp)
      have lead' : LeadHS m c (h.got (g, m, n, w)).1 := by rw [hgot]; exact ⟨LG.lead.num, LG.lead.oth, LG.lead.up⟩
      have e1 : (h.got (g, m, n, w)).1.book = (dueF m c h.book (h.cnt n) g n w).1 := by rw [hgot]
      have e2 : (h.got (g, m, n, w)).1.cnt = fun x => if x = n then (dueF m c h.book (h.cnt n) g n w).2.1 else h.cnt x := by rw [hgot]
      have e3 : (h.got (g, m, n, w)).2 = (dueF m c h.book (h.cnt n) g n w).2.2 := by rw [hgot]
      rw [← e1, ← e2] at LH
      rw [← e1] at hlw'
      rw [← e3] at hgood DH
      have hol : h.oth.length ≤ c := by rw [LG.lead.oth]; exact othersOf_le _ _
      clear LG AG gG ll fr ch gb' rb' gq' hgot hbl st qf e1 e2 e3 hlw
      walk_at "go"
      refine st_cut (fun σ' H' => ∃ R' pf zf, σ' = [some (.ref a), some (.int c), some (.int m), some (.ref ps), some (.ref x), some (.ref x2), some (.ref pb), some (.ref pv), some (.ref pa), v9, some v, some (.ref pf), some (.int z), some (.int n), some (.int g), some (.str w), some (.ref pt)] ∧
        H' pf = some (.lst [zf]) ∧ Rep H' [] zf (lettersD (h.got (g, m, n, w)).2) ∧ DueAt pb pa R' v (h.got (g, m, n, w)).2 pd ys H' ∧ Aside pl pb pa qs R' (cs.map .int) H' ∧
        LeadIn C x x2 pb pv pa ps m c (bargs m c) kvs qs (h.got (g, m, n, w)).1 R' R6 (10 + 3 * (i + 1)) (h.got (g, m, n, w)).1.book (h.got (g, m, n, w)).1.cnt xs' as ag H') ?_ ?_
      · walk_at "go"
        obtain ⟨dx', po', pa', pk', pc', ws', kvs', I0⟩ := id LH.at_
        have ob := I0.ob
        clear I0
        split
        · walk_at "go"
          refine ⟨x, pt, (g, m, n, w), h, R, 10 + 3 * i, rfl, LH.at_, .inl gtH, by omega, by omega, okw, fun v2 HI RI mv ll fr => ?_⟩
          have LI := LH.move mv lead'
          have DI := DH.move mv
          have AI := AH.move mv
          walk_at "goA"
          rename_i pf hpf HJ sJ gJ
          exact ⟨RI, pf, v2, rfl, gJ, (ll.rep.plain).same sJ, DI.same sJ, AI.same sJ, LI.same sJ⟩
        · walk_at "goA"
          rename_i pz hpz HI sI gI
          refine ⟨x, pz, [(g, m, n, w)], [.ref pt], h, R, 10 + 3 * i, rfl, LH.at_.same sI, gI, notin_new LH.at_.trk hpz, .cons (rep_letter (.inl (sI _ _ gtH))) .nil, by show 10 + 3 * i + 3 * 1 ≤ _; omega, by omega, fun l hl => by rw [List.mem_singleton.mp hl]; exact okw, ?_⟩
          rintro _ HJ RJ mv ⟨pf, zs, rfl, gf, nf, rf⟩
          have LJ := (LH.same sI).move mv lead'
          have DJ := (DH.same sI).move mv
          have AJ := (AH.same sI).move mv
          obtain ⟨zf, r0, rfl, h1, t1⟩ := rf.cons_inv
          cases t1.nil_inv
          walk_at "go"
          exact ⟨RJ, pf, zf, rfl, gf, h1.plain, DJ, AJ, LJ⟩
      clear LH DH AH gtH lead'
      rintro σ' HI ⟨RI, pf, zf, rfl, gf, rz, DI, AI, LI⟩
      have gf' : SqL K HI pf _ := sqL gf
      walk_at "go"
      refine ⟨_, _, _, true, rfl, TyO.lst gf, kit_same _ _, ?_⟩
      walk_at "go"
      refine iteF ?_
      walk_at "go"
      rw [if_neg (by simp)]
      walk_at "go"
      obtain ⟨az, wz, rfl, gz, _, _⟩ := id rz.lst_inv
      refine ⟨az, c, _, rfl, rz, hgood, fun HJ sJ => ?_⟩
      have gfJ : SqL K HJ pf _ := sJ.seq gf'
      walk_at "go"
      refine iteF ?_
      walk_at "go"
      refine st_neD_letters (rz.same sJ) (DI.same sJ).rep (good_ok hgood) ?_
      walk_at "go"
      refine iteF ?_
      walk_at "go"
      exact ⟨_, _, _, _, _, _, _, _, _, RI, xs', as, ag, rfl, AI.same sJ, hal, hlw', LI.same sJ⟩
    · clear AB LB gB' hlw hxl xs R h v9 v10 v11
      rintro σ HC ⟨v9, v10, v11, v12, v13, v14, v15, v16, h, R, xs, as, ag, rfl, AC, hal, hlw, LC⟩
      walk_at "go"
      refine ⟨x, h, R, _, pb, rfl, LC.at_, LC.lead.up, .lst (.inl LC.gb) (by simp) LC.rb, hlw, fun HD sD => ?_⟩
      have LD := LC.same sD
      walk_at "go"
      refine iteT ?_
      walk_at "goA"
      rename_i pe hpe HE sE gE
      exact ⟨x2, newHS m c [], R6, 0, pe, rfl, LD.at2.same sE, rfl, .lst (.inl gE) (by simp) .nil, (fun l hl => by cases hl), fun HF sF => k HF⟩
end Oh


set_option Elab.async false
set_option linter.all false
set_option maxRecDepth 100000
set_option maxHeartbeats 4000000
namespace Oh
open PySem L2
section
variable {P : Program} {w : World} {K : PySem.W.Frag} {mg : Str → Option Value} {base : Heap}
theorem ok_law_at {C_House : Addr} {f : Addr} {fd : FuncData} (F : Fun K "_law_at" "_law_at" s_law_at f fd) (T : Txt K mg C_House)  (hm : mg "_law_at" = some (.ref f)) : Has P w K mg base 1 "_law_at" ["_law_script", "_law_k"] (sp_law_at K) :=
  ⟨f, fd, F.ok sc_law_at (fun vs H Q E h => (by
    have q := h
    repeat (first | (obtain ⟨rfl, _⟩ := q; rfl) | (obtain ⟨_, q⟩ := q)))) (fun cdv A outer s H vs Q E hr h => ⟨_, der_law_at  T  hr, rd_law_at h⟩), hm, F.kp, F.binds fun _ _ _ _ _ _ us hl => match us, hl with | [_, _], _ => rfl⟩
theorem ok_law_to_all {C_House : Addr} {f : Addr} {fd : FuncData} (F : Fun K "_law_to_all" "_law_to_all" s_law_to_all f fd) (T : Txt K mg C_House)  (hm : mg "_law_to_all" = some (.ref f)) : Has P w K mg base 1 "_law_to_all" ["_law_mine", "_law_count", "_law_bargain", "_law_word"] sp_law_to_all :=
  ⟨f, fd, F.ok sc_law_to_all (fun vs H Q E h => (by
    have q := h
    repeat (first | (obtain ⟨rfl, _⟩ := q; rfl) | (obtain ⟨_, q⟩ := q)))) (fun cdv A outer s H vs Q E hr h => ⟨_, der_law_to_all  T  hr, rd_law_to_all h⟩), hm, F.kp, F.binds fun _ _ _ _ _ _ us hl => match us, hl with | [_, _, _, _], _ => rfl⟩
theorem ok_law_whole {C_House : Addr} {f : Addr} {fd : FuncData} (F : Fun K "_law_whole" "_law_whole" s_law_whole f fd) (T : Txt K mg C_House)  (hm : mg "_law_whole" = some (.ref f)) : Has P w K mg base 1 "_law_whole" ["_law_found"] sp_law_whole :=
  ⟨f, fd, F.ok sc_law_whole (fun vs H Q E h => (by
    have q := h
    repeat (first | (obtain ⟨rfl, _⟩ := q; rfl) | (obtain ⟨_, q⟩ := q)))) (fun cdv A outer s H vs Q E hr h => ⟨_, der_law_whole  T  hr, rd_law_whole h⟩), hm, F.kp, F.binds fun _ _ _ _ _ _ us hl => match us, hl with | [_], _ => rfl⟩
theorem ok_law_is_letter {C_House : Addr} {f : Addr} {fd : FuncData} (F : Fun K "_law_is_letter" "_law_is_letter" s_law_is_letter f fd) (T : Txt K mg C_House) (h_law_whole : Has P w K mg base 1 "_law_whole" ["_law_found"] sp_law_whole) (hm : mg "_law_is_letter" = some (.ref f)) : Has P w K mg base 2 "_law_is_letter" ["_law_found", "_law_count"] sp_law_is_letter :=
  ⟨f, fd, F.ok sc_law_is_letter (fun vs H Q E h => (by
    have q := h
    repeat (first | (obtain ⟨rfl, _⟩ := q; rfl) | (obtain ⟨_, q⟩ := q)))) (fun cdv A outer s H vs Q E hr h => ⟨_, der_law_is_letter sp_law_whole T h_law_whole hr, rd_law_is_letter h⟩), hm, F.kp, F.binds fun _ _ _ _ _ _ us hl => match us, hl with | [_, _], _ => rfl⟩
theorem ok_law_are_letters {C_House : Addr} {f : Addr} {fd : FuncData} (F : Fun K "_law_are_letters" "_law_are_letters" s_law_are_letters f fd) (T : Txt K mg C_House) (h_law_is_letter : Has P w K mg base 2 "_law_is_letter" ["_law_found", "_law_count"] sp_law_is_letter) (hm : mg "_law_are_letters" = some (.ref f)) : Has P w K mg base 3 "_law_are_letters" ["_law_found", "_law_count"] sp_law_are_letters :=
  ⟨f, fd, F.ok sc_law_are_letters (fun vs H Q E h => (by
    have q := h
    repeat (first | (obtain ⟨rfl, _⟩ := q; rfl) | (obtain ⟨_, q⟩ := q)))) (fun cdv A outer s H vs Q E hr h => ⟨_, der_law_are_letters sp_law_is_letter T h_law_is_letter hr, rd_law_are_letters h⟩), hm, F.kp, F.binds fun _ _ _ _ _ _ us hl => match us, hl with | [_, _], _ => rfl⟩
theorem ok_law_due_letters {C_House : Addr} {f : Addr} {fd : FuncData} (F : Fun K "_law_due_letters" "_law_due_letters" s_law_due_letters f fd) (T : Txt K mg C_House) (h_law_to_all : Has P w K mg base 1 "_law_to_all" ["_law_mine", "_law_count", "_law_bargain", "_law_word"] sp_law_to_all) (hm : mg "_law_due_letters" = some (.ref f)) : Has P w K mg base 2 "_law_due_letters" ["_law_book", "_law_votes", "_law_letter", "_law_count"] sp_law_due_letters :=
  ⟨f, fd, F.ok sc_law_due_letters (fun vs H Q E h => (by
    have q := h
    repeat (first | (obtain ⟨rfl, _⟩ := q; rfl) | (obtain ⟨_, q⟩ := q)))) (fun cdv A outer s H vs Q E hr h => ⟨_, der_law_due_letters sp_law_to_all T h_law_to_all hr, rd_law_due_letters h⟩), hm, F.kp, F.binds fun _ _ _ _ _ _ us hl => match us, hl with | [_, _, _, _], _ => rfl⟩
theorem ok_words_of {C_House : Addr} {f : Addr} {fd : FuncData} (F : Fun K "words_of" "words_of" s_words_of f fd) (T : Txt K mg C_House)  (hm : mg "words_of" = some (.ref f)) : Has P w K mg base 1 "words_of" ["book", "bargain"] sp_words_of :=
  ⟨f, fd, F.ok sc_words_of (fun vs H Q E h => (by
    have q := h
    repeat (first | (obtain ⟨rfl, _⟩ := q; rfl) | (obtain ⟨_, q⟩ := q)))) (fun cdv A outer s H vs Q E hr h => ⟨_, der_words_of  T  hr, rd_words_of h⟩), hm, F.kp, F.binds fun _ _ _ _ _ _ us hl => match us, hl with | [_, _], _ => rfl⟩
theorem ok_knows {C_House : Addr} {f : Addr} {fd : FuncData} (F : Fun K "knows" "knows" s_knows f fd) (T : Txt K mg C_House) (h_words_of : Has P w K mg base 1 "words_of" ["book", "bargain"] sp_words_of) (hm : mg "knows" = some (.ref f)) : Has P w K mg base 2 "knows" ["book", "bargain"] sp_knows :=
  ⟨f, fd, F.ok sc_knows (fun vs H Q E h => (by
    have q := h
    repeat (first | (obtain ⟨rfl, _⟩ := q; rfl) | (obtain ⟨_, q⟩ := q)))) (fun cdv A outer s H vs Q E hr h => ⟨_, der_knows sp_words_of T h_words_of hr, rd_knows h⟩), hm, F.kp, F.binds fun _ _ _ _ _ _ us hl => match us, hl with | [_, _], _ => rfl⟩
theorem ok_House_page {C_House : Addr} {f : Addr} {fd : FuncData} (F : Fun K "page" "House.page" s_House_page f fd) (T : Txt K mg C_House)  (hm : Meth K C_House "page" f) : HasM P w K mg base C_House 1 "page" ["self", "bargain"] (sp_House_page C_House) :=
  ⟨f, fd, F.ok sc_House_page (fun vs H Q E h => (by
    have q := h
    repeat (first | (obtain ⟨rfl, _⟩ := q; rfl) | (obtain ⟨_, q⟩ := q)))) (fun cdv A outer s H vs Q E hr h => ⟨_, der_House_page  T  hr, rd_House_page T.hs h⟩), hm, F.binds fun _ _ _ _ _ _ us hl => match us, hl with | [_, _], _ => rfl⟩
theorem ok_House_write {C_House : Addr} {f : Addr} {fd : FuncData} (F : Fun K "write" "House.write" s_House_write f fd) (T : Txt K mg C_House)  (hm : Meth K C_House "write" f) : HasM P w K mg base C_House 1 "write" ["self", "word", "bargain"] (sp_House_write C_House) :=
  ⟨f, fd, F.ok sc_House_write (fun vs H Q E h => (by
    have q := h
    repeat (first | (obtain ⟨rfl, _⟩ := q; rfl) | (obtain ⟨_, q⟩ := q)))) (fun cdv A outer s H vs Q E hr h => ⟨_, der_House_write  T  hr, rd_House_write T.hs h⟩), hm, F.binds fun _ _ _ _ _ _ us hl => match us, hl with | [_, _, _], _ => rfl⟩
theorem ok_decision_in {C_House : Addr} {f : Addr} {fd : FuncData} (F : Fun K "decision_in" "decision_in" s_decision_in f fd) (T : Txt K mg C_House) (h_words_of : Has P w K mg base 1 "words_of" ["book", "bargain"] sp_words_of) (hm : mg "decision_in" = some (.ref f)) : Has P w K mg base 2 "decision_in" ["book", "bargain"] sp_decision_in :=
  ⟨f, fd, F.ok sc_decision_in (fun vs H Q E h => (by
    have q := h
    repeat (first | (obtain ⟨rfl, _⟩ := q; rfl) | (obtain ⟨_, q⟩ := q)))) (fun cdv A outer s H vs Q E hr h => ⟨_, der_decision_in sp_words_of T h_words_of hr, rd_decision_in h⟩), hm, F.kp, F.binds fun _ _ _ _ _ _ us hl => match us, hl with | [_, _], _ => rfl⟩
theorem ok_House_decision {C_House : Addr} {f : Addr} {fd : FuncData} (F : Fun K "decision" "House.decision" s_House_decision f fd) (T : Txt K mg C_House) (h_decision_in : Has P w K mg base 2 "decision_in" ["book", "bargain"] sp_decision_in) (h_House_page : HasM P w K mg base C_House 1 "page" ["self", "bargain"] (sp_House_page C_House)) (hm : Meth K C_House "decision" f) : HasM P w K mg base C_House 3 "decision" ["self", "bargain"] (sp_House_decision C_House) :=
  ⟨f, fd, F.ok sc_House_decision (fun vs H Q E h => (by
    have q := h
    repeat (first | (obtain ⟨rfl, _⟩ := q; rfl) | (obtain ⟨_, q⟩ := q)))) (fun cdv A outer s H vs Q E hr h => ⟨_, der_House_decision sp_decision_in (sp_House_page C_House) C_House T h_decision_in h_House_page hr, rd_House_decision T.hs h⟩), hm, F.binds fun _ _ _ _ _ _ us hl => match us, hl with | [_, _], _ => rfl⟩
theorem ok_House_to_one {C_House : Addr} {f : Addr} {fd : FuncData} (F : Fun K "to_one" "House.to_one" s_House_to_one f fd) (T : Txt K mg C_House)  (hm : Meth K C_House "to_one" f) : HasM P w K mg base C_House 1 "to_one" ["self", "other", "bargain", "word"] (sp_House_to_one C_House) :=
  ⟨f, fd, F.ok sc_House_to_one (fun vs H Q E h => (by
    have q := h
    repeat (first | (obtain ⟨rfl, _⟩ := q; rfl) | (obtain ⟨_, q⟩ := q)))) (fun cdv A outer s H vs Q E hr h => ⟨_, der_House_to_one  T  hr, rd_House_to_one T.hs h⟩), hm, F.binds fun _ _ _ _ _ _ us hl => match us, hl with | [_, _, _, _], _ => rfl⟩
theorem ok_House_got_ask {C_House : Addr} {f : Addr} {fd : FuncData} (F : Fun K "got_ask" "House.got_ask" s_House_got_ask f fd) (T : Txt K mg C_House) (h_knows : Has P w K mg base 2 "knows" ["book", "bargain"] sp_knows) (h_House_page : HasM P w K mg base C_House 1 "page" ["self", "bargain"] (sp_House_page C_House)) (h_House_write : HasM P w K mg base C_House 1 "write" ["self", "word", "bargain"] (sp_House_write C_House)) (h_House_decision : HasM P w K mg base C_House 3 "decision" ["self", "bargain"] (sp_House_decision C_House)) (h_House_to_one : HasM P w K mg base C_House 1 "to_one" ["self", "other", "bargain", "word"] (sp_House_to_one C_House)) (hm : Meth K C_House "got_ask" f) : HasM P w K mg base C_House 4 "got_ask" ["self", "giver", "bargain"] (sp_House_got_ask C_House) :=
  ⟨f, fd, F.ok sc_House_got_ask (fun vs H Q E h => (by
    have q := h
    repeat (first | (obtain ⟨rfl, _⟩ := q; rfl) | (obtain ⟨_, q⟩ := q)))) (fun cdv A outer s H vs Q E hr h => ⟨_, der_House_got_ask sp_knows (sp_House_page C_House) (sp_House_write C_House) (sp_House_decision C_House) (sp_House_to_one C_House) C_House T h_knows h_House_page h_House_write h_House_decision h_House_to_one hr, rd_House_got_ask T.hs h⟩), hm, F.binds fun _ _ _ _ _ _ us hl => match us, hl with | [_, _, _], _ => rfl⟩
theorem ok_vote_in {C_House : Addr} {f : Addr} {fd : FuncData} (F : Fun K "vote_in" "vote_in" s_vote_in f fd) (T : Txt K mg C_House) (h_words_of : Has P w K mg base 1 "words_of" ["book", "bargain"] sp_words_of) (hm : mg "vote_in" = some (.ref f)) : Has P w K mg base 2 "vote_in" ["book", "bargain"] sp_vote_in :=
  ⟨f, fd, F.ok sc_vote_in (fun vs H Q E h => (by
    have q := h
    repeat (first | (obtain ⟨rfl, _⟩ := q; rfl) | (obtain ⟨_, q⟩ := q)))) (fun cdv A outer s H vs Q E hr h => ⟨_, der_vote_in sp_words_of T h_words_of hr, rd_vote_in h⟩), hm, F.kp, F.binds fun _ _ _ _ _ _ us hl => match us, hl with | [_, _], _ => rfl⟩
theorem ok_is_unsure {C_House : Addr} {f : Addr} {fd : FuncData} (F : Fun K "is_unsure" "is_unsure" s_is_unsure f fd) (T : Txt K mg C_House) (h_vote_in : Has P w K mg base 2 "vote_in" ["book", "bargain"] sp_vote_in) (h_decision_in : Has P w K mg base 2 "decision_in" ["book", "bargain"] sp_decision_in) (hm : mg "is_unsure" = some (.ref f)) : Has P w K mg base 3 "is_unsure" ["book", "bargain"] sp_is_unsure :=
  ⟨f, fd, F.ok sc_is_unsure (fun vs H Q E h => (by
    have q := h
    repeat (first | (obtain ⟨rfl, _⟩ := q; rfl) | (obtain ⟨_, q⟩ := q)))) (fun cdv A outer s H vs Q E hr h => ⟨_, der_is_unsure sp_vote_in sp_decision_in T h_vote_in h_decision_in hr, rd_is_unsure h⟩), hm, F.kp, F.binds fun _ _ _ _ _ _ us hl => match us, hl with | [_, _], _ => rfl⟩
theorem ok_House_to_others {C_House : Addr} {f : Addr} {fd : FuncData} (F : Fun K "to_others" "House.to_others" s_House_to_others f fd) (T : Txt K mg C_House)  (hm : Meth K C_House "to_others" f) : HasM P w K mg base C_House 1 "to_others" ["self", "bargain", "word"] (sp_House_to_others C_House) :=
  ⟨f, fd, F.ok sc_House_to_others (fun vs H Q E h => (by
    have q := h
    repeat (first | (obtain ⟨rfl, _⟩ := q; rfl) | (obtain ⟨_, q⟩ := q)))) (fun cdv A outer s H vs Q E hr h => ⟨_, der_House_to_others  T  hr, rd_House_to_others T.hs h⟩), hm, F.binds fun _ _ _ _ _ _ us hl => match us, hl with | [_, _, _], _ => rfl⟩
theorem ok_House_decide {C_House : Addr} {f : Addr} {fd : FuncData} (F : Fun K "decide" "House.decide" s_House_decide f fd) (T : Txt K mg C_House) (h_House_write : HasM P w K mg base C_House 1 "write" ["self", "word", "bargain"] (sp_House_write C_House)) (h_House_to_others : HasM P w K mg base C_House 1 "to_others" ["self", "bargain", "word"] (sp_House_to_others C_House)) (hm : Meth K C_House "decide" f) : HasM P w K mg base C_House 2 "decide" ["self", "bargain", "word"] (sp_House_decide C_House) :=
  ⟨f, fd, F.ok sc_House_decide (fun vs H Q E h => (by
    have q := h
    repeat (first | (obtain ⟨rfl, _⟩ := q; rfl) | (obtain ⟨_, q⟩ := q)))) (fun cdv A outer s H vs Q E hr h => ⟨_, der_House_decide (sp_House_write C_House) (sp_House_to_others C_House) C_House T h_House_write h_House_to_others hr, rd_House_decide T.hs h⟩), hm, F.binds fun _ _ _ _ _ _ us hl => match us, hl with | [_, _, _], _ => rfl⟩
theorem ok_House_got_query {C_House : Addr} {f : Addr} {fd : FuncData} (F : Fun K "got_query" "House.got_query" s_House_got_query f fd) (T : Txt K mg C_House) (h_is_unsure : Has P w K mg base 3 "is_unsure" ["book", "bargain"] sp_is_unsure) (h_knows : Has P w K mg base 2 "knows" ["book", "bargain"] sp_knows) (h_House_page : HasM P w K mg base C_House 1 "page" ["self", "bargain"] (sp_House_page C_House)) (h_House_decision : HasM P w K mg base C_House 3 "decision" ["self", "bargain"] (sp_House_decision C_House)) (h_House_to_one : HasM P w K mg base C_House 1 "to_one" ["self", "other", "bargain", "word"] (sp_House_to_one C_House)) (h_House_decide : HasM P w K mg base C_House 2 "decide" ["self", "bargain", "word"] (sp_House_decide C_House)) (h_House_write : HasM P w K mg base C_House 1 "write" ["self", "word", "bargain"] (sp_House_write C_House)) (hm : Meth K C_House "got_query" f) : HasM P w K mg base C_House 4 "got_query" ["self", "giver", "bargain"] (sp_House_got_query C_House) :=
  ⟨f, fd, F.ok sc_House_got_query (fun vs H Q E h => (by
    have q := h
    repeat (first | (obtain ⟨rfl, _⟩ := q; rfl) | (obtain ⟨_, q⟩ := q)))) (fun cdv A outer s H vs Q E hr h => ⟨_, der_House_got_query sp_is_unsure sp_knows (sp_House_page C_House) (sp_House_decision C_House) (sp_House_to_one C_House) (sp_House_decide C_House) (sp_House_write C_House) C_House T h_is_unsure h_knows h_House_page h_House_decision h_House_to_one h_House_decide h_House_write hr, rd_House_got_query T.hs h⟩), hm, F.binds fun _ _ _ _ _ _ us hl => match us, hl with | [_, _, _], _ => rfl⟩
theorem ok_House_got_vote {C_House : Addr} {f : Addr} {fd : FuncData} (F : Fun K "got_vote" "House.got_vote" s_House_got_vote f fd) (T : Txt K mg C_House) (h_House_decision : HasM P w K mg base C_House 3 "decision" ["self", "bargain"] (sp_House_decision C_House)) (h_House_to_one : HasM P w K mg base C_House 1 "to_one" ["self", "other", "bargain", "word"] (sp_House_to_one C_House)) (h_House_decide : HasM P w K mg base C_House 2 "decide" ["self", "bargain", "word"] (sp_House_decide C_House)) (hm : Meth K C_House "got_vote" f) : HasM P w K mg base C_House 4 "got_vote" ["self", "giver", "bargain", "word"] (sp_House_got_vote C_House) :=
  ⟨f, fd, F.ok sc_House_got_vote (fun vs H Q E h => (by
    have q := h
    repeat (first | (obtain ⟨rfl, _⟩ := q; rfl) | (obtain ⟨_, q⟩ := q)))) (fun cdv A outer s H vs Q E hr h => ⟨_, der_House_got_vote (sp_House_decision C_House) (sp_House_to_one C_House) (sp_House_decide C_House) C_House T h_House_decision h_House_to_one h_House_decide hr, rd_House_got_vote T.hs h⟩), hm, F.binds fun _ _ _ _ _ _ us hl => match us, hl with | [_, _, _, _], _ => rfl⟩
theorem ok_House_got_decision {C_House : Addr} {f : Addr} {fd : FuncData} (F : Fun K "got_decision" "House.got_decision" s_House_got_decision f fd) (T : Txt K mg C_House) (h_House_decision : HasM P w K mg base C_House 3 "decision" ["self", "bargain"] (sp_House_decision C_House)) (h_House_write : HasM P w K mg base C_House 1 "write" ["self", "word", "bargain"] (sp_House_write C_House)) (hm : Meth K C_House "got_decision" f) : HasM P w K mg base C_House 4 "got_decision" ["self", "bargain", "word"] (sp_House_got_decision C_House) :=
  ⟨f, fd, F.ok sc_House_got_decision (fun vs H Q E h => (by
    have q := h
    repeat (first | (obtain ⟨rfl, _⟩ := q; rfl) | (obtain ⟨_, q⟩ := q)))) (fun cdv A outer s H vs Q E hr h => ⟨_, der_House_got_decision (sp_House_decision C_House) (sp_House_write C_House) C_House T h_House_decision h_House_write hr, rd_House_got_decision T.hs h⟩), hm, F.binds fun _ _ _ _ _ _ us hl => match us, hl with | [_, _, _], _ => rfl⟩
theorem ok_House_got {C_House : Addr} {f : Addr} {fd : FuncData} (F : Fun K "got" "House.got" s_House_got f fd) (T : Txt K mg C_House) (h_House_got_ask : HasM P w K mg base C_House 4 "got_ask" ["self", "giver", "bargain"] (sp_House_got_ask C_House)) (h_House_got_query : HasM P w K mg base C_House 4 "got_query" ["self", "giver", "bargain"] (sp_House_got_query C_House)) (h_House_got_vote : HasM P w K mg base C_House 4 "got_vote" ["self", "giver", "bargain", "word"] (sp_House_got_vote C_House)) (h_House_got_decision : HasM P w K mg base C_House 4 "got_decision" ["self", "bargain", "word"] (sp_House_got_decision C_House)) (hm : Meth K C_House "got" f) : HasM P w K mg base C_House 5 "got" ["self", "letter"] (sp_House_got C_House) :=
  ⟨f, fd, F.ok sc_House_got (fun vs H Q E h => (by
    have q := h
    repeat (first | (obtain ⟨rfl, _⟩ := q; rfl) | (obtain ⟨_, q⟩ := q)))) (fun cdv A outer s H vs Q E hr h => ⟨_, der_House_got (sp_House_got_ask C_House) (sp_House_got_query C_House) (sp_House_got_vote C_House) (sp_House_got_decision C_House) C_House T h_House_got_ask h_House_got_query h_House_got_vote h_House_got_decision hr, rd_House_got T.hs h⟩), hm, F.binds fun _ _ _ _ _ _ us hl => match us, hl with | [_, _], _ => rfl⟩
theorem ok_got_all {C_House : Addr} {f : Addr} {fd : FuncData} (F : Fun K "got_all" "got_all" s_got_all f fd) (T : Txt K mg C_House) (h_House_got : HasM P w K mg base C_House 5 "got" ["self", "letter"] (sp_House_got C_House)) (hm : mg "got_all" = some (.ref f)) : Has P w K mg base 6 "got_all" ["house", "letters"] (sp_got_all C_House) :=
  ⟨f, fd, F.ok sc_got_all (fun vs H Q E h => (by
    have q := h
    repeat (first | (obtain ⟨rfl, _⟩ := q; rfl) | (obtain ⟨_, q⟩ := q)))) (fun cdv A outer s H vs Q E hr h => ⟨_, der_got_all (sp_House_got C_House) C_House T h_House_got hr, rd_got_all T.hs h⟩), hm, F.kp, F.binds fun _ _ _ _ _ _ us hl => match us, hl with | [_, _], _ => rfl⟩
theorem ok_law_is_line {C_House : Addr} {f : Addr} {fd : FuncData} (F : Fun K "_law_is_line" "_law_is_line" s_law_is_line f fd) (T : Txt K mg C_House) (h_law_whole : Has P w K mg base 1 "_law_whole" ["_law_found"] sp_law_whole) (hm : mg "_law_is_line" = some (.ref f)) : Has P w K mg base 2 "_law_is_line" ["_law_found"] sp_law_is_line :=
  ⟨f, fd, F.ok sc_law_is_line (fun vs H Q E h => (by
    have q := h
    repeat (first | (obtain ⟨rfl, _⟩ := q; rfl) | (obtain ⟨_, q⟩ := q)))) (fun cdv A outer s H vs Q E hr h => ⟨_, der_law_is_line sp_law_whole T h_law_whole hr, rd_law_is_line h⟩), hm, F.kp, F.binds fun _ _ _ _ _ _ us hl => match us, hl with | [_], _ => rfl⟩
theorem ok_law_are_lines {C_House : Addr} {f : Addr} {fd : FuncData} (F : Fun K "_law_are_lines" "_law_are_lines" s_law_are_lines f fd) (T : Txt K mg C_House) (h_law_is_line : Has P w K mg base 2 "_law_is_line" ["_law_found"] sp_law_is_line) (hm : mg "_law_are_lines" = some (.ref f)) : Has P w K mg base 3 "_law_are_lines" ["_law_found"] sp_law_are_lines :=
  ⟨f, fd, F.ok sc_law_are_lines (fun vs H Q E h => (by
    have q := h
    repeat (first | (obtain ⟨rfl, _⟩ := q; rfl) | (obtain ⟨_, q⟩ := q)))) (fun cdv A outer s H vs Q E hr h => ⟨_, der_law_are_lines sp_law_is_line T h_law_is_line hr, rd_law_are_lines h⟩), hm, F.kp, F.binds fun _ _ _ _ _ _ us hl => match us, hl with | [_], _ => rfl⟩
theorem ok_law_has_book {C_House : Addr} {f : Addr} {fd : FuncData} (F : Fun K "_law_has_book" "_law_has_book" s_law_has_book f fd) (T : Txt K mg C_House) (h_law_are_lines : Has P w K mg base 3 "_law_are_lines" ["_law_found"] sp_law_are_lines) (hm : mg "_law_has_book" = some (.ref f)) : Has P w K mg base 4 "_law_has_book" ["_law_house", "_law_book"] (sp_law_has_book C_House) :=
  ⟨f, fd, F.ok sc_law_has_book (fun vs H Q E h => (by
    have q := h
    repeat (first | (obtain ⟨rfl, _⟩ := q; rfl) | (obtain ⟨_, q⟩ := q)))) (fun cdv A outer s H vs Q E hr h => ⟨_, der_law_has_book sp_law_are_lines T h_law_are_lines hr, rd_law_has_book T.hs h⟩), hm, F.kp, F.binds fun _ _ _ _ _ _ us hl => match us, hl with | [_, _], _ => rfl⟩
theorem ok_House_begin {C_House : Addr} {f : Addr} {fd : FuncData} (F : Fun K "begin" "House.begin" s_House_begin f fd) (T : Txt K mg C_House) (h_House_write : HasM P w K mg base C_House 1 "write" ["self", "word", "bargain"] (sp_House_write C_House)) (h_House_to_others : HasM P w K mg base C_House 1 "to_others" ["self", "bargain", "word"] (sp_House_to_others C_House)) (hm : Meth K C_House "begin" f) : HasM P w K mg base C_House 2 "begin" ["self", "bargain"] (sp_House_begin C_House) :=
  ⟨f, fd, F.ok sc_House_begin (fun vs H Q E h => (by
    have q := h
    repeat (first | (obtain ⟨rfl, _⟩ := q; rfl) | (obtain ⟨_, q⟩ := q)))) (fun cdv A outer s H vs Q E hr h => ⟨_, der_House_begin (sp_House_write C_House) (sp_House_to_others C_House) C_House T h_House_write h_House_to_others hr, rd_House_begin T.hs h⟩), hm, F.binds fun _ _ _ _ _ _ us hl => match us, hl with | [_, _], _ => rfl⟩
theorem ok_House_forget {C_House : Addr} {f : Addr} {fd : FuncData} (F : Fun K "forget" "House.forget" s_House_forget f fd) (T : Txt K mg C_House)  (hm : Meth K C_House "forget" f) : HasM P w K mg base C_House 1 "forget" ["self"] (sp_House_forget C_House) :=
  ⟨f, fd, F.ok sc_House_forget (fun vs H Q E h => (by
    have q := h
    repeat (first | (obtain ⟨rfl, _⟩ := q; rfl) | (obtain ⟨_, q⟩ := q)))) (fun cdv A outer s H vs Q E hr h => ⟨_, der_House_forget  T  hr, rd_House_forget T.hs h⟩), hm, F.binds fun _ _ _ _ _ _ us hl => match us, hl with | [_], _ => rfl⟩
theorem ok_House_init {C_House : Addr} {f : Addr} {fd : FuncData} (F : Fun K "__init__" "House.__init__" s_House_init f fd) (T : Txt K mg C_House) (h_House_forget : HasM P w K mg base C_House 1 "forget" ["self"] (sp_House_forget C_House)) (hm : Mk K C_House f) : HasI P w K mg base C_House 2 ["self", "number", "count", "against"] (sp_House_init C_House) :=
  ⟨f, fd, F.ok sc_House_init (fun vs H Q E h => (by
    have q := h
    repeat (first | (obtain ⟨rfl, _⟩ := q; rfl) | (obtain ⟨_, q⟩ := q)))) (fun cdv A outer s H vs Q E hr h => ⟨_, der_House_init (sp_House_forget C_House) C_House T h_House_forget hr, rd_House_init T.hs h⟩), hm, F.binds fun _ _ _ _ _ _ us hl => match us, hl with | [_, _, _, _], _ => rfl⟩
theorem ok_law {C_House : Addr} {f : Addr} {fd : FuncData} (F : Fun K "law" "law" s_law f fd) (T : Txt K mg C_House) (h_law_at : Has P w K mg base 1 "_law_at" ["_law_script", "_law_k"] (sp_law_at K)) (h_law_to_all : Has P w K mg base 1 "_law_to_all" ["_law_mine", "_law_count", "_law_bargain", "_law_word"] sp_law_to_all) (h_law_are_letters : Has P w K mg base 3 "_law_are_letters" ["_law_found", "_law_count"] sp_law_are_letters) (h_law_due_letters : Has P w K mg base 2 "_law_due_letters" ["_law_book", "_law_votes", "_law_letter", "_law_count"] sp_law_due_letters) (h_got_all : Has P w K mg base 6 "got_all" ["house", "letters"] (sp_got_all C_House)) (h_law_has_book : Has P w K mg base 4 "_law_has_book" ["_law_house", "_law_book"] (sp_law_has_book C_House)) (h_House_begin : HasM P w K mg base C_House 2 "begin" ["self", "bargain"] (sp_House_begin C_House)) (h_House_got : HasM P w K mg base C_House 5 "got" ["self", "letter"] (sp_House_got C_House)) (h_House_init : HasI P w K mg base C_House 2 ["self", "number", "count", "against"] (sp_House_init C_House)) : FnOk P w K mg base CX0 7 f fd ["_law_script"] (spLaw K) :=
  F.ok sc_law (fun vs H Q E h => (by
    have q := h
    repeat (first | (obtain ⟨rfl, _⟩ := q; rfl) | (obtain ⟨_, q⟩ := q)))) (fun cdv A outer s H vs Q E hr h => ⟨_, der_law (sp_law_at K) sp_law_to_all sp_law_are_letters sp_law_due_letters (sp_got_all C_House) (sp_law_has_book C_House) (sp_House_init C_House) (sp_House_begin C_House) (sp_House_got C_House) C_House T h_law_at h_law_to_all h_law_are_letters h_law_due_letters h_got_all h_law_has_book h_House_begin h_House_got h_House_init hr, rd_law T.hs h⟩)
end
theorem all_mk {l : PySem.W.OpenLaw} {w : World} {K : PySem.W.Frag} {h : Heap} {mg : Str → Option Value} {fa : Addr} {C_House : Addr} (X : K.In h) (G : h.Ns mainGlobals mg) (hfa : mg "law" = some (.ref fa))
    {f0 : Addr} {od0 an0 : Option Addr} {sl0 : Array (Option Value)} {oc0 kV0 dc0 pm0 cd0 ct0 : Value}
    {f1 : Addr} {od1 an1 : Option Addr} {sl1 : Array (Option Value)} {oc1 kV1 dc1 pm1 cd1 ct1 : Value}
    {f2 : Addr} {od2 an2 : Option Addr} {sl2 : Array (Option Value)} {oc2 kV2 dc2 pm2 cd2 ct2 : Value}
    {f3 : Addr} {od3 an3 : Option Addr} {sl3 : Array (Option Value)} {oc3 kV3 dc3 pm3 cd3 ct3 : Value}
    {f4 : Addr} {od4 an4 : Option Addr} {sl4 : Array (Option Value)} {oc4 kV4 dc4 pm4 cd4 ct4 : Value}
    {f5 : Addr} {od5 an5 : Option Addr} {sl5 : Array (Option Value)} {oc5 kV5 dc5 pm5 cd5 ct5 : Value}
    {f6 : Addr} {od6 an6 : Option Addr} {sl6 : Array (Option Value)} {oc6 kV6 dc6 pm6 cd6 ct6 : Value}
    {f7 : Addr} {od7 an7 : Option Addr} {sl7 : Array (Option Value)} {oc7 kV7 dc7 pm7 cd7 ct7 : Value}
    {f8 : Addr} {od8 an8 : Option Addr} {sl8 : Array (Option Value)} {oc8 kV8 dc8 pm8 cd8 ct8 : Value}
    {f9 : Addr} {od9 an9 : Option Addr} {sl9 : Array (Option Value)} {oc9 kV9 dc9 pm9 cd9 ct9 : Value}
    {f10 : Addr} {od10 an10 : Option Addr} {sl10 : Array (Option Value)} {oc10 kV10 dc10 pm10 cd10 ct10 : Value}
    {f11 : Addr} {od11 an11 : Option Addr} {sl11 : Array (Option Value)} {oc11 kV11 dc11 pm11 cd11 ct11 : Value}
    {f12 : Addr} {od12 an12 : Option Addr} {sl12 : Array (Option Value)} {oc12 kV12 dc12 pm12 cd12 ct12 : Value}
    {f13 : Addr} {od13 an13 : Option Addr} {sl13 : Array (Option Value)} {oc13 kV13 dc13 pm13 cd13 ct13 : Value}
    {f14 : Addr} {od14 an14 : Option Addr} {sl14 : Array (Option Value)} {oc14 kV14 dc14 pm14 cd14 ct14 : Value}
    {f15 : Addr} {od15 an15 : Option Addr} {sl15 : Array (Option Value)} {oc15 kV15 dc15 pm15 cd15 ct15 : Value}
    {f16 : Addr} {od16 an16 : Option Addr} {sl16 : Array (Option Value)} {oc16 kV16 dc16 pm16 cd16 ct16 : Value}
    {f17 : Addr} {od17 an17 : Option Addr} {sl17 : Array (Option Value)} {oc17 kV17 dc17 pm17 cd17 ct17 : Value}
    {f18 : Addr} {od18 an18 : Option Addr} {sl18 : Array (Option Value)} {oc18 kV18 dc18 pm18 cd18 ct18 : Value}
    {f19 : Addr} {od19 an19 : Option Addr} {sl19 : Array (Option Value)} {oc19 kV19 dc19 pm19 cd19 ct19 : Value}
    {f20 : Addr} {od20 an20 : Option Addr} {sl20 : Array (Option Value)} {oc20 kV20 dc20 pm20 cd20 ct20 : Value}
    {f21 : Addr} {od21 an21 : Option Addr} {sl21 : Array (Option Value)} {oc21 kV21 dc21 pm21 cd21 ct21 : Value}
    {f22 : Addr} {od22 an22 : Option Addr} {sl22 : Array (Option Value)} {oc22 kV22 dc22 pm22 cd22 ct22 : Value}
    {f23 : Addr} {od23 an23 : Option Addr} {sl23 : Array (Option Value)} {oc23 kV23 dc23 pm23 cd23 ct23 : Value}
    {f24 : Addr} {od24 an24 : Option Addr} {sl24 : Array (Option Value)} {oc24 kV24 dc24 pm24 cd24 ct24 : Value}
    {f25 : Addr} {od25 an25 : Option Addr} {sl25 : Array (Option Value)} {oc25 kV25 dc25 pm25 cd25 ct25 : Value}
    {f26 : Addr} {od26 an26 : Option Addr} {sl26 : Array (Option Value)} {oc26 kV26 dc26 pm26 cd26 ct26 : Value}
    {f27 : Addr} {od27 an27 : Option Addr} {sl27 : Array (Option Value)} {oc27 kV27 dc27 pm27 cd27 ct27 : Value}
    {f28 : Addr} {od28 an28 : Option Addr} {sl28 : Array (Option Value)} {oc28 kV28 dc28 pm28 cd28 ct28 : Value}
    {f29 : Addr} {od29 an29 : Option Addr} {sl29 : Array (Option Value)} {oc29 kV29 dc29 pm29 cd29 ct29 : Value}
    (aC_House : PySem.W.nsIn K mainGlobals "House" = some (some (.ref C_House)))
    (a0 : PySem.W.nsIn K mainGlobals "_law_at" = some (some (.ref f0)))
    (l0 : K.lookup f0 = some ⟨oc0, od0, .func (PySem.W.fnOf "_law_at" "_law_at" (defArgs s_law_at) (defBody s_law_at) (defScope s_law_at) .none kV0 dc0 pm0 an0 cd0 ct0), sl0⟩) (c0 : PySem.W.codeIn K cd0 "_law_at" = true) (k0 : PySem.W.keepIn K (.ref f0) = true)
    (a1 : PySem.W.nsIn K mainGlobals "_law_to_all" = some (some (.ref f1)))
    (l1 : K.lookup f1 = some ⟨oc1, od1, .func (PySem.W.fnOf "_law_to_all" "_law_to_all" (defArgs s_law_to_all) (defBody s_law_to_all) (defScope s_law_to_all) .none kV1 dc1 pm1 an1 cd1 ct1), sl1⟩) (c1 : PySem.W.codeIn K cd1 "_law_to_all" = true) (k1 : PySem.W.keepIn K (.ref f1) = true)
    (a2 : PySem.W.nsIn K mainGlobals "_law_whole" = some (some (.ref f2)))
    (l2 : K.lookup f2 = some ⟨oc2, od2, .func (PySem.W.fnOf "_law_whole" "_law_whole" (defArgs s_law_whole) (defBody s_law_whole) (defScope s_law_whole) .none kV2 dc2 pm2 an2 cd2 ct2), sl2⟩) (c2 : PySem.W.codeIn K cd2 "_law_whole" = true) (k2 : PySem.W.keepIn K (.ref f2) = true)
    (a3 : PySem.W.nsIn K mainGlobals "_law_is_letter" = some (some (.ref f3)))
    (l3 : K.lookup f3 = some ⟨oc3, od3, .func (PySem.W.fnOf "_law_is_letter" "_law_is_letter" (defArgs s_law_is_letter) (defBody s_law_is_letter) (defScope s_law_is_letter) .none kV3 dc3 pm3 an3 cd3 ct3), sl3⟩) (c3 : PySem.W.codeIn K cd3 "_law_is_letter" = true) (k3 : PySem.W.keepIn K (.ref f3) = true)
    (a4 : PySem.W.nsIn K mainGlobals "_law_are_letters" = some (some (.ref f4)))
    (l4 : K.lookup f4 = some ⟨oc4, od4, .func (PySem.W.fnOf "_law_are_letters" "_law_are_letters" (defArgs s_law_are_letters) (defBody s_law_are_letters) (defScope s_law_are_letters) .none kV4 dc4 pm4 an4 cd4 ct4), sl4⟩) (c4 : PySem.W.codeIn K cd4 "_law_are_letters" = true) (k4 : PySem.W.keepIn K (.ref f4) = true)
    (a5 : PySem.W.nsIn K mainGlobals "_law_due_letters" = some (some (.ref f5)))
    (l5 : K.lookup f5 = some ⟨oc5, od5, .func (PySem.W.fnOf "_law_due_letters" "_law_due_letters" (defArgs s_law_due_letters) (defBody s_law_due_letters) (defScope s_law_due_letters) .none kV5 dc5 pm5 an5 cd5 ct5), sl5⟩) (c5 : PySem.W.codeIn K cd5 "_law_due_letters" = true) (k5 : PySem.W.keepIn K (.ref f5) = true)
    (a6 : PySem.W.nsIn K mainGlobals "words_of" = some (some (.ref f6)))
    (l6 : K.lookup f6 = some ⟨oc6, od6, .func (PySem.W.fnOf "words_of" "words_of" (defArgs s_words_of) (defBody s_words_of) (defScope s_words_of) .none kV6 dc6 pm6 an6 cd6 ct6), sl6⟩) (c6 : PySem.W.codeIn K cd6 "words_of" = true) (k6 : PySem.W.keepIn K (.ref f6) = true)
    (a7 : PySem.W.nsIn K mainGlobals "knows" = some (some (.ref f7)))
    (l7 : K.lookup f7 = some ⟨oc7, od7, .func (PySem.W.fnOf "knows" "knows" (defArgs s_knows) (defBody s_knows) (defScope s_knows) .none kV7 dc7 pm7 an7 cd7 ct7), sl7⟩) (c7 : PySem.W.codeIn K cd7 "knows" = true) (k7 : PySem.W.keepIn K (.ref f7) = true)
    (a8 : PySem.W.findIn K (.ref C_House) "page" = some (some (.ref f8))) (i8 : PySem.W.isFn K (.ref f8) = true)
    (l8 : K.lookup f8 = some ⟨oc8, od8, .func (PySem.W.fnOf "page" "House.page" (defArgs s_House_page) (defBody s_House_page) (defScope s_House_page) .none kV8 dc8 pm8 an8 cd8 ct8), sl8⟩) (c8 : PySem.W.codeIn K cd8 "House.page" = true) (k8 : PySem.W.keepIn K (.ref f8) = true)
    (a9 : PySem.W.findIn K (.ref C_House) "write" = some (some (.ref f9))) (i9 : PySem.W.isFn K (.ref f9) = true)
    (l9 : K.lookup f9 = some ⟨oc9, od9, .func (PySem.W.fnOf "write" "House.write" (defArgs s_House_write) (defBody s_House_write) (defScope s_House_write) .none kV9 dc9 pm9 an9 cd9 ct9), sl9⟩) (c9 : PySem.W.codeIn K cd9 "House.write" = true) (k9 : PySem.W.keepIn K (.ref f9) = true)
    (a10 : PySem.W.nsIn K mainGlobals "decision_in" = some (some (.ref f10)))
    (l10 : K.lookup f10 = some ⟨oc10, od10, .func (PySem.W.fnOf "decision_in" "decision_in" (defArgs s_decision_in) (defBody s_decision_in) (defScope s_decision_in) .none kV10 dc10 pm10 an10 cd10 ct10), sl10⟩) (c10 : PySem.W.codeIn K cd10 "decision_in" = true) (k10 : PySem.W.keepIn K (.ref f10) = true)
    (a11 : PySem.W.findIn K (.ref C_House) "decision" = some (some (.ref f11))) (i11 : PySem.W.isFn K (.ref f11) = true)
    (l11 : K.lookup f11 = some ⟨oc11, od11, .func (PySem.W.fnOf "decision" "House.decision" (defArgs s_House_decision) (defBody s_House_decision) (defScope s_House_decision) .none kV11 dc11 pm11 an11 cd11 ct11), sl11⟩) (c11 : PySem.W.codeIn K cd11 "House.decision" = true) (k11 : PySem.W.keepIn K (.ref f11) = true)
    (a12 : PySem.W.findIn K (.ref C_House) "to_one" = some (some (.ref f12))) (i12 : PySem.W.isFn K (.ref f12) = true)
    (l12 : K.lookup f12 = some ⟨oc12, od12, .func (PySem.W.fnOf "to_one" "House.to_one" (defArgs s_House_to_one) (defBody s_House_to_one) (defScope s_House_to_one) .none kV12 dc12 pm12 an12 cd12 ct12), sl12⟩) (c12 : PySem.W.codeIn K cd12 "House.to_one" = true) (k12 : PySem.W.keepIn K (.ref f12) = true)
    (a13 : PySem.W.findIn K (.ref C_House) "got_ask" = some (some (.ref f13))) (i13 : PySem.W.isFn K (.ref f13) = true)
    (l13 : K.lookup f13 = some ⟨oc13, od13, .func (PySem.W.fnOf "got_ask" "House.got_ask" (defArgs s_House_got_ask) (defBody s_House_got_ask) (defScope s_House_got_ask) .none kV13 dc13 pm13 an13 cd13 ct13), sl13⟩) (c13 : PySem.W.codeIn K cd13 "House.got_ask" = true) (k13 : PySem.W.keepIn K (.ref f13) = true)
    (a14 : PySem.W.nsIn K mainGlobals "vote_in" = some (some (.ref f14)))
    (l14 : K.lookup f14 = some ⟨oc14, od14, .func (PySem.W.fnOf "vote_in" "vote_in" (defArgs s_vote_in) (defBody s_vote_in) (defScope s_vote_in) .none kV14 dc14 pm14 an14 cd14 ct14), sl14⟩) (c14 : PySem.W.codeIn K cd14 "vote_in" = true) (k14 : PySem.W.keepIn K (.ref f14) = true)
    (a15 : PySem.W.nsIn K mainGlobals "is_unsure" = some (some (.ref f15)))
    (l15 : K.lookup f15 = some ⟨oc15, od15, .func (PySem.W.fnOf "is_unsure" "is_unsure" (defArgs s_is_unsure) (defBody s_is_unsure) (defScope s_is_unsure) .none kV15 dc15 pm15 an15 cd15 ct15), sl15⟩) (c15 : PySem.W.codeIn K cd15 "is_unsure" = true) (k15 : PySem.W.keepIn K (.ref f15) = true)
    (a16 : PySem.W.findIn K (.ref C_House) "to_others" = some (some (.ref f16))) (i16 : PySem.W.isFn K (.ref f16) = true)
    (l16 : K.lookup f16 = some ⟨oc16, od16, .func (PySem.W.fnOf "to_others" "House.to_others" (defArgs s_House_to_others) (defBody s_House_to_others) (defScope s_House_to_others) .none kV16 dc16 pm16 an16 cd16 ct16), sl16⟩) (c16 : PySem.W.codeIn K cd16 "House.to_others" = true) (k16 : PySem.W.keepIn K (.ref f16) = true)
    (a17 : PySem.W.findIn K (.ref C_House) "decide" = some (some (.ref f17))) (i17 : PySem.W.isFn K (.ref f17) = true)
    (l17 : K.lookup f17 = some ⟨oc17, od17, .func (PySem.W.fnOf "decide" "House.decide" (defArgs s_House_decide) (defBody s_House_decide) (defScope s_House_decide) .none kV17 dc17 pm17 an17 cd17 ct17), sl17⟩) (c17 : PySem.W.codeIn K cd17 "House.decide" = true) (k17 : PySem.W.keepIn K (.ref f17) = true)
    (a18 : PySem.W.findIn K (.ref C_House) "got_query" = some (some (.ref f18))) (i18 : PySem.W.isFn K (.ref f18) = true)
    (l18 : K.lookup f18 = some ⟨oc18, od18, .func (PySem.W.fnOf "got_query" "House.got_query" (defArgs s_House_got_query) (defBody s_House_got_query) (defScope s_House_got_query) .none kV18 dc18 pm18 an18 cd18 ct18), sl18⟩) (c18 : PySem.W.codeIn K cd18 "House.got_query" = true) (k18 : PySem.W.keepIn K (.ref f18) = true)
    (a19 : PySem.W.findIn K (.ref C_House) "got_vote" = some (some (.ref f19))) (i19 : PySem.W.isFn K (.ref f19) = true)
    (l19 : K.lookup f19 = some ⟨oc19, od19, .func (PySem.W.fnOf "got_vote" "House.got_vote" (defArgs s_House_got_vote) (defBody s_House_got_vote) (defScope s_House_got_vote) .none kV19 dc19 pm19 an19 cd19 ct19), sl19⟩) (c19 : PySem.W.codeIn K cd19 "House.got_vote" = true) (k19 : PySem.W.keepIn K (.ref f19) = true)
    (a20 : PySem.W.findIn K (.ref C_House) "got_decision" = some (some (.ref f20))) (i20 : PySem.W.isFn K (.ref f20) = true)
    (l20 : K.lookup f20 = some ⟨oc20, od20, .func (PySem.W.fnOf "got_decision" "House.got_decision" (defArgs s_House_got_decision) (defBody s_House_got_decision) (defScope s_House_got_decision) .none kV20 dc20 pm20 an20 cd20 ct20), sl20⟩) (c20 : PySem.W.codeIn K cd20 "House.got_decision" = true) (k20 : PySem.W.keepIn K (.ref f20) = true)
    (a21 : PySem.W.findIn K (.ref C_House) "got" = some (some (.ref f21))) (i21 : PySem.W.isFn K (.ref f21) = true)
    (l21 : K.lookup f21 = some ⟨oc21, od21, .func (PySem.W.fnOf "got" "House.got" (defArgs s_House_got) (defBody s_House_got) (defScope s_House_got) .none kV21 dc21 pm21 an21 cd21 ct21), sl21⟩) (c21 : PySem.W.codeIn K cd21 "House.got" = true) (k21 : PySem.W.keepIn K (.ref f21) = true)
    (a22 : PySem.W.nsIn K mainGlobals "got_all" = some (some (.ref f22)))
    (l22 : K.lookup f22 = some ⟨oc22, od22, .func (PySem.W.fnOf "got_all" "got_all" (defArgs s_got_all) (defBody s_got_all) (defScope s_got_all) .none kV22 dc22 pm22 an22 cd22 ct22), sl22⟩) (c22 : PySem.W.codeIn K cd22 "got_all" = true) (k22 : PySem.W.keepIn K (.ref f22) = true)
    (a23 : PySem.W.nsIn K mainGlobals "_law_is_line" = some (some (.ref f23)))
    (l23 : K.lookup f23 = some ⟨oc23, od23, .func (PySem.W.fnOf "_law_is_line" "_law_is_line" (defArgs s_law_is_line) (defBody s_law_is_line) (defScope s_law_is_line) .none kV23 dc23 pm23 an23 cd23 ct23), sl23⟩) (c23 : PySem.W.codeIn K cd23 "_law_is_line" = true) (k23 : PySem.W.keepIn K (.ref f23) = true)
    (a24 : PySem.W.nsIn K mainGlobals "_law_are_lines" = some (some (.ref f24)))
    (l24 : K.lookup f24 = some ⟨oc24, od24, .func (PySem.W.fnOf "_law_are_lines" "_law_are_lines" (defArgs s_law_are_lines) (defBody s_law_are_lines) (defScope s_law_are_lines) .none kV24 dc24 pm24 an24 cd24 ct24), sl24⟩) (c24 : PySem.W.codeIn K cd24 "_law_are_lines" = true) (k24 : PySem.W.keepIn K (.ref f24) = true)
    (a25 : PySem.W.nsIn K mainGlobals "_law_has_book" = some (some (.ref f25)))
    (l25 : K.lookup f25 = some ⟨oc25, od25, .func (PySem.W.fnOf "_law_has_book" "_law_has_book" (defArgs s_law_has_book) (defBody s_law_has_book) (defScope s_law_has_book) .none kV25 dc25 pm25 an25 cd25 ct25), sl25⟩) (c25 : PySem.W.codeIn K cd25 "_law_has_book" = true) (k25 : PySem.W.keepIn K (.ref f25) = true)
    (a26 : PySem.W.findIn K (.ref C_House) "begin" = some (some (.ref f26))) (i26 : PySem.W.isFn K (.ref f26) = true)
    (l26 : K.lookup f26 = some ⟨oc26, od26, .func (PySem.W.fnOf "begin" "House.begin" (defArgs s_House_begin) (defBody s_House_begin) (defScope s_House_begin) .none kV26 dc26 pm26 an26 cd26 ct26), sl26⟩) (c26 : PySem.W.codeIn K cd26 "House.begin" = true) (k26 : PySem.W.keepIn K (.ref f26) = true)
    (a27 : PySem.W.findIn K (.ref C_House) "forget" = some (some (.ref f27))) (i27 : PySem.W.isFn K (.ref f27) = true)
    (l27 : K.lookup f27 = some ⟨oc27, od27, .func (PySem.W.fnOf "forget" "House.forget" (defArgs s_House_forget) (defBody s_House_forget) (defScope s_House_forget) .none kV27 dc27 pm27 an27 cd27 ct27), sl27⟩) (c27 : PySem.W.codeIn K cd27 "House.forget" = true) (k27 : PySem.W.keepIn K (.ref f27) = true)
    (a28 : PySem.W.findIn K (.ref C_House) "__init__" = some (some (.ref f28))) (i28 : PySem.W.isFn K (.ref f28) = true)
    (l28 : K.lookup f28 = some ⟨oc28, od28, .func (PySem.W.fnOf "__init__" "House.__init__" (defArgs s_House_init) (defBody s_House_init) (defScope s_House_init) .none kV28 dc28 pm28 an28 cd28 ct28), sl28⟩) (c28 : PySem.W.codeIn K cd28 "House.__init__" = true) (k28 : PySem.W.keepIn K (.ref f28) = true)
    (a29 : PySem.W.nsIn K mainGlobals "law" = some (some (.ref f29)))
    (l29 : K.lookup f29 = some ⟨oc29, od29, .func (PySem.W.fnOf "law" "law" (defArgs s_law) (defBody s_law) (defScope s_law) .none kV29 dc29 pm29 an29 cd29 ct29), sl29⟩) (c29 : PySem.W.codeIn K cd29 "law" = true) (k29 : PySem.W.keepIn K (.ref f29) = true)
    (z_bool : PySem.W.nsIn K mainGlobals "bool" = some none)
    (z_int : PySem.W.nsIn K mainGlobals "int" = some none)
    (z_isinstance : PySem.W.nsIn K mainGlobals "isinstance" = some none)
    (z_len : PySem.W.nsIn K mainGlobals "len" = some none)
    (z_list : PySem.W.nsIn K mainGlobals "list" = some none)
    (z_range : PySem.W.nsIn K mainGlobals "range" = some none)
    (z_str : PySem.W.nsIn K mainGlobals "str" = some none)
    (z_tuple : PySem.W.nsIn K mainGlobals "tuple" = some none)
    (pg_House : PySem.W.plainGet K C_House Str.empty = true) (hd_House : PySem.W.hasDictIn K C_House = true) (po_House : PySem.W.plainOver K C_House = true) (sa_House : PySem.W.findIn K (.ref C_House) "__setattr__" = some (some (.builtin "object.__setattr__"))) (mk_House : PySem.W.makesIn K C_House = true) (kc_House : PySem.W.keepIn K (.ref C_House) = true)
    (n_House_against : PySem.W.findIn K (.ref C_House) "against" = some none)
    (n_House_awake : PySem.W.findIn K (.ref C_House) "awake" = some none)
    (n_House_book : PySem.W.findIn K (.ref C_House) "book" = some none)
    (n_House_counted : PySem.W.findIn K (.ref C_House) "counted" = some none)
    (n_House_lines_read : PySem.W.findIn K (.ref C_House) "lines_read" = some none)
    (n_House_number : PySem.W.findIn K (.ref C_House) "number" = some none)
    (n_House_others : PySem.W.findIn K (.ref C_House) "others" = some none)
    (n_House_pages : PySem.W.findIn K (.ref C_House) "pages" = some none) :
    ∃ fd : FuncData, (∀ (s : Shared) (v : Value), BindsTo s fd ⟨[v], []⟩ [("_law_script", v)]) ∧ ∀ base : Heap, K.In base → base.Ns mainGlobals mg → FnOk l.prog w K mg base CX0 7 fa fd ["_law_script"] (spLaw K) := by
  have e := hfa.symm.trans (PySem.W.mg_of X G a29)
  cases e
  have T : Txt K mg C_House := ⟨trivial, PySem.W.mg_none_of X G z_bool, PySem.W.mg_none_of X G z_int, PySem.W.mg_none_of X G z_isinstance, PySem.W.mg_none_of X G z_len, PySem.W.mg_none_of X G z_list, PySem.W.mg_none_of X G z_range, PySem.W.mg_none_of X G z_str, PySem.W.mg_none_of X G z_tuple, ⟨pg_House, hd_House, po_House, sa_House⟩, PySem.W.mg_of X G aC_House, n_House_against, n_House_awake, n_House_book, n_House_counted, n_House_lines_read, n_House_number, n_House_others, n_House_pages⟩
  have F0 := fun_mk (st := s_law_at) l0 c0 k0
  have F1 := fun_mk (st := s_law_to_all) l1 c1 k1
  have F2 := fun_mk (st := s_law_whole) l2 c2 k2
  have F3 := fun_mk (st := s_law_is_letter) l3 c3 k3
  have F4 := fun_mk (st := s_law_are_letters) l4 c4 k4
  have F5 := fun_mk (st := s_law_due_letters) l5 c5 k5
  have F6 := fun_mk (st := s_words_of) l6 c6 k6
  have F7 := fun_mk (st := s_knows) l7 c7 k7
  have F8 := fun_mk (st := s_House_page) l8 c8 k8
  have F9 := fun_mk (st := s_House_write) l9 c9 k9
  have F10 := fun_mk (st := s_decision_in) l10 c10 k10
  have F11 := fun_mk (st := s_House_decision) l11 c11 k11
  have F12 := fun_mk (st := s_House_to_one) l12 c12 k12
  have F13 := fun_mk (st := s_House_got_ask) l13 c13 k13
  have F14 := fun_mk (st := s_vote_in) l14 c14 k14
  have F15 := fun_mk (st := s_is_unsure) l15 c15 k15
  have F16 := fun_mk (st := s_House_to_others) l16 c16 k16
  have F17 := fun_mk (st := s_House_decide) l17 c17 k17
  have F18 := fun_mk (st := s_House_got_query) l18 c18 k18
  have F19 := fun_mk (st := s_House_got_vote) l19 c19 k19
  have F20 := fun_mk (st := s_House_got_decision) l20 c20 k20
  have F21 := fun_mk (st := s_House_got) l21 c21 k21
  have F22 := fun_mk (st := s_got_all) l22 c22 k22
  have F23 := fun_mk (st := s_law_is_line) l23 c23 k23
  have F24 := fun_mk (st := s_law_are_lines) l24 c24 k24
  have F25 := fun_mk (st := s_law_has_book) l25 c25 k25
  have F26 := fun_mk (st := s_House_begin) l26 c26 k26
  have F27 := fun_mk (st := s_House_forget) l27 c27 k27
  have F28 := fun_mk (st := s_House_init) l28 c28 k28
  have F29 := fun_mk (st := s_law) l29 c29 k29
  refine ⟨PySem.W.fnOf "law" "law" (defArgs s_law) (defBody s_law) (defScope s_law) .none kV29 dc29 pm29 an29 cd29 ct29, fun s v => .of_eq rfl, fun base _ _ => ?_⟩
  have h_law_at := ok_law_at (P := l.prog) (w := w) (base := base) F0 T  (PySem.W.mg_of X G a0)
  have h_law_to_all := ok_law_to_all (P := l.prog) (w := w) (base := base) F1 T  (PySem.W.mg_of X G a1)
  have h_law_whole := ok_law_whole (P := l.prog) (w := w) (base := base) F2 T  (PySem.W.mg_of X G a2)
  have h_law_is_letter := ok_law_is_letter (P := l.prog) (w := w) (base := base) F3 T h_law_whole (PySem.W.mg_of X G a3)
  have h_law_are_letters := ok_law_are_letters (P := l.prog) (w := w) (base := base) F4 T h_law_is_letter (PySem.W.mg_of X G a4)
  have h_law_due_letters := ok_law_due_letters (P := l.prog) (w := w) (base := base) F5 T h_law_to_all (PySem.W.mg_of X G a5)
  have h_words_of := ok_words_of (P := l.prog) (w := w) (base := base) F6 T  (PySem.W.mg_of X G a6)
  have h_knows := ok_knows (P := l.prog) (w := w) (base := base) F7 T h_words_of (PySem.W.mg_of X G a7)
  have h_House_page := ok_House_page (P := l.prog) (w := w) (base := base) F8 T  ⟨a8, i8, k8⟩
  have h_House_write := ok_House_write (P := l.prog) (w := w) (base := base) F9 T  ⟨a9, i9, k9⟩
  have h_decision_in := ok_decision_in (P := l.prog) (w := w) (base := base) F10 T h_words_of (PySem.W.mg_of X G a10)
  have h_House_decision := ok_House_decision (P := l.prog) (w := w) (base := base) F11 T h_decision_in h_House_page ⟨a11, i11, k11⟩
  have h_House_to_one := ok_House_to_one (P := l.prog) (w := w) (base := base) F12 T  ⟨a12, i12, k12⟩
  have h_House_got_ask := ok_House_got_ask (P := l.prog) (w := w) (base := base) F13 T h_knows h_House_page h_House_write h_House_decision h_House_to_one ⟨a13, i13, k13⟩
  have h_vote_in := ok_vote_in (P := l.prog) (w := w) (base := base) F14 T h_words_of (PySem.W.mg_of X G a14)
  have h_is_unsure := ok_is_unsure (P := l.prog) (w := w) (base := base) F15 T h_vote_in h_decision_in (PySem.W.mg_of X G a15)
  have h_House_to_others := ok_House_to_others (P := l.prog) (w := w) (base := base) F16 T  ⟨a16, i16, k16⟩
  have h_House_decide := ok_House_decide (P := l.prog) (w := w) (base := base) F17 T h_House_write h_House_to_others ⟨a17, i17, k17⟩
  have h_House_got_query := ok_House_got_query (P := l.prog) (w := w) (base := base) F18 T h_is_unsure h_knows h_House_page h_House_decision h_House_to_one h_House_decide h_House_write ⟨a18, i18, k18⟩
  have h_House_got_vote := ok_House_got_vote (P := l.prog) (w := w) (base := base) F19 T h_House_decision h_House_to_one h_House_decide ⟨a19, i19, k19⟩
  have h_House_got_decision := ok_House_got_decision (P := l.prog) (w := w) (base := base) F20 T h_House_decision h_House_write ⟨a20, i20, k20⟩
  have h_House_got := ok_House_got (P := l.prog) (w := w) (base := base) F21 T h_House_got_ask h_House_got_query h_House_got_vote h_House_got_decision ⟨a21, i21, k21⟩
  have h_got_all := ok_got_all (P := l.prog) (w := w) (base := base) F22 T h_House_got (PySem.W.mg_of X G a22)
  have h_law_is_line := ok_law_is_line (P := l.prog) (w := w) (base := base) F23 T h_law_whole (PySem.W.mg_of X G a23)
  have h_law_are_lines := ok_law_are_lines (P := l.prog) (w := w) (base := base) F24 T h_law_is_line (PySem.W.mg_of X G a24)
  have h_law_has_book := ok_law_has_book (P := l.prog) (w := w) (base := base) F25 T h_law_are_lines (PySem.W.mg_of X G a25)
  have h_House_begin := ok_House_begin (P := l.prog) (w := w) (base := base) F26 T h_House_write h_House_to_others ⟨a26, i26, k26⟩
  have h_House_forget := ok_House_forget (P := l.prog) (w := w) (base := base) F27 T  ⟨a27, i27, k27⟩
  have h_House_init := ok_House_init (P := l.prog) (w := w) (base := base) F28 T h_House_forget ⟨mk_House, a28, i28, kc_House⟩
  exact ok_law F29 T h_law_at h_law_to_all h_law_are_letters h_law_due_letters h_got_all h_law_has_book h_House_begin h_House_got h_House_init
theorem walk {l : PySem.W.OpenLaw} {q : Program} {loose : List Str} {XP : (Str → Option Value) → Heap → Prop} {YP : World → Heap → Prop} {d : DefRec} {K : Params → PySem.W.Frag} (hn : l.most = some 63) (hdf : d.params.defaults = [])
    (hY : ∀ (w : World) (h : Heap), YP w h → (K w.params).In h)
    (F : ∀ (w : World) (mg : Str → Option Value) (fa : Addr) (h : Heap), (K w.params).In h → h.Ns mainGlobals mg → mg d.name = some (.ref fa) →
      ∃ fd : FuncData, (∀ (s : Shared) (u : Value), BindsTo s fd ⟨[u], []⟩ [("_law_script", u)]) ∧ ∀ base : Heap, (K w.params).In base → base.Ns mainGlobals mg → FnOk l.prog w (K w.params) mg base CX0 7 fa fd ["_law_script"] (spLaw (K w.params))) :
    PySem.W.WalkO q loose XP YP l.row.toRowW d [] (fun f vs => PySem.call f vs) :=
  L2.walk_of (n := 63) (k := 7) (x := "_law_script") (CX := fun _ => CX0) (sp := fun w => spLaw (K w.params)) hn (by decide) hdf ⟨rfl, by decide, by decide⟩ hY F (fun _ _ a ns hl _ hS => ⟨a, ns, rfl, hS, hl, fun _ => rfl⟩) fun _ _ _ _ _ z => z
end Oh
open PySem PySem.W PyProof.Rows
set_option maxRecDepth 100000 in
set_option maxHeartbeats 0 in
theorem PySem.Challenge.cw_oathhall_k03_a_house_that_leads_holds : PySem.Challenge.rw_oathhall_k03_a_house_that_leads.Holds := by
  w_on; o_law; k_head; (case hw => w_witness2)
  k_fill
  refine Oh.walk (l := PySem.Challenge.rw_oathhall_k03_a_house_that_leads) rfl rfl (fun w h Y => PySem.W.kIn_of Y) ?F
  case F =>
    intro w mg fa h KX G hmg
    refine' Oh.all_mk KX G hmg ?aC_House ?a0 ?l0 ?c0 ?k0 ?a1 ?l1 ?c1 ?k1 ?a2 ?l2 ?c2 ?k2 ?a3 ?l3 ?c3 ?k3 ?a4 ?l4 ?c4 ?k4 ?a5 ?l5 ?c5 ?k5 ?a6 ?l6 ?c6 ?k6 ?a7 ?l7 ?c7 ?k7 ?a8 ?i8 ?l8 ?c8 ?k8 ?a9 ?i9 ?l9 ?c9 ?k9 ?a10 ?l10 ?c10 ?k10 ?a11 ?i11 ?l11 ?c11 ?k11 ?a12 ?i12 ?l12 ?c12 ?k12 ?a13 ?i13 ?l13 ?c13 ?k13 ?a14 ?l14 ?c14 ?k14 ?a15 ?l15 ?c15 ?k15 ?a16 ?i16 ?l16 ?c16 ?k16 ?a17 ?i17 ?l17 ?c17 ?k17 ?a18 ?i18 ?l18 ?c18 ?k18 ?a19 ?i19 ?l19 ?c19 ?k19 ?a20 ?i20 ?l20 ?c20 ?k20 ?a21 ?i21 ?l21 ?c21 ?k21 ?a22 ?l22 ?c22 ?k22 ?a23 ?l23 ?c23 ?k23 ?a24 ?l24 ?c24 ?k24 ?a25 ?l25 ?c25 ?k25 ?a26 ?i26 ?l26 ?c26 ?k26 ?a27 ?i27 ?l27 ?c27 ?k27 ?a28 ?i28 ?l28 ?c28 ?k28 ?a29 ?l29 ?c29 ?k29 ?z_bool ?z_int ?z_isinstance ?z_len ?z_list ?z_range ?z_str ?z_tuple ?pg_House ?hd_House ?po_House ?sa_House ?mk_House ?kc_House ?n_House_against ?n_House_awake ?n_House_book ?n_House_counted ?n_House_lines_read ?n_House_number ?n_House_others ?n_House_pages
    (case aC_House => k_is)
    (case a0 => k_is)
    (case l0 => k_is)
    (case c0 => k_is)
    (case k0 => k_is)
    (case a1 => k_is)
    (case l1 => k_is)
    (case c1 => k_is)
    (case k1 => k_is)
    (case a2 => k_is)
    (case l2 => k_is)
    (case c2 => k_is)
    (case k2 => k_is)
    (case a3 => k_is)
    (case l3 => k_is)
    (case c3 => k_is)
    (case k3 => k_is)
    (case a4 => k_is)
    (case l4 => k_is)
    (case c4 => k_is)
    (case k4 => k_is)
    (case a5 => k_is)
    (case l5 => k_is)
    (case c5 => k_is)
    (case k5 => k_is)
    (case a6 => k_is)
    (case l6 => k_is)
    (case c6 => k_is)
    (case k6 => k_is)
    (case a7 => k_is)
    (case l7 => k_is)
    (case c7 => k_is)
    (case k7 => k_is)
    (case a8 => k_is)
    (case i8 => k_is)
    (case l8 => k_is)
    (case c8 => k_is)
    (case k8 => k_is)
    (case a9 => k_is)
    (case i9 => k_is)
    (case l9 => k_is)
    (case c9 => k_is)
    (case k9 => k_is)
    (case a10 => k_is)
    (case l10 => k_is)
    (case c10 => k_is)
    (case k10 => k_is)
    (case a11 => k_is)
    (case i11 => k_is)
    (case l11 => k_is)
    (case c11 => k_is)
    (case k11 => k_is)
    (case a12 => k_is)
    (case i12 => k_is)
    (case l12 => k_is)
    (case c12 => k_is)
    (case k12 => k_is)
    (case a13 => k_is)
    (case i13 => k_is)
    (case l13 => k_is)
    (case c13 => k_is)
    (case k13 => k_is)
    (case a14 => k_is)
    (case l14 => k_is)
    (case c14 => k_is)
    (case k14 => k_is)
    (case a15 => k_is)
    (case l15 => k_is)
    (case c15 => k_is)
    (case k15 => k_is)
    (case a16 => k_is)
    (case i16 => k_is)
    (case l16 => k_is)
    (case c16 => k_is)
    (case k16 => k_is)
    (case a17 => k_is)
    (case i17 => k_is)
    (case l17 => k_is)
    (case c17 => k_is)
    (case k17 => k_is)
    (case a18 => k_is)
    (case i18 => k_is)
    (case l18 => k_is)
    (case c18 => k_is)
    (case k18 => k_is)
    (case a19 => k_is)
    (case i19 => k_is)
    (case l19 => k_is)
    (case c19 => k_is)
    (case k19 => k_is)
    (case a20 => k_is)
    (case i20 => k_is)
    (case l20 => k_is)
    (case c20 => k_is)
    (case k20 => k_is)
    (case a21 => k_is)
    (case i21 => k_is)
    (case l21 => k_is)
    (case c21 => k_is)
    (case k21 => k_is)
    (case a22 => k_is)
    (case l22 => k_is)
    (case c22 => k_is)
    (case k22 => k_is)
    (case a23 => k_is)
    (case l23 => k_is)
    (case c23 => k_is)
    (case k23 => k_is)
    (case a24 => k_is)
    (case l24 => k_is)
    (case c24 => k_is)
    (case k24 => k_is)
    (case a25 => k_is)
    (case l25 => k_is)
    (case c25 => k_is)
    (case k25 => k_is)
    (case a26 => k_is)
    (case i26 => k_is)
    (case l26 => k_is)
    (case c26 => k_is)
    (case k26 => k_is)
    (case a27 => k_is)
    (case i27 => k_is)
    (case l27 => k_is)
    (case c27 => k_is)
    (case k27 => k_is)
    (case a28 => k_is)
    (case i28 => k_is)
    (case l28 => k_is)
    (case c28 => k_is)
    (case k28 => k_is)
    (case a29 => k_is)
    (case l29 => k_is)
    (case c29 => k_is)
    (case k29 => k_is)
    (case z_bool => k_is)
    (case z_int => k_is)
    (case z_isinstance => k_is)
    (case z_len => k_is)
    (case z_list => k_is)
    (case z_range => k_is)
    (case z_str => k_is)
    (case z_tuple => k_is)
    (case pg_House => k_is)
    (case hd_House => k_is)
    (case po_House => k_is)
    (case sa_House => k_is)
    (case mk_House => k_is)
    (case kc_House => k_is)
    (case n_House_against => k_is)
    (case n_House_awake => k_is)
    (case n_House_book => k_is)
    (case n_House_counted => k_is)
    (case n_House_lines_read => k_is)
    (case n_House_number => k_is)
    (case n_House_others => k_is)
    (case n_House_pages => k_is)


