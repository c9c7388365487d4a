import PyProof.Rows.All
import Wide.All
import OpenK.AllK
import Wide.FinOn
import Lean
import PyProof.EqAt
import PyProof.EqKinds
import PyProof.TupleCall
import KE.KIntText
import PySem.Challenge.RW_oathhall_k02_a_house_that_is_asked
set_option Elab.async false
set_option linter.all false
set_option maxRecDepth 100000
namespace L2
open PySem PySem.Spec PyProof.Rows
abbrev Key := Sum Int Str
def keyIs : Key → Value → Bool
  | .inl k, v => Value.isInt k v
  | .inr x, v => Value.isStrOf x v
def keyH (w : World) : Key → Int
  | .inl k => hashInt k
  | .inr x => hashStr w x
theorem keyIs_shape : ∀ {k : Key} {v : Value}, keyIs k v = true → (∃ i t, k = Sum.inl i ∧ v = Value.int i t) ∨ (∃ x t, k = Sum.inr x ∧ v = Value.str x t)
  | .inl i, v, h => by
    obtain ⟨t, e⟩ := Value.isInt_shape (k := i) (v := v) h
    exact .inl ⟨i, t, rfl, e⟩
  | .inr x, v, h => by
    obtain ⟨t, e⟩ := Value.isStrOf_shape (x := x) (v := v) h
    exact .inr ⟨x, t, rfl, e⟩
theorem keyIs_int (i : Int) (t : Tok) : keyIs (.inl i) (.int i t) = true := by simp [keyIs, Value.isInt]
theorem keyIs_str (x : Str) (t : Tok) : keyIs (.inr x) (.str x t) = true := by simp [keyIs, Value.isStrOf]
theorem key_ll (a b : Int) : decide ((Sum.inl a : Key) = Sum.inl b) = (a == b) := by
  by_cases e : a = b
  · subst e; simp
  · have h : ¬ (Sum.inl a : Key) = Sum.inl b := fun q => e (Sum.inl.inj q)
    rw [decide_eq_false h]
    exact (beq_eq_false_iff_ne.mpr e).symm
theorem key_rr (a b : Str) : decide ((Sum.inr a : Key) = Sum.inr b) = decide (a = b) := by
  by_cases e : a = b
  · subst e; simp
  · have h : ¬ (Sum.inr a : Key) = Sum.inr b := fun q => e (Sum.inr.inj q)
    rw [decide_eq_false h, decide_eq_false e]
theorem key_lr (a : Int) (b : Str) : decide ((Sum.inl a : Key) = Sum.inr b) = false := decide_eq_false (fun q => nomatch q)
theorem key_rl (a : Str) (b : Int) : decide ((Sum.inr a : Key) = Sum.inl b) = false := decide_eq_false (fun q => nomatch q)
def mixKind (prog : Program) (w : World) : PySem.KeyKind prog w Key where
  is := keyIs
  hash := keyH w
  inj := fun v a b ha hb => by
    rcases keyIs_shape ha with ⟨i, t, rfl, rfl⟩ | ⟨x, t, rfl, rfl⟩
    · rcases keyIs_shape hb with ⟨j, u, rfl, e⟩ | ⟨y, u, rfl, e⟩
      · injection e with e1 _; rw [e1]
      · exact nomatch e
    · rcases keyIs_shape hb with ⟨j, u, rfl, e⟩ | ⟨y, u, rfl, e⟩
      · exact nomatch e
      · injection e with e1 _; rw [e1]
  byValue := fun k v h => by
    rcases keyIs_shape h with ⟨i, t, rfl, rfl⟩ | ⟨x, t, rfl, rfl⟩ <;> rfl
  pyHash := fun hv h => by
    rcases keyIs_shape hv with ⟨i, t, rfl, rfl⟩ | ⟨x, t, rfl, rfl⟩
    · exact wpAny_pyHash_int h
    · exact wpAny_pyHash_str h
  eqBool := fun hu hv h => by
    rcases keyIs_shape hu with ⟨i, t, rfl, rfl⟩ | ⟨x, t, rfl, rfl⟩
    · rcases keyIs_shape hv with ⟨j, u, rfl, rfl⟩ | ⟨y, u, rfl, rfl⟩
      · rw [key_ll] at h; exact wpAny_eqBool_int h
      · rw [key_lr] at h; exact SeqAt.EqAt.int_str i t y u _ _ _ _ h
    · rcases keyIs_shape hv with ⟨j, u, rfl, rfl⟩ | ⟨y, u, rfl, rfl⟩
      · rw [key_rl] at h; exact SeqAt.EqAt.str_int x t j u _ _ _ _ h
      · rw [key_rr] at h; exact wpAny_eqBool_str h
  «strs» := fun k x t v h => by
    rcases keyIs_shape h with ⟨i, u, rfl, e⟩ | ⟨y, u, rfl, e⟩
    · exact nomatch e
    · injection e with e1 _
      subst e1
      cases v <;> rfl
theorem mixKind_int (prog : Program) (w : World) (i : Int) (t : Tok) : (mixKind prog w).is (.inl i) (.int i t) = true := keyIs_int i t
theorem mixKind_str (prog : Program) (w : World) (x : Str) (t : Tok) : (mixKind prog w).is (.inr x) (.str x t) = true := keyIs_str x t
end L2
namespace L2
open PySem PySem.Spec PyProof.Rows
inductive V where
  | non | bl (b : Bool) | int (i : Int) | str (x : Str) | byt (b : Array UInt8) | flt (b : UInt64) | ref (a : Addr) | ty (n : String)
  deriving DecidableEq
def RelV : V → Value → Prop
  | .non, u => u = Value.none
  | .bl b, u => u = Value.bool b
  | .int i, u => ∃ t, u = Value.int i t
  | .str x, u => ∃ t, u = Value.str x t
  | .byt b, u => ∃ t, u = Value.bytes b t
  | .flt b, u => ∃ t, u = Value.float b t
  | .ref a, u => u = Value.ref a
  | .ty n, u => u = Value.type n
abbrev Vals : List V → List Value → Prop := Paired RelV
theorem Vals.length {xs : List V} {us : List Value} (r : Vals xs us) : xs.length = us.length := Paired.length r
theorem Vals.get : ∀ {xs : List V} {us : List Value} {i : Nat} {x : V}, Vals xs us → xs[i]? = some x → ∃ u, us[i]? = some u ∧ RelV x u
  | _, _, _, _, .nil, e => by simp at e
  | _, _, 0, _, .cons r _, e => by simp at e; subst e; exact ⟨_, rfl, r⟩
  | _, _, i + 1, x, .cons _ t, e => by
    obtain ⟨u, h1, h2⟩ := Vals.get (i := i) (x := x) t (by simpa using e)
    exact ⟨u, by simpa using h1, h2⟩
theorem Vals.append : ∀ {xs ys : List V} {us ws : List Value}, Vals xs us → Vals ys ws → Vals (xs ++ ys) (us ++ ws)
  | _, _, _, _, .nil, s => s
  | _, _, _, _, .cons r t, s => .cons r (Vals.append t s)
theorem Vals.take : ∀ {xs : List V} {us : List Value} (n : Nat), Vals xs us → Vals (xs.take n) (us.take n)
  | _, _, 0, _ => .nil
  | _, _, _ + 1, .nil => .nil
  | _, _, n + 1, .cons r t => .cons r (Vals.take n t)
theorem Vals.drop : ∀ {xs : List V} {us : List Value} (n : Nat), Vals xs us → Vals (xs.drop n) (us.drop n)
  | _, _, 0, r => r
  | _, _, _ + 1, .nil => .nil
  | _, _, n + 1, .cons _ t => Vals.drop n t
def RelO : Option V → Option Value → Prop
  | some v, some u => RelV v u
  | none, none => True
  | _, _ => False
def KV {κ : Type} : List (κ × V) → List (κ × Value) → Prop := Paired fun (p : κ × V) (q : κ × Value) => p.1 = q.1 ∧ RelV p.2 q.2
def kV : Key → V
  | .inl i => .int i
  | .inr x => .str x
inductive HO where
  
  | lst (xs : List V)
  
  | tup (xs : List V)
  
  | dK (kvs : List (Key × V)) | dT (kvs : List (List Key × V))
  
  | set (S : Int → Bool) (n : Nat)
  
  | ins (C dx : Addr) (fs : List (Str × V))
  
  | own (x : Addr)
  
  | xd (fs : List (Str × V))
  
  | met (f x : Addr)
  
  | rng (lo hi : Int)
  
  | frz (o : Obj) (u : HO)
  
  | tbl (ps : Array Value)
  
  | ext (φ : Heap → Prop)
abbrev Hp := Addr → Option HO
def upd (H : Hp) (a : Addr) (o : HO) : Hp := fun b => if b = a then some o else H b
theorem upd_same {H : Hp} {a : Addr} {o : HO} : upd H a o a = some o := by unfold upd; rw [if_pos rfl]
theorem upd_ne {H : Hp} {a b : Addr} {o : HO} (h : b ≠ a) : upd H a o b = H b := by unfold upd; rw [if_neg h]
theorem upd_upd {H : Hp} {a : Addr} {o u : HO} : upd (upd H a o) a u = upd H a u := by
  funext b; unfold upd; split <;> rfl
theorem ne_of {H : Hp} {a b : Addr} {o u : HO} (h : H a = some o) (h' : H b = some u) (d : o ≠ u) : a ≠ b := by
  intro e; subst e; rw [h] at h'; exact d (Option.some.inj h')
theorem ne_of_none {H : Hp} {a b : Addr} {o : HO} (h : H a = some o) (h' : H b = none) : a ≠ b := by
  intro e; subst e; rw [h] at h'; cases h'
section
variable (P : Program) (w : World)
def ObjOk (H : Hp) (h : Heap) (a : Addr) : HO → Prop
  | .lst xs => xs.length ≤ sizeLine ∧ ∃ (its : List Value) (n : Nat), Vals xs its ∧ h.get? a = some { cls := .type "list", data := .seq its.toArray n }
  | .tup xs => xs.length ≤ sizeLine ∧ ∃ its : List Value, Vals xs its ∧ IsTup h a its.toArray
  | .dK kvs => kvs.length ≤ sizeLine ∧ (a == sysModules) = false ∧ ∃ vs, KV kvs vs ∧ h.DictOf (mixKind P w) a vs
  | .dT kvs => kvs.length ≤ sizeLine ∧ (a == sysModules) = false ∧ ∃ xs : List (List Key × Addr × Value),
      Paired (fun (p : List Key × V) (q : List Key × Addr × Value) => p.1 = q.1 ∧ H q.2.1 = some (.tup (p.1.map kV)) ∧ RelV p.2 q.2.2) kvs xs ∧
      ∃ o es ep, h.get? a = some o ∧ o.ExactDict ∧ o.data = .dict es ep ∧ es.toList = xs.map (entryOfKey (tupleKind (mixKind P w))) ∧ (xs.map (·.1)).Nodup
  | .set S n => h.SetOf (intKind P w) a S n
  | .ins C dx fs => H dx = some (.own a) ∧ fs.length ≤ 1000 ∧ dx ≠ a ∧ h.get? a = some (PySem.W.instObj C dx) ∧
      ∃ mA, h.Ns1 dx mA ∧ (∀ f, RelO (fs.lookup f) (mA f)) ∧ PySem.Within mA (fs.map (·.1))
  | .own _ => ∃ o, h.get? a = some o
  | .xd fs => ∃ mA, h.Ns1 a mA ∧ ∀ f, RelO (fs.lookup f) (mA f)
  | .rng lo hi => ∃ t u v, h.get? a = some { cls := .type "range", data := .fields #[.int lo t, .int hi u, .int 1 v] }
  | .frz o u => h.get? a = some o ∧ ObjOk H h a u
  | .tbl ps => h.get? a = some { cls := .none, data := .fields ps }
  | .met f x => h.get? a = some (PySem.W.methodObj (.ref f) (.ref x))
  | .ext φ => φ h ∧ (∃ o, h.get? a = some o) ∧ ∀ h1 h2 : Heap, φ h1 → (∀ o, h1.get? a = some o → h2.get? a = some o) → φ h2
def HOk (H : Hp) (h : Heap) : Prop := ∀ a o, H a = some o → ObjOk P w H h a o
end
section
variable {P : Program} {w : World} {H H' : Hp} {h h' : Heap} {a : Addr} {o : HO}
theorem ObjOk.lt (x : ObjOk P w H h a o) : a < h.objs.size := by
  cases o with
  | lst xs => obtain ⟨_, _, _, _, e⟩ := x; exact Heap.lt_size e
  | tup xs => obtain ⟨_, _, _, p⟩ := x; exact p.lt
  | dK kvs => obtain ⟨_, _, _, _, o, _, _, e, _⟩ := x; exact Heap.lt_size e
  | dT kvs => obtain ⟨_, _, _, _, o, _, _, e, _⟩ := x; exact Heap.lt_size e
  | set S n => obtain ⟨o, _, _, _, e, _⟩ := x; exact Heap.lt_size e
  | ins C dx fs => obtain ⟨_, _, _, e, _⟩ := x; exact Heap.lt_size e
  | own y => obtain ⟨_, e⟩ := x; exact Heap.lt_size e
  | xd fs => obtain ⟨_, ⟨_, _, _, e, _⟩, _⟩ := x; exact Heap.lt_size e
  | rng lo hi => obtain ⟨_, _, _, e⟩ := x; exact Heap.lt_size e
  | frz ob u => obtain ⟨e, _⟩ := x; exact Heap.lt_size e
  | tbl ps => exact Heap.lt_size (show h.get? a = some _ from x)
  | met f y => exact Heap.lt_size (show h.get? a = some _ from x)
  | ext φ => obtain ⟨_, ⟨_, e⟩, _⟩ := x; exact Heap.lt_size e
theorem Paired.mapP {α β : Type} {F G : α → β → Prop} : ∀ {l₁ : List α} {l₂ : List β}, Paired F l₁ l₂ → (∀ a b, F a b → G a b) → Paired G l₁ l₂
  | _, _, .nil, _ => .nil
  | _, _, .cons r t, f => .cons (f _ _ r) (Paired.mapP t f)
theorem ObjOk.stay (x : ObjOk P w H h a o) (k : ∀ b u, (b = a ∨ H b = some (.own a)) → h.get? b = some u → h'.get? b = some u)
    (ho : ∀ b, H b = some (.own a) → H' b = some (.own a)) (ht : ∀ b xs, H b = some (.tup xs) → H' b = some (.tup xs)) : ObjOk P w H' h' a o := by
  induction o with
  | lst xs => obtain ⟨z, its, n, r, e⟩ := x; exact ⟨z, its, n, r, k _ _ (.inl rfl) e⟩
  | tup xs => obtain ⟨z, its, r, ob, e, c⟩ := x; exact ⟨z, its, r, ob, k _ _ (.inl rfl) e, c⟩
  | dK kvs => obtain ⟨z, y, vs, r, ob, es, ep, e, c⟩ := x; exact ⟨z, y, vs, r, ob, es, ep, k _ _ (.inl rfl) e, c⟩
  | dT kvs =>
    obtain ⟨z, y, xs, r, ob, es, ep, e, c⟩ := x
    exact ⟨z, y, xs, Paired.mapP r fun p q z => ⟨z.1, ht _ _ z.2.1, z.2.2⟩, ob, es, ep, k _ _ (.inl rfl) e, c⟩
  | set S n => obtain ⟨ob, es, ep, t, e, c⟩ := x; exact ⟨ob, es, ep, t, k _ _ (.inl rfl) e, c⟩
  | ins C dx fs =>
    obtain ⟨d, z, ne, e, mA, ⟨od, es, ep, e2, c⟩, r⟩ := x
    exact ⟨ho _ d, z, ne, k _ _ (.inl rfl) e, mA, ⟨od, es, ep, k _ _ (.inr d) e2, c⟩, r⟩
  | own y => obtain ⟨ob, e⟩ := x; exact ⟨ob, k _ _ (.inl rfl) e⟩
  | xd fs => obtain ⟨mA, ⟨od, es, ep, e, c⟩, r⟩ := x; exact ⟨mA, ⟨od, es, ep, k _ _ (.inl rfl) e, c⟩, r⟩
  | rng lo hi => obtain ⟨t, u, v, e⟩ := x; exact ⟨t, u, v, k _ _ (.inl rfl) e⟩
  | frz ob u ih => obtain ⟨e, q⟩ := x; exact ⟨k _ _ (.inl rfl) e, ih q⟩
  | tbl ps =>
    have e : h.get? a = some { cls := .none, data := .fields ps } := x
    show h'.get? a = some { cls := .none, data := .fields ps }
    exact k a _ (.inl rfl) e
  | met f y =>
    have e : h.get? a = some (PySem.W.methodObj (.ref f) (.ref y)) := x
    show h'.get? a = some (PySem.W.methodObj (.ref f) (.ref y))
    exact k a _ (.inl rfl) e
  | ext φ => obtain ⟨p, ⟨o, e⟩, st⟩ := x; exact ⟨st _ _ p fun o q => k _ _ (.inl rfl) q, ⟨o, k _ _ (.inl rfl) e⟩, st⟩
theorem HOk.lt (x : HOk P w H h) (e : H a = some o) : a < h.objs.size := (x a o e).lt
theorem HOk.fresh (x : HOk P w H h) (e : h.objs.size ≤ a) : H a = none := by
  cases q : H a with
  | none => rfl
  | some u => exact absurd (Nat.lt_of_lt_of_le (x.lt q) e) (Nat.lt_irrefl _)
theorem HOk.kept (x : HOk P w H h) (k : ∀ b u, h.get? b = some u → h'.get? b = some u) : HOk P w H h' := fun a o e =>
  (x a o e).stay (fun b u _ q => k b u q) (fun _ q => q) fun _ _ q => q
theorem HOk.laid (x : HOk P w H h) (k : ∀ b u, h.get? b = some u → h'.get? b = some u) (hp : h.objs.size ≤ a) (new : ObjOk P w (upd H a o) h' a o) : HOk P w (upd H a o) h' := fun b u e => by
  have hn := x.fresh hp
  by_cases hb : b = a
  · subst hb; rw [upd_same] at e; cases e; exact new
  · rw [upd_ne hb] at e
    exact (x b u e).stay (fun c v _ q => k c v q) (fun c q => by rw [upd_ne (ne_of_none q hn)]; exact q) fun c xs q => by rw [upd_ne (ne_of_none q hn)]; exact q
end
def Rd (H : Hp) (a : Addr) (u : HO) : Prop := H a = some u ∨ ∃ o, H a = some (.frz o u)
theorem Rd.of {H : Hp} {a : Addr} {u : HO} (h : H a = some u) : Rd H a u := .inl h
theorem Rd.ok {P : Program} {w : World} {H : Hp} {h : Heap} {a : Addr} {u : HO} (r : Rd H a u) (x : HOk P w H h) : ObjOk P w H h a u := by
  rcases r with r | ⟨o, r⟩
  · exact x a u r
  · obtain ⟨_, q⟩ := x a _ r
    exact q
def Mut : Option HO → Prop
  | some (.lst _) => True
  | some (.dK _) => True
  | some (.dT _) => True
  | some (.set _ _) => True
  | some (.ins _ _ _) => True
  | some (.ext _) => True
  | _ => False
section
variable {P : Program} {w : World} {H : Hp} {h h' : Heap} {x e : Addr} {o' : HO}
theorem HOk.write (ok : HOk P w H h) (mu : Mut (H x)) (he : e = x ∨ H e = some (.own x)) (k : ∀ b u, b ≠ e → h.get? b = some u → h'.get? b = some u) (heo : ∃ u, h'.get? e = some u)
    (new : ObjOk P w (upd H x o') h' x o') : HOk P w (upd H x o') h' := fun b u q => by
  have nown : ∀ c y, H c = some (.own y) → c ≠ x := fun c y r z => by subst z; rw [r] at mu; exact mu
  have ntup : ∀ c xs, H c = some (.tup xs) → c ≠ x := fun c xs r z => by subst z; rw [r] at mu; exact mu
  by_cases hb : b = x
  · subst hb; rw [upd_same] at q; cases q; exact new
  · rw [upd_ne hb] at q
    by_cases hbe : b = e
    · have q' : H b = some (.own x) := by
        rcases he with z | z
        · exact absurd (hbe.trans z) hb
        · rw [hbe]; exact z
      rw [q] at q'; cases q'
      obtain ⟨v, hv⟩ := heo
      exact ⟨v, by rw [hbe]; exact hv⟩
    · refine (ok b u q).stay (fun c v hc r => k c v ?_ r) (fun c r => by rw [upd_ne (nown c b r)]; exact r) fun c xs r => by rw [upd_ne (ntup c xs r)]; exact r
      rcases hc with rfl | hc
      · exact hbe
      · rintro rfl
        rcases he with z | z
        · exact nown c b hc z
        · rw [hc] at z; cases z; exact hb rfl
end
structure Un (fs ex : List Addr) (H H' : Hp) (h h' : Heap) : Prop where
  keep : ∀ b o, h.get? b = some o → H b = none → b ∉ fs → b ∉ ex → h'.get? b = some o
  slot : ∀ b o, h.get? b = some o → H b = none → b ∈ fs → b ∉ ex → ∃ sl, h'.get? b = some { o with slots := sl }
  free : ∀ b o, h.get? b = some o → H b = none → b ∉ ex → H' b = none
  there : ∀ b o, h.get? b = some o → b ∉ ex → ∃ o', h'.get? b = some o'
  tups : ∀ b xs, H b = some (.tup xs) → H' b = some (.tup xs)
  frzs : ∀ b o u, H b = some (.frz o u) → H' b = some (.frz o u)
  tbls : ∀ b ps, H b = some (.tbl ps) → ∃ more, H' b = some (.tbl (ps ++ more))
section
variable {fs fs' ex ex' : List Addr} {H H1 H2 : Hp} {h h1 h2 h' : Heap} {a x e : Addr} {o : HO}
theorem Un.any (u : Un fs ex H H1 h h1) {b : Addr} {ob : Obj} (q : h.get? b = some ob) (n : H b = none) (hx : b ∉ ex) : ∃ sl, h1.get? b = some { ob with slots := sl } := by
  by_cases hb : b ∈ fs
  · exact u.slot b ob q n hb hx
  · exact ⟨ob.slots, u.keep b ob q n hb hx⟩
theorem Un.kept (k : ∀ b u, h.get? b = some u → h'.get? b = some u) : Un fs ex H H h h' :=
  ⟨fun b ob q _ _ _ => k b ob q, fun b ob q _ _ _ => ⟨ob.slots, k b ob q⟩, fun _ _ _ n _ => n, fun b ob q _ => ⟨ob, k b ob q⟩, fun _ _ q => q, fun _ _ _ q => q, fun _ ps q => ⟨#[], by rw [q]; simp⟩⟩
theorem Un.refl : Un fs ex H H h h := Un.kept fun _ _ q => q
theorem Un.laid (k : ∀ b u, h.get? b = some u → h'.get? b = some u) (hp : h.objs.size ≤ a) (hn : H a = none) : Un fs ex H (upd H a o) h h' where
  keep := fun b u q _ _ _ => k b u q
  slot := fun b u q _ _ _ => ⟨u.slots, k b u q⟩
  free := fun b u q n _ => by rw [upd_ne (Nat.ne_of_lt (Nat.lt_of_lt_of_le (Heap.lt_size q) hp))]; exact n
  there := fun b u q _ => ⟨u, k b u q⟩
  tups := fun b xs q => by rw [upd_ne (ne_of_none q hn)]; exact q
  frzs := fun b u xs q => by rw [upd_ne (ne_of_none q hn)]; exact q
  tbls := fun b ps q => ⟨#[], by rw [upd_ne (ne_of_none q hn), q]; simp⟩
theorem Un.write (mu : Mut (H x)) (he : e = x ∨ H e = some (.own x)) (k : ∀ b u, b ≠ e → h.get? b = some u → h'.get? b = some u) (heo : ∃ u, h'.get? e = some u) : Un fs ex H (upd H x o) h h' := by
  have hx : ∀ b, H b = none → b ≠ x := fun b n z => by subst z; rw [n] at mu; exact mu
  have hb : ∀ b, H b = none → b ≠ e := fun b n z => by
    subst z
    rcases he with r | r
    · exact hx b n r
    · rw [n] at r; cases r
  have hm : ∀ b u, H b = some u → ¬ Mut (some u) → b ≠ x := fun b u q nm z => by subst z; rw [q] at mu; exact nm mu
  refine ⟨fun b u q n _ _ => k b u (hb b n) q, fun b u q n _ _ => ⟨u.slots, k b u (hb b n) q⟩, fun b u q n _ => by rw [upd_ne (hx b n)]; exact n, fun b u q _ => ?_,
    fun b xs q => by rw [upd_ne (hm b _ q fun z => z)]; exact q, fun b u xs q => by rw [upd_ne (hm b _ q fun z => z)]; exact q, fun b ps q => ⟨#[], by rw [upd_ne (hm b _ q fun z => z), q]; simp⟩⟩
  by_cases hbe : b = e
  · subst hbe; exact heo
  · exact ⟨u, k b u hbe q⟩
end
def trk (h : Heap) (H : Hp) : List Addr := (List.range h.objs.size).filter fun a => (H a).isSome
def hidT (h : Heap) (H : Hp) : Heap := PySem.W.hideAll h (trk h H)
theorem hidT_size (h : Heap) (H : Hp) : (hidT h H).objs.size = h.objs.size := PySem.W.hideAll_size _ _
theorem hidT_get {h : Heap} {H : Hp} {b : Addr} {o : Obj} (e : h.get? b = some o) (n : H b = none) : (hidT h H).get? b = some o :=
  PySem.W.hideAll_get _ e fun hm => by
    have q : (H b).isSome = true := (List.mem_filter.mp hm).2
    rw [n] at q; simp at q
theorem of_hidT {h : Heap} {H : Hp} {b : Addr} {o : Obj} (e : (hidT h H).get? b = some o) : h.get? b = some o ∧ H b = none := by
  have e' : h.get? b = some o := PySem.W.of_hideAll (trk h H) e
  refine ⟨e', ?_⟩
  cases q : H b with
  | none => rfl
  | some x =>
    have hm : b ∈ trk h H := List.mem_filter.mpr ⟨List.mem_range.mpr (Heap.lt_size e'), by simp [q]⟩
    have z : (hidT h H).get? b = none := PySem.W.hideAll_none (trk h H) hm
    rw [z] at e; cases e
end L2
namespace L2
open PySem PySem.Spec PyProof.Rows
structure Mod (K : PySem.W.Frag) (mg : Str → Option Value) (base : Heap) : Prop where
  kin : K.In base
  glob : base.Ns mainGlobals mg
  blt : ∃ mb, base.Ns builtinsNs mb ∧ ∀ x : Str, x ≠ "__name__" → mb x = bootBuiltins x
  nolimit : base.NoLimit
structure Cx where
  prog : Program
  w : World
  K : PySem.W.Frag
  mg : Str → Option Value
  base : Heap
  A : Around
  N : List Str
  s₀ : Shared
  H₀ : Hp
  env : Env
  outer : List Env
  stack : List Env
  ex : List Addr
  fn : Str → Bool
  calm : Bool
  pn : List (Addr × Obj)
  xe : Value → Shared → Prop
def frs (l : List Env) : List Addr := l.filterMap (·.frame)
abbrev Cx.fs (X : Cx) : List Addr := frs X.outer
def Vis (sc : Scope) (x : Str) : Prop := sc.names.lookup x = some .local ∨ sc.names.lookup x = some .cell ∨ sc.names.lookup x = some .free
def Loc (sc : Scope) (x : Str) : Prop := sc.names.lookup x = some .local ∨ sc.names.lookup x = some .cell
def Look (env : Env) (h : Heap) (m : Str → Option Value) (x : Str) (u : Value) : Prop :=
  (env.kindOf x = some .local ∧ m x = some u) ∨ ((env.kindOf x = some .cell ∨ env.kindOf x = some .free) ∧ ∃ c, env.cells.lookup x = some c ∧ h.IsCell c (some u))
structure Cx.Ok (X : Cx) : Prop where
  mod : Mod X.K X.mg X.base
  kind : X.env.scope.kind = .function
  glob : X.env.globals = mainGlobals
  blt : X.env.builtins = builtinsNs
  above : X.s₀.heap.objs.size ≤ X.env.locals
  inj : ∀ x y c, X.env.cells.lookup x = some c → X.env.cells.lookup y = some c → x = y
  has : ∀ x, (X.env.kindOf x = some .cell ∨ X.env.kindOf x = some .free) → ∃ c, X.env.cells.lookup x = some c
  cab : ∀ x c, X.fn x = true → X.env.cells.lookup x = some c → X.s₀.heap.objs.size ≤ c
  hd : X.calm = true → X.A.handled = none
  frames : X.A.frames = some X.stack
  stk : X.stack = X.outer ∨ (X.stack = X.env :: X.outer ∧ X.env.frame = some X.env.locals)
  exf : ∀ b ∈ X.ex, b ≠ X.env.locals ∧ ∀ x c, X.env.cells.lookup x = some c → c ≠ b
  bs : ∀ b o, X.base.get? b = some o → X.s₀.heap.get? b = some o ∧ X.H₀ b = none
  bsz : X.base.objs.size ≤ X.s₀.heap.objs.size
  noex : ∀ b o, X.base.get? b = some o → b ∉ X.ex
  exfs : ∀ b ∈ X.ex, b ∉ X.fs
  funs : X.s₀.heap.FunFrames X.base X.outer
  frf : ∀ b ∈ X.fs, X.H₀ b = none
structure Inv (X : Cx) (pins : List (Addr × Obj)) (σ : List (Option V)) (H : Hp) (s : Shared) : Prop where
  ok : X.Ok
  os : s.os = X.s₀.os
  bare : AllBare s.gens
  base : Un X.fs X.ex X.H₀ H X.s₀.heap s.heap
  loc : ∃ m, s.heap.Ns X.env.locals m ∧ ∀ (i : Nat) (x : Str) (v : V), X.N[i]? = some x → σ[i]? = some (some v) → Vis X.env.scope x → ∃ u, RelV v u ∧ Look X.env s.heap m x u
  cell : ∀ x c, X.env.cells.lookup x = some c → ∃ v, s.heap.IsCell c v
  free : H X.env.locals = none
  freeC : ∀ x c, X.env.cells.lookup x = some c → H c = none
  pin : ∀ p ∈ X.pn ++ pins, s.heap.get? p.1 = some p.2 ∧ H p.1 = none ∧ p.1 ≠ X.env.locals ∧ p.1 ∉ X.fs ∧ ∀ v, p.2.data ≠ .cell v
  hok : HOk X.prog X.w H s.heap
  len : σ.length = X.N.length
section
variable {X : Cx} {pins : List (Addr × Obj)} {σ : List (Option V)} {H H' : Hp} {s : Shared} {h' : Heap}
theorem Cx.Ok.nofr (ok : X.Ok) {b : Addr} {o : Obj} (e : X.base.get? b = some o) : b ∉ X.fs := fun hb => by
  have := (ok.funs.mem hb).1
  rw [e] at this; cases this
theorem Inv.bs (I : Inv X pins σ H s) : ∀ b o, X.base.get? b = some o → s.heap.get? b = some o ∧ H b = none := fun b o e =>
  ⟨I.base.keep b o (I.ok.bs b o e).1 (I.ok.bs b o e).2 (I.ok.nofr e) (I.ok.noex b o e), I.base.free b o (I.ok.bs b o e).1 (I.ok.bs b o e).2 (I.ok.noex b o e)⟩
theorem Inv.bk (I : Inv X pins σ H s) : ∀ b o, X.base.get? b = some o → s.heap.get? b = some o := fun b o e => (I.bs b o e).1
theorem Inv.mod (I : Inv X pins σ H s) : Mod X.K X.mg X.base := I.ok.mod
theorem Inv.kIn (I : Inv X pins σ H s) : X.K.In s.heap := I.ok.mod.kin.keeps I.bk
theorem Inv.lt (I : Inv X pins σ H s) : X.env.locals < s.heap.objs.size := let ⟨_, hn, _⟩ := I.loc; hn.lt
theorem Inv.sz (I : Inv X pins σ H s) : X.s₀.heap.objs.size ≤ s.heap.objs.size := Nat.le_trans I.ok.above (Nat.le_of_lt I.lt)
theorem Inv.nofs (I : Inv X pins σ H s) {a : Addr} (h : s.heap.objs.size ≤ a) : a ∉ X.fs := fun hb => by
  obtain ⟨_, o, ho, _⟩ := I.ok.funs.mem hb
  exact absurd (Nat.lt_of_lt_of_le (Heap.lt_size ho) (Nat.le_trans I.sz h)) (Nat.lt_irrefl _)
theorem Inv.cne (I : Inv X pins σ H s) : ∀ x c, X.env.cells.lookup x = some c → c ≠ X.env.locals := fun x c e z => by
  obtain ⟨v, o, ho, hd⟩ := I.cell x c e
  obtain ⟨m, ⟨o', es, ep, ho', hd', _⟩, _⟩ := I.loc
  rw [z, ho'] at ho; cases ho; rw [hd'] at hd; cases hd
theorem Inv.funs (I : Inv X pins σ H s) : s.heap.FunFrames X.base X.outer := by
  have all : ∀ (l : List Env), (∀ b ∈ frs l, b ∈ X.fs) → X.s₀.heap.FunFrames X.base l → s.heap.FunFrames X.base l := by
    intro l
    induction l with
    | nil => intro _ _; trivial
    | cons env r ih =>
      intro hs hl
      obtain ⟨hk, ⟨L, o, hf, hn, ho, hd⟩, hr⟩ := hl
      have hL : L ∈ X.fs := hs L (by unfold frs; rw [List.filterMap_cons, hf]; exact List.mem_cons_self)
      obtain ⟨sl, e⟩ := I.base.slot L o ho (I.ok.frf L hL) hL fun z => I.ok.exfs L z hL
      exact ⟨hk, ⟨L, _, hf, hn, e, hd⟩, ih (fun b hb => hs b (by unfold frs; rw [List.filterMap_cons, hf]; exact List.mem_cons_of_mem _ hb)) hr⟩
  exact all X.outer (fun _ hb => hb) I.ok.funs
theorem Inv.stack (I : Inv X pins σ H s) : s.heap.FunFrames X.base X.stack := by
  rcases I.ok.stk with e | ⟨e, hf⟩
  · rw [e]; exact I.funs
  · rw [e]
    obtain ⟨m, hn, _⟩ := I.loc
    refine .cons (by rw [I.ok.kind]; decide) hf hn ?_ I.funs
    exact Heap.get?_none_of_le (Nat.le_trans I.ok.bsz I.ok.above)
theorem Inv.stkSub (I : Inv X pins σ H s) : ∀ b ∈ frs X.stack, b ∈ X.env.locals :: X.fs := fun b hb => by
  rcases I.ok.stk with e | ⟨e, hf⟩
  · rw [e] at hb; exact List.mem_cons_of_mem _ hb
  · rw [e] at hb
    unfold frs at hb
    rw [List.filterMap_cons, hf] at hb
    exact hb
theorem Inv.stkFree (I : Inv X pins σ H s) : ∀ b ∈ frs X.stack, H b = none := fun b hb => by
  rcases List.mem_cons.mp (I.stkSub b hb) with e | hb
  · rw [e]; exact I.free
  · obtain ⟨_, o, ho, _⟩ := I.ok.funs.mem hb
    exact I.base.free b o ho (I.ok.frf b hb) fun z => I.ok.exfs b z hb
theorem Inv.step {g' : Array GenState} {t' : Nat} {d' : Drawn} {ch : List Addr} (I : Inv X pins σ H s)
    (hch : ∀ b ∈ ch, (b ∈ X.ex ∨ X.s₀.heap.objs.size ≤ b) ∧ b ≠ X.env.locals ∧ (∀ x c, X.env.cells.lookup x = some c → c ≠ b) ∧ ∀ p ∈ X.pn ++ pins, p.1 ≠ b)
    (keep : ∀ b o, b ≠ X.env.locals → b ∉ X.fs → b ∉ ch → s.heap.get? b = some o → H b = none → h'.get? b = some o)
    (slot : ∀ b o, b ≠ X.env.locals → b ∈ X.fs → b ∉ ch → s.heap.get? b = some o → H b = none → ∃ sl, h'.get? b = some { o with slots := sl }) (free : ∀ b o, b ∉ ch → s.heap.get? b = some o → H b = none → H' b = none)
    (there : ∀ b o, b ∉ ch → s.heap.get? b = some o → ∃ o', h'.get? b = some o')
    (tups : ∀ b xs, H b = some (.tup xs) → H' b = some (.tup xs)) (frzs : ∀ b o u, H b = some (.frz o u) → H' b = some (.frz o u)) (tbls : ∀ b ps, H b = some (.tbl ps) → ∃ more, H' b = some (.tbl (ps ++ more)))
    (ns : ∀ m, s.heap.Ns X.env.locals m → h'.Ns X.env.locals m) (hok : HOk X.prog X.w H' h') (hg : AllBare g') :
    Inv X pins σ H' { s with heap := h', gens := g', drawn := d', toks := t' } := by
  have neL : ∀ b o, X.s₀.heap.get? b = some o → b ≠ X.env.locals := fun b o e => Nat.ne_of_lt (Nat.lt_of_lt_of_le (Heap.lt_size e) I.ok.above)
  have neC : ∀ b o, X.s₀.heap.get? b = some o → b ∉ X.ex → b ∉ ch := fun b o e hx hb => by
    rcases (hch b hb).1 with z | z
    · exact hx z
    · exact absurd (Nat.lt_of_lt_of_le (Heap.lt_size e) z) (Nat.lt_irrefl _)
  have cellK : ∀ x c, X.env.cells.lookup x = some c → ∀ v, s.heap.IsCell c v → h'.IsCell c v := fun x c e v ⟨o, ho, hd⟩ => by
    have nch : c ∉ ch := fun z => (hch c z).2.2.1 x c e rfl
    by_cases hc : c ∈ X.fs
    · obtain ⟨sl, q⟩ := slot c o (I.cne x c e) hc nch ho (I.freeC x c e)
      exact ⟨_, q, hd⟩
    · exact ⟨o, keep c o (I.cne x c e) hc nch ho (I.freeC x c e), hd⟩
  refine ⟨I.ok, I.os, hg, ⟨fun b o e n hb hx => ?_, fun b o e n hb hx => ?_, fun b o e n hx => ?_, fun b o e hx => ?_, fun b xs e => tups b xs (I.base.tups b xs e), fun b o xs e => frzs b o xs (I.base.frzs b o xs e), fun b ps e => ?_⟩, ?_, fun x c e => ?_, ?_, fun x c e => ?_, fun p hp => ?_, hok, I.len⟩
  · exact keep b o (neL b o e) hb (neC b o e hx) (I.base.keep b o e n hb hx) (I.base.free b o e n hx)
  · obtain ⟨sl, e1⟩ := I.base.slot b o e n hb hx
    obtain ⟨sl', e2⟩ := slot b _ (neL b o e) hb (neC b o e hx) e1 (I.base.free b o e n hx)
    exact ⟨sl', e2⟩
  · obtain ⟨o', e1⟩ := I.base.there b o e hx
    exact free b o' (neC b o e hx) e1 (I.base.free b o e n hx)
  · obtain ⟨o', e1⟩ := I.base.there b o e hx
    exact there b o' (neC b o e hx) e1
  · obtain ⟨m1, e1⟩ := I.base.tbls b ps e
    obtain ⟨m2, e2⟩ := tbls b _ e1
    exact ⟨m1 ++ m2, by rw [e2, Array.append_assoc]⟩
  · obtain ⟨m, hn, hl⟩ := I.loc
    refine ⟨m, ns m hn, fun i x v e1 e2 e3 => ?_⟩
    obtain ⟨u, r, l⟩ := hl i x v e1 e2 e3
    refine ⟨u, r, ?_⟩
    rcases l with l | ⟨k, c, e, z⟩
    · exact .inl l
    · exact .inr ⟨k, c, e, cellK x c e _ z⟩
  · obtain ⟨v, z⟩ := I.cell x c e
    exact ⟨v, cellK x c e v z⟩
  · obtain ⟨m, ⟨o, _, _, ho, _⟩, _⟩ := I.loc
    exact free _ o (fun z => (hch _ z).2.1 rfl) ho I.free
  · obtain ⟨v, o, ho, hd⟩ := I.cell x c e
    exact free c o (fun z => (hch c z).2.2.1 x c e rfl) ho (I.freeC x c e)
  · obtain ⟨e, n, ne, nf, d⟩ := I.pin p hp
    have nch : p.1 ∉ ch := fun z => (hch p.1 z).2.2.2 p hp rfl
    exact ⟨keep p.1 p.2 ne nf nch e n, free p.1 p.2 nch e n, ne, nf, d⟩
theorem Inv.un {t' : Nat} (I : Inv X pins σ H s) (u : Un X.fs [] H H' s.heap h') (hok : HOk X.prog X.w H' h') : Inv X pins σ H' { s with heap := h', toks := t' } := by
  obtain ⟨m, ⟨o, es, ep, ho, r⟩, _⟩ := id I.loc
  obtain ⟨sl, hL⟩ := u.any ho I.free (by simp)
  exact I.step (g' := s.gens) (d' := s.drawn) (ch := []) (fun _ z => nomatch z) (fun b o _ hb _ e n => u.keep b o e n hb (by simp)) (fun b o _ hb _ e n => u.slot b o e n hb (by simp)) (fun b o _ e n => u.free b o e n (by simp)) (fun b o _ e => u.there b o e (by simp)) u.tups u.frzs u.tbls (fun m' hm => by
    obtain ⟨o', es', ep', ho', r'⟩ := hm
    rw [ho] at ho'; cases ho'
    exact ⟨_, es', ep', hL, r'⟩) hok I.bare
theorem Inv.call {g' : Array GenState} {t' : Nat} {d' : Drawn} {ch : List Addr} (I : Inv X pins σ H s) (u : Un (frs X.stack) ch H H' s.heap h') (hok : HOk X.prog X.w H' h') (hg : AllBare g')
    (hch : ∀ b ∈ ch, (b ∈ X.ex ∨ X.s₀.heap.objs.size ≤ b) ∧ b ≠ X.env.locals ∧ (∀ x c, X.env.cells.lookup x = some c → c ≠ b) ∧ ∀ p ∈ X.pn ++ pins, p.1 ≠ b) :
    Inv X pins σ H' { s with heap := h', gens := g', drawn := d', toks := t' } := by
  obtain ⟨m, ⟨o, es, ep, ho, r⟩, _⟩ := id I.loc
  obtain ⟨sl, hL⟩ := u.any ho I.free fun z => (hch _ z).2.1 rfl
  exact I.step (ch := ch) hch (fun b o hL hb hc e n => u.keep b o e n (fun z => (List.mem_cons.mp (I.stkSub b z)).elim hL hb) hc) (fun b o _ _ hc e n => u.any e n hc) (fun b o hc e n => u.free b o e n hc) (fun b o hc e => u.there b o e hc) u.tups u.frzs u.tbls (fun m' hm => by
    obtain ⟨o', es', ep', ho', r'⟩ := hm
    rw [ho] at ho'; cases ho'
    exact ⟨_, es', ep', hL, r'⟩) hok hg
theorem Inv.turned {t' : Nat} {it : Addr} (I : Inv X pins σ H s) (k : ∀ b o, b ≠ it → s.heap.get? b = some o → h'.get? b = some o) (hn : H it = none) (hL : it ≠ X.env.locals)
    (h1 : it ∈ X.ex ∨ X.s₀.heap.objs.size ≤ it) (h2 : ∀ x c, X.env.cells.lookup x = some c → c ≠ it) (h3 : ∀ p ∈ X.pn ++ pins, p.1 ≠ it) : Inv X pins σ H { s with heap := h', toks := t' } := by
  have nit : ∀ b u, H b = some u → b ≠ it := fun b u e z => by rw [z, hn] at e; cases e
  refine I.step (g' := s.gens) (d' := s.drawn) (ch := [it]) (fun b hb => ?_) (fun b o _ _ hc e _ => k b o (fun z => hc (by simp [z])) e) (fun b o _ _ hc e _ => ⟨o.slots, k b o (fun z => hc (by simp [z])) e⟩) (fun _ _ _ _ n => n)
    (fun b o hc e => ⟨o, k b o (fun z => hc (by simp [z])) e⟩) (fun _ _ e => e) (fun _ _ _ e => e) (fun b ps e => ⟨#[], by rw [e]; simp⟩) (fun m hm => ?_) (fun b u e => ?_) I.bare
  · have e : b = it := by simpa using hb
    subst e
    exact ⟨h1, hL, h2, h3⟩
  · obtain ⟨o, es, ep, ho, r⟩ := hm
    exact ⟨o, es, ep, k _ o (Ne.symm hL) ho, r⟩
  · refine (I.hok b u e).stay (fun c v hc q => k c v ?_ q) (fun _ q => q) fun _ _ q => q
    rcases hc with z | z
    · rw [z]; exact nit b u e
    · exact nit c _ z
theorem Inv.tok (I : Inv X pins σ H s) (t : Nat) : Inv X pins σ H { s with toks := t } := I.un (h' := s.heap) (t' := t) Un.refl I.hok
theorem Inv.kept {t' : Nat} (I : Inv X pins σ H s) (k : ∀ b u, s.heap.get? b = some u → h'.get? b = some u) : Inv X pins σ H { s with heap := h', toks := t' } := I.un (Un.kept k) (I.hok.kept k)
theorem Inv.laid {a : Addr} {o : HO} {t' : Nat} (I : Inv X pins σ H s) (k : ∀ b u, s.heap.get? b = some u → h'.get? b = some u) (hp : s.heap.objs.size ≤ a) (new : ObjOk X.prog X.w (upd H a o) h' a o) :
    Inv X pins σ (upd H a o) { s with heap := h', toks := t' } := I.un (Un.laid k hp (I.hok.fresh hp)) (I.hok.laid k hp new)
theorem Inv.write {x e : Addr} {o : HO} {t' : Nat} (I : Inv X pins σ H s) (mu : Mut (H x)) (he : e = x ∨ H e = some (.own x)) (k : ∀ b u, b ≠ e → s.heap.get? b = some u → h'.get? b = some u) (heo : ∃ u, h'.get? e = some u)
    (new : ObjOk X.prog X.w (upd H x o) h' x o) : Inv X pins σ (upd H x o) { s with heap := h', toks := t' } := I.un (Un.write mu he k heo) (I.hok.write mu he k heo new)
theorem Inv.pins_of {pins' : List (Addr × Obj)} (I : Inv X pins σ H s) (h : ∀ p ∈ pins', s.heap.get? p.1 = some p.2 ∧ H p.1 = none ∧ p.1 ≠ X.env.locals ∧ p.1 ∉ X.fs ∧ ∀ v, p.2.data ≠ .cell v) : Inv X pins' σ H s :=
  ⟨I.ok, I.os, I.bare, I.base, I.loc, I.cell, I.free, I.freeC, fun p hp => (List.mem_append.mp hp).elim (fun z => I.pin p (List.mem_append_left _ z)) (h p), I.hok, I.len⟩
theorem nodup_ix {N : List Str} (hN : N.Nodup) {i j : Nat} {x : Str} (a : N[i]? = some x) (b : N[j]? = some x) : i = j := by
  obtain ⟨h1, e1⟩ := List.getElem?_eq_some_iff.mp a
  obtain ⟨h2, e2⟩ := List.getElem?_eq_some_iff.mp b
  exact (List.getElem_inj hN).mp (e1.trans e2.symm)
theorem store_ok2 {M : Model} {A : Around} {E : Value → Shared → Prop} {i : Nat} {x : Str} {v : V} {u : Value} {Q : Unit → Shared → Prop} (I : Inv X pins σ H s) (hN : X.N.Nodup) (hi : X.N[i]? = some x) (hx : Loc X.env.scope x) (r : RelV v u)
    (h : ∀ s', Inv X pins (σ.set i (some v)) H s' → (∃ a, Heap.SameBut a s.heap s'.heap ∧ (a = X.env.locals ∨ X.env.cells.lookup x = some a)) → Q () s') (hf : X.fn x = true ∨ X.env.scope.names.lookup x = some .local := by first | exact .inl rfl | exact .inr rfl | assumption) : wpAny M A (storeName X.env x u) Q E s := by
  obtain ⟨m, hn, hl⟩ := id I.loc
  have hcls : (X.env.scope.kind == .class || (X.env.scope.kind == .module && X.env.locals != X.env.globals)) = false := by rw [I.ok.kind]; rfl
  have hiσ : i < σ.length := by rw [I.len]; exact (List.getElem?_eq_some_iff.mp hi).1
  have cne := I.cne
  have tracked : ∀ {a : Addr} {h' : Heap}, (∃ o, s.heap.get? a = some o ∧ H a = none) → Heap.SameBut a s.heap h' → HOk X.prog X.w H h' := fun {a h'} ha hs b ob e => by
    obtain ⟨_, _, hfree⟩ := ha
    refine (I.hok b ob e).stay (fun c w' hc q => (hs.2 c ?_).trans q) (fun _ q => q) fun _ _ q => q
    rintro rfl
    rcases hc with rfl | hc
    · rw [hfree] at e; cases e
    · rw [hfree] at hc; cases hc
  rcases hx with hk | hk
  · refine wpAny_storeName_local hk hn (fun h' hn' hs => ?_) hcls
    obtain ⟨oL, _, _, hoL, _⟩ := id hn
    refine h _ ⟨I.ok, I.os, I.bare, ⟨fun b o e n hb hx => ?_, fun b o e n hb hx => ?_, I.base.free, fun b o e hx => ?_, I.base.tups, I.base.frzs, I.base.tbls⟩, ⟨_, hn', fun j y v' e1 e2 e3 => ?_⟩, fun y c e => ?_, I.free, I.freeC, fun p hp => ?_, tracked ⟨oL, hoL, I.free⟩ hs, by simpa using I.len⟩ ⟨_, hs, .inl rfl⟩
    · exact (hs.2 b (Nat.ne_of_lt (Nat.lt_of_lt_of_le (Heap.lt_size e) I.ok.above))).trans (I.base.keep b o e n hb hx)
    · obtain ⟨sl, e1⟩ := I.base.slot b o e n hb hx
      exact ⟨sl, (hs.2 b (Nat.ne_of_lt (Nat.lt_of_lt_of_le (Heap.lt_size e) I.ok.above))).trans e1⟩
    · obtain ⟨o', e1⟩ := I.base.there b o e hx
      exact ⟨o', (hs.2 b (Nat.ne_of_lt (Nat.lt_of_lt_of_le (Heap.lt_size e) I.ok.above))).trans e1⟩
    · by_cases hj : j = i
      · subst hj
        rw [hi] at e1; cases e1
        rw [List.getElem?_set_self hiσ] at e2
        cases e2
        exact ⟨u, r, .inl ⟨hk, by simp⟩⟩
      · rw [List.getElem?_set_ne (Ne.symm hj)] at e2
        obtain ⟨u', r', q⟩ := hl j y v' e1 e2 e3
        refine ⟨u', r', ?_⟩
        rcases q with ⟨k, e⟩ | ⟨k, c, e, z⟩
        · refine .inl ⟨k, ?_⟩
          have : y ≠ x := fun e => hj (nodup_ix hN e1 (e ▸ hi))
          simp [this, e]
        · exact .inr ⟨k, c, e, z.sameBut hs (cne y c e)⟩
    · obtain ⟨w', z⟩ := I.cell y c e
      exact ⟨w', z.sameBut hs (cne y c e)⟩
    · obtain ⟨e, n, ne, nf, d⟩ := I.pin p hp
      exact ⟨(hs.2 p.1 ne).trans e, n, ne, nf, d⟩
  · have hfn : X.fn x = true := by
      rcases hf with z | z
      · exact z
      · rw [z] at hk; cases hk
    obtain ⟨c, hc⟩ := I.ok.has x (.inl hk)
    obtain ⟨w', z⟩ := I.cell x c hc
    refine wpAny_storeName_cell I.ok.kind hk hc z (fun h' hc' hs => ?_)
    obtain ⟨oc, hoc, hocd⟩ := id z
    refine h { s with heap := h' } ⟨I.ok, I.os, I.bare, ⟨fun b o e n hb hx => ?_, fun b o e n hb hx => ?_, I.base.free, fun b o e hx => ?_, I.base.tups, I.base.frzs, I.base.tbls⟩, ⟨m, hn.sameBut hs (Ne.symm (cne x c hc)), fun j y v' e1 e2 e3 => ?_⟩, fun y c' e => ?_, I.free, I.freeC, fun p hp => ?_, tracked ⟨oc, hoc, I.freeC x c hc⟩ hs, by simpa using I.len⟩ ⟨c, hs, .inr hc⟩
    · exact (hs.2 b (Nat.ne_of_lt (Nat.lt_of_lt_of_le (Heap.lt_size e) (I.ok.cab x c hfn hc)))).trans (I.base.keep b o e n hb hx)
    · obtain ⟨sl, e1⟩ := I.base.slot b o e n hb hx
      exact ⟨sl, (hs.2 b (Nat.ne_of_lt (Nat.lt_of_lt_of_le (Heap.lt_size e) (I.ok.cab x c hfn hc)))).trans e1⟩
    · obtain ⟨o', e1⟩ := I.base.there b o e hx
      exact ⟨o', (hs.2 b (Nat.ne_of_lt (Nat.lt_of_lt_of_le (Heap.lt_size e) (I.ok.cab x c hfn hc)))).trans e1⟩
    · by_cases hj : j = i
      · subst hj
        rw [hi] at e1; cases e1
        rw [List.getElem?_set_self hiσ] at e2
        cases e2
        exact ⟨u, r, .inr ⟨.inl hk, c, hc, hc'⟩⟩
      · rw [List.getElem?_set_ne (Ne.symm hj)] at e2
        obtain ⟨u', r', q⟩ := hl j y v' e1 e2 e3
        refine ⟨u', r', ?_⟩
        rcases q with q | ⟨k, c', e, z'⟩
        · exact .inl q
        · refine .inr ⟨k, c', e, z'.sameBut hs ?_⟩
          rintro rfl
          exact hj (nodup_ix hN e1 (I.ok.inj _ _ _ e hc ▸ hi))
    · by_cases hcc : c' = c
      · subst hcc; exact ⟨_, hc'⟩
      · obtain ⟨w2, z2⟩ := I.cell y c' e
        exact ⟨w2, z2.sameBut hs hcc⟩
    · obtain ⟨e, n, ne, nf, d⟩ := I.pin p hp
      refine ⟨(hs.2 p.1 ?_).trans e, n, ne, nf, d⟩
      intro q
      rw [q, hoc] at e
      have q' : oc = p.2 := Option.some.inj e
      exact d w' (by rw [← q']; exact hocd)
theorem store_ok {M : Model} {A : Around} {E : Value → Shared → Prop} {i : Nat} {x : Str} {v : V} {u : Value} {Q : Unit → Shared → Prop} (I : Inv X pins σ H s) (hN : X.N.Nodup) (hi : X.N[i]? = some x) (hx : Loc X.env.scope x) (r : RelV v u)
    (h : ∀ s', Inv X pins (σ.set i (some v)) H s' → Q () s') (hf : X.fn x = true ∨ X.env.scope.names.lookup x = some .local := by first | exact .inl rfl | exact .inr rfl | assumption) : wpAny M A (storeName X.env x u) Q E s :=
  store_ok2 I hN hi hx r (fun s' I' _ => h s' I') hf
theorem Inv.call' {s' : Shared} {ch : List Addr} (I : Inv X pins σ H s) (ho : s'.os = s.os) (u : Un (frs X.stack) ch H H' s.heap s'.heap) (hok : HOk X.prog X.w H' s'.heap) (hg : AllBare s'.gens)
    (hch : ∀ b ∈ ch, (b ∈ X.ex ∨ X.s₀.heap.objs.size ≤ b) ∧ b ≠ X.env.locals ∧ (∀ x c, X.env.cells.lookup x = some c → c ≠ b) ∧ ∀ p ∈ X.pn ++ pins, p.1 ≠ b) : Inv X pins σ H' s' := by
  obtain ⟨h', g', d', t', o'⟩ := s'
  have e : o' = s.os := ho
  subst e
  exact I.call (g' := g') (t' := t') (d' := d') u hok hg hch
end
abbrev XK := Value → Option Addr → Hp → Prop
abbrev St := List (Option V)
abbrev VK := V → Hp → Prop
abbrev TE := St → Hp → VK → Prop
abbrev TT := St → Hp → (Bool → Hp → Prop) → Prop
abbrev TA := St → Hp → (List V → Hp → Prop) → Prop
structure Ends where
  nx : St → Hp → Prop
  rt : VK
  bk : St → Hp → Prop := fun _ _ => False
  ct : St → Hp → Prop := fun _ _ => False
abbrev TS := Ends → St → Hp → Prop
def EP (X : Cx) (pins : List (Addr × Obj)) (σ : St) (Q : VK) (u : Value) (s' : Shared) : Prop := ∃ v H', Inv X pins σ H' s' ∧ RelV v u ∧ Q v H'
def TP (X : Cx) (pins : List (Addr × Obj)) (σ : St) (Q : Bool → Hp → Prop) (b : Bool) (s' : Shared) : Prop := ∃ H', Inv X pins σ H' s' ∧ Q b H'
def AP (X : Cx) (pins : List (Addr × Obj)) (σ : St) (Q : List V → Hp → Prop) (us : List Value) (s' : Shared) : Prop := ∃ vs H', Inv X pins σ H' s' ∧ Vals vs us ∧ Q vs H'
def SP (X : Cx) (pins : List (Addr × Obj)) (D : Ends) (f : Flow) (s' : Shared) : Prop :=
  match f with
  | .next => ∃ σ' H', Inv X pins σ' H' s' ∧ D.nx σ' H'
  | .brk => ∃ σ' H', Inv X pins σ' H' s' ∧ D.bk σ' H'
  | .cont => ∃ σ' H', Inv X pins σ' H' s' ∧ D.ct σ' H'
  | .ret u => ∃ v σ' H', Inv X pins σ' H' s' ∧ RelV v u ∧ D.rt v H'
def PE (X : Cx) (e : Expr) (t : TE) : Prop :=
  ∀ (pins : List (Addr × Obj)) (s : Shared) (σ : St) (H : Hp) (Q : VK), Inv X pins σ H s → t σ H Q → wpAny (model X.prog X.w) X.A (eval e X.env) (EP X pins σ Q) X.xe s
def PT (X : Cx) (e : Expr) (t : TT) : Prop :=
  ∀ (pins : List (Addr × Obj)) (s : Shared) (σ : St) (H : Hp) (Q : Bool → Hp → Prop), Inv X pins σ H s → t σ H Q → wpAny (model X.prog X.w) X.A (isTrue e X.env (eval e X.env)) (TP X pins σ Q) X.xe s
def PW (X : Cx) (e : Expr) (t : TT) : Prop :=
  ∀ (whole : Sem Value) (pins : List (Addr × Obj)) (s : Shared) (σ : St) (H : Hp) (Q : Bool → Hp → Prop), Inv X pins σ H s → t σ H Q → wpAny (model X.prog X.w) X.A (isTrue e X.env whole) (TP X pins σ Q) X.xe s
theorem PW.pt {X : Cx} {e : Expr} {t : TT} (h : PW X e t) : PT X e t := h _
def PA (X : Cx) (es : List Expr) (t : TA) : Prop :=
  ∀ (pos : Pos) (pins : List (Addr × Obj)) (s : Shared) (σ : St) (H : Hp) (Q : List V → Hp → Prop), Inv X pins σ H s → t σ H Q → wpAny (model X.prog X.w) X.A (spliced (backTo pos (starEach es X.env))) (AP X pins σ Q) X.xe s
def PS (X : Cx) (st : Stmt) (t : TS) : Prop :=
  ∀ (pins : List (Addr × Obj)) (s : Shared) (σ : St) (H : Hp) (D : Ends), Inv X pins σ H s → t D σ H → wpAny (model X.prog X.w) X.A (exec st X.env) (SP X pins D) X.xe s
def PSs (X : Cx) (st : List Stmt) (t : TS) : Prop :=
  ∀ (pins : List (Addr × Obj)) (s : Shared) (σ : St) (H : Hp) (D : Ends), Inv X pins σ H s → t D σ H → wpAny (model X.prog X.w) X.A (execs st X.env) (SP X pins D) X.xe s
theorem thn {α : Type} {t : Sem α} {Q Q' : α → Shared → Prop} {M : Model} {A : Around} {E : Value → Shared → Prop} {s : Shared} (h : wpAny M A t Q E s) (hQ : ∀ a s, Q a s → Q' a s) : wpAny M A t Q' E s := wpAny_mono h hQ fun _ _ x => x
end L2
namespace L2
open PySem PySem.Spec PyProof.Rows
section
variable {X : Cx}
theorem bin {a b : Expr} {ta tb : TE} (ha : PE X a ta) (hb : PE X b tb) {pins : List (Addr × Obj)} {s : Shared} {σ : St} {H : Hp} {R : V → V → Hp → Prop} (I : Inv X pins σ H s) (h : ta σ H fun x H1 => tb σ H1 fun y H2 => R x y H2)
    {α : Type} {Q : α → Shared → Prop} {f : Value → Value → Sem α}
    (hf : ∀ v u s2 x y H2, Inv X pins σ H2 s2 → RelV x v → RelV y u → R x y H2 → wpAny (model X.prog X.w) X.A (f v u) Q X.xe s2) :
    wpAny (model X.prog X.w) X.A (eval a X.env) (fun v s₁ => wpAny (model X.prog X.w) X.A (eval b X.env) (fun u s₂ => wpAny (model X.prog X.w) X.A (f v u) Q X.xe s₂) X.xe s₁) X.xe s := by
  refine thn (ha pins s σ H _ I h) fun v s1 ⟨x, H1, I1, r1, q1⟩ => ?_
  refine thn (hb pins s1 σ H1 _ I1 q1) fun u s2 ⟨y, H2, I2, r2, q2⟩ => ?_
  exact hf v u s2 x y H2 I2 r1 r2 q2
def tVar (i : Nat) : TE := fun σ H Q => ∃ v, σ[i]? = some (some v) ∧ Q v H
def tC (v : V) : TE := fun _ H Q => Q v H
theorem pe_var {i : Nat} {x : Str} {pos : Pos} (hN : X.N[i]? = some x) (hv : Vis X.env.scope x) (hd : (x == ("__debug__" : Str)) = false := by decide) (hcd : (x == ("__classdict__" : Str)) = false := by decide) : PE X (.Name x pos) (tVar i) := by
  intro pins s σ H Q I h
  obtain ⟨v, e, h⟩ := h
  obtain ⟨m, hn, hl⟩ := I.loc
  obtain ⟨u, r, l⟩ := hl i x v hN e hv
  have fin : EP X pins σ Q u s := ⟨v, H, I, r, h⟩
  rcases l with ⟨hk, hm⟩ | ⟨hk, c, hc, hcell⟩
  · exact wpAny_Name (wpAny_loadName_local I.ok.kind hk hn hm fin) hd
  · rcases hk with hk | hk
    · exact wpAny_Name (wpAny_loadName_cell I.ok.kind hk hc hcell fin) hd
    · exact wpAny_Name (wpAny_loadName_free I.ok.kind hk hc hcell fin hcd) hd
theorem pe_int {i j pos} : PE X (.Constant (.int i) j pos) (tC (.int i)) := fun _ _ _ H _ I h => wpAny_Constant_int ⟨.int i, H, I.tok _, ⟨_, rfl⟩, h⟩
theorem pe_bl {b j pos} : PE X (.Constant (.bool b) j pos) (tC (.bl b)) := fun _ _ _ H _ I h => Constant_bool ⟨.bl b, H, I, rfl, h⟩
theorem pe_non {j pos} : PE X (.Constant .none j pos) (tC .non) := fun _ _ _ H _ I h => Constant_none ⟨.non, H, I, rfl, h⟩
theorem pe_str {x j pos} : PE X (.Constant (.str x) j pos) (tC (.str x)) := fun _ _ _ H _ I h => Calls.Constant_str ⟨.str x, H, I.tok _, ⟨_, rfl⟩, h⟩
def Gl (X : Cx) (x : Str) : Prop := X.env.kindOf x = some .globalImplicit
theorem ld_glob {E : Value → Shared → Prop} {pins : List (Addr × Obj)} {s : Shared} {σ : St} {H : Hp} {x : Str} {u : Value} {pos : Pos} {Q : Value → Shared → Prop} (I : Inv X pins σ H s) (hg : Gl X x) (hm : X.mg x = some u) (h : Q u s)
    (hd : (x == ("__debug__" : Str)) = false := by decide) : wpAny (model X.prog X.w) X.A (eval (.Name x pos) X.env) Q E s :=
  Calls.Name_function_global I.ok.kind hg (Calls.loadGlobal_global (by rw [I.ok.glob]; exact I.mod.glob.keeps I.bk) hm h) hd
theorem ld_blt {E : Value → Shared → Prop} {pins : List (Addr × Obj)} {s : Shared} {σ : St} {H : Hp} {x : Str} {u : Value} {pos : Pos} {Q : Value → Shared → Prop} (I : Inv X pins σ H s) (hg : Gl X x) (hm : X.mg x = none) (hv : bootBuiltins x = some u) (h : Q u s)
    (hn : x ≠ "__name__" := by decide) (hd : (x == ("__debug__" : Str)) = false := by decide) : wpAny (model X.prog X.w) X.A (eval (.Name x pos) X.env) Q E s := by
  obtain ⟨mb, h1, h2⟩ := I.mod.blt
  exact Calls.Name_function_global I.ok.kind hg (Calls.loadGlobal_builtin (by rw [I.ok.glob]; exact I.mod.glob.keeps I.bk) hm (by rw [I.ok.blt]; exact h1.keeps I.bk) ((h2 x hn).trans hv) h) hd
theorem pe_bltn {x : Str} {v : V} {u : Value} {pos : Pos} (hg : Gl X x) (hm : X.mg x = none) (hv : bootBuiltins x = some u) (r : RelV v u) (hn : x ≠ "__name__" := by decide) (hd : (x == ("__debug__" : Str)) = false := by decide) : PE X (.Name x pos) (tC v) :=
  fun _ _ _ H _ I h => ld_blt I hg hm hv ⟨v, H, I, r, h⟩ hn hd
variable {a b : Expr} {ta tb : TE} {pos : Pos}
def PC (X : Cx) (op : CmpOp) (a b : Expr) (t : TE) : Prop :=
  ∀ (pins : List (Addr × Obj)) (s : Shared) (σ : St) (H : Hp) (Q : VK), Inv X pins σ H s → t σ H Q →
    wpAny (model X.prog X.w) X.A (eval a X.env) (fun v s₁ => wpAny (model X.prog X.w) X.A (eval b X.env) (fun u s₂ => wpAny (model X.prog X.w) X.A (compareOp op v u) (EP X pins σ Q) X.xe s₂) X.xe s₁) X.xe s
theorem nobehind (b : Expr) {op : CmpOp} (h : op ≠ .In) (h2 : op ≠ .NotIn) : behindInMarks op b = false := by
  have e1 : (op == CmpOp.In) = false := by cases op <;> first | rfl | exact absurd rfl h
  have e2 : (op == CmpOp.NotIn) = false := by cases op <;> first | rfl | exact absurd rfl h2
  cases b <;> simp [behindInMarks, e1, e2]
def tIsN (ta : TE) : TE := fun σ H Q => ta σ H fun x H1 => Q (.bl (decide (x = .non))) H1
def tNotN (ta : TE) : TE := fun σ H Q => ta σ H fun x H1 => Q (.bl (!decide (x = .non))) H1
theorem RelV.none_iff {x : V} {v : Value} (r : RelV x v) : (v == Value.none) = decide (x = .non) := by
  cases x with
  | non => cases r; rfl
  | bl _ => cases r; rfl
  | int _ => obtain ⟨t, rfl⟩ := r; rfl
  | str _ => obtain ⟨t, rfl⟩ := r; rfl
  | byt _ => obtain ⟨t, rfl⟩ := r; rfl
  | flt _ => obtain ⟨t, rfl⟩ := r; rfl
  | ref _ => cases r; rfl
  | ty _ => cases r; rfl
theorem pc_isN {j pos'} (ha : PE X a ta) : PC X .Is a (.Constant .none j pos') (tIsN ta) := by
  intro pins s σ H Q I h
  refine thn (ha pins s σ H _ I h) fun v s1 ⟨x, H1, I1, r1, q1⟩ => ?_
  exact Constant_none (is_none_gen ⟨.bl _, H1, I1, by rw [r1.none_iff]; rfl, q1⟩)
theorem pc_notN {j pos'} (ha : PE X a ta) : PC X .IsNot a (.Constant .none j pos') (tNotN ta) := by
  intro pins s σ H Q I h
  refine thn (ha pins s σ H _ I h) fun v s1 ⟨x, H1, I1, r1, q1⟩ => ?_
  exact Constant_none (isnot_none_gen ⟨.bl _, H1, I1, by rw [r1.none_iff]; rfl, q1⟩)
def tB (t : TE) : TT := fun σ H Q => t σ H fun x H1 => ∃ c, x = .bl c ∧ Q c H1
theorem pe_cmp {op : CmpOp} {t : TE} (h : PC X op a b t) (h1 : behindInMarks op b = false := by first | exact nobehind _ (by decide) (by decide) | rfl) : PE X (.Compare a [op] [b] pos) t := fun pins s σ H Q I hw => wpAny_Compare1 (h pins s σ H Q I hw) h1
theorem pt_cmp {op : CmpOp} {t : TE} (h : PC X op a b t) (h1 : behindInMarks op b = false := by first | exact nobehind _ (by decide) (by decide) | rfl) : PT X (.Compare a [op] [b] pos) (tB t) := by
  intro pins s σ H Q I hw
  refine wpAny_isTrue_Compare1 (thn (h pins s σ H _ I hw) fun v s1 h1 => thn h1 fun u s2 h2 => thn h2 fun c s3 ⟨x, H1, I1, r1, q1⟩ => ?_) h1
  obtain ⟨d, rfl, q⟩ := q1
  cases r1
  exact wpAny_truthy_bool ⟨H1, I1, q⟩
theorem pt_val {e : Expr} {t : TE} (h : PE X e t) (he : ∀ whole, isTrue e X.env whole = (do let v ← whole; standAt e.pos; holding [v] (truthy v)) := by intro _; rfl) : PT X e (tB t) := by
  intro pins s σ H Q I hw
  refine isTrue_plain (thn (h pins s σ H _ I hw) fun v s1 ⟨x, H1, I1, r1, q1⟩ => ?_) (he _)
  obtain ⟨d, rfl, q⟩ := q1
  cases r1
  exact wpAny_truthy_bool ⟨H1, I1, q⟩
variable {tA tB' : TT} {rest : List Expr}
def tAnd (t u : TT) : TT := fun σ H Q => t σ H fun c H1 => if c = true then u σ H1 Q else Q false H1
def tOr (t u : TT) : TT := fun σ H Q => t σ H fun c H1 => if c = true then Q true H1 else u σ H1 Q
def tNot (t : TT) : TT := fun σ H Q => t σ H fun c H1 => Q (!c) H1
theorem pw_and1 (ha : PT X a tA) : PW X (.BoolOp .And [a] pos) tA := by
  intro wh pins s σ H Q I h
  refine isTrue_and (thn (ha pins s σ H Q I h) fun c s1 e => ?_)
  cases c with
  | true => exact isTrue_and_nil e
  | false => exact e
theorem pw_or1 (ha : PT X a tA) : PW X (.BoolOp .Or [a] pos) tA := by
  intro wh pins s σ H Q I h
  refine isTrue_or (thn (ha pins s σ H Q I h) fun c s1 e => ?_)
  cases c with
  | false => exact isTrue_or_nil e
  | true => exact e
theorem pw_and (ha : PT X a tA) (hb : PW X (.BoolOp .And (b :: rest) pos) tB') : PW X (.BoolOp .And (a :: b :: rest) pos) (tAnd tA tB') := by
  intro wh pins s σ H Q I h
  refine isTrue_and (thn (ha pins s σ H _ I h) fun c s1 ⟨H1, I1, q1⟩ => ?_)
  cases c with
  | true => exact hb wh pins s1 σ H1 Q I1 q1
  | false => exact ⟨H1, I1, q1⟩
theorem pw_or (ha : PT X a tA) (hb : PW X (.BoolOp .Or (b :: rest) pos) tB') : PW X (.BoolOp .Or (a :: b :: rest) pos) (tOr tA tB') := by
  intro wh pins s σ H Q I h
  refine isTrue_or (thn (ha pins s σ H _ I h) fun c s1 ⟨H1, I1, q1⟩ => ?_)
  cases c with
  | true => exact ⟨H1, I1, q1⟩
  | false => exact hb wh pins s1 σ H1 Q I1 q1
theorem pt_not (ha : PT X a tA) : PT X (.UnaryOp .Not a pos) (tNot tA) := by
  intro pins s σ H Q I h
  exact isTrue_not (ha pins s σ H (fun c H1 => Q (!c) H1) I h)
def tAndV (ta tb : TE) : TE := fun σ H Q => ta σ H fun x H1 => ∃ c, x = .bl c ∧ if c = true then tb σ H1 Q else Q (.bl false) H1
def tNotV (ta : TE) : TE := fun σ H Q => ta σ H fun x H1 => ∃ c, x = .bl c ∧ Q (.bl (!c)) H1
theorem pe_one {op} {t : TE} (h : PE X a t) : PE X (.BoolOp op [a] pos) t := fun pins s σ H Q I hw => BoolOp_one (h pins s σ H Q I hw)
theorem pe_and (ha : PE X a ta) (hb : PE X (.BoolOp .And (b :: rest) pos) tb) : PE X (.BoolOp .And (a :: b :: rest) pos) (tAndV ta tb) := by
  intro pins s σ H Q I h
  refine BoolOp_and (thn (ha pins s σ H _ I h) fun v s1 ⟨x, H1, I1, r1, q1⟩ => ?_)
  obtain ⟨c, rfl, q1⟩ := q1
  cases r1
  refine wpAny_truthy_bool ?_
  cases c with
  | true => exact hb pins s1 σ H1 Q I1 q1
  | false => exact ⟨.bl false, H1, I1, rfl, q1⟩
theorem pe_not (ha : PE X a ta) : PE X (.UnaryOp .Not a pos) (tNotV ta) := by
  intro pins s σ H Q I h
  refine UnaryOp_ (thn (ha pins s σ H _ I h) fun v s1 ⟨x, H1, I1, r1, q1⟩ => ?_)
  obtain ⟨c, rfl, q1⟩ := q1
  cases r1
  exact not_of (wpAny_truthy_bool ⟨.bl (!c), H1, I1, rfl, q1⟩)
def tIf (t : TT) (ta tb : TE) : TE := fun σ H Q => t σ H fun c H1 => if c = true then ta σ H1 Q else tb σ H1 Q
theorem pe_ifExp {c : Expr} (hc : PT X c tA) (ha : PE X a ta) (hb : PE X b tb) : PE X (.IfExp c a b pos) (tIf tA ta tb) := by
  intro pins s σ H Q I h
  refine wpAny_IfExp (thn (hc pins s σ H _ I h) fun d s1 ⟨H1, I1, q1⟩ => ?_)
  cases d with
  | true => exact ha pins s1 σ H1 Q I1 q1
  | false => exact hb pins s1 σ H1 Q I1 q1
end
end L2
namespace L2
open PySem PySem.Spec PyProof.Rows
def SqL (K : PySem.W.Frag) (H : Hp) (a : Addr) (xs : List V) : Prop :=
  Rd H a (.lst xs) ∨
    ∃ (o : Obj) (its : Array Value) (n : Nat), K.lookup a = some o ∧ o.cls = .type "list" ∧ o.dict = none ∧ o.data = .seq its n ∧ its.size ≤ sizeLine ∧ Vals xs its.toList
def SqT (K : PySem.W.Frag) (H : Hp) (a : Addr) (xs : List V) : Prop :=
  Rd H a (.tup xs) ∨
    ∃ (o : Obj) (its : Array Value) (n : Nat), K.lookup a = some o ∧ o.cls = .type "tuple" ∧ o.data = .seq its n ∧ its.size ≤ sizeLine ∧ Vals xs its.toList
def absV : Value → Option V
  | .none => some .non
  | .bool b => some (.bl b)
  | .int i _ => some (.int i)
  | .str x _ => some (.str x)
  | .bytes b _ => some (.byt b)
  | .float b _ => some (.flt b)
  | .ref a => some (.ref a)
  | .type n => some (.ty n)
  | _ => none
theorem RelV.abs {x : V} {u : Value} (r : RelV x u) : absV u = some x := by
  cases x with
  | non => cases r; rfl
  | bl _ => cases r; rfl
  | int _ => obtain ⟨t, rfl⟩ := r; rfl
  | str _ => obtain ⟨t, rfl⟩ := r; rfl
  | byt _ => obtain ⟨t, rfl⟩ := r; rfl
  | flt _ => obtain ⟨t, rfl⟩ := r; rfl
  | ref _ => cases r; rfl
  | ty _ => cases r; rfl
theorem RelV.inj {x y : V} {u : Value} (r : RelV x u) (q : RelV y u) : x = y := Option.some.inj (r.abs.symm.trans q.abs)
theorem Vals.inj : ∀ {xs ys : List V} {us : List Value}, Vals xs us → Vals ys us → xs = ys
  | _, _, _, .nil, .nil => rfl
  | _, _, _, .cons r t, .cons r' t' => by rw [r.inj r', Vals.inj t t']
section
variable {X : Cx} {pins : List (Addr × Obj)} {σ : St} {H : Hp} {s : Shared} {a : Addr} {xs ys : List V}
theorem Inv.list (I : Inv X pins σ H s) (h : SqL X.K H a xs) : ∃ its : List Value, Vals xs its ∧ PlainL s.heap a its.toArray ∧ xs.length ≤ sizeLine := by
  rcases h with h | ⟨o, its, n, hk, hc, hd, hs, hz, r⟩
  · obtain ⟨z, its, n, r, e⟩ := h.ok I.hok
    exact ⟨its, r, ⟨_, n, e, rfl, rfl, rfl⟩, z⟩
  · refine ⟨its.toList, r, ⟨o, n, I.kIn a o hk, hc, hd, by simpa using hs⟩, ?_⟩
    have e := r.length
    simp only [Array.length_toList] at e
    omega
theorem Inv.tuple (I : Inv X pins σ H s) (h : SqT X.K H a xs) : ∃ its : List Value, Vals xs its ∧ IsTup s.heap a its.toArray ∧ xs.length ≤ sizeLine := by
  rcases h with h | ⟨o, its, n, hk, hc, hs, hz, r⟩
  · obtain ⟨z, its, r, p⟩ := h.ok I.hok
    exact ⟨its, r, p, z⟩
  · refine ⟨its.toList, r, ⟨o, I.kIn a o hk, hc, n, by simpa using hs⟩, ?_⟩
    have e := r.length
    simp only [Array.length_toList] at e
    omega
theorem Inv.list_inj (I : Inv X pins σ H s) (h : SqL X.K H a xs) (h' : SqL X.K H a ys) : xs = ys := by
  obtain ⟨its, r, ⟨o, n, e, _, _, d⟩, _⟩ := I.list h
  obtain ⟨its', r', ⟨o', n', e', _, _, d'⟩, _⟩ := I.list h'
  rw [e] at e'; cases e'
  rw [d] at d'
  injection d' with d1 _
  have : its = its' := by simpa using congrArg Array.toList d1
  subst this
  exact r.inj r'
theorem Inv.tuple_inj (I : Inv X pins σ H s) (h : SqT X.K H a xs) (h' : SqT X.K H a ys) : xs = ys := by
  obtain ⟨its, r, ⟨o, e, _, n, d⟩, _⟩ := I.tuple h
  obtain ⟨its', r', ⟨o', e', _, n', d'⟩, _⟩ := I.tuple h'
  rw [e] at e'; cases e'
  rw [d] at d'
  injection d' with d1 _
  have : its = its' := by simpa using congrArg Array.toList d1
  subst this
  exact r.inj r'
end
abbrev Cx.wish (X : Cx) (E : Value → Shared → Prop) : Cx := { X with xe := E }
abbrev Cx.nox (X : Cx) : Cx := X.wish fun _ _ => False
theorem Cx.Ok.wish {X : Cx} (ok : X.Ok) (E : Value → Shared → Prop) : (X.wish E).Ok :=
  ⟨ok.mod, ok.kind, ok.glob, ok.blt, ok.above, ok.inj, ok.has, ok.cab, ok.hd, ok.frames, ok.stk, ok.exf, ok.bs, ok.bsz, ok.noex, ok.exfs, ok.funs, ok.frf⟩
theorem Cx.Ok.unwish {X : Cx} {E : Value → Shared → Prop} (ok : (X.wish E).Ok) : X.Ok :=
  ⟨ok.mod, ok.kind, ok.glob, ok.blt, ok.above, ok.inj, ok.has, ok.cab, ok.hd, ok.frames, ok.stk, ok.exf, ok.bs, ok.bsz, ok.noex, ok.exfs, ok.funs, ok.frf⟩
section
variable {X : Cx} {pins : List (Addr × Obj)} {σ : St} {H : Hp} {s : Shared} {E : Value → Shared → Prop}
theorem Inv.wish (I : Inv X pins σ H s) (E : Value → Shared → Prop) : Inv (X.wish E) pins σ H s := ⟨I.ok.wish E, I.os, I.bare, I.base, I.loc, I.cell, I.free, I.freeC, I.pin, I.hok, I.len⟩
theorem Inv.unwish (I : Inv (X.wish E) pins σ H s) : Inv X pins σ H s := ⟨I.ok.unwish, I.os, I.bare, I.base, I.loc, I.cell, I.free, I.freeC, I.pin, I.hok, I.len⟩
theorem SP.unwish {D : Ends} {f : Flow} {s' : Shared} (h : SP (X.wish E) pins D f s') : SP X pins D f s' := by
  cases f with
  | next => obtain ⟨σ', H', I, q⟩ := h; exact ⟨σ', H', I.unwish, q⟩
  | brk => obtain ⟨σ', H', I, q⟩ := h; exact ⟨σ', H', I.unwish, q⟩
  | cont => obtain ⟨σ', H', I, q⟩ := h; exact ⟨σ', H', I.unwish, q⟩
  | ret u => obtain ⟨v, σ', H', I, r, q⟩ := h; exact ⟨v, σ', H', I.unwish, r, q⟩
theorem PSs.nox {st : List Stmt} {t : TS} (h : PSs X.nox st t) : PSs X st t := fun pins s σ H D I hw =>
  wpAny_mono (h pins s σ H D (I.wish _) hw) (fun _ _ q => q.unwish) fun _ _ z => False.elim z
end
section
variable {X : Cx} {st : Stmt} {rest : List Stmt} {t u : TS} {e : Expr} {te : TE} {pos : Pos}
def tNext : TS := fun D σ H => D.nx σ H
def tSeq (t u : TS) : TS := fun D σ H => t { D with nx := u D } σ H
theorem pss_nil : PSs X [] tNext := fun _ _ σ H _ I h => wpAny_execs_nil ⟨σ, H, I, h⟩
theorem pss_cons (h1 : PS X st t) (h2 : PSs X rest u) : PSs X (st :: rest) (tSeq t u) := by
  intro pins s σ H D I h
  refine wpAny_execs_cons (thn (h1 pins s σ H { D with nx := u D } I h) fun f s1 q => ?_)
  cases f with
  | next =>
    obtain ⟨σ', H', I', q⟩ := q
    exact h2 pins s1 σ' H' D I' q
  | ret v => exact q
  | brk => exact q
  | cont => exact q
theorem pss_one (h1 : PS X st t) : PSs X [st] t := by
  intro pins s σ H D I h
  refine wpAny_execs_cons (thn (h1 pins s σ H D I h) fun f s1 q => ?_)
  cases f with
  | next => exact wpAny_execs_nil q
  | ret v => exact q
  | brk => exact q
  | cont => exact q
theorem Inv.quiet {pins : List (Addr × Obj)} {σ : St} {H : Hp} {s : Shared} (I : Inv X pins σ H s) : interactive X.env = false := by simp [interactive, I.ok.kind]
def tDrop (te : TE) : TS := fun D σ H => te σ H fun _ H1 => D.nx σ H1
theorem ps_expr (he : PE X e te) (hs : swapsWith e none pos.line X.env = pure false := by rfl) : PS X (.Expr e pos) (tDrop te) := by
  intro pins s σ H D I h
  exact wpAny_Expr_any (thn (he pins s σ H _ I h) fun v s1 ⟨x, H1, I1, r1, q1⟩ => ⟨σ, H1, I1, q1⟩) I.quiet hs
def tRet (te : TE) : TS := fun D σ H => te σ H D.rt
theorem ps_ret (he : PE X e te) : PS X (.Return (some e) pos) (tRet te) := by
  intro pins s σ H D I h
  exact wpAny_Return_some (thn (he pins s σ H _ I h) fun v s1 ⟨x, H1, I1, r1, q1⟩ => ⟨x, σ, H1, I1, r1, q1⟩)
def tIfS (c : TT) (t u : TS) : TS := fun D σ H => c σ H fun b H1 => if b = true then t D σ H1 else u D σ H1
theorem ps_if {c : Expr} {a b : List Stmt} {tc : TT} (hc : PT X c tc) (ha : PSs X a t) (hb : PSs X b u) : PS X (.If c a b pos) (tIfS tc t u) := by
  intro pins s σ H D I h
  refine wpAny_If (thn (hc pins s σ H _ I h) fun d s1 ⟨H1, I1, q1⟩ => ?_)
  cases d with
  | true => exact ha pins s1 σ H1 D I1 q1
  | false => exact hb pins s1 σ H1 D I1 q1
def tNever : TS := fun _ _ _ => False
theorem ps_never : PS X st tNever := fun _ _ _ _ _ _ h => h.elim
end
abbrev TG := V → St → Hp → (St → Hp → Prop) → Prop
abbrev TGs := List V → St → Hp → (St → Hp → Prop) → Prop
def PG (X : Cx) (target : Expr) (t : TG) : Prop :=
  ∀ (pins : List (Addr × Obj)) (s : Shared) (σ : St) (H : Hp) (v : V) (u : Value) (Q : St → Hp → Prop), Inv X pins σ H s → RelV v u → t v σ H Q →
    wpAny (model X.prog X.w) X.A (assign target X.env u) (fun _ s' => ∃ σ' H', Inv X pins σ' H' s' ∧ Q σ' H') X.xe s
def PGs (X : Cx) (ts : List Expr) (t : TGs) : Prop :=
  ∀ (pins : List (Addr × Obj)) (s : Shared) (σ : St) (H : Hp) (vs : List V) (us : List Value) (Q : St → Hp → Prop), Inv X pins σ H s → Vals vs us → t vs σ H Q →
    wpAny (model X.prog X.w) X.A (assignInOrder ((assignEach ts X.env).map (·.2)) us) (fun _ s' => ∃ σ' H', Inv X pins σ' H' s' ∧ Q σ' H') X.xe s
section
variable {X : Cx} {pos : Pos}
def gName (i : Nat) : TG := fun v σ H Q => Q (σ.set i (some v)) H
theorem pg_name {i : Nat} {x : Str} (hN : X.N.Nodup) (hi : X.N[i]? = some x) (hx : Loc X.env.scope x) (hf : X.fn x = true ∨ X.env.scope.names.lookup x = some .local := by first | exact .inl rfl | exact .inr rfl | assumption) : PG X (.Name x pos) (gName i) := by
  intro pins s σ H v u Q I r h
  exact wpAny_assign_Name (store_ok I hN hi hx r (fun s' I' => ⟨_, H, I', h⟩) hf)
def gNil : TGs := fun vs σ H Q => vs = [] ∧ Q σ H
def gCons (t : TG) (u : TGs) : TGs := fun vs σ H Q => ∃ v r, vs = v :: r ∧ t v σ H fun σ' H' => u r σ' H' Q
theorem pgs_nil : PGs X [] gNil := by
  intro pins s σ H vs us Q I r h
  obtain ⟨e, h⟩ := h
  subst e
  cases r
  exact assignInOrder_nil ⟨σ, H, I, h⟩
theorem pgs_cons {e : Expr} {es : List Expr} {t : TG} {u : TGs} (h1 : PG X e t) (h2 : PGs X es u)
    (hs : (assignEach (e :: es) X.env).map (·.2) = assign e X.env :: (assignEach es X.env).map (·.2) := by rfl) : PGs X (e :: es) (gCons t u) := by
  intro pins s σ H vs us Q I r h
  obtain ⟨v, vr, e1, h⟩ := h
  subst e1
  cases r with
  | cons r rr =>
    rw [hs]
    refine assignInOrder_cons (thn (h1 pins s σ H _ _ _ I r h) fun _ s1 ⟨σ1, H1, I1, q1⟩ => ?_)
    exact h2 pins s1 σ1 H1 _ _ Q I1 rr q1
def gTup (K : PySem.W.Frag) (n : Nat) (t : TGs) : TG := fun v σ H Q => ∃ a xs, v = .ref a ∧ SqT K H a xs ∧ xs.length = n ∧ t xs σ H Q
theorem pg_tup {es : List Expr} {k : Nat} {t : TGs} {n : Nat} (hc : X.calm = true) (h : PGs X es t)
    (hn : (assignEach es X.env).length = n := by rfl) (hst : (assignEach es X.env).findIdx? (·.1) = none := by rfl) : PG X (.Tuple es k pos) (gTup X.K n t) := by
  intro pins s σ H v u Q I r hw
  obtain ⟨a, xs, e1, hq, hl, hw⟩ := hw
  subst e1
  cases r
  obtain ⟨its, rv, ht, hz⟩ := I.tuple hq
  refine assign_Tuple_tuple (I.ok.hd hc) ht (by simp [hn, ← hl, rv.length]) hst fun h' hx => ?_
  have I1 : Inv X pins σ H { s with heap := h' } := I.kept (t' := s.toks) fun b o e => hx b o (Nat.ne_of_lt (Heap.lt_size e)) e
  exact h pins _ σ H xs _ Q I1 (by simpa using rv) hw
def tAsg (te : TE) (g : TG) : TS := fun D σ H => te σ H fun x H1 => g x σ H1 D.nx
theorem ps_asg {tg e : Expr} {te : TE} {g : TG} (he : PE X e te) (hg : PG X tg g) (hs : swapsWithSole [tg] e pos.line X.env = pure false := by rfl) (hw : swappedStores [tg] e X.env = pure none := by rfl)
    (h1 : (assignEach [tg] X.env).map (·.2) = [assign tg X.env] := by rfl) : PS X (.Assign [tg] e pos) (tAsg te g) := by
  intro pins s σ H D I h
  refine wpAny_Assign_stores (thn (he pins s σ H _ I h) fun v s1 ⟨x, H1, I1, r1, q1⟩ => ?_) hs hw
  rw [h1]
  exact thn (hg pins s1 σ H1 x v _ I1 r1 q1) fun _ s2 q => q
theorem ps_set {i : Nat} {x : Str} {e : Expr} {te : TE} {pos' : Pos} (hN : X.N.Nodup) (hi : X.N[i]? = some x) (hx : Loc X.env.scope x) (he : PE X e te) (hs : swapsWith e (some (.Name x pos')) pos.line X.env = pure false := by rfl) (hf : X.fn x = true ∨ X.env.scope.names.lookup x = some .local := by first | exact .inl rfl | exact .inr rfl | assumption) :
    PS X (.Assign [.Name x pos'] e pos) (tAsg te (gName i)) := by
  intro pins s σ H D I h
  refine wpAny_Assign_Name (thn (he pins s σ H _ I h) fun v s1 ⟨y, H1, I1, r1, q1⟩ => ?_) hs
  exact store_ok I1 hN hi hx r1 (fun s2 I2 => ⟨_, H1, I2, q1⟩) hf
end
section
variable {X : Cx} {pos : Pos}
def tWhile (c : TT) (tb : TS) : TS := fun D σ H => ∃ W : Nat → St → Hp → Prop, (∃ m, W m σ H) ∧ ∀ m σ H, W m σ H →
  c σ H fun b H1 => if b = true then ∃ N : St → Hp → Prop, (∀ σ' H', N σ' H' → ∃ m', m' < m ∧ W m' σ' H') ∧ tb { D with nx := N, ct := N, bk := D.nx } σ H1 else D.nx σ H1
theorem ps_while {c : Expr} {body : List Stmt} {tc : TT} {tb : TS} (hp : PassesOwn (model X.prog X.w) X.A X.env X.xe) (hc : PT X c tc) (hb : PSs X body tb) : PS X (.While c body [] pos) (tWhile tc tb) := by
  intro pins s σ H D I h
  obtain ⟨W, ⟨m0, w0⟩, turn⟩ := h
  refine wpAny_While (codeAny_whileLoop (fun n s' => ∃ σ' H', Inv X pins σ' H' s' ∧ W n σ' H') ?_ m0 ⟨σ, H, I, w0⟩)
  rintro n s1 ⟨σ1, H1, I1, w1⟩
  refine wpAny_passesOwn hp (thn (hc pins s1 σ1 H1 _ I1 (turn n σ1 H1 w1)) fun b s2 ⟨H2, I2, q2⟩ => ?_)
  cases b with
  | true =>
    obtain ⟨N, hN, q2⟩ := q2
    rw [if_pos rfl]
    refine wpAny_passesOwn hp (thn (hb pins s2 σ1 H2 _ I2 q2) fun f s3 q3 => ?_)
    cases f with
    | next =>
      obtain ⟨σ3, H3, I3, n3⟩ := q3
      obtain ⟨m', hm, w3⟩ := hN σ3 H3 n3
      exact ⟨m', hm, σ3, H3, I3, w3⟩
    | cont =>
      obtain ⟨σ3, H3, I3, n3⟩ := q3
      obtain ⟨m', hm, w3⟩ := hN σ3 H3 n3
      exact ⟨m', hm, σ3, H3, I3, w3⟩
    | brk => exact q3
    | ret v => exact q3
  | false =>
    rw [if_neg Bool.false_ne_true]
    exact wpAny_execs_nil ⟨σ1, H2, I2, q2⟩
end
structure It where
  go : Nat → Hp → Prop
  yld : Nat → Hp → V → Hp → Prop
  stop : Nat → Hp → Prop
def FpOk (X : Cx) (pins : List (Addr × Obj)) (H : Hp) (b : Addr) : Prop :=
  H b = none ∧ b ≠ X.env.locals ∧ b ∉ X.fs ∧ (b ∈ X.ex ∨ X.s₀.heap.objs.size ≤ b) ∧ (∀ x c, X.env.cells.lookup x = some c → c ≠ b) ∧ ∀ p ∈ X.pn ++ pins, p.1 ≠ b
theorem Inv.fpOk {X : Cx} {pins : List (Addr × Obj)} {σ : St} {H H' : Hp} {s : Shared} {b : Addr} (I : Inv X pins σ H s) (hb : s.heap.objs.size ≤ b) (hn : H' b = none) : FpOk X pins H' b := by
  refine ⟨hn, Nat.ne_of_gt (Nat.lt_of_lt_of_le I.lt hb), I.nofs hb, .inr (Nat.le_trans I.sz hb), fun x c e z => ?_, fun p hp z => ?_⟩
  · obtain ⟨v, q⟩ := I.cell x c e
    exact absurd (Nat.lt_of_lt_of_le q.lt (by rw [z]; exact hb)) (Nat.lt_irrefl _)
  · exact absurd (Nat.lt_of_lt_of_le (Heap.lt_size (I.pin p hp).1) (by rw [z]; exact hb)) (Nat.lt_irrefl _)
structure Turn (P : Program) (w : World) (K : PySem.W.Frag) (tg : Expr) (J : It) (fp : List Addr) (it : Addr) (tn : Nat → Heap → Prop) : Prop where
  mem : it ∈ fp
  obj : ∀ i h, tn i h → ∀ b ∈ fp, ∃ o, h.get? b = some o ∧ ∀ v, o.data ≠ .cell v
  keep : ∀ i h h', tn i h → (∀ b ∈ fp, ∀ o, h.get? b = some o → h'.get? b = some o) → tn i h'
  item : ∀ (X : Cx), X.prog = P → X.w = w → X.K = K → X.calm = true → ∀ (i : Nat) (pins : List (Addr × Obj)) (s : Shared) (σ : St) (H : Hp) (E : Value → Shared → Prop), Inv X pins σ H s → (∀ b ∈ fp, FpOk X pins H b) → tn i s.heap → J.go i H →
    wpAny (model P w) X.A (pyNext (.ref it)) (fun r s1 => ∃ u, r = some u ∧
      wpAny (model P w) X.A (letOwnedTupleGo tg (.ref it) u) (fun _ s2 => ∃ x H', Inv X pins σ H' s2 ∧ RelV x u ∧ J.yld i H x H' ∧ tn (i + 1) s2.heap ∧ ∀ b ∈ fp, H' b = none) E s1) E s
  done : ∀ (X : Cx), X.prog = P → X.w = w → X.K = K → X.calm = true → ∀ (i : Nat) (pins : List (Addr × Obj)) (s : Shared) (σ : St) (H : Hp) (E : Value → Shared → Prop), Inv X pins σ H s → (∀ b ∈ fp, FpOk X pins H b) → tn i s.heap → J.stop i H →
    wpAny (model P w) X.A (pyNext (.ref it)) (fun r s1 => r = none ∧ Inv X pins σ H s1) E s
  self : ∀ (A : Around) (i : Nat) (s : Shared) (Q : Value → Shared → Prop) (E : Value → Shared → Prop), tn i s.heap → Q (.ref it) s → wpAny (model P w) A (pyIter (.ref it)) Q E s
abbrev TI := St → Hp → (It → Hp → Prop) → Prop
def PIE (X : Cx) (pins : List (Addr × Obj)) (σ : St) (tg : Expr) (R : It → Hp → Prop) (itv : Value) (s2 : Shared) : Prop :=
  ∃ (it : Addr) (fp : List Addr) (tn : Nat → Heap → Prop) (J : It) (H' : Hp), itv = .ref it ∧ Inv X pins σ H' s2 ∧ Turn X.prog X.w X.K tg J fp it tn ∧ tn 0 s2.heap ∧ (∀ b ∈ fp, FpOk X pins H' b) ∧ R J H'
def PI (X : Cx) (tg iter : Expr) (wi : TI) : Prop :=
  ∀ (pins : List (Addr × Obj)) (s : Shared) (σ : St) (H : Hp) (R : It → Hp → Prop), Inv X pins σ H s → wi σ H R →
    wpAny (model X.prog X.w) X.A (eval iter X.env) (fun v s1 => wpAny (model X.prog X.w) X.A (pyIter v) (PIE X pins σ tg R) X.xe s1) X.xe s
theorem go_of {M : Model} {A : Around} {E : Value → Shared → Prop} {s : Shared} {tg : Expr} {it : Addr} {u : Value} {o : Obj} {n : String} {vs : Array Value} {Q : Unit → Shared → Prop} (ho : s.heap.get? it = some o) (hc : o.cls = .type n) (hd : o.data = .fields vs)
    (hn : ["enumerate", "zip", "dict_itemiterator", "dict_reverseitemiterator", "odict_iterator", "itertools.zip_longest", "itertools.pairwise"].contains n = false) (hQ : Q () s) : wpAny M A (letOwnedTupleGo tg (.ref it) u) Q E s := by
  unfold letOwnedTupleGo
  cases tg <;> first
    | exact wpAny_pure hQ
    | (cases u <;> first
        | exact wpAny_pure hQ
        | (refine wpAny_bind (wpAny_load ho ?_)
           rw [hc, hd]
           show wpAny M A (if (["enumerate", "zip", "dict_itemiterator", "dict_reverseitemiterator", "odict_iterator", "itertools.zip_longest", "itertools.pairwise"].contains n && vs[0]? == some (rawInt _)) = true then _ else _) Q E s
           rw [if_neg (by intro h; rw [hn, Bool.false_and] at h; cases h)]
           exact wpAny_pure hQ))
def Itl (K : PySem.W.Frag) (a : Addr) : It :=
  ⟨fun i H => ∃ xs x, SqL K H a xs ∧ xs[i]? = some x, fun i H x H' => H' = H ∧ ∀ xs, SqL K H a xs → xs[i]? = some x, fun i H => ∃ xs, SqL K H a xs ∧ xs.length ≤ i⟩
def Itt (K : PySem.W.Frag) (a : Addr) : It :=
  ⟨fun i H => ∃ xs x, SqT K H a xs ∧ xs[i]? = some x, fun i H x H' => H' = H ∧ ∀ xs, SqT K H a xs → xs[i]? = some x, fun i H => ∃ xs, SqT K H a xs ∧ xs.length ≤ i⟩
def Itr (lo : Int) (n : Nat) : It := ⟨fun i _ => i < n, fun i H x H' => H' = H ∧ x = .int (lo + i), fun i _ => n ≤ i⟩
theorem turn_list {P : Program} {w : World} {K : PySem.W.Frag} {tg : Expr} (a it : Addr) : Turn P w K tg (Itl K a) [it] it (fun i h => h.IsListIter it a i) where
  mem := by simp
  obj := fun i h st b hb => by
    have e : b = it := by simpa using hb
    subst e
    obtain ⟨o, e, c, d⟩ := st
    exact ⟨o, e, fun v z => by rw [d] at z; cases z⟩
  keep := fun i h h' st k => st.at fun o e => k it (by simp) o e
  item := by
    intro X hP hw hK hc i pins s σ H E I hf st hg
    subst hP hw hK
    obtain ⟨xs, x, hq, hx⟩ := hg
    obtain ⟨its, rv, p, hz⟩ := I.list hq
    obtain ⟨u, hu, ru⟩ := rv.get hx
    obtain ⟨f0, f1, f2, f3, f4, f5⟩ := hf it (by simp)
    refine wpAny_pyNext_list_item st p.isList (x := u) (by simpa using hu) fun h' st' sb => ?_
    have I1 : Inv X pins σ H { s with heap := h' } := I.turned (t' := s.toks) (fun b o hb e => (sb.2 b hb).trans e) f0 f1 f3 f4 f5
    obtain ⟨o, e, c, d⟩ := id st'
    exact ⟨u, rfl, go_of (s := { s with heap := h' }) e c d (by decide) ⟨x, H, I1, ru, ⟨rfl, fun ys hy => by rw [I.list_inj hy hq]; exact hx⟩, st', fun b hb => (hf b hb).1⟩⟩
  done := by
    intro X hP hw hK hc i pins s σ H E I hf st hg
    subst hP hw hK
    obtain ⟨xs, hq, hx⟩ := hg
    obtain ⟨its, rv, p, hz⟩ := I.list hq
    obtain ⟨f0, f1, f2, f3, f4, f5⟩ := hf it (by simp)
    have hl := rv.length
    exact wpAny_pyNext_list_end (I.ok.hd hc) st p.isList (by simp; omega) fun h' eb => ⟨rfl, I.turned (t' := s.toks) (fun b o hb e => eb b o hb e) f0 f1 f3 f4 f5⟩
  self := fun _ _ _ _ _ st h => wpAny_pyIter_listiter st h
theorem turn_tuple {P : Program} {w : World} {K : PySem.W.Frag} {tg : Expr} (a it : Addr) : Turn P w K tg (Itt K a) [it] it (fun i h => h.IsTupleIter it a i) where
  mem := by simp
  obj := fun i h st b hb => by
    have e : b = it := by simpa using hb
    subst e
    obtain ⟨o, e, c, d⟩ := st
    exact ⟨o, e, fun v z => by rw [d] at z; cases z⟩
  keep := fun i h h' st k => st.at fun o e => k it (by simp) o e
  item := by
    intro X hP hw hK hc i pins s σ H E I hf st hg
    subst hP hw hK
    obtain ⟨xs, x, hq, hx⟩ := hg
    obtain ⟨its, rv, p, hz⟩ := I.tuple hq
    obtain ⟨u, hu, ru⟩ := rv.get hx
    obtain ⟨f0, f1, f2, f3, f4, f5⟩ := hf it (by simp)
    refine wpAny_pyNext_tuple_item st (show s.heap.IsTuple a its.toArray from p) (x := u) (by simpa using hu) fun h' st' sb => ?_
    have I1 : Inv X pins σ H { s with heap := h' } := I.turned (t' := s.toks) (fun b o hb e => (sb.2 b hb).trans e) f0 f1 f3 f4 f5
    obtain ⟨o, e, c, d⟩ := id st'
    exact ⟨u, rfl, go_of (s := { s with heap := h' }) e c d (by decide) ⟨x, H, I1, ru, ⟨rfl, fun ys hy => by rw [I.tuple_inj hy hq]; exact hx⟩, st', fun b hb => (hf b hb).1⟩⟩
  done := by
    intro X hP hw hK hc i pins s σ H E I hf st hg
    subst hP hw hK
    obtain ⟨xs, hq, hx⟩ := hg
    obtain ⟨its, rv, p, hz⟩ := I.tuple hq
    obtain ⟨f0, f1, f2, f3, f4, f5⟩ := hf it (by simp)
    have hl := rv.length
    exact wpAny_pyNext_tuple_end (I.ok.hd hc) st (show s.heap.IsTuple a its.toArray from p) (by simp; omega) fun h' eb => ⟨rfl, I.turned (t' := s.toks) (fun b o hb e => eb b o hb e) f0 f1 f3 f4 f5⟩
  self := fun _ _ _ _ _ st h => wpAny_pyIter_tupleiter st h
theorem turn_range {P : Program} {w : World} {K : PySem.W.Frag} {tg : Expr} (it : Addr) (lo : Int) (n : Nat) : Turn P w K tg (Itr lo n) [it] it (fun i h => IsRangeIter h it (lo + (i : Nat) * 1) ((n : Int) - (i : Nat)) 1) where
  mem := by simp
  obj := fun i h st b hb => by
    have e : b = it := by simpa using hb
    subst e
    exact ⟨_, st, fun v z => by
      have z' : Data.fields _ = Data.cell v := z
      cases z'⟩
  keep := fun i h h' st k => k it (by simp) _ st
  item := by
    intro X hP hw hK hc i pins s σ H E I hf st hg
    subst hP hw hK
    obtain ⟨f0, f1, f2, f3, f4, f5⟩ := hf it (by simp)
    have W := Walks.range (prog := X.prog) (w := X.w) (I.ok.hd hc) it lo 1 n
    refine W.item i s _ _ hg st fun v h' tk hv st' kk => ?_
    obtain ⟨t, rfl⟩ := hv
    have I1 : Inv X pins σ H { s with heap := h', toks := tk } := I.turned (fun b o hb e => kk b o (by simpa using hb) e) f0 f1 f3 f4 f5
    refine ⟨_, rfl, go_of (s := { s with heap := h', toks := tk }) (n := "range_iterator") st' rfl rfl (by decide) ⟨.int (lo + i), H, I1, ⟨t, ?_⟩, ⟨rfl, rfl⟩, st', fun b hb => (hf b hb).1⟩⟩
    rw [Int.mul_one]
  done := by
    intro X hP hw hK hc i pins s σ H E I hf st hg
    subst hP hw hK
    obtain ⟨f0, f1, f2, f3, f4, f5⟩ := hf it (by simp)
    exact wpAny_pyNext_range_end (I.ok.hd hc) st (by have : n ≤ i := hg; omega) fun h' eb => ⟨rfl, I.turned (t' := s.toks) (fun b o hb e => eb b o hb e) f0 f1 f3 f4 f5⟩
  self := fun _ _ _ _ _ st h => wpAny_pyIter_rangeiter st h
end L2
namespace L2
open PySem PySem.Spec PyProof.Rows
section
variable {X : Cx} {tg : Expr}
def iList (K : PySem.W.Frag) (tl : TE) : TI := fun σ H R => tl σ H fun x H1 => ∃ a, x = .ref a ∧ (∃ xs, SqL K H1 a xs) ∧ R (Itl K a) H1
def iTup (K : PySem.W.Frag) (tl : TE) : TI := fun σ H R => tl σ H fun x H1 => ∃ a, x = .ref a ∧ (∃ xs, SqT K H1 a xs) ∧ R (Itt K a) H1
theorem pi_list {l : Expr} {tl : TE} (hl : PE X l tl) : PI X tg l (iList X.K tl) := by
  intro pins s σ H R I h
  refine thn (hl pins s σ H _ I h) fun v s1 ⟨x, H1, I1, r1, q1⟩ => ?_
  obtain ⟨a, e, ⟨xs, hq⟩, q⟩ := q1
  subst e
  cases r1
  obtain ⟨its, rv, p, hz⟩ := I1.list hq
  refine wpAny_pyIter_list p.isList ?_
  refine ⟨s1.heap.objs.size, [s1.heap.objs.size], _, _, H1, rfl, I1.kept (t' := s1.toks) fun b o e => Heap.get?_push_of_some _ e, turn_list a _, ⟨_, Heap.get?_push_size _ rfl, rfl, rfl⟩, fun b hb => ?_, q⟩
  have e : b = s1.heap.objs.size := by simpa using hb
  subst e
  exact I1.fpOk (Nat.le_refl _) (I1.hok.fresh (Nat.le_refl _))
theorem pi_tup {l : Expr} {tl : TE} (hl : PE X l tl) : PI X tg l (iTup X.K tl) := by
  intro pins s σ H R I h
  refine thn (hl pins s σ H _ I h) fun v s1 ⟨x, H1, I1, r1, q1⟩ => ?_
  obtain ⟨a, e, ⟨xs, hq⟩, q⟩ := q1
  subst e
  cases r1
  obtain ⟨its, rv, p, hz⟩ := I1.tuple hq
  refine wpAny_pyIter_tuple (show s1.heap.IsTuple a its.toArray from p) ?_
  refine ⟨s1.heap.objs.size, [s1.heap.objs.size], _, _, H1, rfl, I1.kept (t' := s1.toks) fun b o e => Heap.get?_push_of_some _ e, turn_tuple a _, ⟨_, Heap.get?_push_size _ rfl, rfl, rfl⟩, fun b hb => ?_, q⟩
  have e : b = s1.heap.objs.size := by simpa using hb
  subst e
  exact I1.fpOk (Nat.le_refl _) (I1.hok.fresh (Nat.le_refl _))
theorem range_it {pins : List (Addr × Obj)} {σ : St} {H : Hp} {s : Shared} {R : It → Hp → Prop} {E : Value → Shared → Prop} {lo hi : Int} {t u v : Tok} {tk : Nat} (I : Inv X pins σ H s) (h1 : -(2 ^ 62) ≤ lo) (h2 : lo < 2 ^ 62) (h3 : -(2 ^ 62) ≤ hi) (h4 : hi < 2 ^ 62)
    (q : R (Itr lo (hi - lo).toNat) H) : wpAny (model X.prog X.w) X.A (pyIter (.ref s.heap.objs.size)) (PIE X pins σ tg R) E { s with heap := s.heap.push { cls := .type "range", data := .fields #[.int lo t, .int hi u, .int 1 v] }, toks := tk } := by
  refine wpAny_pyIter_range (IsRange.new ..) (small_one h1 h2 h3 h4) ?_
  have I1 : Inv X pins σ H { s with heap := s.heap.push { cls := .type "range", data := .fields #[.int lo t, .int hi u, .int 1 v] }, toks := tk } := I.kept fun b o e => Heap.get?_push_of_some _ e
  refine ⟨(s.heap.push { cls := .type "range", data := .fields #[.int lo t, .int hi u, .int 1 v] }).objs.size, [(s.heap.push { cls := .type "range", data := .fields #[.int lo t, .int hi u, .int 1 v] }).objs.size], _, _, H, rfl,
    I1.kept (t' := tk) fun b o e => Heap.get?_push_of_some _ e, turn_range _ lo (hi - lo).toNat, ?_, fun b hb => ?_, q⟩
  · have e1 : lo + ((0 : Nat) : Int) * 1 = lo := by simp
    have e2 : (((hi - lo).toNat : Nat) : Int) - ((0 : Nat) : Int) = Builtin.Range.rangeSize lo hi 1 := by rw [rangeSize_one]; split <;> omega
    show IsRangeIter _ _ (lo + ((0 : Nat) : Int) * 1) ((((hi - lo).toNat : Nat) : Int) - ((0 : Nat) : Int)) 1
    rw [e1, e2]
    exact Heap.get?_push_size _ rfl
  · have e : b = (s.heap.push { cls := .type "range", data := .fields #[.int lo t, .int hi u, .int 1 v] }).objs.size := by simpa using hb
    subst e
    exact I1.fpOk (Nat.le_refl _) (I1.hok.fresh (Nat.le_refl _))
def iRng1 (ta : TA) : TI := fun σ H R => ta σ H fun vs H1 => ∃ j : Int, vs = [.int j] ∧ -(2 ^ 62) ≤ j ∧ j < 2 ^ 62 ∧ R (Itr 0 j.toNat) H1
theorem pi_range1 {a : Expr} {ta : TA} {p pos : Pos} (hg : Gl X "range") (hm : X.mg "range" = none) (ha : PA X [a] ta) (hs : starEach [a] X.env = [(false, eval a X.env)] := by rfl) : PI X tg (.Call (.Name "range" p) [a] [] pos) (iRng1 ta) := by
  intro pins s σ H R I h
  refine Call_ (ld_blt I hg hm boot_range (PyProof.Rows.callWith_type1 (thn (ha pos pins s σ H _ I h) fun us s1 ⟨vs, H1, I1, r1, q1⟩ => ?_) hs rfl))
  obtain ⟨j, e, q1, q2, q⟩ := q1
  subst e
  cases r1 with
  | cons r rr =>
    cases rr
    obtain ⟨t, rfl⟩ := r
    exact call_range_1 (range_it I1 (by omega) (by omega) q1 q2 (by simpa using q))
def tFor (wi : TI) (g : TG) (tb : TS) : TS := fun D σ H => wi σ H fun J H1 => ∃ W : Nat → Nat → St → Hp → Prop, (∃ m, W 0 m σ H1) ∧ ∀ i m σ H, W i m σ H →
  (J.stop i H ∧ D.nx σ H) ∨ (J.go i H ∧ ∃ N : St → Hp → Prop, (∀ σ' H', N σ' H' → ∃ m', m' < m ∧ W (i + 1) m' σ' H') ∧ ∀ x H', J.yld i H x H' → g x σ H' fun σ2 H2 => tb { D with nx := N, ct := N, bk := D.nx } σ2 H2)
def pinsAt (fp : List Addr) (h : Heap) : List (Addr × Obj) := fp.filterMap fun b => (h.get? b).map fun o => (b, o)
theorem mem_pinsAt {fp : List Addr} {h : Heap} {b : Addr} {o : Obj} (hb : b ∈ fp) (e : h.get? b = some o) : (b, o) ∈ pinsAt fp h := List.mem_filterMap.mpr ⟨b, hb, by rw [e]; rfl⟩
theorem of_pinsAt {fp : List Addr} {h : Heap} {p : Addr × Obj} (hp : p ∈ pinsAt fp h) : p.1 ∈ fp ∧ h.get? p.1 = some p.2 := by
  obtain ⟨b, hb, e⟩ := List.mem_filterMap.mp hp
  cases q : h.get? b with
  | none => rw [q] at e; cases e
  | some o =>
    rw [q] at e
    have e' : (b, o) = p := Option.some.inj e
    subst e'
    exact ⟨hb, q⟩
theorem Inv.pinned {pins : List (Addr × Obj)} {σ : St} {H : Hp} {s : Shared} {fp : List Addr} (I : Inv X pins σ H s) (hf : ∀ b ∈ fp, FpOk X pins H b) (ho : ∀ b ∈ fp, ∃ o, s.heap.get? b = some o ∧ ∀ v, o.data ≠ .cell v) : Inv X (pins ++ pinsAt fp s.heap) σ H s :=
  I.pins_of fun p hp => (List.mem_append.mp hp).elim (fun z => I.pin p (List.mem_append_right _ z)) fun z => by
    obtain ⟨hb, e⟩ := of_pinsAt z
    obtain ⟨f0, f1, f2, _⟩ := hf p.1 hb
    obtain ⟨o, e', d⟩ := ho p.1 hb
    rw [e] at e'; cases e'
    exact ⟨e, f0, f1, f2, d⟩
theorem Inv.unpinned {pins pl : List (Addr × Obj)} {σ : St} {H : Hp} {s : Shared} (I : Inv X (pins ++ pl) σ H s) : Inv X pins σ H s := I.pins_of fun p hp => I.pin p (List.mem_append_right _ (List.mem_append_left _ hp))
theorem ps_for {iter : Expr} {body : List Stmt} {wi : TI} {g : TG} {tb : TS} {pos : Pos} (hp : PassesOwn (model X.prog X.w) X.A X.env X.xe) (hc : X.calm = true) (hi : PI X tg iter wi) (hg : PG X tg g) (hb : PSs X body tb)
    (hs : ∀ x, foldedSetIterable iter X.env x = pure x := by intro _; rfl) : PS X (.For tg iter body [] pos) (tFor wi g tb) := by
  intro pins s σ H D I h
  refine wpAny_For (thn (hi pins s σ H _ I h) fun v s1 h1 => thn h1 fun itv s2 h2 => ?_) hs
  obtain ⟨it, fp, tn, J, H2, e, I2, T, st2, f2, W, ⟨m0, w0⟩, turn⟩ := h2
  subst e
  -- what stays true of the iterator's objects through the loop
  have stat : ∀ {H' : Hp}, (∀ b ∈ fp, H' b = none) → ∀ b ∈ fp, FpOk X pins H' b := fun hn b hb => ⟨hn b hb, (f2 b hb).2⟩
  refine codeAny_forLoop_any (fun n s' => ∃ i σ' H', Inv X pins σ' H' s' ∧ tn i s'.heap ∧ (∀ b ∈ fp, H' b = none) ∧ W i n σ' H') ?_ m0 ⟨0, σ, H2, I2, st2, fun b hb => (f2 b hb).1, w0⟩
  rintro n s3 ⟨i, σ3, H3, I3, st3, fr3, w3⟩
  rcases turn i n σ3 H3 w3 with ⟨stop, qn⟩ | ⟨go, N, hN, step⟩
  · refine wpAny_passesOwn hp (thn (T.done X rfl rfl rfl hc i pins s3 σ3 H3 X.xe I3 (stat fr3) st3 stop) fun r s4 ⟨hr, I4⟩ => ?_)
    subst hr
    exact wpAny_execs_nil ⟨σ3, H3, I4, qn⟩
  · refine wpAny_passesOwn hp (thn (T.item X rfl rfl rfl hc i pins s3 σ3 H3 X.xe I3 (stat fr3) st3 go) fun r s4 ⟨u, hr, h4⟩ => ?_)
    subst hr
    refine wpAny_passesOwn hp (thn h4 fun _ s5 ⟨x, H5, I5, r5, y5, st5, fr5⟩ => ?_)
    have I5' := I5.pinned (stat fr5) (T.obj _ _ st5)
    refine wpAny_passesOwn hp (thn (hg _ s5 σ3 H5 x u _ I5' r5 (step x H5 y5)) fun _ s6 ⟨σ6, H6, I6, q6⟩ => ?_)
    refine wpAny_passesOwn hp (thn (hb _ s6 σ6 H6 _ I6 q6) fun f s7 q7 => ?_)
    have again : ∀ {σ7 : St} {H7 : Hp}, Inv X (pins ++ pinsAt fp s5.heap) σ7 H7 s7 → N σ7 H7 → ∃ m, m < n ∧ ∃ i σ' H', Inv X pins σ' H' s7 ∧ tn i s7.heap ∧ (∀ b ∈ fp, H' b = none) ∧ W i m σ' H' := fun {σ7 H7} I7 n7 => by
      obtain ⟨m', hm, w7⟩ := hN σ7 H7 n7
      refine ⟨m', hm, i + 1, σ7, H7, I7.unpinned, T.keep _ _ _ st5 fun b hb o e => (I7.pin (b, o) (List.mem_append_right _ (List.mem_append_right _ (mem_pinsAt hb e)))).1, fun b hb => ?_, w7⟩
      obtain ⟨o, e, d⟩ := T.obj _ _ st5 b hb
      exact (I7.pin (b, o) (List.mem_append_right _ (List.mem_append_right _ (mem_pinsAt hb e)))).2.1
    cases f with
    | next => obtain ⟨σ7, H7, I7, n7⟩ := q7; exact again I7 n7
    | cont => obtain ⟨σ7, H7, I7, n7⟩ := q7; exact again I7 n7
    | brk => obtain ⟨σ7, H7, I7, q7⟩ := q7; exact ⟨σ7, H7, I7.unpinned, q7⟩
    | ret v => obtain ⟨x7, σ7, H7, I7, r7, q7⟩ := q7; exact ⟨x7, σ7, H7, I7.unpinned, r7, q7⟩
end
theorem for_list {K : PySem.W.Frag} {a : Addr} {xs : List V} {g : TG} {tb : TS} {D : Ends} {σ : St} {H : Hp} (Pv : Nat → St → Hp → Prop) (h0 : Pv 0 σ H) (hl : ∀ i σ H, i ≤ xs.length → Pv i σ H → SqL K H a xs)
    (hs : ∀ i x σ H, xs[i]? = some x → Pv i σ H → g x σ H fun σ2 H2 => tb { D with nx := Pv (i + 1), ct := Pv (i + 1), bk := D.nx } σ2 H2) (hd : ∀ σ H, Pv xs.length σ H → D.nx σ H) :
    ∃ W : Nat → Nat → St → Hp → Prop, (∃ m, W 0 m σ H) ∧ ∀ i m σ H, W i m σ H →
      ((Itl K a).stop i H ∧ D.nx σ H) ∨ ((Itl K a).go i H ∧ ∃ N : St → Hp → Prop, (∀ σ' H', N σ' H' → ∃ m', m' < m ∧ W (i + 1) m' σ' H') ∧ ∀ x H', (Itl K a).yld i H x H' → g x σ H' fun σ2 H2 => tb { D with nx := N, ct := N, bk := D.nx } σ2 H2) := by
  refine ⟨fun i m σ H => m = xs.length - i ∧ i ≤ xs.length ∧ Pv i σ H, ⟨xs.length, by simp, Nat.zero_le _, h0⟩, ?_⟩
  rintro i m σ H ⟨rfl, hi, p⟩
  have q := hl i σ H hi p
  by_cases hlt : i < xs.length
  · refine .inr ⟨⟨xs, xs[i], q, by simp [hlt]⟩, Pv (i + 1), fun σ' H' p' => ⟨xs.length - (i + 1), by omega, rfl, hlt, p'⟩, fun x H' y => ?_⟩
    obtain ⟨e, y⟩ := y
    subst e
    exact hs i x σ _ (y xs q) p
  · have e : i = xs.length := by omega
    subst e
    exact .inl ⟨⟨xs, q, Nat.le_refl _⟩, hd σ H p⟩
theorem for_tup {K : PySem.W.Frag} {a : Addr} {xs : List V} {g : TG} {tb : TS} {D : Ends} {σ : St} {H : Hp} (Pv : Nat → St → Hp → Prop) (h0 : Pv 0 σ H) (hl : ∀ i σ H, i ≤ xs.length → Pv i σ H → SqT K H a xs)
    (hs : ∀ i x σ H, xs[i]? = some x → Pv i σ H → g x σ H fun σ2 H2 => tb { D with nx := Pv (i + 1), ct := Pv (i + 1), bk := D.nx } σ2 H2) (hd : ∀ σ H, Pv xs.length σ H → D.nx σ H) :
    ∃ W : Nat → Nat → St → Hp → Prop, (∃ m, W 0 m σ H) ∧ ∀ i m σ H, W i m σ H →
      ((Itt K a).stop i H ∧ D.nx σ H) ∨ ((Itt K a).go i H ∧ ∃ N : St → Hp → Prop, (∀ σ' H', N σ' H' → ∃ m', m' < m ∧ W (i + 1) m' σ' H') ∧ ∀ x H', (Itt K a).yld i H x H' → g x σ H' fun σ2 H2 => tb { D with nx := N, ct := N, bk := D.nx } σ2 H2) := by
  refine ⟨fun i m σ H => m = xs.length - i ∧ i ≤ xs.length ∧ Pv i σ H, ⟨xs.length, by simp, Nat.zero_le _, h0⟩, ?_⟩
  rintro i m σ H ⟨rfl, hi, p⟩
  have q := hl i σ H hi p
  by_cases hlt : i < xs.length
  · refine .inr ⟨⟨xs, xs[i], q, by simp [hlt]⟩, Pv (i + 1), fun σ' H' p' => ⟨xs.length - (i + 1), by omega, rfl, hlt, p'⟩, fun x H' y => ?_⟩
    obtain ⟨e, y⟩ := y
    subst e
    exact hs i x σ _ (y xs q) p
  · have e : i = xs.length := by omega
    subst e
    exact .inl ⟨⟨xs, q, Nat.le_refl _⟩, hd σ H p⟩
theorem for_range {lo : Int} {n : Nat} {g : TG} {tb : TS} {D : Ends} {σ : St} {H : Hp} (Pv : Nat → St → Hp → Prop) (h0 : Pv 0 σ H)
    (hs : ∀ i σ H, i < n → Pv i σ H → g (.int (lo + i)) σ H fun σ2 H2 => tb { D with nx := Pv (i + 1), ct := Pv (i + 1), bk := D.nx } σ2 H2) (hd : ∀ σ H, Pv n σ H → D.nx σ H) :
    ∃ W : Nat → Nat → St → Hp → Prop, (∃ m, W 0 m σ H) ∧ ∀ i m σ H, W i m σ H →
      ((Itr lo n).stop i H ∧ D.nx σ H) ∨ ((Itr lo n).go i H ∧ ∃ N : St → Hp → Prop, (∀ σ' H', N σ' H' → ∃ m', m' < m ∧ W (i + 1) m' σ' H') ∧ ∀ x H', (Itr lo n).yld i H x H' → g x σ H' fun σ2 H2 => tb { D with nx := N, ct := N, bk := D.nx } σ2 H2) := by
  refine ⟨fun i m σ H => m = n - i ∧ i ≤ n ∧ Pv i σ H, ⟨n, by simp, Nat.zero_le _, h0⟩, ?_⟩
  rintro i m σ H ⟨rfl, hi, p⟩
  by_cases hlt : i < n
  · refine .inr ⟨hlt, Pv (i + 1), fun σ' H' p' => ⟨n - (i + 1), by omega, rfl, hlt, p'⟩, fun x H' y => ?_⟩
    obtain ⟨e, y⟩ := y
    subst e y
    exact hs i σ _ hlt p
  · have e : i = n := by omega
    subst e
    exact .inl ⟨Nat.le_refl _, hd σ H p⟩
end L2
namespace L2
open PySem PySem.Spec PyProof.Rows
abbrev R2 := V → V → Hp → VK → Prop
def OpR (X : Cx) (f : Value → Value → Sem Value) (r : R2) : Prop :=
  ∀ (pins : List (Addr × Obj)) (s : Shared) (σ : St) (H : Hp) (x y : V) (v u : Value) (Q : VK), Inv X pins σ H s → RelV x v → RelV y u → r x y H Q →
    wpAny (model X.prog X.w) X.A (f v u) (EP X pins σ Q) X.xe s
def UnR (X : Cx) (f : Value → Sem Value) (r : V → Hp → VK → Prop) : Prop :=
  ∀ (pins : List (Addr × Obj)) (s : Shared) (σ : St) (H : Hp) (x : V) (v : Value) (Q : VK), Inv X pins σ H s → RelV x v → r x H Q →
    wpAny (model X.prog X.w) X.A (f v) (EP X pins σ Q) X.xe s
def CallR (X : Cx) (f : Value) (r : List V → Hp → VK → Prop) : Prop :=
  ∀ (pins : List (Addr × Obj)) (s : Shared) (σ : St) (H : Hp) (xs : List V) (us : List Value) (Q : VK), Inv X pins σ H s → Vals xs us → r xs H Q →
    wpAny (model X.prog X.w) X.A (call f us) (EP X pins σ Q) X.xe s
def tOp (r : R2) (ta tb : TE) : TE := fun σ H Q => ta σ H fun x H1 => tb σ H1 fun y H2 => r x y H2 Q
def tUn (r : V → Hp → VK → Prop) (ta : TE) : TE := fun σ H Q => ta σ H fun x H1 => r x H1 Q
def rI (C : Int → Int → Prop) (g : Int → Int → V) : R2 := fun x y H Q => ∃ i j, x = .int i ∧ y = .int j ∧ C i j ∧ Q (g i j) H
def rI0 (g : Int → Int → V) : R2 := fun x y H Q => ∃ i j, x = .int i ∧ y = .int j ∧ Q (g i j) H
def rU (g : Int → V) : V → Hp → VK → Prop := fun x H Q => ∃ i, x = .int i ∧ Q (g i) H
section
variable {X : Cx} {a b c : Expr} {ta tb tc : TE} {pos : Pos}
theorem binT (ha : PE X a ta) (hb : PE X b tb) {pins : List (Addr × Obj)} {s : Shared} {σ : St} {H : Hp} {R : V → V → Hp → Prop} (I : Inv X pins σ H s)
    (h : ta σ H fun x H1 => tb σ H1 fun y H2 => R x y H2) {Q : Value → Shared → Prop} {f : Value → Value → Sem Value}
    (hf : ∀ v u s2 x y H2, Inv X pins σ H2 s2 → RelV x v → RelV y u → R x y H2 → wpAny (model X.prog X.w) X.A (f v u) Q X.xe s2) :
    wpAny (model X.prog X.w) X.A (eval a X.env) (fun v s₁ => wpAny (model X.prog X.w) X.A (eval b X.env) (fun u s₂ => wpAny (model X.prog X.w) X.A (f v u) Q X.xe s₂) X.xe s₁) X.xe s := by
  refine thn (ha pins s σ H _ I h) fun v s1 ⟨x, H1, I1, r1, q1⟩ => ?_
  refine thn (hb pins s1 σ H1 _ I1 q1) fun u s2 ⟨y, H2, I2, r2, q2⟩ => ?_
  exact hf v u s2 x y H2 I2 r1 r2 q2
theorem pe_op {op : Operator} {r : R2} (ho : OpR X (binaryOp op) r) (ha : PE X a ta) (hb : PE X b tb) : PE X (.BinOp a op b pos) (tOp r ta tb) := by
  intro pins s σ H Q I h
  exact wpAny_BinOp (binT ha hb I h fun v u s2 x y H2 I2 rx ry q => ho pins s2 σ H2 x y v u Q I2 rx ry q)
theorem pe_un {op : UnaryOp} {r : V → Hp → VK → Prop} (ho : UnR X (unaryOp op) r) (ha : PE X a ta) : PE X (.UnaryOp op a pos) (tUn r ta) := by
  intro pins s σ H Q I h
  exact UnaryOp_ (thn (ha pins s σ H _ I h) fun v s1 ⟨x, H1, I1, r1, q1⟩ => ho pins s1 σ H1 x v Q I1 r1 q1)
theorem opI {f : Value → Value → Sem Value} {C : Int → Int → Prop} {g : Int → Int → Int}
    (rule : ∀ (i j : Int) (t u : Tok) (s : Shared) (Q : Value → Shared → Prop) (E : Value → Shared → Prop), C i j → Q (.int (g i j) s.toks) { s with toks := s.toks + 1 } → wpAny (model X.prog X.w) X.A (f (.int i t) (.int j u)) Q E s) :
    OpR X f (rI C fun i j => .int (g i j)) := by
  intro pins s σ H x y v u Q I rx ry h
  obtain ⟨i, j, rfl, rfl, hc, q⟩ := h
  obtain ⟨t, rfl⟩ := rx
  obtain ⟨t', rfl⟩ := ry
  exact rule i j t t' s _ _ hc ⟨.int (g i j), H, I.tok _, ⟨_, rfl⟩, q⟩
theorem opI0 {f : Value → Value → Sem Value} {g : Int → Int → Int}
    (rule : ∀ (i j : Int) (t u : Tok) (s : Shared) (Q : Value → Shared → Prop) (E : Value → Shared → Prop), Q (.int (g i j) s.toks) { s with toks := s.toks + 1 } → wpAny (model X.prog X.w) X.A (f (.int i t) (.int j u)) Q E s) :
    OpR X f (rI0 fun i j => .int (g i j)) := by
  intro pins s σ H x y v u Q I rx ry h
  obtain ⟨i, j, rfl, rfl, q⟩ := h
  obtain ⟨t, rfl⟩ := rx
  obtain ⟨t', rfl⟩ := ry
  exact rule i j t t' s _ _ ⟨.int (g i j), H, I.tok _, ⟨_, rfl⟩, q⟩
theorem opB0 {f : Value → Value → Sem Value} {g : Int → Int → Bool}
    (rule : ∀ (i j : Int) (t u : Tok) (s : Shared) (Q : Value → Shared → Prop) (E : Value → Shared → Prop), Q (.bool (g i j)) s → wpAny (model X.prog X.w) X.A (f (.int i t) (.int j u)) Q E s) :
    OpR X f (rI0 fun i j => .bl (g i j)) := by
  intro pins s σ H x y v u Q I rx ry h
  obtain ⟨i, j, rfl, rfl, q⟩ := h
  obtain ⟨t, rfl⟩ := rx
  obtain ⟨t', rfl⟩ := ry
  exact rule i j t t' s _ _ ⟨.bl (g i j), H, I, rfl, q⟩
def CDiv (i j : Int) : Prop := 0 < j ∧ j < 1073741824
def CMul (i j : Int) : Prop := (-(2 ^ 64) < i ∧ i < 2 ^ 64) ∨ (-(2 ^ 64) < j ∧ j < 2 ^ 64)
theorem CMul.ok {i j : Int} (h : CMul i j) : IntMulOk i j := by
  rcases h with ⟨h1, h2⟩ | ⟨h1, h2⟩
  · exact .of_left (intBits_le_64 h1 h2)
  · exact .of_right (intBits_le_64 h1 h2)
theorem op_add : OpR X (binaryOp .Add) (rI0 fun i j => .int (i + j)) := opI0 fun _ _ _ _ _ _ _ q => add_int q
theorem op_sub : OpR X (binaryOp .Sub) (rI0 fun i j => .int (i - j)) := opI0 fun _ _ _ _ _ _ _ q => sub_int q
theorem op_mul : OpR X (binaryOp .Mult) (rI CMul fun i j => .int (i * j)) := opI fun _ _ _ _ _ _ _ hc q => mul_int q hc.ok
theorem op_fdiv : OpR X (binaryOp .FloorDiv) (rI CDiv fun i j => .int (i / j)) := opI fun i j _ _ _ _ _ hc q => by
  have h1 : (0 : Int) < j := hc.1
  have h2 : j < 1073741824 := hc.2
  exact floordiv_int (by omega) (by rw [Int.fdiv_eq_ediv_of_nonneg i (by omega)]; exact q) (.inl (PyProof.noPylong_small (by omega)))
theorem op_mod : OpR X (binaryOp .Mod) (rI (fun _ j => 0 < j) fun i j => .int (i % j)) := opI fun i j _ _ _ _ _ hc q => by
  have h1 : (0 : Int) < j := hc
  exact mod_int' (by omega) (by rw [Int.fmod_eq_emod_of_nonneg i (by omega)]; exact q)
theorem unI {f : Value → Sem Value} {g : Int → Int}
    (rule : ∀ (i : Int) (t : Tok) (s : Shared) (Q : Value → Shared → Prop) (E : Value → Shared → Prop), Q (.int (g i) s.toks) { s with toks := s.toks + 1 } → wpAny (model X.prog X.w) X.A (f (.int i t)) Q E s) :
    UnR X f (rU fun i => .int (g i)) := by
  intro pins s σ H x v Q I rx h
  obtain ⟨i, rfl, q⟩ := h
  obtain ⟨t, rfl⟩ := rx
  exact rule i t s _ _ ⟨.int (g i), H, I.tok _, ⟨_, rfl⟩, q⟩
theorem un_neg : UnR X (unaryOp .USub) (rU fun i => .int (-i)) := unI fun _ _ _ _ _ q => neg_int q
end
def scal : V → V → Bool
  | .non, .non => true | .non, .int _ => true | .int _, .non => true | .non, .bl _ => true | .bl _, .non => true | .non, .str _ => true | .str _, .non => true
  | .int _, .int _ => true | .bl _, .bl _ => true | .str _, .str _ => true | .byt _, .byt _ => true
  | .int _, .str _ => true | .str _, .int _ => true | .bl _, .str _ => true | .str _, .bl _ => true
  | _, _ => false
def rEq : R2 := fun x y H Q => scal x y = true ∧ Q (.bl (decide (x = y))) H
def rNe : R2 := fun x y H Q => scal x y = true ∧ Q (.bl (!decide (x = y))) H
theorem dec_int {i j : Int} : decide (V.int i = V.int j) = (i == j) := by
  rw [Bool.eq_iff_iff]
  simp
theorem dec_bl {i j : Bool} : decide (V.bl i = V.bl j) = (i == j) := by
  rw [Bool.eq_iff_iff]
  simp
theorem dec_str {i j : Str} : decide (V.str i = V.str j) = (i == j) := by
  rw [Bool.eq_iff_iff]
  simp
theorem dec_byt {i j : Array UInt8} : decide (V.byt i = V.byt j) = (i.toList == j.toList) := by
  rw [Bool.eq_iff_iff]
  cases i
  cases j
  simp
section
variable {X : Cx} {a b c : Expr} {ta tb tc : TE} {pos : Pos}
theorem fin_bl {pins : List (Addr × Obj)} {σ : St} {H : Hp} {s : Shared} {Q : VK} {k k' : Bool} (I : Inv X pins σ H s) (q : Q (.bl k) H) (e : k = k') : EP X pins σ Q (.bool k') s := by
  subst e
  exact ⟨.bl k, H, I, rfl, q⟩
theorem op_eq : OpR X (compareOp .Eq) rEq := by
  intro pins s σ H x y v u Q I rx ry h
  obtain ⟨hs, q⟩ := h
  cases x with
  | non =>
    cases rx
    cases y with
    | non => cases ry; exact PySem.EqNone.eq_none_none (fin_bl I q (by simp))
    | bl j => cases ry; exact PySem.EqNone.eq_none_bool (fin_bl I q (by simp))
    | int j => obtain ⟨t', rfl⟩ := ry; exact PySem.EqNone.eq_none_int (fin_bl I q (by simp))
    | str j => obtain ⟨t', rfl⟩ := ry; exact PySem.EqNone.eq_none_str (fin_bl I q (by simp))
    | _ => exact absurd (show false = true from hs) Bool.false_ne_true
  | bl i =>
    cases rx
    cases y with
    | non => cases ry; exact PySem.EqNone.eq_bool_none (fin_bl I q (by simp))
    | bl j => cases ry; exact eq_bool (fin_bl I q dec_bl)
    | str j => obtain ⟨t', rfl⟩ := ry; exact PySem.EqMixed.eq_bool_str (fin_bl I q (by simp))
    | _ => exact absurd (show false = true from hs) Bool.false_ne_true
  | int i =>
    obtain ⟨t, rfl⟩ := rx
    cases y with
    | non => cases ry; exact PySem.EqNone.eq_int_none (fin_bl I q (by simp))
    | int j => obtain ⟨t', rfl⟩ := ry; exact eq_int (fin_bl I q dec_int)
    | str j => obtain ⟨t', rfl⟩ := ry; exact PySem.EqMixed.eq_int_str (fin_bl I q (by simp))
    | _ => exact absurd (show false = true from hs) Bool.false_ne_true
  | str i =>
    obtain ⟨t, rfl⟩ := rx
    cases y with
    | non => cases ry; exact PySem.EqNone.eq_str_none (fin_bl I q (by simp))
    | bl j => cases ry; exact PySem.EqMixed.eq_str_bool (fin_bl I q (by simp))
    | int j => obtain ⟨t', rfl⟩ := ry; exact PySem.EqMixed.eq_str_int (fin_bl I q (by simp))
    | str j => obtain ⟨t', rfl⟩ := ry; exact eq_str (fin_bl I q dec_str)
    | _ => exact absurd (show false = true from hs) Bool.false_ne_true
  | byt i =>
    obtain ⟨t, rfl⟩ := rx
    cases y with
    | byt j => obtain ⟨t', rfl⟩ := ry; exact PySem.W.eq_bytes (fin_bl I q dec_byt)
    | _ => exact absurd (show false = true from hs) Bool.false_ne_true
  | _ => cases y <;> exact absurd (show false = true from hs) Bool.false_ne_true
theorem op_ne : OpR X (compareOp .NotEq) rNe := by
  intro pins s σ H x y v u Q I rx ry h
  obtain ⟨hs, q⟩ := h
  cases x with
  | non =>
    cases rx
    cases y with
    | non => cases ry; exact PySem.EqNone.ne_none_none (fin_bl I q (by simp))
    | bl j => cases ry; exact PySem.EqNone.ne_none_bool (fin_bl I q (by simp))
    | int j => obtain ⟨t', rfl⟩ := ry; exact PySem.EqNone.ne_none_int (fin_bl I q (by simp))
    | str j => obtain ⟨t', rfl⟩ := ry; exact PySem.EqNone.ne_none_str (fin_bl I q (by simp))
    | _ => exact absurd (show false = true from hs) Bool.false_ne_true
  | bl i =>
    cases rx
    cases y with
    | non => cases ry; exact PySem.EqNone.ne_bool_none (fin_bl I q (by simp))
    | bl j => cases ry; exact ne_bool (fin_bl I q (congrArg not dec_bl))
    | str j => obtain ⟨t', rfl⟩ := ry; exact PySem.EqMixed.ne_bool_str (fin_bl I q (by simp))
    | _ => exact absurd (show false = true from hs) Bool.false_ne_true
  | int i =>
    obtain ⟨t, rfl⟩ := rx
    cases y with
    | non => cases ry; exact PySem.EqNone.ne_int_none (fin_bl I q (by simp))
    | int j => obtain ⟨t', rfl⟩ := ry; exact ne_int (fin_bl I q (congrArg not dec_int))
    | str j => obtain ⟨t', rfl⟩ := ry; exact PySem.EqMixed.ne_int_str (fin_bl I q (by simp))
    | _ => exact absurd (show false = true from hs) Bool.false_ne_true
  | str i =>
    obtain ⟨t, rfl⟩ := rx
    cases y with
    | non => cases ry; exact PySem.EqNone.ne_str_none (fin_bl I q (by simp))
    | bl j => cases ry; exact PySem.EqMixed.ne_str_bool (fin_bl I q (by simp))
    | int j => obtain ⟨t', rfl⟩ := ry; exact PySem.EqMixed.ne_str_int (fin_bl I q (by simp))
    | str j => obtain ⟨t', rfl⟩ := ry; exact ne_str (fin_bl I q (congrArg not dec_str))
    | _ => exact absurd (show false = true from hs) Bool.false_ne_true
  | byt i =>
    obtain ⟨t, rfl⟩ := rx
    cases y with
    | byt j => obtain ⟨t', rfl⟩ := ry; exact PySem.W.ne_bytes (fin_bl I q (congrArg not dec_byt))
    | _ => exact absurd (show false = true from hs) Bool.false_ne_true
  | _ => cases y <;> exact absurd (show false = true from hs) Bool.false_ne_true
theorem op_lt : OpR X (compareOp .Lt) (rI0 fun i j => .bl (decide (i < j))) := opB0 fun _ _ _ _ _ _ _ q => lt_int q
theorem op_le : OpR X (compareOp .LtE) (rI0 fun i j => .bl (decide (i ≤ j))) := opB0 fun _ _ _ _ _ _ _ q => le_int q
theorem op_gt : OpR X (compareOp .Gt) (rI0 fun i j => .bl (decide (j < i))) := opB0 fun _ _ _ _ _ _ _ q => gt_int q
theorem nomark (b : Expr) {op : CmpOp} (h : op ≠ .In := by decide) (h2 : op ≠ .NotIn := by decide) : behindInMarks op b = false := by
  have e1 : (op == CmpOp.In) = false := by cases op <;> first | rfl | exact absurd rfl h
  have e2 : (op == CmpOp.NotIn) = false := by cases op <;> first | rfl | exact absurd rfl h2
  cases b <;> simp [behindInMarks, e1, e2]
theorem pe_cmpR {op : CmpOp} {r : R2} (ho : OpR X (compareOp op) r) (ha : PE X a ta) (hb : PE X b tb) (hm : behindInMarks op b = false) : PE X (.Compare a [op] [b] pos) (tOp r ta tb) := by
  intro pins s σ H Q I h
  exact wpAny_Compare1 (binT ha hb I h fun v u s2 x y H2 I2 rx ry q => ho pins s2 σ H2 x y v u Q I2 rx ry q) hm
def tTest (t : TE) : TT := fun σ H Q => t σ H fun x H' => ∃ k, x = .bl k ∧ Q k H'
theorem pt_cmpR {op : CmpOp} {r : R2} (ho : OpR X (compareOp op) r) (ha : PE X a ta) (hb : PE X b tb) (hm : behindInMarks op b = false) : PT X (.Compare a [op] [b] pos) (tTest (tOp r ta tb)) := by
  intro pins s σ H Q I h
  refine wpAny_isTrue_Compare1 (thn (ha pins s σ H _ I h) fun v s1 ⟨x, H1, I1, r1, q1⟩ => thn (hb pins s1 σ H1 _ I1 q1) fun u s2 ⟨y, H2, I2, r2, q2⟩ =>
    thn (ho pins s2 σ H2 x y v u _ I2 r1 r2 q2) fun c s3 ⟨z, H3, I3, r3, k, e, q3⟩ => ?_) hm
  subst e
  cases r3
  exact wpAny_truthy_bool ⟨H3, I3, q3⟩
def tChain (r r' : R2) (ta tb tc : TE) : TE := fun σ H Q => ta σ H fun x H1 => tb σ H1 fun y H2 => r x y H2 fun z H3 => ∃ k, z = .bl k ∧
  (if k = true then tc σ H3 fun w' H4 => r' y w' H4 Q else Q (.bl false) H3)
theorem pe_chain {op op' : CmpOp} {r r' : R2} (ho : OpR X (compareOp op) r) (ho' : OpR X (compareOp op') r') (ha : PE X a ta) (hb : PE X b tb) (hc : PE X c tc)
    (hm : lastMarks [op, op'] [b, c] = false := by with_unfolding_all rfl) : PE X (.Compare a [op, op'] [b, c] pos) (tChain r r' ta tb tc) := by
  intro pins s σ H Q I h
  refine Compare_chain (thn (ha pins s σ H _ I h) fun v s1 ⟨x, H1, I1, r1, q1⟩ => chain_link (thn (hb pins s1 σ H1 _ I1 q1) fun u s2 ⟨y, H2, I2, r2, q2⟩ =>
    thn (ho pins s2 σ H2 x y v u _ I2 r1 r2 q2) fun d s3 ⟨z, H3, I3, r3, k, e, q3⟩ => ?_)) hm
  subst e
  cases r3
  refine wpAny_truthy_bool ?_
  cases k with
  | false => exact ite_ff ⟨.bl false, H3, I3, rfl, q3⟩
  | true => exact ite_tt (chain_last (thn (hc pins s3 σ H3 _ I3 q3) fun w' s4 ⟨z', H4, I4, r4, q4⟩ => ho' pins s4 σ H4 y z' u w' Q I4 r2 r4 q4))
theorem line63 : (sizeLine : Nat) < 2 ^ 63 := by rw [sizeLine_eq]; decide
theorem op_add_str : OpR X (binaryOp .Add) (fun x y H Q => ∃ i j, x = .str i ∧ y = .str j ∧ i.length + j.length ≤ sizeLine ∧ Q (.str (i ++ j)) H) := by
  intro pins s σ H x y v u Q I rx ry h
  obtain ⟨i, j, rfl, rfl, hz, q⟩ := h
  obtain ⟨t, rfl⟩ := rx
  obtain ⟨t', rfl⟩ := ry
  exact add_str (fun t' tk => ⟨.str (i ++ j), H, I.tok _, ⟨_, rfl⟩, q⟩) hz
theorem vals1 {x : V} {us : List Value} (r : Vals [x] us) : ∃ u, us = [u] ∧ RelV x u := by
  cases r with
  | cons r1 r2 => cases r2; exact ⟨_, rfl, r1⟩
theorem call_int1 : CallR X (.type "int") (fun xs H Q => (∃ i, xs = [.int i] ∧ Q (.int i) H) ∨ ∃ k, xs = [.bl k] ∧ Q (.int (if k then 1 else 0)) H) := by
  intro pins s σ H xs us Q I r h
  rcases h with ⟨i, rfl, q⟩ | ⟨k, rfl, q⟩
  · obtain ⟨u, rfl, t, rfl⟩ := vals1 r
    exact call_int_int ⟨.int i, H, I, ⟨_, rfl⟩, q⟩
  · obtain ⟨u, rfl, r1⟩ := vals1 r
    cases r1
    exact call_int_bool ⟨.int (if k then 1 else 0), H, I.tok _, ⟨_, rfl⟩, q⟩
end
end L2
namespace L2
open PySem PySem.Spec PyProof.Rows
structure ObjM (h : Heap) (x dx C : Addr) (mA : Str → Option Value) : Prop where
  obj : h.get? x = some (PySem.W.instObj C dx)
  ns : h.Ns1 dx mA
  ne : dx ≠ x
theorem lookIn_ns {h : Heap} {dx : Addr} {mA : Str → Option Value} (n : h.Ns1 dx mA) : ∃ od, h.get? dx = some od ∧ ∀ name, PySem.W.lookIn name od = some (mA name) := by
  obtain ⟨o, es, ep, ho, hd, hk, _, hm⟩ := n
  refine ⟨o, ho, fun name => ?_⟩
  have e := hm name
  unfold nsFind findBy at e
  rw [← Array.find?_toList] at e
  unfold PySem.W.lookIn
  rw [hd]
  dsimp only
  split
  · rename_i y q
    rw [q] at e
    exact congrArg some e
  · rename_i q
    rw [q] at e
    have a : es.toList.any (·.refKey) = false := by
      rw [List.any_eq_false]
      intro y hy
      obtain ⟨z, t, hkey⟩ := hk y (Array.mem_toList_iff.mp hy)
      simp [DictEntry.refKey, hkey]
    have a' : ¬ es.toList.any (·.refKey) = true := by rw [a]; exact Bool.false_ne_true
    rw [if_neg a']
    exact congrArg some e
theorem ObjM.look {h : Heap} {x dx C : Addr} {mA : Str → Option Value} (I : ObjM h x dx C mA) : ∃ od, PySem.W.InstAt h x (PySem.W.instObj C dx) C (some od) ∧ ∀ name, PySem.W.lookIn name od = some (mA name) :=
  let ⟨od, ho, hl⟩ := lookIn_ns I.ns
  ⟨od, ⟨I.obj, rfl, rfl, ho⟩, hl⟩
section
variable {prog : Program} {w : World} {A : Around} {E : Value → Shared → Prop} {s : Shared} {K : PySem.W.Frag} {x dx C f : Addr} {mA : Str → Option Value} {name : Str} {v : Value}
theorem get_map {expr : Bool} {Q : Value → Shared → Prop} (X : K.In s.heap) (I : ObjM s.heap x dx C mA) (hg : PySem.W.plainGet K C name = true) (hh : PySem.W.hasDictIn K C = true)
    (ha : PySem.W.findIn K (.ref C) name = some none) (hv : mA name = some v) (hv' : PySem.W.handedIn v = true) (h : Q v { s with toks := s.toks + 1 }) :
    wpAny (model prog w) A (getAttr (.ref x) name expr) Q E s := by
  obtain ⟨od, J, hl⟩ := I.look
  exact PySem.W.get_value X J (PySem.W.plainGet_of hg).1 (PySem.W.findObj_own hh ha rfl (by rw [hl, hv])) hv' h
theorem get_meth {pl : Sem Bool} {Q : Value × List Value → Shared → Prop} (X : K.In s.heap) (I : ObjM s.heap x dx C mA) (hg : PySem.W.plainGet K C name = true)
    (hf : PySem.W.findIn K (.ref C) name = some (some (.ref f))) (ht : PySem.W.isFn K (.ref f) = true) (hv : mA name = none) (h : Q (.ref f, [.ref x]) s) :
    wpAny (model prog w) A (getMethod (.ref x) name pl) Q E s := by
  obtain ⟨od, J, hl⟩ := I.look
  exact PySem.W.method_fn X J (PySem.W.plainGet_of hg).1 (PySem.W.plainGet_of hg).2 hf (beq_iff_eq.mp ht) (by show (PySem.W.lookIn name od).map (·.isSome) = some false; rw [hl, hv]; rfl) h
theorem set_map {ns : List Str} {Q : Unit → Shared → Prop} (X : K.In s.heap) (I : ObjM s.heap x dx C mA)
    (hs : PySem.W.findIn K (.ref C) "__setattr__" = some (some (.builtin "object.__setattr__"))) (hp : PySem.W.plainOver K C = true) (ht : PySem.W.takerIn K C name = some none) (hh : PySem.W.hasDictIn K C = true)
    (hw : PySem.Within mA ns) (hsz : ns.length ≤ sizeLine)
    (h : ∀ h', ObjM h' x dx C (fun y => if y = name then some v else mA y) → Heap.SameBut dx s.heap h' → Q () { s with heap := h', toks := s.toks + 2 }) :
    wpAny (model prog w) A (setAttr (.ref x) name v) Q E s := by
  obtain ⟨od, J, hl⟩ := I.look
  refine PySem.W.set_plain X J hs (PySem.W.osa_open (s := { s with toks := s.toks + 1 }) (r := none) X J hp ht fun b => ?_)
  obtain ⟨cd, hc, hd'⟩ := PySem.W.any_some hh
  have hx : s.heap.get? x = some ⟨.ref C, some dx, .plain, #[]⟩ := I.obj
  refine wpAny_bind (wpAny_pure (wpAny_bind (wpAny_bind (wpAny_loadPart hx (wpAny_bind (PySem.W.Looks.here (s := { s with toks := s.toks + 1 }) (PySem.W.looks_clsIn X hc) ?_))))))
  rw [hd']
  refine wpAny_pure (a := some dx) (wpAny_bind (wpAny_pure (wpAny_bind ?_)))
  refine wpAny_nsSet1 (s := { s with toks := s.toks + 1 }) I.ns fun h' hn2 hs2 => ?_
  obtain ⟨oD, esD, epD, hoD, hdD, hcD⟩ := hn2.count (PySem.Within.cons name v hw)
  refine wpAny_bind (wpAny_lookBehind hoD (by rw [hdD]; exact pastItsLine_dict (Nat.le_trans hcD (by rw [List.length_cons]; omega))) ?_)
  exact wpAny_pure (h _ ⟨(hs2.2 _ (Ne.symm I.ne)).trans I.obj, hn2, I.ne⟩ hs2)
theorem make_map {R : Result → Shared → Prop} {vs : List Value} {kw : List (Str × Value)} (X : K.In s.heap) (hm : PySem.W.makesIn K C = true)
    (hi : PySem.W.findIn K (.ref C) "__init__" = some (some (.ref f))) (hf : PySem.W.typeIn K (.ref f) = some (.type "function"))
    (h : codeAny (model prog w) (A.under (.builtin "type.__call__" ⟨.ref C :: vs, kw⟩)) (.call (.ref f) ⟨.ref (s.heap.objs.size + 1) :: vs, kw⟩) (PySem.W.InitBack (s.heap.objs.size + 1) R)
      { s with heap := (s.heap.push PySem.W.emptyDict).push (PySem.W.instObj C s.heap.objs.size) }) :
    codeAny (model prog w) A (.call (.ref C) ⟨vs, kw⟩) R s := by
  obtain ⟨hh, g, d, t, os⟩ := s
  exact PySem.W.make_core (PySem.W.makes_of X hm) (PySem.W.looks_findIn X hi) (fun self => PySem.W.bind_fn X self hf) (.inl rfl) h
end
def putF (f : Str) (v : V) : List (Str × V) → List (Str × V)
  | [] => [(f, v)]
  | (g, x) :: r => if g = f then (g, v) :: r else (g, x) :: putF f v r
theorem lookup_putF (f g : Str) (v : V) : ∀ fs : List (Str × V), (putF f v fs).lookup g = if g = f then some v else fs.lookup g
  | [] => by
    show List.lookup g [(f, v)] = _
    by_cases h : g = f
    · have hb : (g == f) = true := beq_iff_eq.mpr h
      simp only [List.lookup, hb, if_pos h]
    · have hb : (g == f) = false := beq_eq_false_iff_ne.mpr h
      simp only [List.lookup, hb, if_neg h]
  | (k, x) :: r => by
    have ih := lookup_putF f g v r
    rw [show putF f v ((k, x) :: r) = (if k = f then (k, v) :: r else (k, x) :: putF f v r) from rfl]
    by_cases hk : k = f
    · rw [if_pos hk]
      by_cases h : g = k
      · have hb : (g == k) = true := beq_iff_eq.mpr h
        simp only [List.lookup, hb, if_pos (h.trans hk)]
      · have hb : (g == k) = false := beq_eq_false_iff_ne.mpr h
        simp only [List.lookup, hb, if_neg (fun e : g = f => h (e.trans hk.symm))]
    · rw [if_neg hk]
      by_cases h : g = k
      · have hb : (g == k) = true := beq_iff_eq.mpr h
        simp only [List.lookup, hb, if_neg (fun e : g = f => hk (h.symm.trans e))]
      · have hb : (g == k) = false := beq_eq_false_iff_ne.mpr h
        simp only [List.lookup, hb]
        exact ih
theorem keys_putF (f : Str) (v : V) : ∀ fs : List (Str × V), f ∈ (putF f v fs).map (·.1) ∧ ∀ g, g ∈ fs.map (·.1) → g ∈ (putF f v fs).map (·.1)
  | [] => ⟨by simp [putF], fun g h => by simp at h⟩
  | (k, x) :: r => by
    obtain ⟨i1, i2⟩ := keys_putF f v r
    rw [show putF f v ((k, x) :: r) = (if k = f then (k, v) :: r else (k, x) :: putF f v r) from rfl]
    by_cases hk : k = f
    · rw [if_pos hk]
      subst hk
      exact ⟨by simp, fun g h => by simpa using h⟩
    · rw [if_neg hk]
      refine ⟨?_, fun g h => ?_⟩
      · rw [List.map_cons]
        exact List.mem_cons_of_mem _ i1
      · rw [List.map_cons] at h ⊢
        rcases List.mem_cons.mp h with e | e
        · exact List.mem_cons.mpr (.inl e)
        · exact List.mem_cons_of_mem _ (i2 g e)
theorem length_putF (f : Str) (v : V) : ∀ fs : List (Str × V), (putF f v fs).length ≤ fs.length + 1
  | [] => by simp [putF]
  | (k, x) :: r => by
    have ih := length_putF f v r
    rw [show putF f v ((k, x) :: r) = (if k = f then (k, v) :: r else (k, x) :: putF f v r) from rfl]
    by_cases hk : k = f
    · rw [if_pos hk, List.length_cons, List.length_cons]; omega
    · rw [if_neg hk, List.length_cons, List.length_cons]; omega
theorem RelO.some_of {v : V} {o : Option Value} (r : RelO (some v) o) : ∃ u, o = some u ∧ RelV v u := by
  cases o with
  | none => exact (show False from r).elim
  | some u => exact ⟨u, rfl, r⟩
theorem RelO.none_of {o : Option Value} (r : RelO none o) : o = none := by
  cases o with
  | none => rfl
  | some u => exact (show False from r).elim
theorem handed_of {v : V} {u : Value} (r : RelV v u) : PySem.W.handedIn u = true := by
  cases v with
  | non => cases (show u = Value.none from r); rfl
  | bl b => cases (show u = Value.bool b from r); rfl
  | int i => obtain ⟨t, e⟩ := (show ∃ t, u = Value.int i t from r); cases e; rfl
  | str x => obtain ⟨t, e⟩ := (show ∃ t, u = Value.str x t from r); cases e; rfl
  | byt b => obtain ⟨t, e⟩ := (show ∃ t, u = Value.bytes b t from r); cases e; rfl
  | flt b => obtain ⟨t, e⟩ := (show ∃ t, u = Value.float b t from r); cases e; rfl
  | ref a => cases (show u = Value.ref a from r); rfl
  | ty n => cases (show u = Value.type n from r); rfl
section
variable {P : Program} {w : World} {H H' : Hp} {h h' : Heap} {a C dx : Addr} {fs fs' : List (Str × V)}
theorem ins_get (hok : HOk P w H h) (e : H a = some (.ins C dx fs)) : ∃ mA, ObjM h a dx C mA ∧ (∀ f, RelO (fs.lookup f) (mA f)) ∧ PySem.Within mA (fs.map (·.1)) ∧ fs.length ≤ 1000 ∧ H dx = some (.own a) := by
  obtain ⟨d, z, ne, ob, mA, n, r, q⟩ := (show ObjOk P w H h a (.ins C dx fs) from hok a _ e)
  exact ⟨mA, ⟨ob, n, ne⟩, r, q, z, d⟩
end
structure Cls (K : PySem.W.Frag) (C : Addr) : Prop where
  pg : PySem.W.plainGet K C Str.empty = true
  hd : PySem.W.hasDictIn K C = true
  po : PySem.W.plainOver K C = true
  sa : PySem.W.findIn K (.ref C) "__setattr__" = some (some (.builtin "object.__setattr__"))
theorem Cls.get {K : PySem.W.Frag} {C : Addr} (c : Cls K C) (f : Str) : PySem.W.plainGet K C f = true := c.pg
def NoAttr (K : PySem.W.Frag) (C : Addr) (f : Str) : Prop := PySem.W.findIn K (.ref C) f = some none
theorem NoAttr.taker {K : PySem.W.Frag} {C : Addr} {f : Str} (n : NoAttr K C f) : PySem.W.takerIn K C f = some none := by
  unfold PySem.W.takerIn
  rw [show PySem.W.findIn K (.ref C) f = some none from n]
  rfl
structure Meth (K : PySem.W.Frag) (C : Addr) (m : Str) (f : Addr) : Prop where
  at_ : PySem.W.findIn K (.ref C) m = some (some (.ref f))
  fn : PySem.W.isFn K (.ref f) = true
  kp : PySem.W.keepIn K (.ref f) = true
section
variable {X : Cx} {pins : List (Addr × Obj)} {σ : St} {H : Hp} {s : Shared} {a C dx : Addr} {fs : List (Str × V)} {f : Str} {v : V} {A : Around} {E : Value → Shared → Prop}
theorem getattr_ok {b : Bool} {Q : Value → Shared → Prop} (I : Inv X pins σ H s) (e : H a = some (.ins C dx fs)) (c : Cls X.K C) (n : NoAttr X.K C f) (l : fs.lookup f = some v)
    (h : ∀ u s', Inv X pins σ H s' → RelV v u → Q u s') : wpAny (model X.prog X.w) A (getAttr (.ref a) f b) Q E s := by
  obtain ⟨mA, O, r, _, _, _⟩ := ins_get I.hok e
  obtain ⟨u, hu, ru⟩ := RelO.some_of (v := v) (o := mA f) (by rw [← l]; exact r f)
  exact get_map I.kIn O (c.get f) c.hd n hu (handed_of ru) (h u _ (I.tok _) ru)
theorem getmeth_ok {m : Str} {g : Addr} {pl : Sem Bool} {Q : Value × List Value → Shared → Prop} (I : Inv X pins σ H s) (e : H a = some (.ins C dx fs)) (c : Cls X.K C) (k : Meth X.K C m g) (l : fs.lookup m = none)
    (h : Q (.ref g, [.ref a]) s) : wpAny (model X.prog X.w) A (getMethod (.ref a) m pl) Q E s := by
  obtain ⟨mA, O, r, _, _, _⟩ := ins_get I.hok e
  have hn : mA m = none := RelO.none_of (by rw [← l]; exact r m)
  exact get_meth I.kIn O (c.get m) k.at_ k.fn hn h
theorem setattr_ok {y : V} {u : Value} {Q : Unit → Shared → Prop} (I : Inv X pins σ H s) (e : H a = some (.ins C dx fs)) (c : Cls X.K C) (n : NoAttr X.K C f) (hl : fs.length < 1000) (ry : RelV y u)
    (h : ∀ s', Inv X pins σ (upd H a (.ins C dx (putF f y fs))) s' → Q () s') : wpAny (model X.prog X.w) A (setAttr (.ref a) f u) Q E s := by
  obtain ⟨mA, O, r, wi, _, ho⟩ := ins_get I.hok e
  have hz : (fs.map (·.1)).length ≤ sizeLine := by rw [List.length_map, sizeLine_eq]; omega
  refine set_map I.kIn O c.sa c.po n.taker c.hd wi hz fun h' O' sb => h _ ?_
  have hd : ∃ o, h'.get? dx = some o := let ⟨o, _, _, e', _⟩ := O'.ns; ⟨o, e'⟩
  refine I.write (x := a) (e := dx) (by rw [e]; exact True.intro) (.inr ho) (fun b q hb z => (sb.2 b hb).trans z) hd ?_
  refine ⟨by rw [upd_ne O.ne]; exact ho, ?_, O.ne, O'.obj, _, O'.ns, fun g => ?_, fun g hg => ?_⟩
  · have := length_putF f y fs; omega
  · show RelO ((putF f y fs).lookup g) (if g = f then some u else mA g)
    rw [lookup_putF]
    by_cases q : g = f
    · rw [if_pos q, if_pos q]; exact ry
    · rw [if_neg q, if_neg q]; exact r g
  · by_cases q : g = f
    · rw [q]; exact (keys_putF f y fs).1
    · refine (keys_putF f y fs).2 g (wi g fun z => hg ?_)
      show (if g = f then some u else mA g) = none
      rw [if_neg q]; exact z
theorem Inv.made (I : Inv X pins σ H s) : Inv X pins σ (upd (upd H s.heap.objs.size (.own (s.heap.objs.size + 1))) (s.heap.objs.size + 1) (.ins C s.heap.objs.size []))
    { s with heap := (s.heap.push PySem.W.emptyDict).push (PySem.W.instObj C s.heap.objs.size) } := by
  have e1 : (s.heap.push PySem.W.emptyDict).get? s.heap.objs.size = some PySem.W.emptyDict := Heap.get?_push_size s.heap rfl
  have e2 : ((s.heap.push PySem.W.emptyDict).push (PySem.W.instObj C s.heap.objs.size)).get? (s.heap.objs.size + 1) = some (PySem.W.instObj C s.heap.objs.size) := by
    have := Heap.get?_push_size (s.heap.push PySem.W.emptyDict) (o := PySem.W.instObj C s.heap.objs.size) rfl
    rwa [Heap.size_push] at this
  have e3 : (s.heap.push PySem.W.emptyDict).Ns s.heap.objs.size (fun _ => none) := ⟨PySem.W.emptyDict, #[], _, e1, rfl, (fun e he => absurd he (by simp)), fun _ => rfl⟩
  have I1 := I.laid (a := s.heap.objs.size) (o := .own (s.heap.objs.size + 1)) (h' := s.heap.push PySem.W.emptyDict) (t' := s.toks) (fun b u q => Heap.get?_push_of_some _ q) (Nat.le_refl _) ⟨_, e1⟩
  refine I1.laid (a := s.heap.objs.size + 1) (o := .ins C s.heap.objs.size []) (t' := s.toks) (fun b u q => Heap.get?_push_of_some _ q) (Nat.le_of_eq (Heap.size_push _ _)) ?_
  have ne : s.heap.objs.size ≠ s.heap.objs.size + 1 := Nat.ne_of_lt (Nat.lt_succ_self _)
  refine ⟨by rw [upd_ne ne, upd_same], Nat.zero_le _, ne, e2, fun _ => none, (Heap.Ns1.of_empty e3).at fun o q => Heap.get?_push_of_some _ q, fun _ => True.intro, fun y hy => absurd rfl hy⟩
theorem attr_of {prog : Program} {w : World} {env : Env} {e : Expr} {f : Str} {pos : Pos} {s : Shared} {Q : Value → Shared → Prop} (hb : attributeBase e f env (eval e env) = eval e env)
    (h : wpAny (model prog w) A (eval e env) (fun o s₁ => wpAny (model prog w) A (getAttr o f true) Q E s₁) E s) : wpAny (model prog w) A (eval (.Attribute e f pos) env) Q E s :=
  Attribute_any_ h (by rw [arm_eval_Attribute, hb])
end
def tFld (K : PySem.W.Frag) (ta : TE) (f : Str) : TE := fun σ H Q => ta σ H fun x H1 => ∃ a C dx fs v, x = .ref a ∧ H1 a = some (.ins C dx fs) ∧ Cls K C ∧ NoAttr K C f ∧ fs.lookup f = some v ∧ Q v H1
def sFld (K : PySem.W.Frag) (ta tv : TE) (f : Str) : TS := fun D σ H => tv σ H fun y H1 => ta σ H1 fun x H2 => ∃ a C dx fs, x = .ref a ∧ H2 a = some (.ins C dx fs) ∧ Cls K C ∧ NoAttr K C f ∧ fs.length < 1000 ∧
  D.nx σ (upd H2 a (.ins C dx (putF f y fs)))
def InOp (X : Cx) (op : Operator) (rd : V → V → Hp → VK → Prop) : Prop :=
  ∀ (pins : List (Addr × Obj)) (s : Shared) (σ : St) (H : Hp) (x y : V) (u v : Value) (Q : VK), Inv X pins σ H s → RelV x u → RelV y v → rd x y H Q → wpAny (model X.prog X.w) X.A (inplaceOp op u v) (EP X pins σ Q) X.xe s
def sFldAug (K : PySem.W.Frag) (ta tv : TE) (rd : V → V → Hp → VK → Prop) (f : Str) : TS := fun D σ H => ta σ H fun x H1 => ∃ a C dx fs v, x = .ref a ∧ H1 a = some (.ins C dx fs) ∧ Cls K C ∧ NoAttr K C f ∧ fs.lookup f = some v ∧
  tv σ H1 fun y H2 => rd v y H2 fun z H3 => ∃ dx' fs', H3 a = some (.ins C dx' fs') ∧ fs'.length < 1000 ∧ D.nx σ (upd H3 a (.ins C dx' (putF f z fs')))
section
variable {X : Cx} {o e value : Expr} {f : Str} {pos pos' tpos : Pos} {ta tv : TE}
theorem pe_fld (he : PE X e ta) (hb : attributeBase e f X.env (eval e X.env) = eval e X.env) : PE X (.Attribute e f pos) (tFld X.K ta f) := by
  intro pins s σ H Q I h
  refine attr_of hb (thn (he pins s σ H _ I h) fun u s1 ⟨x, H1, I1, rx, a, C, dx, fs, v, ex, ea, c, n, l, q⟩ => ?_)
  subst ex
  obtain rfl : u = Value.ref a := rx
  exact getattr_ok I1 ea c n l fun u' s2 I2 ru => ⟨v, H1, I2, ru, q⟩
theorem ps_fld (ha : PE X o ta) (hv : PE X value tv) (hs : swapsWith value (some (.Attribute o f pos')) pos.line X.env = pure false) : PS X (.Assign [.Attribute o f pos'] value pos) (sFld X.K ta tv f) := by
  intro pins s σ H D I h
  refine plainObj_wpAny_Assign_Attribute (thn (hv pins s σ H _ I h) fun u s1 ⟨y, H1, I1, ry, q⟩ => thn (ha pins s1 σ H1 _ I1 q) fun ov s2 ⟨x, H2, I2, rx, a, C, dx, fs, ex, ea, c, n, l, q2⟩ => ?_) hs
  subst ex
  obtain rfl : ov = Value.ref a := rx
  exact setattr_ok I2 ea c n l ry fun s3 I3 => ⟨σ, _, I3, q2⟩
theorem ps_fldaug {op : Operator} {rd : V → V → Hp → VK → Prop} (ha : PE X o ta) (hv : PE X value tv) (hop : InOp X op rd) : PS X (.AugAssign (.Attribute o f tpos) op value pos) (sFldAug X.K ta tv rd f) := by
  intro pins s σ H D I h
  refine wpAny_AugAssign_AttributeAny (thn (ha pins s σ H _ I h) fun ov s1 ⟨x, H1, I1, rx, a, C, dx, fs, v, ex, ea, c, n, l, q⟩ => ?_)
  subst ex
  obtain rfl : ov = Value.ref a := rx
  refine getattr_ok I1 ea c n l fun u s2 I2 ru => thn (hv pins s2 σ H1 _ I2 q) fun w3 s3 ⟨y, H2, I3, ry, q3⟩ => thn (hop pins s3 σ H2 v y u w3 _ I3 ru ry q3) fun w4 s4 ⟨z, H3, I4, rz, dx', fs', ea', l', q4⟩ => ?_
  exact setattr_ok I4 ea' c n l' rz fun s5 I5 => ⟨σ, _, I5, q4⟩
def rAdd : V → V → Hp → VK → Prop := fun x y H Q => ∃ i j, x = .int i ∧ y = .int j ∧ Q (.int (i + j)) H
theorem in_add : InOp X .Add rAdd := by
  rintro pins s σ H x y u v Q I rx ry ⟨i, j, rfl, rfl, q⟩
  obtain ⟨t, rfl⟩ := (show ∃ t, u = Value.int i t from rx)
  obtain ⟨t', rfl⟩ := (show ∃ t', v = Value.int j t' from ry)
  exact PyProof.Rows.iadd_int ⟨.int (i + j), H, I.tok _, ⟨_, rfl⟩, q⟩
theorem methcall_of {pl : Sem Bool} {m : Str} {apos : Pos} {args : List Expr} {pins : List (Addr × Obj)} {s : Shared} {σ : St} {H : Hp} {Q : Value → Shared → Prop} {te : TE} (he : PE X e te) (I : Inv X pins σ H s)
    (h : te σ H fun x H1 => ∃ a C dx fs g, x = .ref a ∧ H1 a = some (.ins C dx fs) ∧ Cls X.K C ∧ Meth X.K C m g ∧ fs.lookup m = none ∧
      ∀ s1, Inv X pins σ H1 s1 → wpAny (model X.prog X.w) X.A (callWith pos (.ref g) [.ref a] (backTo pos (starEach args X.env)) (backToKw pos (keywordEach [] X.env))) Q X.xe s1)
    (ht : eval (.Call (.Attribute e m apos) args [] pos) X.env = (do
      let ov ← eval e X.env
      standAt apos.atName
      let (f, first) ← holding [ov] (getMethod ov m pl)
      callWith pos f first (backTo pos (starEach args X.env)) (backToKw pos (keywordEach [] X.env)))) :
    wpAny (model X.prog X.w) X.A (eval (.Call (.Attribute e m apos) args [] pos) X.env) Q X.xe s := by
  refine PySem.W.methodCall_KW (pl := pl) (thn (he pins s σ H _ I h) fun u s1 ⟨x, H1, I1, rx, a, C, dx, fs, g, ex, ea, c, k, l, q⟩ => ?_) ht
  subst ex
  obtain rfl : u = Value.ref a := rx
  exact getmeth_ok I1 ea c k l (q s1 I1)
end
section
variable {X : Cx} {pins : List (Addr × Obj)} {σ : St} {H : Hp} {s : Shared} {A : Around} {E : Value → Shared → Prop} {Q : Value → Shared → Prop} {c : Value} {b : Bool}
inductive TyOf (K : PySem.W.Frag) (H : Hp) : V → Value → Prop where
  | non : TyOf K H .non (.type "NoneType")
  | bl (x : Bool) : TyOf K H (.bl x) (.type "bool")
  | int (i : Int) : TyOf K H (.int i) (.type "int")
  | str (x : Str) : TyOf K H (.str x) (.type "str")
  | flt (x : UInt64) : TyOf K H (.flt x) (.type "float")
  | lst {a : Addr} {xs : List V} (e : H a = some (.lst xs)) : TyOf K H (.ref a) (.type "list")
  | frz {a : Addr} {o : Obj} {xs : List V} (e : H a = some (.frz o (.lst xs))) : TyOf K H (.ref a) (.type "list")
  | tup {a : Addr} {xs : List V} (e : H a = some (.tup xs)) : TyOf K H (.ref a) (.type "tuple")
  | dK {a : Addr} {kvs : List (Key × V)} (e : H a = some (.dK kvs)) : TyOf K H (.ref a) (.type "dict")
  | dT {a : Addr} {kvs : List (List Key × V)} (e : H a = some (.dT kvs)) : TyOf K H (.ref a) (.type "dict")
  | ins {a C dx : Addr} {fs : List (Str × V)} (e : H a = some (.ins C dx fs)) (cl : Cls K C) (ha : PySem.W.findIn K (.ref C) "__class__" = some (some (.builtin "object.__class__")))
      (hn : PySem.W.specialIn K (.builtin "object.__class__") "__get__" = some (some (.builtin "getset_descriptor.__get__"))) (htk : PySem.W.takesIn K (.builtin "object.__class__") = some true)
      (hm : PySem.W.mroIn K C (.type "object") = some true) : TyOf K H (.ref a) (.ref C)
theorem isinst_ok {x : V} {u t : Value} (I : Inv X pins σ H s) (rx : RelV x u) (ty : TyOf X.K H x t) (e : PySem.W.kitOne X.K t c = some b) (h : ∀ tk, Q (.bool b) { s with toks := tk }) :
    wpAny (model X.prog X.w) A (call (.builtin "isinstance") [u, c]) Q E s := by
  cases ty with
  | non => cases (show u = Value.none from rx); exact PySem.W.kia_one PySem.W.kitx_none I.kIn True.intro e (fun z => nomatch z) h
  | bl y => cases (show u = Value.bool y from rx); exact PySem.W.kia_one PySem.W.kitx_bool I.kIn True.intro e (fun z => nomatch z) h
  | int i => obtain ⟨t, q⟩ := (show ∃ t, u = Value.int i t from rx); cases q; exact PySem.W.kia_one PySem.W.kitx_int I.kIn True.intro e (fun z => nomatch z) h
  | str y => obtain ⟨t, q⟩ := (show ∃ t, u = Value.str y t from rx); cases q; exact PySem.W.kia_one PySem.W.kitx_str I.kIn True.intro e (fun z => nomatch z) h
  | flt y => obtain ⟨t, q⟩ := (show ∃ t, u = Value.float y t from rx); cases q; exact PySem.W.kia_one PySem.W.kitx_float I.kIn True.intro e (fun z => nomatch z) h
  | @lst a xs ea =>
    cases (show u = Value.ref a from rx)
    obtain ⟨_, _, n, _, h1⟩ := (show ObjOk X.prog X.w H s.heap a (.lst xs) from I.hok a _ ea)
    exact PySem.W.kia_one PySem.W.kitx_list I.kIn ⟨_, h1, rfl⟩ e (fun z => nomatch z) h
  | @frz a ob xs ea =>
    cases (show u = Value.ref a from rx)
    obtain ⟨_, _, _, n, _, h1⟩ := (show ObjOk X.prog X.w H s.heap a (.frz ob (.lst xs)) from I.hok a _ ea)
    exact PySem.W.kia_one PySem.W.kitx_list I.kIn ⟨_, h1, rfl⟩ e (fun z => nomatch z) h
  | @tup a xs ea =>
    cases (show u = Value.ref a from rx)
    obtain ⟨_, _, _, p⟩ := (show ObjOk X.prog X.w H s.heap a (.tup xs) from I.hok a _ ea)
    obtain ⟨o, h1, h2, _⟩ := p
    exact PySem.W.kia_one PySem.W.kitx_tuple I.kIn ⟨o, h1, h2⟩ e (fun z => nomatch z) h
  | @dK a kvs ea =>
    cases (show u = Value.ref a from rx)
    obtain ⟨_, _, vs, _, p⟩ := (show ObjOk X.prog X.w H s.heap a (.dK kvs) from I.hok a _ ea)
    obtain ⟨o, es, ep, h1, h2, _⟩ := p
    exact PySem.W.kia_one PySem.W.kitx_dict I.kIn ⟨o, h1, h2.1⟩ e (fun z => nomatch z) h
  | @dT a kvs ea =>
    cases (show u = Value.ref a from rx)
    obtain ⟨_, _, xs, _, o, es, ep, h1, h2, _⟩ := (show ObjOk X.prog X.w H s.heap a (.dT kvs) from I.hok a _ ea)
    exact PySem.W.kia_one PySem.W.kitx_dict I.kIn ⟨o, h1, h2.1⟩ e (fun z => nomatch z) h
  | @ins a C dx fs ea cl ha hn htk hm =>
    cases (show u = Value.ref a from rx)
    obtain ⟨mA, O, _⟩ := ins_get I.hok ea
    obtain ⟨od, J, _⟩ := O.look
    exact PySem.W.kia_one (PySem.W.kitx_own (cl.get _) cl.hd ha hn htk hm) I.kIn J e (fun z => nomatch z) h
end
end L2
namespace L2
open PySem PySem.Spec PyProof.Rows
structure Room (k : Nat) (A : Around) : Prop where
  hd : A.handled = none
  dp : A.depth + 3 * k + 5 < recursionLimit
  un : A.units + 16 * k + 200 < cLine
theorem Room.mono {j k : Nat} {A : Around} (r : Room k A) (h : j ≤ k) : Room j A := ⟨r.hd, by have := r.dp; omega, by have := r.un; omega⟩
theorem Room.deeper {k : Nat} {A : Around} (r : Room (k + 1) A) (env : Env) : Room k (A.deeper env) :=
  ⟨r.hd, by have := r.dp; show A.depth + 1 + 3 * k + 5 < _; omega, by have := r.un; show A.units + 3 + 16 * k + 200 < _; omega⟩
theorem make_depth {A : Around} {C : Addr} {us : List Value} {kw : List (Str × Value)} : (A.under (.builtin "type.__call__" ⟨.ref C :: us, kw⟩)).depth = A.depth + 1 := by
  first | rfl | simp [Around.under, Code.weight, Code.isCreation, Code.isGuard, Code.isCaller, Code.frames, Code.isFrame, guardIds]
theorem make_units {A : Around} {C : Addr} {us : List Value} {kw : List (Str × Value)} : (A.under (.builtin "type.__call__" ⟨.ref C :: us, kw⟩)).units = A.units + 1 := by
  first | rfl | simp [Around.under, Code.cUnits, Code.frames, Code.isFrame]
theorem Room.make {k : Nat} {A : Around} (r : Room (k + 1) A) (C : Addr) (us : List Value) (kw : List (Str × Value)) : Room k (A.under (.builtin "type.__call__" ⟨.ref C :: us, kw⟩)) :=
  ⟨r.hd, by have := r.dp; rw [make_depth]; omega, by have := r.un; rw [make_units]; omega⟩
theorem Room.depth {k : Nat} {A : Around} (r : Room k A) : A.depth < recursionLimit := by have := r.dp; omega
theorem Room.units {k : Nat} {A : Around} (r : Room k A) : A.units + 64 < cLine := by have := r.un; omega
def tNil : TA := fun _ H Q => Q [] H
def tCons (ta : TE) (tr : TA) : TA := fun σ H Q => ta σ H fun x H1 => tr σ H1 fun xs H2 => Q (x :: xs) H2
section
variable {X : Cx} {e : Expr} {es : List Expr} {te : TE} {t : TA} {pos : Pos}
theorem pa_nil : PA X [] tNil := fun _ _ _ _ H Q I h => Calls.spliced_nil ⟨[], H, I, .nil, h⟩
theorem pa_cons (ha : PE X e te) (hr : PA X es t) (hs : starEach (e :: es) X.env = (false, eval e X.env) :: starEach es X.env := by rfl) : PA X (e :: es) (tCons te t) := by
  intro pos pins s σ H Q I h
  rw [hs]
  show wpAny _ _ (spliced ((false, eval e X.env) :: backTo pos (starEach es X.env))) _ _ s
  refine Calls.spliced_cons (thn (ha pins s σ H _ I h) fun u s1 ⟨x, H1, I1, r1, q1⟩ => ?_)
  exact thn (hr pos pins s1 σ H1 _ I1 q1) fun us s2 ⟨xs, H2, I2, r2, q2⟩ => ⟨x :: xs, H2, I2, .cons r1 r2, q2⟩
def tTup (t : TA) : TE := fun σ H Q => t σ H fun xs H1 => xs.length ≤ sizeLine ∧ ∀ p, H1 p = none → Q (.ref p) (upd H1 p (.tup xs))
def tLst (t : TA) : TE := fun σ H Q => t σ H fun xs H1 => xs.length ≤ sizeLine ∧ ∀ p, H1 p = none → Q (.ref p) (upd H1 p (.lst xs))
theorem pe_tup {x1} (h : PA X es t) : PE X (.Tuple es x1 pos) (tTup t) := by
  intro pins s σ H Q I hq
  refine wpAny_Tuple_spliced (thn (h pos pins s σ H _ I hq) fun us s1 ⟨xs, H1, I1, r, z, q⟩ => ⟨by rw [← r.length]; exact z, ?_⟩)
  have hf : H1 s1.heap.objs.size = none := I1.hok.fresh (Nat.le_refl _)
  refine ⟨.ref s1.heap.objs.size, upd H1 s1.heap.objs.size (.tup xs), I1.laid (t' := s1.toks) (fun b u e => Heap.get?_push_of_some _ e) (Nat.le_refl _) ?_, rfl, q _ hf⟩
  exact ⟨z, us, r, ⟨_, Heap.get?_push_size _ rfl, rfl, _, rfl⟩⟩
theorem pe_lst (h : PA X es t) : PE X (.List es pos) (tLst t) := by
  intro pins s σ H Q I hq
  refine wpAny_List_spliced (thn (h pos pins s σ H _ I hq) fun us s1 ⟨xs, H1, I1, r, z, q⟩ => ⟨by rw [← r.length]; exact z, ?_⟩)
  have hf : H1 s1.heap.objs.size = none := I1.hok.fresh (Nat.le_refl _)
  refine ⟨.ref s1.heap.objs.size, upd H1 s1.heap.objs.size (.lst xs), I1.laid (t' := s1.toks) (fun b u e => Heap.get?_push_of_some _ e) (Nat.le_refl _) ?_, rfl, q _ hf⟩
  exact ⟨z, us, 0, r, Heap.get?_push_size _ rfl⟩
end
abbrev Sp := List V → Hp → VK → XK → Prop
abbrev CXT := List Env → Hp → Shared → XK → Value → Shared → Prop
structure Env0 (P : Program) (w : World) (K : PySem.W.Frag) (mg : Str → Option Value) (base : Heap) (A : Around) (outer : List Env) (s : Shared) (H : Hp) : Prop where
  frames : A.frames = some outer
  mod : Mod K mg base
  bs : ∀ b o, base.get? b = some o → s.heap.get? b = some o ∧ H b = none
  bsz : base.objs.size ≤ s.heap.objs.size
  funs : s.heap.FunFrames base outer
  frf : ∀ b ∈ frs outer, H b = none
  hok : HOk P w H s.heap
  bare : AllBare s.gens
def CE (outer : List Env) (P : Program) (w : World) (H : Hp) (s : Shared) (Q : VK) (u : Value) (s' : Shared) : Prop :=
  ∃ v H', s'.os = s.os ∧ AllBare s'.gens ∧ Un (frs outer) [] H H' s.heap s'.heap ∧ HOk P w H' s'.heap ∧ RelV v u ∧ Q v H'
def CR (CX : CXT) (outer : List Env) (P : Program) (w : World) (H : Hp) (s : Shared) (Q : VK) (E : XK) (r : Result) (s' : Shared) : Prop :=
  match r with
  | .ok (.ret u) => CE outer P w H s Q u s'
  | .ok _ => False
  | .error e => CX outer H s E e s'
structure FnOk (P : Program) (w : World) (K : PySem.W.Frag) (mg : Str → Option Value) (base : Heap) (CX : CXT) (k : Nat) (f : Addr) (fd : FuncData) (ps : List Str) (sp : Sp) : Prop where
  len : ∀ vs H Q E, sp vs H Q E → vs.length = ps.length
  run : ∀ (A : Around) (outer : List Env) (s : Shared) (H : Hp) (args : Args) (us : List Value) (vs : List V) (Q : VK) (E : XK), Room k A → Env0 P w K mg base A outer s H → BindsTo s fd args (ps.zip us) → Vals vs us → sp vs H Q E →
    codeAny (model P w) A (.call (.ref f) args) (CR CX outer P w H s Q E) s
theorem Env0.make {P : Program} {w : World} {K : PySem.W.Frag} {mg : Str → Option Value} {base : Heap} {A : Around} {outer : List Env} {s : Shared} {H : Hp} (e : Env0 P w K mg base A outer s H) (C : Addr) (us : List Value) (kw : List (Str × Value)) :
    Env0 P w K mg base (A.under (.builtin "type.__call__" ⟨.ref C :: us, kw⟩)) outer s H := ⟨by first | exact e.frames | (simpa [Around.under, Code.envs, Code.isFrame, pushEnvs] using e.frames), e.mod, e.bs, e.bsz, e.funs, e.frf, e.hok, e.bare⟩
section
variable {X : Cx} {pins : List (Addr × Obj)} {σ : St} {H : Hp} {s s' : Shared}
theorem Inv.env0 (I : Inv X pins σ H s) : Env0 X.prog X.w X.K X.mg X.base X.A X.stack s H :=
  ⟨I.ok.frames, I.ok.mod, I.bs, Nat.le_trans I.ok.bsz I.sz, I.stack, I.stkFree, I.hok, I.bare⟩
theorem Inv.after {Q : VK} {u : Value} (I : Inv X pins σ H s) (h : CE X.stack X.prog X.w H s Q u s') : EP X pins σ Q u s' := by
  obtain ⟨v, H', os, bare, un, hok, r, q⟩ := h
  obtain ⟨hh, g, d, t, os'⟩ := s'
  obtain rfl : os' = s.os := os
  exact ⟨v, H', I.call (h' := hh) (g' := g) (d' := d) (t' := t) (ch := []) un hok bare (fun b z => absurd z (by simp)), r, q⟩
end
def tCall (sp : Sp) (dvs : List V) (E : XK) (t : TA) : TE := fun σ H Q => t σ H fun vs H1 => sp (vs ++ dvs) H1 Q E
def tMeth (C : Addr) (m : Str) (sp : Sp) (dvs : List V) (E : XK) (ta : TE) (t : TA) : TE := fun σ H Q => ta σ H fun x H1 => ∃ a dx fs, x = .ref a ∧ H1 a = some (.ins C dx fs) ∧ fs.lookup m = none ∧
  t σ H1 fun vs H2 => sp (x :: (vs ++ dvs)) H2 Q E
def tMake (C : Addr) (sp : Sp) (dvs : List V) (E : XK) (t : TA) : TE := fun σ H Q => t σ H fun vs H1 => ∀ x dx, H1 x = none → H1 dx = none → dx ≠ x →
  sp (.ref x :: (vs ++ dvs)) (upd (upd H1 dx (.own x)) x (.ins C dx [])) (fun v H2 => v = .non ∧ Q (.ref x) H2) E
def Binds (K : PySem.W.Frag) (fd : FuncData) (ps : List Str) (ds : List Value) : Prop :=
  ∀ (s : Shared) (us : List Value), K.In s.heap → (us ++ ds).length = ps.length → BindsTo s fd ⟨us, []⟩ (ps.zip (us ++ ds))
theorem Binds.all {K : PySem.W.Frag} {fd : FuncData} {ps : List Str} (h : ∀ us : List Value, us.length = ps.length → bindArgs fd ⟨us, []⟩ = pure (ps.zip us)) : Binds K fd ps [] := fun s us _ hl => by
  rw [List.append_nil] at hl ⊢
  exact .of_eq (h us hl)
def Passes (CX : CXT) (X : Cx) (E : XK) : Prop := ∀ (pins : List (Addr × Obj)) (σ : St) (H : Hp) (s : Shared) (e : Value) (s' : Shared), Inv X pins σ H s → CX X.stack H s E e s' → X.xe e s'
section
variable {X : Cx} {CX : CXT} {k : Nat} {f C : Addr} {fd : FuncData} {ps : List Str} {sp : Sp} {dvs : List V} {ds : List Value} {E : XK} {x m : Str} {p pos apos : Pos} {e o : Expr} {es : List Expr} {ta : TE} {t : TA}
theorem run_fn {pins : List (Addr × Obj)} {σ : St} {H : Hp} {s : Shared} {Q : VK} {us : List Value} {vs : List V} (F : FnOk X.prog X.w X.K X.mg X.base CX k f fd ps sp) (hr : Room k X.A) (hb : Binds X.K fd ps ds) (hd : Vals dvs ds) (hx : Passes CX X E)
    (I : Inv X pins σ H s) (r : Vals vs us) (h : sp (vs ++ dvs) H Q E) : wpAny (model X.prog X.w) X.A (call (.ref f) us) (EP X pins σ Q) X.xe s := by
  have r2 : Vals (vs ++ dvs) (us ++ ds) := r.append hd
  have hl : (us ++ ds).length = ps.length := by rw [← r2.length]; exact F.len _ _ _ _ h
  refine wpAny_call (codeAny_mono (F.run X.A X.stack s H ⟨us, []⟩ (us ++ ds) (vs ++ dvs) Q E hr I.env0 (hb s us I.kIn hl) r2 h) fun r s' hq => ?_)
  cases r with
  | error e => exact hx pins σ H s e s' I hq
  | ok fl =>
    cases fl with
    | ret u => exact I.after hq
    | next => exact False.elim hq
    | brk => exact False.elim hq
    | cont => exact False.elim hq
theorem pe_call (F : FnOk X.prog X.w X.K X.mg X.base CX k f fd ps sp) (hr : Room k X.A) (hg : Gl X x) (hm : X.mg x = some (.ref f)) (hk : PySem.W.keepIn X.K (.ref f) = true) (hb : Binds X.K fd ps ds) (hd : Vals dvs ds) (hx : Passes CX X E)
    (ha : PA X (e :: es) t) (hdb : (x == ("__debug__" : Str)) = false := by decide) (he : starEach (e :: es) X.env = (false, eval e X.env) :: starEach es X.env := by rfl) (hpl : (backTo pos (starEach es X.env)).any (·.1) = false := by rfl) :
    PE X (.Call (.Name x p) (e :: es) [] pos) (tCall sp dvs E t) := by
  intro pins s σ H Q I h
  refine wpAny_Call_Name_kw (ld_glob I hg hm ?_ hdb)
  refine PySem.W.callWith_K (h₀ := X.base) I.ok.mod.kin hk (thn (ha pos pins s σ H _ I h) fun us s1 ⟨vs, H1, I1, r, q⟩ => ⟨I1.kIn, ?_⟩) he hpl
  exact run_fn F hr hb hd hx I1 r q
theorem pe_meth {pl : Sem Bool} (he : PE X o ta) (c : Cls X.K C) (hm : Meth X.K C m f) (F : FnOk X.prog X.w X.K X.mg X.base CX k f fd ps sp) (hr : Room k X.A) (hb : Binds X.K fd ps ds) (hd : Vals dvs ds) (hx : Passes CX X E) (ha : PA X (e :: es) t)
    (hst : starEach (e :: es) X.env = (false, eval e X.env) :: starEach es X.env := by rfl) (hpl : (backTo pos (starEach es X.env)).any (·.1) = false := by rfl)
    (ht : eval (.Call (.Attribute o m apos) (e :: es) [] pos) X.env = (do
      let ov ← eval o X.env
      standAt apos.atName
      let (f, first) ← holding [ov] (getMethod ov m pl)
      callWith pos f first (backTo pos (starEach (e :: es) X.env)) (backToKw pos (keywordEach [] X.env))) := by rfl) :
    PE X (.Call (.Attribute o m apos) (e :: es) [] pos) (tMeth C m sp dvs E ta t) := by
  intro pins s σ H Q I h
  refine PySem.W.methodCall_KW (pl := pl) (thn (he pins s σ H _ I h) fun u s1 ⟨x, H1, I1, rx, a, dx, fs, ex, ea, l, q⟩ => ?_) ht
  subst ex
  obtain rfl : u = Value.ref a := rx
  refine getmeth_ok I1 ea c hm l ?_
  refine PySem.W.callWith_K (first := [.ref a]) (h₀ := X.base) I.ok.mod.kin hm.kp (thn (ha pos pins s1 σ H1 _ I1 q) fun us s2 ⟨vs, H2, I2, r, q2⟩ => ⟨I2.kIn, ?_⟩) hst hpl
  exact run_fn (us := .ref a :: us) (vs := .ref a :: vs) F hr hb hd hx I2 (.cons rfl r) q2
theorem pe_meth0 {pl : Sem Bool} (he : PE X o ta) (c : Cls X.K C) (hm : Meth X.K C m f) (F : FnOk X.prog X.w X.K X.mg X.base CX k f fd ps sp) (hr : Room k X.A) (hb : Binds X.K fd ps ds) (hd : Vals dvs ds) (hx : Passes CX X E)
    (ht : eval (.Call (.Attribute o m apos) [] [] pos) X.env = (do
      let ov ← eval o X.env
      standAt apos.atName
      let (f, first) ← holding [ov] (getMethod ov m pl)
      callWith pos f first (backTo pos (starEach [] X.env)) (backToKw pos (keywordEach [] X.env))) := by rfl) :
    PE X (.Call (.Attribute o m apos) [] [] pos) (tMeth C m sp dvs E ta tNil) := by
  intro pins s σ H Q I h
  refine PySem.W.methodCall_KW (pl := pl) (thn (he pins s σ H _ I h) fun u s1 ⟨x, H1, I1, rx, a, dx, fs, ex, ea, l, q⟩ => ?_) ht
  subst ex
  obtain rfl : u = Value.ref a := rx
  refine getmeth_ok I1 ea c hm l ?_
  exact PySem.W.callWith_K0 (first := [.ref a]) I1.kIn hm.kp (run_fn (us := [.ref a]) (vs := [.ref a]) F hr hb hd hx I1 (.cons rfl .nil) q)
structure Mk (K : PySem.W.Frag) (C f : Addr) : Prop where
  makes : PySem.W.makesIn K C = true
  init : PySem.W.findIn K (.ref C) "__init__" = some (some (.ref f))
  fn : PySem.W.isFn K (.ref f) = true
  kp : PySem.W.keepIn K (.ref C) = true
theorem run_make {pins : List (Addr × Obj)} {σ : St} {H : Hp} {s : Shared} {Q : VK} {us : List Value} {vs : List V} (M : Mk X.K C f) (F : FnOk X.prog X.w X.K X.mg X.base CX k f fd ps sp) (hr : Room (k + 1) X.A) (hb : Binds X.K fd ps ds) (hd : Vals dvs ds)
    (hx : Passes CX X E) (I : Inv X pins σ H s) (r : Vals vs us)
    (h : ∀ x dx, H x = none → H dx = none → dx ≠ x → sp (.ref x :: (vs ++ dvs)) (upd (upd H dx (.own x)) x (.ins C dx [])) (fun v H2 => v = .non ∧ Q (.ref x) H2) E) :
    wpAny (model X.prog X.w) X.A (call (.ref C) us) (EP X pins σ Q) X.xe s := by
  have hq := h (s.heap.objs.size + 1) s.heap.objs.size (I.hok.fresh (Nat.le_succ _)) (I.hok.fresh (Nat.le_refl _)) (Nat.ne_of_lt (Nat.lt_succ_self _))
  have I2 := Inv.made (C := C) I
  have r2 : Vals (V.ref (s.heap.objs.size + 1) :: (vs ++ dvs)) (Value.ref (s.heap.objs.size + 1) :: (us ++ ds)) := .cons rfl (r.append hd)
  have hl : (Value.ref (s.heap.objs.size + 1) :: us ++ ds).length = ps.length := by
    have e := r2.length
    rw [F.len _ _ _ _ hq] at e
    exact e.symm
  refine wpAny_call (make_map (f := f) I.kIn M.makes M.init (beq_iff_eq.mp M.fn) (codeAny_mono (F.run _ X.stack _ _ ⟨Value.ref (s.heap.objs.size + 1) :: us, []⟩ (Value.ref (s.heap.objs.size + 1) :: (us ++ ds)) _ _ E (hr.make C us [])
    (I2.env0.make C us []) (hb _ (Value.ref (s.heap.objs.size + 1) :: us) I2.kIn hl) r2 hq) fun r s' hq' => ?_))
  cases r with
  | error e => exact hx pins σ _ _ e s' I2 hq'
  | ok fl =>
    cases fl with
    | ret u =>
      obtain ⟨v, H', I3, rv, ev, q3⟩ := I2.after hq'
      subst ev
      exact ⟨rv, ⟨V.ref (s.heap.objs.size + 1), H', I3, rfl, q3⟩⟩
    | next => exact False.elim hq'
    | brk => exact False.elim hq'
    | cont => exact False.elim hq'
theorem pe_make (M : Mk X.K C f) (F : FnOk X.prog X.w X.K X.mg X.base CX k f fd ps sp) (hr : Room (k + 1) X.A) (hg : Gl X x) (hm : X.mg x = some (.ref C)) (hb : Binds X.K fd ps ds) (hd : Vals dvs ds) (hx : Passes CX X E)
    (ha : PA X (e :: es) t) (hdb : (x == ("__debug__" : Str)) = false := by decide) (he : starEach (e :: es) X.env = (false, eval e X.env) :: starEach es X.env := by rfl) (hpl : (backTo pos (starEach es X.env)).any (·.1) = false := by rfl) :
    PE X (.Call (.Name x p) (e :: es) [] pos) (tMake C sp dvs E t) := by
  intro pins s σ H Q I h
  refine wpAny_Call_Name_kw (ld_glob I hg hm ?_ hdb)
  refine PySem.W.callWith_K (h₀ := X.base) I.ok.mod.kin M.kp (thn (ha pos pins s σ H _ I h) fun us s1 ⟨vs, H1, I1, r, q⟩ => ⟨I1.kIn, ?_⟩) he hpl
  exact run_make M F hr hb hd hx I1 r q
end
section
variable {X : Cx} {CX : CXT} {k : Nat} {f C : Addr} {fd : FuncData} {ps ks : List Str} {sp : Sp} {E : XK} {x m : Str} {p pos apos kpos : Pos} {e o : Expr} {es : List Expr} {kws : List Keyword} {te ta : TE} {t tk : TA} {nm : Option Str}
variable {g : List Value → List Value → List Value} {gV : List V → List V → List V}
end
structure FnScope (N P : List Str) (sc : Scope) : Prop where
  kind : sc.kind = .function
  co : sc.isCoroutine = false
  gen : sc.isGenerator = false
  nd : N.Nodup
  pre : N.take P.length = P
  par : ∀ x ∈ P, sc.names.lookup x = some .local ∨ sc.names.lookup x = some .cell
  nofree : ∀ y ∈ sc.names, y.2 ≠ .free
theorem bindL_out {kindOf : Str → Option NameKind} {x : Str} : ∀ {binds : List (Str × Value)} {m : Str → Option Value}, (∀ v, (x, v) ∉ binds) → bindL kindOf binds m x = m x
  | [], _, _ => rfl
  | (n, v) :: r, m, h => by
    unfold bindL
    rw [bindL_out fun w hw => h w (List.mem_cons_of_mem _ hw)]
    split
    · have : x ≠ n := by rintro rfl; exact h v List.mem_cons_self
      simp [this]
    · rfl
theorem bindC_out {kindOf : Str → Option NameKind} {x : Str} : ∀ {binds : List (Str × Value)} {m : Str → Option Value}, (∀ v, (x, v) ∉ binds) → bindC kindOf binds m x = m x
  | [], _, _ => rfl
  | (n, v) :: r, m, h => by
    unfold bindC
    rw [bindC_out fun w hw => h w (List.mem_cons_of_mem _ hw)]
    split
    · rfl
    · have : x ≠ n := by rintro rfl; exact h v List.mem_cons_self
      simp [this]
theorem bindL_get {kindOf : Str → Option NameKind} {x : Str} {v : Value} : ∀ {P : List Str} {vs : List Value} {i : Nat} {m : Str → Option Value}, P.Nodup → P[i]? = some x → vs[i]? = some v → kindOf x = some .local →
    bindL kindOf (P.zip vs) m x = some v
  | [], _, _, _, _, h, _, _ => by simp at h
  | _ :: _, [], _, _, _, _, h, _ => by simp at h
  | p :: P, w :: vs, 0, m, nd, h1, h2, hk => by
    simp at h1 h2; subst h1; subst h2
    show bindL kindOf ((p, w) :: P.zip vs) m p = _
    unfold bindL
    rw [bindL_out fun v hv => (List.nodup_cons.mp nd).1 (List.of_mem_zip hv).1, if_pos hk]
    simp
  | p :: P, w :: vs, i + 1, m, nd, h1, h2, hk => by
    show bindL kindOf ((p, w) :: P.zip vs) m x = _
    unfold bindL
    exact bindL_get (i := i) (List.nodup_cons.mp nd).2 (by simpa using h1) (by simpa using h2) hk
theorem bindC_get {kindOf : Str → Option NameKind} {x : Str} {v : Value} : ∀ {P : List Str} {vs : List Value} {i : Nat} {m : Str → Option Value}, P.Nodup → P[i]? = some x → vs[i]? = some v → kindOf x ≠ some .local →
    bindC kindOf (P.zip vs) m x = some v
  | [], _, _, _, _, h, _, _ => by simp at h
  | _ :: _, [], _, _, _, _, h, _ => by simp at h
  | p :: P, w :: vs, 0, m, nd, h1, h2, hk => by
    simp at h1 h2; subst h1; subst h2
    show bindC kindOf ((p, w) :: P.zip vs) m p = _
    unfold bindC
    rw [bindC_out fun v hv => (List.nodup_cons.mp nd).1 (List.of_mem_zip hv).1, if_neg hk]
    simp
  | p :: P, w :: vs, i + 1, m, nd, h1, h2, hk => by
    show bindC kindOf ((p, w) :: P.zip vs) m x = _
    unfold bindC
    exact bindC_get (i := i) (List.nodup_cons.mp nd).2 (by simpa using h1) (by simpa using h2) hk
def start (N : List Str) (vs : List V) : St := vs.map some ++ List.replicate (N.length - vs.length) none
def cxOf (CX : CXT) (P : Program) (w : World) (K : PySem.W.Frag) (mg : Str → Option Value) (base : Heap) (N : List Str) (qual : Str) (scope : Scope) (f : Addr) (cd : Value) (A : Around) (outer : List Env) (s : Shared) (H : Hp) (E : XK) : Cx where
  prog := P
  w := w
  K := K
  mg := mg
  base := base
  A := A.deeper (envOfC qual scope s.heap.objs.size f cd)
  N := N
  s₀ := s
  H₀ := H
  env := envOfC qual scope s.heap.objs.size f cd
  outer := outer
  stack := envOfC qual scope s.heap.objs.size f cd :: outer
  ex := []
  calm := true
  fn := fun _ => true
  pn := []
  xe := fun e s' => wpAny (model P w) (A.deeper (envOfC qual scope s.heap.objs.size f cd)) (leaving (envOfC qual scope s.heap.objs.size f cd) e) (fun _ s'' => CX outer H s E e s'') (fun e' s'' => CX outer H s E e' s'') s'
theorem cell_has {sc : Scope} {n : Nat} {x : Str} (h : sc.names.lookup x = some .cell) : ∃ c, (cellsFrom n sc.names []).lookup x = some c := by
  have q := PySem.W.cellsFrom_some sc.names n [] (.inl h)
  exact Option.isSome_iff_exists.mp q
theorem inv_start {CX : CXT} {P : Program} {w : World} {K : PySem.W.Frag} {mg : Str → Option Value} {base : Heap} {N ps : List Str} {qual : Str} {scope : Scope} {f : Addr} {cd : Value} {A : Around} {outer : List Env} {s s1 : Shared} {H : Hp} {E : XK} {us : List Value} {vs : List V}
    (S : FnScope N ps scope) (hd : A.handled = none) (e0 : Env0 P w K mg base A outer s H) (hl : vs.length = ps.length) (r : Vals vs us)
    (x : InCallC s s.heap.objs.size (bindL (envOfC qual scope s.heap.objs.size f cd).kindOf (ps.zip us) fun _ => none) (cellsFrom (s.heap.objs.size + 1) scope.names []) (bindC (envOfC qual scope s.heap.objs.size f cd).kindOf (ps.zip us) fun _ => none) s1) :
    Inv (cxOf CX P w K mg base N qual scope f cd A outer s H E) [] (start N vs) H s1 := by
  have hpl : ps.length ≤ N.length := by have := congrArg List.length S.pre; rw [List.length_take] at this; omega
  obtain ⟨h1, tk, rfl, hk⟩ := x.done
  have noA : ∀ b : Addr, b ∉ (cxOf CX P w K mg base N qual scope f cd A outer s H E).ex := fun b z => absurd (show b ∈ ([] : List Addr) from z) (by simp)
  refine ⟨⟨e0.mod, S.kind, rfl, rfl, Nat.le_refl _, fun y z c h1 h2 => ?_, fun y hy => ?_, fun y c _ h => ?_, fun _ => hd, Around.frames_deeper e0.frames, .inr ⟨rfl, rfl⟩, fun b z => absurd z (noA b), e0.bs, e0.bsz, fun b _ _ => noA b, fun b z => absurd z (noA b), e0.funs, e0.frf⟩,
    rfl, e0.bare, Un.kept hk, ⟨_, x.toInCall.ns, fun i y v h1 h2 h3 => ?_⟩, fun y c h => ⟨_, x.cell y c h⟩, e0.hok.fresh (Nat.le_refl _), fun y c h => ?_, fun p hp => absurd (show p ∈ ([] : List (Addr × Obj)) from hp) (by simp), e0.hok.kept hk, ?_⟩
  · exact name_of_addr x.apart (PySem.mem_of_lookup h1) (PySem.mem_of_lookup h2)
  · have hy : scope.names.lookup y = some .cell ∨ scope.names.lookup y = some .free := hy
    rcases hy with hy | hy
    · exact cell_has hy
    · exact absurd rfl (S.nofree _ (PySem.mem_of_lookup hy))
  · exact Nat.le_of_lt (x.above y c (PySem.mem_of_lookup h))
  · have hi : i < vs.length := by
      unfold start at h2
      by_cases hi : i < vs.length
      · exact hi
      · rw [List.getElem?_append_right (by simpa using hi)] at h2
        rw [List.getElem?_replicate] at h2
        split at h2 <;> cases h2
    have ha : vs[i]? = some v := by
      unfold start at h2
      rw [List.getElem?_append_left (by simpa using hi), List.getElem?_map] at h2
      cases e : vs[i]? with
      | none => rw [e] at h2; cases h2
      | some a => rw [e] at h2; cases h2; rfl
    obtain ⟨u, hu, rv⟩ := r.get ha
    have hp : ps[i]? = some y := by
      rw [← S.pre, List.getElem?_take_of_lt (by omega)]; exact h1
    have ndP : ps.Nodup := by rw [← S.pre]; exact S.nd.sublist (List.take_sublist _ _)
    refine ⟨u, rv, ?_⟩
    rcases S.par y (List.mem_of_getElem? hp) with k | k
    · exact .inl ⟨k, bindL_get ndP hp hu k⟩
    · obtain ⟨c, e⟩ := cell_has (n := s.heap.objs.size + 1) k
      refine .inr ⟨.inl k, c, e, ?_⟩
      have q := x.cell y c e
      rw [bindC_get ndP hp hu (by show scope.names.lookup y ≠ _; rw [k]; decide)] at q
      exact q
  · exact e0.hok.fresh (Nat.le_of_lt (x.above y c (PySem.mem_of_lookup h)))
  · unfold start
    show _ = N.length
    rw [List.length_append, List.length_map, List.length_replicate]
    omega
theorem fn_of {CX : CXT} {P : Program} {w : World} {K : PySem.W.Frag} {mg : Str → Option Value} {base : Heap} {k : Nat} {f : Addr} {name qual : Str} {params : Arguments} {body : List Stmt} {scope : Scope} {dV kV doc pm cdv ct oc : Value} {an od : Option Addr}
    {osl : Array (Option Value)} {N ps : List Str} {sp : Sp} (lk : K.lookup f = some ⟨oc, od, .func (PySem.W.fnOf name qual params body scope dV kV doc pm an cdv ct), osl⟩) (hcd : PySem.W.codeIn K cdv qual = true) (S : FnScope N ps scope)
    (len : ∀ vs H Q E, sp vs H Q E → vs.length = ps.length)
    (hbody : ∀ (A : Around) (outer : List Env) (s : Shared) (H : Hp) (vs : List V) (Q : VK) (E : XK), Room k (A.deeper (envOfC qual scope s.heap.objs.size f cdv)) → sp vs H Q E →
      ∃ t, PSs (cxOf CX P w K mg base N qual scope f cdv A outer s H E) body t ∧ t { nx := fun _ H' => Q .non H', rt := Q } (start N vs) H) :
    FnOk P w K mg base CX (k + 1) f (PySem.W.fnOf name qual params body scope dV kV doc pm an cdv ct) ps sp := by
  refine ⟨len, fun A outer s H args us vs Q E hr e0 hb r hsp => ?_⟩
  have hl := len _ _ _ _ hsp
  have KX : K.In s.heap := e0.mod.kin.keeps fun b o e => (e0.bs b o e).1
  have lim : s.heap.NoLimit := e0.mod.nolimit.keeps fun b o e => (e0.bs b o e).1
  have hkind : ∀ y ∈ ps.zip us, scope.names.lookup y.1 = some .local ∨ (scope.names.lookup y.1 = some .cell ∧ ((cellsFrom (s.heap.objs.size + 1) scope.names []).lookup y.1).isSome = true) := fun ⟨n, v⟩ hy => by
    rcases S.par n (List.of_mem_zip hy).1 with q | q
    · exact .inl q
    · exact .inr ⟨q, PySem.W.cellsFrom_some _ _ _ (.inl q)⟩
  refine codeAny_call_function hr.depth (KX _ _ lk) rfl S.co S.gen rfl (PySem.W.codeRec_of KX hcd) (hb _ _ _ _ ?_)
  refine wpAny_newFunctionEnv_cells S.kind hkind fun env he s1 x => ?_
  subst he
  refine ⟨lim.keeps x.toInCall.keep, codeAny_func ?_⟩
  obtain ⟨t, ht, hq⟩ := hbody A outer s H vs Q E (hr.deeper _) hsp
  have I : Inv (cxOf CX P w K mg base N qual scope f cdv A outer s H E) [] (start N vs) H s1 := inv_start S hr.hd e0 hl r x
  refine wpAny_mono (ht [] s1 (start N vs) H _ I hq) (fun fl s' hs => ?_) fun e s' hs => hs
  have fin : ∀ {σ' : St} {H' : Hp} {v : V} {u : Value}, Inv (cxOf CX P w K mg base N qual scope f cdv A outer s H E) [] σ' H' s' → RelV v u → Q v H' → CE outer P w H s Q u s' :=
    fun {σ' H' v u} J rv q => ⟨v, H', J.os, J.bare, J.base, J.hok, rv, q⟩
  cases fl with
  | ret u =>
    obtain ⟨v, σ', H', J, rv, q⟩ := hs
    exact fin J rv q
  | next =>
    obtain ⟨σ', H', J, q⟩ := hs
    exact fin (v := V.non) (u := Value.none) J rfl q
  | brk =>
    obtain ⟨_, _, _, q⟩ := hs
    exact False.elim q
  | cont =>
    obtain ⟨_, _, _, q⟩ := hs
    exact False.elim q
end L2
namespace L2
open PySem PySem.Spec PyProof.Rows
section
variable {X : Cx} {x : Str} {p pos : Pos} {e : Expr} {es : List Expr} {t : TA} {id T : String} {r : List V → Hp → VK → Prop}
def tCB (r : List V → Hp → VK → Prop) (t : TA) : TE := fun σ H Q => t σ H fun vs H1 => r vs H1 Q
theorem pe_callB (hc : CallR X (.builtin id) r) (hg : Gl X x) (hm : X.mg x = none) (hv : bootBuiltins x = some (.builtin id)) (ha : PA X (e :: es) t) (hn : x ≠ "__name__" := by decide) (hdb : (x == ("__debug__" : Str)) = false := by decide)
    (he : starEach (e :: es) X.env = (false, eval e X.env) :: starEach es X.env := by rfl) (hpl : (backTo pos (starEach es X.env)).any (·.1) = false := by rfl) : PE X (.Call (.Name x p) (e :: es) [] pos) (tCB r t) := by
  intro pins s σ H Q I h
  refine wpAny_Call_Name_kw (ld_blt I hg hm hv ?_ hn hdb)
  exact PyProof.Rows.callWith_builtin1 (thn (ha pos pins s σ H _ I h) fun us s1 ⟨vs, H1, I1, r1, q1⟩ => hc pins s1 σ H1 vs us Q I1 r1 q1) he hpl
theorem pe_callTy (hc : CallR X (.type T) r) (hg : Gl X x) (hm : X.mg x = none) (hv : bootBuiltins x = some (.type T)) (ha : PA X (e :: es) t) (hn : x ≠ "__name__" := by decide) (hdb : (x == ("__debug__" : Str)) = false := by decide)
    (he : starEach (e :: es) X.env = (false, eval e X.env) :: starEach es X.env := by rfl) (hpl : (backTo pos (starEach es X.env)).any (·.1) = false := by rfl) : PE X (.Call (.Name x p) (e :: es) [] pos) (tCB r t) := by
  intro pins s σ H Q I h
  refine wpAny_Call_Name_kw (ld_blt I hg hm hv ?_ hn hdb)
  exact PyProof.Rows.callWith_type1 (thn (ha pos pins s σ H _ I h) fun us s1 ⟨vs, H1, I1, r1, q1⟩ => hc pins s1 σ H1 vs us Q I1 r1 q1) he hpl
end
end L2
namespace HT
open PySem PyProof.Rows
section
open PySem.SeqAt
open PySem.AutoSeq1 (wpAny_loadPart')
open PySem.MeetsSeq PySem.MeetsSeq2 PySem.MeetsSeq3
end
section
variable {prog : Program} {w : World} {A : Around} {E : Value → Shared → Prop} {s : Shared}
def sIx (n d : Nat) : Option Int → Nat
  | none => d
  | some v => if v < 0 then (v + (n : Int)).toNat else min v.toNat n
theorem sIx_le (n d : Nat) (hd : d ≤ n) (o : Option Int) : sIx n d o ≤ n := by
  cases o with
  | none => exact hd
  | some v =>
    show (if v < 0 then (v + (n : Int)).toNat else min v.toNat n) ≤ n
    by_cases hv : v < 0
    · rw [if_pos hv]; omega
    · rw [if_neg hv]; exact Nat.min_le_right _ _
theorem clip_eq (v : Int) (n d : Nat) : (if v < 0 then max (v + (n : Int)) 0 else min v (n : Int)) = ((sIx n d (some v) : Nat) : Int) := by
  show (if v < 0 then max (v + (n : Int)) 0 else min v (n : Int)) = (((if v < 0 then (v + (n : Int)).toNat else min v.toNat n) : Nat) : Int)
  by_cases hv : v < 0
  · simp only [if_pos hv]; omega
  · simp only [if_neg hv]; omega
theorem adjust_gen (lo hi : Option Int) (n : Nat) : Builtin.Slice.sliceAdjust lo hi 1 (n : Int) = (((sIx n 0 lo : Nat) : Int), ((sIx n n hi : Nat) : Int)) := by
  have h1 : ¬ ((1 : Int) < 0) := by omega
  unfold Builtin.Slice.sliceAdjust
  simp only [h1, if_false]
  refine Prod.ext ?_ ?_
  · cases lo with
    | none => rfl
    | some v => exact clip_eq v n 0
  · cases hi with
    | none => rfl
    | some v => exact clip_eq v n n
theorem places_gen (i j : Nat) : Builtin.Slice.slicePlaces (i : Int) (j : Int) 1 = j - i := by
  unfold Builtin.Slice.slicePlaces
  have h1 : (1 : Int) > 0 := by omega
  simp only [h1, if_true, Int.ediv_one]
  split <;> omega
theorem slicePart_ {v : Value} {o : Option Int} {Q : Option Int → Shared → Prop} (p : IsPart v o) (h : Q o s) : wpAny (model prog w) A (Builtin.Slice.slicePartIndex v) Q E s := by
  cases p with
  | none => exact slicePart_none h
  | int i t => exact slicePart_int h
theorem sliceApplied_gen {sl : Addr} {vl vu : Value} {lo hi : Option Int} {n : Nat} {Q : Int × Int × Nat → Shared → Prop} (hs : s.heap.IsSliceOf sl vl vu .none) (pl : IsPart vl lo) (pu : IsPart vu hi)
    (h : Q (((sIx n 0 lo : Nat) : Int), 1, sIx n n hi - sIx n 0 lo) s) : wpAny (model prog w) A (Builtin.Slice.sliceApplied (.ref sl) (pure (n : Int))) Q E s := by
  obtain ⟨os, hos, hcs, hds⟩ := id hs
  unfold Builtin.Slice.sliceApplied Builtin.Slice.sliceFields
  refine wpAny_bind (wpAny_bind (wpAny_field hos hds (x := vl) rfl (wpAny_bind (wpAny_field hos hds (x := vu) rfl (wpAny_bind (wpAny_field hos hds (x := .none) rfl (wpAny_pure ?_)))))))
  refine wpAny_bind (slicePart_none ?_)
  show wpAny _ _ (if ((1 : Int) == 0) = true then _ else _) _ _ s
  rw [if_neg (by decide)]
  refine wpAny_bind (slicePart_ pl (wpAny_bind (slicePart_ pu (wpAny_bind (wpAny_pure ?_)))))
  show wpAny _ _ (match Builtin.Slice.sliceAdjust lo hi 1 (n : Int) with | (lo, hi) => pure (lo, (1 : Int), Builtin.Slice.slicePlaces lo hi 1)) _ _ s
  rw [adjust_gen lo hi n]
  show wpAny _ _ (pure (((sIx n 0 lo : Nat) : Int), (1 : Int), Builtin.Slice.slicePlaces ((sIx n 0 lo : Nat) : Int) ((sIx n n hi : Nat) : Int) 1)) _ _ s
  rw [places_gen]
  exact wpAny_pure h
theorem pick_gen (xs : Array Value) (i k : Nat) : ((List.range k).filterMap fun (m : Nat) => xs[((i : Int) + (m : Int) * 1).toNat]?).toArray = ((xs.toList.drop i).take k).toArray := by
  have e : (fun (m : Nat) => xs[((i : Int) + (m : Int) * 1).toNat]?) = fun m => xs[i + m]? := by
    funext m
    have : ((i : Int) + (m : Int) * 1).toNat = i + m := by omega
    rw [this]
  rw [e]
  have := pick_run xs i k
  rw [List.filterMap_map] at this
  have e2 : ((fun x => xs[x]?) ∘ fun x => i + x) = fun m => xs[i + m]? := rfl
  rw [e2] at this
  rw [this]
theorem getItem_tuple_cut {t sl : Addr} {items : Array Value} {vl vu : Value} {lo hi : Option Int} {Q : Value → Shared → Prop} (ht : IsTup s.heap t items) (hs : s.heap.IsSliceOf sl vl vu .none) (pl : IsPart vl lo) (pu : IsPart vu hi)
    (hw : ¬ (sIx items.size 0 lo = 0 ∧ sIx items.size items.size hi = items.size))
    (h : Q (.ref s.heap.objs.size) { s with heap := s.heap.push { cls := .type "tuple", data := .seq ((items.toList.drop (sIx items.size 0 lo)).take (sIx items.size items.size hi - sIx items.size 0 lo)).toArray } })
    (hsz : items.size ≤ sizeLine) : wpAny (model prog w) A (getItem (.ref t) (.ref sl)) Q E s := by
  have htake : sizeOk (.seq ((items.toList.drop (sIx items.size 0 lo)).take (sIx items.size items.size hi - sIx items.size 0 lo)).toArray) := by
    show ((items.toList.drop (sIx items.size 0 lo)).take (sIx items.size items.size hi - sIx items.size 0 lo)).toArray.size ≤ sizeLine
    rw [List.size_toArray, List.length_take, List.length_drop, Array.length_toList]
    omega
  have hj : sIx items.size items.size hi ≤ items.size := sIx_le _ _ (Nat.le_refl _) hi
  obtain ⟨os, hos, hcs, hds⟩ := id hs
  have hTs : s.TypeIs (.ref sl) "slice" := ⟨os, hos, hcs⟩
  unfold getItem
  try with_reducible refine wpAny_holding ?_
  first | refine wpAny_bind (wpAny_pure ?_) | skip
  refine wpAny_bind (wpAny_sequenceKey ht.typeIs (by decide) ?_)
  refine wpAny_bind (wpAny_callSpecial?_slot (name := Str.ofString "__getitem__") ht.typeIs PyProof.Rows.slot_tuple_getitem
    (wpAny_call_entry PyProof.Rows.slot_tuple_getitem ht.typeIs entry_tuple_getitem ?_ (args_tuple_getitem _ _)))
  show wpAny _ _ (Builtin.Tuple.tupleItemsOf (.ref t) >>= _) _ _ s
  refine wpAny_bind (tupleItemsOf_ ht ?_)
  refine wpAny_bind (wpAny_typeOf hTs ?_)
  rw [if_pos (by decide)]
  refine wpAny_bind (sliceApplied_gen hs pl pu ?_)
  have hno : ¬ ((((sIx items.size 0 lo : Nat) : Int) == 0 && (1 : Int) == 1 && (sIx items.size items.size hi - sIx items.size 0 lo) == items.size) = true) := by
    intro q
    rw [Bool.and_eq_true, Bool.and_eq_true] at q
    have q1 : ((sIx items.size 0 lo : Nat) : Int) = 0 := eq_of_beq q.1.1
    have q2 : sIx items.size items.size hi - sIx items.size 0 lo = items.size := eq_of_beq q.2
    exact hw ⟨by omega, by omega⟩
  show wpAny _ _ (if (((sIx items.size 0 lo : Nat) : Int) == 0 && (1 : Int) == 1 && (sIx items.size items.size hi - sIx items.size 0 lo) == items.size) = true then _ else _) _ _ s
  rw [if_neg hno, pick_gen]
  first
    | exact wpAny_bind (m := Builtin.Tuple.tupleExact _) (wpAny_newObj_type (wpAny_pure ⟨_, rfl, wpAny_pure h⟩) htake)
    | exact wpAny_bind (m := Builtin.Tuple.tupleExact _) (wpAny_newObj_type (wpAny_bind (wpAny_pure (wpAny_pure ⟨_, rfl, wpAny_pure h⟩))) htake)
    | exact wpAny_bind (wpAny_bind (m := Builtin.Tuple.tupleExact _) (wpAny_newObj_type (wpAny_pure (wpAny_pure ⟨_, rfl, wpAny_pure h⟩)) htake))
    | exact wpAny_bind (wpAny_bind (m := Builtin.Tuple.tupleExact _) (wpAny_newObj_type (wpAny_pure ⟨_, rfl, wpAny_pure h⟩) htake))
end
end HT
namespace L2
open PySem PySem.Spec PyProof.Rows
abbrev TO := St → Hp → (Option Int → Hp → Prop) → Prop
def PO (X : Cx) (e : Option Expr) (t : TO) : Prop :=
  ∀ (pins : List (Addr × Obj)) (s : Shared) (σ : St) (H : Hp) (Q : Option Int → Hp → Prop), Inv X pins σ H s → t σ H Q →
    wpAny (model X.prog X.w) X.A (evalPart e X.env) (fun u s' => ∃ o H', Inv X pins σ H' s' ∧ IsPart u o ∧ Q o H') X.xe s
def tNoPart : TO := fun _ H Q => Q none H
def tPart (t : TE) : TO := fun σ H Q => t σ H fun x H1 => ∃ i, x = .int i ∧ Q (some i) H1
section
variable {X : Cx} {e : Expr} {te : TE} {lo hi : Option Expr} {tl th : TO} {pos p2 : Pos}
theorem po_none : PO X none tNoPart := by
  intro pins s σ H Q I h
  rw [evalPart_none]
  exact wpAny_pure ⟨none, H, I, .none, h⟩
theorem po_some (h : PE X e te) : PO X (some e) (tPart te) := by
  intro pins s σ H Q I hw
  rw [evalPart_some]
  refine thn (h pins s σ H _ I hw) fun u s1 ⟨x, H1, I1, r1, q1⟩ => ?_
  obtain ⟨i, rfl, q⟩ := q1
  obtain ⟨t, rfl⟩ := r1
  exact ⟨some i, H1, I1, .int i t, q⟩
def SlR (X : Cx) (r : V → Option Int → Option Int → Hp → VK → Prop) : Prop :=
  ∀ (pins : List (Addr × Obj)) (s : Shared) (σ : St) (H : Hp) (x : V) (v vl vu : Value) (lo hi : Option Int) (sl : Addr) (Q : VK), Inv X pins σ H s → RelV x v → s.heap.IsSliceOf sl vl vu .none → IsPart vl lo → IsPart vu hi → r x lo hi H Q →
    ∃ T id, typeLookup (.type T) "__getitem__" = pure (some (.builtin id)) ∧ s.TypeIs v T ∧ wpAny (model X.prog X.w) X.A (getItem v (.ref sl)) (EP X pins σ Q) X.xe s
def tSl (r : V → Option Int → Option Int → Hp → VK → Prop) (te : TE) (tl th : TO) : TE := fun σ H Q => te σ H fun x H1 => tl σ H1 fun l H2 => th σ H2 fun u H3 => r x l u H3 Q
theorem pe_slice {r : V → Option Int → Option Int → Hp → VK → Prop} (hr : SlR X r) (he : PE X e te) (hl : PO X lo tl) (hu : PO X hi th) : PE X (.Subscript e (.Slice lo hi none p2) pos) (tSl r te tl th) := by
  intro pins s σ H Q I h
  refine Subscript_ (thn (he pins s σ H _ I h) fun v s1 ⟨x, H1, I1, r1, q1⟩ => ?_)
  refine wpAny_Slice (thn (hl pins s1 σ H1 _ I1 q1) fun vl s2 ⟨l, H2, I2, pl, q2⟩ => thn (hu pins s2 σ H2 _ I2 q2) fun vu s3 ⟨u, H3, I3, pu, q3⟩ => ?_)
  rw [evalPart_none]
  refine wpAny_pure ?_
  have I4 : Inv X pins σ H3 { s3 with heap := s3.heap.push { cls := .type "slice", data := .fields #[vl, vu, .none] } } := I3.kept (t' := s3.toks) fun b ob q => Heap.get?_push_of_some _ q
  obtain ⟨T, id, hT, ht, hg⟩ := hr pins { s3 with heap := s3.heap.push { cls := .type "slice", data := .fields #[vl, vu, .none] } } σ H3 x v vl vu l u s3.heap.objs.size Q I4 r1 (Heap.IsSliceOf.new ..) pl pu q3
  show wpAny (model X.prog X.w) X.A (subscriptTail e (.Slice lo hi none p2) v (.ref s3.heap.objs.size)) (EP X pins σ Q) X.xe { s3 with heap := s3.heap.push { cls := .type "slice", data := .fields #[vl, vu, .none] } }
  exact tail_any (ops := [.ref s3.heap.objs.size, v]) ht hT hg (by with_unfolding_all rfl)
def cutV (xs : List V) (lo hi : Option Int) : List V := (xs.drop (HT.sIx xs.length 0 lo)).take (HT.sIx xs.length xs.length hi - HT.sIx xs.length 0 lo)
theorem cutV_length (xs : List V) (lo hi : Option Int) : (cutV xs lo hi).length ≤ xs.length := by
  unfold cutV
  rw [List.length_take, List.length_drop]
  omega
def rSlT (K : PySem.W.Frag) : V → Option Int → Option Int → Hp → VK → Prop := fun x lo hi H Q => ∃ a xs, x = .ref a ∧ SqT K H a xs ∧
  ¬ (HT.sIx xs.length 0 lo = 0 ∧ HT.sIx xs.length xs.length hi = xs.length) ∧ ∀ p, H p = none → Q (.ref p) (upd H p (.tup (cutV xs lo hi)))
theorem sl_tup : SlR X (rSlT X.K) := by
  intro pins s σ H x v vl vu lo hi sl Q I rx hs pl pu h
  obtain ⟨a, xs, rfl, hx, hw, q⟩ := h
  cases rx
  obtain ⟨its, r, ht, hz⟩ := I.tuple hx
  have hlen : its.toArray.size = xs.length := by rw [List.size_toArray]; exact r.length.symm
  refine ⟨"tuple", _, PyProof.Rows.slot_tuple_getitem.lookup, ht.typeIs, ?_⟩
  refine HT.getItem_tuple_cut ht hs pl pu (by rw [hlen]; exact hw) ?_ (by rw [hlen]; exact hz)
  rw [hlen]
  refine ⟨.ref s.heap.objs.size, _, I.laid (t' := s.toks) (o := .tup (cutV xs lo hi)) (fun b ob q => Heap.get?_push_of_some _ q) (Nat.le_refl _) ?_, rfl, q _ (I.hok.fresh (Nat.le_refl _))⟩
  exact ⟨Nat.le_trans (cutV_length xs lo hi) hz, _, (r.drop (HT.sIx xs.length 0 lo)).take (HT.sIx xs.length xs.length hi - HT.sIx xs.length 0 lo), IsTup.new _ _⟩
end
end L2
namespace L2
open PySem PySem.Spec PyProof.Rows
def ixN (n : Nat) (i : Int) : Option Nat := if 0 ≤ i then (if i < n then some i.toNat else none) else if -(n : Int) ≤ i then some (i + n).toNat else none
def atI {α : Type} (xs : List α) (i : Int) : Option α := (ixN xs.length i).bind fun j => xs[j]?
theorem ixN_seq {n : Nat} {i : Int} {j : Nat} (h : ixN n i = some j) : seqIndex? i n = some j ∧ j < n ∧ -(n : Int) ≤ i ∧ i < n := by
  unfold ixN at h
  by_cases h0 : 0 ≤ i
  · rw [if_pos h0] at h
    by_cases h1 : i < n
    · rw [if_pos h1] at h
      have e : i.toNat = j := Option.some.inj h
      exact ⟨by rw [seqIndex_of h0 h1, e], by omega, by omega, h1⟩
    · rw [if_neg h1] at h; cases h
  · rw [if_neg h0] at h
    by_cases h1 : -(n : Int) ≤ i
    · rw [if_pos h1] at h
      have e : (i + n).toNat = j := Option.some.inj h
      exact ⟨by rw [seqIndex_neg (by omega) h1, e], by omega, h1, by omega⟩
    · rw [if_neg h1] at h; cases h
theorem atI_get {α : Type} {xs : List α} {i : Int} {v : α} (h : atI xs i = some v) : ∃ j, seqIndex? i xs.length = some j ∧ xs[j]? = some v ∧ j < xs.length ∧ -(xs.length : Int) ≤ i ∧ i < xs.length := by
  unfold atI at h
  cases e : ixN xs.length i with
  | none => rw [e] at h; cases h
  | some j =>
    rw [e] at h
    obtain ⟨h1, h2, h3, h4⟩ := ixN_seq e
    exact ⟨j, h1, h, h2, h3, h4⟩
theorem atI_nat {α : Type} {xs : List α} {j : Nat} {v : α} (h : xs[j]? = some v) : atI xs (j : Int) = some v := by
  have hj : j < xs.length := (List.getElem?_eq_some_iff.mp h).1
  have e : ixN xs.length (j : Int) = some j := by
    unfold ixN
    rw [if_pos (by omega), if_pos (by omega)]; simp
  unfold atI; rw [e]; exact h
theorem atI_last {α : Type} (xs : List α) (v : α) : atI (xs ++ [v]) (-1) = some v := by
  have hl : (xs ++ [v]).length = xs.length + 1 := by simp
  have e : ixN (xs ++ [v]).length (-1) = some xs.length := by
    unfold ixN
    rw [hl, if_neg (by decide), if_pos (by omega)]
    congr 1
    omega
  unfold atI
  rw [e]
  show (xs ++ [v])[xs.length]? = some v
  simp
def PlainIx (b : Expr) : Prop := ∀ o i, subscripted b false o i = operate [o, i] (getItem o i)
def IxR (X : Cx) (r : R2) : Prop :=
  ∀ (value slice : Expr) (pins : List (Addr × Obj)) (s : Shared) (σ : St) (H : Hp) (x y : V) (v u : Value) (Q : VK), Inv X pins σ H s → RelV x v → RelV y u → r x y H Q →
    subscripted slice false v u = operate [v, u] (getItem v u) → wpAny (model X.prog X.w) X.A (subscriptTail value slice v u) (EP X pins σ Q) X.xe s
def MtR (X : Cx) (id : String) (r : V → List V → Hp → VK → Prop) : Prop :=
  ∀ (pins : List (Addr × Obj)) (s : Shared) (σ : St) (H : Hp) (x : V) (xs : List V) (v : Value) (us : List Value) (Q : VK), Inv X pins σ H s → RelV x v → Vals xs us → r x xs H Q →
    wpAny (model X.prog X.w) X.A (call (.builtin id) (v :: us)) (EP X pins σ Q) X.xe s
section
variable {X : Cx} {a b : Expr} {ta tb : TE} {pos : Pos}
theorem IxR.or {r r' : R2} (h : IxR X r) (h' : IxR X r') : IxR X (fun x y H Q => r x y H Q ∨ r' x y H Q) := by
  intro value slice pins s σ H x y v u Q I rx ry q hs
  rcases q with q | q
  · exact h value slice pins s σ H x y v u Q I rx ry q hs
  · exact h' value slice pins s σ H x y v u Q I rx ry q hs
theorem pe_ix {r : R2} (hr : IxR X r) (ha : PE X a ta) (hb : PE X b tb) (hs : PlainIx b) : PE X (.Subscript a b pos) (tOp r ta tb) := by
  intro pins s σ H Q I h
  exact Subscript_ (binT ha hb I h fun v u s2 x y H2 I2 rx ry q => hr a b pins s2 σ H2 x y v u Q I2 rx ry q (hs _ _))
def rIxL (K : PySem.W.Frag) : R2 := fun x y H Q => ∃ p xs i v, x = .ref p ∧ y = .int i ∧ SqL K H p xs ∧ atI xs i = some v ∧ Q v H
def rIxT (K : PySem.W.Frag) : R2 := fun x y H Q => ∃ p xs i v, x = .ref p ∧ y = .int i ∧ SqT K H p xs ∧ atI xs i = some v ∧ Q v H
def rIxS : R2 := fun x y H Q => ∃ z i c, x = .str z ∧ y = .int i ∧ z.length ≤ sizeLine ∧ atI z.cps.toList i = some c ∧ Q (.str ⟨#[c]⟩) H
theorem ix_list : IxR X (rIxL X.K) := by
  intro value slice pins s σ H x y v u Q I rx ry h hs
  obtain ⟨p, xs, i, z, rfl, rfl, hq, he, q⟩ := h
  cases rx
  obtain ⟨t, rfl⟩ := ry
  obtain ⟨its, r, pl, hz⟩ := I.list hq
  obtain ⟨j, h1, h2, h3, h4, h5⟩ := atI_get he
  obtain ⟨w, ew, rw'⟩ := r.get h2
  have hl := r.length
  have hn := line63
  have fin : EP X pins σ Q w s := ⟨z, H, I, rw', q⟩
  by_cases h0 : 0 ≤ i
  · have hj : i.toNat = j := by
      rw [seqIndex_of h0 h5] at h1
      exact Option.some.inj h1
    exact item_listR pl.isList h0 (by omega) (by rw [hj]; simpa using ew) fin hs
  · have hj : (i + (its.toArray.size : Int)).toNat = j := by
      rw [seqIndex_neg (by omega) h4] at h1
      rw [List.size_toArray, ← hl]
      exact Option.some.inj h1
    exact subscriptTail_builtinR (x := w) pl.isList.typeIs slot_list_getitem.lookup
      (wpAny_getItem_list_neg (Q := fun r s' => r = w ∧ EP X pins σ Q r s') pl.isList (by omega) (by rw [List.size_toArray] <;> omega) (by omega) (by rw [hj]; simpa using ew) ⟨rfl, fin⟩) hs
theorem ix_tup : IxR X (rIxT X.K) := by
  intro value slice pins s σ H x y v u Q I rx ry h hs
  obtain ⟨p, xs, i, z, rfl, rfl, hq, he, q⟩ := h
  cases rx
  obtain ⟨t, rfl⟩ := ry
  obtain ⟨its, r, pl, hz⟩ := I.tuple hq
  obtain ⟨j, h1, h2, h3, h4, h5⟩ := atI_get he
  obtain ⟨w, ew, rw'⟩ := r.get h2
  have hl := r.length
  have hn := line63
  have fin : EP X pins σ Q w s := ⟨z, H, I, rw', q⟩
  exact subscriptTail_builtinR (x := w) pl.typeIs slot_tuple_getitem.lookup
    (getItem_tuple (j := j) (Q := fun r s' => r = w ∧ EP X pins σ Q r s') pl (by omega) (by omega) (by rw [List.size_toArray, ← hl]; exact h1) (by simpa using ew) ⟨rfl, fin⟩) hs
theorem ix_str : IxR X rIxS := by
  intro value slice pins s σ H x y v u Q I rx ry h hs
  obtain ⟨z, i, c, rfl, rfl, hz, he, q⟩ := h
  obtain ⟨t, rfl⟩ := rx
  obtain ⟨t', rfl⟩ := ry
  obtain ⟨j, h1, h2, h3, h4, h5⟩ := atI_get he
  have hl : z.cps.toList.length = z.length := by simp [Str.length]
  rw [hl] at h1 h4 h5
  have hn := line63
  exact tail_any (typeIs_str s z t) slot_str_getitem.lookup (getItem_str (c := c) (by
    have e1 : decide (i < -(2 ^ 63 : Int)) = false := decide_eq_false (by omega)
    have e2 : decide (i ≥ 2 ^ 63) = false := decide_eq_false (by omega)
    rw [e1, e2, Bool.or_false]) (by rw [h1]; simpa using h2) ⟨.str ⟨#[c]⟩, H, I.tok _, ⟨_, rfl⟩, q⟩) hs
def rIx (K : PySem.W.Frag) : R2 := fun x y H Q => rIxL K x y H Q ∨ rIxT K x y H Q ∨ rIxS x y H Q
theorem ix_seq : IxR X (rIx X.K) := ix_list.or (ix_tup.or ix_str)
theorem slice_bounds (lo hi : Option Int) (n : Nat) : (sliceBounds lo hi none n).1 = ((HT.sIx n 0 lo : Nat) : Int) ∧ (sliceBounds lo hi none n).2.1 = ((HT.sIx n n hi : Nat) : Int) ∧ (sliceBounds lo hi none n).2.2 = 1 := by
  refine ⟨?_, ?_, rfl⟩
  · cases lo with
    | none => simp [sliceBounds, HT.sIx]
    | some i =>
      simp only [sliceBounds, HT.sIx, Option.getD_none, show (1 : Int) > 0 by decide, if_true]
      by_cases h : i < 0
      · simp only [h, if_true] <;> omega
      · simp only [h, if_false] <;> omega
  · cases hi with
    | none => simp [sliceBounds, HT.sIx]
    | some i =>
      simp only [sliceBounds, HT.sIx, Option.getD_none, show (1 : Int) > 0 by decide, if_true]
      by_cases h : i < 0
      · simp only [h, if_true] <;> omega
      · simp only [h, if_false] <;> omega
theorem slicePick_cut (its : List Value) (lo hi : Option Int) : slicePick its.toArray lo hi none = ((its.drop (HT.sIx its.length 0 lo)).take (HT.sIx its.length its.length hi - HT.sIx its.length 0 lo)).toArray := by
  obtain ⟨h1, h2, h3⟩ := slice_bounds lo hi its.toArray.size
  unfold slicePick
  rw [h1, h2, h3]
  simp only [sliceRange_one, pick_run, List.size_toArray] <;> rfl
def rSlL (K : PySem.W.Frag) : V → Option Int → Option Int → Hp → VK → Prop := fun x lo hi H Q => ∃ a xs, x = .ref a ∧ SqL K H a xs ∧ ∀ p, H p = none → Q (.ref p) (upd H p (.lst (cutV xs lo hi)))
theorem sl_list : SlR X (rSlL X.K) := by
  intro pins s σ H x v vl vu lo hi sl Q I rx hs pl pu h
  obtain ⟨a, xs, rfl, hx, q⟩ := h
  cases rx
  obtain ⟨its, r, ht, hz⟩ := I.list hx
  have hlen := r.length
  refine ⟨"list", _, slot_list_getitem.lookup, ht.isList.typeIs, ?_⟩
  refine wpAny_getItem_list_slice ht.isList hs pl pu .none (by simp) ?_ (by rw [List.size_toArray] <;> omega)
  rw [slicePick_cut, ← hlen]
  refine ⟨.ref s.heap.objs.size, _, I.laid (t' := s.toks) (o := .lst (cutV xs lo hi)) (fun b ob q => Heap.get?_push_of_some _ q) (Nat.le_refl _) ?_, rfl, q _ (I.hok.fresh (Nat.le_refl _))⟩
  exact ⟨Nat.le_trans (cutV_length xs lo hi) hz, _, 0, (r.drop (HT.sIx xs.length 0 lo)).take (HT.sIx xs.length xs.length hi - HT.sIx xs.length 0 lo), Heap.get?_push_size _ rfl⟩
def flatV : V → Bool
  | .non => true
  | .bl _ => true
  | .int _ => true
  | .str _ => true
  | _ => false
def eqV : V → V → Bool
  | .non, .non => true
  | .bl a, .bl b => a == b
  | .bl a, .int b => (if a then 1 else 0) == b
  | .int a, .bl b => a == (if b then 1 else 0)
  | .int a, .int b => a == b
  | .str a, .str b => a == b
  | _, _ => false
theorem eqAt_V {A : Around} {s : Shared} {y x : V} {u v : Value} (ry : RelV y u) (rx : RelV x v) (fy : flatV y = true) (fx : flatV x = true) : SeqAt.EqAt A s u v (eqV y x) := by
  cases y with
  | non =>
    cases ry
    cases x with
    | non => cases rx; exact SeqAt.EqAt.same _
    | bl b => cases rx; exact SeqAt.EqAt.none_bool b
    | int b => obtain ⟨t, rfl⟩ := rx; exact SeqAt.EqAt.none_int b t
    | str b => obtain ⟨t, rfl⟩ := rx; exact SeqAt.EqAt.none_str b t
    | _ => exact absurd (show false = true from fx) Bool.false_ne_true
  | bl a =>
    cases ry
    cases x with
    | non => cases rx; exact SeqAt.EqAt.bool_none a
    | bl b => cases rx; exact SeqAt.EqAt.bool_bool a b
    | int b => obtain ⟨t, rfl⟩ := rx; exact SeqAt.EqAt.bool_int a b t
    | str b => obtain ⟨t, rfl⟩ := rx; exact SeqAt.EqAt.bool_str a b t
    | _ => exact absurd (show false = true from fx) Bool.false_ne_true
  | int a =>
    obtain ⟨t', rfl⟩ := ry
    cases x with
    | non => cases rx; exact SeqAt.EqAt.int_none a t'
    | bl b => cases rx; exact SeqAt.EqAt.int_bool a t' b
    | int b => obtain ⟨t, rfl⟩ := rx; exact SeqAt.EqAt.int_int a t' b t
    | str b => obtain ⟨t, rfl⟩ := rx; exact SeqAt.EqAt.int_str a t' b t
    | _ => exact absurd (show false = true from fx) Bool.false_ne_true
  | str a =>
    obtain ⟨t', rfl⟩ := ry
    cases x with
    | non => cases rx; exact SeqAt.EqAt.str_none a t'
    | bl b => cases rx; exact SeqAt.EqAt.str_bool a t' b
    | int b => obtain ⟨t, rfl⟩ := rx; exact SeqAt.EqAt.str_int a t' b t
    | str b => obtain ⟨t, rfl⟩ := rx; exact SeqAt.EqAt.str_str a t' b t
    | _ => exact absurd (show false = true from fx) Bool.false_ne_true
  | _ => exact absurd (show false = true from fy) Bool.false_ne_true
def eqU (x : V) (u : Value) : Bool := match u with
  | .none => eqV .non x
  | .bool b => eqV (.bl b) x
  | .int i _ => eqV (.int i) x
  | .str z _ => eqV (.str z) x
  | _ => false
theorem eqU_of {x y : V} {u : Value} (r : RelV y u) (f : flatV y = true) : eqU x u = eqV y x := by
  cases y with
  | non => cases r; rfl
  | bl b => cases r; rfl
  | int i => obtain ⟨t, rfl⟩ := r; rfl
  | str z => obtain ⟨t, rfl⟩ := r; rfl
  | _ => exact absurd (show false = true from f) Bool.false_ne_true
theorem any_eqU {x : V} : ∀ {xs : List V} {us : List Value}, Vals xs us → xs.all flatV = true → us.any (eqU x) = xs.any fun y => eqV y x
  | _, _, .nil, _ => rfl
  | y :: xs, u :: us, .cons r t, f => by
    rw [List.all_cons, Bool.and_eq_true] at f
    rw [List.any_cons, List.any_cons, eqU_of r f.1, any_eqU t f.2]
theorem mem_eqAt {A : Around} {s : Shared} {x : V} {v : Value} (rx : RelV x v) (fx : flatV x = true) : ∀ {xs : List V} {us : List Value}, Vals xs us → xs.all flatV = true → ∀ u ∈ us, SeqAt.EqAt A s u v (eqU x u)
  | _, _, .nil, _ => fun u hu => by cases hu
  | y :: xs, u :: us, .cons r t, f => fun u' hu => by
    rw [List.all_cons, Bool.and_eq_true] at f
    rcases List.mem_cons.mp hu with rfl | hu
    · rw [eqU_of r f.1]; exact eqAt_V r rx f.1 fx
    · exact mem_eqAt rx fx t f.2 u' hu
def inV (x : V) (xs : List V) : Bool := xs.any fun y => eqV y x
def rIn (K : PySem.W.Frag) (neg : Bool) : R2 := fun x y H Q => ∃ p xs, y = .ref p ∧ (SqL K H p xs ∨ SqT K H p xs) ∧ flatV x = true ∧ xs.all flatV = true ∧ Q (.bl (if neg then !inV x xs else inV x xs)) H
theorem op_in_seq : OpR X (compareOp .In) (rIn X.K false) := by
  intro pins s σ H x y v u Q I rx ry h
  obtain ⟨p, xs, rfl, hq, fx, fs, q⟩ := h
  cases ry
  rcases hq with hq | hq
  · obtain ⟨its, r, pl, hz⟩ := I.list hq
    refine SeqAt.in_listAt (eqU x) pl.isList (fun w hw => mem_eqAt rx fx r fs w (by simpa using hw)) ⟨.bl _, H, I, rfl, ?_⟩
    rw [show its.toArray.any (eqU x) = its.any (eqU x) by simp, any_eqU r fs]
    exact q
  · obtain ⟨its, r, pl, hz⟩ := I.tuple hq
    refine SeqAt.in_tupleAt (eqU x) pl (fun w hw => mem_eqAt rx fx r fs w (by simpa using hw)) ⟨.bl _, H, I, rfl, ?_⟩
    rw [show its.toArray.any (eqU x) = its.any (eqU x) by simp, any_eqU r fs]
    exact q
theorem op_notIn_seq : OpR X (compareOp .NotIn) (rIn X.K true) := by
  intro pins s σ H x y v u Q I rx ry h
  obtain ⟨p, xs, rfl, hq, fx, fs, q⟩ := h
  cases ry
  rcases hq with hq | hq
  · obtain ⟨its, r, pl, hz⟩ := I.list hq
    refine SeqAt.notIn_listAt (eqU x) pl.isList (fun w hw => mem_eqAt rx fx r fs w (by simpa using hw)) ⟨.bl _, H, I, rfl, ?_⟩
    rw [show its.toArray.any (eqU x) = its.any (eqU x) by simp, any_eqU r fs]
    exact q
  · obtain ⟨its, r, pl, hz⟩ := I.tuple hq
    refine SeqAt.notIn_tupleAt (eqU x) pl (fun w hw => mem_eqAt rx fx r fs w (by simpa using hw)) ⟨.bl _, H, I, rfl, ?_⟩
    rw [show its.toArray.any (eqU x) = its.any (eqU x) by simp, any_eqU r fs]
    exact q
theorem call_len_seq : CallR X (.builtin "len") (fun xs H Q => ∃ p ys, xs = [.ref p] ∧ (SqL X.K H p ys ∨ SqT X.K H p ys) ∧ Q (.int ys.length) H) := by
  intro pins s σ H xs us Q I r h
  obtain ⟨p, ys, rfl, hq, q⟩ := h
  obtain ⟨u, rfl, rx⟩ := vals1 r
  cases rx
  have hn := line63
  rcases hq with hq | hq
  · obtain ⟨its, r', pl, hz⟩ := I.list hq
    have hlen := r'.length
    exact Calls.call_len_list pl.isList (by simp only [List.size_toArray] <;> omega) ⟨.int ys.length, H, I.tok _, ⟨s.toks + 1, by rw [List.size_toArray, hlen]⟩, q⟩
  · obtain ⟨its, r', pl, hz⟩ := I.tuple hq
    have hlen := r'.length
    exact len_tuple pl (by simp only [List.size_toArray] <;> omega) ⟨.int ys.length, H, I.tok _, ⟨s.toks + 1, by rw [List.size_toArray, hlen]⟩, q⟩
theorem call_list_of : CallR X (.type "list") (fun xs H Q => ∃ p ys, xs = [.ref p] ∧ (SqL X.K H p ys ∨ SqT X.K H p ys) ∧ ∀ l, H l = none → Q (.ref l) (upd H l (.lst ys))) := by
  intro pins s σ H xs us Q I r h
  obtain ⟨p, ys, rfl, hq, q⟩ := h
  obtain ⟨u, rfl, rx⟩ := vals1 r
  cases rx
  have fin : ∀ (its : List Value), Vals ys its → ys.length ≤ sizeLine → ∀ (h' : Heap) (c' : Nat), (∀ b o', s.heap.get? b = some o' → h'.get? b = some o') →
      h'.get? s.heap.objs.size = some { cls := .type "list", dict := none, data := .seq its.toArray c', slots := #[] } → EP X pins σ Q (.ref s.heap.objs.size) { s with heap := h' } := fun its r' hz h' c' kp e =>
    ⟨.ref s.heap.objs.size, _, I.laid (t' := s.toks) kp (Nat.le_refl _) (show ObjOk X.prog X.w _ h' _ (.lst ys) from ⟨hz, its, c', r', e⟩), rfl, q _ (I.hok.fresh (Nat.le_refl _))⟩
  rcases hq with hq | hq
  · obtain ⟨its, r', pl, hz⟩ := I.list hq
    have hlen := r'.length
    obtain ⟨o, ho, hc, n, hd⟩ := pl.isList
    exact call_list_seq p (.inl rfl) ho hc hd (fun h' c' kp e => fin its r' hz h' c' kp e) (by simp only [List.size_toArray] <;> omega)
  · obtain ⟨its, r', pl, hz⟩ := I.tuple hq
    have hlen := r'.length
    obtain ⟨o, ho, hc, n, hd⟩ := pl
    exact call_list_seq p (.inr rfl) ho hc hd (fun h' c' kp e => fin its r' hz h' c' kp e) (by simp only [List.size_toArray] <;> omega)
def tyV (K : PySem.W.Frag) (T : String) (x : V) (H : Hp) : Prop := match x with
  | .str _ => T = "str"
  | .int _ => T = "int"
  | .ref p => (T = "list" ∧ ∃ xs, SqL K H p xs) ∨ (T = "tuple" ∧ ∃ o, K.lookup p = some o ∧ o.cls = .type "tuple" ∧ o.dict = none) ∨
      (T = "dict" ∧ ((∃ kvs, H p = some (.dK kvs)) ∨ ∃ kvs, H p = some (.dT kvs))) ∨ (T = "set" ∧ ∃ S n, H p = some (.set S n))
  | _ => False
theorem tyV_is {pins : List (Addr × Obj)} {σ : St} {H : Hp} {s : Shared} {T : String} {x : V} {v : Value} (I : Inv X pins σ H s) (r : RelV x v) (ty : tyV X.K T x H) :
    s.TypeIs v T ∧ ∀ a, v = .ref a → ∃ ob, s.heap.get? a = some ob ∧ ob.dict = none := by
  cases x with
  | str z =>
    obtain ⟨t, rfl⟩ := r
    cases (show T = "str" from ty)
    exact ⟨typeIs_str s z t, fun _ e => nomatch e⟩
  | int i =>
    obtain ⟨t, rfl⟩ := r
    cases (show T = "int" from ty)
    exact ⟨typeIs_int s i t, fun _ e => nomatch e⟩
  | ref p =>
    cases r
    rcases ty with ⟨rfl, xs, hq⟩ | ⟨rfl, o, hk, hc, hd⟩ | ⟨rfl, hk⟩ | ⟨rfl, S, n, hk⟩
    · obtain ⟨its, _, pl, _⟩ := I.list hq
      refine ⟨pl.isList.typeIs, fun a e => ?_⟩
      cases e
      obtain ⟨o, n, e, c, hd, _⟩ := pl
      exact ⟨o, e, hd⟩
    · refine ⟨⟨o, I.kIn p o hk, hc⟩, fun a e => ?_⟩
      cases e
      exact ⟨o, I.kIn _ o hk, hd⟩
    · have z : ∃ o, s.heap.get? p = some o ∧ o.ExactDict := by
        rcases hk with ⟨kvs, hk⟩ | ⟨kvs, hk⟩
        · obtain ⟨_, _, _, _, o, _, _, e, ex, _⟩ := I.hok p _ hk
          exact ⟨o, e, ex⟩
        · obtain ⟨_, _, _, _, o, _, _, e, ex, _⟩ := I.hok p _ hk
          exact ⟨o, e, ex⟩
      obtain ⟨o, e, ex⟩ := z
      refine ⟨⟨o, e, ex.1⟩, fun a e2 => ?_⟩
      cases e2
      exact ⟨o, e, ex.2.1⟩
    · obtain ⟨o, _, _, _, e, ex, _⟩ := I.hok p _ hk
      refine ⟨⟨o, e, ex.1⟩, fun a e2 => ?_⟩
      cases e2
      exact ⟨o, e, ex.2.1⟩
  | _ => exact False.elim ty
def tBM0 (K : PySem.W.Frag) (T : String) (r : V → List V → Hp → VK → Prop) (to : TE) : TE := fun σ H Q => to σ H fun x H1 => tyV K T x H1 ∧ r x [] H1 Q
def tBM (K : PySem.W.Frag) (T : String) (r : V → List V → Hp → VK → Prop) (to : TE) (t : TA) : TE := fun σ H Q => to σ H fun x H1 => tyV K T x H1 ∧ t σ H1 fun xs H2 => r x xs H2 Q
variable {o e : Expr} {es : List Expr} {to : TE} {t : TA} {name : Str} {apos cpos : Pos} {T id : String} {r : V → List V → Hp → VK → Prop}
theorem pe_bm0 (pa : PlainAttrs T) (slot : Slot T name id) (hty : typeOf (.builtin id) = pure (.type "method_descriptor")) (hm : MtR X id r) (ho : PE X o to)
    (hbase : attributeBase o name X.env (eval o X.env) = eval o X.env := by rfl) (hline : (apos.endLine == cpos.line) = true := by rfl) : PE X (.Call (.Attribute o name apos) [] [] cpos) (tBM0 X.K T r to) := by
  intro pins s σ H Q I h
  refine wpAny_Call_method0_late hbase hline (thn (ho pins s σ H _ I h) fun v s1 ⟨x, H1, I1, r1, ty, q1⟩ => ?_)
  obtain ⟨h1, h2⟩ := tyV_is I1 r1 ty
  exact ⟨T, id, pa, slot, hty, h1, h2, Calls.callWith_builtin rfl (PySem.evalArgs_none (hm pins s1 σ H1 x [] v [] Q I1 r1 .nil q1))⟩
theorem pe_bm (pa : PlainAttrs T) (slot : Slot T name id) (hty : typeOf (.builtin id) = pure (.type "method_descriptor")) (hm : MtR X id r) (ho : PE X o to) (ha : PA X (e :: es) t)
    (hbase : attributeBase o name X.env (eval o X.env) = eval o X.env := by rfl)
    (hfew : ((backTo cpos (starEach (e :: es) X.env)).all (fun x => !x.1) && (backToKw cpos (keywordEach [] X.env)).all (fun x => x.1.isSome)
      && decide ((e :: es).length + ([] : List Keyword).length + (if ([] : List Keyword).isEmpty then 0 else 1) < 30)) = true := by rfl)
    (hline : (apos.endLine == cpos.line) = true := by rfl) (hs : starEach (e :: es) X.env = (false, eval e X.env) :: starEach es X.env := by rfl) (hplain : (backTo cpos (starEach es X.env)).any (·.1) = false := by rfl) :
    PE X (.Call (.Attribute o name apos) (e :: es) [] cpos) (tBM X.K T r to t) := by
  intro pins s σ H Q I h
  refine wpAny_Call_method_late hbase hfew hline rfl (thn (ho pins s σ H _ I h) fun v s1 ⟨x, H1, I1, r1, ty, q1⟩ => ?_)
  obtain ⟨h1, h2⟩ := tyV_is I1 r1 ty
  refine ⟨T, id, pa, slot, hty, h1, h2, ?_⟩
  have hA := ha cpos pins s1 σ H1 _ I1 q1
  rw [hs] at hA ⊢
  refine Calls.callWith_builtin (by show (false || (backTo cpos (starEach es X.env)).any (·.1)) = false; rw [hplain] <;> rfl) (Calls.evalArgs_plain ?_)
  exact thn hA fun us s2 ⟨vs, H2, I2, r2, q2⟩ => hm pins s2 σ H2 x vs v us Q I2 r1 r2 q2
end
end L2
namespace L2
open PySem PySem.Spec PyProof.Rows
def MtM (X : Cx) (id : String) (r : V → List V → Hp → VK → Prop) : Prop :=
  ∀ (pins : List (Addr × Obj)) (s : Shared) (σ : St) (H : Hp) (x : V) (xs : List V) (v : Value) (us : List Value) (Q : VK), Inv X pins σ H s → RelV x v → Vals xs us → r x xs H Q →
    wpAny (model X.prog X.w) X.A (call (.builtin id) (v :: us)) (EP X pins σ Q) X.xe s
theorem Vals.one : ∀ {x : V} {us : List Value}, Vals [x] us → ∃ u, us = [u] ∧ RelV x u
  | _, _, .cons r .nil => ⟨_, rfl, r⟩
theorem Vals.two : ∀ {x y : V} {us : List Value}, Vals [x, y] us → ∃ u v, us = [u, v] ∧ RelV x u ∧ RelV y v
  | _, _, _, .cons r (.cons q .nil) => ⟨_, _, rfl, r, q⟩
theorem Vals.zero : ∀ {us : List Value}, Vals [] us → us = []
  | _, .nil => rfl
section
variable {X : Cx} {pins : List (Addr × Obj)} {σ : St} {H : Hp} {s : Shared} {l b : Addr} {xs ys zs : List V}
theorem Inv.lset {its its' : List Value} {n : Nat} {f : Array Value → Array Value} {t' : Nat} (I : Inv X pins σ H s) (hH : H l = some (.lst xs))
    (e : s.heap.get? l = some { cls := .type "list", data := .seq its.toArray n }) (hf : f its.toArray = its'.toArray) (hv : Vals ys its') (hz : ys.length ≤ sizeLine) :
    Inv X pins σ (upd H l (.lst ys)) { s with heap := s.heap.update l (Obj.mapSeq f), toks := t' } := by
  have q := PySem.IsL.update e f
  rw [hf] at q
  refine I.write (x := l) (e := l) (by rw [hH]; exact trivial) (.inl rfl) (fun b' u hb hu => (Heap.get?_update_other s.heap (Obj.mapSeq f) (Ne.symm hb)).trans hu) ⟨_, q⟩ ?_
  exact ⟨hz, its', _, hv, q⟩
theorem Inv.lnew {its : List Value} {t' : Nat} (I : Inv X pins σ H s) (hv : Vals ys its) (hz : ys.length ≤ sizeLine) :
    Inv X pins σ (upd H s.heap.objs.size (.lst ys)) { s with heap := s.heap.push { cls := .type "list", data := .seq its.toArray }, toks := t' } :=
  I.laid (fun _ _ q => Heap.get?_push_of_some _ q) (Nat.le_refl _) ⟨hz, its, 0, hv, Heap.get?_push_size _ rfl⟩
theorem Inv.fresh (I : Inv X pins σ H s) : H s.heap.objs.size = none := I.hok.fresh (Nat.le_refl _)
theorem Inv.lstM (I : Inv X pins σ H s) (hH : H l = some (.lst xs)) : xs.length ≤ sizeLine ∧ ∃ (its : List Value) (n : Nat), Vals xs its ∧ xs.length = its.length ∧ s.heap.get? l = some { cls := .type "list", data := .seq its.toArray n } := by
  obtain ⟨z, its, n, r, e⟩ := I.hok l _ hH
  exact ⟨z, its, n, r, r.length, e⟩
theorem notLongL {n : Nat} (h : n ≤ sizeLine) : Builtin.List.listTooLong n = false := by
  unfold Builtin.List.listTooLong
  exact decide_eq_false (by omega)
end
section
variable {X : Cx}
def rAppend : V → List V → Hp → VK → Prop := fun x vs H Q => ∃ l xs y, x = .ref l ∧ vs = [y] ∧ H l = some (.lst xs) ∧ xs.length < sizeLine ∧ Q .non (upd H l (.lst (xs ++ [y])))
theorem mt_append : MtM X "list.append" rAppend := by
  intro pins s σ H x vs v us Q I rx rv h
  obtain ⟨l, xs, y, rfl, rfl, hH, hz, q⟩ := h
  cases rx
  obtain ⟨u, rfl, ru⟩ := rv.one
  obtain ⟨z, its, n, r, hl, e⟩ := I.lstM hH
  refine call_meets F.slot_list_append ⟨_, e, rfl⟩ F.entry_list_append (F.args_list_append_2 _ _) (PySem.list_append l its.toArray n u (by rw [List.size_toArray]; omega)) ⟨e, ?_⟩
  refine ⟨.non, _, I.lset (its' := its ++ [u]) hH e (by simp) (r.append (.cons ru .nil)) ?_, rfl, q⟩
  rw [List.length_append, List.length_singleton]
  omega
def rExtend : V → List V → Hp → VK → Prop := fun x vs H Q => ∃ l b xs zs, x = .ref l ∧ vs = [.ref b] ∧ H l = some (.lst xs) ∧ H b = some (.lst zs) ∧ xs.length + zs.length ≤ sizeLine ∧ Q .non (upd H l (.lst (xs ++ zs)))
theorem mt_extend : MtM X "list.extend" rExtend := by
  intro pins s σ H x vs v us Q I rx rv h
  obtain ⟨l, b, xs, zs, rfl, rfl, hH, hB, hz, q⟩ := h
  cases rx
  obtain ⟨u, rfl, ru⟩ := rv.one
  cases ru
  obtain ⟨z, its, n, r, hl, e⟩ := I.lstM hH
  obtain ⟨z2, its2, n2, r2, hl2, e2⟩ := I.lstM hB
  have hsz : its.toArray.size + its2.toArray.size ≤ sizeLine := by rw [List.size_toArray, List.size_toArray]; omega
  have hlong : ¬ (!its.toArray.isEmpty && Builtin.List.listTooLong (its.toArray.size + its2.toArray.size)) = true := by
    rw [notLongL hsz, Bool.and_false]
    exact Bool.false_ne_true
  refine call_meets F.slot_list_extend ⟨_, e, rfl⟩ F.entry_list_extend (F.args_list_extend_2 _ _)
    (AutoSeq1.list_extend_list_list_0 l its.toArray n b its2.toArray n2 hlong (by rw [List.size_toArray]; omega) (by omega)) ⟨e, e2, ?_⟩
  refine ⟨.non, _, I.lset (its' := its ++ its2) hH e (by simp) (r.append r2) ?_, rfl, q⟩
  rw [List.length_append]
  omega
def rClear : V → List V → Hp → VK → Prop := fun x vs H Q => ∃ l xs, x = .ref l ∧ vs = [] ∧ H l = some (.lst xs) ∧ Q .non (upd H l (.lst []))
theorem mt_clear : MtM X "list.clear" rClear := by
  intro pins s σ H x vs v us Q I rx rv h
  obtain ⟨l, xs, rfl, rfl, hH, q⟩ := h
  cases rx
  have hus := rv.zero
  subst hus
  obtain ⟨z, its, n, r, hl, e⟩ := I.lstM hH
  refine call_meets F.slot_list_clear ⟨_, e, rfl⟩ F.entry_list_clear (F.args_list_clear_1 _) (AutoSeq1.list_clear_list_0 l its.toArray n (by rw [List.size_toArray]; omega)) ⟨e, ?_⟩
  exact ⟨.non, _, I.lset (its' := []) (ys := []) hH e rfl .nil (Nat.zero_le _), rfl, q⟩
def rCat : R2 := fun x y H Q => ∃ l b xs zs, x = .ref l ∧ y = .ref b ∧ H l = some (.lst xs) ∧ H b = some (.lst zs) ∧ xs.length + zs.length ≤ sizeLine ∧ ∀ p, H p = none → Q (.ref p) (upd H p (.lst (xs ++ zs)))
theorem op_cat : OpR X (binaryOp .Add) rCat := by
  intro pins s σ H x y v u Q I rx ry h
  obtain ⟨l, b, xs, zs, rfl, rfl, hH, hB, hz, q⟩ := h
  cases rx
  cases ry
  obtain ⟨z, its, n, r, hl, e⟩ := I.lstM hH
  obtain ⟨z2, its2, n2, r2, hl2, e2⟩ := I.lstM hB
  refine PySem.P.add_list e e2 ?_ (by rw [List.size_toArray, List.size_toArray]; omega)
  have ea : its.toArray ++ its2.toArray = (its ++ its2).toArray := by simp
  rw [ea]
  exact ⟨.ref _, _, I.lnew (t' := s.toks) (r.append r2) (by rw [List.length_append]; omega), rfl, q _ I.fresh⟩
end
section
variable {prog : Program} {w : World} {A : Around} {E : Value → Shared → Prop} {s : Shared}
end
section
variable {X : Cx}
end
end L2
namespace L2
open PySem PySem.Spec PyProof.Rows
section
variable {κ : Type} [DecidableEq κ]
def valV (kvs : List (κ × V)) (k : κ) : Option V := (kvs.find? fun kv => decide (kv.1 = k)).map (·.2)
def putK (kvs : List (κ × V)) (k : κ) (v : V) : List (κ × V) :=
  if (kvs.any fun kv => decide (kv.1 = k)) = true then kvs.map (fun kv => if kv.1 = k then (kv.1, v) else kv) else kvs ++ [(k, v)]
theorem valV_pos {p : κ × V} {r : List (κ × V)} {k : κ} (e : p.1 = k) : valV (p :: r) k = some p.2 := by simp [valV, List.find?_cons, e]
theorem valV_neg {p : κ × V} {r : List (κ × V)} {k : κ} (e : ¬ p.1 = k) : valV (p :: r) k = valV r k := by simp [valV, List.find?_cons, e]
theorem valV_any (k : κ) : ∀ kvs : List (κ × V), (kvs.any fun kv => decide (kv.1 = k)) = (valV kvs k).isSome
  | [] => rfl
  | p :: r => by
    rw [List.any_cons]
    by_cases e : p.1 = k
    · simp only [valV_pos e, decide_eq_true e, Bool.true_or, Option.isSome_some]
    · rw [valV_neg e, decide_eq_false e, Bool.false_or]; exact valV_any k r
theorem valV_map (k j : κ) (y : V) : ∀ kvs : List (κ × V), valV (kvs.map fun kv => if kv.1 = k then (kv.1, y) else kv) j = (valV kvs j).map fun x => if j = k then y else x
  | [] => rfl
  | p :: r => by
    have ih := valV_map k j y r
    rw [List.map_cons]
    by_cases h : p.1 = k
    · rw [if_pos h]
      by_cases e : p.1 = j
      · rw [valV_pos (p := (p.1, y)) e, valV_pos e, Option.map_some, if_pos (e.symm.trans h)]
      · rw [valV_neg (p := (p.1, y)) e, valV_neg e, ih]
    · rw [if_neg h]
      by_cases e : p.1 = j
      · rw [valV_pos (p := p) e, valV_pos e, Option.map_some, if_neg (fun z => h (e.trans z))]
      · rw [valV_neg (p := p) e, valV_neg e, ih]
theorem valV_snoc (k j : κ) (y : V) : ∀ kvs : List (κ × V), valV kvs k = none → valV (kvs ++ [(k, y)]) j = if j = k then some y else valV kvs j
  | [], _ => by
    by_cases e : k = j
    · rw [if_pos e.symm]; exact valV_pos (p := (k, y)) e
    · rw [if_neg (fun z => e z.symm)]; exact valV_neg (p := (k, y)) e
  | p :: r, hn => by
    rw [List.cons_append]
    have hk : ¬ p.1 = k := fun z => by rw [valV_pos z] at hn; cases hn
    rw [valV_neg hk] at hn
    have ih := valV_snoc k j y r hn
    by_cases e : p.1 = j
    · rw [valV_pos e, valV_pos e, if_neg (fun z => hk (e.trans z))]
    · rw [valV_neg e, valV_neg e, ih]
theorem valV_put (kvs : List (κ × V)) (k j : κ) (y : V) : valV (putK kvs k y) j = if j = k then some y else valV kvs j := by
  unfold putK
  by_cases a : (kvs.any fun kv => decide (kv.1 = k)) = true
  · rw [if_pos a, valV_map]
    rw [valV_any] at a
    by_cases e : j = k
    · obtain ⟨x, hx⟩ := Option.isSome_iff_exists.mp a
      rw [if_pos e, e, hx, Option.map_some, if_pos rfl]
    · rw [if_neg e]
      cases valV kvs j with
      | none => rfl
      | some x => rw [Option.map_some, if_neg e]
  · rw [if_neg a]
    refine valV_snoc k j y kvs ?_
    rw [valV_any] at a
    cases q : valV kvs k with
    | none => rfl
    | some x => rw [q] at a; exact (a rfl).elim
theorem length_putK (kvs : List (κ × V)) (k : κ) (v : V) : (putK kvs k v).length ≤ kvs.length + 1 := by
  unfold putK
  split
  · rw [List.length_map]; omega
  · rw [List.length_append, List.length_cons, List.length_nil]; omega
theorem RelO.isSome_eq {o : Option V} {u : Option Value} (r : RelO o u) : o.isSome = u.isSome := by
  cases o with
  | none => cases u with
    | none => rfl
    | some _ => exact (show False from r).elim
  | some _ => cases u with
    | none => exact (show False from r).elim
    | some _ => rfl
theorem RelO.getD {o : Option V} {u : Option Value} {d : V} {d' : Value} (r : RelO o u) (rd : RelV d d') : RelV (o.getD d) (u.getD d') := by
  cases o with
  | none => cases u with
    | none => exact rd
    | some _ => exact (show False from r).elim
  | some _ => cases u with
    | none => exact (show False from r).elim
    | some _ => exact r
theorem KV.val {kvs : List (κ × V)} {vs : List (κ × Value)} (r : KV kvs vs) (k : κ) : RelO (valV kvs k) (valueAt vs k) := by
  unfold KV at r
  induction r with
  | nil => exact True.intro
  | @cons p q ps qs h t ih =>
    obtain ⟨h1, h2⟩ := h
    by_cases e : p.1 = k
    · have e' : q.1 = k := h1.symm.trans e
      have b : valueAt (q :: qs) k = some q.2 := by simp [valueAt, List.find?_cons, e']
      rw [valV_pos e, b]; exact h2
    · have e' : ¬ q.1 = k := fun z => e (h1.trans z)
      have b : valueAt (q :: qs) k = valueAt qs k := by simp [valueAt, List.find?_cons, e']
      rw [valV_neg e, b]; exact ih
theorem KV.any {kvs : List (κ × V)} {vs : List (κ × Value)} (r : KV kvs vs) (k : κ) : (kvs.any fun kv => decide (kv.1 = k)) = vs.any fun kv => decide (kv.1 = k) := by
  unfold KV at r
  induction r with
  | nil => rfl
  | cons h t ih => rw [List.any_cons, List.any_cons, ih, h.1]
theorem KV.repl {kvs : List (κ × V)} {vs : List (κ × Value)} (r : KV kvs vs) (k : κ) {y : V} {u : Value} (ry : RelV y u) :
    KV (kvs.map fun kv => if kv.1 = k then (kv.1, y) else kv) (vs.map fun kv => if kv.1 = k then (kv.1, u) else kv) := by
  unfold KV at r ⊢
  induction r with
  | nil => exact .nil
  | @cons p q ps qs h t ih =>
    rw [List.map_cons, List.map_cons]
    refine .cons ?_ ih
    obtain ⟨h1, h2⟩ := h
    by_cases e : p.1 = k
    · rw [if_pos e, if_pos (h1.symm.trans e)]; exact ⟨h1, ry⟩
    · rw [if_neg e, if_neg (fun z => e (h1.trans z))]; exact ⟨h1, h2⟩
theorem KV.put {kvs : List (κ × V)} {vs : List (κ × Value)} (r : KV kvs vs) (k : κ) {y : V} {u : Value} (ry : RelV y u) : KV (putK kvs k y) (stored vs k u) := by
  unfold putK stored
  rw [r.any k]
  by_cases e : (vs.any fun kv => decide (kv.1 = k)) = true
  · rw [if_pos e, if_pos e]; exact r.repl k ry
  · rw [if_neg e, if_neg e]; exact Paired.snoc r ⟨rfl, ry⟩
theorem KV.length {kvs : List (κ × V)} {vs : List (κ × Value)} (r : KV kvs vs) : kvs.length = vs.length := Paired.length r
end
theorem kV_is {P : Program} {w : World} {k : Key} {u : Value} (r : RelV (kV k) u) : (mixKind P w).is k u = true := by
  cases k with
  | inl i => obtain ⟨t, e⟩ := (show ∃ t, u = Value.int i t from r); subst e; exact mixKind_int P w i t
  | inr x => obtain ⟨t, e⟩ := (show ∃ t, u = Value.str x t from r); subst e; exact mixKind_str P w x t
theorem items_are {P : Program} {w : World} : ∀ {ks : List Key} {us : List Value}, Vals (ks.map kV) us → ItemsAre (mixKind P w) ks us
  | [], _, r => by rw [List.map_nil] at r; cases r; exact .nil
  | k :: ks, _, r => by
    rw [List.map_cons] at r
    cases r with
    | cons h t => exact .cons (kV_is h) (items_are t)
abbrev KT (H : Hp) : List (List Key × V) → List (List Key × Addr × Value) → Prop := Paired fun p q => p.1 = q.1 ∧ H q.2.1 = some (.tup (p.1.map kV)) ∧ RelV p.2 q.2.2
theorem KT.val {H : Hp} {kvs : List (List Key × V)} {xs : List (List Key × Addr × Value)} (r : KT H kvs xs) (k : List Key) : RelO (valV kvs k) ((atKey xs k).map (·.2)) := by
  induction r with
  | nil => exact True.intro
  | @cons p q ps qs h t ih =>
    obtain ⟨h1, _, h2⟩ := h
    by_cases e : p.1 = k
    · have e' : q.1 = k := h1.symm.trans e
      have b : atKey (q :: qs) k = some q.2 := by simp [atKey, List.find?_cons, e']
      rw [valV_pos e, b]; exact h2
    · have e' : ¬ q.1 = k := fun z => e (h1.trans z)
      have b : atKey (q :: qs) k = atKey qs k := by simp [atKey, List.find?_cons, e']
      rw [valV_neg e, b]; exact ih
theorem KT.repl {H : Hp} {kvs : List (List Key × V)} {xs : List (List Key × Addr × Value)} (r : KT H kvs xs) (k : List Key) {y : V} {u : Value} (ry : RelV y u) :
    KT H (kvs.map fun kv => if kv.1 = k then (kv.1, y) else kv) (xs.map (putAt k u)) := by
  induction r with
  | nil => exact .nil
  | @cons p q ps qs h t ih =>
    rw [List.map_cons, List.map_cons]
    refine .cons ?_ ih
    obtain ⟨h1, h2, h3⟩ := h
    unfold putAt
    by_cases e : p.1 = k
    · rw [if_pos e, if_pos (h1.symm.trans e)]; exact ⟨h1, h2, ry⟩
    · rw [if_neg e, if_neg (fun z => e (h1.trans z))]; exact ⟨h1, h2, h3⟩
theorem KT.put {H : Hp} {kvs : List (List Key × V)} {xs : List (List Key × Addr × Value)} (r : KT H kvs xs) (k : List Key) {b : Addr} {y : V} {u : Value} (hb : H b = some (.tup (k.map kV))) (ry : RelV y u) :
    KT H (putK kvs k y) (storedH xs k b u) := by
  have e : (kvs.any fun kv => decide (kv.1 = k)) = (atKey xs k).isSome := by
    rw [valV_any, (r.val k).isSome_eq, Option.isSome_map]
  unfold putK storedH
  rw [e]
  by_cases q : (atKey xs k).isSome = true
  · rw [if_pos q, if_pos q]; exact r.repl k ry
  · rw [if_neg q, if_neg q]; exact Paired.snoc r ⟨rfl, hb, ry⟩
theorem KT.keeps {H H' : Hp} {kvs : List (List Key × V)} {xs : List (List Key × Addr × Value)} (r : KT H kvs xs) (ht : ∀ b ys, H b = some (.tup ys) → H' b = some (.tup ys)) : KT H' kvs xs :=
  Paired.mapP r fun _ _ z => ⟨z.1, ht _ _ z.2.1, z.2.2⟩
section
variable {P : Program} {w : World} {H : Hp} {h : Heap} {a : Addr}
theorem rd_of {u : HO} (ok : HOk P w H h) (e : Rd H a u) : ObjOk P w H h a u := e.ok ok
theorem dk_rd {kvs : List (Key × V)} (ok : HOk P w H h) (e : Rd H a (.dK kvs)) : kvs.length ≤ sizeLine ∧ (a == sysModules) = false ∧ ∃ vs, KV kvs vs ∧ h.DictOf (mixKind P w) a vs :=
  show ObjOk P w H h a (.dK kvs) from rd_of ok e
theorem dk_of {kvs : List (Key × V)} (ok : HOk P w H h) (e : H a = some (.dK kvs)) : kvs.length ≤ sizeLine ∧ (a == sysModules) = false ∧ ∃ vs, KV kvs vs ∧ h.DictOf (mixKind P w) a vs := dk_rd ok (.inl e)
theorem key_of {ks : List Key} (ok : HOk P w H h) (e : H a = some (.tup (ks.map kV))) : (tupleKind (mixKind P w)).is h ks a := by
  obtain ⟨_, its, r, o, h1, h2, n, h3⟩ := (show ObjOk P w H h a (.tup (ks.map kV)) from ok a _ e)
  exact ⟨o, its.toArray, n, h1, h2, h3, by simpa using items_are r⟩
theorem dt_rd {kvs : List (List Key × V)} (ok : HOk P w H h) (e : Rd H a (.dT kvs)) : kvs.length ≤ sizeLine ∧ (a == sysModules) = false ∧
    ∃ xs, KT H kvs xs ∧ h.DictOfH (tupleKind (mixKind P w)) a xs := by
  obtain ⟨z, y, xs, r, o, es, ep, h1, h2, h3, h4, h5⟩ := (show ObjOk P w H h a (.dT kvs) from rd_of ok e)
  refine ⟨z, y, xs, r, o, es, ep, h1, h2, h3, h4, fun x hx => ?_, h5⟩
  have all : ∀ {l : List (List Key × V)} {m : List (List Key × Addr × Value)}, KT H l m → ∀ x ∈ m, (tupleKind (mixKind P w)).is h x.1 x.2.1 := by
    intro l m q
    induction q with
    | nil => intro x hx; exact nomatch hx
    | @cons p q ps qs hq t ih =>
      intro x hx
      rcases List.mem_cons.mp hx with e | hx
      · subst e
        exact key_of ok (by rw [← hq.1]; exact hq.2.1)
      · exact ih x hx
  exact all r x hx
theorem dt_of {kvs : List (List Key × V)} (ok : HOk P w H h) (e : H a = some (.dT kvs)) : kvs.length ≤ sizeLine ∧ (a == sysModules) = false ∧
    ∃ xs, KT H kvs xs ∧ h.DictOfH (tupleKind (mixKind P w)) a xs := dt_rd ok (.inl e)
end
def DGet (H : Hp) (a : Addr) (y : V) (r : Option V) : Prop :=
  (∃ kvs k, Rd H a (.dK kvs) ∧ y = kV k ∧ r = valV kvs k) ∨ ∃ kvs k b, Rd H a (.dT kvs) ∧ y = .ref b ∧ H b = some (.tup (k.map kV)) ∧ r = valV kvs k
def DPut (H : Hp) (a : Addr) (y v : V) (H' : Hp) : Prop :=
  (∃ kvs k, H a = some (.dK kvs) ∧ y = kV k ∧ kvs.length < sizeLine ∧ H' = upd H a (.dK (putK kvs k v))) ∨
  ∃ kvs k b, H a = some (.dT kvs) ∧ y = .ref b ∧ H b = some (.tup (k.map kV)) ∧ kvs.length < sizeLine ∧ H' = upd H a (.dT (putK kvs k v))
theorem DGet.k {H : Hp} {a : Addr} {kvs : List (Key × V)} {k : Key} (e : H a = some (.dK kvs)) : DGet H a (kV k) (valV kvs k) := .inl ⟨kvs, k, .inl e, rfl, rfl⟩
theorem DPut.k {H : Hp} {a : Addr} {kvs : List (Key × V)} {k : Key} {v : V} (e : H a = some (.dK kvs)) (hl : kvs.length < sizeLine) : DPut H a (kV k) v (upd H a (.dK (putK kvs k v))) := .inl ⟨kvs, k, e, rfl, hl, rfl⟩
section
variable {X : Cx} {pins : List (Addr × Obj)} {σ : St} {H : Hp} {s : Shared} {a : Addr} {y v : V} {u r : Value} {o : Option V} {A : Around} {E : Value → Shared → Prop}
theorem Inv.big (I : Inv X pins σ H s) : sysModules < s.heap.objs.size := by
  have h : mainGlobals < s.heap.objs.size := (I.mod.glob.keeps I.bk).lt
  exact Nat.lt_trans (by decide) h
theorem d_getItem {Q : Value → Shared → Prop} (hu : A.units + 1 < cLine) (I : Inv X pins σ H s) (g : DGet H a y (some v)) (ry : RelV y u) (h : ∀ w' s', Inv X pins σ H s' → RelV v w' → Q w' s') :
    wpAny (model X.prog X.w) A (getItem (.ref a) u) Q E s := by
  rcases g with ⟨kvs, k, e, ey, l⟩ | ⟨kvs, k, b, e, ey, eb, l⟩
  · subst ey
    obtain ⟨z, hd, vs, rel, dd⟩ := dk_rd I.hok e
    obtain ⟨w', hw, rw'⟩ := RelO.some_of (v := v) (o := valueAt vs k) (by rw [l]; exact rel.val k)
    exact wpAny_getItem_of (kV_is ry) dd.mapOf hw (h w' _ (I.tok _) rw')
  · subst ey
    cases (show u = Value.ref b from ry)
    obtain ⟨z, hd, xs, rel, dd⟩ := dt_rd I.hok e
    obtain ⟨w', hw, rw'⟩ := RelO.some_of (v := v) (o := (atKey xs k).map (·.2)) (by rw [l]; exact rel.val k)
    obtain ⟨p, hp, hp2⟩ := Option.map_eq_some_iff.mp hw
    refine wpAny_getItem_heap (tupleKind_room_in1 hu) (key_of I.hok eb) dd hp ?_
    rw [hp2]
    exact h w' _ (I.tok _) rw'
theorem d_write {h' : Heap} {t' : Nat} {ob : HO} (I : Inv X pins σ H s) (mu : Mut (H a)) (hs : Heap.SameBut a s.heap h') (he : ∃ q, h'.get? a = some q) (new : ObjOk X.prog X.w (upd H a ob) h' a ob) :
    Inv X pins σ (upd H a ob) { s with heap := h', toks := t' } :=
  I.write (x := a) (e := a) mu (.inl rfl) (fun b q hb z => (hs.2 b hb).trans z) he new
theorem dk_new {P : Program} {w : World} {H' : Hp} {h' : Heap} {kvs : List (Key × V)} {vs : List (Key × Value)} (z : kvs.length ≤ sizeLine) (hd : (a == sysModules) = false) (rel : KV kvs vs) (dd : h'.DictOf (mixKind P w) a vs) :
    ObjOk P w H' h' a (.dK kvs) := ⟨z, hd, vs, rel, dd⟩
theorem d_setItem {H' : Hp} {Q : Unit → Shared → Prop} (hu : A.units + 1 < cLine) (I : Inv X pins σ H s) (g : DPut H a y v H') (ry : RelV y u) (rv : RelV v r) (h : ∀ s', Inv X pins σ H' s' → Q () s') :
    wpAny (model X.prog X.w) A (setItem (.ref a) u r) Q E s := by
  rcases g with ⟨kvs, k, e, ey, l, eH⟩ | ⟨kvs, k, b, e, ey, eb, l, eH⟩
  · subst ey eH
    obtain ⟨z, hd, vs, rel, dd⟩ := dk_of I.hok e
    have hz : vs.length ≤ sizeLine := by rw [← rel.length]; exact z
    have hl : (putK kvs k v).length ≤ sizeLine := by have := length_putK kvs k v; omega
    refine wpAny_setItem_pairs (hsz := hz) (kV_is ry) dd fun h' dd' hs => h _ ?_
    have he : ∃ q, h'.get? a = some q := let ⟨q, _, _, hq, _⟩ := dd'; ⟨q, hq⟩
    exact d_write I (by rw [e]; exact True.intro) hs he (dk_new hl hd (rel.put k rv) dd')
  · subst ey eH
    cases (show u = Value.ref b from ry)
    obtain ⟨z, hd, xs, rel, dd⟩ := dt_of I.hok e
    have hz : xs.length ≤ sizeLine := by rw [← Paired.length rel]; exact z
    have hl : (putK kvs k v).length ≤ sizeLine := by have := length_putK kvs k v; omega
    refine wpAny_setItem_heap (hsz := hz) (tupleKind_room_in1 hu) (key_of I.hok eb) dd fun h' dd' hs => h _ ?_
    obtain ⟨q, es, ep, hq, h2, h3, h4, _, h5⟩ := dd'
    refine d_write I (by rw [e]; exact True.intro) hs ⟨q, hq⟩ ⟨hl, hd, _, (rel.put k eb rv).keeps fun c ys ec => ?_, q, es, ep, hq, h2, h3, h4, h5⟩
    rw [upd_ne (ne_of ec e (fun z => nomatch z))]
    exact ec
end
section
variable {X : Cx} {pins : List (Addr × Obj)} {σ : St} {H : Hp} {s : Shared} {a : Addr} {kvs : List (Key × V)} {k : Key} {u : Value} {A : Around} {E : Value → Shared → Prop}
theorem d_len {Q : Value → Shared → Prop} (I : Inv X pins σ H s) (e : Rd H a (.dK kvs)) (h : ∀ t s', Inv X pins σ H s' → Q (.int kvs.length t) s') : wpAny (model X.prog X.w) A (call (.builtin "len") [.ref a]) Q E s := by
  obtain ⟨z, hd, vs, rel, dd⟩ := dk_rd I.hok e
  refine call_len_dict hd dd (by rw [← rel.length]; rw [sizeLine_eq] at z; omega) ?_
  rw [← rel.length]
  exact h _ _ (I.tok _)
end
def NoSl (i : Expr) : Prop := ∀ ov iv, subscripted i false ov iv = operate [ov, iv] (getItem ov iv)
theorem subD_of {prog : Program} {w : World} {A : Around} {E : Value → Shared → Prop} {s : Shared} {env : Env} {value slice : Expr} {pos : Pos} {T id : String} {Q : Value → Shared → Prop}
    (hl : typeLookup (.type T) "__getitem__" = pure (some (.builtin id))) (hs : NoSl slice)
    (h : wpAny (model prog w) A (eval value env) (fun o s₁ => wpAny (model prog w) A (eval slice env) (fun i s₂ => s₂.TypeIs o T ∧ wpAny (model prog w) A (getItem o i) Q E s₂) E s₁) E s) :
    wpAny (model prog w) A (eval (.Subscript value slice pos) env) Q E s := by
  refine Subscript_ (wpAny_mono h (fun o s₁ h₁ => wpAny_mono h₁ (fun i s₂ h₂ => ?_) fun _ _ x => x) fun _ _ x => x)
  obtain ⟨hT, h₂⟩ := h₂
  unfold subscriptTail
  refine wpAny_bind ?_
  rw [getitemInPython_of_ne hT.not_modules]
  refine wpAny_bind (wpAny_specialOf hT hl ?_)
  have fin : wpAny (model prog w) A (subscripted slice false o i) (fun r s₃ => wpAny (model prog w) A (letTemporaryGo value o r >>= fun _ => pure r) Q E s₃) E s₂ := by
    rw [hs o i]
    exact wpAny_operating (wpAny_mono h₂ (fun r s₃ h₃ => wpAny_bind (wpAny_letTemporaryGo (wpAny_pure h₃))) fun _ _ x => x)
  first
    | exact wpAny_pure (wpAny_bind fin)
    | exact wpAny_bind (wpAny_pure (wpAny_bind fin))
    | exact wpAny_bind fin
theorem dict_typeIs {X : Cx} {pins : List (Addr × Obj)} {σ : St} {H : Hp} {s : Shared} {a : Addr} {y : V} {o : Option V} (I : Inv X pins σ H s) (g : DGet H a y o) : s.TypeIs (.ref a) "dict" := by
  rcases g with ⟨kvs, k, e, _, _⟩ | ⟨kvs, k, b, e, _, _, _⟩
  · obtain ⟨_, _, vs, _, dd⟩ := dk_rd I.hok e
    exact dd.typeIs
  · obtain ⟨_, _, xs, _, dd⟩ := dt_rd I.hok e
    exact dd.typeIs
def tDGet (td ty : TE) : TE := fun σ H Q => td σ H fun x H1 => ty σ H1 fun y H2 => ∃ a v, x = .ref a ∧ DGet H2 a y (some v) ∧ Q v H2
def sDPut (td ty tv : TE) : TS := fun D σ H => tv σ H fun v H1 => td σ H1 fun x H2 => ty σ H2 fun y H3 => ∃ a H4, x = .ref a ∧ DPut H3 a y v H4 ∧ D.nx σ H4
section
variable {X : Cx} {o i e value : Expr} {pos pos' tpos : Pos} {td ty tv : TE}
theorem pe_dget (hu : X.A.units + 1 < cLine) (ho : PE X o td) (hi : PE X i ty) (hs : NoSl i) : PE X (.Subscript o i pos) (tDGet td ty) := by
  intro pins s σ H Q I h
  refine subD_of PySem.F.slot_dict_getitem.lookup hs (thn (ho pins s σ H _ I h) fun u s1 ⟨x, H1, I1, rx, q1⟩ => thn (hi pins s1 σ H1 _ I1 q1) fun iv s2 ⟨y, H2, I2, ry, a, v, ex, g, q2⟩ => ?_)
  subst ex
  obtain rfl : u = Value.ref a := rx
  exact ⟨dict_typeIs I2 g, d_getItem hu I2 g ry fun w' s3 I3 rw' => ⟨v, H2, I3, rw', q2⟩⟩
theorem ps_dput (hu : X.A.units + 1 < cLine) (ho : PE X o td) (hi : PE X i ty) (hv : PE X value tv) (hs : swapsWith value (some (.Subscript o i pos')) pos.line X.env = pure false) :
    PS X (.Assign [.Subscript o i pos'] value pos) (sDPut td ty tv) := by
  intro pins s σ H D I h
  refine wpAny_Assign_Subscript (thn (hv pins s σ H _ I h) fun r s1 ⟨v, H1, I1, rv, q1⟩ => thn (ho pins s1 σ H1 _ I1 q1) fun u s2 ⟨x, H2, I2, rx, q2⟩ => thn (hi pins s2 σ H2 _ I2 q2) fun iv s3 ⟨y, H3, I3, ry, a, H4, ex, g, q3⟩ => ?_) hs
  subst ex
  obtain rfl : u = Value.ref a := rx
  exact d_setItem hu I3 g ry rv fun s4 I4 => ⟨σ, H4, I4, q3⟩
end
theorem dk_empty {P : Program} {w : World} {H : Hp} (h : Heap) (hb : sysModules < h.objs.size) : ObjOk P w H (h.push { cls := .type "dict", data := .dict #[] }) h.objs.size (.dK []) :=
  ⟨Nat.zero_le _, beq_eq_false_iff_ne.mpr (Ne.symm (Nat.ne_of_lt hb)), [], .nil, Heap.DictOf.new h⟩
def tDNewK : TE := fun _ H Q => ∀ p, H p = none → Q (.ref p) (upd H p (.dK []))
section
variable {X : Cx} {pos : Pos}
theorem pe_dnewK : PE X (.Dict [] [] pos) tDNewK := fun pins s σ H Q I h =>
  wpAny_Dict_empty ⟨.ref s.heap.objs.size, _, I.laid (a := s.heap.objs.size) (o := .dK []) (t' := s.toks) (fun _ _ q => Heap.get?_push_of_some _ q) (Nat.le_refl _) (dk_empty s.heap I.big), rfl, h _ (I.hok.fresh (Nat.le_refl _))⟩
end
def tPairs : List (TE × TE) → St → Hp → (List (V × V) → Hp → Prop) → Prop
  | [], _, H, Q => Q [] H
  | (tk, tv) :: r, σ, H, Q => tk σ H fun x H1 => tv σ H1 fun y H2 => tPairs r σ H2 fun ps H3 => Q ((x, y) :: ps) H3
abbrev VV : List (V × V) → List (Value × Value) → Prop := Paired fun p q => RelV p.1 q.1 ∧ RelV p.2 q.2
def PPs (X : Cx) (pos : Pos) (keys : List (Option Expr)) (values : List Expr) (trs : List (TE × TE)) : Prop :=
  ∀ (pins : List (Addr × Obj)) (s : Shared) (σ : St) (H : Hp) (Q : List (V × V) → Hp → Prop), Inv X pins σ H s → tPairs trs σ H Q →
    wpAny (model X.prog X.w) X.A (evalPairs (pairTrees keys values X.env pos)) (fun vs s' => ∃ ps H', Inv X pins σ H' s' ∧ VV ps vs ∧ Q ps H') X.xe s
theorem pps_nil {X : Cx} {pos : Pos} : PPs X pos [] [] [] := fun pins s σ H Q I h => pairTrees_nil_walk ⟨[], H, I, .nil, h⟩
theorem pps_cons {X : Cx} {pos : Pos} {k v : Expr} {ks : List (Option Expr)} {vs : List Expr} {tk tv : TE} {trs : List (TE × TE)} (hk : PE X k tk) (hv : PE X v tv) (hr : PPs X pos ks vs trs) :
    PPs X pos (some k :: ks) (v :: vs) ((tk, tv) :: trs) := fun pins s σ H Q I h =>
  pairTrees_cons_walk (thn (hk pins s σ H _ I h) fun u s1 ⟨x, H1, I1, rx, q1⟩ => thn (hv pins s1 σ H1 _ I1 q1) fun w2 s2 ⟨y, H2, I2, ry, q2⟩ =>
    thn (hr pins s2 σ H2 _ I2 q2) fun ws s3 ⟨ps, H3, I3, rel, q3⟩ => ⟨(x, y) :: ps, H3, I3, .cons ⟨rx, ry⟩ rel, q3⟩)
def mergeK (kvs more : List (Key × V)) : List (Key × V) := more.foldl (fun acc kv => putK acc kv.1 kv.2) kvs
theorem KV.merge : ∀ {more : List (Key × V)} {rs : List (Key × Value)} {kvs : List (Key × V)} {vs : List (Key × Value)}, KV more rs → KV kvs vs → KV (mergeK kvs more) (merged vs rs) := by
  intro more rs kvs vs r
  unfold KV at r
  induction r generalizing kvs vs with
  | nil => intro q; exact q
  | @cons p q ps qs h t ih =>
    intro r0
    have e : KV (putK kvs p.1 p.2) (stored vs q.1 q.2) := by
      have := r0.put p.1 h.2
      rw [← h.1]; exact this
    exact ih e
theorem length_mergeK : ∀ (more kvs : List (Key × V)), (mergeK kvs more).length ≤ kvs.length + more.length
  | [], kvs => by show kvs.length ≤ kvs.length + 0; omega
  | p :: r, kvs => by
    have h1 := length_mergeK r (putK kvs p.1 p.2)
    have h2 := length_putK kvs p.1 p.2
    show (mergeK (putK kvs p.1 p.2) r).length ≤ _
    rw [List.length_cons]; omega
theorem carries_of {P : Program} {w : World} : ∀ {kvs : List (Key × V)} {ws : List (Value × Value)}, VV (kvs.map fun kv => (kV kv.1, kv.2)) ws → ∃ rs, Carries (mixKind P w) ws rs ∧ KV kvs rs
  | [], _, r => by rw [List.map_nil] at r; cases r; exact ⟨[], True.intro, .nil⟩
  | p :: kvs, _, r => by
    rw [List.map_cons] at r
    cases r with
    | @cons a b as bs h t =>
      obtain ⟨rs, c, q⟩ := carries_of (P := P) (w := w) t
      obtain ⟨b1, b2⟩ := b
      exact ⟨(p.1, b2) :: rs, ⟨kV_is h.1, rfl, c⟩, .cons ⟨rfl, h.2⟩ q⟩
def tDisp (trs : List (TE × TE)) : TE := fun σ H Q => ∀ p, H p = none → tPairs trs σ (upd H p (.dK [])) fun ps H2 => H2 p = some (.dK []) ∧ ∃ kvs : List (Key × V), ps = kvs.map (fun kv => (kV kv.1, kv.2)) ∧ kvs.length ≤ 15 ∧ Q (.ref p) (upd H2 p (.dK (mergeK [] kvs)))
theorem pe_disp {X : Cx} {pos : Pos} {keys : List (Option Expr)} {values : List Expr} {trs : List (TE × TE)} (h : PPs X pos keys values trs) (hall : keys.all (·.isSome) = true) (hl : keys.length = values.length) (h0 : keys ≠ [])
    (h15 : keys.length ≤ 15) : PE X (.Dict keys values pos) (tDisp trs) := by
  intro pins s σ H Q I q
  have hn := I.hok.fresh (Nat.le_refl s.heap.objs.size)
  have I1 := I.laid (a := s.heap.objs.size) (o := .dK []) (h' := s.heap.push { cls := .type "dict", data := .dict #[] }) (t' := s.toks) (fun _ _ q => Heap.get?_push_of_some _ q) (Nat.le_refl _) (dk_empty s.heap I.big)
  refine wpAny_Dict_walk (knd := mixKind X.prog X.w) hall hl h0 h15 (thn (h pins _ σ _ _ I1 (q _ hn)) fun ws s2 ⟨ps, H2, I2, rel, e, kvs, ep, lk, q2⟩ => ?_)
  subst ep
  obtain ⟨rs, c, rk⟩ := carries_of (P := X.prog) (w := X.w) rel
  obtain ⟨z, hd, vs0, r0, dd⟩ := dk_of I2.hok e
  cases r0
  refine ⟨rs, c, dd, fun h' dd' hs => ⟨.ref s.heap.objs.size, _, ?_, rfl, q2⟩⟩
  have hz : (mergeK [] kvs).length ≤ sizeLine := by
    have h1 := length_mergeK kvs []
    rw [List.length_nil] at h1
    rw [sizeLine_eq]; omega
  have he : ∃ q, h'.get? s.heap.objs.size = some q := let ⟨q, _, _, hq, _⟩ := dd'; ⟨q, hq⟩
  exact d_write I2 (by rw [e]; exact True.intro) hs he (dk_new hz hd (rk.merge .nil) dd')
structure M2 (X : Cx) (o : Expr) (m : Str) (apos : Pos) (e f : Expr) (cpos : Pos) : Prop where
  base : attributeBase o m X.env (eval o X.env) = eval o X.env
  few : ((backTo cpos (starEach [e, f] X.env)).all (fun x => !x.1) && (backToKw cpos (keywordEach [] X.env)).all (fun x => x.1.isSome)
    && decide (([e, f] : List Expr).length + ([] : List Keyword).length + (if ([] : List Keyword).isEmpty then 0 else 1) < 30)) = true
  line : (apos.endLine == cpos.line) = true
  trees : backTo cpos (starEach [e, f] X.env) = [(false, eval e X.env), (false, eval f X.env)]
def IsD (H : Hp) (a : Addr) : Prop := (∃ kvs, Rd H a (.dK kvs)) ∨ ∃ kvs, Rd H a (.dT kvs)
theorem isD_at {X : Cx} {pins : List (Addr × Obj)} {σ : St} {H : Hp} {s : Shared} {a : Addr} (I : Inv X pins σ H s) (d : IsD H a) :
    s.TypeIs (.ref a) "dict" ∧ (∀ b, Value.ref a = .ref b → ∃ ob, s.heap.get? b = some ob ∧ ob.dict = none) ∧ (a == sysModules) = false := by
  rcases d with ⟨kvs, e⟩ | ⟨kvs, e⟩
  · obtain ⟨_, hd, vs, _, dd⟩ := dk_rd I.hok e
    refine ⟨dd.typeIs, fun b q => ?_, hd⟩
    cases q
    obtain ⟨ob, _, _, h1, h2, _⟩ := dd
    exact ⟨ob, h1, h2.2.1⟩
  · obtain ⟨_, hd, xs, _, dd⟩ := dt_rd I.hok e
    refine ⟨dd.typeIs, fun b q => ?_, hd⟩
    cases q
    obtain ⟨ob, _, _, h1, h2, _⟩ := dd
    exact ⟨ob, h1, h2.2.1⟩
section
variable {X : Cx} {pins : List (Addr × Obj)} {σ : St} {H : Hp} {s : Shared} {a : Addr} {y d : V} {u r : Value} {o : Option V} {A : Around} {E : Value → Shared → Prop}
theorem d_get2 {Q : Value → Shared → Prop} (hu : A.units + 1 < cLine) (I : Inv X pins σ H s) (g : DGet H a y o) (ry : RelV y u) (rd : RelV d r) (h : ∀ w' s', Inv X pins σ H s' → RelV (o.getD d) w' → Q w' s') :
    wpAny (model X.prog X.w) A (call (.builtin "dict.get") [.ref a, u, r]) Q E s := by
  rcases g with ⟨kvs, k, e, ey, l⟩ | ⟨kvs, k, b, e, ey, eb, l⟩
  · subst ey
    obtain ⟨z, hd, vs, rel, dd⟩ := dk_rd I.hok e
    refine call_meetsIn PySem.F.slot_dict_get dd.typeIs PySem.F.entry_dict_get (PySem.F.args_dict_get_3 _ _ _) (meets_dict_get_default (mixKind X.prog X.w) a (kV_is ry) hd r) ⟨_, dd.mapOf, h _ _ (I.tok _) ?_⟩
    rw [l]
    exact (rel.val k).getD rd
  · subst ey
    cases (show u = Value.ref b from ry)
    obtain ⟨z, hd, xs, rel, dd⟩ := dt_rd I.hok e
    refine call_meetsIn PySem.F.slot_dict_get dd.typeIs PySem.F.entry_dict_get (PySem.F.args_dict_get_3 _ _ _) (meetsH_dict_get_default (tupleKind (mixKind X.prog X.w)) a b hd r) ⟨tupleKind_room_in1 hu, k, xs, key_of I.hok eb, dd, h _ _ (I.tok _) ?_⟩
    rw [l]
    exact (rel.val k).getD rd
end
def tDGet2 (td ty tx : TE) : TE := fun σ H Q => td σ H fun x H1 => ∃ a, x = .ref a ∧ IsD H1 a ∧ ty σ H1 fun y H2 => tx σ H2 fun z H3 => ∃ o, DGet H3 a y o ∧ Q (o.getD z) H3
section
variable {X : Cx} {o e f : Expr} {apos cpos : Pos} {td ty tx : TE}
theorem pe_dget2 (hu : X.A.units + 1 < cLine) (ho : PE X o td) (he : PE X e ty) (hf : PE X f tx) (m : M2 X o "get" apos e f cpos) : PE X (.Call (.Attribute o "get" apos) [e, f] [] cpos) (tDGet2 td ty tx) := by
  intro pins s σ H Q I h
  refine wpAny_Call_method m.base m.few m.line PySem.F.plainAttrs_dict PySem.F.slot_dict_get PySem.F.type_dict_get (thn (ho pins s σ H _ I h) fun u s1 ⟨x, H1, I1, rx, a, ex, d, q1⟩ => ?_)
  subst ex
  obtain rfl : u = Value.ref a := rx
  obtain ⟨t1, t2, _⟩ := isD_at I1 d
  refine ⟨t1, t2, ?_⟩
  rw [m.trees]
  refine Calls.callWith_builtin rfl (Calls.evalArgs_plain (Calls.spliced_cons (thn (he pins s1 σ H1 _ I1 q1) fun iv s2 ⟨y, H2, I2, ry, q2⟩ =>
    Calls.spliced_cons (thn (hf pins s2 σ H2 _ I2 q2) fun fv s3 ⟨z, H3, I3, rz, ov, g, q3⟩ => Calls.spliced_nil ?_))))
  exact d_get2 hu I3 g ry rz fun w' s4 I4 rw' => ⟨_, H3, I4, rw', q3⟩
end
section
variable {X : Cx} {pins : List (Addr × Obj)} {σ : St} {H : Hp} {s : Shared} {a : Addr} {kvs : List (Key × V)} {A : Around} {E : Value → Shared → Prop}
end
section
variable {X : Cx} {pins : List (Addr × Obj)} {σ : St} {H : Hp} {s : Shared} {a : Addr} {y : V} {u : Value} {A : Around} {E : Value → Shared → Prop}
end
end L2
namespace Att
open PySem PySem.W PySem.Calls PyProof.Rows
theorem ints_of_wellAll {P : Params} {h : Heap} : ∀ (ns : List Int) (vs : List Value), WellAll P h vs (ns.map WData.int) → IntsAre vs ns := by
  intro ns
  induction ns with
  | nil =>
    intro vs w
    rw [List.map_nil] at w
    cases w
    exact .nil
  | cons n ns ih =>
    intro vs w
    rw [List.map_cons] at w
    cases w with
    | cons a b =>
      cases a
      exact .cons _ _ (ih _ b)
theorem script_of {l : OpenLaw} {n : Nat} (hn : l.most = some n) {P : Params} {h : Heap} {args : List WData} {vals : List Value}
    (hpre : l.row.toRowW.claim.pre args = true) (hwl : WellAll P h vals args) :
    ∃ a vs ns, vals = [Value.ref a] ∧ args = [WData.list (ns.map WData.int)] ∧ h.get? a = some { cls := .type "list", data := .seq vs.toArray } ∧ IntsAre vs ns ∧ ns.length ≤ n := by
  have hsh : WShape.hasAll [] args [.list .int] = true := (pre_splitW hpre).1
  have hc : l.pre.holds [] { args := args } = true := (pre_splitW hpre).2
  obtain ⟨d, r, rfl, h1, h2⟩ := hasAllW_cons hsh
  obtain rfl := hasAllW_nil h2
  obtain ⟨xs, rfl, h3⟩ := hasW_list h1
  obtain ⟨ns, rfl⟩ := items_int h3
  have hlen : ns.length ≤ n := by
    unfold OpenLaw.pre at hc
    have h4 : (WTm.not (.lt (.lit (.int (n : Int))) (.len (.arg 0)))).holds [] { args := [.list (ns.map .int)] } = true := by
      have h4 := (holds_andW hc).1
      rw [hn] at h4
      exact h4
    have h5 := condW_of h4 (w_not (w_lt w_lit (w_len_list (w_arg rfl))))
    rw [List.length_map] at h5
    refine Nat.le_of_not_lt fun q => ?_
    have q' : (n : Int) < ((ns.length : Nat) : Int) := by omega
    first
      | (rw [decide_eq_true q'] at h5; exact absurd h5 (by decide))
      | (simp at h5; omega)
  cases hwl with
  | cons w1 w2 =>
    cases w2
    cases w1 with
    | list ho hall => exact ⟨_, _, ns, rfl, rfl, ho, ints_of_wellAll ns _ hall, hlen⟩
theorem post_true (l : OpenLaw) (args : List WData) : l.row.toRowW.claim.post args (.bool true) args = true :=
  postW_of (r := l.row.toRowW) (X := (true == true))
    (show WShape.has [] (.bool true) .bool = true by first | rfl | decide | simp [WShape.has, WShape.arms, WShape.armsAll])
    (show (WTm.eq .res (.lit (.bool true))).value [] { args := args, res := some (.bool true), after := args } = some (.bool (true == true)) from w_eq_bool (w_res rfl) w_lit) rfl
theorem attach_call {l : OpenLaw} {n : Nat} {q : Program} {loose : List Str} {XP : (Str → Option Value) → Heap → Prop} {YP : World → Heap → Prop} {d : DefRec}
    (hn : l.most = some n) (hdf : d.params.defaults = [])
    (call : ∀ (w : World) (s₀ s₁ : Shared) (mg mb : Str → Option Value) (fa : Addr) (o : Obj) (pm cd doc : Value) (a : Addr) (vs : List Value) (ns : List Int),
      Ground q loose [] XP w s₀ mg mb s₁.heap → YP w s₁.heap →
      s₁.heap.get? fa = some o → o.data = .func (docDef d.name d.params d.body d.scope pm cd doc) → s₁.heap.CodeRec cd d.name → mg d.name = some (.ref fa) →
      s₁.heap.get? a = some { cls := .type "list", data := .seq vs.toArray } → IntsAre vs ns → ns.length ≤ n → s₁.gens = #[] →
      codeAny (model l.prog w) callerA (.call (.ref fa) ⟨[.ref a], []⟩) (fun r s' => r = .ok (.ret (.bool true)) ∧ OldK s₁.heap s'.heap ∧ s'.os = s₁.os ∧ AllBare s'.gens) s₁) :
    WalkO q loose XP YP l.row.toRowW d [] (fun f vs => PySem.call f vs) := by
  intro w s₀ s₁ mg mb G Y fa o pm cd doc dV kV ho hd hcd hD hmg hg args vals as hpre hlay hrd hwl hlo
  obtain rfl : dV = .none := Dflts.none hD hdf
  obtain rfl : kV = .none := Dflts.noKw hD
  obtain ⟨a, vs, ns, rfl, rfl, hobj, hints, hlen⟩ := script_of hn hpre hwl
  refine enter_call (codeAny_mono (call w s₀ s₁ mg mb fa o pm cd doc a vs ns G Y ho (fd_plain hd) hcd hmg hobj hints hlen hg) fun r s' hq => ?_)
  obtain ⟨rfl, h2, h3, h4⟩ := hq
  exact ⟨.inl ⟨.bool true, .bool true, [], rfl, fun _ => rfl, .bool true, post_true l _, fun _ => ⟨List.Pairwise.nil, fun _ hm => (nomatch hm)⟩⟩, h2, h3, h4⟩
section
variable {prog : Program} {w : World} {A : Around} {E : Value → Shared → Prop} {s : Shared} {K : Frag}
end
end Att
namespace L2
open PySem PySem.Spec PyProof.Rows
theorem vals_ints : ∀ {vs : List Value} {ns : List Int}, IntsAre vs ns → Vals (ns.map V.int) vs
  | _, _, .nil => .nil
  | _, _, .cons n t h => .cons ⟨t, rfl⟩ (vals_ints h)
def Only (H : Hp) : Prop := ∀ b, H b = none ∨ ∃ o xs, H b = some (.frz o (.lst xs))
theorem law_call {P : Program} {w : World} {K : PySem.W.Frag} {mg mb : Str → Option Value} {CX : CXT} {k : Nat} {fa a : Addr} {fd : FuncData} {x : Str} {sp : Sp} {s₁ : Shared} {vs : List Value} {ns : List Int}
    (KX : K.In s₁.heap) (hns : s₁.heap.Ns mainGlobals mg) (hb : s₁.heap.Ns builtinsNs mb) (hbb : ∀ x : Str, x ≠ "__name__" → mb x = bootBuiltins x) (hlim : s₁.heap.NoLimit) (hg : s₁.gens = #[])
    (ha : s₁.heap.get? a = some { cls := .type "list", data := .seq vs.toArray }) (hi : IntsAre vs ns) (hl : ns.length ≤ sizeLine) (hr : Room k callerA)
    (F : ∀ base : Heap, K.In base → base.Ns mainGlobals mg → FnOk P w K mg base CX k fa fd [x] sp) (hbind : ∀ (s : Shared) (u : Value), BindsTo s fd ⟨[u], []⟩ [(x, u)])
    (hsp : ∀ H : Hp, Only H → SqL K H a (ns.map V.int) → sp [.ref a] H (fun v _ => v = .bl true) fun _ _ _ => False)
    (hCX : ∀ H e s', CX [] H s₁ (fun _ _ _ => False) e s' → False) :
    codeAny (model P w) callerA (.call (.ref fa) ⟨[.ref a], []⟩) (fun r s' => r = .ok (.ret (.bool true)) ∧ OldK s₁.heap s'.heap ∧ s'.os = s₁.os ∧ AllBare s'.gens) s₁ := by
  have rv := vals_ints hi
  have lenV := hi.length
  -- from an abstract heap in which nothing but the script may be tracked
  have core : ∀ H : Hp, Only H → SqL K H a (ns.map V.int) → HOk P w H s₁.heap → (∀ b, H b ≠ none → b = a) → (H a ≠ none → K.lookup a = none) →
      codeAny (model P w) callerA (.call (.ref fa) ⟨[.ref a], []⟩) (fun r s' => r = .ok (.ret (.bool true)) ∧ OldK s₁.heap s'.heap ∧ s'.os = s₁.os ∧ AllBare s'.gens) s₁ := by
    intro H hO hS hok hA hK
    have base_of : ∀ {b : Addr} {o : Obj}, s₁.heap.get? b = some o → H b = none → (hidT s₁.heap H).get? b = some o := fun e n => hidT_get e n
    have noA : ∀ {b : Addr} {o : Obj} {es : Array DictEntry} {ep : Nat}, s₁.heap.get? b = some o → o.data = .dict es ep → H b = none := fun {b o es ep} e d => by
      cases q : H b with
      | none => rfl
      | some u =>
        have e' : b = a := hA b (by rw [q]; simp)
        subst e'
        rw [ha] at e; cases e
        have d' : Data.seq vs.toArray _ = Data.dict es ep := d
        cases d'
    have nsK : ∀ {b : Addr} {m : Str → Option Value}, s₁.heap.Ns b m → (hidT s₁.heap H).Ns b m := fun {b m} ⟨o, es, ep, e, d, r⟩ => ⟨o, es, ep, base_of e (noA e d), d, r⟩
    have hKb : K.In (hidT s₁.heap H) := fun b o e => base_of (KX b o e) (by
      cases q : H b with
      | none => rfl
      | some u =>
        have e' : b = a := hA b (by rw [q]; simp)
        subst e'
        rw [hK (by rw [q]; simp)] at e; cases e)
    have hM : Mod K mg (hidT s₁.heap H) := ⟨hKb, nsK hns, ⟨mb, nsK hb, hbb⟩, let ⟨mc, h1, h2⟩ := hlim; ⟨mc, nsK h1, h2⟩⟩
    have e0 : Env0 P w K mg (hidT s₁.heap H) callerA [] s₁ H := ⟨rfl, hM, fun b o e => of_hidT e, Nat.le_of_eq (hidT_size _ _), trivial, fun b hb => absurd (show b ∈ ([] : List Addr) from hb) (by simp), hok, .of_eq hg⟩
    refine codeAny_mono ((F _ hKb (nsK hns)).run callerA [] s₁ H ⟨[.ref a], []⟩ [.ref a] [.ref a] _ _ hr e0 (hbind s₁ (.ref a)) (.cons rfl .nil) (hsp H hO hS)) fun r s' h => ?_
    cases r with
    | error e => exact (hCX H e s' h).elim
    | ok fl =>
      cases fl with
      | next => exact False.elim h
      | brk => exact False.elim h
      | cont => exact False.elim h
      | ret u =>
        obtain ⟨v, H', os, bare, un, hok', r', q⟩ := h
        have q' : v = .bl true := q
        subst q'
        obtain rfl : u = Value.bool true := r'
        refine ⟨rfl, OldK.of_keep fun b o e => ?_, os, bare⟩
        cases q : H b with
        | none => exact un.keep b o e q (by intro z; exact absurd (show b ∈ ([] : List Addr) from z) (by simp)) (by simp)
        | some u =>
          rcases hO b with z | ⟨ob, xs, z⟩
          · rw [q] at z; cases z
          · have z2 := un.frzs b ob _ z
            obtain ⟨e1, _⟩ := hok b _ z
            obtain ⟨e2, _⟩ := hok' b _ z2
            rw [e] at e1; cases e1
            exact e2
  cases hk : K.lookup a with
  | some o =>
    -- the script is one of the module's own objects
    have e := KX a o hk
    rw [ha] at e
    cases e
    refine core (fun _ => none) (fun _ => .inl rfl) (.inr ⟨_, vs.toArray, _, hk, rfl, rfl, rfl, by rw [List.size_toArray, lenV]; exact hl, by simpa using rv⟩) (fun b u z => by have z' : (none : Option HO) = some u := z; cases z') (fun b z => absurd rfl z) fun z => absurd rfl z
  | none =>
    refine core (fun b => if b = a then some (.frz { cls := .type "list", data := .seq vs.toArray } (.lst (ns.map V.int))) else none) (fun b => ?_) (.inl (.inr ⟨{ cls := .type "list", data := .seq vs.toArray }, if_pos rfl⟩)) (fun b u z => ?_) (fun b z => ?_) fun _ => hk
    · by_cases hb : b = a
      · exact .inr ⟨_, _, if_pos hb⟩
      · exact .inl (if_neg hb)
    · by_cases hb : b = a
      · have z' := (if_pos hb).symm.trans z
        cases z'
        subst hb
        exact ⟨ha, by rw [List.length_map]; exact hl, vs, _, rv, ha⟩
      · have z' := (if_neg hb).symm.trans z
        cases z'
    · by_cases hb : b = a
      · exact hb
      · exact absurd (if_neg hb) z
end L2
namespace L2
open PySem PySem.Spec PyProof.Rows
theorem walk_of {l : PySem.W.OpenLaw} {n k : Nat} {q : Program} {loose : List Str} {XP : (Str → Option Value) → Heap → Prop} {YP : World → Heap → Prop} {d : DefRec} {K : Params → PySem.W.Frag} {CX : World → CXT} {sp : World → Sp} {x : Str}
    (hn : l.most = some n) (hn2 : n ≤ sizeLine) (hdf : d.params.defaults = []) (hr : Room k callerA)
    (hY : ∀ (w : World) (h : Heap), YP w h → (K w.params).In h)
    (F : ∀ (w : World) (mg : Str → Option Value) (fa : Addr) (h : Heap), (K w.params).In h → h.Ns mainGlobals mg → mg d.name = some (.ref fa) →
      ∃ fd : FuncData, (∀ (s : Shared) (u : Value), BindsTo s fd ⟨[u], []⟩ [(x, u)]) ∧
        ∀ base : Heap, (K w.params).In base → base.Ns mainGlobals mg → FnOk l.prog w (K w.params) mg base (CX w) k fa fd [x] (sp w))
    (hsp : ∀ (w : World) (H : Hp) (a : Addr) (ns : List Int), ns.length ≤ n → Only H → SqL (K w.params) H a (ns.map V.int) → sp w [.ref a] H (fun v _ => v = .bl true) fun _ _ _ => False)
    (hCX : ∀ (w : World) (H : Hp) (s : Shared) (e : Value) (s' : Shared), CX w [] H s (fun _ _ _ => False) e s' → False) :
    PySem.W.WalkO q loose XP YP l.row.toRowW d [] (fun f vs => PySem.call f vs) := by
  refine Att.attach_call hn hdf fun w s₀ s₁ mg mb fa o pm cd doc a vs ns G Y ho hd hcd hmg hobj hints hlen hg => ?_
  have KX := hY w _ Y
  obtain ⟨fd, hb, hF⟩ := F w mg fa _ KX G.T.g hmg
  exact law_call KX G.T.g G.T.b G.T.builtins G.T.nolimit hg hobj hints (Nat.le_trans hlen hn2) hr hF hb (fun H hO hS => hsp w H a ns hlen hO hS) fun H e s' => hCX w H s₁ e s'
end L2
namespace L2
open PySem PySem.Spec PyProof.Rows
def inClass (s : Stmt) (j : Nat) : Stmt := match s with
  | .ClassDef _ _ _ body _ _ _ _ _ _ _ => body.getD j (.Pass ⟨0, 0, 0, 0⟩)
  | _ => .Pass ⟨0, 0, 0, 0⟩
def defArgs (s : Stmt) : Arguments := match s with
  | .FunctionDef _ a _ _ _ _ _ _ _ _ => a
  | _ => { posonlyargs := [], args := [], vararg := none, kwonlyargs := [], kw_defaults := [], kwarg := none, defaults := [] }
def defBody (s : Stmt) : List Stmt := match s with
  | .FunctionDef _ _ b _ _ _ _ _ _ _ => b
  | _ => []
def defScope (s : Stmt) : Scope := match s with
  | .FunctionDef _ _ _ _ _ _ sc _ _ _ => sc
  | _ => { kind := .function, names := [], isGenerator := false, isCoroutine := false }
abbrev CX0 : CXT := fun _ _ _ _ _ _ => False
abbrev E0 : XK := fun _ _ _ => False
theorem pass0 {X : Cx} : Passes CX0 X E0 := fun _ _ _ _ _ _ _ h => h.elim
structure Fun (K : PySem.W.Frag) (x qual : Str) (st : Stmt) (f : Addr) (fd : FuncData) : Prop where
  ex : ∃ (oc : Value) (od : Option Addr) (kV doc pm : Value) (an : Option Addr) (cdv ct : Value) (osl : Array (Option Value)),
    fd = PySem.W.fnOf x qual (defArgs st) (defBody st) (defScope st) .none kV doc pm an cdv ct ∧ K.lookup f = some ⟨oc, od, .func fd, osl⟩ ∧ PySem.W.codeIn K cdv qual = true
  kp : PySem.W.keepIn K (.ref f) = true
section
variable {P : Program} {w : World} {K : PySem.W.Frag} {mg : Str → Option Value} {base : Heap}
theorem Fun.ok {x qual : Str} {st : Stmt} {f : Addr} {fd : FuncData} {N ps : List Str} {k : Nat} {sp : Sp} (F : Fun K x qual st f fd) (S : FnScope N ps (defScope st)) (len : ∀ vs H Q E, sp vs H Q E → vs.length = ps.length)
    (hbody : ∀ (cdv : Value) (A : Around) (outer : List Env) (s : Shared) (H : Hp) (vs : List V) (Q : VK) (E : XK), Room k (A.deeper (envOfC qual (defScope st) s.heap.objs.size f cdv)) → sp vs H Q E →
      ∃ t, PSs (cxOf CX0 P w K mg base N qual (defScope st) f cdv A outer s H E).nox (defBody st) t ∧ t { nx := fun _ H' => Q .non H', rt := Q } (start N vs) H) : FnOk P w K mg base CX0 (k + 1) f fd ps sp := by
  obtain ⟨oc, od, kV, doc, pm, an, cdv, ct, osl, rfl, lk, hcd⟩ := F.ex
  refine fn_of lk hcd S len fun A outer s H vs Q E hr hsp => ?_
  obtain ⟨t, h, q⟩ := hbody cdv A outer s H vs Q E hr hsp
  exact ⟨t, h.nox, q⟩
theorem Fun.binds {x qual : Str} {st : Stmt} {f : Addr} {fd : FuncData} {ps : List Str} (F : Fun K x qual st f fd)
    (h : ∀ (kV doc pm : Value) (an : Option Addr) (cdv ct : Value) (us : List Value), us.length = ps.length → bindArgs (PySem.W.fnOf x qual (defArgs st) (defBody st) (defScope st) .none kV doc pm an cdv ct) ⟨us, []⟩ = pure (ps.zip us)) : Binds K fd ps [] := by
  obtain ⟨oc, od, kV, doc, pm, an, cdv, ct, osl, rfl, lk, hcd⟩ := F.ex
  exact .all (h kV doc pm an cdv ct)
theorem fun_mk {x qual : Str} {st : Stmt} {f : Addr} {oc : Value} {od an : Option Addr} {osl : Array (Option Value)} {kV doc pm cdv ct : Value} (l : K.lookup f = some ⟨oc, od, .func (PySem.W.fnOf x qual (defArgs st) (defBody st) (defScope st) .none kV doc pm an cdv ct), osl⟩)
    (c : PySem.W.codeIn K cdv qual = true) (k : PySem.W.keepIn K (.ref f) = true) : Fun K x qual st f (PySem.W.fnOf x qual (defArgs st) (defBody st) (defScope st) .none kV doc pm an cdv ct) := ⟨⟨oc, od, kV, doc, pm, an, cdv, ct, osl, rfl, l, c⟩, k⟩
end
theorem hu_of {A : Around} {k : Nat} (hr : Room k A) : A.units + 1 < cLine := Nat.lt_of_le_of_lt (Nat.add_le_add_left (by decide : 1 ≤ 64) _) hr.units
theorem small1000 {n : Nat} (h : n ≤ 1000) : n < sizeLine := Nat.lt_of_le_of_lt h (by decide)
section
variable {X : Cx}
theorem pv (i : Nat) {x : Str} {pos : Pos} (hN : X.N[i]? = some x := by rfl) (hv : Vis X.env.scope x := by first | exact Or.inl rfl | exact Or.inr (Or.inl rfl) | exact Or.inr (Or.inr rfl)) (hd : (x == ("__debug__" : Str)) = false := by decide)
    (hcd : (x == ("__classdict__" : Str)) = false := by decide) : PE X (.Name x pos) (tVar i) := pe_var hN hv hd hcd
end
theorem iteF {A B : Prop} (h : B) : if false = true then A else B := by
  rw [if_neg Bool.false_ne_true]
  exact h
theorem iteT {A B : Prop} (h : A) : if true = true then A else B := by
  rw [if_pos rfl]
  exact h
def Same (H H' : Hp) : Prop := ∀ b o, H b = some o → H' b = some o
theorem Same.refl (H : Hp) : Same H H := fun _ _ h => h
theorem Same.trans {H H1 H2 : Hp} (a : Same H H1) (b : Same H1 H2) : Same H H2 := fun c o h => b c o (a c o h)
theorem Same.free {H H' : Hp} (e : Same H H') {l : Addr} (h : H' l = Option.none) : H l = Option.none := by
  cases q : H l with
  | none => rfl
  | some o =>
    rw [e l o q] at h
    cases h
theorem Same.seq {K : PySem.W.Frag} {H H' : Hp} {a : Addr} {xs : List V} (e : Same H H') (h : SqL K H a xs) : SqL K H' a xs := by
  rcases h with (h | ⟨o, h⟩) | h
  · exact .inl (.inl (e _ _ h))
  · exact .inl (.inr ⟨o, e _ _ h⟩)
  · exact .inr h
end L2
namespace L2
open PySem PySem.Spec PyProof.Rows
section
variable {X : Cx}
theorem call_lenD : CallR X (.builtin "len") (fun xs H Q => ∃ a kvs, xs = [V.ref a] ∧ H a = some (.dK kvs) ∧ Q (.int kvs.length) H) := by
  intro pins s σ H xs us Q I r h
  obtain ⟨a, kvs, rfl, ha, q⟩ := h
  obtain ⟨u, rfl, ru⟩ := vals1 r
  cases ru
  exact d_len I (.inl ha) fun t s' I' => ⟨.int kvs.length, H, I', ⟨t, rfl⟩, q⟩
end
section
variable {κ : Type} [DecidableEq κ]
end
end L2
set_option Elab.async false
set_option linter.all false
set_option maxRecDepth 100000
set_option maxHeartbeats 4000000
namespace L2
open PySem PySem.Spec PyProof.Rows
mutual
inductive Rep (H : Hp) (S : List Addr) : V → PyData → Prop
  | non : Rep H S .non .none
  | bl (b : Bool) : Rep H S (.bl b) (.bool b)
  | int (i : Int) : Rep H S (.int i) (.int i)
  | str (x : Str) : Rep H S (.str x) (.str x)
  | lst {a : Addr} {xs : List V} {ds : List PyData} : Rd H a (.lst xs) → ¬ a ∈ S → Reps H S xs ds → Rep H S (.ref a) (.list ds)
  | tup {a : Addr} {xs : List V} {ds : List PyData} : Rd H a (.tup xs) → Reps H S xs ds → Rep H S (.ref a) (.tuple ds)
inductive Reps (H : Hp) (S : List Addr) : List V → List PyData → Prop
  | nil : Reps H S [] []
  | cons {x : V} {xs : List V} {d : PyData} {ds : List PyData} : Rep H S x d → Reps H S xs ds → Reps H S (x :: xs) (d :: ds)
end
structure Chg (S : List Addr) (H H' : Hp) : Prop where
  keep : ∀ b o, H b = some o → ¬ b ∈ S → H' b = some o
  tups : ∀ b xs, H b = some (.tup xs) → H' b = some (.tup xs)
  frzs : ∀ b o u, H b = some (.frz o u) → H' b = some (.frz o u)
section
variable {H H' H1 H2 : Hp} {S T : List Addr} {a p : Addr} {o : HO}
theorem Chg.refl (S : List Addr) (H : Hp) : Chg S H H := ⟨fun _ _ e _ => e, fun _ _ e => e, fun _ _ _ e => e⟩
theorem Chg.trans (x : Chg S H H1) (y : Chg S H1 H2) : Chg S H H2 := ⟨fun b o e n => y.keep b o (x.keep b o e n) n, fun b xs e => y.tups b xs (x.tups b xs e), fun b o u e => y.frzs b o u (x.frzs b o u e)⟩
theorem Chg.mono (x : Chg S H H') (h : ∀ b ∈ S, b ∈ T) : Chg T H H' := ⟨fun b o e n => x.keep b o e fun m => n (h b m), x.tups, x.frzs⟩
theorem Chg.of_same (s : Same H H') : Chg S H H' := ⟨fun b o e _ => s b o e, fun b xs e => s b _ e, fun b o u e => s b _ e⟩
theorem Same.new (hp : H p = none) : Same H (upd H p o) := fun b u e => by rw [upd_ne (ne_of_none e hp)]; exact e
theorem Chg.new (hp : H p = none) : Chg S H (upd H p o) := .of_same (.new hp)
theorem Chg.set (mu : Mut (H a)) (ha : a ∈ S) : Chg S H (upd H a o) := by
  refine ⟨fun b u e n => ?_, fun b xs e => ?_, fun b u w e => ?_⟩
  · rw [upd_ne (by rintro rfl; exact n ha)]; exact e
  · rw [upd_ne (by rintro rfl; rw [e] at mu; exact mu)]; exact e
  · rw [upd_ne (by rintro rfl; rw [e] at mu; exact mu)]; exact e
theorem Rd.chgT {xs : List V} (c : Chg S H H') (r : Rd H a (.tup xs)) : Rd H' a (.tup xs) := r.elim (fun e => .inl (c.tups _ _ e)) fun ⟨o, e⟩ => .inr ⟨o, c.frzs _ _ _ e⟩
theorem Rd.chgL {xs : List V} (c : Chg S H H') (ha : ¬ a ∈ S) (r : Rd H a (.lst xs)) : Rd H' a (.lst xs) := r.elim (fun e => .inl (c.keep _ _ e ha)) fun ⟨o, e⟩ => .inr ⟨o, c.frzs _ _ _ e⟩
theorem Rd.some {u : HO} (r : Rd H a u) : ∃ o, H a = some o := r.elim (fun e => ⟨_, e⟩) fun ⟨_, e⟩ => ⟨_, e⟩
mutual
theorem Rep.chg (c : Chg S H H') : ∀ {v : V} {d : PyData}, Rep H S v d → Rep H' S v d
  | _, _, .non => .non
  | _, _, .bl b => .bl b
  | _, _, .int i => .int i
  | _, _, .str x => .str x
  | _, _, .lst r n rs => .lst (r.chgL c n) n (Reps.chg c rs)
  | _, _, .tup r rs => .tup (r.chgT c) (Reps.chg c rs)
theorem Reps.chg (c : Chg S H H') : ∀ {vs : List V} {ds : List PyData}, Reps H S vs ds → Reps H' S vs ds
  | _, _, .nil => .nil
  | _, _, .cons h t => .cons (Rep.chg c h) (Reps.chg c t)
end
mutual
theorem Rep.mono (c : ∀ b ∈ T, b ∈ S) : ∀ {v : V} {d : PyData}, Rep H S v d → Rep H T v d
  | _, _, .non => .non
  | _, _, .bl b => .bl b
  | _, _, .int i => .int i
  | _, _, .str x => .str x
  | _, _, .lst r n rs => .lst r (fun m => n (c _ m)) (Reps.mono c rs)
  | _, _, .tup r rs => .tup r (Reps.mono c rs)
theorem Reps.mono (c : ∀ b ∈ T, b ∈ S) : ∀ {vs : List V} {ds : List PyData}, Reps H S vs ds → Reps H T vs ds
  | _, _, .nil => .nil
  | _, _, .cons h t => .cons (Rep.mono c h) (Reps.mono c t)
end
mutual
theorem Rep.fresh (hp : H p = none) : ∀ {v : V} {d : PyData}, Rep H S v d → Rep H (p :: S) v d
  | _, _, .non => .non
  | _, _, .bl b => .bl b
  | _, _, .int i => .int i
  | _, _, .str x => .str x
  | _, _, .lst r n rs => .lst r (fun m => (List.mem_cons.mp m).elim (fun z => by obtain ⟨o, e⟩ := r.some; rw [z, hp] at e; cases e) n) (Reps.fresh hp rs)
  | _, _, .tup r rs => .tup r (Reps.fresh hp rs)
theorem Reps.fresh (hp : H p = none) : ∀ {vs : List V} {ds : List PyData}, Reps H S vs ds → Reps H (p :: S) vs ds
  | _, _, .nil => .nil
  | _, _, .cons h t => .cons (Rep.fresh hp h) (Reps.fresh hp t)
end
theorem Rep.plain {v : V} {d : PyData} (r : Rep H S v d) : Rep H [] v d := r.mono (by simp)
theorem Reps.plain {v : List V} {d : List PyData} (r : Reps H S v d) : Reps H [] v d := r.mono (by simp)
theorem Rep.same {v : V} {d : PyData} (s : Same H H') (r : Rep H S v d) : Rep H' S v d := r.chg (.of_same s)
theorem Reps.same {v : List V} {d : List PyData} (s : Same H H') (r : Reps H S v d) : Reps H' S v d := r.chg (.of_same s)
theorem Reps.length : ∀ {vs : List V} {ds : List PyData}, Reps H S vs ds → vs.length = ds.length
  | _, _, .nil => rfl
  | _, _, .cons _ t => by rw [List.length_cons, List.length_cons, Reps.length t]
theorem Reps.get : ∀ {vs : List V} {ds : List PyData} {i : Nat} {v : V}, Reps H S vs ds → vs[i]? = some v → ∃ d, ds[i]? = some d ∧ Rep H S v d
  | _, _, i, v, .nil, h => by simp at h
  | _, _, 0, v, .cons h t, e => by simp at e; subst e; exact ⟨_, rfl, h⟩
  | _, _, i + 1, v, .cons h t, e => by
    simp at e
    obtain ⟨d, h1, h2⟩ := Reps.get t e
    exact ⟨d, by simpa using h1, h2⟩
theorem Reps.getD : ∀ {vs : List V} {ds : List PyData} {i : Nat} {d : PyData}, Reps H S vs ds → ds[i]? = some d → ∃ v, vs[i]? = some v ∧ Rep H S v d
  | _, _, i, v, .nil, h => by simp at h
  | _, _, 0, v, .cons h t, e => by simp at e; subst e; exact ⟨_, rfl, h⟩
  | _, _, i + 1, v, .cons h t, e => by
    simp at e
    obtain ⟨d, h1, h2⟩ := Reps.getD t e
    exact ⟨d, by simpa using h1, h2⟩
theorem Reps.append : ∀ {vs ws : List V} {ds es : List PyData}, Reps H S vs ds → Reps H S ws es → Reps H S (vs ++ ws) (ds ++ es)
  | _, _, _, _, .nil, h => h
  | _, _, _, _, .cons x t, h => .cons x (Reps.append t h)
theorem Reps.one {v : V} {d : PyData} (h : Rep H S v d) : Reps H S [v] [d] := .cons h .nil
theorem Reps.snoc {vs : List V} {ds : List PyData} {v : V} {d : PyData} (h : Reps H S vs ds) (q : Rep H S v d) : Reps H S (vs ++ [v]) (ds ++ [d]) := h.append (.one q)
theorem Rep.int_inv {v : V} {i : Int} (r : Rep H S v (.int i)) : v = .int i := by cases r; rfl
theorem Rep.str_inv {v : V} {x : Str} (r : Rep H S v (.str x)) : v = .str x := by cases r; rfl
theorem Rep.lst_inv {v : V} {ds : List PyData} (r : Rep H S v (.list ds)) : ∃ a xs, v = .ref a ∧ Rd H a (.lst xs) ∧ ¬ a ∈ S ∧ Reps H S xs ds := by cases r with | lst h n t => exact ⟨_, _, rfl, h, n, t⟩
theorem Rep.tup_inv {v : V} {ds : List PyData} (r : Rep H S v (.tuple ds)) : ∃ a xs, v = .ref a ∧ Rd H a (.tup xs) ∧ Reps H S xs ds := by cases r with | tup h t => exact ⟨_, _, rfl, h, t⟩
theorem Reps.nil_inv {vs : List V} (r : Reps H S vs []) : vs = [] := by cases r; rfl
theorem Reps.cons_inv {vs : List V} {d : PyData} {ds : List PyData} (r : Reps H S vs (d :: ds)) : ∃ x xs, vs = x :: xs ∧ Rep H S x d ∧ Reps H S xs ds := by cases r with | cons h t => exact ⟨_, _, rfl, h, t⟩
theorem reps_strs : ∀ (xs : List Str), Reps H S (xs.map .str) (xs.map .str)
  | [] => .nil
  | x :: xs => .cons (.str x) (reps_strs xs)
end
section
variable {X : Cx} {pins : List (Addr × Obj)} {σ : St} {H : Hp} {s : Shared} {S : List Addr}
mutual
theorem Rep.reads (I : Inv X pins σ H s) : ∀ {v : V} {d : PyData} {u : Value}, Rep H S v d → RelV v u → ∃ as, Reads s.heap u d as
  | _, _, _, .non, r => by cases (show _ = Value.none from r); exact ⟨_, .none⟩
  | _, _, _, .bl b, r => by cases (show _ = Value.bool b from r); exact ⟨_, .bool b⟩
  | _, _, _, .int i, r => by obtain ⟨t, e⟩ := (show ∃ t, _ = Value.int i t from r); subst e; exact ⟨_, .int i t⟩
  | _, _, _, .str x, r => by obtain ⟨t, e⟩ := (show ∃ t, _ = Value.str x t from r); subst e; exact ⟨_, .str x t⟩
  | _, _, _, .lst (a := a) h _ rs, r => by
    cases (show _ = Value.ref a from r)
    obtain ⟨its, rv, ⟨o, n, e, c, _, d⟩, _⟩ := I.list (Or.inl h)
    obtain ⟨as, q⟩ := Reps.reads I rs rv
    exact ⟨_, .list e c d (by simpa using q)⟩
  | _, _, _, .tup (a := a) h rs, r => by
    cases (show _ = Value.ref a from r)
    obtain ⟨its, rv, ⟨o, e, c, n, d⟩, _⟩ := I.tuple (Or.inl h)
    obtain ⟨as, q⟩ := Reps.reads I rs rv
    exact ⟨_, .tuple e c d (by simpa using q)⟩
theorem Reps.reads (I : Inv X pins σ H s) : ∀ {vs : List V} {ds : List PyData} {us : List Value}, Reps H S vs ds → Vals vs us → ∃ as, ReadsAll s.heap us ds as
  | _, _, _, .nil, r => by cases r; exact ⟨_, .nil⟩
  | _, _, _, .cons h t, r => by
    cases r with
    | cons r1 r2 =>
      obtain ⟨as, q⟩ := Rep.reads I h r1
      obtain ⟨bs, p⟩ := Reps.reads I t r2
      exact ⟨_, .cons q p⟩
end
end
def rEqD : R2 := fun x y H Q => ∃ d e, Rep H [] x d ∧ Rep H [] y e ∧ SeqAt.shaped d = true ∧ SeqAt.shaped e = true ∧ Q (.bl (PyData.eqv d e)) H
def rNeD : R2 := fun x y H Q => ∃ d e, Rep H [] x d ∧ Rep H [] y e ∧ SeqAt.shaped d = true ∧ SeqAt.shaped e = true ∧ Q (.bl (!PyData.eqv d e)) H
section
variable {X : Cx}
theorem op_eqD (hu : X.A.units + 64 < cLine) : OpR X (compareOp .Eq) rEqD := by
  intro pins s σ H x y v u Q I rx ry h
  obtain ⟨d, e, rd, re, sd, se, q⟩ := h
  obtain ⟨as, ra⟩ := rd.reads I rx
  obtain ⟨bs, rb⟩ := re.reads I ry
  exact SeqAt.compareEq_shaped ra rb sd se hu ⟨.bl _, H, I, rfl, q⟩
theorem op_neD (hu : X.A.units + 64 < cLine) : OpR X (compareOp .NotEq) rNeD := by
  intro pins s σ H x y v u Q I rx ry h
  obtain ⟨d, e, rd, re, sd, se, q⟩ := h
  obtain ⟨as, ra⟩ := rd.reads I rx
  obtain ⟨bs, rb⟩ := re.reads I ry
  exact SeqAt.compareNe_shaped ra rb sd se hu ⟨.bl _, H, I, rfl, q⟩
def TyO (K : PySem.W.Frag) (H : Hp) (x : V) (t : Value) : Prop := TyOf K H x t ∨ ∃ a ys, x = .ref a ∧ Rd H a (.tup ys) ∧ t = .type "tuple"
theorem call_isinst : CallR X (.builtin "isinstance") (fun xs H Q => ∃ x T t b, xs = [x, .ty T] ∧ TyO X.K H x t ∧ PySem.W.kitOne X.K t (.type T) = some b ∧ Q (.bl b) H) := by
  intro pins s σ H xs us Q I r h
  obtain ⟨x, T, t, b, rfl, ty, e, q⟩ := h
  obtain ⟨u, v, rfl, ru, rv⟩ := Vals.two r
  cases (show v = Value.type T from rv)
  rcases ty with ty | ⟨a, ys, rfl, rd, rfl⟩
  · exact isinst_ok I ru ty e fun tk => ⟨.bl b, H, I.tok tk, rfl, q⟩
  · cases (show u = Value.ref a from ru)
    obtain ⟨its, _, ⟨o, h1, h2, _⟩, _⟩ := I.tuple (Or.inl rd)
    exact PySem.W.kia_one PySem.W.kitx_tuple I.kIn ⟨o, h1, h2⟩ e (fun z => nomatch z) fun tk => ⟨.bl b, H, I.tok tk, rfl, q⟩
end
theorem kit_same (K : PySem.W.Frag) (T : String) : PySem.W.kitOne K (.type T) (.type T) = some true := by unfold PySem.W.kitOne; rw [if_pos (by simp)]
def tDSetD (td ty tx : TE) : TE := fun σ H Q => td σ H fun x H1 => ∃ a, x = .ref a ∧ IsD H1 a ∧ ty σ H1 fun y H2 => tx σ H2 fun z H3 => ∃ kvs k, H3 a = some (.dK kvs) ∧ y = kV k ∧ kvs.length < sizeLine ∧
  (∀ v, valV kvs k = some v → Q v H3) ∧ (valV kvs k = none → Q z (upd H3 a (.dK (putK kvs k z))))
section
variable {X : Cx} {o e f : Expr} {apos cpos : Pos} {td ty tx : TE}
theorem pe_dsetd (ho : PE X o td) (he : PE X e ty) (hf : PE X f tx) (m : M2 X o "setdefault" apos e f cpos) : PE X (.Call (.Attribute o "setdefault" apos) [e, f] [] cpos) (tDSetD td ty tx) := by
  intro pins s σ H Q I h
  refine wpAny_Call_method m.base m.few m.line PySem.F.plainAttrs_dict PySem.F.slot_dict_setdefault PySem.F.type_dict_setdefault (thn (ho pins s σ H _ I h) fun u s1 ⟨x, H1, I1, rx, a, ex, d, q1⟩ => ?_)
  subst ex
  obtain rfl : u = Value.ref a := rx
  obtain ⟨t1, t2, _⟩ := isD_at I1 d
  refine ⟨t1, t2, ?_⟩
  rw [m.trees]
  refine Calls.callWith_builtin rfl (Calls.evalArgs_plain (Calls.spliced_cons (thn (he pins s1 σ H1 _ I1 q1) fun iv s2 ⟨y, H2, I2, ry, q2⟩ =>
    Calls.spliced_cons (thn (hf pins s2 σ H2 _ I2 q2) fun fv s3 ⟨z, H3, I3, rz, kvs, k, ea, ey, lz, q3, q4⟩ => Calls.spliced_nil ?_))))
  subst ey
  obtain ⟨z', hd, vs, rel, dd⟩ := dk_of I3.hok ea
  refine call_meetsIn PySem.F.slot_dict_setdefault dd.typeIs PySem.F.entry_dict_setdefault (PySem.F.args_dict_setdefault_3 _ _ _) (kt_meets_setdefault (mixKind X.prog X.w) a (kV_is ry) hd fv)
    ⟨vs, dd, by rw [← rel.length]; exact z', fun v hv => ?_, fun hn h' dd' hs => ?_⟩
  · have rl := rel.val k
    rw [hv] at rl
    cases e : valV kvs k with
    | none => rw [e] at rl; exact (show False from rl).elim
    | some x =>
      rw [e] at rl
      exact ⟨x, H3, I3.tok _, rl, q3 x e⟩
  · have rl := rel.val k
    rw [hn] at rl
    cases e : valV kvs k with
    | some x => rw [e] at rl; exact (show False from rl).elim
    | none =>
      have hl : (putK kvs k z).length ≤ sizeLine := by have := length_putK kvs k z; omega
      have he : ∃ q, h'.get? a = some q := let ⟨q, _, _, hq, _⟩ := dd'; ⟨q, hq⟩
      exact ⟨z, _, d_write I3 (by rw [ea]; exact True.intro) hs he (dk_new hl hd (rel.put k rz) dd'), rz, q4 e⟩
end
abbrev rAddI : R2 := rI0 fun i j => .int (i + j)
abbrev rSubI : R2 := rI0 fun i j => .int (i - j)
abbrev rMulI : R2 := rI CMul fun i j => .int (i * j)
abbrev rModI : R2 := rI (fun _ j => 0 < j) fun i j => .int (i % j)
abbrev rDivI : R2 := rI CDiv fun i j => .int (i / j)
abbrev rLtI : R2 := rI0 fun i j => .bl (decide (i < j))
abbrev rLeI : R2 := rI0 fun i j => .bl (decide (i ≤ j))
abbrev rGtI : R2 := rI0 fun i j => .bl (decide (j < i))
abbrev rNegI : V → Hp → VK → Prop := rU fun i => .int (-i)
abbrev rLenQ (K : PySem.W.Frag) : List V → Hp → VK → Prop := fun xs H Q => ∃ p ys, xs = [.ref p] ∧ (SqL K H p ys ∨ SqT K H p ys) ∧ Q (.int ys.length) H
abbrev rLenD : List V → Hp → VK → Prop := fun xs H Q => ∃ a kvs, xs = [V.ref a] ∧ H a = some (.dK kvs) ∧ Q (.int kvs.length) H
abbrev rListQ (K : PySem.W.Frag) : List V → Hp → VK → Prop := fun xs H Q => ∃ p ys, xs = [.ref p] ∧ (SqL K H p ys ∨ SqT K H p ys) ∧ ∀ l, H l = none → Q (.ref l) (upd H l (.lst ys))
abbrev rInt1 : List V → Hp → VK → Prop := fun xs H Q => (∃ i, xs = [.int i] ∧ Q (.int i) H) ∨ ∃ k, xs = [.bl k] ∧ Q (.int (if k then 1 else 0)) H
abbrev rIsi (K : PySem.W.Frag) : List V → Hp → VK → Prop := fun xs H Q => ∃ x T t b, xs = [x, .ty T] ∧ TyO K H x t ∧ PySem.W.kitOne K t (.type T) = some b ∧ Q (.bl b) H
abbrev rCatS : R2 := fun x y H Q => ∃ i j, x = .str i ∧ y = .str j ∧ i.length + j.length ≤ sizeLine ∧ Q (.str (i ++ j)) H
theorem hu65_of {A : Around} {k : Nat} (hr : Room k A) : A.units + 65 < cLine := by have := hr.un; omega
def Has (P : Program) (w : World) (K : PySem.W.Frag) (mg : Str → Option Value) (base : Heap) (k : Nat) (x : Str) (ps : List Str) (sp : Sp) : Prop :=
  ∃ f fd, FnOk P w K mg base CX0 k f fd ps sp ∧ mg x = some (.ref f) ∧ PySem.W.keepIn K (.ref f) = true ∧ Binds K fd ps []
def HasM (P : Program) (w : World) (K : PySem.W.Frag) (mg : Str → Option Value) (base : Heap) (C : Addr) (k : Nat) (x : Str) (ps : List Str) (sp : Sp) : Prop :=
  ∃ f fd, FnOk P w K mg base CX0 k f fd ps sp ∧ Meth K C x f ∧ Binds K fd ps []
def HasI (P : Program) (w : World) (K : PySem.W.Frag) (mg : Str → Option Value) (base : Heap) (C : Addr) (k : Nat) (ps : List Str) (sp : Sp) : Prop :=
  ∃ f fd, FnOk P w K mg base CX0 k f fd ps sp ∧ Mk K C f ∧ Binds K fd ps []
def Grow (R : List Addr) (H : Hp) (R' : List Addr) : Prop := ∀ a ∈ R', a ∈ R ∨ H a = none
theorem Grow.refl (R : List Addr) (H : Hp) : Grow R H R := fun _ h => .inl h
theorem Grow.trans {R R1 R2 : List Addr} {H H1 : Hp} (g1 : Grow R H R1) (c : Chg R H H1) (g2 : Grow R1 H1 R2) : Grow R H R2 := fun a ha => by
  rcases g2 a ha with z | z
  · exact g1 a z
  · by_cases m : a ∈ R
    · exact .inl m
    · cases e : H a with
      | none => exact .inr rfl
      | some o => rw [c.keep a o e m] at z; cases z
theorem Chg.grow {R R1 : List Addr} {H H1 H2 : Hp} (c : Chg R H H1) (g : Grow R H R1) (c2 : Chg R1 H1 H2) : Chg R H H2 :=
  ⟨fun b o e n => c2.keep b o (c.keep b o e n) fun m => (g b m).elim n fun z => (by rw [e] at z; cases z), fun b xs e => c2.tups b xs (c.tups b xs e), fun b o u e => c2.frzs b o u (c.frzs b o u e)⟩
mutual
theorem Rep.grow {H : Hp} {S T : List Addr} (g : Grow S H T) : ∀ {v : V} {d : PyData}, Rep H S v d → Rep H T v d
  | _, _, .non => .non
  | _, _, .bl b => .bl b
  | _, _, .int i => .int i
  | _, _, .str x => .str x
  | _, _, .lst r n rs => .lst r (fun m => (g _ m).elim n fun z => by obtain ⟨o, e⟩ := r.some; rw [z] at e; cases e) (Reps.grow g rs)
  | _, _, .tup r rs => .tup r (Reps.grow g rs)
theorem Reps.grow {H : Hp} {S T : List Addr} (g : Grow S H T) : ∀ {v : List V} {d : List PyData}, Reps H S v d → Reps H T v d
  | _, _, .nil => .nil
  | _, _, .cons h t => .cons (Rep.grow g h) (Reps.grow g t)
end
theorem Chg.put {S : List Addr} {H H' : Hp} {p : Addr} {o : HO} (c : Chg S H H') (hp : H p = none) : Chg S H (upd H' p o) :=
  ⟨fun b u e n => by rw [upd_ne (ne_of_none e hp)]; exact c.keep b u e n, fun b xs e => by rw [upd_ne (ne_of_none e hp)]; exact c.tups b xs e, fun b u w e => by rw [upd_ne (ne_of_none e hp)]; exact c.frzs b u w e⟩
theorem TyO.int {K : PySem.W.Frag} {H : Hp} (i : Int) : TyO K H (.int i) (.type "int") := .inl (.int i)
theorem TyO.str {K : PySem.W.Frag} {H : Hp} (i : Str) : TyO K H (.str i) (.type "str") := .inl (.str i)
theorem TyO.lst {K : PySem.W.Frag} {H : Hp} {a : Addr} {xs : List V} (r : H a = some (.lst xs)) : TyO K H (.ref a) (.type "list") := .inl (.lst r)
theorem TyO.list {K : PySem.W.Frag} {H : Hp} {a : Addr} {xs : List V} (r : Rd H a (.lst xs)) : TyO K H (.ref a) (.type "list") := r.elim (fun e => .inl (.lst e)) fun ⟨_, e⟩ => .inl (.frz e)
theorem TyO.tup {K : PySem.W.Frag} {H : Hp} {a : Addr} {xs : List V} (r : Rd H a (.tup xs)) : TyO K H (.ref a) (.type "tuple") := .inr ⟨a, xs, rfl, r, rfl⟩
end L2
set_option Elab.async false
set_option linter.all false
set_option maxRecDepth 100000
set_option maxHeartbeats 4000000
namespace L2
open PySem PySem.Spec PyProof.Rows
abbrev ccx (X : Cx) (N : List Str) (scope : Scope) (cl : List (Str × Addr)) (C : Addr) (s : Shared) (H : Hp) (fp : List Addr) : Cx :=
  { X with N := N, s₀ := s, H₀ := H, env := compEnvC scope cl C X.env, outer := X.stack, ex := fp, fn := fun _ => false, pn := [], xe := fun _ _ => False }
def picked (pick : List (Option Nat)) (σ : St) : St := pick.map fun o => o.bind fun i => (σ[i]?).bind id
def Picks (X : Cx) (scope : Scope) (cl : List (Str × Addr)) : List Str → List (Option Nat) → Prop
  | [], [] => True
  | _ :: xs, none :: ps => Picks X scope cl xs ps
  | x :: xs, some i :: ps => (X.N[i]? = some x ∧ (X.env.kindOf x = some .cell ∨ X.env.kindOf x = some .free) ∧
      ((relabel scope X.env).names.lookup x = some .cell ∨ (relabel scope X.env).names.lookup x = some .free) ∧ ∃ c, X.env.cells.lookup x = some c ∧ cl.lookup x = some c) ∧ Picks X scope cl xs ps
  | _, _ => False
def ClosOk (X : Cx) : List (Str × Addr) → Prop
  | [] => True
  | p :: r => X.env.cells.lookup p.1 = some p.2 ∧ ClosOk X r
structure CompOk (X : Cx) (N : List Str) (scope : Scope) (cl : List (Str × Addr)) (pick : List (Option Nat)) : Prop where
  clos : closureFor scope X.env = pure cl
  kind : scope.kind = .function
  nocell : (scope.names.all fun y => y.2 != .cell) = true
  loc : (scope.names.all fun y => y.2 != .local || scope.names.lookup y.1 == some .local) = true
  free : (scope.names.all fun y => y.2 != .free || (cl.lookup y.1).isSome) = true
  cells : ClosOk X cl
  picks : Picks X scope cl N pick
theorem ClosOk.look {X : Cx} : ∀ {cl : List (Str × Addr)} {x : Str} {c : Addr}, ClosOk X cl → cl.lookup x = some c → X.env.cells.lookup x = some c
  | [], _, _, _, h => by simp at h
  | (n, a) :: r, x, c, ⟨h1, h2⟩, h => by
    rw [List.lookup_cons] at h
    cases e : x == n with
    | true =>
      rw [e] at h
      have e' : x = n := by simpa using e
      subst e'
      cases h
      exact h1
    | false =>
      rw [e] at h
      exact h2.look h
theorem Picks.length {X : Cx} {scope : Scope} {cl : List (Str × Addr)} : ∀ {N : List Str} {ps : List (Option Nat)}, Picks X scope cl N ps → ps.length = N.length
  | [], [], _ => rfl
  | [], _ :: _, h => (show False from h).elim
  | _ :: _, [], h => (show False from h).elim
  | _ :: xs, none :: ps, h => by
    have h' : Picks X scope cl xs ps := h
    rw [List.length_cons, List.length_cons, h'.length]
  | _ :: xs, some i :: ps, h => by
    have h' : Picks X scope cl xs ps := h.2
    rw [List.length_cons, List.length_cons, h'.length]
theorem Picks.at {X : Cx} {scope : Scope} {cl : List (Str × Addr)} : ∀ {N : List Str} {ps : List (Option Nat)} {j i : Nat} {x : Str}, Picks X scope cl N ps → N[j]? = some x → ps[j]? = some (some i) →
    X.N[i]? = some x ∧ (X.env.kindOf x = some .cell ∨ X.env.kindOf x = some .free) ∧
      ((relabel scope X.env).names.lookup x = some .cell ∨ (relabel scope X.env).names.lookup x = some .free) ∧ ∃ c, X.env.cells.lookup x = some c ∧ cl.lookup x = some c
  | [], _, j, _, _, _, h, _ => by simp at h
  | _ :: _, [], j, _, _, _, _, h => by simp at h
  | y :: xs, none :: ps, 0, _, _, _, _, h => by simp at h
  | y :: xs, some k :: ps, 0, i, x, p, h1, h2 => by
    simp at h1 h2
    subst h1 h2
    exact p.1
  | y :: xs, none :: ps, j + 1, i, x, p, h1, h2 => Picks.at (N := xs) (ps := ps) p (by simpa using h1) (by simpa using h2)
  | y :: xs, some k :: ps, j + 1, i, x, p, h1, h2 => Picks.at (N := xs) (ps := ps) p.2 (by simpa using h1) (by simpa using h2)
theorem compLoop_any {prog : Program} {w : World} {A : Around} {R : Result → Shared → Prop} {s : Shared} {elt target iter : Expr} {ifs : List Expr} {scope : Scope} {pos : Pos} {it acc : Value} {env : Env} (I : Nat → Shared → Prop)
    (turn : ∀ n s, I n s → wpAny (model prog w) A (pyNext it) (fun r s₁ => match r with
      | none => R (.ok .next) s₁
      | some v => wpAny (model prog w) A (letOwnedTupleGo target it v) (fun _ s' => wpAny (model prog w) A (assign target env v) (fun _ s₂ =>
          wpAny (model prog w) A (forIn ifs true fun c r => if r = true then do let ok ← isTrue c env (eval c env); pure (ForInStep.yield ok) else pure (ForInStep.yield r)) (fun ok s₃ =>
            if ok = true then wpAny (model prog w) A (eval elt env) (fun x s₄ =>
              wpAny (model prog w) A (call (.builtin "list.append") [acc, x]) (fun _ s₅ => ∃ m, m < n ∧ I m s₅) (fun _ _ => False) s₄) (fun _ _ => False) s₃
            else ∃ m, m < n ∧ I m s₃) (fun _ _ => False) s₂) (fun _ _ => False) s') (fun _ _ => False) s₁) (fun _ _ => False) s)
    (n : Nat) (h : I n s) :
    codeAny (model prog w) A (.compLoop (.ListComp elt [⟨target, iter, ifs, 0⟩] scope pos) 0 it acc env) R s := by
  refine codeAny_loop rfl I (fun n s hI => ?_) n h
  show wpAny _ A ((compTurn (.ListComp elt [⟨target, iter, ifs, 0⟩] scope pos) 0 it acc env).onRaise (fun x => do noteFrame x env; theTreesLotGoes x)) _ _ s
  refine wpAny_noted ?_
  rw [compTurn_list]
  refine wpAny_bind (wpAny_standAt (wpAny_bind (wpAny_mono (turn n s hI) (fun r s₁ h₁ => ?_) fun _ _ h' => h'.elim)))
  cases r with
  | none => exact wpAny_pure h₁
  | some v =>
    refine wpAny_bind (wpAny_mono h₁ (fun _ s' h' => wpAny_bind (wpAny_mono h' (fun _ s₂ h₂ => wpAny_bind (wpAny_mono h₂ (fun ok s₃ h₃ => ?_) fun _ _ h' => h'.elim)) fun _ _ h' => h'.elim)) fun _ _ h' => h'.elim)
    cases ok with
    | false => exact wpAny_pure ⟨rfl, h₃⟩
    | true =>
      exact wpAny_bind (wpAny_bind (wpAny_mono h₃ (fun x s₄ h₄ => wpAny_bind (wpAny_mono h₄ (fun _ s₅ h₅ => wpAny_pure (wpAny_pure ⟨rfl, h₅⟩)) fun _ _ h' => h'.elim)) fun _ _ h' => h'.elim))
def PIfs (X : Cx) (ifs : List Expr) (t : TT) : Prop :=
  ∀ (pins : List (Addr × Obj)) (s : Shared) (σ : St) (H : Hp) (Q : Bool → Hp → Prop), Inv X pins σ H s → t σ H Q →
    wpAny (model X.prog X.w) X.A (forIn ifs true fun c r => if r = true then do let ok ← isTrue c X.env (eval c X.env); pure (ForInStep.yield ok) else pure (ForInStep.yield r)) (TP X pins σ Q) X.xe s
def tNoIf : TT := fun _ H Q => Q true H
theorem pifs_nil {X : Cx} : PIfs X [] tNoIf := fun _ _ _ H _ I h => wpAny_tests_nil ⟨H, I, h⟩
theorem pifs_one {X : Cx} {c : Expr} {t : TT} (h : PT X c t) : PIfs X [c] t := fun pins s σ H Q I q => wpAny_tests_one (h pins s σ H Q I q)
def Loose (X : Cx) (pins : List (Addr × Obj)) (H : Hp) (C : Addr) : Prop :=
  H C = none ∧ C ≠ X.env.locals ∧ X.s₀.heap.objs.size ≤ C ∧ (∀ x c, X.env.cells.lookup x = some c → c ≠ C) ∧ ∀ q ∈ X.pn ++ pins, q.1 ≠ C
def LcInv (J : It) (g : TG) (ti : TT) (te : TE) (σ0 : St) (H1 : Hp) (Q : VK) (p : Addr) : Prop :=
  ∃ W : Nat → Nat → St → Hp → Prop, (∃ m, W 0 m σ0 (upd H1 p (.lst []))) ∧ ∀ i m σ H, W i m σ H →
    (J.stop i H ∧ Q (.ref p) H) ∨ (J.go i H ∧ ∃ N : St → Hp → Prop, (∀ σ' H', N σ' H' → ∃ m', m' < m ∧ W (i + 1) m' σ' H') ∧
      ∀ x H', J.yld i H x H' → g x σ H' fun σ2 H2 => ti σ2 H2 fun b H3 => if b = true then te σ2 H3 fun v H4 => ∃ xs, H4 p = some (.lst xs) ∧ xs.length < sizeLine ∧ N σ2 (upd H4 p (.lst (xs ++ [v]))) else N σ2 H3)
section
variable {X : Cx} {pins : List (Addr × Obj)} {σ : St} {H2 : Hp} {s2 : Shared} {N : List Str} {scope : Scope} {cl : List (Str × Addr)} {pick : List (Option Nat)} {elt tg iter : Expr} {ifs : List Expr} {pos : Pos}
  {g : TG} {ti : TT} {te : TE} {it : Addr} {fp : List Addr} {tn : Nat → Heap → Prop} {J : It} {Q : VK}
theorem lc_ok {C : Addr} {s3 : Shared} {H3 : Hp} (S : CompOk X N scope cl pick) (I3 : Inv X pins σ H3 s3) (hC : s3.heap.objs.size ≤ C) (f3 : ∀ b ∈ fp, FpOk X pins H3 b) (hlt : ∀ b ∈ fp, b < s3.heap.objs.size) :
    (ccx X N scope cl C s3 H3 fp).Ok where
  mod := I3.mod
  kind := S.kind
  glob := I3.ok.glob
  blt := I3.ok.blt
  above := hC
  inj := fun x y c a b => I3.ok.inj x y c (S.cells.look a) (S.cells.look b)
  has := fun x h => by
    have key : ∀ (names : List (Str × NameKind)), (names.all fun y => y.2 != .cell) = true → (names.all fun y => y.2 != .free || (cl.lookup y.1).isSome) = true →
        ((names.map fun (n, k) => if (k == NameKind.free && X.env.scope.kind == .function && X.env.kindOf n == some .cell) then (n, NameKind.cell) else (n, k)).lookup x = some .cell ∨
         (names.map fun (n, k) => if (k == NameKind.free && X.env.scope.kind == .function && X.env.kindOf n == some .cell) then (n, NameKind.cell) else (n, k)).lookup x = some .free) → ∃ c, cl.lookup x = some c := by
      intro names
      induction names with
      | nil => intro _ _ h; simp at h
      | cons y r ih =>
        obtain ⟨n, k⟩ := y
        intro h1 h2 h3
        rw [List.all_cons, Bool.and_eq_true] at h1 h2
        rw [List.map_cons] at h3
        cases hx : x == n with
        | true =>
          have hx' : x = n := by simpa using hx
          subst hx'
          cases k with
          | free =>
            have q := h2.1
            rw [Bool.or_eq_true] at q
            exact Option.isSome_iff_exists.mp (q.resolve_left (by simp))
          | cell => exact absurd h1.1 (by simp)
          | _ => simp [List.lookup_cons] at h3
        | false =>
          refine ih h1.2 h2.2 ?_
          have e : ∀ (k' : NameKind), List.lookup x ((n, k') :: (r.map fun (n, k) => if (k == NameKind.free && X.env.scope.kind == .function && X.env.kindOf n == some .cell) then (n, NameKind.cell) else (n, k))) =
              List.lookup x (r.map fun (n, k) => if (k == NameKind.free && X.env.scope.kind == .function && X.env.kindOf n == some .cell) then (n, NameKind.cell) else (n, k)) := fun k' => by rw [List.lookup_cons, hx]
          by_cases hc : (k == NameKind.free && X.env.scope.kind == .function && X.env.kindOf n == some .cell) = true
          · simp only [if_pos hc] at h3; rw [e] at h3; exact h3
          · simp only [if_neg hc] at h3; rw [e] at h3; exact h3
    exact key scope.names S.nocell S.free h
  cab := fun x c h => by cases h
  hd := I3.ok.hd
  frames := I3.ok.frames
  stk := .inl rfl
  exf := fun b hb => ⟨fun e => absurd (hlt b hb) (Nat.not_lt.mpr (by rw [show b = C from e]; exact hC)), fun x c e => (f3 b hb).2.2.2.2.1 x c (S.cells.look e)⟩
  bs := I3.bs
  bsz := Nat.le_trans I3.ok.bsz I3.sz
  noex := fun b o e hb => by
    rcases (f3 b hb).2.2.2.1 with z | z
    · exact I3.ok.noex b o e z
    · exact absurd (Nat.lt_of_lt_of_le (Heap.lt_size (I3.ok.bs b o e).1) z) (Nat.lt_irrefl _)
  exfs := fun b hb m => by
    rcases List.mem_cons.mp (I3.stkSub b m) with z | z
    · exact (f3 b hb).2.1 z
    · exact (f3 b hb).2.2.1 z
  funs := I3.stack
  frf := I3.stkFree
theorem lc_inv {C : Addr} {s3 : Shared} {H3 : Hp} {h4 : Heap} {t4 : Nat} {m : Str → Option Value} (S : CompOk X N scope cl pick) (I3 : Inv X pins σ H3 s3) (hC : s3.heap.objs.size ≤ C) (f3 : ∀ b ∈ fp, FpOk X pins H3 b) (hlt : ∀ b ∈ fp, b < s3.heap.objs.size)
    (hn : h4.Ns C m) (hk : ∀ b o, s3.heap.get? b = some o → h4.get? b = some o) : Inv (ccx X N scope cl C s3 H3 fp) [] (picked pick σ) H3 { s3 with heap := h4, toks := t4 } where
  ok := lc_ok S I3 hC f3 hlt
  os := rfl
  bare := I3.bare
  base := Un.kept hk
  loc := by
    refine ⟨m, hn, fun j x v hj hσ hv => ?_⟩
    have hj' : N[j]? = some x := hj
    unfold picked at hσ
    rw [List.getElem?_map] at hσ
    cases hp : pick[j]? with
    | none => rw [hp] at hσ; cases hσ
    | some o =>
      rw [hp] at hσ
      cases o with
      | none => cases hσ
      | some i =>
        obtain ⟨a1, a2, a3, c, a4, a5⟩ := S.picks.at hj' hp
        have hσ' : σ[i]? = some (some v) := by
          have : (σ[i]?).bind id = some v := by simpa using hσ
          cases q : σ[i]? with
          | none => rw [q] at this; cases this
          | some z => rw [q] at this; have e : z = some v := this; rw [e]
        obtain ⟨m0, _, hl⟩ := I3.loc
        have vis : Vis X.env.scope x := a2.elim (fun e => .inr (.inl e)) fun e => .inr (.inr e)
        obtain ⟨u, ru, lk⟩ := hl i x v a1 hσ' vis
        refine ⟨u, ru, .inr ⟨a3, c, a5, ?_⟩⟩
        rcases lk with ⟨z, _⟩ | ⟨_, c', e', ic⟩
        · rcases a2 with y | y <;> (rw [y] at z; cases z)
        · rw [a4] at e'; cases e'
          obtain ⟨o, e, d⟩ := ic
          exact ⟨o, hk _ _ e, d⟩
  cell := fun x c e => by
    obtain ⟨v, o, q, d⟩ := I3.cell x c (S.cells.look e)
    exact ⟨v, o, hk _ _ q, d⟩
  free := I3.hok.fresh hC
  freeC := fun x c e => I3.freeC x c (S.cells.look e)
  pin := fun p hp => nomatch hp
  hok := I3.hok.kept hk
  len := by
    show (picked pick σ).length = N.length
    unfold picked
    rw [List.length_map, S.picks.length]
theorem lc_block {E : Value → Shared → Prop} {RR : Value → Addr → Result → Shared → Prop} (hc : X.calm = true) (S : CompOk X N scope cl pick)
    (hg : ∀ C s H fp, PG (ccx X N scope cl C s H fp) tg g) (ht : ∀ C s H fp, PIfs (ccx X N scope cl C s H fp) ifs ti) (he : ∀ C s H fp, PE (ccx X N scope cl C s H fp) elt te)
    (I2 : Inv X pins σ H2 s2) (T : Turn X.prog X.w X.K tg J fp it tn) (st2 : tn 0 s2.heap) (f2 : ∀ b ∈ fp, FpOk X pins H2 b)
    (hq : ∀ p, H2 p = none → LcInv J g ti te (picked pick σ) H2 Q p)
    (hRR : ∀ C p H' s1 m, Inv X pins σ H' s1 → Loose X pins H' C → s1.heap.Ns C m → Q (.ref p) H' → RR (.ref p) C (.ok .next) s1) :
    wpAny (model X.prog X.w) X.A (newList []) (fun acc s₃ => wpAny (model X.prog X.w) X.A (newFunctionEnv scope X.env.globals cl [] X.env.qual none .none (some X.env)) (fun cenv s₄ =>
      codeAny (model X.prog X.w) X.A (.compStart (.ListComp elt [⟨tg, iter, ifs, 0⟩] scope pos) 0 (.ref it) acc { cenv with scope := relabel scope X.env }) (RR acc cenv.locals) s₄) E s₃) E s2 := by
  have hcell : ∀ y ∈ scope.names, y.2 ≠ .cell := fun y hy => by simpa using List.all_eq_true.mp S.nocell y hy
  refine wpAny_newObj_type (wpAny_newFunctionEnv hcell (by intro y hy; simp at hy) (fun h₁ hns₁ hsb₁ => ?_) S.kind)
  dsimp only at hns₁ hsb₁ ⊢
  have I3 : Inv X pins σ (upd H2 s2.heap.objs.size (.lst [])) { s2 with heap := s2.heap.push { cls := .type "list", data := .seq ([] : List Value).toArray } } :=
    I2.lnew (ys := []) (its := []) (t' := s2.toks) .nil (Nat.zero_le _)
  have hp : H2 s2.heap.objs.size = none := I2.fresh
  obtain ⟨W, ⟨m0, w0⟩, turn⟩ := hq _ hp
  generalize hA : s2.heap.objs.size = acc at *
  generalize hS3 : ({ s2 with heap := s2.heap.push { cls := .type "list", data := .seq ([] : List Value).toArray } } : Shared) = s3 at *
  have hh3 : s3.heap = s2.heap.push { cls := .type "list", data := .seq ([] : List Value).toArray } := by rw [← hS3]
  have hsz : s3.heap.objs.size = acc + 1 := by rw [hh3, Heap.size_push, hA]
  have hlt2 : ∀ b ∈ fp, b < acc := fun b hb => by
    obtain ⟨o, e, _⟩ := T.obj 0 _ st2 b hb
    rw [← hA]; exact Heap.lt_size e
  have hlt : ∀ b ∈ fp, b < s3.heap.objs.size := fun b hb => by rw [hsz]; exact Nat.lt_succ_of_lt (hlt2 b hb)
  have f3 : ∀ b ∈ fp, FpOk X pins (upd H2 acc (.lst [])) b := fun b hb => ⟨by rw [upd_ne (Nat.ne_of_lt (hlt2 b hb))]; exact (f2 b hb).1, (f2 b hb).2⟩
  have hk : ∀ b o, s3.heap.get? b = some o → h₁.get? b = some o := fun b o e => by
    refine hsb₁.extBut b o (Nat.ne_of_lt ?_) (Heap.get?_push_of_some _ ?_)
    · have := Heap.lt_size e
      rw [hh3] at this
      exact this
    · rw [hh3] at e; exact e
  have hCe : (s2.heap.push { cls := .type "list", data := .seq ([] : List Value).toArray }).objs.size = acc + 1 := by rw [Heap.size_push, hA]
  have e4 : ({ s2 with heap := h₁, toks := s2.toks + ([] : List (Str × Value)).length } : Shared) = { s3 with heap := h₁, toks := s2.toks } := by rw [← hS3]; rfl
  have hns : h₁.Ns (acc + 1) (fun x => ([] : List (Str × Value)).reverse.lookup x) := by rw [← hCe]; exact hns₁
  have I4 : Inv (ccx X N scope cl (acc + 1) s3 (upd H2 acc (.lst [])) fp) [] (picked pick σ) (upd H2 acc (.lst [])) { s3 with heap := h₁, toks := s2.toks } :=
    lc_inv S I3 (by rw [hsz]; exact Nat.le_refl _) f3 hlt hns hk
  have st4 : tn 0 h₁ := T.keep _ _ _ st2 fun b hb o e => hk b o (by rw [hh3]; exact Heap.get?_push_of_some _ e)
  have stat : ∀ {H' : Hp}, (∀ b ∈ fp, H' b = none) → ∀ b ∈ fp, FpOk (ccx X N scope cl (acc + 1) s3 (upd H2 acc (.lst [])) fp) [] H' b := fun {H'} hn b hb => by
    have ok := I4.ok
    exact ⟨hn b hb, (ok.exf b hb).1, ok.exfs b hb, .inl hb, (ok.exf b hb).2, fun p hp => nomatch hp⟩
  -- behind the loop: the outer frame again
  have out : ∀ {σ' : St} {H' : Hp} {s1 : Shared}, Inv (ccx X N scope cl (acc + 1) s3 (upd H2 acc (.lst [])) fp) [] σ' H' s1 → Q (.ref acc) H' → RR (.ref acc) (acc + 1) (.ok .next) s1 := fun {σ' H' s1} I' q' => by
    obtain ⟨m', hn', _⟩ := I'.loc
    refine hRR (acc + 1) acc H' s1 m' ?_ ?_ hn' q'
    · exact I3.call' I'.os I'.base I'.hok I'.bare fun b hb => ⟨(f3 b hb).2.2.2.1, (f3 b hb).2.1, (f3 b hb).2.2.2.2.1, (f3 b hb).2.2.2.2.2⟩
    · have big : s3.heap.objs.size ≤ acc + 1 := by rw [hsz]; exact Nat.le_refl _
      refine ⟨I'.free, Nat.ne_of_gt (Nat.lt_of_lt_of_le I3.lt big), Nat.le_trans I3.sz big, fun x c e z => ?_, fun p hp z => ?_⟩
      · obtain ⟨v, ic⟩ := I3.cell x c e
        exact absurd (Nat.lt_of_lt_of_le ic.lt (by rw [z]; exact big)) (Nat.lt_irrefl _)
      · exact absurd (Nat.lt_of_lt_of_le (Heap.lt_size (I3.pin p hp).1) (by rw [z]; exact big)) (Nat.lt_irrefl _)
  have loop : codeAny (model X.prog X.w) X.A (.compLoop (.ListComp elt [⟨tg, iter, ifs, 0⟩] scope pos) 0 (.ref it) (.ref acc) (compEnvC scope cl (acc + 1) X.env)) (RR (.ref acc) (acc + 1)) { s3 with heap := h₁, toks := s2.toks } := by
    refine compLoop_any (fun n s' => ∃ i σ' H', Inv (ccx X N scope cl (acc + 1) s3 (upd H2 acc (.lst [])) fp) [] σ' H' s' ∧ tn i s'.heap ∧ (∀ b ∈ fp, H' b = none) ∧ W i n σ' H') ?_ m0
      ⟨0, _, _, I4, st4, fun b hb => (f3 b hb).1, w0⟩
    rintro n s5 ⟨i, σ5, H5, I5, st5, fr5, w5⟩
    rcases turn i n σ5 H5 w5 with ⟨stop, qn⟩ | ⟨go, Nx, hN, step⟩
    · refine thn (T.done (ccx X N scope cl (acc + 1) s3 (upd H2 acc (.lst [])) fp) rfl rfl rfl hc i [] s5 σ5 H5 _ I5 (stat fr5) st5 stop) fun r s6 ⟨hr, I6⟩ => ?_
      subst hr
      exact out I6 qn
    · refine thn (T.item (ccx X N scope cl (acc + 1) s3 (upd H2 acc (.lst [])) fp) rfl rfl rfl hc i [] s5 σ5 H5 _ I5 (stat fr5) st5 go) fun r s6 ⟨u, hr, h6⟩ => ?_
      subst hr
      refine thn h6 fun _ s7 ⟨x, H7, I7, r7, y7, st7, fr7⟩ => ?_
      have I7' := I7.pinned (stat fr7) (T.obj _ _ st7)
      refine thn (hg _ _ _ _ _ s7 σ5 H7 x u _ I7' r7 (step x H7 y7)) fun _ s8 ⟨σ8, H8, I8, q8⟩ => ?_
      have again : ∀ {s9 : Shared} {σ9 : St} {H9 : Hp}, Inv (ccx X N scope cl (acc + 1) s3 (upd H2 acc (.lst [])) fp) ([] ++ pinsAt fp s7.heap) σ9 H9 s9 → Nx σ9 H9 → ∃ m, m < n ∧ ∃ i σ' H', Inv (ccx X N scope cl (acc + 1) s3 (upd H2 acc (.lst [])) fp) [] σ' H' s9 ∧ tn i s9.heap ∧ (∀ b ∈ fp, H' b = none) ∧ W i m σ' H' := fun {s9 σ9 H9} I9 n9 => by
        obtain ⟨m', hm, w9⟩ := hN σ9 H9 n9
        refine ⟨m', hm, i + 1, σ9, H9, I9.unpinned, T.keep _ _ _ st7 fun b hb o e => (I9.pin (b, o) (List.mem_append_right _ (List.mem_append_right _ (mem_pinsAt hb e)))).1, fun b hb => ?_, w9⟩
        obtain ⟨o, e, d⟩ := T.obj _ _ st7 b hb
        exact (I9.pin (b, o) (List.mem_append_right _ (List.mem_append_right _ (mem_pinsAt hb e)))).2.1
      refine thn (ht _ _ _ _ _ s8 σ8 H8 _ I8 q8) fun ok s9 ⟨H9, I9, q9⟩ => ?_
      cases ok with
      | false => exact again I9 q9
      | true =>
        refine thn (he _ _ _ _ _ s9 σ8 H9 _ I9 q9) fun y s10 ⟨v, H10, I10, r10, xs, hx, hl, n10⟩ => ?_
        refine thn (mt_append _ s10 σ8 H10 (.ref acc) [v] (.ref acc) [y] (fun _ H' => Nx σ8 H') I10 rfl (.cons r10 .nil) ⟨acc, xs, v, rfl, rfl, hx, hl, n10⟩) fun _ s11 ⟨_, H11, I11, _, n11⟩ => again I11 n11
  rw [e4]
  have e5 : ({ newEnv scope (s2.heap.push { cls := .type "list", data := .seq ([] : List Value).toArray }).objs.size X.env.globals cl X.env.qual none .none (some X.env) builtinsNs with scope := relabel scope X.env } : Env) = compEnvC scope cl (acc + 1) X.env := by
    rw [hCe]; rfl
  have e6 : (newEnv scope (s2.heap.push { cls := .type "list", data := .seq ([] : List Value).toArray }).objs.size X.env.globals cl X.env.qual none .none (some X.env) builtinsNs).locals = acc + 1 := by
    rw [hCe]; rfl
  rw [e5, e6]
  exact codeAny_compStart_list loop (T.self _ 0 _ _ _ st4 loop)
end
def tLC (wi : TI) (g : TG) (ti : TT) (te : TE) (pick : List (Option Nat)) : TE := fun σ H Q => wi σ H fun J H1 => ∀ p, H1 p = none → LcInv J g ti te (picked pick σ) H1 Q p
section
variable {X : Cx} {N : List Str} {scope : Scope} {cl : List (Str × Addr)} {pick : List (Option Nat)} {elt tg iter : Expr} {ifs : List Expr} {pos pos' spos : Pos} {wi : TI} {g : TG} {ti : TT} {te : TE}
theorem pe_lc (hc : X.calm = true) (S : CompOk X N scope cl pick) (hi : PI X tg iter wi)
    (hg : ∀ C s H fp, PG (ccx X N scope cl C s H fp) tg g) (ht : ∀ C s H fp, PIfs (ccx X N scope cl C s H fp) ifs ti) (he : ∀ C s H fp, PE (ccx X N scope cl C s H fp) elt te)
    (hs : ∀ x, foldedSetIterable iter X.env x = pure x := by intro _; rfl) : PE X (.ListComp elt [⟨tg, iter, ifs, 0⟩] scope pos) (tLC wi g ti te pick) := by
  intro pins s σ H Q I h
  have hloc : ∀ y ∈ scope.names, y.2 = .local → scope.names.lookup y.1 = some .local := fun y hy e => by
    have := List.all_eq_true.mp S.loc y hy
    rw [e] at this
    simpa using this
  rw [eval_ListComp]
  refine wpAny_comprehension_free (use := none) rfl hs S.clos S.kind hloc (thn (hi pins s σ H _ I h) fun xv s₁ h₁ => thn h₁ fun itv s₂ h₂ => ?_)
  obtain ⟨it, fp, tn, J, H2, e, I2, T, st2, f2, hq⟩ := h₂
  subst e
  refine lc_block (RR := fun acc C => compPost (model X.prog X.w) X.A X.xe none (EP X pins σ Q) acc C) hc S hg ht he I2 T st2 f2 hq ?_
  intro C p H' s1 m I1 L hn q
  refine ⟨m, hn, fun h' hs' => ⟨.ref p, H', I1.turned (t' := s1.toks) (fun b o hb e => (hs'.2 b hb).trans e) L.1 L.2.1 (.inr L.2.2.1) L.2.2.2.1 L.2.2.2.2, rfl, q⟩⟩
theorem ps_setLC {i : Nat} {y : Str} (hsw : swapsWith (.ListComp elt [⟨tg, iter, ifs, 0⟩] scope pos) (some (.Name y pos')) spos.line X.env = pure true) (hN : X.N.Nodup) (hi' : X.N[i]? = some y) (hx : Loc X.env.scope y)
    (hc : X.calm = true) (S : CompOk X N scope cl pick) (hi : PI X tg iter wi)
    (hg : ∀ C s H fp, PG (ccx X N scope cl C s H fp) tg g) (ht : ∀ C s H fp, PIfs (ccx X N scope cl C s H fp) ifs ti) (he : ∀ C s H fp, PE (ccx X N scope cl C s H fp) elt te)
    (hs : ∀ x, foldedSetIterable iter X.env x = pure x := by intro _; rfl) (hf : X.fn y = true ∨ X.env.scope.names.lookup y = some .local := by first | exact .inl rfl | exact .inr rfl | assumption) :
    PS X (.Assign [.Name y pos'] (.ListComp elt [⟨tg, iter, ifs, 0⟩] scope pos) spos) (tAsg (tLC wi g ti te pick) (gName i)) := by
  intro pins s σ H D I h
  have hloc : ∀ y ∈ scope.names, y.2 = .local → scope.names.lookup y.1 = some .local := fun y hy e => by
    have := List.all_eq_true.mp S.loc y hy
    rw [e] at this
    simpa using this
  rw [exec_Assign_Name_used _ _ _ _ hsw]
  refine wpAny_bind (wpAny_standAt (wpAny_bind ?_))
  show wpAny _ X.A (do let _ ← comprehension (.ListComp elt [⟨tg, iter, ifs, 0⟩] scope pos) scope X.env _ (newList []) false (eval iter X.env) (some (assign (.Name y pos') X.env))) _ _ s
  refine wpAny_bind (wpAny_mono (wpAny_comprehension_free (use := some (assign (.Name y pos') X.env)) (Q := fun _ s' => SP X pins D .next s') rfl hs S.clos S.kind hloc
    (thn (hi pins s σ H _ I h) fun xv s₁ h₁ => thn h₁ fun itv s₂ h₂ => ?_)) (fun _ s' hq => wpAny_pure (wpAny_pure hq)) fun _ _ e => e)
  obtain ⟨it, fp, tn, J, H2, e, I2, T, st2, f2, hq⟩ := h₂
  subst e
  refine lc_block (RR := fun acc C => compPost (model X.prog X.w) X.A X.xe (some (assign (.Name y pos') X.env)) (fun _ s' => SP X pins D .next s') acc C) hc S hg ht he I2 T st2 f2 hq ?_
  intro C p H' s1 m I1 L hn q
  show wpAny _ X.A (assign (.Name y pos') X.env (.ref p)) _ _ _
  refine wpAny_assign_Name (store_ok2 I1 hN hi' hx (v := .ref p) rfl (fun s2 I2 hch => ?_) hf)
  obtain ⟨a, sb, ha⟩ := hch
  have hCa : C ≠ a := by
    rcases ha with rfl | e
    · exact L.2.1
    · exact (L.2.2.2.1 y a e).symm
  refine ⟨m, hn.sameBut sb hCa, fun h' hs' => ⟨_, H', I2.turned (t' := s2.toks) (fun b o hb e => (hs'.2 b hb).trans e) L.1 L.2.1 (.inr L.2.2.1) L.2.2.2.1 L.2.2.2.2, q⟩⟩
end
def LcEnd (p : Addr) (Pv : Nat → List V → St → Hp → Prop) (i : Nat) (σ : St) (H : Hp) : Prop := ∃ ys, H p = some (.lst ys) ∧ Pv i ys σ H
theorem lc_list {K : PySem.W.Frag} {a p : Addr} {xs : List V} {g : TG} {ti : TT} {te : TE} {σ0 : St} {H1 : Hp} {Q : VK} (Pv : Nat → List V → St → Hp → Prop) (h0 : Pv 0 [] σ0 (upd H1 p (.lst [])))
    (hl : ∀ i ys σ H, i ≤ xs.length → H p = some (.lst ys) → Pv i ys σ H → SqL K H a xs)
    (hs : ∀ i x ys σ H, xs[i]? = some x → H p = some (.lst ys) → Pv i ys σ H → g x σ H fun σ2 H2 => ti σ2 H2 fun b H3 => if b = true then te σ2 H3 fun v H4 => ∃ zs, H4 p = some (.lst zs) ∧ zs.length < sizeLine ∧ LcEnd p Pv (i + 1) σ2 (upd H4 p (.lst (zs ++ [v])))
      else LcEnd p Pv (i + 1) σ2 H3)
    (hd : ∀ ys σ H, H p = some (.lst ys) → Pv xs.length ys σ H → Q (.ref p) H) :
    LcInv (Itl K a) g ti te σ0 H1 Q p := by
  refine ⟨fun i m σ H => m = xs.length - i ∧ i ≤ xs.length ∧ LcEnd p Pv i σ H, ⟨xs.length, by simp, Nat.zero_le _, [], upd_same, h0⟩, ?_⟩
  rintro i m σ H ⟨rfl, hi, ys, hp, pv⟩
  have q := hl i ys σ H hi hp pv
  by_cases hlt : i < xs.length
  · refine .inr ⟨⟨xs, xs[i], q, by simp [hlt]⟩, LcEnd p Pv (i + 1), fun σ' H' z => ⟨xs.length - (i + 1), by omega, rfl, hlt, z⟩, fun x H' y => ?_⟩
    obtain ⟨e, y⟩ := y
    subst e
    exact hs i x ys σ H' (y xs q) hp pv
  · have e : i = xs.length := by omega
    subst e
    exact .inl ⟨⟨xs, q, Nat.le_refl _⟩, hd ys σ H hp pv⟩
theorem lc_range {lo : Int} {n : Nat} {p : Addr} {g : TG} {ti : TT} {te : TE} {σ0 : St} {H1 : Hp} {Q : VK} (Pv : Nat → List V → St → Hp → Prop) (h0 : Pv 0 [] σ0 (upd H1 p (.lst [])))
    (hs : ∀ i ys σ H, i < n → H p = some (.lst ys) → Pv i ys σ H → g (.int (lo + i)) σ H fun σ2 H2 => ti σ2 H2 fun b H3 => if b = true then te σ2 H3 fun v H4 => ∃ zs, H4 p = some (.lst zs) ∧ zs.length < sizeLine ∧ LcEnd p Pv (i + 1) σ2 (upd H4 p (.lst (zs ++ [v])))
      else LcEnd p Pv (i + 1) σ2 H3)
    (hd : ∀ ys σ H, H p = some (.lst ys) → Pv n ys σ H → Q (.ref p) H) :
    LcInv (Itr lo n) g ti te σ0 H1 Q p := by
  refine ⟨fun i m σ H => m = n - i ∧ i ≤ n ∧ LcEnd p Pv i σ H, ⟨n, by simp, Nat.zero_le _, [], upd_same, h0⟩, ?_⟩
  rintro i m σ H ⟨rfl, hi, ys, hp, pv⟩
  by_cases hlt : i < n
  · refine .inr ⟨hlt, LcEnd p Pv (i + 1), fun σ' H' z => ⟨n - (i + 1), by omega, rfl, hlt, z⟩, fun x H' y => ?_⟩
    obtain ⟨e, y⟩ := y
    subst e
    subst y
    exact hs i ys σ H' hlt hp pv
  · have e : i = n := by omega
    subst e
    exact .inl ⟨Nat.le_refl _, hd ys σ H hp pv⟩
def tCut (t u : TS) : TS := fun D σ H => ∃ P : St → Hp → Prop, t { D with nx := P } σ H ∧ ∀ σ' H', P σ' H' → u D σ' H'
theorem pss_cut {X : Cx} {st : Stmt} {rest : List Stmt} {t u : TS} (h1 : PS X st t) (h2 : PSs X rest u) : PSs X (st :: rest) (tCut t u) := by
  intro pins s σ H D I ⟨P, h, hu⟩
  refine wpAny_execs_cons (thn (h1 pins s σ H _ I h) fun f s1 q => ?_)
  cases f with
  | next =>
    obtain ⟨σ1, H1, I1, q1⟩ := q
    exact h2 pins s1 σ1 H1 D I1 (hu σ1 H1 q1)
  | brk => exact q
  | cont => exact q
  | ret v => exact q
theorem st_cut {t u : TS} {D : Ends} {σ : St} {H : Hp} (P : St → Hp → Prop) (h : t { D with nx := P } σ H) (hu : ∀ σ' H', P σ' H' → u D σ' H') : tCut t u D σ H := ⟨P, h, hu⟩
end L2
set_option Elab.async false
set_option linter.all false
set_option maxRecDepth 100000
set_option maxHeartbeats 4000000
namespace L2
open PySem PySem.Spec PyProof.Rows
section
variable {σ : St} {H : Hp} {Q : VK} {D : Ends} {ta tb tc te : TE} {t u : TS} {c d : TT} {K : PySem.W.Frag} {QB : Bool → Hp → Prop} {x y v : V} {i j : Int} {a p : Addr} {xs ys : List V} {r : R2} {QL : List V → Hp → Prop}
theorem st_var {n : Nat} (h : σ[n]? = some (some v)) (q : Q v H) : tVar n σ H Q := ⟨v, h, q⟩
theorem st_c (q : Q v H) : tC v σ H Q := q
theorem st_op (q : ta σ H fun x H1 => tb σ H1 fun y H2 => r x y H2 Q) : tOp r ta tb σ H Q := q
theorem st_un {r : V → Hp → VK → Prop} (q : ta σ H fun x H1 => r x H1 Q) : tUn r ta σ H Q := q
theorem st_rI {C : Int → Int → Prop} {g : Int → Int → V} (hc : C i j) (q : Q (g i j) H) : rI C g (.int i) (.int j) H Q := ⟨i, j, rfl, rfl, hc, q⟩
theorem st_rI0 {g : Int → Int → V} (q : Q (g i j) H) : rI0 g (.int i) (.int j) H Q := ⟨i, j, rfl, rfl, q⟩
theorem st_rU {g : Int → V} (q : Q (g i) H) : rU g (.int i) H Q := ⟨i, rfl, q⟩
theorem st_rEq (h : scal x y = true) (q : Q (.bl (decide (x = y))) H) : rEq x y H Q := ⟨h, q⟩
theorem st_rNe (h : scal x y = true) (q : Q (.bl (!decide (x = y))) H) : rNe x y H Q := ⟨h, q⟩
theorem st_isN (q : ta σ H fun x H1 => Q (.bl (decide (x = .non))) H1) : tIsN ta σ H Q := q
theorem st_notN (q : ta σ H fun x H1 => Q (.bl (!decide (x = .non))) H1) : tNotN ta σ H Q := q
theorem st_B (q : ta σ H fun x H1 => ∃ c, x = .bl c ∧ QB c H1) : tB ta σ H QB := q
theorem st_test (q : ta σ H fun x H1 => ∃ c, x = .bl c ∧ QB c H1) : tTest ta σ H QB := q
theorem st_bl {P : Bool → Prop} {b : Bool} (q : P b) : ∃ c, V.bl b = .bl c ∧ P c := ⟨b, rfl, q⟩
theorem st_and (q : c σ H fun b H1 => if b = true then d σ H1 QB else QB false H1) : tAnd c d σ H QB := q
theorem st_or (q : c σ H fun b H1 => if b = true then QB true H1 else d σ H1 QB) : tOr c d σ H QB := q
theorem st_not (q : c σ H fun b H1 => QB (!b) H1) : tNot c σ H QB := q
theorem st_andV (q : ta σ H fun x H1 => ∃ c, x = .bl c ∧ if c = true then tb σ H1 Q else Q (.bl false) H1) : tAndV ta tb σ H Q := q
theorem st_notV (q : ta σ H fun x H1 => ∃ c, x = .bl c ∧ Q (.bl (!c)) H1) : tNotV ta σ H Q := q
theorem st_ifE (q : c σ H fun b H1 => if b = true then ta σ H1 Q else tb σ H1 Q) : tIf c ta tb σ H Q := q
theorem st_chain {r' : R2} (q : ta σ H fun x H1 => tb σ H1 fun y H2 => r x y H2 fun z H3 => ∃ k, z = .bl k ∧ (if k = true then tc σ H3 fun w' H4 => r' y w' H4 Q else Q (.bl false) H3)) : tChain r r' ta tb tc σ H Q := q
theorem st_nil (q : QL [] H) : tNil σ H QL := q
theorem st_cons {tr : TA} (q : ta σ H fun x H1 => tr σ H1 fun xs H2 => QL (x :: xs) H2) : tCons ta tr σ H QL := q
theorem st_tup {t : TA} (q : t σ H fun xs H1 => xs.length ≤ sizeLine ∧ ∀ p, H1 p = none → Q (.ref p) (upd H1 p (.tup xs))) : tTup t σ H Q := q
theorem st_lst {t : TA} (q : t σ H fun xs H1 => xs.length ≤ sizeLine ∧ ∀ p, H1 p = none → Q (.ref p) (upd H1 p (.lst xs))) : tLst t σ H Q := q
theorem st_dnew (q : ∀ p, H p = none → Q (.ref p) (upd H p (.dK []))) : tDNewK σ H Q := q
theorem st_call {sp : Sp} {dvs : List V} {E : XK} {t : TA} (q : t σ H fun vs H1 => sp (vs ++ dvs) H1 Q E) : tCall sp dvs E t σ H Q := q
theorem st_cb {r : List V → Hp → VK → Prop} {t : TA} (q : t σ H fun vs H1 => r vs H1 Q) : tCB r t σ H Q := q
theorem st_lenL (h : SqL K H a ys) (q : Q (.int ys.length) H) : rLenQ K [.ref a] H Q := ⟨a, ys, rfl, .inl h, q⟩
theorem st_lenT (h : SqT K H a ys) (q : Q (.int ys.length) H) : rLenQ K [.ref a] H Q := ⟨a, ys, rfl, .inr h, q⟩
theorem st_lenD {kvs : List (Key × V)} (h : H a = some (.dK kvs)) (q : Q (.int kvs.length) H) : rLenD [.ref a] H Q := ⟨a, kvs, rfl, h, q⟩
theorem st_listL (h : SqL K H a ys) (q : ∀ l, H l = none → Q (.ref l) (upd H l (.lst ys))) : rListQ K [.ref a] H Q := ⟨a, ys, rfl, .inl h, q⟩
theorem st_intB {b : Bool} (q : Q (.int (if b then 1 else 0)) H) : rInt1 [.bl b] H Q := .inr ⟨b, rfl, q⟩
theorem st_ixL (h : SqL K H a xs) (e : atI xs i = some v) (q : Q v H) : rIxL K (.ref a) (.int i) H Q := ⟨a, xs, i, v, rfl, rfl, h, e, q⟩
theorem st_ixT (h : SqT K H a xs) (e : atI xs i = some v) (q : Q v H) : rIxT K (.ref a) (.int i) H Q := ⟨a, xs, i, v, rfl, rfl, h, e, q⟩
theorem st_sl {r : V → Option Int → Option Int → Hp → VK → Prop} {tl th : TO} (q : te σ H fun x H1 => tl σ H1 fun l H2 => th σ H2 fun u H3 => r x l u H3 Q) : tSl r te tl th σ H Q := q
theorem st_part {QO : Option Int → Hp → Prop} (q : te σ H fun x H1 => ∃ i, x = .int i ∧ QO (some i) H1) : tPart te σ H QO := q
theorem st_int {P : Int → Prop} (q : P i) : ∃ k, V.int i = .int k ∧ P k := ⟨i, rfl, q⟩
theorem st_slL {lo hi : Option Int} (h : SqL K H a xs) (q : ∀ p, H p = none → Q (.ref p) (upd H p (.lst (cutV xs lo hi)))) : rSlL K (.ref a) lo hi H Q := ⟨a, xs, rfl, h, q⟩
theorem st_inL {n : Bool} (h : SqL K H a xs) (f : flatV x = true) (g : xs.all flatV = true) (q : Q (.bl (if n then !inV x xs else inV x xs)) H) : rIn K n x (.ref a) H Q := ⟨a, xs, rfl, .inl h, f, g, q⟩
theorem st_inT {n : Bool} (h : SqT K H a xs) (f : flatV x = true) (g : xs.all flatV = true) (q : Q (.bl (if n then !inV x xs else inV x xs)) H) : rIn K n x (.ref a) H Q := ⟨a, xs, rfl, .inr h, f, g, q⟩
theorem st_bm {T : String} {r : V → List V → Hp → VK → Prop} {t : TA} (q : te σ H fun x H1 => tyV K T x H1 ∧ t σ H1 fun xs H2 => r x xs H2 Q) : tBM K T r te t σ H Q := q
theorem st_append (h : H a = some (.lst xs)) (l : xs.length < sizeLine) (q : Q .non (upd H a (.lst (xs ++ [v])))) : rAppend (.ref a) [v] H Q := ⟨a, xs, v, rfl, rfl, h, l, q⟩
theorem st_extend {b : Addr} (h : H a = some (.lst xs)) (h' : H b = some (.lst ys)) (l : xs.length + ys.length ≤ sizeLine) (q : Q .non (upd H a (.lst (xs ++ ys)))) : rExtend (.ref a) [.ref b] H Q := ⟨a, b, xs, ys, rfl, rfl, h, h', l, q⟩
theorem st_cat {b : Addr} (h : H a = some (.lst xs)) (h' : H b = some (.lst ys)) (l : xs.length + ys.length ≤ sizeLine) (q : ∀ p, H p = none → Q (.ref p) (upd H p (.lst (xs ++ ys)))) : rCat (.ref a) (.ref b) H Q := ⟨a, b, xs, ys, rfl, rfl, h, h', l, q⟩
theorem st_fld {f : Str} (q : ta σ H fun x H1 => ∃ a C dx fs v, x = .ref a ∧ H1 a = some (.ins C dx fs) ∧ Cls K C ∧ NoAttr K C f ∧ fs.lookup f = some v ∧ Q v H1) : tFld K ta f σ H Q := q
theorem st_ins {f : Str} {C dx : Addr} {fs : List (Str × V)} {P : V → Prop} (h : H a = some (.ins C dx fs)) (hc : Cls K C) (hn : NoAttr K C f) (hl : fs.lookup f = some v) (q : P v) :
    ∃ a' C dx fs v, V.ref a = .ref a' ∧ H a' = some (.ins C dx fs) ∧ Cls K C ∧ NoAttr K C f ∧ fs.lookup f = some v ∧ P v := ⟨a, C, dx, fs, v, rfl, h, hc, hn, hl, q⟩
theorem st_seq (q : t { D with nx := u D } σ H) : tSeq t u D σ H := q
theorem st_next (q : D.nx σ H) : tNext D σ H := q
theorem st_ret (q : te σ H D.rt) : tRet te D σ H := q
theorem st_drop (q : te σ H fun _ H1 => D.nx σ H1) : tDrop te D σ H := q
theorem st_if (q : c σ H fun b H1 => if b = true then t D σ H1 else u D σ H1) : tIfS c t u D σ H := q
theorem st_asg {g : TG} (q : te σ H fun x H1 => g x σ H1 D.nx) : tAsg te g D σ H := q
theorem st_gname {n : Nat} {QS : St → Hp → Prop} (q : QS (σ.set n (some v)) H) : gName n v σ H QS := q
theorem st_dput {td ty tv : TE} (q : tv σ H fun v H1 => td σ H1 fun x H2 => ty σ H2 fun y H3 => ∃ a H4, x = .ref a ∧ DPut H3 a y v H4 ∧ D.nx σ H4) : sDPut td ty tv D σ H := q
theorem st_dputK {kvs : List (Key × V)} {k : Int} {P : Hp → Prop} (h : H a = some (.dK kvs)) (l : kvs.length < sizeLine) (q : P (upd H a (.dK (putK kvs (Sum.inl k) v)))) :
    ∃ a' H4, V.ref a = .ref a' ∧ DPut H a' (.int k) v H4 ∧ P H4 := ⟨a, _, rfl, DPut.k (k := Sum.inl k) h l, q⟩
theorem st_dget2 {td ty tx : TE} (q : td σ H fun x H1 => ∃ a, x = .ref a ∧ IsD H1 a ∧ ty σ H1 fun y H2 => tx σ H2 fun z H3 => ∃ o, DGet H3 a y o ∧ Q (o.getD z) H3) : tDGet2 td ty tx σ H Q := q
theorem st_isD {kvs : List (Key × V)} {P : Addr → Prop} (h : H a = some (.dK kvs)) (q : P a) : ∃ a', V.ref a = .ref a' ∧ IsD H a' ∧ P a' := ⟨a, rfl, .inl ⟨kvs, .inl h⟩, q⟩
theorem st_dgetK {kvs : List (Key × V)} {k : Int} {P : Option V → Prop} (h : H a = some (.dK kvs)) (q : P (valV kvs (Sum.inl k))) : ∃ o, DGet H a (.int k) o ∧ P o := ⟨_, DGet.k (k := Sum.inl k) h, q⟩
theorem st_dget {td ty : TE} (q : td σ H fun x H1 => ty σ H1 fun y H2 => ∃ a v, x = .ref a ∧ DGet H2 a y (some v) ∧ Q v H2) : tDGet td ty σ H Q := q
theorem st_dsetd {td ty tx : TE} (q : td σ H fun x H1 => ∃ a, x = .ref a ∧ IsD H1 a ∧ ty σ H1 fun y H2 => tx σ H2 fun z H3 => ∃ kvs k, H3 a = some (.dK kvs) ∧ y = kV k ∧ kvs.length < sizeLine ∧
  (∀ v, valV kvs k = some v → Q v H3) ∧ (valV kvs k = none → Q z (upd H3 a (.dK (putK kvs k z))))) : tDSetD td ty tx σ H Q := q
theorem st_sz {n : Nat} {P : Prop} (h : Nat.ble n 1000 = true) (q : P) : n ≤ sizeLine ∧ P := ⟨Nat.le_of_lt (small1000 (Nat.le_of_ble_eq_true h)), q⟩
theorem st_all {P : Addr → Prop} (q : ∀ p, H p = none → P p) : ∀ p, H p = none → P p := q
theorem st_for {wi : TI} {g : TG} {tb : TS} (q : wi σ H fun J H1 => ∃ W : Nat → Nat → St → Hp → Prop, (∃ m, W 0 m σ H1) ∧ ∀ i m σ H, W i m σ H →
  (J.stop i H ∧ D.nx σ H) ∨ (J.go i H ∧ ∃ N : St → Hp → Prop, (∀ σ' H', N σ' H' → ∃ m', m' < m ∧ W (i + 1) m' σ' H') ∧ ∀ x H', J.yld i H x H' → g x σ H' fun σ2 H2 => tb { D with nx := N, ct := N, bk := D.nx } σ2 H2)) : tFor wi g tb D σ H := q
theorem st_iList {R : It → Hp → Prop} (q : te σ H fun x H1 => ∃ a, x = .ref a ∧ (∃ xs, SqL K H1 a xs) ∧ R (Itl K a) H1) : iList K te σ H R := q
theorem st_itl {P : Addr → Prop} (h : SqL K H a xs) (q : P a) : ∃ a', V.ref a = .ref a' ∧ (∃ xs, SqL K H a' xs) ∧ P a' := ⟨a, rfl, ⟨xs, h⟩, q⟩
theorem st_iRng {R : It → Hp → Prop} {t : TA} (q : t σ H fun vs H1 => ∃ j : Int, vs = [.int j] ∧ -(2 ^ 62) ≤ j ∧ j < 2 ^ 62 ∧ R (Itr 0 j.toNat) H1) : iRng1 t σ H R := q
theorem st_itr {P : Int → Prop} {n : Nat} (h : n ≤ 1000000) (q : P (n : Int)) : ∃ j : Int, [V.int (n : Int)] = [.int j] ∧ -(2 ^ 62) ≤ j ∧ j < 2 ^ 62 ∧ P j := ⟨n, rfl, by omega, by omega, q⟩
theorem st_lc {wi : TI} {g : TG} {ti : TT} {pick : List (Option Nat)} (q : wi σ H fun J H1 => ∀ p, H1 p = none → LcInv J g ti te (picked pick σ) H1 Q p) : tLC wi g ti te pick σ H Q := q
theorem st_noIf (q : QB true H) : tNoIf σ H QB := q
theorem st_meth {C : Addr} {m : Str} {sp : Sp} {dvs : List V} {E : XK} {t : TA} (q : ta σ H fun x H1 => ∃ a dx fs, x = .ref a ∧ H1 a = some (.ins C dx fs) ∧ fs.lookup m = none ∧ t σ H1 fun vs H2 => sp (x :: (vs ++ dvs)) H2 Q E) : tMeth C m sp dvs E ta t σ H Q := q
theorem st_insM {C dx : Addr} {fs : List (Str × V)} {m : Str} {P : Prop} (h : H a = some (.ins C dx fs)) (hl : fs.lookup m = none) (q : P) : ∃ a' dx fs, V.ref a = .ref a' ∧ H a' = some (.ins C dx fs) ∧ fs.lookup m = none ∧ P := ⟨a, dx, fs, rfl, h, hl, q⟩
theorem st_sfld {tv : TE} {f : Str} (q : tv σ H fun y H1 => ta σ H1 fun x H2 => ∃ a C dx fs, x = .ref a ∧ H2 a = some (.ins C dx fs) ∧ Cls K C ∧ NoAttr K C f ∧ fs.length < 1000 ∧ D.nx σ (upd H2 a (.ins C dx (putF f y fs)))) : sFld K ta tv f D σ H := q
theorem st_make {C : Addr} {sp : Sp} {dvs : List V} {E : XK} {t : TA} (q : t σ H fun vs H1 => ∀ x dx, H1 x = none → H1 dx = none → dx ≠ x → sp (.ref x :: (vs ++ dvs)) (upd (upd H1 dx (.own x)) x (.ins C dx [])) (fun v H2 => v = .non ∧ Q (.ref x) H2) E) : tMake C sp dvs E t σ H Q := q
theorem upd_at {H : Hp} {a b : Addr} {o u : HO} (h : b ≠ a) (e : H b = some u) : upd H a o b = some u := by rw [upd_ne h]; exact e
theorem Same.at {H H' : Hp} {b : Addr} {u : HO} (s : Same H H') (e : H b = some u) : H' b = some u := s b u e
theorem sqL {H : Hp} (h : H a = some (.lst xs)) : SqL K H a xs := .inl (.inl h)
theorem sqLr {H : Hp} (h : Rd H a (.lst xs)) : SqL K H a xs := .inl h
theorem sqT {H : Hp} (h : H a = some (.tup xs)) : SqT K H a xs := .inl (.inl h)
theorem sqTr {H : Hp} (h : Rd H a (.tup xs)) : SqT K H a xs := .inl h
theorem Rd.upd {H : Hp} {a b : Addr} {o u : HO} (h : b ≠ a) (r : Rd H b u) : Rd (L2.upd H a o) b u := r.elim (fun e => .inl (upd_at h e)) fun ⟨q, e⟩ => .inr ⟨q, upd_at h e⟩
theorem Rd.same {H H' : Hp} {b : Addr} {u : HO} (s : Same H H') (r : Rd H b u) : Rd H' b u := r.elim (fun e => .inl (s _ _ e)) fun ⟨q, e⟩ => .inr ⟨q, s _ _ e⟩
theorem Rd.ne_none {H : Hp} {a b : Addr} {u : HO} (r : Rd H a u) (h : H b = none) : a ≠ b := by obtain ⟨o, e⟩ := r.some; exact ne_of_none e h
theorem ne_new {H : Hp} {a b : Addr} {o : HO} (h' : H b = none) (h : H a = some o) : a ≠ b := ne_of_none h h'
theorem ne_newR {H : Hp} {a b : Addr} {u : HO} (h' : H b = none) (r : Rd H a u) : a ≠ b := r.ne_none h'
theorem Same.put {H0 H : Hp} {o : HO} (s : Same H0 H) (hp : H0 p = none) : Same H0 (L2.upd H p o) := fun b u e => upd_at (ne_of_none e hp) (s b u e)
theorem same_of {H H' : Hp} {o : HO} (hp : H p = none) (e : L2.upd H p o = H') : Same H H' := e ▸ Same.new hp
theorem at_of {H H' : Hp} {o : HO} (e : L2.upd H p o = H') : H' p = some o := e ▸ upd_same
theorem mulR {i j : Int} (h : -(2 ^ 64) < j ∧ j < 2 ^ 64) : CMul i j := .inr h
theorem divR {i j : Int} (h : 0 < j ∧ j < 1073741824) : CDiv i j := h
theorem flat_strs (xs : List Str) : (xs.map V.str).all flatV = true := by rw [List.all_map]; exact List.all_eq_true.mpr fun _ _ => rfl
theorem flat_ints (xs : List Int) : (xs.map V.int).all flatV = true := by rw [List.all_map]; exact List.all_eq_true.mpr fun _ _ => rfl
end
end L2
set_option Elab.async false
set_option linter.all false
set_option maxRecDepth 100000
set_option maxHeartbeats 4000000
namespace Oh
open PySem L2
abbrev Line := Str × Int
def wordsOf (b : List Line) (n : Int) : List Str := (b.filter fun l => decide (l.2 = n)).map (·.1)
def voteIn (b : List Line) (n : Int) : Option Str := (wordsOf b n).find? fun w => decide (w = "open" ∨ w = "yes" ∨ w = "no")
def decisionIn (b : List Line) (n : Int) : Option Str := if ("bound" : Str) ∈ wordsOf b n then some ("bound" : Str) else if ("off" : Str) ∈ wordsOf b n ∨ ("no" : Str) ∈ wordsOf b n then some ("off" : Str) else none
def unsure (b : List Line) (n : Int) : Bool := decide (voteIn b n = some ("yes" : Str)) && decide (decisionIn b n = none)
def leftOpen (b : List Line) : List Int := (b.filter fun l => decide (l.1 = ("open" : Str)) && decide (decisionIn b l.2 = none)).map (·.2)
def lineD (l : Line) : PyData := .tuple [.str l.1, .int l.2]
def bookD (b : List Line) : PyData := .list (b.map lineD)
def optV : Option Str → V
  | none => .non
  | some x => .str x
def OkB (b : List Line) : Prop := ∀ l ∈ b, PyData.strOk l.1 = true
theorem wordsOf_snoc (b : List Line) (l : Line) (n : Int) : wordsOf (b ++ [l]) n = if l.2 = n then wordsOf b n ++ [l.1] else wordsOf b n := by
  unfold wordsOf
  rw [List.filter_append, List.map_append, List.filter_cons, List.filter_nil]
  by_cases e : l.2 = n
  · simp [e]
  · simp [e]
theorem take_snoc {α : Type} {b : List α} {i : Nat} {l : α} (h : b[i]? = some l) : b.take (i + 1) = b.take i ++ [l] := by rw [List.take_add_one, h]; rfl
theorem wordsOf_len (b : List Line) (n : Int) : (wordsOf b n).length ≤ b.length := by
  unfold wordsOf; rw [List.length_map]; exact List.length_filter_le _ _
theorem line_at {H : Hp} {S : List Addr} {b : List Line} {xs : List V} {i : Nat} {x : V} (rs : Reps H S xs (b.map lineD)) (hx : xs[i]? = some x) :
    ∃ l t, b[i]? = some l ∧ x = .ref t ∧ Rd H t (.tup [.str l.1, .int l.2]) := by
  obtain ⟨d, hd, rx⟩ := rs.get hx
  rw [List.getElem?_map] at hd
  cases hb : b[i]? with
  | none => rw [hb] at hd; cases hd
  | some l =>
    rw [hb] at hd
    have e : lineD l = d := Option.some.inj hd
    subst e
    obtain ⟨t, ys, rfl, rt, rs'⟩ := rx.tup_inv
    obtain ⟨y1, r1, rfl, h1, t1⟩ := rs'.cons_inv
    obtain ⟨y2, r2, rfl, h2, t2⟩ := t1.cons_inv
    cases t2.nil_inv
    rw [h1.str_inv, h2.int_inv] at rt
    exact ⟨l, t, rfl, rfl, rt⟩
theorem len_small {n : Nat} (h : n ≤ 1000000) : n < sizeLine := Nat.lt_of_le_of_lt h (by decide)
theorem in_strs (x : Str) (ws : List Str) : inV (.str x) (ws.map .str) = decide (x ∈ ws) := by
  unfold inV
  rw [List.any_map]
  induction ws with
  | nil => rfl
  | cons w r ih =>
    rw [List.any_cons, ih]
    show ((w == x) || decide (x ∈ r)) = decide (x ∈ w :: r)
    by_cases e : x = w
    · subst e; simp
    · have e' : ¬ w = x := fun z => e z.symm
      simp [e, e']
def zR0v (K : PySem.W.Frag)  : TS :=
    (tRet (tLC (iList K (tVar 0)) (gName 0) (tTest (tOp rEq (tOp (rIxT K) (tVar 0) (tC (.int 1))) (tVar 1))) (tOp (rIxT K) (tVar 0) (tC (.int 0))) [none, some 1]))
def zR11 (K : PySem.W.Frag) (zsp0v : Sp) : TS :=
    (tRet (tOp rGtI (tCB (rLenQ K) (tCons (tCall zsp0v [] E0 (tCons (tVar 0) (tCons (tVar 1) tNil))) tNil)) (tC (.int 0))))
def zR0x (K : PySem.W.Frag) (zsp0v : Sp) : TS :=
    (tSeq (tFor (iList K (tCall zsp0v [] E0 (tCons (tVar 0) (tCons (tVar 1) tNil)))) (gName 2)
    (tIfS (tTest (tOp (rIn K false) (tVar 2) (tTup (tCons (tC (.str "open")) (tCons (tC (.str "yes")) (tCons (tC (.str "no")) tNil))))))
    (tRet (tVar 2))
    tNext))
    (tRet (tC .non)))
def zR0h (K : PySem.W.Frag) (zsp0v : Sp) : TS :=
    (tSeq (tAsg (tCall zsp0v [] E0 (tCons (tVar 0) (tCons (tVar 1) tNil))) (gName 2))
    (tSeq (tIfS (tTest (tOp (rIn K false) (tC (.str "bound")) (tVar 2)))
    (tRet (tC (.str "bound")))
    tNext)
    (tSeq (tIfS (tOr (tTest (tOp (rIn K false) (tC (.str "off")) (tVar 2))) (tTest (tOp (rIn K false) (tC (.str "no")) (tVar 2))))
    (tRet (tC (.str "off")))
    tNext)
    (tRet (tC .non)))))
def zR0q (K : PySem.W.Frag) (zsp0x : Sp) (zsp0h : Sp) : TS :=
    (tRet (tAndV (tOp rEq (tCall zsp0x [] E0 (tCons (tVar 0) (tCons (tVar 1) tNil))) (tC (.str "yes"))) (tIsN (tCall zsp0h [] E0 (tCons (tVar 0) (tCons (tVar 1) tNil))))))
def zR0t (K : PySem.W.Frag) (zsp0h : Sp) : TS :=
    (tRet (tLC (iList K (tVar 0)) (gName 0) (tAnd (tTest (tOp rEq (tOp (rIxT K) (tVar 0) (tC (.int 0))) (tC (.str "open")))) (tB (tIsN (tCall zsp0h [] E0 (tCons (tVar 1) (tCons (tOp (rIxT K) (tVar 0) (tC (.int 1))) tNil)))))) (tOp (rIxT K) (tVar 0) (tC (.int 1))) [none, some 0]))
local macro_rules | `(tactic| walk_at "ne") => `(tactic| first | assumption | (refine' Ne.symm ?k1; (case k1 => assumption)) | (refine' ne_new ?k1 ?k2; (case k1 => assumption); (case k2 => walk_at "hl")) | (refine' ne_newR ?k1 ?k2; (case k1 => assumption); (case k2 => walk_at "rd")) | (refine' Ne.symm (ne_new ?k1 ?k2); (case k1 => assumption); (case k2 => walk_at "hl")) | (refine' Ne.symm (ne_newR ?k1 ?k2); (case k1 => assumption); (case k2 => walk_at "rd")))
local macro_rules | `(tactic| walk_at "hl") => `(tactic| with_reducible first | assumption | exact upd_same | (refine' upd_at ?k1 ?k2; (case k1 => walk_at "ne"); (case k2 => walk_at "hl")) | (refine' Same.at ?k1 ?k2; (case k1 => assumption); (case k2 => walk_at "hl")))
local macro_rules | `(tactic| walk_at "rd") => `(tactic| with_reducible first | assumption | (refine' Rd.of ?k1; (case k1 => walk_at "hl")) | (refine' Rd.upd ?k1 ?k2; (case k1 => walk_at "ne"); (case k2 => walk_at "rd")) | (refine' Rd.same ?k1 ?k2; (case k1 => assumption); (case k2 => walk_at "rd")))
local macro_rules | `(tactic| walk_at "sq") => `(tactic| with_reducible first | assumption | (refine' sqLr ?k1; (case k1 => walk_at "rd")) | (refine' sqTr ?k1; (case k1 => walk_at "rd")) | (refine' SqL.new ?k1 ?k2; (case k1 => assumption); (case k2 => walk_at "sq")) | (refine' Same.seq ?k1 ?k2; (case k1 => assumption); (case k2 => walk_at "sq")))
local macro_rules | `(tactic| walk_at "rf") => `(tactic| first | with_unfolding_all rfl | assumption)
local macro_rules | `(tactic| walk_at "fl") => `(tactic| first | with_unfolding_all rfl | exact flat_strs _ | exact flat_ints _)
local macro_rules | `(tactic| walk_at "st") => `(tactic| with_reducible first
  | refine st_seq ?_ | refine st_asg ?_ | refine st_gname ?_ | refine st_if ?_ | refine st_ret ?_ | refine st_retN ?_
  | refine st_drop ?_ | refine st_next ?_ | refine st_test ?_ | refine st_B ?_ | refine st_bl ?_ | refine st_int ?_
  | refine st_and ?_ | refine st_or ?_ | refine st_not ?_ | refine st_andV ?_ | refine st_orV ?_ | refine st_notV ?_ | refine st_ifE ?_
  | refine st_chain ?_ | refine st_op ?_ | refine st_un ?_ | refine st_isN ?_ | refine st_notN ?_
  | refine st_nil ?_ | refine st_cons ?_ | refine st_tup ?_ | refine st_lst ?_ | refine st_dnew ?_ | refine st_call ?_ | refine st_cb ?_
  | (refine' st_var ?k1 ?_; (case k1 => walk_at "rf")) | refine st_c ?_
  | refine st_rI0 ?_ | refine st_rU ?_ | (refine' st_rI ?k1 ?_; (case k1 => first | exact mulR (by decide) | exact divR (by decide) | decide | (show (0 : Int) < _; decide)))
  | (refine' st_rEq ?k1 ?_; (case k1 => walk_at "rf")) | (refine' st_rNe ?k1 ?_; (case k1 => walk_at "rf"))
  | (refine' st_ixL ?k1 ?k2 ?_; (case k1 => walk_at "sq"); (case k2 => walk_at "rf")) | (refine' st_ixT ?k1 ?k2 ?_; (case k1 => walk_at "sq"); (case k2 => walk_at "rf"))
  | (refine' st_lenL ?k1 ?_; (case k1 => walk_at "sq")) | (refine' st_lenT ?k1 ?_; (case k1 => walk_at "sq"))
  | (refine' st_inL ?k1 ?k2 ?k3 ?_; (case k1 => walk_at "sq"); (case k2 => walk_at "rf"); (case k3 => walk_at "fl"))
  | (refine' st_inT ?k1 ?k2 ?k3 ?_; (case k1 => walk_at "sq"); (case k2 => walk_at "rf"); (case k3 => walk_at "fl"))
  | (refine' st_listL ?k1 ?_; (case k1 => walk_at "sq")) | refine st_min ?_ | refine st_intB ?_
  | refine st_sl ?_ | refine st_noPart ?_ | refine st_part ?_ | (refine' st_slL ?k1 ?_; (case k1 => walk_at "sq"))
  | refine st_meth ?_ | (refine' st_insM ?k1 ?k2 ?_; (case k1 => walk_at "hl"); (case k2 => walk_at "rf")) | refine st_sfld ?_
  | (refine' st_ins ?k1 ?k2 ?k3 ?k4 ?_; (case k1 => walk_at "hl"); (case k2 => assumption); (case k3 => assumption); (case k4 => walk_at "rf")) | (refine' st_lenD ?k1 ?_; (case k1 => walk_at "hl"))
  | refine st_bm ?_ | refine st_fld ?_ | refine st_dput ?_ | refine st_dget2 ?_ | refine st_dget ?_ | refine st_dsetd ?_
  | refine st_for ?_ | refine st_iList ?_ | (refine' st_itl ?k1 ?_; (case k1 => walk_at "sq")) | refine st_iRng ?_ | refine st_lc ?_ | refine st_noIf ?_
  | (refine' st_sz ?k1 ?_; (case k1 => with_unfolding_all rfl))
  | (refine' st_isD ?k1 ?_; (case k1 => walk_at "hl")) | (refine' st_dgetK ?k1 ?_; (case k1 => walk_at "hl")))
local macro_rules | `(tactic| walk_at "go") => `(tactic| repeat walk_at "st")
local macro_rules | `(tactic| walk_at "new") => `(tactic| ((with_reducible refine st_all ?_); intro p hp; generalize hH : upd _ p _ = H'; have hs := same_of hp hH; have hg := at_of hH; clear hH))
local macro_rules | `(tactic| walk_at "sm") => `(tactic| with_reducible first | assumption | exact Same.refl _ | (refine' Same.trans ?k1 ?k2; (case k2 => assumption); (case k1 => walk_at "sm")))
local macro_rules | `(tactic| walk_at "goA") => `(tactic| repeat (first | walk_at "st" | walk_at "new"))
def zsp0v : Sp := fun vs H Q _ => ∃ a b n, vs = [.ref a, .int n] ∧ Rep H [] (.ref a) (bookD b) ∧ b.length ≤ 1000000 ∧ ∀ p H', H p = none → Same H H' → H' p = some (.lst ((wordsOf b n).map .str)) → Q (.ref p) H'
theorem zrd0v {K : PySem.W.Frag} {vs : List V} {H : Hp} {Q : VK} {E : XK} (h : zsp0v vs H Q E) : zR0v K { nx := fun _ H' => Q .non H', rt := Q } (start ["book", "bargain"] vs) H := by
  obtain ⟨a, b, n, rfl, hb, hl, k⟩ := h
  obtain ⟨_, xs, e, rd, _, rs⟩ := hb.lst_inv
  cases e
  refine ⟨_, rfl, a, rfl, ⟨xs, sqLr rd⟩, fun p hp => ?_⟩
  have hxl : xs.length = b.length := by rw [rs.length, List.length_map]
  refine lc_list (K := K) (a := a) (xs := xs) (fun i ys σ H' => ∃ v, σ = [v, some (.int n)] ∧ H' = upd H p (.lst ys) ∧ ys = (wordsOf (b.take i) n).map .str) ⟨none, rfl, rfl, rfl⟩ ?_ ?_ ?_
  · rintro i ys σ H' hi hp' ⟨v, rfl, rfl, rfl⟩
    walk_at "sq"
  · rintro i x ys σ H' hx hp' ⟨v, rfl, rfl, rfl⟩
    obtain ⟨l, t, hb', rfl, rt⟩ := line_at rs hx
    walk_at "go"
    by_cases e : l.2 = n
    · rw [if_pos (by simp [e])]
      walk_at "go"
      refine ⟨_, upd_same, ?_, _, upd_same, _, rfl, upd_upd, ?_⟩
      · rw [List.length_map]
        exact len_small (Nat.le_trans (wordsOf_len _ _) (Nat.le_trans (by rw [List.length_take]; omega) hl))
      · rw [take_snoc hb', wordsOf_snoc, if_pos e, List.map_append]; rfl
    · rw [if_neg (by simp [e])]
      exact ⟨_, upd_same, _, rfl, rfl, by rw [take_snoc hb', wordsOf_snoc, if_neg e]⟩
  · rintro ys σ H' hp' ⟨v, rfl, rfl, rfl⟩
    refine k p _ hp (Same.new hp) ?_
    rw [upd_same, List.take_of_length_le (by omega)]
def zsp11 : Sp := fun vs H Q _ => ∃ a b n, vs = [.ref a, .int n] ∧ Rep H [] (.ref a) (bookD b) ∧ b.length ≤ 1000000 ∧ ∀ H', Same H H' → Q (.bl (!decide (wordsOf b n = []))) H'
theorem zrd11 {K : PySem.W.Frag} {vs : List V} {H : Hp} {Q : VK} {E : XK} (h : zsp11 vs H Q E) : zR11 K zsp0v { nx := fun _ H' => Q .non H', rt := Q } (start ["book", "bargain"] vs) H := by
  obtain ⟨a, b, n, rfl, hb, hl, k⟩ := h
  unfold zR11
  walk_at "go"
  refine ⟨a, b, n, rfl, hb, hl, fun p H' hp s hp' => ?_⟩
  walk_at "go"
  have e : decide ((0 : Int) < (((wordsOf b n).map V.str).length : Int)) = !decide (wordsOf b n = []) := by
    rw [List.length_map]
    cases wordsOf b n with
    | nil => rfl
    | cons x r => simp
  show Q (.bl (decide ((0 : Int) < (((wordsOf b n).map V.str).length : Int)))) H'
  rw [e]
  exact k H' s
def isVote (w : Str) : Bool := decide (w = "open" ∨ w = "yes" ∨ w = "no")
theorem in_votes (w : Str) : inV (.str w) [.str "open", .str "yes", .str "no"] = isVote w := by
  have := in_strs w ["open", "yes", "no"]
  simp only [List.map_cons, List.map_nil] at this
  rw [this]
  unfold isVote
  simp [List.mem_cons]
theorem find_at {α : Type} {p : α → Bool} {l : List α} {i : Nat} {x : α} (hx : l[i]? = some x) (hp : p x = true) (hn : ∀ y ∈ l.take i, p y = false) : l.find? p = some x := by
  have e : l = l.take i ++ x :: l.drop (i + 1) := by
    have hi : i < l.length := (List.getElem?_eq_some_iff.mp hx).1
    have he : l[i] = x := (List.getElem?_eq_some_iff.mp hx).2
    rw [← he, ← List.drop_eq_getElem_cons hi, List.take_append_drop]
  rw [e, List.find?_append, List.find?_eq_none.mpr (by intro y hy; rw [hn y hy]; simp), List.find?_cons, hp]
  rfl
def zsp0x : Sp := fun vs H Q _ => ∃ a b n, vs = [.ref a, .int n] ∧ Rep H [] (.ref a) (bookD b) ∧ b.length ≤ 1000000 ∧ ∀ H', Same H H' → Q (optV (voteIn b n)) H'
theorem zrd0x {K : PySem.W.Frag} {vs : List V} {H : Hp} {Q : VK} {E : XK} (h : zsp0x vs H Q E) : zR0x K zsp0v { nx := fun _ H' => Q .non H', rt := Q } (start ["book", "bargain", "word"] vs) H := by
  obtain ⟨a, b, n, rfl, hb, hl, k⟩ := h
  unfold zR0x
  walk_at "go"
  refine ⟨a, b, n, rfl, hb, hl, fun p H' hp s hp' => ?_⟩
  walk_at "go"
  refine for_list (K := K) (a := p) (xs := (wordsOf b n).map .str) (fun i σ H2 => ∃ v, σ = [some (.ref a), some (.int n), v] ∧ Same H' H2 ∧ ∀ w ∈ (wordsOf b n).take i, isVote w = false) ⟨none, rfl, Same.refl _, by simp⟩ ?_ ?_ ?_
  · rintro i σ H2 hi ⟨v, rfl, s2, hn⟩
    exact sqL (s2 _ _ hp')
  · rintro i x σ H2 hx ⟨v, rfl, s2, hn⟩
    rw [List.getElem?_map] at hx
    cases hw : (wordsOf b n)[i]? with
    | none => rw [hw] at hx; cases hx
    | some w =>
      rw [hw] at hx
      have e : V.str w = x := Option.some.inj hx
      subst e
      walk_at "goA"
      rename_i q hq H3 s3 g3
      show if (if false = true then !inV (.str w) _ else inV (.str w) _) = true then _ else _
      rw [if_neg (by decide : ¬ (false = true)), in_votes]
      cases hv : isVote w with
      | true =>
        refine iteT ?_
        walk_at "go"
        have e : voteIn b n = some w := find_at hw hv hn
        have := k H3 ((s.trans s2).trans s3)
        rw [e] at this
        exact this
      | false =>
        refine iteF ?_
        refine ⟨some (.str w), rfl, s2.trans s3, fun y hy => ?_⟩
        rw [take_snoc hw] at hy
        rcases List.mem_append.mp hy with z | z
        · exact hn y z
        · rw [List.mem_singleton.mp z]; exact hv
  · rintro σ H2 ⟨v, rfl, s2, hn⟩
    walk_at "go"
    have e : voteIn b n = none := List.find?_eq_none.mpr (by
      intro y hy
      have := hn y (by rw [List.length_map, List.take_length]; exact hy)
      unfold isVote at this
      rw [this]; simp)
    have := k H2 (s.trans s2)
    rw [e] at this
    exact this
def zsp0h : Sp := fun vs H Q _ => ∃ a b n, vs = [.ref a, .int n] ∧ Rep H [] (.ref a) (bookD b) ∧ b.length ≤ 1000000 ∧ ∀ H', Same H H' → Q (optV (decisionIn b n)) H'
theorem zrd0h {K : PySem.W.Frag} {vs : List V} {H : Hp} {Q : VK} {E : XK} (h : zsp0h vs H Q E) : zR0h K zsp0v { nx := fun _ H' => Q .non H', rt := Q } (start ["book", "bargain", "words"] vs) H := by
  obtain ⟨a, b, n, rfl, hb, hl, k⟩ := h
  unfold zR0h
  walk_at "go"
  refine ⟨a, b, n, rfl, hb, hl, fun p H' hp s hp' => ?_⟩
  have kk := k H' s
  unfold decisionIn at kk
  walk_at "go"
  show if (if false = true then !inV (.str "bound") _ else inV (.str "bound") _) = true then _ else _
  rw [if_neg (by decide : ¬ (false = true)), in_strs]
  by_cases e1 : ("bound" : Str) ∈ wordsOf b n
  · rw [if_pos (by simp [e1])]
    rw [if_pos e1] at kk
    walk_at "go"
    exact kk
  rw [if_neg (by simp [e1])]
  rw [if_neg e1] at kk
  walk_at "go"
  show if (if false = true then !inV (.str "off") _ else inV (.str "off") _) = true then _ else _
  rw [if_neg (by decide : ¬ (false = true)), in_strs]
  by_cases e2 : ("off" : Str) ∈ wordsOf b n
  · rw [if_pos (by simp [e2])]
    rw [if_pos (.inl e2)] at kk
    refine iteT ?_
    walk_at "go"
    exact kk
  rw [if_neg (by simp [e2])]
  walk_at "go"
  show if (if false = true then !inV (.str "no") _ else inV (.str "no") _) = true then _ else _
  rw [if_neg (by decide : ¬ (false = true)), in_strs]
  by_cases e3 : ("no" : Str) ∈ wordsOf b n
  · rw [if_pos (by simp [e3])]
    rw [if_pos (.inr e3)] at kk
    walk_at "go"
    exact kk
  rw [if_neg (by simp [e3])]
  rw [if_neg (by simp [e2, e3])] at kk
  walk_at "go"
  exact kk
def zsp0q : Sp := fun vs H Q _ => ∃ a b n, vs = [.ref a, .int n] ∧ Rep H [] (.ref a) (bookD b) ∧ b.length ≤ 1000000 ∧ ∀ H', Same H H' → Q (.bl (unsure b n)) H'
theorem optV_scal (o : Option Str) (x : Str) : scal (optV o) (.str x) = true := by cases o <;> rfl
theorem optV_eq (o : Option Str) (x : Str) : decide (optV o = .str x) = decide (o = some x) := by
  cases o with
  | none => simp [optV]
  | some y => simp [optV]
theorem optV_non (o : Option Str) : decide (optV o = .non) = decide (o = none) := by cases o <;> simp [optV]
theorem zrd0q {K : PySem.W.Frag} {vs : List V} {H : Hp} {Q : VK} {E : XK} (h : zsp0q vs H Q E) : zR0q K zsp0x zsp0h { nx := fun _ H' => Q .non H', rt := Q } (start ["book", "bargain"] vs) H := by
  obtain ⟨a, b, n, rfl, hb, hl, k⟩ := h
  unfold zR0q
  walk_at "go"
  refine ⟨a, b, n, rfl, hb, hl, fun H' s => ?_⟩
  walk_at "go"
  refine st_rEq (optV_scal _ _) ?_
  walk_at "go"
  rw [optV_eq]
  by_cases e : voteIn b n = some ("yes" : Str)
  · rw [if_pos (by simp [e])]
    walk_at "go"
    refine ⟨a, b, n, rfl, hb.same s, hl, fun H2 s2 => ?_⟩
    have := k H2 (s.trans s2)
    unfold unsure at this
    rw [decide_eq_true e, Bool.true_and, ← optV_non] at this
    exact this
  · rw [if_neg (by simp [e])]
    have := k H' s
    unfold unsure at this
    rw [decide_eq_false e, Bool.false_and] at this
    exact this
def zsp0t : Sp := fun vs H Q _ => ∃ a b, vs = [.ref a] ∧ Rep H [] (.ref a) (bookD b) ∧ b.length ≤ 1000000 ∧ ∀ p H', H p = none → Same H H' → H' p = some (.lst ((leftOpen b).map .int)) → Q (.ref p) H'
def openIn (b : List Line) (l : Line) : Bool := decide (l.1 = ("open" : Str)) && decide (decisionIn b l.2 = none)
theorem zrd0t {K : PySem.W.Frag} {vs : List V} {H : Hp} {Q : VK} {E : XK} (h : zsp0t vs H Q E) : zR0t K zsp0h { nx := fun _ H' => Q .non H', rt := Q } (start ["book"] vs) H := by
  obtain ⟨a, b, rfl, hb, hl, k⟩ := h
  obtain ⟨_, xs, e, rd, _, rs⟩ := id hb.lst_inv
  cases e
  have hxl : xs.length = b.length := by rw [rs.length, List.length_map]
  refine ⟨_, rfl, a, rfl, ⟨xs, sqLr rd⟩, fun p hp => ?_⟩
  refine lc_list (K := K) (a := a) (xs := xs) (fun i ys σ H' => ∃ v, σ = [v, some (.ref a)] ∧ Same H H' ∧ ys = (((b.take i).filter (openIn b)).map (·.2)).map .int) ⟨none, rfl, Same.new hp, rfl⟩ ?_ ?_ ?_
  · rintro i ys σ H' hi hp' ⟨v, rfl, s, rfl⟩
    exact s.seq (sqLr rd)
  · rintro i x ys σ H' hx hp' ⟨v, rfl, s, rfl⟩
    obtain ⟨l, t, hb', rfl, rt⟩ := line_at rs hx
    walk_at "go"
    have fin : ∀ (c : Bool), openIn b l = c → (if c = true then ((((b.take i).filter (openIn b)).map (·.2)).map V.int) ++ [V.int l.2] else (((b.take i).filter (openIn b)).map (·.2)).map V.int) = (((b.take (i + 1)).filter (openIn b)).map (·.2)).map V.int := by
      intro c hc
      rw [take_snoc hb', List.filter_append, List.filter_cons, hc]
      cases c <;> simp
    by_cases e : l.1 = ("open" : Str)
    · rw [if_pos (by simp [e])]
      walk_at "go"
      refine ⟨a, b, l.2, rfl, hb.same s, hl, fun H2 s2 => ?_⟩
      walk_at "go"
      rw [optV_non]
      have hc : openIn b l = decide (decisionIn b l.2 = none) := by unfold openIn; rw [decide_eq_true e, Bool.true_and]
      have f := fin _ hc
      by_cases e2 : decisionIn b l.2 = none
      · rw [if_pos (by simp [e2])]
        rw [if_pos (by simp [e2])] at f
        walk_at "go"
        refine ⟨_, s2 _ _ hp', ?_, _, upd_same, _, rfl, (s.trans s2).put hp, f⟩
        rw [List.length_map, List.length_map]
        exact len_small (Nat.le_trans (List.length_filter_le _ _) (Nat.le_trans (by rw [List.length_take]; omega) hl))
      · rw [if_neg (by simp [e2])]
        rw [if_neg (by simp [e2])] at f
        exact ⟨_, s2 _ _ hp', _, rfl, s.trans s2, f⟩
    · rw [if_neg (by simp [e])]
      have hc : openIn b l = false := by unfold openIn; rw [decide_eq_false e, Bool.false_and]
      have f := fin _ hc
      rw [if_neg (by decide)] at f
      refine iteF ?_
      exact ⟨_, hp', _, rfl, s, f⟩
  · rintro ys σ H' hp' ⟨v, rfl, s, rfl⟩
    refine k p _ hp s ?_
    rw [List.take_of_length_le (by omega)] at hp'
    exact hp'
def OkW (ws : List Str) : Prop := ∀ w ∈ ws, PyData.strOk w = true
def listS (ws : List Str) : PyData := .list (ws.map .str)
theorem canLay_strs {ws : List Str} (ok : OkW ws) : PyData.canLayAll0 (ws.map .str) = true := by
  induction ws with
  | nil => rfl
  | cons w r ih =>
    rw [List.map_cons, PyData.canLayAll0, PyData.canLay0, ok w (by simp), Bool.true_and]
    exact ih fun x hx => ok x (List.mem_cons_of_mem _ hx)
theorem depth_strs (ws : List Str) : PyData.depthAll (ws.map .str) ≤ 1 := by
  induction ws with
  | nil => simp [PyData.depthAll]
  | cons w r ih => rw [List.map_cons, PyData.depthAll, PyData.depth]; omega
theorem shaped_strs {ws : List Str} (ok : OkW ws) : SeqAt.shaped (listS ws) = true := by
  unfold SeqAt.shaped listS
  rw [PyData.canLay0, canLay_strs ok, Bool.true_and, PyData.depth]
  have := depth_strs ws
  exact decide_eq_true (by omega)
theorem eqv_strs : ∀ (xs ys : List Str), PyData.eqv (listS xs) (listS ys) = decide (xs = ys) := by
  intro xs ys
  unfold listS
  rw [PyData.eqv]
  induction xs generalizing ys with
  | nil => cases ys <;> simp [PyData.eqvAll]
  | cons x r ih =>
    cases ys with
    | nil => simp [PyData.eqvAll]
    | cons y s =>
      rw [List.map_cons, List.map_cons, PyData.eqvAll, PyData.eqv, ih s]
      by_cases e : x = y
      · subst e; simp
      · simp [e]
theorem rep_strs {H : Hp} {a : Addr} {ws : List Str} (h : Rd H a (.lst (ws.map .str))) : Rep H [] (.ref a) (listS ws) := .lst h (by simp) (reps_strs ws)
theorem st_eqS {H : Hp} {Q : VK} {a b : Addr} {xs ys : List Str} (h1 : Rd H a (.lst (xs.map .str))) (h2 : Rd H b (.lst (ys.map .str))) (o1 : OkW xs) (o2 : OkW ys) (q : Q (.bl (decide (xs = ys))) H) : rEqD (.ref a) (.ref b) H Q :=
  ⟨listS xs, listS ys, rep_strs h1, rep_strs h2, shaped_strs o1, shaped_strs o2, by rw [eqv_strs]; exact q⟩
theorem canLay_lines {b : List Line} (ok : OkB b) : PyData.canLayAll0 (b.map lineD) = true := by
  induction b with
  | nil => rfl
  | cons l r ih =>
    rw [List.map_cons, PyData.canLayAll0, ih fun z hz => ok z (List.mem_cons_of_mem _ hz)]
    simp [lineD, PyData.canLay0, PyData.canLayAll0, ok l (by simp)]
theorem depth_lines (b : List Line) : PyData.depthAll (b.map lineD) ≤ 3 := by
  induction b with
  | nil => simp [PyData.depthAll]
  | cons l r ih =>
    rw [List.map_cons, PyData.depthAll]
    have : PyData.depth (lineD l) ≤ 3 := by simp [lineD, PyData.depth, PyData.depthAll]
    omega
theorem shaped_book {b : List Line} (ok : OkB b) : SeqAt.shaped (bookD b) = true := by
  unfold SeqAt.shaped bookD
  rw [PyData.canLay0, canLay_lines ok, Bool.true_and, PyData.depth]
  have := depth_lines b
  exact decide_eq_true (by omega)
theorem eqv_book {b : List Line} (ok : OkB b) : PyData.eqv (bookD b) (bookD b) = true := SeqAt.eqv_refl _ (SeqAt.canLay_of_shaped (shaped_book ok))
theorem atI_mem {xs : List V} {r : Int} (h0 : 0 ≤ r) (h1 : r < xs.length) : ∃ v, v ∈ xs ∧ atI xs r = some v := by
  have hlt : r.toNat < xs.length := by omega
  refine ⟨xs[r.toNat], List.getElem_mem hlt, ?_⟩
  have := atI_nat (xs := xs) (j := r.toNat) (v := xs[r.toNat]) (by simp [hlt])
  rwa [Int.toNat_of_nonneg h0] at this
def zR0m (K : PySem.W.Frag) (zsp0c : Sp) (C_House : Addr) : TS :=
    (tSeq (sFld K (tVar 0) (tVar 1) "number")
    (tSeq (sFld K (tVar 0) (tLC (iRng1 (tCons (tVar 2) tNil)) (gName 0) (tTest (tOp rNe (tVar 0) (tVar 1))) (tVar 0) [none, some 1]) "others")
    (tSeq (sFld K (tVar 0) (tCB (rListQ K) (tCons (tVar 3) tNil)) "against")
    (tSeq (sFld K (tVar 0) (tLst tNil) "book")
    (tSeq (sFld K (tVar 0) (tC (.bl true)) "awake")
    (tDrop (tMeth C_House "forget" zsp0c [] E0 (tVar 0) tNil)))))))
def zR0c (K : PySem.W.Frag)  : TS :=
    (tSeq (sFld K (tVar 0) tDNewK "counted")
    (tSeq (sFld K (tVar 0) tDNewK "pages")
    (sFld K (tVar 0) (tC (.int 0)) "lines_read")))
def zR0g (K : PySem.W.Frag) (zsp0j : Sp) (zsp02 : Sp) (C_House : Addr) : TS :=
    (tSeq (tIfS (tTest (tOp (rIn K false) (tVar 1) (tFld K (tVar 0) "against")))
    (tSeq (tDrop (tMeth C_House "write" zsp0j [] E0 (tVar 0) (tCons (tC (.str "no")) (tCons (tVar 1) tNil))))
    (tRet (tLst tNil)))
    tNext)
    (tSeq (tDrop (tMeth C_House "write" zsp0j [] E0 (tVar 0) (tCons (tC (.str "open")) (tCons (tVar 1) tNil))))
    (tRet (tMeth C_House "to_others" zsp02 [] E0 (tVar 0) (tCons (tVar 1) (tCons (tC (.str "ask")) tNil))))))
def zR0s (K : PySem.W.Frag) (zsp09 : Sp) (zsp03 : Sp) (zsp06 : Sp) (zsp00 : Sp) (C_House : Addr) : TS :=
    (tSeq (tAsg (tOp (rIxT K) (tVar 1) (tC (.int 0))) (gName 2))
    (tSeq (tAsg (tOp (rIxT K) (tVar 1) (tC (.int 2))) (gName 3))
    (tSeq (tAsg (tOp (rIxT K) (tVar 1) (tC (.int 3))) (gName 4))
    (tSeq (tIfS (tTest (tOp rEq (tVar 4) (tC (.str "ask"))))
    (tRet (tMeth C_House "got_ask" zsp09 [] E0 (tVar 0) (tCons (tVar 2) (tCons (tVar 3) tNil))))
    tNext)
    (tSeq (tIfS (tTest (tOp rEq (tVar 4) (tC (.str "query"))))
    (tRet (tMeth C_House "got_query" zsp03 [] E0 (tVar 0) (tCons (tVar 2) (tCons (tVar 3) tNil))))
    tNext)
    (tSeq (tIfS (tTest (tOp (rIn K false) (tVar 4) (tTup (tCons (tC (.str "yes")) (tCons (tC (.str "no")) tNil)))))
    (tRet (tMeth C_House "got_vote" zsp06 [] E0 (tVar 0) (tCons (tVar 2) (tCons (tVar 3) (tCons (tVar 4) tNil)))))
    tNext)
    (tRet (tMeth C_House "got_decision" zsp00 [] E0 (tVar 0) (tCons (tVar 3) (tCons (tVar 4) tNil))))))))))
def zR0o (K : PySem.W.Frag) (zsp0c : Sp) (C_House : Addr) : TS :=
    (tSeq (sFld K (tVar 0) (tC (.bl false)) "awake")
    (tDrop (tMeth C_House "forget" zsp0c [] E0 (tVar 0) tNil)))
def zR0l (K : PySem.W.Frag) (zsp0t : Sp) (zsp0e : Sp) (C_House : Addr) : TS :=
    (tSeq (sFld K (tVar 0) (tC (.bl true)) "awake")
    (tSeq (tAsg (tCall zsp0t [] E0 (tCons (tFld K (tVar 0) "book") tNil)) (gName 1))
    (tSeq (tAsg (tLst tNil) (gName 2))
    (tSeq (tFor (iList K (tVar 1)) (gName 3)
    (tDrop (tBM K "list" rExtend (tVar 2) (tCons (tMeth C_House "decide" zsp0e [] E0 (tVar 0) (tCons (tVar 3) (tCons (tC (.str "off")) tNil))) tNil))))
    (tRet (tVar 2))))))
def zR09 (K : PySem.W.Frag) (zsp11 : Sp) (zsp0k : Sp) (zsp0j : Sp) (zsp07 : Sp) (zsp0d : Sp) (C_House : Addr) : TS :=
    (tCut (tIfS (tNot (tB (tCall zsp11 [] E0 (tCons (tMeth C_House "page" zsp0k [] E0 (tVar 0) (tCons (tVar 2) tNil)) (tCons (tVar 2) tNil)))))
    (tDrop (tMeth C_House "write" zsp0j [] E0 (tVar 0) (tCons (tIf (tTest (tOp (rIn K false) (tVar 2) (tFld K (tVar 0) "against"))) (tC (.str "no")) (tC (.str "yes"))) (tCons (tVar 2) tNil))))
    tNext)
    (tSeq (tIfS (tTest (tOp rEq (tMeth C_House "decision" zsp07 [] E0 (tVar 0) (tCons (tVar 2) tNil)) (tC (.str "off"))))
    (tRet (tMeth C_House "to_one" zsp0d [] E0 (tVar 0) (tCons (tVar 1) (tCons (tVar 2) (tCons (tC (.str "no")) tNil)))))
    tNext)
    (tRet (tMeth C_House "to_one" zsp0d [] E0 (tVar 0) (tCons (tVar 1) (tCons (tVar 2) (tCons (tC (.str "yes")) tNil)))))))
def zR06 (K : PySem.W.Frag) (zsp07 : Sp) (zsp0d : Sp) (zsp0e : Sp) (C_House : Addr) : TS :=
    (tSeq (tAsg (tMeth C_House "decision" zsp07 [] E0 (tVar 0) (tCons (tVar 2) tNil)) (gName 4))
    (tSeq (tIfS (tB (tNotN (tVar 4)))
    (tRet (tIf (tTest (tOp rEq (tVar 3) (tC (.str "yes")))) (tMeth C_House "to_one" zsp0d [] E0 (tVar 0) (tCons (tVar 1) (tCons (tVar 2) (tCons (tVar 4) tNil)))) (tLst tNil)))
    tNext)
    (tSeq (tIfS (tTest (tOp rEq (tVar 3) (tC (.str "no"))))
    (tRet (tMeth C_House "decide" zsp0e [] E0 (tVar 0) (tCons (tVar 2) (tCons (tC (.str "off")) tNil))))
    tNext)
    (tSeq (tAsg (tDSetD (tFld K (tVar 0) "counted") (tVar 2) tDNewK) (gName 5))
    (tSeq (sDPut (tVar 5) (tVar 1) (tC (.bl true)))
    (tSeq (tIfS (tTest (tOp rLtI (tCB rLenD (tCons (tVar 5) tNil)) (tCB (rLenQ K) (tCons (tFld K (tVar 0) "others") tNil))))
    (tRet (tLst tNil))
    tNext)
    (tRet (tMeth C_House "decide" zsp0e [] E0 (tVar 0) (tCons (tVar 2) (tCons (tC (.str "bound")) tNil))))))))))
def zR00 (K : PySem.W.Frag) (zsp07 : Sp) (zsp0j : Sp) (C_House : Addr) : TS :=
    (tCut (tIfS (tB (tIsN (tMeth C_House "decision" zsp07 [] E0 (tVar 0) (tCons (tVar 1) tNil))))
    (tDrop (tMeth C_House "write" zsp0j [] E0 (tVar 0) (tCons (tVar 2) (tCons (tVar 1) tNil))))
    tNext)
    (tRet (tLst tNil)))
def zR03 (K : PySem.W.Frag) (zsp0q : Sp) (zsp11 : Sp) (zsp0k : Sp) (zsp07 : Sp) (zsp0d : Sp) (zsp0e : Sp) (zsp0j : Sp) (C_House : Addr) : TS :=
    (tSeq (tIfS (tB (tCall zsp0q [] E0 (tCons (tMeth C_House "page" zsp0k [] E0 (tVar 0) (tCons (tVar 2) tNil)) (tCons (tVar 2) tNil))))
    (tRet (tLst tNil))
    tNext)
    (tSeq (tAsg (tMeth C_House "decision" zsp07 [] E0 (tVar 0) (tCons (tVar 2) tNil)) (gName 3))
    (tSeq (tIfS (tB (tNotN (tVar 3)))
    (tRet (tMeth C_House "to_one" zsp0d [] E0 (tVar 0) (tCons (tVar 1) (tCons (tVar 2) (tCons (tVar 3) tNil)))))
    tNext)
    (tSeq (tIfS (tB (tCall zsp11 [] E0 (tCons (tMeth C_House "page" zsp0k [] E0 (tVar 0) (tCons (tVar 2) tNil)) (tCons (tVar 2) tNil))))
    (tRet (tMeth C_House "decide" zsp0e [] E0 (tVar 0) (tCons (tVar 2) (tCons (tC (.str "off")) tNil))))
    tNext)
    (tSeq (tDrop (tMeth C_House "write" zsp0j [] E0 (tVar 0) (tCons (tC (.str "no")) (tCons (tVar 2) tNil))))
    (tRet (tMeth C_House "to_one" zsp0d [] E0 (tVar 0) (tCons (tVar 1) (tCons (tVar 2) (tCons (tC (.str "off")) tNil))))))))))
def zR0e (K : PySem.W.Frag) (zsp0j : Sp) (zsp02 : Sp) (C_House : Addr) : TS :=
    (tSeq (tDrop (tMeth C_House "write" zsp0j [] E0 (tVar 0) (tCons (tVar 2) (tCons (tVar 1) tNil))))
    (tRet (tMeth C_House "to_others" zsp02 [] E0 (tVar 0) (tCons (tVar 1) (tCons (tVar 2) tNil)))))
def zR07 (K : PySem.W.Frag) (zsp0h : Sp) (zsp0k : Sp) (C_House : Addr) : TS :=
    (tRet (tCall zsp0h [] E0 (tCons (tMeth C_House "page" zsp0k [] E0 (tVar 0) (tCons (tVar 1) tNil)) (tCons (tVar 1) tNil))))
def zR0k (K : PySem.W.Frag)  : TS :=
    (tSeq (tWhile (tTest (tOp rLtI (tFld K (tVar 0) "lines_read") (tCB (rLenQ K) (tCons (tFld K (tVar 0) "book") tNil))))
    (tSeq (tAsg (tOp (rIxL K) (tFld K (tVar 0) "book") (tFld K (tVar 0) "lines_read")) (gName 2))
    (tSeq (tDrop (tBM K "list" rAppend (tDSetD (tFld K (tVar 0) "pages") (tOp (rIxT K) (tVar 2) (tC (.int 1))) (tLst tNil)) (tCons (tVar 2) tNil)))
    (sFldAug K (tVar 0) (tC (.int 1)) rAdd "lines_read"))))
    (tRet (tDGet2 (tFld K (tVar 0) "pages") (tVar 1) (tLst tNil))))
def zR0j (K : PySem.W.Frag)  : TS :=
    (tDrop (tBM K "list" rAppend (tFld K (tVar 0) "book") (tCons (tTup (tCons (tVar 1) (tCons (tVar 2) tNil))) tNil)))
def zR0d (K : PySem.W.Frag)  : TS :=
    (tRet (tLst (tCons (tTup (tCons (tFld K (tVar 0) "number") (tCons (tVar 1) (tCons (tVar 2) (tCons (tVar 3) tNil))))) tNil)))
def zR02 (K : PySem.W.Frag)  : TS :=
    (tRet (tLC (iList K (tFld K (tVar 0) "others")) (gName 0) tNoIf (tTup (tCons (tFld K (tVar 3) "number") (tCons (tVar 0) (tCons (tVar 1) (tCons (tVar 2) tNil))))) [none, some 1, some 2, some 0]))
def zR0w (K : PySem.W.Frag) (zsp0s : Sp) (C_House : Addr) : TS :=
    (tRet (tLC (iList K (tVar 1)) (gName 0) tNoIf (tMeth C_House "got" zsp0s [] E0 (tVar 1) (tCons (tVar 0) tNil)) [none, some 0]))
structure HouseTxt (K : PySem.W.Frag) (C : Addr) : Prop where
  cl : Cls K C
  f1 : NoAttr K C "number"
  f2 : NoAttr K C "others"
  f3 : NoAttr K C "against"
  f4 : NoAttr K C "book"
  f5 : NoAttr K C "awake"
  f6 : NoAttr K C "counted"
  f7 : NoAttr K C "pages"
  f8 : NoAttr K C "lines_read"
structure HS where
  num : Int
  oth : List Int
  agn : List Int
  book : List Line
  up : Bool
  cnt : Int → List Int
abbrev Letter := Int × Int × Int × Str
def letterD (l : Letter) : PyData := .tuple [.int l.1, .int l.2.1, .int l.2.2.1, .str l.2.2.2]
def lettersD (ls : List Letter) : PyData := .list (ls.map letterD)
def HS.wr (h : HS) (w : Str) (n : Int) : HS := { h with book := h.book ++ [(w, n)] }
def HS.toOthers (h : HS) (n : Int) (w : Str) : List Letter := h.oth.map fun k => (h.num, k, n, w)
def HS.begin (h : HS) (n : Int) : HS × List Letter := if n ∈ h.agn then (h.wr "no" n, []) else (h.wr "open" n, h.toOthers n "ask")
def HS.decide (h : HS) (n : Int) (w : Str) : HS × List Letter := (h.wr w n, h.toOthers n w)
def HS.asked (h : HS) (n : Int) : HS := if wordsOf h.book n = [] then h.wr (if n ∈ h.agn then "no" else "yes") n else h
def HS.gotAsk (h : HS) (g n : Int) : HS × List Letter := (h.asked n, [(h.num, g, n, if decisionIn (h.asked n).book n = some ("off" : Str) then "no" else "yes")])
def addG (g : Int) (gs : List Int) : List Int := if g ∈ gs then gs else gs ++ [g]
def HS.count (h : HS) (g n : Int) : HS := { h with cnt := fun m => if m = n then addG g (h.cnt n) else h.cnt m }
def HS.gotVote (h : HS) (g n : Int) (w : Str) : HS × List Letter :=
  match decisionIn h.book n with
  | some d => (h, if w = "yes" then [(h.num, g, n, d)] else [])
  | none => if w = "no" then h.decide n "off" else if (addG g (h.cnt n)).length < h.oth.length then (h.count g n, []) else (h.count g n).decide n "bound"
def HS.gotDecision (h : HS) (n : Int) (w : Str) : HS × List Letter := (if decisionIn h.book n = none then h.wr w n else h, [])
def HS.gotQuery (h : HS) (g n : Int) : HS × List Letter :=
  if unsure h.book n = true then (h, []) else match decisionIn h.book n with
  | some d => (h, [(h.num, g, n, d)])
  | none => if wordsOf h.book n = [] then (h.wr "no" n, [(h.num, g, n, "off")]) else h.decide n "off"
def HS.got (h : HS) (l : Letter) : HS × List Letter :=
  if l.2.2.2 = "ask" then h.gotAsk l.1 l.2.2.1 else if l.2.2.2 = "query" then h.gotQuery l.1 l.2.2.1 else if l.2.2.2 = "yes" ∨ l.2.2.2 = "no" then h.gotVote l.1 l.2.2.1 l.2.2.2 else h.gotDecision l.2.2.1 l.2.2.2
def HS.stop (h : HS) : HS := { h with up := false, cnt := fun _ => [] }
def HS.offAll (h : HS) : List Int → HS × List Letter
  | [] => (h, [])
  | n :: r => let q := (h.decide n "off").1.offAll r; (q.1, (h.decide n "off").2 ++ q.2)
def HS.wake (h : HS) : HS × List Letter := { h with up := true : HS }.offAll (leftOpen h.book)
def HS.gotAll (h : HS) : List Letter → HS × List (List Letter)
  | [] => (h, [])
  | l :: r => let q := (h.got l).1.gotAll r; (q.1, (h.got l).2 :: q.2)
def gv (g : Int) : Key × V := (Sum.inl g, V.bl true)
structure CntAt (H : Hp) (kvs : List (Key × V)) (cnt : Int → List Int) (R : List Addr) (pc pp : Addr) : Prop where
  no : ∀ n, valV kvs (Sum.inl n : Key) = none → cnt n = []
  yes : ∀ n v, valV kvs (Sum.inl n : Key) = some v → ∃ q, v = .ref q ∧ H q = some (.dK ((cnt n).map gv)) ∧ q ∈ R ∧ q ≠ pc ∧ q ≠ pp
  inj : ∀ n m q, valV kvs (Sum.inl n : Key) = some (.ref q) → valV kvs (Sum.inl m : Key) = some (.ref q) → n = m
def pageOf (b : List Line) (n : Int) : List Line := b.filter fun l => decide (l.2 = n)
theorem pageOf_words (b : List Line) (n : Int) : wordsOf (pageOf b n) n = wordsOf b n := by
  unfold wordsOf pageOf
  rw [List.filter_filter]
  simp
theorem pageOf_dec (b : List Line) (n : Int) : decisionIn (pageOf b n) n = decisionIn b n := by unfold decisionIn; rw [pageOf_words]
theorem pageOf_unsure (b : List Line) (n : Int) : unsure (pageOf b n) n = unsure b n := by unfold unsure voteIn; rw [pageOf_dec, pageOf_words]
theorem pageOf_snoc (b : List Line) (l : Line) (n : Int) : pageOf (b ++ [l]) n = if l.2 = n then pageOf b n ++ [l] else pageOf b n := by
  unfold pageOf
  rw [List.filter_append]
  by_cases e : l.2 = n <;> simp [e]
theorem pageOf_len (b : List Line) (n : Int) : (pageOf b n).length ≤ b.length := List.length_filter_le _ _
structure PagAt (H : Hp) (pvs : List (Key × V)) (b : List Line) (R : List Addr) (po pa pk : Addr) : Prop where
  no : ∀ n, valV pvs (Sum.inl n : Key) = none → pageOf b n = []
  yes : ∀ n v, valV pvs (Sum.inl n : Key) = some v → ∃ q xs, v = .ref q ∧ H q = some (.lst xs) ∧ Reps H [] xs ((pageOf b n).map lineD) ∧ q ∈ R ∧ q ≠ po ∧ q ≠ pa ∧ q ≠ pk
  inj : ∀ n m q, valV pvs (Sum.inl n : Key) = some (.ref q) → valV pvs (Sum.inl m : Key) = some (.ref q) → n = m
theorem PagAt.keep {H H' : Hp} {pvs : List (Key × V)} {b : List Line} {R R' : List Addr} {po pa pk : Addr} (P : PagAt H pvs b R po pa pk) (sub : ∀ a ∈ R, a ∈ R') (kp : ∀ q xs, H q = some (.lst xs) → q ∈ R → q ≠ po → q ≠ pa → q ≠ pk → H' q = some (.lst xs))
    (ch : ∀ (b : List Line) xs, Reps H [] xs (b.map lineD) → Reps H' [] xs (b.map lineD)) : PagAt H' pvs b R' po pa pk :=
  ⟨P.no, fun n v hv => by obtain ⟨q, xs, e, h1, h2, h3, h4, h5, h6⟩ := P.yes n v hv; exact ⟨q, xs, e, kp _ _ h1 h3 h4 h5 h6, ch _ _ h2, sub _ h3, h4, h5, h6⟩, P.inj⟩
structure Pg where
  kvs : List (Key × V)
  pp : Addr
  nr : Nat
  pvs : List (Key × V)
def hfs (num : Int) (po pa pk : Addr) (up : Bool) (pc pp : Addr) (nr : Nat) : List (Str × V) := [("number", .int num), ("others", .ref po), ("against", .ref pa), ("book", .ref pk), ("awake", .bl up), ("counted", .ref pc), ("pages", .ref pp), ("lines_read", .int nr)]
structure HouseI0 (C : Addr) (H : Hp) (p : Addr) (h : HS) (R : List Addr) (N : Nat) (dx po pa pk pc : Addr) (xs : List V) (z : Pg) : Prop where
  ob : H p = some (.ins C dx (hfs h.num po pa pk h.up pc z.pp z.nr))
  ot : H po = some (.lst (h.oth.map .int))
  ag : H pa = some (.lst (h.agn.map .int))
  bk : H pk = some (.lst xs)
  bs : Reps H [] xs (h.book.map lineD)
  cn : H pc = some (.dK z.kvs)
  ct : CntAt H z.kvs h.cnt R pc z.pp
  pg : H z.pp = some (.dK z.pvs)
  pt : PagAt H z.pvs (h.book.take z.nr) R po pa pk
  n1 : po ≠ pk
  n2 : pa ≠ pk
  n3 : pc ≠ z.pp
  m1 : p ∈ R
  m2 : po ∈ R
  m3 : pa ∈ R
  m4 : pk ∈ R
  m5 : pc ∈ R
  m6 : z.pp ∈ R
  trk : ∀ a ∈ R, ∃ o, H a = some o
  l1 : h.book.length ≤ N
  l2 : z.kvs.length ≤ N
  l3 : ∀ n, (h.cnt n).length ≤ N
  l5 : z.nr ≤ h.book.length
  okb : OkB h.book
structure HouseIn (C : Addr) (H : Hp) (p : Addr) (h : HS) (R : List Addr) (N : Nat) (dx po pa pk pc : Addr) (xs : List V) (z : Pg) : Prop extends HouseI0 C H p h R N dx po pa pk pc xs z where
  l4 : z.pvs.length ≤ z.nr
def HouseAt (C : Addr) (H : Hp) (p : Addr) (h : HS) (R : List Addr) (N : Nat) : Prop := ∃ dx po pa pk pc xs z, HouseIn C H p h R N dx po pa pk pc xs z
structure Move (C p : Addr) (H : Hp) (R : List Addr) (H' : Hp) (h' : HS) (R' : List Addr) (N' : Nat) : Prop where
  at_ : HouseAt C H' p h' R' N'
  chg : Chg R H H'
  gr : Grow R H R'
  sb : ∀ a ∈ R, a ∈ R'
theorem lines_any {H : Hp} {S T : List Addr} : ∀ {b : List Line} {xs : List V}, Reps H S xs (b.map lineD) → Reps H T xs (b.map lineD)
  | [], xs, r => by rw [List.map_nil] at r ⊢; rw [r.nil_inv]; exact .nil
  | l :: b, xs, r => by
    rw [List.map_cons] at r ⊢
    obtain ⟨x, ys, rfl, h, t⟩ := r.cons_inv
    obtain ⟨a, zs, rfl, rt, rs⟩ := h.tup_inv
    obtain ⟨y1, r1, rfl, h1, t1⟩ := rs.cons_inv
    obtain ⟨y2, r2, rfl, h2, t2⟩ := t1.cons_inv
    cases t2.nil_inv
    rw [h1.str_inv, h2.int_inv] at rt
    exact .cons (.tup rt (.cons (.str _) (.cons (.int _) .nil))) (lines_any t)
theorem lines_chg {H H' : Hp} {S T : List Addr} {b : List Line} {xs : List V} (r : Reps H S xs (b.map lineD)) (c : Chg T H H') : Reps H' S xs (b.map lineD) := lines_any ((lines_any (T := T) r).chg c)
theorem Move.trans {C p : Addr} {H H1 H2 : Hp} {R R1 R2 : List Addr} {h1 h2 : HS} {N1 N2 : Nat} (a : Move C p H R H1 h1 R1 N1) (b : Move C p H1 R1 H2 h2 R2 N2) : Move C p H R H2 h2 R2 N2 :=
  ⟨b.at_, a.chg.grow a.gr b.chg, a.gr.trans a.chg b.gr, fun x hx => b.sb x (a.sb x hx)⟩
theorem HouseIn.same {C : Addr} {H H' : Hp} {p : Addr} {h : HS} {R : List Addr} {N : Nat} {dx po pa pk pc : Addr} {xs : List V} {z : Pg} (I : HouseIn C H p h R N dx po pa pk pc xs z) (s : Same H H') : HouseIn C H' p h R N dx po pa pk pc xs z :=
  { I with ob := s _ _ I.ob, ot := s _ _ I.ot, ag := s _ _ I.ag, bk := s _ _ I.bk, bs := I.bs.same s, cn := s _ _ I.cn, pg := s _ _ I.pg,
           ct := ⟨I.ct.no, fun n v hv => (by obtain ⟨q, e, h1, h2⟩ := I.ct.yes n v hv; exact ⟨q, e, s _ _ h1, h2⟩), I.ct.inj⟩,
           pt := I.pt.keep (fun _ h => h) (fun q xs h _ _ _ _ => s _ _ h) fun b xs r => r.same s,
           trk := fun a ha => (by obtain ⟨o, e⟩ := I.trk a ha; exact ⟨o, s _ _ e⟩) }
theorem HouseAt.same {C : Addr} {H H' : Hp} {p : Addr} {h : HS} {R : List Addr} {N : Nat} (I : HouseAt C H p h R N) (s : Same H H') : HouseAt C H' p h R N := by
  obtain ⟨dx, po, pa, pk, pc, xs, kvs, I⟩ := I
  exact ⟨dx, po, pa, pk, pc, xs, kvs, I.same s⟩
theorem HouseAt.move {C : Addr} {H H' : Hp} {p : Addr} {h : HS} {R : List Addr} {N : Nat} (I : HouseAt C H p h R N) (s : Same H H') : Move C p H R H' h R N := ⟨I.same s, .of_same s, .refl _ _, fun _ h => h⟩
theorem HouseIn.more {C : Addr} {H : Hp} {p : Addr} {h : HS} {R : List Addr} {N M : Nat} {dx po pa pk pc : Addr} {xs : List V} {z : Pg} (I : HouseIn C H p h R N dx po pa pk pc xs z) (hN : N ≤ M) : HouseIn C H p h R M dx po pa pk pc xs z :=
  { I with l1 := Nat.le_trans I.l1 hN, l2 := Nat.le_trans I.l2 hN, l3 := fun n => Nat.le_trans (I.l3 n) hN }
theorem HouseAt.more {C : Addr} {H : Hp} {p : Addr} {h : HS} {R : List Addr} {N M : Nat} (I : HouseAt C H p h R N) (hN : N ≤ M) : HouseAt C H p h R M := by
  obtain ⟨dx, po, pa, pk, pc, xs, kvs, I⟩ := I
  exact ⟨dx, po, pa, pk, pc, xs, kvs, I.more hN⟩
theorem Move.more {C p : Addr} {H H' : Hp} {R R' : List Addr} {h' : HS} {N' M : Nat} (m : Move C p H R H' h' R' N') (hN : N' ≤ M) : Move C p H R H' h' R' M := ⟨m.at_.more hN, m.chg, m.gr, m.sb⟩
theorem HouseAt.chg {C : Addr} {H H' : Hp} {p : Addr} {h : HS} {R T : List Addr} {N : Nat} (I : HouseAt C H p h R N) (c : Chg T H H') (d : ∀ a ∈ R, ¬ a ∈ T) : HouseAt C H' p h R N := by
  obtain ⟨dx, po, pa, pk, pc, xs, kvs, I⟩ := I
  have kp : ∀ a o, a ∈ R → H a = some o → H' a = some o := fun a o ha e => c.keep a o e (d a ha)
  refine ⟨dx, po, pa, pk, pc, xs, kvs, { I with ob := kp _ _ I.m1 I.ob, ot := kp _ _ I.m2 I.ot, ag := kp _ _ I.m3 I.ag, bk := kp _ _ I.m4 I.bk, bs := (lines_chg I.bs c), cn := kp _ _ I.m5 I.cn, pg := kp _ _ I.m6 I.pg, ct := ⟨I.ct.no, fun n v hv => (by obtain ⟨q, e, h1, h2, h3⟩ := I.ct.yes n v hv; exact ⟨q, e, kp _ _ h2 h1, h2, h3⟩), I.ct.inj⟩, pt := (I.pt.keep (fun _ h => h) (fun q xs h m _ _ _ => kp _ _ m h) (fun b xs r => lines_chg r c)), trk := (fun a ha => (by obtain ⟨o, e⟩ := I.trk a ha; exact ⟨o, kp _ _ ha e⟩)) }⟩
theorem trk_upd {H : Hp} {R : List Addr} {a : Addr} {o : HO} (t : ∀ a ∈ R, ∃ o, H a = some o) : ∀ b ∈ R, ∃ u, upd H a o b = some u := fun b hb => by
  by_cases e : b = a
  · subst e; exact ⟨o, upd_same⟩
  · rw [upd_ne e]; exact t b hb
def zsp0j (C : Addr) : Sp := fun vs H Q _ => ∃ p w n h R N, vs = [.ref p, .str w, .int n] ∧ HouseAt C H p h R N ∧ N ≤ 900000 ∧ PyData.strOk w = true ∧ ∀ H', Move C p H R H' (h.wr w n) R (N + 1) → Q .non H'
theorem zrd0j {K : PySem.W.Frag} {C : Addr} {vs : List V} {H : Hp} {Q : VK} {E : XK} (T : HouseTxt K C) (h : zsp0j C vs H Q E) : zR0j K { nx := fun _ H' => Q .non H', rt := Q } (start ["self", "word", "bargain"] vs) H := by
  obtain ⟨p, w, n, h, R, N, rfl, ⟨dx, po, pa, pk, pc, xs, kvs, I⟩, hN, okw, k⟩ := h
  obtain ⟨cl, f1, f2, f3, f4, f5, f6, f7, f8⟩ := T
  obtain ⟨⟨ob, ot, ag, bk, bs, cn, ct, pg, pt, n1, n2, n3, m1, m2, m3, m4, m5, m6, trk, l1, l2, l3, l5, okb⟩, l4⟩ := id I
  have hxl : xs.length = h.book.length := by rw [bs.length, List.length_map]
  unfold zR0j
  walk_at "go"
  refine ⟨.inl ⟨rfl, _, sqL bk⟩, ?_⟩
  walk_at "goA"
  rename_i t ht H1 s1 g1
  have bk1 := s1 _ _ bk
  refine st_append bk1 (len_small (by omega)) ?_
  have ntk : t ≠ pk := ne_of g1 bk1 (by intro z; cases z)
  have kp : ∀ a o, a ≠ pk → H1 a = some o → upd H1 pk (.lst (xs ++ [.ref t])) a = some o := fun a o e z => upd_at e z
  have cB : Chg R H1 (upd H1 pk (.lst (xs ++ [.ref t]))) := .set (by rw [bk1]; exact True.intro) m4
  refine k _ ⟨⟨dx, po, pa, pk, pc, xs ++ [.ref t], kvs, ?_⟩, (Chg.of_same s1).trans cB, .refl _ _, fun _ h => h⟩
  exact { ob := kp _ _ (ne_of (s1 _ _ ob) bk1 (by intro z; cases z)) (s1 _ _ ob), ot := kp _ _ n1 (s1 _ _ ot), ag := kp _ _ n2 (s1 _ _ ag), bk := upd_same,
          bs := (by
            show Reps _ [] _ ((h.book ++ [(w, n)]).map lineD)
            rw [List.map_append]
            exact (lines_chg (bs.same s1) cB).snoc (.tup (.inl (kp _ _ ntk g1)) (.cons (.str _) (.cons (.int _) .nil)))),
          cn := kp _ _ (ne_of (s1 _ _ cn) bk1 (by intro z; cases z)) (s1 _ _ cn), pg := kp _ _ (ne_of (s1 _ _ pg) bk1 (by intro z; cases z)) (s1 _ _ pg),
          ct := ⟨ct.no, fun n v hv => (by obtain ⟨q, e, h1, h2⟩ := ct.yes n v hv; exact ⟨q, e, kp _ _ (ne_of (s1 _ _ h1) bk1 (by intro z; cases z)) (s1 _ _ h1), h2⟩), ct.inj⟩,
          pt := (by
            show PagAt _ _ ((h.book ++ [(w, n)]).take kvs.nr) _ _ _ _
            rw [List.take_append_of_le_length l5]
            exact pt.keep (fun _ h => h) (fun q xs hq _ _ _ nk => kp _ _ nk (s1 _ _ hq)) fun b xs r => lines_chg (r.same s1) cB),
          n1 := n1, n2 := n2, n3 := n3, m1 := m1, m2 := m2, m3 := m3, m4 := m4, m5 := m5, m6 := m6,
          trk := trk_upd fun a ha => (by obtain ⟨o, e⟩ := trk a ha; exact ⟨o, s1 _ _ e⟩),
          l1 := (by show (h.book ++ [(w, n)]).length ≤ N + 1; rw [List.length_append]; show h.book.length + 1 ≤ N + 1; omega), l2 := (by omega), l3 := fun n => Nat.le_succ_of_le (l3 n),
          l4 := l4, l5 := (by show kvs.nr ≤ (h.book ++ [(w, n)]).length; rw [List.length_append]; omega),
          okb := by
            intro l hl
            rcases List.mem_append.mp hl with z | z
            · exact okb l z
            · rw [List.mem_singleton.mp z]; exact okw }
theorem notin_new {H : Hp} {R : List Addr} {l : Addr} (t : ∀ a ∈ R, ∃ o, H a = some o) (hl : H l = none) : ¬ l ∈ R := fun m => by obtain ⟨o, e⟩ := t l m; rw [hl] at e; cases e
theorem letters_any {H : Hp} {S T : List Addr} : ∀ {b : List Letter} {xs : List V}, Reps H S xs (b.map letterD) → Reps H T xs (b.map letterD)
  | [], xs, r => by rw [List.map_nil] at r ⊢; rw [r.nil_inv]; exact .nil
  | l :: b, xs, r => by
    rw [List.map_cons] at r ⊢
    obtain ⟨x, ys, rfl, h, t⟩ := r.cons_inv
    obtain ⟨a, zs, rfl, rt, rs⟩ := h.tup_inv
    obtain ⟨y1, r1, rfl, h1, t1⟩ := rs.cons_inv
    obtain ⟨y2, r2, rfl, h2, t2⟩ := t1.cons_inv
    obtain ⟨y3, r3, rfl, h3, t3⟩ := t2.cons_inv
    obtain ⟨y4, r4, rfl, h4, t4⟩ := t3.cons_inv
    cases t4.nil_inv
    rw [h1.int_inv, h2.int_inv, h3.int_inv, h4.str_inv] at rt
    exact .cons (.tup rt (.cons (.int _) (.cons (.int _) (.cons (.int _) (.cons (.str _) .nil))))) (letters_any t)
theorem letters_chg {H H' : Hp} {S T : List Addr} {b : List Letter} {xs : List V} (r : Reps H S xs (b.map letterD)) (c : Chg T H H') : Reps H' S xs (b.map letterD) := letters_any ((letters_any (T := T) r).chg c)
theorem rep_letter {H : Hp} {S : List Addr} {t : Addr} {a b c : Int} {w : Str} (g : Rd H t (.tup [.int a, .int b, .int c, .str w])) : Rep H S (.ref t) (letterD (a, b, c, w)) := .tup g (.cons (.int _) (.cons (.int _) (.cons (.int _) (.cons (.str _) .nil))))
def Fresh (H : Hp) (v : V) : Prop := ∀ l, v = .ref l → H l = none
theorem Fresh.back {H H1 : Hp} {v : V} (f : Fresh H1 v) (s : Same H H1) : Fresh H v := fun l e => s.free (f l e)
theorem Move.free {C p : Addr} {H H' : Hp} {R R' : List Addr} {h' : HS} {N' : Nat} (m : Move C p H R H' h' R' N') {b : Addr} (hb : H' b = none) : H b = none := by
  cases e : H b with
  | none => rfl
  | some o =>
    by_cases y : b ∈ R
    · obtain ⟨dx, po, pa, pk, pc, xs, kvs, I⟩ := m.at_
      obtain ⟨o', e'⟩ := I.trk b (m.sb b y)
      rw [hb] at e'; cases e'
    · rw [m.chg.keep b o e y] at hb; cases hb
def LL (H : Hp) (R : List Addr) (v : V) (ls : List Letter) : Prop := ∃ l ys, v = .ref l ∧ H l = some (.lst ys) ∧ ¬ l ∈ R ∧ Reps H R ys (ls.map letterD)
theorem LL.rep {H : Hp} {R : List Addr} {v : V} {ls : List Letter} (h : LL H R v ls) : Rep H R v (lettersD ls) := by
  obtain ⟨l, ys, rfl, g, n, r⟩ := h
  exact .lst (.inl g) n r
def zsp0d (C : Addr) : Sp := fun vs H Q _ => ∃ p o n w h R N, vs = [.ref p, .int o, .int n, .str w] ∧ HouseAt C H p h R N ∧ ∀ v H', Same H H' → LL H' R v [(h.num, o, n, w)] → Fresh H v → Q v H'
theorem zrd0d {K : PySem.W.Frag} {C : Addr} {vs : List V} {H : Hp} {Q : VK} {E : XK} (T : HouseTxt K C) (h : zsp0d C vs H Q E) : zR0d K { nx := fun _ H' => Q .non H', rt := Q } (start ["self", "other", "bargain", "word"] vs) H := by
  obtain ⟨p, o, n, w, h, R, N, rfl, ⟨dx, po, pa, pk, pc, xs, kvs, I⟩, k⟩ := h
  obtain ⟨cl, f1, f2, f3, f4, f5, f6, f7, f8⟩ := T
  have ob := I.ob
  unfold zR0d
  walk_at "goA"
  rename_i t ht H1 s1 g1 l hl H2 s2 g2
  refine k _ _ (s1.trans s2) ⟨_, _, rfl, g2, notin_new (fun a ha => ?_) hl, .cons (rep_letter (.inl (s2 _ _ g1))) .nil⟩ (by rintro _ ⟨⟩; exact s1.free hl)
  obtain ⟨o, e⟩ := I.trk a ha
  exact ⟨o, s1 _ _ e⟩
def zsp02 (C : Addr) : Sp := fun vs H Q _ => ∃ p n w h R N, vs = [.ref p, .int n, .str w] ∧ HouseAt C H p h R N ∧ h.oth.length ≤ 900000 ∧ ∀ v H', Same H H' → LL H' R v (h.toOthers n w) → Fresh H v → Q v H'
theorem zrd02 {K : PySem.W.Frag} {C : Addr} {vs : List V} {H : Hp} {Q : VK} {E : XK} (T : HouseTxt K C) (h : zsp02 C vs H Q E) : zR02 K { nx := fun _ H' => Q .non H', rt := Q } (start ["self", "bargain", "word"] vs) H := by
  obtain ⟨p, n, w, h, R, N, rfl, ⟨dx, po, pa, pk, pc, xs, kvs, I⟩, hol, k⟩ := h
  obtain ⟨cl, f1, f2, f3, f4, f5, f6, f7, f8⟩ := T
  have ob := I.ob
  have ot := I.ot
  unfold zR02
  walk_at "go"
  intro q hq
  refine lc_list (K := K) (a := po) (xs := h.oth.map .int) (fun i ys σ H' => ∃ v, σ = [v, some (.int n), some (.str w), some (.ref p)] ∧ Same H H' ∧ Reps H' [] ys ((((h.oth.take i).map fun k => (h.num, k, n, w)) : List Letter).map letterD)) ⟨none, rfl, Same.new hq, .nil⟩ ?_ ?_ ?_
  · rintro i ys σ H' hi hq' ⟨v, rfl, s, rs⟩
    exact sqL (s _ _ ot)
  · rintro i x ys σ H1 hx hq' ⟨v, rfl, s, rs⟩
    rw [List.getElem?_map] at hx
    cases hk : h.oth[i]? with
    | none => rw [hk] at hx; cases hx
    | some z =>
      rw [hk] at hx
      have e : V.int z = x := Option.some.inj hx
      subst e
      have hi : i < h.oth.length := (List.getElem?_eq_some_iff.mp hk).1
      have ob1 := s _ _ ob
      walk_at "go"
      rw [if_pos rfl]
      walk_at "goA"
      rename_i t ht H2 s2 g2
      have hyl : ys.length = i := by rw [rs.length, List.length_map, List.length_map, List.length_take]; omega
      refine ⟨ys, s2 _ _ hq', len_small (by omega), ys ++ [.ref t], upd_same, _, rfl, (s.trans s2).put hq, ?_⟩
      rw [take_snoc hk, List.map_append, List.map_append]
      have c : Chg [q] H2 (upd H2 q (.lst (ys ++ [.ref t]))) := .set (by rw [s2 _ _ hq']; exact True.intro) (by simp)
      have ntq : t ≠ q := ne_of g2 (s2 _ _ hq') (by intro z; cases z)
      exact (letters_chg (rs.same s2) c).snoc (rep_letter (.inl (upd_at ntq g2)))
  · rintro ys σ H1 hq' ⟨v, rfl, s, rs⟩
    refine k _ _ s ⟨_, _, rfl, hq', notin_new I.trk hq, ?_⟩ (by rintro _ ⟨⟩; exact hq)
    rw [List.length_map, List.take_length] at rs
    exact letters_any rs
def Ret (C p : Addr) (H : Hp) (R : List Addr) (N : Nat) (r : HS × List Letter) (Q : VK) : Prop := ∀ v H' R', Move C p H R H' r.1 R' N → LL H' R' v r.2 → Fresh H v → Q v H'
theorem Ret.after {C p : Addr} {H H1 : Hp} {R R1 : List Addr} {N N1 : Nat} {h1 : HS} {r : HS × List Letter} {Q : VK} (k : Ret C p H R N r Q) (m : Move C p H R H1 h1 R1 N1) : Ret C p H1 R1 N r Q := fun v H' R' m' l f => k v H' R' (m.trans m') l fun a e => m.free (f a e)
theorem Ret.same {C p : Addr} {H H1 : Hp} {R : List Addr} {N : Nat} {r : HS × List Letter} {Q : VK} {h : HS} {M : Nat} (k : Ret C p H R N r Q) (I : HouseAt C H p h R M) (s : Same H H1) : Ret C p H1 R N r Q := k.after (I.move s)
theorem Ret.done {C p : Addr} {H H' : Hp} {R : List Addr} {N M : Nat} {h : HS} {ls : List Letter} {Q : VK} {v : V} (k : Ret C p H R N (h, ls) Q) (I : HouseAt C H p h R M) (hM : M ≤ N) (s : Same H H') (r : LL H' R v ls) (f : Fresh H v) : Q v H' := k v H' R ((I.move s).more hM) r f
theorem Ret.nil {C p : Addr} {H H' : Hp} {R : List Addr} {N M : Nat} {h : HS} {Q : VK} {l : Addr} (k : Ret C p H R N (h, []) Q) (I : HouseAt C H p h R M) (hM : M ≤ N) (s : Same H H') (hl : H l = none) (g : H' l = some (.lst [])) : Q (.ref l) H' :=
  k.done I hM s ⟨_, _, rfl, g, notin_new (by obtain ⟨dx, po, pa, pk, pc, xs, kvs, I⟩ := I; exact I.trk) hl, .nil⟩ (by rintro _ ⟨⟩; exact hl)
def zsp0e (C : Addr) : Sp := fun vs H Q _ => ∃ p n w h R N, vs = [.ref p, .int n, .str w] ∧ HouseAt C H p h R N ∧ N ≤ 800000 ∧ h.oth.length ≤ 900000 ∧ PyData.strOk w = true ∧ Ret C p H R (N + 1) (h.decide n w) Q
theorem zrd0e {K : PySem.W.Frag} {C : Addr} {vs : List V} {H : Hp} {Q : VK} {E : XK} (T : HouseTxt K C) (h : zsp0e C vs H Q E) : zR0e K (zsp0j C) (zsp02 C) C { nx := fun _ H' => Q .non H', rt := Q } (start ["self", "bargain", "word"] vs) H := by
  obtain ⟨p, n, w, h, R, N, rfl, I, hN, hol, okw, k⟩ := h
  obtain ⟨dx, po, pa, pk, pc, xs, kvs, I0⟩ := id I
  have ob := I0.ob
  unfold zR0e
  walk_at "go"
  refine ⟨p, w, n, h, R, N, rfl, I, by omega, okw, fun H1 m => ?_⟩
  obtain ⟨dx1, po1, pa1, pk1, pc1, xs1, kvs1, I1⟩ := id m.at_
  have ob1 := I1.ob
  walk_at "go"
  refine ⟨p, n, w, h.wr w n, R, N + 1, rfl, m.at_, hol, fun v H2 s2 r f => ?_⟩
  exact (k.after m).done m.at_ (Nat.le_refl _) s2 r f
theorem okS {w : Str} (h : w ∈ ([("ask" : Str), "yes", "no", "bound", "off", "query", "open"] : List Str)) : PyData.strOk w = true := by
  simp only [List.mem_cons, List.not_mem_nil, or_false] at h
  rcases h with rfl | rfl | rfl | rfl | rfl | rfl | rfl <;> decide +kernel
theorem in_ints (x : Int) (ws : List Int) : inV (.int x) (ws.map .int) = decide (x ∈ ws) := by
  unfold inV
  rw [List.any_map]
  induction ws with
  | nil => rfl
  | cons w r ih =>
    rw [List.any_cons, ih]
    show ((w == x) || decide (x ∈ r)) = decide (x ∈ w :: r)
    by_cases e : x = w
    · subst e; simp
    · have e' : ¬ w = x := fun z => e z.symm
      simp [e, e']
def zsp0g (C : Addr) : Sp := fun vs H Q _ => ∃ p n h R N, vs = [.ref p, .int n] ∧ HouseAt C H p h R N ∧ N ≤ 800000 ∧ h.oth.length ≤ 900000 ∧ Ret C p H R (N + 1) (h.begin n) Q
theorem zrd0g {K : PySem.W.Frag} {C : Addr} {vs : List V} {H : Hp} {Q : VK} {E : XK} (T : HouseTxt K C) (h : zsp0g C vs H Q E) : zR0g K (zsp0j C) (zsp02 C) C { nx := fun _ H' => Q .non H', rt := Q } (start ["self", "bargain"] vs) H := by
  obtain ⟨p, n, h, R, N, rfl, I, hN, hol, k⟩ := h
  obtain ⟨cl, f1, f2, f3, f4, f5, f6, f7, f8⟩ := T
  obtain ⟨dx, po, pa, pk, pc, xs, kvs, I0⟩ := id I
  have ob := I0.ob
  have ag := I0.ag
  unfold zR0g
  walk_at "go"
  show if (if false = true then _ else inV (.int n) _) = true then _ else _
  rw [if_neg (by decide : ¬ (false = true)), in_ints]
  unfold HS.begin at k
  by_cases e : n ∈ h.agn
  · rw [if_pos (decide_eq_true e)]
    rw [if_pos e] at k
    walk_at "go"
    refine ⟨p, "no", n, h, R, N, rfl, I, by omega, okS (by simp), fun H1 m => ?_⟩
    walk_at "goA"
    rename_i l hl H2 s2 g2
    exact (k.after m).nil m.at_ (Nat.le_refl _) s2 hl g2
  · rw [if_neg (by simpa using e)]
    rw [if_neg e] at k
    walk_at "go"
    refine ⟨p, "open", n, h, R, N, rfl, I, by omega, okS (by simp), fun H1 m => ?_⟩
    obtain ⟨dx1, po1, pa1, pk1, pc1, xs1, kvs1, I1⟩ := id m.at_
    have ob1 := I1.ob
    walk_at "go"
    refine ⟨p, n, "ask", h.wr "open" n, R, N + 1, rfl, m.at_, hol, fun v H2 s2 r f => ?_⟩
    exact (k.after m).done m.at_ (Nat.le_refl _) s2 r f
theorem HouseIn.rep {C : Addr} {H : Hp} {p : Addr} {h : HS} {R : List Addr} {N : Nat} {dx po pa pk pc : Addr} {xs : List V} {kvs : Pg} (I : HouseIn C H p h R N dx po pa pk pc xs kvs) : Rep H [] (.ref pk) (bookD h.book) := .lst (.inl I.bk) (by simp) I.bs
theorem hfs_read (num : Int) (po pa pk : Addr) (u : Bool) (pc pp : Addr) (nr m : Nat) : putF "lines_read" (.int m) (hfs num po pa pk u pc pp nr) = hfs num po pa pk u pc pp m := by with_unfolding_all rfl
def zsp0k (C : Addr) : Sp := fun vs H Q _ => ∃ p n h R N, vs = [.ref p, .int n] ∧ HouseAt C H p h R N ∧ N ≤ 900000 ∧ ∀ q H' R', Move C p H R H' h R' N → Rep H' [] (.ref q) (bookD (pageOf h.book n)) → Q (.ref q) H'
theorem zrd0k {K : PySem.W.Frag} {C : Addr} {vs : List V} {H : Hp} {Q : VK} {E : XK} (T : HouseTxt K C) (h : zsp0k C vs H Q E) : zR0k K { nx := fun _ H' => Q .non H', rt := Q } (start ["self", "bargain", "line"] vs) H := by
  obtain ⟨p, n, h, R, N, rfl, ⟨dx, po, pa, pk, pc, xs, z, I⟩, hN, k⟩ := h
  obtain ⟨cl, f1, f2, f3, f4, f5, f6, f7, f8⟩ := T
  unfold zR0k
  refine st_seq ?_
  refine ⟨fun m σ H' => ∃ v R' z', σ = [some (.ref p), some (.int n), v] ∧ m = h.book.length - z'.nr ∧ HouseIn C H' p h R' N dx po pa pk pc xs z' ∧ Chg R H H' ∧ Grow R H R' ∧ ∀ a ∈ R, a ∈ R',
    ⟨_, none, R, z, rfl, rfl, I, .refl _ _, .refl _ _, fun _ h => h⟩, ?_⟩
  rintro m σ H1 ⟨v, R1, z1, rfl, rfl, I1, c1, g1, sb1⟩
  have ob1 := I1.ob
  have bk1 := I1.bk
  have hxl : xs.length = h.book.length := by rw [I1.bs.length, List.length_map]
  have hbl := I1.l1
  have hnr := I1.l5
  walk_at "go"
  by_cases lt : z1.nr < h.book.length
  · rw [if_pos (by simp only [decide_eq_true_eq]; show (z1.nr : Int) < (xs.length : Int); omega)]
    refine ⟨fun σ' H' => ∃ m', m' < h.book.length - z1.nr ∧ ∃ v R' z', σ' = [some (.ref p), some (.int n), v] ∧ m' = h.book.length - z'.nr ∧ HouseIn C H' p h R' N dx po pa pk pc xs z' ∧ Chg R H H' ∧ Grow R H R' ∧ ∀ a ∈ R, a ∈ R', fun σ' H' q => q, ?_⟩
    have hget : ∃ l, h.book[z1.nr]? = some l := ⟨_, List.getElem?_eq_getElem lt⟩
    obtain ⟨l, hl⟩ := hget
    obtain ⟨x, hx, rx⟩ := I1.bs.getD (i := z1.nr) (d := lineD l) (by rw [List.getElem?_map, hl]; rfl)
    obtain ⟨t, ys, rfl, rt, rs⟩ := rx.tup_inv
    obtain ⟨y1, r1, rfl, h1, t1⟩ := rs.cons_inv
    obtain ⟨y2, r2, rfl, h2, t2⟩ := t1.cons_inv
    cases t2.nil_inv
    rw [h1.str_inv, h2.int_inv] at rt
    have htk : h.book.take (z1.nr + 1) = h.book.take z1.nr ++ [l] := take_snoc hl
    walk_at "go"
    refine st_ixL (sqL bk1) (atI_nat hx) ?_
    have after : ∀ (q : Addr) (H5 : Hp) (R5 : List Addr) (z5 : Pg) (D : Ends), z5.nr = z1.nr → D.nx = (fun σ' H' => ∃ m', m' < h.book.length - z1.nr ∧ ∃ v R' z', σ' = [some (.ref p), some (.int n), v] ∧ m' = h.book.length - z'.nr ∧ HouseIn C H' p h R' N dx po pa pk pc xs z' ∧ Chg R H H' ∧ Grow R H R' ∧ ∀ a ∈ R, a ∈ R') →
        HouseI0 C H5 p h R5 N dx po pa pk pc xs z5 → z5.pvs.length ≤ z1.nr + 1 → Chg R H H5 → Grow R H R5 → (∀ a ∈ R, a ∈ R5) → valV z5.pvs (Sum.inl l.2 : Key) = some (.ref q) → Rd H5 t (.tup [.str l.1, .int l.2]) →
        tyV K "list" (.ref q) H5 ∧ (tCons (tVar 2) tNil) [some (.ref p), some (.int n), some (.ref t)] H5 (fun ys H6 => rAppend (.ref q) ys H6 fun _ H7 => sFldAug K (tVar 0) (tC (.int 1)) rAdd "lines_read" D [some (.ref p), some (.int n), some (.ref t)] H7) := by
      intro q H5 R5 z5 D hnr5 hD I5 hl5 c5 g5 sb5 hv rt5
      have P5 := I5.pt
      rw [hnr5] at P5
      obtain ⟨q', ws, eq, gq, rq, mq, no, na, nk⟩ := P5.yes _ _ hv
      cases eq
      refine ⟨.inl ⟨rfl, _, sqL gq⟩, ?_⟩
      have hwl : ws.length ≤ h.book.length := by
        rw [rq.length, List.length_map]
        exact Nat.le_trans (pageOf_len _ _) (by rw [List.length_take]; omega)
      walk_at "go"
      refine st_append gq (len_small (by omega)) ?_
      have c6 : Chg R5 H5 (upd H5 q (.lst (ws ++ [.ref t]))) := .set (by rw [gq]; exact True.intro) mq
      have kp : ∀ a o, a ≠ q → H5 a = some o → upd H5 q (.lst (ws ++ [.ref t])) a = some o := fun a o e z => upd_at e z
      have nq : ∀ {a : Addr} {o : HO}, H5 a = some o → o ≠ .lst ws → a ≠ q := fun z1 z2 => ne_of z1 gq z2
      have npq : p ≠ q := nq I5.ob (by intro z; cases z)
      have ob6 := kp _ _ npq I5.ob
      have gq6 : upd H5 q (.lst (ws ++ [.ref t])) q = some (.lst (ws ++ [.ref t])) := upd_same
      generalize upd H5 q (.lst (ws ++ [.ref t])) = H6 at *
      refine ⟨_, rfl, p, C, dx, _, _, rfl, ob6, cl, f8, by with_unfolding_all rfl, _, _, rfl, rfl, dx, _, ob6, (by show 8 < 1000; decide), ?_⟩
      rw [hnr5, (by omega : ((z1.nr : Int) + 1) = ((z1.nr + 1 : Nat) : Int)), hfs_read, hD]
      have c7 : Chg R5 H6 (upd H6 p (.ins C dx (hfs h.num po pa pk h.up pc z5.pp (z1.nr + 1)))) := .set (by rw [ob6]; exact True.intro) I5.m1
      have c57 := c6.trans c7
      have kq : ∀ a o, a ≠ q → a ≠ p → H5 a = some o → upd H6 p (.ins C dx (hfs h.num po pa pk h.up pc z5.pp (z1.nr + 1))) a = some o := fun a o e e' z => upd_at e' (kp _ _ e z)
      have np : ∀ {a : Addr} {o : HO}, H5 a = some o → o ≠ .ins C dx (hfs h.num po pa pk h.up pc z5.pp z5.nr) → a ≠ p := fun z1 z2 => ne_of z1 I5.ob z2
      have gq7 : upd H6 p (.ins C dx (hfs h.num po pa pk h.up pc z5.pp (z1.nr + 1))) q = some (.lst (ws ++ [.ref t])) := upd_at npq.symm gq6
      have tr7 : ∀ a ∈ R5, ∃ o, upd H6 p (.ins C dx (hfs h.num po pa pk h.up pc z5.pp (z1.nr + 1))) a = some o := trk_upd fun a ha => by
        by_cases e : a = q
        · subst e; exact ⟨_, gq6⟩
        · obtain ⟨o, eo⟩ := I5.trk a ha; exact ⟨o, kp _ _ e eo⟩
      have rt7 : Rd (upd H6 p (.ins C dx (hfs h.num po pa pk h.up pc z5.pp (z1.nr + 1)))) t (.tup [.str l.1, .int l.2]) := by
        rcases rt5 with e | ⟨o, e⟩
        · exact .inl (c57.tups _ _ e)
        · exact .inr ⟨o, c57.frzs _ _ _ e⟩
      refine ⟨h.book.length - (z1.nr + 1), by omega, _, R5, { z5 with nr := z1.nr + 1 }, rfl, rfl, ?_, c5.grow g5 c57, g5, sb5⟩
      exact { ob := upd_same, ot := kq _ _ no.symm (np I5.ot (by intro z; cases z)) I5.ot, ag := kq _ _ na.symm (np I5.ag (by intro z; cases z)) I5.ag, bk := kq _ _ nk.symm (np I5.bk (by intro z; cases z)) I5.bk,
              bs := lines_chg I5.bs c57, cn := kq _ _ (nq I5.cn (by intro z; cases z)) (np I5.cn (by intro z; cases z)) I5.cn, pg := kq _ _ (nq I5.pg (by intro z; cases z)) (np I5.pg (by intro z; cases z)) I5.pg,
              ct := ⟨I5.ct.no, fun m v hm => (by obtain ⟨q2, e2, h2, h3⟩ := I5.ct.yes m v hm; exact ⟨q2, e2, kq _ _ (nq h2 (by intro z; cases z)) (np h2 (by intro z; cases z)) h2, h3⟩), I5.ct.inj⟩,
              pt := (by
                show PagAt _ z5.pvs (h.book.take (z1.nr + 1)) _ _ _ _
                rw [htk]
                refine ⟨fun m hm => ?_, fun m v hm => ?_, P5.inj⟩
                · rw [pageOf_snoc, if_neg (by rintro rfl; rw [hv] at hm; cases hm)]
                  exact P5.no m hm
                · rw [pageOf_snoc]
                  by_cases e : l.2 = m
                  · subst e
                    rw [hv] at hm
                    cases hm
                    rw [if_pos rfl, List.map_append]
                    exact ⟨q, _, rfl, gq7, (lines_chg rq c57).snoc (.tup rt7 (.cons (.str _) (.cons (.int _) .nil))), mq, no, na, nk⟩
                  · rw [if_neg e]
                    obtain ⟨q2, w2, e2, h2, h3, h4, h5⟩ := P5.yes m v hm
                    subst e2
                    exact ⟨q2, w2, rfl, kq _ _ (by rintro rfl; exact e (P5.inj _ _ _ hv hm)) (np h2 (by intro z; cases z)) h2, lines_chg h3 c57, h4, h5⟩),
              n1 := I5.n1, n2 := I5.n2, n3 := I5.n3, m1 := I5.m1, m2 := I5.m2, m3 := I5.m3, m4 := I5.m4, m5 := I5.m5, m6 := I5.m6, trk := tr7, l1 := I5.l1, l2 := I5.l2, l3 := I5.l3, l5 := lt, okb := I5.okb, l4 := hl5 }
    have pg1 := I1.pg
    have n1l : H1 = H1 := rfl
    walk_at "go"
    walk_at "new"
    rename_i p1 hp1 H2 s2 g2
    have I2 := I1.same s2
    refine ⟨z1.pvs, Sum.inl l.2, I2.pg, rfl, len_small (by have := I2.l4; omega), fun v hv => ?_, fun hn => ?_⟩
    · obtain ⟨q, ws, rfl, _⟩ := I2.pt.yes _ _ hv
      exact after q H2 R1 z1 _ rfl rfl I2.toHouseI0 (Nat.le_succ_of_le I2.l4) (c1.trans (.of_same s2)) g1 sb1 hv (rt.same s2)
    · have hval : ∀ m : Int, valV (putK z1.pvs (Sum.inl l.2 : Key) (V.ref p1)) (Sum.inl m : Key) = if m = l.2 then some (.ref p1) else valV z1.pvs (Sum.inl m : Key) := fun m => by
        rw [valV_put]
        by_cases e : m = l.2
        · subst e; simp
        · rw [if_neg e, if_neg (by intro y; exact e (Sum.inl.inj y))]
      have c3 : Chg R1 H2 (upd H2 z1.pp (.dK (putK z1.pvs (Sum.inl l.2 : Key) (V.ref p1)))) := .set (by rw [I2.pg]; exact True.intro) I2.m6
      have kp : ∀ a o, a ≠ z1.pp → H2 a = some o → upd H2 z1.pp (.dK (putK z1.pvs (Sum.inl l.2 : Key) (V.ref p1))) a = some o := fun a o e z => upd_at e z
      have nq : ∀ {a : Addr} {o : HO}, H2 a = some o → o ≠ .dK z1.pvs → a ≠ z1.pp := fun z1 z2 => ne_of z1 I2.pg z2
      have gr : Grow R H (p1 :: R1) := fun a ha => by
        rcases List.mem_cons.mp ha with rfl | y
        · refine .inr ?_
          cases e : H a with
          | none => rfl
          | some o =>
            by_cases m : a ∈ R
            · obtain ⟨o', e'⟩ := I1.trk a (sb1 a m)
              rw [hp1] at e'; cases e'
            · rw [c1.keep a o e m] at hp1; cases hp1
        · exact g1 a y
      refine after p1 _ (p1 :: R1) { z1 with pvs := putK z1.pvs (Sum.inl l.2 : Key) (V.ref p1) } _ rfl rfl ?_ (Nat.le_trans (length_putK _ _ _) (Nat.succ_le_succ I2.l4)) ((c1.trans (.of_same s2)).grow g1 c3) gr (fun a ha => List.mem_cons_of_mem _ (sb1 a ha)) (by rw [hval, if_pos rfl]) ?_
      · exact { ob := kp _ _ (nq I2.ob (by intro z; cases z)) I2.ob, ot := kp _ _ (nq I2.ot (by intro z; cases z)) I2.ot, ag := kp _ _ (nq I2.ag (by intro z; cases z)) I2.ag, bk := kp _ _ (nq I2.bk (by intro z; cases z)) I2.bk,
                bs := lines_chg I2.bs c3, cn := kp _ _ I2.n3 I2.cn, pg := upd_same,
                ct := ⟨I2.ct.no, fun m v hm => (by obtain ⟨q2, e2, h2, h3, h4, h5⟩ := I2.ct.yes m v hm; exact ⟨q2, e2, kp _ _ h5 h2, List.mem_cons_of_mem _ h3, h4, h5⟩), I2.ct.inj⟩,
                pt := ⟨fun m hm => (by
                        rw [hval] at hm
                        by_cases e : m = l.2
                        · rw [if_pos e] at hm; cases hm
                        · rw [if_neg e] at hm; exact I2.pt.no m hm),
                      fun m v hm => (by
                        rw [hval] at hm
                        by_cases e : m = l.2
                        · rw [if_pos e] at hm
                          cases hm
                          subst e
                          refine ⟨p1, [], rfl, kp _ _ (nq g2 (by intro z; cases z)) g2, ?_, by simp, ?_, ?_, ?_⟩
                          · show Reps _ _ _ ((pageOf (h.book.take z1.nr) l.2).map lineD)
                            rw [I2.pt.no _ hn]; exact .nil
                          · exact (ne_new hp1 I1.ot).symm
                          · exact (ne_new hp1 I1.ag).symm
                          · exact (ne_new hp1 I1.bk).symm
                        · rw [if_neg e] at hm
                          obtain ⟨q2, w2, e2, h2, h3, h4, h5⟩ := I2.pt.yes m v hm
                          exact ⟨q2, w2, e2, kp _ _ (nq h2 (by intro z; cases z)) h2, lines_chg h3 c3, List.mem_cons_of_mem _ h4, h5⟩),
                      fun m m2 q h1 h2 => (by
                        rw [hval] at h1 h2
                        have fresh : ∀ r, valV z1.pvs (Sum.inl r : Key) = some (.ref p1) → False := fun r hr => by
                          obtain ⟨q2, w2, e2, h3, _⟩ := I1.pt.yes r _ hr
                          cases e2
                          rw [hp1] at h3
                          cases h3
                        by_cases e1 : m = l.2
                        · by_cases e2 : m2 = l.2
                          · rw [e1, e2]
                          · rw [if_pos e1] at h1; rw [if_neg e2] at h2
                            cases h1
                            exact (fresh _ h2).elim
                        · by_cases e2 : m2 = l.2
                          · rw [if_neg e1] at h1; rw [if_pos e2] at h2
                            cases h2
                            exact (fresh _ h1).elim
                          · rw [if_neg e1] at h1; rw [if_neg e2] at h2
                            exact I2.pt.inj m m2 q h1 h2)⟩,
                n1 := I2.n1, n2 := I2.n2, n3 := I2.n3, m1 := List.mem_cons_of_mem _ I2.m1, m2 := List.mem_cons_of_mem _ I2.m2, m3 := List.mem_cons_of_mem _ I2.m3, m4 := List.mem_cons_of_mem _ I2.m4, m5 := List.mem_cons_of_mem _ I2.m5, m6 := List.mem_cons_of_mem _ I2.m6,
                trk := trk_upd fun a ha => (by
                  rcases List.mem_cons.mp ha with rfl | y
                  · exact ⟨_, g2⟩
                  · exact I2.trk a y),
                l1 := I2.l1, l2 := I2.l2, l3 := I2.l3, l5 := I2.l5, okb := I2.okb }
      · rcases rt.same s2 with e | ⟨o, e⟩
        · exact .inl (c3.tups _ _ e)
        · exact .inr ⟨o, c3.frzs _ _ _ e⟩
  · rw [if_neg (by simp only [decide_eq_true_eq]; show ¬ (z1.nr : Int) < (xs.length : Int); omega)]
    have pg1 := I1.pg
    walk_at "goA"
    rename_i p1 hp1 H2 s2 g2
    have I2 := I1.same s2
    have m2 : Move C p H R H2 h R1 N := ⟨⟨_, _, _, _, _, _, _, I2⟩, c1.trans (.of_same s2), g1, sb1⟩
    have hall : h.book.take z1.nr = h.book := List.take_of_length_le (by omega)
    have P2 := I2.pt
    rw [hall] at P2
    cases hv : valV z1.pvs (Sum.inl n : Key) with
    | none => exact k p1 _ _ m2 (by rw [P2.no _ hv]; exact .lst (.inl g2) (by simp) .nil)
    | some v =>
      obtain ⟨q, ws, rfl, gq, rq, _⟩ := P2.yes _ _ hv
      exact k q _ _ m2 (.lst (.inl gq) (by simp) rq)
def zsp07 (C : Addr) : Sp := fun vs H Q _ => ∃ p n h R N, vs = [.ref p, .int n] ∧ HouseAt C H p h R N ∧ N ≤ 900000 ∧ ∀ H' R', Move C p H R H' h R' N → Q (optV (decisionIn h.book n)) H'
theorem zrd07 {K : PySem.W.Frag} {C : Addr} {vs : List V} {H : Hp} {Q : VK} {E : XK} (T : HouseTxt K C) (h : zsp07 C vs H Q E) : zR07 K zsp0h (zsp0k C) C { nx := fun _ H' => Q .non H', rt := Q } (start ["self", "bargain"] vs) H := by
  obtain ⟨p, n, h, R, N, rfl, I, hN, k⟩ := h
  obtain ⟨dx, po, pa, pk, pc, xs, kvs, I0⟩ := id I
  have ob := I0.ob
  have hl1 := I0.l1
  unfold zR07
  walk_at "go"
  refine ⟨p, n, h, R, N, rfl, I, hN, fun q H1 R1 m1 r1 => ?_⟩
  walk_at "go"
  refine ⟨q, pageOf h.book n, n, rfl, r1, Nat.le_trans (pageOf_len _ _) (by omega), fun H2 s2 => ?_⟩
  rw [pageOf_dec]
  exact k _ _ (m1.trans (m1.at_.move s2))
def zsp09 (C : Addr) : Sp := fun vs H Q _ => ∃ p g n h R N, vs = [.ref p, .int g, .int n] ∧ HouseAt C H p h R N ∧ N ≤ 800000 ∧ Ret C p H R (N + 1) (h.gotAsk g n) Q
theorem zrd09 {K : PySem.W.Frag} {C : Addr} {vs : List V} {H : Hp} {Q : VK} {E : XK} (T : HouseTxt K C) (h : zsp09 C vs H Q E) : zR09 K zsp11 (zsp0k C) (zsp0j C) (zsp07 C) (zsp0d C) C { nx := fun _ H' => Q .non H', rt := Q } (start ["self", "giver", "bargain"] vs) H := by
  obtain ⟨p, g, n, h, R, N, rfl, I, hN, k⟩ := h
  obtain ⟨cl, f1, f2, f3, f4, f5, f6, f7, f8⟩ := T
  obtain ⟨dx, po, pa, pk, pc, xs, kvs, I0⟩ := id I
  have ob := I0.ob
  have hl1 := I0.l1
  unfold zR09
  refine st_cut (fun σ' H' => σ' = [some (.ref p), some (.int g), some (.int n)] ∧ ∃ R', Move C p H R H' (h.asked n) R' (N + 1)) ?_ ?_
  · walk_at "go"
    refine ⟨p, n, h, R, N, rfl, I, by omega, fun q H0 R0 m0 r0 => ?_⟩
    walk_at "go"
    refine ⟨q, pageOf h.book n, n, rfl, r0, Nat.le_trans (pageOf_len _ _) (by omega), fun H1 s1 => ?_⟩
    rw [pageOf_words]
    have m1 := m0.trans (m0.at_.move s1)
    obtain ⟨dx1, po1, pa1, pk1, pc1, xs1, kvs1, I1⟩ := id m1.at_
    have ob1 := I1.ob
    have ag1 := I1.ag
    walk_at "go"
    unfold HS.asked
    by_cases e : wordsOf h.book n = []
    · rw [if_pos (by simp [e]), if_pos e]
      walk_at "go"
      show if (if false = true then _ else inV (.int n) _) = true then _ else _
      rw [if_neg (by decide : ¬ (false = true)), in_ints]
      by_cases e2 : n ∈ h.agn
      · rw [if_pos (decide_eq_true e2), if_pos e2]
        walk_at "go"
        exact ⟨p, "no", n, h, R0, N, rfl, m1.at_, by omega, okS (by simp), fun H2 m => ⟨rfl, _, m1.trans m⟩⟩
      · rw [if_neg (by simpa using e2), if_neg e2]
        walk_at "go"
        exact ⟨p, "yes", n, h, R0, N, rfl, m1.at_, by omega, okS (by simp), fun H2 m => ⟨rfl, _, m1.trans m⟩⟩
    · rw [if_neg (by simp [e]), if_neg e]
      walk_at "go"
      exact ⟨rfl, _, m1.more (by omega)⟩
  rintro σ' H1 ⟨rfl, R1, m⟩
  obtain ⟨dx1, po1, pa1, pk1, pc1, xs1, kvs1, I1⟩ := id m.at_
  have ob1 := I1.ob
  walk_at "go"
  refine ⟨p, n, h.asked n, R1, N + 1, rfl, m.at_, by omega, fun H2 R2 m2 => ?_⟩
  obtain ⟨dx2, po2, pa2, pk2, pc2, xs2, kvs2, I2⟩ := id m2.at_
  have ob2 := I2.ob
  walk_at "go"
  refine st_rEq (optV_scal _ _) ?_
  walk_at "go"
  rw [optV_eq]
  have hnum : (h.asked n).num = h.num := by unfold HS.asked HS.wr; split <;> rfl
  have kk := (k.after m).after m2
  unfold HS.gotAsk at kk
  by_cases e : decisionIn (h.asked n).book n = some ("off" : Str)
  · rw [if_pos (decide_eq_true e)]
    rw [if_pos e] at kk
    walk_at "go"
    refine ⟨p, g, n, "no", h.asked n, R2, N + 1, rfl, m2.at_, fun v H3 s3 r f => ?_⟩
    rw [hnum] at r
    exact kk.done m2.at_ (Nat.le_refl _) s3 r f
  · rw [if_neg (by simpa using e)]
    rw [if_neg e] at kk
    walk_at "go"
    refine ⟨p, g, n, "yes", h.asked n, R2, N + 1, rfl, m2.at_, fun v H3 s3 r f => ?_⟩
    rw [hnum] at r
    exact kk.done m2.at_ (Nat.le_refl _) s3 r f
def zsp00 (C : Addr) : Sp := fun vs H Q _ => ∃ p n w h R N, vs = [.ref p, .int n, .str w] ∧ HouseAt C H p h R N ∧ N ≤ 800000 ∧ PyData.strOk w = true ∧ Ret C p H R (N + 1) (h.gotDecision n w) Q
theorem zrd00 {K : PySem.W.Frag} {C : Addr} {vs : List V} {H : Hp} {Q : VK} {E : XK} (T : HouseTxt K C) (h : zsp00 C vs H Q E) : zR00 K (zsp07 C) (zsp0j C) C { nx := fun _ H' => Q .non H', rt := Q } (start ["self", "bargain", "word"] vs) H := by
  obtain ⟨p, n, w, h, R, N, rfl, I, hN, okw, k⟩ := h
  obtain ⟨cl, f1, f2, f3, f4, f5, f6, f7, f8⟩ := T
  obtain ⟨dx, po, pa, pk, pc, xs, kvs, I0⟩ := id I
  have ob := I0.ob
  unfold zR00
  refine st_cut (fun σ' H' => ∃ R', Move C p H R H' (h.gotDecision n w).1 R' (N + 1)) ?_ ?_
  · walk_at "go"
    refine ⟨p, n, h, R, N, rfl, I, by omega, fun H1 R1 m1 => ?_⟩
    obtain ⟨dx1, po1, pa1, pk1, pc1, xs1, kvs1, I1⟩ := id m1.at_
    have ob1 := I1.ob
    walk_at "go"
    rw [optV_non]
    unfold HS.gotDecision
    by_cases e : decisionIn h.book n = none
    · rw [if_pos (decide_eq_true e), if_pos e]
      walk_at "go"
      exact ⟨p, w, n, h, R1, N, rfl, m1.at_, by omega, okw, fun H2 m => ⟨_, m1.trans m⟩⟩
    · rw [if_neg (by simpa using e), if_neg e]
      walk_at "go"
      exact ⟨_, m1.more (by omega)⟩
  rintro σ' H1 ⟨R1, m⟩
  walk_at "goA"
  rename_i l hl H2 s2 g2
  exact (k.after m).nil m.at_ (Nat.le_refl _) s2 hl g2
def zsp03 (C : Addr) : Sp := fun vs H Q _ => ∃ p g n h R N, vs = [.ref p, .int g, .int n] ∧ HouseAt C H p h R N ∧ N ≤ 800000 ∧ h.oth.length ≤ 900000 ∧ Ret C p H R (N + 1) (h.gotQuery g n) Q
theorem zrd03 {K : PySem.W.Frag} {C : Addr} {vs : List V} {H : Hp} {Q : VK} {E : XK} (T : HouseTxt K C) (h : zsp03 C vs H Q E) :
    zR03 K zsp0q zsp11 (zsp0k C) (zsp07 C) (zsp0d C) (zsp0e C) (zsp0j C) C { nx := fun _ H' => Q .non H', rt := Q } (start ["self", "giver", "bargain", "decided"] vs) H := by
  obtain ⟨p, g, n, h, R, N, rfl, I, hN, hol, k⟩ := h
  obtain ⟨cl, f1, f2, f3, f4, f5, f6, f7, f8⟩ := T
  obtain ⟨dx, po, pa, pk, pc, xs, kvs, I0⟩ := id I
  have ob := I0.ob
  have hl1 : h.book.length ≤ 1000000 := Nat.le_trans I0.l1 (by omega)
  have hlp : (pageOf h.book n).length ≤ 1000000 := Nat.le_trans (pageOf_len _ _) hl1
  unfold zR03
  unfold HS.gotQuery at k
  walk_at "go"
  refine ⟨p, n, h, R, N, rfl, I, by omega, fun q H0 R0 m0 r0 => ?_⟩
  walk_at "go"
  refine ⟨q, pageOf h.book n, n, rfl, r0, hlp, fun H1 s1 => ?_⟩
  rw [pageOf_unsure]
  have m1 := m0.trans (m0.at_.move s1)
  obtain ⟨dx1, po1, pa1, pk1, pc1, xs1, kvs1, I1⟩ := id m1.at_
  have ob1 := I1.ob
  have k1 := k.after m1
  walk_at "go"
  by_cases e : unsure h.book n = true
  · rw [if_pos e]
    rw [if_pos e] at k1
    walk_at "goA"
    rename_i l hl H2 s2 g2
    exact k1.nil m1.at_ (by omega) s2 hl g2
  rw [if_neg e]
  rw [if_neg e] at k1
  walk_at "go"
  refine ⟨p, n, h, R0, N, rfl, m1.at_, by omega, fun H2 R2 m2 => ?_⟩
  obtain ⟨dx2, po2, pa2, pk2, pc2, xs2, kvs2, I2⟩ := id m2.at_
  have ob2 := I2.ob
  have k2 := k1.after m2
  have J2 := m2.at_
  cases ed : decisionIn h.book n with
  | some d =>
    rw [ed] at k2
    walk_at "go"
    rw [if_pos (by simp [optV])]
    walk_at "go"
    exact ⟨p, g, n, d, h, R2, N, rfl, J2, fun v H3 s3 r f => k2.done J2 (by omega) s3 r f⟩
  | none =>
    rw [ed] at k2
    walk_at "go"
    rw [if_neg (by simp [optV])]
    walk_at "go"
    refine ⟨p, n, h, R2, N, rfl, J2, by omega, fun q3 H3 R3 m3 r3 => ?_⟩
    walk_at "go"
    refine ⟨q3, pageOf h.book n, n, rfl, r3, hlp, fun H4 s4 => ?_⟩
    rw [pageOf_words]
    have m4 := m3.trans (m3.at_.move s4)
    obtain ⟨dx4, po4, pa4, pk4, pc4, xs4, kvs4, I4⟩ := id m4.at_
    have ob4 := I4.ob
    have k4 := k2.after m4
    have J4 := m4.at_
    walk_at "go"
    by_cases e3 : wordsOf h.book n = []
    · rw [if_neg (by simp [e3])]
      simp only [if_pos e3] at k4
      walk_at "go"
      refine ⟨p, "no", n, h, R3, N, rfl, J4, by omega, okS (by simp), fun H5 m => ?_⟩
      obtain ⟨dx5, po5, pa5, pk5, pc5, xs5, kvs5, I5⟩ := id m.at_
      have ob5 := I5.ob
      walk_at "go"
      exact ⟨p, g, n, "off", h.wr "no" n, R3, N + 1, rfl, m.at_, fun v H5 s5 r f => (k4.after m).done m.at_ (Nat.le_refl _) s5 r f⟩
    · rw [if_pos (by simp [e3])]
      simp only [if_neg e3] at k4
      walk_at "go"
      exact ⟨p, n, "off", h, R3, N, rfl, J4, hN, hol, okS (by simp), k4⟩
theorem put_gv (g : Int) (gs : List Int) : putK (gs.map gv) (Sum.inl g : Key) (V.bl true) = (addG g gs).map gv := by
  unfold putK addG
  have e : ((gs.map gv).any fun kv => decide (kv.1 = (Sum.inl g : Key))) = decide (g ∈ gs) := by
    rw [List.any_map]
    induction gs with
    | nil => rfl
    | cons x r ih =>
      rw [List.any_cons, ih]
      show (decide ((Sum.inl x : Key) = Sum.inl g) || decide (g ∈ r)) = decide (g ∈ x :: r)
      by_cases z : g = x
      · subst z; simp
      · have z' : ¬ x = g := fun y => z y.symm
        simp [z, z']
  rw [e]
  by_cases m : g ∈ gs
  · rw [if_pos (decide_eq_true m), if_pos m, List.map_map]
    refine List.map_congr_left fun x _ => ?_
    show (if (Sum.inl x : Key) = Sum.inl g then ((Sum.inl x : Key), V.bl true) else (Sum.inl x, V.bl true)) = _
    split <;> rfl
  · rw [if_neg (by simpa using m), if_neg m, List.map_append]; rfl
theorem addG_len (g : Int) (gs : List Int) : (addG g gs).length ≤ gs.length + 1 := by unfold addG; split <;> simp
def zsp06 (C : Addr) : Sp := fun vs H Q _ => ∃ p g n w h R N, vs = [.ref p, .int g, .int n, .str w] ∧ HouseAt C H p h R N ∧ N ≤ 790000 ∧ h.oth.length ≤ 900000 ∧ Ret C p H R (N + 3) (h.gotVote g n w) Q
theorem zrd06 {K : PySem.W.Frag} {C : Addr} {vs : List V} {H : Hp} {Q : VK} {E : XK} (T : HouseTxt K C) (h : zsp06 C vs H Q E) :
    zR06 K (zsp07 C) (zsp0d C) (zsp0e C) C { nx := fun _ H' => Q .non H', rt := Q } (start ["self", "giver", "bargain", "word", "decided", "givers"] vs) H := by
  obtain ⟨p, g, n, w, h, R, N, rfl, I, hN, hol, k⟩ := h
  obtain ⟨cl, f1, f2, f3, f4, f5, f6, f7, f8⟩ := T
  obtain ⟨dx0, po0, pa0, pk0, pc0, xs0, kvs0, I0⟩ := id I
  have ob := I0.ob
  have hl1 : h.book.length ≤ 1000000 := Nat.le_trans I0.l1 (by omega)
  unfold zR06
  unfold HS.gotVote at k
  walk_at "go"
  refine ⟨p, n, h, R, N, rfl, I, by omega, fun H1 R1 m1 => ?_⟩
  obtain ⟨dx, po, pa, pk, pc, xs, kvs, I1⟩ := id m1.at_
  have J1 := m1.at_
  have ob1 := I1.ob
  have k1 := k.after m1
  cases ed : decisionIn h.book n with
  | some d =>
    rw [ed] at k1
    walk_at "go"
    rw [if_pos (by simp [optV])]
    walk_at "go"
    by_cases e : w = "yes"
    · rw [if_pos (by simp [e])]
      simp only [if_pos e] at k1
      walk_at "go"
      exact ⟨p, g, n, d, h, R1, N, rfl, J1, fun v H3 s3 r f => k1.done J1 (by omega) s3 r f⟩
    · rw [if_neg (by simp [e])]
      simp only [if_neg e] at k1
      walk_at "goA"
      rename_i l hl H2 s2 g2
      exact k1.nil J1 (by omega) s2 hl g2
  | none =>
    rw [ed] at k1
    walk_at "go"
    rw [if_neg (by simp [optV])]
    walk_at "go"
    by_cases e : w = "no"
    · rw [if_pos (by simp [e])]
      simp only [if_pos e] at k1
      walk_at "go"
      exact ⟨p, n, "off", h, R1, N, rfl, J1, by omega, hol, okS (by simp), fun v H' R' m => k1 v H' R' (m.more (by omega))⟩
    rw [if_neg (by simp [e])]
    simp only [if_neg e] at k1
    have after : ∀ (q : Addr) (H5 : Hp) (R5 : List Addr) (kvs5 : Pg) (D : Ends), D.rt = Q → HouseIn C H5 p h R5 (N + 1) dx po pa pk pc xs kvs5 → Chg R1 H1 H5 → Grow R1 H1 R5 → (∀ a ∈ R1, a ∈ R5) → valV kvs5.kvs (Sum.inl n : Key) = some (.ref q) →
        tSeq (sDPut (tVar 5) (tVar 1) (tC (.bl true)))
          (tSeq (tIfS (tTest (tOp rLtI (tCB rLenD (tCons (tVar 5) tNil)) (tCB (rLenQ K) (tCons (tFld K (tVar 0) "others") tNil)))) (tRet (tLst tNil)) tNext)
            (tRet (tMeth C "decide" (zsp0e C) [] E0 (tVar 0) (tCons (tVar 2) (tCons (tC (.str "bound")) tNil))))) D
          [some (.ref p), some (.int g), some (.int n), some (.str w), some (optV none), some (.ref q)] H5 := by
      intro q H5 R5 kvs5 D hrt I5 c5 g5 sb5 hv5
      obtain ⟨q', eq, gq, hqR, hqc, hqp⟩ := I5.ct.yes _ _ hv5
      cases eq
      walk_at "go"
      refine st_dputK gq (len_small (by rw [List.length_map]; have := I5.l3 n; omega)) ?_
      rw [put_gv]
      have nq : ∀ {a : Addr} {o : HO}, H5 a = some o → o ≠ .dK ((h.cnt n).map gv) → a ≠ q := fun z1 z2 => ne_of z1 gq z2
      have kp : ∀ a o, a ≠ q → H5 a = some o → upd H5 q (.dK ((addG g (h.cnt n)).map gv)) a = some o := fun a o e z => upd_at e z
      have c6 : Chg R5 H5 (upd H5 q (.dK ((addG g (h.cnt n)).map gv))) := .set (by rw [gq]; exact True.intro) hqR
      have I6 : HouseIn C (upd H5 q (.dK ((addG g (h.cnt n)).map gv))) p (h.count g n) R5 (N + 2) dx po pa pk pc xs kvs5 :=
        { ob := kp _ _ (nq I5.ob (by intro z; cases z)) I5.ob, ot := kp _ _ (nq I5.ot (by intro z; cases z)) I5.ot, ag := kp _ _ (nq I5.ag (by intro z; cases z)) I5.ag, bk := kp _ _ (nq I5.bk (by intro z; cases z)) I5.bk,
          bs := lines_chg I5.bs c6, cn := kp _ _ hqc.symm I5.cn, pg := kp _ _ hqp.symm I5.pg,
          pt := I5.pt.keep (fun _ h => h) (fun q2 w2 h2 _ _ _ _ => kp _ _ (nq h2 (by intro z; cases z)) h2) (fun b w2 r => lines_chg r c6), n3 := I5.n3, m6 := I5.m6, l4 := I5.l4, l5 := I5.l5,
          ct := ⟨fun m hm => (by
                  have hne : ¬ m = n := by rintro rfl; rw [hv5] at hm; cases hm
                  show (if m = n then _ else h.cnt m) = []
                  rw [if_neg hne]; exact I5.ct.no m hm),
                fun m v hm => (by
                  obtain ⟨q2, e2, h2, h3, h4⟩ := I5.ct.yes m v hm
                  refine ⟨q2, e2, ?_, h3, h4⟩
                  show _ = some (HO.dK ((if m = n then addG g (h.cnt n) else h.cnt m).map gv))
                  by_cases z : m = n
                  · subst z
                    rw [hv5] at hm
                    cases hm
                    cases e2
                    rw [if_pos rfl, upd_same]
                  · rw [if_neg z]
                    exact kp _ _ (by rintro rfl; rw [e2] at hm; exact z (I5.ct.inj _ _ _ hm hv5)) h2), I5.ct.inj⟩,
          n1 := I5.n1, n2 := I5.n2, m1 := I5.m1, m2 := I5.m2, m3 := I5.m3, m4 := I5.m4, m5 := I5.m5, trk := trk_upd I5.trk, l1 := Nat.le_succ_of_le I5.l1, l2 := Nat.le_succ_of_le I5.l2,
          l3 := fun m => (by
            show (if m = n then addG g (h.cnt n) else h.cnt m).length ≤ N + 2
            have h1 := I5.l3 m
            have h2 := I5.l3 n
            have h3 := addG_len g (h.cnt n)
            split <;> omega),
          okb := I5.okb }
      have m6 : Move C p H1 R1 (upd H5 q (.dK ((addG g (h.cnt n)).map gv))) (h.count g n) R5 (N + 2) := ⟨⟨_, _, _, _, _, _, _, I6⟩, c5.grow g5 c6, g5, sb5⟩
      have gq6 : upd H5 q (.dK ((addG g (h.cnt n)).map gv)) q = some (.dK ((addG g (h.cnt n)).map gv)) := upd_same
      have ob6 := I6.ob
      have ot6 := I6.ot
      have k6 := k1.after m6
      generalize upd H5 q (.dK ((addG g (h.cnt n)).map gv)) = H6 at *
      walk_at "go"
      by_cases e2 : (addG g (h.cnt n)).length < h.oth.length
      · rw [if_pos (by simp only [List.length_map, decide_eq_true_eq]; show ((addG g (h.cnt n)).length : Int) < (h.oth.length : Int); omega)]
        simp only [if_pos e2] at k6
        walk_at "goA"
        rename_i l hl H7 s7 g7
        rw [hrt]
        exact k6.nil m6.at_ (by omega) s7 hl g7
      · rw [if_neg (by simp only [List.length_map, decide_eq_true_eq]; show ¬ ((addG g (h.cnt n)).length : Int) < (h.oth.length : Int); omega)]
        simp only [if_neg e2] at k6
        walk_at "go"
        rw [hrt]
        exact ⟨p, n, "bound", h.count g n, R5, N + 2, rfl, m6.at_, by omega, hol, okS (by simp), k6⟩
    have cn1 := I1.cn
    walk_at "go"
    walk_at "new"
    rename_i p1 hp1 H2 s2 g2
    have I2 := I1.same s2
    refine ⟨kvs.kvs, Sum.inl n, I2.cn, rfl, len_small (by have := I2.l2; omega), fun v hv => ?_, fun hn => ?_⟩
    · obtain ⟨q, rfl, _⟩ := I2.ct.yes _ _ hv
      walk_at "st"
      exact after q H2 R1 kvs _ rfl (I2.more (by omega)) (.of_same s2) (.refl _ _) (fun _ h => h) hv
    · walk_at "st"
      have n1c : p1 ≠ pc := (ne_new hp1 cn1).symm
      have hval : ∀ m : Int, valV (putK kvs.kvs (Sum.inl n : Key) (V.ref p1)) (Sum.inl m : Key) = if m = n then some (.ref p1) else valV kvs.kvs (Sum.inl m : Key) := fun m => by
        rw [valV_put]
        by_cases z : m = n
        · subst z; simp
        · rw [if_neg z, if_neg (by intro y; exact z (Sum.inl.inj y))]
      have c3 : Chg R1 H2 (upd H2 pc (.dK (putK kvs.kvs (Sum.inl n : Key) (V.ref p1)))) := .set (by rw [I2.cn]; exact True.intro) I2.m5
      have kp : ∀ a o, a ≠ pc → H2 a = some o → upd H2 pc (.dK (putK kvs.kvs (Sum.inl n : Key) (V.ref p1))) a = some o := fun a o e z => upd_at e z
      have nq : ∀ {a : Addr} {o : HO}, H2 a = some o → o ≠ .dK kvs.kvs → a ≠ pc := fun z1 z2 => ne_of z1 I2.cn z2
      refine after p1 _ (p1 :: R1) { kvs with kvs := putK kvs.kvs (Sum.inl n : Key) (V.ref p1) } _ rfl ?_ ((Chg.of_same s2).trans c3) (fun a ha => ?_) (fun _ h => List.mem_cons_of_mem _ h) (by rw [hval, if_pos rfl])
      · exact { ob := kp _ _ (nq I2.ob (by intro z; cases z)) I2.ob, ot := kp _ _ (nq I2.ot (by intro z; cases z)) I2.ot, ag := kp _ _ (nq I2.ag (by intro z; cases z)) I2.ag, bk := kp _ _ (nq I2.bk (by intro z; cases z)) I2.bk,
                bs := lines_chg I2.bs c3, cn := upd_same, pg := kp _ _ I2.n3.symm I2.pg,
                pt := I2.pt.keep (fun _ h => List.mem_cons_of_mem _ h) (fun q2 w2 h2 _ _ _ _ => kp _ _ (nq h2 (by intro z; cases z)) h2) (fun b w2 r => lines_chg r c3), n3 := I2.n3, m6 := List.mem_cons_of_mem _ I2.m6, l4 := I2.l4, l5 := I2.l5,
                ct := ⟨fun m hm => (by
                        rw [hval] at hm
                        by_cases z : m = n
                        · rw [if_pos z] at hm; cases hm
                        · rw [if_neg z] at hm; exact I2.ct.no m hm),
                      fun m v hm => (by
                        rw [hval] at hm
                        by_cases z : m = n
                        · rw [if_pos z] at hm
                          cases hm
                          subst z
                          exact ⟨p1, rfl, by rw [upd_ne n1c, g2, I2.ct.no _ hn]; rfl, by simp, n1c, (ne_new hp1 I1.pg).symm⟩
                        · rw [if_neg z] at hm
                          obtain ⟨q2, e2, h2, h3, h4⟩ := I2.ct.yes m v hm
                          exact ⟨q2, e2, kp _ _ h4.1 h2, by simp [h3], h4⟩),
                      fun m m2 q h1 h2 => (by
                        rw [hval] at h1 h2
                        have fresh : ∀ r, valV kvs.kvs (Sum.inl r : Key) = some (.ref p1) → False := fun r hr => by
                          obtain ⟨q2, e2, h3, _⟩ := I1.ct.yes r _ hr
                          cases e2
                          rw [hp1] at h3
                          cases h3
                        by_cases e1 : m = n
                        · by_cases e2 : m2 = n
                          · rw [e1, e2]
                          · rw [if_pos e1] at h1; rw [if_neg e2] at h2
                            cases h1
                            exact (fresh _ h2).elim
                        · by_cases e2 : m2 = n
                          · rw [if_neg e1] at h1; rw [if_pos e2] at h2
                            cases h2
                            exact (fresh _ h1).elim
                          · rw [if_neg e1] at h1; rw [if_neg e2] at h2
                            exact I2.ct.inj m m2 q h1 h2)⟩,
                n1 := I2.n1, n2 := I2.n2, m1 := by simp [I2.m1], m2 := by simp [I2.m2], m3 := by simp [I2.m3], m4 := by simp [I2.m4], m5 := by simp [I2.m5],
                trk := trk_upd fun a ha => (by
                  rcases List.mem_cons.mp ha with rfl | z
                  · exact ⟨_, g2⟩
                  · exact I2.trk a z),
                l1 := Nat.le_succ_of_le I2.l1, l2 := Nat.le_trans (length_putK _ _ _) (by have := I2.l2; omega), l3 := fun m => Nat.le_succ_of_le (I2.l3 m), okb := I2.okb }
      · rcases List.mem_cons.mp ha with rfl | z
        · exact .inr hp1
        · exact .inl z
def zsp0s (C : Addr) : Sp := fun vs H Q _ => ∃ p t l h R N, vs = [.ref p, .ref t] ∧ HouseAt C H p h R N ∧ Rd H t (.tup [.int l.1, .int l.2.1, .int l.2.2.1, .str l.2.2.2]) ∧ N ≤ 790000 ∧ h.oth.length ≤ 900000 ∧ PyData.strOk l.2.2.2 = true ∧ Ret C p H R (N + 3) (h.got l) Q
theorem in_yes_no (w : Str) : inV (.str w) [.str "yes", .str "no"] = decide (w = "yes" ∨ w = "no") := by
  have := in_strs w ["yes", "no"]
  simp only [List.map_cons, List.map_nil] at this
  rw [this]; simp [List.mem_cons]
theorem Ret.less {C p : Addr} {H : Hp} {R : List Addr} {N M : Nat} {r : HS × List Letter} {Q : VK} (k : Ret C p H R N r Q) (h : M ≤ N) : Ret C p H R M r Q := fun v H' R' m => k v H' R' (m.more h)
theorem zrd0s {K : PySem.W.Frag} {C : Addr} {vs : List V} {H : Hp} {Q : VK} {E : XK} (T : HouseTxt K C) (h : zsp0s C vs H Q E) :
    zR0s K (zsp09 C) (zsp03 C) (zsp06 C) (zsp00 C) C { nx := fun _ H' => Q .non H', rt := Q } (start ["self", "letter", "giver", "bargain", "word"] vs) H := by
  obtain ⟨p, t, ⟨g, to, n, w⟩, h, R, N, rfl, I, gt, hN, hol, okw, k⟩ := h
  obtain ⟨dx, po, pa, pk, pc, xs, kvs, I0⟩ := id I
  have ob := I0.ob
  unfold zR0s
  unfold HS.got at k
  dsimp only at gt okw k
  walk_at "go"
  by_cases e1 : w = "ask"
  · rw [if_pos (by simp [e1])]
    rw [if_pos e1] at k
    walk_at "go"
    exact ⟨p, g, n, h, R, N, rfl, I, by omega, k.less (by omega)⟩
  rw [if_neg (by simp [e1])]
  rw [if_neg e1] at k
  walk_at "go"
  by_cases e2 : w = "query"
  · rw [if_pos (by simp [e2])]
    rw [if_pos e2] at k
    walk_at "go"
    exact ⟨p, g, n, h, R, N, rfl, I, by omega, hol, k.less (by omega)⟩
  rw [if_neg (by simp [e2])]
  rw [if_neg e2] at k
  walk_at "goA"
  rename_i q hq H1 s1 g1
  show if (if false = true then _ else inV (.str w) _) = true then _ else _
  rw [if_neg (by decide : ¬ (false = true)), in_yes_no]
  have k1 := k.same I s1
  have ob1 := s1 _ _ ob
  by_cases e3 : w = "yes" ∨ w = "no"
  · rw [if_pos (decide_eq_true e3)]
    rw [if_pos e3] at k1
    walk_at "go"
    exact ⟨p, g, n, w, h, R, N, rfl, I.same s1, hN, hol, k1⟩
  · rw [if_neg (by simpa using e3)]
    rw [if_neg e3] at k1
    walk_at "go"
    exact ⟨p, n, w, h, R, N, rfl, I.same s1, by omega, okw, k1.less (by omega)⟩
structure Made (C : Addr) (H : Hp) (p dx : Addr) (fs : List (Str × V)) (H' : Hp) : Prop where
  ob : H' p = some (.ins C dx fs)
  chg : Chg [p] H H'
  free : ∀ b, H' b = none → H b = none
theorem Made.same {C : Addr} {H : Hp} {p dx : Addr} {fs : List (Str × V)} {H' H2 : Hp} (m : Made C H p dx fs H') (s : Same H' H2) : Made C H p dx fs H2 := ⟨s _ _ m.ob, m.chg.trans (.of_same s), fun b hb => m.free b (s.free hb)⟩
theorem Made.put {C : Addr} {H : Hp} {p dx : Addr} {fs : List (Str × V)} {H' : Hp} (m : Made C H p dx fs H') (gs : List (Str × V)) : Made C H p dx gs (upd H' p (.ins C dx gs)) :=
  ⟨upd_same, m.chg.trans (.set (by rw [m.ob]; exact True.intro) (by simp)), fun b hb => by
    by_cases e : b = p
    · rw [e, upd_same] at hb; cases hb
    · rw [upd_ne e] at hb; exact m.free b hb⟩
theorem Made.keep {C : Addr} {H : Hp} {p dx : Addr} {fs gs : List (Str × V)} {H' : Hp} (m : Made C H p dx fs H') {b : Addr} {o : HO} (e : H' b = some o) (n : o ≠ .ins C dx fs) : upd H' p (.ins C dx gs) b = some o := upd_at (ne_of e m.ob n) e
def fgt (pc pp : Addr) (fs : List (Str × V)) : List (Str × V) := putF "lines_read" (.int 0) (putF "pages" (.ref pp) (putF "counted" (.ref pc) fs))
def zsp0c (C : Addr) : Sp := fun vs H Q _ => ∃ p dx fs, vs = [.ref p] ∧ H p = some (.ins C dx fs) ∧ fs.length < 900 ∧
  ∀ pc pp H', H pc = none → H pp = none → pc ≠ pp → H' pc = some (.dK []) → H' pp = some (.dK []) → Made C H p dx (fgt pc pp fs) H' → Q .non H'
theorem zrd0c {K : PySem.W.Frag} {C : Addr} {vs : List V} {H : Hp} {Q : VK} {E : XK} (T : HouseTxt K C) (h : zsp0c C vs H Q E) : zR0c K { nx := fun _ H' => Q .non H', rt := Q } (start ["self"] vs) H := by
  obtain ⟨p, dx, fs, rfl, ob, hl, k⟩ := h
  unfold zR0c
  have M0 : Made C H p dx fs H := ⟨ob, .refl _ _, fun _ h => h⟩
  have l1 := length_putF "counted"
  have l2 := length_putF "pages"
  walk_at "go"
  walk_at "new"
  rename_i pc hpc H1 s1 g1
  have M1 := M0.same s1
  walk_at "go"
  refine ⟨p, C, dx, _, rfl, M1.ob, T.cl, T.f6, by omega, ?_⟩
  have M2 := M1.put (putF "counted" (.ref pc) fs)
  have g2 := M1.keep (gs := putF "counted" (.ref pc) fs) g1 (by intro z; cases z)
  generalize upd H1 p (.ins C dx (putF "counted" (.ref pc) fs)) = H2 at *
  walk_at "go"
  walk_at "new"
  rename_i pp hpp H3 s3 g3
  have M3 := M2.same s3
  have g3c := s3 _ _ g2
  have nn : pc ≠ pp := ne_new hpp g2
  walk_at "go"
  refine ⟨p, C, dx, _, rfl, M3.ob, T.cl, T.f7, by have := l1 (.ref pc) fs; omega, ?_⟩
  have M4 := M3.put (putF "pages" (.ref pp) (putF "counted" (.ref pc) fs))
  have g4c := M3.keep (gs := putF "pages" (.ref pp) (putF "counted" (.ref pc) fs)) g3c (by intro z; cases z)
  have g4p := M3.keep (gs := putF "pages" (.ref pp) (putF "counted" (.ref pc) fs)) g3 (by intro z; cases z)
  generalize upd H3 p (.ins C dx (putF "pages" (.ref pp) (putF "counted" (.ref pc) fs))) = H4 at *
  walk_at "go"
  refine ⟨p, C, dx, _, rfl, M4.ob, T.cl, T.f8, by have h1 := l1 (.ref pc) fs; have h2 := l2 (.ref pp) (putF "counted" (.ref pc) fs); omega, ?_⟩
  exact k pc pp _ hpc (M2.free _ hpp) nn (M4.keep (gs := fgt pc pp fs) g4c (by intro z; cases z)) (M4.keep (gs := fgt pc pp fs) g4p (by intro z; cases z)) (M4.put (fgt pc pp fs))
theorem hfs_awake (num : Int) (po pa pk : Addr) (u v : Bool) (pc pp : Addr) (nr : Nat) : putF "awake" (.bl v) (hfs num po pa pk u pc pp nr) = hfs num po pa pk v pc pp nr := by with_unfolding_all rfl
theorem hfs_fgt (num : Int) (po pa pk : Addr) (u : Bool) (pc pp : Addr) (nr : Nat) (qc qp : Addr) : fgt qc qp (hfs num po pa pk u pc pp nr) = hfs num po pa pk u qc qp 0 := by with_unfolding_all rfl
theorem HouseIn.put {C : Addr} {H : Hp} {p : Addr} {h : HS} {R : List Addr} {N : Nat} {dx po pa pk pc : Addr} {xs : List V} {z : Pg} (I : HouseIn C H p h R N dx po pa pk pc xs z) (u : Bool) :
    HouseIn C (upd H p (.ins C dx (hfs h.num po pa pk u pc z.pp z.nr))) p { h with up := u } R N dx po pa pk pc xs z := by
  have kp : ∀ a o, a ≠ p → H a = some o → upd H p (.ins C dx (hfs h.num po pa pk u pc z.pp z.nr)) a = some o := fun a o e z => upd_at e z
  have nq : ∀ {a : Addr} {o : HO}, H a = some o → o ≠ .ins C dx (hfs h.num po pa pk h.up pc z.pp z.nr) → a ≠ p := fun z1 z2 => ne_of z1 I.ob z2
  have c : Chg R H (upd H p (.ins C dx (hfs h.num po pa pk u pc z.pp z.nr))) := .set (by rw [I.ob]; exact True.intro) I.m1
  exact { ob := upd_same, ot := kp _ _ (nq I.ot (by intro z; cases z)) I.ot, ag := kp _ _ (nq I.ag (by intro z; cases z)) I.ag, bk := kp _ _ (nq I.bk (by intro z; cases z)) I.bk, bs := lines_chg I.bs c, cn := kp _ _ (nq I.cn (by intro z; cases z)) I.cn, pg := kp _ _ (nq I.pg (by intro z; cases z)) I.pg,
          ct := ⟨I.ct.no, fun n v hv => (by obtain ⟨q, e, h1, h2⟩ := I.ct.yes n v hv; exact ⟨q, e, kp _ _ (nq h1 (by intro z; cases z)) h1, h2⟩), I.ct.inj⟩,
          pt := I.pt.keep (fun _ h => h) (fun q2 w2 h2 _ _ _ _ => kp _ _ (nq h2 (by intro z; cases z)) h2) (fun b w2 r => lines_chg r c),
          n1 := I.n1, n2 := I.n2, n3 := I.n3, m1 := I.m1, m2 := I.m2, m3 := I.m3, m4 := I.m4, m5 := I.m5, m6 := I.m6, trk := trk_upd I.trk, l1 := I.l1, l2 := I.l2, l3 := I.l3, l4 := I.l4, l5 := I.l5, okb := I.okb }
def zsp0o (C : Addr) : Sp := fun vs H Q _ => ∃ p h R N, vs = [.ref p] ∧ HouseAt C H p h R N ∧ ∀ H' R', Move C p H R H' h.stop R' N → Q .non H'
theorem zrd0o {K : PySem.W.Frag} {C : Addr} {vs : List V} {H : Hp} {Q : VK} {E : XK} (T : HouseTxt K C) (h : zsp0o C vs H Q E) : zR0o K (zsp0c C) C { nx := fun _ H' => Q .non H', rt := Q } (start ["self"] vs) H := by
  obtain ⟨p, h, R, N, rfl, ⟨dx, po, pa, pk, pc, xs, z, I⟩, k⟩ := h
  unfold zR0o
  walk_at "go"
  refine ⟨p, C, dx, _, rfl, I.ob, T.cl, T.f5, (by show 8 < 1000; decide), ?_⟩
  rw [hfs_awake]
  have I1 := I.put false
  have c1 : Chg R H (upd H p (.ins C dx (hfs h.num po pa pk false pc z.pp z.nr))) := .set (by rw [I.ob]; exact True.intro) I.m1
  generalize upd H p (.ins C dx (hfs h.num po pa pk false pc z.pp z.nr)) = H1 at *
  have ob1 := I1.ob
  walk_at "go"
  refine ⟨p, dx, _, rfl, ob1, (by show 8 < 900; decide), fun qc qp H2 hqc hqp nn gc gp M => ?_⟩
  have ob2 := M.ob
  rw [hfs_fgt] at ob2
  have np : ∀ {a : Addr} {o : HO}, H1 a = some o → (∀ D fs, o ≠ .ins C D fs) → ¬ a ∈ [p] := fun z1 z2 y => by rw [List.mem_singleton.mp y, ob1] at z1; cases z1; exact z2 _ _ rfl
  have kp : ∀ {a : Addr} {o : HO}, H1 a = some o → (∀ D fs, o ≠ .ins C D fs) → H2 a = some o := fun z1 z2 => M.chg.keep _ _ z1 (np z1 z2)
  have trk2 : ∀ a ∈ R, ∃ o, H2 a = some o := fun a ha => by
    cases e : H2 a with
    | some o => exact ⟨o, rfl⟩
    | none => obtain ⟨o, e'⟩ := I1.trk a ha; rw [M.free a e] at e'; cases e'
  have fr : ∀ {a : Addr}, H1 a = none → H a = none := fun {a} hq => by
    cases e : H a with
    | none => rfl
    | some o =>
      by_cases m : a ∈ R
      · obtain ⟨o', e'⟩ := I1.trk a m
        rw [hq] at e'; cases e'
      · rw [c1.keep a o e m] at hq; cases hq
  refine k _ (qc :: qp :: R) ⟨⟨dx, po, pa, pk, qc, xs, ⟨[], qp, 0, []⟩, ?_⟩, c1.trans (M.chg.mono fun b hb => by rw [List.mem_singleton.mp hb]; exact I.m1), fun a ha => ?_, fun _ h => List.mem_cons_of_mem _ (List.mem_cons_of_mem _ h)⟩
  · exact { ob := ob2, ot := kp I1.ot (by intro _ _ z; cases z), ag := kp I1.ag (by intro _ _ z; cases z), bk := kp I1.bk (by intro _ _ z; cases z), bs := lines_chg I1.bs M.chg, cn := gc, pg := gp,
            ct := ⟨fun _ _ => rfl, fun _ _ z => (by cases z), fun _ _ _ z => (by cases z)⟩, pt := ⟨fun _ _ => rfl, fun _ _ z => (by cases z), fun _ _ _ z => (by cases z)⟩, n1 := I1.n1, n2 := I1.n2, n3 := nn, m1 := by simp [I1.m1], m2 := by simp [I1.m2], m3 := by simp [I1.m3], m4 := by simp [I1.m4], m5 := by simp, m6 := by simp,
            trk := fun a ha => (by
              rcases List.mem_cons.mp ha with rfl | y
              · exact ⟨_, gc⟩
              rcases List.mem_cons.mp y with rfl | y
              · exact ⟨_, gp⟩
              · exact trk2 a y),
            l1 := I1.l1, l2 := Nat.zero_le _, l3 := fun _ => Nat.zero_le _, l4 := Nat.le_refl _, l5 := Nat.zero_le _, okb := I1.okb }
  · rcases List.mem_cons.mp ha with rfl | y
    · exact .inr (fr hqc)
    rcases List.mem_cons.mp y with rfl | y
    · exact .inr (fr hqp)
    · exact .inl y
def zsp0l (C : Addr) : Sp := fun vs H Q _ => ∃ p h R N, vs = [.ref p] ∧ HouseAt C H p h R N ∧ N ≤ 780000 ∧ (leftOpen h.book).length ≤ 10000 ∧ h.oth.length ≤ 20 ∧ Ret C p H R (N + (leftOpen h.book).length) h.wake Q
theorem offAll_snoc (h : HS) (ns : List Int) (n : Int) : h.offAll (ns ++ [n]) = (((h.offAll ns).1.decide n "off").1, (h.offAll ns).2 ++ ((h.offAll ns).1.decide n "off").2) := by
  induction ns generalizing h with
  | nil => simp [HS.offAll]
  | cons x r ih => simp [HS.offAll, ih]
theorem offAll_oth (h : HS) (ns : List Int) : (h.offAll ns).1.oth = h.oth := by
  induction ns generalizing h with
  | nil => rfl
  | cons x r ih => exact ih _
theorem offAll_len (h : HS) (ns : List Int) : (h.offAll ns).2.length = ns.length * h.oth.length := by
  induction ns generalizing h with
  | nil => simp [HS.offAll]
  | cons x r ih =>
    show ((h.decide x "off").2 ++ ((h.decide x "off").1.offAll r).2).length = _
    rw [List.length_append, ih]
    show (h.oth.map _).length + r.length * h.oth.length = _
    rw [List.length_map, List.length_cons, Nat.succ_mul, Nat.add_comm]
theorem letters_app {H : Hp} {S : List Addr} {xs ys : List V} {a b : List Letter} (r : Reps H S xs (a.map letterD)) (q : Reps H S ys (b.map letterD)) : Reps H S (xs ++ ys) ((a ++ b).map letterD) := by rw [List.map_append]; exact r.append q
theorem zrd0l {K : PySem.W.Frag} {C : Addr} {vs : List V} {H : Hp} {Q : VK} {E : XK} (T : HouseTxt K C) (h : zsp0l C vs H Q E) : zR0l K zsp0t (zsp0e C) C { nx := fun _ H' => Q .non H', rt := Q } (start ["self", "undecided", "sent", "bargain"] vs) H := by
  obtain ⟨p, h, R, N, rfl, ⟨dx, po, pa, pk, pc, xs, kvs, I⟩, hN, hlt, hol, k⟩ := h
  obtain ⟨cl, f1, f2, f3, f4, f5, f6, f7, f8⟩ := T
  unfold zR0l
  walk_at "go"
  refine ⟨p, C, dx, _, rfl, I.ob, cl, f5, (by show 8 < 1000; decide), ?_⟩
  rw [hfs_awake]
  have I1 := I.put true
  have c1 : Chg R H (upd H p (.ins C dx (hfs h.num po pa pk true pc kvs.pp kvs.nr))) := .set (by rw [I.ob]; exact True.intro) I.m1
  generalize upd H p (.ins C dx (hfs h.num po pa pk true pc kvs.pp kvs.nr)) = H1 at *
  have ob1 := I1.ob
  walk_at "go"
  refine ⟨pk, h.book, rfl, I1.rep, Nat.le_trans I1.l1 (by omega), fun pl H2 hpl s2 g2 => ?_⟩
  have I2 := I1.same s2
  have m2 : Move C p H R H2 { h with up := true } R N := ⟨⟨_, _, _, _, _, _, _, I2⟩, c1.trans (.of_same s2), .refl _ _, fun _ h => h⟩
  walk_at "go"
  walk_at "new"
  rename_i ps hps H3 s3 g3
  have g3l := s3 _ _ g2
  have npl : pl ≠ ps := ne_new hps g2
  have k2 := k.after m2
  have hlo : (leftOpen h.book).length ≤ N := by
    unfold leftOpen
    rw [List.length_map]
    exact Nat.le_trans (List.length_filter_le _ _) I.l1
  walk_at "go"
  refine for_list (K := K) (a := pl) (xs := (leftOpen h.book).map .int) (fun i σ H' => ∃ v ys R', σ = [some (.ref p), some (.ref pl), some (.ref ps), v] ∧ HouseAt C H' p (({ h with up := true } : HS).offAll ((leftOpen h.book).take i)).1 R' (N + i) ∧ Chg R H2 H' ∧ (Grow R H2 R' ∧ ∀ a ∈ R, a ∈ R') ∧
      H' ps = some (.lst ys) ∧ ¬ ps ∈ R' ∧ Reps H' [] ys ((({ h with up := true } : HS).offAll ((leftOpen h.book).take i)).2.map letterD) ∧ H' pl = some (.lst ((leftOpen h.book).map .int)))
    ⟨none, [], R, rfl, ⟨_, _, _, _, _, _, _, I2.same s3⟩, .of_same s3, ⟨.refl _ _, fun _ h => h⟩, g3, notin_new I2.trk hps, .nil, g3l⟩ ?_ ?_ ?_
  · rintro i σ H' hi ⟨v, ys, R', rfl, J, c, ⟨g, sb⟩, gs, ns, rs, gl⟩
    exact sqL gl
  · rintro i x σ H4 hx ⟨v, ys, R', rfl, J, c, ⟨g, sb⟩, gs, ns, rs, gl⟩
    rw [List.getElem?_map] at hx
    cases hk : (leftOpen h.book)[i]? with
    | none => rw [hk] at hx; cases hx
    | some z =>
      rw [hk] at hx
      have e : V.int z = x := Option.some.inj hx
      subst e
      have hi : i < (leftOpen h.book).length := (List.getElem?_eq_some_iff.mp hk).1
      obtain ⟨dx4, po4, pa4, pk4, pc4, xs4, kvs4, I4⟩ := id J
      have ob4 := I4.ob
      walk_at "go"
      refine ⟨.inl ⟨rfl, _, sqL gs⟩, ?_⟩
      walk_at "go"
      refine ⟨p, z, "off", _, R', N + i, rfl, J, by omega, by rw [offAll_oth]; show h.oth.length ≤ 900000; omega, okS (by simp), ?_⟩
      intro v' H5 R5 m5 rep5 _
      obtain ⟨a5, zs, rfl, g5, ni5, rs5⟩ := rep5
      have gs5 := m5.chg.keep _ _ gs ns
      have ns5 : ¬ ps ∈ R5 := fun y => (m5.gr _ y).elim ns fun q => by rw [gs] at q; cases q
      have npl5 : ¬ pl ∈ R' := fun y => (g _ y).elim (notin_new I1.trk hpl) fun q => by rw [g2] at q; cases q
      have gl5 := m5.chg.keep _ _ gl npl5
      have ly : ys.length = i * h.oth.length := by
        rw [rs.length, List.length_map, offAll_len, List.length_take, Nat.min_eq_left (Nat.le_of_lt hi)]
      have lz : zs.length = h.oth.length := by
        rw [rs5.length, List.length_map]
        show (List.map _ _).length = _
        rw [List.length_map, offAll_oth]
      have hsz : ys.length + zs.length ≤ sizeLine := by
        have h1 : i * h.oth.length ≤ 10000 * 20 := Nat.mul_le_mul (by omega) hol
        rw [sizeLine_eq]
        omega
      walk_at "go"
      refine st_extend gs5 g5 hsz ?_
      have cp : Chg [ps] H5 (upd H5 ps (.lst (ys ++ zs))) := .set (by rw [gs5]; exact True.intro) (by simp)
      refine ⟨_, _, R5, rfl, ?_, (c.grow g m5.chg).put hps, ⟨g.trans c m5.gr, fun x hx => m5.sb x (sb x hx)⟩, upd_same, ns5, ?_, upd_at npl gl5⟩
      · rw [take_snoc hk, offAll_snoc]
        exact m5.at_.chg cp fun a ha y => by rw [List.mem_singleton.mp y] at ha; exact ns5 ha
      · rw [take_snoc hk, offAll_snoc]
        exact letters_app (letters_chg (letters_chg rs m5.chg) cp) (letters_any (letters_chg rs5 cp))
  · rintro σ H4 ⟨v, ys, R', rfl, J, c, ⟨g, sb⟩, gs, ns, rs, gl⟩
    walk_at "go"
    rw [List.length_map, List.take_length] at J rs
    exact k2 _ _ _ ⟨J.more (by omega), c, g, sb⟩ ⟨_, _, rfl, gs, ns, letters_any rs⟩ (by rintro _ ⟨⟩; exact hps)
def othersOf (num : Int) (count : Nat) : List Int := ((List.range count).map fun (k : Nat) => (k : Int)).filter fun k => !decide (k = num)
def newHS (num : Int) (count : Nat) (agn : List Int) : HS := ⟨num, othersOf num count, agn, [], true, fun _ => []⟩
theorem othersOf_le (num : Int) (count : Nat) : (othersOf num count).length ≤ count := by
  unfold othersOf
  refine Nat.le_trans (List.length_filter_le _ _) ?_
  rw [List.length_map, List.length_range]; exact Nat.le_refl _
theorem others_snoc (num : Int) (i : Nat) : othersOf num (i + 1) = if (i : Int) = num then othersOf num i else othersOf num i ++ [(i : Int)] := by
  unfold othersOf
  rw [List.range_succ, List.map_append, List.filter_append]
  by_cases e : (i : Int) = num
  · simp [e]
  · simp [e]
def zsp0m (C : Addr) : Sp := fun vs H Q _ => ∃ (p dx a : Addr) (num : Int) (count : Nat) (agn : List Int), vs = [.ref p, .int num, .int count, .ref a] ∧ H p = some (.ins C dx []) ∧ count ≤ 900000 ∧ Rd H a (.lst (agn.map .int)) ∧
  ∀ H' R', HouseAt C H' p (newHS num count agn) R' 0 → Chg [p] H H' → (∀ b ∈ R', b = p ∨ H b = none) → Q .non H'
def fl1 (a : V) : List (Str × V) := [("number", a)]
def fl2 (a b : V) : List (Str × V) := [("number", a), ("others", b)]
def fl3 (a b c : V) : List (Str × V) := [("number", a), ("others", b), ("against", c)]
def fl4 (a b c d : V) : List (Str × V) := [("number", a), ("others", b), ("against", c), ("book", d)]
def fl5 (a b c d e : V) : List (Str × V) := [("number", a), ("others", b), ("against", c), ("book", d), ("awake", e)]
theorem putF1 (v : V) : putF "number" v [] = fl1 v := rfl
theorem putF2 (a v : V) : putF "others" v (fl1 a) = fl2 a v := by with_unfolding_all rfl
theorem putF3 (a b v : V) : putF "against" v (fl2 a b) = fl3 a b v := by with_unfolding_all rfl
theorem putF4 (a b c v : V) : putF "book" v (fl3 a b c) = fl4 a b c v := by with_unfolding_all rfl
theorem putF5 (a b c d v : V) : putF "awake" v (fl4 a b c d) = fl5 a b c d v := by with_unfolding_all rfl
theorem fl5_fgt (num : Int) (po pa pk : Addr) (u : Bool) (pc pp : Addr) : fgt pc pp (fl5 (.int num) (.ref po) (.ref pa) (.ref pk) (.bl u)) = hfs num po pa pk u pc pp 0 := by with_unfolding_all rfl
theorem zrd0m {K : PySem.W.Frag} {C : Addr} {vs : List V} {H : Hp} {Q : VK} {E : XK} (T : HouseTxt K C) (h : zsp0m C vs H Q E) : zR0m K (zsp0c C) C { nx := fun _ H' => Q .non H', rt := Q } (start ["self", "number", "count", "against"] vs) H := by
  obtain ⟨p, dx, a, num, count, agn, rfl, ob, hc, ha, k⟩ := h
  have nap : a ≠ p := by
    rintro rfl
    rcases ha with z | ⟨o, z⟩ <;> (rw [ob] at z; cases z)
  unfold zR0m
  have M0 : Made C H p dx [] H := ⟨ob, .refl _ _, fun _ h => h⟩
  walk_at "go"
  refine ⟨p, C, dx, _, rfl, ob, T.cl, T.f1, (by show 0 < 1000; decide), ?_⟩
  rw [putF1]
  have M1 := M0.put (fl1 (.int num))
  have ha1 : Rd (upd H p (.ins C dx (fl1 (.int num)))) a (.lst (agn.map .int)) := ha.upd nap
  generalize upd H p (.ins C dx (fl1 (.int num))) = H1 at *
  walk_at "go"
  refine st_itr (by omega) ?_
  intro po hpo
  refine lc_range (n := count) (fun i ys σ H' => ∃ v, σ = [v, some (.int num)] ∧ H' = upd H1 po (.lst ys) ∧ ys = (othersOf num i).map .int) ⟨none, rfl, rfl, rfl⟩ ?_ ?_
  · rintro i ys σ H' hi hp' ⟨v, rfl, rfl, rfl⟩
    walk_at "go"
    have e0 : ((0 : Int) + (i : Int)) = (i : Int) := Int.zero_add _
    by_cases e : (i : Int) = num
    · rw [if_neg (by simp [e0, e])]
      exact ⟨_, upd_same, _, rfl, rfl, by rw [others_snoc, if_pos e]⟩
    · rw [if_pos (by simp [e0, e])]
      walk_at "go"
      refine ⟨_, upd_same, len_small (by rw [List.length_map]; exact Nat.le_trans (othersOf_le _ _) (by omega)), _, upd_same, _, rfl, upd_upd, ?_⟩
      rw [others_snoc, if_neg e, List.map_append, e0]; rfl
  rintro ys σ H2 g2 ⟨v, rfl, hH2, rfl⟩
  have s2 : Same H1 H2 := by rw [hH2]; exact Same.new hpo
  clear hH2
  have M2 := M1.same s2
  have ha2 := ha1.same s2
  have po0 : H po = none := M1.free _ hpo
  walk_at "go"
  refine ⟨p, C, dx, _, rfl, M2.ob, T.cl, T.f2, (by show 1 < 1000; decide), ?_⟩
  rw [putF2]
  have M3 := M2.put (fl2 (.int num) (.ref po))
  have g3 := M2.keep (gs := (fl2 (.int num) (.ref po))) g2 (by intro z; cases z)
  have ha3 : Rd (upd H2 p (.ins C dx (fl2 (.int num) (.ref po)))) a (.lst (agn.map .int)) := ha2.upd nap
  generalize upd H2 p (.ins C dx (fl2 (.int num) (.ref po))) = H3 at *
  walk_at "go"
  walk_at "new"
  rename_i pa hpa H4 s4 g4
  have M4 := M3.same s4
  have g4o := s4 _ _ g3
  have pa0 : H pa = none := M3.free _ hpa
  walk_at "go"
  refine ⟨p, C, dx, _, rfl, M4.ob, T.cl, T.f3, (by show 2 < 1000; decide), ?_⟩
  rw [putF3]
  have M5 := M4.put (fl3 (.int num) (.ref po) (.ref pa))
  have g5o := M4.keep (gs := (fl3 (.int num) (.ref po) (.ref pa))) g4o (by intro z; cases z)
  have g5a := M4.keep (gs := (fl3 (.int num) (.ref po) (.ref pa))) g4 (by intro z; cases z)
  generalize upd H4 p (.ins C dx (fl3 (.int num) (.ref po) (.ref pa))) = H5 at *
  walk_at "go"
  walk_at "new"
  rename_i pk hpk H6 s6 g6
  have M6 := M5.same s6
  have pk0 : H pk = none := M5.free _ hpk
  have n1 : po ≠ pk := ne_new hpk g5o
  have n2 : pa ≠ pk := ne_new hpk g5a
  walk_at "go"
  refine ⟨p, C, dx, _, rfl, M6.ob, T.cl, T.f4, (by show 3 < 1000; decide), ?_⟩
  rw [putF4]
  have M7 := M6.put (fl4 (.int num) (.ref po) (.ref pa) (.ref pk))
  have g7o := M6.keep (gs := (fl4 (.int num) (.ref po) (.ref pa) (.ref pk))) (s6 _ _ g5o) (by intro z; cases z)
  have g7a := M6.keep (gs := (fl4 (.int num) (.ref po) (.ref pa) (.ref pk))) (s6 _ _ g5a) (by intro z; cases z)
  have g7k := M6.keep (gs := (fl4 (.int num) (.ref po) (.ref pa) (.ref pk))) g6 (by intro z; cases z)
  generalize upd H6 p (.ins C dx (fl4 (.int num) (.ref po) (.ref pa) (.ref pk))) = H7 at *
  walk_at "go"
  refine ⟨p, C, dx, _, rfl, M7.ob, T.cl, T.f5, (by show 4 < 1000; decide), ?_⟩
  rw [putF5]
  have M8 := M7.put (fl5 (.int num) (.ref po) (.ref pa) (.ref pk) (.bl true))
  have g8o := M7.keep (gs := (fl5 (.int num) (.ref po) (.ref pa) (.ref pk) (.bl true))) g7o (by intro z; cases z)
  have g8a := M7.keep (gs := (fl5 (.int num) (.ref po) (.ref pa) (.ref pk) (.bl true))) g7a (by intro z; cases z)
  have g8k := M7.keep (gs := (fl5 (.int num) (.ref po) (.ref pa) (.ref pk) (.bl true))) g7k (by intro z; cases z)
  generalize upd H7 p (.ins C dx (fl5 (.int num) (.ref po) (.ref pa) (.ref pk) (.bl true))) = H8 at *
  have ob8 := M8.ob
  walk_at "go"
  refine ⟨p, dx, _, rfl, ob8, (by show 5 < 900; decide), fun pc pp H9 hpc hpp nn gc gp M => ?_⟩
  have ob9 := M.ob
  rw [fl5_fgt] at ob9
  have pc0 : H pc = none := M8.free _ hpc
  have pp0 : H pp = none := M8.free _ hpp
  have np : ∀ {a : Addr} {o : HO}, H8 a = some o → (∀ D fs, o ≠ .ins C D fs) → ¬ a ∈ [p] := fun z1 z2 y => by rw [List.mem_singleton.mp y, ob8] at z1; cases z1; exact z2 _ _ rfl
  have kp : ∀ {a : Addr} {o : HO}, H8 a = some o → (∀ D fs, o ≠ .ins C D fs) → H9 a = some o := fun z1 z2 => M.chg.keep _ _ z1 (np z1 z2)
  have gAo := kp g8o (by intro _ _ z; cases z)
  have gAa := kp g8a (by intro _ _ z; cases z)
  have gAk := kp g8k (by intro _ _ z; cases z)
  refine k _ [p, po, pa, pk, pc, pp] ⟨dx, po, pa, pk, pc, [], ⟨[], pp, 0, []⟩, ?_⟩ (M8.chg.trans M.chg) (fun b hb => ?_)
  · exact { ob := ob9, ot := gAo, ag := gAa, bk := gAk, bs := .nil, cn := gc, pg := gp, ct := ⟨fun _ _ => rfl, fun _ _ z => (by cases z), fun _ _ _ z => (by cases z)⟩, pt := ⟨fun _ _ => rfl, fun _ _ z => (by cases z), fun _ _ _ z => (by cases z)⟩, n1 := n1, n2 := n2, n3 := nn,
            m1 := by simp, m2 := by simp, m3 := by simp, m4 := by simp, m5 := by simp, m6 := by simp,
            trk := fun b hb => (by
              simp only [List.mem_cons, List.not_mem_nil, or_false] at hb
              rcases hb with rfl | rfl | rfl | rfl | rfl | rfl
              · exact ⟨_, ob9⟩
              · exact ⟨_, gAo⟩
              · exact ⟨_, gAa⟩
              · exact ⟨_, gAk⟩
              · exact ⟨_, gc⟩
              · exact ⟨_, gp⟩),
            l1 := Nat.le_refl _, l2 := Nat.le_refl _, l3 := fun _ => Nat.le_refl _, l4 := Nat.le_refl _, l5 := Nat.le_refl _, okb := (by intro l hl; cases hl) }
  · simp only [List.mem_cons, List.not_mem_nil, or_false] at hb
    rcases hb with rfl | rfl | rfl | rfl | rfl | rfl
    · exact .inl rfl
    · exact .inr po0
    · exact .inr pa0
    · exact .inr pk0
    · exact .inr pc0
    · exact .inr pp0
def LLL (H : Hp) (R : List Addr) (v : V) (ls : List (List Letter)) : Prop := ∃ l ys, v = .ref l ∧ H l = some (.lst ys) ∧ ¬ l ∈ R ∧ Reps H R ys (ls.map lettersD)
theorem gotAll_snoc (h : HS) (ls : List Letter) (l : Letter) : h.gotAll (ls ++ [l]) = (((h.gotAll ls).1.got l).1, (h.gotAll ls).2 ++ [((h.gotAll ls).1.got l).2]) := by
  induction ls generalizing h with
  | nil => simp [HS.gotAll]
  | cons x r ih => simp [HS.gotAll, ih]
theorem gotAll_len (h : HS) (ls : List Letter) : (h.gotAll ls).2.length = ls.length := by
  induction ls generalizing h with
  | nil => rfl
  | cons x r ih => simp [HS.gotAll, ih]
theorem got_oth (h : HS) (l : Letter) : (h.got l).1.oth = h.oth := by
  unfold HS.got HS.gotAsk HS.asked HS.gotQuery HS.gotVote HS.gotDecision HS.decide HS.count HS.wr
  repeat' split
  all_goals rfl
theorem gotAll_oth (h : HS) (ls : List Letter) : (h.gotAll ls).1.oth = h.oth := by
  induction ls generalizing h with
  | nil => rfl
  | cons x r ih => exact (ih _).trans (got_oth h x)
theorem letter_at {H : Hp} {S : List Addr} {b : List Letter} {xs : List V} {i : Nat} {x : V} (rs : Reps H S xs (b.map letterD)) (hx : xs[i]? = some x) :
    ∃ l t, b[i]? = some l ∧ x = .ref t ∧ Rd H t (.tup [.int l.1, .int l.2.1, .int l.2.2.1, .str l.2.2.2]) := by
  obtain ⟨d, hd, rx⟩ := rs.get hx
  rw [List.getElem?_map] at hd
  cases hb : b[i]? with
  | none => rw [hb] at hd; cases hd
  | some l =>
    rw [hb] at hd
    have e : letterD l = d := Option.some.inj hd
    subst e
    obtain ⟨t, ys, rfl, rt, rs'⟩ := rx.tup_inv
    obtain ⟨y1, r1, rfl, h1, t1⟩ := rs'.cons_inv
    obtain ⟨y2, r2, rfl, h2, t2⟩ := t1.cons_inv
    obtain ⟨y3, r3, rfl, h3, t3⟩ := t2.cons_inv
    obtain ⟨y4, r4, rfl, h4, t4⟩ := t3.cons_inv
    cases t4.nil_inv
    rw [h1.int_inv, h2.int_inv, h3.int_inv, h4.str_inv] at rt
    exact ⟨l, t, rfl, rfl, rt⟩
def zsp0w (C : Addr) : Sp := fun vs H Q _ => ∃ p a ls xs h R N, vs = [.ref p, .ref a] ∧ HouseAt C H p h R N ∧ H a = some (.lst xs) ∧ ¬ a ∈ R ∧ Reps H [] xs (ls.map letterD) ∧ N + 3 * ls.length ≤ 790000 ∧ h.oth.length ≤ 900000 ∧ (∀ l ∈ ls, PyData.strOk l.2.2.2 = true) ∧
  ∀ v H' R', Move C p H R H' (h.gotAll ls).1 R' (N + 3 * ls.length) → LLL H' R' v (h.gotAll ls).2 → Q v H'
theorem zrd0w {K : PySem.W.Frag} {C : Addr} {vs : List V} {H : Hp} {Q : VK} {E : XK} (T : HouseTxt K C) (h : zsp0w C vs H Q E) : zR0w K (zsp0s C) C { nx := fun _ H' => Q .non H', rt := Q } (start ["house", "letters"] vs) H := by
  obtain ⟨p, a, ls, xs, h, R, N, rfl, I, ga, na, rs, hN, hol, ok, k⟩ := h
  have hxl : xs.length = ls.length := by rw [rs.length, List.length_map]
  unfold zR0w
  walk_at "go"
  intro q hq
  have trk : ∀ a ∈ R, ∃ o, H a = some o := by obtain ⟨dx, po, pa, pk, pc, xs, kvs, I⟩ := I; exact I.trk
  have nqa : a ≠ q := ne_new hq ga
  refine lc_list (K := K) (a := a) (xs := xs) (fun i ys σ H' => ∃ v R', σ = [v, some (.ref p)] ∧ HouseAt C H' p (h.gotAll (ls.take i)).1 R' (N + 3 * i) ∧ Chg R H H' ∧ (Grow R H R' ∧ ∀ a ∈ R, a ∈ R') ∧ ¬ q ∈ R' ∧ H' a = some (.lst xs) ∧ Reps H' (q :: R') ys ((h.gotAll (ls.take i)).2.map lettersD))
    ⟨none, R, rfl, I.same (Same.new hq), .new hq, ⟨.refl _ _, fun _ h => h⟩, notin_new trk hq, upd_at nqa ga, .nil⟩ ?_ ?_ ?_
  · rintro i ys σ H' hi hq' ⟨v, R', rfl, J, c, ⟨g, sb⟩, nq, gl, rr⟩
    exact sqL gl
  · rintro i x ys σ H1 hx hq' ⟨v, R', rfl, J, c, ⟨g, sb⟩, nq, gl, rr⟩
    obtain ⟨l, t, hb, rfl, rt⟩ := letter_at (letters_chg rs c) hx
    have hi : i < ls.length := (List.getElem?_eq_some_iff.mp hb).1
    obtain ⟨dx, po, pa, pk, pc, xs1, kvs, I1⟩ := id J
    have ob1 := I1.ob
    walk_at "go"
    rw [if_pos rfl]
    walk_at "go"
    refine ⟨p, t, l, _, R', N + 3 * i, rfl, J, rt, by omega, by rw [gotAll_oth]; exact hol, ok l (List.mem_of_getElem? hb), ?_⟩
    intro w H2 R2 m2 ⟨l2, zs, ew, g2, n2, rs2⟩ fw
    subst ew
    have gq2 := m2.chg.keep _ _ hq' nq
    have nq2 : ¬ q ∈ R2 := fun y => (m2.gr _ y).elim nq fun z => by rw [hq'] at z; cases z
    have na1 : ¬ a ∈ R' := fun y => (g _ y).elim na fun z => by rw [ga] at z; cases z
    have ga2 := m2.chg.keep _ _ gl na1
    have nl2 : l2 ≠ q := (ne_new (fw _ rfl) hq').symm
    have hyl : ys.length = i := by rw [rr.length, List.length_map, gotAll_len, List.length_take]; omega
    have cq : Chg [q] H2 (upd H2 q (.lst (ys ++ [.ref l2]))) := .set (by rw [gq2]; exact True.intro) (by simp)
    refine ⟨ys, gq2, len_small (by omega), ys ++ [.ref l2], upd_same, _, R2, rfl, ?_, (c.grow g m2.chg).put hq, ⟨g.trans c m2.gr, fun x hx => m2.sb x (sb x hx)⟩, nq2, upd_at nqa ga2, ?_⟩
    · rw [take_snoc hb, gotAll_snoc]
      exact (m2.at_.chg cq fun b hb y => by rw [List.mem_singleton.mp y] at hb; exact nq2 hb).more (by omega)
    · rw [take_snoc hb, gotAll_snoc, List.map_append]
      have gr2 : Grow (q :: R') H1 (q :: R2) := fun b hb => by
        rcases List.mem_cons.mp hb with z | z
        · exact .inl (by simp [z])
        · exact (m2.gr b z).imp (fun y => List.mem_cons_of_mem _ y) id
      have r1 := ((rr.grow gr2).chg (m2.chg.mono fun b hb => List.mem_cons_of_mem _ (m2.sb b hb))).chg (cq.mono fun b hb => by rw [List.mem_singleton.mp hb]; simp)
      refine r1.snoc (.lst (.inl (upd_at nl2 g2)) (fun y => ?_) (letters_any (letters_chg rs2 cq)))
      rcases List.mem_cons.mp y with z | z
      · exact nl2 z
      · exact n2 z
  · rintro ys σ H1 hq' ⟨v, R', rfl, J, c, ⟨g, sb⟩, nq, gl, rr⟩
    rw [hxl, List.take_length] at J rr
    exact k _ _ _ ⟨J, c, g, sb⟩ ⟨_, _, rfl, hq', nq, rr.mono (by intro b hb; exact List.mem_cons_of_mem _ hb)⟩
def zR0p (K : PySem.W.Frag)  : TS :=
    (tRet (tAndV (tCB (rIsi K) (tCons (tVar 0) (tCons (tC (.ty "int")) tNil))) (tNotV (tCB (rIsi K) (tCons (tVar 0) (tCons (tC (.ty "bool")) tNil))))))
def zR10 (K : PySem.W.Frag)  : TS :=
    (tSeq (tIfS (tTest (tOp rLtI (tVar 1) (tCB (rLenQ K) (tCons (tVar 0) tNil))))
    (tRet (tOp (rIxL K) (tVar 0) (tVar 1)))
    tNext)
    (tRet (tC (.int 0))))
def zR0i (K : PySem.W.Frag) (zsp0p : Sp) : TS :=
    (tSeq (tIfS (tOr (tNot (tB (tCB (rIsi K) (tCons (tVar 0) (tCons (tC (.ty "tuple")) tNil))))) (tTest (tOp rNe (tCB (rLenQ K) (tCons (tVar 0) tNil)) (tC (.int 2)))))
    (tRet (tC (.bl false)))
    tNext)
    (tSeq (tIfS (tOr (tNot (tB (tCB (rIsi K) (tCons (tOp (rIxT K) (tVar 0) (tC (.int 0))) (tCons (tC (.ty "str")) tNil))))) (tNot (tB (tCall zsp0p [] E0 (tCons (tOp (rIxT K) (tVar 0) (tC (.int 1))) tNil)))))
    (tRet (tC (.bl false)))
    tNext)
    (tRet (tOp (rIn K false) (tOp (rIxT K) (tVar 0) (tC (.int 0))) (tLst (tCons (tC (.str "open")) (tCons (tC (.str "yes")) (tCons (tC (.str "no")) (tCons (tC (.str "bound")) (tCons (tC (.str "off")) tNil))))))))))
def zR0a (K : PySem.W.Frag) (zsp0i : Sp) : TS :=
    (tSeq (tIfS (tNot (tB (tCB (rIsi K) (tCons (tVar 0) (tCons (tC (.ty "list")) tNil)))))
    (tRet (tC (.bl false)))
    tNext)
    (tSeq (tFor (iList K (tVar 0)) (gName 1)
    (tIfS (tNot (tB (tCall zsp0i [] E0 (tCons (tVar 1) tNil))))
    (tRet (tC (.bl false)))
    tNext))
    (tRet (tC (.bl true)))))
def zR0b (K : PySem.W.Frag) (zsp0p : Sp) : TS :=
    (tSeq (tIfS (tOr (tNot (tB (tCB (rIsi K) (tCons (tVar 0) (tCons (tC (.ty "tuple")) tNil))))) (tOr (tTest (tOp rNe (tCB (rLenQ K) (tCons (tVar 0) tNil)) (tC (.int 4)))) (tNot (tB (tCB (rIsi K) (tCons (tOp (rIxT K) (tVar 0) (tC (.int 3))) (tCons (tC (.ty "str")) tNil)))))))
    (tRet (tC (.bl false)))
    tNext)
    (tSeq (tFor (iTup K (tSl (rSlT K) (tVar 0) tNoPart (tPart (tC (.int 3))))) (gName 2)
    (tIfS (tNot (tB (tCall zsp0p [] E0 (tCons (tVar 2) tNil))))
    (tRet (tC (.bl false)))
    tNext))
    (tSeq (tIfS (tTest (tOp (rIn K true) (tOp (rIxT K) (tVar 0) (tC (.int 3))) (tLst (tCons (tC (.str "ask")) (tCons (tC (.str "yes")) (tCons (tC (.str "no")) (tCons (tC (.str "bound")) (tCons (tC (.str "off")) (tCons (tC (.str "query")) tNil)))))))))
    (tRet (tC (.bl false)))
    tNext)
    (tRet (tAndV (tChain rLeI rLtI (tC (.int 0)) (tOp (rIxT K) (tVar 0) (tC (.int 0))) (tVar 1)) (tAndV (tChain rLeI rLtI (tC (.int 0)) (tOp (rIxT K) (tVar 0) (tC (.int 1))) (tVar 1)) (tOp rNe (tOp (rIxT K) (tVar 0) (tC (.int 0))) (tOp (rIxT K) (tVar 0) (tC (.int 1))))))))))
def zR05 (K : PySem.W.Frag) (zsp0b : Sp) : TS :=
    (tSeq (tIfS (tNot (tB (tCB (rIsi K) (tCons (tVar 0) (tCons (tC (.ty "list")) tNil)))))
    (tRet (tC (.bl false)))
    tNext)
    (tSeq (tFor (iList K (tVar 0)) (gName 2)
    (tIfS (tNot (tB (tCall zsp0b [] E0 (tCons (tVar 2) (tCons (tVar 1) tNil)))))
    (tRet (tC (.bl false)))
    tNext))
    (tRet (tC (.bl true)))))
theorem kit_int_bool (K : PySem.W.Frag) : PySem.W.kitOne K (.type "int") (.type "bool") = some false := by with_unfolding_all rfl
def zsp0p : Sp := fun vs H Q _ => ∃ i : Int, vs = [.int i] ∧ Q (.bl true) H
theorem zrd0p {K : PySem.W.Frag} {vs : List V} {H : Hp} {Q : VK} {E : XK} (h : zsp0p vs H Q E) : zR0p K { nx := fun _ H' => Q .non H', rt := Q } (start ["_law_found"] vs) H := by
  obtain ⟨i, rfl, k⟩ := h
  unfold zR0p
  walk_at "go"
  refine ⟨_, _, _, true, rfl, TyO.int _, kit_same _ _, ?_⟩
  walk_at "go"
  refine iteT ?_
  walk_at "go"
  refine ⟨_, _, _, false, rfl, TyO.int _, kit_int_bool _, ?_⟩
  walk_at "go"
  exact k
def zsp10 (K : PySem.W.Frag) : Sp := fun vs H Q _ => ∃ (a : Addr) (ns : List Int) (k : Nat), vs = [.ref a, .int k] ∧ SqL K H a (ns.map .int) ∧ ∀ z : Int, Q (.int z) H
theorem zrd10 {K : PySem.W.Frag} {vs : List V} {H : Hp} {Q : VK} {E : XK} (h : zsp10 K vs H Q E) : zR10 K { nx := fun _ H' => Q .non H', rt := Q } (start ["_law_script", "_law_k"] vs) H := by
  obtain ⟨a, ns, k, rfl, hS, q⟩ := h
  unfold zR10
  walk_at "go"
  by_cases e : k < ns.length
  · rw [if_pos (by simp only [List.length_map, decide_eq_true_eq]; show (k : Int) < (ns.length : Int); omega)]
    have hat : atI (ns.map V.int) (k : Int) = some (.int ns[k]) := atI_nat (by simp [e])
    walk_at "go"
    exact q _
  · rw [if_neg (by simp only [List.length_map, decide_eq_true_eq]; show ¬ (k : Int) < (ns.length : Int); omega)]
    walk_at "go"
    exact q _
def isLineW (w : Str) : Prop := w = "open" ∨ w = "yes" ∨ w = "no" ∨ w = "bound" ∨ w = "off"
theorem in_lineW {w : Str} (h : isLineW w) : inV (.str w) [.str "open", .str "yes", .str "no", .str "bound", .str "off"] = true := by
  have := in_strs w ["open", "yes", "no", "bound", "off"]
  simp only [List.map_cons, List.map_nil] at this
  rw [this]
  exact decide_eq_true (by simp only [List.mem_cons, List.not_mem_nil, or_false]; exact h)
def zsp0i : Sp := fun vs H Q _ => ∃ t w n, vs = [.ref t] ∧ Rd H t (.tup [.str w, .int n]) ∧ isLineW w ∧ ∀ H', Same H H' → Q (.bl true) H'
theorem zrd0i {K : PySem.W.Frag} {vs : List V} {H : Hp} {Q : VK} {E : XK} (h : zsp0i vs H Q E) : zR0i K zsp0p { nx := fun _ H' => Q .non H', rt := Q } (start ["_law_found"] vs) H := by
  obtain ⟨t, w, n, rfl, rt, hw, k⟩ := h
  unfold zR0i
  walk_at "go"
  refine ⟨_, _, _, true, rfl, TyO.tup rt, kit_same _ _, ?_⟩
  walk_at "go"
  refine iteF ?_
  refine st_test (st_op (st_cb (st_cons (st_var (by rfl) (st_nil (st_lenT (sqTr rt) ?_))))))
  walk_at "go"
  rw [if_neg (by simp)]
  walk_at "go"
  refine ⟨_, _, _, true, rfl, TyO.str _, kit_same _ _, ?_⟩
  walk_at "go"
  refine iteF ?_
  walk_at "go"
  refine ⟨n, rfl, ?_⟩
  walk_at "go"
  refine iteF ?_
  walk_at "goA"
  rename_i q hq H1 s1 g1
  show Q (.bl (if false = true then _ else inV (.str w) _)) H1
  rw [if_neg (by decide : ¬ (false = true)), in_lineW hw]
  exact k H1 s1
def LineWs (b : List Line) : Prop := ∀ l ∈ b, isLineW l.1
def zsp0a : Sp := fun vs H Q _ => ∃ a b, vs = [.ref a] ∧ Rep H [] (.ref a) (bookD b) ∧ LineWs b ∧ ∀ H', Same H H' → Q (.bl true) H'
theorem zrd0a {K : PySem.W.Frag} {vs : List V} {H : Hp} {Q : VK} {E : XK} (h : zsp0a vs H Q E) : zR0a K zsp0i { nx := fun _ H' => Q .non H', rt := Q } (start ["_law_found", "_law_line"] vs) H := by
  obtain ⟨a, b, rfl, hb, hw, k⟩ := h
  obtain ⟨_, xs, e, rd, _, rs⟩ := id hb.lst_inv
  cases e
  unfold zR0a
  walk_at "go"
  refine ⟨_, _, _, true, rfl, TyO.list rd, kit_same _ _, ?_⟩
  walk_at "go"
  refine iteF ?_
  walk_at "go"
  refine for_list (K := K) (a := a) (xs := xs) (fun i σ H' => ∃ v, σ = [some (.ref a), v] ∧ Same H H') ⟨none, rfl, Same.refl _⟩ ?_ ?_ ?_
  · rintro i σ H' hi ⟨v, rfl, s⟩
    exact s.seq (sqLr rd)
  · rintro i x σ H' hx ⟨v, rfl, s⟩
    obtain ⟨l, t, hb', rfl, rt⟩ := line_at rs hx
    walk_at "go"
    refine ⟨t, l.1, l.2, rfl, rt.same s, hw l (List.mem_of_getElem? hb'), fun H2 s2 => ?_⟩
    walk_at "go"
    refine iteF ?_
    walk_at "go"
    exact ⟨_, rfl, s.trans s2⟩
  · rintro σ H' ⟨v, rfl, s⟩
    walk_at "go"
    exact k H' s
def isLetW (w : Str) : Prop := w = "ask" ∨ w = "yes" ∨ w = "no" ∨ w = "bound" ∨ w = "off" ∨ w = "query"
theorem in_letW {w : Str} (h : isLetW w) : inV (.str w) [.str "ask", .str "yes", .str "no", .str "bound", .str "off", .str "query"] = true := by
  have := in_strs w ["ask", "yes", "no", "bound", "off", "query"]
  simp only [List.map_cons, List.map_nil] at this
  rw [this]
  exact decide_eq_true (by simp only [List.mem_cons, List.not_mem_nil, or_false]; exact h)
theorem isLetW.ok {w : Str} (h : isLetW w) : PyData.strOk w = true := by rcases h with rfl | rfl | rfl | rfl | rfl | rfl <;> decide +kernel
def GoodL (c : Int) (l : Letter) : Prop := 0 ≤ l.1 ∧ l.1 < c ∧ 0 ≤ l.2.1 ∧ l.2.1 < c ∧ l.1 ≠ l.2.1 ∧ isLetW l.2.2.2
def zsp0b : Sp := fun vs H Q _ => ∃ t c l, vs = [.ref t, .int c] ∧ Rd H t (.tup [.int l.1, .int l.2.1, .int l.2.2.1, .str l.2.2.2]) ∧ GoodL c l ∧ ∀ H', Same H H' → Q (.bl true) H'
theorem zrd0b {K : PySem.W.Frag} {vs : List V} {H : Hp} {Q : VK} {E : XK} (h : zsp0b vs H Q E) : zR0b K zsp0p { nx := fun _ H' => Q .non H', rt := Q } (start ["_law_found", "_law_count", "_law_number"] vs) H := by
  obtain ⟨t, c, ⟨g, to, n, w⟩, rfl, rt, ⟨h1, h2, h3, h4, h5, hw⟩, k⟩ := h
  dsimp only at rt h1 h2 h3 h4 h5 hw
  unfold zR0b
  walk_at "go"
  refine ⟨_, _, _, true, rfl, TyO.tup rt, kit_same _ _, ?_⟩
  walk_at "go"
  refine iteF ?_
  refine st_or (st_test (st_op (st_cb (st_cons (st_var (by rfl) (st_nil (st_lenT (sqTr rt) ?_)))))))
  walk_at "go"
  rw [if_neg (by simp)]
  walk_at "go"
  refine ⟨_, _, _, true, rfl, TyO.str _, kit_same _ _, ?_⟩
  walk_at "go"
  refine iteF ?_
  walk_at "go"
  refine ⟨_, rfl, 3, rfl, t, _, rfl, sqTr rt, by simp [HT.sIx], fun p hp => ?_⟩
  refine ⟨p, rfl, ⟨_, sqT upd_same⟩, ?_⟩
  have s1 : Same H (upd H p (.tup [.int g, .int to, .int n])) := Same.new hp
  have g1 : upd H p (.tup [.int g, .int to, .int n]) p = some (.tup [.int g, .int to, .int n]) := upd_same
  show ∃ W : Nat → Nat → St → Hp → Prop, (∃ m, W 0 m _ (upd H p (.tup [.int g, .int to, .int n]))) ∧ _
  generalize upd H p (.tup [.int g, .int to, .int n]) = H1 at *
  refine for_tup (K := K) (a := p) (xs := [.int g, .int to, .int n]) (fun i σ H' => ∃ v, σ = [some (.ref t), some (.int c), v] ∧ H' = H1) ⟨none, rfl, rfl⟩ ?_ ?_ ?_
  · rintro i σ H' hi ⟨v, rfl, rfl⟩
    exact sqT g1
  · rintro i x σ H' hx ⟨v, rfl, rfl⟩
    obtain ⟨z, rfl⟩ : ∃ z, x = V.int z := by
      have := List.mem_of_getElem? hx
      simp only [List.mem_cons, List.not_mem_nil, or_false] at this
      rcases this with rfl | rfl | rfl <;> exact ⟨_, rfl⟩
    walk_at "go"
    refine ⟨z, rfl, ?_⟩
    walk_at "go"
    refine iteF ?_
    walk_at "go"
    exact ⟨_, rfl, rfl⟩
  · rintro σ H' ⟨v, rfl, rfl⟩
    have rt1 := rt.same s1
    walk_at "goA"
    rename_i q hq H2 s2 g2
    show if (if true = true then !inV (.str w) _ else _) = true then _ else _
    rw [if_pos (rfl : true = true), in_letW hw]
    refine iteF ?_
    have rt2 := rt1.same s2
    walk_at "go"
    rw [if_pos (decide_eq_true h1)]
    walk_at "go"
    rw [if_pos (decide_eq_true h2)]
    walk_at "go"
    rw [if_pos (decide_eq_true h3)]
    walk_at "go"
    rw [if_pos (decide_eq_true h4)]
    walk_at "go"
    rw [show (!decide (V.int g = V.int to)) = true by simp [h5]]
    exact k H2 (s1.trans s2)
def GoodLs (c : Int) (ls : List Letter) : Prop := ∀ l ∈ ls, GoodL c l
def zsp05 : Sp := fun vs H Q _ => ∃ a c ls, vs = [.ref a, .int c] ∧ Rep H [] (.ref a) (lettersD ls) ∧ GoodLs c ls ∧ ∀ H', Same H H' → Q (.bl true) H'
theorem zrd05 {K : PySem.W.Frag} {vs : List V} {H : Hp} {Q : VK} {E : XK} (h : zsp05 vs H Q E) : zR05 K zsp0b { nx := fun _ H' => Q .non H', rt := Q } (start ["_law_found", "_law_count", "_law_letter"] vs) H := by
  obtain ⟨a, c, ls, rfl, hb, hw, k⟩ := h
  obtain ⟨_, xs, e, rd, _, rs⟩ := id hb.lst_inv
  cases e
  unfold zR05
  walk_at "go"
  refine ⟨_, _, _, true, rfl, TyO.list rd, kit_same _ _, ?_⟩
  walk_at "go"
  refine iteF ?_
  walk_at "go"
  refine for_list (K := K) (a := a) (xs := xs) (fun i σ H' => ∃ v, σ = [some (.ref a), some (.int c), v] ∧ Same H H') ⟨none, rfl, Same.refl _⟩ ?_ ?_ ?_
  · rintro i σ H' hi ⟨v, rfl, s⟩
    exact s.seq (sqLr rd)
  · rintro i x σ H' hx ⟨v, rfl, s⟩
    obtain ⟨l, t, hb', rfl, rt⟩ := letter_at rs hx
    walk_at "go"
    refine ⟨t, c, l, rfl, rt.same s, hw l (List.mem_of_getElem? hb'), fun H2 s2 => ?_⟩
    walk_at "go"
    refine iteF ?_
    walk_at "go"
    exact ⟨_, rfl, s.trans s2⟩
  · rintro σ H' ⟨v, rfl, s⟩
    walk_at "go"
    exact k H' s
theorem canLay_letters {ls : List Letter} (ok : ∀ l ∈ ls, PyData.strOk l.2.2.2 = true) : PyData.canLayAll0 (ls.map letterD) = true := by
  induction ls with
  | nil => rfl
  | cons l r ih =>
    rw [List.map_cons, PyData.canLayAll0, ih fun z hz => ok z (List.mem_cons_of_mem _ hz)]
    simp [letterD, PyData.canLay0, PyData.canLayAll0, ok l (by simp)]
theorem depth_letters (ls : List Letter) : PyData.depthAll (ls.map letterD) ≤ 3 := by
  induction ls with
  | nil => simp [PyData.depthAll]
  | cons l r ih =>
    rw [List.map_cons, PyData.depthAll]
    have : PyData.depth (letterD l) ≤ 3 := by simp [letterD, PyData.depth, PyData.depthAll]
    omega
theorem shaped_letters {ls : List Letter} (ok : ∀ l ∈ ls, PyData.strOk l.2.2.2 = true) : SeqAt.shaped (lettersD ls) = true := by
  unfold SeqAt.shaped lettersD
  rw [PyData.canLay0, canLay_letters ok, Bool.true_and, PyData.depth]
  have := depth_letters ls
  exact decide_eq_true (by omega)
theorem eqv_letters {ls : List Letter} (ok : ∀ l ∈ ls, PyData.strOk l.2.2.2 = true) : PyData.eqv (lettersD ls) (lettersD ls) = true := SeqAt.eqv_refl _ (SeqAt.canLay_of_shaped (shaped_letters ok))
end Oh
set_option Elab.async false
set_option linter.all false
namespace L2
open PySem PySem.Spec PyProof.Rows
def rIsB : R2 := fun x y H Q => ∃ b c, x = .bl b ∧ y = .bl c ∧ Q (.bl (decide (b = c))) H
theorem op_isB {X : Cx} : OpR X (compareOp .Is) rIsB := by
  intro pins s σ H x y v u Q I rx ry h
  obtain ⟨b, c, rfl, rfl, q⟩ := h
  cases rx
  cases ry
  exact wpAny_pure (fin_bl I q (by cases b <;> cases c <;> rfl))
end L2
set_option Elab.async false
set_option linter.all false
set_option maxRecDepth 100000
namespace L2
open PySem PySem.Spec PyProof.Rows
variable {X : Cx}
def strRep (x : Str) (n : Nat) : Str := ⟨(List.replicate n x.cps).foldl (· ++ ·) #[]⟩
def rMulS : R2 := fun x y H Q => ∃ z n, x = .str z ∧ y = .int n ∧ 2 ≤ n ∧ n ≤ 1000 ∧ 1 ≤ z.length ∧ z.length ≤ 1000 ∧ (strRep z n.toNat).length ≤ sizeLine ∧ Q (.str (strRep z n.toNat)) H
theorem op_mulS : OpR X (binaryOp .Mult) rMulS := by
  intro pins s σ H x y v u Q I rx ry h
  obtain ⟨z, n, rfl, rfl, h1, h2, h3, h4, h5, q⟩ := h
  obtain ⟨t, rfl⟩ := rx
  obtain ⟨t', rfl⟩ := ry
  have e1 : ¬ n < 1 := by omega
  have e2 : ¬ (n == 1 || z.length == 0) = true := by
    intro y
    rcases Bool.or_eq_true_iff.mp y with y | y
    · have := eq_of_beq y; omega
    · have := eq_of_beq y; omega
  refine PySem.P.mul_str ?_ ?_ ?_ ?_
  · rw [decide_eq_false (by omega), decide_eq_false (by omega)]; rfl
  · intro _ _ y
    have : (1000 : Int) ≤ (2 ^ 63 - 1) / n := (Int.le_ediv_iff_mul_le (by omega)).mpr (by omega)
    omega
  · intro _ _
    show decide (z.length * n.toNat > sizeLine) = false
    have : z.length * n.toNat ≤ 1000 * 1000 := Nat.mul_le_mul h4 (by omega)
    exact decide_eq_false (by have e : sizeLine = 16777216 := rfl; omega)
  · rw [if_neg e1, if_neg e2]
    exact ⟨h5, .str _, H, I.tok _, ⟨_, rfl⟩, q⟩
def rIntS : List V → Hp → VK → Prop := fun xs H Q => ∃ z n, xs = [.str z] ∧ PySem.intText? z = some n ∧ z.length ≤ 640 ∧ Q (.int n) H
theorem call_intS : CallR X (.type "int") rIntS := by
  intro pins s σ H xs us Q I r h
  obtain ⟨z, n, rfl, hn, hl, q⟩ := h
  obtain ⟨u, rfl, t, rfl⟩ := vals1 r
  exact PySem.W.KIN.call_text hn hl ⟨.int n, H, I.tok _, ⟨_, rfl⟩, q⟩
def rIsNotB : R2 := fun x y H Q => ∃ b c, x = .bl b ∧ y = .bl c ∧ Q (.bl (!decide (b = c))) H
theorem op_isnotB : OpR X (compareOp .IsNot) rIsNotB := by
  intro pins s σ H x y v u Q I rx ry h
  obtain ⟨b, c, rfl, rfl, q⟩ := h
  cases rx
  cases ry
  exact wpAny_pure (fin_bl I q (by cases b <;> cases c <;> rfl))
def rIsi2 (K : PySem.W.Frag) : List V → Hp → VK → Prop := fun xs H Q => ∃ x a T1 T2 t b, xs = [.ref x, .ref a] ∧ ((∃ ys, Rd H x (.lst ys) ∧ t = Value.type "list") ∨ ∃ ys, Rd H x (.tup ys) ∧ t = Value.type "tuple") ∧ H a = some (.tup [.ty T1, .ty T2]) ∧
  PySem.W.kitAny K t [.type T1, .type T2] = some b ∧ Q (.bl b) H
theorem call_isinst2 : CallR X (.builtin "isinstance") (rIsi2 X.K) := by
  intro pins s σ H xs us Q I r h
  obtain ⟨x, a, T1, T2, t, b, rfl, hx, ga, e, q⟩ := h
  obtain ⟨u, v, rfl, ru, rv⟩ := Vals.two r
  cases (show u = Value.ref x from ru)
  cases (show v = Value.ref a from rv)
  obtain ⟨its, vi, ⟨o, h1, h2, n, h3⟩, _⟩ := I.tuple (a := a) (Or.inl (.inl ga))
  obtain ⟨i1, i2, rfl, r1, r2⟩ := Vals.two vi
  cases (show i1 = Value.type T1 from r1)
  cases (show i2 = Value.type T2 from r2)
  obtain ⟨oc, od, odt, osl⟩ := o
  dsimp only at h2 h3
  subst h2
  subst h3
  rcases hx with ⟨ys, rd, rfl⟩ | ⟨ys, rd, rfl⟩
  · rcases rd with ea | ⟨ob, ea⟩
    · obtain ⟨_, _, n, _, h1'⟩ := (show ObjOk X.prog X.w H s.heap x (.lst ys) from I.hok x _ ea)
      exact PySem.W.kia_tup PySem.W.kitx_list I.kIn ⟨_, h1', rfl⟩ h1 e (fun z => nomatch z) fun tk => ⟨.bl b, H, I.tok tk, rfl, q⟩
    · obtain ⟨_, _, _, n, _, h1'⟩ := (show ObjOk X.prog X.w H s.heap x (.frz ob (.lst ys)) from I.hok x _ ea)
      exact PySem.W.kia_tup PySem.W.kitx_list I.kIn ⟨_, h1', rfl⟩ h1 e (fun z => nomatch z) fun tk => ⟨.bl b, H, I.tok tk, rfl, q⟩
  · obtain ⟨its', _, ⟨o', h1', h2', _⟩, _⟩ := I.tuple (Or.inl rd)
    exact PySem.W.kia_tup PySem.W.kitx_tuple I.kIn ⟨o', h1', h2'⟩ h1 e (fun z => nomatch z) fun tk => ⟨.bl b, H, I.tok tk, rfl, q⟩
theorem kit_list2 (K : PySem.W.Frag) : PySem.W.kitAny K (.type "list") [.type "list", .type "tuple"] = some true := by with_unfolding_all rfl
theorem kit_tup2 (K : PySem.W.Frag) : PySem.W.kitAny K (.type "tuple") [.type "list", .type "tuple"] = some true := by with_unfolding_all rfl
theorem ten70 : PySem.intText? (("1" : Str) ++ strRep "0" 70) = some (10 ^ 70) := by decide +kernel
end L2
set_option Elab.async false
set_option linter.all false
set_option maxRecDepth 100000
set_option maxHeartbeats 4000000
namespace Oh
open PySem L2
local macro_rules | `(tactic| walk_at "ne") => `(tactic| first | assumption | (refine' Ne.symm ?k1; (case k1 => assumption)) | (refine' ne_new ?k1 ?k2; (case k1 => assumption); (case k2 => walk_at "hl")) | (refine' ne_newR ?k1 ?k2; (case k1 => assumption); (case k2 => walk_at "rd")) | (refine' Ne.symm (ne_new ?k1 ?k2); (case k1 => assumption); (case k2 => walk_at "hl")) | (refine' Ne.symm (ne_newR ?k1 ?k2); (case k1 => assumption); (case k2 => walk_at "rd")))
local macro_rules | `(tactic| walk_at "hl") => `(tactic| with_reducible first | assumption | exact upd_same | (refine' upd_at ?k1 ?k2; (case k1 => walk_at "ne"); (case k2 => walk_at "hl")) | (refine' Same.at ?k1 ?k2; (case k1 => assumption); (case k2 => walk_at "hl")))
local macro_rules | `(tactic| walk_at "rd") => `(tactic| with_reducible first | assumption | (refine' Rd.of ?k1; (case k1 => walk_at "hl")) | (refine' Rd.upd ?k1 ?k2; (case k1 => walk_at "ne"); (case k2 => walk_at "rd")) | (refine' Rd.same ?k1 ?k2; (case k1 => assumption); (case k2 => walk_at "rd")))
local macro_rules | `(tactic| walk_at "sq") => `(tactic| with_reducible first | assumption | (refine' sqLr ?k1; (case k1 => walk_at "rd")) | (refine' sqTr ?k1; (case k1 => walk_at "rd")) | (refine' SqL.new ?k1 ?k2; (case k1 => assumption); (case k2 => walk_at "sq")) | (refine' Same.seq ?k1 ?k2; (case k1 => assumption); (case k2 => walk_at "sq")))
local macro_rules | `(tactic| walk_at "rf") => `(tactic| first | with_unfolding_all rfl | assumption)
local macro_rules | `(tactic| walk_at "fl") => `(tactic| first | with_unfolding_all rfl | exact flat_strs _ | exact flat_ints _)
local macro_rules | `(tactic| walk_at "st") => `(tactic| with_reducible first
  | refine st_seq ?_ | refine st_asg ?_ | refine st_gname ?_ | refine st_if ?_ | refine st_ret ?_ | refine st_retN ?_
  | refine st_drop ?_ | refine st_next ?_ | refine st_test ?_ | refine st_B ?_ | refine st_bl ?_ | refine st_int ?_
  | refine st_and ?_ | refine st_or ?_ | refine st_not ?_ | refine st_andV ?_ | refine st_orV ?_ | refine st_notV ?_ | refine st_ifE ?_
  | refine st_chain ?_ | refine st_op ?_ | refine st_un ?_ | refine st_isN ?_ | refine st_notN ?_
  | refine st_nil ?_ | refine st_cons ?_ | refine st_tup ?_ | refine st_lst ?_ | refine st_dnew ?_ | refine st_call ?_ | refine st_cb ?_
  | (refine' st_var ?k1 ?_; (case k1 => walk_at "rf")) | refine st_c ?_
  | refine st_rI0 ?_ | refine st_rU ?_ | (refine' st_rI ?k1 ?_; (case k1 => first | exact mulR (by decide) | exact divR (by decide) | decide | (show (0 : Int) < _; decide)))
  | (refine' st_rEq ?k1 ?_; (case k1 => walk_at "rf")) | (refine' st_rNe ?k1 ?_; (case k1 => walk_at "rf"))
  | (refine' st_ixL ?k1 ?k2 ?_; (case k1 => walk_at "sq"); (case k2 => walk_at "rf")) | (refine' st_ixT ?k1 ?k2 ?_; (case k1 => walk_at "sq"); (case k2 => walk_at "rf"))
  | (refine' st_lenL ?k1 ?_; (case k1 => walk_at "sq")) | (refine' st_lenT ?k1 ?_; (case k1 => walk_at "sq"))
  | (refine' st_inL ?k1 ?k2 ?k3 ?_; (case k1 => walk_at "sq"); (case k2 => walk_at "rf"); (case k3 => walk_at "fl"))
  | (refine' st_inT ?k1 ?k2 ?k3 ?_; (case k1 => walk_at "sq"); (case k2 => walk_at "rf"); (case k3 => walk_at "fl"))
  | (refine' st_listL ?k1 ?_; (case k1 => walk_at "sq")) | refine st_min ?_ | refine st_intB ?_
  | refine st_sl ?_ | refine st_noPart ?_ | refine st_part ?_ | (refine' st_slL ?k1 ?_; (case k1 => walk_at "sq"))
  | refine st_meth ?_ | (refine' st_insM ?k1 ?k2 ?_; (case k1 => walk_at "hl"); (case k2 => walk_at "rf")) | refine st_sfld ?_
  | (refine' st_ins ?k1 ?k2 ?k3 ?k4 ?_; (case k1 => walk_at "hl"); (case k2 => assumption); (case k3 => assumption); (case k4 => walk_at "rf")) | (refine' st_lenD ?k1 ?_; (case k1 => walk_at "hl"))
  | refine st_bm ?_ | refine st_fld ?_ | refine st_dput ?_ | refine st_dget2 ?_ | refine st_dget ?_ | refine st_dsetd ?_
  | refine st_for ?_ | refine st_iList ?_ | (refine' st_itl ?k1 ?_; (case k1 => walk_at "sq")) | refine st_iRng ?_ | refine st_lc ?_ | refine st_noIf ?_
  | (refine' st_sz ?k1 ?_; (case k1 => with_unfolding_all rfl))
  | (refine' st_isD ?k1 ?_; (case k1 => walk_at "hl")) | (refine' st_dgetK ?k1 ?_; (case k1 => walk_at "hl")))
local macro_rules | `(tactic| walk_at "go") => `(tactic| repeat walk_at "st")
local macro_rules | `(tactic| walk_at "new") => `(tactic| ((with_reducible refine st_all ?_); intro p hp; generalize hH : upd _ p _ = H'; have hs := same_of hp hH; have hg := at_of hH; clear hH))
local macro_rules | `(tactic| walk_at "sm") => `(tactic| with_reducible first | assumption | exact Same.refl _ | (refine' Same.trans ?k1 ?k2; (case k2 => assumption); (case k1 => walk_at "sm")))
local macro_rules | `(tactic| walk_at "goA") => `(tactic| repeat (first | walk_at "st" | walk_at "new"))
def isW3 (w : Str) : Prop := w = "yes" ∨ w = "no" ∨ w = "query"
def toAll (m : Int) (c : Nat) (n : Int) (w : Str) : List Letter := (othersOf m c).map fun k => (m, k, n, w)
def St3 (b : List Line) (n : Int) : Prop := wordsOf b n = [("open" : Str)] ∨ wordsOf b n = [("open" : Str), "bound"] ∨ wordsOf b n = [("open" : Str), "off"]
def dueF (m : Int) (c : Nat) (b : List Line) (gs : List Int) (g n : Int) (w : Str) : List Line × List Int × List Letter :=
  if (wordsOf b n).length = 2 then (b, gs, if w = "no" then [] else [(m, g, n, (wordsOf b n).getD 1 "")]) else
  if w = "yes" then if (addG g gs).length < c - 1 then (b, addG g gs, []) else (b ++ [(("bound" : Str), n)], addG g gs, toAll m c n "bound") else (b ++ [(("off" : Str), n)], gs, toAll m c n "off")
structure LeadHS (m : Int) (c : Nat) (h : HS) : Prop where
  num : h.num = m
  oth : h.oth = othersOf m c
  up : h.up = true
theorem others_len {m : Int} {c : Nat} (h0 : 0 ≤ m) (h1 : m < c) : (othersOf m c).length = c - 1 := by
  have : ∀ n : Nat, (othersOf m n).length = if m < n then n - 1 else n := fun n => by
    induction n with
    | zero => simp [othersOf]
    | succ i ih =>
      rw [others_snoc]
      by_cases e : (i : Int) = m
      · rw [if_pos e, ih, if_neg (by omega), if_pos (by omega)]; omega
      · rw [if_neg e, List.length_append, ih]
        by_cases z : m < i
        · rw [if_pos z, if_pos (by omega)]; show i - 1 + 1 = _; omega
        · rw [if_neg z, if_neg (by omega)]; rfl
  rw [this, if_pos h1]
theorem others_mem {m : Int} {c : Nat} {g : Int} (h : g ∈ othersOf m c) : 0 ≤ g ∧ g < c ∧ g ≠ m := by
  unfold othersOf at h
  rw [List.mem_filter] at h
  obtain ⟨h1, h2⟩ := h
  obtain ⟨k, hk, rfl⟩ := List.mem_map.mp h1
  exact ⟨by omega, by have := List.mem_range.mp hk; omega, by simpa using h2⟩
theorem wordsOf_app (a b : List Line) (n : Int) : wordsOf (a ++ b) n = wordsOf a n ++ wordsOf b n := by simp [wordsOf]
theorem wordsOf_one (w : Str) (k n : Int) : wordsOf [(w, k)] n = if k = n then [w] else [] := by
  unfold wordsOf
  by_cases e : k = n <;> simp [e]
theorem got_lead {m : Int} {c : Nat} {h : HS} {g n : Int} {w : Str} (L : LeadHS m c h) (m0 : 0 ≤ m) (m1 : m < c) (s : St3 h.book n) (hw : isW3 w) :
    h.got (g, m, n, w) = ({ h with book := (dueF m c h.book (h.cnt n) g n w).1, cnt := fun x => if x = n then (dueF m c h.book (h.cnt n) g n w).2.1 else h.cnt x }, (dueF m c h.book (h.cnt n) g n w).2.2) := by
  have keep : (fun x => if x = n then h.cnt n else h.cnt x) = h.cnt := funext fun x => by by_cases e : x = n <;> simp [e]
  have ol : h.oth.length = c - 1 := by rw [L.oth]; exact others_len m0 m1
  have dec : decisionIn h.book n = if wordsOf h.book n = [("open" : Str)] then none else some ((wordsOf h.book n).getD 1 "") := by
    unfold decisionIn
    rcases s with e | e | e <;> rw [e] <;> decide
  have vot : unsure h.book n = false := by
    unfold unsure voteIn decisionIn
    rcases s with e | e | e <;> rw [e] <;> decide
  have nonil : ¬ wordsOf h.book n = [] := by
    rcases s with e | e | e <;> rw [e] <;> simp
  have two : (wordsOf h.book n).length = 2 ↔ ¬ wordsOf h.book n = [("open" : Str)] := by
    rcases s with e | e | e <;> rw [e] <;> decide
  unfold dueF
  by_cases e1 : wordsOf h.book n = [("open" : Str)]
  · rw [if_neg (fun y => two.mp y e1)]
    rw [if_pos e1] at dec
    rcases hw with rfl | rfl | rfl
    · rw [if_pos rfl]
      have : h.got (g, m, n, "yes") = h.gotVote g n "yes" := by
        unfold HS.got; dsimp only; rw [if_neg (by decide), if_neg (by decide), if_pos (.inl rfl)]
      rw [this]
      unfold HS.gotVote
      rw [dec]
      simp only []
      rw [if_neg (by decide), ol]
      by_cases e2 : (addG g (h.cnt n)).length < c - 1
      · rw [if_pos e2, if_pos e2]; rfl
      · rw [if_neg e2, if_neg e2]
        unfold HS.decide HS.toOthers toAll HS.count HS.wr
        dsimp only
        rw [L.oth, L.num]
    · rw [if_neg (by decide)]
      have : h.got (g, m, n, "no") = h.gotVote g n "no" := by
        unfold HS.got; dsimp only; rw [if_neg (by decide), if_neg (by decide), if_pos (.inr rfl)]
      rw [this]
      unfold HS.gotVote
      rw [dec]
      simp only []
      rw [if_pos trivial, keep]
      unfold HS.decide HS.toOthers toAll HS.wr
      rw [L.oth, L.num]
    · rw [if_neg (by decide)]
      have : h.got (g, m, n, "query") = h.gotQuery g n := by
        unfold HS.got; dsimp only; rw [if_neg (by decide), if_pos rfl]
      rw [this]
      unfold HS.gotQuery
      rw [vot, dec, if_neg (by decide)]
      simp only []
      rw [if_neg nonil, keep]
      unfold HS.decide HS.toOthers toAll HS.wr
      rw [L.oth, L.num]
  · rw [if_pos (two.mpr e1)]
    rw [if_neg e1] at dec
    dsimp only
    rw [keep]
    rcases hw with rfl | rfl | rfl
    · have : h.got (g, m, n, "yes") = h.gotVote g n "yes" := by
        unfold HS.got; dsimp only; rw [if_neg (by decide), if_neg (by decide), if_pos (.inl rfl)]
      rw [this, if_neg (by decide)]
      unfold HS.gotVote
      rw [dec]
      simp only []
      rw [if_pos trivial, ← L.num]
    · have : h.got (g, m, n, "no") = h.gotVote g n "no" := by
        unfold HS.got; dsimp only; rw [if_neg (by decide), if_neg (by decide), if_pos (.inr rfl)]
      rw [this, if_pos rfl]
      unfold HS.gotVote
      rw [dec]
      simp only []
      rw [if_neg (by decide)]
    · have : h.got (g, m, n, "query") = h.gotQuery g n := by
        unfold HS.got; dsimp only; rw [if_neg (by decide), if_pos rfl]
      rw [this, if_neg (by decide)]
      unfold HS.gotQuery
      rw [vot, dec, if_neg (by decide)]
      simp only []
      rw [← L.num]
def zR0z (K : PySem.W.Frag) (zsp0z : Sp) : TS :=
    (tSeq (tIfS (tB (tIsN (tVar 1)))
    (tRet (tIsN (tVar 0)))
    tNext)
    (tSeq (tIfS (tB (tCB (rIsi K) (tCons (tVar 1) (tCons (tC (.ty "bool")) tNil))))
    (tRet (tAndV (tCB (rIsi K) (tCons (tVar 0) (tCons (tC (.ty "bool")) tNil))) (tOp rEq (tVar 0) (tVar 1))))
    tNext)
    (tSeq (tIfS (tB (tCB (rIsi K) (tCons (tVar 1) (tCons (tC (.ty "int")) tNil))))
    (tRet (tAndV (tCB (rIsi K) (tCons (tVar 0) (tCons (tC (.ty "int")) tNil))) (tAndV (tNotV (tCB (rIsi K) (tCons (tVar 0) (tCons (tC (.ty "bool")) tNil)))) (tOp rEq (tVar 0) (tVar 1)))))
    tNext)
    (tSeq (tIfS (tB (tCB (rIsi K) (tCons (tVar 1) (tCons (tC (.ty "str")) tNil))))
    (tRet (tAndV (tCB (rIsi K) (tCons (tVar 0) (tCons (tC (.ty "str")) tNil))) (tOp rEq (tVar 0) (tVar 1))))
    tNext)
    (tSeq (tIfS (tB (tCB (rIsi K) (tCons (tVar 1) (tCons (tC (.ty "dict")) tNil))))
    tNever
    tNext)
    (tSeq (tIfS (tTest (tOp rNe (tCB (rIsi K) (tCons (tVar 1) (tCons (tC (.ty "tuple")) tNil))) (tCB (rIsi K) (tCons (tVar 0) (tCons (tC (.ty "tuple")) tNil)))))
    (tRet (tC (.bl false)))
    tNext)
    (tSeq (tIfS (tOr (tTest (tOp rNe (tCB (rIsi K) (tCons (tVar 1) (tCons (tC (.ty "list")) tNil))) (tCB (rIsi K) (tCons (tVar 0) (tCons (tC (.ty "list")) tNil))))) (tNot (tB (tCB (rIsi2 K) (tCons (tVar 1) (tCons (tTup (tCons (tC (.ty "list")) (tCons (tC (.ty "tuple")) tNil))) tNil))))))
    (tRet (tC (.bl false)))
    tNext)
    (tSeq (tIfS (tTest (tOp rNe (tCB (rLenQ K) (tCons (tVar 0) tNil)) (tCB (rLenQ K) (tCons (tVar 1) tNil))))
    (tRet (tC (.bl false)))
    tNext)
    (tSeq (tFor (iRng1 (tCons (tCB (rLenQ K) (tCons (tVar 1) tNil)) tNil)) (gName 2)
    (tIfS (tNot (tB (tCall zsp0z [] E0 (tCons (tOp (rIx K) (tVar 0) (tVar 2)) (tCons (tOp (rIx K) (tVar 1) (tVar 2)) tNil)))))
    (tRet (tC (.bl false)))
    tNext))
    (tRet (tC (.bl true))))))))))))
def zR04 (K : PySem.W.Frag)  : TS :=
    (tSeq (tAsg (tVar 3) (gTup K 4 (gCons (gName 4) (gCons (gName 5) (gCons (gName 6) (gCons (gName 7) gNil))))))
    (tSeq (tAsg (tLC (iList K (tVar 0)) (gName 0) (tTest (tOp rEq (tOp (rIxT K) (tVar 0) (tC (.int 1))) (tVar 1))) (tOp (rIxT K) (tVar 0) (tC (.int 0))) [none, some 6]) (gName 8))
    (tSeq (tIfS (tTest (tOp rEq (tVar 7) (tC (.str "ask"))))
    (tCut (tIfS (tTest (tOp rEqD (tVar 8) (tLst tNil)))
    (tSeq (tAsg (tLst (tCons (tOp (rIxL K) (tLst (tCons (tC (.str "yes")) (tCons (tC (.str "no")) tNil))) (tCB rInt1 (tCons (tOp (rIn K false) (tVar 6) (tVar 1)) tNil))) tNil)) (gName 8))
    (tDrop (tBM K "list" rAppend (tVar 0) (tCons (tTup (tCons (tOp (rIxL K) (tVar 8) (tC (.int 0))) (tCons (tVar 6) tNil))) tNil))))
    tNext)
    (tSeq (tAsg (tOp (rIxL K) (tLst (tCons (tC (.str "yes")) (tCons (tC (.str "no")) tNil))) (tCB rInt1 (tCons (tOp (rIn K false) (tOp (rIxL K) (tVar 8) (tUn rNegI (tC (.int 1)))) (tLst (tCons (tC (.str "no")) (tCons (tC (.str "off")) tNil)))) tNil))) (gName 9))
    (tRet (tLst (tCons (tTup (tCons (tVar 2) (tCons (tVar 4) (tCons (tVar 6) (tCons (tVar 9) tNil))))) tNil)))))
    tNext)
    (tSeq (tIfS (tTest (tOp rEq (tVar 7) (tC (.str "query"))))
    (tSeq (tIfS (tTest (tOp rEqD (tVar 8) (tLst (tCons (tC (.str "yes")) tNil))))
    (tRet (tLst tNil))
    tNext)
    (tSeq (tIfS (tTest (tOp rEqD (tVar 8) (tLst tNil)))
    (tSeq (tDrop (tBM K "list" rAppend (tVar 0) (tCons (tTup (tCons (tC (.str "no")) (tCons (tVar 6) tNil))) tNil)))
    (tRet (tLst (tCons (tTup (tCons (tVar 2) (tCons (tVar 4) (tCons (tVar 6) (tCons (tC (.str "off")) tNil))))) tNil))))
    tNext)
    (tRet (tLst (tCons (tTup (tCons (tVar 2) (tCons (tVar 4) (tCons (tVar 6) (tCons (tOp (rIxL K) (tLst (tCons (tC (.str "off")) (tCons (tC (.str "bound")) tNil))) (tCB rInt1 (tCons (tOp rEq (tOp (rIxL K) (tVar 8) (tUn rNegI (tC (.int 1)))) (tC (.str "bound"))) tNil))) tNil))))) tNil)))))
    tNext)
    (tCut (tIfS (tOr (tTest (tOp rEqD (tVar 8) (tLst tNil))) (tTest (tOp rEqD (tVar 8) (tLst (tCons (tC (.str "yes")) tNil)))))
    (tDrop (tBM K "list" rAppend (tVar 0) (tCons (tTup (tCons (tVar 7) (tCons (tVar 6) tNil))) tNil)))
    tNext)
    (tRet (tLst tNil)))))))
def zR0y (K : PySem.W.Frag)  : TS :=
    (tSeq (tAsg (tLC (iList K (tVar 0)) (gName 0) (tTest (tOp rEq (tOp (rIxT K) (tVar 0) (tC (.int 1))) (tVar 1))) (tOp (rIxT K) (tVar 0) (tC (.int 0))) [none, some 1]) (gName 3))
    (tSeq (tIfS (tTest (tOp rLtI (tOp rModI (tOp rModI (tOp rMulI (tVar 2) (tC (.int 48271))) (tC (.int 1009))) (tC (.int 8))) (tC (.int 3))))
    (tRet (tC (.str "ask")))
    tNext)
    (tSeq (tIfS (tTest (tOp rLtI (tOp rModI (tOp rModI (tOp rMulI (tVar 2) (tC (.int 48271))) (tC (.int 1009))) (tC (.int 8))) (tC (.int 5))))
    (tRet (tC (.str "query")))
    tNext)
    (tSeq (tIfS (tOr (tTest (tOp rEqD (tVar 3) (tLst tNil))) (tOr (tTest (tOp (rIn K false) (tC (.str "no")) (tVar 3))) (tTest (tOp (rIn K false) (tC (.str "off")) (tVar 3)))))
    (tRet (tC (.str "off")))
    tNext)
    (tSeq (tIfS (tTest (tOp (rIn K false) (tC (.str "bound")) (tVar 3)))
    (tRet (tC (.str "bound")))
    tNext)
    (tRet (tOp (rIxL K) (tLst (tCons (tC (.str "bound")) (tCons (tC (.str "off")) tNil))) (tOp rModI (tOp rModI (tOp rMulI (tVar 2) (tC (.int 48271))) (tC (.int 1013))) (tC (.int 2))))))))))
def zR0n (K : PySem.W.Frag)  : TS :=
    (tRet (tLC (iRng1 (tCons (tVar 1) tNil)) (gName 0) (tTest (tOp rNe (tVar 0) (tVar 1))) (tTup (tCons (tVar 1) (tCons (tVar 0) (tCons (tVar 2) (tCons (tVar 3) tNil))))) [none, some 0, some 2, some 3]))
def zR0f (K : PySem.W.Frag) (zsp0n : Sp) : TS :=
    (tSeq (tAsg (tVar 1) (gTup K 4 (gCons (gName 2) (gCons (gName 3) (gCons (gName 4) (gCons (gName 5) gNil))))))
    (tSeq (tAsg (tDGet (tVar 0) (tC (.str "book"))) (gName 6))
    (tSeq (tAsg (tLC (iList K (tVar 6)) (gName 0) (tTest (tOp rEq (tOp (rIxT K) (tVar 0) (tC (.int 1))) (tVar 1))) (tOp (rIxT K) (tVar 0) (tC (.int 0))) [none, some 4]) (gName 7))
    (tSeq (tIfS (tTest (tOp rEq (tCB (rLenQ K) (tCons (tVar 7) tNil)) (tC (.int 2))))
    (tSeq (tIfS (tTest (tOp rEq (tVar 5) (tC (.str "no"))))
    (tRet (tLst tNil))
    tNext)
    (tRet (tLst (tCons (tTup (tCons (tVar 3) (tCons (tVar 2) (tCons (tVar 4) (tCons (tOp (rIxL K) (tVar 7) (tC (.int 1))) tNil))))) tNil))))
    tNext)
    (tSeq (tIfS (tTest (tOp rEq (tVar 5) (tC (.str "yes"))))
    (tCut (tIfS (tTest (tOp (rIn K true) (tVar 2) (tDGet (tVar 0) (tC (.str "votes")))))
    (sDPut (tVar 0) (tC (.str "votes")) (tOp rCat (tDGet (tVar 0) (tC (.str "votes"))) (tLst (tCons (tVar 2) tNil))))
    tNext)
    (tSeq (tIfS (tTest (tOp rLtI (tCB (rLenQ K) (tCons (tDGet (tVar 0) (tC (.str "votes"))) tNil)) (tOp rSubI (tDGet (tVar 0) (tC (.str "count"))) (tC (.int 1)))))
    (tRet (tLst tNil))
    tNext)
    (tSeq (tDrop (tBM K "list" rAppend (tVar 6) (tCons (tTup (tCons (tC (.str "bound")) (tCons (tVar 4) tNil))) tNil)))
    (tRet (tCall zsp0n [] E0 (tCons (tVar 3) (tCons (tDGet (tVar 0) (tC (.str "count"))) (tCons (tVar 4) (tCons (tC (.str "bound")) tNil)))))))))
    tNext)
    (tSeq (tDrop (tBM K "list" rAppend (tVar 6) (tCons (tTup (tCons (tC (.str "off")) (tCons (tVar 4) tNil))) tNil)))
    (tRet (tCall zsp0n [] E0 (tCons (tVar 3) (tCons (tDGet (tVar 0) (tC (.str "count"))) (tCons (tVar 4) (tCons (tC (.str "off")) tNil))))))))))))
def zR0r (K : PySem.W.Frag) (zsp0n : Sp) (zsp05 : Sp) (zsp0z : Sp) (zsp0o : Sp) (zsp0l : Sp) (C_House : Addr) : TS :=
    (tSeq (tDrop (tMeth C_House "stop" zsp0o [] E0 (tVar 0) tNil))
    (tSeq (tIfS (tTest (tOp rIsNotB (tFld K (tVar 0) "awake") (tC (.bl false))))
    (tRet (tC (.bl false)))
    tNext)
    (tSeq (tAsg (tMeth C_House "wake" zsp0l [] E0 (tVar 0) tNil) (gName 2))
    (tSeq (tAsg (tLst tNil) (gName 3))
    (tSeq (tAsg (tDGet (tVar 1) (tC (.str "led"))) (gName 4))
    (tCut (tIfS (tTest (tOp rEqD (tLC (iList K (tDGet (tVar 1) (tC (.str "book")))) (gName 0) (tTest (tOp rEq (tOp (rIxT K) (tVar 0) (tC (.int 1))) (tVar 1))) (tOp (rIxT K) (tVar 0) (tC (.int 0))) [none, some 4]) (tLst (tCons (tC (.str "open")) tNil))))
    (tSeq (tDrop (tBM K "list" rAppend (tDGet (tVar 1) (tC (.str "book"))) (tCons (tTup (tCons (tC (.str "off")) (tCons (tVar 4) tNil))) tNil)))
    (tAsg (tCall zsp0n [] E0 (tCons (tDGet (tVar 1) (tC (.str "mine"))) (tCons (tDGet (tVar 1) (tC (.str "count"))) (tCons (tVar 4) (tCons (tC (.str "off")) tNil))))) (gName 3)))
    tNext)
    (tSeq (sDPut (tVar 1) (tC (.str "votes")) (tLst tNil))
    (tSeq (tIfS (tOr (tNot (tB (tCall zsp05 [] E0 (tCons (tVar 2) (tCons (tDGet (tVar 1) (tC (.str "count"))) tNil))))) (tTest (tOp rNeD (tVar 2) (tVar 3))))
    (tRet (tC (.bl false)))
    tNext)
    (tRet (tAndV (tOp rIsB (tFld K (tVar 0) "awake") (tC (.bl true))) (tCall zsp0z [] E0 (tCons (tFld K (tVar 0) "book") (tCons (tDGet (tVar 1) (tC (.str "book"))) tNil)))))))))))))
def zR08 (K : PySem.W.Frag)  : TS :=
    (tSeq (tAsg (tDGet (tVar 0) (tC (.str "mine"))) (gName 2))
    (tSeq (tAsg (tOp rModI (tOp rAddI (tOp rAddI (tVar 2) (tC (.int 1))) (tOp rModI (tOp rModI (tOp rMulI (tVar 1) (tC (.int 48271))) (tC (.int 1039))) (tOp rSubI (tDGet (tVar 0) (tC (.str "count"))) (tC (.int 1))))) (tDGet (tVar 0) (tC (.str "count")))) (gName 3))
    (tSeq (tAsg (tDGet2 (tDGet (tVar 0) (tC (.str "said"))) (tVar 3) (tC (.str ""))) (gName 4))
    (tCut (tIfS (tTest (tOp rEq (tVar 4) (tC (.str ""))))
    (tSeq (tAsg (tOp (rIxL K) (tLst (tCons (tC (.str "yes")) (tCons (tC (.str "yes")) (tCons (tC (.str "yes")) (tCons (tC (.str "no")) tNil))))) (tOp rModI (tOp rModI (tOp rMulI (tVar 1) (tC (.int 48271))) (tC (.int 1049))) (tC (.int 4)))) (gName 4))
    (sDPut (tDGet (tVar 0) (tC (.str "said"))) (tVar 3) (tVar 4)))
    (tIfS (tAnd (tTest (tOp rEq (tVar 4) (tC (.str "yes")))) (tTest (tOp rEq (tOp rModI (tOp rModI (tOp rMulI (tVar 1) (tC (.int 48271))) (tC (.int 1051))) (tC (.int 3))) (tC (.int 1)))))
    (tAsg (tC (.str "query")) (gName 4))
    tNext))
    (tRet (tTup (tCons (tVar 3) (tCons (tVar 2) (tCons (tDGet (tVar 0) (tC (.str "led"))) (tCons (tVar 4) tNil))))))))))
def zR01 (K : PySem.W.Frag) (zsp0y : Sp) : TS :=
    (tSeq (tAsg (tDGet (tVar 0) (tC (.str "mine"))) (gName 3))
    (tSeq (tAsg (tDGet (tVar 0) (tC (.str "count"))) (gName 4))
    (tSeq (tAsg (tOp (rIxL K) (tVar 1) (tOp rModI (tOp rModI (tOp rMulI (tVar 2) (tC (.int 48271))) (tC (.int 1033))) (tC (.int 3)))) (gName 5))
    (tSeq (tAsg (tCall zsp0y [] E0 (tCons (tDGet (tVar 0) (tC (.str "book"))) (tCons (tVar 5) (tCons (tVar 2) tNil)))) (gName 6))
    (tSeq (tAsg (tOp rModI (tOp rAddI (tVar 3) (tC (.int 1))) (tVar 4)) (gName 7))
    (tCut (tIfS (tAnd (tTest (tOp rEq (tVar 6) (tC (.str "query")))) (tTest (tOp rEq (tVar 4) (tC (.int 2)))))
    (tAsg (tC (.str "ask")) (gName 6))
    tNext)
    (tCut (tIfS (tTest (tOp rEq (tVar 6) (tC (.str "query"))))
    (tAsg (tOp rModI (tOp rAddI (tOp rAddI (tVar 3) (tC (.int 2))) (tOp rModI (tOp rModI (tOp rMulI (tVar 2) (tC (.int 48271))) (tC (.int 1039))) (tOp rSubI (tVar 4) (tC (.int 2))))) (tVar 4)) (gName 7))
    tNext)
    (tRet (tTup (tCons (tVar 7) (tCons (tVar 3) (tCons (tVar 5) (tCons (tVar 6) tNil)))))))))))))
def zR0u (K : PySem.W.Frag) (zsp0w : Sp) (zsp05 : Sp) (zsp0a : Sp) (zsp0s : Sp) (C_House : Addr) : TS :=
    (tCut (tIfS (tTest (tOp rEq (tOp rModI (tOp rModI (tOp rMulI (tVar 4) (tC (.int 48271))) (tC (.int 1087))) (tC (.int 2))) (tC (.int 1))))
    (tAsg (tLst (tCons (tMeth C_House "got" zsp0s [] E0 (tVar 0) (tCons (tVar 2) tNil)) tNil)) (gName 5))
    (tAsg (tCall zsp0w [] E0 (tCons (tVar 0) (tCons (tLst (tCons (tVar 2) tNil)) tNil))) (gName 5)))
    (tSeq (tIfS (tOr (tNot (tB (tCB (rIsi K) (tCons (tVar 5) (tCons (tC (.ty "list")) tNil))))) (tTest (tOp rNe (tCB (rLenQ K) (tCons (tVar 5) tNil)) (tC (.int 1)))))
    (tRet (tC (.bl false)))
    tNext)
    (tSeq (tIfS (tOr (tNot (tB (tCall zsp05 [] E0 (tCons (tOp (rIxL K) (tVar 5) (tC (.int 0))) (tCons (tDGet (tVar 1) (tC (.str "count"))) tNil))))) (tTest (tOp rNeD (tOp (rIxL K) (tVar 5) (tC (.int 0))) (tVar 3))))
    (tRet (tC (.bl false)))
    tNext)
    (tRet (tAndV (tCall zsp0a [] E0 (tCons (tFld K (tVar 0) "book") tNil)) (tOp rEqD (tFld K (tVar 0) "book") (tDGet (tVar 1) (tC (.str "book")))))))))
def zR12 (K : PySem.W.Frag) (zsp10 : Sp) (zsp05 : Sp) (zsp0n : Sp) (zsp0r : Sp) (zsp08 : Sp) (zsp0f : Sp) (zsp01 : Sp) (zsp04 : Sp) (zsp0u : Sp) (zsp0m : Sp) (zsp0g : Sp) (C_House : Addr) : TS :=
    (tSeq (tAsg (tOp (rIxL K) (tLst (tCons (tC (.int 2)) (tCons (tC (.int 3)) (tCons (tC (.int 4)) (tCons (tC (.int 5)) (tCons (tC (.int 2)) (tCons (tC (.int 3)) (tCons (tC (.int 4)) (tCons (tC (.int 12)) tNil))))))))) (tOp rModI (tOp rModI (tOp rMulI (tCall zsp10 [] E0 (tCons (tVar 0) (tCons (tC (.int 0)) tNil))) (tC (.int 48271))) (tC (.int 1021))) (tC (.int 8)))) (gName 1))
    (tSeq (tAsg (tOp rModI (tOp rModI (tOp rMulI (tCall zsp10 [] E0 (tCons (tVar 0) (tCons (tC (.int 1)) tNil))) (tC (.int 48271))) (tC (.int 1019))) (tVar 1)) (gName 2))
    (tSeq (tAsg (tOp rModI (tCall zsp10 [] E0 (tCons (tVar 0) (tCons (tC (.int 2)) tNil))) (tCB rIntS (tCons (tOp rCatS (tC (.str "1")) (tOp rMulS (tC (.str "0")) (tC (.int 70)))) tNil))) (gName 3))
    (tSeq (tAsg (tLst (tCons (tOp rAddI (tVar 2) (tC (.int 1))) (tCons (tOp rAddI (tOp rAddI (tVar 2) (tC (.int 1))) (tVar 1)) (tCons (tOp rAddI (tOp rAddI (tVar 2) (tC (.int 1))) (tOp rMulI (tOp rAddI (tC (.int 2)) (tVar 3)) (tVar 1))) tNil)))) (gName 4))
    (tSeq (tAsg (tLst tNil) (gName 5))
    (tSeq (tFor (iRng1 (tCons (tC (.int 3)) tNil)) (gName 6)
    (tIfS (tTest (tOp rEq (tOp rModI (tOp rModI (tOp rMulI (tOp rDivI (tCall zsp10 [] E0 (tCons (tVar 0) (tCons (tC (.int 2)) tNil))) (tOp rAddI (tVar 6) (tC (.int 1)))) (tC (.int 48271))) (tC (.int 1031))) (tC (.int 3))) (tC (.int 1))))
    (tDrop (tBM K "list" rAppend (tVar 5) (tCons (tOp (rIxL K) (tVar 4) (tVar 6)) tNil)))
    tNext))
    (tSeq (tAsg (tCB (rListQ K) (tCons (tVar 5) tNil)) (gName 7))
    (tSeq (tAsg (tMake C_House zsp0m [] E0 (tCons (tVar 2) (tCons (tVar 1) (tCons (tVar 7) tNil)))) (gName 8))
    (tSeq (tIfS (tTest (tOp rNeD (tVar 7) (tVar 5)))
    (tRet (tC (.bl false)))
    tNext)
    (tSeq (tDrop (tBM0 K "list" rClear (tVar 7)))
    (tSeq (tDrop (tBM K "list" rExtend (tVar 7) (tCons (tLC (iList K (tVar 4)) (gName 0) (tTest (tOp (rIn K true) (tVar 0) (tVar 1))) (tVar 0) [none, some 5]) tNil)))
    (tSeq (tAsg (tOp rAddI (tVar 2) (tOp rMulI (tOp rAddI (tC (.int 7)) (tVar 3)) (tVar 1))) (gName 9))
    (tSeq (tAsg (tDisp [((tC (.str "book")), (tLst (tCons (tTup (tCons (tC (.str "open")) (tCons (tVar 9) tNil))) tNil))), ((tC (.str "votes")), (tLst tNil)), ((tC (.str "said")), tDNewK), ((tC (.str "led")), (tVar 9))]) (gName 10))
    (tSeq (sDPut (tVar 10) (tC (.str "mine")) (tVar 2))
    (tSeq (sDPut (tVar 10) (tC (.str "count")) (tVar 1))
    (tSeq (tAsg (tMeth C_House "begin" zsp0g [] E0 (tVar 8) (tCons (tVar 9) tNil)) (gName 11))
    (tSeq (tIfS (tNot (tB (tCall zsp05 [] E0 (tCons (tVar 11) (tCons (tVar 1) tNil)))))
    (tRet (tC (.bl false)))
    tNext)
    (tSeq (tIfS (tTest (tOp rNeD (tVar 11) (tCall zsp0n [] E0 (tCons (tVar 2) (tCons (tVar 1) (tCons (tVar 9) (tCons (tC (.str "ask")) tNil)))))))
    (tRet (tC (.bl false)))
    tNext)
    (tSeq (tFor (iList K (tSl (rSlL K) (tVar 0) (tPart (tC (.int 3))) (tPart (tC (.int 150))))) (gName 12)
    (tSeq (tIfS (tAnd (tTest (tOp rEq (tOp rModI (tOp rModI (tOp rMulI (tVar 12) (tC (.int 48271))) (tC (.int 1091))) (tC (.int 16))) (tC (.int 1)))) (tNot (tB (tCall zsp0r [] E0 (tCons (tVar 8) (tCons (tVar 10) tNil))))))
    (tRet (tC (.bl false)))
    tNext)
    (tCut (tIfS (tTest (tOp rEq (tOp rModI (tOp rModI (tOp rMulI (tVar 12) (tC (.int 48271))) (tC (.int 1097))) (tC (.int 3))) (tC (.int 1))))
    (tSeq (tAsg (tCall zsp08 [] E0 (tCons (tVar 10) (tCons (tVar 12) tNil))) (gName 13))
    (tAsg (tCall zsp0f [] E0 (tCons (tVar 10) (tCons (tVar 13) tNil))) (gName 14)))
    (tSeq (tAsg (tCall zsp01 [] E0 (tCons (tVar 10) (tCons (tVar 4) (tCons (tVar 12) tNil)))) (gName 13))
    (tAsg (tCall zsp04 [] E0 (tCons (tDGet (tVar 10) (tC (.str "book"))) (tCons (tVar 5) (tCons (tVar 2) (tCons (tVar 13) tNil))))) (gName 14))))
    (tIfS (tNot (tB (tCall zsp0u [] E0 (tCons (tVar 8) (tCons (tVar 10) (tCons (tVar 13) (tCons (tVar 14) (tCons (tVar 12) tNil))))))))
    (tRet (tC (.bl false)))
    tNext))))
    (tRet (tC (.bl true))))))))))))))))))))))
def AskSt (b : List Line) (n : Int) : Prop := wordsOf b n = [] ∨ wordsOf b n = [("yes" : Str)] ∨ wordsOf b n = [("no" : Str)] ∨ wordsOf b n = [("off" : Str)] ∨ wordsOf b n = [("yes" : Str), "bound"] ∨ wordsOf b n = [("yes" : Str), "off"]
def isW4 (w : Str) : Prop := w = "ask" ∨ w = "query" ∨ w = "bound" ∨ w = "off"
def lastW (ws : List Str) : Str := ws.getLastD ""
def askF (m : Int) (agn : List Int) (b : List Line) (g n : Int) (w : Str) : List Line × List Letter :=
  if w = "ask" then
    if wordsOf b n = [] then (b ++ [(if n ∈ agn then ("no" : Str) else "yes", n)], [(m, g, n, if n ∈ agn then ("no" : Str) else "yes")])
    else (b, [(m, g, n, if lastW (wordsOf b n) = "no" ∨ lastW (wordsOf b n) = "off" then ("no" : Str) else "yes")])
  else if w = "query" then
    if wordsOf b n = [("yes" : Str)] then (b, []) else if wordsOf b n = [] then (b ++ [(("no" : Str), n)], [(m, g, n, ("off" : Str))])
    else (b, [(m, g, n, if lastW (wordsOf b n) = "bound" then ("bound" : Str) else "off")])
  else if wordsOf b n = [] ∨ wordsOf b n = [("yes" : Str)] then (b ++ [(w, n)], []) else (b, [])
theorem got_asked {h : HS} {m : Int} {agn : List Int} {g n : Int} {w : Str} (hm : h.num = m) (ha : h.agn = agn) (s : AskSt h.book n) (hw : isW4 w) : h.got (g, m, n, w) = ({ h with book := (askF m agn h.book g n w).1 }, (askF m agn h.book g n w).2) := by
  have ask : h.got (g, m, n, "ask") = h.gotAsk g n := by unfold HS.got; dsimp only; rw [if_pos rfl]
  have qry : h.got (g, m, n, "query") = h.gotQuery g n := by unfold HS.got; dsimp only; rw [if_neg (by decide), if_pos rfl]
  have bnd : h.got (g, m, n, "bound") = h.gotDecision n "bound" := by unfold HS.got; dsimp only; rw [if_neg (by decide), if_neg (by decide), if_neg (by decide)]
  have off : h.got (g, m, n, "off") = h.gotDecision n "off" := by unfold HS.got; dsimp only; rw [if_neg (by decide), if_neg (by decide), if_neg (by decide)]
  subst hm
  subst ha
  have dec : decisionIn h.book n = if wordsOf h.book n = [] ∨ wordsOf h.book n = [("yes" : Str)] then none else if lastW (wordsOf h.book n) = "bound" then some ("bound" : Str) else some ("off" : Str) := by
    unfold decisionIn
    rcases s with e | e | e | e | e | e <;> rw [e] <;> decide
  have uns : unsure h.book n = decide (wordsOf h.book n = [("yes" : Str)]) := by
    unfold unsure voteIn decisionIn
    rcases s with e | e | e | e | e | e <;> rw [e] <;> decide
  have lst : lastW (wordsOf h.book n) = "bound" → ¬ (lastW (wordsOf h.book n) = "no" ∨ lastW (wordsOf h.book n) = "off") := by
    intro e; rw [e]; decide
  have lst2 : ¬ (wordsOf h.book n = [] ∨ wordsOf h.book n = [("yes" : Str)]) → ¬ lastW (wordsOf h.book n) = "bound" → (lastW (wordsOf h.book n) = "no" ∨ lastW (wordsOf h.book n) = "off") := by
    rcases s with e | e | e | e | e | e <;> rw [e] <;> decide
  unfold askF
  rcases hw with rfl | rfl | rfl | rfl
  · rw [ask, if_pos rfl]
    unfold HS.gotAsk HS.asked
    by_cases e : wordsOf h.book n = []
    · rw [if_pos e, if_pos e]
      have hd : decisionIn (h.wr (if n ∈ h.agn then "no" else "yes") n).book n = if n ∈ h.agn then some ("off" : Str) else none := by
        show decisionIn (h.book ++ [(_, n)]) n = _
        unfold decisionIn
        rw [wordsOf_app, wordsOf_one, if_pos rfl, e]
        split <;> decide
      rw [hd]
      by_cases a : n ∈ h.agn
      · simp only [if_pos a]; rfl
      · simp only [if_neg a]; rfl
    · rw [if_neg e, if_neg e]
      have q : (decisionIn h.book n = some ("off" : Str)) ↔ (lastW (wordsOf h.book n) = "no" ∨ lastW (wordsOf h.book n) = "off") := by
        unfold decisionIn
        rcases s with e | e | e | e | e | e <;> rw [e] <;> decide
      by_cases z : lastW (wordsOf h.book n) = "no" ∨ lastW (wordsOf h.book n) = "off"
      · rw [if_pos (q.mpr z), if_pos z]
      · rw [if_neg (fun y => z (q.mp y)), if_neg z]
  · rw [qry, if_neg (by decide), if_pos rfl]
    unfold HS.gotQuery
    rw [uns, dec]
    by_cases y : wordsOf h.book n = [("yes" : Str)]
    · rw [if_pos (decide_eq_true y), if_pos y]
    · rw [if_neg (by simpa using y), if_neg y]
      by_cases e : wordsOf h.book n = []
      · rw [if_pos (.inl e), if_pos e]
        simp only []
        rw [if_pos e]; rfl
      · rw [if_neg (fun z => z.elim e y), if_neg e]
        by_cases bb : lastW (wordsOf h.book n) = "bound"
        · simp only [if_pos bb, if_neg e]
        · simp only [if_neg bb, if_neg e]
  · rw [bnd, if_neg (by decide), if_neg (by decide)]
    unfold HS.gotDecision
    rw [dec]
    by_cases e : wordsOf h.book n = [] ∨ wordsOf h.book n = [("yes" : Str)]
    · rw [if_pos e, if_pos e, if_pos rfl]; rfl
    · rw [if_neg e, if_neg e]
      split <;> rw [if_neg (by intro z; cases z)]
  · rw [off, if_neg (by decide), if_neg (by decide)]
    unfold HS.gotDecision
    rw [dec]
    by_cases e : wordsOf h.book n = [] ∨ wordsOf h.book n = [("yes" : Str)]
    · rw [if_pos e, if_pos e, if_pos rfl]; rfl
    · rw [if_neg e, if_neg e]
      split <;> rw [if_neg (by intro z; cases z)]
def SoOk : Nat → PyData → Prop
  | _, .int _ => True
  | _, .str _ => True
  | d + 1, .list ds => ds.length ≤ 1000 ∧ ∀ e ∈ ds, SoOk d e
  | d + 1, .tuple ds => ds.length ≤ 1000 ∧ ∀ e ∈ ds, SoOk d e
  | _, _ => False
def zsp0z (d : Nat) : Sp := fun vs H Q _ => ∃ x y D, vs = [x, y] ∧ Rep H [] x D ∧ Rep H [] y D ∧ SoOk d D ∧ ∀ H', Same H H' → Q (.bl true) H'
def spSub : Nat → Sp
  | 0 => fun _ _ _ _ => False
  | d + 1 => zsp0z d
section
variable (K : PySem.W.Frag)
theorem kit_sb : PySem.W.kitOne K (.type "str") (.type "bool") = some false := by with_unfolding_all rfl
theorem kit_si : PySem.W.kitOne K (.type "str") (.type "int") = some false := by with_unfolding_all rfl
theorem kit_lb : PySem.W.kitOne K (.type "list") (.type "bool") = some false := by with_unfolding_all rfl
theorem kit_li : PySem.W.kitOne K (.type "list") (.type "int") = some false := by with_unfolding_all rfl
theorem kit_ls : PySem.W.kitOne K (.type "list") (.type "str") = some false := by with_unfolding_all rfl
theorem kit_ld : PySem.W.kitOne K (.type "list") (.type "dict") = some false := by with_unfolding_all rfl
theorem kit_lt : PySem.W.kitOne K (.type "list") (.type "tuple") = some false := by with_unfolding_all rfl
theorem kit_tb : PySem.W.kitOne K (.type "tuple") (.type "bool") = some false := by with_unfolding_all rfl
theorem kit_ti : PySem.W.kitOne K (.type "tuple") (.type "int") = some false := by with_unfolding_all rfl
theorem kit_ts : PySem.W.kitOne K (.type "tuple") (.type "str") = some false := by with_unfolding_all rfl
theorem kit_td : PySem.W.kitOne K (.type "tuple") (.type "dict") = some false := by with_unfolding_all rfl
theorem kit_tl : PySem.W.kitOne K (.type "tuple") (.type "list") = some false := by with_unfolding_all rfl
end
theorem zrd0z {K : PySem.W.Frag} (d : Nat) {vs : List V} {H : Hp} {Q : VK} {E : XK} (h : zsp0z d vs H Q E) : zR0z K (spSub d) { nx := fun _ H' => Q .non H', rt := Q } (start ["_law_found", "_law_meant", "_law_k"] vs) H := by
  obtain ⟨x, y, D, rfl, rx, ry, ok, k⟩ := h
  unfold zR0z
  cases D with
  | int i =>
    cases rx.int_inv
    cases ry.int_inv
    walk_at "go"
    refine iteF ?_
    walk_at "go"
    refine ⟨_, _, _, false, rfl, TyO.int _, kit_int_bool _, ?_⟩
    walk_at "go"
    refine iteF ?_
    walk_at "go"
    refine ⟨_, _, _, true, rfl, TyO.int _, kit_same _ _, ?_⟩
    walk_at "go"
    refine iteT ?_
    walk_at "go"
    refine ⟨_, _, _, true, rfl, TyO.int _, kit_same _ _, ?_⟩
    walk_at "go"
    refine iteT ?_
    walk_at "go"
    refine ⟨_, _, _, false, rfl, TyO.int _, kit_int_bool _, ?_⟩
    walk_at "go"
    refine iteT ?_
    walk_at "go"
    rw [decide_eq_true rfl]
    exact k H (Same.refl _)
  | str i =>
    cases rx.str_inv
    cases ry.str_inv
    walk_at "go"
    refine iteF ?_
    walk_at "go"
    refine ⟨_, _, _, false, rfl, TyO.str _, kit_sb _, ?_⟩
    walk_at "go"
    refine iteF ?_
    walk_at "go"
    refine ⟨_, _, _, false, rfl, TyO.str _, kit_si _, ?_⟩
    walk_at "go"
    refine iteF ?_
    walk_at "go"
    refine ⟨_, _, _, true, rfl, TyO.str _, kit_same _ _, ?_⟩
    walk_at "go"
    refine iteT ?_
    walk_at "go"
    refine ⟨_, _, _, true, rfl, TyO.str _, kit_same _ _, ?_⟩
    walk_at "go"
    refine iteT ?_
    walk_at "go"
    rw [decide_eq_true rfl]
    exact k H (Same.refl _)
  | list ds =>
    cases d with
    | zero => exact ok.elim
    | succ d =>
      obtain ⟨hl, hd⟩ := ok
      obtain ⟨a1, xs, rfl, g1, _, r1⟩ := rx.lst_inv
      obtain ⟨a2, ys, rfl, g2, _, r2⟩ := ry.lst_inv
      have l1 : xs.length = ds.length := r1.length
      have l2 : ys.length = ds.length := r2.length
      walk_at "go"
      refine iteF ?_
      walk_at "go"
      refine ⟨_, _, _, false, rfl, TyO.list g2, kit_lb _, ?_⟩
      walk_at "go"
      refine iteF ?_
      walk_at "go"
      refine ⟨_, _, _, false, rfl, TyO.list g2, kit_li _, ?_⟩
      walk_at "go"
      refine iteF ?_
      walk_at "go"
      refine ⟨_, _, _, false, rfl, TyO.list g2, kit_ls _, ?_⟩
      walk_at "go"
      refine iteF ?_
      walk_at "go"
      refine ⟨_, _, _, false, rfl, TyO.list g2, kit_ld _, ?_⟩
      walk_at "go"
      refine iteF ?_
      walk_at "go"
      refine ⟨_, _, _, false, rfl, TyO.list g2, kit_lt _, ?_⟩
      walk_at "go"
      refine ⟨_, _, _, false, rfl, TyO.list g1, kit_lt _, ?_⟩
      walk_at "go"
      refine iteF ?_
      walk_at "go"
      refine ⟨_, _, _, true, rfl, TyO.list g2, kit_same _ _, ?_⟩
      walk_at "go"
      refine ⟨_, _, _, true, rfl, TyO.list g1, kit_same _ _, ?_⟩
      walk_at "go"
      refine iteF ?_
      walk_at "goA"
      rename_i pt hpt H1 s1 gt
      have g1' := g1.same s1
      have g2' := g2.same s1
      refine ⟨_, _, _, _, _, true, rfl, .inl ⟨_, g2', rfl⟩, gt, kit_list2 K, ?_⟩
      walk_at "go"
      refine iteF ?_
      walk_at "go"
      rw [if_neg (by simp [l1, l2])]
      walk_at "go"
      refine st_itr (n := ys.length) (by omega) ?_
      refine for_range (n := ys.length) (fun i σ H' => ∃ v, σ = [some (.ref a1), some (.ref a2), v] ∧ Same H H') ⟨none, rfl, s1⟩ ?_ ?_
      · rintro i σ H2 hi ⟨v, rfl, s2⟩
        obtain ⟨e1, he1⟩ : ∃ e, xs[i]? = some e := ⟨xs[i]'(by omega), List.getElem?_eq_getElem _⟩
        obtain ⟨e2, he2⟩ : ∃ e, ys[i]? = some e := ⟨ys[i], List.getElem?_eq_getElem _⟩
        obtain ⟨d1, hd1, q1⟩ := r1.get he1
        obtain ⟨d2, hd2, q2⟩ := r2.get he2
        rw [hd1] at hd2
        cases Option.some.inj hd2
        have e0 : ((0 : Int) + (i : Int)) = (i : Int) := Int.zero_add _
        walk_at "go"
        refine .inl (st_ixL (sqLr (g1.same s2)) (by rw [e0]; exact atI_nat he1) ?_)
        walk_at "go"
        refine .inl (st_ixL (sqLr (g2.same s2)) (by rw [e0]; exact atI_nat he2) ?_)
        walk_at "go"
        refine ⟨e1, e2, d1, rfl, q1.same s2, q2.same s2, hd d1 (List.mem_of_getElem? hd1), fun H3 s3 => ?_⟩
        walk_at "go"
        refine iteF ?_
        walk_at "go"
        exact ⟨_, rfl, s2.trans s3⟩
      · rintro σ H2 ⟨v, rfl, s2⟩
        walk_at "go"
        exact k H2 s2
  | tuple ds =>
    cases d with
    | zero => exact ok.elim
    | succ d =>
      obtain ⟨hl, hd⟩ := ok
      obtain ⟨a1, xs, rfl, g1, r1⟩ := rx.tup_inv
      obtain ⟨a2, ys, rfl, g2, r2⟩ := ry.tup_inv
      have l1 : xs.length = ds.length := r1.length
      have l2 : ys.length = ds.length := r2.length
      walk_at "go"
      refine iteF ?_
      walk_at "go"
      refine ⟨_, _, _, false, rfl, TyO.tup g2, kit_tb _, ?_⟩
      walk_at "go"
      refine iteF ?_
      walk_at "go"
      refine ⟨_, _, _, false, rfl, TyO.tup g2, kit_ti _, ?_⟩
      walk_at "go"
      refine iteF ?_
      walk_at "go"
      refine ⟨_, _, _, false, rfl, TyO.tup g2, kit_ts _, ?_⟩
      walk_at "go"
      refine iteF ?_
      walk_at "go"
      refine ⟨_, _, _, false, rfl, TyO.tup g2, kit_td _, ?_⟩
      walk_at "go"
      refine iteF ?_
      walk_at "go"
      refine ⟨_, _, _, true, rfl, TyO.tup g2, kit_same _ _, ?_⟩
      walk_at "go"
      refine ⟨_, _, _, true, rfl, TyO.tup g1, kit_same _ _, ?_⟩
      walk_at "go"
      refine iteF ?_
      walk_at "go"
      refine ⟨_, _, _, false, rfl, TyO.tup g2, kit_tl _, ?_⟩
      walk_at "go"
      refine ⟨_, _, _, false, rfl, TyO.tup g1, kit_tl _, ?_⟩
      walk_at "go"
      refine iteF ?_
      walk_at "goA"
      rename_i pt hpt H1 s1 gt
      have g1' := g1.same s1
      have g2' := g2.same s1
      refine ⟨_, _, _, _, _, true, rfl, .inr ⟨_, g2', rfl⟩, gt, kit_tup2 K, ?_⟩
      walk_at "go"
      refine iteF ?_
      refine st_test (st_op (st_cb (st_cons (st_var (by rfl) (st_nil (st_lenT (sqTr g1') ?_))))))
      refine st_cb (st_cons (st_var (by rfl) (st_nil (st_lenT (sqTr g2') ?_))))
      walk_at "go"
      rw [if_neg (by simp [l1, l2])]
      refine st_next (st_seq (st_for (st_iRng (st_cons (st_cb (st_cons (st_var (by rfl) (st_nil (st_lenT (sqTr g2') ?_)))))))))
      walk_at "go"
      refine st_itr (n := ys.length) (by omega) ?_
      refine for_range (n := ys.length) (fun i σ H' => ∃ v, σ = [some (.ref a1), some (.ref a2), v] ∧ Same H H') ⟨none, rfl, s1⟩ ?_ ?_
      · rintro i σ H2 hi ⟨v, rfl, s2⟩
        obtain ⟨e1, he1⟩ : ∃ e, xs[i]? = some e := ⟨xs[i]'(by omega), List.getElem?_eq_getElem _⟩
        obtain ⟨e2, he2⟩ : ∃ e, ys[i]? = some e := ⟨ys[i], List.getElem?_eq_getElem _⟩
        obtain ⟨d1, hd1, q1⟩ := r1.get he1
        obtain ⟨d2, hd2, q2⟩ := r2.get he2
        rw [hd1] at hd2
        cases Option.some.inj hd2
        have e0 : ((0 : Int) + (i : Int)) = (i : Int) := Int.zero_add _
        walk_at "go"
        refine .inr (.inl (st_ixT (sqTr (g1.same s2)) (by rw [e0]; exact atI_nat he1) ?_))
        walk_at "go"
        refine .inr (.inl (st_ixT (sqTr (g2.same s2)) (by rw [e0]; exact atI_nat he2) ?_))
        walk_at "go"
        refine ⟨e1, e2, d1, rfl, q1.same s2, q2.same s2, hd d1 (List.mem_of_getElem? hd1), fun H3 s3 => ?_⟩
        walk_at "go"
        refine iteF ?_
        walk_at "go"
        exact ⟨_, rfl, s2.trans s3⟩
      · rintro σ H2 ⟨v, rfl, s2⟩
        walk_at "go"
        exact k H2 s2
  | none => cases d <;> exact ok.elim
  | bool b => cases d <;> exact ok.elim
  | dict b => cases d <;> exact ok.elim
theorem lc_words {K : PySem.W.Frag} {pb ps : Addr} {b : List Line} {xs : List V} {n : Int} {H : Hp} {Q : VK} (gb : SqL K H pb xs) (rb : Reps H [] xs (b.map lineD)) (hbl : b.length ≤ 1000) (hps : H ps = none)
    (q : ∀ H1, H1 ps = some (.lst ((wordsOf b n).map .str)) → Same H H1 → Q (.ref ps) H1) :
    LcInv (Itl K pb) (gName 0) (tTest (tOp rEq (tOp (rIxT K) (tVar 0) (tC (.int 1))) (tVar 1))) (tOp (rIxT K) (tVar 0) (tC (.int 0))) [none, some (.int n)] H Q ps := by
  have hxl : xs.length = b.length := by rw [rb.length, List.length_map]
  refine lc_list (K := K) (a := pb) (xs := xs) (fun i ys σ H' => ∃ v, σ = [v, some (.int n)] ∧ H' = upd H ps (.lst ys) ∧ ys = (wordsOf (b.take i) n).map .str) ⟨none, rfl, rfl, rfl⟩ ?_ ?_ ?_
  · rintro i ys σ H' hi hp' ⟨v, rfl, rfl, rfl⟩
    exact (Same.new hps).seq gb
  · rintro i x ys σ H' hx hp' ⟨v, rfl, rfl, rfl⟩
    obtain ⟨l, t, hb', rfl, rt⟩ := line_at (rb.same (Same.new hps (o := .lst ((wordsOf (b.take i) n).map V.str)))) hx
    walk_at "go"
    by_cases e : l.2 = n
    · rw [if_pos (by simp [e])]
      walk_at "go"
      refine ⟨_, upd_same, len_small ?_, _, upd_same, _, rfl, upd_upd, ?_⟩
      · rw [List.length_map]
        exact Nat.le_trans (wordsOf_len _ _) (Nat.le_trans (by rw [List.length_take]; omega) (Nat.le_trans hbl (by omega)))
      · rw [take_snoc hb', wordsOf_snoc, if_pos e, List.map_append]; rfl
    · rw [if_neg (by simp [e])]
      exact ⟨_, upd_same, _, rfl, rfl, by rw [take_snoc hb', wordsOf_snoc, if_neg e]⟩
  rintro ys σ H1 g1 ⟨v, rfl, hH1, hys⟩
  rw [hxl, List.take_length] at hys
  subst hys
  exact q H1 g1 (by rw [hH1]; exact Same.new hps)
def FitW (b : List Line) (n : Int) (w : Str) : Prop := isW4 w ∧ (w = "bound" → wordsOf b n ≠ [])
theorem ask_ok {b : List Line} {n : Int} (s : AskSt b n) : OkW (wordsOf b n) := by
  intro w hw
  rcases s with e | e | e | e | e | e <;> rw [e] at hw <;> simp only [List.mem_cons, List.not_mem_nil, or_false] at hw
  · subst hw; exact okS (by simp)
  · subst hw; exact okS (by simp)
  · subst hw; exact okS (by simp)
  · rcases hw with rfl | rfl <;> exact okS (by simp)
  · rcases hw with rfl | rfl <;> exact okS (by simp)
theorem okw_nil : OkW [] := by intro z hz; cases hz
theorem okw_one {w : Str} (h : PyData.strOk w = true) : OkW [w] := by intro z hz; rw [List.mem_singleton.mp hz]; exact h
def zsp0y : Sp := fun vs H Q _ => ∃ pb b xs n z, vs = [.ref pb, .int n, .int z] ∧ H pb = some (.lst xs) ∧ Reps H [] xs (b.map lineD) ∧ b.length ≤ 1000 ∧ AskSt b n ∧ ∀ w H', FitW b n w → Same H H' → Q (.str w) H'
theorem zrd0y {K : PySem.W.Frag} {vs : List V} {H : Hp} {Q : VK} {E : XK} (h : zsp0y vs H Q E) : zR0y K { nx := fun _ H' => Q .non H', rt := Q } (start ["_law_book", "_law_bargain", "_law_cell", "_law_lines"] vs) H := by
  obtain ⟨pb, b, xs, n, z, rfl, gb, rb, hbl, st, k⟩ := h
  have gb' : SqL K H pb xs := sqL gb
  unfold zR0y
  walk_at "go"
  intro ps hps
  refine lc_words gb' rb hbl hps fun H1 g1 s1 => ?_
  have ok := ask_ok st
  walk_at "go"
  by_cases e1 : z * 48271 % 1009 % 8 < 3
  · rw [if_pos (decide_eq_true e1)]
    walk_at "go"
    exact k _ _ ⟨.inl rfl, fun e => absurd e (by decide)⟩ s1
  rw [if_neg (by simpa using e1)]
  walk_at "go"
  by_cases e2 : z * 48271 % 1009 % 8 < 5
  · rw [if_pos (decide_eq_true e2)]
    walk_at "go"
    exact k _ _ ⟨.inr (.inl rfl), fun e => absurd e (by decide)⟩ s1
  rw [if_neg (by simpa using e2)]
  walk_at "goA"
  rename_i pn hpn H2 s2 g2
  have g1' := s2 _ _ g1
  refine st_eqS (xs := wordsOf b n) (ys := []) (.inl g1') (.inl g2) ok okw_nil ?_
  walk_at "go"
  by_cases e3 : wordsOf b n = []
  · rw [if_pos (decide_eq_true e3)]
    refine iteT ?_
    walk_at "go"
    exact k _ _ ⟨.inr (.inr (.inr rfl)), fun e => absurd e (by decide)⟩ (s1.trans s2)
  rw [if_neg (by simpa using e3)]
  have i1 : SqL K H2 ps _ := sqL g1'
  have tail : ∀ (D : Ends), D.rt = Q → tSeq (tIfS (tTest (tOp (rIn K false) (tC (.str "bound")) (tVar 3))) (tRet (tC (.str "bound"))) tNext)
      (tRet (tOp (rIxL K) (tLst (tCons (tC (.str "bound")) (tCons (tC (.str "off")) tNil))) (tOp rModI (tOp rModI (tOp rMulI (tVar 2) (tC (.int 48271))) (tC (.int 1013))) (tC (.int 2))))) D
      [some (.ref pb), some (.int n), some (.int z), some (.ref ps)] H2 := by
    intro D hD
    walk_at "go"
    show if (if false = true then _ else inV (.str "bound") _) = true then _ else _
    rw [if_neg (by decide : ¬ (false = true)), in_strs]
    by_cases e4 : ("bound" : Str) ∈ wordsOf b n
    · rw [if_pos (decide_eq_true e4)]
      walk_at "go"
      rw [hD]
      exact k _ _ ⟨.inr (.inr (.inl rfl)), fun _ => e3⟩ (s1.trans s2)
    · rw [if_neg (by simpa using e4)]
      have h2 : z * 48271 % 1013 % 2 = 0 ∨ z * 48271 % 1013 % 2 = 1 := by omega
      rcases h2 with e | e
      · have hat : atI [V.str "bound", V.str "off"] (z * 48271 % 1013 % 2) = some (.str "bound") := by rw [e]; rfl
        walk_at "goA"
        rename_i p5 hp5 H5 s5 g5
        rw [hD]
        exact k _ _ ⟨.inr (.inr (.inl rfl)), fun _ => e3⟩ ((s1.trans s2).trans s5)
      · have hat : atI [V.str "bound", V.str "off"] (z * 48271 % 1013 % 2) = some (.str "off") := by rw [e]; rfl
        walk_at "goA"
        rename_i p5 hp5 H5 s5 g5
        rw [hD]
        exact k _ _ ⟨.inr (.inr (.inr rfl)), fun e => absurd e (by decide)⟩ ((s1.trans s2).trans s5)
  walk_at "go"
  show if (if false = true then _ else inV (.str "no") _) = true then _ else _
  rw [if_neg (by decide : ¬ (false = true)), in_strs]
  by_cases e4 : ("no" : Str) ∈ wordsOf b n
  · rw [if_pos (decide_eq_true e4)]
    refine iteT ?_
    walk_at "go"
    exact k _ _ ⟨.inr (.inr (.inr rfl)), fun e => absurd e (by decide)⟩ (s1.trans s2)
  rw [if_neg (by simpa using e4)]
  walk_at "go"
  show if (if false = true then _ else inV (.str "off") _) = true then _ else _
  rw [if_neg (by decide : ¬ (false = true)), in_strs]
  by_cases e5 : ("off" : Str) ∈ wordsOf b n
  · rw [if_pos (decide_eq_true e5)]
    walk_at "go"
    exact k _ _ ⟨.inr (.inr (.inr rfl)), fun e => absurd e (by decide)⟩ (s1.trans s2)
  · rw [if_neg (by simpa using e5)]
    walk_at "st"
    exact tail _ rfl
def Told (pb : Addr) (H : Hp) (b' : List Line) (ls : List Letter) (Q : VK) : Prop := ∀ v H' xs', Chg [pb] H H' → H' pb = some (.lst xs') → Reps H' [] xs' (b'.map lineD) → LL H' [] v ls → Fresh H v → Q v H'
theorem Told.same {pb : Addr} {H H1 : Hp} {b' : List Line} {ls : List Letter} {Q : VK} (t : Told pb H b' ls Q) (s : Same H H1) : Told pb H1 b' ls Q := fun v H' xs' c a1 a2 a3 a4 => t v H' xs' ((Chg.of_same s).trans c) a1 a2 a3 (a4.back s)
theorem Told.nil {pb : Addr} {H H' : Hp} {b : List Line} {xs : List V} {Q : VK} {l : Addr} (t : Told pb H b [] Q) (gb : H pb = some (.lst xs)) (rb : Reps H [] xs (b.map lineD)) (s : Same H H') (hl : H l = none) (g : H' l = some (.lst [])) : Q (.ref l) H' :=
  t _ H' xs (.of_same s) (s _ _ gb) (rb.same s) ⟨l, [], rfl, g, by simp, .nil⟩ (by rintro _ ⟨⟩; exact hl)
theorem Told.one {pb : Addr} {H H' : Hp} {b : List Line} {xs : List V} {Q : VK} {l u : Addr} {x y n : Int} {w : Str} (t : Told pb H b [(x, y, n, w)] Q) (gb : H pb = some (.lst xs)) (rb : Reps H [] xs (b.map lineD)) (s : Same H H') (hl : H l = none) (g : H' l = some (.lst [.ref u])) (gu : H' u = some (.tup [.int x, .int y, .int n, .str w])) : Q (.ref l) H' :=
  t _ H' xs (.of_same s) (s _ _ gb) (rb.same s) ⟨l, _, rfl, g, by simp, .cons (rep_letter (.inl gu)) .nil⟩ (by rintro _ ⟨⟩; exact hl)
theorem Told.line {pb : Addr} {H H1 : Hp} {b : List Line} {xs : List V} {w : Str} {n : Int} {ls : List Letter} {Q : VK} {t : Addr} (T : Told pb H (b ++ [(w, n)]) ls Q) (s : Same H H1) (gb : H pb = some (.lst xs)) (rb : Reps H [] xs (b.map lineD)) (g : H1 t = some (.tup [.str w, .int n])) :
    Told pb (upd H1 pb (.lst (xs ++ [.ref t]))) (b ++ [(w, n)]) ls Q ∧ upd H1 pb (.lst (xs ++ [.ref t])) pb = some (.lst (xs ++ [.ref t])) ∧ Reps (upd H1 pb (.lst (xs ++ [.ref t]))) [] (xs ++ [.ref t]) ((b ++ [(w, n)]).map lineD) := by
  have gb1 := s _ _ gb
  have c : Chg [pb] H1 (upd H1 pb (.lst (xs ++ [.ref t]))) := .set (by rw [gb1]; exact True.intro) (by simp)
  refine ⟨fun v H' xs' c2 a1 a2 a3 a4 => T v H' xs' (((Chg.of_same s).trans c).trans c2) a1 a2 a3 (fun l e => ?_), upd_same, ?_⟩
  · have := a4 l e
    by_cases z : l = pb
    · rw [z, upd_same] at this; cases this
    · rw [upd_ne z] at this; exact s.free this
  · rw [List.map_append]
    exact (lines_chg (rb.same s) c).snoc (.tup (.inl (upd_at (ne_of g gb1 (by intro z; cases z)) g)) (.cons (.str _) (.cons (.int _) .nil)))
theorem last_at {ws : List Str} (h : ws ≠ []) : atI (ws.map V.str) (-1) = some (.str (lastW ws)) := by
  obtain ⟨r, x, rfl⟩ : ∃ r x, ws = r ++ [x] := ⟨ws.dropLast, ws.getLast h, (List.dropLast_concat_getLast h).symm⟩
  rw [List.map_append]
  show atI (_ ++ [V.str x]) (-1) = _
  rw [atI_last]
  simp [lastW]
theorem in_no_off (w : Str) : inV (.str w) [.str "no", .str "off"] = decide (w = "no" ∨ w = "off") := by
  have := in_strs w ["no", "off"]
  simp only [List.map_cons, List.map_nil] at this
  rw [this]; simp [List.mem_cons]
def zsp04 : Sp := fun vs H Q _ => ∃ (pb pa : Addr) (m : Int) (pl : Addr) (b : List Line) (xs : List V) (agn : List Int) (g to n : Int) (w : Str), vs = [.ref pb, .ref pa, .int m, .ref pl] ∧ H pb = some (.lst xs) ∧ Reps H [] xs (b.map lineD) ∧ b.length ≤ 1000 ∧ H pa = some (.lst (agn.map .int)) ∧
  Rd H pl (.tup [.int g, .int to, .int n, .str w]) ∧ AskSt b n ∧ isW4 w ∧ Told pb H (askF m agn b g n w).1 (askF m agn b g n w).2 Q
theorem zrd04 {K : PySem.W.Frag} {vs : List V} {H : Hp} {Q : VK} {E : XK} (h : zsp04 vs H Q E) : zR04 K { nx := fun _ H' => Q .non H', rt := Q } (start ["_law_book", "_law_against", "_law_mine", "_law_letter", "_law_giver", "_law_to", "_law_bargain", "_law_word", "_law_lines", "_law_told"] vs) H := by
  obtain ⟨pb, pa, m, pl, b, xs, agn, g, to, n, w, rfl, gb, rb, hbl, ga, rl, st, hw, k⟩ := h
  have hxl : xs.length = b.length := by rw [rb.length, List.length_map]
  unfold zR04
  walk_at "go"
  refine ⟨pl, _, rfl, sqTr rl, rfl, _, _, rfl, ?_⟩
  walk_at "go"
  refine ⟨_, _, rfl, ?_⟩
  walk_at "go"
  refine ⟨_, _, rfl, ?_⟩
  walk_at "go"
  refine ⟨_, _, rfl, ?_⟩
  walk_at "go"
  refine ⟨rfl, ?_⟩
  have gb' : SqL K H pb xs := sqL gb
  walk_at "go"
  intro ps hps
  refine lc_words gb' rb hbl hps fun H1 g1 s1 => ?_
  have ok := ask_ok st
  have k1 := k.same s1
  have gb1 := s1 _ _ gb
  have rb1 := rb.same s1
  have ga1 := s1 _ _ ga
  have npb : ps ≠ pb := (ne_new hps gb).symm
  clear k gb rb ga gb' hps s1 rl
  unfold askF at k1
  have b1 : SqL K H1 ps _ := sqL g1
  walk_at "go"
  by_cases ea : w = "ask"
  · rw [if_pos (by simp [ea])]
    rw [if_pos ea] at k1
    refine st_cut (fun σ' H' => ∃ ps ws xs' b', σ' = [some (.ref pb), some (.ref pa), some (.int m), some (.ref pl), some (.int g), some (.int to), some (.int n), some (.str w), some (.ref ps), none] ∧ ws ≠ [] ∧ H' ps = some (.lst (ws.map .str)) ∧ ps ≠ pb ∧
      H' pb = some (.lst xs') ∧ Reps H' [] xs' (b'.map lineD) ∧ Told pb H' b' [(m, g, n, if lastW ws = "no" ∨ lastW ws = "off" then ("no" : Str) else "yes")] Q) ?_ ?_
    · walk_at "goA"
      rename_i pn hpn H2 s2 g2
      refine st_eqS (xs := wordsOf b n) (ys := []) (.inl (s2 _ _ g1)) (.inl g2) ok okw_nil ?_
      walk_at "go"
      by_cases e3 : wordsOf b n = []
      · rw [if_pos (decide_eq_true e3)]
        rw [if_pos e3] at k1
        have ga2 : SqL K H2 pa _ := sqL (s2 _ _ ga1)
        have hat : atI [V.str "yes", V.str "no"] (if (if false = true then !inV (V.int n) (agn.map V.int) else inV (V.int n) (agn.map V.int)) = true then (1 : Int) else 0) = some (.str (if n ∈ agn then "no" else "yes")) := by
          rw [if_neg (by decide : ¬ (false = true)), in_ints]
          by_cases z : n ∈ agn
          · rw [if_pos (decide_eq_true z), if_pos z]; rfl
          · rw [if_neg (by simpa using z), if_neg z]; rfl
        have hlast : (if lastW [if n ∈ agn then ("no" : Str) else "yes"] = "no" ∨ lastW [if n ∈ agn then ("no" : Str) else "yes"] = "off" then ("no" : Str) else "yes") = (if n ∈ agn then ("no" : Str) else "yes") := by
          by_cases z : n ∈ agn
          · rw [if_pos z]; decide
          · rw [if_neg z]; decide
        generalize (if n ∈ agn then ("no" : Str) else "yes") = vw at *
        walk_at "goA"
        rename_i p3 hp3 H3 s3 g3 p4 hp4 H4 s4 g4
        have s24 := s2.trans (s3.trans s4)
        refine ⟨.inl ⟨rfl, _, sqL (s24 _ _ gb1)⟩, ?_⟩
        have g4' : SqL K H4 p4 _ := sqL g4
        walk_at "goA"
        rename_i p5 hp5 H5 s5 g5
        have s25 := s24.trans s5
        refine st_append (s25 _ _ gb1) (len_small (by omega)) ?_
        obtain ⟨k6, gb6, rb6⟩ := k1.line s25 gb1 rb1 g5
        refine ⟨p4, [vw], _, _, rfl, by simp, upd_at (ne_new hp4 (s3 _ _ (s2 _ _ gb1))).symm (s5 _ _ g4), (ne_new hp4 (s3 _ _ (s2 _ _ gb1))).symm, gb6, rb6, ?_⟩
        rw [hlast]
        exact k6
      · rw [if_neg (by simpa using e3)]
        rw [if_neg e3] at k1
        walk_at "go"
        exact ⟨ps, wordsOf b n, xs, b, rfl, e3, s2 _ _ g1, npb, s2 _ _ gb1, rb1.same s2, k1.same s2⟩
    · rintro σ' H2 ⟨ps, ws, xs', b', rfl, hne, g2, np, gb2, rb2, k2⟩
      have g2' : SqL K H2 ps _ := sqL g2
      have hla := last_at hne
      have hat : atI [V.str "yes", V.str "no"] (if (if false = true then !inV (V.str (lastW ws)) [V.str "no", V.str "off"] else inV (V.str (lastW ws)) [V.str "no", V.str "off"]) = true then (1 : Int) else 0) = some (.str (if lastW ws = "no" ∨ lastW ws = "off" then "no" else "yes")) := by
        rw [if_neg (by decide : ¬ (false = true)), in_no_off]
        by_cases z : lastW ws = "no" ∨ lastW ws = "off"
        · rw [if_pos (decide_eq_true z), if_pos z]; rfl
        · rw [if_neg (by simpa using z), if_neg z]; rfl
      walk_at "goA"
      rename_i pA hA HA sA gA pB hB HB sB gB pT hT HT sT gT pL hL HL sL gL
      exact k2.one gb2 rb2 (sA.trans (sB.trans (sT.trans sL))) (sA.free (sB.free (sT.free hL))) gL (sL _ _ gT)
  · rw [if_neg (by simp [ea])]
    rw [if_neg ea] at k1
    walk_at "go"
    by_cases eq : w = "query"
    · rw [if_pos (by simp [eq])]
      rw [if_pos eq] at k1
      walk_at "goA"
      rename_i p2 hp2 H2 s2 g2
      refine st_eqS (xs := wordsOf b n) (ys := ["yes"]) (.inl (s2 _ _ g1)) (.inl g2) ok (okw_one (okS (by simp))) ?_
      walk_at "go"
      by_cases ey : wordsOf b n = [("yes" : Str)]
      · rw [if_pos (decide_eq_true ey)]
        rw [if_pos ey] at k1
        walk_at "goA"
        rename_i l hl H3 s3 g3
        exact k1.nil gb1 rb1 (s2.trans s3) (s2.free hl) g3
      rw [if_neg (by simpa using ey)]
      rw [if_neg ey] at k1
      walk_at "goA"
      rename_i p3 hp3 H3 s3 g3
      refine st_eqS (xs := wordsOf b n) (ys := []) (.inl (s3 _ _ (s2 _ _ g1))) (.inl g3) ok okw_nil ?_
      walk_at "go"
      have s23 := s2.trans s3
      by_cases en : wordsOf b n = []
      · rw [if_pos (decide_eq_true en)]
        rw [if_pos en] at k1
        walk_at "go"
        refine ⟨.inl ⟨rfl, _, sqL (s23 _ _ gb1)⟩, ?_⟩
        walk_at "goA"
        rename_i p5 hp5 H5 s5 g5
        have s25 := s23.trans s5
        refine st_append (s25 _ _ gb1) (len_small (by omega)) ?_
        obtain ⟨k6, gb6, rb6⟩ := k1.line s25 gb1 rb1 g5
        generalize upd H5 pb (.lst (xs ++ [.ref p5])) = H6 at *
        walk_at "goA"
        rename_i p7 hp7 H7 s7 g7 p8 hp8 H8 s8 g8
        exact k6.one gb6 rb6 (s7.trans s8) (s7.free hp8) g8 (s8 _ _ g7)
      · rw [if_neg (by simpa using en)]
        rw [if_neg en] at k1
        have hla := last_at en
        have b3 : SqL K H3 ps _ := sqL (s3 _ _ (s2 _ _ g1))
        have hat : atI [V.str "off", V.str "bound"] (if decide (V.str (lastW (wordsOf b n)) = V.str "bound") = true then (1 : Int) else 0) = some (.str (if lastW (wordsOf b n) = "bound" then "bound" else "off")) := by
          by_cases z : lastW (wordsOf b n) = "bound"
          · rw [if_pos (decide_eq_true (congrArg V.str z)), if_pos z]; rfl
          · rw [if_neg (fun y => z (V.str.inj (of_decide_eq_true y))), if_neg z]; rfl
        walk_at "goA"
        rename_i pA hA HA sA gA pT hT HT sT gT pL hL HL sL gL
        exact k1.one gb1 rb1 (s23.trans (sA.trans (sT.trans sL))) (s23.free (sA.free (sT.free hL))) gL (sL _ _ gT)
    · rw [if_neg (by simp [eq])]
      rw [if_neg eq] at k1
      walk_at "go"
      refine st_cut (fun σ' H' => ∃ xs' b', σ' = [some (.ref pb), some (.ref pa), some (.int m), some (.ref pl), some (.int g), some (.int to), some (.int n), some (.str w), some (.ref ps), none] ∧ H' pb = some (.lst xs') ∧ Reps H' [] xs' (b'.map lineD) ∧ Told pb H' b' [] Q) ?_ ?_
      · have app : ∀ (D : Ends) (H2 : Hp), Same H1 H2 → Told pb H1 (b ++ [(w, n)]) [] Q → (∀ H' xs' b', H' pb = some (.lst xs') → Reps H' [] xs' (b'.map lineD) → Told pb H' b' [] Q → D.nx [some (.ref pb), some (.ref pa), some (.int m), some (.ref pl), some (.int g), some (.int to), some (.int n), some (.str w), some (.ref ps), none] H') →
            tDrop (tBM K "list" rAppend (tVar 0) (tCons (tTup (tCons (tVar 7) (tCons (tVar 6) tNil))) tNil)) D [some (.ref pb), some (.ref pa), some (.int m), some (.ref pl), some (.int g), some (.int to), some (.int n), some (.str w), some (.ref ps), none] H2 := by
          intro D H2 s2 T hD
          walk_at "go"
          refine ⟨.inl ⟨rfl, _, sqL (s2 _ _ gb1)⟩, ?_⟩
          walk_at "goA"
          rename_i p5 hp5 H5 s5 g5
          have s25 := s2.trans s5
          refine st_append (s25 _ _ gb1) (len_small (by omega)) ?_
          obtain ⟨k6, gb6, rb6⟩ := T.line s25 gb1 rb1 g5
          exact hD _ _ _ gb6 rb6 k6
        walk_at "goA"
        rename_i p2 hp2 H2 s2 g2
        refine st_eqS (xs := wordsOf b n) (ys := []) (.inl (s2 _ _ g1)) (.inl g2) ok okw_nil ?_
        walk_at "go"
        by_cases en : wordsOf b n = []
        · rw [if_pos (decide_eq_true en)]
          rw [if_pos (.inl en)] at k1
          refine iteT ?_
          exact app _ H2 s2 k1 fun H' xs' b' h1 h2 h3 => ⟨xs', b', rfl, h1, h2, h3⟩
        rw [if_neg (by simpa using en)]
        walk_at "goA"
        rename_i p3 hp3 H3 s3 g3
        refine st_eqS (xs := wordsOf b n) (ys := ["yes"]) (.inl (s3 _ _ (s2 _ _ g1))) (.inl g3) ok (okw_one (okS (by simp))) ?_
        walk_at "go"
        by_cases ey : wordsOf b n = [("yes" : Str)]
        · rw [if_pos (decide_eq_true ey)]
          rw [if_pos (.inr ey)] at k1
          exact app _ H3 (s2.trans s3) k1 fun H' xs' b' h1 h2 h3 => ⟨xs', b', rfl, h1, h2, h3⟩
        · rw [if_neg (by simpa using ey)]
          rw [if_neg (fun z => z.elim en ey)] at k1
          walk_at "go"
          have s := s2.trans s3
          exact ⟨xs, b, rfl, s _ _ gb1, rb1.same s, k1.same s⟩
      · rintro σ' H2 ⟨xs', b', rfl, gb2, rb2, k2⟩
        walk_at "goA"
        rename_i l hl H3 s3 g3
        exact k2.nil gb2 rb2 s3 hl g3
theorem st_eqD_book {H : Hp} {Q : VK} {x y : V} {b : List Line} (h1 : Rep H [] x (bookD b)) (h2 : Rep H [] y (bookD b)) (ok : OkB b) (q : Q (.bl true) H) : rEqD x y H Q :=
  ⟨_, _, h1, h2, shaped_book ok, shaped_book ok, by rw [eqv_book ok]; exact q⟩
theorem st_neD_letters {H : Hp} {Q : VK} {x y : V} {b : List Letter} (h1 : Rep H [] x (lettersD b)) (h2 : Rep H [] y (lettersD b)) (ok : ∀ l ∈ b, PyData.strOk l.2.2.2 = true) (q : Q (.bl false) H) : rNeD x y H Q :=
  ⟨_, _, h1, h2, shaped_letters ok, shaped_letters ok, by rw [eqv_letters ok]; exact q⟩
theorem HouseAt.trk {C : Addr} {H : Hp} {p : Addr} {h : HS} {R : List Addr} {N : Nat} (I : HouseAt C H p h R N) : ∀ a ∈ R, ∃ o, H a = some o := by
  obtain ⟨dx, po, pa, pk, pc, xs, kvs, I⟩ := I; exact I.trk
def zsp0n : Sp := fun vs H Q _ => ∃ (m : Int) (c : Nat) (n : Int) (w : Str), vs = [.int m, .int c, .int n, .str w] ∧ c ≤ 1000 ∧ ∀ v H', Same H H' → LL H' [] v (toAll m c n w) → Fresh H v → Q v H'
theorem zrd0n {K : PySem.W.Frag} {vs : List V} {H : Hp} {Q : VK} {E : XK} (h : zsp0n vs H Q E) : zR0n K { nx := fun _ H' => Q .non H', rt := Q } (start ["_law_mine", "_law_count", "_law_bargain", "_law_word"] vs) H := by
  obtain ⟨m, c, n, w, rfl, hc, k⟩ := h
  unfold zR0n
  walk_at "go"
  refine st_itr (by omega) ?_
  intro q hq
  refine lc_range (n := c) (fun i ys σ H' => ∃ v, σ = [v, some (.int m), some (.int n), some (.str w)] ∧ Same H H' ∧ ys.length ≤ i ∧ Reps H' [] ys ((toAll m i n w).map letterD)) ⟨none, rfl, Same.new hq, Nat.le_refl _, .nil⟩ ?_ ?_
  · rintro i ys σ H1 hi hq' ⟨v, rfl, s, hl, rs⟩
    have e0 : ((0 : Int) + (i : Int)) = (i : Int) := Int.zero_add _
    walk_at "go"
    by_cases e : (i : Int) = m
    · rw [if_neg (by simp [e0, e])]
      exact ⟨ys, hq', _, rfl, s, by omega, by unfold toAll; rw [others_snoc, if_pos e]; exact rs⟩
    · rw [if_pos (by simp [e0, e])]
      walk_at "goA"
      rename_i t ht H2 s2 g2
      rw [e0] at g2
      refine ⟨ys, s2 _ _ hq', len_small (by omega), ys ++ [.ref t], upd_same, _, rfl, (s.trans s2).put hq, by rw [List.length_append]; show ys.length + 1 ≤ _; omega, ?_⟩
      unfold toAll at rs ⊢
      rw [others_snoc, if_neg e, List.map_append, List.map_append]
      have ch : Chg [q] H2 (upd H2 q (.lst (ys ++ [.ref t]))) := .set (by rw [s2 _ _ hq']; exact True.intro) (by simp)
      have ntq : t ≠ q := ne_of g2 (s2 _ _ hq') (by intro z; cases z)
      exact (letters_chg (rs.same s2) ch).snoc (rep_letter (.inl (upd_at ntq g2)))
  · rintro ys σ H1 hq' ⟨v, rfl, s, hl, rs⟩
    exact k _ _ s ⟨q, ys, rfl, hq', by simp, rs⟩ (by rintro _ ⟨⟩; exact hq)
def stK (pb pq pd : Addr) (led m : Int) (c : Nat) : List (Key × V) := [(Sum.inr "book", .ref pb), (Sum.inr "votes", .ref pq), (Sum.inr "said", .ref pd), (Sum.inr "led", .int led), (Sum.inr "mine", .int m), (Sum.inr "count", .int c)]
section
variable {pb pq pd pq' : Addr} {led m : Int} {c : Nat}
theorem stK_book : valV (stK pb pq pd led m c) (Sum.inr "book" : Key) = some (.ref pb) := by with_unfolding_all rfl
theorem stK_votes : valV (stK pb pq pd led m c) (Sum.inr "votes" : Key) = some (.ref pq) := by with_unfolding_all rfl
theorem stK_said : valV (stK pb pq pd led m c) (Sum.inr "said" : Key) = some (.ref pd) := by with_unfolding_all rfl
theorem stK_led : valV (stK pb pq pd led m c) (Sum.inr "led" : Key) = some (.int led) := by with_unfolding_all rfl
theorem stK_mine : valV (stK pb pq pd led m c) (Sum.inr "mine" : Key) = some (.int m) := by with_unfolding_all rfl
theorem stK_count : valV (stK pb pq pd led m c) (Sum.inr "count" : Key) = some (.int c) := by with_unfolding_all rfl
theorem stK_put : putK (stK pb pq pd led m c) (Sum.inr "votes" : Key) (.ref pq') = stK pb pq' pd led m c := by with_unfolding_all rfl
end
theorem st_dgetS {H : Hp} {a : Addr} {v : V} {kvs : List (Key × V)} {k : Str} {P : V → Prop} (h : H a = some (.dK kvs)) (e : valV kvs (Sum.inr k) = some v) (q : P v) : ∃ a' v, V.ref a = .ref a' ∧ DGet H a' (.str k) (some v) ∧ P v := ⟨a, v, rfl, e ▸ DGet.k (k := Sum.inr k) h, q⟩
theorem st_dputS {H : Hp} {a : Addr} {v : V} {kvs : List (Key × V)} {k : Str} {P : Hp → Prop} (h : H a = some (.dK kvs)) (l : kvs.length < sizeLine) (q : P (upd H a (.dK (putK kvs (Sum.inr k) v)))) :
    ∃ a' H4, V.ref a = .ref a' ∧ DPut H a' (.str k) v H4 ∧ P H4 := ⟨a, _, rfl, DPut.k (k := Sum.inr k) h l, q⟩
def ToldS (psd pb pq pd : Addr) (led m : Int) (c : Nat) (H : Hp) (r : List Line × List Int × List Letter) (Q : VK) : Prop :=
  ∀ v H' xs' pq', Chg [pb, psd] H H' → H' pb = some (.lst xs') → Reps H' [] xs' (r.1.map lineD) → H' psd = some (.dK (stK pb pq' pd led m c)) → H' pq' = some (.lst (r.2.1.map .int)) → (pq' = pq ∨ H pq' = none) → LL H' [] v r.2.2 → Fresh H v → Q v H'
def zsp0f : Sp := fun vs H Q _ => ∃ (psd pl pb pq pd : Addr) (led m : Int) (c : Nat) (b : List Line) (xs : List V) (gs : List Int) (g n : Int) (w : Str), vs = [.ref psd, .ref pl] ∧ H psd = some (.dK (stK pb pq pd led m c)) ∧ H pb = some (.lst xs) ∧ Reps H [] xs (b.map lineD) ∧ b.length ≤ 1000 ∧
  H pq = some (.lst (gs.map .int)) ∧ pq ≠ pb ∧ gs.length ≤ 1000 ∧ 2 ≤ c ∧ c ≤ 12 ∧ Rd H pl (.tup [.int g, .int m, .int n, .str w]) ∧ ToldS psd pb pq pd led m c H (dueF m c b gs g n w) Q
theorem zrd0f {K : PySem.W.Frag} {vs : List V} {H : Hp} {Q : VK} {E : XK} (h : zsp0f vs H Q E) : zR0f K zsp0n { nx := fun _ H' => Q .non H', rt := Q } (start ["_law_state", "_law_letter", "_law_giver", "_law_mine", "_law_bargain", "_law_word", "_law_book", "_law_lines"] vs) H := by
  obtain ⟨psd, pl, pb, pq, pd, led, m, c, b, xs, gs, g, n, w, rfl, gs0, gb, rb, hbl, gq, nqb, hgl, c2, c12, rl, k⟩ := h
  have hxl : xs.length = b.length := by rw [rb.length, List.length_map]
  unfold zR0f
  walk_at "go"
  refine ⟨pl, _, rfl, sqTr rl, rfl, _, _, rfl, ?_⟩
  walk_at "go"
  refine ⟨_, _, rfl, ?_⟩
  walk_at "go"
  refine ⟨_, _, rfl, ?_⟩
  walk_at "go"
  refine ⟨_, _, rfl, ?_⟩
  walk_at "go"
  refine ⟨rfl, ?_⟩
  walk_at "go"
  refine st_dgetS gs0 stK_book ?_
  have gb' : SqL K H pb xs := sqL gb
  walk_at "go"
  intro ps hps
  refine lc_words gb' rb hbl hps fun H1 g1 s1 => ?_
  have gb1 := s1 _ _ gb
  have rb1 := rb.same s1
  have gs1 := s1 _ _ gs0
  have gq1 := s1 _ _ gq
  have g1' : SqL K H1 ps _ := sqL g1
  have k1 : ToldS psd pb pq pd led m c H1 (dueF m c b gs g n w) Q := fun v H' xs' pq' c a1 a2 a3 a4 a5 a6 a7 => k v H' xs' pq' ((Chg.of_same s1).trans c) a1 a2 a3 a4 (a5.imp id fun z => s1.free z) a6 (a7.back s1)
  clear k gs0 gb rb gq gb' hps rl s1
  unfold dueF at k1
  have hwl : ((wordsOf b n).map V.str).length = (wordsOf b n).length := List.length_map _
  walk_at "go"
  by_cases e2 : (wordsOf b n).length = 2
  · rw [if_pos (by rw [hwl, e2]; rfl)]
    rw [if_pos e2] at k1
    walk_at "go"
    by_cases en : w = "no"
    · rw [if_pos (by simp [en])]
      rw [if_pos en] at k1
      walk_at "goA"
      rename_i l hl H2 s2 g2
      exact k1 _ _ xs pq (.of_same s2) (s2 _ _ gb1) (rb1.same s2) (s2 _ _ gs1) (s2 _ _ gq1) (.inl rfl) ⟨l, [], rfl, g2, by simp, .nil⟩ (by rintro _ ⟨⟩; exact hl)
    · rw [if_neg (by simp [en])]
      rw [if_neg en] at k1
      have at1 : atI ((wordsOf b n).map V.str) 1 = some (.str ((wordsOf b n).getD 1 "")) := atI_nat (j := 1) (by rw [List.getElem?_map, List.getD_eq_getElem?_getD, List.getElem?_eq_getElem (show 1 < (wordsOf b n).length by omega)]; rfl)
      walk_at "goA"
      rename_i t ht H2 s2 g2 l hl H3 s3 g3
      have s := s2.trans s3
      exact k1 _ _ xs pq (.of_same s) (s _ _ gb1) (rb1.same s) (s _ _ gs1) (s _ _ gq1) (.inl rfl) ⟨l, _, rfl, g3, by simp, .cons (rep_letter (.inl (s3 _ _ g2))) .nil⟩ (by rintro _ ⟨⟩; exact s2.free hl)
  rw [if_neg (by rw [hwl]; intro y; exact e2 (by have := V.int.inj (of_decide_eq_true y); omega))]
  rw [if_neg e2] at k1
  have tell : ∀ (v : Str) (D : Ends) (H2 : Hp) (gs2 : List Int) (pq2 : Addr), D.rt = Q → Chg [pb, psd] H1 H2 → (∀ b, H2 b = none → H1 b = none) → H2 pb = some (.lst xs) → Reps H2 [] xs (b.map lineD) → H2 psd = some (.dK (stK pb pq2 pd led m c)) → H2 pq2 = some (.lst (gs2.map .int)) → pq2 ≠ pb → (pq2 = pq ∨ H1 pq2 = none) →
      ToldS psd pb pq pd led m c H1 (b ++ [(v, n)], gs2, toAll m c n v) Q →
      tSeq (tDrop (tBM K "list" rAppend (tVar 6) (tCons (tTup (tCons (tC (.str v)) (tCons (tVar 4) tNil))) tNil)))
        (tRet (tCall zsp0n [] E0 (tCons (tVar 3) (tCons (tDGet (tVar 0) (tC (.str "count"))) (tCons (tVar 4) (tCons (tC (.str v)) tNil)))))) D
        [some (.ref psd), some (.ref pl), some (.int g), some (.int m), some (.int n), some (.str w), some (.ref pb), some (.ref ps)] H2 := by
    intro v D H2 gs2 pq2 hrt c2' fr2 gb2 rb2 gs2' gq2 np hpq kk
    walk_at "go"
    refine ⟨.inl ⟨rfl, _, sqL gb2⟩, ?_⟩
    walk_at "goA"
    rename_i t ht H3 s3 g3
    have gb3 := s3 _ _ gb2
    refine st_append gb3 (len_small (by omega)) ?_
    have c4 : Chg [pb] H3 (upd H3 pb (.lst (xs ++ [.ref t]))) := .set (by rw [gb3]; exact True.intro) (by simp)
    have fr4 : ∀ b, upd H3 pb (.lst (xs ++ [.ref t])) b = none → H1 b = none := fun b hb => by
      by_cases e : b = pb
      · rw [e, upd_same] at hb; cases hb
      · rw [upd_ne e] at hb; exact fr2 _ (s3.free hb)
    have rb4 : Reps (upd H3 pb (.lst (xs ++ [.ref t]))) [] (xs ++ [.ref t]) ((b ++ [(v, n)]).map lineD) := by
      rw [List.map_append]
      exact (lines_chg (rb2.same s3) c4).snoc (.tup (.inl (upd_at (ne_of g3 gb3 (by intro z; cases z)) g3)) (.cons (.str _) (.cons (.int _) .nil)))
    have gq4 : upd H3 pb (.lst (xs ++ [.ref t])) pq2 = _ := upd_at np (s3 _ _ gq2)
    have gs4 : upd H3 pb (.lst (xs ++ [.ref t])) psd = _ := upd_at (ne_of (s3 _ _ gs2') gb3 (by intro z; cases z)) (s3 _ _ gs2')
    have gb4 : upd H3 pb (.lst (xs ++ [.ref t])) pb = some (.lst (xs ++ [.ref t])) := upd_same
    have cc : Chg [pb, psd] H1 (upd H3 pb (.lst (xs ++ [.ref t]))) := (c2'.trans (.of_same s3)).trans (c4.mono (by simp))
    generalize upd H3 pb (.lst (xs ++ [.ref t])) = H4 at *
    walk_at "go"
    refine st_dgetS gs4 stK_count ?_
    walk_at "go"
    refine ⟨m, c, n, v, rfl, by omega, fun v' H5 s5 ll f5 => ?_⟩
    rw [hrt]
    exact kk v' H5 _ pq2 (cc.trans (.of_same s5)) (s5 _ _ gb4) (rb4.same s5) (s5 _ _ gs4) (s5 _ _ gq4) hpq ll (fun a ha => fr4 _ (f5 a ha))
  walk_at "go"
  by_cases ey : w = "yes"
  · rw [if_pos (by simp [ey])]
    rw [if_pos ey] at k1
    refine st_cut (fun σ' H' => ∃ pq2, σ' = [some (.ref psd), some (.ref pl), some (.int g), some (.int m), some (.int n), some (.str w), some (.ref pb), some (.ref ps)] ∧ Chg [pb, psd] H1 H' ∧ (∀ b, H' b = none → H1 b = none) ∧ H' pb = some (.lst xs) ∧ Reps H' [] xs (b.map lineD) ∧ H' psd = some (.dK (stK pb pq2 pd led m c)) ∧ H' pq2 = some (.lst ((addG g gs).map .int)) ∧ pq2 ≠ pb ∧ (pq2 = pq ∨ H1 pq2 = none)) ?_ ?_
    · walk_at "go"
      refine st_dgetS gs1 stK_votes ?_
      have gq1' : SqL K H1 pq _ := sqL gq1
      walk_at "go"
      rw [if_pos rfl, in_ints]
      unfold addG
      by_cases eg : g ∈ gs
      · rw [if_neg (by simp [eg]), if_pos eg]
        walk_at "go"
        exact ⟨pq, rfl, .refl _ _, fun _ h => h, gb1, rb1, gs1, gq1, nqb, .inl rfl⟩
      · rw [if_pos (by simp [eg]), if_neg eg]
        walk_at "go"
        refine st_dgetS gs1 stK_votes ?_
        walk_at "goA"
        rename_i p2 hp2 H2 s2 g2
        refine st_cat (s2 _ _ gq1) g2 (Nat.le_of_lt (len_small (by rw [List.length_map]; show gs.length + 1 ≤ _; omega))) ?_
        walk_at "new"
        rename_i p3 hp3 H3 s3 g3
        walk_at "go"
        have s23 := s2.trans s3
        refine st_dputS (s23 _ _ gs1) (len_small (by show 6 ≤ _; decide)) ?_
        rw [stK_put]
        have n3 : p3 ≠ pb := (ne_new hp3 (s2 _ _ gb1)).symm
        have cS : Chg [psd] H3 (upd H3 psd (.dK (stK pb p3 pd led m c))) := .set (by rw [s23 _ _ gs1]; exact True.intro) (by simp)
        refine ⟨p3, rfl, (Chg.of_same s23).trans (cS.mono (by simp)), fun b hb => ?_, upd_at (ne_of (s23 _ _ gb1) (s23 _ _ gs1) (by intro z; cases z)) (s23 _ _ gb1), lines_chg (rb1.same s23) cS, upd_same, upd_at (ne_of g3 (s23 _ _ gs1) (by intro z; cases z)) (by rw [List.map_append]; exact g3), n3, .inr (s2.free hp3)⟩
        by_cases e : b = psd
        · rw [e, upd_same] at hb; cases hb
        · rw [upd_ne e] at hb; exact s23.free hb
    · rintro σ' H2 ⟨pq2, rfl, c2', fr2, gb2, rb2, gs2, gq2, np2, hpq⟩
      walk_at "go"
      refine st_dgetS gs2 stK_votes ?_
      have gq2' : SqL K H2 pq2 _ := sqL gq2
      walk_at "go"
      refine st_dgetS gs2 stK_count ?_
      walk_at "go"
      by_cases el : (addG g gs).length < c - 1
      · rw [if_pos (by simp only [List.length_map, decide_eq_true_eq]; show ((addG g gs).length : Int) < (c : Int) - 1; omega)]
        rw [if_pos el] at k1
        walk_at "goA"
        rename_i l hl H3 s3 g3
        exact k1 _ _ xs pq2 (c2'.trans (.of_same s3)) (s3 _ _ gb2) (rb2.same s3) (s3 _ _ gs2) (s3 _ _ gq2) hpq ⟨l, [], rfl, g3, by simp, .nil⟩ (by rintro _ ⟨⟩; exact fr2 _ hl)
      · rw [if_neg (by simp only [List.length_map, decide_eq_true_eq]; show ¬ ((addG g gs).length : Int) < (c : Int) - 1; omega)]
        rw [if_neg el] at k1
        walk_at "st"
        exact tell "bound" _ H2 _ _ rfl c2' fr2 gb2 rb2 gs2 gq2 np2 hpq k1
  · rw [if_neg (by simp [ey])]
    rw [if_neg ey] at k1
    walk_at "st"
    exact tell "off" _ H1 _ _ rfl (.refl _ _) (fun _ h => h) gb1 rb1 gs1 gq1 nqb (.inl rfl) k1
theorem giver_ok {m z : Int} {c : Nat} (m0 : 0 ≤ m) (m1 : m < c) (c2 : 2 ≤ c) (c12 : c ≤ 12) : 0 ≤ (m + 1 + z % ((c : Int) - 1)) % (c : Int) ∧ (m + 1 + z % ((c : Int) - 1)) % (c : Int) < c ∧ (m + 1 + z % ((c : Int) - 1)) % (c : Int) ≠ m := by
  have h1 : c = 2 ∨ c = 3 ∨ c = 4 ∨ c = 5 ∨ c = 6 ∨ c = 7 ∨ c = 8 ∨ c = 9 ∨ c = 10 ∨ c = 11 ∨ c = 12 := by omega
  have r0 : 0 ≤ z % ((c : Int) - 1) := Int.emod_nonneg _ (by omega)
  have r1 : z % ((c : Int) - 1) < (c : Int) - 1 := Int.emod_lt_of_pos _ (by omega)
  generalize z % ((c : Int) - 1) = r at *
  rcases h1 with rfl | rfl | rfl | rfl | rfl | rfl | rfl | rfl | rfl | rfl | rfl <;> (refine ⟨?_, ?_, ?_⟩ <;> omega)
theorem giver2_ok {m z : Int} {c : Nat} (m0 : 0 ≤ m) (m1 : m < c) (c3 : 3 ≤ c) (c12 : c ≤ 12) : 0 ≤ (m + 2 + z % ((c : Int) - 2)) % (c : Int) ∧ (m + 2 + z % ((c : Int) - 2)) % (c : Int) < c ∧ (m + 2 + z % ((c : Int) - 2)) % (c : Int) ≠ m := by
  have h1 : c = 3 ∨ c = 4 ∨ c = 5 ∨ c = 6 ∨ c = 7 ∨ c = 8 ∨ c = 9 ∨ c = 10 ∨ c = 11 ∨ c = 12 := by omega
  have r0 : 0 ≤ z % ((c : Int) - 2) := Int.emod_nonneg _ (by omega)
  have r1 : z % ((c : Int) - 2) < (c : Int) - 2 := Int.emod_lt_of_pos _ (by omega)
  generalize z % ((c : Int) - 2) = r at *
  rcases h1 with rfl | rfl | rfl | rfl | rfl | rfl | rfl | rfl | rfl | rfl <;> (refine ⟨?_, ?_, ?_⟩ <;> omega)
def GiverOk (m : Int) (c : Nat) (g : Int) : Prop := 0 ≤ g ∧ g < c ∧ g ≠ m
def SaidOk (sd : List (Key × V)) : Prop := ∀ k v, valV sd (Sum.inl k : Key) = some v → v = .str "yes" ∨ v = .str "no"
def zsp08 : Sp := fun vs H Q _ => ∃ (psd pb pq pd : Addr) (led m : Int) (c : Nat) (sd : List (Key × V)) (z : Int), vs = [.ref psd, .int z] ∧ H psd = some (.dK (stK pb pq pd led m c)) ∧ H pd = some (.dK sd) ∧ SaidOk sd ∧ sd.length ≤ 1000 ∧ 0 ≤ m ∧ m < c ∧ 2 ≤ c ∧ c ≤ 12 ∧ pd ≠ psd ∧
  ∀ t H' g w sd', Chg [pd] H H' → H' pd = some (.dK sd') → SaidOk sd' → sd'.length ≤ sd.length + 1 → H' t = some (.tup [.int g, .int m, .int led, .str w]) → H t = none → isW3 w → GiverOk m c g → Q (.ref t) H'
theorem zrd08 {K : PySem.W.Frag} {vs : List V} {H : Hp} {Q : VK} {E : XK} (h : zsp08 vs H Q E) : zR08 K { nx := fun _ H' => Q .non H', rt := Q } (start ["_law_state", "_law_cell", "_law_mine", "_law_giver", "_law_word"] vs) H := by
  obtain ⟨psd, pb, pq, pd, led, m, c, sd, z, rfl, gs, gd, so, hsl, m0, m1, c2, c12, nds, k⟩ := h
  unfold zR08
  walk_at "go"
  refine st_dgetS gs stK_mine ?_
  walk_at "go"
  refine st_dgetS gs stK_count ?_
  walk_at "go"
  refine st_rI (show (0 : Int) < (c : Int) - 1 by omega) ?_
  walk_at "go"
  refine st_dgetS gs stK_count ?_
  refine st_rI (show (0 : Int) < (c : Int) by omega) ?_
  obtain hg := giver_ok (z := z * 48271 % 1039) m0 m1 c2 c12
  generalize (m + 1 + z * 48271 % 1039 % ((c : Int) - 1)) % (c : Int) = g at *
  walk_at "go"
  refine st_dgetS gs stK_said ?_
  walk_at "go"
  refine st_cut (fun σ' H' => ∃ w sd', σ' = [some (.ref psd), some (.int z), some (.int m), some (.int g), some (.str w)] ∧ isW3 w ∧ Chg [pd] H H' ∧ (∀ b, H' b = none → H b = none) ∧ H' psd = some (.dK (stK pb pq pd led m c)) ∧ H' pd = some (.dK sd') ∧ SaidOk sd' ∧ sd'.length ≤ sd.length + 1) ?_ ?_
  · cases hv : valV sd (Sum.inl g : Key) with
    | none =>
      walk_at "go"
      rw [if_pos (by simp)]
      obtain ⟨wv, hwv, ew⟩ := atI_mem (xs := [V.str "yes", V.str "yes", V.str "yes", V.str "no"]) (r := z * 48271 % 1049 % 4) (by omega) (by show _ < (4 : Int); omega)
      obtain ⟨w, rfl, hw, hw2⟩ : ∃ w, wv = .str w ∧ isW3 w ∧ (V.str w = .str "yes" ∨ V.str w = .str "no") := by
        simp only [List.mem_cons, List.not_mem_nil, or_false] at hwv
        rcases hwv with rfl | rfl | rfl | rfl
        · exact ⟨_, rfl, .inl rfl, .inl rfl⟩
        · exact ⟨_, rfl, .inl rfl, .inl rfl⟩
        · exact ⟨_, rfl, .inl rfl, .inl rfl⟩
        · exact ⟨_, rfl, .inr (.inl rfl), .inr rfl⟩
      clear hwv
      walk_at "goA"
      rename_i p1 hp1 H1 s1 g1
      refine st_dgetS (s1 _ _ gs) stK_said ?_
      walk_at "go"
      refine st_dputK (s1 _ _ gd) (len_small (by omega)) ?_
      have ch : Chg [pd] H1 (upd H1 pd (.dK (putK sd (Sum.inl g) (.str w)))) := .set (by rw [s1 _ _ gd]; exact True.intro) (by simp)
      refine ⟨w, _, rfl, hw, (Chg.of_same s1).trans ch, fun b hb => ?_, upd_at nds.symm (s1 _ _ gs), upd_same, fun k v hk => ?_, length_putK _ _ _⟩
      · by_cases e : b = pd
        · rw [e, upd_same] at hb; cases hb
        · rw [upd_ne e] at hb; exact s1.free hb
      · rw [valV_put] at hk
        split at hk
        · cases hk; exact hw2
        · exact so k v hk
    | some v =>
      have hvs := so g v hv
      have hne : ∀ w : Str, (w = "yes" ∨ w = "no") → ¬ (decide (V.str w = V.str "") = true) := by
        rintro w (rfl | rfl) <;> decide
      obtain ⟨w, rfl, hw⟩ : ∃ w, v = .str w ∧ (w = "yes" ∨ w = "no") := by
        rcases hvs with rfl | rfl
        · exact ⟨_, rfl, .inl rfl⟩
        · exact ⟨_, rfl, .inr rfl⟩
      have hw3 : isW3 w := hw.elim .inl fun e => .inr (.inl e)
      walk_at "go"
      rw [if_neg (show ¬ decide ((some (V.str w)).getD (V.str "") = V.str "") = true from hne w hw)]
      walk_at "go"
      by_cases ey : w = "yes"
      · rw [if_pos (by simp [ey])]
        walk_at "go"
        split
        · walk_at "go"
          exact ⟨"query", sd, rfl, .inr (.inr rfl), .refl _ _, fun _ h => h, gs, gd, so, by omega⟩
        · walk_at "go"
          exact ⟨w, sd, rfl, hw3, .refl _ _, fun _ h => h, gs, gd, so, by omega⟩
      · rw [if_neg (by simp [ey])]
        refine iteF ?_
        walk_at "go"
        exact ⟨w, sd, rfl, hw3, .refl _ _, fun _ h => h, gs, gd, so, by omega⟩
  · rintro σ' H1 ⟨w, sd', rfl, hw, c1, fr1, gs1, gd1, so1, hl1⟩
    walk_at "go"
    refine st_dgetS gs1 stK_led ?_
    walk_at "goA"
    rename_i t ht H2 s2 g2
    exact k t H2 g w sd' (c1.trans (.of_same s2)) (s2 _ _ gd1) so1 hl1 g2 (fr1 _ ht) hw hg
def zsp01 : Sp := fun vs H Q _ => ∃ (psd pb pq pd pg : Addr) (led m : Int) (c : Nat) (b : List Line) (xs : List V) (b0 b1 b2 : Int) (z : Int), vs = [.ref psd, .ref pg, .int z] ∧ H psd = some (.dK (stK pb pq pd led m c)) ∧ H pb = some (.lst xs) ∧ Reps H [] xs (b.map lineD) ∧ b.length ≤ 1000 ∧ H pg = some (.lst [.int b0, .int b1, .int b2]) ∧
  0 ≤ m ∧ m < c ∧ 2 ≤ c ∧ c ≤ 12 ∧ AskSt b b0 ∧ AskSt b b1 ∧ AskSt b b2 ∧
  ∀ t H' g n w, Same H H' → H' t = some (.tup [.int g, .int m, .int n, .str w]) → H t = none → (n = b0 ∨ n = b1 ∨ n = b2) → FitW b n w → GiverOk m c g → Q (.ref t) H'
theorem zrd01 {K : PySem.W.Frag} {vs : List V} {H : Hp} {Q : VK} {E : XK} (h : zsp01 vs H Q E) : zR01 K zsp0y { nx := fun _ H' => Q .non H', rt := Q } (start ["_law_state", "_law_bargains", "_law_cell", "_law_mine", "_law_count", "_law_bargain", "_law_word", "_law_giver"] vs) H := by
  obtain ⟨psd, pb, pq, pd, pg, led, m, c, b, xs, b0, b1, b2, z, rfl, gs, gb, rb, hbl, gg, m0, m1, c2, c12, a0, a1, a2, k⟩ := h
  unfold zR01
  walk_at "go"
  refine st_dgetS gs stK_mine ?_
  walk_at "go"
  refine st_dgetS gs stK_count ?_
  obtain ⟨n, hat, hn⟩ : ∃ n, atI [V.int b0, V.int b1, V.int b2] (z * 48271 % 1033 % 3) = some (.int n) ∧ (n = b0 ∨ n = b1 ∨ n = b2) := by
    have h3 : z * 48271 % 1033 % 3 = 0 ∨ z * 48271 % 1033 % 3 = 1 ∨ z * 48271 % 1033 % 3 = 2 := by omega
    rcases h3 with e | e | e <;> rw [e]
    · exact ⟨_, rfl, .inl rfl⟩
    · exact ⟨_, rfl, .inr (.inl rfl)⟩
    · exact ⟨_, rfl, .inr (.inr rfl)⟩
  have ast : AskSt b n := by rcases hn with rfl | rfl | rfl <;> assumption
  have gg' : SqL K H pg _ := sqL gg
  walk_at "go"
  refine st_dgetS gs stK_book ?_
  walk_at "go"
  refine ⟨pb, b, xs, n, z, rfl, gb, rb, hbl, ast, fun w H1 fw s1 => ?_⟩
  walk_at "go"
  refine st_rI (show (0 : Int) < (c : Int) by omega) ?_
  have hg : GiverOk m c ((m + 1) % (c : Int)) := by
    have := giver_ok (z := 0) m0 m1 c2 c12
    rw [Int.zero_emod, Int.add_zero] at this
    exact this
  generalize (m + 1) % (c : Int) = g at *
  walk_at "go"
  refine st_cut (fun σ' H' => ∃ w, σ' = [some (.ref psd), some (.ref pg), some (.int z), some (.int m), some (.int c), some (.int n), some (.str w), some (.int g)] ∧ H' = H1 ∧ FitW b n w ∧ (w = "query" → 3 ≤ c)) ?_ ?_
  · walk_at "go"
    by_cases eq : w = "query"
    · rw [if_pos (by simp [eq])]
      walk_at "go"
      by_cases ec : c = 2
      · rw [if_pos (decide_eq_true (by rw [ec]; rfl))]
        walk_at "go"
        exact ⟨"ask", rfl, rfl, ⟨.inl rfl, fun e => absurd e (by decide)⟩, fun e => absurd e (by decide)⟩
      · rw [if_neg (fun y => ec (by have := V.int.inj (of_decide_eq_true y); omega))]
        walk_at "go"
        exact ⟨w, rfl, rfl, fw, fun _ => by omega⟩
    · rw [if_neg (by simp [eq])]
      refine iteF ?_
      walk_at "go"
      exact ⟨w, rfl, rfl, fw, fun e => absurd e eq⟩
  clear fw w
  rintro σ' H2 ⟨w, rfl, rfl, fw, hq⟩
  refine st_cut (fun σ' H' => ∃ g, σ' = [some (.ref psd), some (.ref pg), some (.int z), some (.int m), some (.int c), some (.int n), some (.str w), some (.int g)] ∧ H' = H2 ∧ GiverOk m c g) ?_ ?_
  · walk_at "go"
    by_cases eq : w = "query"
    · rw [if_pos (by simp [eq])]
      have c3 := hq eq
      walk_at "go"
      refine st_rI (show (0 : Int) < (c : Int) - 2 by omega) ?_
      walk_at "go"
      refine st_rI (show (0 : Int) < (c : Int) by omega) ?_
      walk_at "go"
      exact ⟨_, rfl, rfl, giver2_ok m0 m1 c3 c12⟩
    · rw [if_neg (by simp [eq])]
      walk_at "go"
      exact ⟨g, rfl, rfl, hg⟩
  clear hg g
  rintro σ' H3 ⟨g, rfl, rfl, hg⟩
  walk_at "goA"
  rename_i t ht H4 s4 g4
  exact k t H4 g n w (s1.trans s4) g4 (s1.free ht) hn fw hg
def zsp0u (C : Addr) : Sp := fun vs H Q _ => ∃ (p psd pl du pb pq pd : Addr) (led m : Int) (c : Nat) (h : HS) (R : List Addr) (N : Nat) (g n : Int) (w : Str) (z : Int) (xs ys : List V), vs = [.ref p, .ref psd, .ref pl, .ref du, .int z] ∧ HouseAt C H p h R N ∧ N ≤ 10000 ∧ h.oth.length ≤ 20 ∧
  H psd = some (.dK (stK pb pq pd led m c)) ∧ ¬ psd ∈ R ∧ Rd H pl (.tup [.int g, .int m, .int n, .str w]) ∧ PyData.strOk w = true ∧ H pb = some (.lst xs) ∧ ¬ pb ∈ R ∧ Reps H [] xs ((h.got (g, m, n, w)).1.book.map lineD) ∧ H du = some (.lst ys) ∧ ¬ du ∈ R ∧ Reps H [] ys ((h.got (g, m, n, w)).2.map letterD) ∧
  GoodLs c (h.got (g, m, n, w)).2 ∧ LineWs (h.got (g, m, n, w)).1.book ∧ ∀ H' R', Move C p H R H' (h.got (g, m, n, w)).1 R' (N + 3) → Q (.bl true) H'
theorem grow_not {R R' : List Addr} {H : Hp} {a : Addr} {o : HO} (n : ¬ a ∈ R) (e : H a = some o) (g : Grow R H R') : ¬ a ∈ R' := fun y => (g _ y).elim n fun z => by rw [e] at z; cases z
theorem zrd0u {K : PySem.W.Frag} {C : Addr} {vs : List V} {H : Hp} {Q : VK} {E : XK} (T : HouseTxt K C) (h : zsp0u C vs H Q E) : zR0u K (zsp0w C) zsp05 zsp0a (zsp0s C) C { nx := fun _ H' => Q .non H', rt := Q } (start ["_law_house", "_law_state", "_law_letter", "_law_due", "_law_cell", "_law_found"] vs) H := by
  obtain ⟨p, psd, pl, du, pb, pq, pd, led, m, c, h, R, N, g, n, w, z, xs, ys, rfl, I, hN, hol, gs, ns, rl, okw, gb, nb, rb, gu, nu, ru, good, lw, k⟩ := h
  unfold zR0u
  refine st_cut (fun σ' H' => ∃ R' pf zf, σ' = [some (.ref p), some (.ref psd), some (.ref pl), some (.ref du), some (.int z), some (.ref pf)] ∧ H' pf = some (.lst [zf]) ∧ Rep H' [] zf (lettersD (h.got (g, m, n, w)).2) ∧ Move C p H R H' (h.got (g, m, n, w)).1 R' (N + 3)) ?_ ?_
  · obtain ⟨dx', po', pa', pk', pc', ws', kvs', I0⟩ := id I
    have ob := I0.ob
    clear I0
    walk_at "go"
    split
    · walk_at "go"
      refine ⟨p, pl, (g, m, n, w), h, R, N, rfl, I, rl, by omega, by omega, okw, fun v2 H1 R1 mv ll fr => ?_⟩
      walk_at "goA"
      rename_i pf hpf H2 s2 g2
      exact ⟨R1, pf, v2, rfl, g2, (ll.rep.plain).same s2, mv.trans (mv.at_.move s2)⟩
    · walk_at "goA"
      rename_i pz hpz H1 s1 g1
      refine ⟨p, pz, [(g, m, n, w)], [.ref pl], h, R, N, rfl, I.same s1, g1, notin_new I.trk hpz, .cons (rep_letter (rl.same s1)) .nil, by show N + 3 * 1 ≤ _; omega, by omega, fun l hl => by rw [List.mem_singleton.mp hl]; exact okw, ?_⟩
      rintro _ H2 R2 mv ⟨pf, zs, rfl, gf, nf, rf⟩
      obtain ⟨zf, r0, rfl, h1, t1⟩ := rf.cons_inv
      cases t1.nil_inv
      walk_at "go"
      exact ⟨R2, pf, zf, rfl, gf, h1.plain, (I.move s1).trans mv⟩
  rintro σ' H1 ⟨R1, pf, zf, rfl, gf, rz, mv⟩
  have gf' : SqL K H1 pf _ := sqL gf
  have gs1 := mv.chg.keep _ _ gs ns
  have gb1 := mv.chg.keep _ _ gb nb
  have rb1 := lines_chg rb mv.chg
  have gu1 := mv.chg.keep _ _ gu nu
  have ru1 := letters_chg ru mv.chg
  walk_at "go"
  refine ⟨_, _, _, true, rfl, TyO.lst gf, kit_same _ _, ?_⟩
  walk_at "go"
  refine iteF ?_
  walk_at "go"
  rw [if_neg (by simp)]
  walk_at "go"
  obtain ⟨az, wz, rfl, gz, _, _⟩ := id rz.lst_inv
  refine st_dgetS gs1 stK_count ?_
  walk_at "go"
  refine ⟨az, c, _, rfl, rz, good, fun H2 s2 => ?_⟩
  have gfJ : SqL K H2 pf _ := s2.seq gf'
  walk_at "go"
  refine iteF ?_
  walk_at "go"
  refine st_neD_letters (rz.same s2) (.lst (.inl (s2 _ _ gu1)) (by simp) (ru1.same s2)) (fun l hl => (good l hl).2.2.2.2.2.ok) ?_
  walk_at "go"
  refine iteF ?_
  have mv2 := mv.trans (mv.at_.move s2)
  obtain ⟨dx2, po2, pa2, pk2, pc2, ws2, kvs2, I2⟩ := id mv2.at_
  have ob2 := I2.ob
  obtain ⟨cl, f1, f2, f3, f4, f5, f6⟩ := T
  walk_at "go"
  refine ⟨pk2, _, rfl, I2.rep, lw, fun H3 s3 => ?_⟩
  have I3 := I2.same s3
  have ob3 := I3.ob
  walk_at "go"
  refine iteT ?_
  walk_at "go"
  refine st_dgetS (s3 _ _ (s2 _ _ gs1)) stK_book ?_
  exact st_eqD_book I3.rep (.lst (.inl (s3 _ _ (s2 _ _ gb1))) (by simp) (rb1.same (s2.trans s3))) I3.okb (k H3 R1 (mv2.trans (mv2.at_.move s3)))
def HS.rested (h : HS) (led : Int) : HS := { h with up := true, cnt := fun _ => [], book := if wordsOf h.book led = [("open" : Str)] then h.book ++ [(("off" : Str), led)] else h.book }
theorem rest_wake {h : HS} {led : Int} (hl : leftOpen h.book = if wordsOf h.book led = [("open" : Str)] then [led] else []) :
    h.stop.wake = (h.rested led, if wordsOf h.book led = [("open" : Str)] then h.toOthers led "off" else []) := by
  unfold HS.wake
  rw [show h.stop.book = h.book from rfl, hl]
  unfold HS.rested
  by_cases e : wordsOf h.book led = [("open" : Str)]
  · simp only [if_pos e]
    show (_, _) = _
    simp [HS.offAll, HS.decide, HS.wr, HS.toOthers, HS.stop]
  · simp only [if_neg e]
    rfl
theorem so_book {b : List Line} (h : b.length ≤ 1000) : SoOk 2 (bookD b) := by
  refine ⟨by rw [List.length_map]; exact h, fun e he => ?_⟩
  obtain ⟨l, _, rfl⟩ := List.mem_map.mp he
  refine ⟨by show 2 ≤ 1000; decide, fun e he => ?_⟩
  simp only [List.mem_cons, List.not_mem_nil, or_false] at he
  rcases he with rfl | rfl
  · exact True.intro
  · exact True.intro
def zsp0r (C : Addr) : Sp := fun vs H Q _ => ∃ (p psd pb pq pd : Addr) (led m : Int) (c : Nat) (h : HS) (R : List Addr) (N : Nat) (xs : List V), vs = [.ref p, .ref psd] ∧ HouseAt C H p h R N ∧ N ≤ 450 ∧ h.oth = othersOf m c ∧ h.num = m ∧ 0 ≤ m ∧ m < c ∧ c ≤ 12 ∧
  H psd = some (.dK (stK pb pq pd led m c)) ∧ ¬ psd ∈ R ∧ H pb = some (.lst xs) ∧ ¬ pb ∈ R ∧ Reps H [] xs (h.book.map lineD) ∧ leftOpen h.book = (if wordsOf h.book led = [("open" : Str)] then [led] else []) ∧ OkW (wordsOf h.book led) ∧ LineWs h.book ∧
  ∀ H' R' xs' pq', HouseAt C H' p (h.rested led) R' (N + 1) → Chg (pb :: psd :: R) H H' → Grow R H R' → (∀ a ∈ R, a ∈ R') → H' pb = some (.lst xs') → Reps H' [] xs' ((h.rested led).book.map lineD) → H' psd = some (.dK (stK pb pq' pd led m c)) → H' pq' = some (.lst []) → H pq' = none → ¬ pq' ∈ R' → Q (.bl true) H'
theorem zrd0r {K : PySem.W.Frag} {C : Addr} {vs : List V} {H : Hp} {Q : VK} {E : XK} (T : HouseTxt K C) (h : zsp0r C vs H Q E) : zR0r K zsp0n zsp05 (zsp0z 2) (zsp0o C) (zsp0l C) C { nx := fun _ H' => Q .non H', rt := Q } (start ["_law_house", "_law_state", "_law_found", "_law_due", "_law_led"] vs) H := by
  obtain ⟨p, psd, pb, pq, pd, led, m, c, h, R, N, xs, rfl, I, hN, ho, hn, m0, m1, c12, gs, ns, gb, nb, rb, hl, okw, lw, k⟩ := h
  obtain ⟨dx0, po0, pa0, pk0, pc0, ws0, z0, I0⟩ := id I
  have ob := I0.ob
  have hbl : h.book.length ≤ N := I0.l1
  have hxl : xs.length = h.book.length := by rw [rb.length, List.length_map]
  clear I0
  unfold zR0r
  walk_at "go"
  refine ⟨p, h, R, N, rfl, I, fun H1 R1 mv1 => ?_⟩
  obtain ⟨dx1, po1, pa1, pk1, pc1, ws1, z1, I1⟩ := id mv1.at_
  have ob1 := I1.ob
  clear I1
  obtain ⟨cl, f1, f2, f3, f4, f5, f6, f7, f8⟩ := id T
  walk_at "go"
  refine ⟨_, _, rfl, rfl, ?_⟩
  walk_at "go"
  refine iteF ?_
  walk_at "go"
  have hlo : (leftOpen h.stop.book).length ≤ 1 := by
    rw [show h.stop.book = h.book from rfl, hl]; split <;> simp
  have hol : h.stop.oth.length ≤ 20 := by
    rw [show h.stop.oth = h.oth from rfl, ho]; exact Nat.le_trans (othersOf_le _ _) (by omega)
  refine ⟨p, h.stop, R1, N, rfl, mv1.at_, by omega, by omega, hol, ?_⟩
  rw [rest_wake hl]
  rintro _ H2 R2 mv2 ⟨pf, zs, rfl, gf, nf, rf⟩ fr
  dsimp only at mv2 rf
  have mv := mv1.trans (mv2.more (show N + (leftOpen h.stop.book).length ≤ N + 1 by omega))
  have gs2 := mv.chg.keep _ _ gs ns
  have gb2 := mv.chg.keep _ _ gb nb
  have rb2 := lines_chg rb mv.chg
  have nb2 := grow_not nb gb mv.gr
  have ns2 := grow_not ns gs mv.gr
  have rf2 : Reps H2 [] zs ((if wordsOf h.book led = [("open" : Str)] then h.toOthers led "off" else []).map letterD) := rf.plain
  have e1 : (if wordsOf h.book led = [("open" : Str)] then h.toOthers led "off" else []) = (if wordsOf h.book led = [("open" : Str)] then toAll m c led "off" else []) := by
    split
    · show h.oth.map _ = _; rw [ho, hn]; rfl
    · rfl
  rw [e1] at rf2
  have fr2 : ∀ b, H2 b = none → H b = none := fun b hb => mv.free hb
  have nfb : pf ≠ pb := fun e => by subst e; have := fr pf rfl; rw [mv1.chg.keep _ _ gb nb] at this; cases this
  have nfs : pf ≠ psd := fun e => by subst e; have := fr pf rfl; rw [mv1.chg.keep _ _ gs ns] at this; cases this
  clear mv1 mv2 rf fr ob ob1 gs gb rb I hlo hol e1
  walk_at "goA"
  rename_i du hdu H3 s3 g3
  refine st_dgetS (s3 _ _ gs2) stK_led ?_
  walk_at "go"
  refine st_cut (fun σ' H' => ∃ du xs' ys, σ' = [some (.ref p), some (.ref psd), some (.ref pf), some (.ref du), some (.int led)] ∧ H' du = some (.lst ys) ∧ Reps H' [] ys ((if wordsOf h.book led = [("open" : Str)] then toAll m c led "off" else []).map letterD) ∧
    H' pb = some (.lst xs') ∧ Reps H' [] xs' ((h.rested led).book.map lineD) ∧ H' psd = some (.dK (stK pb pq pd led m c)) ∧ Chg [pb] H2 H' ∧ (∀ b, H' b = none → H2 b = none) ∧ du ≠ psd) ?_ ?_
  · have gb3 : SqL K H3 pb xs := sqL (s3 _ _ gb2)
    walk_at "go"
    refine st_dgetS (s3 _ _ gs2) stK_book ?_
    walk_at "go"
    intro ps hps
    refine lc_words gb3 (rb2.same s3) (by omega) hps fun H4 g4 s4 => ?_
    walk_at "goA"
    rename_i po hpo H5 s5 g5
    refine st_eqS (xs := wordsOf h.book led) (ys := [("open" : Str)]) (.inl (s5 _ _ g4)) (.inl g5) okw (okw_one (okS (by simp))) ?_
    have s25 := s3.trans (s4.trans s5)
    walk_at "go"
    by_cases e : wordsOf h.book led = [("open" : Str)]
    · rw [if_pos (decide_eq_true e)]
      simp only [if_pos e] at rf2 ⊢
      walk_at "go"
      refine st_dgetS (s25 _ _ gs2) stK_book ?_
      refine ⟨.inl ⟨rfl, _, sqL (s25 _ _ gb2)⟩, ?_⟩
      walk_at "goA"
      rename_i t ht H6 s6 g6
      have s26 := s25.trans s6
      have gb6 := s26 _ _ gb2
      refine st_append gb6 (len_small (by omega)) ?_
      have c7 : Chg [pb] H6 (upd H6 pb (.lst (xs ++ [.ref t]))) := .set (by rw [gb6]; exact True.intro) (by simp)
      have fr7 : ∀ b, upd H6 pb (.lst (xs ++ [.ref t])) b = none → H2 b = none := fun b hb => by
        by_cases e : b = pb
        · rw [e, upd_same] at hb; cases hb
        · rw [upd_ne e] at hb; exact s26.free hb
      have rb7 : Reps (upd H6 pb (.lst (xs ++ [.ref t]))) [] (xs ++ [.ref t]) ((h.book ++ [(("off" : Str), led)]).map lineD) := by
        rw [List.map_append]
        exact (lines_chg (rb2.same s26) c7).snoc (.tup (.inl (upd_at (ne_of g6 gb6 (by intro z; cases z)) g6)) (.cons (.str _) (.cons (.int _) .nil)))
      have gs7 : upd H6 pb (.lst (xs ++ [.ref t])) psd = _ := upd_at (ne_of (s26 _ _ gs2) gb6 (by intro z; cases z)) (s26 _ _ gs2)
      have gb7 : upd H6 pb (.lst (xs ++ [.ref t])) pb = some (.lst (xs ++ [.ref t])) := upd_same
      have cc : Chg [pb] H2 (upd H6 pb (.lst (xs ++ [.ref t]))) := (Chg.of_same s26).trans c7
      generalize upd H6 pb (.lst (xs ++ [.ref t])) = H7 at *
      walk_at "go"
      refine st_dgetS gs7 stK_mine ?_
      walk_at "go"
      refine st_dgetS gs7 stK_count ?_
      walk_at "go"
      refine ⟨m, c, led, "off", rfl, by omega, fun v' H8 s8 ll f8 => ?_⟩
      obtain ⟨du', ys, rfl, g8, _, r8⟩ := ll
      walk_at "go"
      have hb8 : (h.rested led).book = h.book ++ [(("off" : Str), led)] := by unfold HS.rested; simp only [if_pos e]
      rw [hb8]
      exact ⟨du', _, ys, rfl, g8, r8, s8 _ _ gb7, rb7.same s8, s8 _ _ gs7, cc.trans (.of_same s8), fun b hb => fr7 _ (s8.free hb), fun y => by subst y; have := f8 _ rfl; rw [gs7] at this; cases this⟩
    · rw [if_neg (by simpa using e)]
      simp only [if_neg e] at rf2 ⊢
      walk_at "go"
      have hb8 : (h.rested led).book = h.book := by unfold HS.rested; simp only [if_neg e]
      rw [hb8]
      have s35 := s4.trans s5
      exact ⟨du, xs, [], rfl, s35 _ _ g3, .nil, s25 _ _ gb2, rb2.same s25, s25 _ _ gs2, .of_same s25, fun b hb => s25.free hb, fun y => by subst y; rw [gs2] at hdu; cases hdu⟩
  rintro σ' H4 ⟨du', xs', ys, rfl, gu4, ru4, gb4, rb4, gs4, c4, fr4, nus⟩
  have at4 : HouseAt C H4 p (h.rested led) R2 (N + 1) := mv.at_.chg c4 fun a ha e => nb2 (by rw [List.mem_singleton.mp e] at ha; exact ha)
  have gf4 := c4.keep _ _ gf (by simpa using nfb)
  have rf4 := letters_chg rf2 c4
  have good : GoodLs c (if wordsOf h.book led = [("open" : Str)] then toAll m c led "off" else []) := by
    split
    · exact fun l hl => by
        obtain ⟨g, hg, rfl⟩ := List.mem_map.mp hl
        obtain ⟨q1, q2, q3⟩ := others_mem hg
        exact ⟨m0, m1, q1, q2, fun y => q3 y.symm, .inr (.inr (.inr (.inr (.inl rfl))))⟩
    · intro l hl; cases hl
  generalize (if wordsOf h.book led = [("open" : Str)] then toAll m c led "off" else []) = ls at *
  walk_at "goA"
  rename_i pq' hpq H5 s5 g5
  refine st_dputS (s5 _ _ gs4) (len_small (by show 6 ≤ _; decide)) ?_
  rw [stK_put]
  have gs5 := s5 _ _ gs4
  have c6 : Chg [psd] H5 (upd H5 psd (.dK (stK pb pq' pd led m c))) := .set (by rw [gs5]; exact True.intro) (by simp)
  have fr6 : ∀ b, upd H5 psd (.dK (stK pb pq' pd led m c)) b = none → H4 b = none := fun b hb => by
    by_cases e : b = psd
    · rw [e, upd_same] at hb; cases hb
    · rw [upd_ne e] at hb; exact s5.free hb
  have nbs : pb ≠ psd := ne_of gb4 gs4 (by intro z; cases z)
  have at6 := (at4.same s5).chg c6 fun a ha e => ns2 (by rw [List.mem_singleton.mp e] at ha; exact ha)
  have gb6 : upd H5 psd (.dK (stK pb pq' pd led m c)) pb = _ := upd_at nbs (s5 _ _ gb4)
  have rb6 := lines_chg (rb4.same s5) c6
  have gu6 : upd H5 psd (.dK (stK pb pq' pd led m c)) du' = _ := upd_at nus (s5 _ _ gu4)
  have ru6 := letters_chg (ru4.same s5) c6
  have gf6 : upd H5 psd (.dK (stK pb pq' pd led m c)) pf = _ := upd_at nfs (s5 _ _ gf4)
  have rf6 := letters_chg (rf4.same s5) c6
  have gs6 : upd H5 psd (.dK (stK pb pq' pd led m c)) psd = some (.dK (stK pb pq' pd led m c)) := upd_same
  have npq : pq' ≠ psd := ne_of g5 gs5 (by intro z; cases z)
  have gq6 : upd H5 psd (.dK (stK pb pq' pd led m c)) pq' = _ := upd_at npq g5
  have hpq0 : H pq' = none := fr2 _ (fr4 _ hpq)
  have hpqR : ¬ pq' ∈ R2 := notin_new mv.at_.trk (fr4 _ hpq)
  have cA : Chg (pb :: psd :: R) H (upd H5 psd (.dK (stK pb pq' pd led m c))) :=
    (((mv.chg.mono (fun _ y => List.mem_cons_of_mem _ (List.mem_cons_of_mem _ y))).trans (c4.mono (by simp))).trans (.of_same s5)).trans (c6.mono (by simp))
  generalize upd H5 psd (.dK (stK pb pq' pd led m c)) = H6 at *
  walk_at "go"
  refine st_dgetS gs6 stK_count ?_
  have rfr : Rep H6 [] (.ref pf) (lettersD ls) := .lst (.inl gf6) (by simp) rf6
  walk_at "go"
  refine ⟨pf, c, ls, rfl, rfr, good, fun H7 s7 => ?_⟩
  walk_at "go"
  refine iteF ?_
  walk_at "go"
  refine st_neD_letters (rfr.same s7) (.lst (.inl (s7 _ _ gu6)) (by simp) (ru6.same s7)) (fun l hl => (good l hl).2.2.2.2.2.ok) ?_
  walk_at "go"
  refine iteF ?_
  have at7 := at6.same s7
  obtain ⟨dx7, po7, pa7, pk7, pc7, ws7, z7, I7⟩ := id at7
  have ob7 := I7.ob
  have hup : (h.rested led).up = true := rfl
  rw [hup] at ob7
  walk_at "go"
  refine ⟨_, _, rfl, rfl, ?_⟩
  refine ⟨_, rfl, ?_⟩
  rw [if_pos (by simp)]
  walk_at "go"
  refine st_dgetS (s7 _ _ gs6) stK_book ?_
  walk_at "go"
  refine ⟨_, _, _, rfl, I7.rep, .lst (.inl (s7 _ _ gb6)) (by simp) (rb6.same s7), so_book (by have := I7.l1; omega), fun H8 s8 => ?_⟩
  exact k H8 R2 xs' pq' (at7.same s8) (cA.trans (.of_same (s7.trans s8))) mv.gr mv.sb (s8 _ _ (s7 _ _ gb6)) ((rb6.same s7).same s8) (s8 _ _ (s7 _ _ gs6)) (s8 _ _ (s7 _ _ gq6)) hpq0 hpqR
structure S2 (m : Int) (c : Nat) (agn : List Int) (led b0 b1 b2 : Int) (h : HS) : Prop where
  lead : LeadHS m c h
  agn : h.agn = agn
  st : St3 h.book led
  a0 : AskSt h.book b0
  a1 : AskSt h.book b1
  a2 : AskSt h.book b2
  op : ∀ l ∈ h.book, l.1 = ("open" : Str) → l.2 = led
  lw : LineWs h.book
theorem left_of {b : List Line} {led : Int} (st : St3 b led) (op : ∀ l ∈ b, l.1 = ("open" : Str) → l.2 = led) : leftOpen b = if wordsOf b led = [("open" : Str)] then [led] else [] := by
  have e : (b.filter fun l => decide (l.1 = ("open" : Str)) && decide (decisionIn b l.2 = none)) = (b.filter fun l => decide (l.2 = led)).filter fun l => decide (l.1 = ("open" : Str)) && decide (decisionIn b led = none) := by
    rw [List.filter_filter]
    refine List.filter_congr fun l hl => ?_
    by_cases z : l.1 = ("open" : Str)
    · have := op l hl z
      simp [z, this]
    · simp [z]
  unfold leftOpen
  rw [e]
  have two : ∀ v, v = ("bound" : Str) ∨ v = ("off" : Str) → wordsOf b led = [("open" : Str), v] → decisionIn b led ≠ none := fun v hv ew => by
    unfold decisionIn; rw [ew]
    rcases hv with rfl | rfl <;> decide
  rcases st with ew | ew | ew
  · rw [if_pos ew]
    have hd : decisionIn b led = none := by unfold decisionIn; rw [ew]; decide
    unfold wordsOf at ew
    cases hf : (b.filter fun l => decide (l.2 = led)) with
    | nil => rw [hf] at ew; cases ew
    | cons l r =>
      rw [hf, List.map_cons] at ew
      have hr : r = [] := List.map_eq_nil_iff.mp (List.cons.inj ew).2
      have h1 : l.1 = ("open" : Str) := (List.cons.inj ew).1
      have h2 : l.2 = led := by
        have : l ∈ b.filter fun l => decide (l.2 = led) := by rw [hf]; exact List.mem_cons_self
        exact of_decide_eq_true (List.mem_filter.mp this).2
      subst hr
      simp [h1, h2, hd]
  · rw [if_neg (by rw [ew]; decide)]
    have := two _ (.inl rfl) ew
    simp [this]
  · rw [if_neg (by rw [ew]; decide)]
    have := two _ (.inr rfl) ew
    simp [this]
section
variable {m : Int} {c : Nat} {agn : List Int} {led b0 b1 b2 : Int} {h : HS}
theorem S2.lo (s : S2 m c agn led b0 b1 b2 h) : leftOpen h.book = if wordsOf h.book led = [("open" : Str)] then [led] else [] := left_of s.st s.op
theorem ask_other {b : List Line} {k n : Int} {v : Str} (s : AskSt b n) (ne : k ≠ n) : AskSt (b ++ [(v, k)]) n := by
  have : wordsOf (b ++ [(v, k)]) n = wordsOf b n := by rw [wordsOf_app, wordsOf_one, if_neg ne, List.append_nil]
  unfold AskSt; rw [this]; exact s
theorem st_other {b : List Line} {k n : Int} {v : Str} (s : St3 b n) (ne : k ≠ n) : St3 (b ++ [(v, k)]) n := by
  have : wordsOf (b ++ [(v, k)]) n = wordsOf b n := by rw [wordsOf_app, wordsOf_one, if_neg ne, List.append_nil]
  unfold St3; rw [this]; exact s
theorem st_end {b : List Line} {n : Int} {v : Str} (e : wordsOf b n = [("open" : Str)]) (hv : v = "bound" ∨ v = "off") : St3 (b ++ [(v, n)]) n := by
  have : wordsOf (b ++ [(v, n)]) n = [("open" : Str), v] := by rw [wordsOf_app, wordsOf_one, if_pos rfl, e]; rfl
  unfold St3; rw [this]
  rcases hv with rfl | rfl
  · exact .inr (.inl rfl)
  · exact .inr (.inr rfl)
theorem opn_add {b : List Line} {n : Int} {v : Str} (op : ∀ l ∈ b, l.1 = ("open" : Str) → l.2 = led) (hv : v ≠ ("open" : Str)) : ∀ l ∈ b ++ [(v, n)], l.1 = ("open" : Str) → l.2 = led := fun l hl e => by
  rcases List.mem_append.mp hl with z | z
  · exact op l z e
  · rw [List.mem_singleton.mp z] at e; exact absurd e hv
theorem lw_add {b : List Line} {n : Int} {v : Str} (lw : LineWs b) (hv : isLineW v) : LineWs (b ++ [(v, n)]) := fun l hl => by
  rcases List.mem_append.mp hl with z | z
  · exact lw l z
  · rw [List.mem_singleton.mp z]; exact hv
theorem isl_bound : isLineW "bound" := by unfold isLineW; decide
theorem isl_off : isLineW "off" := by unfold isLineW; decide
theorem isl_yes : isLineW "yes" := by unfold isLineW; decide
theorem isl_no : isLineW "no" := by unfold isLineW; decide
theorem S2.end_ (s : S2 m c agn led b0 b1 b2 h) (n0 : led ≠ b0) (n1 : led ≠ b1) (n2 : led ≠ b2) (e : wordsOf h.book led = [("open" : Str)]) {v : Str} (hv : v = "bound" ∨ v = "off") (up : Bool) (hup : up = true) (cnt : Int → List Int) :
    S2 m c agn led b0 b1 b2 { h with book := h.book ++ [(v, led)], up := up, cnt := cnt } := by
  have hno : v ≠ ("open" : Str) := by rcases hv with rfl | rfl <;> decide
  have hl : isLineW v := by rcases hv with rfl | rfl; (exact isl_bound); (exact isl_off)
  exact ⟨⟨s.lead.num, s.lead.oth, hup⟩, s.agn, st_end e hv, ask_other s.a0 n0, ask_other s.a1 n1, ask_other s.a2 n2, opn_add s.op hno, lw_add s.lw hl⟩
theorem S2.rest1 (s : S2 m c agn led b0 b1 b2 h) (n0 : led ≠ b0) (n1 : led ≠ b1) (n2 : led ≠ b2) : S2 m c agn led b0 b1 b2 (h.rested led) := by
  unfold HS.rested
  by_cases e : wordsOf h.book led = [("open" : Str)]
  · simp only [if_pos e]
    exact s.end_ n0 n1 n2 e (.inr rfl) true rfl _
  · simp only [if_neg e]
    exact ⟨⟨s.lead.num, s.lead.oth, rfl⟩, s.agn, s.st, s.a0, s.a1, s.a2, s.op, s.lw⟩
theorem two_open {b : List Line} {n : Int} (s : St3 b n) (e : ¬ (wordsOf b n).length = 2) : wordsOf b n = [("open" : Str)] := by
  rcases s with z | z | z
  · exact z
  · rw [z] at e; exact absurd rfl e
  · rw [z] at e; exact absurd rfl e
theorem S2.got1 (s : S2 m c agn led b0 b1 b2 h) (n0 : led ≠ b0) (n1 : led ≠ b1) (n2 : led ≠ b2) {g : Int} {w : Str} (m0 : 0 ≤ m) (m1 : m < c) (hw : isW3 w) : S2 m c agn led b0 b1 b2 (h.got (g, m, led, w)).1 := by
  rw [got_lead s.lead m0 m1 s.st hw]
  dsimp only
  unfold dueF
  by_cases e : (wordsOf h.book led).length = 2
  · simp only [if_pos e]
    exact ⟨⟨s.lead.num, s.lead.oth, s.lead.up⟩, s.agn, s.st, s.a0, s.a1, s.a2, s.op, s.lw⟩
  · simp only [if_neg e]
    have eo := two_open s.st e
    by_cases y : w = "yes"
    · simp only [if_pos y]
      by_cases l : (addG g (h.cnt led)).length < c - 1
      · simp only [if_pos l]
        exact ⟨⟨s.lead.num, s.lead.oth, s.lead.up⟩, s.agn, s.st, s.a0, s.a1, s.a2, s.op, s.lw⟩
      · simp only [if_neg l]
        exact s.end_ n0 n1 n2 eo (.inl rfl) h.up s.lead.up _
    · simp only [if_neg y]
      exact s.end_ n0 n1 n2 eo (.inr rfl) h.up s.lead.up _
theorem S2.good1 (s : S2 m c agn led b0 b1 b2 h) {g : Int} {w : Str} (m0 : 0 ≤ m) (m1 : m < c) (hw : isW3 w) (hg : GiverOk m c g) : GoodLs c (h.got (g, m, led, w)).2 := by
  rw [got_lead s.lead m0 m1 s.st hw]
  dsimp only
  have all : ∀ v : Str, (v = "bound" ∨ v = "off") → GoodLs c (toAll m c led v) := fun v hv l hl => by
    obtain ⟨k, hk, rfl⟩ := List.mem_map.mp hl
    obtain ⟨q1, q2, q3⟩ := others_mem hk
    refine ⟨m0, m1, q1, q2, fun y => q3 y.symm, ?_⟩
    rcases hv with rfl | rfl
    · exact .inr (.inr (.inr (.inl rfl)))
    · exact .inr (.inr (.inr (.inr (.inl rfl))))
  unfold dueF
  by_cases e : (wordsOf h.book led).length = 2
  · simp only [if_pos e]
    split
    · intro l hl; cases hl
    · intro l hl
      rw [List.mem_singleton.mp hl]
      refine ⟨m0, m1, hg.1, hg.2.1, fun y => hg.2.2 y.symm, ?_⟩
      rcases s.st with z | z | z
      · rw [z] at e; cases e
      · show isLetW ((wordsOf h.book led).getD 1 ""); rw [z]; exact .inr (.inr (.inr (.inl rfl)))
      · show isLetW ((wordsOf h.book led).getD 1 ""); rw [z]; exact .inr (.inr (.inr (.inr (.inl rfl))))
  · simp only [if_neg e]
    split
    · split
      · intro l hl; cases hl
      · exact all _ (.inl rfl)
    · exact all _ (.inr rfl)
theorem ask_one {b : List Line} {n : Int} {v : Str} (e : wordsOf b n = []) (hv : v = "yes" ∨ v = "no" ∨ v = "off") : AskSt (b ++ [(v, n)]) n := by
  have : wordsOf (b ++ [(v, n)]) n = [v] := by rw [wordsOf_app, wordsOf_one, if_pos rfl, e]; rfl
  unfold AskSt; rw [this]
  rcases hv with rfl | rfl | rfl
  · exact .inr (.inl rfl)
  · exact .inr (.inr (.inl rfl))
  · exact .inr (.inr (.inr (.inl rfl)))
theorem ask_two {b : List Line} {n : Int} {v : Str} (e : wordsOf b n = [("yes" : Str)]) (hv : v = "bound" ∨ v = "off") : AskSt (b ++ [(v, n)]) n := by
  have : wordsOf (b ++ [(v, n)]) n = [("yes" : Str), v] := by rw [wordsOf_app, wordsOf_one, if_pos rfl, e]; rfl
  unfold AskSt; rw [this]
  rcases hv with rfl | rfl
  · exact .inr (.inr (.inr (.inr (.inl rfl))))
  · exact .inr (.inr (.inr (.inr (.inr rfl))))
theorem ask_book {b : List Line} {g n : Int} {w : Str} (s : AskSt b n) (hw : FitW b n w) : (askF m agn b g n w).1 = b ∨ ∃ v : Str, (askF m agn b g n w).1 = b ++ [(v, n)] ∧ (v = "yes" ∨ v = "no" ∨ v = "bound" ∨ v = "off") ∧ AskSt (b ++ [(v, n)]) n := by
  unfold askF
  obtain ⟨h4, hb⟩ := hw
  by_cases ea : w = "ask"
  · rw [if_pos ea]
    by_cases e : wordsOf b n = []
    · rw [if_pos e]
      refine .inr ⟨_, rfl, ?_, ask_one e ?_⟩
      · split
        · exact .inr (.inl rfl)
        · exact .inl rfl
      · split
        · exact .inr (.inl rfl)
        · exact .inl rfl
    · rw [if_neg e]; exact .inl rfl
  · rw [if_neg ea]
    by_cases eq : w = "query"
    · rw [if_pos eq]
      by_cases ey : wordsOf b n = [("yes" : Str)]
      · rw [if_pos ey]; exact .inl rfl
      · rw [if_neg ey]
        by_cases e : wordsOf b n = []
        · rw [if_pos e]; exact .inr ⟨_, rfl, .inr (.inl rfl), ask_one e (.inr (.inl rfl))⟩
        · rw [if_neg e]; exact .inl rfl
    · rw [if_neg eq]
      by_cases e : wordsOf b n = [] ∨ wordsOf b n = [("yes" : Str)]
      · rw [if_pos e]
        refine .inr ⟨_, rfl, ?_, ?_⟩
        · rcases h4 with z | z | z | z
          · exact absurd z ea
          · exact absurd z eq
          · exact .inr (.inr (.inl z))
          · exact .inr (.inr (.inr z))
        · rcases h4 with z | z | z | z
          · exact absurd z ea
          · exact absurd z eq
          · rcases e with e | e
            · exact absurd e (hb z)
            · exact ask_two e (.inl z)
          · rcases e with e | e
            · exact ask_one e (.inr (.inr z))
            · exact ask_two e (.inr z)
      · rw [if_neg e]; exact .inl rfl
theorem ask_letters {b : List Line} {g n : Int} {w : Str} (m0 : 0 ≤ m) (m1 : m < c) (hg : GiverOk m c g) : GoodLs c (askF m agn b g n w).2 := by
  have one : ∀ v : Str, (v = "yes" ∨ v = "no" ∨ v = "bound" ∨ v = "off") → GoodLs c [(m, g, n, v)] := fun v hv l hl => by
    rw [List.mem_singleton.mp hl]
    refine ⟨m0, m1, hg.1, hg.2.1, fun y => hg.2.2 y.symm, ?_⟩
    rcases hv with rfl | rfl | rfl | rfl
    · exact .inr (.inl rfl)
    · exact .inr (.inr (.inl rfl))
    · exact .inr (.inr (.inr (.inl rfl)))
    · exact .inr (.inr (.inr (.inr (.inl rfl))))
  have nil : GoodLs c [] := fun l hl => by cases hl
  unfold askF
  split
  · split
    · exact one _ (by split <;> simp)
    · exact one _ (by split <;> simp)
  · split
    · split
      · exact nil
      · split
        · exact one _ (by simp)
        · exact one _ (by split <;> simp)
    · split <;> exact nil
theorem S2.got2 (s : S2 m c agn led b0 b1 b2 h) {g n : Int} {w : Str} (hn : n = b0 ∨ n = b1 ∨ n = b2) (n0 : led ≠ b0) (n1 : led ≠ b1) (n2 : led ≠ b2) (hw : FitW h.book n w) : S2 m c agn led b0 b1 b2 (h.got (g, m, n, w)).1 := by
  have sn : AskSt h.book n := by rcases hn with rfl | rfl | rfl; (exact s.a0); (exact s.a1); (exact s.a2)
  rw [got_asked s.lead.num s.agn sn hw.1]
  dsimp only
  rcases ask_book (m := m) (agn := agn) (g := g) sn hw with e | ⟨v, e, hv, an⟩
  · rw [e]; exact ⟨⟨s.lead.num, s.lead.oth, s.lead.up⟩, s.agn, s.st, s.a0, s.a1, s.a2, s.op, s.lw⟩
  · rw [e]
    have nl : n ≠ led := by rcases hn with rfl | rfl | rfl; (exact n0.symm); (exact n1.symm); (exact n2.symm)
    have keep : ∀ k, AskSt h.book k → AskSt (h.book ++ [(v, n)]) k := fun k sk => by
      by_cases z : n = k
      · rw [← z]; exact an
      · exact ask_other sk z
    have hno : v ≠ ("open" : Str) := by rcases hv with rfl | rfl | rfl | rfl <;> decide
    have hl : isLineW v := by rcases hv with rfl | rfl | rfl | rfl; (exact isl_yes); (exact isl_no); (exact isl_bound); (exact isl_off)
    exact ⟨⟨s.lead.num, s.lead.oth, s.lead.up⟩, s.agn, st_other s.st nl, keep _ s.a0, keep _ s.a1, keep _ s.a2, opn_add s.op hno, lw_add s.lw hl⟩
theorem S2.of_n (s : S2 m c agn led b0 b1 b2 h) {n : Int} (hn : n = b0 ∨ n = b1 ∨ n = b2) : AskSt h.book n := by rcases hn with rfl | rfl | rfl; (exact s.a0); (exact s.a1); (exact s.a2)
theorem s2_new (hl : ¬ led ∈ agn) (n0 : led ≠ b0) (n1 : led ≠ b1) (n2 : led ≠ b2) : (newHS m c agn).begin led = ({ newHS m c agn with book := [(("open" : Str), led)] }, toAll m c led "ask") ∧ S2 m c agn led b0 b1 b2 { newHS m c agn with book := [(("open" : Str), led)] } := by
  have w1 : ∀ k, led ≠ k → AskSt [(("open" : Str), led)] k := fun k e => .inl (by rw [wordsOf_one, if_neg e])
  refine ⟨by unfold HS.begin; rw [if_neg (show ¬ led ∈ (newHS m c agn).agn from hl)]; rfl, ⟨⟨rfl, rfl, rfl⟩, rfl, .inl (by show wordsOf [_] led = _; rw [wordsOf_one, if_pos rfl]), w1 _ n0, w1 _ n1, w1 _ n2, fun l hl _ => by rw [List.mem_singleton.mp hl], fun l hl => by rw [List.mem_singleton.mp hl]; exact .inl rfl⟩⟩
end
structure B2 (C x psd pb pd pg pa pl : Addr) (led m : Int) (c : Nat) (b0 b1 b2 : Int) (agn cs : List Int) (h hb : HS) (pq : Addr) (R : List Addr) (N : Nat) (sd : List (Key × V)) (xs : List V) (H : Hp) : Prop where
  at_ : HouseAt C H x h R N
  gs : H psd = some (.dK (stK pb pq pd led m c))
  gb : H pb = some (.lst xs)
  rb : Reps H [] xs (hb.book.map lineD)
  gq : H pq = some (.lst ((hb.cnt led).map .int))
  gd : H pd = some (.dK sd)
  so : SaidOk sd
  gg : H pg = some (.lst [.int b0, .int b1, .int b2])
  ga : H pa = some (.lst (agn.map .int))
  gl : H pl = some (.lst (cs.map .int))
  ns : ¬ psd ∈ R
  nb : ¬ pb ∈ R
  nd : ¬ pd ∈ R
  nq : ¬ pq ∈ R
  ng : ¬ pg ∈ R
  na : ¬ pa ∈ R
  nl : ¬ pl ∈ R
  q1 : pq ≠ pb
  g1 : pg ≠ pb
  a1 : pa ≠ pb
  l1 : pl ≠ pb
  d1 : pd ≠ psd
section
variable {C x psd pb pd pg pa pl : Addr} {led m : Int} {c : Nat} {b0 b1 b2 : Int} {agn cs : List Int} {h hb h' hb' : HS} {pq pq' : Addr} {R R' : List Addr} {N N' : Nat} {sd sd' : List (Key × V)} {xs xs' : List V} {H H' : Hp}
theorem B2.same (B : B2 C x psd pb pd pg pa pl led m c b0 b1 b2 agn cs h hb pq R N sd xs H) (s : Same H H') : B2 C x psd pb pd pg pa pl led m c b0 b1 b2 agn cs h hb pq R N sd xs H' :=
  { B with at_ := B.at_.same s, gs := s _ _ B.gs, gb := s _ _ B.gb, rb := B.rb.same s, gq := s _ _ B.gq, gd := s _ _ B.gd, gg := s _ _ B.gg, ga := s _ _ B.ga, gl := s _ _ B.gl }
theorem B2.said (B : B2 C x psd pb pd pg pa pl led m c b0 b1 b2 agn cs h hb pq R N sd xs H) (ch : Chg [pd] H H') (gd : H' pd = some (.dK sd')) (so : SaidOk sd') : B2 C x psd pb pd pg pa pl led m c b0 b1 b2 agn cs h hb pq R N sd' xs H' := by
  have k : ∀ a o, a ≠ pd → H a = some o → H' a = some o := fun a o n e => ch.keep _ _ e (by simpa using n)
  have k1 : ∀ a o, H a = some (.lst o) → H' a = some (.lst o) := fun a o e => k _ _ (ne_of e B.gd (by intro z; cases z)) e
  exact { B with at_ := B.at_.chg ch fun a ha e => B.nd (by rw [List.mem_singleton.mp e] at ha; exact ha), gs := k _ _ B.d1.symm B.gs, gb := k1 _ _ B.gb, rb := lines_chg B.rb ch, gq := k1 _ _ B.gq, gd := gd, so := so, gg := k1 _ _ B.gg, ga := k1 _ _ B.ga, gl := k1 _ _ B.gl }
theorem B2.led_ (B : B2 C x psd pb pd pg pa pl led m c b0 b1 b2 agn cs h hb pq R N sd xs H) (ch : Chg [pb, psd] H H') (gb : H' pb = some (.lst xs')) (rb : Reps H' [] xs' (hb'.book.map lineD)) (gs : H' psd = some (.dK (stK pb pq' pd led m c))) (gq : H' pq' = some (.lst ((hb'.cnt led).map .int))) (hq : pq' = pq ∨ H pq' = none) :
    B2 C x psd pb pd pg pa pl led m c b0 b1 b2 agn cs h hb' pq' R N sd xs' H' := by
  have k1 : ∀ a o, H a = some (.lst o) → a ≠ pb → H' a = some (.lst o) := fun a o e n => ch.keep _ _ e (by simpa using ⟨n, ne_of e B.gs (by intro z; cases z)⟩)
  exact { B with
    at_ := B.at_.chg ch fun a ha e => by
      rcases List.mem_cons.mp e with z | z
      · exact B.nb (by rw [z] at ha; exact ha)
      · exact B.ns (by rw [List.mem_singleton.mp z] at ha; exact ha)
    gs := gs, gb := gb, rb := rb, gq := gq
    gd := ch.keep _ _ B.gd (by simpa using ⟨ne_of B.gd B.gb (by intro z; cases z), B.d1⟩)
    gg := k1 _ _ B.gg B.g1, ga := k1 _ _ B.ga B.a1, gl := k1 _ _ B.gl B.l1
    nq := by
      rcases hq with e | e
      · rw [e]; exact B.nq
      · exact notin_new B.at_.trk e
    q1 := by
      rcases hq with e | e
      · rw [e]; exact B.q1
      · exact (ne_new e B.gb).symm }
theorem B2.asked (B : B2 C x psd pb pd pg pa pl led m c b0 b1 b2 agn cs h hb pq R N sd xs H) (ch : Chg [pb] H H') (gb : H' pb = some (.lst xs')) (rb : Reps H' [] xs' (hb'.book.map lineD)) (hc : hb'.cnt led = hb.cnt led) :
    B2 C x psd pb pd pg pa pl led m c b0 b1 b2 agn cs h hb' pq R N sd xs' H' := by
  have k1 : ∀ a o, H a = some (.lst o) → a ≠ pb → H' a = some (.lst o) := fun a o e n => ch.keep _ _ e (by simpa using n)
  exact { B with
    at_ := B.at_.chg ch fun a ha e => B.nb (by rw [List.mem_singleton.mp e] at ha; exact ha)
    gs := ch.keep _ _ B.gs (by simpa using ne_of B.gs B.gb (by intro z; cases z)), gb := gb, rb := rb, gq := by rw [hc]; exact k1 _ _ B.gq B.q1
    gd := ch.keep _ _ B.gd (by simpa using ne_of B.gd B.gb (by intro z; cases z))
    gg := k1 _ _ B.gg B.g1, ga := k1 _ _ B.ga B.a1, gl := k1 _ _ B.gl B.l1 }
theorem B2.got (B : B2 C x psd pb pd pg pa pl led m c b0 b1 b2 agn cs h hb pq R N sd xs H) (mv : Move C x H R H' h' R' N') : B2 C x psd pb pd pg pa pl led m c b0 b1 b2 agn cs h' hb pq R' N' sd xs H' :=
  { B with at_ := mv.at_, gs := mv.chg.keep _ _ B.gs B.ns, gb := mv.chg.keep _ _ B.gb B.nb, rb := lines_chg B.rb mv.chg, gq := mv.chg.keep _ _ B.gq B.nq, gd := mv.chg.keep _ _ B.gd B.nd, gg := mv.chg.keep _ _ B.gg B.ng, ga := mv.chg.keep _ _ B.ga B.na, gl := mv.chg.keep _ _ B.gl B.nl,
           ns := grow_not B.ns B.gs mv.gr, nb := grow_not B.nb B.gb mv.gr, nd := grow_not B.nd B.gd mv.gr, nq := grow_not B.nq B.gq mv.gr, ng := grow_not B.ng B.gg mv.gr, na := grow_not B.na B.ga mv.gr, nl := grow_not B.nl B.gl mv.gr }
theorem B2.rested (B : B2 C x psd pb pd pg pa pl led m c b0 b1 b2 agn cs h hb pq R N sd xs H) (I : HouseAt C H' x h' R' N') (ch : Chg (pb :: psd :: R) H H') (gr : Grow R H R') (gb : H' pb = some (.lst xs')) (rb : Reps H' [] xs' (hb'.book.map lineD)) (gs : H' psd = some (.dK (stK pb pq' pd led m c)))
    (gq : H' pq' = some (.lst [])) (fq : H pq' = none) (nq : ¬ pq' ∈ R') (hc : hb'.cnt led = []) : B2 C x psd pb pd pg pa pl led m c b0 b1 b2 agn cs h' hb' pq' R' N' sd xs' H' := by
  have k : ∀ a o, a ≠ pb → a ≠ psd → ¬ a ∈ R → H a = some o → H' a = some o := fun a o n1 n2 n3 e => ch.keep _ _ e (by
    intro z
    rcases List.mem_cons.mp z with z | z
    · exact n1 z
    · rcases List.mem_cons.mp z with z | z
      · exact n2 z
      · exact n3 z)
  have k1 : ∀ a o, H a = some (.lst o) → a ≠ pb → ¬ a ∈ R → H' a = some (.lst o) := fun a o e n n' => k _ _ n (ne_of e B.gs (by intro z; cases z)) n' e
  exact { B with
    at_ := I, gs := gs, gb := gb, rb := rb, gq := by rw [hc]; exact gq
    gd := k _ _ (ne_of B.gd B.gb (by intro z; cases z)) B.d1 B.nd B.gd
    gg := k1 _ _ B.gg B.g1 B.ng, ga := k1 _ _ B.ga B.a1 B.na, gl := k1 _ _ B.gl B.l1 B.nl
    ns := grow_not B.ns B.gs gr, nb := grow_not B.nb B.gb gr, nd := grow_not B.nd B.gd gr, nq := nq, ng := grow_not B.ng B.gg gr, na := grow_not B.na B.ga gr, nl := grow_not B.nl B.gl gr
    q1 := (ne_new fq B.gb).symm }
end
theorem if_rest {c : TT} {t u : TS} {D : Ends} {σ : St} {H : Hp} (W : Hp → Prop) (hu : ∀ H', W H' → u D σ H') (h : (∀ H', W H' → u D σ H') → tSeq (tIfS c t tNext) u D σ H) : tSeq (tIfS c t tNext) u D σ H := h hu
theorem scr_keep {K : PySem.W.Frag} {a : Addr} {xs : List V} {H H' : Hp} (s : SqL K H a xs) (k : ∀ o, H a = some o → H' a = some o) : SqL K H' a xs := s.imp (fun rd => rd.imp (k _) fun ⟨ob, e⟩ => ⟨ob, k _ e⟩) id
def loopσ (a pg pa ph x psd : Addr) (c : Nat) (m far led : Int) (v6 v11 v12 v13 v14 : Option V) : St := [some (.ref a), some (.int c), some (.int m), some (.int far), some (.ref pg), some (.ref pa), v6, some (.ref ph), some (.ref x), some (.int led), some (.ref psd), v11, v12, v13, v14]
theorem loop_body {K : PySem.W.Frag} {C x psd pb pd pg pa pl a ph : Addr} {led m far : Int} {c : Nat} {b0 b1 b2 : Int} {agn cs : List Int} {h : HS} {pq : Addr} {R : List Addr} {i : Nat} {sd : List (Key × V)} {xs : List V} {H : Hp} {z : Int} {v6 v11 v13 v14 : Option V} {D : Ends}
    (B : B2 C x psd pb pd pg pa pl led m c b0 b1 b2 agn cs h h pq R (1 + 4 * i) sd xs H) (S : S2 m c agn led b0 b1 b2 h) (hi : i ≤ 63) (hsl : sd.length ≤ i) (m0 : 0 ≤ m) (m1 : m < c) (c2 : 2 ≤ c) (c12 : c ≤ 12) (n0 : led ≠ b0) (n1 : led ≠ b1) (n2 : led ≠ b2)
    (k : ∀ v13 v14 h R pq sd xs H', B2 C x psd pb pd pg pa pl led m c b0 b1 b2 agn cs h h pq R (1 + 4 * (i + 1)) sd xs H' → S2 m c agn led b0 b1 b2 h → sd.length ≤ i + 1 → D.nx (loopσ a pg pa ph x psd c m far led v6 v11 (some (.int z)) v13 v14) H') :
    (tSeq (tIfS (tAnd (tTest (tOp rEq (tOp rModI (tOp rModI (tOp rMulI (tVar 12) (tC (.int 48271))) (tC (.int 1091))) (tC (.int 16))) (tC (.int 1)))) (tNot (tB (tCall (zsp0r C) [] E0 (tCons (tVar 8) (tCons (tVar 10) tNil))))))
    (tRet (tC (.bl false)))
    tNext)
    (tCut (tIfS (tTest (tOp rEq (tOp rModI (tOp rModI (tOp rMulI (tVar 12) (tC (.int 48271))) (tC (.int 1097))) (tC (.int 3))) (tC (.int 1))))
    (tSeq (tAsg (tCall zsp08 [] E0 (tCons (tVar 10) (tCons (tVar 12) tNil))) (gName 13))
    (tAsg (tCall zsp0f [] E0 (tCons (tVar 10) (tCons (tVar 13) tNil))) (gName 14)))
    (tSeq (tAsg (tCall zsp01 [] E0 (tCons (tVar 10) (tCons (tVar 4) (tCons (tVar 12) tNil)))) (gName 13))
    (tAsg (tCall zsp04 [] E0 (tCons (tDGet (tVar 10) (tC (.str "book"))) (tCons (tVar 5) (tCons (tVar 2) (tCons (tVar 13) tNil))))) (gName 14))))
    (tIfS (tNot (tB (tCall (zsp0u C) [] E0 (tCons (tVar 8) (tCons (tVar 10) (tCons (tVar 13) (tCons (tVar 14) (tCons (tVar 12) tNil))))))))
    (tRet (tC (.bl false)))
    tNext))) D (loopσ a pg pa ph x psd c m far led v6 v11 (some (.int z)) v13 v14) H := by
  refine if_rest (fun H' => ∃ h pq R sd xs, B2 C x psd pb pd pg pa pl led m c b0 b1 b2 agn cs h h pq R (2 + 4 * i) sd xs H' ∧ S2 m c agn led b0 b1 b2 h ∧ sd.length ≤ i) ?_ ?_
  · clear B S hsl h R pq sd xs H
    rintro H ⟨h, pq, R, sd, xs, B, S, hsl⟩
    have hbl : h.book.length ≤ 2 + 4 * i := by obtain ⟨_, _, _, _, _, _, _, I⟩ := B.at_; exact I.l1
    have hcl : (h.cnt led).length ≤ 2 + 4 * i := by obtain ⟨_, _, _, _, _, _, _, I⟩ := B.at_; exact I.l3 led
    have hol : h.oth.length ≤ 20 := by rw [S.lead.oth]; exact Nat.le_trans (othersOf_le _ _) (by omega)
    refine st_cut (fun σ' H' => ∃ t du g n w pq' sd' xs' ys, σ' = loopσ a pg pa ph x psd c m far led v6 v11 (some (.int z)) (some (.ref t)) (some (.ref du)) ∧ B2 C x psd pb pd pg pa pl led m c b0 b1 b2 agn cs h (h.got (g, m, n, w)).1 pq' R (2 + 4 * i) sd' xs' H' ∧ S2 m c agn led b0 b1 b2 (h.got (g, m, n, w)).1 ∧ sd'.length ≤ i + 1 ∧
      Rd H' t (.tup [.int g, .int m, .int n, .str w]) ∧ PyData.strOk w = true ∧ H' du = some (.lst ys) ∧ ¬ du ∈ R ∧ Reps H' [] ys ((h.got (g, m, n, w)).2.map letterD) ∧ GoodLs c (h.got (g, m, n, w)).2) ?_ ?_
    · walk_at "go"
      split
      · walk_at "go"
        refine ⟨psd, pb, pq, pd, led, m, c, sd, z, rfl, B.gs, B.gd, B.so, by omega, m0, m1, c2, c12, B.d1, fun t H1 g w sd' c1 gd1 so1 sl1 gt1 ft1 w3 hg => ?_⟩
        have B1 := B.said c1 gd1 so1
        walk_at "go"
        have rt1 : Rd H1 t (.tup [.int g, .int m, .int led, .str w]) := .inl gt1
        have gl := got_lead (g := g) S.lead m0 m1 S.st w3
        refine ⟨psd, t, pb, pq, pd, led, m, c, h.book, xs, h.cnt led, g, led, w, rfl, B1.gs, B1.gb, B1.rb, by omega, B1.gq, B1.q1, by omega, c2, c12, rt1, ?_⟩
        rintro _ H2 xs' pq' c2' gb2 rb2 gs2 gq2 hq2 ⟨du, ys, rfl, gu2, _, ru2⟩ fr2
        walk_at "go"
        refine ⟨t, du, g, led, w, pq', sd', xs', ys, rfl, B1.led_ c2' gb2 (by rw [gl]; exact rb2) gs2 (by rw [gl]; dsimp only; rw [if_pos rfl]; exact gq2) hq2, S.got1 n0 n1 n2 m0 m1 w3, by omega, ?_, ?_, gu2, notin_new B1.at_.trk (fr2 _ rfl), by rw [gl]; exact ru2, S.good1 m0 m1 w3 hg⟩
        · exact .inl (c2'.tups _ _ gt1)
        · rcases w3 with rfl | rfl | rfl <;> exact okS (by simp)
      · walk_at "go"
        refine ⟨psd, pb, pq, pd, pg, led, m, c, h.book, xs, b0, b1, b2, z, rfl, B.gs, B.gb, B.rb, by omega, B.gg, m0, m1, c2, c12, S.a0, S.a1, S.a2, fun t H1 g n w s1 gt1 ft1 hn fw hg => ?_⟩
        have B1 := B.same s1
        walk_at "go"
        refine st_dgetS B1.gs stK_book ?_
        walk_at "go"
        have gl := got_asked (g := g) S.lead.num S.agn (S.of_n hn) fw.1
        refine ⟨pb, pa, m, t, h.book, xs, agn, g, m, n, w, rfl, B1.gb, B1.rb, by omega, B1.ga, .inl gt1, S.of_n hn, fw.1, ?_⟩
        rintro _ H2 xs' c2' gb2 rb2 ⟨du, ys, rfl, gu2, _, ru2⟩ fr2
        walk_at "go"
        refine ⟨t, du, g, n, w, pq, sd, xs', ys, rfl, B1.asked c2' gb2 (by rw [gl]; exact rb2) (by rw [gl]), S.got2 hn n0 n1 n2 fw, by omega, .inl (c2'.tups _ _ gt1), ?_, gu2, notin_new B1.at_.trk (fr2 _ rfl), by rw [gl]; exact ru2, by rw [gl]; exact ask_letters m0 m1 hg⟩
        rcases fw.1 with rfl | rfl | rfl | rfl <;> exact okS (by simp)
    · rintro σ' H1 ⟨t, du, g, n, w, pq', sd', xs', ys, rfl, B1, S1, hsl1, rt, okw, gu, nu, ru, good⟩
      unfold loopσ
      walk_at "go"
      refine ⟨x, psd, t, du, pb, pq', pd, led, m, c, h, R, 2 + 4 * i, g, n, w, z, xs', ys, rfl, B1.at_, by omega, hol, B1.gs, B1.ns, rt, okw, B1.gb, B1.nb, B1.rb, gu, nu, ru, good, S1.lw, fun H2 R2 mv => ?_⟩
      walk_at "go"
      refine iteF ?_
      walk_at "go"
      exact k _ _ _ _ _ _ _ _ (B1.got (mv.more (by omega))) S1 hsl1
  · intro body
    unfold loopσ at body ⊢
    walk_at "go"
    split
    · walk_at "go"
      have hbl : h.book.length ≤ 1 + 4 * i := by obtain ⟨_, _, _, _, _, _, _, I⟩ := B.at_; exact I.l1
      refine ⟨x, psd, pb, pq, pd, led, m, c, h, R, 1 + 4 * i, xs, rfl, B.at_, by omega, S.lead.oth, S.lead.num, m0, m1, c12, B.gs, B.ns, B.gb, B.nb, B.rb, S.lo, ?_, S.lw, fun H' R' xs' pq' I ch gr sb gb rb gs gq fq nq => ?_⟩
      · rcases S.st with e | e | e <;> rw [e] <;> (intro w hw; simp only [List.mem_cons, List.not_mem_nil, or_false] at hw; rcases hw with rfl | rfl <;> exact okS (by simp))
      · walk_at "go"
        refine iteF ?_
        walk_at "go"
        exact body _ ⟨_, _, _, _, _, B.rested (I.more (by omega)) ch gr gb rb gs gq fq nq rfl, S.rest1 n0 n1 n2, hsl⟩
    · rw [if_neg (by decide)]
      walk_at "go"
      exact body _ ⟨_, _, _, _, _, { B with at_ := B.at_.more (by omega) }, S, hsl⟩
def spLaw (K : PySem.W.Frag) : Sp := fun vs H Q _ => ∃ (a : Addr) (ns : List Int), vs = [.ref a] ∧ SqL K H a (ns.map V.int) ∧ ns.length ≤ 63 ∧ ∀ H', Q (.bl true) H'
theorem cut_ints (ns : List Int) (lo hi : Option Int) : ∃ cs : List Int, cutV (ns.map V.int) lo hi = cs.map V.int ∧ cs.length ≤ ns.length := by
  refine ⟨(ns.drop (HT.sIx (ns.map V.int).length 0 lo)).take (HT.sIx (ns.map V.int).length (ns.map V.int).length hi - HT.sIx (ns.map V.int).length 0 lo), ?_, ?_⟩
  · unfold cutV
    rw [List.map_take, List.map_drop]
  · rw [List.length_take, List.length_drop]; omega
theorem canLay_ints2 (zs : List Int) : PyData.canLayAll0 (zs.map .int) = true := by
  induction zs with
  | nil => rfl
  | cons l r ih => rw [List.map_cons, PyData.canLayAll0, ih, Bool.and_true]; rfl
theorem shaped_ints2 (zs : List Int) : SeqAt.shaped (.list (zs.map .int)) = true := by
  have d : PyData.depthAll (zs.map .int) ≤ 3 := by
    induction zs with
    | nil => simp [PyData.depthAll]
    | cons l r ih =>
      rw [List.map_cons, PyData.depthAll]
      have : PyData.depth (.int l) ≤ 3 := by simp [PyData.depth]
      omega
  unfold SeqAt.shaped
  rw [PyData.canLay0, canLay_ints2 zs, Bool.true_and, PyData.depth]
  exact decide_eq_true (by omega)
theorem reps_ints2 (H : Hp) (zs : List Int) : Reps H [] (zs.map V.int) (zs.map .int) := by
  induction zs with
  | nil => exact .nil
  | cons z r ih => exact .cons (.int _) ih
theorem init_same {C : Addr} {H H' : Hp} {x dx : Addr} (hx : H x = none) (hdx : H dx = none) (nxd : dx ≠ x) (ch : Chg [x] (upd (upd H dx (.own x)) x (.ins C dx [])) H') : Same H H' := fun b o e =>
  ch.keep b o (((Same.new hdx).trans (Same.new (by rw [upd_ne nxd.symm]; exact hx))) _ _ e) (fun y => by rw [List.mem_singleton.mp y, hx] at e; cases e)
theorem init_base {C : Addr} {H : Hp} {x dx : Addr} (hx : H x = none) (hdx : H dx = none) (nxd : dx ≠ x) : Same H (upd (upd H dx (.own x)) x (.ins C dx [])) := (Same.new hdx).trans (Same.new (by rw [upd_ne nxd.symm]; exact hx))
def st4 (pb pq pd : Addr) (led : Int) : List (Key × V) := [(Sum.inr "book", .ref pb), (Sum.inr "votes", .ref pq), (Sum.inr "said", .ref pd), (Sum.inr "led", .int led)]
def st5 (pb pq pd : Addr) (led m : Int) : List (Key × V) := [(Sum.inr "book", .ref pb), (Sum.inr "votes", .ref pq), (Sum.inr "said", .ref pd), (Sum.inr "led", .int led), (Sum.inr "mine", .int m)]
theorem st4_is {pb pq pd : Addr} {led : Int} : mergeK [] (st4 pb pq pd led) = st4 pb pq pd led := by with_unfolding_all rfl
theorem st5_is {pb pq pd : Addr} {led m : Int} : putK (st4 pb pq pd led) (Sum.inr "mine" : Key) (V.int m) = st5 pb pq pd led m := by with_unfolding_all rfl
theorem st6_is {pb pq pd : Addr} {led m : Int} {c : Nat} : putK (st5 pb pq pd led m) (Sum.inr "count" : Key) (V.int c) = stK pb pq pd led m c := by with_unfolding_all rfl
theorem zrd12 {K : PySem.W.Frag} {C : Addr} {vs : List V} {H : Hp} {Q : VK} {E : XK} (T : HouseTxt K C) (h : spLaw K vs H Q E) :
    zR12 K (zsp10 K) zsp05 zsp0n (zsp0r C) zsp08 zsp0f zsp01 zsp04 (zsp0u C) (zsp0m C) (zsp0g C) C { nx := fun _ H' => Q .non H', rt := Q }
      (start ["_law_script", "_law_count", "_law_mine", "_law_far", "_law_bargains", "_law_against", "_law_k", "_law_handed", "_law_house", "_law_led", "_law_state", "_law_found", "_law_cell", "_law_letter", "_law_due"] vs) H := by
  obtain ⟨a, ns, rfl, hS, hl, k⟩ := h
  unfold zR12
  walk_at "goA"
  rename_i pc hpc H1 s1 g1
  have hS1 := s1.seq hS
  refine ⟨a, ns, 0, rfl, hS1, fun z0 => ?_⟩
  obtain ⟨cv, hcv, ec⟩ := atI_mem (xs := [V.int 2, V.int 3, V.int 4, V.int 5, V.int 2, V.int 3, V.int 4, V.int 12]) (r := z0 * 48271 % 1021 % 8) (by omega) (by show _ < (8 : Int); omega)
  obtain ⟨c, rfl, c2, c12⟩ : ∃ c : Nat, cv = .int c ∧ 2 ≤ c ∧ c ≤ 12 := by
    simp only [List.mem_cons, List.not_mem_nil, or_false] at hcv
    rcases hcv with rfl | rfl | rfl | rfl | rfl | rfl | rfl | rfl
    · exact ⟨2, rfl, by omega, by omega⟩
    · exact ⟨3, rfl, by omega, by omega⟩
    · exact ⟨4, rfl, by omega, by omega⟩
    · exact ⟨5, rfl, by omega, by omega⟩
    · exact ⟨2, rfl, by omega, by omega⟩
    · exact ⟨3, rfl, by omega, by omega⟩
    · exact ⟨4, rfl, by omega, by omega⟩
    · exact ⟨12, rfl, by omega, by omega⟩
  have g1' : SqL K H1 pc _ := sqL g1
  walk_at "go"
  refine ⟨a, ns, 1, rfl, hS1, fun z1 => ?_⟩
  walk_at "go"
  refine st_rI (show (0 : Int) < (c : Int) by omega) ?_
  walk_at "go"
  have m0 : 0 ≤ z1 * 48271 % 1019 % (c : Int) := Int.emod_nonneg _ (by omega)
  have m1 : z1 * 48271 % 1019 % (c : Int) < c := Int.emod_lt_of_pos _ (by omega)
  generalize z1 * 48271 % 1019 % (c : Int) = m at *
  refine ⟨a, ns, 2, rfl, hS1, fun z2 => ?_⟩
  walk_at "go"
  refine ⟨"0", 70, rfl, rfl, by decide, by decide, by decide +kernel, by decide +kernel, by decide +kernel, ?_⟩
  refine ⟨_, _, rfl, rfl, ?_⟩
  walk_at "go"
  refine ⟨_, _, rfl, ten70, by decide +kernel, ?_⟩
  refine st_rI (show (0 : Int) < 10 ^ 70 by decide) ?_
  have f0 : 0 ≤ z2 % (10 ^ 70 : Int) := Int.emod_nonneg _ (by decide)
  generalize z2 % (10 ^ 70 : Int) = far at *
  walk_at "go"
  refine st_rI (.inr ⟨by omega, by omega⟩) ?_
  walk_at "go"
  walk_at "new"
  rename_i pg hpg H2 s2 g2
  have P0 : 0 ≤ far * (c : Int) := Int.mul_nonneg f0 (by omega)
  have e2 : (2 + far) * (c : Int) = 2 * c + far * c := Int.add_mul _ _ _
  have e7 : (7 + far) * (c : Int) = 7 * c + far * c := Int.add_mul _ _ _
  have hn0 : m + (7 + far) * (c : Int) ≠ m + 1 := by rw [e7]; omega
  have hn1 : m + (7 + far) * (c : Int) ≠ m + 1 + c := by rw [e7]; omega
  have hn2 : m + (7 + far) * (c : Int) ≠ m + 1 + (2 + far) * c := by rw [e7, e2]; omega
  obtain ⟨b0, hb0⟩ : ∃ b, b = m + 1 := ⟨_, rfl⟩
  obtain ⟨b1, hb1⟩ : ∃ b, b = m + 1 + (c : Int) := ⟨_, rfl⟩
  obtain ⟨b2, hb2⟩ : ∃ b, b = m + 1 + (2 + far) * (c : Int) := ⟨_, rfl⟩
  obtain ⟨led, hled⟩ : ∃ b, b = m + (7 + far) * (c : Int) := ⟨_, rfl⟩
  rw [← hled, ← hb0] at hn0
  rw [← hled, ← hb1] at hn1
  rw [← hled, ← hb2] at hn2
  rw [← hb2, ← hb1, ← hb0] at g2
  clear hb0 hb1 hb2 e2 e7 P0
  walk_at "go"
  walk_at "new"
  rename_i pa hpa H3 s3 g3
  have hS2 := s2.seq hS1
  have F3 : ∀ o, H2 a = some o → H3 a = some o := fun o e => s3 _ _ e
  walk_at "go"
  refine st_itr (n := 3) (by omega) ?_
  refine for_range (n := 3) (fun i σ H' => ∃ v6 agn, σ = [some (.ref a), some (.int c), some (.int m), some (.int far), some (.ref pg), some (.ref pa), v6, none, none, none, none, none, none, none, none] ∧ H' pa = some (.lst (agn.map .int)) ∧ (∀ n ∈ agn, n = b0 ∨ n = b1 ∨ n = b2) ∧ agn.length ≤ i ∧ Chg [pa] H3 H' ∧ ∀ b, H' b = none → H3 b = none)
    ⟨none, [], rfl, g3, fun _ h => (by cases h), Nat.le_refl _, .refl _ _, fun _ h => h⟩ ?_ ?_
  · rintro i σ H4 hi ⟨v6, agn, rfl, g4, hag, hal, c4, fr4⟩
    have hS4 : SqL K H4 a (ns.map .int) := scr_keep hS2 fun o e => c4.keep _ _ (F3 o e) (by simpa using ne_new hpa e)
    walk_at "go"
    refine ⟨a, ns, 2, rfl, hS4, fun z3 => ?_⟩
    walk_at "go"
    refine st_rI (divR (by omega)) ?_
    walk_at "go"
    split
    · walk_at "go"
      refine ⟨.inl ⟨rfl, _, sqL g4⟩, ?_⟩
      have gg4 : H4 pg = _ := c4.keep _ _ (s3 _ _ g2) (by simpa using ne_new hpa g2)
      walk_at "go"
      obtain ⟨n, hat, hn⟩ : ∃ n, atI [V.int b0, V.int b1, V.int b2] (0 + (i : Int)) = some (.int n) ∧ (n = b0 ∨ n = b1 ∨ n = b2) := by
        have : i = 0 ∨ i = 1 ∨ i = 2 := by omega
        rcases this with rfl | rfl | rfl
        · exact ⟨b0, rfl, .inl rfl⟩
        · exact ⟨b1, rfl, .inr (.inl rfl)⟩
        · exact ⟨b2, rfl, .inr (.inr rfl)⟩
      refine st_ixL (sqL gg4) hat ?_
      walk_at "go"
      refine st_append g4 (len_small (by rw [List.length_map]; omega)) ?_
      walk_at "go"
      refine ⟨_, agn ++ [n], rfl, by rw [List.map_append]; exact upd_same, fun x hx => ?_, by rw [List.length_append]; show agn.length + 1 ≤ _; omega, c4.trans (.set (by rw [g4]; exact True.intro) (by simp)), fun b hb => ?_⟩
      · rcases List.mem_append.mp hx with y | y
        · exact hag x y
        · rw [List.mem_singleton.mp y]; exact hn
      · by_cases e : b = pa
        · rw [e, upd_same] at hb; cases hb
        · rw [upd_ne e] at hb; exact fr4 _ hb
    · walk_at "go"
      exact ⟨_, agn, rfl, g4, hag, by omega, c4, fr4⟩
  rintro σ H4 ⟨v6, agn, rfl, g4, hag, hal, c4, fr4⟩
  have F4 : ∀ o, H2 a = some o → H4 a = some o := fun o e => c4.keep _ _ (F3 o e) (by simpa using ne_new hpa e)
  have gg4 : H4 pg = _ := c4.keep _ _ (s3 _ _ g2) (by simpa using ne_new hpa g2)
  have npag : pg ≠ pa := ne_new hpa g2
  have hla : ¬ led ∈ agn := fun y => by
    rcases hag _ y with e | e | e
    · exact hn0 e
    · exact hn1 e
    · exact hn2 e
  clear c4 fr4 F3 g3 s3 hpa g2 hpg s1 g1 g1' hcv ec hpc hag hS hS1
  have ga4' : SqL K H4 pa _ := sqL g4
  walk_at "go"
  walk_at "new"
  rename_i ph hph H5 s5 g5
  walk_at "go"
  refine st_make ?_
  walk_at "go"
  intro x dx hx hdx nxd
  refine ⟨x, dx, ph, m, c, agn, rfl, upd_same, by omega, .inl (init_base hx hdx nxd _ _ g5), fun H6 R I6 ch6 own6 => ⟨rfl, ?_⟩⟩
  have s56 := init_same hx hdx nxd ch6
  have own : ∀ b o, H5 b = some o → ¬ b ∈ R := fun b o e y => by
    rcases own6 _ y with z | z
    · rw [← z, e] at hx; cases hx
    · rw [init_base hx hdx nxd _ _ e] at z; cases z
  clear ch6 own6 hx hdx nxd
  have s46 := s5.trans s56
  have gh6 := s56 _ _ g5
  have ga6 := s46 _ _ g4
  have gg6 := s46 _ _ gg4
  have F6 : ∀ o, H2 a = some o → H6 a = some o := fun o e => s46 _ _ (F4 o e)
  have nha : ph ≠ pa := (ne_new hph g4).symm
  have nhg : ph ≠ pg := (ne_new hph gg4).symm
  have nhs : ∀ o, H2 a = some o → a ≠ ph := fun o e => ne_new hph (F4 o e)
  have nRa := own _ _ (s5 _ _ g4)
  have nRg := own _ _ (s5 _ _ gg4)
  have nRh := own _ _ g5
  have nRs : ∀ o, H2 a = some o → ¬ a ∈ R := fun o e => own _ _ (s5 _ _ (F4 o e))
  clear own s46 s56 g5 s5 ga4' hph F4 gg4 g4
  walk_at "go"
  refine ⟨.list (agn.map .int), .list (agn.map .int), .lst (.inl gh6) (by simp) (reps_ints2 _ _), .lst (.inl ga6) (by simp) (reps_ints2 _ _), shaped_ints2 _, shaped_ints2 _, ?_⟩
  rw [SeqAt.eqv_refl _ (SeqAt.canLay_of_shaped (shaped_ints2 _))]
  walk_at "go"
  refine iteF ?_
  walk_at "go"
  unfold tBM0
  walk_at "go"
  refine ⟨.inl ⟨rfl, _, sqL gh6⟩, ph, _, rfl, rfl, gh6, ?_⟩
  have c7 : Chg [ph] H6 (upd H6 ph (.lst [])) := .set (by rw [gh6]; exact True.intro) (by simp)
  have gh7 : upd H6 ph (.lst []) ph = some (.lst []) := upd_same
  have fr7 : ∀ b, upd H6 ph (.lst []) b = none → H6 b = none := fun b hb => by
    by_cases e : b = ph
    · rw [e, upd_same] at hb; cases hb
    · rw [upd_ne e] at hb; exact hb
  generalize upd H6 ph (.lst []) = H7 at *
  have gg7 : H7 pg = _ := c7.keep _ _ gg6 (by simpa using nhg.symm)
  have ga7 : H7 pa = _ := c7.keep _ _ ga6 (by simpa using nha.symm)
  have gg7' : SqL K H7 pg _ := sqL gg7
  walk_at "go"
  refine ⟨.inl ⟨rfl, _, sqL gh7⟩, ?_⟩
  walk_at "go"
  intro ps hps
  refine lc_list (K := K) (a := pg) (xs := [.int b0, .int b1, .int b2]) (fun j ys σ H' => ∃ v, σ = [v, some (.ref pa)] ∧ H' = upd H7 ps (.lst ys) ∧ ys.length ≤ j) ⟨none, rfl, rfl, Nat.le_refl _⟩ ?_ ?_ ?_
  · rintro i ys σ H' _ _ ⟨v, rfl, rfl, _⟩
    exact sqL (upd_at (ne_new hps gg7) gg7)
  · rintro i y ys σ H' hy gy ⟨v, rfl, rfl, hyl⟩
    have hi : i < 3 := (List.getElem?_eq_some_iff.mp hy).1
    have ga8 : SqL K (upd H7 ps (.lst ys)) pa _ := sqL (upd_at (ne_new hps ga7) ga7)
    obtain ⟨n, rfl⟩ : ∃ n : Int, y = .int n := by
      have : i = 0 ∨ i = 1 ∨ i = 2 := by omega
      rcases this with rfl | rfl | rfl
      · exact ⟨b0, (Option.some.inj hy).symm⟩
      · exact ⟨b1, (Option.some.inj hy).symm⟩
      · exact ⟨b2, (Option.some.inj hy).symm⟩
    walk_at "go"
    rw [if_pos rfl]
    split
    · walk_at "go"
      refine ⟨ys, gy, len_small (by omega), _, upd_same, _, rfl, ?_, by rw [List.length_append]; show ys.length + 1 ≤ _; omega⟩
      funext b; by_cases e : b = ps
      · rw [e, upd_same, upd_same]
      · rw [upd_ne e, upd_ne e, upd_ne e]
    · exact ⟨_, gy, _, rfl, rfl, by omega⟩
  rintro ys σ H8 gy ⟨v, rfl, rfl, hyl⟩
  have s78 := Same.new (o := .lst ys) hps
  generalize upd H7 ps (.lst ys) = H8 at *
  have gh8 := s78 _ _ gh7
  walk_at "go"
  refine ⟨ph, ps, [], ys, rfl, rfl, gh8, gy, Nat.le_of_lt (len_small (by show 0 + ys.length ≤ _; have : ys.length ≤ 3 := hyl; omega)), ?_⟩
  have c9 : Chg [ph] H6 (upd H8 ph (.lst ([] ++ ys))) := (c7.trans (.of_same s78)).trans (.set (by rw [gh8]; exact True.intro) (by simp))
  have fr9 : ∀ b, upd H8 ph (.lst ([] ++ ys)) b = none → H6 b = none := fun b hb => by
    by_cases e : b = ph
    · rw [e, upd_same] at hb; cases hb
    · rw [upd_ne e] at hb; exact fr7 _ (s78.free hb)
  generalize upd H8 ph (.lst ([] ++ ys)) = H9 at *
  have gg9 : H9 pg = _ := c9.keep _ _ gg6 (by simpa using nhg.symm)
  have ga9 : H9 pa = _ := c9.keep _ _ ga6 (by simpa using nha.symm)
  have F9 : ∀ o, H2 a = some o → H9 a = some o := fun o e => c9.keep _ _ (F6 o e) (by simpa using nhs o e)
  have I9 := I6.chg c9 fun b hb e => nRh (by rw [List.mem_singleton.mp e] at hb; exact hb)
  clear c7 gh7 fr7 gg7 ga7 gg7' hps gy hyl s78 gh8 c9 fr9 gh6 ga6 gg6 F6 I6 nha nhg nhs nRh
  walk_at "go"
  refine st_rI (.inr ⟨by omega, by omega⟩) ?_
  walk_at "go"
  rw [← hled]
  clear hled
  unfold tDisp
  intro psd hpsd
  generalize hHd : upd H9 psd (.dK []) = H10
  have s10 := same_of hpsd hHd
  have g10 := at_of hHd
  clear hHd
  simp only [tPairs]
  walk_at "goA"
  rename_i t ht H11 s11 g11 pb hpb H12 s12 g12 pq hpq H13 s13 g13 pd hpd H14 s14 g14
  have s24 := s12.trans (s13.trans s14)
  have s14' := s11.trans s24
  refine ⟨s14' _ _ g10, (st4 pb pq pd led), rfl, (by show 4 ≤ 15; decide), ?_⟩
  rw [st4_is]
  have gsd := s14' _ _ g10
  have s9E := s10.trans s14'
  have c15 : Chg [psd] H14 (upd H14 psd (.dK (st4 pb pq pd led))) := .set (by rw [gsd]; exact True.intro) (by simp)
  have g15 : upd H14 psd (.dK (st4 pb pq pd led)) psd = _ := upd_same
  generalize upd H14 psd (.dK (st4 pb pq pd led)) = H15 at *
  walk_at "go"
  refine st_dputS g15 (len_small (by show 4 ≤ _; decide)) ?_
  have c16 : Chg [psd] H15 (upd H15 psd (.dK (putK (st4 pb pq pd led) (Sum.inr "mine" : Key) (V.int m)))) := .set (by rw [g15]; exact True.intro) (by simp)
  have g16 : upd H15 psd (.dK (putK (st4 pb pq pd led) (Sum.inr "mine" : Key) (V.int m))) psd = some (.dK (st5 pb pq pd led m)) := by rw [upd_same, st5_is]
  generalize upd H15 psd (.dK (putK (st4 pb pq pd led) (Sum.inr "mine" : Key) (V.int m))) = H16 at *
  walk_at "go"
  refine st_dputS g16 (len_small (by show 5 ≤ _; decide)) ?_
  have c17 : Chg [psd] H16 (upd H16 psd (.dK (putK (st5 pb pq pd led m) (Sum.inr "count" : Key) (V.int c)))) := .set (by rw [g16]; exact True.intro) (by simp)
  have g17 : upd H16 psd (.dK (putK (st5 pb pq pd led m) (Sum.inr "count" : Key) (V.int c))) psd = some (.dK (stK pb pq pd led m c)) := by rw [upd_same, st6_is]
  generalize upd H16 psd (.dK (putK (st5 pb pq pd led m) (Sum.inr "count" : Key) (V.int c))) = H17 at *
  have cE := c15.trans (c16.trans c17)
  have kE : ∀ b o, b ≠ psd → H14 b = some o → H17 b = some o := fun b o n e => cE.keep _ _ e (by simpa using n)
  have gb17 : H17 pb = _ := kE _ _ (ne_of (s14 _ _ (s13 _ _ g12)) gsd (by intro z; cases z)) (s14 _ _ (s13 _ _ g12))
  have gt17 : H17 t = _ := kE _ _ (ne_of (s24 _ _ g11) gsd (by intro z; cases z)) (s24 _ _ g11)
  have gq17 : H17 pq = _ := kE _ _ (ne_of (s14 _ _ g13) gsd (by intro z; cases z)) (s14 _ _ g13)
  have nds : pd ≠ psd := (ne_new hpd (s13 _ _ (s12 _ _ (s11 _ _ g10)))).symm
  have gd17 : H17 pd = _ := kE _ _ nds g14
  have gg17 : H17 pg = _ := kE _ _ (ne_new hpsd gg9) (s9E _ _ gg9)
  have ga17 : H17 pa = _ := kE _ _ (ne_new hpsd ga9) (s9E _ _ ga9)
  have F17 : ∀ o, H2 a = some o → H17 a = some o := fun o e => kE _ _ (ne_new hpsd (F9 o e)) (s9E _ _ (F9 o e))
  have nRp : ¬ psd ∈ R := notin_new I9.trk hpsd
  have I17 := (I9.same s9E).chg cE fun b hb e => nRp (by rw [List.mem_singleton.mp e] at hb; exact hb)
  have nRb : ¬ pb ∈ R := notin_new I9.trk (s10.free (s11.free hpb))
  have nRq : ¬ pq ∈ R := notin_new I9.trk (s10.free (s11.free (s12.free hpq)))
  have nRd : ¬ pd ∈ R := notin_new I9.trk (s10.free (s11.free (s12.free (s13.free hpd))))
  have nqb : pq ≠ pb := (ne_new hpq g12).symm
  have ngb : pg ≠ pb := ne_new hpb (s11 _ _ (s10 _ _ gg9))
  have nab : pa ≠ pb := ne_new hpb (s11 _ _ (s10 _ _ ga9))
  clear kE cE c15 c16 c17 g15 g16 gsd s9E s14' s24 g10 g11 g12 g13 g14 s10 s11 s12 s13 s14 hpsd ht hpb hpq hpd gg9 ga9 F9 I9
  obtain ⟨dx7, po7, pa7, pk7, pc7, ws7, z7, J7⟩ := id I17
  have ob17 := J7.ob
  clear J7
  walk_at "go"
  obtain ⟨nb1, S0⟩ := s2_new (m := m) (c := c) hla hn0 hn1 hn2
  refine ⟨x, led, newHS m c agn, R, 0, rfl, I17, by omega, Nat.le_trans (othersOf_le _ _) (by omega), ?_⟩
  rw [nb1]
  rintro _ H18 R1 mv ⟨pf, zs, rfl, gf, nf, rf⟩ fr
  dsimp only at mv rf
  have good : GoodLs c (toAll m c led "ask") := fun l hl => by
    obtain ⟨g, hg, rfl⟩ := List.mem_map.mp hl
    obtain ⟨q1, q2, q3⟩ := others_mem hg
    exact ⟨m0, m1, q1, q2, fun y => q3 y.symm, .inl rfl⟩
  have rfr : Rep H18 [] (.ref pf) (lettersD (toAll m c led "ask")) := .lst (.inl gf) (by simp) rf.plain
  walk_at "go"
  refine ⟨pf, c, _, rfl, rfr, good, fun H19 s19 => ?_⟩
  walk_at "go"
  refine iteF ?_
  walk_at "go"
  refine ⟨m, c, led, "ask", rfl, by omega, fun v H20 s20 ll f20 => ?_⟩
  have s820 := s19.trans s20
  walk_at "go"
  refine st_neD_letters (rfr.same s820) (by obtain ⟨l, ys, rfl, gl, nl, rl⟩ := ll; exact .lst (.inl gl) (by simp) rl) (fun l hl => (good l hl).2.2.2.2.2.ok) ?_
  walk_at "go"
  refine iteF ?_
  have hS20 : SqL K H20 a (ns.map .int) := scr_keep hS2 fun o e => s820 _ _ (mv.chg.keep _ _ (F17 o e) (nRs o e))
  walk_at "go"
  walk_at "new"
  rename_i pl hpl H21 s21 g21
  obtain ⟨cs, ecs, hcs⟩ := cut_ints ns (some 3) (some 150)
  rw [ecs] at g21
  have s821 := s820.trans s21
  have B0 : B2 C x psd pb pd pg pa pl led m c b0 b1 b2 agn cs { newHS m c agn with book := [(("open" : Str), led)] } { newHS m c agn with book := [(("open" : Str), led)] } pq R1 (1 + 4 * 0) [] [.ref t] H21 :=
    { at_ := mv.at_.same s821, gs := s821 _ _ (mv.chg.keep _ _ g17 nRp), gb := s821 _ _ (mv.chg.keep _ _ gb17 nRb), rb := .cons (.tup (.inl (s821 _ _ (mv.chg.tups _ _ gt17))) (.cons (.str _) (.cons (.int _) .nil))) .nil,
      gq := s821 _ _ (mv.chg.keep _ _ gq17 nRq), gd := s821 _ _ (mv.chg.keep _ _ gd17 nRd), so := fun k v e => (by cases e), gg := s821 _ _ (mv.chg.keep _ _ gg17 nRg), ga := s821 _ _ (mv.chg.keep _ _ ga17 nRa), gl := g21,
      ns := grow_not nRp g17 mv.gr, nb := grow_not nRb gb17 mv.gr, nd := grow_not nRd gd17 mv.gr, nq := grow_not nRq gq17 mv.gr, ng := grow_not nRg gg17 mv.gr, na := grow_not nRa ga17 mv.gr, nl := notin_new mv.at_.trk (s820.free hpl),
      q1 := nqb, g1 := ngb, a1 := nab, l1 := (ne_new hpl (s820 _ _ (mv.chg.keep _ _ gb17 nRb))).symm, d1 := nds }
  have g21' : SqL K H21 pl _ := sqL g21
  clear mv gf rf rfr fr nf nb1 good g17 gb17 gt17 gq17 gd17 gg17 ga17 F17 I17 ob17 nRp nRb nRq nRd nRg nRa nRs nqb ngb nab nds s820 s821 s21 s20 s19 hS20 f20 ll hpl
  walk_at "go"
  refine for_list (K := K) (a := pl) (xs := cs.map .int) (fun i σ H' => ∃ v12 v13 v14 h pq R sd xs, σ = loopσ a pg pa ph x psd c m far led v6 (some (.ref pf)) v12 v13 v14 ∧ B2 C x psd pb pd pg pa pl led m c b0 b1 b2 agn cs h h pq R (1 + 4 * i) sd xs H' ∧ S2 m c agn led b0 b1 b2 h ∧ sd.length ≤ i)
    ⟨none, none, none, _, _, _, _, _, rfl, B0, S0, Nat.le_refl _⟩ ?_ ?_ ?_
  · rintro i σ H' _ ⟨v12, v13, v14, h, pq, R, sd, xs, rfl, B, _⟩
    exact sqL B.gl
  · clear B0 S0 g21'
    rintro i y σ H' hy ⟨v12, v13, v14, h, pq, R, sd, xs, rfl, B, S, hsl⟩
    have hics : i < cs.length := by have := (List.getElem?_eq_some_iff.mp hy).1; rwa [List.length_map] at this
    rw [List.getElem?_map, List.getElem?_eq_getElem hics] at hy
    cases Option.some.inj hy
    refine st_gname ?_
    exact loop_body (K := K) (v13 := v13) (v14 := v14) B S (by omega) hsl m0 m1 c2 c12 hn0 hn1 hn2 fun v13 v14 h R pq sd xs H' B S l => ⟨_, v13, v14, h, pq, R, sd, xs, rfl, B, S, l⟩
  · rintro σ H' _
    walk_at "go"
    exact k H'
def top (i : Nat) : Stmt := PySem.Challenge.pw_oathhall_k02_a_house_that_is_asked.main.body.getD i (.Pass ⟨0, 0, 0, 0⟩)
abbrev zs0v : Stmt := top 2
abbrev zs11 : Stmt := top 3
abbrev zs0x : Stmt := top 4
abbrev zs0h : Stmt := top 5
abbrev zs0q : Stmt := top 6
abbrev zs0t : Stmt := top 7
abbrev zs0m : Stmt := inClass (top 9) 0
abbrev zs0c : Stmt := inClass (top 9) 1
abbrev zs0g : Stmt := inClass (top 9) 2
abbrev zs0s : Stmt := inClass (top 9) 3
abbrev zs0o : Stmt := inClass (top 9) 5
abbrev zs0l : Stmt := inClass (top 9) 6
abbrev zs09 : Stmt := inClass (top 9) 8
abbrev zs06 : Stmt := inClass (top 9) 9
abbrev zs00 : Stmt := inClass (top 9) 10
abbrev zs03 : Stmt := inClass (top 9) 11
abbrev zs0e : Stmt := inClass (top 9) 12
abbrev zs07 : Stmt := inClass (top 9) 13
abbrev zs0k : Stmt := inClass (top 9) 14
abbrev zs0j : Stmt := inClass (top 9) 15
abbrev zs0d : Stmt := inClass (top 9) 16
abbrev zs02 : Stmt := inClass (top 9) 17
abbrev zs0w : Stmt := top 10
abbrev zs0z : Stmt := top 12
abbrev zs0p : Stmt := top 13
abbrev zs10 : Stmt := top 14
abbrev zs0i : Stmt := top 15
abbrev zs0a : Stmt := top 16
abbrev zs0b : Stmt := top 17
abbrev zs05 : Stmt := top 18
abbrev zs04 : Stmt := top 19
abbrev zs0y : Stmt := top 20
abbrev zs0n : Stmt := top 21
abbrev zs0f : Stmt := top 22
abbrev zs0r : Stmt := top 23
abbrev zs08 : Stmt := top 24
abbrev zs01 : Stmt := top 25
abbrev zs0u : Stmt := top 26
abbrev zs12 : Stmt := top 27
structure Txt (K : PySem.W.Frag) (mg : Str → Option Value) (C_House : Addr) : Prop where
  ok : True
  n_bool : mg "bool" = none
  n_dict : mg "dict" = none
  n_int : mg "int" = none
  n_isinstance : mg "isinstance" = none
  n_len : mg "len" = none
  n_list : mg "list" = none
  n_range : mg "range" = none
  n_str : mg "str" = none
  n_tuple : mg "tuple" = none
  cl_House : Cls K C_House
  m_House : mg "House" = some (.ref C_House)
  f_House_against : NoAttr K C_House "against"
  f_House_awake : NoAttr K C_House "awake"
  f_House_book : NoAttr K C_House "book"
  f_House_counted : NoAttr K C_House "counted"
  f_House_lines_read : NoAttr K C_House "lines_read"
  f_House_number : NoAttr K C_House "number"
  f_House_others : NoAttr K C_House "others"
  f_House_pages : NoAttr K C_House "pages"
theorem zsc0v : FnScope ["book", "bargain"] ["book", "bargain"] (defScope zs0v) := ⟨rfl, rfl, rfl, by decide +kernel, rfl, by decide +kernel, by decide +kernel⟩
theorem znd0v_0 : List.Nodup (["line", "bargain"] : List Str) := by decide +kernel
theorem zsc11 : FnScope ["book", "bargain"] ["book", "bargain"] (defScope zs11) := ⟨rfl, rfl, rfl, by decide +kernel, rfl, by decide +kernel, by decide +kernel⟩
theorem zsc0x : FnScope ["book", "bargain", "word"] ["book", "bargain"] (defScope zs0x) := ⟨rfl, rfl, rfl, by decide +kernel, rfl, by decide +kernel, by decide +kernel⟩
theorem zsc0h : FnScope ["book", "bargain", "words"] ["book", "bargain"] (defScope zs0h) := ⟨rfl, rfl, rfl, by decide +kernel, rfl, by decide +kernel, by decide +kernel⟩
theorem zsc0q : FnScope ["book", "bargain"] ["book", "bargain"] (defScope zs0q) := ⟨rfl, rfl, rfl, by decide +kernel, rfl, by decide +kernel, by decide +kernel⟩
theorem zsc0t : FnScope ["book"] ["book"] (defScope zs0t) := ⟨rfl, rfl, rfl, by decide +kernel, rfl, by decide +kernel, by decide +kernel⟩
theorem znd0t_0 : List.Nodup (["line", "book"] : List Str) := by decide +kernel
theorem zsc0m : FnScope ["self", "number", "count", "against"] ["self", "number", "count", "against"] (defScope zs0m) := ⟨rfl, rfl, rfl, by decide +kernel, rfl, by decide +kernel, by decide +kernel⟩
theorem znd0m_0 : List.Nodup (["other", "number"] : List Str) := by decide +kernel
theorem zsc0c : FnScope ["self"] ["self"] (defScope zs0c) := ⟨rfl, rfl, rfl, by decide +kernel, rfl, by decide +kernel, by decide +kernel⟩
theorem zsc0g : FnScope ["self", "bargain"] ["self", "bargain"] (defScope zs0g) := ⟨rfl, rfl, rfl, by decide +kernel, rfl, by decide +kernel, by decide +kernel⟩
theorem zsc0s : FnScope ["self", "letter", "giver", "bargain", "word"] ["self", "letter"] (defScope zs0s) := ⟨rfl, rfl, rfl, by decide +kernel, rfl, by decide +kernel, by decide +kernel⟩
theorem zsc0o : FnScope ["self"] ["self"] (defScope zs0o) := ⟨rfl, rfl, rfl, by decide +kernel, rfl, by decide +kernel, by decide +kernel⟩
theorem zsc0l : FnScope ["self", "undecided", "sent", "bargain"] ["self"] (defScope zs0l) := ⟨rfl, rfl, rfl, by decide +kernel, rfl, by decide +kernel, by decide +kernel⟩
theorem zsc09 : FnScope ["self", "giver", "bargain"] ["self", "giver", "bargain"] (defScope zs09) := ⟨rfl, rfl, rfl, by decide +kernel, rfl, by decide +kernel, by decide +kernel⟩
theorem zsc06 : FnScope ["self", "giver", "bargain", "word", "decided", "givers"] ["self", "giver", "bargain", "word"] (defScope zs06) := ⟨rfl, rfl, rfl, by decide +kernel, rfl, by decide +kernel, by decide +kernel⟩
theorem zsc00 : FnScope ["self", "bargain", "word"] ["self", "bargain", "word"] (defScope zs00) := ⟨rfl, rfl, rfl, by decide +kernel, rfl, by decide +kernel, by decide +kernel⟩
theorem zsc03 : FnScope ["self", "giver", "bargain", "decided"] ["self", "giver", "bargain"] (defScope zs03) := ⟨rfl, rfl, rfl, by decide +kernel, rfl, by decide +kernel, by decide +kernel⟩
theorem zsc0e : FnScope ["self", "bargain", "word"] ["self", "bargain", "word"] (defScope zs0e) := ⟨rfl, rfl, rfl, by decide +kernel, rfl, by decide +kernel, by decide +kernel⟩
theorem zsc07 : FnScope ["self", "bargain"] ["self", "bargain"] (defScope zs07) := ⟨rfl, rfl, rfl, by decide +kernel, rfl, by decide +kernel, by decide +kernel⟩
theorem zsc0k : FnScope ["self", "bargain", "line"] ["self", "bargain"] (defScope zs0k) := ⟨rfl, rfl, rfl, by decide +kernel, rfl, by decide +kernel, by decide +kernel⟩
theorem zsc0j : FnScope ["self", "word", "bargain"] ["self", "word", "bargain"] (defScope zs0j) := ⟨rfl, rfl, rfl, by decide +kernel, rfl, by decide +kernel, by decide +kernel⟩
theorem zsc0d : FnScope ["self", "other", "bargain", "word"] ["self", "other", "bargain", "word"] (defScope zs0d) := ⟨rfl, rfl, rfl, by decide +kernel, rfl, by decide +kernel, by decide +kernel⟩
theorem zsc02 : FnScope ["self", "bargain", "word"] ["self", "bargain", "word"] (defScope zs02) := ⟨rfl, rfl, rfl, by decide +kernel, rfl, by decide +kernel, by decide +kernel⟩
theorem znd02_0 : List.Nodup (["other", "bargain", "word", "self"] : List Str) := by decide +kernel
theorem zsc0w : FnScope ["house", "letters"] ["house", "letters"] (defScope zs0w) := ⟨rfl, rfl, rfl, by decide +kernel, rfl, by decide +kernel, by decide +kernel⟩
theorem znd0w_0 : List.Nodup (["letter", "house"] : List Str) := by decide +kernel
theorem zsc0z : FnScope ["_law_found", "_law_meant", "_law_k"] ["_law_found", "_law_meant"] (defScope zs0z) := ⟨rfl, rfl, rfl, by decide +kernel, rfl, by decide +kernel, by decide +kernel⟩
theorem zsc0p : FnScope ["_law_found"] ["_law_found"] (defScope zs0p) := ⟨rfl, rfl, rfl, by decide +kernel, rfl, by decide +kernel, by decide +kernel⟩
theorem zsc10 : FnScope ["_law_script", "_law_k"] ["_law_script", "_law_k"] (defScope zs10) := ⟨rfl, rfl, rfl, by decide +kernel, rfl, by decide +kernel, by decide +kernel⟩
theorem zsc0i : FnScope ["_law_found"] ["_law_found"] (defScope zs0i) := ⟨rfl, rfl, rfl, by decide +kernel, rfl, by decide +kernel, by decide +kernel⟩
theorem zsc0a : FnScope ["_law_found", "_law_line"] ["_law_found"] (defScope zs0a) := ⟨rfl, rfl, rfl, by decide +kernel, rfl, by decide +kernel, by decide +kernel⟩
theorem zsc0b : FnScope ["_law_found", "_law_count", "_law_number"] ["_law_found", "_law_count"] (defScope zs0b) := ⟨rfl, rfl, rfl, by decide +kernel, rfl, by decide +kernel, by decide +kernel⟩
theorem zsc05 : FnScope ["_law_found", "_law_count", "_law_letter"] ["_law_found", "_law_count"] (defScope zs05) := ⟨rfl, rfl, rfl, by decide +kernel, rfl, by decide +kernel, by decide +kernel⟩
theorem zsc04 : FnScope ["_law_book", "_law_against", "_law_mine", "_law_letter", "_law_giver", "_law_to", "_law_bargain", "_law_word", "_law_lines", "_law_told"] ["_law_book", "_law_against", "_law_mine", "_law_letter"] (defScope zs04) := ⟨rfl, rfl, rfl, by decide +kernel, rfl, by decide +kernel, by decide +kernel⟩
theorem znd04_0 : List.Nodup (["_law_line", "_law_bargain"] : List Str) := by decide +kernel
theorem zsc0y : FnScope ["_law_book", "_law_bargain", "_law_cell", "_law_lines"] ["_law_book", "_law_bargain", "_law_cell"] (defScope zs0y) := ⟨rfl, rfl, rfl, by decide +kernel, rfl, by decide +kernel, by decide +kernel⟩
theorem znd0y_0 : List.Nodup (["_law_line", "_law_bargain"] : List Str) := by decide +kernel
theorem zsc0n : FnScope ["_law_mine", "_law_count", "_law_bargain", "_law_word"] ["_law_mine", "_law_count", "_law_bargain", "_law_word"] (defScope zs0n) := ⟨rfl, rfl, rfl, by decide +kernel, rfl, by decide +kernel, by decide +kernel⟩
theorem znd0n_0 : List.Nodup (["_law_k", "_law_mine", "_law_bargain", "_law_word"] : List Str) := by decide +kernel
theorem zsc0f : FnScope ["_law_state", "_law_letter", "_law_giver", "_law_mine", "_law_bargain", "_law_word", "_law_book", "_law_lines"] ["_law_state", "_law_letter"] (defScope zs0f) := ⟨rfl, rfl, rfl, by decide +kernel, rfl, by decide +kernel, by decide +kernel⟩
theorem znd0f_0 : List.Nodup (["_law_line", "_law_bargain"] : List Str) := by decide +kernel
theorem zsc0r : FnScope ["_law_house", "_law_state", "_law_found", "_law_due", "_law_led"] ["_law_house", "_law_state"] (defScope zs0r) := ⟨rfl, rfl, rfl, by decide +kernel, rfl, by decide +kernel, by decide +kernel⟩
theorem znd0r_0 : List.Nodup (["_law_line", "_law_led"] : List Str) := by decide +kernel
theorem zsc08 : FnScope ["_law_state", "_law_cell", "_law_mine", "_law_giver", "_law_word"] ["_law_state", "_law_cell"] (defScope zs08) := ⟨rfl, rfl, rfl, by decide +kernel, rfl, by decide +kernel, by decide +kernel⟩
theorem zsc01 : FnScope ["_law_state", "_law_bargains", "_law_cell", "_law_mine", "_law_count", "_law_bargain", "_law_word", "_law_giver"] ["_law_state", "_law_bargains", "_law_cell"] (defScope zs01) := ⟨rfl, rfl, rfl, by decide +kernel, rfl, by decide +kernel, by decide +kernel⟩
theorem zsc0u : FnScope ["_law_house", "_law_state", "_law_letter", "_law_due", "_law_cell", "_law_found"] ["_law_house", "_law_state", "_law_letter", "_law_due", "_law_cell"] (defScope zs0u) := ⟨rfl, rfl, rfl, by decide +kernel, rfl, by decide +kernel, by decide +kernel⟩
theorem zsc12 : FnScope ["_law_script", "_law_count", "_law_mine", "_law_far", "_law_bargains", "_law_against", "_law_k", "_law_handed", "_law_house", "_law_led", "_law_state", "_law_found", "_law_cell", "_law_letter", "_law_due"] ["_law_script"] (defScope zs12) := ⟨rfl, rfl, rfl, by decide +kernel, rfl, by decide +kernel, by decide +kernel⟩
theorem znd12_0 : List.Nodup (["_law_bargain", "_law_against"] : List Str) := by decide +kernel
theorem Txt.hs {K : PySem.W.Frag} {mg : Str → Option Value} {C_House : Addr} (T : Txt K mg C_House) : HouseTxt K C_House := ⟨T.cl_House, T.f_House_number, T.f_House_others, T.f_House_against, T.f_House_book, T.f_House_awake, T.f_House_counted, T.f_House_pages, T.f_House_lines_read⟩
section
variable {P : Program} {w : World} {K : PySem.W.Frag} {mg : Str → Option Value} {base : Heap} {f : Addr} {cdv : Value} {A : Around} {outer : List Env} {s : Shared} {H : Hp} {E : XK}
theorem zder0v {C_House : Addr}  (T : Txt K mg C_House)
    
    (hr : Room 0 (A.deeper (PyProof.Rows.envOfC "words_of" (defScope zs0v) s.heap.objs.size f cdv))) :
    PSs (cxOf CX0 P w K mg base ["book", "bargain"] "words_of" (defScope zs0v) f cdv A outer s H E).nox (defBody zs0v) (zR0v K ) := by
  have hu := hu_of hr
  have hu64 := hr.units
  have hu65 := hu65_of hr
  unfold zR0v
  exact (pss_one (ps_ret (pe_lc rfl (show CompOk _ (["line", "bargain"] : List Str) _ ([("bargain", s.heap.objs.size + 1 + 0)] : List (Str × Addr)) ([none, some 1] : List (Option Nat)) from ⟨by with_unfolding_all rfl, rfl, rfl, rfl, rfl, ⟨rfl, trivial⟩, ⟨⟨rfl, Or.inl rfl, Or.inl rfl, _, rfl, rfl⟩, trivial⟩⟩) (pi_list (pv 0)) (fun _ _ _ _ => (pg_name (i := 0) znd0v_0 rfl (Or.inl rfl))) (fun _ _ _ _ => (pifs_one (pt_cmpR op_eq (pe_ix ix_tup (pv 0) pe_int (fun _ _ => rfl)) (pv 1) (nomark _)))) (fun _ _ _ _ => (pe_ix ix_tup (pv 0) pe_int (fun _ _ => rfl))))))
theorem zder11 {C_House : Addr} (zsp0v : Sp) (T : Txt K mg C_House)
    (zh0v : Has P w K mg base 1 "words_of" ["book", "bargain"] zsp0v)
    (hr : Room 1 (A.deeper (PyProof.Rows.envOfC "knows" (defScope zs11) s.heap.objs.size f cdv))) :
    PSs (cxOf CX0 P w K mg base ["book", "bargain"] "knows" (defScope zs11) f cdv A outer s H E).nox (defBody zs11) (zR11 K zsp0v) := by
  have hu := hu_of hr
  have hu64 := hr.units
  have hu65 := hu65_of hr
  obtain ⟨zf0v, zfd0v, zG0v, zm0v, zk0v, zb0v⟩ := zh0v
  have zhr0v := hr.mono (j := 1) (by decide)
  unfold zR11
  exact (pss_one (ps_ret (pe_cmpR op_gt (pe_callB call_len_seq (by rfl) T.n_len PySem.boot_len (pa_cons (pe_call zG0v zhr0v rfl zm0v zk0v zb0v .nil pass0 (pa_cons (pv 0) (pa_cons (pv 1) pa_nil))) pa_nil)) pe_int (nomark _))))
theorem zder0x {C_House : Addr} (zsp0v : Sp) (T : Txt K mg C_House)
    (zh0v : Has P w K mg base 1 "words_of" ["book", "bargain"] zsp0v)
    (hr : Room 1 (A.deeper (PyProof.Rows.envOfC "vote_in" (defScope zs0x) s.heap.objs.size f cdv))) :
    PSs (cxOf CX0 P w K mg base ["book", "bargain", "word"] "vote_in" (defScope zs0x) f cdv A outer s H E).nox (defBody zs0x) (zR0x K zsp0v) := by
  have hu := hu_of hr
  have hu64 := hr.units
  have hu65 := hu65_of hr
  obtain ⟨zf0v, zfd0v, zG0v, zm0v, zk0v, zb0v⟩ := zh0v
  have zhr0v := hr.mono (j := 1) (by decide)
  unfold zR0x
  exact (pss_cons (ps_for PassesOwn.never rfl (pi_list (pe_call zG0v zhr0v rfl zm0v zk0v zb0v .nil pass0 (pa_cons (pv 0) (pa_cons (pv 1) pa_nil)))) (pg_name (i := 2) zsc0x.nd rfl (Or.inl rfl))
      (pss_one (ps_if (pt_cmpR op_in_seq (pv 2) (pe_tup (pa_cons pe_str (pa_cons pe_str (pa_cons pe_str pa_nil)))) (by with_unfolding_all rfl))
      (pss_one (ps_ret (pv 2)))
      pss_nil)))
      (pss_one (ps_ret pe_non)))
theorem zder0h {C_House : Addr} (zsp0v : Sp) (T : Txt K mg C_House)
    (zh0v : Has P w K mg base 1 "words_of" ["book", "bargain"] zsp0v)
    (hr : Room 1 (A.deeper (PyProof.Rows.envOfC "decision_in" (defScope zs0h) s.heap.objs.size f cdv))) :
    PSs (cxOf CX0 P w K mg base ["book", "bargain", "words"] "decision_in" (defScope zs0h) f cdv A outer s H E).nox (defBody zs0h) (zR0h K zsp0v) := by
  have hu := hu_of hr
  have hu64 := hr.units
  have hu65 := hu65_of hr
  obtain ⟨zf0v, zfd0v, zG0v, zm0v, zk0v, zb0v⟩ := zh0v
  have zhr0v := hr.mono (j := 1) (by decide)
  unfold zR0h
  exact (pss_cons (ps_set (i := 2) zsc0h.nd rfl (Or.inl rfl) (pe_call zG0v zhr0v rfl zm0v zk0v zb0v .nil pass0 (pa_cons (pv 0) (pa_cons (pv 1) pa_nil))))
      (pss_cons (ps_if (pt_cmpR op_in_seq pe_str (pv 2) (by with_unfolding_all rfl))
      (pss_one (ps_ret pe_str))
      pss_nil)
      (pss_cons (ps_if (PW.pt (pw_or (pt_cmpR op_in_seq pe_str (pv 2) (by with_unfolding_all rfl)) (pw_or1 (pt_cmpR op_in_seq pe_str (pv 2) (by with_unfolding_all rfl)))))
      (pss_one (ps_ret pe_str))
      pss_nil)
      (pss_one (ps_ret pe_non)))))
theorem zder0q {C_House : Addr} (zsp0x : Sp) (zsp0h : Sp) (T : Txt K mg C_House)
    (zh0x : Has P w K mg base 2 "vote_in" ["book", "bargain"] zsp0x) (zh0h : Has P w K mg base 2 "decision_in" ["book", "bargain"] zsp0h)
    (hr : Room 2 (A.deeper (PyProof.Rows.envOfC "is_unsure" (defScope zs0q) s.heap.objs.size f cdv))) :
    PSs (cxOf CX0 P w K mg base ["book", "bargain"] "is_unsure" (defScope zs0q) f cdv A outer s H E).nox (defBody zs0q) (zR0q K zsp0x zsp0h) := by
  have hu := hu_of hr
  have hu64 := hr.units
  have hu65 := hu65_of hr
  obtain ⟨zf0x, zfd0x, zG0x, zm0x, zk0x, zb0x⟩ := zh0x
  have zhr0x := hr.mono (j := 2) (by decide)
  obtain ⟨zf0h, zfd0h, zG0h, zm0h, zk0h, zb0h⟩ := zh0h
  have zhr0h := hr.mono (j := 2) (by decide)
  unfold zR0q
  exact (pss_one (ps_ret (pe_and (pe_cmpR op_eq (pe_call zG0x zhr0x rfl zm0x zk0x zb0x .nil pass0 (pa_cons (pv 0) (pa_cons (pv 1) pa_nil))) pe_str (nomark _)) (pe_one (pe_cmp (pc_isN (pe_call zG0h zhr0h rfl zm0h zk0h zb0h .nil pass0 (pa_cons (pv 0) (pa_cons (pv 1) pa_nil)))))))))
theorem zder0t {C_House : Addr} (zsp0h : Sp) (T : Txt K mg C_House)
    (zh0h : Has P w K mg base 2 "decision_in" ["book", "bargain"] zsp0h)
    (hr : Room 2 (A.deeper (PyProof.Rows.envOfC "left_open" (defScope zs0t) s.heap.objs.size f cdv))) :
    PSs (cxOf CX0 P w K mg base ["book"] "left_open" (defScope zs0t) f cdv A outer s H E).nox (defBody zs0t) (zR0t K zsp0h) := by
  have hu := hu_of hr
  have hu64 := hr.units
  have hu65 := hu65_of hr
  obtain ⟨zf0h, zfd0h, zG0h, zm0h, zk0h, zb0h⟩ := zh0h
  have zhr0h := hr.mono (j := 2) (by decide)
  unfold zR0t
  exact (pss_one (ps_ret (pe_lc rfl (show CompOk _ (["line", "book"] : List Str) _ ([("book", s.heap.objs.size + 1 + 0)] : List (Str × Addr)) ([none, some 0] : List (Option Nat)) from ⟨by with_unfolding_all rfl, rfl, rfl, rfl, rfl, ⟨rfl, trivial⟩, ⟨⟨rfl, Or.inl rfl, Or.inl rfl, _, rfl, rfl⟩, trivial⟩⟩) (pi_list (pv 0)) (fun _ _ _ _ => (pg_name (i := 0) znd0t_0 rfl (Or.inl rfl))) (fun _ _ _ _ => (pifs_one (PW.pt (pw_and (pt_cmpR op_eq (pe_ix ix_tup (pv 0) pe_int (fun _ _ => rfl)) pe_str (nomark _)) (pw_and1 (pt_cmp (pc_isN (pe_call zG0h zhr0h rfl zm0h zk0h zb0h .nil pass0 (pa_cons (pv 1) (pa_cons (pe_ix ix_tup (pv 0) pe_int (fun _ _ => rfl)) pa_nil)))))))))) (fun _ _ _ _ => (pe_ix ix_tup (pv 0) pe_int (fun _ _ => rfl))))))
theorem zder0m (zsp0c : Sp) (C_House : Addr) (T : Txt K mg C_House)
    (zh0c : HasM P w K mg base C_House 1 "forget" ["self"] zsp0c)
    (hr : Room 1 (A.deeper (PyProof.Rows.envOfC "House.__init__" (defScope zs0m) s.heap.objs.size f cdv))) :
    PSs (cxOf CX0 P w K mg base ["self", "number", "count", "against"] "House.__init__" (defScope zs0m) f cdv A outer s H E).nox (defBody zs0m) (zR0m K zsp0c C_House) := by
  have hu := hu_of hr
  have hu64 := hr.units
  have hu65 := hu65_of hr
  obtain ⟨zf0c, zfd0c, zG0c, zmt0c, zb0c⟩ := zh0c
  have zhr0c := hr.mono (j := 1) (by decide)
  unfold zR0m
  exact (pss_cons (ps_fld (pv 0) (pv 1) rfl)
      (pss_cons (ps_fld (pv 0) (pe_lc rfl (show CompOk _ (["other", "number"] : List Str) _ ([("number", s.heap.objs.size + 1 + 0)] : List (Str × Addr)) ([none, some 1] : List (Option Nat)) from ⟨by with_unfolding_all rfl, rfl, rfl, rfl, rfl, ⟨rfl, trivial⟩, ⟨⟨rfl, Or.inl rfl, Or.inl rfl, _, rfl, rfl⟩, trivial⟩⟩) (pi_range1 rfl T.n_range (pa_cons (pv 2) pa_nil)) (fun _ _ _ _ => (pg_name (i := 0) znd0m_0 rfl (Or.inl rfl))) (fun _ _ _ _ => (pifs_one (pt_cmpR op_ne (pv 0) (pv 1) (nomark _)))) (fun _ _ _ _ => (pv 0))) rfl)
      (pss_cons (ps_fld (pv 0) (pe_callTy call_list_of (by rfl) T.n_list PySem.Pv.boot_list (pa_cons (pv 3) pa_nil)) rfl)
      (pss_cons (ps_fld (pv 0) (pe_lst pa_nil) rfl)
      (pss_cons (ps_fld (pv 0) pe_bl rfl)
      (pss_one (ps_expr (pe_meth0 (pv 0) T.cl_House zmt0c zG0c zhr0c zb0c .nil pass0))))))))
theorem zder0c {C_House : Addr}  (T : Txt K mg C_House)
    
    (hr : Room 0 (A.deeper (PyProof.Rows.envOfC "House.forget" (defScope zs0c) s.heap.objs.size f cdv))) :
    PSs (cxOf CX0 P w K mg base ["self"] "House.forget" (defScope zs0c) f cdv A outer s H E).nox (defBody zs0c) (zR0c K ) := by
  have hu := hu_of hr
  have hu64 := hr.units
  have hu65 := hu65_of hr
  unfold zR0c
  exact (pss_cons (ps_fld (pv 0) pe_dnewK rfl)
      (pss_cons (ps_fld (pv 0) pe_dnewK rfl)
      (pss_one (ps_fld (pv 0) pe_int rfl))))
theorem zder0g (zsp0j : Sp) (zsp02 : Sp) (C_House : Addr) (T : Txt K mg C_House)
    (zh0j : HasM P w K mg base C_House 1 "write" ["self", "word", "bargain"] zsp0j) (zh02 : HasM P w K mg base C_House 1 "to_others" ["self", "bargain", "word"] zsp02)
    (hr : Room 1 (A.deeper (PyProof.Rows.envOfC "House.begin" (defScope zs0g) s.heap.objs.size f cdv))) :
    PSs (cxOf CX0 P w K mg base ["self", "bargain"] "House.begin" (defScope zs0g) f cdv A outer s H E).nox (defBody zs0g) (zR0g K zsp0j zsp02 C_House) := by
  have hu := hu_of hr
  have hu64 := hr.units
  have hu65 := hu65_of hr
  obtain ⟨zf0j, zfd0j, zG0j, zmt0j, zb0j⟩ := zh0j
  have zhr0j := hr.mono (j := 1) (by decide)
  obtain ⟨zf02, zfd02, zG02, zmt02, zb02⟩ := zh02
  have zhr02 := hr.mono (j := 1) (by decide)
  unfold zR0g
  exact (pss_cons (ps_if (pt_cmpR op_in_seq (pv 1) (pe_fld (pv 0) rfl) (by with_unfolding_all rfl))
      (pss_cons (ps_expr (pe_meth (pv 0) T.cl_House zmt0j zG0j zhr0j zb0j .nil pass0 (pa_cons pe_str (pa_cons (pv 1) pa_nil))))
      (pss_one (ps_ret (pe_lst pa_nil))))
      pss_nil)
      (pss_cons (ps_expr (pe_meth (pv 0) T.cl_House zmt0j zG0j zhr0j zb0j .nil pass0 (pa_cons pe_str (pa_cons (pv 1) pa_nil))))
      (pss_one (ps_ret (pe_meth (pv 0) T.cl_House zmt02 zG02 zhr02 zb02 .nil pass0 (pa_cons (pv 1) (pa_cons pe_str pa_nil)))))))
theorem zder0s (zsp09 : Sp) (zsp03 : Sp) (zsp06 : Sp) (zsp00 : Sp) (C_House : Addr) (T : Txt K mg C_House)
    (zh09 : HasM P w K mg base C_House 4 "got_ask" ["self", "giver", "bargain"] zsp09) (zh03 : HasM P w K mg base C_House 4 "got_query" ["self", "giver", "bargain"] zsp03) (zh06 : HasM P w K mg base C_House 4 "got_vote" ["self", "giver", "bargain", "word"] zsp06) (zh00 : HasM P w K mg base C_House 4 "got_decision" ["self", "bargain", "word"] zsp00)
    (hr : Room 4 (A.deeper (PyProof.Rows.envOfC "House.got" (defScope zs0s) s.heap.objs.size f cdv))) :
    PSs (cxOf CX0 P w K mg base ["self", "letter", "giver", "bargain", "word"] "House.got" (defScope zs0s) f cdv A outer s H E).nox (defBody zs0s) (zR0s K zsp09 zsp03 zsp06 zsp00 C_House) := by
  have hu := hu_of hr
  have hu64 := hr.units
  have hu65 := hu65_of hr
  obtain ⟨zf09, zfd09, zG09, zmt09, zb09⟩ := zh09
  have zhr09 := hr.mono (j := 4) (by decide)
  obtain ⟨zf03, zfd03, zG03, zmt03, zb03⟩ := zh03
  have zhr03 := hr.mono (j := 4) (by decide)
  obtain ⟨zf06, zfd06, zG06, zmt06, zb06⟩ := zh06
  have zhr06 := hr.mono (j := 4) (by decide)
  obtain ⟨zf00, zfd00, zG00, zmt00, zb00⟩ := zh00
  have zhr00 := hr.mono (j := 4) (by decide)
  unfold zR0s
  exact (pss_cons (ps_set (i := 2) zsc0s.nd rfl (Or.inl rfl) (pe_ix ix_tup (pv 1) pe_int (fun _ _ => rfl)))
      (pss_cons (ps_set (i := 3) zsc0s.nd rfl (Or.inl rfl) (pe_ix ix_tup (pv 1) pe_int (fun _ _ => rfl)))
      (pss_cons (ps_set (i := 4) zsc0s.nd rfl (Or.inl rfl) (pe_ix ix_tup (pv 1) pe_int (fun _ _ => rfl)))
      (pss_cons (ps_if (pt_cmpR op_eq (pv 4) pe_str (nomark _))
      (pss_one (ps_ret (pe_meth (pv 0) T.cl_House zmt09 zG09 zhr09 zb09 .nil pass0 (pa_cons (pv 2) (pa_cons (pv 3) pa_nil)))))
      pss_nil)
      (pss_cons (ps_if (pt_cmpR op_eq (pv 4) pe_str (nomark _))
      (pss_one (ps_ret (pe_meth (pv 0) T.cl_House zmt03 zG03 zhr03 zb03 .nil pass0 (pa_cons (pv 2) (pa_cons (pv 3) pa_nil)))))
      pss_nil)
      (pss_cons (ps_if (pt_cmpR op_in_seq (pv 4) (pe_tup (pa_cons pe_str (pa_cons pe_str pa_nil))) (by with_unfolding_all rfl))
      (pss_one (ps_ret (pe_meth (pv 0) T.cl_House zmt06 zG06 zhr06 zb06 .nil pass0 (pa_cons (pv 2) (pa_cons (pv 3) (pa_cons (pv 4) pa_nil))))))
      pss_nil)
      (pss_one (ps_ret (pe_meth (pv 0) T.cl_House zmt00 zG00 zhr00 zb00 .nil pass0 (pa_cons (pv 3) (pa_cons (pv 4) pa_nil)))))))))))
theorem zder0o (zsp0c : Sp) (C_House : Addr) (T : Txt K mg C_House)
    (zh0c : HasM P w K mg base C_House 1 "forget" ["self"] zsp0c)
    (hr : Room 1 (A.deeper (PyProof.Rows.envOfC "House.stop" (defScope zs0o) s.heap.objs.size f cdv))) :
    PSs (cxOf CX0 P w K mg base ["self"] "House.stop" (defScope zs0o) f cdv A outer s H E).nox (defBody zs0o) (zR0o K zsp0c C_House) := by
  have hu := hu_of hr
  have hu64 := hr.units
  have hu65 := hu65_of hr
  obtain ⟨zf0c, zfd0c, zG0c, zmt0c, zb0c⟩ := zh0c
  have zhr0c := hr.mono (j := 1) (by decide)
  unfold zR0o
  exact (pss_cons (ps_fld (pv 0) pe_bl rfl)
      (pss_one (ps_expr (pe_meth0 (pv 0) T.cl_House zmt0c zG0c zhr0c zb0c .nil pass0))))
theorem zder0l (zsp0t : Sp) (zsp0e : Sp) (C_House : Addr) (T : Txt K mg C_House)
    (zh0t : Has P w K mg base 3 "left_open" ["book"] zsp0t) (zh0e : HasM P w K mg base C_House 2 "decide" ["self", "bargain", "word"] zsp0e)
    (hr : Room 3 (A.deeper (PyProof.Rows.envOfC "House.wake" (defScope zs0l) s.heap.objs.size f cdv))) :
    PSs (cxOf CX0 P w K mg base ["self", "undecided", "sent", "bargain"] "House.wake" (defScope zs0l) f cdv A outer s H E).nox (defBody zs0l) (zR0l K zsp0t zsp0e C_House) := by
  have hu := hu_of hr
  have hu64 := hr.units
  have hu65 := hu65_of hr
  obtain ⟨zf0t, zfd0t, zG0t, zm0t, zk0t, zb0t⟩ := zh0t
  have zhr0t := hr.mono (j := 3) (by decide)
  obtain ⟨zf0e, zfd0e, zG0e, zmt0e, zb0e⟩ := zh0e
  have zhr0e := hr.mono (j := 2) (by decide)
  unfold zR0l
  exact (pss_cons (ps_fld (pv 0) pe_bl rfl)
      (pss_cons (ps_set (i := 1) zsc0l.nd rfl (Or.inl rfl) (pe_call zG0t zhr0t rfl zm0t zk0t zb0t .nil pass0 (pa_cons (pe_fld (pv 0) rfl) pa_nil)))
      (pss_cons (ps_set (i := 2) zsc0l.nd rfl (Or.inl rfl) (pe_lst pa_nil))
      (pss_cons (ps_for PassesOwn.never rfl (pi_list (pv 1)) (pg_name (i := 3) zsc0l.nd rfl (Or.inl rfl))
      (pss_one (ps_expr (pe_bm PySem.F.plainAttrs_list PySem.F.slot_list_extend PySem.F.type_list_extend mt_extend (pv 2) (pa_cons (pe_meth (pv 0) T.cl_House zmt0e zG0e zhr0e zb0e .nil pass0 (pa_cons (pv 3) (pa_cons pe_str pa_nil))) pa_nil)))))
      (pss_one (ps_ret (pv 2)))))))
theorem zder09 (zsp11 : Sp) (zsp0k : Sp) (zsp0j : Sp) (zsp07 : Sp) (zsp0d : Sp) (C_House : Addr) (T : Txt K mg C_House)
    (zh11 : Has P w K mg base 2 "knows" ["book", "bargain"] zsp11) (zh0k : HasM P w K mg base C_House 1 "page" ["self", "bargain"] zsp0k) (zh0j : HasM P w K mg base C_House 1 "write" ["self", "word", "bargain"] zsp0j) (zh07 : HasM P w K mg base C_House 3 "decision" ["self", "bargain"] zsp07) (zh0d : HasM P w K mg base C_House 1 "to_one" ["self", "other", "bargain", "word"] zsp0d)
    (hr : Room 3 (A.deeper (PyProof.Rows.envOfC "House.got_ask" (defScope zs09) s.heap.objs.size f cdv))) :
    PSs (cxOf CX0 P w K mg base ["self", "giver", "bargain"] "House.got_ask" (defScope zs09) f cdv A outer s H E).nox (defBody zs09) (zR09 K zsp11 zsp0k zsp0j zsp07 zsp0d C_House) := by
  have hu := hu_of hr
  have hu64 := hr.units
  have hu65 := hu65_of hr
  obtain ⟨zf11, zfd11, zG11, zm11, zk11, zb11⟩ := zh11
  have zhr11 := hr.mono (j := 2) (by decide)
  obtain ⟨zf0k, zfd0k, zG0k, zmt0k, zb0k⟩ := zh0k
  have zhr0k := hr.mono (j := 1) (by decide)
  obtain ⟨zf0j, zfd0j, zG0j, zmt0j, zb0j⟩ := zh0j
  have zhr0j := hr.mono (j := 1) (by decide)
  obtain ⟨zf07, zfd07, zG07, zmt07, zb07⟩ := zh07
  have zhr07 := hr.mono (j := 3) (by decide)
  obtain ⟨zf0d, zfd0d, zG0d, zmt0d, zb0d⟩ := zh0d
  have zhr0d := hr.mono (j := 1) (by decide)
  unfold zR09
  exact (pss_cut (ps_if (pt_not (pt_val (pe_call zG11 zhr11 rfl zm11 zk11 zb11 .nil pass0 (pa_cons (pe_meth (pv 0) T.cl_House zmt0k zG0k zhr0k zb0k .nil pass0 (pa_cons (pv 2) pa_nil)) (pa_cons (pv 2) pa_nil)))))
      (pss_one (ps_expr (pe_meth (pv 0) T.cl_House zmt0j zG0j zhr0j zb0j .nil pass0 (pa_cons (pe_ifExp (pt_cmpR op_in_seq (pv 2) (pe_fld (pv 0) rfl) (by with_unfolding_all rfl)) pe_str pe_str) (pa_cons (pv 2) pa_nil)))))
      pss_nil)
      (pss_cons (ps_if (pt_cmpR op_eq (pe_meth (pv 0) T.cl_House zmt07 zG07 zhr07 zb07 .nil pass0 (pa_cons (pv 2) pa_nil)) pe_str (nomark _))
      (pss_one (ps_ret (pe_meth (pv 0) T.cl_House zmt0d zG0d zhr0d zb0d .nil pass0 (pa_cons (pv 1) (pa_cons (pv 2) (pa_cons pe_str pa_nil))))))
      pss_nil)
      (pss_one (ps_ret (pe_meth (pv 0) T.cl_House zmt0d zG0d zhr0d zb0d .nil pass0 (pa_cons (pv 1) (pa_cons (pv 2) (pa_cons pe_str pa_nil))))))))
theorem zder06 (zsp07 : Sp) (zsp0d : Sp) (zsp0e : Sp) (C_House : Addr) (T : Txt K mg C_House)
    (zh07 : HasM P w K mg base C_House 3 "decision" ["self", "bargain"] zsp07) (zh0d : HasM P w K mg base C_House 1 "to_one" ["self", "other", "bargain", "word"] zsp0d) (zh0e : HasM P w K mg base C_House 2 "decide" ["self", "bargain", "word"] zsp0e)
    (hr : Room 3 (A.deeper (PyProof.Rows.envOfC "House.got_vote" (defScope zs06) s.heap.objs.size f cdv))) :
    PSs (cxOf CX0 P w K mg base ["self", "giver", "bargain", "word", "decided", "givers"] "House.got_vote" (defScope zs06) f cdv A outer s H E).nox (defBody zs06) (zR06 K zsp07 zsp0d zsp0e C_House) := by
  have hu := hu_of hr
  have hu64 := hr.units
  have hu65 := hu65_of hr
  obtain ⟨zf07, zfd07, zG07, zmt07, zb07⟩ := zh07
  have zhr07 := hr.mono (j := 3) (by decide)
  obtain ⟨zf0d, zfd0d, zG0d, zmt0d, zb0d⟩ := zh0d
  have zhr0d := hr.mono (j := 1) (by decide)
  obtain ⟨zf0e, zfd0e, zG0e, zmt0e, zb0e⟩ := zh0e
  have zhr0e := hr.mono (j := 2) (by decide)
  unfold zR06
  exact (pss_cons (ps_set (i := 4) zsc06.nd rfl (Or.inl rfl) (pe_meth (pv 0) T.cl_House zmt07 zG07 zhr07 zb07 .nil pass0 (pa_cons (pv 2) pa_nil)))
      (pss_cons (ps_if (pt_cmp (pc_notN (pv 4)))
      (pss_one (ps_ret (pe_ifExp (pt_cmpR op_eq (pv 3) pe_str (nomark _)) (pe_meth (pv 0) T.cl_House zmt0d zG0d zhr0d zb0d .nil pass0 (pa_cons (pv 1) (pa_cons (pv 2) (pa_cons (pv 4) pa_nil)))) (pe_lst pa_nil))))
      pss_nil)
      (pss_cons (ps_if (pt_cmpR op_eq (pv 3) pe_str (nomark _))
      (pss_one (ps_ret (pe_meth (pv 0) T.cl_House zmt0e zG0e zhr0e zb0e .nil pass0 (pa_cons (pv 2) (pa_cons pe_str pa_nil)))))
      pss_nil)
      (pss_cons (ps_set (i := 5) zsc06.nd rfl (Or.inl rfl) (pe_dsetd (pe_fld (pv 0) rfl) (pv 2) pe_dnewK ⟨rfl, rfl, rfl, rfl⟩))
      (pss_cons (ps_dput hu (pv 5) (pv 1) pe_bl rfl)
      (pss_cons (ps_if (pt_cmpR op_lt (pe_callB call_lenD (by rfl) T.n_len PySem.boot_len (pa_cons (pv 5) pa_nil)) (pe_callB call_len_seq (by rfl) T.n_len PySem.boot_len (pa_cons (pe_fld (pv 0) rfl) pa_nil)) (nomark _))
      (pss_one (ps_ret (pe_lst pa_nil)))
      pss_nil)
      (pss_one (ps_ret (pe_meth (pv 0) T.cl_House zmt0e zG0e zhr0e zb0e .nil pass0 (pa_cons (pv 2) (pa_cons pe_str pa_nil)))))))))))
theorem zder00 (zsp07 : Sp) (zsp0j : Sp) (C_House : Addr) (T : Txt K mg C_House)
    (zh07 : HasM P w K mg base C_House 3 "decision" ["self", "bargain"] zsp07) (zh0j : HasM P w K mg base C_House 1 "write" ["self", "word", "bargain"] zsp0j)
    (hr : Room 3 (A.deeper (PyProof.Rows.envOfC "House.got_decision" (defScope zs00) s.heap.objs.size f cdv))) :
    PSs (cxOf CX0 P w K mg base ["self", "bargain", "word"] "House.got_decision" (defScope zs00) f cdv A outer s H E).nox (defBody zs00) (zR00 K zsp07 zsp0j C_House) := by
  have hu := hu_of hr
  have hu64 := hr.units
  have hu65 := hu65_of hr
  obtain ⟨zf07, zfd07, zG07, zmt07, zb07⟩ := zh07
  have zhr07 := hr.mono (j := 3) (by decide)
  obtain ⟨zf0j, zfd0j, zG0j, zmt0j, zb0j⟩ := zh0j
  have zhr0j := hr.mono (j := 1) (by decide)
  unfold zR00
  exact (pss_cut (ps_if (pt_cmp (pc_isN (pe_meth (pv 0) T.cl_House zmt07 zG07 zhr07 zb07 .nil pass0 (pa_cons (pv 1) pa_nil))))
      (pss_one (ps_expr (pe_meth (pv 0) T.cl_House zmt0j zG0j zhr0j zb0j .nil pass0 (pa_cons (pv 2) (pa_cons (pv 1) pa_nil)))))
      pss_nil)
      (pss_one (ps_ret (pe_lst pa_nil))))
theorem zder03 (zsp0q : Sp) (zsp11 : Sp) (zsp0k : Sp) (zsp07 : Sp) (zsp0d : Sp) (zsp0e : Sp) (zsp0j : Sp) (C_House : Addr) (T : Txt K mg C_House)
    (zh0q : Has P w K mg base 3 "is_unsure" ["book", "bargain"] zsp0q) (zh11 : Has P w K mg base 2 "knows" ["book", "bargain"] zsp11) (zh0k : HasM P w K mg base C_House 1 "page" ["self", "bargain"] zsp0k) (zh07 : HasM P w K mg base C_House 3 "decision" ["self", "bargain"] zsp07) (zh0d : HasM P w K mg base C_House 1 "to_one" ["self", "other", "bargain", "word"] zsp0d) (zh0e : HasM P w K mg base C_House 2 "decide" ["self", "bargain", "word"] zsp0e) (zh0j : HasM P w K mg base C_House 1 "write" ["self", "word", "bargain"] zsp0j)
    (hr : Room 3 (A.deeper (PyProof.Rows.envOfC "House.got_query" (defScope zs03) s.heap.objs.size f cdv))) :
    PSs (cxOf CX0 P w K mg base ["self", "giver", "bargain", "decided"] "House.got_query" (defScope zs03) f cdv A outer s H E).nox (defBody zs03) (zR03 K zsp0q zsp11 zsp0k zsp07 zsp0d zsp0e zsp0j C_House) := by
  have hu := hu_of hr
  have hu64 := hr.units
  have hu65 := hu65_of hr
  obtain ⟨zf0q, zfd0q, zG0q, zm0q, zk0q, zb0q⟩ := zh0q
  have zhr0q := hr.mono (j := 3) (by decide)
  obtain ⟨zf11, zfd11, zG11, zm11, zk11, zb11⟩ := zh11
  have zhr11 := hr.mono (j := 2) (by decide)
  obtain ⟨zf0k, zfd0k, zG0k, zmt0k, zb0k⟩ := zh0k
  have zhr0k := hr.mono (j := 1) (by decide)
  obtain ⟨zf07, zfd07, zG07, zmt07, zb07⟩ := zh07
  have zhr07 := hr.mono (j := 3) (by decide)
  obtain ⟨zf0d, zfd0d, zG0d, zmt0d, zb0d⟩ := zh0d
  have zhr0d := hr.mono (j := 1) (by decide)
  obtain ⟨zf0e, zfd0e, zG0e, zmt0e, zb0e⟩ := zh0e
  have zhr0e := hr.mono (j := 2) (by decide)
  obtain ⟨zf0j, zfd0j, zG0j, zmt0j, zb0j⟩ := zh0j
  have zhr0j := hr.mono (j := 1) (by decide)
  unfold zR03
  exact (pss_cons (ps_if (pt_val (pe_call zG0q zhr0q rfl zm0q zk0q zb0q .nil pass0 (pa_cons (pe_meth (pv 0) T.cl_House zmt0k zG0k zhr0k zb0k .nil pass0 (pa_cons (pv 2) pa_nil)) (pa_cons (pv 2) pa_nil))))
      (pss_one (ps_ret (pe_lst pa_nil)))
      pss_nil)
      (pss_cons (ps_set (i := 3) zsc03.nd rfl (Or.inl rfl) (pe_meth (pv 0) T.cl_House zmt07 zG07 zhr07 zb07 .nil pass0 (pa_cons (pv 2) pa_nil)))
      (pss_cons (ps_if (pt_cmp (pc_notN (pv 3)))
      (pss_one (ps_ret (pe_meth (pv 0) T.cl_House zmt0d zG0d zhr0d zb0d .nil pass0 (pa_cons (pv 1) (pa_cons (pv 2) (pa_cons (pv 3) pa_nil))))))
      pss_nil)
      (pss_cons (ps_if (pt_val (pe_call zG11 zhr11 rfl zm11 zk11 zb11 .nil pass0 (pa_cons (pe_meth (pv 0) T.cl_House zmt0k zG0k zhr0k zb0k .nil pass0 (pa_cons (pv 2) pa_nil)) (pa_cons (pv 2) pa_nil))))
      (pss_one (ps_ret (pe_meth (pv 0) T.cl_House zmt0e zG0e zhr0e zb0e .nil pass0 (pa_cons (pv 2) (pa_cons pe_str pa_nil)))))
      pss_nil)
      (pss_cons (ps_expr (pe_meth (pv 0) T.cl_House zmt0j zG0j zhr0j zb0j .nil pass0 (pa_cons pe_str (pa_cons (pv 2) pa_nil))))
      (pss_one (ps_ret (pe_meth (pv 0) T.cl_House zmt0d zG0d zhr0d zb0d .nil pass0 (pa_cons (pv 1) (pa_cons (pv 2) (pa_cons pe_str pa_nil)))))))))))
theorem zder0e (zsp0j : Sp) (zsp02 : Sp) (C_House : Addr) (T : Txt K mg C_House)
    (zh0j : HasM P w K mg base C_House 1 "write" ["self", "word", "bargain"] zsp0j) (zh02 : HasM P w K mg base C_House 1 "to_others" ["self", "bargain", "word"] zsp02)
    (hr : Room 1 (A.deeper (PyProof.Rows.envOfC "House.decide" (defScope zs0e) s.heap.objs.size f cdv))) :
    PSs (cxOf CX0 P w K mg base ["self", "bargain", "word"] "House.decide" (defScope zs0e) f cdv A outer s H E).nox (defBody zs0e) (zR0e K zsp0j zsp02 C_House) := by
  have hu := hu_of hr
  have hu64 := hr.units
  have hu65 := hu65_of hr
  obtain ⟨zf0j, zfd0j, zG0j, zmt0j, zb0j⟩ := zh0j
  have zhr0j := hr.mono (j := 1) (by decide)
  obtain ⟨zf02, zfd02, zG02, zmt02, zb02⟩ := zh02
  have zhr02 := hr.mono (j := 1) (by decide)
  unfold zR0e
  exact (pss_cons (ps_expr (pe_meth (pv 0) T.cl_House zmt0j zG0j zhr0j zb0j .nil pass0 (pa_cons (pv 2) (pa_cons (pv 1) pa_nil))))
      (pss_one (ps_ret (pe_meth (pv 0) T.cl_House zmt02 zG02 zhr02 zb02 .nil pass0 (pa_cons (pv 1) (pa_cons (pv 2) pa_nil))))))
theorem zder07 (zsp0h : Sp) (zsp0k : Sp) (C_House : Addr) (T : Txt K mg C_House)
    (zh0h : Has P w K mg base 2 "decision_in" ["book", "bargain"] zsp0h) (zh0k : HasM P w K mg base C_House 1 "page" ["self", "bargain"] zsp0k)
    (hr : Room 2 (A.deeper (PyProof.Rows.envOfC "House.decision" (defScope zs07) s.heap.objs.size f cdv))) :
    PSs (cxOf CX0 P w K mg base ["self", "bargain"] "House.decision" (defScope zs07) f cdv A outer s H E).nox (defBody zs07) (zR07 K zsp0h zsp0k C_House) := by
  have hu := hu_of hr
  have hu64 := hr.units
  have hu65 := hu65_of hr
  obtain ⟨zf0h, zfd0h, zG0h, zm0h, zk0h, zb0h⟩ := zh0h
  have zhr0h := hr.mono (j := 2) (by decide)
  obtain ⟨zf0k, zfd0k, zG0k, zmt0k, zb0k⟩ := zh0k
  have zhr0k := hr.mono (j := 1) (by decide)
  unfold zR07
  exact (pss_one (ps_ret (pe_call zG0h zhr0h rfl zm0h zk0h zb0h .nil pass0 (pa_cons (pe_meth (pv 0) T.cl_House zmt0k zG0k zhr0k zb0k .nil pass0 (pa_cons (pv 1) pa_nil)) (pa_cons (pv 1) pa_nil)))))
theorem zder0k {C_House : Addr}  (T : Txt K mg C_House)
    
    (hr : Room 0 (A.deeper (PyProof.Rows.envOfC "House.page" (defScope zs0k) s.heap.objs.size f cdv))) :
    PSs (cxOf CX0 P w K mg base ["self", "bargain", "line"] "House.page" (defScope zs0k) f cdv A outer s H E).nox (defBody zs0k) (zR0k K ) := by
  have hu := hu_of hr
  have hu64 := hr.units
  have hu65 := hu65_of hr
  unfold zR0k
  exact (pss_cons (ps_while PassesOwn.never (pt_cmpR op_lt (pe_fld (pv 0) rfl) (pe_callB call_len_seq (by rfl) T.n_len PySem.boot_len (pa_cons (pe_fld (pv 0) rfl) pa_nil)) (nomark _))
      (pss_cons (ps_set (i := 2) zsc0k.nd rfl (Or.inl rfl) (pe_ix ix_list (pe_fld (pv 0) rfl) (pe_fld (pv 0) rfl) (fun _ _ => rfl)))
      (pss_cons (ps_expr (pe_bm PySem.F.plainAttrs_list PySem.F.slot_list_append PySem.F.type_list_append mt_append (pe_dsetd (pe_fld (pv 0) rfl) (pe_ix ix_tup (pv 2) pe_int (fun _ _ => rfl)) (pe_lst pa_nil) ⟨rfl, rfl, rfl, rfl⟩) (pa_cons (pv 2) pa_nil)))
      (pss_one (ps_fldaug (pv 0) pe_int in_add)))))
      (pss_one (ps_ret (pe_dget2 hu (pe_fld (pv 0) rfl) (pv 1) (pe_lst pa_nil) ⟨rfl, rfl, rfl, rfl⟩))))
theorem zder0j {C_House : Addr}  (T : Txt K mg C_House)
    
    (hr : Room 0 (A.deeper (PyProof.Rows.envOfC "House.write" (defScope zs0j) s.heap.objs.size f cdv))) :
    PSs (cxOf CX0 P w K mg base ["self", "word", "bargain"] "House.write" (defScope zs0j) f cdv A outer s H E).nox (defBody zs0j) (zR0j K ) := by
  have hu := hu_of hr
  have hu64 := hr.units
  have hu65 := hu65_of hr
  unfold zR0j
  exact (pss_one (ps_expr (pe_bm PySem.F.plainAttrs_list PySem.F.slot_list_append PySem.F.type_list_append mt_append (pe_fld (pv 0) rfl) (pa_cons (pe_tup (pa_cons (pv 1) (pa_cons (pv 2) pa_nil))) pa_nil))))
theorem zder0d {C_House : Addr}  (T : Txt K mg C_House)
    
    (hr : Room 0 (A.deeper (PyProof.Rows.envOfC "House.to_one" (defScope zs0d) s.heap.objs.size f cdv))) :
    PSs (cxOf CX0 P w K mg base ["self", "other", "bargain", "word"] "House.to_one" (defScope zs0d) f cdv A outer s H E).nox (defBody zs0d) (zR0d K ) := by
  have hu := hu_of hr
  have hu64 := hr.units
  have hu65 := hu65_of hr
  unfold zR0d
  exact (pss_one (ps_ret (pe_lst (pa_cons (pe_tup (pa_cons (pe_fld (pv 0) rfl) (pa_cons (pv 1) (pa_cons (pv 2) (pa_cons (pv 3) pa_nil))))) pa_nil))))
theorem zder02 {C_House : Addr}  (T : Txt K mg C_House)
    
    (hr : Room 0 (A.deeper (PyProof.Rows.envOfC "House.to_others" (defScope zs02) s.heap.objs.size f cdv))) :
    PSs (cxOf CX0 P w K mg base ["self", "bargain", "word"] "House.to_others" (defScope zs02) f cdv A outer s H E).nox (defBody zs02) (zR02 K ) := by
  have hu := hu_of hr
  have hu64 := hr.units
  have hu65 := hu65_of hr
  unfold zR02
  exact (pss_one (ps_ret (pe_lc rfl (show CompOk _ (["other", "bargain", "word", "self"] : List Str) _ ([("word", s.heap.objs.size + 1 + 2), ("self", s.heap.objs.size + 1 + 0), ("bargain", s.heap.objs.size + 1 + 1)] : List (Str × Addr)) ([none, some 1, some 2, some 0] : List (Option Nat)) from ⟨by with_unfolding_all rfl, rfl, rfl, rfl, rfl, ⟨rfl, ⟨rfl, ⟨rfl, trivial⟩⟩⟩, ⟨⟨rfl, Or.inl rfl, Or.inl rfl, _, rfl, rfl⟩, ⟨⟨rfl, Or.inl rfl, Or.inl rfl, _, rfl, rfl⟩, ⟨⟨rfl, Or.inl rfl, Or.inl rfl, _, rfl, rfl⟩, trivial⟩⟩⟩⟩) (pi_list (pe_fld (pv 0) rfl)) (fun _ _ _ _ => (pg_name (i := 0) znd02_0 rfl (Or.inl rfl))) (fun _ _ _ _ => pifs_nil) (fun _ _ _ _ => (pe_tup (pa_cons (pe_fld (pv 3) rfl) (pa_cons (pv 0) (pa_cons (pv 1) (pa_cons (pv 2) pa_nil)))))))))
theorem zder0w (zsp0s : Sp) (C_House : Addr) (T : Txt K mg C_House)
    (zh0s : HasM P w K mg base C_House 5 "got" ["self", "letter"] zsp0s)
    (hr : Room 5 (A.deeper (PyProof.Rows.envOfC "got_all" (defScope zs0w) s.heap.objs.size f cdv))) :
    PSs (cxOf CX0 P w K mg base ["house", "letters"] "got_all" (defScope zs0w) f cdv A outer s H E).nox (defBody zs0w) (zR0w K zsp0s C_House) := by
  have hu := hu_of hr
  have hu64 := hr.units
  have hu65 := hu65_of hr
  obtain ⟨zf0s, zfd0s, zG0s, zmt0s, zb0s⟩ := zh0s
  have zhr0s := hr.mono (j := 5) (by decide)
  unfold zR0w
  exact (pss_one (ps_ret (pe_lc rfl (show CompOk _ (["letter", "house"] : List Str) _ ([("house", s.heap.objs.size + 1 + 0)] : List (Str × Addr)) ([none, some 0] : List (Option Nat)) from ⟨by with_unfolding_all rfl, rfl, rfl, rfl, rfl, ⟨rfl, trivial⟩, ⟨⟨rfl, Or.inl rfl, Or.inl rfl, _, rfl, rfl⟩, trivial⟩⟩) (pi_list (pv 1)) (fun _ _ _ _ => (pg_name (i := 0) znd0w_0 rfl (Or.inl rfl))) (fun _ _ _ _ => pifs_nil) (fun _ _ _ _ => (pe_meth (pv 1) T.cl_House zmt0s zG0s zhr0s zb0s .nil pass0 (pa_cons (pv 0) pa_nil))))))
theorem zder0z {C_House : Addr} (zsp0z : Sp) (T : Txt K mg C_House)
    {lev : Nat} (zh0z : Has P w K mg base lev "_law_so" ["_law_found", "_law_meant"] zsp0z)
    (hr : Room lev (A.deeper (PyProof.Rows.envOfC "_law_so" (defScope zs0z) s.heap.objs.size f cdv))) :
    PSs (cxOf CX0 P w K mg base ["_law_found", "_law_meant", "_law_k"] "_law_so" (defScope zs0z) f cdv A outer s H E).nox (defBody zs0z) (zR0z K zsp0z) := by
  have hu := hu_of hr
  have hu64 := hr.units
  have hu65 := hu65_of hr
  obtain ⟨zf0z, zfd0z, zG0z, zm0z, zk0z, zb0z⟩ := zh0z
  have zhr0z := hr
  unfold zR0z
  exact (pss_cons (ps_if (pt_cmp (pc_isN (pv 1)))
      (pss_one (ps_ret (pe_cmp (pc_isN (pv 0)))))
      pss_nil)
      (pss_cons (ps_if (pt_val (pe_callB call_isinst (by rfl) T.n_isinstance PyProof.Rows.boot_isinstance (pa_cons (pv 1) (pa_cons (pe_bltn (by rfl) T.n_bool PySem.Pv.boot_bool (v := .ty "bool") rfl) pa_nil))))
      (pss_one (ps_ret (pe_and (pe_callB call_isinst (by rfl) T.n_isinstance PyProof.Rows.boot_isinstance (pa_cons (pv 0) (pa_cons (pe_bltn (by rfl) T.n_bool PySem.Pv.boot_bool (v := .ty "bool") rfl) pa_nil))) (pe_one (pe_cmpR op_eq (pv 0) (pv 1) (nomark _))))))
      pss_nil)
      (pss_cons (ps_if (pt_val (pe_callB call_isinst (by rfl) T.n_isinstance PyProof.Rows.boot_isinstance (pa_cons (pv 1) (pa_cons (pe_bltn (by rfl) T.n_int PySem.Pv.boot_int (v := .ty "int") rfl) pa_nil))))
      (pss_one (ps_ret (pe_and (pe_callB call_isinst (by rfl) T.n_isinstance PyProof.Rows.boot_isinstance (pa_cons (pv 0) (pa_cons (pe_bltn (by rfl) T.n_int PySem.Pv.boot_int (v := .ty "int") rfl) pa_nil))) (pe_and (pe_not (pe_callB call_isinst (by rfl) T.n_isinstance PyProof.Rows.boot_isinstance (pa_cons (pv 0) (pa_cons (pe_bltn (by rfl) T.n_bool PySem.Pv.boot_bool (v := .ty "bool") rfl) pa_nil)))) (pe_one (pe_cmpR op_eq (pv 0) (pv 1) (nomark _)))))))
      pss_nil)
      (pss_cons (ps_if (pt_val (pe_callB call_isinst (by rfl) T.n_isinstance PyProof.Rows.boot_isinstance (pa_cons (pv 1) (pa_cons (pe_bltn (by rfl) T.n_str PySem.Pv.boot_str (v := .ty "str") rfl) pa_nil))))
      (pss_one (ps_ret (pe_and (pe_callB call_isinst (by rfl) T.n_isinstance PyProof.Rows.boot_isinstance (pa_cons (pv 0) (pa_cons (pe_bltn (by rfl) T.n_str PySem.Pv.boot_str (v := .ty "str") rfl) pa_nil))) (pe_one (pe_cmpR op_eq (pv 0) (pv 1) (nomark _))))))
      pss_nil)
      (pss_cons (ps_if (pt_val (pe_callB call_isinst (by rfl) T.n_isinstance PyProof.Rows.boot_isinstance (pa_cons (pv 1) (pa_cons (pe_bltn (by rfl) T.n_dict PySem.Pv.boot_dict (v := .ty "dict") rfl) pa_nil))))
      (pss_one ps_never)
      pss_nil)
      (pss_cons (ps_if (pt_cmpR op_ne (pe_callB call_isinst (by rfl) T.n_isinstance PyProof.Rows.boot_isinstance (pa_cons (pv 1) (pa_cons (pe_bltn (by rfl) T.n_tuple PySem.Pv.boot_tuple (v := .ty "tuple") rfl) pa_nil))) (pe_callB call_isinst (by rfl) T.n_isinstance PyProof.Rows.boot_isinstance (pa_cons (pv 0) (pa_cons (pe_bltn (by rfl) T.n_tuple PySem.Pv.boot_tuple (v := .ty "tuple") rfl) pa_nil))) (nomark _))
      (pss_one (ps_ret pe_bl))
      pss_nil)
      (pss_cons (ps_if (PW.pt (pw_or (pt_cmpR op_ne (pe_callB call_isinst (by rfl) T.n_isinstance PyProof.Rows.boot_isinstance (pa_cons (pv 1) (pa_cons (pe_bltn (by rfl) T.n_list PySem.Pv.boot_list (v := .ty "list") rfl) pa_nil))) (pe_callB call_isinst (by rfl) T.n_isinstance PyProof.Rows.boot_isinstance (pa_cons (pv 0) (pa_cons (pe_bltn (by rfl) T.n_list PySem.Pv.boot_list (v := .ty "list") rfl) pa_nil))) (nomark _)) (pw_or1 (pt_not (pt_val (pe_callB call_isinst2 (by rfl) T.n_isinstance PyProof.Rows.boot_isinstance (pa_cons (pv 1) (pa_cons (pe_tup (pa_cons (pe_bltn (by rfl) T.n_list PySem.Pv.boot_list (v := .ty "list") rfl) (pa_cons (pe_bltn (by rfl) T.n_tuple PySem.Pv.boot_tuple (v := .ty "tuple") rfl) pa_nil))) pa_nil))))))))
      (pss_one (ps_ret pe_bl))
      pss_nil)
      (pss_cons (ps_if (pt_cmpR op_ne (pe_callB call_len_seq (by rfl) T.n_len PySem.boot_len (pa_cons (pv 0) pa_nil)) (pe_callB call_len_seq (by rfl) T.n_len PySem.boot_len (pa_cons (pv 1) pa_nil)) (nomark _))
      (pss_one (ps_ret pe_bl))
      pss_nil)
      (pss_cons (ps_for PassesOwn.never rfl (pi_range1 rfl T.n_range (pa_cons (pe_callB call_len_seq (by rfl) T.n_len PySem.boot_len (pa_cons (pv 1) pa_nil)) pa_nil)) (pg_name (i := 2) zsc0z.nd rfl (Or.inl rfl))
      (pss_one (ps_if (pt_not (pt_val (pe_call zG0z zhr0z rfl zm0z zk0z zb0z .nil pass0 (pa_cons (pe_ix ix_seq (pv 0) (pv 2) (fun _ _ => rfl)) (pa_cons (pe_ix ix_seq (pv 1) (pv 2) (fun _ _ => rfl)) pa_nil)))))
      (pss_one (ps_ret pe_bl))
      pss_nil)))
      (pss_one (ps_ret pe_bl)))))))))))
theorem zder0p {C_House : Addr}  (T : Txt K mg C_House)
    
    (hr : Room 0 (A.deeper (PyProof.Rows.envOfC "_law_whole" (defScope zs0p) s.heap.objs.size f cdv))) :
    PSs (cxOf CX0 P w K mg base ["_law_found"] "_law_whole" (defScope zs0p) f cdv A outer s H E).nox (defBody zs0p) (zR0p K ) := by
  have hu := hu_of hr
  have hu64 := hr.units
  have hu65 := hu65_of hr
  unfold zR0p
  exact (pss_one (ps_ret (pe_and (pe_callB call_isinst (by rfl) T.n_isinstance PyProof.Rows.boot_isinstance (pa_cons (pv 0) (pa_cons (pe_bltn (by rfl) T.n_int PySem.Pv.boot_int (v := .ty "int") rfl) pa_nil))) (pe_one (pe_not (pe_callB call_isinst (by rfl) T.n_isinstance PyProof.Rows.boot_isinstance (pa_cons (pv 0) (pa_cons (pe_bltn (by rfl) T.n_bool PySem.Pv.boot_bool (v := .ty "bool") rfl) pa_nil))))))))
theorem zder10 {C_House : Addr}  (T : Txt K mg C_House)
    
    (hr : Room 0 (A.deeper (PyProof.Rows.envOfC "_law_at" (defScope zs10) s.heap.objs.size f cdv))) :
    PSs (cxOf CX0 P w K mg base ["_law_script", "_law_k"] "_law_at" (defScope zs10) f cdv A outer s H E).nox (defBody zs10) (zR10 K ) := by
  have hu := hu_of hr
  have hu64 := hr.units
  have hu65 := hu65_of hr
  unfold zR10
  exact (pss_cons (ps_if (pt_cmpR op_lt (pv 1) (pe_callB call_len_seq (by rfl) T.n_len PySem.boot_len (pa_cons (pv 0) pa_nil)) (nomark _))
      (pss_one (ps_ret (pe_ix ix_list (pv 0) (pv 1) (fun _ _ => rfl))))
      pss_nil)
      (pss_one (ps_ret pe_int)))
theorem zder0i {C_House : Addr} (zsp0p : Sp) (T : Txt K mg C_House)
    (zh0p : Has P w K mg base 1 "_law_whole" ["_law_found"] zsp0p)
    (hr : Room 1 (A.deeper (PyProof.Rows.envOfC "_law_is_line" (defScope zs0i) s.heap.objs.size f cdv))) :
    PSs (cxOf CX0 P w K mg base ["_law_found"] "_law_is_line" (defScope zs0i) f cdv A outer s H E).nox (defBody zs0i) (zR0i K zsp0p) := by
  have hu := hu_of hr
  have hu64 := hr.units
  have hu65 := hu65_of hr
  obtain ⟨zf0p, zfd0p, zG0p, zm0p, zk0p, zb0p⟩ := zh0p
  have zhr0p := hr.mono (j := 1) (by decide)
  unfold zR0i
  exact (pss_cons (ps_if (PW.pt (pw_or (pt_not (pt_val (pe_callB call_isinst (by rfl) T.n_isinstance PyProof.Rows.boot_isinstance (pa_cons (pv 0) (pa_cons (pe_bltn (by rfl) T.n_tuple PySem.Pv.boot_tuple (v := .ty "tuple") rfl) pa_nil))))) (pw_or1 (pt_cmpR op_ne (pe_callB call_len_seq (by rfl) T.n_len PySem.boot_len (pa_cons (pv 0) pa_nil)) pe_int (nomark _)))))
      (pss_one (ps_ret pe_bl))
      pss_nil)
      (pss_cons (ps_if (PW.pt (pw_or (pt_not (pt_val (pe_callB call_isinst (by rfl) T.n_isinstance PyProof.Rows.boot_isinstance (pa_cons (pe_ix ix_tup (pv 0) pe_int (fun _ _ => rfl)) (pa_cons (pe_bltn (by rfl) T.n_str PySem.Pv.boot_str (v := .ty "str") rfl) pa_nil))))) (pw_or1 (pt_not (pt_val (pe_call zG0p zhr0p rfl zm0p zk0p zb0p .nil pass0 (pa_cons (pe_ix ix_tup (pv 0) pe_int (fun _ _ => rfl)) pa_nil)))))))
      (pss_one (ps_ret pe_bl))
      pss_nil)
      (pss_one (ps_ret (pe_cmpR op_in_seq (pe_ix ix_tup (pv 0) pe_int (fun _ _ => rfl)) (pe_lst (pa_cons pe_str (pa_cons pe_str (pa_cons pe_str (pa_cons pe_str (pa_cons pe_str pa_nil)))))) (by with_unfolding_all rfl))))))
theorem zder0a {C_House : Addr} (zsp0i : Sp) (T : Txt K mg C_House)
    (zh0i : Has P w K mg base 2 "_law_is_line" ["_law_found"] zsp0i)
    (hr : Room 2 (A.deeper (PyProof.Rows.envOfC "_law_are_lines" (defScope zs0a) s.heap.objs.size f cdv))) :
    PSs (cxOf CX0 P w K mg base ["_law_found", "_law_line"] "_law_are_lines" (defScope zs0a) f cdv A outer s H E).nox (defBody zs0a) (zR0a K zsp0i) := by
  have hu := hu_of hr
  have hu64 := hr.units
  have hu65 := hu65_of hr
  obtain ⟨zf0i, zfd0i, zG0i, zm0i, zk0i, zb0i⟩ := zh0i
  have zhr0i := hr.mono (j := 2) (by decide)
  unfold zR0a
  exact (pss_cons (ps_if (pt_not (pt_val (pe_callB call_isinst (by rfl) T.n_isinstance PyProof.Rows.boot_isinstance (pa_cons (pv 0) (pa_cons (pe_bltn (by rfl) T.n_list PySem.Pv.boot_list (v := .ty "list") rfl) pa_nil)))))
      (pss_one (ps_ret pe_bl))
      pss_nil)
      (pss_cons (ps_for PassesOwn.never rfl (pi_list (pv 0)) (pg_name (i := 1) zsc0a.nd rfl (Or.inl rfl))
      (pss_one (ps_if (pt_not (pt_val (pe_call zG0i zhr0i rfl zm0i zk0i zb0i .nil pass0 (pa_cons (pv 1) pa_nil))))
      (pss_one (ps_ret pe_bl))
      pss_nil)))
      (pss_one (ps_ret pe_bl))))
theorem zder0b {C_House : Addr} (zsp0p : Sp) (T : Txt K mg C_House)
    (zh0p : Has P w K mg base 1 "_law_whole" ["_law_found"] zsp0p)
    (hr : Room 1 (A.deeper (PyProof.Rows.envOfC "_law_is_letter" (defScope zs0b) s.heap.objs.size f cdv))) :
    PSs (cxOf CX0 P w K mg base ["_law_found", "_law_count", "_law_number"] "_law_is_letter" (defScope zs0b) f cdv A outer s H E).nox (defBody zs0b) (zR0b K zsp0p) := by
  have hu := hu_of hr
  have hu64 := hr.units
  have hu65 := hu65_of hr
  obtain ⟨zf0p, zfd0p, zG0p, zm0p, zk0p, zb0p⟩ := zh0p
  have zhr0p := hr.mono (j := 1) (by decide)
  unfold zR0b
  exact (pss_cons (ps_if (PW.pt (pw_or (pt_not (pt_val (pe_callB call_isinst (by rfl) T.n_isinstance PyProof.Rows.boot_isinstance (pa_cons (pv 0) (pa_cons (pe_bltn (by rfl) T.n_tuple PySem.Pv.boot_tuple (v := .ty "tuple") rfl) pa_nil))))) (pw_or (pt_cmpR op_ne (pe_callB call_len_seq (by rfl) T.n_len PySem.boot_len (pa_cons (pv 0) pa_nil)) pe_int (nomark _)) (pw_or1 (pt_not (pt_val (pe_callB call_isinst (by rfl) T.n_isinstance PyProof.Rows.boot_isinstance (pa_cons (pe_ix ix_tup (pv 0) pe_int (fun _ _ => rfl)) (pa_cons (pe_bltn (by rfl) T.n_str PySem.Pv.boot_str (v := .ty "str") rfl) pa_nil)))))))))
      (pss_one (ps_ret pe_bl))
      pss_nil)
      (pss_cons (ps_for PassesOwn.never rfl (pi_tup (pe_slice sl_tup (pv 0) po_none (po_some pe_int))) (pg_name (i := 2) zsc0b.nd rfl (Or.inl rfl))
      (pss_one (ps_if (pt_not (pt_val (pe_call zG0p zhr0p rfl zm0p zk0p zb0p .nil pass0 (pa_cons (pv 2) pa_nil))))
      (pss_one (ps_ret pe_bl))
      pss_nil)))
      (pss_cons (ps_if (pt_cmpR op_notIn_seq (pe_ix ix_tup (pv 0) pe_int (fun _ _ => rfl)) (pe_lst (pa_cons pe_str (pa_cons pe_str (pa_cons pe_str (pa_cons pe_str (pa_cons pe_str (pa_cons pe_str pa_nil))))))) (by with_unfolding_all rfl))
      (pss_one (ps_ret pe_bl))
      pss_nil)
      (pss_one (ps_ret (pe_and (pe_chain op_le op_lt pe_int (pe_ix ix_tup (pv 0) pe_int (fun _ _ => rfl)) (pv 1)) (pe_and (pe_chain op_le op_lt pe_int (pe_ix ix_tup (pv 0) pe_int (fun _ _ => rfl)) (pv 1)) (pe_one (pe_cmpR op_ne (pe_ix ix_tup (pv 0) pe_int (fun _ _ => rfl)) (pe_ix ix_tup (pv 0) pe_int (fun _ _ => rfl)) (nomark _))))))))))
theorem zder05 {C_House : Addr} (zsp0b : Sp) (T : Txt K mg C_House)
    (zh0b : Has P w K mg base 2 "_law_is_letter" ["_law_found", "_law_count"] zsp0b)
    (hr : Room 2 (A.deeper (PyProof.Rows.envOfC "_law_are_letters" (defScope zs05) s.heap.objs.size f cdv))) :
    PSs (cxOf CX0 P w K mg base ["_law_found", "_law_count", "_law_letter"] "_law_are_letters" (defScope zs05) f cdv A outer s H E).nox (defBody zs05) (zR05 K zsp0b) := by
  have hu := hu_of hr
  have hu64 := hr.units
  have hu65 := hu65_of hr
  obtain ⟨zf0b, zfd0b, zG0b, zm0b, zk0b, zb0b⟩ := zh0b
  have zhr0b := hr.mono (j := 2) (by decide)
  unfold zR05
  exact (pss_cons (ps_if (pt_not (pt_val (pe_callB call_isinst (by rfl) T.n_isinstance PyProof.Rows.boot_isinstance (pa_cons (pv 0) (pa_cons (pe_bltn (by rfl) T.n_list PySem.Pv.boot_list (v := .ty "list") rfl) pa_nil)))))
      (pss_one (ps_ret pe_bl))
      pss_nil)
      (pss_cons (ps_for PassesOwn.never rfl (pi_list (pv 0)) (pg_name (i := 2) zsc05.nd rfl (Or.inl rfl))
      (pss_one (ps_if (pt_not (pt_val (pe_call zG0b zhr0b rfl zm0b zk0b zb0b .nil pass0 (pa_cons (pv 2) (pa_cons (pv 1) pa_nil)))))
      (pss_one (ps_ret pe_bl))
      pss_nil)))
      (pss_one (ps_ret pe_bl))))
theorem zder04 {C_House : Addr}  (T : Txt K mg C_House)
    
    (hr : Room 0 (A.deeper (PyProof.Rows.envOfC "_law_due_letters" (defScope zs04) s.heap.objs.size f cdv))) :
    PSs (cxOf CX0 P w K mg base ["_law_book", "_law_against", "_law_mine", "_law_letter", "_law_giver", "_law_to", "_law_bargain", "_law_word", "_law_lines", "_law_told"] "_law_due_letters" (defScope zs04) f cdv A outer s H E).nox (defBody zs04) (zR04 K ) := by
  have hu := hu_of hr
  have hu64 := hr.units
  have hu65 := hu65_of hr
  unfold zR04
  exact (pss_cons (ps_asg (pv 3) (pg_tup rfl (pgs_cons (pg_name (i := 4) zsc04.nd rfl (Or.inl rfl)) (pgs_cons (pg_name (i := 5) zsc04.nd rfl (Or.inl rfl)) (pgs_cons (pg_name (i := 6) zsc04.nd rfl (Or.inr rfl)) (pgs_cons (pg_name (i := 7) zsc04.nd rfl (Or.inl rfl)) pgs_nil))))))
      (pss_cons (ps_setLC (i := 8) rfl zsc04.nd rfl (Or.inl rfl) rfl (show CompOk _ (["_law_line", "_law_bargain"] : List Str) _ ([("_law_bargain", s.heap.objs.size + 1 + 0)] : List (Str × Addr)) ([none, some 6] : List (Option Nat)) from ⟨by with_unfolding_all rfl, rfl, rfl, rfl, rfl, ⟨rfl, trivial⟩, ⟨⟨rfl, Or.inl rfl, Or.inl rfl, _, rfl, rfl⟩, trivial⟩⟩) (pi_list (pv 0)) (fun _ _ _ _ => (pg_name (i := 0) znd04_0 rfl (Or.inl rfl))) (fun _ _ _ _ => (pifs_one (pt_cmpR op_eq (pe_ix ix_tup (pv 0) pe_int (fun _ _ => rfl)) (pv 1) (nomark _)))) (fun _ _ _ _ => (pe_ix ix_tup (pv 0) pe_int (fun _ _ => rfl))))
      (pss_cons (ps_if (pt_cmpR op_eq (pv 7) pe_str (nomark _))
      (pss_cut (ps_if (pt_cmpR (op_eqD hu64) (pv 8) (pe_lst pa_nil) (nomark _))
      (pss_cons (ps_set (i := 8) zsc04.nd rfl (Or.inl rfl) (pe_lst (pa_cons (pe_ix ix_list (pe_lst (pa_cons pe_str (pa_cons pe_str pa_nil))) (pe_callTy call_int1 (by rfl) T.n_int PySem.Pv.boot_int (pa_cons (pe_cmpR op_in_seq (pv 6) (pv 1) (by with_unfolding_all rfl)) pa_nil)) (fun _ _ => rfl)) pa_nil)))
      (pss_one (ps_expr (pe_bm PySem.F.plainAttrs_list PySem.F.slot_list_append PySem.F.type_list_append mt_append (pv 0) (pa_cons (pe_tup (pa_cons (pe_ix ix_list (pv 8) pe_int (fun _ _ => rfl)) (pa_cons (pv 6) pa_nil))) pa_nil)))))
      pss_nil)
      (pss_cons (ps_set (i := 9) zsc04.nd rfl (Or.inl rfl) (pe_ix ix_list (pe_lst (pa_cons pe_str (pa_cons pe_str pa_nil))) (pe_callTy call_int1 (by rfl) T.n_int PySem.Pv.boot_int (pa_cons (pe_cmpR op_in_seq (pe_ix ix_list (pv 8) (pe_un un_neg pe_int) (fun _ _ => rfl)) (pe_lst (pa_cons pe_str (pa_cons pe_str pa_nil))) (by with_unfolding_all rfl)) pa_nil)) (fun _ _ => rfl)))
      (pss_one (ps_ret (pe_lst (pa_cons (pe_tup (pa_cons (pv 2) (pa_cons (pv 4) (pa_cons (pv 6) (pa_cons (pv 9) pa_nil))))) pa_nil))))))
      pss_nil)
      (pss_cons (ps_if (pt_cmpR op_eq (pv 7) pe_str (nomark _))
      (pss_cons (ps_if (pt_cmpR (op_eqD hu64) (pv 8) (pe_lst (pa_cons pe_str pa_nil)) (nomark _))
      (pss_one (ps_ret (pe_lst pa_nil)))
      pss_nil)
      (pss_cons (ps_if (pt_cmpR (op_eqD hu64) (pv 8) (pe_lst pa_nil) (nomark _))
      (pss_cons (ps_expr (pe_bm PySem.F.plainAttrs_list PySem.F.slot_list_append PySem.F.type_list_append mt_append (pv 0) (pa_cons (pe_tup (pa_cons pe_str (pa_cons (pv 6) pa_nil))) pa_nil)))
      (pss_one (ps_ret (pe_lst (pa_cons (pe_tup (pa_cons (pv 2) (pa_cons (pv 4) (pa_cons (pv 6) (pa_cons pe_str pa_nil))))) pa_nil)))))
      pss_nil)
      (pss_one (ps_ret (pe_lst (pa_cons (pe_tup (pa_cons (pv 2) (pa_cons (pv 4) (pa_cons (pv 6) (pa_cons (pe_ix ix_list (pe_lst (pa_cons pe_str (pa_cons pe_str pa_nil))) (pe_callTy call_int1 (by rfl) T.n_int PySem.Pv.boot_int (pa_cons (pe_cmpR op_eq (pe_ix ix_list (pv 8) (pe_un un_neg pe_int) (fun _ _ => rfl)) pe_str (nomark _)) pa_nil)) (fun _ _ => rfl)) pa_nil))))) pa_nil))))))
      pss_nil)
      (pss_cut (ps_if (PW.pt (pw_or (pt_cmpR (op_eqD hu64) (pv 8) (pe_lst pa_nil) (nomark _)) (pw_or1 (pt_cmpR (op_eqD hu64) (pv 8) (pe_lst (pa_cons pe_str pa_nil)) (nomark _)))))
      (pss_one (ps_expr (pe_bm PySem.F.plainAttrs_list PySem.F.slot_list_append PySem.F.type_list_append mt_append (pv 0) (pa_cons (pe_tup (pa_cons (pv 7) (pa_cons (pv 6) pa_nil))) pa_nil))))
      pss_nil)
      (pss_one (ps_ret (pe_lst pa_nil))))))))
theorem zder0y {C_House : Addr}  (T : Txt K mg C_House)
    
    (hr : Room 0 (A.deeper (PyProof.Rows.envOfC "_law_fit" (defScope zs0y) s.heap.objs.size f cdv))) :
    PSs (cxOf CX0 P w K mg base ["_law_book", "_law_bargain", "_law_cell", "_law_lines"] "_law_fit" (defScope zs0y) f cdv A outer s H E).nox (defBody zs0y) (zR0y K ) := by
  have hu := hu_of hr
  have hu64 := hr.units
  have hu65 := hu65_of hr
  unfold zR0y
  exact (pss_cons (ps_setLC (i := 3) rfl zsc0y.nd rfl (Or.inl rfl) rfl (show CompOk _ (["_law_line", "_law_bargain"] : List Str) _ ([("_law_bargain", s.heap.objs.size + 1 + 0)] : List (Str × Addr)) ([none, some 1] : List (Option Nat)) from ⟨by with_unfolding_all rfl, rfl, rfl, rfl, rfl, ⟨rfl, trivial⟩, ⟨⟨rfl, Or.inl rfl, Or.inl rfl, _, rfl, rfl⟩, trivial⟩⟩) (pi_list (pv 0)) (fun _ _ _ _ => (pg_name (i := 0) znd0y_0 rfl (Or.inl rfl))) (fun _ _ _ _ => (pifs_one (pt_cmpR op_eq (pe_ix ix_tup (pv 0) pe_int (fun _ _ => rfl)) (pv 1) (nomark _)))) (fun _ _ _ _ => (pe_ix ix_tup (pv 0) pe_int (fun _ _ => rfl))))
      (pss_cons (ps_if (pt_cmpR op_lt (pe_op op_mod (pe_op op_mod (pe_op op_mul (pv 2) pe_int) pe_int) pe_int) pe_int (nomark _))
      (pss_one (ps_ret pe_str))
      pss_nil)
      (pss_cons (ps_if (pt_cmpR op_lt (pe_op op_mod (pe_op op_mod (pe_op op_mul (pv 2) pe_int) pe_int) pe_int) pe_int (nomark _))
      (pss_one (ps_ret pe_str))
      pss_nil)
      (pss_cons (ps_if (PW.pt (pw_or (pt_cmpR (op_eqD hu64) (pv 3) (pe_lst pa_nil) (nomark _)) (pw_or (pt_cmpR op_in_seq pe_str (pv 3) (by with_unfolding_all rfl)) (pw_or1 (pt_cmpR op_in_seq pe_str (pv 3) (by with_unfolding_all rfl))))))
      (pss_one (ps_ret pe_str))
      pss_nil)
      (pss_cons (ps_if (pt_cmpR op_in_seq pe_str (pv 3) (by with_unfolding_all rfl))
      (pss_one (ps_ret pe_str))
      pss_nil)
      (pss_one (ps_ret (pe_ix ix_list (pe_lst (pa_cons pe_str (pa_cons pe_str pa_nil))) (pe_op op_mod (pe_op op_mod (pe_op op_mul (pv 2) pe_int) pe_int) pe_int) (fun _ _ => rfl)))))))))
theorem zder0n {C_House : Addr}  (T : Txt K mg C_House)
    
    (hr : Room 0 (A.deeper (PyProof.Rows.envOfC "_law_to_all" (defScope zs0n) s.heap.objs.size f cdv))) :
    PSs (cxOf CX0 P w K mg base ["_law_mine", "_law_count", "_law_bargain", "_law_word"] "_law_to_all" (defScope zs0n) f cdv A outer s H E).nox (defBody zs0n) (zR0n K ) := by
  have hu := hu_of hr
  have hu64 := hr.units
  have hu65 := hu65_of hr
  unfold zR0n
  exact (pss_one (ps_ret (pe_lc rfl (show CompOk _ (["_law_k", "_law_mine", "_law_bargain", "_law_word"] : List Str) _ ([("_law_word", s.heap.objs.size + 1 + 2), ("_law_mine", s.heap.objs.size + 1 + 0), ("_law_bargain", s.heap.objs.size + 1 + 1)] : List (Str × Addr)) ([none, some 0, some 2, some 3] : List (Option Nat)) from ⟨by with_unfolding_all rfl, rfl, rfl, rfl, rfl, ⟨rfl, ⟨rfl, ⟨rfl, trivial⟩⟩⟩, ⟨⟨rfl, Or.inl rfl, Or.inl rfl, _, rfl, rfl⟩, ⟨⟨rfl, Or.inl rfl, Or.inl rfl, _, rfl, rfl⟩, ⟨⟨rfl, Or.inl rfl, Or.inl rfl, _, rfl, rfl⟩, trivial⟩⟩⟩⟩) (pi_range1 rfl T.n_range (pa_cons (pv 1) pa_nil)) (fun _ _ _ _ => (pg_name (i := 0) znd0n_0 rfl (Or.inl rfl))) (fun _ _ _ _ => (pifs_one (pt_cmpR op_ne (pv 0) (pv 1) (nomark _)))) (fun _ _ _ _ => (pe_tup (pa_cons (pv 1) (pa_cons (pv 0) (pa_cons (pv 2) (pa_cons (pv 3) pa_nil)))))))))
theorem zder0f {C_House : Addr} (zsp0n : Sp) (T : Txt K mg C_House)
    (zh0n : Has P w K mg base 1 "_law_to_all" ["_law_mine", "_law_count", "_law_bargain", "_law_word"] zsp0n)
    (hr : Room 1 (A.deeper (PyProof.Rows.envOfC "_law_due_led" (defScope zs0f) s.heap.objs.size f cdv))) :
    PSs (cxOf CX0 P w K mg base ["_law_state", "_law_letter", "_law_giver", "_law_mine", "_law_bargain", "_law_word", "_law_book", "_law_lines"] "_law_due_led" (defScope zs0f) f cdv A outer s H E).nox (defBody zs0f) (zR0f K zsp0n) := by
  have hu := hu_of hr
  have hu64 := hr.units
  have hu65 := hu65_of hr
  obtain ⟨zf0n, zfd0n, zG0n, zm0n, zk0n, zb0n⟩ := zh0n
  have zhr0n := hr.mono (j := 1) (by decide)
  unfold zR0f
  exact (pss_cons (ps_asg (pv 1) (pg_tup rfl (pgs_cons (pg_name (i := 2) zsc0f.nd rfl (Or.inl rfl)) (pgs_cons (pg_name (i := 3) zsc0f.nd rfl (Or.inl rfl)) (pgs_cons (pg_name (i := 4) zsc0f.nd rfl (Or.inr rfl)) (pgs_cons (pg_name (i := 5) zsc0f.nd rfl (Or.inl rfl)) pgs_nil))))))
      (pss_cons (ps_set (i := 6) zsc0f.nd rfl (Or.inl rfl) (pe_dget hu (pv 0) pe_str (fun _ _ => rfl)))
      (pss_cons (ps_setLC (i := 7) rfl zsc0f.nd rfl (Or.inl rfl) rfl (show CompOk _ (["_law_line", "_law_bargain"] : List Str) _ ([("_law_bargain", s.heap.objs.size + 1 + 0)] : List (Str × Addr)) ([none, some 4] : List (Option Nat)) from ⟨by with_unfolding_all rfl, rfl, rfl, rfl, rfl, ⟨rfl, trivial⟩, ⟨⟨rfl, Or.inl rfl, Or.inl rfl, _, rfl, rfl⟩, trivial⟩⟩) (pi_list (pv 6)) (fun _ _ _ _ => (pg_name (i := 0) znd0f_0 rfl (Or.inl rfl))) (fun _ _ _ _ => (pifs_one (pt_cmpR op_eq (pe_ix ix_tup (pv 0) pe_int (fun _ _ => rfl)) (pv 1) (nomark _)))) (fun _ _ _ _ => (pe_ix ix_tup (pv 0) pe_int (fun _ _ => rfl))))
      (pss_cons (ps_if (pt_cmpR op_eq (pe_callB call_len_seq (by rfl) T.n_len PySem.boot_len (pa_cons (pv 7) pa_nil)) pe_int (nomark _))
      (pss_cons (ps_if (pt_cmpR op_eq (pv 5) pe_str (nomark _))
      (pss_one (ps_ret (pe_lst pa_nil)))
      pss_nil)
      (pss_one (ps_ret (pe_lst (pa_cons (pe_tup (pa_cons (pv 3) (pa_cons (pv 2) (pa_cons (pv 4) (pa_cons (pe_ix ix_list (pv 7) pe_int (fun _ _ => rfl)) pa_nil))))) pa_nil)))))
      pss_nil)
      (pss_cons (ps_if (pt_cmpR op_eq (pv 5) pe_str (nomark _))
      (pss_cut (ps_if (pt_cmpR op_notIn_seq (pv 2) (pe_dget hu (pv 0) pe_str (fun _ _ => rfl)) (by with_unfolding_all rfl))
      (pss_one (ps_dput hu (pv 0) pe_str (pe_op op_cat (pe_dget hu (pv 0) pe_str (fun _ _ => rfl)) (pe_lst (pa_cons (pv 2) pa_nil))) rfl))
      pss_nil)
      (pss_cons (ps_if (pt_cmpR op_lt (pe_callB call_len_seq (by rfl) T.n_len PySem.boot_len (pa_cons (pe_dget hu (pv 0) pe_str (fun _ _ => rfl)) pa_nil)) (pe_op op_sub (pe_dget hu (pv 0) pe_str (fun _ _ => rfl)) pe_int) (nomark _))
      (pss_one (ps_ret (pe_lst pa_nil)))
      pss_nil)
      (pss_cons (ps_expr (pe_bm PySem.F.plainAttrs_list PySem.F.slot_list_append PySem.F.type_list_append mt_append (pv 6) (pa_cons (pe_tup (pa_cons pe_str (pa_cons (pv 4) pa_nil))) pa_nil)))
      (pss_one (ps_ret (pe_call zG0n zhr0n rfl zm0n zk0n zb0n .nil pass0 (pa_cons (pv 3) (pa_cons (pe_dget hu (pv 0) pe_str (fun _ _ => rfl)) (pa_cons (pv 4) (pa_cons pe_str pa_nil))))))))))
      pss_nil)
      (pss_cons (ps_expr (pe_bm PySem.F.plainAttrs_list PySem.F.slot_list_append PySem.F.type_list_append mt_append (pv 6) (pa_cons (pe_tup (pa_cons pe_str (pa_cons (pv 4) pa_nil))) pa_nil)))
      (pss_one (ps_ret (pe_call zG0n zhr0n rfl zm0n zk0n zb0n .nil pass0 (pa_cons (pv 3) (pa_cons (pe_dget hu (pv 0) pe_str (fun _ _ => rfl)) (pa_cons (pv 4) (pa_cons pe_str pa_nil)))))))))))))
theorem zder0r (zsp0n : Sp) (zsp05 : Sp) (zsp0z : Sp) (zsp0o : Sp) (zsp0l : Sp) (C_House : Addr) (T : Txt K mg C_House)
    (zh0n : Has P w K mg base 1 "_law_to_all" ["_law_mine", "_law_count", "_law_bargain", "_law_word"] zsp0n) (zh05 : Has P w K mg base 3 "_law_are_letters" ["_law_found", "_law_count"] zsp05) (zh0z : Has P w K mg base 4 "_law_so" ["_law_found", "_law_meant"] zsp0z) (zh0o : HasM P w K mg base C_House 2 "stop" ["self"] zsp0o) (zh0l : HasM P w K mg base C_House 4 "wake" ["self"] zsp0l)
    (hr : Room 4 (A.deeper (PyProof.Rows.envOfC "_law_rests" (defScope zs0r) s.heap.objs.size f cdv))) :
    PSs (cxOf CX0 P w K mg base ["_law_house", "_law_state", "_law_found", "_law_due", "_law_led"] "_law_rests" (defScope zs0r) f cdv A outer s H E).nox (defBody zs0r) (zR0r K zsp0n zsp05 zsp0z zsp0o zsp0l C_House) := by
  have hu := hu_of hr
  have hu64 := hr.units
  have hu65 := hu65_of hr
  obtain ⟨zf0n, zfd0n, zG0n, zm0n, zk0n, zb0n⟩ := zh0n
  have zhr0n := hr.mono (j := 1) (by decide)
  obtain ⟨zf05, zfd05, zG05, zm05, zk05, zb05⟩ := zh05
  have zhr05 := hr.mono (j := 3) (by decide)
  obtain ⟨zf0z, zfd0z, zG0z, zm0z, zk0z, zb0z⟩ := zh0z
  have zhr0z := hr.mono (j := 4) (by decide)
  obtain ⟨zf0o, zfd0o, zG0o, zmt0o, zb0o⟩ := zh0o
  have zhr0o := hr.mono (j := 2) (by decide)
  obtain ⟨zf0l, zfd0l, zG0l, zmt0l, zb0l⟩ := zh0l
  have zhr0l := hr.mono (j := 4) (by decide)
  unfold zR0r
  exact (pss_cons (ps_expr (pe_meth0 (pv 0) T.cl_House zmt0o zG0o zhr0o zb0o .nil pass0))
      (pss_cons (ps_if (pt_cmpR op_isnotB (pe_fld (pv 0) rfl) pe_bl (nomark _))
      (pss_one (ps_ret pe_bl))
      pss_nil)
      (pss_cons (ps_set (i := 2) zsc0r.nd rfl (Or.inl rfl) (pe_meth0 (pv 0) T.cl_House zmt0l zG0l zhr0l zb0l .nil pass0))
      (pss_cons (ps_set (i := 3) zsc0r.nd rfl (Or.inl rfl) (pe_lst pa_nil))
      (pss_cons (ps_set (i := 4) zsc0r.nd rfl (Or.inr rfl) (pe_dget hu (pv 1) pe_str (fun _ _ => rfl)))
      (pss_cut (ps_if (pt_cmpR (op_eqD hu64) (pe_lc rfl (show CompOk _ (["_law_line", "_law_led"] : List Str) _ ([("_law_led", s.heap.objs.size + 1 + 0)] : List (Str × Addr)) ([none, some 4] : List (Option Nat)) from ⟨by with_unfolding_all rfl, rfl, rfl, rfl, rfl, ⟨rfl, trivial⟩, ⟨⟨rfl, Or.inl rfl, Or.inl rfl, _, rfl, rfl⟩, trivial⟩⟩) (pi_list (pe_dget hu (pv 1) pe_str (fun _ _ => rfl))) (fun _ _ _ _ => (pg_name (i := 0) znd0r_0 rfl (Or.inl rfl))) (fun _ _ _ _ => (pifs_one (pt_cmpR op_eq (pe_ix ix_tup (pv 0) pe_int (fun _ _ => rfl)) (pv 1) (nomark _)))) (fun _ _ _ _ => (pe_ix ix_tup (pv 0) pe_int (fun _ _ => rfl)))) (pe_lst (pa_cons pe_str pa_nil)) (nomark _))
      (pss_cons (ps_expr (pe_bm PySem.F.plainAttrs_list PySem.F.slot_list_append PySem.F.type_list_append mt_append (pe_dget hu (pv 1) pe_str (fun _ _ => rfl)) (pa_cons (pe_tup (pa_cons pe_str (pa_cons (pv 4) pa_nil))) pa_nil)))
      (pss_one (ps_set (i := 3) zsc0r.nd rfl (Or.inl rfl) (pe_call zG0n zhr0n rfl zm0n zk0n zb0n .nil pass0 (pa_cons (pe_dget hu (pv 1) pe_str (fun _ _ => rfl)) (pa_cons (pe_dget hu (pv 1) pe_str (fun _ _ => rfl)) (pa_cons (pv 4) (pa_cons pe_str pa_nil))))))))
      pss_nil)
      (pss_cons (ps_dput hu (pv 1) pe_str (pe_lst pa_nil) rfl)
      (pss_cons (ps_if (PW.pt (pw_or (pt_not (pt_val (pe_call zG05 zhr05 rfl zm05 zk05 zb05 .nil pass0 (pa_cons (pv 2) (pa_cons (pe_dget hu (pv 1) pe_str (fun _ _ => rfl)) pa_nil))))) (pw_or1 (pt_cmpR (op_neD hu64) (pv 2) (pv 3) (nomark _)))))
      (pss_one (ps_ret pe_bl))
      pss_nil)
      (pss_one (ps_ret (pe_and (pe_cmpR op_isB (pe_fld (pv 0) rfl) pe_bl (nomark _)) (pe_one (pe_call zG0z zhr0z rfl zm0z zk0z zb0z .nil pass0 (pa_cons (pe_fld (pv 0) rfl) (pa_cons (pe_dget hu (pv 1) pe_str (fun _ _ => rfl)) pa_nil)))))))))))))))
theorem zder08 {C_House : Addr}  (T : Txt K mg C_House)
    
    (hr : Room 0 (A.deeper (PyProof.Rows.envOfC "_law_drawn_led" (defScope zs08) s.heap.objs.size f cdv))) :
    PSs (cxOf CX0 P w K mg base ["_law_state", "_law_cell", "_law_mine", "_law_giver", "_law_word"] "_law_drawn_led" (defScope zs08) f cdv A outer s H E).nox (defBody zs08) (zR08 K ) := by
  have hu := hu_of hr
  have hu64 := hr.units
  have hu65 := hu65_of hr
  unfold zR08
  exact (pss_cons (ps_set (i := 2) zsc08.nd rfl (Or.inl rfl) (pe_dget hu (pv 0) pe_str (fun _ _ => rfl)))
      (pss_cons (ps_set (i := 3) zsc08.nd rfl (Or.inl rfl) (pe_op op_mod (pe_op op_add (pe_op op_add (pv 2) pe_int) (pe_op op_mod (pe_op op_mod (pe_op op_mul (pv 1) pe_int) pe_int) (pe_op op_sub (pe_dget hu (pv 0) pe_str (fun _ _ => rfl)) pe_int))) (pe_dget hu (pv 0) pe_str (fun _ _ => rfl))))
      (pss_cons (ps_set (i := 4) zsc08.nd rfl (Or.inl rfl) (pe_dget2 hu (pe_dget hu (pv 0) pe_str (fun _ _ => rfl)) (pv 3) pe_str ⟨rfl, rfl, rfl, rfl⟩))
      (pss_cut (ps_if (pt_cmpR op_eq (pv 4) pe_str (nomark _))
      (pss_cons (ps_set (i := 4) zsc08.nd rfl (Or.inl rfl) (pe_ix ix_list (pe_lst (pa_cons pe_str (pa_cons pe_str (pa_cons pe_str (pa_cons pe_str pa_nil))))) (pe_op op_mod (pe_op op_mod (pe_op op_mul (pv 1) pe_int) pe_int) pe_int) (fun _ _ => rfl)))
      (pss_one (ps_dput hu (pe_dget hu (pv 0) pe_str (fun _ _ => rfl)) (pv 3) (pv 4) rfl)))
      (pss_one (ps_if (PW.pt (pw_and (pt_cmpR op_eq (pv 4) pe_str (nomark _)) (pw_and1 (pt_cmpR op_eq (pe_op op_mod (pe_op op_mod (pe_op op_mul (pv 1) pe_int) pe_int) pe_int) pe_int (nomark _)))))
      (pss_one (ps_set (i := 4) zsc08.nd rfl (Or.inl rfl) pe_str))
      pss_nil)))
      (pss_one (ps_ret (pe_tup (pa_cons (pv 3) (pa_cons (pv 2) (pa_cons (pe_dget hu (pv 0) pe_str (fun _ _ => rfl)) (pa_cons (pv 4) pa_nil)))))))))))
theorem zder01 {C_House : Addr} (zsp0y : Sp) (T : Txt K mg C_House)
    (zh0y : Has P w K mg base 1 "_law_fit" ["_law_book", "_law_bargain", "_law_cell"] zsp0y)
    (hr : Room 1 (A.deeper (PyProof.Rows.envOfC "_law_drawn_letter" (defScope zs01) s.heap.objs.size f cdv))) :
    PSs (cxOf CX0 P w K mg base ["_law_state", "_law_bargains", "_law_cell", "_law_mine", "_law_count", "_law_bargain", "_law_word", "_law_giver"] "_law_drawn_letter" (defScope zs01) f cdv A outer s H E).nox (defBody zs01) (zR01 K zsp0y) := by
  have hu := hu_of hr
  have hu64 := hr.units
  have hu65 := hu65_of hr
  obtain ⟨zf0y, zfd0y, zG0y, zm0y, zk0y, zb0y⟩ := zh0y
  have zhr0y := hr.mono (j := 1) (by decide)
  unfold zR01
  exact (pss_cons (ps_set (i := 3) zsc01.nd rfl (Or.inl rfl) (pe_dget hu (pv 0) pe_str (fun _ _ => rfl)))
      (pss_cons (ps_set (i := 4) zsc01.nd rfl (Or.inl rfl) (pe_dget hu (pv 0) pe_str (fun _ _ => rfl)))
      (pss_cons (ps_set (i := 5) zsc01.nd rfl (Or.inl rfl) (pe_ix ix_list (pv 1) (pe_op op_mod (pe_op op_mod (pe_op op_mul (pv 2) pe_int) pe_int) pe_int) (fun _ _ => rfl)))
      (pss_cons (ps_set (i := 6) zsc01.nd rfl (Or.inl rfl) (pe_call zG0y zhr0y rfl zm0y zk0y zb0y .nil pass0 (pa_cons (pe_dget hu (pv 0) pe_str (fun _ _ => rfl)) (pa_cons (pv 5) (pa_cons (pv 2) pa_nil)))))
      (pss_cons (ps_set (i := 7) zsc01.nd rfl (Or.inl rfl) (pe_op op_mod (pe_op op_add (pv 3) pe_int) (pv 4)))
      (pss_cut (ps_if (PW.pt (pw_and (pt_cmpR op_eq (pv 6) pe_str (nomark _)) (pw_and1 (pt_cmpR op_eq (pv 4) pe_int (nomark _)))))
      (pss_one (ps_set (i := 6) zsc01.nd rfl (Or.inl rfl) pe_str))
      pss_nil)
      (pss_cut (ps_if (pt_cmpR op_eq (pv 6) pe_str (nomark _))
      (pss_one (ps_set (i := 7) zsc01.nd rfl (Or.inl rfl) (pe_op op_mod (pe_op op_add (pe_op op_add (pv 3) pe_int) (pe_op op_mod (pe_op op_mod (pe_op op_mul (pv 2) pe_int) pe_int) (pe_op op_sub (pv 4) pe_int))) (pv 4))))
      pss_nil)
      (pss_one (ps_ret (pe_tup (pa_cons (pv 7) (pa_cons (pv 3) (pa_cons (pv 5) (pa_cons (pv 6) pa_nil))))))))))))))
theorem zder0u (zsp0w : Sp) (zsp05 : Sp) (zsp0a : Sp) (zsp0s : Sp) (C_House : Addr) (T : Txt K mg C_House)
    (zh0w : Has P w K mg base 6 "got_all" ["house", "letters"] zsp0w) (zh05 : Has P w K mg base 3 "_law_are_letters" ["_law_found", "_law_count"] zsp05) (zh0a : Has P w K mg base 3 "_law_are_lines" ["_law_found"] zsp0a) (zh0s : HasM P w K mg base C_House 5 "got" ["self", "letter"] zsp0s)
    (hr : Room 6 (A.deeper (PyProof.Rows.envOfC "_law_gets" (defScope zs0u) s.heap.objs.size f cdv))) :
    PSs (cxOf CX0 P w K mg base ["_law_house", "_law_state", "_law_letter", "_law_due", "_law_cell", "_law_found"] "_law_gets" (defScope zs0u) f cdv A outer s H E).nox (defBody zs0u) (zR0u K zsp0w zsp05 zsp0a zsp0s C_House) := by
  have hu := hu_of hr
  have hu64 := hr.units
  have hu65 := hu65_of hr
  obtain ⟨zf0w, zfd0w, zG0w, zm0w, zk0w, zb0w⟩ := zh0w
  have zhr0w := hr.mono (j := 6) (by decide)
  obtain ⟨zf05, zfd05, zG05, zm05, zk05, zb05⟩ := zh05
  have zhr05 := hr.mono (j := 3) (by decide)
  obtain ⟨zf0a, zfd0a, zG0a, zm0a, zk0a, zb0a⟩ := zh0a
  have zhr0a := hr.mono (j := 3) (by decide)
  obtain ⟨zf0s, zfd0s, zG0s, zmt0s, zb0s⟩ := zh0s
  have zhr0s := hr.mono (j := 5) (by decide)
  unfold zR0u
  exact (pss_cut (ps_if (pt_cmpR op_eq (pe_op op_mod (pe_op op_mod (pe_op op_mul (pv 4) pe_int) pe_int) pe_int) pe_int (nomark _))
      (pss_one (ps_set (i := 5) zsc0u.nd rfl (Or.inl rfl) (pe_lst (pa_cons (pe_meth (pv 0) T.cl_House zmt0s zG0s zhr0s zb0s .nil pass0 (pa_cons (pv 2) pa_nil)) pa_nil))))
      (pss_one (ps_set (i := 5) zsc0u.nd rfl (Or.inl rfl) (pe_call zG0w zhr0w rfl zm0w zk0w zb0w .nil pass0 (pa_cons (pv 0) (pa_cons (pe_lst (pa_cons (pv 2) pa_nil)) pa_nil))))))
      (pss_cons (ps_if (PW.pt (pw_or (pt_not (pt_val (pe_callB call_isinst (by rfl) T.n_isinstance PyProof.Rows.boot_isinstance (pa_cons (pv 5) (pa_cons (pe_bltn (by rfl) T.n_list PySem.Pv.boot_list (v := .ty "list") rfl) pa_nil))))) (pw_or1 (pt_cmpR op_ne (pe_callB call_len_seq (by rfl) T.n_len PySem.boot_len (pa_cons (pv 5) pa_nil)) pe_int (nomark _)))))
      (pss_one (ps_ret pe_bl))
      pss_nil)
      (pss_cons (ps_if (PW.pt (pw_or (pt_not (pt_val (pe_call zG05 zhr05 rfl zm05 zk05 zb05 .nil pass0 (pa_cons (pe_ix ix_list (pv 5) pe_int (fun _ _ => rfl)) (pa_cons (pe_dget hu (pv 1) pe_str (fun _ _ => rfl)) pa_nil))))) (pw_or1 (pt_cmpR (op_neD hu64) (pe_ix ix_list (pv 5) pe_int (fun _ _ => rfl)) (pv 3) (nomark _)))))
      (pss_one (ps_ret pe_bl))
      pss_nil)
      (pss_one (ps_ret (pe_and (pe_call zG0a zhr0a rfl zm0a zk0a zb0a .nil pass0 (pa_cons (pe_fld (pv 0) rfl) pa_nil)) (pe_one (pe_cmpR (op_eqD hu64) (pe_fld (pv 0) rfl) (pe_dget hu (pv 1) pe_str (fun _ _ => rfl)) (nomark _)))))))))
theorem zder12 (zsp10 : Sp) (zsp05 : Sp) (zsp0n : Sp) (zsp0r : Sp) (zsp08 : Sp) (zsp0f : Sp) (zsp01 : Sp) (zsp04 : Sp) (zsp0u : Sp) (zsp0m : Sp) (zsp0g : Sp) (C_House : Addr) (T : Txt K mg C_House)
    (zh10 : Has P w K mg base 1 "_law_at" ["_law_script", "_law_k"] zsp10) (zh05 : Has P w K mg base 3 "_law_are_letters" ["_law_found", "_law_count"] zsp05) (zh0n : Has P w K mg base 1 "_law_to_all" ["_law_mine", "_law_count", "_law_bargain", "_law_word"] zsp0n) (zh0r : Has P w K mg base 5 "_law_rests" ["_law_house", "_law_state"] zsp0r) (zh08 : Has P w K mg base 1 "_law_drawn_led" ["_law_state", "_law_cell"] zsp08) (zh0f : Has P w K mg base 2 "_law_due_led" ["_law_state", "_law_letter"] zsp0f) (zh01 : Has P w K mg base 2 "_law_drawn_letter" ["_law_state", "_law_bargains", "_law_cell"] zsp01) (zh04 : Has P w K mg base 1 "_law_due_letters" ["_law_book", "_law_against", "_law_mine", "_law_letter"] zsp04) (zh0u : Has P w K mg base 7 "_law_gets" ["_law_house", "_law_state", "_law_letter", "_law_due", "_law_cell"] zsp0u) (zh0g : HasM P w K mg base C_House 2 "begin" ["self", "bargain"] zsp0g) (zh0m : HasI P w K mg base C_House 2 ["self", "number", "count", "against"] zsp0m)
    (hr : Room 7 (A.deeper (PyProof.Rows.envOfC "law" (defScope zs12) s.heap.objs.size f cdv))) :
    PSs (cxOf CX0 P w K mg base ["_law_script", "_law_count", "_law_mine", "_law_far", "_law_bargains", "_law_against", "_law_k", "_law_handed", "_law_house", "_law_led", "_law_state", "_law_found", "_law_cell", "_law_letter", "_law_due"] "law" (defScope zs12) f cdv A outer s H E).nox (defBody zs12) (zR12 K zsp10 zsp05 zsp0n zsp0r zsp08 zsp0f zsp01 zsp04 zsp0u zsp0m zsp0g C_House) := by
  have hu := hu_of hr
  have hu64 := hr.units
  have hu65 := hu65_of hr
  obtain ⟨zf10, zfd10, zG10, zm10, zk10, zb10⟩ := zh10
  have zhr10 := hr.mono (j := 1) (by decide)
  obtain ⟨zf05, zfd05, zG05, zm05, zk05, zb05⟩ := zh05
  have zhr05 := hr.mono (j := 3) (by decide)
  obtain ⟨zf0n, zfd0n, zG0n, zm0n, zk0n, zb0n⟩ := zh0n
  have zhr0n := hr.mono (j := 1) (by decide)
  obtain ⟨zf0r, zfd0r, zG0r, zm0r, zk0r, zb0r⟩ := zh0r
  have zhr0r := hr.mono (j := 5) (by decide)
  obtain ⟨zf08, zfd08, zG08, zm08, zk08, zb08⟩ := zh08
  have zhr08 := hr.mono (j := 1) (by decide)
  obtain ⟨zf0f, zfd0f, zG0f, zm0f, zk0f, zb0f⟩ := zh0f
  have zhr0f := hr.mono (j := 2) (by decide)
  obtain ⟨zf01, zfd01, zG01, zm01, zk01, zb01⟩ := zh01
  have zhr01 := hr.mono (j := 2) (by decide)
  obtain ⟨zf04, zfd04, zG04, zm04, zk04, zb04⟩ := zh04
  have zhr04 := hr.mono (j := 1) (by decide)
  obtain ⟨zf0u, zfd0u, zG0u, zm0u, zk0u, zb0u⟩ := zh0u
  have zhr0u := hr.mono (j := 7) (by decide)
  obtain ⟨zf0g, zfd0g, zG0g, zmt0g, zb0g⟩ := zh0g
  have zhr0g := hr.mono (j := 2) (by decide)
  obtain ⟨zf0m, zfd0m, zG0m, mk_House, zb0m⟩ := zh0m
  have zhr0m := hr.mono (j := 3) (by decide)
  unfold zR12
  exact (pss_cons (ps_set (i := 1) zsc12.nd rfl (Or.inl rfl) (pe_ix ix_list (pe_lst (pa_cons pe_int (pa_cons pe_int (pa_cons pe_int (pa_cons pe_int (pa_cons pe_int (pa_cons pe_int (pa_cons pe_int (pa_cons pe_int pa_nil))))))))) (pe_op op_mod (pe_op op_mod (pe_op op_mul (pe_call zG10 zhr10 rfl zm10 zk10 zb10 .nil pass0 (pa_cons (pv 0) (pa_cons pe_int pa_nil))) pe_int) pe_int) pe_int) (fun _ _ => rfl)))
      (pss_cons (ps_set (i := 2) zsc12.nd rfl (Or.inl rfl) (pe_op op_mod (pe_op op_mod (pe_op op_mul (pe_call zG10 zhr10 rfl zm10 zk10 zb10 .nil pass0 (pa_cons (pv 0) (pa_cons pe_int pa_nil))) pe_int) pe_int) (pv 1)))
      (pss_cons (ps_set (i := 3) zsc12.nd rfl (Or.inl rfl) (pe_op op_mod (pe_call zG10 zhr10 rfl zm10 zk10 zb10 .nil pass0 (pa_cons (pv 0) (pa_cons pe_int pa_nil))) (pe_callTy call_intS (by rfl) T.n_int PySem.Pv.boot_int (pa_cons (pe_op op_add_str pe_str (pe_op op_mulS pe_str pe_int)) pa_nil))))
      (pss_cons (ps_set (i := 4) zsc12.nd rfl (Or.inl rfl) (pe_lst (pa_cons (pe_op op_add (pv 2) pe_int) (pa_cons (pe_op op_add (pe_op op_add (pv 2) pe_int) (pv 1)) (pa_cons (pe_op op_add (pe_op op_add (pv 2) pe_int) (pe_op op_mul (pe_op op_add pe_int (pv 3)) (pv 1))) pa_nil)))))
      (pss_cons (ps_set (i := 5) zsc12.nd rfl (Or.inr rfl) (pe_lst pa_nil))
      (pss_cons (ps_for PassesOwn.never rfl (pi_range1 rfl T.n_range (pa_cons pe_int pa_nil)) (pg_name (i := 6) zsc12.nd rfl (Or.inl rfl))
      (pss_one (ps_if (pt_cmpR op_eq (pe_op op_mod (pe_op op_mod (pe_op op_mul (pe_op op_fdiv (pe_call zG10 zhr10 rfl zm10 zk10 zb10 .nil pass0 (pa_cons (pv 0) (pa_cons pe_int pa_nil))) (pe_op op_add (pv 6) pe_int)) pe_int) pe_int) pe_int) pe_int (nomark _))
      (pss_one (ps_expr (pe_bm PySem.F.plainAttrs_list PySem.F.slot_list_append PySem.F.type_list_append mt_append (pv 5) (pa_cons (pe_ix ix_list (pv 4) (pv 6) (fun _ _ => rfl)) pa_nil))))
      pss_nil)))
      (pss_cons (ps_set (i := 7) zsc12.nd rfl (Or.inl rfl) (pe_callTy call_list_of (by rfl) T.n_list PySem.Pv.boot_list (pa_cons (pv 5) pa_nil)))
      (pss_cons (ps_set (i := 8) zsc12.nd rfl (Or.inl rfl) (pe_make mk_House zG0m zhr0m rfl T.m_House zb0m .nil pass0 (pa_cons (pv 2) (pa_cons (pv 1) (pa_cons (pv 7) pa_nil)))))
      (pss_cons (ps_if (pt_cmpR (op_neD hu64) (pv 7) (pv 5) (nomark _))
      (pss_one (ps_ret pe_bl))
      pss_nil)
      (pss_cons (ps_expr (pe_bm0 PySem.F.plainAttrs_list PySem.F.slot_list_clear PySem.F.type_list_clear mt_clear (pv 7)))
      (pss_cons (ps_expr (pe_bm PySem.F.plainAttrs_list PySem.F.slot_list_extend PySem.F.type_list_extend mt_extend (pv 7) (pa_cons (pe_lc rfl (show CompOk _ (["_law_bargain", "_law_against"] : List Str) _ ([("_law_against", s.heap.objs.size + 1 + 0)] : List (Str × Addr)) ([none, some 5] : List (Option Nat)) from ⟨by with_unfolding_all rfl, rfl, rfl, rfl, rfl, ⟨rfl, trivial⟩, ⟨⟨rfl, Or.inl rfl, Or.inl rfl, _, rfl, rfl⟩, trivial⟩⟩) (pi_list (pv 4)) (fun _ _ _ _ => (pg_name (i := 0) znd12_0 rfl (Or.inl rfl))) (fun _ _ _ _ => (pifs_one (pt_cmpR op_notIn_seq (pv 0) (pv 1) (by with_unfolding_all rfl)))) (fun _ _ _ _ => (pv 0))) pa_nil)))
      (pss_cons (ps_set (i := 9) zsc12.nd rfl (Or.inl rfl) (pe_op op_add (pv 2) (pe_op op_mul (pe_op op_add pe_int (pv 3)) (pv 1))))
      (pss_cons (ps_set (i := 10) zsc12.nd rfl (Or.inl rfl) (pe_disp (pps_cons pe_str (pe_lst (pa_cons (pe_tup (pa_cons pe_str (pa_cons (pv 9) pa_nil))) pa_nil)) (pps_cons pe_str (pe_lst pa_nil) (pps_cons pe_str pe_dnewK (pps_cons pe_str (pv 9) pps_nil)))) rfl rfl (by intro z; cases z) (by decide)))
      (pss_cons (ps_dput hu (pv 10) pe_str (pv 2) rfl)
      (pss_cons (ps_dput hu (pv 10) pe_str (pv 1) rfl)
      (pss_cons (ps_set (i := 11) zsc12.nd rfl (Or.inl rfl) (pe_meth (pv 8) T.cl_House zmt0g zG0g zhr0g zb0g .nil pass0 (pa_cons (pv 9) pa_nil)))
      (pss_cons (ps_if (pt_not (pt_val (pe_call zG05 zhr05 rfl zm05 zk05 zb05 .nil pass0 (pa_cons (pv 11) (pa_cons (pv 1) pa_nil)))))
      (pss_one (ps_ret pe_bl))
      pss_nil)
      (pss_cons (ps_if (pt_cmpR (op_neD hu64) (pv 11) (pe_call zG0n zhr0n rfl zm0n zk0n zb0n .nil pass0 (pa_cons (pv 2) (pa_cons (pv 1) (pa_cons (pv 9) (pa_cons pe_str pa_nil))))) (nomark _))
      (pss_one (ps_ret pe_bl))
      pss_nil)
      (pss_cons (ps_for PassesOwn.never rfl (pi_list (pe_slice sl_list (pv 0) (po_some pe_int) (po_some pe_int))) (pg_name (i := 12) zsc12.nd rfl (Or.inl rfl))
      (pss_cons (ps_if (PW.pt (pw_and (pt_cmpR op_eq (pe_op op_mod (pe_op op_mod (pe_op op_mul (pv 12) pe_int) pe_int) pe_int) pe_int (nomark _)) (pw_and1 (pt_not (pt_val (pe_call zG0r zhr0r rfl zm0r zk0r zb0r .nil pass0 (pa_cons (pv 8) (pa_cons (pv 10) pa_nil))))))))
      (pss_one (ps_ret pe_bl))
      pss_nil)
      (pss_cut (ps_if (pt_cmpR op_eq (pe_op op_mod (pe_op op_mod (pe_op op_mul (pv 12) pe_int) pe_int) pe_int) pe_int (nomark _))
      (pss_cons (ps_set (i := 13) zsc12.nd rfl (Or.inl rfl) (pe_call zG08 zhr08 rfl zm08 zk08 zb08 .nil pass0 (pa_cons (pv 10) (pa_cons (pv 12) pa_nil))))
      (pss_one (ps_set (i := 14) zsc12.nd rfl (Or.inl rfl) (pe_call zG0f zhr0f rfl zm0f zk0f zb0f .nil pass0 (pa_cons (pv 10) (pa_cons (pv 13) pa_nil))))))
      (pss_cons (ps_set (i := 13) zsc12.nd rfl (Or.inl rfl) (pe_call zG01 zhr01 rfl zm01 zk01 zb01 .nil pass0 (pa_cons (pv 10) (pa_cons (pv 4) (pa_cons (pv 12) pa_nil)))))
      (pss_one (ps_set (i := 14) zsc12.nd rfl (Or.inl rfl) (pe_call zG04 zhr04 rfl zm04 zk04 zb04 .nil pass0 (pa_cons (pe_dget hu (pv 10) pe_str (fun _ _ => rfl)) (pa_cons (pv 5) (pa_cons (pv 2) (pa_cons (pv 13) pa_nil)))))))))
      (pss_one (ps_if (pt_not (pt_val (pe_call zG0u zhr0u rfl zm0u zk0u zb0u .nil pass0 (pa_cons (pv 8) (pa_cons (pv 10) (pa_cons (pv 13) (pa_cons (pv 14) (pa_cons (pv 12) pa_nil))))))))
      (pss_one (ps_ret pe_bl))
      pss_nil)))))
      (pss_one (ps_ret pe_bl)))))))))))))))))))))
end
section
variable {P : Program} {w : World} {K : PySem.W.Frag} {mg : Str → Option Value} {base : Heap}
theorem zok10 {C_House : Addr} {f : Addr} {fd : FuncData} (F : Fun K "_law_at" "_law_at" zs10 f fd) (T : Txt K mg C_House)  (hm : mg "_law_at" = some (.ref f)) : Has P w K mg base 1 "_law_at" ["_law_script", "_law_k"] (zsp10 K) :=
  ⟨f, fd, F.ok zsc10 (fun vs H Q E h => (by
    have q := h
    repeat (first | (obtain ⟨rfl, _⟩ := q; rfl) | (obtain ⟨⟨_, _, rfl, _⟩, _⟩ := q; rfl) | (obtain ⟨_, q⟩ := q)))) (fun cdv A outer s H vs Q E hr h => ⟨_, zder10  T  hr, zrd10 h⟩), hm, F.kp, F.binds fun _ _ _ _ _ _ us hl => match us, hl with | [_, _], _ => rfl⟩
theorem zok0p {C_House : Addr} {f : Addr} {fd : FuncData} (F : Fun K "_law_whole" "_law_whole" zs0p f fd) (T : Txt K mg C_House)  (hm : mg "_law_whole" = some (.ref f)) : Has P w K mg base 1 "_law_whole" ["_law_found"] zsp0p :=
  ⟨f, fd, F.ok zsc0p (fun vs H Q E h => (by
    have q := h
    repeat (first | (obtain ⟨rfl, _⟩ := q; rfl) | (obtain ⟨⟨_, _, rfl, _⟩, _⟩ := q; rfl) | (obtain ⟨_, q⟩ := q)))) (fun cdv A outer s H vs Q E hr h => ⟨_, zder0p  T  hr, zrd0p h⟩), hm, F.kp, F.binds fun _ _ _ _ _ _ us hl => match us, hl with | [_], _ => rfl⟩
theorem zok0b {C_House : Addr} {f : Addr} {fd : FuncData} (F : Fun K "_law_is_letter" "_law_is_letter" zs0b f fd) (T : Txt K mg C_House) (zh0p : Has P w K mg base 1 "_law_whole" ["_law_found"] zsp0p) (hm : mg "_law_is_letter" = some (.ref f)) : Has P w K mg base 2 "_law_is_letter" ["_law_found", "_law_count"] zsp0b :=
  ⟨f, fd, F.ok zsc0b (fun vs H Q E h => (by
    have q := h
    repeat (first | (obtain ⟨rfl, _⟩ := q; rfl) | (obtain ⟨⟨_, _, rfl, _⟩, _⟩ := q; rfl) | (obtain ⟨_, q⟩ := q)))) (fun cdv A outer s H vs Q E hr h => ⟨_, zder0b zsp0p T zh0p hr, zrd0b h⟩), hm, F.kp, F.binds fun _ _ _ _ _ _ us hl => match us, hl with | [_, _], _ => rfl⟩
theorem zok05 {C_House : Addr} {f : Addr} {fd : FuncData} (F : Fun K "_law_are_letters" "_law_are_letters" zs05 f fd) (T : Txt K mg C_House) (zh0b : Has P w K mg base 2 "_law_is_letter" ["_law_found", "_law_count"] zsp0b) (hm : mg "_law_are_letters" = some (.ref f)) : Has P w K mg base 3 "_law_are_letters" ["_law_found", "_law_count"] zsp05 :=
  ⟨f, fd, F.ok zsc05 (fun vs H Q E h => (by
    have q := h
    repeat (first | (obtain ⟨rfl, _⟩ := q; rfl) | (obtain ⟨⟨_, _, rfl, _⟩, _⟩ := q; rfl) | (obtain ⟨_, q⟩ := q)))) (fun cdv A outer s H vs Q E hr h => ⟨_, zder05 zsp0b T zh0b hr, zrd05 h⟩), hm, F.kp, F.binds fun _ _ _ _ _ _ us hl => match us, hl with | [_, _], _ => rfl⟩
theorem zok0n {C_House : Addr} {f : Addr} {fd : FuncData} (F : Fun K "_law_to_all" "_law_to_all" zs0n f fd) (T : Txt K mg C_House)  (hm : mg "_law_to_all" = some (.ref f)) : Has P w K mg base 1 "_law_to_all" ["_law_mine", "_law_count", "_law_bargain", "_law_word"] zsp0n :=
  ⟨f, fd, F.ok zsc0n (fun vs H Q E h => (by
    have q := h
    repeat (first | (obtain ⟨rfl, _⟩ := q; rfl) | (obtain ⟨⟨_, _, rfl, _⟩, _⟩ := q; rfl) | (obtain ⟨_, q⟩ := q)))) (fun cdv A outer s H vs Q E hr h => ⟨_, zder0n  T  hr, zrd0n h⟩), hm, F.kp, F.binds fun _ _ _ _ _ _ us hl => match us, hl with | [_, _, _, _], _ => rfl⟩
theorem no_law_so {f : Addr} {fd : FuncData} (F : Fun K "_law_so" "_law_so" zs0z f fd) (hm : mg "_law_so" = some (.ref f)) : Has P w K mg base 1 "_law_so" ["_law_found", "_law_meant"] (spSub 0) :=
  ⟨f, fd, ⟨fun _ _ _ _ h => h.elim, fun _ _ _ _ _ _ _ _ _ _ _ _ _ h => h.elim⟩, hm, F.kp, F.binds fun _ _ _ _ _ _ us hl => match us, hl with | [_, _], _ => rfl⟩
theorem zok0z {C_House : Addr} {f : Addr} {fd : FuncData} (F : Fun K "_law_so" "_law_so" zs0z f fd) (T : Txt K mg C_House) (d lev : Nat) (zh0z : Has P w K mg base lev "_law_so" ["_law_found", "_law_meant"] (spSub d)) (hm : mg "_law_so" = some (.ref f)) : Has P w K mg base (lev + 1) "_law_so" ["_law_found", "_law_meant"] (zsp0z d) :=
  ⟨f, fd, F.ok zsc0z (fun vs H Q E h => (by
    have q := h
    repeat (first | (obtain ⟨rfl, _⟩ := q; rfl) | (obtain ⟨⟨_, _, rfl, _⟩, _⟩ := q; rfl) | (obtain ⟨_, q⟩ := q)))) (fun cdv A outer s H vs Q E hr h => ⟨_, zder0z (spSub d) T zh0z hr, zrd0z d h⟩), hm, F.kp, F.binds fun _ _ _ _ _ _ us hl => match us, hl with | [_, _], _ => rfl⟩
theorem zok0c {C_House : Addr} {f : Addr} {fd : FuncData} (F : Fun K "forget" "House.forget" zs0c f fd) (T : Txt K mg C_House)  (hm : Meth K C_House "forget" f) : HasM P w K mg base C_House 1 "forget" ["self"] (zsp0c C_House) :=
  ⟨f, fd, F.ok zsc0c (fun vs H Q E h => (by
    have q := h
    repeat (first | (obtain ⟨rfl, _⟩ := q; rfl) | (obtain ⟨⟨_, _, rfl, _⟩, _⟩ := q; rfl) | (obtain ⟨_, q⟩ := q)))) (fun cdv A outer s H vs Q E hr h => ⟨_, zder0c  T  hr, zrd0c T.hs h⟩), hm, F.binds fun _ _ _ _ _ _ us hl => match us, hl with | [_], _ => rfl⟩
theorem zok0o {C_House : Addr} {f : Addr} {fd : FuncData} (F : Fun K "stop" "House.stop" zs0o f fd) (T : Txt K mg C_House) (zh0c : HasM P w K mg base C_House 1 "forget" ["self"] (zsp0c C_House)) (hm : Meth K C_House "stop" f) : HasM P w K mg base C_House 2 "stop" ["self"] (zsp0o C_House) :=
  ⟨f, fd, F.ok zsc0o (fun vs H Q E h => (by
    have q := h
    repeat (first | (obtain ⟨rfl, _⟩ := q; rfl) | (obtain ⟨⟨_, _, rfl, _⟩, _⟩ := q; rfl) | (obtain ⟨_, q⟩ := q)))) (fun cdv A outer s H vs Q E hr h => ⟨_, zder0o (zsp0c C_House) C_House T zh0c hr, zrd0o T.hs h⟩), hm, F.binds fun _ _ _ _ _ _ us hl => match us, hl with | [_], _ => rfl⟩
theorem zok0v {C_House : Addr} {f : Addr} {fd : FuncData} (F : Fun K "words_of" "words_of" zs0v f fd) (T : Txt K mg C_House)  (hm : mg "words_of" = some (.ref f)) : Has P w K mg base 1 "words_of" ["book", "bargain"] zsp0v :=
  ⟨f, fd, F.ok zsc0v (fun vs H Q E h => (by
    have q := h
    repeat (first | (obtain ⟨rfl, _⟩ := q; rfl) | (obtain ⟨⟨_, _, rfl, _⟩, _⟩ := q; rfl) | (obtain ⟨_, q⟩ := q)))) (fun cdv A outer s H vs Q E hr h => ⟨_, zder0v  T  hr, zrd0v h⟩), hm, F.kp, F.binds fun _ _ _ _ _ _ us hl => match us, hl with | [_, _], _ => rfl⟩
theorem zok0h {C_House : Addr} {f : Addr} {fd : FuncData} (F : Fun K "decision_in" "decision_in" zs0h f fd) (T : Txt K mg C_House) (zh0v : Has P w K mg base 1 "words_of" ["book", "bargain"] zsp0v) (hm : mg "decision_in" = some (.ref f)) : Has P w K mg base 2 "decision_in" ["book", "bargain"] zsp0h :=
  ⟨f, fd, F.ok zsc0h (fun vs H Q E h => (by
    have q := h
    repeat (first | (obtain ⟨rfl, _⟩ := q; rfl) | (obtain ⟨⟨_, _, rfl, _⟩, _⟩ := q; rfl) | (obtain ⟨_, q⟩ := q)))) (fun cdv A outer s H vs Q E hr h => ⟨_, zder0h zsp0v T zh0v hr, zrd0h h⟩), hm, F.kp, F.binds fun _ _ _ _ _ _ us hl => match us, hl with | [_, _], _ => rfl⟩
theorem zok0t {C_House : Addr} {f : Addr} {fd : FuncData} (F : Fun K "left_open" "left_open" zs0t f fd) (T : Txt K mg C_House) (zh0h : Has P w K mg base 2 "decision_in" ["book", "bargain"] zsp0h) (hm : mg "left_open" = some (.ref f)) : Has P w K mg base 3 "left_open" ["book"] zsp0t :=
  ⟨f, fd, F.ok zsc0t (fun vs H Q E h => (by
    have q := h
    repeat (first | (obtain ⟨rfl, _⟩ := q; rfl) | (obtain ⟨⟨_, _, rfl, _⟩, _⟩ := q; rfl) | (obtain ⟨_, q⟩ := q)))) (fun cdv A outer s H vs Q E hr h => ⟨_, zder0t zsp0h T zh0h hr, zrd0t h⟩), hm, F.kp, F.binds fun _ _ _ _ _ _ us hl => match us, hl with | [_], _ => rfl⟩
theorem zok0j {C_House : Addr} {f : Addr} {fd : FuncData} (F : Fun K "write" "House.write" zs0j f fd) (T : Txt K mg C_House)  (hm : Meth K C_House "write" f) : HasM P w K mg base C_House 1 "write" ["self", "word", "bargain"] (zsp0j C_House) :=
  ⟨f, fd, F.ok zsc0j (fun vs H Q E h => (by
    have q := h
    repeat (first | (obtain ⟨rfl, _⟩ := q; rfl) | (obtain ⟨⟨_, _, rfl, _⟩, _⟩ := q; rfl) | (obtain ⟨_, q⟩ := q)))) (fun cdv A outer s H vs Q E hr h => ⟨_, zder0j  T  hr, zrd0j T.hs h⟩), hm, F.binds fun _ _ _ _ _ _ us hl => match us, hl with | [_, _, _], _ => rfl⟩
theorem zok02 {C_House : Addr} {f : Addr} {fd : FuncData} (F : Fun K "to_others" "House.to_others" zs02 f fd) (T : Txt K mg C_House)  (hm : Meth K C_House "to_others" f) : HasM P w K mg base C_House 1 "to_others" ["self", "bargain", "word"] (zsp02 C_House) :=
  ⟨f, fd, F.ok zsc02 (fun vs H Q E h => (by
    have q := h
    repeat (first | (obtain ⟨rfl, _⟩ := q; rfl) | (obtain ⟨⟨_, _, rfl, _⟩, _⟩ := q; rfl) | (obtain ⟨_, q⟩ := q)))) (fun cdv A outer s H vs Q E hr h => ⟨_, zder02  T  hr, zrd02 T.hs h⟩), hm, F.binds fun _ _ _ _ _ _ us hl => match us, hl with | [_, _, _], _ => rfl⟩
theorem zok0e {C_House : Addr} {f : Addr} {fd : FuncData} (F : Fun K "decide" "House.decide" zs0e f fd) (T : Txt K mg C_House) (zh0j : HasM P w K mg base C_House 1 "write" ["self", "word", "bargain"] (zsp0j C_House)) (zh02 : HasM P w K mg base C_House 1 "to_others" ["self", "bargain", "word"] (zsp02 C_House)) (hm : Meth K C_House "decide" f) : HasM P w K mg base C_House 2 "decide" ["self", "bargain", "word"] (zsp0e C_House) :=
  ⟨f, fd, F.ok zsc0e (fun vs H Q E h => (by
    have q := h
    repeat (first | (obtain ⟨rfl, _⟩ := q; rfl) | (obtain ⟨⟨_, _, rfl, _⟩, _⟩ := q; rfl) | (obtain ⟨_, q⟩ := q)))) (fun cdv A outer s H vs Q E hr h => ⟨_, zder0e (zsp0j C_House) (zsp02 C_House) C_House T zh0j zh02 hr, zrd0e T.hs h⟩), hm, F.binds fun _ _ _ _ _ _ us hl => match us, hl with | [_, _, _], _ => rfl⟩
theorem zok0l {C_House : Addr} {f : Addr} {fd : FuncData} (F : Fun K "wake" "House.wake" zs0l f fd) (T : Txt K mg C_House) (zh0t : Has P w K mg base 3 "left_open" ["book"] zsp0t) (zh0e : HasM P w K mg base C_House 2 "decide" ["self", "bargain", "word"] (zsp0e C_House)) (hm : Meth K C_House "wake" f) : HasM P w K mg base C_House 4 "wake" ["self"] (zsp0l C_House) :=
  ⟨f, fd, F.ok zsc0l (fun vs H Q E h => (by
    have q := h
    repeat (first | (obtain ⟨rfl, _⟩ := q; rfl) | (obtain ⟨⟨_, _, rfl, _⟩, _⟩ := q; rfl) | (obtain ⟨_, q⟩ := q)))) (fun cdv A outer s H vs Q E hr h => ⟨_, zder0l zsp0t (zsp0e C_House) C_House T zh0t zh0e hr, zrd0l T.hs h⟩), hm, F.binds fun _ _ _ _ _ _ us hl => match us, hl with | [_], _ => rfl⟩
theorem zok0r {C_House : Addr} {f : Addr} {fd : FuncData} (F : Fun K "_law_rests" "_law_rests" zs0r f fd) (T : Txt K mg C_House) (zh0n : Has P w K mg base 1 "_law_to_all" ["_law_mine", "_law_count", "_law_bargain", "_law_word"] zsp0n) (zh05 : Has P w K mg base 3 "_law_are_letters" ["_law_found", "_law_count"] zsp05) (zh0z : Has P w K mg base 4 "_law_so" ["_law_found", "_law_meant"] (zsp0z 2)) (zh0o : HasM P w K mg base C_House 2 "stop" ["self"] (zsp0o C_House)) (zh0l : HasM P w K mg base C_House 4 "wake" ["self"] (zsp0l C_House)) (hm : mg "_law_rests" = some (.ref f)) : Has P w K mg base 5 "_law_rests" ["_law_house", "_law_state"] (zsp0r C_House) :=
  ⟨f, fd, F.ok zsc0r (fun vs H Q E h => (by
    have q := h
    repeat (first | (obtain ⟨rfl, _⟩ := q; rfl) | (obtain ⟨⟨_, _, rfl, _⟩, _⟩ := q; rfl) | (obtain ⟨_, q⟩ := q)))) (fun cdv A outer s H vs Q E hr h => ⟨_, zder0r zsp0n zsp05 (zsp0z 2) (zsp0o C_House) (zsp0l C_House) C_House T zh0n zh05 zh0z zh0o zh0l hr, zrd0r T.hs h⟩), hm, F.kp, F.binds fun _ _ _ _ _ _ us hl => match us, hl with | [_, _], _ => rfl⟩
theorem zok08 {C_House : Addr} {f : Addr} {fd : FuncData} (F : Fun K "_law_drawn_led" "_law_drawn_led" zs08 f fd) (T : Txt K mg C_House)  (hm : mg "_law_drawn_led" = some (.ref f)) : Has P w K mg base 1 "_law_drawn_led" ["_law_state", "_law_cell"] zsp08 :=
  ⟨f, fd, F.ok zsc08 (fun vs H Q E h => (by
    have q := h
    repeat (first | (obtain ⟨rfl, _⟩ := q; rfl) | (obtain ⟨⟨_, _, rfl, _⟩, _⟩ := q; rfl) | (obtain ⟨_, q⟩ := q)))) (fun cdv A outer s H vs Q E hr h => ⟨_, zder08  T  hr, zrd08 h⟩), hm, F.kp, F.binds fun _ _ _ _ _ _ us hl => match us, hl with | [_, _], _ => rfl⟩
theorem zok0f {C_House : Addr} {f : Addr} {fd : FuncData} (F : Fun K "_law_due_led" "_law_due_led" zs0f f fd) (T : Txt K mg C_House) (zh0n : Has P w K mg base 1 "_law_to_all" ["_law_mine", "_law_count", "_law_bargain", "_law_word"] zsp0n) (hm : mg "_law_due_led" = some (.ref f)) : Has P w K mg base 2 "_law_due_led" ["_law_state", "_law_letter"] zsp0f :=
  ⟨f, fd, F.ok zsc0f (fun vs H Q E h => (by
    have q := h
    repeat (first | (obtain ⟨rfl, _⟩ := q; rfl) | (obtain ⟨⟨_, _, rfl, _⟩, _⟩ := q; rfl) | (obtain ⟨_, q⟩ := q)))) (fun cdv A outer s H vs Q E hr h => ⟨_, zder0f zsp0n T zh0n hr, zrd0f h⟩), hm, F.kp, F.binds fun _ _ _ _ _ _ us hl => match us, hl with | [_, _], _ => rfl⟩
theorem zok0y {C_House : Addr} {f : Addr} {fd : FuncData} (F : Fun K "_law_fit" "_law_fit" zs0y f fd) (T : Txt K mg C_House)  (hm : mg "_law_fit" = some (.ref f)) : Has P w K mg base 1 "_law_fit" ["_law_book", "_law_bargain", "_law_cell"] zsp0y :=
  ⟨f, fd, F.ok zsc0y (fun vs H Q E h => (by
    have q := h
    repeat (first | (obtain ⟨rfl, _⟩ := q; rfl) | (obtain ⟨⟨_, _, rfl, _⟩, _⟩ := q; rfl) | (obtain ⟨_, q⟩ := q)))) (fun cdv A outer s H vs Q E hr h => ⟨_, zder0y  T  hr, zrd0y h⟩), hm, F.kp, F.binds fun _ _ _ _ _ _ us hl => match us, hl with | [_, _, _], _ => rfl⟩
theorem zok01 {C_House : Addr} {f : Addr} {fd : FuncData} (F : Fun K "_law_drawn_letter" "_law_drawn_letter" zs01 f fd) (T : Txt K mg C_House) (zh0y : Has P w K mg base 1 "_law_fit" ["_law_book", "_law_bargain", "_law_cell"] zsp0y) (hm : mg "_law_drawn_letter" = some (.ref f)) : Has P w K mg base 2 "_law_drawn_letter" ["_law_state", "_law_bargains", "_law_cell"] zsp01 :=
  ⟨f, fd, F.ok zsc01 (fun vs H Q E h => (by
    have q := h
    repeat (first | (obtain ⟨rfl, _⟩ := q; rfl) | (obtain ⟨⟨_, _, rfl, _⟩, _⟩ := q; rfl) | (obtain ⟨_, q⟩ := q)))) (fun cdv A outer s H vs Q E hr h => ⟨_, zder01 zsp0y T zh0y hr, zrd01 h⟩), hm, F.kp, F.binds fun _ _ _ _ _ _ us hl => match us, hl with | [_, _, _], _ => rfl⟩
theorem zok04 {C_House : Addr} {f : Addr} {fd : FuncData} (F : Fun K "_law_due_letters" "_law_due_letters" zs04 f fd) (T : Txt K mg C_House)  (hm : mg "_law_due_letters" = some (.ref f)) : Has P w K mg base 1 "_law_due_letters" ["_law_book", "_law_against", "_law_mine", "_law_letter"] zsp04 :=
  ⟨f, fd, F.ok zsc04 (fun vs H Q E h => (by
    have q := h
    repeat (first | (obtain ⟨rfl, _⟩ := q; rfl) | (obtain ⟨⟨_, _, rfl, _⟩, _⟩ := q; rfl) | (obtain ⟨_, q⟩ := q)))) (fun cdv A outer s H vs Q E hr h => ⟨_, zder04  T  hr, zrd04 h⟩), hm, F.kp, F.binds fun _ _ _ _ _ _ us hl => match us, hl with | [_, _, _, _], _ => rfl⟩
theorem zok11 {C_House : Addr} {f : Addr} {fd : FuncData} (F : Fun K "knows" "knows" zs11 f fd) (T : Txt K mg C_House) (zh0v : Has P w K mg base 1 "words_of" ["book", "bargain"] zsp0v) (hm : mg "knows" = some (.ref f)) : Has P w K mg base 2 "knows" ["book", "bargain"] zsp11 :=
  ⟨f, fd, F.ok zsc11 (fun vs H Q E h => (by
    have q := h
    repeat (first | (obtain ⟨rfl, _⟩ := q; rfl) | (obtain ⟨⟨_, _, rfl, _⟩, _⟩ := q; rfl) | (obtain ⟨_, q⟩ := q)))) (fun cdv A outer s H vs Q E hr h => ⟨_, zder11 zsp0v T zh0v hr, zrd11 h⟩), hm, F.kp, F.binds fun _ _ _ _ _ _ us hl => match us, hl with | [_, _], _ => rfl⟩
theorem zok0k {C_House : Addr} {f : Addr} {fd : FuncData} (F : Fun K "page" "House.page" zs0k f fd) (T : Txt K mg C_House)  (hm : Meth K C_House "page" f) : HasM P w K mg base C_House 1 "page" ["self", "bargain"] (zsp0k C_House) :=
  ⟨f, fd, F.ok zsc0k (fun vs H Q E h => (by
    have q := h
    repeat (first | (obtain ⟨rfl, _⟩ := q; rfl) | (obtain ⟨⟨_, _, rfl, _⟩, _⟩ := q; rfl) | (obtain ⟨_, q⟩ := q)))) (fun cdv A outer s H vs Q E hr h => ⟨_, zder0k  T  hr, zrd0k T.hs h⟩), hm, F.binds fun _ _ _ _ _ _ us hl => match us, hl with | [_, _], _ => rfl⟩
theorem zok07 {C_House : Addr} {f : Addr} {fd : FuncData} (F : Fun K "decision" "House.decision" zs07 f fd) (T : Txt K mg C_House) (zh0h : Has P w K mg base 2 "decision_in" ["book", "bargain"] zsp0h) (zh0k : HasM P w K mg base C_House 1 "page" ["self", "bargain"] (zsp0k C_House)) (hm : Meth K C_House "decision" f) : HasM P w K mg base C_House 3 "decision" ["self", "bargain"] (zsp07 C_House) :=
  ⟨f, fd, F.ok zsc07 (fun vs H Q E h => (by
    have q := h
    repeat (first | (obtain ⟨rfl, _⟩ := q; rfl) | (obtain ⟨⟨_, _, rfl, _⟩, _⟩ := q; rfl) | (obtain ⟨_, q⟩ := q)))) (fun cdv A outer s H vs Q E hr h => ⟨_, zder07 zsp0h (zsp0k C_House) C_House T zh0h zh0k hr, zrd07 T.hs h⟩), hm, F.binds fun _ _ _ _ _ _ us hl => match us, hl with | [_, _], _ => rfl⟩
theorem zok0d {C_House : Addr} {f : Addr} {fd : FuncData} (F : Fun K "to_one" "House.to_one" zs0d f fd) (T : Txt K mg C_House)  (hm : Meth K C_House "to_one" f) : HasM P w K mg base C_House 1 "to_one" ["self", "other", "bargain", "word"] (zsp0d C_House) :=
  ⟨f, fd, F.ok zsc0d (fun vs H Q E h => (by
    have q := h
    repeat (first | (obtain ⟨rfl, _⟩ := q; rfl) | (obtain ⟨⟨_, _, rfl, _⟩, _⟩ := q; rfl) | (obtain ⟨_, q⟩ := q)))) (fun cdv A outer s H vs Q E hr h => ⟨_, zder0d  T  hr, zrd0d T.hs h⟩), hm, F.binds fun _ _ _ _ _ _ us hl => match us, hl with | [_, _, _, _], _ => rfl⟩
theorem zok09 {C_House : Addr} {f : Addr} {fd : FuncData} (F : Fun K "got_ask" "House.got_ask" zs09 f fd) (T : Txt K mg C_House) (zh11 : Has P w K mg base 2 "knows" ["book", "bargain"] zsp11) (zh0k : HasM P w K mg base C_House 1 "page" ["self", "bargain"] (zsp0k C_House)) (zh0j : HasM P w K mg base C_House 1 "write" ["self", "word", "bargain"] (zsp0j C_House)) (zh07 : HasM P w K mg base C_House 3 "decision" ["self", "bargain"] (zsp07 C_House)) (zh0d : HasM P w K mg base C_House 1 "to_one" ["self", "other", "bargain", "word"] (zsp0d C_House)) (hm : Meth K C_House "got_ask" f) : HasM P w K mg base C_House 4 "got_ask" ["self", "giver", "bargain"] (zsp09 C_House) :=
  ⟨f, fd, F.ok zsc09 (fun vs H Q E h => (by
    have q := h
    repeat (first | (obtain ⟨rfl, _⟩ := q; rfl) | (obtain ⟨⟨_, _, rfl, _⟩, _⟩ := q; rfl) | (obtain ⟨_, q⟩ := q)))) (fun cdv A outer s H vs Q E hr h => ⟨_, zder09 zsp11 (zsp0k C_House) (zsp0j C_House) (zsp07 C_House) (zsp0d C_House) C_House T zh11 zh0k zh0j zh07 zh0d hr, zrd09 T.hs h⟩), hm, F.binds fun _ _ _ _ _ _ us hl => match us, hl with | [_, _, _], _ => rfl⟩
theorem zok0x {C_House : Addr} {f : Addr} {fd : FuncData} (F : Fun K "vote_in" "vote_in" zs0x f fd) (T : Txt K mg C_House) (zh0v : Has P w K mg base 1 "words_of" ["book", "bargain"] zsp0v) (hm : mg "vote_in" = some (.ref f)) : Has P w K mg base 2 "vote_in" ["book", "bargain"] zsp0x :=
  ⟨f, fd, F.ok zsc0x (fun vs H Q E h => (by
    have q := h
    repeat (first | (obtain ⟨rfl, _⟩ := q; rfl) | (obtain ⟨⟨_, _, rfl, _⟩, _⟩ := q; rfl) | (obtain ⟨_, q⟩ := q)))) (fun cdv A outer s H vs Q E hr h => ⟨_, zder0x zsp0v T zh0v hr, zrd0x h⟩), hm, F.kp, F.binds fun _ _ _ _ _ _ us hl => match us, hl with | [_, _], _ => rfl⟩
theorem zok0q {C_House : Addr} {f : Addr} {fd : FuncData} (F : Fun K "is_unsure" "is_unsure" zs0q f fd) (T : Txt K mg C_House) (zh0x : Has P w K mg base 2 "vote_in" ["book", "bargain"] zsp0x) (zh0h : Has P w K mg base 2 "decision_in" ["book", "bargain"] zsp0h) (hm : mg "is_unsure" = some (.ref f)) : Has P w K mg base 3 "is_unsure" ["book", "bargain"] zsp0q :=
  ⟨f, fd, F.ok zsc0q (fun vs H Q E h => (by
    have q := h
    repeat (first | (obtain ⟨rfl, _⟩ := q; rfl) | (obtain ⟨⟨_, _, rfl, _⟩, _⟩ := q; rfl) | (obtain ⟨_, q⟩ := q)))) (fun cdv A outer s H vs Q E hr h => ⟨_, zder0q zsp0x zsp0h T zh0x zh0h hr, zrd0q h⟩), hm, F.kp, F.binds fun _ _ _ _ _ _ us hl => match us, hl with | [_, _], _ => rfl⟩
theorem zok03 {C_House : Addr} {f : Addr} {fd : FuncData} (F : Fun K "got_query" "House.got_query" zs03 f fd) (T : Txt K mg C_House) (zh0q : Has P w K mg base 3 "is_unsure" ["book", "bargain"] zsp0q) (zh11 : Has P w K mg base 2 "knows" ["book", "bargain"] zsp11) (zh0k : HasM P w K mg base C_House 1 "page" ["self", "bargain"] (zsp0k C_House)) (zh07 : HasM P w K mg base C_House 3 "decision" ["self", "bargain"] (zsp07 C_House)) (zh0d : HasM P w K mg base C_House 1 "to_one" ["self", "other", "bargain", "word"] (zsp0d C_House)) (zh0e : HasM P w K mg base C_House 2 "decide" ["self", "bargain", "word"] (zsp0e C_House)) (zh0j : HasM P w K mg base C_House 1 "write" ["self", "word", "bargain"] (zsp0j C_House)) (hm : Meth K C_House "got_query" f) : HasM P w K mg base C_House 4 "got_query" ["self", "giver", "bargain"] (zsp03 C_House) :=
  ⟨f, fd, F.ok zsc03 (fun vs H Q E h => (by
    have q := h
    repeat (first | (obtain ⟨rfl, _⟩ := q; rfl) | (obtain ⟨⟨_, _, rfl, _⟩, _⟩ := q; rfl) | (obtain ⟨_, q⟩ := q)))) (fun cdv A outer s H vs Q E hr h => ⟨_, zder03 zsp0q zsp11 (zsp0k C_House) (zsp07 C_House) (zsp0d C_House) (zsp0e C_House) (zsp0j C_House) C_House T zh0q zh11 zh0k zh07 zh0d zh0e zh0j hr, zrd03 T.hs h⟩), hm, F.binds fun _ _ _ _ _ _ us hl => match us, hl with | [_, _, _], _ => rfl⟩
theorem zok06 {C_House : Addr} {f : Addr} {fd : FuncData} (F : Fun K "got_vote" "House.got_vote" zs06 f fd) (T : Txt K mg C_House) (zh07 : HasM P w K mg base C_House 3 "decision" ["self", "bargain"] (zsp07 C_House)) (zh0d : HasM P w K mg base C_House 1 "to_one" ["self", "other", "bargain", "word"] (zsp0d C_House)) (zh0e : HasM P w K mg base C_House 2 "decide" ["self", "bargain", "word"] (zsp0e C_House)) (hm : Meth K C_House "got_vote" f) : HasM P w K mg base C_House 4 "got_vote" ["self", "giver", "bargain", "word"] (zsp06 C_House) :=
  ⟨f, fd, F.ok zsc06 (fun vs H Q E h => (by
    have q := h
    repeat (first | (obtain ⟨rfl, _⟩ := q; rfl) | (obtain ⟨⟨_, _, rfl, _⟩, _⟩ := q; rfl) | (obtain ⟨_, q⟩ := q)))) (fun cdv A outer s H vs Q E hr h => ⟨_, zder06 (zsp07 C_House) (zsp0d C_House) (zsp0e C_House) C_House T zh07 zh0d zh0e hr, zrd06 T.hs h⟩), hm, F.binds fun _ _ _ _ _ _ us hl => match us, hl with | [_, _, _, _], _ => rfl⟩
theorem zok00 {C_House : Addr} {f : Addr} {fd : FuncData} (F : Fun K "got_decision" "House.got_decision" zs00 f fd) (T : Txt K mg C_House) (zh07 : HasM P w K mg base C_House 3 "decision" ["self", "bargain"] (zsp07 C_House)) (zh0j : HasM P w K mg base C_House 1 "write" ["self", "word", "bargain"] (zsp0j C_House)) (hm : Meth K C_House "got_decision" f) : HasM P w K mg base C_House 4 "got_decision" ["self", "bargain", "word"] (zsp00 C_House) :=
  ⟨f, fd, F.ok zsc00 (fun vs H Q E h => (by
    have q := h
    repeat (first | (obtain ⟨rfl, _⟩ := q; rfl) | (obtain ⟨⟨_, _, rfl, _⟩, _⟩ := q; rfl) | (obtain ⟨_, q⟩ := q)))) (fun cdv A outer s H vs Q E hr h => ⟨_, zder00 (zsp07 C_House) (zsp0j C_House) C_House T zh07 zh0j hr, zrd00 T.hs h⟩), hm, F.binds fun _ _ _ _ _ _ us hl => match us, hl with | [_, _, _], _ => rfl⟩
theorem zok0s {C_House : Addr} {f : Addr} {fd : FuncData} (F : Fun K "got" "House.got" zs0s f fd) (T : Txt K mg C_House) (zh09 : HasM P w K mg base C_House 4 "got_ask" ["self", "giver", "bargain"] (zsp09 C_House)) (zh03 : HasM P w K mg base C_House 4 "got_query" ["self", "giver", "bargain"] (zsp03 C_House)) (zh06 : HasM P w K mg base C_House 4 "got_vote" ["self", "giver", "bargain", "word"] (zsp06 C_House)) (zh00 : HasM P w K mg base C_House 4 "got_decision" ["self", "bargain", "word"] (zsp00 C_House)) (hm : Meth K C_House "got" f) : HasM P w K mg base C_House 5 "got" ["self", "letter"] (zsp0s C_House) :=
  ⟨f, fd, F.ok zsc0s (fun vs H Q E h => (by
    have q := h
    repeat (first | (obtain ⟨rfl, _⟩ := q; rfl) | (obtain ⟨⟨_, _, rfl, _⟩, _⟩ := q; rfl) | (obtain ⟨_, q⟩ := q)))) (fun cdv A outer s H vs Q E hr h => ⟨_, zder0s (zsp09 C_House) (zsp03 C_House) (zsp06 C_House) (zsp00 C_House) C_House T zh09 zh03 zh06 zh00 hr, zrd0s T.hs h⟩), hm, F.binds fun _ _ _ _ _ _ us hl => match us, hl with | [_, _], _ => rfl⟩
theorem zok0w {C_House : Addr} {f : Addr} {fd : FuncData} (F : Fun K "got_all" "got_all" zs0w f fd) (T : Txt K mg C_House) (zh0s : HasM P w K mg base C_House 5 "got" ["self", "letter"] (zsp0s C_House)) (hm : mg "got_all" = some (.ref f)) : Has P w K mg base 6 "got_all" ["house", "letters"] (zsp0w C_House) :=
  ⟨f, fd, F.ok zsc0w (fun vs H Q E h => (by
    have q := h
    repeat (first | (obtain ⟨rfl, _⟩ := q; rfl) | (obtain ⟨⟨_, _, rfl, _⟩, _⟩ := q; rfl) | (obtain ⟨_, q⟩ := q)))) (fun cdv A outer s H vs Q E hr h => ⟨_, zder0w (zsp0s C_House) C_House T zh0s hr, zrd0w T.hs h⟩), hm, F.kp, F.binds fun _ _ _ _ _ _ us hl => match us, hl with | [_, _], _ => rfl⟩
theorem zok0i {C_House : Addr} {f : Addr} {fd : FuncData} (F : Fun K "_law_is_line" "_law_is_line" zs0i f fd) (T : Txt K mg C_House) (zh0p : Has P w K mg base 1 "_law_whole" ["_law_found"] zsp0p) (hm : mg "_law_is_line" = some (.ref f)) : Has P w K mg base 2 "_law_is_line" ["_law_found"] zsp0i :=
  ⟨f, fd, F.ok zsc0i (fun vs H Q E h => (by
    have q := h
    repeat (first | (obtain ⟨rfl, _⟩ := q; rfl) | (obtain ⟨⟨_, _, rfl, _⟩, _⟩ := q; rfl) | (obtain ⟨_, q⟩ := q)))) (fun cdv A outer s H vs Q E hr h => ⟨_, zder0i zsp0p T zh0p hr, zrd0i h⟩), hm, F.kp, F.binds fun _ _ _ _ _ _ us hl => match us, hl with | [_], _ => rfl⟩
theorem zok0a {C_House : Addr} {f : Addr} {fd : FuncData} (F : Fun K "_law_are_lines" "_law_are_lines" zs0a f fd) (T : Txt K mg C_House) (zh0i : Has P w K mg base 2 "_law_is_line" ["_law_found"] zsp0i) (hm : mg "_law_are_lines" = some (.ref f)) : Has P w K mg base 3 "_law_are_lines" ["_law_found"] zsp0a :=
  ⟨f, fd, F.ok zsc0a (fun vs H Q E h => (by
    have q := h
    repeat (first | (obtain ⟨rfl, _⟩ := q; rfl) | (obtain ⟨⟨_, _, rfl, _⟩, _⟩ := q; rfl) | (obtain ⟨_, q⟩ := q)))) (fun cdv A outer s H vs Q E hr h => ⟨_, zder0a zsp0i T zh0i hr, zrd0a h⟩), hm, F.kp, F.binds fun _ _ _ _ _ _ us hl => match us, hl with | [_], _ => rfl⟩
theorem zok0u {C_House : Addr} {f : Addr} {fd : FuncData} (F : Fun K "_law_gets" "_law_gets" zs0u f fd) (T : Txt K mg C_House) (zh0w : Has P w K mg base 6 "got_all" ["house", "letters"] (zsp0w C_House)) (zh05 : Has P w K mg base 3 "_law_are_letters" ["_law_found", "_law_count"] zsp05) (zh0a : Has P w K mg base 3 "_law_are_lines" ["_law_found"] zsp0a) (zh0s : HasM P w K mg base C_House 5 "got" ["self", "letter"] (zsp0s C_House)) (hm : mg "_law_gets" = some (.ref f)) : Has P w K mg base 7 "_law_gets" ["_law_house", "_law_state", "_law_letter", "_law_due", "_law_cell"] (zsp0u C_House) :=
  ⟨f, fd, F.ok zsc0u (fun vs H Q E h => (by
    have q := h
    repeat (first | (obtain ⟨rfl, _⟩ := q; rfl) | (obtain ⟨⟨_, _, rfl, _⟩, _⟩ := q; rfl) | (obtain ⟨_, q⟩ := q)))) (fun cdv A outer s H vs Q E hr h => ⟨_, zder0u (zsp0w C_House) zsp05 zsp0a (zsp0s C_House) C_House T zh0w zh05 zh0a zh0s hr, zrd0u T.hs h⟩), hm, F.kp, F.binds fun _ _ _ _ _ _ us hl => match us, hl with | [_, _, _, _, _], _ => rfl⟩
theorem zok0g {C_House : Addr} {f : Addr} {fd : FuncData} (F : Fun K "begin" "House.begin" zs0g f fd) (T : Txt K mg C_House) (zh0j : HasM P w K mg base C_House 1 "write" ["self", "word", "bargain"] (zsp0j C_House)) (zh02 : HasM P w K mg base C_House 1 "to_others" ["self", "bargain", "word"] (zsp02 C_House)) (hm : Meth K C_House "begin" f) : HasM P w K mg base C_House 2 "begin" ["self", "bargain"] (zsp0g C_House) :=
  ⟨f, fd, F.ok zsc0g (fun vs H Q E h => (by
    have q := h
    repeat (first | (obtain ⟨rfl, _⟩ := q; rfl) | (obtain ⟨⟨_, _, rfl, _⟩, _⟩ := q; rfl) | (obtain ⟨_, q⟩ := q)))) (fun cdv A outer s H vs Q E hr h => ⟨_, zder0g (zsp0j C_House) (zsp02 C_House) C_House T zh0j zh02 hr, zrd0g T.hs h⟩), hm, F.binds fun _ _ _ _ _ _ us hl => match us, hl with | [_, _], _ => rfl⟩
theorem zok0m {C_House : Addr} {f : Addr} {fd : FuncData} (F : Fun K "__init__" "House.__init__" zs0m f fd) (T : Txt K mg C_House) (zh0c : HasM P w K mg base C_House 1 "forget" ["self"] (zsp0c C_House)) (hm : Mk K C_House f) : HasI P w K mg base C_House 2 ["self", "number", "count", "against"] (zsp0m C_House) :=
  ⟨f, fd, F.ok zsc0m (fun vs H Q E h => (by
    have q := h
    repeat (first | (obtain ⟨rfl, _⟩ := q; rfl) | (obtain ⟨⟨_, _, rfl, _⟩, _⟩ := q; rfl) | (obtain ⟨_, q⟩ := q)))) (fun cdv A outer s H vs Q E hr h => ⟨_, zder0m (zsp0c C_House) C_House T zh0c hr, zrd0m T.hs h⟩), hm, F.binds fun _ _ _ _ _ _ us hl => match us, hl with | [_, _, _, _], _ => rfl⟩
theorem zok12 {C_House : Addr} {f : Addr} {fd : FuncData} (F : Fun K "law" "law" zs12 f fd) (T : Txt K mg C_House) (zh10 : Has P w K mg base 1 "_law_at" ["_law_script", "_law_k"] (zsp10 K)) (zh05 : Has P w K mg base 3 "_law_are_letters" ["_law_found", "_law_count"] zsp05) (zh0n : Has P w K mg base 1 "_law_to_all" ["_law_mine", "_law_count", "_law_bargain", "_law_word"] zsp0n) (zh0r : Has P w K mg base 5 "_law_rests" ["_law_house", "_law_state"] (zsp0r C_House)) (zh08 : Has P w K mg base 1 "_law_drawn_led" ["_law_state", "_law_cell"] zsp08) (zh0f : Has P w K mg base 2 "_law_due_led" ["_law_state", "_law_letter"] zsp0f) (zh01 : Has P w K mg base 2 "_law_drawn_letter" ["_law_state", "_law_bargains", "_law_cell"] zsp01) (zh04 : Has P w K mg base 1 "_law_due_letters" ["_law_book", "_law_against", "_law_mine", "_law_letter"] zsp04) (zh0u : Has P w K mg base 7 "_law_gets" ["_law_house", "_law_state", "_law_letter", "_law_due", "_law_cell"] (zsp0u C_House)) (zh0g : HasM P w K mg base C_House 2 "begin" ["self", "bargain"] (zsp0g C_House)) (zh0m : HasI P w K mg base C_House 2 ["self", "number", "count", "against"] (zsp0m C_House)) : FnOk P w K mg base CX0 8 f fd ["_law_script"] (spLaw K) :=
  F.ok zsc12 (fun vs H Q E h => (by
    have q := h
    repeat (first | (obtain ⟨rfl, _⟩ := q; rfl) | (obtain ⟨⟨_, _, rfl, _⟩, _⟩ := q; rfl) | (obtain ⟨_, q⟩ := q)))) (fun cdv A outer s H vs Q E hr h => ⟨_, zder12 (zsp10 K) zsp05 zsp0n (zsp0r C_House) zsp08 zsp0f zsp01 zsp04 (zsp0u C_House) (zsp0m C_House) (zsp0g C_House) C_House T zh10 zh05 zh0n zh0r zh08 zh0f zh01 zh04 zh0u zh0g zh0m hr, zrd12 T.hs h⟩)
end
theorem all_mk {l : PySem.W.OpenLaw} {w : World} {K : PySem.W.Frag} {h : Heap} {mg : Str → Option Value} {fa : Addr} {C_House : Addr} (X : K.In h) (G : h.Ns mainGlobals mg) (hfa : mg "law" = some (.ref fa))
    {f0 : Addr} {od0 an0 : Option Addr} {sl0 : Array (Option Value)} {oc0 kV0 dc0 pm0 cd0 ct0 : Value}
    {f1 : Addr} {od1 an1 : Option Addr} {sl1 : Array (Option Value)} {oc1 kV1 dc1 pm1 cd1 ct1 : Value}
    {f2 : Addr} {od2 an2 : Option Addr} {sl2 : Array (Option Value)} {oc2 kV2 dc2 pm2 cd2 ct2 : Value}
    {f3 : Addr} {od3 an3 : Option Addr} {sl3 : Array (Option Value)} {oc3 kV3 dc3 pm3 cd3 ct3 : Value}
    {f4 : Addr} {od4 an4 : Option Addr} {sl4 : Array (Option Value)} {oc4 kV4 dc4 pm4 cd4 ct4 : Value}
    {f5 : Addr} {od5 an5 : Option Addr} {sl5 : Array (Option Value)} {oc5 kV5 dc5 pm5 cd5 ct5 : Value}
    {f6 : Addr} {od6 an6 : Option Addr} {sl6 : Array (Option Value)} {oc6 kV6 dc6 pm6 cd6 ct6 : Value}
    {f7 : Addr} {od7 an7 : Option Addr} {sl7 : Array (Option Value)} {oc7 kV7 dc7 pm7 cd7 ct7 : Value}
    {f8 : Addr} {od8 an8 : Option Addr} {sl8 : Array (Option Value)} {oc8 kV8 dc8 pm8 cd8 ct8 : Value}
    {f9 : Addr} {od9 an9 : Option Addr} {sl9 : Array (Option Value)} {oc9 kV9 dc9 pm9 cd9 ct9 : Value}
    {f10 : Addr} {od10 an10 : Option Addr} {sl10 : Array (Option Value)} {oc10 kV10 dc10 pm10 cd10 ct10 : Value}
    {f11 : Addr} {od11 an11 : Option Addr} {sl11 : Array (Option Value)} {oc11 kV11 dc11 pm11 cd11 ct11 : Value}
    {f12 : Addr} {od12 an12 : Option Addr} {sl12 : Array (Option Value)} {oc12 kV12 dc12 pm12 cd12 ct12 : Value}
    {f13 : Addr} {od13 an13 : Option Addr} {sl13 : Array (Option Value)} {oc13 kV13 dc13 pm13 cd13 ct13 : Value}
    {f14 : Addr} {od14 an14 : Option Addr} {sl14 : Array (Option Value)} {oc14 kV14 dc14 pm14 cd14 ct14 : Value}
    {f15 : Addr} {od15 an15 : Option Addr} {sl15 : Array (Option Value)} {oc15 kV15 dc15 pm15 cd15 ct15 : Value}
    {f16 : Addr} {od16 an16 : Option Addr} {sl16 : Array (Option Value)} {oc16 kV16 dc16 pm16 cd16 ct16 : Value}
    {f17 : Addr} {od17 an17 : Option Addr} {sl17 : Array (Option Value)} {oc17 kV17 dc17 pm17 cd17 ct17 : Value}
    {f18 : Addr} {od18 an18 : Option Addr} {sl18 : Array (Option Value)} {oc18 kV18 dc18 pm18 cd18 ct18 : Value}
    {f19 : Addr} {od19 an19 : Option Addr} {sl19 : Array (Option Value)} {oc19 kV19 dc19 pm19 cd19 ct19 : Value}
    {f20 : Addr} {od20 an20 : Option Addr} {sl20 : Array (Option Value)} {oc20 kV20 dc20 pm20 cd20 ct20 : Value}
    {f21 : Addr} {od21 an21 : Option Addr} {sl21 : Array (Option Value)} {oc21 kV21 dc21 pm21 cd21 ct21 : Value}
    {f22 : Addr} {od22 an22 : Option Addr} {sl22 : Array (Option Value)} {oc22 kV22 dc22 pm22 cd22 ct22 : Value}
    {f23 : Addr} {od23 an23 : Option Addr} {sl23 : Array (Option Value)} {oc23 kV23 dc23 pm23 cd23 ct23 : Value}
    {f24 : Addr} {od24 an24 : Option Addr} {sl24 : Array (Option Value)} {oc24 kV24 dc24 pm24 cd24 ct24 : Value}
    {f25 : Addr} {od25 an25 : Option Addr} {sl25 : Array (Option Value)} {oc25 kV25 dc25 pm25 cd25 ct25 : Value}
    {f26 : Addr} {od26 an26 : Option Addr} {sl26 : Array (Option Value)} {oc26 kV26 dc26 pm26 cd26 ct26 : Value}
    {f27 : Addr} {od27 an27 : Option Addr} {sl27 : Array (Option Value)} {oc27 kV27 dc27 pm27 cd27 ct27 : Value}
    {f28 : Addr} {od28 an28 : Option Addr} {sl28 : Array (Option Value)} {oc28 kV28 dc28 pm28 cd28 ct28 : Value}
    {f29 : Addr} {od29 an29 : Option Addr} {sl29 : Array (Option Value)} {oc29 kV29 dc29 pm29 cd29 ct29 : Value}
    {f30 : Addr} {od30 an30 : Option Addr} {sl30 : Array (Option Value)} {oc30 kV30 dc30 pm30 cd30 ct30 : Value}
    {f31 : Addr} {od31 an31 : Option Addr} {sl31 : Array (Option Value)} {oc31 kV31 dc31 pm31 cd31 ct31 : Value}
    {f32 : Addr} {od32 an32 : Option Addr} {sl32 : Array (Option Value)} {oc32 kV32 dc32 pm32 cd32 ct32 : Value}
    {f33 : Addr} {od33 an33 : Option Addr} {sl33 : Array (Option Value)} {oc33 kV33 dc33 pm33 cd33 ct33 : Value}
    {f34 : Addr} {od34 an34 : Option Addr} {sl34 : Array (Option Value)} {oc34 kV34 dc34 pm34 cd34 ct34 : Value}
    {f35 : Addr} {od35 an35 : Option Addr} {sl35 : Array (Option Value)} {oc35 kV35 dc35 pm35 cd35 ct35 : Value}
    {f36 : Addr} {od36 an36 : Option Addr} {sl36 : Array (Option Value)} {oc36 kV36 dc36 pm36 cd36 ct36 : Value}
    {f37 : Addr} {od37 an37 : Option Addr} {sl37 : Array (Option Value)} {oc37 kV37 dc37 pm37 cd37 ct37 : Value}
    {f38 : Addr} {od38 an38 : Option Addr} {sl38 : Array (Option Value)} {oc38 kV38 dc38 pm38 cd38 ct38 : Value}
    (aC_House : PySem.W.nsIn K mainGlobals "House" = some (some (.ref C_House)))
    (a0 : PySem.W.nsIn K mainGlobals "_law_at" = some (some (.ref f0)))
    (l0 : K.lookup f0 = some ⟨oc0, od0, .func (PySem.W.fnOf "_law_at" "_law_at" (defArgs zs10) (defBody zs10) (defScope zs10) .none kV0 dc0 pm0 an0 cd0 ct0), sl0⟩) (c0 : PySem.W.codeIn K cd0 "_law_at" = true) (k0 : PySem.W.keepIn K (.ref f0) = true)
    (a1 : PySem.W.nsIn K mainGlobals "_law_whole" = some (some (.ref f1)))
    (l1 : K.lookup f1 = some ⟨oc1, od1, .func (PySem.W.fnOf "_law_whole" "_law_whole" (defArgs zs0p) (defBody zs0p) (defScope zs0p) .none kV1 dc1 pm1 an1 cd1 ct1), sl1⟩) (c1 : PySem.W.codeIn K cd1 "_law_whole" = true) (k1 : PySem.W.keepIn K (.ref f1) = true)
    (a2 : PySem.W.nsIn K mainGlobals "_law_is_letter" = some (some (.ref f2)))
    (l2 : K.lookup f2 = some ⟨oc2, od2, .func (PySem.W.fnOf "_law_is_letter" "_law_is_letter" (defArgs zs0b) (defBody zs0b) (defScope zs0b) .none kV2 dc2 pm2 an2 cd2 ct2), sl2⟩) (c2 : PySem.W.codeIn K cd2 "_law_is_letter" = true) (k2 : PySem.W.keepIn K (.ref f2) = true)
    (a3 : PySem.W.nsIn K mainGlobals "_law_are_letters" = some (some (.ref f3)))
    (l3 : K.lookup f3 = some ⟨oc3, od3, .func (PySem.W.fnOf "_law_are_letters" "_law_are_letters" (defArgs zs05) (defBody zs05) (defScope zs05) .none kV3 dc3 pm3 an3 cd3 ct3), sl3⟩) (c3 : PySem.W.codeIn K cd3 "_law_are_letters" = true) (k3 : PySem.W.keepIn K (.ref f3) = true)
    (a4 : PySem.W.nsIn K mainGlobals "_law_to_all" = some (some (.ref f4)))
    (l4 : K.lookup f4 = some ⟨oc4, od4, .func (PySem.W.fnOf "_law_to_all" "_law_to_all" (defArgs zs0n) (defBody zs0n) (defScope zs0n) .none kV4 dc4 pm4 an4 cd4 ct4), sl4⟩) (c4 : PySem.W.codeIn K cd4 "_law_to_all" = true) (k4 : PySem.W.keepIn K (.ref f4) = true)
    (a5 : PySem.W.nsIn K mainGlobals "_law_so" = some (some (.ref f5)))
    (l5 : K.lookup f5 = some ⟨oc5, od5, .func (PySem.W.fnOf "_law_so" "_law_so" (defArgs zs0z) (defBody zs0z) (defScope zs0z) .none kV5 dc5 pm5 an5 cd5 ct5), sl5⟩) (c5 : PySem.W.codeIn K cd5 "_law_so" = true) (k5 : PySem.W.keepIn K (.ref f5) = true)
    (a6 : PySem.W.findIn K (.ref C_House) "forget" = some (some (.ref f6))) (i6 : PySem.W.isFn K (.ref f6) = true)
    (l6 : K.lookup f6 = some ⟨oc6, od6, .func (PySem.W.fnOf "forget" "House.forget" (defArgs zs0c) (defBody zs0c) (defScope zs0c) .none kV6 dc6 pm6 an6 cd6 ct6), sl6⟩) (c6 : PySem.W.codeIn K cd6 "House.forget" = true) (k6 : PySem.W.keepIn K (.ref f6) = true)
    (a7 : PySem.W.findIn K (.ref C_House) "stop" = some (some (.ref f7))) (i7 : PySem.W.isFn K (.ref f7) = true)
    (l7 : K.lookup f7 = some ⟨oc7, od7, .func (PySem.W.fnOf "stop" "House.stop" (defArgs zs0o) (defBody zs0o) (defScope zs0o) .none kV7 dc7 pm7 an7 cd7 ct7), sl7⟩) (c7 : PySem.W.codeIn K cd7 "House.stop" = true) (k7 : PySem.W.keepIn K (.ref f7) = true)
    (a8 : PySem.W.nsIn K mainGlobals "words_of" = some (some (.ref f8)))
    (l8 : K.lookup f8 = some ⟨oc8, od8, .func (PySem.W.fnOf "words_of" "words_of" (defArgs zs0v) (defBody zs0v) (defScope zs0v) .none kV8 dc8 pm8 an8 cd8 ct8), sl8⟩) (c8 : PySem.W.codeIn K cd8 "words_of" = true) (k8 : PySem.W.keepIn K (.ref f8) = true)
    (a9 : PySem.W.nsIn K mainGlobals "decision_in" = some (some (.ref f9)))
    (l9 : K.lookup f9 = some ⟨oc9, od9, .func (PySem.W.fnOf "decision_in" "decision_in" (defArgs zs0h) (defBody zs0h) (defScope zs0h) .none kV9 dc9 pm9 an9 cd9 ct9), sl9⟩) (c9 : PySem.W.codeIn K cd9 "decision_in" = true) (k9 : PySem.W.keepIn K (.ref f9) = true)
    (a10 : PySem.W.nsIn K mainGlobals "left_open" = some (some (.ref f10)))
    (l10 : K.lookup f10 = some ⟨oc10, od10, .func (PySem.W.fnOf "left_open" "left_open" (defArgs zs0t) (defBody zs0t) (defScope zs0t) .none kV10 dc10 pm10 an10 cd10 ct10), sl10⟩) (c10 : PySem.W.codeIn K cd10 "left_open" = true) (k10 : PySem.W.keepIn K (.ref f10) = true)
    (a11 : PySem.W.findIn K (.ref C_House) "write" = some (some (.ref f11))) (i11 : PySem.W.isFn K (.ref f11) = true)
    (l11 : K.lookup f11 = some ⟨oc11, od11, .func (PySem.W.fnOf "write" "House.write" (defArgs zs0j) (defBody zs0j) (defScope zs0j) .none kV11 dc11 pm11 an11 cd11 ct11), sl11⟩) (c11 : PySem.W.codeIn K cd11 "House.write" = true) (k11 : PySem.W.keepIn K (.ref f11) = true)
    (a12 : PySem.W.findIn K (.ref C_House) "to_others" = some (some (.ref f12))) (i12 : PySem.W.isFn K (.ref f12) = true)
    (l12 : K.lookup f12 = some ⟨oc12, od12, .func (PySem.W.fnOf "to_others" "House.to_others" (defArgs zs02) (defBody zs02) (defScope zs02) .none kV12 dc12 pm12 an12 cd12 ct12), sl12⟩) (c12 : PySem.W.codeIn K cd12 "House.to_others" = true) (k12 : PySem.W.keepIn K (.ref f12) = true)
    (a13 : PySem.W.findIn K (.ref C_House) "decide" = some (some (.ref f13))) (i13 : PySem.W.isFn K (.ref f13) = true)
    (l13 : K.lookup f13 = some ⟨oc13, od13, .func (PySem.W.fnOf "decide" "House.decide" (defArgs zs0e) (defBody zs0e) (defScope zs0e) .none kV13 dc13 pm13 an13 cd13 ct13), sl13⟩) (c13 : PySem.W.codeIn K cd13 "House.decide" = true) (k13 : PySem.W.keepIn K (.ref f13) = true)
    (a14 : PySem.W.findIn K (.ref C_House) "wake" = some (some (.ref f14))) (i14 : PySem.W.isFn K (.ref f14) = true)
    (l14 : K.lookup f14 = some ⟨oc14, od14, .func (PySem.W.fnOf "wake" "House.wake" (defArgs zs0l) (defBody zs0l) (defScope zs0l) .none kV14 dc14 pm14 an14 cd14 ct14), sl14⟩) (c14 : PySem.W.codeIn K cd14 "House.wake" = true) (k14 : PySem.W.keepIn K (.ref f14) = true)
    (a15 : PySem.W.nsIn K mainGlobals "_law_rests" = some (some (.ref f15)))
    (l15 : K.lookup f15 = some ⟨oc15, od15, .func (PySem.W.fnOf "_law_rests" "_law_rests" (defArgs zs0r) (defBody zs0r) (defScope zs0r) .none kV15 dc15 pm15 an15 cd15 ct15), sl15⟩) (c15 : PySem.W.codeIn K cd15 "_law_rests" = true) (k15 : PySem.W.keepIn K (.ref f15) = true)
    (a16 : PySem.W.nsIn K mainGlobals "_law_drawn_led" = some (some (.ref f16)))
    (l16 : K.lookup f16 = some ⟨oc16, od16, .func (PySem.W.fnOf "_law_drawn_led" "_law_drawn_led" (defArgs zs08) (defBody zs08) (defScope zs08) .none kV16 dc16 pm16 an16 cd16 ct16), sl16⟩) (c16 : PySem.W.codeIn K cd16 "_law_drawn_led" = true) (k16 : PySem.W.keepIn K (.ref f16) = true)
    (a17 : PySem.W.nsIn K mainGlobals "_law_due_led" = some (some (.ref f17)))
    (l17 : K.lookup f17 = some ⟨oc17, od17, .func (PySem.W.fnOf "_law_due_led" "_law_due_led" (defArgs zs0f) (defBody zs0f) (defScope zs0f) .none kV17 dc17 pm17 an17 cd17 ct17), sl17⟩) (c17 : PySem.W.codeIn K cd17 "_law_due_led" = true) (k17 : PySem.W.keepIn K (.ref f17) = true)
    (a18 : PySem.W.nsIn K mainGlobals "_law_fit" = some (some (.ref f18)))
    (l18 : K.lookup f18 = some ⟨oc18, od18, .func (PySem.W.fnOf "_law_fit" "_law_fit" (defArgs zs0y) (defBody zs0y) (defScope zs0y) .none kV18 dc18 pm18 an18 cd18 ct18), sl18⟩) (c18 : PySem.W.codeIn K cd18 "_law_fit" = true) (k18 : PySem.W.keepIn K (.ref f18) = true)
    (a19 : PySem.W.nsIn K mainGlobals "_law_drawn_letter" = some (some (.ref f19)))
    (l19 : K.lookup f19 = some ⟨oc19, od19, .func (PySem.W.fnOf "_law_drawn_letter" "_law_drawn_letter" (defArgs zs01) (defBody zs01) (defScope zs01) .none kV19 dc19 pm19 an19 cd19 ct19), sl19⟩) (c19 : PySem.W.codeIn K cd19 "_law_drawn_letter" = true) (k19 : PySem.W.keepIn K (.ref f19) = true)
    (a20 : PySem.W.nsIn K mainGlobals "_law_due_letters" = some (some (.ref f20)))
    (l20 : K.lookup f20 = some ⟨oc20, od20, .func (PySem.W.fnOf "_law_due_letters" "_law_due_letters" (defArgs zs04) (defBody zs04) (defScope zs04) .none kV20 dc20 pm20 an20 cd20 ct20), sl20⟩) (c20 : PySem.W.codeIn K cd20 "_law_due_letters" = true) (k20 : PySem.W.keepIn K (.ref f20) = true)
    (a21 : PySem.W.nsIn K mainGlobals "knows" = some (some (.ref f21)))
    (l21 : K.lookup f21 = some ⟨oc21, od21, .func (PySem.W.fnOf "knows" "knows" (defArgs zs11) (defBody zs11) (defScope zs11) .none kV21 dc21 pm21 an21 cd21 ct21), sl21⟩) (c21 : PySem.W.codeIn K cd21 "knows" = true) (k21 : PySem.W.keepIn K (.ref f21) = true)
    (a22 : PySem.W.findIn K (.ref C_House) "page" = some (some (.ref f22))) (i22 : PySem.W.isFn K (.ref f22) = true)
    (l22 : K.lookup f22 = some ⟨oc22, od22, .func (PySem.W.fnOf "page" "House.page" (defArgs zs0k) (defBody zs0k) (defScope zs0k) .none kV22 dc22 pm22 an22 cd22 ct22), sl22⟩) (c22 : PySem.W.codeIn K cd22 "House.page" = true) (k22 : PySem.W.keepIn K (.ref f22) = true)
    (a23 : PySem.W.findIn K (.ref C_House) "decision" = some (some (.ref f23))) (i23 : PySem.W.isFn K (.ref f23) = true)
    (l23 : K.lookup f23 = some ⟨oc23, od23, .func (PySem.W.fnOf "decision" "House.decision" (defArgs zs07) (defBody zs07) (defScope zs07) .none kV23 dc23 pm23 an23 cd23 ct23), sl23⟩) (c23 : PySem.W.codeIn K cd23 "House.decision" = true) (k23 : PySem.W.keepIn K (.ref f23) = true)
    (a24 : PySem.W.findIn K (.ref C_House) "to_one" = some (some (.ref f24))) (i24 : PySem.W.isFn K (.ref f24) = true)
    (l24 : K.lookup f24 = some ⟨oc24, od24, .func (PySem.W.fnOf "to_one" "House.to_one" (defArgs zs0d) (defBody zs0d) (defScope zs0d) .none kV24 dc24 pm24 an24 cd24 ct24), sl24⟩) (c24 : PySem.W.codeIn K cd24 "House.to_one" = true) (k24 : PySem.W.keepIn K (.ref f24) = true)
    (a25 : PySem.W.findIn K (.ref C_House) "got_ask" = some (some (.ref f25))) (i25 : PySem.W.isFn K (.ref f25) = true)
    (l25 : K.lookup f25 = some ⟨oc25, od25, .func (PySem.W.fnOf "got_ask" "House.got_ask" (defArgs zs09) (defBody zs09) (defScope zs09) .none kV25 dc25 pm25 an25 cd25 ct25), sl25⟩) (c25 : PySem.W.codeIn K cd25 "House.got_ask" = true) (k25 : PySem.W.keepIn K (.ref f25) = true)
    (a26 : PySem.W.nsIn K mainGlobals "vote_in" = some (some (.ref f26)))
    (l26 : K.lookup f26 = some ⟨oc26, od26, .func (PySem.W.fnOf "vote_in" "vote_in" (defArgs zs0x) (defBody zs0x) (defScope zs0x) .none kV26 dc26 pm26 an26 cd26 ct26), sl26⟩) (c26 : PySem.W.codeIn K cd26 "vote_in" = true) (k26 : PySem.W.keepIn K (.ref f26) = true)
    (a27 : PySem.W.nsIn K mainGlobals "is_unsure" = some (some (.ref f27)))
    (l27 : K.lookup f27 = some ⟨oc27, od27, .func (PySem.W.fnOf "is_unsure" "is_unsure" (defArgs zs0q) (defBody zs0q) (defScope zs0q) .none kV27 dc27 pm27 an27 cd27 ct27), sl27⟩) (c27 : PySem.W.codeIn K cd27 "is_unsure" = true) (k27 : PySem.W.keepIn K (.ref f27) = true)
    (a28 : PySem.W.findIn K (.ref C_House) "got_query" = some (some (.ref f28))) (i28 : PySem.W.isFn K (.ref f28) = true)
    (l28 : K.lookup f28 = some ⟨oc28, od28, .func (PySem.W.fnOf "got_query" "House.got_query" (defArgs zs03) (defBody zs03) (defScope zs03) .none kV28 dc28 pm28 an28 cd28 ct28), sl28⟩) (c28 : PySem.W.codeIn K cd28 "House.got_query" = true) (k28 : PySem.W.keepIn K (.ref f28) = true)
    (a29 : PySem.W.findIn K (.ref C_House) "got_vote" = some (some (.ref f29))) (i29 : PySem.W.isFn K (.ref f29) = true)
    (l29 : K.lookup f29 = some ⟨oc29, od29, .func (PySem.W.fnOf "got_vote" "House.got_vote" (defArgs zs06) (defBody zs06) (defScope zs06) .none kV29 dc29 pm29 an29 cd29 ct29), sl29⟩) (c29 : PySem.W.codeIn K cd29 "House.got_vote" = true) (k29 : PySem.W.keepIn K (.ref f29) = true)
    (a30 : PySem.W.findIn K (.ref C_House) "got_decision" = some (some (.ref f30))) (i30 : PySem.W.isFn K (.ref f30) = true)
    (l30 : K.lookup f30 = some ⟨oc30, od30, .func (PySem.W.fnOf "got_decision" "House.got_decision" (defArgs zs00) (defBody zs00) (defScope zs00) .none kV30 dc30 pm30 an30 cd30 ct30), sl30⟩) (c30 : PySem.W.codeIn K cd30 "House.got_decision" = true) (k30 : PySem.W.keepIn K (.ref f30) = true)
    (a31 : PySem.W.findIn K (.ref C_House) "got" = some (some (.ref f31))) (i31 : PySem.W.isFn K (.ref f31) = true)
    (l31 : K.lookup f31 = some ⟨oc31, od31, .func (PySem.W.fnOf "got" "House.got" (defArgs zs0s) (defBody zs0s) (defScope zs0s) .none kV31 dc31 pm31 an31 cd31 ct31), sl31⟩) (c31 : PySem.W.codeIn K cd31 "House.got" = true) (k31 : PySem.W.keepIn K (.ref f31) = true)
    (a32 : PySem.W.nsIn K mainGlobals "got_all" = some (some (.ref f32)))
    (l32 : K.lookup f32 = some ⟨oc32, od32, .func (PySem.W.fnOf "got_all" "got_all" (defArgs zs0w) (defBody zs0w) (defScope zs0w) .none kV32 dc32 pm32 an32 cd32 ct32), sl32⟩) (c32 : PySem.W.codeIn K cd32 "got_all" = true) (k32 : PySem.W.keepIn K (.ref f32) = true)
    (a33 : PySem.W.nsIn K mainGlobals "_law_is_line" = some (some (.ref f33)))
    (l33 : K.lookup f33 = some ⟨oc33, od33, .func (PySem.W.fnOf "_law_is_line" "_law_is_line" (defArgs zs0i) (defBody zs0i) (defScope zs0i) .none kV33 dc33 pm33 an33 cd33 ct33), sl33⟩) (c33 : PySem.W.codeIn K cd33 "_law_is_line" = true) (k33 : PySem.W.keepIn K (.ref f33) = true)
    (a34 : PySem.W.nsIn K mainGlobals "_law_are_lines" = some (some (.ref f34)))
    (l34 : K.lookup f34 = some ⟨oc34, od34, .func (PySem.W.fnOf "_law_are_lines" "_law_are_lines" (defArgs zs0a) (defBody zs0a) (defScope zs0a) .none kV34 dc34 pm34 an34 cd34 ct34), sl34⟩) (c34 : PySem.W.codeIn K cd34 "_law_are_lines" = true) (k34 : PySem.W.keepIn K (.ref f34) = true)
    (a35 : PySem.W.nsIn K mainGlobals "_law_gets" = some (some (.ref f35)))
    (l35 : K.lookup f35 = some ⟨oc35, od35, .func (PySem.W.fnOf "_law_gets" "_law_gets" (defArgs zs0u) (defBody zs0u) (defScope zs0u) .none kV35 dc35 pm35 an35 cd35 ct35), sl35⟩) (c35 : PySem.W.codeIn K cd35 "_law_gets" = true) (k35 : PySem.W.keepIn K (.ref f35) = true)
    (a36 : PySem.W.findIn K (.ref C_House) "begin" = some (some (.ref f36))) (i36 : PySem.W.isFn K (.ref f36) = true)
    (l36 : K.lookup f36 = some ⟨oc36, od36, .func (PySem.W.fnOf "begin" "House.begin" (defArgs zs0g) (defBody zs0g) (defScope zs0g) .none kV36 dc36 pm36 an36 cd36 ct36), sl36⟩) (c36 : PySem.W.codeIn K cd36 "House.begin" = true) (k36 : PySem.W.keepIn K (.ref f36) = true)
    (a37 : PySem.W.findIn K (.ref C_House) "__init__" = some (some (.ref f37))) (i37 : PySem.W.isFn K (.ref f37) = true)
    (l37 : K.lookup f37 = some ⟨oc37, od37, .func (PySem.W.fnOf "__init__" "House.__init__" (defArgs zs0m) (defBody zs0m) (defScope zs0m) .none kV37 dc37 pm37 an37 cd37 ct37), sl37⟩) (c37 : PySem.W.codeIn K cd37 "House.__init__" = true) (k37 : PySem.W.keepIn K (.ref f37) = true)
    (a38 : PySem.W.nsIn K mainGlobals "law" = some (some (.ref f38)))
    (l38 : K.lookup f38 = some ⟨oc38, od38, .func (PySem.W.fnOf "law" "law" (defArgs zs12) (defBody zs12) (defScope zs12) .none kV38 dc38 pm38 an38 cd38 ct38), sl38⟩) (c38 : PySem.W.codeIn K cd38 "law" = true) (k38 : PySem.W.keepIn K (.ref f38) = true)
    (z_bool : PySem.W.nsIn K mainGlobals "bool" = some none)
    (z_dict : PySem.W.nsIn K mainGlobals "dict" = some none)
    (z_int : PySem.W.nsIn K mainGlobals "int" = some none)
    (z_isinstance : PySem.W.nsIn K mainGlobals "isinstance" = some none)
    (z_len : PySem.W.nsIn K mainGlobals "len" = some none)
    (z_list : PySem.W.nsIn K mainGlobals "list" = some none)
    (z_range : PySem.W.nsIn K mainGlobals "range" = some none)
    (z_str : PySem.W.nsIn K mainGlobals "str" = some none)
    (z_tuple : PySem.W.nsIn K mainGlobals "tuple" = some none)
    (pg_House : PySem.W.plainGet K C_House Str.empty = true) (hd_House : PySem.W.hasDictIn K C_House = true) (po_House : PySem.W.plainOver K C_House = true) (sa_House : PySem.W.findIn K (.ref C_House) "__setattr__" = some (some (.builtin "object.__setattr__"))) (mk_House : PySem.W.makesIn K C_House = true) (kc_House : PySem.W.keepIn K (.ref C_House) = true)
    (n_House_against : PySem.W.findIn K (.ref C_House) "against" = some none)
    (n_House_awake : PySem.W.findIn K (.ref C_House) "awake" = some none)
    (n_House_book : PySem.W.findIn K (.ref C_House) "book" = some none)
    (n_House_counted : PySem.W.findIn K (.ref C_House) "counted" = some none)
    (n_House_lines_read : PySem.W.findIn K (.ref C_House) "lines_read" = some none)
    (n_House_number : PySem.W.findIn K (.ref C_House) "number" = some none)
    (n_House_others : PySem.W.findIn K (.ref C_House) "others" = some none)
    (n_House_pages : PySem.W.findIn K (.ref C_House) "pages" = some none) :
    ∃ fd : FuncData, (∀ (s : Shared) (v : Value), BindsTo s fd ⟨[v], []⟩ [("_law_script", v)]) ∧ ∀ base : Heap, K.In base → base.Ns mainGlobals mg → FnOk l.prog w K mg base CX0 8 fa fd ["_law_script"] (spLaw K) := by
  have e := hfa.symm.trans (PySem.W.mg_of X G a38)
  cases e
  have T : Txt K mg C_House := ⟨trivial, PySem.W.mg_none_of X G z_bool, PySem.W.mg_none_of X G z_dict, PySem.W.mg_none_of X G z_int, PySem.W.mg_none_of X G z_isinstance, PySem.W.mg_none_of X G z_len, PySem.W.mg_none_of X G z_list, PySem.W.mg_none_of X G z_range, PySem.W.mg_none_of X G z_str, PySem.W.mg_none_of X G z_tuple, ⟨pg_House, hd_House, po_House, sa_House⟩, PySem.W.mg_of X G aC_House, n_House_against, n_House_awake, n_House_book, n_House_counted, n_House_lines_read, n_House_number, n_House_others, n_House_pages⟩
  have F0 := fun_mk (st := zs10) l0 c0 k0
  have F1 := fun_mk (st := zs0p) l1 c1 k1
  have F2 := fun_mk (st := zs0b) l2 c2 k2
  have F3 := fun_mk (st := zs05) l3 c3 k3
  have F4 := fun_mk (st := zs0n) l4 c4 k4
  have F5 := fun_mk (st := zs0z) l5 c5 k5
  have F6 := fun_mk (st := zs0c) l6 c6 k6
  have F7 := fun_mk (st := zs0o) l7 c7 k7
  have F8 := fun_mk (st := zs0v) l8 c8 k8
  have F9 := fun_mk (st := zs0h) l9 c9 k9
  have F10 := fun_mk (st := zs0t) l10 c10 k10
  have F11 := fun_mk (st := zs0j) l11 c11 k11
  have F12 := fun_mk (st := zs02) l12 c12 k12
  have F13 := fun_mk (st := zs0e) l13 c13 k13
  have F14 := fun_mk (st := zs0l) l14 c14 k14
  have F15 := fun_mk (st := zs0r) l15 c15 k15
  have F16 := fun_mk (st := zs08) l16 c16 k16
  have F17 := fun_mk (st := zs0f) l17 c17 k17
  have F18 := fun_mk (st := zs0y) l18 c18 k18
  have F19 := fun_mk (st := zs01) l19 c19 k19
  have F20 := fun_mk (st := zs04) l20 c20 k20
  have F21 := fun_mk (st := zs11) l21 c21 k21
  have F22 := fun_mk (st := zs0k) l22 c22 k22
  have F23 := fun_mk (st := zs07) l23 c23 k23
  have F24 := fun_mk (st := zs0d) l24 c24 k24
  have F25 := fun_mk (st := zs09) l25 c25 k25
  have F26 := fun_mk (st := zs0x) l26 c26 k26
  have F27 := fun_mk (st := zs0q) l27 c27 k27
  have F28 := fun_mk (st := zs03) l28 c28 k28
  have F29 := fun_mk (st := zs06) l29 c29 k29
  have F30 := fun_mk (st := zs00) l30 c30 k30
  have F31 := fun_mk (st := zs0s) l31 c31 k31
  have F32 := fun_mk (st := zs0w) l32 c32 k32
  have F33 := fun_mk (st := zs0i) l33 c33 k33
  have F34 := fun_mk (st := zs0a) l34 c34 k34
  have F35 := fun_mk (st := zs0u) l35 c35 k35
  have F36 := fun_mk (st := zs0g) l36 c36 k36
  have F37 := fun_mk (st := zs0m) l37 c37 k37
  have F38 := fun_mk (st := zs12) l38 c38 k38
  refine ⟨PySem.W.fnOf "law" "law" (defArgs zs12) (defBody zs12) (defScope zs12) .none kV38 dc38 pm38 an38 cd38 ct38, fun s v => .of_eq rfl, fun base _ _ => ?_⟩
  have zh10 := zok10 (P := l.prog) (w := w) (base := base) F0 T  (PySem.W.mg_of X G a0)
  have zh0p := zok0p (P := l.prog) (w := w) (base := base) F1 T  (PySem.W.mg_of X G a1)
  have zh0b := zok0b (P := l.prog) (w := w) (base := base) F2 T zh0p (PySem.W.mg_of X G a2)
  have zh05 := zok05 (P := l.prog) (w := w) (base := base) F3 T zh0b (PySem.W.mg_of X G a3)
  have zh0n := zok0n (P := l.prog) (w := w) (base := base) F4 T  (PySem.W.mg_of X G a4)
  have zh0z := zok0z F5 T 2 3 (zok0z F5 T 1 2 (zok0z F5 T 0 1 (no_law_so (P := l.prog) (w := w) (base := base) F5 (PySem.W.mg_of X G a5)) (PySem.W.mg_of X G a5)) (PySem.W.mg_of X G a5)) (PySem.W.mg_of X G a5)
  have zh0c := zok0c (P := l.prog) (w := w) (base := base) F6 T  ⟨a6, i6, k6⟩
  have zh0o := zok0o (P := l.prog) (w := w) (base := base) F7 T zh0c ⟨a7, i7, k7⟩
  have zh0v := zok0v (P := l.prog) (w := w) (base := base) F8 T  (PySem.W.mg_of X G a8)
  have zh0h := zok0h (P := l.prog) (w := w) (base := base) F9 T zh0v (PySem.W.mg_of X G a9)
  have zh0t := zok0t (P := l.prog) (w := w) (base := base) F10 T zh0h (PySem.W.mg_of X G a10)
  have zh0j := zok0j (P := l.prog) (w := w) (base := base) F11 T  ⟨a11, i11, k11⟩
  have zh02 := zok02 (P := l.prog) (w := w) (base := base) F12 T  ⟨a12, i12, k12⟩
  have zh0e := zok0e (P := l.prog) (w := w) (base := base) F13 T zh0j zh02 ⟨a13, i13, k13⟩
  have zh0l := zok0l (P := l.prog) (w := w) (base := base) F14 T zh0t zh0e ⟨a14, i14, k14⟩
  have zh0r := zok0r (P := l.prog) (w := w) (base := base) F15 T zh0n zh05 zh0z zh0o zh0l (PySem.W.mg_of X G a15)
  have zh08 := zok08 (P := l.prog) (w := w) (base := base) F16 T  (PySem.W.mg_of X G a16)
  have zh0f := zok0f (P := l.prog) (w := w) (base := base) F17 T zh0n (PySem.W.mg_of X G a17)
  have zh0y := zok0y (P := l.prog) (w := w) (base := base) F18 T  (PySem.W.mg_of X G a18)
  have zh01 := zok01 (P := l.prog) (w := w) (base := base) F19 T zh0y (PySem.W.mg_of X G a19)
  have zh04 := zok04 (P := l.prog) (w := w) (base := base) F20 T  (PySem.W.mg_of X G a20)
  have zh11 := zok11 (P := l.prog) (w := w) (base := base) F21 T zh0v (PySem.W.mg_of X G a21)
  have zh0k := zok0k (P := l.prog) (w := w) (base := base) F22 T  ⟨a22, i22, k22⟩
  have zh07 := zok07 (P := l.prog) (w := w) (base := base) F23 T zh0h zh0k ⟨a23, i23, k23⟩
  have zh0d := zok0d (P := l.prog) (w := w) (base := base) F24 T  ⟨a24, i24, k24⟩
  have zh09 := zok09 (P := l.prog) (w := w) (base := base) F25 T zh11 zh0k zh0j zh07 zh0d ⟨a25, i25, k25⟩
  have zh0x := zok0x (P := l.prog) (w := w) (base := base) F26 T zh0v (PySem.W.mg_of X G a26)
  have zh0q := zok0q (P := l.prog) (w := w) (base := base) F27 T zh0x zh0h (PySem.W.mg_of X G a27)
  have zh03 := zok03 (P := l.prog) (w := w) (base := base) F28 T zh0q zh11 zh0k zh07 zh0d zh0e zh0j ⟨a28, i28, k28⟩
  have zh06 := zok06 (P := l.prog) (w := w) (base := base) F29 T zh07 zh0d zh0e ⟨a29, i29, k29⟩
  have zh00 := zok00 (P := l.prog) (w := w) (base := base) F30 T zh07 zh0j ⟨a30, i30, k30⟩
  have zh0s := zok0s (P := l.prog) (w := w) (base := base) F31 T zh09 zh03 zh06 zh00 ⟨a31, i31, k31⟩
  have zh0w := zok0w (P := l.prog) (w := w) (base := base) F32 T zh0s (PySem.W.mg_of X G a32)
  have zh0i := zok0i (P := l.prog) (w := w) (base := base) F33 T zh0p (PySem.W.mg_of X G a33)
  have zh0a := zok0a (P := l.prog) (w := w) (base := base) F34 T zh0i (PySem.W.mg_of X G a34)
  have zh0u := zok0u (P := l.prog) (w := w) (base := base) F35 T zh0w zh05 zh0a zh0s (PySem.W.mg_of X G a35)
  have zh0g := zok0g (P := l.prog) (w := w) (base := base) F36 T zh0j zh02 ⟨a36, i36, k36⟩
  have zh0m := zok0m (P := l.prog) (w := w) (base := base) F37 T zh0c ⟨mk_House, a37, i37, kc_House⟩
  exact zok12 F38 T zh10 zh05 zh0n zh0r zh08 zh0f zh01 zh04 zh0u zh0g zh0m
theorem walk {l : PySem.W.OpenLaw} {q : Program} {loose : List Str} {XP : (Str → Option Value) → Heap → Prop} {YP : World → Heap → Prop} {d : DefRec} {K : Params → PySem.W.Frag} (hn : l.most = some 63) (hdf : d.params.defaults = [])
    (hY : ∀ (w : World) (h : Heap), YP w h → (K w.params).In h)
    (F : ∀ (w : World) (mg : Str → Option Value) (fa : Addr) (h : Heap), (K w.params).In h → h.Ns mainGlobals mg → mg d.name = some (.ref fa) →
      ∃ fd : FuncData, (∀ (s : Shared) (u : Value), BindsTo s fd ⟨[u], []⟩ [("_law_script", u)]) ∧ ∀ base : Heap, (K w.params).In base → base.Ns mainGlobals mg → FnOk l.prog w (K w.params) mg base CX0 8 fa fd ["_law_script"] (spLaw (K w.params))) :
    PySem.W.WalkO q loose XP YP l.row.toRowW d [] (fun f vs => PySem.call f vs) :=
  L2.walk_of (n := 63) (k := 8) (x := "_law_script") (CX := fun _ => CX0) (sp := fun w => spLaw (K w.params)) hn (by decide) hdf ⟨rfl, by decide, by decide⟩ hY F (fun _ _ a ns hl _ hS => ⟨a, ns, rfl, hS, hl, fun _ => rfl⟩) fun _ _ _ _ _ z => z
end Oh
def PySem.W.Fast.tw11574035438416909695 : Nat := 0
def PySem.W.Fast.tw11966595030955235546 : Nat := 0
def PySem.W.Fast.tw5920667982023071254 : Nat := 0
def PySem.W.Fast.tw11960687202875195607 : Nat := 0
def PySem.W.Fast.tw17783024317677437137 : Nat := 0
def PySem.W.Fast.tw13535099561313452267 : Nat := 0
def PySem.W.Fast.tw485890985920774955 : Nat := 0
def PySem.W.Fast.tw16039372619995397094 : Nat := 0
open PySem PySem.W PyProof.Rows
set_option maxRecDepth 100000 in
set_option maxHeartbeats 0 in
theorem PySem.Challenge.cw_oathhall_k02_a_house_that_is_asked_holds : PySem.Challenge.rw_oathhall_k02_a_house_that_is_asked.Holds := by
  w_on; o_law; k_head; (case hw => w_witness2)
  k_fill
  refine Oh.walk (l := PySem.Challenge.rw_oathhall_k02_a_house_that_is_asked) rfl rfl (fun w h Y => PySem.W.kIn_of Y) ?F
  case F =>
    intro w mg fa h KX G hmg
    refine' Oh.all_mk KX G hmg ?aC_House ?a0 ?l0 ?c0 ?k0 ?a1 ?l1 ?c1 ?k1 ?a2 ?l2 ?c2 ?k2 ?a3 ?l3 ?c3 ?k3 ?a4 ?l4 ?c4 ?k4 ?a5 ?l5 ?c5 ?k5 ?a6 ?i6 ?l6 ?c6 ?k6 ?a7 ?i7 ?l7 ?c7 ?k7 ?a8 ?l8 ?c8 ?k8 ?a9 ?l9 ?c9 ?k9 ?a10 ?l10 ?c10 ?k10 ?a11 ?i11 ?l11 ?c11 ?k11 ?a12 ?i12 ?l12 ?c12 ?k12 ?a13 ?i13 ?l13 ?c13 ?k13 ?a14 ?i14 ?l14 ?c14 ?k14 ?a15 ?l15 ?c15 ?k15 ?a16 ?l16 ?c16 ?k16 ?a17 ?l17 ?c17 ?k17 ?a18 ?l18 ?c18 ?k18 ?a19 ?l19 ?c19 ?k19 ?a20 ?l20 ?c20 ?k20 ?a21 ?l21 ?c21 ?k21 ?a22 ?i22 ?l22 ?c22 ?k22 ?a23 ?i23 ?l23 ?c23 ?k23 ?a24 ?i24 ?l24 ?c24 ?k24 ?a25 ?i25 ?l25 ?c25 ?k25 ?a26 ?l26 ?c26 ?k26 ?a27 ?l27 ?c27 ?k27 ?a28 ?i28 ?l28 ?c28 ?k28 ?a29 ?i29 ?l29 ?c29 ?k29 ?a30 ?i30 ?l30 ?c30 ?k30 ?a31 ?i31 ?l31 ?c31 ?k31 ?a32 ?l32 ?c32 ?k32 ?a33 ?l33 ?c33 ?k33 ?a34 ?l34 ?c34 ?k34 ?a35 ?l35 ?c35 ?k35 ?a36 ?i36 ?l36 ?c36 ?k36 ?a37 ?i37 ?l37 ?c37 ?k37 ?a38 ?l38 ?c38 ?k38 ?z_bool ?z_dict ?z_int ?z_isinstance ?z_len ?z_list ?z_range ?z_str ?z_tuple ?pg_House ?hd_House ?po_House ?sa_House ?mk_House ?kc_House ?n_House_against ?n_House_awake ?n_House_book ?n_House_counted ?n_House_lines_read ?n_House_number ?n_House_others ?n_House_pages
    (case aC_House => k_is)
    (case a0 => k_is)
    (case l0 => k_is)
    (case c0 => k_is)
    (case k0 => k_is)
    (case a1 => k_is)
    (case l1 => k_is)
    (case c1 => k_is)
    (case k1 => k_is)
    (case a2 => k_is)
    (case l2 => k_is)
    (case c2 => k_is)
    (case k2 => k_is)
    (case a3 => k_is)
    (case l3 => k_is)
    (case c3 => k_is)
    (case k3 => k_is)
    (case a4 => k_is)
    (case l4 => k_is)
    (case c4 => k_is)
    (case k4 => k_is)
    (case a5 => k_is)
    (case l5 => k_is)
    (case c5 => k_is)
    (case k5 => k_is)
    (case a6 => k_is)
    (case i6 => k_is)
    (case l6 => k_is)
    (case c6 => k_is)
    (case k6 => k_is)
    (case a7 => k_is)
    (case i7 => k_is)
    (case l7 => k_is)
    (case c7 => k_is)
    (case k7 => k_is)
    (case a8 => k_is)
    (case l8 => k_is)
    (case c8 => k_is)
    (case k8 => k_is)
    (case a9 => k_is)
    (case l9 => k_is)
    (case c9 => k_is)
    (case k9 => k_is)
    (case a10 => k_is)
    (case l10 => k_is)
    (case c10 => k_is)
    (case k10 => k_is)
    (case a11 => k_is)
    (case i11 => k_is)
    (case l11 => k_is)
    (case c11 => k_is)
    (case k11 => k_is)
    (case a12 => k_is)
    (case i12 => k_is)
    (case l12 => k_is)
    (case c12 => k_is)
    (case k12 => k_is)
    (case a13 => k_is)
    (case i13 => k_is)
    (case l13 => k_is)
    (case c13 => k_is)
    (case k13 => k_is)
    (case a14 => k_is)
    (case i14 => k_is)
    (case l14 => k_is)
    (case c14 => k_is)
    (case k14 => k_is)
    (case a15 => k_is)
    (case l15 => k_is)
    (case c15 => k_is)
    (case k15 => k_is)
    (case a16 => k_is)
    (case l16 => k_is)
    (case c16 => k_is)
    (case k16 => k_is)
    (case a17 => k_is)
    (case l17 => k_is)
    (case c17 => k_is)
    (case k17 => k_is)
    (case a18 => k_is)
    (case l18 => k_is)
    (case c18 => k_is)
    (case k18 => k_is)
    (case a19 => k_is)
    (case l19 => k_is)
    (case c19 => k_is)
    (case k19 => k_is)
    (case a20 => k_is)
    (case l20 => k_is)
    (case c20 => k_is)
    (case k20 => k_is)
    (case a21 => k_is)
    (case l21 => k_is)
    (case c21 => k_is)
    (case k21 => k_is)
    (case a22 => k_is)
    (case i22 => k_is)
    (case l22 => k_is)
    (case c22 => k_is)
    (case k22 => k_is)
    (case a23 => k_is)
    (case i23 => k_is)
    (case l23 => k_is)
    (case c23 => k_is)
    (case k23 => k_is)
    (case a24 => k_is)
    (case i24 => k_is)
    (case l24 => k_is)
    (case c24 => k_is)
    (case k24 => k_is)
    (case a25 => k_is)
    (case i25 => k_is)
    (case l25 => k_is)
    (case c25 => k_is)
    (case k25 => k_is)
    (case a26 => k_is)
    (case l26 => k_is)
    (case c26 => k_is)
    (case k26 => k_is)
    (case a27 => k_is)
    (case l27 => k_is)
    (case c27 => k_is)
    (case k27 => k_is)
    (case a28 => k_is)
    (case i28 => k_is)
    (case l28 => k_is)
    (case c28 => k_is)
    (case k28 => k_is)
    (case a29 => k_is)
    (case i29 => k_is)
    (case l29 => k_is)
    (case c29 => k_is)
    (case k29 => k_is)
    (case a30 => k_is)
    (case i30 => k_is)
    (case l30 => k_is)
    (case c30 => k_is)
    (case k30 => k_is)
    (case a31 => k_is)
    (case i31 => k_is)
    (case l31 => k_is)
    (case c31 => k_is)
    (case k31 => k_is)
    (case a32 => k_is)
    (case l32 => k_is)
    (case c32 => k_is)
    (case k32 => k_is)
    (case a33 => k_is)
    (case l33 => k_is)
    (case c33 => k_is)
    (case k33 => k_is)
    (case a34 => k_is)
    (case l34 => k_is)
    (case c34 => k_is)
    (case k34 => k_is)
    (case a35 => k_is)
    (case l35 => k_is)
    (case c35 => k_is)
    (case k35 => k_is)
    (case a36 => k_is)
    (case i36 => k_is)
    (case l36 => k_is)
    (case c36 => k_is)
    (case k36 => k_is)
    (case a37 => k_is)
    (case i37 => k_is)
    (case l37 => k_is)
    (case c37 => k_is)
    (case k37 => k_is)
    (case a38 => k_is)
    (case l38 => k_is)
    (case c38 => k_is)
    (case k38 => k_is)
    (case z_bool => k_is)
    (case z_dict => k_is)
    (case z_int => k_is)
    (case z_isinstance => k_is)
    (case z_len => k_is)
    (case z_list => k_is)
    (case z_range => k_is)
    (case z_str => k_is)
    (case z_tuple => k_is)
    (case pg_House => k_is)
    (case hd_House => k_is)
    (case po_House => k_is)
    (case sa_House => k_is)
    (case mk_House => k_is)
    (case kc_House => k_is)
    (case n_House_against => k_is)
    (case n_House_awake => k_is)
    (case n_House_book => k_is)
    (case n_House_counted => k_is)
    (case n_House_lines_read => k_is)
    (case n_House_number => k_is)
    (case n_House_others => k_is)
    (case n_House_pages => k_is)

