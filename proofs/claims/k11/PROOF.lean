import PyProof.Rows.All
import Wide.All
import OpenK.AllK
import Wide.FinOn
import Lean
import PyProof.EqAt
import PyProof.EqKinds
import PyProof.TupleCall
import KE.KIntText
import PySem.Challenge.RW_oathhall_k11_whole_books_stand
set_option Elab.async false
set_option linter.all false
set_option maxRecDepth 100000
namespace L2
open PySem PySem.Spec PyProof.Rows
abbrev Key := Sum Int Str
def keyIs : Key → Value → Bool
  | .inl k, v => Value.isInt k v
  | .inr x, v => Value.isStrOf x v
def keyH (w : World) : Key → Int
  | .inl k => hashInt k
  | .inr x => hashStr w x
theorem keyIs_shape : ∀ {k : Key} {v : Value}, keyIs k v = true → (∃ i t, k = Sum.inl i ∧ v = Value.int i t) ∨ (∃ x t, k = Sum.inr x ∧ v = Value.str x t)
  | .inl i, v, h => by
    obtain ⟨t, e⟩ := Value.isInt_shape (k := i) (v := v) h
    exact .inl ⟨i, t, rfl, e⟩
  | .inr x, v, h => by
    obtain ⟨t, e⟩ := Value.isStrOf_shape (x := x) (v := v) h
    exact .inr ⟨x, t, rfl, e⟩
theorem keyIs_int (i : Int) (t : Tok) : keyIs (.inl i) (.int i t) = true := by simp [keyIs, Value.isInt]
theorem keyIs_str (x : Str) (t : Tok) : keyIs (.inr x) (.str x t) = true := by simp [keyIs, Value.isStrOf]
theorem key_ll (a b : Int) : decide ((Sum.inl a : Key) = Sum.inl b) = (a == b) := by
  by_cases e : a = b
  · subst e; simp
  · have h : ¬ (Sum.inl a : Key) = Sum.inl b := fun q => e (Sum.inl.inj q)
    rw [decide_eq_false h]
    exact (beq_eq_false_iff_ne.mpr e).symm
theorem key_rr (a b : Str) : decide ((Sum.inr a : Key) = Sum.inr b) = decide (a = b) := by
  by_cases e : a = b
  · subst e; simp
  · have h : ¬ (Sum.inr a : Key) = Sum.inr b := fun q => e (Sum.inr.inj q)
    rw [decide_eq_false h, decide_eq_false e]
theorem key_lr (a : Int) (b : Str) : decide ((Sum.inl a : Key) = Sum.inr b) = false := decide_eq_false (fun q => nomatch q)
theorem key_rl (a : Str) (b : Int) : decide ((Sum.inr a : Key) = Sum.inl b) = false := decide_eq_false (fun q => nomatch q)
def mixKind (prog : Program) (w : World) : PySem.KeyKind prog w Key where
  is := keyIs
  hash := keyH w
  inj := fun v a b ha hb => by
    rcases keyIs_shape ha with ⟨i, t, rfl, rfl⟩ | ⟨x, t, rfl, rfl⟩
    · rcases keyIs_shape hb with ⟨j, u, rfl, e⟩ | ⟨y, u, rfl, e⟩
      · injection e with e1 _; rw [e1]
      · exact nomatch e
    · rcases keyIs_shape hb with ⟨j, u, rfl, e⟩ | ⟨y, u, rfl, e⟩
      · exact nomatch e
      · injection e with e1 _; rw [e1]
  byValue := fun k v h => by
    rcases keyIs_shape h with ⟨i, t, rfl, rfl⟩ | ⟨x, t, rfl, rfl⟩ <;> rfl
  pyHash := fun hv h => by
    rcases keyIs_shape hv with ⟨i, t, rfl, rfl⟩ | ⟨x, t, rfl, rfl⟩
    · exact wpAny_pyHash_int h
    · exact wpAny_pyHash_str h
  eqBool := fun hu hv h => by
    rcases keyIs_shape hu with ⟨i, t, rfl, rfl⟩ | ⟨x, t, rfl, rfl⟩
    · rcases keyIs_shape hv with ⟨j, u, rfl, rfl⟩ | ⟨y, u, rfl, rfl⟩
      · rw [key_ll] at h; exact wpAny_eqBool_int h
      · rw [key_lr] at h; exact SeqAt.EqAt.int_str i t y u _ _ _ _ h
    · rcases keyIs_shape hv with ⟨j, u, rfl, rfl⟩ | ⟨y, u, rfl, rfl⟩
      · rw [key_rl] at h; exact SeqAt.EqAt.str_int x t j u _ _ _ _ h
      · rw [key_rr] at h; exact wpAny_eqBool_str h
  «strs» := fun k x t v h => by
    rcases keyIs_shape h with ⟨i, u, rfl, e⟩ | ⟨y, u, rfl, e⟩
    · exact nomatch e
    · injection e with e1 _
      subst e1
      cases v <;> rfl
theorem mixKind_int (prog : Program) (w : World) (i : Int) (t : Tok) : (mixKind prog w).is (.inl i) (.int i t) = true := keyIs_int i t
theorem mixKind_str (prog : Program) (w : World) (x : Str) (t : Tok) : (mixKind prog w).is (.inr x) (.str x t) = true := keyIs_str x t
end L2
namespace L2
open PySem PySem.Spec PyProof.Rows
inductive V where
  | non | bl (b : Bool) | int (i : Int) | str (x : Str) | byt (b : Array UInt8) | flt (b : UInt64) | ref (a : Addr) | ty (n : String)
  deriving DecidableEq
def RelV : V → Value → Prop
  | .non, u => u = Value.none
  | .bl b, u => u = Value.bool b
  | .int i, u => ∃ t, u = Value.int i t
  | .str x, u => ∃ t, u = Value.str x t
  | .byt b, u => ∃ t, u = Value.bytes b t
  | .flt b, u => ∃ t, u = Value.float b t
  | .ref a, u => u = Value.ref a
  | .ty n, u => u = Value.type n
abbrev Vals : List V → List Value → Prop := Paired RelV
theorem Vals.length {xs : List V} {us : List Value} (r : Vals xs us) : xs.length = us.length := Paired.length r
theorem Vals.get : ∀ {xs : List V} {us : List Value} {i : Nat} {x : V}, Vals xs us → xs[i]? = some x → ∃ u, us[i]? = some u ∧ RelV x u
  | _, _, _, _, .nil, e => by simp at e
  | _, _, 0, _, .cons r _, e => by simp at e; subst e; exact ⟨_, rfl, r⟩
  | _, _, i + 1, x, .cons _ t, e => by
    obtain ⟨u, h1, h2⟩ := Vals.get (i := i) (x := x) t (by simpa using e)
    exact ⟨u, by simpa using h1, h2⟩
theorem Vals.append : ∀ {xs ys : List V} {us ws : List Value}, Vals xs us → Vals ys ws → Vals (xs ++ ys) (us ++ ws)
  | _, _, _, _, .nil, s => s
  | _, _, _, _, .cons r t, s => .cons r (Vals.append t s)
theorem Vals.take : ∀ {xs : List V} {us : List Value} (n : Nat), Vals xs us → Vals (xs.take n) (us.take n)
  | _, _, 0, _ => .nil
  | _, _, _ + 1, .nil => .nil
  | _, _, n + 1, .cons r t => .cons r (Vals.take n t)
theorem Vals.drop : ∀ {xs : List V} {us : List Value} (n : Nat), Vals xs us → Vals (xs.drop n) (us.drop n)
  | _, _, 0, r => r
  | _, _, _ + 1, .nil => .nil
  | _, _, n + 1, .cons _ t => Vals.drop n t
def RelO : Option V → Option Value → Prop
  | some v, some u => RelV v u
  | none, none => True
  | _, _ => False
def KV {κ : Type} : List (κ × V) → List (κ × Value) → Prop := Paired fun (p : κ × V) (q : κ × Value) => p.1 = q.1 ∧ RelV p.2 q.2
def kV : Key → V
  | .inl i => .int i
  | .inr x => .str x
inductive HO where
  
  | lst (xs : List V)
  
  | tup (xs : List V)
  
  | dK (kvs : List (Key × V)) | dT (kvs : List (List Key × V))
  
  | set (S : Int → Bool) (n : Nat)
  
  | ins (C dx : Addr) (fs : List (Str × V))
  
  | own (x : Addr)
  
  | xd (fs : List (Str × V))
  
  | met (f x : Addr)
  
  | rng (lo hi : Int)
  
  | frz (o : Obj) (u : HO)
  
  | tbl (ps : Array Value)
  
  | ext (φ : Heap → Prop)
abbrev Hp := Addr → Option HO
def upd (H : Hp) (a : Addr) (o : HO) : Hp := fun b => if b = a then some o else H b
theorem upd_same {H : Hp} {a : Addr} {o : HO} : upd H a o a = some o := by unfold upd; rw [if_pos rfl]
theorem upd_ne {H : Hp} {a b : Addr} {o : HO} (h : b ≠ a) : upd H a o b = H b := by unfold upd; rw [if_neg h]
theorem upd_upd {H : Hp} {a : Addr} {o u : HO} : upd (upd H a o) a u = upd H a u := by
  funext b; unfold upd; split <;> rfl
theorem ne_of {H : Hp} {a b : Addr} {o u : HO} (h : H a = some o) (h' : H b = some u) (d : o ≠ u) : a ≠ b := by
  intro e; subst e; rw [h] at h'; exact d (Option.some.inj h')
theorem ne_of_none {H : Hp} {a b : Addr} {o : HO} (h : H a = some o) (h' : H b = none) : a ≠ b := by
  intro e; subst e; rw [h] at h'; cases h'
section
variable (P : Program) (w : World)
def ObjOk (H : Hp) (h : Heap) (a : Addr) : HO → Prop
  | .lst xs => xs.length ≤ sizeLine ∧ ∃ (its : List Value) (n : Nat), Vals xs its ∧ h.get? a = some { cls := .type "list", data := .seq its.toArray n }
  | .tup xs => xs.length ≤ sizeLine ∧ ∃ its : List Value, Vals xs its ∧ IsTup h a its.toArray
  | .dK kvs => kvs.length ≤ sizeLine ∧ (a == sysModules) = false ∧ ∃ vs, KV kvs vs ∧ h.DictOf (mixKind P w) a vs
  | .dT kvs => kvs.length ≤ sizeLine ∧ (a == sysModules) = false ∧ ∃ xs : List (List Key × Addr × Value),
      Paired (fun (p : List Key × V) (q : List Key × Addr × Value) => p.1 = q.1 ∧ H q.2.1 = some (.tup (p.1.map kV)) ∧ RelV p.2 q.2.2) kvs xs ∧
      ∃ o es ep, h.get? a = some o ∧ o.ExactDict ∧ o.data = .dict es ep ∧ es.toList = xs.map (entryOfKey (tupleKind (mixKind P w))) ∧ (xs.map (·.1)).Nodup
  | .set S n => h.SetOf (intKind P w) a S n
  | .ins C dx fs => H dx = some (.own a) ∧ fs.length ≤ 1000 ∧ dx ≠ a ∧ h.get? a = some (PySem.W.instObj C dx) ∧
      ∃ mA, h.Ns1 dx mA ∧ (∀ f, RelO (fs.lookup f) (mA f)) ∧ PySem.Within mA (fs.map (·.1))
  | .own _ => ∃ o, h.get? a = some o
  | .xd fs => ∃ mA, h.Ns1 a mA ∧ ∀ f, RelO (fs.lookup f) (mA f)
  | .rng lo hi => ∃ t u v, h.get? a = some { cls := .type "range", data := .fields #[.int lo t, .int hi u, .int 1 v] }
  | .frz o u => h.get? a = some o ∧ ObjOk H h a u
  | .tbl ps => h.get? a = some { cls := .none, data := .fields ps }
  | .met f x => h.get? a = some (PySem.W.methodObj (.ref f) (.ref x))
  | .ext φ => φ h ∧ (∃ o, h.get? a = some o) ∧ ∀ h1 h2 : Heap, φ h1 → (∀ o, h1.get? a = some o → h2.get? a = some o) → φ h2
def HOk (H : Hp) (h : Heap) : Prop := ∀ a o, H a = some o → ObjOk P w H h a o
end
section
variable {P : Program} {w : World} {H H' : Hp} {h h' : Heap} {a : Addr} {o : HO}
theorem ObjOk.lt (x : ObjOk P w H h a o) : a < h.objs.size := by
  cases o with
  | lst xs => obtain ⟨_, _, _, _, e⟩ := x; exact Heap.lt_size e
  | tup xs => obtain ⟨_, _, _, p⟩ := x; exact p.lt
  | dK kvs => obtain ⟨_, _, _, _, o, _, _, e, _⟩ := x; exact Heap.lt_size e
  | dT kvs => obtain ⟨_, _, _, _, o, _, _, e, _⟩ := x; exact Heap.lt_size e
  | set S n => obtain ⟨o, _, _, _, e, _⟩ := x; exact Heap.lt_size e
  | ins C dx fs => obtain ⟨_, _, _, e, _⟩ := x; exact Heap.lt_size e
  | own y => obtain ⟨_, e⟩ := x; exact Heap.lt_size e
  | xd fs => obtain ⟨_, ⟨_, _, _, e, _⟩, _⟩ := x; exact Heap.lt_size e
  | rng lo hi => obtain ⟨_, _, _, e⟩ := x; exact Heap.lt_size e
  | frz ob u => obtain ⟨e, _⟩ := x; exact Heap.lt_size e
  | tbl ps => exact Heap.lt_size (show h.get? a = some _ from x)
  | met f y => exact Heap.lt_size (show h.get? a = some _ from x)
  | ext φ => obtain ⟨_, ⟨_, e⟩, _⟩ := x; exact Heap.lt_size e
theorem Paired.mapP {α β : Type} {F G : α → β → Prop} : ∀ {l₁ : List α} {l₂ : List β}, Paired F l₁ l₂ → (∀ a b, F a b → G a b) → Paired G l₁ l₂
  | _, _, .nil, _ => .nil
  | _, _, .cons r t, f => .cons (f _ _ r) (Paired.mapP t f)
theorem ObjOk.stay (x : ObjOk P w H h a o) (k : ∀ b u, (b = a ∨ H b = some (.own a)) → h.get? b = some u → h'.get? b = some u)
    (ho : ∀ b, H b = some (.own a) → H' b = some (.own a)) (ht : ∀ b xs, H b = some (.tup xs) → H' b = some (.tup xs)) : ObjOk P w H' h' a o := by
  induction o with
  | lst xs => obtain ⟨z, its, n, r, e⟩ := x; exact ⟨z, its, n, r, k _ _ (.inl rfl) e⟩
  | tup xs => obtain ⟨z, its, r, ob, e, c⟩ := x; exact ⟨z, its, r, ob, k _ _ (.inl rfl) e, c⟩
  | dK kvs => obtain ⟨z, y, vs, r, ob, es, ep, e, c⟩ := x; exact ⟨z, y, vs, r, ob, es, ep, k _ _ (.inl rfl) e, c⟩
  | dT kvs =>
    obtain ⟨z, y, xs, r, ob, es, ep, e, c⟩ := x
    exact ⟨z, y, xs, Paired.mapP r fun p q z => ⟨z.1, ht _ _ z.2.1, z.2.2⟩, ob, es, ep, k _ _ (.inl rfl) e, c⟩
  | set S n => obtain ⟨ob, es, ep, t, e, c⟩ := x; exact ⟨ob, es, ep, t, k _ _ (.inl rfl) e, c⟩
  | ins C dx fs =>
    obtain ⟨d, z, ne, e, mA, ⟨od, es, ep, e2, c⟩, r⟩ := x
    exact ⟨ho _ d, z, ne, k _ _ (.inl rfl) e, mA, ⟨od, es, ep, k _ _ (.inr d) e2, c⟩, r⟩
  | own y => obtain ⟨ob, e⟩ := x; exact ⟨ob, k _ _ (.inl rfl) e⟩
  | xd fs => obtain ⟨mA, ⟨od, es, ep, e, c⟩, r⟩ := x; exact ⟨mA, ⟨od, es, ep, k _ _ (.inl rfl) e, c⟩, r⟩
  | rng lo hi => obtain ⟨t, u, v, e⟩ := x; exact ⟨t, u, v, k _ _ (.inl rfl) e⟩
  | frz ob u ih => obtain ⟨e, q⟩ := x; exact ⟨k _ _ (.inl rfl) e, ih q⟩
  | tbl ps =>
    have e : h.get? a = some { cls := .none, data := .fields ps } := x
    show h'.get? a = some { cls := .none, data := .fields ps }
    exact k a _ (.inl rfl) e
  | met f y =>
    have e : h.get? a = some (PySem.W.methodObj (.ref f) (.ref y)) := x
    show h'.get? a = some (PySem.W.methodObj (.ref f) (.ref y))
    exact k a _ (.inl rfl) e
  | ext φ => obtain ⟨p, ⟨o, e⟩, st⟩ := x; exact ⟨st _ _ p fun o q => k _ _ (.inl rfl) q, ⟨o, k _ _ (.inl rfl) e⟩, st⟩
theorem HOk.lt (x : HOk P w H h) (e : H a = some o) : a < h.objs.size := (x a o e).lt
theorem HOk.fresh (x : HOk P w H h) (e : h.objs.size ≤ a) : H a = none := by
  cases q : H a with
  | none => rfl
  | some u => exact absurd (Nat.lt_of_lt_of_le (x.lt q) e) (Nat.lt_irrefl _)
theorem HOk.kept (x : HOk P w H h) (k : ∀ b u, h.get? b = some u → h'.get? b = some u) : HOk P w H h' := fun a o e =>
  (x a o e).stay (fun b u _ q => k b u q) (fun _ q => q) fun _ _ q => q
theorem HOk.laid (x : HOk P w H h) (k : ∀ b u, h.get? b = some u → h'.get? b = some u) (hp : h.objs.size ≤ a) (new : ObjOk P w (upd H a o) h' a o) : HOk P w (upd H a o) h' := fun b u e => by
  have hn := x.fresh hp
  by_cases hb : b = a
  · subst hb; rw [upd_same] at e; cases e; exact new
  · rw [upd_ne hb] at e
    exact (x b u e).stay (fun c v _ q => k c v q) (fun c q => by rw [upd_ne (ne_of_none q hn)]; exact q) fun c xs q => by rw [upd_ne (ne_of_none q hn)]; exact q
end
def Rd (H : Hp) (a : Addr) (u : HO) : Prop := H a = some u ∨ ∃ o, H a = some (.frz o u)
theorem Rd.of {H : Hp} {a : Addr} {u : HO} (h : H a = some u) : Rd H a u := .inl h
theorem Rd.ok {P : Program} {w : World} {H : Hp} {h : Heap} {a : Addr} {u : HO} (r : Rd H a u) (x : HOk P w H h) : ObjOk P w H h a u := by
  rcases r with r | ⟨o, r⟩
  · exact x a u r
  · obtain ⟨_, q⟩ := x a _ r
    exact q
def Mut : Option HO → Prop
  | some (.lst _) => True
  | some (.dK _) => True
  | some (.dT _) => True
  | some (.set _ _) => True
  | some (.ins _ _ _) => True
  | some (.ext _) => True
  | _ => False
section
variable {P : Program} {w : World} {H : Hp} {h h' : Heap} {x e : Addr} {o' : HO}
theorem HOk.write (ok : HOk P w H h) (mu : Mut (H x)) (he : e = x ∨ H e = some (.own x)) (k : ∀ b u, b ≠ e → h.get? b = some u → h'.get? b = some u) (heo : ∃ u, h'.get? e = some u)
    (new : ObjOk P w (upd H x o') h' x o') : HOk P w (upd H x o') h' := fun b u q => by
  have nown : ∀ c y, H c = some (.own y) → c ≠ x := fun c y r z => by subst z; rw [r] at mu; exact mu
  have ntup : ∀ c xs, H c = some (.tup xs) → c ≠ x := fun c xs r z => by subst z; rw [r] at mu; exact mu
  by_cases hb : b = x
  · subst hb; rw [upd_same] at q; cases q; exact new
  · rw [upd_ne hb] at q
    by_cases hbe : b = e
    · have q' : H b = some (.own x) := by
        rcases he with z | z
        · exact absurd (hbe.trans z) hb
        · rw [hbe]; exact z
      rw [q] at q'; cases q'
      obtain ⟨v, hv⟩ := heo
      exact ⟨v, by rw [hbe]; exact hv⟩
    · refine (ok b u q).stay (fun c v hc r => k c v ?_ r) (fun c r => by rw [upd_ne (nown c b r)]; exact r) fun c xs r => by rw [upd_ne (ntup c xs r)]; exact r
      rcases hc with rfl | hc
      · exact hbe
      · rintro rfl
        rcases he with z | z
        · exact nown c b hc z
        · rw [hc] at z; cases z; exact hb rfl
end
structure Un (fs ex : List Addr) (H H' : Hp) (h h' : Heap) : Prop where
  keep : ∀ b o, h.get? b = some o → H b = none → b ∉ fs → b ∉ ex → h'.get? b = some o
  slot : ∀ b o, h.get? b = some o → H b = none → b ∈ fs → b ∉ ex → ∃ sl, h'.get? b = some { o with slots := sl }
  free : ∀ b o, h.get? b = some o → H b = none → b ∉ ex → H' b = none
  there : ∀ b o, h.get? b = some o → b ∉ ex → ∃ o', h'.get? b = some o'
  tups : ∀ b xs, H b = some (.tup xs) → H' b = some (.tup xs)
  frzs : ∀ b o u, H b = some (.frz o u) → H' b = some (.frz o u)
  tbls : ∀ b ps, H b = some (.tbl ps) → ∃ more, H' b = some (.tbl (ps ++ more))
section
variable {fs fs' ex ex' : List Addr} {H H1 H2 : Hp} {h h1 h2 h' : Heap} {a x e : Addr} {o : HO}
theorem Un.any (u : Un fs ex H H1 h h1) {b : Addr} {ob : Obj} (q : h.get? b = some ob) (n : H b = none) (hx : b ∉ ex) : ∃ sl, h1.get? b = some { ob with slots := sl } := by
  by_cases hb : b ∈ fs
  · exact u.slot b ob q n hb hx
  · exact ⟨ob.slots, u.keep b ob q n hb hx⟩
theorem Un.kept (k : ∀ b u, h.get? b = some u → h'.get? b = some u) : Un fs ex H H h h' :=
  ⟨fun b ob q _ _ _ => k b ob q, fun b ob q _ _ _ => ⟨ob.slots, k b ob q⟩, fun _ _ _ n _ => n, fun b ob q _ => ⟨ob, k b ob q⟩, fun _ _ q => q, fun _ _ _ q => q, fun _ ps q => ⟨#[], by rw [q]; simp⟩⟩
theorem Un.refl : Un fs ex H H h h := Un.kept fun _ _ q => q
theorem Un.laid (k : ∀ b u, h.get? b = some u → h'.get? b = some u) (hp : h.objs.size ≤ a) (hn : H a = none) : Un fs ex H (upd H a o) h h' where
  keep := fun b u q _ _ _ => k b u q
  slot := fun b u q _ _ _ => ⟨u.slots, k b u q⟩
  free := fun b u q n _ => by rw [upd_ne (Nat.ne_of_lt (Nat.lt_of_lt_of_le (Heap.lt_size q) hp))]; exact n
  there := fun b u q _ => ⟨u, k b u q⟩
  tups := fun b xs q => by rw [upd_ne (ne_of_none q hn)]; exact q
  frzs := fun b u xs q => by rw [upd_ne (ne_of_none q hn)]; exact q
  tbls := fun b ps q => ⟨#[], by rw [upd_ne (ne_of_none q hn), q]; simp⟩
theorem Un.write (mu : Mut (H x)) (he : e = x ∨ H e = some (.own x)) (k : ∀ b u, b ≠ e → h.get? b = some u → h'.get? b = some u) (heo : ∃ u, h'.get? e = some u) : Un fs ex H (upd H x o) h h' := by
  have hx : ∀ b, H b = none → b ≠ x := fun b n z => by subst z; rw [n] at mu; exact mu
  have hb : ∀ b, H b = none → b ≠ e := fun b n z => by
    subst z
    rcases he with r | r
    · exact hx b n r
    · rw [n] at r; cases r
  have hm : ∀ b u, H b = some u → ¬ Mut (some u) → b ≠ x := fun b u q nm z => by subst z; rw [q] at mu; exact nm mu
  refine ⟨fun b u q n _ _ => k b u (hb b n) q, fun b u q n _ _ => ⟨u.slots, k b u (hb b n) q⟩, fun b u q n _ => by rw [upd_ne (hx b n)]; exact n, fun b u q _ => ?_,
    fun b xs q => by rw [upd_ne (hm b _ q fun z => z)]; exact q, fun b u xs q => by rw [upd_ne (hm b _ q fun z => z)]; exact q, fun b ps q => ⟨#[], by rw [upd_ne (hm b _ q fun z => z), q]; simp⟩⟩
  by_cases hbe : b = e
  · subst hbe; exact heo
  · exact ⟨u, k b u hbe q⟩
end
def trk (h : Heap) (H : Hp) : List Addr := (List.range h.objs.size).filter fun a => (H a).isSome
def hidT (h : Heap) (H : Hp) : Heap := PySem.W.hideAll h (trk h H)
theorem hidT_size (h : Heap) (H : Hp) : (hidT h H).objs.size = h.objs.size := PySem.W.hideAll_size _ _
theorem hidT_get {h : Heap} {H : Hp} {b : Addr} {o : Obj} (e : h.get? b = some o) (n : H b = none) : (hidT h H).get? b = some o :=
  PySem.W.hideAll_get _ e fun hm => by
    have q : (H b).isSome = true := (List.mem_filter.mp hm).2
    rw [n] at q; simp at q
theorem of_hidT {h : Heap} {H : Hp} {b : Addr} {o : Obj} (e : (hidT h H).get? b = some o) : h.get? b = some o ∧ H b = none := by
  have e' : h.get? b = some o := PySem.W.of_hideAll (trk h H) e
  refine ⟨e', ?_⟩
  cases q : H b with
  | none => rfl
  | some x =>
    have hm : b ∈ trk h H := List.mem_filter.mpr ⟨List.mem_range.mpr (Heap.lt_size e'), by simp [q]⟩
    have z : (hidT h H).get? b = none := PySem.W.hideAll_none (trk h H) hm
    rw [z] at e; cases e
end L2
namespace L2
open PySem PySem.Spec PyProof.Rows
structure Mod (K : PySem.W.Frag) (mg : Str → Option Value) (base : Heap) : Prop where
  kin : K.In base
  glob : base.Ns mainGlobals mg
  blt : ∃ mb, base.Ns builtinsNs mb ∧ ∀ x : Str, x ≠ "__name__" → mb x = bootBuiltins x
  nolimit : base.NoLimit
structure Cx where
  prog : Program
  w : World
  K : PySem.W.Frag
  mg : Str → Option Value
  base : Heap
  A : Around
  N : List Str
  s₀ : Shared
  H₀ : Hp
  env : Env
  outer : List Env
  stack : List Env
  ex : List Addr
  fn : Str → Bool
  calm : Bool
  pn : List (Addr × Obj)
  xe : Value → Shared → Prop
def frs (l : List Env) : List Addr := l.filterMap (·.frame)
abbrev Cx.fs (X : Cx) : List Addr := frs X.outer
def Vis (sc : Scope) (x : Str) : Prop := sc.names.lookup x = some .local ∨ sc.names.lookup x = some .cell ∨ sc.names.lookup x = some .free
def Loc (sc : Scope) (x : Str) : Prop := sc.names.lookup x = some .local ∨ sc.names.lookup x = some .cell
def Look (env : Env) (h : Heap) (m : Str → Option Value) (x : Str) (u : Value) : Prop :=
  (env.kindOf x = some .local ∧ m x = some u) ∨ ((env.kindOf x = some .cell ∨ env.kindOf x = some .free) ∧ ∃ c, env.cells.lookup x = some c ∧ h.IsCell c (some u))
structure Cx.Ok (X : Cx) : Prop where
  mod : Mod X.K X.mg X.base
  kind : X.env.scope.kind = .function
  glob : X.env.globals = mainGlobals
  blt : X.env.builtins = builtinsNs
  above : X.s₀.heap.objs.size ≤ X.env.locals
  inj : ∀ x y c, X.env.cells.lookup x = some c → X.env.cells.lookup y = some c → x = y
  has : ∀ x, (X.env.kindOf x = some .cell ∨ X.env.kindOf x = some .free) → ∃ c, X.env.cells.lookup x = some c
  cab : ∀ x c, X.fn x = true → X.env.cells.lookup x = some c → X.s₀.heap.objs.size ≤ c
  hd : X.calm = true → X.A.handled = none
  frames : X.A.frames = some X.stack
  stk : X.stack = X.outer ∨ (X.stack = X.env :: X.outer ∧ X.env.frame = some X.env.locals)
  exf : ∀ b ∈ X.ex, b ≠ X.env.locals ∧ ∀ x c, X.env.cells.lookup x = some c → c ≠ b
  bs : ∀ b o, X.base.get? b = some o → X.s₀.heap.get? b = some o ∧ X.H₀ b = none
  bsz : X.base.objs.size ≤ X.s₀.heap.objs.size
  noex : ∀ b o, X.base.get? b = some o → b ∉ X.ex
  exfs : ∀ b ∈ X.ex, b ∉ X.fs
  funs : X.s₀.heap.FunFrames X.base X.outer
  frf : ∀ b ∈ X.fs, X.H₀ b = none
structure Inv (X : Cx) (pins : List (Addr × Obj)) (σ : List (Option V)) (H : Hp) (s : Shared) : Prop where
  ok : X.Ok
  os : s.os = X.s₀.os
  bare : AllBare s.gens
  base : Un X.fs X.ex X.H₀ H X.s₀.heap s.heap
  loc : ∃ m, s.heap.Ns X.env.locals m ∧ ∀ (i : Nat) (x : Str) (v : V), X.N[i]? = some x → σ[i]? = some (some v) → Vis X.env.scope x → ∃ u, RelV v u ∧ Look X.env s.heap m x u
  cell : ∀ x c, X.env.cells.lookup x = some c → ∃ v, s.heap.IsCell c v
  free : H X.env.locals = none
  freeC : ∀ x c, X.env.cells.lookup x = some c → H c = none
  pin : ∀ p ∈ X.pn ++ pins, s.heap.get? p.1 = some p.2 ∧ H p.1 = none ∧ p.1 ≠ X.env.locals ∧ p.1 ∉ X.fs ∧ ∀ v, p.2.data ≠ .cell v
  hok : HOk X.prog X.w H s.heap
  len : σ.length = X.N.length
section
variable {X : Cx} {pins : List (Addr × Obj)} {σ : List (Option V)} {H H' : Hp} {s : Shared} {h' : Heap}
theorem Cx.Ok.nofr (ok : X.Ok) {b : Addr} {o : Obj} (e : X.base.get? b = some o) : b ∉ X.fs := fun hb => by
  have := (ok.funs.mem hb).1
  rw [e] at this; cases this
theorem Inv.bs (I : Inv X pins σ H s) : ∀ b o, X.base.get? b = some o → s.heap.get? b = some o ∧ H b = none := fun b o e =>
  ⟨I.base.keep b o (I.ok.bs b o e).1 (I.ok.bs b o e).2 (I.ok.nofr e) (I.ok.noex b o e), I.base.free b o (I.ok.bs b o e).1 (I.ok.bs b o e).2 (I.ok.noex b o e)⟩
theorem Inv.bk (I : Inv X pins σ H s) : ∀ b o, X.base.get? b = some o → s.heap.get? b = some o := fun b o e => (I.bs b o e).1
theorem Inv.mod (I : Inv X pins σ H s) : Mod X.K X.mg X.base := I.ok.mod
theorem Inv.kIn (I : Inv X pins σ H s) : X.K.In s.heap := I.ok.mod.kin.keeps I.bk
theorem Inv.lt (I : Inv X pins σ H s) : X.env.locals < s.heap.objs.size := let ⟨_, hn, _⟩ := I.loc; hn.lt
theorem Inv.sz (I : Inv X pins σ H s) : X.s₀.heap.objs.size ≤ s.heap.objs.size := Nat.le_trans I.ok.above (Nat.le_of_lt I.lt)
theorem Inv.nofs (I : Inv X pins σ H s) {a : Addr} (h : s.heap.objs.size ≤ a) : a ∉ X.fs := fun hb => by
  obtain ⟨_, o, ho, _⟩ := I.ok.funs.mem hb
  exact absurd (Nat.lt_of_lt_of_le (Heap.lt_size ho) (Nat.le_trans I.sz h)) (Nat.lt_irrefl _)
theorem Inv.cne (I : Inv X pins σ H s) : ∀ x c, X.env.cells.lookup x = some c → c ≠ X.env.locals := fun x c e z => by
  obtain ⟨v, o, ho, hd⟩ := I.cell x c e
  obtain ⟨m, ⟨o', es, ep, ho', hd', _⟩, _⟩ := I.loc
  rw [z, ho'] at ho; cases ho; rw [hd'] at hd; cases hd
theorem Inv.funs (I : Inv X pins σ H s) : s.heap.FunFrames X.base X.outer := by
  have all : ∀ (l : List Env), (∀ b ∈ frs l, b ∈ X.fs) → X.s₀.heap.FunFrames X.base l → s.heap.FunFrames X.base l := by
    intro l
    induction l with
    | nil => intro _ _; trivial
    | cons env r ih =>
      intro hs hl
      obtain ⟨hk, ⟨L, o, hf, hn, ho, hd⟩, hr⟩ := hl
      have hL : L ∈ X.fs := hs L (by unfold frs; rw [List.filterMap_cons, hf]; exact List.mem_cons_self)
      obtain ⟨sl, e⟩ := I.base.slot L o ho (I.ok.frf L hL) hL fun z => I.ok.exfs L z hL
      exact ⟨hk, ⟨L, _, hf, hn, e, hd⟩, ih (fun b hb => hs b (by unfold frs; rw [List.filterMap_cons, hf]; exact List.mem_cons_of_mem _ hb)) hr⟩
  exact all X.outer (fun _ hb => hb) I.ok.funs
theorem Inv.stack (I : Inv X pins σ H s) : s.heap.FunFrames X.base X.stack := by
  rcases I.ok.stk with e | ⟨e, hf⟩
  · rw [e]; exact I.funs
  · rw [e]
    obtain ⟨m, hn, _⟩ := I.loc
    refine .cons (by rw [I.ok.kind]; decide) hf hn ?_ I.funs
    exact Heap.get?_none_of_le (Nat.le_trans I.ok.bsz I.ok.above)
theorem Inv.stkSub (I : Inv X pins σ H s) : ∀ b ∈ frs X.stack, b ∈ X.env.locals :: X.fs := fun b hb => by
  rcases I.ok.stk with e | ⟨e, hf⟩
  · rw [e] at hb; exact List.mem_cons_of_mem _ hb
  · rw [e] at hb
    unfold frs at hb
    rw [List.filterMap_cons, hf] at hb
    exact hb
theorem Inv.stkFree (I : Inv X pins σ H s) : ∀ b ∈ frs X.stack, H b = none := fun b hb => by
  rcases List.mem_cons.mp (I.stkSub b hb) with e | hb
  · rw [e]; exact I.free
  · obtain ⟨_, o, ho, _⟩ := I.ok.funs.mem hb
    exact I.base.free b o ho (I.ok.frf b hb) fun z => I.ok.exfs b z hb
theorem Inv.step {g' : Array GenState} {t' : Nat} {d' : Drawn} {ch : List Addr} (I : Inv X pins σ H s)
    (hch : ∀ b ∈ ch, (b ∈ X.ex ∨ X.s₀.heap.objs.size ≤ b) ∧ b ≠ X.env.locals ∧ (∀ x c, X.env.cells.lookup x = some c → c ≠ b) ∧ ∀ p ∈ X.pn ++ pins, p.1 ≠ b)
    (keep : ∀ b o, b ≠ X.env.locals → b ∉ X.fs → b ∉ ch → s.heap.get? b = some o → H b = none → h'.get? b = some o)
    (slot : ∀ b o, b ≠ X.env.locals → b ∈ X.fs → b ∉ ch → s.heap.get? b = some o → H b = none → ∃ sl, h'.get? b = some { o with slots := sl }) (free : ∀ b o, b ∉ ch → s.heap.get? b = some o → H b = none → H' b = none)
    (there : ∀ b o, b ∉ ch → s.heap.get? b = some o → ∃ o', h'.get? b = some o')
    (tups : ∀ b xs, H b = some (.tup xs) → H' b = some (.tup xs)) (frzs : ∀ b o u, H b = some (.frz o u) → H' b = some (.frz o u)) (tbls : ∀ b ps, H b = some (.tbl ps) → ∃ more, H' b = some (.tbl (ps ++ more)))
    (ns : ∀ m, s.heap.Ns X.env.locals m → h'.Ns X.env.locals m) (hok : HOk X.prog X.w H' h') (hg : AllBare g') :
    Inv X pins σ H' { s with heap := h', gens := g', drawn := d', toks := t' } := by
  have neL : ∀ b o, X.s₀.heap.get? b = some o → b ≠ X.env.locals := fun b o e => Nat.ne_of_lt (Nat.lt_of_lt_of_le (Heap.lt_size e) I.ok.above)
  have neC : ∀ b o, X.s₀.heap.get? b = some o → b ∉ X.ex → b ∉ ch := fun b o e hx hb => by
    rcases (hch b hb).1 with z | z
    · exact hx z
    · exact absurd (Nat.lt_of_lt_of_le (Heap.lt_size e) z) (Nat.lt_irrefl _)
  have cellK : ∀ x c, X.env.cells.lookup x = some c → ∀ v, s.heap.IsCell c v → h'.IsCell c v := fun x c e v ⟨o, ho, hd⟩ => by
    have nch : c ∉ ch := fun z => (hch c z).2.2.1 x c e rfl
    by_cases hc : c ∈ X.fs
    · obtain ⟨sl, q⟩ := slot c o (I.cne x c e) hc nch ho (I.freeC x c e)
      exact ⟨_, q, hd⟩
    · exact ⟨o, keep c o (I.cne x c e) hc nch ho (I.freeC x c e), hd⟩
  refine ⟨I.ok, I.os, hg, ⟨fun b o e n hb hx => ?_, fun b o e n hb hx => ?_, fun b o e n hx => ?_, fun b o e hx => ?_, fun b xs e => tups b xs (I.base.tups b xs e), fun b o xs e => frzs b o xs (I.base.frzs b o xs e), fun b ps e => ?_⟩, ?_, fun x c e => ?_, ?_, fun x c e => ?_, fun p hp => ?_, hok, I.len⟩
  · exact keep b o (neL b o e) hb (neC b o e hx) (I.base.keep b o e n hb hx) (I.base.free b o e n hx)
  · obtain ⟨sl, e1⟩ := I.base.slot b o e n hb hx
    obtain ⟨sl', e2⟩ := slot b _ (neL b o e) hb (neC b o e hx) e1 (I.base.free b o e n hx)
    exact ⟨sl', e2⟩
  · obtain ⟨o', e1⟩ := I.base.there b o e hx
    exact free b o' (neC b o e hx) e1 (I.base.free b o e n hx)
  · obtain ⟨o', e1⟩ := I.base.there b o e hx
    exact there b o' (neC b o e hx) e1
  · obtain ⟨m1, e1⟩ := I.base.tbls b ps e
    obtain ⟨m2, e2⟩ := tbls b _ e1
    exact ⟨m1 ++ m2, by rw [e2, Array.append_assoc]⟩
  · obtain ⟨m, hn, hl⟩ := I.loc
    refine ⟨m, ns m hn, fun i x v e1 e2 e3 => ?_⟩
    obtain ⟨u, r, l⟩ := hl i x v e1 e2 e3
    refine ⟨u, r, ?_⟩
    rcases l with l | ⟨k, c, e, z⟩
    · exact .inl l
    · exact .inr ⟨k, c, e, cellK x c e _ z⟩
  · obtain ⟨v, z⟩ := I.cell x c e
    exact ⟨v, cellK x c e v z⟩
  · obtain ⟨m, ⟨o, _, _, ho, _⟩, _⟩ := I.loc
    exact free _ o (fun z => (hch _ z).2.1 rfl) ho I.free
  · obtain ⟨v, o, ho, hd⟩ := I.cell x c e
    exact free c o (fun z => (hch c z).2.2.1 x c e rfl) ho (I.freeC x c e)
  · obtain ⟨e, n, ne, nf, d⟩ := I.pin p hp
    have nch : p.1 ∉ ch := fun z => (hch p.1 z).2.2.2 p hp rfl
    exact ⟨keep p.1 p.2 ne nf nch e n, free p.1 p.2 nch e n, ne, nf, d⟩
theorem Inv.un {t' : Nat} (I : Inv X pins σ H s) (u : Un X.fs [] H H' s.heap h') (hok : HOk X.prog X.w H' h') : Inv X pins σ H' { s with heap := h', toks := t' } := by
  obtain ⟨m, ⟨o, es, ep, ho, r⟩, _⟩ := id I.loc
  obtain ⟨sl, hL⟩ := u.any ho I.free (by simp)
  exact I.step (g' := s.gens) (d' := s.drawn) (ch := []) (fun _ z => nomatch z) (fun b o _ hb _ e n => u.keep b o e n hb (by simp)) (fun b o _ hb _ e n => u.slot b o e n hb (by simp)) (fun b o _ e n => u.free b o e n (by simp)) (fun b o _ e => u.there b o e (by simp)) u.tups u.frzs u.tbls (fun m' hm => by
    obtain ⟨o', es', ep', ho', r'⟩ := hm
    rw [ho] at ho'; cases ho'
    exact ⟨_, es', ep', hL, r'⟩) hok I.bare
theorem Inv.call {g' : Array GenState} {t' : Nat} {d' : Drawn} {ch : List Addr} (I : Inv X pins σ H s) (u : Un (frs X.stack) ch H H' s.heap h') (hok : HOk X.prog X.w H' h') (hg : AllBare g')
    (hch : ∀ b ∈ ch, (b ∈ X.ex ∨ X.s₀.heap.objs.size ≤ b) ∧ b ≠ X.env.locals ∧ (∀ x c, X.env.cells.lookup x = some c → c ≠ b) ∧ ∀ p ∈ X.pn ++ pins, p.1 ≠ b) :
    Inv X pins σ H' { s with heap := h', gens := g', drawn := d', toks := t' } := by
  obtain ⟨m, ⟨o, es, ep, ho, r⟩, _⟩ := id I.loc
  obtain ⟨sl, hL⟩ := u.any ho I.free fun z => (hch _ z).2.1 rfl
  exact I.step (ch := ch) hch (fun b o hL hb hc e n => u.keep b o e n (fun z => (List.mem_cons.mp (I.stkSub b z)).elim hL hb) hc) (fun b o _ _ hc e n => u.any e n hc) (fun b o hc e n => u.free b o e n hc) (fun b o hc e => u.there b o e hc) u.tups u.frzs u.tbls (fun m' hm => by
    obtain ⟨o', es', ep', ho', r'⟩ := hm
    rw [ho] at ho'; cases ho'
    exact ⟨_, es', ep', hL, r'⟩) hok hg
theorem Inv.turned {t' : Nat} {it : Addr} (I : Inv X pins σ H s) (k : ∀ b o, b ≠ it → s.heap.get? b = some o → h'.get? b = some o) (hn : H it = none) (hL : it ≠ X.env.locals)
    (h1 : it ∈ X.ex ∨ X.s₀.heap.objs.size ≤ it) (h2 : ∀ x c, X.env.cells.lookup x = some c → c ≠ it) (h3 : ∀ p ∈ X.pn ++ pins, p.1 ≠ it) : Inv X pins σ H { s with heap := h', toks := t' } := by
  have nit : ∀ b u, H b = some u → b ≠ it := fun b u e z => by rw [z, hn] at e; cases e
  refine I.step (g' := s.gens) (d' := s.drawn) (ch := [it]) (fun b hb => ?_) (fun b o _ _ hc e _ => k b o (fun z => hc (by simp [z])) e) (fun b o _ _ hc e _ => ⟨o.slots, k b o (fun z => hc (by simp [z])) e⟩) (fun _ _ _ _ n => n)
    (fun b o hc e => ⟨o, k b o (fun z => hc (by simp [z])) e⟩) (fun _ _ e => e) (fun _ _ _ e => e) (fun b ps e => ⟨#[], by rw [e]; simp⟩) (fun m hm => ?_) (fun b u e => ?_) I.bare
  · have e : b = it := by simpa using hb
    subst e
    exact ⟨h1, hL, h2, h3⟩
  · obtain ⟨o, es, ep, ho, r⟩ := hm
    exact ⟨o, es, ep, k _ o (Ne.symm hL) ho, r⟩
  · refine (I.hok b u e).stay (fun c v hc q => k c v ?_ q) (fun _ q => q) fun _ _ q => q
    rcases hc with z | z
    · rw [z]; exact nit b u e
    · exact nit c _ z
theorem Inv.tok (I : Inv X pins σ H s) (t : Nat) : Inv X pins σ H { s with toks := t } := I.un (h' := s.heap) (t' := t) Un.refl I.hok
theorem Inv.kept {t' : Nat} (I : Inv X pins σ H s) (k : ∀ b u, s.heap.get? b = some u → h'.get? b = some u) : Inv X pins σ H { s with heap := h', toks := t' } := I.un (Un.kept k) (I.hok.kept k)
theorem Inv.laid {a : Addr} {o : HO} {t' : Nat} (I : Inv X pins σ H s) (k : ∀ b u, s.heap.get? b = some u → h'.get? b = some u) (hp : s.heap.objs.size ≤ a) (new : ObjOk X.prog X.w (upd H a o) h' a o) :
    Inv X pins σ (upd H a o) { s with heap := h', toks := t' } := I.un (Un.laid k hp (I.hok.fresh hp)) (I.hok.laid k hp new)
theorem Inv.write {x e : Addr} {o : HO} {t' : Nat} (I : Inv X pins σ H s) (mu : Mut (H x)) (he : e = x ∨ H e = some (.own x)) (k : ∀ b u, b ≠ e → s.heap.get? b = some u → h'.get? b = some u) (heo : ∃ u, h'.get? e = some u)
    (new : ObjOk X.prog X.w (upd H x o) h' x o) : Inv X pins σ (upd H x o) { s with heap := h', toks := t' } := I.un (Un.write mu he k heo) (I.hok.write mu he k heo new)
theorem Inv.pins_of {pins' : List (Addr × Obj)} (I : Inv X pins σ H s) (h : ∀ p ∈ pins', s.heap.get? p.1 = some p.2 ∧ H p.1 = none ∧ p.1 ≠ X.env.locals ∧ p.1 ∉ X.fs ∧ ∀ v, p.2.data ≠ .cell v) : Inv X pins' σ H s :=
  ⟨I.ok, I.os, I.bare, I.base, I.loc, I.cell, I.free, I.freeC, fun p hp => (List.mem_append.mp hp).elim (fun z => I.pin p (List.mem_append_left _ z)) (h p), I.hok, I.len⟩
theorem nodup_ix {N : List Str} (hN : N.Nodup) {i j : Nat} {x : Str} (a : N[i]? = some x) (b : N[j]? = some x) : i = j := by
  obtain ⟨h1, e1⟩ := List.getElem?_eq_some_iff.mp a
  obtain ⟨h2, e2⟩ := List.getElem?_eq_some_iff.mp b
  exact (List.getElem_inj hN).mp (e1.trans e2.symm)
theorem store_ok2 {M : Model} {A : Around} {E : Value → Shared → Prop} {i : Nat} {x : Str} {v : V} {u : Value} {Q : Unit → Shared → Prop} (I : Inv X pins σ H s) (hN : X.N.Nodup) (hi : X.N[i]? = some x) (hx : Loc X.env.scope x) (r : RelV v u)
    (h : ∀ s', Inv X pins (σ.set i (some v)) H s' → (∃ a, Heap.SameBut a s.heap s'.heap ∧ (a = X.env.locals ∨ X.env.cells.lookup x = some a)) → Q () s') (hf : X.fn x = true ∨ X.env.scope.names.lookup x = some .local := by first | exact .inl rfl | exact .inr rfl | assumption) : wpAny M A (storeName X.env x u) Q E s := by
  obtain ⟨m, hn, hl⟩ := id I.loc
  have hcls : (X.env.scope.kind == .class || (X.env.scope.kind == .module && X.env.locals != X.env.globals)) = false := by rw [I.ok.kind]; rfl
  have hiσ : i < σ.length := by rw [I.len]; exact (List.getElem?_eq_some_iff.mp hi).1
  have cne := I.cne
  have tracked : ∀ {a : Addr} {h' : Heap}, (∃ o, s.heap.get? a = some o ∧ H a = none) → Heap.SameBut a s.heap h' → HOk X.prog X.w H h' := fun {a h'} ha hs b ob e => by
    obtain ⟨_, _, hfree⟩ := ha
    refine (I.hok b ob e).stay (fun c w' hc q => (hs.2 c ?_).trans q) (fun _ q => q) fun _ _ q => q
    rintro rfl
    rcases hc with rfl | hc
    · rw [hfree] at e; cases e
    · rw [hfree] at hc; cases hc
  rcases hx with hk | hk
  · refine wpAny_storeName_local hk hn (fun h' hn' hs => ?_) hcls
    obtain ⟨oL, _, _, hoL, _⟩ := id hn
    refine h _ ⟨I.ok, I.os, I.bare, ⟨fun b o e n hb hx => ?_, fun b o e n hb hx => ?_, I.base.free, fun b o e hx => ?_, I.base.tups, I.base.frzs, I.base.tbls⟩, ⟨_, hn', fun j y v' e1 e2 e3 => ?_⟩, fun y c e => ?_, I.free, I.freeC, fun p hp => ?_, tracked ⟨oL, hoL, I.free⟩ hs, by simpa using I.len⟩ ⟨_, hs, .inl rfl⟩
    · exact (hs.2 b (Nat.ne_of_lt (Nat.lt_of_lt_of_le (Heap.lt_size e) I.ok.above))).trans (I.base.keep b o e n hb hx)
    · obtain ⟨sl, e1⟩ := I.base.slot b o e n hb hx
      exact ⟨sl, (hs.2 b (Nat.ne_of_lt (Nat.lt_of_lt_of_le (Heap.lt_size e) I.ok.above))).trans e1⟩
    · obtain ⟨o', e1⟩ := I.base.there b o e hx
      exact ⟨o', (hs.2 b (Nat.ne_of_lt (Nat.lt_of_lt_of_le (Heap.lt_size e) I.ok.above))).trans e1⟩
    · by_cases hj : j = i
      · subst hj
        rw [hi] at e1; cases e1
        rw [List.getElem?_set_self hiσ] at e2
        cases e2
        exact ⟨u, r, .inl ⟨hk, by simp⟩⟩
      · rw [List.getElem?_set_ne (Ne.symm hj)] at e2
        obtain ⟨u', r', q⟩ := hl j y v' e1 e2 e3
        refine ⟨u', r', ?_⟩
        rcases q with ⟨k, e⟩ | ⟨k, c, e, z⟩
        · refine .inl ⟨k, ?_⟩
          have : y ≠ x := fun e => hj (nodup_ix hN e1 (e ▸ hi))
          simp [this, e]
        · exact .inr ⟨k, c, e, z.sameBut hs (cne y c e)⟩
    · obtain ⟨w', z⟩ := I.cell y c e
      exact ⟨w', z.sameBut hs (cne y c e)⟩
    · obtain ⟨e, n, ne, nf, d⟩ := I.pin p hp
      exact ⟨(hs.2 p.1 ne).trans e, n, ne, nf, d⟩
  · have hfn : X.fn x = true := by
      rcases hf with z | z
      · exact z
      · rw [z] at hk; cases hk
    obtain ⟨c, hc⟩ := I.ok.has x (.inl hk)
    obtain ⟨w', z⟩ := I.cell x c hc
    refine wpAny_storeName_cell I.ok.kind hk hc z (fun h' hc' hs => ?_)
    obtain ⟨oc, hoc, hocd⟩ := id z
    refine h { s with heap := h' } ⟨I.ok, I.os, I.bare, ⟨fun b o e n hb hx => ?_, fun b o e n hb hx => ?_, I.base.free, fun b o e hx => ?_, I.base.tups, I.base.frzs, I.base.tbls⟩, ⟨m, hn.sameBut hs (Ne.symm (cne x c hc)), fun j y v' e1 e2 e3 => ?_⟩, fun y c' e => ?_, I.free, I.freeC, fun p hp => ?_, tracked ⟨oc, hoc, I.freeC x c hc⟩ hs, by simpa using I.len⟩ ⟨c, hs, .inr hc⟩
    · exact (hs.2 b (Nat.ne_of_lt (Nat.lt_of_lt_of_le (Heap.lt_size e) (I.ok.cab x c hfn hc)))).trans (I.base.keep b o e n hb hx)
    · obtain ⟨sl, e1⟩ := I.base.slot b o e n hb hx
      exact ⟨sl, (hs.2 b (Nat.ne_of_lt (Nat.lt_of_lt_of_le (Heap.lt_size e) (I.ok.cab x c hfn hc)))).trans e1⟩
    · obtain ⟨o', e1⟩ := I.base.there b o e hx
      exact ⟨o', (hs.2 b (Nat.ne_of_lt (Nat.lt_of_lt_of_le (Heap.lt_size e) (I.ok.cab x c hfn hc)))).trans e1⟩
    · by_cases hj : j = i
      · subst hj
        rw [hi] at e1; cases e1
        rw [List.getElem?_set_self hiσ] at e2
        cases e2
        exact ⟨u, r, .inr ⟨.inl hk, c, hc, hc'⟩⟩
      · rw [List.getElem?_set_ne (Ne.symm hj)] at e2
        obtain ⟨u', r', q⟩ := hl j y v' e1 e2 e3
        refine ⟨u', r', ?_⟩
        rcases q with q | ⟨k, c', e, z'⟩
        · exact .inl q
        · refine .inr ⟨k, c', e, z'.sameBut hs ?_⟩
          rintro rfl
          exact hj (nodup_ix hN e1 (I.ok.inj _ _ _ e hc ▸ hi))
    · by_cases hcc : c' = c
      · subst hcc; exact ⟨_, hc'⟩
      · obtain ⟨w2, z2⟩ := I.cell y c' e
        exact ⟨w2, z2.sameBut hs hcc⟩
    · obtain ⟨e, n, ne, nf, d⟩ := I.pin p hp
      refine ⟨(hs.2 p.1 ?_).trans e, n, ne, nf, d⟩
      intro q
      rw [q, hoc] at e
      have q' : oc = p.2 := Option.some.inj e
      exact d w' (by rw [← q']; exact hocd)
theorem store_ok {M : Model} {A : Around} {E : Value → Shared → Prop} {i : Nat} {x : Str} {v : V} {u : Value} {Q : Unit → Shared → Prop} (I : Inv X pins σ H s) (hN : X.N.Nodup) (hi : X.N[i]? = some x) (hx : Loc X.env.scope x) (r : RelV v u)
    (h : ∀ s', Inv X pins (σ.set i (some v)) H s' → Q () s') (hf : X.fn x = true ∨ X.env.scope.names.lookup x = some .local := by first | exact .inl rfl | exact .inr rfl | assumption) : wpAny M A (storeName X.env x u) Q E s :=
  store_ok2 I hN hi hx r (fun s' I' _ => h s' I') hf
theorem Inv.call' {s' : Shared} {ch : List Addr} (I : Inv X pins σ H s) (ho : s'.os = s.os) (u : Un (frs X.stack) ch H H' s.heap s'.heap) (hok : HOk X.prog X.w H' s'.heap) (hg : AllBare s'.gens)
    (hch : ∀ b ∈ ch, (b ∈ X.ex ∨ X.s₀.heap.objs.size ≤ b) ∧ b ≠ X.env.locals ∧ (∀ x c, X.env.cells.lookup x = some c → c ≠ b) ∧ ∀ p ∈ X.pn ++ pins, p.1 ≠ b) : Inv X pins σ H' s' := by
  obtain ⟨h', g', d', t', o'⟩ := s'
  have e : o' = s.os := ho
  subst e
  exact I.call (g' := g') (t' := t') (d' := d') u hok hg hch
end
abbrev XK := Value → Option Addr → Hp → Prop
abbrev St := List (Option V)
abbrev VK := V → Hp → Prop
abbrev TE := St → Hp → VK → Prop
abbrev TT := St → Hp → (Bool → Hp → Prop) → Prop
abbrev TA := St → Hp → (List V → Hp → Prop) → Prop
structure Ends where
  nx : St → Hp → Prop
  rt : VK
  bk : St → Hp → Prop := fun _ _ => False
  ct : St → Hp → Prop := fun _ _ => False
abbrev TS := Ends → St → Hp → Prop
def EP (X : Cx) (pins : List (Addr × Obj)) (σ : St) (Q : VK) (u : Value) (s' : Shared) : Prop := ∃ v H', Inv X pins σ H' s' ∧ RelV v u ∧ Q v H'
def TP (X : Cx) (pins : List (Addr × Obj)) (σ : St) (Q : Bool → Hp → Prop) (b : Bool) (s' : Shared) : Prop := ∃ H', Inv X pins σ H' s' ∧ Q b H'
def AP (X : Cx) (pins : List (Addr × Obj)) (σ : St) (Q : List V → Hp → Prop) (us : List Value) (s' : Shared) : Prop := ∃ vs H', Inv X pins σ H' s' ∧ Vals vs us ∧ Q vs H'
def SP (X : Cx) (pins : List (Addr × Obj)) (D : Ends) (f : Flow) (s' : Shared) : Prop :=
  match f with
  | .next => ∃ σ' H', Inv X pins σ' H' s' ∧ D.nx σ' H'
  | .brk => ∃ σ' H', Inv X pins σ' H' s' ∧ D.bk σ' H'
  | .cont => ∃ σ' H', Inv X pins σ' H' s' ∧ D.ct σ' H'
  | .ret u => ∃ v σ' H', Inv X pins σ' H' s' ∧ RelV v u ∧ D.rt v H'
def PE (X : Cx) (e : Expr) (t : TE) : Prop :=
  ∀ (pins : List (Addr × Obj)) (s : Shared) (σ : St) (H : Hp) (Q : VK), Inv X pins σ H s → t σ H Q → wpAny (model X.prog X.w) X.A (eval e X.env) (EP X pins σ Q) X.xe s
def PT (X : Cx) (e : Expr) (t : TT) : Prop :=
  ∀ (pins : List (Addr × Obj)) (s : Shared) (σ : St) (H : Hp) (Q : Bool → Hp → Prop), Inv X pins σ H s → t σ H Q → wpAny (model X.prog X.w) X.A (isTrue e X.env (eval e X.env)) (TP X pins σ Q) X.xe s
def PW (X : Cx) (e : Expr) (t : TT) : Prop :=
  ∀ (whole : Sem Value) (pins : List (Addr × Obj)) (s : Shared) (σ : St) (H : Hp) (Q : Bool → Hp → Prop), Inv X pins σ H s → t σ H Q → wpAny (model X.prog X.w) X.A (isTrue e X.env whole) (TP X pins σ Q) X.xe s
theorem PW.pt {X : Cx} {e : Expr} {t : TT} (h : PW X e t) : PT X e t := h _
def PA (X : Cx) (es : List Expr) (t : TA) : Prop :=
  ∀ (pos : Pos) (pins : List (Addr × Obj)) (s : Shared) (σ : St) (H : Hp) (Q : List V → Hp → Prop), Inv X pins σ H s → t σ H Q → wpAny (model X.prog X.w) X.A (spliced (backTo pos (starEach es X.env))) (AP X pins σ Q) X.xe s
def PS (X : Cx) (st : Stmt) (t : TS) : Prop :=
  ∀ (pins : List (Addr × Obj)) (s : Shared) (σ : St) (H : Hp) (D : Ends), Inv X pins σ H s → t D σ H → wpAny (model X.prog X.w) X.A (exec st X.env) (SP X pins D) X.xe s
def PSs (X : Cx) (st : List Stmt) (t : TS) : Prop :=
  ∀ (pins : List (Addr × Obj)) (s : Shared) (σ : St) (H : Hp) (D : Ends), Inv X pins σ H s → t D σ H → wpAny (model X.prog X.w) X.A (execs st X.env) (SP X pins D) X.xe s
theorem thn {α : Type} {t : Sem α} {Q Q' : α → Shared → Prop} {M : Model} {A : Around} {E : Value → Shared → Prop} {s : Shared} (h : wpAny M A t Q E s) (hQ : ∀ a s, Q a s → Q' a s) : wpAny M A t Q' E s := wpAny_mono h hQ fun _ _ x => x
end L2
namespace L2
open PySem PySem.Spec PyProof.Rows
section
variable {X : Cx}
theorem bin {a b : Expr} {ta tb : TE} (ha : PE X a ta) (hb : PE X b tb) {pins : List (Addr × Obj)} {s : Shared} {σ : St} {H : Hp} {R : V → V → Hp → Prop} (I : Inv X pins σ H s) (h : ta σ H fun x H1 => tb σ H1 fun y H2 => R x y H2)
    {α : Type} {Q : α → Shared → Prop} {f : Value → Value → Sem α}
    (hf : ∀ v u s2 x y H2, Inv X pins σ H2 s2 → RelV x v → RelV y u → R x y H2 → wpAny (model X.prog X.w) X.A (f v u) Q X.xe s2) :
    wpAny (model X.prog X.w) X.A (eval a X.env) (fun v s₁ => wpAny (model X.prog X.w) X.A (eval b X.env) (fun u s₂ => wpAny (model X.prog X.w) X.A (f v u) Q X.xe s₂) X.xe s₁) X.xe s := by
  refine thn (ha pins s σ H _ I h) fun v s1 ⟨x, H1, I1, r1, q1⟩ => ?_
  refine thn (hb pins s1 σ H1 _ I1 q1) fun u s2 ⟨y, H2, I2, r2, q2⟩ => ?_
  exact hf v u s2 x y H2 I2 r1 r2 q2
def tVar (i : Nat) : TE := fun σ H Q => ∃ v, σ[i]? = some (some v) ∧ Q v H
def tC (v : V) : TE := fun _ H Q => Q v H
theorem pe_var {i : Nat} {x : Str} {pos : Pos} (hN : X.N[i]? = some x) (hv : Vis X.env.scope x) (hd : (x == ("__debug__" : Str)) = false := by decide) (hcd : (x == ("__classdict__" : Str)) = false := by decide) : PE X (.Name x pos) (tVar i) := by
  intro pins s σ H Q I h
  obtain ⟨v, e, h⟩ := h
  obtain ⟨m, hn, hl⟩ := I.loc
  obtain ⟨u, r, l⟩ := hl i x v hN e hv
  have fin : EP X pins σ Q u s := ⟨v, H, I, r, h⟩
  rcases l with ⟨hk, hm⟩ | ⟨hk, c, hc, hcell⟩
  · exact wpAny_Name (wpAny_loadName_local I.ok.kind hk hn hm fin) hd
  · rcases hk with hk | hk
    · exact wpAny_Name (wpAny_loadName_cell I.ok.kind hk hc hcell fin) hd
    · exact wpAny_Name (wpAny_loadName_free I.ok.kind hk hc hcell fin hcd) hd
theorem pe_int {i j pos} : PE X (.Constant (.int i) j pos) (tC (.int i)) := fun _ _ _ H _ I h => wpAny_Constant_int ⟨.int i, H, I.tok _, ⟨_, rfl⟩, h⟩
theorem pe_bl {b j pos} : PE X (.Constant (.bool b) j pos) (tC (.bl b)) := fun _ _ _ H _ I h => Constant_bool ⟨.bl b, H, I, rfl, h⟩
theorem pe_non {j pos} : PE X (.Constant .none j pos) (tC .non) := fun _ _ _ H _ I h => Constant_none ⟨.non, H, I, rfl, h⟩
theorem pe_str {x j pos} : PE X (.Constant (.str x) j pos) (tC (.str x)) := fun _ _ _ H _ I h => Calls.Constant_str ⟨.str x, H, I.tok _, ⟨_, rfl⟩, h⟩
def Gl (X : Cx) (x : Str) : Prop := X.env.kindOf x = some .globalImplicit
theorem ld_glob {E : Value → Shared → Prop} {pins : List (Addr × Obj)} {s : Shared} {σ : St} {H : Hp} {x : Str} {u : Value} {pos : Pos} {Q : Value → Shared → Prop} (I : Inv X pins σ H s) (hg : Gl X x) (hm : X.mg x = some u) (h : Q u s)
    (hd : (x == ("__debug__" : Str)) = false := by decide) : wpAny (model X.prog X.w) X.A (eval (.Name x pos) X.env) Q E s :=
  Calls.Name_function_global I.ok.kind hg (Calls.loadGlobal_global (by rw [I.ok.glob]; exact I.mod.glob.keeps I.bk) hm h) hd
theorem ld_blt {E : Value → Shared → Prop} {pins : List (Addr × Obj)} {s : Shared} {σ : St} {H : Hp} {x : Str} {u : Value} {pos : Pos} {Q : Value → Shared → Prop} (I : Inv X pins σ H s) (hg : Gl X x) (hm : X.mg x = none) (hv : bootBuiltins x = some u) (h : Q u s)
    (hn : x ≠ "__name__" := by decide) (hd : (x == ("__debug__" : Str)) = false := by decide) : wpAny (model X.prog X.w) X.A (eval (.Name x pos) X.env) Q E s := by
  obtain ⟨mb, h1, h2⟩ := I.mod.blt
  exact Calls.Name_function_global I.ok.kind hg (Calls.loadGlobal_builtin (by rw [I.ok.glob]; exact I.mod.glob.keeps I.bk) hm (by rw [I.ok.blt]; exact h1.keeps I.bk) ((h2 x hn).trans hv) h) hd
theorem pe_bltn {x : Str} {v : V} {u : Value} {pos : Pos} (hg : Gl X x) (hm : X.mg x = none) (hv : bootBuiltins x = some u) (r : RelV v u) (hn : x ≠ "__name__" := by decide) (hd : (x == ("__debug__" : Str)) = false := by decide) : PE X (.Name x pos) (tC v) :=
  fun _ _ _ H _ I h => ld_blt I hg hm hv ⟨v, H, I, r, h⟩ hn hd
variable {a b : Expr} {ta tb : TE} {pos : Pos}
def PC (X : Cx) (op : CmpOp) (a b : Expr) (t : TE) : Prop :=
  ∀ (pins : List (Addr × Obj)) (s : Shared) (σ : St) (H : Hp) (Q : VK), Inv X pins σ H s → t σ H Q →
    wpAny (model X.prog X.w) X.A (eval a X.env) (fun v s₁ => wpAny (model X.prog X.w) X.A (eval b X.env) (fun u s₂ => wpAny (model X.prog X.w) X.A (compareOp op v u) (EP X pins σ Q) X.xe s₂) X.xe s₁) X.xe s
theorem nobehind (b : Expr) {op : CmpOp} (h : op ≠ .In) (h2 : op ≠ .NotIn) : behindInMarks op b = false := by
  have e1 : (op == CmpOp.In) = false := by cases op <;> first | rfl | exact absurd rfl h
  have e2 : (op == CmpOp.NotIn) = false := by cases op <;> first | rfl | exact absurd rfl h2
  cases b <;> simp [behindInMarks, e1, e2]
def tIsN (ta : TE) : TE := fun σ H Q => ta σ H fun x H1 => Q (.bl (decide (x = .non))) H1
def tNotN (ta : TE) : TE := fun σ H Q => ta σ H fun x H1 => Q (.bl (!decide (x = .non))) H1
theorem RelV.none_iff {x : V} {v : Value} (r : RelV x v) : (v == Value.none) = decide (x = .non) := by
  cases x with
  | non => cases r; rfl
  | bl _ => cases r; rfl
  | int _ => obtain ⟨t, rfl⟩ := r; rfl
  | str _ => obtain ⟨t, rfl⟩ := r; rfl
  | byt _ => obtain ⟨t, rfl⟩ := r; rfl
  | flt _ => obtain ⟨t, rfl⟩ := r; rfl
  | ref _ => cases r; rfl
  | ty _ => cases r; rfl
theorem pc_isN {j pos'} (ha : PE X a ta) : PC X .Is a (.Constant .none j pos') (tIsN ta) := by
  intro pins s σ H Q I h
  refine thn (ha pins s σ H _ I h) fun v s1 ⟨x, H1, I1, r1, q1⟩ => ?_
  exact Constant_none (is_none_gen ⟨.bl _, H1, I1, by rw [r1.none_iff]; rfl, q1⟩)
theorem pc_notN {j pos'} (ha : PE X a ta) : PC X .IsNot a (.Constant .none j pos') (tNotN ta) := by
  intro pins s σ H Q I h
  refine thn (ha pins s σ H _ I h) fun v s1 ⟨x, H1, I1, r1, q1⟩ => ?_
  exact Constant_none (isnot_none_gen ⟨.bl _, H1, I1, by rw [r1.none_iff]; rfl, q1⟩)
def tB (t : TE) : TT := fun σ H Q => t σ H fun x H1 => ∃ c, x = .bl c ∧ Q c H1
theorem pe_cmp {op : CmpOp} {t : TE} (h : PC X op a b t) (h1 : behindInMarks op b = false := by first | exact nobehind _ (by decide) (by decide) | rfl) : PE X (.Compare a [op] [b] pos) t := fun pins s σ H Q I hw => wpAny_Compare1 (h pins s σ H Q I hw) h1
theorem pt_cmp {op : CmpOp} {t : TE} (h : PC X op a b t) (h1 : behindInMarks op b = false := by first | exact nobehind _ (by decide) (by decide) | rfl) : PT X (.Compare a [op] [b] pos) (tB t) := by
  intro pins s σ H Q I hw
  refine wpAny_isTrue_Compare1 (thn (h pins s σ H _ I hw) fun v s1 h1 => thn h1 fun u s2 h2 => thn h2 fun c s3 ⟨x, H1, I1, r1, q1⟩ => ?_) h1
  obtain ⟨d, rfl, q⟩ := q1
  cases r1
  exact wpAny_truthy_bool ⟨H1, I1, q⟩
theorem pt_val {e : Expr} {t : TE} (h : PE X e t) (he : ∀ whole, isTrue e X.env whole = (do let v ← whole; standAt e.pos; holding [v] (truthy v)) := by intro _; rfl) : PT X e (tB t) := by
  intro pins s σ H Q I hw
  refine isTrue_plain (thn (h pins s σ H _ I hw) fun v s1 ⟨x, H1, I1, r1, q1⟩ => ?_) (he _)
  obtain ⟨d, rfl, q⟩ := q1
  cases r1
  exact wpAny_truthy_bool ⟨H1, I1, q⟩
variable {tA tB' : TT} {rest : List Expr}
def tAnd (t u : TT) : TT := fun σ H Q => t σ H fun c H1 => if c = true then u σ H1 Q else Q false H1
def tOr (t u : TT) : TT := fun σ H Q => t σ H fun c H1 => if c = true then Q true H1 else u σ H1 Q
def tNot (t : TT) : TT := fun σ H Q => t σ H fun c H1 => Q (!c) H1
theorem pw_and1 (ha : PT X a tA) : PW X (.BoolOp .And [a] pos) tA := by
  intro wh pins s σ H Q I h
  refine isTrue_and (thn (ha pins s σ H Q I h) fun c s1 e => ?_)
  cases c with
  | true => exact isTrue_and_nil e
  | false => exact e
theorem pw_or1 (ha : PT X a tA) : PW X (.BoolOp .Or [a] pos) tA := by
  intro wh pins s σ H Q I h
  refine isTrue_or (thn (ha pins s σ H Q I h) fun c s1 e => ?_)
  cases c with
  | false => exact isTrue_or_nil e
  | true => exact e
theorem pw_and (ha : PT X a tA) (hb : PW X (.BoolOp .And (b :: rest) pos) tB') : PW X (.BoolOp .And (a :: b :: rest) pos) (tAnd tA tB') := by
  intro wh pins s σ H Q I h
  refine isTrue_and (thn (ha pins s σ H _ I h) fun c s1 ⟨H1, I1, q1⟩ => ?_)
  cases c with
  | true => exact hb wh pins s1 σ H1 Q I1 q1
  | false => exact ⟨H1, I1, q1⟩
theorem pw_or (ha : PT X a tA) (hb : PW X (.BoolOp .Or (b :: rest) pos) tB') : PW X (.BoolOp .Or (a :: b :: rest) pos) (tOr tA tB') := by
  intro wh pins s σ H Q I h
  refine isTrue_or (thn (ha pins s σ H _ I h) fun c s1 ⟨H1, I1, q1⟩ => ?_)
  cases c with
  | true => exact ⟨H1, I1, q1⟩
  | false => exact hb wh pins s1 σ H1 Q I1 q1
theorem pt_not (ha : PT X a tA) : PT X (.UnaryOp .Not a pos) (tNot tA) := by
  intro pins s σ H Q I h
  exact isTrue_not (ha pins s σ H (fun c H1 => Q (!c) H1) I h)
def tAndV (ta tb : TE) : TE := fun σ H Q => ta σ H fun x H1 => ∃ c, x = .bl c ∧ if c = true then tb σ H1 Q else Q (.bl false) H1
def tOrV (ta tb : TE) : TE := fun σ H Q => ta σ H fun x H1 => ∃ c, x = .bl c ∧ if c = true then Q (.bl true) H1 else tb σ H1 Q
def tNotV (ta : TE) : TE := fun σ H Q => ta σ H fun x H1 => ∃ c, x = .bl c ∧ Q (.bl (!c)) H1
theorem pe_one {op} {t : TE} (h : PE X a t) : PE X (.BoolOp op [a] pos) t := fun pins s σ H Q I hw => BoolOp_one (h pins s σ H Q I hw)
theorem pe_and (ha : PE X a ta) (hb : PE X (.BoolOp .And (b :: rest) pos) tb) : PE X (.BoolOp .And (a :: b :: rest) pos) (tAndV ta tb) := by
  intro pins s σ H Q I h
  refine BoolOp_and (thn (ha pins s σ H _ I h) fun v s1 ⟨x, H1, I1, r1, q1⟩ => ?_)
  obtain ⟨c, rfl, q1⟩ := q1
  cases r1
  refine wpAny_truthy_bool ?_
  cases c with
  | true => exact hb pins s1 σ H1 Q I1 q1
  | false => exact ⟨.bl false, H1, I1, rfl, q1⟩
theorem pe_or (ha : PE X a ta) (hb : PE X (.BoolOp .Or (b :: rest) pos) tb) : PE X (.BoolOp .Or (a :: b :: rest) pos) (tOrV ta tb) := by
  intro pins s σ H Q I h
  refine BoolOp_or (thn (ha pins s σ H _ I h) fun v s1 ⟨x, H1, I1, r1, q1⟩ => ?_)
  obtain ⟨c, rfl, q1⟩ := q1
  cases r1
  refine wpAny_truthy_bool ?_
  cases c with
  | false => exact hb pins s1 σ H1 Q I1 q1
  | true => exact ⟨.bl true, H1, I1, rfl, q1⟩
theorem pe_not (ha : PE X a ta) : PE X (.UnaryOp .Not a pos) (tNotV ta) := by
  intro pins s σ H Q I h
  refine UnaryOp_ (thn (ha pins s σ H _ I h) fun v s1 ⟨x, H1, I1, r1, q1⟩ => ?_)
  obtain ⟨c, rfl, q1⟩ := q1
  cases r1
  exact not_of (wpAny_truthy_bool ⟨.bl (!c), H1, I1, rfl, q1⟩)
def tIf (t : TT) (ta tb : TE) : TE := fun σ H Q => t σ H fun c H1 => if c = true then ta σ H1 Q else tb σ H1 Q
theorem pe_ifExp {c : Expr} (hc : PT X c tA) (ha : PE X a ta) (hb : PE X b tb) : PE X (.IfExp c a b pos) (tIf tA ta tb) := by
  intro pins s σ H Q I h
  refine wpAny_IfExp (thn (hc pins s σ H _ I h) fun d s1 ⟨H1, I1, q1⟩ => ?_)
  cases d with
  | true => exact ha pins s1 σ H1 Q I1 q1
  | false => exact hb pins s1 σ H1 Q I1 q1
end
end L2
namespace L2
open PySem PySem.Spec PyProof.Rows
def SqL (K : PySem.W.Frag) (H : Hp) (a : Addr) (xs : List V) : Prop :=
  Rd H a (.lst xs) ∨
    ∃ (o : Obj) (its : Array Value) (n : Nat), K.lookup a = some o ∧ o.cls = .type "list" ∧ o.dict = none ∧ o.data = .seq its n ∧ its.size ≤ sizeLine ∧ Vals xs its.toList
def SqT (K : PySem.W.Frag) (H : Hp) (a : Addr) (xs : List V) : Prop :=
  Rd H a (.tup xs) ∨
    ∃ (o : Obj) (its : Array Value) (n : Nat), K.lookup a = some o ∧ o.cls = .type "tuple" ∧ o.data = .seq its n ∧ its.size ≤ sizeLine ∧ Vals xs its.toList
def absV : Value → Option V
  | .none => some .non
  | .bool b => some (.bl b)
  | .int i _ => some (.int i)
  | .str x _ => some (.str x)
  | .bytes b _ => some (.byt b)
  | .float b _ => some (.flt b)
  | .ref a => some (.ref a)
  | .type n => some (.ty n)
  | _ => none
theorem RelV.abs {x : V} {u : Value} (r : RelV x u) : absV u = some x := by
  cases x with
  | non => cases r; rfl
  | bl _ => cases r; rfl
  | int _ => obtain ⟨t, rfl⟩ := r; rfl
  | str _ => obtain ⟨t, rfl⟩ := r; rfl
  | byt _ => obtain ⟨t, rfl⟩ := r; rfl
  | flt _ => obtain ⟨t, rfl⟩ := r; rfl
  | ref _ => cases r; rfl
  | ty _ => cases r; rfl
theorem RelV.inj {x y : V} {u : Value} (r : RelV x u) (q : RelV y u) : x = y := Option.some.inj (r.abs.symm.trans q.abs)
theorem Vals.inj : ∀ {xs ys : List V} {us : List Value}, Vals xs us → Vals ys us → xs = ys
  | _, _, _, .nil, .nil => rfl
  | _, _, _, .cons r t, .cons r' t' => by rw [r.inj r', Vals.inj t t']
section
variable {X : Cx} {pins : List (Addr × Obj)} {σ : St} {H : Hp} {s : Shared} {a : Addr} {xs ys : List V}
theorem Inv.list (I : Inv X pins σ H s) (h : SqL X.K H a xs) : ∃ its : List Value, Vals xs its ∧ PlainL s.heap a its.toArray ∧ xs.length ≤ sizeLine := by
  rcases h with h | ⟨o, its, n, hk, hc, hd, hs, hz, r⟩
  · obtain ⟨z, its, n, r, e⟩ := h.ok I.hok
    exact ⟨its, r, ⟨_, n, e, rfl, rfl, rfl⟩, z⟩
  · refine ⟨its.toList, r, ⟨o, n, I.kIn a o hk, hc, hd, by simpa using hs⟩, ?_⟩
    have e := r.length
    simp only [Array.length_toList] at e
    omega
theorem Inv.tuple (I : Inv X pins σ H s) (h : SqT X.K H a xs) : ∃ its : List Value, Vals xs its ∧ IsTup s.heap a its.toArray ∧ xs.length ≤ sizeLine := by
  rcases h with h | ⟨o, its, n, hk, hc, hs, hz, r⟩
  · obtain ⟨z, its, r, p⟩ := h.ok I.hok
    exact ⟨its, r, p, z⟩
  · refine ⟨its.toList, r, ⟨o, I.kIn a o hk, hc, n, by simpa using hs⟩, ?_⟩
    have e := r.length
    simp only [Array.length_toList] at e
    omega
theorem Inv.list_inj (I : Inv X pins σ H s) (h : SqL X.K H a xs) (h' : SqL X.K H a ys) : xs = ys := by
  obtain ⟨its, r, ⟨o, n, e, _, _, d⟩, _⟩ := I.list h
  obtain ⟨its', r', ⟨o', n', e', _, _, d'⟩, _⟩ := I.list h'
  rw [e] at e'; cases e'
  rw [d] at d'
  injection d' with d1 _
  have : its = its' := by simpa using congrArg Array.toList d1
  subst this
  exact r.inj r'
theorem Inv.tuple_inj (I : Inv X pins σ H s) (h : SqT X.K H a xs) (h' : SqT X.K H a ys) : xs = ys := by
  obtain ⟨its, r, ⟨o, e, _, n, d⟩, _⟩ := I.tuple h
  obtain ⟨its', r', ⟨o', e', _, n', d'⟩, _⟩ := I.tuple h'
  rw [e] at e'; cases e'
  rw [d] at d'
  injection d' with d1 _
  have : its = its' := by simpa using congrArg Array.toList d1
  subst this
  exact r.inj r'
end
abbrev Cx.wish (X : Cx) (E : Value → Shared → Prop) : Cx := { X with xe := E }
abbrev Cx.nox (X : Cx) : Cx := X.wish fun _ _ => False
theorem Cx.Ok.wish {X : Cx} (ok : X.Ok) (E : Value → Shared → Prop) : (X.wish E).Ok :=
  ⟨ok.mod, ok.kind, ok.glob, ok.blt, ok.above, ok.inj, ok.has, ok.cab, ok.hd, ok.frames, ok.stk, ok.exf, ok.bs, ok.bsz, ok.noex, ok.exfs, ok.funs, ok.frf⟩
theorem Cx.Ok.unwish {X : Cx} {E : Value → Shared → Prop} (ok : (X.wish E).Ok) : X.Ok :=
  ⟨ok.mod, ok.kind, ok.glob, ok.blt, ok.above, ok.inj, ok.has, ok.cab, ok.hd, ok.frames, ok.stk, ok.exf, ok.bs, ok.bsz, ok.noex, ok.exfs, ok.funs, ok.frf⟩
section
variable {X : Cx} {pins : List (Addr × Obj)} {σ : St} {H : Hp} {s : Shared} {E : Value → Shared → Prop}
theorem Inv.wish (I : Inv X pins σ H s) (E : Value → Shared → Prop) : Inv (X.wish E) pins σ H s := ⟨I.ok.wish E, I.os, I.bare, I.base, I.loc, I.cell, I.free, I.freeC, I.pin, I.hok, I.len⟩
theorem Inv.unwish (I : Inv (X.wish E) pins σ H s) : Inv X pins σ H s := ⟨I.ok.unwish, I.os, I.bare, I.base, I.loc, I.cell, I.free, I.freeC, I.pin, I.hok, I.len⟩
theorem SP.unwish {D : Ends} {f : Flow} {s' : Shared} (h : SP (X.wish E) pins D f s') : SP X pins D f s' := by
  cases f with
  | next => obtain ⟨σ', H', I, q⟩ := h; exact ⟨σ', H', I.unwish, q⟩
  | brk => obtain ⟨σ', H', I, q⟩ := h; exact ⟨σ', H', I.unwish, q⟩
  | cont => obtain ⟨σ', H', I, q⟩ := h; exact ⟨σ', H', I.unwish, q⟩
  | ret u => obtain ⟨v, σ', H', I, r, q⟩ := h; exact ⟨v, σ', H', I.unwish, r, q⟩
theorem PSs.nox {st : List Stmt} {t : TS} (h : PSs X.nox st t) : PSs X st t := fun pins s σ H D I hw =>
  wpAny_mono (h pins s σ H D (I.wish _) hw) (fun _ _ q => q.unwish) fun _ _ z => False.elim z
end
section
variable {X : Cx} {st : Stmt} {rest : List Stmt} {t u : TS} {e : Expr} {te : TE} {pos : Pos}
def tNext : TS := fun D σ H => D.nx σ H
def tSeq (t u : TS) : TS := fun D σ H => t { D with nx := u D } σ H
theorem pss_nil : PSs X [] tNext := fun _ _ σ H _ I h => wpAny_execs_nil ⟨σ, H, I, h⟩
theorem pss_cons (h1 : PS X st t) (h2 : PSs X rest u) : PSs X (st :: rest) (tSeq t u) := by
  intro pins s σ H D I h
  refine wpAny_execs_cons (thn (h1 pins s σ H { D with nx := u D } I h) fun f s1 q => ?_)
  cases f with
  | next =>
    obtain ⟨σ', H', I', q⟩ := q
    exact h2 pins s1 σ' H' D I' q
  | ret v => exact q
  | brk => exact q
  | cont => exact q
theorem pss_one (h1 : PS X st t) : PSs X [st] t := by
  intro pins s σ H D I h
  refine wpAny_execs_cons (thn (h1 pins s σ H D I h) fun f s1 q => ?_)
  cases f with
  | next => exact wpAny_execs_nil q
  | ret v => exact q
  | brk => exact q
  | cont => exact q
theorem Inv.quiet {pins : List (Addr × Obj)} {σ : St} {H : Hp} {s : Shared} (I : Inv X pins σ H s) : interactive X.env = false := by simp [interactive, I.ok.kind]
def tDrop (te : TE) : TS := fun D σ H => te σ H fun _ H1 => D.nx σ H1
theorem ps_expr (he : PE X e te) (hs : swapsWith e none pos.line X.env = pure false := by rfl) : PS X (.Expr e pos) (tDrop te) := by
  intro pins s σ H D I h
  exact wpAny_Expr_any (thn (he pins s σ H _ I h) fun v s1 ⟨x, H1, I1, r1, q1⟩ => ⟨σ, H1, I1, q1⟩) I.quiet hs
def tRet (te : TE) : TS := fun D σ H => te σ H D.rt
theorem ps_ret (he : PE X e te) : PS X (.Return (some e) pos) (tRet te) := by
  intro pins s σ H D I h
  exact wpAny_Return_some (thn (he pins s σ H _ I h) fun v s1 ⟨x, H1, I1, r1, q1⟩ => ⟨x, σ, H1, I1, r1, q1⟩)
def tIfS (c : TT) (t u : TS) : TS := fun D σ H => c σ H fun b H1 => if b = true then t D σ H1 else u D σ H1
theorem ps_if {c : Expr} {a b : List Stmt} {tc : TT} (hc : PT X c tc) (ha : PSs X a t) (hb : PSs X b u) : PS X (.If c a b pos) (tIfS tc t u) := by
  intro pins s σ H D I h
  refine wpAny_If (thn (hc pins s σ H _ I h) fun d s1 ⟨H1, I1, q1⟩ => ?_)
  cases d with
  | true => exact ha pins s1 σ H1 D I1 q1
  | false => exact hb pins s1 σ H1 D I1 q1
def tNever : TS := fun _ _ _ => False
theorem ps_never : PS X st tNever := fun _ _ _ _ _ _ h => h.elim
end
abbrev TG := V → St → Hp → (St → Hp → Prop) → Prop
def PG (X : Cx) (target : Expr) (t : TG) : Prop :=
  ∀ (pins : List (Addr × Obj)) (s : Shared) (σ : St) (H : Hp) (v : V) (u : Value) (Q : St → Hp → Prop), Inv X pins σ H s → RelV v u → t v σ H Q →
    wpAny (model X.prog X.w) X.A (assign target X.env u) (fun _ s' => ∃ σ' H', Inv X pins σ' H' s' ∧ Q σ' H') X.xe s
abbrev TIp := V → V → Hp → VK → Prop
def PIp (X : Cx) (op : Operator) (t : TIp) : Prop :=
  ∀ (pins : List (Addr × Obj)) (s : Shared) (σ : St) (H : Hp) (x y : V) (v u : Value) (Q : VK), Inv X pins σ H s → RelV x v → RelV y u → t x y H Q →
    wpAny (model X.prog X.w) X.A (inplaceOp op v u) (EP X pins σ Q) X.xe s
section
variable {X : Cx} {pos : Pos}
def gName (i : Nat) : TG := fun v σ H Q => Q (σ.set i (some v)) H
theorem pg_name {i : Nat} {x : Str} (hN : X.N.Nodup) (hi : X.N[i]? = some x) (hx : Loc X.env.scope x) (hf : X.fn x = true ∨ X.env.scope.names.lookup x = some .local := by first | exact .inl rfl | exact .inr rfl | assumption) : PG X (.Name x pos) (gName i) := by
  intro pins s σ H v u Q I r h
  exact wpAny_assign_Name (store_ok I hN hi hx r (fun s' I' => ⟨_, H, I', h⟩) hf)
def tAsg (te : TE) (g : TG) : TS := fun D σ H => te σ H fun x H1 => g x σ H1 D.nx
theorem ps_set {i : Nat} {x : Str} {e : Expr} {te : TE} {pos' : Pos} (hN : X.N.Nodup) (hi : X.N[i]? = some x) (hx : Loc X.env.scope x) (he : PE X e te) (hs : swapsWith e (some (.Name x pos')) pos.line X.env = pure false := by rfl) (hf : X.fn x = true ∨ X.env.scope.names.lookup x = some .local := by first | exact .inl rfl | exact .inr rfl | assumption) :
    PS X (.Assign [.Name x pos'] e pos) (tAsg te (gName i)) := by
  intro pins s σ H D I h
  refine wpAny_Assign_Name (thn (he pins s σ H _ I h) fun v s1 ⟨y, H1, I1, r1, q1⟩ => ?_) hs
  exact store_ok I1 hN hi hx r1 (fun s2 I2 => ⟨_, H1, I2, q1⟩) hf
def tAug (i : Nat) (te : TE) (ti : TIp) : TS := fun D σ H => ∃ x, σ[i]? = some (some x) ∧ te σ H fun y H1 => ti x y H1 fun z H2 => D.nx (σ.set i (some z)) H2
theorem ps_aug {i : Nat} {x : Str} {e : Expr} {te : TE} {op : Operator} {ti : TIp} {pos' : Pos} (hN : X.N.Nodup) (hi : X.N[i]? = some x) (hx : Loc X.env.scope x) (he : PE X e te) (ho : PIp X op ti) (hf : X.fn x = true ∨ X.env.scope.names.lookup x = some .local := by first | exact .inl rfl | exact .inr rfl | assumption) :
    PS X (.AugAssign (.Name x pos') op e pos) (tAug i te ti) := by
  intro pins s σ H D I h
  obtain ⟨v, e1, h⟩ := h
  obtain ⟨m, hn, hl⟩ := I.loc
  have vis : Vis X.env.scope x := by rcases hx with k | k; exact .inl k; exact .inr (.inl k)
  obtain ⟨u, r, l⟩ := hl i x v hi e1 vis
  refine wpAny_AugAssign_Name ?_
  have go : wpAny (model X.prog X.w) X.A (eval e X.env) (fun w s₂ => wpAny (model X.prog X.w) X.A (inplaceOp op u w) (fun r s₃ => wpAny (model X.prog X.w) X.A (storeName X.env x r) (fun _ => SP X pins D .next) X.xe s₃) X.xe s₂) X.xe s := by
    refine thn (he pins s σ H _ I h) fun w s1 ⟨y, H1, I1, r1, q1⟩ => ?_
    refine thn (ho pins s1 σ H1 v y u w _ I1 r r1 q1) fun z s2 ⟨zv, H2, I2, r2, q2⟩ => ?_
    exact store_ok I2 hN hi hx r2 (fun s3 I3 => ⟨_, H2, I3, q2⟩) hf
  rcases l with ⟨hk, hm⟩ | ⟨hk, c, hc, hcell⟩
  · exact wpAny_loadName_local I.ok.kind hk hn hm go
  · rcases hk with hk | hk
    · exact wpAny_loadName_cell I.ok.kind hk hc hcell go
    · rcases hx with k | k
      · have : X.env.scope.names.lookup x = some .free := hk
        rw [k] at this; cases this
      · have : X.env.scope.names.lookup x = some .free := hk
        rw [k] at this; cases this
def ipI (f : Int → Int → Int) : TIp := fun x y H Q => ∃ i j, x = .int i ∧ y = .int j ∧ Q (.int (f i j)) H
theorem ip_add : PIp X .Add (ipI fun i j => i + j) := by
  intro pins s σ H x y v u Q I r1 r2 h
  obtain ⟨i, j, e1, e2, q⟩ := h
  subst e1; subst e2
  obtain ⟨t, rfl⟩ := r1
  obtain ⟨t', rfl⟩ := r2
  exact iadd_int ⟨.int _, H, I.tok _, ⟨_, rfl⟩, q⟩
end
section
variable {X : Cx} {pos : Pos}
def tWhile (c : TT) (tb : TS) : TS := fun D σ H => ∃ W : Nat → St → Hp → Prop, (∃ m, W m σ H) ∧ ∀ m σ H, W m σ H →
  c σ H fun b H1 => if b = true then ∃ N : St → Hp → Prop, (∀ σ' H', N σ' H' → ∃ m', m' < m ∧ W m' σ' H') ∧ tb { D with nx := N, ct := N, bk := D.nx } σ H1 else D.nx σ H1
theorem ps_while {c : Expr} {body : List Stmt} {tc : TT} {tb : TS} (hp : PassesOwn (model X.prog X.w) X.A X.env X.xe) (hc : PT X c tc) (hb : PSs X body tb) : PS X (.While c body [] pos) (tWhile tc tb) := by
  intro pins s σ H D I h
  obtain ⟨W, ⟨m0, w0⟩, turn⟩ := h
  refine wpAny_While (codeAny_whileLoop (fun n s' => ∃ σ' H', Inv X pins σ' H' s' ∧ W n σ' H') ?_ m0 ⟨σ, H, I, w0⟩)
  rintro n s1 ⟨σ1, H1, I1, w1⟩
  refine wpAny_passesOwn hp (thn (hc pins s1 σ1 H1 _ I1 (turn n σ1 H1 w1)) fun b s2 ⟨H2, I2, q2⟩ => ?_)
  cases b with
  | true =>
    obtain ⟨N, hN, q2⟩ := q2
    rw [if_pos rfl]
    refine wpAny_passesOwn hp (thn (hb pins s2 σ1 H2 _ I2 q2) fun f s3 q3 => ?_)
    cases f with
    | next =>
      obtain ⟨σ3, H3, I3, n3⟩ := q3
      obtain ⟨m', hm, w3⟩ := hN σ3 H3 n3
      exact ⟨m', hm, σ3, H3, I3, w3⟩
    | cont =>
      obtain ⟨σ3, H3, I3, n3⟩ := q3
      obtain ⟨m', hm, w3⟩ := hN σ3 H3 n3
      exact ⟨m', hm, σ3, H3, I3, w3⟩
    | brk => exact q3
    | ret v => exact q3
  | false =>
    rw [if_neg Bool.false_ne_true]
    exact wpAny_execs_nil ⟨σ1, H2, I2, q2⟩
end
structure It where
  go : Nat → Hp → Prop
  yld : Nat → Hp → V → Hp → Prop
  stop : Nat → Hp → Prop
def FpOk (X : Cx) (pins : List (Addr × Obj)) (H : Hp) (b : Addr) : Prop :=
  H b = none ∧ b ≠ X.env.locals ∧ b ∉ X.fs ∧ (b ∈ X.ex ∨ X.s₀.heap.objs.size ≤ b) ∧ (∀ x c, X.env.cells.lookup x = some c → c ≠ b) ∧ ∀ p ∈ X.pn ++ pins, p.1 ≠ b
theorem Inv.fpOk {X : Cx} {pins : List (Addr × Obj)} {σ : St} {H H' : Hp} {s : Shared} {b : Addr} (I : Inv X pins σ H s) (hb : s.heap.objs.size ≤ b) (hn : H' b = none) : FpOk X pins H' b := by
  refine ⟨hn, Nat.ne_of_gt (Nat.lt_of_lt_of_le I.lt hb), I.nofs hb, .inr (Nat.le_trans I.sz hb), fun x c e z => ?_, fun p hp z => ?_⟩
  · obtain ⟨v, q⟩ := I.cell x c e
    exact absurd (Nat.lt_of_lt_of_le q.lt (by rw [z]; exact hb)) (Nat.lt_irrefl _)
  · exact absurd (Nat.lt_of_lt_of_le (Heap.lt_size (I.pin p hp).1) (by rw [z]; exact hb)) (Nat.lt_irrefl _)
structure Turn (P : Program) (w : World) (K : PySem.W.Frag) (tg : Expr) (J : It) (fp : List Addr) (it : Addr) (tn : Nat → Heap → Prop) : Prop where
  mem : it ∈ fp
  obj : ∀ i h, tn i h → ∀ b ∈ fp, ∃ o, h.get? b = some o ∧ ∀ v, o.data ≠ .cell v
  keep : ∀ i h h', tn i h → (∀ b ∈ fp, ∀ o, h.get? b = some o → h'.get? b = some o) → tn i h'
  item : ∀ (X : Cx), X.prog = P → X.w = w → X.K = K → X.calm = true → ∀ (i : Nat) (pins : List (Addr × Obj)) (s : Shared) (σ : St) (H : Hp) (E : Value → Shared → Prop), Inv X pins σ H s → (∀ b ∈ fp, FpOk X pins H b) → tn i s.heap → J.go i H →
    wpAny (model P w) X.A (pyNext (.ref it)) (fun r s1 => ∃ u, r = some u ∧
      wpAny (model P w) X.A (letOwnedTupleGo tg (.ref it) u) (fun _ s2 => ∃ x H', Inv X pins σ H' s2 ∧ RelV x u ∧ J.yld i H x H' ∧ tn (i + 1) s2.heap ∧ ∀ b ∈ fp, H' b = none) E s1) E s
  done : ∀ (X : Cx), X.prog = P → X.w = w → X.K = K → X.calm = true → ∀ (i : Nat) (pins : List (Addr × Obj)) (s : Shared) (σ : St) (H : Hp) (E : Value → Shared → Prop), Inv X pins σ H s → (∀ b ∈ fp, FpOk X pins H b) → tn i s.heap → J.stop i H →
    wpAny (model P w) X.A (pyNext (.ref it)) (fun r s1 => r = none ∧ Inv X pins σ H s1) E s
  self : ∀ (A : Around) (i : Nat) (s : Shared) (Q : Value → Shared → Prop) (E : Value → Shared → Prop), tn i s.heap → Q (.ref it) s → wpAny (model P w) A (pyIter (.ref it)) Q E s
abbrev TI := St → Hp → (It → Hp → Prop) → Prop
def PIE (X : Cx) (pins : List (Addr × Obj)) (σ : St) (tg : Expr) (R : It → Hp → Prop) (itv : Value) (s2 : Shared) : Prop :=
  ∃ (it : Addr) (fp : List Addr) (tn : Nat → Heap → Prop) (J : It) (H' : Hp), itv = .ref it ∧ Inv X pins σ H' s2 ∧ Turn X.prog X.w X.K tg J fp it tn ∧ tn 0 s2.heap ∧ (∀ b ∈ fp, FpOk X pins H' b) ∧ R J H'
def PI (X : Cx) (tg iter : Expr) (wi : TI) : Prop :=
  ∀ (pins : List (Addr × Obj)) (s : Shared) (σ : St) (H : Hp) (R : It → Hp → Prop), Inv X pins σ H s → wi σ H R →
    wpAny (model X.prog X.w) X.A (eval iter X.env) (fun v s1 => wpAny (model X.prog X.w) X.A (pyIter v) (PIE X pins σ tg R) X.xe s1) X.xe s
theorem go_of {M : Model} {A : Around} {E : Value → Shared → Prop} {s : Shared} {tg : Expr} {it : Addr} {u : Value} {o : Obj} {n : String} {vs : Array Value} {Q : Unit → Shared → Prop} (ho : s.heap.get? it = some o) (hc : o.cls = .type n) (hd : o.data = .fields vs)
    (hn : ["enumerate", "zip", "dict_itemiterator", "dict_reverseitemiterator", "odict_iterator", "itertools.zip_longest", "itertools.pairwise"].contains n = false) (hQ : Q () s) : wpAny M A (letOwnedTupleGo tg (.ref it) u) Q E s := by
  unfold letOwnedTupleGo
  cases tg <;> first
    | exact wpAny_pure hQ
    | (cases u <;> first
        | exact wpAny_pure hQ
        | (refine wpAny_bind (wpAny_load ho ?_)
           rw [hc, hd]
           show wpAny M A (if (["enumerate", "zip", "dict_itemiterator", "dict_reverseitemiterator", "odict_iterator", "itertools.zip_longest", "itertools.pairwise"].contains n && vs[0]? == some (rawInt _)) = true then _ else _) Q E s
           rw [if_neg (by intro h; rw [hn, Bool.false_and] at h; cases h)]
           exact wpAny_pure hQ))
def Itl (K : PySem.W.Frag) (a : Addr) : It :=
  ⟨fun i H => ∃ xs x, SqL K H a xs ∧ xs[i]? = some x, fun i H x H' => H' = H ∧ ∀ xs, SqL K H a xs → xs[i]? = some x, fun i H => ∃ xs, SqL K H a xs ∧ xs.length ≤ i⟩
def Itt (K : PySem.W.Frag) (a : Addr) : It :=
  ⟨fun i H => ∃ xs x, SqT K H a xs ∧ xs[i]? = some x, fun i H x H' => H' = H ∧ ∀ xs, SqT K H a xs → xs[i]? = some x, fun i H => ∃ xs, SqT K H a xs ∧ xs.length ≤ i⟩
def Itr (lo : Int) (n : Nat) : It := ⟨fun i _ => i < n, fun i H x H' => H' = H ∧ x = .int (lo + i), fun i _ => n ≤ i⟩
theorem turn_list {P : Program} {w : World} {K : PySem.W.Frag} {tg : Expr} (a it : Addr) : Turn P w K tg (Itl K a) [it] it (fun i h => h.IsListIter it a i) where
  mem := by simp
  obj := fun i h st b hb => by
    have e : b = it := by simpa using hb
    subst e
    obtain ⟨o, e, c, d⟩ := st
    exact ⟨o, e, fun v z => by rw [d] at z; cases z⟩
  keep := fun i h h' st k => st.at fun o e => k it (by simp) o e
  item := by
    intro X hP hw hK hc i pins s σ H E I hf st hg
    subst hP hw hK
    obtain ⟨xs, x, hq, hx⟩ := hg
    obtain ⟨its, rv, p, hz⟩ := I.list hq
    obtain ⟨u, hu, ru⟩ := rv.get hx
    obtain ⟨f0, f1, f2, f3, f4, f5⟩ := hf it (by simp)
    refine wpAny_pyNext_list_item st p.isList (x := u) (by simpa using hu) fun h' st' sb => ?_
    have I1 : Inv X pins σ H { s with heap := h' } := I.turned (t' := s.toks) (fun b o hb e => (sb.2 b hb).trans e) f0 f1 f3 f4 f5
    obtain ⟨o, e, c, d⟩ := id st'
    exact ⟨u, rfl, go_of (s := { s with heap := h' }) e c d (by decide) ⟨x, H, I1, ru, ⟨rfl, fun ys hy => by rw [I.list_inj hy hq]; exact hx⟩, st', fun b hb => (hf b hb).1⟩⟩
  done := by
    intro X hP hw hK hc i pins s σ H E I hf st hg
    subst hP hw hK
    obtain ⟨xs, hq, hx⟩ := hg
    obtain ⟨its, rv, p, hz⟩ := I.list hq
    obtain ⟨f0, f1, f2, f3, f4, f5⟩ := hf it (by simp)
    have hl := rv.length
    exact wpAny_pyNext_list_end (I.ok.hd hc) st p.isList (by simp; omega) fun h' eb => ⟨rfl, I.turned (t' := s.toks) (fun b o hb e => eb b o hb e) f0 f1 f3 f4 f5⟩
  self := fun _ _ _ _ _ st h => wpAny_pyIter_listiter st h
theorem turn_tuple {P : Program} {w : World} {K : PySem.W.Frag} {tg : Expr} (a it : Addr) : Turn P w K tg (Itt K a) [it] it (fun i h => h.IsTupleIter it a i) where
  mem := by simp
  obj := fun i h st b hb => by
    have e : b = it := by simpa using hb
    subst e
    obtain ⟨o, e, c, d⟩ := st
    exact ⟨o, e, fun v z => by rw [d] at z; cases z⟩
  keep := fun i h h' st k => st.at fun o e => k it (by simp) o e
  item := by
    intro X hP hw hK hc i pins s σ H E I hf st hg
    subst hP hw hK
    obtain ⟨xs, x, hq, hx⟩ := hg
    obtain ⟨its, rv, p, hz⟩ := I.tuple hq
    obtain ⟨u, hu, ru⟩ := rv.get hx
    obtain ⟨f0, f1, f2, f3, f4, f5⟩ := hf it (by simp)
    refine wpAny_pyNext_tuple_item st (show s.heap.IsTuple a its.toArray from p) (x := u) (by simpa using hu) fun h' st' sb => ?_
    have I1 : Inv X pins σ H { s with heap := h' } := I.turned (t' := s.toks) (fun b o hb e => (sb.2 b hb).trans e) f0 f1 f3 f4 f5
    obtain ⟨o, e, c, d⟩ := id st'
    exact ⟨u, rfl, go_of (s := { s with heap := h' }) e c d (by decide) ⟨x, H, I1, ru, ⟨rfl, fun ys hy => by rw [I.tuple_inj hy hq]; exact hx⟩, st', fun b hb => (hf b hb).1⟩⟩
  done := by
    intro X hP hw hK hc i pins s σ H E I hf st hg
    subst hP hw hK
    obtain ⟨xs, hq, hx⟩ := hg
    obtain ⟨its, rv, p, hz⟩ := I.tuple hq
    obtain ⟨f0, f1, f2, f3, f4, f5⟩ := hf it (by simp)
    have hl := rv.length
    exact wpAny_pyNext_tuple_end (I.ok.hd hc) st (show s.heap.IsTuple a its.toArray from p) (by simp; omega) fun h' eb => ⟨rfl, I.turned (t' := s.toks) (fun b o hb e => eb b o hb e) f0 f1 f3 f4 f5⟩
  self := fun _ _ _ _ _ st h => wpAny_pyIter_tupleiter st h
theorem turn_range {P : Program} {w : World} {K : PySem.W.Frag} {tg : Expr} (it : Addr) (lo : Int) (n : Nat) : Turn P w K tg (Itr lo n) [it] it (fun i h => IsRangeIter h it (lo + (i : Nat) * 1) ((n : Int) - (i : Nat)) 1) where
  mem := by simp
  obj := fun i h st b hb => by
    have e : b = it := by simpa using hb
    subst e
    exact ⟨_, st, fun v z => by
      have z' : Data.fields _ = Data.cell v := z
      cases z'⟩
  keep := fun i h h' st k => k it (by simp) _ st
  item := by
    intro X hP hw hK hc i pins s σ H E I hf st hg
    subst hP hw hK
    obtain ⟨f0, f1, f2, f3, f4, f5⟩ := hf it (by simp)
    have W := Walks.range (prog := X.prog) (w := X.w) (I.ok.hd hc) it lo 1 n
    refine W.item i s _ _ hg st fun v h' tk hv st' kk => ?_
    obtain ⟨t, rfl⟩ := hv
    have I1 : Inv X pins σ H { s with heap := h', toks := tk } := I.turned (fun b o hb e => kk b o (by simpa using hb) e) f0 f1 f3 f4 f5
    refine ⟨_, rfl, go_of (s := { s with heap := h', toks := tk }) (n := "range_iterator") st' rfl rfl (by decide) ⟨.int (lo + i), H, I1, ⟨t, ?_⟩, ⟨rfl, rfl⟩, st', fun b hb => (hf b hb).1⟩⟩
    rw [Int.mul_one]
  done := by
    intro X hP hw hK hc i pins s σ H E I hf st hg
    subst hP hw hK
    obtain ⟨f0, f1, f2, f3, f4, f5⟩ := hf it (by simp)
    exact wpAny_pyNext_range_end (I.ok.hd hc) st (by have : n ≤ i := hg; omega) fun h' eb => ⟨rfl, I.turned (t' := s.toks) (fun b o hb e => eb b o hb e) f0 f1 f3 f4 f5⟩
  self := fun _ _ _ _ _ st h => wpAny_pyIter_rangeiter st h
end L2
namespace L2
open PySem PySem.Spec PyProof.Rows
section
variable {X : Cx} {tg : Expr}
def iList (K : PySem.W.Frag) (tl : TE) : TI := fun σ H R => tl σ H fun x H1 => ∃ a, x = .ref a ∧ (∃ xs, SqL K H1 a xs) ∧ R (Itl K a) H1
def iTup (K : PySem.W.Frag) (tl : TE) : TI := fun σ H R => tl σ H fun x H1 => ∃ a, x = .ref a ∧ (∃ xs, SqT K H1 a xs) ∧ R (Itt K a) H1
theorem pi_list {l : Expr} {tl : TE} (hl : PE X l tl) : PI X tg l (iList X.K tl) := by
  intro pins s σ H R I h
  refine thn (hl pins s σ H _ I h) fun v s1 ⟨x, H1, I1, r1, q1⟩ => ?_
  obtain ⟨a, e, ⟨xs, hq⟩, q⟩ := q1
  subst e
  cases r1
  obtain ⟨its, rv, p, hz⟩ := I1.list hq
  refine wpAny_pyIter_list p.isList ?_
  refine ⟨s1.heap.objs.size, [s1.heap.objs.size], _, _, H1, rfl, I1.kept (t' := s1.toks) fun b o e => Heap.get?_push_of_some _ e, turn_list a _, ⟨_, Heap.get?_push_size _ rfl, rfl, rfl⟩, fun b hb => ?_, q⟩
  have e : b = s1.heap.objs.size := by simpa using hb
  subst e
  exact I1.fpOk (Nat.le_refl _) (I1.hok.fresh (Nat.le_refl _))
theorem pi_tup {l : Expr} {tl : TE} (hl : PE X l tl) : PI X tg l (iTup X.K tl) := by
  intro pins s σ H R I h
  refine thn (hl pins s σ H _ I h) fun v s1 ⟨x, H1, I1, r1, q1⟩ => ?_
  obtain ⟨a, e, ⟨xs, hq⟩, q⟩ := q1
  subst e
  cases r1
  obtain ⟨its, rv, p, hz⟩ := I1.tuple hq
  refine wpAny_pyIter_tuple (show s1.heap.IsTuple a its.toArray from p) ?_
  refine ⟨s1.heap.objs.size, [s1.heap.objs.size], _, _, H1, rfl, I1.kept (t' := s1.toks) fun b o e => Heap.get?_push_of_some _ e, turn_tuple a _, ⟨_, Heap.get?_push_size _ rfl, rfl, rfl⟩, fun b hb => ?_, q⟩
  have e : b = s1.heap.objs.size := by simpa using hb
  subst e
  exact I1.fpOk (Nat.le_refl _) (I1.hok.fresh (Nat.le_refl _))
theorem range_it {pins : List (Addr × Obj)} {σ : St} {H : Hp} {s : Shared} {R : It → Hp → Prop} {E : Value → Shared → Prop} {lo hi : Int} {t u v : Tok} {tk : Nat} (I : Inv X pins σ H s) (h1 : -(2 ^ 62) ≤ lo) (h2 : lo < 2 ^ 62) (h3 : -(2 ^ 62) ≤ hi) (h4 : hi < 2 ^ 62)
    (q : R (Itr lo (hi - lo).toNat) H) : wpAny (model X.prog X.w) X.A (pyIter (.ref s.heap.objs.size)) (PIE X pins σ tg R) E { s with heap := s.heap.push { cls := .type "range", data := .fields #[.int lo t, .int hi u, .int 1 v] }, toks := tk } := by
  refine wpAny_pyIter_range (IsRange.new ..) (small_one h1 h2 h3 h4) ?_
  have I1 : Inv X pins σ H { s with heap := s.heap.push { cls := .type "range", data := .fields #[.int lo t, .int hi u, .int 1 v] }, toks := tk } := I.kept fun b o e => Heap.get?_push_of_some _ e
  refine ⟨(s.heap.push { cls := .type "range", data := .fields #[.int lo t, .int hi u, .int 1 v] }).objs.size, [(s.heap.push { cls := .type "range", data := .fields #[.int lo t, .int hi u, .int 1 v] }).objs.size], _, _, H, rfl,
    I1.kept (t' := tk) fun b o e => Heap.get?_push_of_some _ e, turn_range _ lo (hi - lo).toNat, ?_, fun b hb => ?_, q⟩
  · have e1 : lo + ((0 : Nat) : Int) * 1 = lo := by simp
    have e2 : (((hi - lo).toNat : Nat) : Int) - ((0 : Nat) : Int) = Builtin.Range.rangeSize lo hi 1 := by rw [rangeSize_one]; split <;> omega
    show IsRangeIter _ _ (lo + ((0 : Nat) : Int) * 1) ((((hi - lo).toNat : Nat) : Int) - ((0 : Nat) : Int)) 1
    rw [e1, e2]
    exact Heap.get?_push_size _ rfl
  · have e : b = (s.heap.push { cls := .type "range", data := .fields #[.int lo t, .int hi u, .int 1 v] }).objs.size := by simpa using hb
    subst e
    exact I1.fpOk (Nat.le_refl _) (I1.hok.fresh (Nat.le_refl _))
def iRng1 (ta : TA) : TI := fun σ H R => ta σ H fun vs H1 => ∃ j : Int, vs = [.int j] ∧ -(2 ^ 62) ≤ j ∧ j < 2 ^ 62 ∧ R (Itr 0 j.toNat) H1
theorem pi_range1 {a : Expr} {ta : TA} {p pos : Pos} (hg : Gl X "range") (hm : X.mg "range" = none) (ha : PA X [a] ta) (hs : starEach [a] X.env = [(false, eval a X.env)] := by rfl) : PI X tg (.Call (.Name "range" p) [a] [] pos) (iRng1 ta) := by
  intro pins s σ H R I h
  refine Call_ (ld_blt I hg hm boot_range (PyProof.Rows.callWith_type1 (thn (ha pos pins s σ H _ I h) fun us s1 ⟨vs, H1, I1, r1, q1⟩ => ?_) hs rfl))
  obtain ⟨j, e, q1, q2, q⟩ := q1
  subst e
  cases r1 with
  | cons r rr =>
    cases rr
    obtain ⟨t, rfl⟩ := r
    exact call_range_1 (range_it I1 (by omega) (by omega) q1 q2 (by simpa using q))
def tFor (wi : TI) (g : TG) (tb : TS) : TS := fun D σ H => wi σ H fun J H1 => ∃ W : Nat → Nat → St → Hp → Prop, (∃ m, W 0 m σ H1) ∧ ∀ i m σ H, W i m σ H →
  (J.stop i H ∧ D.nx σ H) ∨ (J.go i H ∧ ∃ N : St → Hp → Prop, (∀ σ' H', N σ' H' → ∃ m', m' < m ∧ W (i + 1) m' σ' H') ∧ ∀ x H', J.yld i H x H' → g x σ H' fun σ2 H2 => tb { D with nx := N, ct := N, bk := D.nx } σ2 H2)
def pinsAt (fp : List Addr) (h : Heap) : List (Addr × Obj) := fp.filterMap fun b => (h.get? b).map fun o => (b, o)
theorem mem_pinsAt {fp : List Addr} {h : Heap} {b : Addr} {o : Obj} (hb : b ∈ fp) (e : h.get? b = some o) : (b, o) ∈ pinsAt fp h := List.mem_filterMap.mpr ⟨b, hb, by rw [e]; rfl⟩
theorem of_pinsAt {fp : List Addr} {h : Heap} {p : Addr × Obj} (hp : p ∈ pinsAt fp h) : p.1 ∈ fp ∧ h.get? p.1 = some p.2 := by
  obtain ⟨b, hb, e⟩ := List.mem_filterMap.mp hp
  cases q : h.get? b with
  | none => rw [q] at e; cases e
  | some o =>
    rw [q] at e
    have e' : (b, o) = p := Option.some.inj e
    subst e'
    exact ⟨hb, q⟩
theorem Inv.pinned {pins : List (Addr × Obj)} {σ : St} {H : Hp} {s : Shared} {fp : List Addr} (I : Inv X pins σ H s) (hf : ∀ b ∈ fp, FpOk X pins H b) (ho : ∀ b ∈ fp, ∃ o, s.heap.get? b = some o ∧ ∀ v, o.data ≠ .cell v) : Inv X (pins ++ pinsAt fp s.heap) σ H s :=
  I.pins_of fun p hp => (List.mem_append.mp hp).elim (fun z => I.pin p (List.mem_append_right _ z)) fun z => by
    obtain ⟨hb, e⟩ := of_pinsAt z
    obtain ⟨f0, f1, f2, _⟩ := hf p.1 hb
    obtain ⟨o, e', d⟩ := ho p.1 hb
    rw [e] at e'; cases e'
    exact ⟨e, f0, f1, f2, d⟩
theorem Inv.unpinned {pins pl : List (Addr × Obj)} {σ : St} {H : Hp} {s : Shared} (I : Inv X (pins ++ pl) σ H s) : Inv X pins σ H s := I.pins_of fun p hp => I.pin p (List.mem_append_right _ (List.mem_append_left _ hp))
theorem ps_for {iter : Expr} {body : List Stmt} {wi : TI} {g : TG} {tb : TS} {pos : Pos} (hp : PassesOwn (model X.prog X.w) X.A X.env X.xe) (hc : X.calm = true) (hi : PI X tg iter wi) (hg : PG X tg g) (hb : PSs X body tb)
    (hs : ∀ x, foldedSetIterable iter X.env x = pure x := by intro _; rfl) : PS X (.For tg iter body [] pos) (tFor wi g tb) := by
  intro pins s σ H D I h
  refine wpAny_For (thn (hi pins s σ H _ I h) fun v s1 h1 => thn h1 fun itv s2 h2 => ?_) hs
  obtain ⟨it, fp, tn, J, H2, e, I2, T, st2, f2, W, ⟨m0, w0⟩, turn⟩ := h2
  subst e
  -- what stays true of the iterator's objects through the loop
  have stat : ∀ {H' : Hp}, (∀ b ∈ fp, H' b = none) → ∀ b ∈ fp, FpOk X pins H' b := fun hn b hb => ⟨hn b hb, (f2 b hb).2⟩
  refine codeAny_forLoop_any (fun n s' => ∃ i σ' H', Inv X pins σ' H' s' ∧ tn i s'.heap ∧ (∀ b ∈ fp, H' b = none) ∧ W i n σ' H') ?_ m0 ⟨0, σ, H2, I2, st2, fun b hb => (f2 b hb).1, w0⟩
  rintro n s3 ⟨i, σ3, H3, I3, st3, fr3, w3⟩
  rcases turn i n σ3 H3 w3 with ⟨stop, qn⟩ | ⟨go, N, hN, step⟩
  · refine wpAny_passesOwn hp (thn (T.done X rfl rfl rfl hc i pins s3 σ3 H3 X.xe I3 (stat fr3) st3 stop) fun r s4 ⟨hr, I4⟩ => ?_)
    subst hr
    exact wpAny_execs_nil ⟨σ3, H3, I4, qn⟩
  · refine wpAny_passesOwn hp (thn (T.item X rfl rfl rfl hc i pins s3 σ3 H3 X.xe I3 (stat fr3) st3 go) fun r s4 ⟨u, hr, h4⟩ => ?_)
    subst hr
    refine wpAny_passesOwn hp (thn h4 fun _ s5 ⟨x, H5, I5, r5, y5, st5, fr5⟩ => ?_)
    have I5' := I5.pinned (stat fr5) (T.obj _ _ st5)
    refine wpAny_passesOwn hp (thn (hg _ s5 σ3 H5 x u _ I5' r5 (step x H5 y5)) fun _ s6 ⟨σ6, H6, I6, q6⟩ => ?_)
    refine wpAny_passesOwn hp (thn (hb _ s6 σ6 H6 _ I6 q6) fun f s7 q7 => ?_)
    have again : ∀ {σ7 : St} {H7 : Hp}, Inv X (pins ++ pinsAt fp s5.heap) σ7 H7 s7 → N σ7 H7 → ∃ m, m < n ∧ ∃ i σ' H', Inv X pins σ' H' s7 ∧ tn i s7.heap ∧ (∀ b ∈ fp, H' b = none) ∧ W i m σ' H' := fun {σ7 H7} I7 n7 => by
      obtain ⟨m', hm, w7⟩ := hN σ7 H7 n7
      refine ⟨m', hm, i + 1, σ7, H7, I7.unpinned, T.keep _ _ _ st5 fun b hb o e => (I7.pin (b, o) (List.mem_append_right _ (List.mem_append_right _ (mem_pinsAt hb e)))).1, fun b hb => ?_, w7⟩
      obtain ⟨o, e, d⟩ := T.obj _ _ st5 b hb
      exact (I7.pin (b, o) (List.mem_append_right _ (List.mem_append_right _ (mem_pinsAt hb e)))).2.1
    cases f with
    | next => obtain ⟨σ7, H7, I7, n7⟩ := q7; exact again I7 n7
    | cont => obtain ⟨σ7, H7, I7, n7⟩ := q7; exact again I7 n7
    | brk => obtain ⟨σ7, H7, I7, q7⟩ := q7; exact ⟨σ7, H7, I7.unpinned, q7⟩
    | ret v => obtain ⟨x7, σ7, H7, I7, r7, q7⟩ := q7; exact ⟨x7, σ7, H7, I7.unpinned, r7, q7⟩
end
theorem for_list {K : PySem.W.Frag} {a : Addr} {xs : List V} {g : TG} {tb : TS} {D : Ends} {σ : St} {H : Hp} (Pv : Nat → St → Hp → Prop) (h0 : Pv 0 σ H) (hl : ∀ i σ H, i ≤ xs.length → Pv i σ H → SqL K H a xs)
    (hs : ∀ i x σ H, xs[i]? = some x → Pv i σ H → g x σ H fun σ2 H2 => tb { D with nx := Pv (i + 1), ct := Pv (i + 1), bk := D.nx } σ2 H2) (hd : ∀ σ H, Pv xs.length σ H → D.nx σ H) :
    ∃ W : Nat → Nat → St → Hp → Prop, (∃ m, W 0 m σ H) ∧ ∀ i m σ H, W i m σ H →
      ((Itl K a).stop i H ∧ D.nx σ H) ∨ ((Itl K a).go i H ∧ ∃ N : St → Hp → Prop, (∀ σ' H', N σ' H' → ∃ m', m' < m ∧ W (i + 1) m' σ' H') ∧ ∀ x H', (Itl K a).yld i H x H' → g x σ H' fun σ2 H2 => tb { D with nx := N, ct := N, bk := D.nx } σ2 H2) := by
  refine ⟨fun i m σ H => m = xs.length - i ∧ i ≤ xs.length ∧ Pv i σ H, ⟨xs.length, by simp, Nat.zero_le _, h0⟩, ?_⟩
  rintro i m σ H ⟨rfl, hi, p⟩
  have q := hl i σ H hi p
  by_cases hlt : i < xs.length
  · refine .inr ⟨⟨xs, xs[i], q, by simp [hlt]⟩, Pv (i + 1), fun σ' H' p' => ⟨xs.length - (i + 1), by omega, rfl, hlt, p'⟩, fun x H' y => ?_⟩
    obtain ⟨e, y⟩ := y
    subst e
    exact hs i x σ _ (y xs q) p
  · have e : i = xs.length := by omega
    subst e
    exact .inl ⟨⟨xs, q, Nat.le_refl _⟩, hd σ H p⟩
theorem for_tup {K : PySem.W.Frag} {a : Addr} {xs : List V} {g : TG} {tb : TS} {D : Ends} {σ : St} {H : Hp} (Pv : Nat → St → Hp → Prop) (h0 : Pv 0 σ H) (hl : ∀ i σ H, i ≤ xs.length → Pv i σ H → SqT K H a xs)
    (hs : ∀ i x σ H, xs[i]? = some x → Pv i σ H → g x σ H fun σ2 H2 => tb { D with nx := Pv (i + 1), ct := Pv (i + 1), bk := D.nx } σ2 H2) (hd : ∀ σ H, Pv xs.length σ H → D.nx σ H) :
    ∃ W : Nat → Nat → St → Hp → Prop, (∃ m, W 0 m σ H) ∧ ∀ i m σ H, W i m σ H →
      ((Itt K a).stop i H ∧ D.nx σ H) ∨ ((Itt K a).go i H ∧ ∃ N : St → Hp → Prop, (∀ σ' H', N σ' H' → ∃ m', m' < m ∧ W (i + 1) m' σ' H') ∧ ∀ x H', (Itt K a).yld i H x H' → g x σ H' fun σ2 H2 => tb { D with nx := N, ct := N, bk := D.nx } σ2 H2) := by
  refine ⟨fun i m σ H => m = xs.length - i ∧ i ≤ xs.length ∧ Pv i σ H, ⟨xs.length, by simp, Nat.zero_le _, h0⟩, ?_⟩
  rintro i m σ H ⟨rfl, hi, p⟩
  have q := hl i σ H hi p
  by_cases hlt : i < xs.length
  · refine .inr ⟨⟨xs, xs[i], q, by simp [hlt]⟩, Pv (i + 1), fun σ' H' p' => ⟨xs.length - (i + 1), by omega, rfl, hlt, p'⟩, fun x H' y => ?_⟩
    obtain ⟨e, y⟩ := y
    subst e
    exact hs i x σ _ (y xs q) p
  · have e : i = xs.length := by omega
    subst e
    exact .inl ⟨⟨xs, q, Nat.le_refl _⟩, hd σ H p⟩
theorem for_range {lo : Int} {n : Nat} {g : TG} {tb : TS} {D : Ends} {σ : St} {H : Hp} (Pv : Nat → St → Hp → Prop) (h0 : Pv 0 σ H)
    (hs : ∀ i σ H, i < n → Pv i σ H → g (.int (lo + i)) σ H fun σ2 H2 => tb { D with nx := Pv (i + 1), ct := Pv (i + 1), bk := D.nx } σ2 H2) (hd : ∀ σ H, Pv n σ H → D.nx σ H) :
    ∃ W : Nat → Nat → St → Hp → Prop, (∃ m, W 0 m σ H) ∧ ∀ i m σ H, W i m σ H →
      ((Itr lo n).stop i H ∧ D.nx σ H) ∨ ((Itr lo n).go i H ∧ ∃ N : St → Hp → Prop, (∀ σ' H', N σ' H' → ∃ m', m' < m ∧ W (i + 1) m' σ' H') ∧ ∀ x H', (Itr lo n).yld i H x H' → g x σ H' fun σ2 H2 => tb { D with nx := N, ct := N, bk := D.nx } σ2 H2) := by
  refine ⟨fun i m σ H => m = n - i ∧ i ≤ n ∧ Pv i σ H, ⟨n, by simp, Nat.zero_le _, h0⟩, ?_⟩
  rintro i m σ H ⟨rfl, hi, p⟩
  by_cases hlt : i < n
  · refine .inr ⟨hlt, Pv (i + 1), fun σ' H' p' => ⟨n - (i + 1), by omega, rfl, hlt, p'⟩, fun x H' y => ?_⟩
    obtain ⟨e, y⟩ := y
    subst e y
    exact hs i σ _ hlt p
  · have e : i = n := by omega
    subst e
    exact .inl ⟨Nat.le_refl _, hd σ H p⟩
end L2
namespace L2
open PySem PySem.Spec PyProof.Rows
abbrev R2 := V → V → Hp → VK → Prop
def OpR (X : Cx) (f : Value → Value → Sem Value) (r : R2) : Prop :=
  ∀ (pins : List (Addr × Obj)) (s : Shared) (σ : St) (H : Hp) (x y : V) (v u : Value) (Q : VK), Inv X pins σ H s → RelV x v → RelV y u → r x y H Q →
    wpAny (model X.prog X.w) X.A (f v u) (EP X pins σ Q) X.xe s
def UnR (X : Cx) (f : Value → Sem Value) (r : V → Hp → VK → Prop) : Prop :=
  ∀ (pins : List (Addr × Obj)) (s : Shared) (σ : St) (H : Hp) (x : V) (v : Value) (Q : VK), Inv X pins σ H s → RelV x v → r x H Q →
    wpAny (model X.prog X.w) X.A (f v) (EP X pins σ Q) X.xe s
def CallR (X : Cx) (f : Value) (r : List V → Hp → VK → Prop) : Prop :=
  ∀ (pins : List (Addr × Obj)) (s : Shared) (σ : St) (H : Hp) (xs : List V) (us : List Value) (Q : VK), Inv X pins σ H s → Vals xs us → r xs H Q →
    wpAny (model X.prog X.w) X.A (call f us) (EP X pins σ Q) X.xe s
def tOp (r : R2) (ta tb : TE) : TE := fun σ H Q => ta σ H fun x H1 => tb σ H1 fun y H2 => r x y H2 Q
def tUn (r : V → Hp → VK → Prop) (ta : TE) : TE := fun σ H Q => ta σ H fun x H1 => r x H1 Q
def rI (C : Int → Int → Prop) (g : Int → Int → V) : R2 := fun x y H Q => ∃ i j, x = .int i ∧ y = .int j ∧ C i j ∧ Q (g i j) H
def rI0 (g : Int → Int → V) : R2 := fun x y H Q => ∃ i j, x = .int i ∧ y = .int j ∧ Q (g i j) H
def rU (g : Int → V) : V → Hp → VK → Prop := fun x H Q => ∃ i, x = .int i ∧ Q (g i) H
section
variable {X : Cx} {a b c : Expr} {ta tb tc : TE} {pos : Pos}
theorem binT (ha : PE X a ta) (hb : PE X b tb) {pins : List (Addr × Obj)} {s : Shared} {σ : St} {H : Hp} {R : V → V → Hp → Prop} (I : Inv X pins σ H s)
    (h : ta σ H fun x H1 => tb σ H1 fun y H2 => R x y H2) {Q : Value → Shared → Prop} {f : Value → Value → Sem Value}
    (hf : ∀ v u s2 x y H2, Inv X pins σ H2 s2 → RelV x v → RelV y u → R x y H2 → wpAny (model X.prog X.w) X.A (f v u) Q X.xe s2) :
    wpAny (model X.prog X.w) X.A (eval a X.env) (fun v s₁ => wpAny (model X.prog X.w) X.A (eval b X.env) (fun u s₂ => wpAny (model X.prog X.w) X.A (f v u) Q X.xe s₂) X.xe s₁) X.xe s := by
  refine thn (ha pins s σ H _ I h) fun v s1 ⟨x, H1, I1, r1, q1⟩ => ?_
  refine thn (hb pins s1 σ H1 _ I1 q1) fun u s2 ⟨y, H2, I2, r2, q2⟩ => ?_
  exact hf v u s2 x y H2 I2 r1 r2 q2
theorem pe_op {op : Operator} {r : R2} (ho : OpR X (binaryOp op) r) (ha : PE X a ta) (hb : PE X b tb) : PE X (.BinOp a op b pos) (tOp r ta tb) := by
  intro pins s σ H Q I h
  exact wpAny_BinOp (binT ha hb I h fun v u s2 x y H2 I2 rx ry q => ho pins s2 σ H2 x y v u Q I2 rx ry q)
theorem pe_un {op : UnaryOp} {r : V → Hp → VK → Prop} (ho : UnR X (unaryOp op) r) (ha : PE X a ta) : PE X (.UnaryOp op a pos) (tUn r ta) := by
  intro pins s σ H Q I h
  exact UnaryOp_ (thn (ha pins s σ H _ I h) fun v s1 ⟨x, H1, I1, r1, q1⟩ => ho pins s1 σ H1 x v Q I1 r1 q1)
theorem opI {f : Value → Value → Sem Value} {C : Int → Int → Prop} {g : Int → Int → Int}
    (rule : ∀ (i j : Int) (t u : Tok) (s : Shared) (Q : Value → Shared → Prop) (E : Value → Shared → Prop), C i j → Q (.int (g i j) s.toks) { s with toks := s.toks + 1 } → wpAny (model X.prog X.w) X.A (f (.int i t) (.int j u)) Q E s) :
    OpR X f (rI C fun i j => .int (g i j)) := by
  intro pins s σ H x y v u Q I rx ry h
  obtain ⟨i, j, rfl, rfl, hc, q⟩ := h
  obtain ⟨t, rfl⟩ := rx
  obtain ⟨t', rfl⟩ := ry
  exact rule i j t t' s _ _ hc ⟨.int (g i j), H, I.tok _, ⟨_, rfl⟩, q⟩
theorem opI0 {f : Value → Value → Sem Value} {g : Int → Int → Int}
    (rule : ∀ (i j : Int) (t u : Tok) (s : Shared) (Q : Value → Shared → Prop) (E : Value → Shared → Prop), Q (.int (g i j) s.toks) { s with toks := s.toks + 1 } → wpAny (model X.prog X.w) X.A (f (.int i t) (.int j u)) Q E s) :
    OpR X f (rI0 fun i j => .int (g i j)) := by
  intro pins s σ H x y v u Q I rx ry h
  obtain ⟨i, j, rfl, rfl, q⟩ := h
  obtain ⟨t, rfl⟩ := rx
  obtain ⟨t', rfl⟩ := ry
  exact rule i j t t' s _ _ ⟨.int (g i j), H, I.tok _, ⟨_, rfl⟩, q⟩
theorem opB0 {f : Value → Value → Sem Value} {g : Int → Int → Bool}
    (rule : ∀ (i j : Int) (t u : Tok) (s : Shared) (Q : Value → Shared → Prop) (E : Value → Shared → Prop), Q (.bool (g i j)) s → wpAny (model X.prog X.w) X.A (f (.int i t) (.int j u)) Q E s) :
    OpR X f (rI0 fun i j => .bl (g i j)) := by
  intro pins s σ H x y v u Q I rx ry h
  obtain ⟨i, j, rfl, rfl, q⟩ := h
  obtain ⟨t, rfl⟩ := rx
  obtain ⟨t', rfl⟩ := ry
  exact rule i j t t' s _ _ ⟨.bl (g i j), H, I, rfl, q⟩
def CDiv (i j : Int) : Prop := 0 < j ∧ j < 1073741824
def CMul (i j : Int) : Prop := (-(2 ^ 64) < i ∧ i < 2 ^ 64) ∨ (-(2 ^ 64) < j ∧ j < 2 ^ 64)
theorem CMul.ok {i j : Int} (h : CMul i j) : IntMulOk i j := by
  rcases h with ⟨h1, h2⟩ | ⟨h1, h2⟩
  · exact .of_left (intBits_le_64 h1 h2)
  · exact .of_right (intBits_le_64 h1 h2)
theorem op_add : OpR X (binaryOp .Add) (rI0 fun i j => .int (i + j)) := opI0 fun _ _ _ _ _ _ _ q => add_int q
theorem op_mul : OpR X (binaryOp .Mult) (rI CMul fun i j => .int (i * j)) := opI fun _ _ _ _ _ _ _ hc q => mul_int q hc.ok
theorem op_fdiv : OpR X (binaryOp .FloorDiv) (rI CDiv fun i j => .int (i / j)) := opI fun i j _ _ _ _ _ hc q => by
  have h1 : (0 : Int) < j := hc.1
  have h2 : j < 1073741824 := hc.2
  exact floordiv_int (by omega) (by rw [Int.fdiv_eq_ediv_of_nonneg i (by omega)]; exact q) (.inl (PyProof.noPylong_small (by omega)))
theorem op_mod : OpR X (binaryOp .Mod) (rI (fun _ j => 0 < j) fun i j => .int (i % j)) := opI fun i j _ _ _ _ _ hc q => by
  have h1 : (0 : Int) < j := hc
  exact mod_int' (by omega) (by rw [Int.fmod_eq_emod_of_nonneg i (by omega)]; exact q)
theorem unI {f : Value → Sem Value} {g : Int → Int}
    (rule : ∀ (i : Int) (t : Tok) (s : Shared) (Q : Value → Shared → Prop) (E : Value → Shared → Prop), Q (.int (g i) s.toks) { s with toks := s.toks + 1 } → wpAny (model X.prog X.w) X.A (f (.int i t)) Q E s) :
    UnR X f (rU fun i => .int (g i)) := by
  intro pins s σ H x v Q I rx h
  obtain ⟨i, rfl, q⟩ := h
  obtain ⟨t, rfl⟩ := rx
  exact rule i t s _ _ ⟨.int (g i), H, I.tok _, ⟨_, rfl⟩, q⟩
theorem un_neg : UnR X (unaryOp .USub) (rU fun i => .int (-i)) := unI fun _ _ _ _ _ q => neg_int q
end
def scal : V → V → Bool
  | .non, .non => true | .non, .int _ => true | .int _, .non => true | .non, .bl _ => true | .bl _, .non => true | .non, .str _ => true | .str _, .non => true
  | .int _, .int _ => true | .bl _, .bl _ => true | .str _, .str _ => true | .byt _, .byt _ => true
  | .int _, .str _ => true | .str _, .int _ => true | .bl _, .str _ => true | .str _, .bl _ => true
  | _, _ => false
def rEq : R2 := fun x y H Q => scal x y = true ∧ Q (.bl (decide (x = y))) H
def rNe : R2 := fun x y H Q => scal x y = true ∧ Q (.bl (!decide (x = y))) H
theorem dec_int {i j : Int} : decide (V.int i = V.int j) = (i == j) := by
  rw [Bool.eq_iff_iff]
  simp
theorem dec_bl {i j : Bool} : decide (V.bl i = V.bl j) = (i == j) := by
  rw [Bool.eq_iff_iff]
  simp
theorem dec_str {i j : Str} : decide (V.str i = V.str j) = (i == j) := by
  rw [Bool.eq_iff_iff]
  simp
theorem dec_byt {i j : Array UInt8} : decide (V.byt i = V.byt j) = (i.toList == j.toList) := by
  rw [Bool.eq_iff_iff]
  cases i
  cases j
  simp
section
variable {X : Cx} {a b c : Expr} {ta tb tc : TE} {pos : Pos}
theorem fin_bl {pins : List (Addr × Obj)} {σ : St} {H : Hp} {s : Shared} {Q : VK} {k k' : Bool} (I : Inv X pins σ H s) (q : Q (.bl k) H) (e : k = k') : EP X pins σ Q (.bool k') s := by
  subst e
  exact ⟨.bl k, H, I, rfl, q⟩
theorem op_eq : OpR X (compareOp .Eq) rEq := by
  intro pins s σ H x y v u Q I rx ry h
  obtain ⟨hs, q⟩ := h
  cases x with
  | non =>
    cases rx
    cases y with
    | non => cases ry; exact PySem.EqNone.eq_none_none (fin_bl I q (by simp))
    | bl j => cases ry; exact PySem.EqNone.eq_none_bool (fin_bl I q (by simp))
    | int j => obtain ⟨t', rfl⟩ := ry; exact PySem.EqNone.eq_none_int (fin_bl I q (by simp))
    | str j => obtain ⟨t', rfl⟩ := ry; exact PySem.EqNone.eq_none_str (fin_bl I q (by simp))
    | _ => exact absurd (show false = true from hs) Bool.false_ne_true
  | bl i =>
    cases rx
    cases y with
    | non => cases ry; exact PySem.EqNone.eq_bool_none (fin_bl I q (by simp))
    | bl j => cases ry; exact eq_bool (fin_bl I q dec_bl)
    | str j => obtain ⟨t', rfl⟩ := ry; exact PySem.EqMixed.eq_bool_str (fin_bl I q (by simp))
    | _ => exact absurd (show false = true from hs) Bool.false_ne_true
  | int i =>
    obtain ⟨t, rfl⟩ := rx
    cases y with
    | non => cases ry; exact PySem.EqNone.eq_int_none (fin_bl I q (by simp))
    | int j => obtain ⟨t', rfl⟩ := ry; exact eq_int (fin_bl I q dec_int)
    | str j => obtain ⟨t', rfl⟩ := ry; exact PySem.EqMixed.eq_int_str (fin_bl I q (by simp))
    | _ => exact absurd (show false = true from hs) Bool.false_ne_true
  | str i =>
    obtain ⟨t, rfl⟩ := rx
    cases y with
    | non => cases ry; exact PySem.EqNone.eq_str_none (fin_bl I q (by simp))
    | bl j => cases ry; exact PySem.EqMixed.eq_str_bool (fin_bl I q (by simp))
    | int j => obtain ⟨t', rfl⟩ := ry; exact PySem.EqMixed.eq_str_int (fin_bl I q (by simp))
    | str j => obtain ⟨t', rfl⟩ := ry; exact eq_str (fin_bl I q dec_str)
    | _ => exact absurd (show false = true from hs) Bool.false_ne_true
  | byt i =>
    obtain ⟨t, rfl⟩ := rx
    cases y with
    | byt j => obtain ⟨t', rfl⟩ := ry; exact PySem.W.eq_bytes (fin_bl I q dec_byt)
    | _ => exact absurd (show false = true from hs) Bool.false_ne_true
  | _ => cases y <;> exact absurd (show false = true from hs) Bool.false_ne_true
theorem op_ne : OpR X (compareOp .NotEq) rNe := by
  intro pins s σ H x y v u Q I rx ry h
  obtain ⟨hs, q⟩ := h
  cases x with
  | non =>
    cases rx
    cases y with
    | non => cases ry; exact PySem.EqNone.ne_none_none (fin_bl I q (by simp))
    | bl j => cases ry; exact PySem.EqNone.ne_none_bool (fin_bl I q (by simp))
    | int j => obtain ⟨t', rfl⟩ := ry; exact PySem.EqNone.ne_none_int (fin_bl I q (by simp))
    | str j => obtain ⟨t', rfl⟩ := ry; exact PySem.EqNone.ne_none_str (fin_bl I q (by simp))
    | _ => exact absurd (show false = true from hs) Bool.false_ne_true
  | bl i =>
    cases rx
    cases y with
    | non => cases ry; exact PySem.EqNone.ne_bool_none (fin_bl I q (by simp))
    | bl j => cases ry; exact ne_bool (fin_bl I q (congrArg not dec_bl))
    | str j => obtain ⟨t', rfl⟩ := ry; exact PySem.EqMixed.ne_bool_str (fin_bl I q (by simp))
    | _ => exact absurd (show false = true from hs) Bool.false_ne_true
  | int i =>
    obtain ⟨t, rfl⟩ := rx
    cases y with
    | non => cases ry; exact PySem.EqNone.ne_int_none (fin_bl I q (by simp))
    | int j => obtain ⟨t', rfl⟩ := ry; exact ne_int (fin_bl I q (congrArg not dec_int))
    | str j => obtain ⟨t', rfl⟩ := ry; exact PySem.EqMixed.ne_int_str (fin_bl I q (by simp))
    | _ => exact absurd (show false = true from hs) Bool.false_ne_true
  | str i =>
    obtain ⟨t, rfl⟩ := rx
    cases y with
    | non => cases ry; exact PySem.EqNone.ne_str_none (fin_bl I q (by simp))
    | bl j => cases ry; exact PySem.EqMixed.ne_str_bool (fin_bl I q (by simp))
    | int j => obtain ⟨t', rfl⟩ := ry; exact PySem.EqMixed.ne_str_int (fin_bl I q (by simp))
    | str j => obtain ⟨t', rfl⟩ := ry; exact ne_str (fin_bl I q (congrArg not dec_str))
    | _ => exact absurd (show false = true from hs) Bool.false_ne_true
  | byt i =>
    obtain ⟨t, rfl⟩ := rx
    cases y with
    | byt j => obtain ⟨t', rfl⟩ := ry; exact PySem.W.ne_bytes (fin_bl I q (congrArg not dec_byt))
    | _ => exact absurd (show false = true from hs) Bool.false_ne_true
  | _ => cases y <;> exact absurd (show false = true from hs) Bool.false_ne_true
theorem op_lt : OpR X (compareOp .Lt) (rI0 fun i j => .bl (decide (i < j))) := opB0 fun _ _ _ _ _ _ _ q => lt_int q
theorem op_le : OpR X (compareOp .LtE) (rI0 fun i j => .bl (decide (i ≤ j))) := opB0 fun _ _ _ _ _ _ _ q => le_int q
theorem op_gt : OpR X (compareOp .Gt) (rI0 fun i j => .bl (decide (j < i))) := opB0 fun _ _ _ _ _ _ _ q => gt_int q
theorem op_ge : OpR X (compareOp .GtE) (rI0 fun i j => .bl (decide (j ≤ i))) := opB0 fun _ _ _ _ _ _ _ q => ge_int q
theorem nomark (b : Expr) {op : CmpOp} (h : op ≠ .In := by decide) (h2 : op ≠ .NotIn := by decide) : behindInMarks op b = false := by
  have e1 : (op == CmpOp.In) = false := by cases op <;> first | rfl | exact absurd rfl h
  have e2 : (op == CmpOp.NotIn) = false := by cases op <;> first | rfl | exact absurd rfl h2
  cases b <;> simp [behindInMarks, e1, e2]
theorem pe_cmpR {op : CmpOp} {r : R2} (ho : OpR X (compareOp op) r) (ha : PE X a ta) (hb : PE X b tb) (hm : behindInMarks op b = false) : PE X (.Compare a [op] [b] pos) (tOp r ta tb) := by
  intro pins s σ H Q I h
  exact wpAny_Compare1 (binT ha hb I h fun v u s2 x y H2 I2 rx ry q => ho pins s2 σ H2 x y v u Q I2 rx ry q) hm
def tTest (t : TE) : TT := fun σ H Q => t σ H fun x H' => ∃ k, x = .bl k ∧ Q k H'
theorem pt_cmpR {op : CmpOp} {r : R2} (ho : OpR X (compareOp op) r) (ha : PE X a ta) (hb : PE X b tb) (hm : behindInMarks op b = false) : PT X (.Compare a [op] [b] pos) (tTest (tOp r ta tb)) := by
  intro pins s σ H Q I h
  refine wpAny_isTrue_Compare1 (thn (ha pins s σ H _ I h) fun v s1 ⟨x, H1, I1, r1, q1⟩ => thn (hb pins s1 σ H1 _ I1 q1) fun u s2 ⟨y, H2, I2, r2, q2⟩ =>
    thn (ho pins s2 σ H2 x y v u _ I2 r1 r2 q2) fun c s3 ⟨z, H3, I3, r3, k, e, q3⟩ => ?_) hm
  subst e
  cases r3
  exact wpAny_truthy_bool ⟨H3, I3, q3⟩
def tChain (r r' : R2) (ta tb tc : TE) : TE := fun σ H Q => ta σ H fun x H1 => tb σ H1 fun y H2 => r x y H2 fun z H3 => ∃ k, z = .bl k ∧
  (if k = true then tc σ H3 fun w' H4 => r' y w' H4 Q else Q (.bl false) H3)
theorem pe_chain {op op' : CmpOp} {r r' : R2} (ho : OpR X (compareOp op) r) (ho' : OpR X (compareOp op') r') (ha : PE X a ta) (hb : PE X b tb) (hc : PE X c tc)
    (hm : lastMarks [op, op'] [b, c] = false := by with_unfolding_all rfl) : PE X (.Compare a [op, op'] [b, c] pos) (tChain r r' ta tb tc) := by
  intro pins s σ H Q I h
  refine Compare_chain (thn (ha pins s σ H _ I h) fun v s1 ⟨x, H1, I1, r1, q1⟩ => chain_link (thn (hb pins s1 σ H1 _ I1 q1) fun u s2 ⟨y, H2, I2, r2, q2⟩ =>
    thn (ho pins s2 σ H2 x y v u _ I2 r1 r2 q2) fun d s3 ⟨z, H3, I3, r3, k, e, q3⟩ => ?_)) hm
  subst e
  cases r3
  refine wpAny_truthy_bool ?_
  cases k with
  | false => exact ite_ff ⟨.bl false, H3, I3, rfl, q3⟩
  | true => exact ite_tt (chain_last (thn (hc pins s3 σ H3 _ I3 q3) fun w' s4 ⟨z', H4, I4, r4, q4⟩ => ho' pins s4 σ H4 y z' u w' Q I4 r2 r4 q4))
theorem line63 : (sizeLine : Nat) < 2 ^ 63 := by rw [sizeLine_eq]; decide
theorem vals1 {x : V} {us : List Value} (r : Vals [x] us) : ∃ u, us = [u] ∧ RelV x u := by
  cases r with
  | cons r1 r2 => cases r2; exact ⟨_, rfl, r1⟩
end
end L2
namespace L2
open PySem PySem.Spec PyProof.Rows
structure ObjM (h : Heap) (x dx C : Addr) (mA : Str → Option Value) : Prop where
  obj : h.get? x = some (PySem.W.instObj C dx)
  ns : h.Ns1 dx mA
  ne : dx ≠ x
theorem lookIn_ns {h : Heap} {dx : Addr} {mA : Str → Option Value} (n : h.Ns1 dx mA) : ∃ od, h.get? dx = some od ∧ ∀ name, PySem.W.lookIn name od = some (mA name) := by
  obtain ⟨o, es, ep, ho, hd, hk, _, hm⟩ := n
  refine ⟨o, ho, fun name => ?_⟩
  have e := hm name
  unfold nsFind findBy at e
  rw [← Array.find?_toList] at e
  unfold PySem.W.lookIn
  rw [hd]
  dsimp only
  split
  · rename_i y q
    rw [q] at e
    exact congrArg some e
  · rename_i q
    rw [q] at e
    have a : es.toList.any (·.refKey) = false := by
      rw [List.any_eq_false]
      intro y hy
      obtain ⟨z, t, hkey⟩ := hk y (Array.mem_toList_iff.mp hy)
      simp [DictEntry.refKey, hkey]
    have a' : ¬ es.toList.any (·.refKey) = true := by rw [a]; exact Bool.false_ne_true
    rw [if_neg a']
    exact congrArg some e
theorem ObjM.look {h : Heap} {x dx C : Addr} {mA : Str → Option Value} (I : ObjM h x dx C mA) : ∃ od, PySem.W.InstAt h x (PySem.W.instObj C dx) C (some od) ∧ ∀ name, PySem.W.lookIn name od = some (mA name) :=
  let ⟨od, ho, hl⟩ := lookIn_ns I.ns
  ⟨od, ⟨I.obj, rfl, rfl, ho⟩, hl⟩
section
variable {prog : Program} {w : World} {A : Around} {E : Value → Shared → Prop} {s : Shared} {K : PySem.W.Frag} {x dx C f : Addr} {mA : Str → Option Value} {name : Str} {v : Value}
theorem get_map {expr : Bool} {Q : Value → Shared → Prop} (X : K.In s.heap) (I : ObjM s.heap x dx C mA) (hg : PySem.W.plainGet K C name = true) (hh : PySem.W.hasDictIn K C = true)
    (ha : PySem.W.findIn K (.ref C) name = some none) (hv : mA name = some v) (hv' : PySem.W.handedIn v = true) (h : Q v { s with toks := s.toks + 1 }) :
    wpAny (model prog w) A (getAttr (.ref x) name expr) Q E s := by
  obtain ⟨od, J, hl⟩ := I.look
  exact PySem.W.get_value X J (PySem.W.plainGet_of hg).1 (PySem.W.findObj_own hh ha rfl (by rw [hl, hv])) hv' h
theorem get_meth {pl : Sem Bool} {Q : Value × List Value → Shared → Prop} (X : K.In s.heap) (I : ObjM s.heap x dx C mA) (hg : PySem.W.plainGet K C name = true)
    (hf : PySem.W.findIn K (.ref C) name = some (some (.ref f))) (ht : PySem.W.isFn K (.ref f) = true) (hv : mA name = none) (h : Q (.ref f, [.ref x]) s) :
    wpAny (model prog w) A (getMethod (.ref x) name pl) Q E s := by
  obtain ⟨od, J, hl⟩ := I.look
  exact PySem.W.method_fn X J (PySem.W.plainGet_of hg).1 (PySem.W.plainGet_of hg).2 hf (beq_iff_eq.mp ht) (by show (PySem.W.lookIn name od).map (·.isSome) = some false; rw [hl, hv]; rfl) h
theorem set_map {ns : List Str} {Q : Unit → Shared → Prop} (X : K.In s.heap) (I : ObjM s.heap x dx C mA)
    (hs : PySem.W.findIn K (.ref C) "__setattr__" = some (some (.builtin "object.__setattr__"))) (hp : PySem.W.plainOver K C = true) (ht : PySem.W.takerIn K C name = some none) (hh : PySem.W.hasDictIn K C = true)
    (hw : PySem.Within mA ns) (hsz : ns.length ≤ sizeLine)
    (h : ∀ h', ObjM h' x dx C (fun y => if y = name then some v else mA y) → Heap.SameBut dx s.heap h' → Q () { s with heap := h', toks := s.toks + 2 }) :
    wpAny (model prog w) A (setAttr (.ref x) name v) Q E s := by
  obtain ⟨od, J, hl⟩ := I.look
  refine PySem.W.set_plain X J hs (PySem.W.osa_open (s := { s with toks := s.toks + 1 }) (r := none) X J hp ht fun b => ?_)
  obtain ⟨cd, hc, hd'⟩ := PySem.W.any_some hh
  have hx : s.heap.get? x = some ⟨.ref C, some dx, .plain, #[]⟩ := I.obj
  refine wpAny_bind (wpAny_pure (wpAny_bind (wpAny_bind (wpAny_loadPart hx (wpAny_bind (PySem.W.Looks.here (s := { s with toks := s.toks + 1 }) (PySem.W.looks_clsIn X hc) ?_))))))
  rw [hd']
  refine wpAny_pure (a := some dx) (wpAny_bind (wpAny_pure (wpAny_bind ?_)))
  refine wpAny_nsSet1 (s := { s with toks := s.toks + 1 }) I.ns fun h' hn2 hs2 => ?_
  obtain ⟨oD, esD, epD, hoD, hdD, hcD⟩ := hn2.count (PySem.Within.cons name v hw)
  refine wpAny_bind (wpAny_lookBehind hoD (by rw [hdD]; exact pastItsLine_dict (Nat.le_trans hcD (by rw [List.length_cons]; omega))) ?_)
  exact wpAny_pure (h _ ⟨(hs2.2 _ (Ne.symm I.ne)).trans I.obj, hn2, I.ne⟩ hs2)
theorem make_map {R : Result → Shared → Prop} {vs : List Value} {kw : List (Str × Value)} (X : K.In s.heap) (hm : PySem.W.makesIn K C = true)
    (hi : PySem.W.findIn K (.ref C) "__init__" = some (some (.ref f))) (hf : PySem.W.typeIn K (.ref f) = some (.type "function"))
    (h : codeAny (model prog w) (A.under (.builtin "type.__call__" ⟨.ref C :: vs, kw⟩)) (.call (.ref f) ⟨.ref (s.heap.objs.size + 1) :: vs, kw⟩) (PySem.W.InitBack (s.heap.objs.size + 1) R)
      { s with heap := (s.heap.push PySem.W.emptyDict).push (PySem.W.instObj C s.heap.objs.size) }) :
    codeAny (model prog w) A (.call (.ref C) ⟨vs, kw⟩) R s := by
  obtain ⟨hh, g, d, t, os⟩ := s
  exact PySem.W.make_core (PySem.W.makes_of X hm) (PySem.W.looks_findIn X hi) (fun self => PySem.W.bind_fn X self hf) (.inl rfl) h
end
def putF (f : Str) (v : V) : List (Str × V) → List (Str × V)
  | [] => [(f, v)]
  | (g, x) :: r => if g = f then (g, v) :: r else (g, x) :: putF f v r
theorem lookup_putF (f g : Str) (v : V) : ∀ fs : List (Str × V), (putF f v fs).lookup g = if g = f then some v else fs.lookup g
  | [] => by
    show List.lookup g [(f, v)] = _
    by_cases h : g = f
    · have hb : (g == f) = true := beq_iff_eq.mpr h
      simp only [List.lookup, hb, if_pos h]
    · have hb : (g == f) = false := beq_eq_false_iff_ne.mpr h
      simp only [List.lookup, hb, if_neg h]
  | (k, x) :: r => by
    have ih := lookup_putF f g v r
    rw [show putF f v ((k, x) :: r) = (if k = f then (k, v) :: r else (k, x) :: putF f v r) from rfl]
    by_cases hk : k = f
    · rw [if_pos hk]
      by_cases h : g = k
      · have hb : (g == k) = true := beq_iff_eq.mpr h
        simp only [List.lookup, hb, if_pos (h.trans hk)]
      · have hb : (g == k) = false := beq_eq_false_iff_ne.mpr h
        simp only [List.lookup, hb, if_neg (fun e : g = f => h (e.trans hk.symm))]
    · rw [if_neg hk]
      by_cases h : g = k
      · have hb : (g == k) = true := beq_iff_eq.mpr h
        simp only [List.lookup, hb, if_neg (fun e : g = f => hk (h.symm.trans e))]
      · have hb : (g == k) = false := beq_eq_false_iff_ne.mpr h
        simp only [List.lookup, hb]
        exact ih
theorem keys_putF (f : Str) (v : V) : ∀ fs : List (Str × V), f ∈ (putF f v fs).map (·.1) ∧ ∀ g, g ∈ fs.map (·.1) → g ∈ (putF f v fs).map (·.1)
  | [] => ⟨by simp [putF], fun g h => by simp at h⟩
  | (k, x) :: r => by
    obtain ⟨i1, i2⟩ := keys_putF f v r
    rw [show putF f v ((k, x) :: r) = (if k = f then (k, v) :: r else (k, x) :: putF f v r) from rfl]
    by_cases hk : k = f
    · rw [if_pos hk]
      subst hk
      exact ⟨by simp, fun g h => by simpa using h⟩
    · rw [if_neg hk]
      refine ⟨?_, fun g h => ?_⟩
      · rw [List.map_cons]
        exact List.mem_cons_of_mem _ i1
      · rw [List.map_cons] at h ⊢
        rcases List.mem_cons.mp h with e | e
        · exact List.mem_cons.mpr (.inl e)
        · exact List.mem_cons_of_mem _ (i2 g e)
theorem length_putF (f : Str) (v : V) : ∀ fs : List (Str × V), (putF f v fs).length ≤ fs.length + 1
  | [] => by simp [putF]
  | (k, x) :: r => by
    have ih := length_putF f v r
    rw [show putF f v ((k, x) :: r) = (if k = f then (k, v) :: r else (k, x) :: putF f v r) from rfl]
    by_cases hk : k = f
    · rw [if_pos hk, List.length_cons, List.length_cons]; omega
    · rw [if_neg hk, List.length_cons, List.length_cons]; omega
theorem RelO.some_of {v : V} {o : Option Value} (r : RelO (some v) o) : ∃ u, o = some u ∧ RelV v u := by
  cases o with
  | none => exact (show False from r).elim
  | some u => exact ⟨u, rfl, r⟩
theorem RelO.none_of {o : Option Value} (r : RelO none o) : o = none := by
  cases o with
  | none => rfl
  | some u => exact (show False from r).elim
theorem handed_of {v : V} {u : Value} (r : RelV v u) : PySem.W.handedIn u = true := by
  cases v with
  | non => cases (show u = Value.none from r); rfl
  | bl b => cases (show u = Value.bool b from r); rfl
  | int i => obtain ⟨t, e⟩ := (show ∃ t, u = Value.int i t from r); cases e; rfl
  | str x => obtain ⟨t, e⟩ := (show ∃ t, u = Value.str x t from r); cases e; rfl
  | byt b => obtain ⟨t, e⟩ := (show ∃ t, u = Value.bytes b t from r); cases e; rfl
  | flt b => obtain ⟨t, e⟩ := (show ∃ t, u = Value.float b t from r); cases e; rfl
  | ref a => cases (show u = Value.ref a from r); rfl
  | ty n => cases (show u = Value.type n from r); rfl
section
variable {P : Program} {w : World} {H H' : Hp} {h h' : Heap} {a C dx : Addr} {fs fs' : List (Str × V)}
theorem ins_get (hok : HOk P w H h) (e : H a = some (.ins C dx fs)) : ∃ mA, ObjM h a dx C mA ∧ (∀ f, RelO (fs.lookup f) (mA f)) ∧ PySem.Within mA (fs.map (·.1)) ∧ fs.length ≤ 1000 ∧ H dx = some (.own a) := by
  obtain ⟨d, z, ne, ob, mA, n, r, q⟩ := (show ObjOk P w H h a (.ins C dx fs) from hok a _ e)
  exact ⟨mA, ⟨ob, n, ne⟩, r, q, z, d⟩
end
structure Cls (K : PySem.W.Frag) (C : Addr) : Prop where
  pg : PySem.W.plainGet K C Str.empty = true
  hd : PySem.W.hasDictIn K C = true
  po : PySem.W.plainOver K C = true
  sa : PySem.W.findIn K (.ref C) "__setattr__" = some (some (.builtin "object.__setattr__"))
theorem Cls.get {K : PySem.W.Frag} {C : Addr} (c : Cls K C) (f : Str) : PySem.W.plainGet K C f = true := c.pg
def NoAttr (K : PySem.W.Frag) (C : Addr) (f : Str) : Prop := PySem.W.findIn K (.ref C) f = some none
theorem NoAttr.taker {K : PySem.W.Frag} {C : Addr} {f : Str} (n : NoAttr K C f) : PySem.W.takerIn K C f = some none := by
  unfold PySem.W.takerIn
  rw [show PySem.W.findIn K (.ref C) f = some none from n]
  rfl
structure Meth (K : PySem.W.Frag) (C : Addr) (m : Str) (f : Addr) : Prop where
  at_ : PySem.W.findIn K (.ref C) m = some (some (.ref f))
  fn : PySem.W.isFn K (.ref f) = true
  kp : PySem.W.keepIn K (.ref f) = true
section
variable {X : Cx} {pins : List (Addr × Obj)} {σ : St} {H : Hp} {s : Shared} {a C dx : Addr} {fs : List (Str × V)} {f : Str} {v : V} {A : Around} {E : Value → Shared → Prop}
theorem getattr_ok {b : Bool} {Q : Value → Shared → Prop} (I : Inv X pins σ H s) (e : H a = some (.ins C dx fs)) (c : Cls X.K C) (n : NoAttr X.K C f) (l : fs.lookup f = some v)
    (h : ∀ u s', Inv X pins σ H s' → RelV v u → Q u s') : wpAny (model X.prog X.w) A (getAttr (.ref a) f b) Q E s := by
  obtain ⟨mA, O, r, _, _, _⟩ := ins_get I.hok e
  obtain ⟨u, hu, ru⟩ := RelO.some_of (v := v) (o := mA f) (by rw [← l]; exact r f)
  exact get_map I.kIn O (c.get f) c.hd n hu (handed_of ru) (h u _ (I.tok _) ru)
theorem getmeth_ok {m : Str} {g : Addr} {pl : Sem Bool} {Q : Value × List Value → Shared → Prop} (I : Inv X pins σ H s) (e : H a = some (.ins C dx fs)) (c : Cls X.K C) (k : Meth X.K C m g) (l : fs.lookup m = none)
    (h : Q (.ref g, [.ref a]) s) : wpAny (model X.prog X.w) A (getMethod (.ref a) m pl) Q E s := by
  obtain ⟨mA, O, r, _, _, _⟩ := ins_get I.hok e
  have hn : mA m = none := RelO.none_of (by rw [← l]; exact r m)
  exact get_meth I.kIn O (c.get m) k.at_ k.fn hn h
theorem setattr_ok {y : V} {u : Value} {Q : Unit → Shared → Prop} (I : Inv X pins σ H s) (e : H a = some (.ins C dx fs)) (c : Cls X.K C) (n : NoAttr X.K C f) (hl : fs.length < 1000) (ry : RelV y u)
    (h : ∀ s', Inv X pins σ (upd H a (.ins C dx (putF f y fs))) s' → Q () s') : wpAny (model X.prog X.w) A (setAttr (.ref a) f u) Q E s := by
  obtain ⟨mA, O, r, wi, _, ho⟩ := ins_get I.hok e
  have hz : (fs.map (·.1)).length ≤ sizeLine := by rw [List.length_map, sizeLine_eq]; omega
  refine set_map I.kIn O c.sa c.po n.taker c.hd wi hz fun h' O' sb => h _ ?_
  have hd : ∃ o, h'.get? dx = some o := let ⟨o, _, _, e', _⟩ := O'.ns; ⟨o, e'⟩
  refine I.write (x := a) (e := dx) (by rw [e]; exact True.intro) (.inr ho) (fun b q hb z => (sb.2 b hb).trans z) hd ?_
  refine ⟨by rw [upd_ne O.ne]; exact ho, ?_, O.ne, O'.obj, _, O'.ns, fun g => ?_, fun g hg => ?_⟩
  · have := length_putF f y fs; omega
  · show RelO ((putF f y fs).lookup g) (if g = f then some u else mA g)
    rw [lookup_putF]
    by_cases q : g = f
    · rw [if_pos q, if_pos q]; exact ry
    · rw [if_neg q, if_neg q]; exact r g
  · by_cases q : g = f
    · rw [q]; exact (keys_putF f y fs).1
    · refine (keys_putF f y fs).2 g (wi g fun z => hg ?_)
      show (if g = f then some u else mA g) = none
      rw [if_neg q]; exact z
theorem Inv.made (I : Inv X pins σ H s) : Inv X pins σ (upd (upd H s.heap.objs.size (.own (s.heap.objs.size + 1))) (s.heap.objs.size + 1) (.ins C s.heap.objs.size []))
    { s with heap := (s.heap.push PySem.W.emptyDict).push (PySem.W.instObj C s.heap.objs.size) } := by
  have e1 : (s.heap.push PySem.W.emptyDict).get? s.heap.objs.size = some PySem.W.emptyDict := Heap.get?_push_size s.heap rfl
  have e2 : ((s.heap.push PySem.W.emptyDict).push (PySem.W.instObj C s.heap.objs.size)).get? (s.heap.objs.size + 1) = some (PySem.W.instObj C s.heap.objs.size) := by
    have := Heap.get?_push_size (s.heap.push PySem.W.emptyDict) (o := PySem.W.instObj C s.heap.objs.size) rfl
    rwa [Heap.size_push] at this
  have e3 : (s.heap.push PySem.W.emptyDict).Ns s.heap.objs.size (fun _ => none) := ⟨PySem.W.emptyDict, #[], _, e1, rfl, (fun e he => absurd he (by simp)), fun _ => rfl⟩
  have I1 := I.laid (a := s.heap.objs.size) (o := .own (s.heap.objs.size + 1)) (h' := s.heap.push PySem.W.emptyDict) (t' := s.toks) (fun b u q => Heap.get?_push_of_some _ q) (Nat.le_refl _) ⟨_, e1⟩
  refine I1.laid (a := s.heap.objs.size + 1) (o := .ins C s.heap.objs.size []) (t' := s.toks) (fun b u q => Heap.get?_push_of_some _ q) (Nat.le_of_eq (Heap.size_push _ _)) ?_
  have ne : s.heap.objs.size ≠ s.heap.objs.size + 1 := Nat.ne_of_lt (Nat.lt_succ_self _)
  refine ⟨by rw [upd_ne ne, upd_same], Nat.zero_le _, ne, e2, fun _ => none, (Heap.Ns1.of_empty e3).at fun o q => Heap.get?_push_of_some _ q, fun _ => True.intro, fun y hy => absurd rfl hy⟩
theorem attr_of {prog : Program} {w : World} {env : Env} {e : Expr} {f : Str} {pos : Pos} {s : Shared} {Q : Value → Shared → Prop} (hb : attributeBase e f env (eval e env) = eval e env)
    (h : wpAny (model prog w) A (eval e env) (fun o s₁ => wpAny (model prog w) A (getAttr o f true) Q E s₁) E s) : wpAny (model prog w) A (eval (.Attribute e f pos) env) Q E s :=
  Attribute_any_ h (by rw [arm_eval_Attribute, hb])
end
def tFld (K : PySem.W.Frag) (ta : TE) (f : Str) : TE := fun σ H Q => ta σ H fun x H1 => ∃ a C dx fs v, x = .ref a ∧ H1 a = some (.ins C dx fs) ∧ Cls K C ∧ NoAttr K C f ∧ fs.lookup f = some v ∧ Q v H1
def sFld (K : PySem.W.Frag) (ta tv : TE) (f : Str) : TS := fun D σ H => tv σ H fun y H1 => ta σ H1 fun x H2 => ∃ a C dx fs, x = .ref a ∧ H2 a = some (.ins C dx fs) ∧ Cls K C ∧ NoAttr K C f ∧ fs.length < 1000 ∧
  D.nx σ (upd H2 a (.ins C dx (putF f y fs)))
def InOp (X : Cx) (op : Operator) (rd : V → V → Hp → VK → Prop) : Prop :=
  ∀ (pins : List (Addr × Obj)) (s : Shared) (σ : St) (H : Hp) (x y : V) (u v : Value) (Q : VK), Inv X pins σ H s → RelV x u → RelV y v → rd x y H Q → wpAny (model X.prog X.w) X.A (inplaceOp op u v) (EP X pins σ Q) X.xe s
def sFldAug (K : PySem.W.Frag) (ta tv : TE) (rd : V → V → Hp → VK → Prop) (f : Str) : TS := fun D σ H => ta σ H fun x H1 => ∃ a C dx fs v, x = .ref a ∧ H1 a = some (.ins C dx fs) ∧ Cls K C ∧ NoAttr K C f ∧ fs.lookup f = some v ∧
  tv σ H1 fun y H2 => rd v y H2 fun z H3 => ∃ dx' fs', H3 a = some (.ins C dx' fs') ∧ fs'.length < 1000 ∧ D.nx σ (upd H3 a (.ins C dx' (putF f z fs')))
section
variable {X : Cx} {o e value : Expr} {f : Str} {pos pos' tpos : Pos} {ta tv : TE}
theorem pe_fld (he : PE X e ta) (hb : attributeBase e f X.env (eval e X.env) = eval e X.env) : PE X (.Attribute e f pos) (tFld X.K ta f) := by
  intro pins s σ H Q I h
  refine attr_of hb (thn (he pins s σ H _ I h) fun u s1 ⟨x, H1, I1, rx, a, C, dx, fs, v, ex, ea, c, n, l, q⟩ => ?_)
  subst ex
  obtain rfl : u = Value.ref a := rx
  exact getattr_ok I1 ea c n l fun u' s2 I2 ru => ⟨v, H1, I2, ru, q⟩
theorem ps_fld (ha : PE X o ta) (hv : PE X value tv) (hs : swapsWith value (some (.Attribute o f pos')) pos.line X.env = pure false) : PS X (.Assign [.Attribute o f pos'] value pos) (sFld X.K ta tv f) := by
  intro pins s σ H D I h
  refine plainObj_wpAny_Assign_Attribute (thn (hv pins s σ H _ I h) fun u s1 ⟨y, H1, I1, ry, q⟩ => thn (ha pins s1 σ H1 _ I1 q) fun ov s2 ⟨x, H2, I2, rx, a, C, dx, fs, ex, ea, c, n, l, q2⟩ => ?_) hs
  subst ex
  obtain rfl : ov = Value.ref a := rx
  exact setattr_ok I2 ea c n l ry fun s3 I3 => ⟨σ, _, I3, q2⟩
theorem ps_fldaug {op : Operator} {rd : V → V → Hp → VK → Prop} (ha : PE X o ta) (hv : PE X value tv) (hop : InOp X op rd) : PS X (.AugAssign (.Attribute o f tpos) op value pos) (sFldAug X.K ta tv rd f) := by
  intro pins s σ H D I h
  refine wpAny_AugAssign_AttributeAny (thn (ha pins s σ H _ I h) fun ov s1 ⟨x, H1, I1, rx, a, C, dx, fs, v, ex, ea, c, n, l, q⟩ => ?_)
  subst ex
  obtain rfl : ov = Value.ref a := rx
  refine getattr_ok I1 ea c n l fun u s2 I2 ru => thn (hv pins s2 σ H1 _ I2 q) fun w3 s3 ⟨y, H2, I3, ry, q3⟩ => thn (hop pins s3 σ H2 v y u w3 _ I3 ru ry q3) fun w4 s4 ⟨z, H3, I4, rz, dx', fs', ea', l', q4⟩ => ?_
  exact setattr_ok I4 ea' c n l' rz fun s5 I5 => ⟨σ, _, I5, q4⟩
def rAdd : V → V → Hp → VK → Prop := fun x y H Q => ∃ i j, x = .int i ∧ y = .int j ∧ Q (.int (i + j)) H
theorem in_add : InOp X .Add rAdd := by
  rintro pins s σ H x y u v Q I rx ry ⟨i, j, rfl, rfl, q⟩
  obtain ⟨t, rfl⟩ := (show ∃ t, u = Value.int i t from rx)
  obtain ⟨t', rfl⟩ := (show ∃ t', v = Value.int j t' from ry)
  exact PyProof.Rows.iadd_int ⟨.int (i + j), H, I.tok _, ⟨_, rfl⟩, q⟩
theorem methcall_of {pl : Sem Bool} {m : Str} {apos : Pos} {args : List Expr} {pins : List (Addr × Obj)} {s : Shared} {σ : St} {H : Hp} {Q : Value → Shared → Prop} {te : TE} (he : PE X e te) (I : Inv X pins σ H s)
    (h : te σ H fun x H1 => ∃ a C dx fs g, x = .ref a ∧ H1 a = some (.ins C dx fs) ∧ Cls X.K C ∧ Meth X.K C m g ∧ fs.lookup m = none ∧
      ∀ s1, Inv X pins σ H1 s1 → wpAny (model X.prog X.w) X.A (callWith pos (.ref g) [.ref a] (backTo pos (starEach args X.env)) (backToKw pos (keywordEach [] X.env))) Q X.xe s1)
    (ht : eval (.Call (.Attribute e m apos) args [] pos) X.env = (do
      let ov ← eval e X.env
      standAt apos.atName
      let (f, first) ← holding [ov] (getMethod ov m pl)
      callWith pos f first (backTo pos (starEach args X.env)) (backToKw pos (keywordEach [] X.env)))) :
    wpAny (model X.prog X.w) X.A (eval (.Call (.Attribute e m apos) args [] pos) X.env) Q X.xe s := by
  refine PySem.W.methodCall_KW (pl := pl) (thn (he pins s σ H _ I h) fun u s1 ⟨x, H1, I1, rx, a, C, dx, fs, g, ex, ea, c, k, l, q⟩ => ?_) ht
  subst ex
  obtain rfl : u = Value.ref a := rx
  exact getmeth_ok I1 ea c k l (q s1 I1)
end
section
variable {X : Cx} {pins : List (Addr × Obj)} {σ : St} {H : Hp} {s : Shared} {A : Around} {E : Value → Shared → Prop} {Q : Value → Shared → Prop} {c : Value} {b : Bool}
inductive TyOf (K : PySem.W.Frag) (H : Hp) : V → Value → Prop where
  | non : TyOf K H .non (.type "NoneType")
  | bl (x : Bool) : TyOf K H (.bl x) (.type "bool")
  | int (i : Int) : TyOf K H (.int i) (.type "int")
  | str (x : Str) : TyOf K H (.str x) (.type "str")
  | flt (x : UInt64) : TyOf K H (.flt x) (.type "float")
  | lst {a : Addr} {xs : List V} (e : H a = some (.lst xs)) : TyOf K H (.ref a) (.type "list")
  | frz {a : Addr} {o : Obj} {xs : List V} (e : H a = some (.frz o (.lst xs))) : TyOf K H (.ref a) (.type "list")
  | tup {a : Addr} {xs : List V} (e : H a = some (.tup xs)) : TyOf K H (.ref a) (.type "tuple")
  | dK {a : Addr} {kvs : List (Key × V)} (e : H a = some (.dK kvs)) : TyOf K H (.ref a) (.type "dict")
  | dT {a : Addr} {kvs : List (List Key × V)} (e : H a = some (.dT kvs)) : TyOf K H (.ref a) (.type "dict")
  | ins {a C dx : Addr} {fs : List (Str × V)} (e : H a = some (.ins C dx fs)) (cl : Cls K C) (ha : PySem.W.findIn K (.ref C) "__class__" = some (some (.builtin "object.__class__")))
      (hn : PySem.W.specialIn K (.builtin "object.__class__") "__get__" = some (some (.builtin "getset_descriptor.__get__"))) (htk : PySem.W.takesIn K (.builtin "object.__class__") = some true)
      (hm : PySem.W.mroIn K C (.type "object") = some true) : TyOf K H (.ref a) (.ref C)
theorem isinst_ok {x : V} {u t : Value} (I : Inv X pins σ H s) (rx : RelV x u) (ty : TyOf X.K H x t) (e : PySem.W.kitOne X.K t c = some b) (h : ∀ tk, Q (.bool b) { s with toks := tk }) :
    wpAny (model X.prog X.w) A (call (.builtin "isinstance") [u, c]) Q E s := by
  cases ty with
  | non => cases (show u = Value.none from rx); exact PySem.W.kia_one PySem.W.kitx_none I.kIn True.intro e (fun z => nomatch z) h
  | bl y => cases (show u = Value.bool y from rx); exact PySem.W.kia_one PySem.W.kitx_bool I.kIn True.intro e (fun z => nomatch z) h
  | int i => obtain ⟨t, q⟩ := (show ∃ t, u = Value.int i t from rx); cases q; exact PySem.W.kia_one PySem.W.kitx_int I.kIn True.intro e (fun z => nomatch z) h
  | str y => obtain ⟨t, q⟩ := (show ∃ t, u = Value.str y t from rx); cases q; exact PySem.W.kia_one PySem.W.kitx_str I.kIn True.intro e (fun z => nomatch z) h
  | flt y => obtain ⟨t, q⟩ := (show ∃ t, u = Value.float y t from rx); cases q; exact PySem.W.kia_one PySem.W.kitx_float I.kIn True.intro e (fun z => nomatch z) h
  | @lst a xs ea =>
    cases (show u = Value.ref a from rx)
    obtain ⟨_, _, n, _, h1⟩ := (show ObjOk X.prog X.w H s.heap a (.lst xs) from I.hok a _ ea)
    exact PySem.W.kia_one PySem.W.kitx_list I.kIn ⟨_, h1, rfl⟩ e (fun z => nomatch z) h
  | @frz a ob xs ea =>
    cases (show u = Value.ref a from rx)
    obtain ⟨_, _, _, n, _, h1⟩ := (show ObjOk X.prog X.w H s.heap a (.frz ob (.lst xs)) from I.hok a _ ea)
    exact PySem.W.kia_one PySem.W.kitx_list I.kIn ⟨_, h1, rfl⟩ e (fun z => nomatch z) h
  | @tup a xs ea =>
    cases (show u = Value.ref a from rx)
    obtain ⟨_, _, _, p⟩ := (show ObjOk X.prog X.w H s.heap a (.tup xs) from I.hok a _ ea)
    obtain ⟨o, h1, h2, _⟩ := p
    exact PySem.W.kia_one PySem.W.kitx_tuple I.kIn ⟨o, h1, h2⟩ e (fun z => nomatch z) h
  | @dK a kvs ea =>
    cases (show u = Value.ref a from rx)
    obtain ⟨_, _, vs, _, p⟩ := (show ObjOk X.prog X.w H s.heap a (.dK kvs) from I.hok a _ ea)
    obtain ⟨o, es, ep, h1, h2, _⟩ := p
    exact PySem.W.kia_one PySem.W.kitx_dict I.kIn ⟨o, h1, h2.1⟩ e (fun z => nomatch z) h
  | @dT a kvs ea =>
    cases (show u = Value.ref a from rx)
    obtain ⟨_, _, xs, _, o, es, ep, h1, h2, _⟩ := (show ObjOk X.prog X.w H s.heap a (.dT kvs) from I.hok a _ ea)
    exact PySem.W.kia_one PySem.W.kitx_dict I.kIn ⟨o, h1, h2.1⟩ e (fun z => nomatch z) h
  | @ins a C dx fs ea cl ha hn htk hm =>
    cases (show u = Value.ref a from rx)
    obtain ⟨mA, O, _⟩ := ins_get I.hok ea
    obtain ⟨od, J, _⟩ := O.look
    exact PySem.W.kia_one (PySem.W.kitx_own (cl.get _) cl.hd ha hn htk hm) I.kIn J e (fun z => nomatch z) h
end
end L2
namespace L2
open PySem PySem.Spec PyProof.Rows
structure Room (k : Nat) (A : Around) : Prop where
  hd : A.handled = none
  dp : A.depth + 3 * k + 5 < recursionLimit
  un : A.units + 16 * k + 200 < cLine
theorem Room.mono {j k : Nat} {A : Around} (r : Room k A) (h : j ≤ k) : Room j A := ⟨r.hd, by have := r.dp; omega, by have := r.un; omega⟩
theorem Room.deeper {k : Nat} {A : Around} (r : Room (k + 1) A) (env : Env) : Room k (A.deeper env) :=
  ⟨r.hd, by have := r.dp; show A.depth + 1 + 3 * k + 5 < _; omega, by have := r.un; show A.units + 3 + 16 * k + 200 < _; omega⟩
theorem make_depth {A : Around} {C : Addr} {us : List Value} {kw : List (Str × Value)} : (A.under (.builtin "type.__call__" ⟨.ref C :: us, kw⟩)).depth = A.depth + 1 := by
  first | rfl | simp [Around.under, Code.weight, Code.isCreation, Code.isGuard, Code.isCaller, Code.frames, Code.isFrame, guardIds]
theorem make_units {A : Around} {C : Addr} {us : List Value} {kw : List (Str × Value)} : (A.under (.builtin "type.__call__" ⟨.ref C :: us, kw⟩)).units = A.units + 1 := by
  first | rfl | simp [Around.under, Code.cUnits, Code.frames, Code.isFrame]
theorem Room.make {k : Nat} {A : Around} (r : Room (k + 1) A) (C : Addr) (us : List Value) (kw : List (Str × Value)) : Room k (A.under (.builtin "type.__call__" ⟨.ref C :: us, kw⟩)) :=
  ⟨r.hd, by have := r.dp; rw [make_depth]; omega, by have := r.un; rw [make_units]; omega⟩
theorem Room.depth {k : Nat} {A : Around} (r : Room k A) : A.depth < recursionLimit := by have := r.dp; omega
theorem Room.units {k : Nat} {A : Around} (r : Room k A) : A.units + 64 < cLine := by have := r.un; omega
def tNil : TA := fun _ H Q => Q [] H
def tCons (ta : TE) (tr : TA) : TA := fun σ H Q => ta σ H fun x H1 => tr σ H1 fun xs H2 => Q (x :: xs) H2
section
variable {X : Cx} {e : Expr} {es : List Expr} {te : TE} {t : TA} {pos : Pos}
theorem pa_nil : PA X [] tNil := fun _ _ _ _ H Q I h => Calls.spliced_nil ⟨[], H, I, .nil, h⟩
theorem pa_cons (ha : PE X e te) (hr : PA X es t) (hs : starEach (e :: es) X.env = (false, eval e X.env) :: starEach es X.env := by rfl) : PA X (e :: es) (tCons te t) := by
  intro pos pins s σ H Q I h
  rw [hs]
  show wpAny _ _ (spliced ((false, eval e X.env) :: backTo pos (starEach es X.env))) _ _ s
  refine Calls.spliced_cons (thn (ha pins s σ H _ I h) fun u s1 ⟨x, H1, I1, r1, q1⟩ => ?_)
  exact thn (hr pos pins s1 σ H1 _ I1 q1) fun us s2 ⟨xs, H2, I2, r2, q2⟩ => ⟨x :: xs, H2, I2, .cons r1 r2, q2⟩
def tTup (t : TA) : TE := fun σ H Q => t σ H fun xs H1 => xs.length ≤ sizeLine ∧ ∀ p, H1 p = none → Q (.ref p) (upd H1 p (.tup xs))
def tLst (t : TA) : TE := fun σ H Q => t σ H fun xs H1 => xs.length ≤ sizeLine ∧ ∀ p, H1 p = none → Q (.ref p) (upd H1 p (.lst xs))
theorem pe_tup {x1} (h : PA X es t) : PE X (.Tuple es x1 pos) (tTup t) := by
  intro pins s σ H Q I hq
  refine wpAny_Tuple_spliced (thn (h pos pins s σ H _ I hq) fun us s1 ⟨xs, H1, I1, r, z, q⟩ => ⟨by rw [← r.length]; exact z, ?_⟩)
  have hf : H1 s1.heap.objs.size = none := I1.hok.fresh (Nat.le_refl _)
  refine ⟨.ref s1.heap.objs.size, upd H1 s1.heap.objs.size (.tup xs), I1.laid (t' := s1.toks) (fun b u e => Heap.get?_push_of_some _ e) (Nat.le_refl _) ?_, rfl, q _ hf⟩
  exact ⟨z, us, r, ⟨_, Heap.get?_push_size _ rfl, rfl, _, rfl⟩⟩
theorem pe_lst (h : PA X es t) : PE X (.List es pos) (tLst t) := by
  intro pins s σ H Q I hq
  refine wpAny_List_spliced (thn (h pos pins s σ H _ I hq) fun us s1 ⟨xs, H1, I1, r, z, q⟩ => ⟨by rw [← r.length]; exact z, ?_⟩)
  have hf : H1 s1.heap.objs.size = none := I1.hok.fresh (Nat.le_refl _)
  refine ⟨.ref s1.heap.objs.size, upd H1 s1.heap.objs.size (.lst xs), I1.laid (t' := s1.toks) (fun b u e => Heap.get?_push_of_some _ e) (Nat.le_refl _) ?_, rfl, q _ hf⟩
  exact ⟨z, us, 0, r, Heap.get?_push_size _ rfl⟩
end
abbrev Sp := List V → Hp → VK → XK → Prop
abbrev CXT := List Env → Hp → Shared → XK → Value → Shared → Prop
structure Env0 (P : Program) (w : World) (K : PySem.W.Frag) (mg : Str → Option Value) (base : Heap) (A : Around) (outer : List Env) (s : Shared) (H : Hp) : Prop where
  frames : A.frames = some outer
  mod : Mod K mg base
  bs : ∀ b o, base.get? b = some o → s.heap.get? b = some o ∧ H b = none
  bsz : base.objs.size ≤ s.heap.objs.size
  funs : s.heap.FunFrames base outer
  frf : ∀ b ∈ frs outer, H b = none
  hok : HOk P w H s.heap
  bare : AllBare s.gens
def CE (outer : List Env) (P : Program) (w : World) (H : Hp) (s : Shared) (Q : VK) (u : Value) (s' : Shared) : Prop :=
  ∃ v H', s'.os = s.os ∧ AllBare s'.gens ∧ Un (frs outer) [] H H' s.heap s'.heap ∧ HOk P w H' s'.heap ∧ RelV v u ∧ Q v H'
def CR (CX : CXT) (outer : List Env) (P : Program) (w : World) (H : Hp) (s : Shared) (Q : VK) (E : XK) (r : Result) (s' : Shared) : Prop :=
  match r with
  | .ok (.ret u) => CE outer P w H s Q u s'
  | .ok _ => False
  | .error e => CX outer H s E e s'
structure FnOk (P : Program) (w : World) (K : PySem.W.Frag) (mg : Str → Option Value) (base : Heap) (CX : CXT) (k : Nat) (f : Addr) (fd : FuncData) (ps : List Str) (sp : Sp) : Prop where
  len : ∀ vs H Q E, sp vs H Q E → vs.length = ps.length
  run : ∀ (A : Around) (outer : List Env) (s : Shared) (H : Hp) (args : Args) (us : List Value) (vs : List V) (Q : VK) (E : XK), Room k A → Env0 P w K mg base A outer s H → BindsTo s fd args (ps.zip us) → Vals vs us → sp vs H Q E →
    codeAny (model P w) A (.call (.ref f) args) (CR CX outer P w H s Q E) s
theorem Env0.make {P : Program} {w : World} {K : PySem.W.Frag} {mg : Str → Option Value} {base : Heap} {A : Around} {outer : List Env} {s : Shared} {H : Hp} (e : Env0 P w K mg base A outer s H) (C : Addr) (us : List Value) (kw : List (Str × Value)) :
    Env0 P w K mg base (A.under (.builtin "type.__call__" ⟨.ref C :: us, kw⟩)) outer s H := ⟨by first | exact e.frames | (simpa [Around.under, Code.envs, Code.isFrame, pushEnvs] using e.frames), e.mod, e.bs, e.bsz, e.funs, e.frf, e.hok, e.bare⟩
section
variable {X : Cx} {pins : List (Addr × Obj)} {σ : St} {H : Hp} {s s' : Shared}
theorem Inv.env0 (I : Inv X pins σ H s) : Env0 X.prog X.w X.K X.mg X.base X.A X.stack s H :=
  ⟨I.ok.frames, I.ok.mod, I.bs, Nat.le_trans I.ok.bsz I.sz, I.stack, I.stkFree, I.hok, I.bare⟩
theorem Inv.after {Q : VK} {u : Value} (I : Inv X pins σ H s) (h : CE X.stack X.prog X.w H s Q u s') : EP X pins σ Q u s' := by
  obtain ⟨v, H', os, bare, un, hok, r, q⟩ := h
  obtain ⟨hh, g, d, t, os'⟩ := s'
  obtain rfl : os' = s.os := os
  exact ⟨v, H', I.call (h' := hh) (g' := g) (d' := d) (t' := t) (ch := []) un hok bare (fun b z => absurd z (by simp)), r, q⟩
end
def tCall (sp : Sp) (dvs : List V) (E : XK) (t : TA) : TE := fun σ H Q => t σ H fun vs H1 => sp (vs ++ dvs) H1 Q E
def tMeth (C : Addr) (m : Str) (sp : Sp) (dvs : List V) (E : XK) (ta : TE) (t : TA) : TE := fun σ H Q => ta σ H fun x H1 => ∃ a dx fs, x = .ref a ∧ H1 a = some (.ins C dx fs) ∧ fs.lookup m = none ∧
  t σ H1 fun vs H2 => sp (x :: (vs ++ dvs)) H2 Q E
def tMake (C : Addr) (sp : Sp) (dvs : List V) (E : XK) (t : TA) : TE := fun σ H Q => t σ H fun vs H1 => ∀ x dx, H1 x = none → H1 dx = none → dx ≠ x →
  sp (.ref x :: (vs ++ dvs)) (upd (upd H1 dx (.own x)) x (.ins C dx [])) (fun v H2 => v = .non ∧ Q (.ref x) H2) E
def Binds (K : PySem.W.Frag) (fd : FuncData) (ps : List Str) (ds : List Value) : Prop :=
  ∀ (s : Shared) (us : List Value), K.In s.heap → (us ++ ds).length = ps.length → BindsTo s fd ⟨us, []⟩ (ps.zip (us ++ ds))
theorem Binds.all {K : PySem.W.Frag} {fd : FuncData} {ps : List Str} (h : ∀ us : List Value, us.length = ps.length → bindArgs fd ⟨us, []⟩ = pure (ps.zip us)) : Binds K fd ps [] := fun s us _ hl => by
  rw [List.append_nil] at hl ⊢
  exact .of_eq (h us hl)
def Passes (CX : CXT) (X : Cx) (E : XK) : Prop := ∀ (pins : List (Addr × Obj)) (σ : St) (H : Hp) (s : Shared) (e : Value) (s' : Shared), Inv X pins σ H s → CX X.stack H s E e s' → X.xe e s'
section
variable {X : Cx} {CX : CXT} {k : Nat} {f C : Addr} {fd : FuncData} {ps : List Str} {sp : Sp} {dvs : List V} {ds : List Value} {E : XK} {x m : Str} {p pos apos : Pos} {e o : Expr} {es : List Expr} {ta : TE} {t : TA}
theorem run_fn {pins : List (Addr × Obj)} {σ : St} {H : Hp} {s : Shared} {Q : VK} {us : List Value} {vs : List V} (F : FnOk X.prog X.w X.K X.mg X.base CX k f fd ps sp) (hr : Room k X.A) (hb : Binds X.K fd ps ds) (hd : Vals dvs ds) (hx : Passes CX X E)
    (I : Inv X pins σ H s) (r : Vals vs us) (h : sp (vs ++ dvs) H Q E) : wpAny (model X.prog X.w) X.A (call (.ref f) us) (EP X pins σ Q) X.xe s := by
  have r2 : Vals (vs ++ dvs) (us ++ ds) := r.append hd
  have hl : (us ++ ds).length = ps.length := by rw [← r2.length]; exact F.len _ _ _ _ h
  refine wpAny_call (codeAny_mono (F.run X.A X.stack s H ⟨us, []⟩ (us ++ ds) (vs ++ dvs) Q E hr I.env0 (hb s us I.kIn hl) r2 h) fun r s' hq => ?_)
  cases r with
  | error e => exact hx pins σ H s e s' I hq
  | ok fl =>
    cases fl with
    | ret u => exact I.after hq
    | next => exact False.elim hq
    | brk => exact False.elim hq
    | cont => exact False.elim hq
theorem pe_call (F : FnOk X.prog X.w X.K X.mg X.base CX k f fd ps sp) (hr : Room k X.A) (hg : Gl X x) (hm : X.mg x = some (.ref f)) (hk : PySem.W.keepIn X.K (.ref f) = true) (hb : Binds X.K fd ps ds) (hd : Vals dvs ds) (hx : Passes CX X E)
    (ha : PA X (e :: es) t) (hdb : (x == ("__debug__" : Str)) = false := by decide) (he : starEach (e :: es) X.env = (false, eval e X.env) :: starEach es X.env := by rfl) (hpl : (backTo pos (starEach es X.env)).any (·.1) = false := by rfl) :
    PE X (.Call (.Name x p) (e :: es) [] pos) (tCall sp dvs E t) := by
  intro pins s σ H Q I h
  refine wpAny_Call_Name_kw (ld_glob I hg hm ?_ hdb)
  refine PySem.W.callWith_K (h₀ := X.base) I.ok.mod.kin hk (thn (ha pos pins s σ H _ I h) fun us s1 ⟨vs, H1, I1, r, q⟩ => ⟨I1.kIn, ?_⟩) he hpl
  exact run_fn F hr hb hd hx I1 r q
theorem pe_call0 (F : FnOk X.prog X.w X.K X.mg X.base CX k f fd ps sp) (hr : Room k X.A) (hg : Gl X x) (hm : X.mg x = some (.ref f)) (hk : PySem.W.keepIn X.K (.ref f) = true) (hb : Binds X.K fd ps ds) (hd : Vals dvs ds) (hx : Passes CX X E)
    (hdb : (x == ("__debug__" : Str)) = false := by decide) : PE X (.Call (.Name x p) [] [] pos) (tCall sp dvs E tNil) := by
  intro pins s σ H Q I h
  refine wpAny_Call_Name_kw (ld_glob I hg hm ?_ hdb)
  exact PySem.W.callWith_K0 I.kIn hk (run_fn (us := []) F hr hb hd hx I .nil h)
theorem pe_meth {pl : Sem Bool} (he : PE X o ta) (c : Cls X.K C) (hm : Meth X.K C m f) (F : FnOk X.prog X.w X.K X.mg X.base CX k f fd ps sp) (hr : Room k X.A) (hb : Binds X.K fd ps ds) (hd : Vals dvs ds) (hx : Passes CX X E) (ha : PA X (e :: es) t)
    (hst : starEach (e :: es) X.env = (false, eval e X.env) :: starEach es X.env := by rfl) (hpl : (backTo pos (starEach es X.env)).any (·.1) = false := by rfl)
    (ht : eval (.Call (.Attribute o m apos) (e :: es) [] pos) X.env = (do
      let ov ← eval o X.env
      standAt apos.atName
      let (f, first) ← holding [ov] (getMethod ov m pl)
      callWith pos f first (backTo pos (starEach (e :: es) X.env)) (backToKw pos (keywordEach [] X.env))) := by rfl) :
    PE X (.Call (.Attribute o m apos) (e :: es) [] pos) (tMeth C m sp dvs E ta t) := by
  intro pins s σ H Q I h
  refine PySem.W.methodCall_KW (pl := pl) (thn (he pins s σ H _ I h) fun u s1 ⟨x, H1, I1, rx, a, dx, fs, ex, ea, l, q⟩ => ?_) ht
  subst ex
  obtain rfl : u = Value.ref a := rx
  refine getmeth_ok I1 ea c hm l ?_
  refine PySem.W.callWith_K (first := [.ref a]) (h₀ := X.base) I.ok.mod.kin hm.kp (thn (ha pos pins s1 σ H1 _ I1 q) fun us s2 ⟨vs, H2, I2, r, q2⟩ => ⟨I2.kIn, ?_⟩) hst hpl
  exact run_fn (us := .ref a :: us) (vs := .ref a :: vs) F hr hb hd hx I2 (.cons rfl r) q2
theorem pe_meth0 {pl : Sem Bool} (he : PE X o ta) (c : Cls X.K C) (hm : Meth X.K C m f) (F : FnOk X.prog X.w X.K X.mg X.base CX k f fd ps sp) (hr : Room k X.A) (hb : Binds X.K fd ps ds) (hd : Vals dvs ds) (hx : Passes CX X E)
    (ht : eval (.Call (.Attribute o m apos) [] [] pos) X.env = (do
      let ov ← eval o X.env
      standAt apos.atName
      let (f, first) ← holding [ov] (getMethod ov m pl)
      callWith pos f first (backTo pos (starEach [] X.env)) (backToKw pos (keywordEach [] X.env))) := by rfl) :
    PE X (.Call (.Attribute o m apos) [] [] pos) (tMeth C m sp dvs E ta tNil) := by
  intro pins s σ H Q I h
  refine PySem.W.methodCall_KW (pl := pl) (thn (he pins s σ H _ I h) fun u s1 ⟨x, H1, I1, rx, a, dx, fs, ex, ea, l, q⟩ => ?_) ht
  subst ex
  obtain rfl : u = Value.ref a := rx
  refine getmeth_ok I1 ea c hm l ?_
  exact PySem.W.callWith_K0 (first := [.ref a]) I1.kIn hm.kp (run_fn (us := [.ref a]) (vs := [.ref a]) F hr hb hd hx I1 (.cons rfl .nil) q)
structure Mk (K : PySem.W.Frag) (C f : Addr) : Prop where
  makes : PySem.W.makesIn K C = true
  init : PySem.W.findIn K (.ref C) "__init__" = some (some (.ref f))
  fn : PySem.W.isFn K (.ref f) = true
  kp : PySem.W.keepIn K (.ref C) = true
theorem run_make {pins : List (Addr × Obj)} {σ : St} {H : Hp} {s : Shared} {Q : VK} {us : List Value} {vs : List V} (M : Mk X.K C f) (F : FnOk X.prog X.w X.K X.mg X.base CX k f fd ps sp) (hr : Room (k + 1) X.A) (hb : Binds X.K fd ps ds) (hd : Vals dvs ds)
    (hx : Passes CX X E) (I : Inv X pins σ H s) (r : Vals vs us)
    (h : ∀ x dx, H x = none → H dx = none → dx ≠ x → sp (.ref x :: (vs ++ dvs)) (upd (upd H dx (.own x)) x (.ins C dx [])) (fun v H2 => v = .non ∧ Q (.ref x) H2) E) :
    wpAny (model X.prog X.w) X.A (call (.ref C) us) (EP X pins σ Q) X.xe s := by
  have hq := h (s.heap.objs.size + 1) s.heap.objs.size (I.hok.fresh (Nat.le_succ _)) (I.hok.fresh (Nat.le_refl _)) (Nat.ne_of_lt (Nat.lt_succ_self _))
  have I2 := Inv.made (C := C) I
  have r2 : Vals (V.ref (s.heap.objs.size + 1) :: (vs ++ dvs)) (Value.ref (s.heap.objs.size + 1) :: (us ++ ds)) := .cons rfl (r.append hd)
  have hl : (Value.ref (s.heap.objs.size + 1) :: us ++ ds).length = ps.length := by
    have e := r2.length
    rw [F.len _ _ _ _ hq] at e
    exact e.symm
  refine wpAny_call (make_map (f := f) I.kIn M.makes M.init (beq_iff_eq.mp M.fn) (codeAny_mono (F.run _ X.stack _ _ ⟨Value.ref (s.heap.objs.size + 1) :: us, []⟩ (Value.ref (s.heap.objs.size + 1) :: (us ++ ds)) _ _ E (hr.make C us [])
    (I2.env0.make C us []) (hb _ (Value.ref (s.heap.objs.size + 1) :: us) I2.kIn hl) r2 hq) fun r s' hq' => ?_))
  cases r with
  | error e => exact hx pins σ _ _ e s' I2 hq'
  | ok fl =>
    cases fl with
    | ret u =>
      obtain ⟨v, H', I3, rv, ev, q3⟩ := I2.after hq'
      subst ev
      exact ⟨rv, ⟨V.ref (s.heap.objs.size + 1), H', I3, rfl, q3⟩⟩
    | next => exact False.elim hq'
    | brk => exact False.elim hq'
    | cont => exact False.elim hq'
theorem pe_make (M : Mk X.K C f) (F : FnOk X.prog X.w X.K X.mg X.base CX k f fd ps sp) (hr : Room (k + 1) X.A) (hg : Gl X x) (hm : X.mg x = some (.ref C)) (hb : Binds X.K fd ps ds) (hd : Vals dvs ds) (hx : Passes CX X E)
    (ha : PA X (e :: es) t) (hdb : (x == ("__debug__" : Str)) = false := by decide) (he : starEach (e :: es) X.env = (false, eval e X.env) :: starEach es X.env := by rfl) (hpl : (backTo pos (starEach es X.env)).any (·.1) = false := by rfl) :
    PE X (.Call (.Name x p) (e :: es) [] pos) (tMake C sp dvs E t) := by
  intro pins s σ H Q I h
  refine wpAny_Call_Name_kw (ld_glob I hg hm ?_ hdb)
  refine PySem.W.callWith_K (h₀ := X.base) I.ok.mod.kin M.kp (thn (ha pos pins s σ H _ I h) fun us s1 ⟨vs, H1, I1, r, q⟩ => ⟨I1.kIn, ?_⟩) he hpl
  exact run_make M F hr hb hd hx I1 r q
end
section
variable {X : Cx} {CX : CXT} {k : Nat} {f C : Addr} {fd : FuncData} {ps ks : List Str} {sp : Sp} {E : XK} {x m : Str} {p pos apos kpos : Pos} {e o : Expr} {es : List Expr} {kws : List Keyword} {te ta : TE} {t tk : TA} {nm : Option Str}
variable {g : List Value → List Value → List Value} {gV : List V → List V → List V}
end
structure FnScope (N P : List Str) (sc : Scope) : Prop where
  kind : sc.kind = .function
  co : sc.isCoroutine = false
  gen : sc.isGenerator = false
  nd : N.Nodup
  pre : N.take P.length = P
  par : ∀ x ∈ P, sc.names.lookup x = some .local ∨ sc.names.lookup x = some .cell
  nofree : ∀ y ∈ sc.names, y.2 ≠ .free
theorem bindL_out {kindOf : Str → Option NameKind} {x : Str} : ∀ {binds : List (Str × Value)} {m : Str → Option Value}, (∀ v, (x, v) ∉ binds) → bindL kindOf binds m x = m x
  | [], _, _ => rfl
  | (n, v) :: r, m, h => by
    unfold bindL
    rw [bindL_out fun w hw => h w (List.mem_cons_of_mem _ hw)]
    split
    · have : x ≠ n := by rintro rfl; exact h v List.mem_cons_self
      simp [this]
    · rfl
theorem bindC_out {kindOf : Str → Option NameKind} {x : Str} : ∀ {binds : List (Str × Value)} {m : Str → Option Value}, (∀ v, (x, v) ∉ binds) → bindC kindOf binds m x = m x
  | [], _, _ => rfl
  | (n, v) :: r, m, h => by
    unfold bindC
    rw [bindC_out fun w hw => h w (List.mem_cons_of_mem _ hw)]
    split
    · rfl
    · have : x ≠ n := by rintro rfl; exact h v List.mem_cons_self
      simp [this]
theorem bindL_get {kindOf : Str → Option NameKind} {x : Str} {v : Value} : ∀ {P : List Str} {vs : List Value} {i : Nat} {m : Str → Option Value}, P.Nodup → P[i]? = some x → vs[i]? = some v → kindOf x = some .local →
    bindL kindOf (P.zip vs) m x = some v
  | [], _, _, _, _, h, _, _ => by simp at h
  | _ :: _, [], _, _, _, _, h, _ => by simp at h
  | p :: P, w :: vs, 0, m, nd, h1, h2, hk => by
    simp at h1 h2; subst h1; subst h2
    show bindL kindOf ((p, w) :: P.zip vs) m p = _
    unfold bindL
    rw [bindL_out fun v hv => (List.nodup_cons.mp nd).1 (List.of_mem_zip hv).1, if_pos hk]
    simp
  | p :: P, w :: vs, i + 1, m, nd, h1, h2, hk => by
    show bindL kindOf ((p, w) :: P.zip vs) m x = _
    unfold bindL
    exact bindL_get (i := i) (List.nodup_cons.mp nd).2 (by simpa using h1) (by simpa using h2) hk
theorem bindC_get {kindOf : Str → Option NameKind} {x : Str} {v : Value} : ∀ {P : List Str} {vs : List Value} {i : Nat} {m : Str → Option Value}, P.Nodup → P[i]? = some x → vs[i]? = some v → kindOf x ≠ some .local →
    bindC kindOf (P.zip vs) m x = some v
  | [], _, _, _, _, h, _, _ => by simp at h
  | _ :: _, [], _, _, _, _, h, _ => by simp at h
  | p :: P, w :: vs, 0, m, nd, h1, h2, hk => by
    simp at h1 h2; subst h1; subst h2
    show bindC kindOf ((p, w) :: P.zip vs) m p = _
    unfold bindC
    rw [bindC_out fun v hv => (List.nodup_cons.mp nd).1 (List.of_mem_zip hv).1, if_neg hk]
    simp
  | p :: P, w :: vs, i + 1, m, nd, h1, h2, hk => by
    show bindC kindOf ((p, w) :: P.zip vs) m x = _
    unfold bindC
    exact bindC_get (i := i) (List.nodup_cons.mp nd).2 (by simpa using h1) (by simpa using h2) hk
def start (N : List Str) (vs : List V) : St := vs.map some ++ List.replicate (N.length - vs.length) none
def cxOf (CX : CXT) (P : Program) (w : World) (K : PySem.W.Frag) (mg : Str → Option Value) (base : Heap) (N : List Str) (qual : Str) (scope : Scope) (f : Addr) (cd : Value) (A : Around) (outer : List Env) (s : Shared) (H : Hp) (E : XK) : Cx where
  prog := P
  w := w
  K := K
  mg := mg
  base := base
  A := A.deeper (envOfC qual scope s.heap.objs.size f cd)
  N := N
  s₀ := s
  H₀ := H
  env := envOfC qual scope s.heap.objs.size f cd
  outer := outer
  stack := envOfC qual scope s.heap.objs.size f cd :: outer
  ex := []
  calm := true
  fn := fun _ => true
  pn := []
  xe := fun e s' => wpAny (model P w) (A.deeper (envOfC qual scope s.heap.objs.size f cd)) (leaving (envOfC qual scope s.heap.objs.size f cd) e) (fun _ s'' => CX outer H s E e s'') (fun e' s'' => CX outer H s E e' s'') s'
theorem cell_has {sc : Scope} {n : Nat} {x : Str} (h : sc.names.lookup x = some .cell) : ∃ c, (cellsFrom n sc.names []).lookup x = some c := by
  have q := PySem.W.cellsFrom_some sc.names n [] (.inl h)
  exact Option.isSome_iff_exists.mp q
theorem inv_start {CX : CXT} {P : Program} {w : World} {K : PySem.W.Frag} {mg : Str → Option Value} {base : Heap} {N ps : List Str} {qual : Str} {scope : Scope} {f : Addr} {cd : Value} {A : Around} {outer : List Env} {s s1 : Shared} {H : Hp} {E : XK} {us : List Value} {vs : List V}
    (S : FnScope N ps scope) (hd : A.handled = none) (e0 : Env0 P w K mg base A outer s H) (hl : vs.length = ps.length) (r : Vals vs us)
    (x : InCallC s s.heap.objs.size (bindL (envOfC qual scope s.heap.objs.size f cd).kindOf (ps.zip us) fun _ => none) (cellsFrom (s.heap.objs.size + 1) scope.names []) (bindC (envOfC qual scope s.heap.objs.size f cd).kindOf (ps.zip us) fun _ => none) s1) :
    Inv (cxOf CX P w K mg base N qual scope f cd A outer s H E) [] (start N vs) H s1 := by
  have hpl : ps.length ≤ N.length := by have := congrArg List.length S.pre; rw [List.length_take] at this; omega
  obtain ⟨h1, tk, rfl, hk⟩ := x.done
  have noA : ∀ b : Addr, b ∉ (cxOf CX P w K mg base N qual scope f cd A outer s H E).ex := fun b z => absurd (show b ∈ ([] : List Addr) from z) (by simp)
  refine ⟨⟨e0.mod, S.kind, rfl, rfl, Nat.le_refl _, fun y z c h1 h2 => ?_, fun y hy => ?_, fun y c _ h => ?_, fun _ => hd, Around.frames_deeper e0.frames, .inr ⟨rfl, rfl⟩, fun b z => absurd z (noA b), e0.bs, e0.bsz, fun b _ _ => noA b, fun b z => absurd z (noA b), e0.funs, e0.frf⟩,
    rfl, e0.bare, Un.kept hk, ⟨_, x.toInCall.ns, fun i y v h1 h2 h3 => ?_⟩, fun y c h => ⟨_, x.cell y c h⟩, e0.hok.fresh (Nat.le_refl _), fun y c h => ?_, fun p hp => absurd (show p ∈ ([] : List (Addr × Obj)) from hp) (by simp), e0.hok.kept hk, ?_⟩
  · exact name_of_addr x.apart (PySem.mem_of_lookup h1) (PySem.mem_of_lookup h2)
  · have hy : scope.names.lookup y = some .cell ∨ scope.names.lookup y = some .free := hy
    rcases hy with hy | hy
    · exact cell_has hy
    · exact absurd rfl (S.nofree _ (PySem.mem_of_lookup hy))
  · exact Nat.le_of_lt (x.above y c (PySem.mem_of_lookup h))
  · have hi : i < vs.length := by
      unfold start at h2
      by_cases hi : i < vs.length
      · exact hi
      · rw [List.getElem?_append_right (by simpa using hi)] at h2
        rw [List.getElem?_replicate] at h2
        split at h2 <;> cases h2
    have ha : vs[i]? = some v := by
      unfold start at h2
      rw [List.getElem?_append_left (by simpa using hi), List.getElem?_map] at h2
      cases e : vs[i]? with
      | none => rw [e] at h2; cases h2
      | some a => rw [e] at h2; cases h2; rfl
    obtain ⟨u, hu, rv⟩ := r.get ha
    have hp : ps[i]? = some y := by
      rw [← S.pre, List.getElem?_take_of_lt (by omega)]; exact h1
    have ndP : ps.Nodup := by rw [← S.pre]; exact S.nd.sublist (List.take_sublist _ _)
    refine ⟨u, rv, ?_⟩
    rcases S.par y (List.mem_of_getElem? hp) with k | k
    · exact .inl ⟨k, bindL_get ndP hp hu k⟩
    · obtain ⟨c, e⟩ := cell_has (n := s.heap.objs.size + 1) k
      refine .inr ⟨.inl k, c, e, ?_⟩
      have q := x.cell y c e
      rw [bindC_get ndP hp hu (by show scope.names.lookup y ≠ _; rw [k]; decide)] at q
      exact q
  · exact e0.hok.fresh (Nat.le_of_lt (x.above y c (PySem.mem_of_lookup h)))
  · unfold start
    show _ = N.length
    rw [List.length_append, List.length_map, List.length_replicate]
    omega
theorem fn_of {CX : CXT} {P : Program} {w : World} {K : PySem.W.Frag} {mg : Str → Option Value} {base : Heap} {k : Nat} {f : Addr} {name qual : Str} {params : Arguments} {body : List Stmt} {scope : Scope} {dV kV doc pm cdv ct oc : Value} {an od : Option Addr}
    {osl : Array (Option Value)} {N ps : List Str} {sp : Sp} (lk : K.lookup f = some ⟨oc, od, .func (PySem.W.fnOf name qual params body scope dV kV doc pm an cdv ct), osl⟩) (hcd : PySem.W.codeIn K cdv qual = true) (S : FnScope N ps scope)
    (len : ∀ vs H Q E, sp vs H Q E → vs.length = ps.length)
    (hbody : ∀ (A : Around) (outer : List Env) (s : Shared) (H : Hp) (vs : List V) (Q : VK) (E : XK), Room k (A.deeper (envOfC qual scope s.heap.objs.size f cdv)) → sp vs H Q E →
      ∃ t, PSs (cxOf CX P w K mg base N qual scope f cdv A outer s H E) body t ∧ t { nx := fun _ H' => Q .non H', rt := Q } (start N vs) H) :
    FnOk P w K mg base CX (k + 1) f (PySem.W.fnOf name qual params body scope dV kV doc pm an cdv ct) ps sp := by
  refine ⟨len, fun A outer s H args us vs Q E hr e0 hb r hsp => ?_⟩
  have hl := len _ _ _ _ hsp
  have KX : K.In s.heap := e0.mod.kin.keeps fun b o e => (e0.bs b o e).1
  have lim : s.heap.NoLimit := e0.mod.nolimit.keeps fun b o e => (e0.bs b o e).1
  have hkind : ∀ y ∈ ps.zip us, scope.names.lookup y.1 = some .local ∨ (scope.names.lookup y.1 = some .cell ∧ ((cellsFrom (s.heap.objs.size + 1) scope.names []).lookup y.1).isSome = true) := fun ⟨n, v⟩ hy => by
    rcases S.par n (List.of_mem_zip hy).1 with q | q
    · exact .inl q
    · exact .inr ⟨q, PySem.W.cellsFrom_some _ _ _ (.inl q)⟩
  refine codeAny_call_function hr.depth (KX _ _ lk) rfl S.co S.gen rfl (PySem.W.codeRec_of KX hcd) (hb _ _ _ _ ?_)
  refine wpAny_newFunctionEnv_cells S.kind hkind fun env he s1 x => ?_
  subst he
  refine ⟨lim.keeps x.toInCall.keep, codeAny_func ?_⟩
  obtain ⟨t, ht, hq⟩ := hbody A outer s H vs Q E (hr.deeper _) hsp
  have I : Inv (cxOf CX P w K mg base N qual scope f cdv A outer s H E) [] (start N vs) H s1 := inv_start S hr.hd e0 hl r x
  refine wpAny_mono (ht [] s1 (start N vs) H _ I hq) (fun fl s' hs => ?_) fun e s' hs => hs
  have fin : ∀ {σ' : St} {H' : Hp} {v : V} {u : Value}, Inv (cxOf CX P w K mg base N qual scope f cdv A outer s H E) [] σ' H' s' → RelV v u → Q v H' → CE outer P w H s Q u s' :=
    fun {σ' H' v u} J rv q => ⟨v, H', J.os, J.bare, J.base, J.hok, rv, q⟩
  cases fl with
  | ret u =>
    obtain ⟨v, σ', H', J, rv, q⟩ := hs
    exact fin J rv q
  | next =>
    obtain ⟨σ', H', J, q⟩ := hs
    exact fin (v := V.non) (u := Value.none) J rfl q
  | brk =>
    obtain ⟨_, _, _, q⟩ := hs
    exact False.elim q
  | cont =>
    obtain ⟨_, _, _, q⟩ := hs
    exact False.elim q
end L2
namespace L2
open PySem PySem.Spec PyProof.Rows
section
variable {X : Cx} {x : Str} {p pos : Pos} {e : Expr} {es : List Expr} {t : TA} {id T : String} {r : List V → Hp → VK → Prop}
def tCB (r : List V → Hp → VK → Prop) (t : TA) : TE := fun σ H Q => t σ H fun vs H1 => r vs H1 Q
theorem pe_callB (hc : CallR X (.builtin id) r) (hg : Gl X x) (hm : X.mg x = none) (hv : bootBuiltins x = some (.builtin id)) (ha : PA X (e :: es) t) (hn : x ≠ "__name__" := by decide) (hdb : (x == ("__debug__" : Str)) = false := by decide)
    (he : starEach (e :: es) X.env = (false, eval e X.env) :: starEach es X.env := by rfl) (hpl : (backTo pos (starEach es X.env)).any (·.1) = false := by rfl) : PE X (.Call (.Name x p) (e :: es) [] pos) (tCB r t) := by
  intro pins s σ H Q I h
  refine wpAny_Call_Name_kw (ld_blt I hg hm hv ?_ hn hdb)
  exact PyProof.Rows.callWith_builtin1 (thn (ha pos pins s σ H _ I h) fun us s1 ⟨vs, H1, I1, r1, q1⟩ => hc pins s1 σ H1 vs us Q I1 r1 q1) he hpl
theorem pe_callTy (hc : CallR X (.type T) r) (hg : Gl X x) (hm : X.mg x = none) (hv : bootBuiltins x = some (.type T)) (ha : PA X (e :: es) t) (hn : x ≠ "__name__" := by decide) (hdb : (x == ("__debug__" : Str)) = false := by decide)
    (he : starEach (e :: es) X.env = (false, eval e X.env) :: starEach es X.env := by rfl) (hpl : (backTo pos (starEach es X.env)).any (·.1) = false := by rfl) : PE X (.Call (.Name x p) (e :: es) [] pos) (tCB r t) := by
  intro pins s σ H Q I h
  refine wpAny_Call_Name_kw (ld_blt I hg hm hv ?_ hn hdb)
  exact PyProof.Rows.callWith_type1 (thn (ha pos pins s σ H _ I h) fun us s1 ⟨vs, H1, I1, r1, q1⟩ => hc pins s1 σ H1 vs us Q I1 r1 q1) he hpl
end
end L2
namespace HT
open PySem PyProof.Rows
section
open PySem.SeqAt
open PySem.AutoSeq1 (wpAny_loadPart')
open PySem.MeetsSeq PySem.MeetsSeq2 PySem.MeetsSeq3
end
section
variable {prog : Program} {w : World} {A : Around} {E : Value → Shared → Prop} {s : Shared}
def sIx (n d : Nat) : Option Int → Nat
  | none => d
  | some v => if v < 0 then (v + (n : Int)).toNat else min v.toNat n
theorem sIx_le (n d : Nat) (hd : d ≤ n) (o : Option Int) : sIx n d o ≤ n := by
  cases o with
  | none => exact hd
  | some v =>
    show (if v < 0 then (v + (n : Int)).toNat else min v.toNat n) ≤ n
    by_cases hv : v < 0
    · rw [if_pos hv]; omega
    · rw [if_neg hv]; exact Nat.min_le_right _ _
theorem clip_eq (v : Int) (n d : Nat) : (if v < 0 then max (v + (n : Int)) 0 else min v (n : Int)) = ((sIx n d (some v) : Nat) : Int) := by
  show (if v < 0 then max (v + (n : Int)) 0 else min v (n : Int)) = (((if v < 0 then (v + (n : Int)).toNat else min v.toNat n) : Nat) : Int)
  by_cases hv : v < 0
  · simp only [if_pos hv]; omega
  · simp only [if_neg hv]; omega
theorem adjust_gen (lo hi : Option Int) (n : Nat) : Builtin.Slice.sliceAdjust lo hi 1 (n : Int) = (((sIx n 0 lo : Nat) : Int), ((sIx n n hi : Nat) : Int)) := by
  have h1 : ¬ ((1 : Int) < 0) := by omega
  unfold Builtin.Slice.sliceAdjust
  simp only [h1, if_false]
  refine Prod.ext ?_ ?_
  · cases lo with
    | none => rfl
    | some v => exact clip_eq v n 0
  · cases hi with
    | none => rfl
    | some v => exact clip_eq v n n
theorem places_gen (i j : Nat) : Builtin.Slice.slicePlaces (i : Int) (j : Int) 1 = j - i := by
  unfold Builtin.Slice.slicePlaces
  have h1 : (1 : Int) > 0 := by omega
  simp only [h1, if_true, Int.ediv_one]
  split <;> omega
theorem slicePart_ {v : Value} {o : Option Int} {Q : Option Int → Shared → Prop} (p : IsPart v o) (h : Q o s) : wpAny (model prog w) A (Builtin.Slice.slicePartIndex v) Q E s := by
  cases p with
  | none => exact slicePart_none h
  | int i t => exact slicePart_int h
theorem sliceApplied_gen {sl : Addr} {vl vu : Value} {lo hi : Option Int} {n : Nat} {Q : Int × Int × Nat → Shared → Prop} (hs : s.heap.IsSliceOf sl vl vu .none) (pl : IsPart vl lo) (pu : IsPart vu hi)
    (h : Q (((sIx n 0 lo : Nat) : Int), 1, sIx n n hi - sIx n 0 lo) s) : wpAny (model prog w) A (Builtin.Slice.sliceApplied (.ref sl) (pure (n : Int))) Q E s := by
  obtain ⟨os, hos, hcs, hds⟩ := id hs
  unfold Builtin.Slice.sliceApplied Builtin.Slice.sliceFields
  refine wpAny_bind (wpAny_bind (wpAny_field hos hds (x := vl) rfl (wpAny_bind (wpAny_field hos hds (x := vu) rfl (wpAny_bind (wpAny_field hos hds (x := .none) rfl (wpAny_pure ?_)))))))
  refine wpAny_bind (slicePart_none ?_)
  show wpAny _ _ (if ((1 : Int) == 0) = true then _ else _) _ _ s
  rw [if_neg (by decide)]
  refine wpAny_bind (slicePart_ pl (wpAny_bind (slicePart_ pu (wpAny_bind (wpAny_pure ?_)))))
  show wpAny _ _ (match Builtin.Slice.sliceAdjust lo hi 1 (n : Int) with | (lo, hi) => pure (lo, (1 : Int), Builtin.Slice.slicePlaces lo hi 1)) _ _ s
  rw [adjust_gen lo hi n]
  show wpAny _ _ (pure (((sIx n 0 lo : Nat) : Int), (1 : Int), Builtin.Slice.slicePlaces ((sIx n 0 lo : Nat) : Int) ((sIx n n hi : Nat) : Int) 1)) _ _ s
  rw [places_gen]
  exact wpAny_pure h
theorem pick_gen (xs : Array Value) (i k : Nat) : ((List.range k).filterMap fun (m : Nat) => xs[((i : Int) + (m : Int) * 1).toNat]?).toArray = ((xs.toList.drop i).take k).toArray := by
  have e : (fun (m : Nat) => xs[((i : Int) + (m : Int) * 1).toNat]?) = fun m => xs[i + m]? := by
    funext m
    have : ((i : Int) + (m : Int) * 1).toNat = i + m := by omega
    rw [this]
  rw [e]
  have := pick_run xs i k
  rw [List.filterMap_map] at this
  have e2 : ((fun x => xs[x]?) ∘ fun x => i + x) = fun m => xs[i + m]? := rfl
  rw [e2] at this
  rw [this]
theorem getItem_tuple_cut {t sl : Addr} {items : Array Value} {vl vu : Value} {lo hi : Option Int} {Q : Value → Shared → Prop} (ht : IsTup s.heap t items) (hs : s.heap.IsSliceOf sl vl vu .none) (pl : IsPart vl lo) (pu : IsPart vu hi)
    (hw : ¬ (sIx items.size 0 lo = 0 ∧ sIx items.size items.size hi = items.size))
    (h : Q (.ref s.heap.objs.size) { s with heap := s.heap.push { cls := .type "tuple", data := .seq ((items.toList.drop (sIx items.size 0 lo)).take (sIx items.size items.size hi - sIx items.size 0 lo)).toArray } })
    (hsz : items.size ≤ sizeLine) : wpAny (model prog w) A (getItem (.ref t) (.ref sl)) Q E s := by
  have htake : sizeOk (.seq ((items.toList.drop (sIx items.size 0 lo)).take (sIx items.size items.size hi - sIx items.size 0 lo)).toArray) := by
    show ((items.toList.drop (sIx items.size 0 lo)).take (sIx items.size items.size hi - sIx items.size 0 lo)).toArray.size ≤ sizeLine
    rw [List.size_toArray, List.length_take, List.length_drop, Array.length_toList]
    omega
  have hj : sIx items.size items.size hi ≤ items.size := sIx_le _ _ (Nat.le_refl _) hi
  obtain ⟨os, hos, hcs, hds⟩ := id hs
  have hTs : s.TypeIs (.ref sl) "slice" := ⟨os, hos, hcs⟩
  unfold getItem
  try with_reducible refine wpAny_holding ?_
  first | refine wpAny_bind (wpAny_pure ?_) | skip
  refine wpAny_bind (wpAny_sequenceKey ht.typeIs (by decide) ?_)
  refine wpAny_bind (wpAny_callSpecial?_slot (name := Str.ofString "__getitem__") ht.typeIs PyProof.Rows.slot_tuple_getitem
    (wpAny_call_entry PyProof.Rows.slot_tuple_getitem ht.typeIs entry_tuple_getitem ?_ (args_tuple_getitem _ _)))
  show wpAny _ _ (Builtin.Tuple.tupleItemsOf (.ref t) >>= _) _ _ s
  refine wpAny_bind (tupleItemsOf_ ht ?_)
  refine wpAny_bind (wpAny_typeOf hTs ?_)
  rw [if_pos (by decide)]
  refine wpAny_bind (sliceApplied_gen hs pl pu ?_)
  have hno : ¬ ((((sIx items.size 0 lo : Nat) : Int) == 0 && (1 : Int) == 1 && (sIx items.size items.size hi - sIx items.size 0 lo) == items.size) = true) := by
    intro q
    rw [Bool.and_eq_true, Bool.and_eq_true] at q
    have q1 : ((sIx items.size 0 lo : Nat) : Int) = 0 := eq_of_beq q.1.1
    have q2 : sIx items.size items.size hi - sIx items.size 0 lo = items.size := eq_of_beq q.2
    exact hw ⟨by omega, by omega⟩
  show wpAny _ _ (if (((sIx items.size 0 lo : Nat) : Int) == 0 && (1 : Int) == 1 && (sIx items.size items.size hi - sIx items.size 0 lo) == items.size) = true then _ else _) _ _ s
  rw [if_neg hno, pick_gen]
  first
    | exact wpAny_bind (m := Builtin.Tuple.tupleExact _) (wpAny_newObj_type (wpAny_pure ⟨_, rfl, wpAny_pure h⟩) htake)
    | exact wpAny_bind (m := Builtin.Tuple.tupleExact _) (wpAny_newObj_type (wpAny_bind (wpAny_pure (wpAny_pure ⟨_, rfl, wpAny_pure h⟩))) htake)
    | exact wpAny_bind (wpAny_bind (m := Builtin.Tuple.tupleExact _) (wpAny_newObj_type (wpAny_pure (wpAny_pure ⟨_, rfl, wpAny_pure h⟩)) htake))
    | exact wpAny_bind (wpAny_bind (m := Builtin.Tuple.tupleExact _) (wpAny_newObj_type (wpAny_pure ⟨_, rfl, wpAny_pure h⟩) htake))
end
end HT
namespace L2
open PySem PySem.Spec PyProof.Rows
abbrev TO := St → Hp → (Option Int → Hp → Prop) → Prop
def PO (X : Cx) (e : Option Expr) (t : TO) : Prop :=
  ∀ (pins : List (Addr × Obj)) (s : Shared) (σ : St) (H : Hp) (Q : Option Int → Hp → Prop), Inv X pins σ H s → t σ H Q →
    wpAny (model X.prog X.w) X.A (evalPart e X.env) (fun u s' => ∃ o H', Inv X pins σ H' s' ∧ IsPart u o ∧ Q o H') X.xe s
def tNoPart : TO := fun _ H Q => Q none H
def tPart (t : TE) : TO := fun σ H Q => t σ H fun x H1 => ∃ i, x = .int i ∧ Q (some i) H1
section
variable {X : Cx} {e : Expr} {te : TE} {lo hi : Option Expr} {tl th : TO} {pos p2 : Pos}
theorem po_none : PO X none tNoPart := by
  intro pins s σ H Q I h
  rw [evalPart_none]
  exact wpAny_pure ⟨none, H, I, .none, h⟩
theorem po_some (h : PE X e te) : PO X (some e) (tPart te) := by
  intro pins s σ H Q I hw
  rw [evalPart_some]
  refine thn (h pins s σ H _ I hw) fun u s1 ⟨x, H1, I1, r1, q1⟩ => ?_
  obtain ⟨i, rfl, q⟩ := q1
  obtain ⟨t, rfl⟩ := r1
  exact ⟨some i, H1, I1, .int i t, q⟩
def SlR (X : Cx) (r : V → Option Int → Option Int → Hp → VK → Prop) : Prop :=
  ∀ (pins : List (Addr × Obj)) (s : Shared) (σ : St) (H : Hp) (x : V) (v vl vu : Value) (lo hi : Option Int) (sl : Addr) (Q : VK), Inv X pins σ H s → RelV x v → s.heap.IsSliceOf sl vl vu .none → IsPart vl lo → IsPart vu hi → r x lo hi H Q →
    ∃ T id, typeLookup (.type T) "__getitem__" = pure (some (.builtin id)) ∧ s.TypeIs v T ∧ wpAny (model X.prog X.w) X.A (getItem v (.ref sl)) (EP X pins σ Q) X.xe s
def tSl (r : V → Option Int → Option Int → Hp → VK → Prop) (te : TE) (tl th : TO) : TE := fun σ H Q => te σ H fun x H1 => tl σ H1 fun l H2 => th σ H2 fun u H3 => r x l u H3 Q
theorem pe_slice {r : V → Option Int → Option Int → Hp → VK → Prop} (hr : SlR X r) (he : PE X e te) (hl : PO X lo tl) (hu : PO X hi th) : PE X (.Subscript e (.Slice lo hi none p2) pos) (tSl r te tl th) := by
  intro pins s σ H Q I h
  refine Subscript_ (thn (he pins s σ H _ I h) fun v s1 ⟨x, H1, I1, r1, q1⟩ => ?_)
  refine wpAny_Slice (thn (hl pins s1 σ H1 _ I1 q1) fun vl s2 ⟨l, H2, I2, pl, q2⟩ => thn (hu pins s2 σ H2 _ I2 q2) fun vu s3 ⟨u, H3, I3, pu, q3⟩ => ?_)
  rw [evalPart_none]
  refine wpAny_pure ?_
  have I4 : Inv X pins σ H3 { s3 with heap := s3.heap.push { cls := .type "slice", data := .fields #[vl, vu, .none] } } := I3.kept (t' := s3.toks) fun b ob q => Heap.get?_push_of_some _ q
  obtain ⟨T, id, hT, ht, hg⟩ := hr pins { s3 with heap := s3.heap.push { cls := .type "slice", data := .fields #[vl, vu, .none] } } σ H3 x v vl vu l u s3.heap.objs.size Q I4 r1 (Heap.IsSliceOf.new ..) pl pu q3
  show wpAny (model X.prog X.w) X.A (subscriptTail e (.Slice lo hi none p2) v (.ref s3.heap.objs.size)) (EP X pins σ Q) X.xe { s3 with heap := s3.heap.push { cls := .type "slice", data := .fields #[vl, vu, .none] } }
  exact tail_any (ops := [.ref s3.heap.objs.size, v]) ht hT hg (by with_unfolding_all rfl)
def cutV (xs : List V) (lo hi : Option Int) : List V := (xs.drop (HT.sIx xs.length 0 lo)).take (HT.sIx xs.length xs.length hi - HT.sIx xs.length 0 lo)
theorem cutV_length (xs : List V) (lo hi : Option Int) : (cutV xs lo hi).length ≤ xs.length := by
  unfold cutV
  rw [List.length_take, List.length_drop]
  omega
def rSlT (K : PySem.W.Frag) : V → Option Int → Option Int → Hp → VK → Prop := fun x lo hi H Q => ∃ a xs, x = .ref a ∧ SqT K H a xs ∧
  ¬ (HT.sIx xs.length 0 lo = 0 ∧ HT.sIx xs.length xs.length hi = xs.length) ∧ ∀ p, H p = none → Q (.ref p) (upd H p (.tup (cutV xs lo hi)))
theorem sl_tup : SlR X (rSlT X.K) := by
  intro pins s σ H x v vl vu lo hi sl Q I rx hs pl pu h
  obtain ⟨a, xs, rfl, hx, hw, q⟩ := h
  cases rx
  obtain ⟨its, r, ht, hz⟩ := I.tuple hx
  have hlen : its.toArray.size = xs.length := by rw [List.size_toArray]; exact r.length.symm
  refine ⟨"tuple", _, PyProof.Rows.slot_tuple_getitem.lookup, ht.typeIs, ?_⟩
  refine HT.getItem_tuple_cut ht hs pl pu (by rw [hlen]; exact hw) ?_ (by rw [hlen]; exact hz)
  rw [hlen]
  refine ⟨.ref s.heap.objs.size, _, I.laid (t' := s.toks) (o := .tup (cutV xs lo hi)) (fun b ob q => Heap.get?_push_of_some _ q) (Nat.le_refl _) ?_, rfl, q _ (I.hok.fresh (Nat.le_refl _))⟩
  exact ⟨Nat.le_trans (cutV_length xs lo hi) hz, _, (r.drop (HT.sIx xs.length 0 lo)).take (HT.sIx xs.length xs.length hi - HT.sIx xs.length 0 lo), IsTup.new _ _⟩
end
end L2
namespace L2
open PySem PySem.Spec PyProof.Rows
def ixN (n : Nat) (i : Int) : Option Nat := if 0 ≤ i then (if i < n then some i.toNat else none) else if -(n : Int) ≤ i then some (i + n).toNat else none
def atI {α : Type} (xs : List α) (i : Int) : Option α := (ixN xs.length i).bind fun j => xs[j]?
theorem ixN_seq {n : Nat} {i : Int} {j : Nat} (h : ixN n i = some j) : seqIndex? i n = some j ∧ j < n ∧ -(n : Int) ≤ i ∧ i < n := by
  unfold ixN at h
  by_cases h0 : 0 ≤ i
  · rw [if_pos h0] at h
    by_cases h1 : i < n
    · rw [if_pos h1] at h
      have e : i.toNat = j := Option.some.inj h
      exact ⟨by rw [seqIndex_of h0 h1, e], by omega, by omega, h1⟩
    · rw [if_neg h1] at h; cases h
  · rw [if_neg h0] at h
    by_cases h1 : -(n : Int) ≤ i
    · rw [if_pos h1] at h
      have e : (i + n).toNat = j := Option.some.inj h
      exact ⟨by rw [seqIndex_neg (by omega) h1, e], by omega, h1, by omega⟩
    · rw [if_neg h1] at h; cases h
theorem atI_get {α : Type} {xs : List α} {i : Int} {v : α} (h : atI xs i = some v) : ∃ j, seqIndex? i xs.length = some j ∧ xs[j]? = some v ∧ j < xs.length ∧ -(xs.length : Int) ≤ i ∧ i < xs.length := by
  unfold atI at h
  cases e : ixN xs.length i with
  | none => rw [e] at h; cases h
  | some j =>
    rw [e] at h
    obtain ⟨h1, h2, h3, h4⟩ := ixN_seq e
    exact ⟨j, h1, h, h2, h3, h4⟩
theorem atI_nat {α : Type} {xs : List α} {j : Nat} {v : α} (h : xs[j]? = some v) : atI xs (j : Int) = some v := by
  have hj : j < xs.length := (List.getElem?_eq_some_iff.mp h).1
  have e : ixN xs.length (j : Int) = some j := by
    unfold ixN
    rw [if_pos (by omega), if_pos (by omega)]; simp
  unfold atI; rw [e]; exact h
theorem atI_last {α : Type} (xs : List α) (v : α) : atI (xs ++ [v]) (-1) = some v := by
  have hl : (xs ++ [v]).length = xs.length + 1 := by simp
  have e : ixN (xs ++ [v]).length (-1) = some xs.length := by
    unfold ixN
    rw [hl, if_neg (by decide), if_pos (by omega)]
    congr 1
    omega
  unfold atI
  rw [e]
  show (xs ++ [v])[xs.length]? = some v
  simp
def PlainIx (b : Expr) : Prop := ∀ o i, subscripted b false o i = operate [o, i] (getItem o i)
def IxR (X : Cx) (r : R2) : Prop :=
  ∀ (value slice : Expr) (pins : List (Addr × Obj)) (s : Shared) (σ : St) (H : Hp) (x y : V) (v u : Value) (Q : VK), Inv X pins σ H s → RelV x v → RelV y u → r x y H Q →
    subscripted slice false v u = operate [v, u] (getItem v u) → wpAny (model X.prog X.w) X.A (subscriptTail value slice v u) (EP X pins σ Q) X.xe s
def MtR (X : Cx) (id : String) (r : V → List V → Hp → VK → Prop) : Prop :=
  ∀ (pins : List (Addr × Obj)) (s : Shared) (σ : St) (H : Hp) (x : V) (xs : List V) (v : Value) (us : List Value) (Q : VK), Inv X pins σ H s → RelV x v → Vals xs us → r x xs H Q →
    wpAny (model X.prog X.w) X.A (call (.builtin id) (v :: us)) (EP X pins σ Q) X.xe s
section
variable {X : Cx} {a b : Expr} {ta tb : TE} {pos : Pos}
theorem IxR.or {r r' : R2} (h : IxR X r) (h' : IxR X r') : IxR X (fun x y H Q => r x y H Q ∨ r' x y H Q) := by
  intro value slice pins s σ H x y v u Q I rx ry q hs
  rcases q with q | q
  · exact h value slice pins s σ H x y v u Q I rx ry q hs
  · exact h' value slice pins s σ H x y v u Q I rx ry q hs
theorem pe_ix {r : R2} (hr : IxR X r) (ha : PE X a ta) (hb : PE X b tb) (hs : PlainIx b) : PE X (.Subscript a b pos) (tOp r ta tb) := by
  intro pins s σ H Q I h
  exact Subscript_ (binT ha hb I h fun v u s2 x y H2 I2 rx ry q => hr a b pins s2 σ H2 x y v u Q I2 rx ry q (hs _ _))
def rIxL (K : PySem.W.Frag) : R2 := fun x y H Q => ∃ p xs i v, x = .ref p ∧ y = .int i ∧ SqL K H p xs ∧ atI xs i = some v ∧ Q v H
def rIxT (K : PySem.W.Frag) : R2 := fun x y H Q => ∃ p xs i v, x = .ref p ∧ y = .int i ∧ SqT K H p xs ∧ atI xs i = some v ∧ Q v H
def rIxS : R2 := fun x y H Q => ∃ z i c, x = .str z ∧ y = .int i ∧ z.length ≤ sizeLine ∧ atI z.cps.toList i = some c ∧ Q (.str ⟨#[c]⟩) H
theorem ix_list : IxR X (rIxL X.K) := by
  intro value slice pins s σ H x y v u Q I rx ry h hs
  obtain ⟨p, xs, i, z, rfl, rfl, hq, he, q⟩ := h
  cases rx
  obtain ⟨t, rfl⟩ := ry
  obtain ⟨its, r, pl, hz⟩ := I.list hq
  obtain ⟨j, h1, h2, h3, h4, h5⟩ := atI_get he
  obtain ⟨w, ew, rw'⟩ := r.get h2
  have hl := r.length
  have hn := line63
  have fin : EP X pins σ Q w s := ⟨z, H, I, rw', q⟩
  by_cases h0 : 0 ≤ i
  · have hj : i.toNat = j := by
      rw [seqIndex_of h0 h5] at h1
      exact Option.some.inj h1
    exact item_listR pl.isList h0 (by omega) (by rw [hj]; simpa using ew) fin hs
  · have hj : (i + (its.toArray.size : Int)).toNat = j := by
      rw [seqIndex_neg (by omega) h4] at h1
      rw [List.size_toArray, ← hl]
      exact Option.some.inj h1
    exact subscriptTail_builtinR (x := w) pl.isList.typeIs slot_list_getitem.lookup
      (wpAny_getItem_list_neg (Q := fun r s' => r = w ∧ EP X pins σ Q r s') pl.isList (by omega) (by rw [List.size_toArray] <;> omega) (by omega) (by rw [hj]; simpa using ew) ⟨rfl, fin⟩) hs
theorem ix_tup : IxR X (rIxT X.K) := by
  intro value slice pins s σ H x y v u Q I rx ry h hs
  obtain ⟨p, xs, i, z, rfl, rfl, hq, he, q⟩ := h
  cases rx
  obtain ⟨t, rfl⟩ := ry
  obtain ⟨its, r, pl, hz⟩ := I.tuple hq
  obtain ⟨j, h1, h2, h3, h4, h5⟩ := atI_get he
  obtain ⟨w, ew, rw'⟩ := r.get h2
  have hl := r.length
  have hn := line63
  have fin : EP X pins σ Q w s := ⟨z, H, I, rw', q⟩
  exact subscriptTail_builtinR (x := w) pl.typeIs slot_tuple_getitem.lookup
    (getItem_tuple (j := j) (Q := fun r s' => r = w ∧ EP X pins σ Q r s') pl (by omega) (by omega) (by rw [List.size_toArray, ← hl]; exact h1) (by simpa using ew) ⟨rfl, fin⟩) hs
theorem ix_str : IxR X rIxS := by
  intro value slice pins s σ H x y v u Q I rx ry h hs
  obtain ⟨z, i, c, rfl, rfl, hz, he, q⟩ := h
  obtain ⟨t, rfl⟩ := rx
  obtain ⟨t', rfl⟩ := ry
  obtain ⟨j, h1, h2, h3, h4, h5⟩ := atI_get he
  have hl : z.cps.toList.length = z.length := by simp [Str.length]
  rw [hl] at h1 h4 h5
  have hn := line63
  exact tail_any (typeIs_str s z t) slot_str_getitem.lookup (getItem_str (c := c) (by
    have e1 : decide (i < -(2 ^ 63 : Int)) = false := decide_eq_false (by omega)
    have e2 : decide (i ≥ 2 ^ 63) = false := decide_eq_false (by omega)
    rw [e1, e2, Bool.or_false]) (by rw [h1]; simpa using h2) ⟨.str ⟨#[c]⟩, H, I.tok _, ⟨_, rfl⟩, q⟩) hs
def rIx (K : PySem.W.Frag) : R2 := fun x y H Q => rIxL K x y H Q ∨ rIxT K x y H Q ∨ rIxS x y H Q
theorem ix_seq : IxR X (rIx X.K) := ix_list.or (ix_tup.or ix_str)
theorem slice_bounds (lo hi : Option Int) (n : Nat) : (sliceBounds lo hi none n).1 = ((HT.sIx n 0 lo : Nat) : Int) ∧ (sliceBounds lo hi none n).2.1 = ((HT.sIx n n hi : Nat) : Int) ∧ (sliceBounds lo hi none n).2.2 = 1 := by
  refine ⟨?_, ?_, rfl⟩
  · cases lo with
    | none => simp [sliceBounds, HT.sIx]
    | some i =>
      simp only [sliceBounds, HT.sIx, Option.getD_none, show (1 : Int) > 0 by decide, if_true]
      by_cases h : i < 0
      · simp only [h, if_true] <;> omega
      · simp only [h, if_false] <;> omega
  · cases hi with
    | none => simp [sliceBounds, HT.sIx]
    | some i =>
      simp only [sliceBounds, HT.sIx, Option.getD_none, show (1 : Int) > 0 by decide, if_true]
      by_cases h : i < 0
      · simp only [h, if_true] <;> omega
      · simp only [h, if_false] <;> omega
theorem slicePick_cut (its : List Value) (lo hi : Option Int) : slicePick its.toArray lo hi none = ((its.drop (HT.sIx its.length 0 lo)).take (HT.sIx its.length its.length hi - HT.sIx its.length 0 lo)).toArray := by
  obtain ⟨h1, h2, h3⟩ := slice_bounds lo hi its.toArray.size
  unfold slicePick
  rw [h1, h2, h3]
  simp only [sliceRange_one, pick_run, List.size_toArray] <;> rfl
def rSlL (K : PySem.W.Frag) : V → Option Int → Option Int → Hp → VK → Prop := fun x lo hi H Q => ∃ a xs, x = .ref a ∧ SqL K H a xs ∧ ∀ p, H p = none → Q (.ref p) (upd H p (.lst (cutV xs lo hi)))
theorem sl_list : SlR X (rSlL X.K) := by
  intro pins s σ H x v vl vu lo hi sl Q I rx hs pl pu h
  obtain ⟨a, xs, rfl, hx, q⟩ := h
  cases rx
  obtain ⟨its, r, ht, hz⟩ := I.list hx
  have hlen := r.length
  refine ⟨"list", _, slot_list_getitem.lookup, ht.isList.typeIs, ?_⟩
  refine wpAny_getItem_list_slice ht.isList hs pl pu .none (by simp) ?_ (by rw [List.size_toArray] <;> omega)
  rw [slicePick_cut, ← hlen]
  refine ⟨.ref s.heap.objs.size, _, I.laid (t' := s.toks) (o := .lst (cutV xs lo hi)) (fun b ob q => Heap.get?_push_of_some _ q) (Nat.le_refl _) ?_, rfl, q _ (I.hok.fresh (Nat.le_refl _))⟩
  exact ⟨Nat.le_trans (cutV_length xs lo hi) hz, _, 0, (r.drop (HT.sIx xs.length 0 lo)).take (HT.sIx xs.length xs.length hi - HT.sIx xs.length 0 lo), Heap.get?_push_size _ rfl⟩
def flatV : V → Bool
  | .non => true
  | .bl _ => true
  | .int _ => true
  | .str _ => true
  | _ => false
def eqV : V → V → Bool
  | .non, .non => true
  | .bl a, .bl b => a == b
  | .bl a, .int b => (if a then 1 else 0) == b
  | .int a, .bl b => a == (if b then 1 else 0)
  | .int a, .int b => a == b
  | .str a, .str b => a == b
  | _, _ => false
theorem eqAt_V {A : Around} {s : Shared} {y x : V} {u v : Value} (ry : RelV y u) (rx : RelV x v) (fy : flatV y = true) (fx : flatV x = true) : SeqAt.EqAt A s u v (eqV y x) := by
  cases y with
  | non =>
    cases ry
    cases x with
    | non => cases rx; exact SeqAt.EqAt.same _
    | bl b => cases rx; exact SeqAt.EqAt.none_bool b
    | int b => obtain ⟨t, rfl⟩ := rx; exact SeqAt.EqAt.none_int b t
    | str b => obtain ⟨t, rfl⟩ := rx; exact SeqAt.EqAt.none_str b t
    | _ => exact absurd (show false = true from fx) Bool.false_ne_true
  | bl a =>
    cases ry
    cases x with
    | non => cases rx; exact SeqAt.EqAt.bool_none a
    | bl b => cases rx; exact SeqAt.EqAt.bool_bool a b
    | int b => obtain ⟨t, rfl⟩ := rx; exact SeqAt.EqAt.bool_int a b t
    | str b => obtain ⟨t, rfl⟩ := rx; exact SeqAt.EqAt.bool_str a b t
    | _ => exact absurd (show false = true from fx) Bool.false_ne_true
  | int a =>
    obtain ⟨t', rfl⟩ := ry
    cases x with
    | non => cases rx; exact SeqAt.EqAt.int_none a t'
    | bl b => cases rx; exact SeqAt.EqAt.int_bool a t' b
    | int b => obtain ⟨t, rfl⟩ := rx; exact SeqAt.EqAt.int_int a t' b t
    | str b => obtain ⟨t, rfl⟩ := rx; exact SeqAt.EqAt.int_str a t' b t
    | _ => exact absurd (show false = true from fx) Bool.false_ne_true
  | str a =>
    obtain ⟨t', rfl⟩ := ry
    cases x with
    | non => cases rx; exact SeqAt.EqAt.str_none a t'
    | bl b => cases rx; exact SeqAt.EqAt.str_bool a t' b
    | int b => obtain ⟨t, rfl⟩ := rx; exact SeqAt.EqAt.str_int a t' b t
    | str b => obtain ⟨t, rfl⟩ := rx; exact SeqAt.EqAt.str_str a t' b t
    | _ => exact absurd (show false = true from fx) Bool.false_ne_true
  | _ => exact absurd (show false = true from fy) Bool.false_ne_true
def eqU (x : V) (u : Value) : Bool := match u with
  | .none => eqV .non x
  | .bool b => eqV (.bl b) x
  | .int i _ => eqV (.int i) x
  | .str z _ => eqV (.str z) x
  | _ => false
theorem eqU_of {x y : V} {u : Value} (r : RelV y u) (f : flatV y = true) : eqU x u = eqV y x := by
  cases y with
  | non => cases r; rfl
  | bl b => cases r; rfl
  | int i => obtain ⟨t, rfl⟩ := r; rfl
  | str z => obtain ⟨t, rfl⟩ := r; rfl
  | _ => exact absurd (show false = true from f) Bool.false_ne_true
theorem any_eqU {x : V} : ∀ {xs : List V} {us : List Value}, Vals xs us → xs.all flatV = true → us.any (eqU x) = xs.any fun y => eqV y x
  | _, _, .nil, _ => rfl
  | y :: xs, u :: us, .cons r t, f => by
    rw [List.all_cons, Bool.and_eq_true] at f
    rw [List.any_cons, List.any_cons, eqU_of r f.1, any_eqU t f.2]
theorem mem_eqAt {A : Around} {s : Shared} {x : V} {v : Value} (rx : RelV x v) (fx : flatV x = true) : ∀ {xs : List V} {us : List Value}, Vals xs us → xs.all flatV = true → ∀ u ∈ us, SeqAt.EqAt A s u v (eqU x u)
  | _, _, .nil, _ => fun u hu => by cases hu
  | y :: xs, u :: us, .cons r t, f => fun u' hu => by
    rw [List.all_cons, Bool.and_eq_true] at f
    rcases List.mem_cons.mp hu with rfl | hu
    · rw [eqU_of r f.1]; exact eqAt_V r rx f.1 fx
    · exact mem_eqAt rx fx t f.2 u' hu
def inV (x : V) (xs : List V) : Bool := xs.any fun y => eqV y x
def rIn (K : PySem.W.Frag) (neg : Bool) : R2 := fun x y H Q => ∃ p xs, y = .ref p ∧ (SqL K H p xs ∨ SqT K H p xs) ∧ flatV x = true ∧ xs.all flatV = true ∧ Q (.bl (if neg then !inV x xs else inV x xs)) H
theorem op_in_seq : OpR X (compareOp .In) (rIn X.K false) := by
  intro pins s σ H x y v u Q I rx ry h
  obtain ⟨p, xs, rfl, hq, fx, fs, q⟩ := h
  cases ry
  rcases hq with hq | hq
  · obtain ⟨its, r, pl, hz⟩ := I.list hq
    refine SeqAt.in_listAt (eqU x) pl.isList (fun w hw => mem_eqAt rx fx r fs w (by simpa using hw)) ⟨.bl _, H, I, rfl, ?_⟩
    rw [show its.toArray.any (eqU x) = its.any (eqU x) by simp, any_eqU r fs]
    exact q
  · obtain ⟨its, r, pl, hz⟩ := I.tuple hq
    refine SeqAt.in_tupleAt (eqU x) pl (fun w hw => mem_eqAt rx fx r fs w (by simpa using hw)) ⟨.bl _, H, I, rfl, ?_⟩
    rw [show its.toArray.any (eqU x) = its.any (eqU x) by simp, any_eqU r fs]
    exact q
theorem op_notIn_seq : OpR X (compareOp .NotIn) (rIn X.K true) := by
  intro pins s σ H x y v u Q I rx ry h
  obtain ⟨p, xs, rfl, hq, fx, fs, q⟩ := h
  cases ry
  rcases hq with hq | hq
  · obtain ⟨its, r, pl, hz⟩ := I.list hq
    refine SeqAt.notIn_listAt (eqU x) pl.isList (fun w hw => mem_eqAt rx fx r fs w (by simpa using hw)) ⟨.bl _, H, I, rfl, ?_⟩
    rw [show its.toArray.any (eqU x) = its.any (eqU x) by simp, any_eqU r fs]
    exact q
  · obtain ⟨its, r, pl, hz⟩ := I.tuple hq
    refine SeqAt.notIn_tupleAt (eqU x) pl (fun w hw => mem_eqAt rx fx r fs w (by simpa using hw)) ⟨.bl _, H, I, rfl, ?_⟩
    rw [show its.toArray.any (eqU x) = its.any (eqU x) by simp, any_eqU r fs]
    exact q
theorem call_len_seq : CallR X (.builtin "len") (fun xs H Q => ∃ p ys, xs = [.ref p] ∧ (SqL X.K H p ys ∨ SqT X.K H p ys) ∧ Q (.int ys.length) H) := by
  intro pins s σ H xs us Q I r h
  obtain ⟨p, ys, rfl, hq, q⟩ := h
  obtain ⟨u, rfl, rx⟩ := vals1 r
  cases rx
  have hn := line63
  rcases hq with hq | hq
  · obtain ⟨its, r', pl, hz⟩ := I.list hq
    have hlen := r'.length
    exact Calls.call_len_list pl.isList (by simp only [List.size_toArray] <;> omega) ⟨.int ys.length, H, I.tok _, ⟨s.toks + 1, by rw [List.size_toArray, hlen]⟩, q⟩
  · obtain ⟨its, r', pl, hz⟩ := I.tuple hq
    have hlen := r'.length
    exact len_tuple pl (by simp only [List.size_toArray] <;> omega) ⟨.int ys.length, H, I.tok _, ⟨s.toks + 1, by rw [List.size_toArray, hlen]⟩, q⟩
theorem call_list_of : CallR X (.type "list") (fun xs H Q => ∃ p ys, xs = [.ref p] ∧ (SqL X.K H p ys ∨ SqT X.K H p ys) ∧ ∀ l, H l = none → Q (.ref l) (upd H l (.lst ys))) := by
  intro pins s σ H xs us Q I r h
  obtain ⟨p, ys, rfl, hq, q⟩ := h
  obtain ⟨u, rfl, rx⟩ := vals1 r
  cases rx
  have fin : ∀ (its : List Value), Vals ys its → ys.length ≤ sizeLine → ∀ (h' : Heap) (c' : Nat), (∀ b o', s.heap.get? b = some o' → h'.get? b = some o') →
      h'.get? s.heap.objs.size = some { cls := .type "list", dict := none, data := .seq its.toArray c', slots := #[] } → EP X pins σ Q (.ref s.heap.objs.size) { s with heap := h' } := fun its r' hz h' c' kp e =>
    ⟨.ref s.heap.objs.size, _, I.laid (t' := s.toks) kp (Nat.le_refl _) (show ObjOk X.prog X.w _ h' _ (.lst ys) from ⟨hz, its, c', r', e⟩), rfl, q _ (I.hok.fresh (Nat.le_refl _))⟩
  rcases hq with hq | hq
  · obtain ⟨its, r', pl, hz⟩ := I.list hq
    have hlen := r'.length
    obtain ⟨o, ho, hc, n, hd⟩ := pl.isList
    exact call_list_seq p (.inl rfl) ho hc hd (fun h' c' kp e => fin its r' hz h' c' kp e) (by simp only [List.size_toArray] <;> omega)
  · obtain ⟨its, r', pl, hz⟩ := I.tuple hq
    have hlen := r'.length
    obtain ⟨o, ho, hc, n, hd⟩ := pl
    exact call_list_seq p (.inr rfl) ho hc hd (fun h' c' kp e => fin its r' hz h' c' kp e) (by simp only [List.size_toArray] <;> omega)
def tyV (K : PySem.W.Frag) (T : String) (x : V) (H : Hp) : Prop := match x with
  | .str _ => T = "str"
  | .int _ => T = "int"
  | .ref p => (T = "list" ∧ ∃ xs, SqL K H p xs) ∨ (T = "tuple" ∧ ∃ o, K.lookup p = some o ∧ o.cls = .type "tuple" ∧ o.dict = none) ∨
      (T = "dict" ∧ ((∃ kvs, H p = some (.dK kvs)) ∨ ∃ kvs, H p = some (.dT kvs))) ∨ (T = "set" ∧ ∃ S n, H p = some (.set S n))
  | _ => False
theorem tyV_is {pins : List (Addr × Obj)} {σ : St} {H : Hp} {s : Shared} {T : String} {x : V} {v : Value} (I : Inv X pins σ H s) (r : RelV x v) (ty : tyV X.K T x H) :
    s.TypeIs v T ∧ ∀ a, v = .ref a → ∃ ob, s.heap.get? a = some ob ∧ ob.dict = none := by
  cases x with
  | str z =>
    obtain ⟨t, rfl⟩ := r
    cases (show T = "str" from ty)
    exact ⟨typeIs_str s z t, fun _ e => nomatch e⟩
  | int i =>
    obtain ⟨t, rfl⟩ := r
    cases (show T = "int" from ty)
    exact ⟨typeIs_int s i t, fun _ e => nomatch e⟩
  | ref p =>
    cases r
    rcases ty with ⟨rfl, xs, hq⟩ | ⟨rfl, o, hk, hc, hd⟩ | ⟨rfl, hk⟩ | ⟨rfl, S, n, hk⟩
    · obtain ⟨its, _, pl, _⟩ := I.list hq
      refine ⟨pl.isList.typeIs, fun a e => ?_⟩
      cases e
      obtain ⟨o, n, e, c, hd, _⟩ := pl
      exact ⟨o, e, hd⟩
    · refine ⟨⟨o, I.kIn p o hk, hc⟩, fun a e => ?_⟩
      cases e
      exact ⟨o, I.kIn _ o hk, hd⟩
    · have z : ∃ o, s.heap.get? p = some o ∧ o.ExactDict := by
        rcases hk with ⟨kvs, hk⟩ | ⟨kvs, hk⟩
        · obtain ⟨_, _, _, _, o, _, _, e, ex, _⟩ := I.hok p _ hk
          exact ⟨o, e, ex⟩
        · obtain ⟨_, _, _, _, o, _, _, e, ex, _⟩ := I.hok p _ hk
          exact ⟨o, e, ex⟩
      obtain ⟨o, e, ex⟩ := z
      refine ⟨⟨o, e, ex.1⟩, fun a e2 => ?_⟩
      cases e2
      exact ⟨o, e, ex.2.1⟩
    · obtain ⟨o, _, _, _, e, ex, _⟩ := I.hok p _ hk
      refine ⟨⟨o, e, ex.1⟩, fun a e2 => ?_⟩
      cases e2
      exact ⟨o, e, ex.2.1⟩
  | _ => exact False.elim ty
def tBM (K : PySem.W.Frag) (T : String) (r : V → List V → Hp → VK → Prop) (to : TE) (t : TA) : TE := fun σ H Q => to σ H fun x H1 => tyV K T x H1 ∧ t σ H1 fun xs H2 => r x xs H2 Q
variable {o e : Expr} {es : List Expr} {to : TE} {t : TA} {name : Str} {apos cpos : Pos} {T id : String} {r : V → List V → Hp → VK → Prop}
theorem pe_bm (pa : PlainAttrs T) (slot : Slot T name id) (hty : typeOf (.builtin id) = pure (.type "method_descriptor")) (hm : MtR X id r) (ho : PE X o to) (ha : PA X (e :: es) t)
    (hbase : attributeBase o name X.env (eval o X.env) = eval o X.env := by rfl)
    (hfew : ((backTo cpos (starEach (e :: es) X.env)).all (fun x => !x.1) && (backToKw cpos (keywordEach [] X.env)).all (fun x => x.1.isSome)
      && decide ((e :: es).length + ([] : List Keyword).length + (if ([] : List Keyword).isEmpty then 0 else 1) < 30)) = true := by rfl)
    (hline : (apos.endLine == cpos.line) = true := by rfl) (hs : starEach (e :: es) X.env = (false, eval e X.env) :: starEach es X.env := by rfl) (hplain : (backTo cpos (starEach es X.env)).any (·.1) = false := by rfl) :
    PE X (.Call (.Attribute o name apos) (e :: es) [] cpos) (tBM X.K T r to t) := by
  intro pins s σ H Q I h
  refine wpAny_Call_method_late hbase hfew hline rfl (thn (ho pins s σ H _ I h) fun v s1 ⟨x, H1, I1, r1, ty, q1⟩ => ?_)
  obtain ⟨h1, h2⟩ := tyV_is I1 r1 ty
  refine ⟨T, id, pa, slot, hty, h1, h2, ?_⟩
  have hA := ha cpos pins s1 σ H1 _ I1 q1
  rw [hs] at hA ⊢
  refine Calls.callWith_builtin (by show (false || (backTo cpos (starEach es X.env)).any (·.1)) = false; rw [hplain] <;> rfl) (Calls.evalArgs_plain ?_)
  exact thn hA fun us s2 ⟨vs, H2, I2, r2, q2⟩ => hm pins s2 σ H2 x vs v us Q I2 r1 r2 q2
end
end L2
namespace L2
open PySem PySem.Spec PyProof.Rows
def MtM (X : Cx) (id : String) (r : V → List V → Hp → VK → Prop) : Prop :=
  ∀ (pins : List (Addr × Obj)) (s : Shared) (σ : St) (H : Hp) (x : V) (xs : List V) (v : Value) (us : List Value) (Q : VK), Inv X pins σ H s → RelV x v → Vals xs us → r x xs H Q →
    wpAny (model X.prog X.w) X.A (call (.builtin id) (v :: us)) (EP X pins σ Q) X.xe s
theorem Vals.one : ∀ {x : V} {us : List Value}, Vals [x] us → ∃ u, us = [u] ∧ RelV x u
  | _, _, .cons r .nil => ⟨_, rfl, r⟩
theorem Vals.two : ∀ {x y : V} {us : List Value}, Vals [x, y] us → ∃ u v, us = [u, v] ∧ RelV x u ∧ RelV y v
  | _, _, _, .cons r (.cons q .nil) => ⟨_, _, rfl, r, q⟩
section
variable {X : Cx} {pins : List (Addr × Obj)} {σ : St} {H : Hp} {s : Shared} {l b : Addr} {xs ys zs : List V}
theorem Inv.lset {its its' : List Value} {n : Nat} {f : Array Value → Array Value} {t' : Nat} (I : Inv X pins σ H s) (hH : H l = some (.lst xs))
    (e : s.heap.get? l = some { cls := .type "list", data := .seq its.toArray n }) (hf : f its.toArray = its'.toArray) (hv : Vals ys its') (hz : ys.length ≤ sizeLine) :
    Inv X pins σ (upd H l (.lst ys)) { s with heap := s.heap.update l (Obj.mapSeq f), toks := t' } := by
  have q := PySem.IsL.update e f
  rw [hf] at q
  refine I.write (x := l) (e := l) (by rw [hH]; exact trivial) (.inl rfl) (fun b' u hb hu => (Heap.get?_update_other s.heap (Obj.mapSeq f) (Ne.symm hb)).trans hu) ⟨_, q⟩ ?_
  exact ⟨hz, its', _, hv, q⟩
theorem Inv.lnew {its : List Value} {t' : Nat} (I : Inv X pins σ H s) (hv : Vals ys its) (hz : ys.length ≤ sizeLine) :
    Inv X pins σ (upd H s.heap.objs.size (.lst ys)) { s with heap := s.heap.push { cls := .type "list", data := .seq its.toArray }, toks := t' } :=
  I.laid (fun _ _ q => Heap.get?_push_of_some _ q) (Nat.le_refl _) ⟨hz, its, 0, hv, Heap.get?_push_size _ rfl⟩
theorem Inv.fresh (I : Inv X pins σ H s) : H s.heap.objs.size = none := I.hok.fresh (Nat.le_refl _)
theorem Inv.lstM (I : Inv X pins σ H s) (hH : H l = some (.lst xs)) : xs.length ≤ sizeLine ∧ ∃ (its : List Value) (n : Nat), Vals xs its ∧ xs.length = its.length ∧ s.heap.get? l = some { cls := .type "list", data := .seq its.toArray n } := by
  obtain ⟨z, its, n, r, e⟩ := I.hok l _ hH
  exact ⟨z, its, n, r, r.length, e⟩
theorem notLongL {n : Nat} (h : n ≤ sizeLine) : Builtin.List.listTooLong n = false := by
  unfold Builtin.List.listTooLong
  exact decide_eq_false (by omega)
end
section
variable {X : Cx}
def rAppend : V → List V → Hp → VK → Prop := fun x vs H Q => ∃ l xs y, x = .ref l ∧ vs = [y] ∧ H l = some (.lst xs) ∧ xs.length < sizeLine ∧ Q .non (upd H l (.lst (xs ++ [y])))
theorem mt_append : MtM X "list.append" rAppend := by
  intro pins s σ H x vs v us Q I rx rv h
  obtain ⟨l, xs, y, rfl, rfl, hH, hz, q⟩ := h
  cases rx
  obtain ⟨u, rfl, ru⟩ := rv.one
  obtain ⟨z, its, n, r, hl, e⟩ := I.lstM hH
  refine call_meets F.slot_list_append ⟨_, e, rfl⟩ F.entry_list_append (F.args_list_append_2 _ _) (PySem.list_append l its.toArray n u (by rw [List.size_toArray]; omega)) ⟨e, ?_⟩
  refine ⟨.non, _, I.lset (its' := its ++ [u]) hH e (by simp) (r.append (.cons ru .nil)) ?_, rfl, q⟩
  rw [List.length_append, List.length_singleton]
  omega
def rExtend : V → List V → Hp → VK → Prop := fun x vs H Q => ∃ l b xs zs, x = .ref l ∧ vs = [.ref b] ∧ H l = some (.lst xs) ∧ H b = some (.lst zs) ∧ xs.length + zs.length ≤ sizeLine ∧ Q .non (upd H l (.lst (xs ++ zs)))
theorem mt_extend : MtM X "list.extend" rExtend := by
  intro pins s σ H x vs v us Q I rx rv h
  obtain ⟨l, b, xs, zs, rfl, rfl, hH, hB, hz, q⟩ := h
  cases rx
  obtain ⟨u, rfl, ru⟩ := rv.one
  cases ru
  obtain ⟨z, its, n, r, hl, e⟩ := I.lstM hH
  obtain ⟨z2, its2, n2, r2, hl2, e2⟩ := I.lstM hB
  have hsz : its.toArray.size + its2.toArray.size ≤ sizeLine := by rw [List.size_toArray, List.size_toArray]; omega
  have hlong : ¬ (!its.toArray.isEmpty && Builtin.List.listTooLong (its.toArray.size + its2.toArray.size)) = true := by
    rw [notLongL hsz, Bool.and_false]
    exact Bool.false_ne_true
  refine call_meets F.slot_list_extend ⟨_, e, rfl⟩ F.entry_list_extend (F.args_list_extend_2 _ _)
    (AutoSeq1.list_extend_list_list_0 l its.toArray n b its2.toArray n2 hlong (by rw [List.size_toArray]; omega) (by omega)) ⟨e, e2, ?_⟩
  refine ⟨.non, _, I.lset (its' := its ++ its2) hH e (by simp) (r.append r2) ?_, rfl, q⟩
  rw [List.length_append]
  omega
def rCat : R2 := fun x y H Q => ∃ l b xs zs, x = .ref l ∧ y = .ref b ∧ H l = some (.lst xs) ∧ H b = some (.lst zs) ∧ xs.length + zs.length ≤ sizeLine ∧ ∀ p, H p = none → Q (.ref p) (upd H p (.lst (xs ++ zs)))
theorem op_cat : OpR X (binaryOp .Add) rCat := by
  intro pins s σ H x y v u Q I rx ry h
  obtain ⟨l, b, xs, zs, rfl, rfl, hH, hB, hz, q⟩ := h
  cases rx
  cases ry
  obtain ⟨z, its, n, r, hl, e⟩ := I.lstM hH
  obtain ⟨z2, its2, n2, r2, hl2, e2⟩ := I.lstM hB
  refine PySem.P.add_list e e2 ?_ (by rw [List.size_toArray, List.size_toArray]; omega)
  have ea : its.toArray ++ its2.toArray = (its ++ its2).toArray := by simp
  rw [ea]
  exact ⟨.ref _, _, I.lnew (t' := s.toks) (r.append r2) (by rw [List.length_append]; omega), rfl, q _ I.fresh⟩
end
section
variable {prog : Program} {w : World} {A : Around} {E : Value → Shared → Prop} {s : Shared}
end
section
variable {X : Cx}
end
end L2
namespace L2
open PySem PySem.Spec PyProof.Rows
section
variable {κ : Type} [DecidableEq κ]
def valV (kvs : List (κ × V)) (k : κ) : Option V := (kvs.find? fun kv => decide (kv.1 = k)).map (·.2)
def putK (kvs : List (κ × V)) (k : κ) (v : V) : List (κ × V) :=
  if (kvs.any fun kv => decide (kv.1 = k)) = true then kvs.map (fun kv => if kv.1 = k then (kv.1, v) else kv) else kvs ++ [(k, v)]
theorem valV_pos {p : κ × V} {r : List (κ × V)} {k : κ} (e : p.1 = k) : valV (p :: r) k = some p.2 := by simp [valV, List.find?_cons, e]
theorem valV_neg {p : κ × V} {r : List (κ × V)} {k : κ} (e : ¬ p.1 = k) : valV (p :: r) k = valV r k := by simp [valV, List.find?_cons, e]
theorem valV_any (k : κ) : ∀ kvs : List (κ × V), (kvs.any fun kv => decide (kv.1 = k)) = (valV kvs k).isSome
  | [] => rfl
  | p :: r => by
    rw [List.any_cons]
    by_cases e : p.1 = k
    · simp only [valV_pos e, decide_eq_true e, Bool.true_or, Option.isSome_some]
    · rw [valV_neg e, decide_eq_false e, Bool.false_or]; exact valV_any k r
theorem valV_map (k j : κ) (y : V) : ∀ kvs : List (κ × V), valV (kvs.map fun kv => if kv.1 = k then (kv.1, y) else kv) j = (valV kvs j).map fun x => if j = k then y else x
  | [] => rfl
  | p :: r => by
    have ih := valV_map k j y r
    rw [List.map_cons]
    by_cases h : p.1 = k
    · rw [if_pos h]
      by_cases e : p.1 = j
      · rw [valV_pos (p := (p.1, y)) e, valV_pos e, Option.map_some, if_pos (e.symm.trans h)]
      · rw [valV_neg (p := (p.1, y)) e, valV_neg e, ih]
    · rw [if_neg h]
      by_cases e : p.1 = j
      · rw [valV_pos (p := p) e, valV_pos e, Option.map_some, if_neg (fun z => h (e.trans z))]
      · rw [valV_neg (p := p) e, valV_neg e, ih]
theorem valV_snoc (k j : κ) (y : V) : ∀ kvs : List (κ × V), valV kvs k = none → valV (kvs ++ [(k, y)]) j = if j = k then some y else valV kvs j
  | [], _ => by
    by_cases e : k = j
    · rw [if_pos e.symm]; exact valV_pos (p := (k, y)) e
    · rw [if_neg (fun z => e z.symm)]; exact valV_neg (p := (k, y)) e
  | p :: r, hn => by
    rw [List.cons_append]
    have hk : ¬ p.1 = k := fun z => by rw [valV_pos z] at hn; cases hn
    rw [valV_neg hk] at hn
    have ih := valV_snoc k j y r hn
    by_cases e : p.1 = j
    · rw [valV_pos e, valV_pos e, if_neg (fun z => hk (e.trans z))]
    · rw [valV_neg e, valV_neg e, ih]
theorem valV_put (kvs : List (κ × V)) (k j : κ) (y : V) : valV (putK kvs k y) j = if j = k then some y else valV kvs j := by
  unfold putK
  by_cases a : (kvs.any fun kv => decide (kv.1 = k)) = true
  · rw [if_pos a, valV_map]
    rw [valV_any] at a
    by_cases e : j = k
    · obtain ⟨x, hx⟩ := Option.isSome_iff_exists.mp a
      rw [if_pos e, e, hx, Option.map_some, if_pos rfl]
    · rw [if_neg e]
      cases valV kvs j with
      | none => rfl
      | some x => rw [Option.map_some, if_neg e]
  · rw [if_neg a]
    refine valV_snoc k j y kvs ?_
    rw [valV_any] at a
    cases q : valV kvs k with
    | none => rfl
    | some x => rw [q] at a; exact (a rfl).elim
theorem length_putK (kvs : List (κ × V)) (k : κ) (v : V) : (putK kvs k v).length ≤ kvs.length + 1 := by
  unfold putK
  split
  · rw [List.length_map]; omega
  · rw [List.length_append, List.length_cons, List.length_nil]; omega
theorem RelO.isSome_eq {o : Option V} {u : Option Value} (r : RelO o u) : o.isSome = u.isSome := by
  cases o with
  | none => cases u with
    | none => rfl
    | some _ => exact (show False from r).elim
  | some _ => cases u with
    | none => exact (show False from r).elim
    | some _ => rfl
theorem RelO.getD {o : Option V} {u : Option Value} {d : V} {d' : Value} (r : RelO o u) (rd : RelV d d') : RelV (o.getD d) (u.getD d') := by
  cases o with
  | none => cases u with
    | none => exact rd
    | some _ => exact (show False from r).elim
  | some _ => cases u with
    | none => exact (show False from r).elim
    | some _ => exact r
theorem KV.val {kvs : List (κ × V)} {vs : List (κ × Value)} (r : KV kvs vs) (k : κ) : RelO (valV kvs k) (valueAt vs k) := by
  unfold KV at r
  induction r with
  | nil => exact True.intro
  | @cons p q ps qs h t ih =>
    obtain ⟨h1, h2⟩ := h
    by_cases e : p.1 = k
    · have e' : q.1 = k := h1.symm.trans e
      have b : valueAt (q :: qs) k = some q.2 := by simp [valueAt, List.find?_cons, e']
      rw [valV_pos e, b]; exact h2
    · have e' : ¬ q.1 = k := fun z => e (h1.trans z)
      have b : valueAt (q :: qs) k = valueAt qs k := by simp [valueAt, List.find?_cons, e']
      rw [valV_neg e, b]; exact ih
theorem KV.any {kvs : List (κ × V)} {vs : List (κ × Value)} (r : KV kvs vs) (k : κ) : (kvs.any fun kv => decide (kv.1 = k)) = vs.any fun kv => decide (kv.1 = k) := by
  unfold KV at r
  induction r with
  | nil => rfl
  | cons h t ih => rw [List.any_cons, List.any_cons, ih, h.1]
theorem KV.repl {kvs : List (κ × V)} {vs : List (κ × Value)} (r : KV kvs vs) (k : κ) {y : V} {u : Value} (ry : RelV y u) :
    KV (kvs.map fun kv => if kv.1 = k then (kv.1, y) else kv) (vs.map fun kv => if kv.1 = k then (kv.1, u) else kv) := by
  unfold KV at r ⊢
  induction r with
  | nil => exact .nil
  | @cons p q ps qs h t ih =>
    rw [List.map_cons, List.map_cons]
    refine .cons ?_ ih
    obtain ⟨h1, h2⟩ := h
    by_cases e : p.1 = k
    · rw [if_pos e, if_pos (h1.symm.trans e)]; exact ⟨h1, ry⟩
    · rw [if_neg e, if_neg (fun z => e (h1.trans z))]; exact ⟨h1, h2⟩
theorem KV.put {kvs : List (κ × V)} {vs : List (κ × Value)} (r : KV kvs vs) (k : κ) {y : V} {u : Value} (ry : RelV y u) : KV (putK kvs k y) (stored vs k u) := by
  unfold putK stored
  rw [r.any k]
  by_cases e : (vs.any fun kv => decide (kv.1 = k)) = true
  · rw [if_pos e, if_pos e]; exact r.repl k ry
  · rw [if_neg e, if_neg e]; exact Paired.snoc r ⟨rfl, ry⟩
theorem KV.length {kvs : List (κ × V)} {vs : List (κ × Value)} (r : KV kvs vs) : kvs.length = vs.length := Paired.length r
end
theorem kV_is {P : Program} {w : World} {k : Key} {u : Value} (r : RelV (kV k) u) : (mixKind P w).is k u = true := by
  cases k with
  | inl i => obtain ⟨t, e⟩ := (show ∃ t, u = Value.int i t from r); subst e; exact mixKind_int P w i t
  | inr x => obtain ⟨t, e⟩ := (show ∃ t, u = Value.str x t from r); subst e; exact mixKind_str P w x t
theorem items_are {P : Program} {w : World} : ∀ {ks : List Key} {us : List Value}, Vals (ks.map kV) us → ItemsAre (mixKind P w) ks us
  | [], _, r => by rw [List.map_nil] at r; cases r; exact .nil
  | k :: ks, _, r => by
    rw [List.map_cons] at r
    cases r with
    | cons h t => exact .cons (kV_is h) (items_are t)
abbrev KT (H : Hp) : List (List Key × V) → List (List Key × Addr × Value) → Prop := Paired fun p q => p.1 = q.1 ∧ H q.2.1 = some (.tup (p.1.map kV)) ∧ RelV p.2 q.2.2
theorem KT.val {H : Hp} {kvs : List (List Key × V)} {xs : List (List Key × Addr × Value)} (r : KT H kvs xs) (k : List Key) : RelO (valV kvs k) ((atKey xs k).map (·.2)) := by
  induction r with
  | nil => exact True.intro
  | @cons p q ps qs h t ih =>
    obtain ⟨h1, _, h2⟩ := h
    by_cases e : p.1 = k
    · have e' : q.1 = k := h1.symm.trans e
      have b : atKey (q :: qs) k = some q.2 := by simp [atKey, List.find?_cons, e']
      rw [valV_pos e, b]; exact h2
    · have e' : ¬ q.1 = k := fun z => e (h1.trans z)
      have b : atKey (q :: qs) k = atKey qs k := by simp [atKey, List.find?_cons, e']
      rw [valV_neg e, b]; exact ih
theorem KT.repl {H : Hp} {kvs : List (List Key × V)} {xs : List (List Key × Addr × Value)} (r : KT H kvs xs) (k : List Key) {y : V} {u : Value} (ry : RelV y u) :
    KT H (kvs.map fun kv => if kv.1 = k then (kv.1, y) else kv) (xs.map (putAt k u)) := by
  induction r with
  | nil => exact .nil
  | @cons p q ps qs h t ih =>
    rw [List.map_cons, List.map_cons]
    refine .cons ?_ ih
    obtain ⟨h1, h2, h3⟩ := h
    unfold putAt
    by_cases e : p.1 = k
    · rw [if_pos e, if_pos (h1.symm.trans e)]; exact ⟨h1, h2, ry⟩
    · rw [if_neg e, if_neg (fun z => e (h1.trans z))]; exact ⟨h1, h2, h3⟩
theorem KT.put {H : Hp} {kvs : List (List Key × V)} {xs : List (List Key × Addr × Value)} (r : KT H kvs xs) (k : List Key) {b : Addr} {y : V} {u : Value} (hb : H b = some (.tup (k.map kV))) (ry : RelV y u) :
    KT H (putK kvs k y) (storedH xs k b u) := by
  have e : (kvs.any fun kv => decide (kv.1 = k)) = (atKey xs k).isSome := by
    rw [valV_any, (r.val k).isSome_eq, Option.isSome_map]
  unfold putK storedH
  rw [e]
  by_cases q : (atKey xs k).isSome = true
  · rw [if_pos q, if_pos q]; exact r.repl k ry
  · rw [if_neg q, if_neg q]; exact Paired.snoc r ⟨rfl, hb, ry⟩
theorem KT.keeps {H H' : Hp} {kvs : List (List Key × V)} {xs : List (List Key × Addr × Value)} (r : KT H kvs xs) (ht : ∀ b ys, H b = some (.tup ys) → H' b = some (.tup ys)) : KT H' kvs xs :=
  Paired.mapP r fun _ _ z => ⟨z.1, ht _ _ z.2.1, z.2.2⟩
section
variable {P : Program} {w : World} {H : Hp} {h : Heap} {a : Addr}
theorem rd_of {u : HO} (ok : HOk P w H h) (e : Rd H a u) : ObjOk P w H h a u := e.ok ok
theorem dk_rd {kvs : List (Key × V)} (ok : HOk P w H h) (e : Rd H a (.dK kvs)) : kvs.length ≤ sizeLine ∧ (a == sysModules) = false ∧ ∃ vs, KV kvs vs ∧ h.DictOf (mixKind P w) a vs :=
  show ObjOk P w H h a (.dK kvs) from rd_of ok e
theorem dk_of {kvs : List (Key × V)} (ok : HOk P w H h) (e : H a = some (.dK kvs)) : kvs.length ≤ sizeLine ∧ (a == sysModules) = false ∧ ∃ vs, KV kvs vs ∧ h.DictOf (mixKind P w) a vs := dk_rd ok (.inl e)
theorem key_of {ks : List Key} (ok : HOk P w H h) (e : H a = some (.tup (ks.map kV))) : (tupleKind (mixKind P w)).is h ks a := by
  obtain ⟨_, its, r, o, h1, h2, n, h3⟩ := (show ObjOk P w H h a (.tup (ks.map kV)) from ok a _ e)
  exact ⟨o, its.toArray, n, h1, h2, h3, by simpa using items_are r⟩
theorem dt_rd {kvs : List (List Key × V)} (ok : HOk P w H h) (e : Rd H a (.dT kvs)) : kvs.length ≤ sizeLine ∧ (a == sysModules) = false ∧
    ∃ xs, KT H kvs xs ∧ h.DictOfH (tupleKind (mixKind P w)) a xs := by
  obtain ⟨z, y, xs, r, o, es, ep, h1, h2, h3, h4, h5⟩ := (show ObjOk P w H h a (.dT kvs) from rd_of ok e)
  refine ⟨z, y, xs, r, o, es, ep, h1, h2, h3, h4, fun x hx => ?_, h5⟩
  have all : ∀ {l : List (List Key × V)} {m : List (List Key × Addr × Value)}, KT H l m → ∀ x ∈ m, (tupleKind (mixKind P w)).is h x.1 x.2.1 := by
    intro l m q
    induction q with
    | nil => intro x hx; exact nomatch hx
    | @cons p q ps qs hq t ih =>
      intro x hx
      rcases List.mem_cons.mp hx with e | hx
      · subst e
        exact key_of ok (by rw [← hq.1]; exact hq.2.1)
      · exact ih x hx
  exact all r x hx
theorem dt_of {kvs : List (List Key × V)} (ok : HOk P w H h) (e : H a = some (.dT kvs)) : kvs.length ≤ sizeLine ∧ (a == sysModules) = false ∧
    ∃ xs, KT H kvs xs ∧ h.DictOfH (tupleKind (mixKind P w)) a xs := dt_rd ok (.inl e)
end
def DGet (H : Hp) (a : Addr) (y : V) (r : Option V) : Prop :=
  (∃ kvs k, Rd H a (.dK kvs) ∧ y = kV k ∧ r = valV kvs k) ∨ ∃ kvs k b, Rd H a (.dT kvs) ∧ y = .ref b ∧ H b = some (.tup (k.map kV)) ∧ r = valV kvs k
def DPut (H : Hp) (a : Addr) (y v : V) (H' : Hp) : Prop :=
  (∃ kvs k, H a = some (.dK kvs) ∧ y = kV k ∧ kvs.length < sizeLine ∧ H' = upd H a (.dK (putK kvs k v))) ∨
  ∃ kvs k b, H a = some (.dT kvs) ∧ y = .ref b ∧ H b = some (.tup (k.map kV)) ∧ kvs.length < sizeLine ∧ H' = upd H a (.dT (putK kvs k v))
theorem DGet.k {H : Hp} {a : Addr} {kvs : List (Key × V)} {k : Key} (e : H a = some (.dK kvs)) : DGet H a (kV k) (valV kvs k) := .inl ⟨kvs, k, .inl e, rfl, rfl⟩
theorem DPut.k {H : Hp} {a : Addr} {kvs : List (Key × V)} {k : Key} {v : V} (e : H a = some (.dK kvs)) (hl : kvs.length < sizeLine) : DPut H a (kV k) v (upd H a (.dK (putK kvs k v))) := .inl ⟨kvs, k, e, rfl, hl, rfl⟩
section
variable {X : Cx} {pins : List (Addr × Obj)} {σ : St} {H : Hp} {s : Shared} {a : Addr} {y v : V} {u r : Value} {o : Option V} {A : Around} {E : Value → Shared → Prop}
theorem Inv.big (I : Inv X pins σ H s) : sysModules < s.heap.objs.size := by
  have h : mainGlobals < s.heap.objs.size := (I.mod.glob.keeps I.bk).lt
  exact Nat.lt_trans (by decide) h
theorem d_write {h' : Heap} {t' : Nat} {ob : HO} (I : Inv X pins σ H s) (mu : Mut (H a)) (hs : Heap.SameBut a s.heap h') (he : ∃ q, h'.get? a = some q) (new : ObjOk X.prog X.w (upd H a ob) h' a ob) :
    Inv X pins σ (upd H a ob) { s with heap := h', toks := t' } :=
  I.write (x := a) (e := a) mu (.inl rfl) (fun b q hb z => (hs.2 b hb).trans z) he new
theorem dk_new {P : Program} {w : World} {H' : Hp} {h' : Heap} {kvs : List (Key × V)} {vs : List (Key × Value)} (z : kvs.length ≤ sizeLine) (hd : (a == sysModules) = false) (rel : KV kvs vs) (dd : h'.DictOf (mixKind P w) a vs) :
    ObjOk P w H' h' a (.dK kvs) := ⟨z, hd, vs, rel, dd⟩
theorem d_setItem {H' : Hp} {Q : Unit → Shared → Prop} (hu : A.units + 1 < cLine) (I : Inv X pins σ H s) (g : DPut H a y v H') (ry : RelV y u) (rv : RelV v r) (h : ∀ s', Inv X pins σ H' s' → Q () s') :
    wpAny (model X.prog X.w) A (setItem (.ref a) u r) Q E s := by
  rcases g with ⟨kvs, k, e, ey, l, eH⟩ | ⟨kvs, k, b, e, ey, eb, l, eH⟩
  · subst ey eH
    obtain ⟨z, hd, vs, rel, dd⟩ := dk_of I.hok e
    have hz : vs.length ≤ sizeLine := by rw [← rel.length]; exact z
    have hl : (putK kvs k v).length ≤ sizeLine := by have := length_putK kvs k v; omega
    refine wpAny_setItem_pairs (hsz := hz) (kV_is ry) dd fun h' dd' hs => h _ ?_
    have he : ∃ q, h'.get? a = some q := let ⟨q, _, _, hq, _⟩ := dd'; ⟨q, hq⟩
    exact d_write I (by rw [e]; exact True.intro) hs he (dk_new hl hd (rel.put k rv) dd')
  · subst ey eH
    cases (show u = Value.ref b from ry)
    obtain ⟨z, hd, xs, rel, dd⟩ := dt_of I.hok e
    have hz : xs.length ≤ sizeLine := by rw [← Paired.length rel]; exact z
    have hl : (putK kvs k v).length ≤ sizeLine := by have := length_putK kvs k v; omega
    refine wpAny_setItem_heap (hsz := hz) (tupleKind_room_in1 hu) (key_of I.hok eb) dd fun h' dd' hs => h _ ?_
    obtain ⟨q, es, ep, hq, h2, h3, h4, _, h5⟩ := dd'
    refine d_write I (by rw [e]; exact True.intro) hs ⟨q, hq⟩ ⟨hl, hd, _, (rel.put k eb rv).keeps fun c ys ec => ?_, q, es, ep, hq, h2, h3, h4, h5⟩
    rw [upd_ne (ne_of ec e (fun z => nomatch z))]
    exact ec
end
section
variable {X : Cx} {pins : List (Addr × Obj)} {σ : St} {H : Hp} {s : Shared} {a : Addr} {kvs : List (Key × V)} {k : Key} {u : Value} {A : Around} {E : Value → Shared → Prop}
theorem d_len {Q : Value → Shared → Prop} (I : Inv X pins σ H s) (e : Rd H a (.dK kvs)) (h : ∀ t s', Inv X pins σ H s' → Q (.int kvs.length t) s') : wpAny (model X.prog X.w) A (call (.builtin "len") [.ref a]) Q E s := by
  obtain ⟨z, hd, vs, rel, dd⟩ := dk_rd I.hok e
  refine call_len_dict hd dd (by rw [← rel.length]; rw [sizeLine_eq] at z; omega) ?_
  rw [← rel.length]
  exact h _ _ (I.tok _)
end
def sDPut (td ty tv : TE) : TS := fun D σ H => tv σ H fun v H1 => td σ H1 fun x H2 => ty σ H2 fun y H3 => ∃ a H4, x = .ref a ∧ DPut H3 a y v H4 ∧ D.nx σ H4
section
variable {X : Cx} {o i e value : Expr} {pos pos' tpos : Pos} {td ty tv : TE}
theorem ps_dput (hu : X.A.units + 1 < cLine) (ho : PE X o td) (hi : PE X i ty) (hv : PE X value tv) (hs : swapsWith value (some (.Subscript o i pos')) pos.line X.env = pure false) :
    PS X (.Assign [.Subscript o i pos'] value pos) (sDPut td ty tv) := by
  intro pins s σ H D I h
  refine wpAny_Assign_Subscript (thn (hv pins s σ H _ I h) fun r s1 ⟨v, H1, I1, rv, q1⟩ => thn (ho pins s1 σ H1 _ I1 q1) fun u s2 ⟨x, H2, I2, rx, q2⟩ => thn (hi pins s2 σ H2 _ I2 q2) fun iv s3 ⟨y, H3, I3, ry, a, H4, ex, g, q3⟩ => ?_) hs
  subst ex
  obtain rfl : u = Value.ref a := rx
  exact d_setItem hu I3 g ry rv fun s4 I4 => ⟨σ, H4, I4, q3⟩
end
theorem dk_empty {P : Program} {w : World} {H : Hp} (h : Heap) (hb : sysModules < h.objs.size) : ObjOk P w H (h.push { cls := .type "dict", data := .dict #[] }) h.objs.size (.dK []) :=
  ⟨Nat.zero_le _, beq_eq_false_iff_ne.mpr (Ne.symm (Nat.ne_of_lt hb)), [], .nil, Heap.DictOf.new h⟩
def tDNewK : TE := fun _ H Q => ∀ p, H p = none → Q (.ref p) (upd H p (.dK []))
section
variable {X : Cx} {pos : Pos}
theorem pe_dnewK : PE X (.Dict [] [] pos) tDNewK := fun pins s σ H Q I h =>
  wpAny_Dict_empty ⟨.ref s.heap.objs.size, _, I.laid (a := s.heap.objs.size) (o := .dK []) (t' := s.toks) (fun _ _ q => Heap.get?_push_of_some _ q) (Nat.le_refl _) (dk_empty s.heap I.big), rfl, h _ (I.hok.fresh (Nat.le_refl _))⟩
end
structure M2 (X : Cx) (o : Expr) (m : Str) (apos : Pos) (e f : Expr) (cpos : Pos) : Prop where
  base : attributeBase o m X.env (eval o X.env) = eval o X.env
  few : ((backTo cpos (starEach [e, f] X.env)).all (fun x => !x.1) && (backToKw cpos (keywordEach [] X.env)).all (fun x => x.1.isSome)
    && decide (([e, f] : List Expr).length + ([] : List Keyword).length + (if ([] : List Keyword).isEmpty then 0 else 1) < 30)) = true
  line : (apos.endLine == cpos.line) = true
  trees : backTo cpos (starEach [e, f] X.env) = [(false, eval e X.env), (false, eval f X.env)]
def IsD (H : Hp) (a : Addr) : Prop := (∃ kvs, Rd H a (.dK kvs)) ∨ ∃ kvs, Rd H a (.dT kvs)
theorem isD_at {X : Cx} {pins : List (Addr × Obj)} {σ : St} {H : Hp} {s : Shared} {a : Addr} (I : Inv X pins σ H s) (d : IsD H a) :
    s.TypeIs (.ref a) "dict" ∧ (∀ b, Value.ref a = .ref b → ∃ ob, s.heap.get? b = some ob ∧ ob.dict = none) ∧ (a == sysModules) = false := by
  rcases d with ⟨kvs, e⟩ | ⟨kvs, e⟩
  · obtain ⟨_, hd, vs, _, dd⟩ := dk_rd I.hok e
    refine ⟨dd.typeIs, fun b q => ?_, hd⟩
    cases q
    obtain ⟨ob, _, _, h1, h2, _⟩ := dd
    exact ⟨ob, h1, h2.2.1⟩
  · obtain ⟨_, hd, xs, _, dd⟩ := dt_rd I.hok e
    refine ⟨dd.typeIs, fun b q => ?_, hd⟩
    cases q
    obtain ⟨ob, _, _, h1, h2, _⟩ := dd
    exact ⟨ob, h1, h2.2.1⟩
section
variable {X : Cx} {pins : List (Addr × Obj)} {σ : St} {H : Hp} {s : Shared} {a : Addr} {y d : V} {u r : Value} {o : Option V} {A : Around} {E : Value → Shared → Prop}
theorem d_get2 {Q : Value → Shared → Prop} (hu : A.units + 1 < cLine) (I : Inv X pins σ H s) (g : DGet H a y o) (ry : RelV y u) (rd : RelV d r) (h : ∀ w' s', Inv X pins σ H s' → RelV (o.getD d) w' → Q w' s') :
    wpAny (model X.prog X.w) A (call (.builtin "dict.get") [.ref a, u, r]) Q E s := by
  rcases g with ⟨kvs, k, e, ey, l⟩ | ⟨kvs, k, b, e, ey, eb, l⟩
  · subst ey
    obtain ⟨z, hd, vs, rel, dd⟩ := dk_rd I.hok e
    refine call_meetsIn PySem.F.slot_dict_get dd.typeIs PySem.F.entry_dict_get (PySem.F.args_dict_get_3 _ _ _) (meets_dict_get_default (mixKind X.prog X.w) a (kV_is ry) hd r) ⟨_, dd.mapOf, h _ _ (I.tok _) ?_⟩
    rw [l]
    exact (rel.val k).getD rd
  · subst ey
    cases (show u = Value.ref b from ry)
    obtain ⟨z, hd, xs, rel, dd⟩ := dt_rd I.hok e
    refine call_meetsIn PySem.F.slot_dict_get dd.typeIs PySem.F.entry_dict_get (PySem.F.args_dict_get_3 _ _ _) (meetsH_dict_get_default (tupleKind (mixKind X.prog X.w)) a b hd r) ⟨tupleKind_room_in1 hu, k, xs, key_of I.hok eb, dd, h _ _ (I.tok _) ?_⟩
    rw [l]
    exact (rel.val k).getD rd
end
def tDGet2 (td ty tx : TE) : TE := fun σ H Q => td σ H fun x H1 => ∃ a, x = .ref a ∧ IsD H1 a ∧ ty σ H1 fun y H2 => tx σ H2 fun z H3 => ∃ o, DGet H3 a y o ∧ Q (o.getD z) H3
section
variable {X : Cx} {o e f : Expr} {apos cpos : Pos} {td ty tx : TE}
theorem pe_dget2 (hu : X.A.units + 1 < cLine) (ho : PE X o td) (he : PE X e ty) (hf : PE X f tx) (m : M2 X o "get" apos e f cpos) : PE X (.Call (.Attribute o "get" apos) [e, f] [] cpos) (tDGet2 td ty tx) := by
  intro pins s σ H Q I h
  refine wpAny_Call_method m.base m.few m.line PySem.F.plainAttrs_dict PySem.F.slot_dict_get PySem.F.type_dict_get (thn (ho pins s σ H _ I h) fun u s1 ⟨x, H1, I1, rx, a, ex, d, q1⟩ => ?_)
  subst ex
  obtain rfl : u = Value.ref a := rx
  obtain ⟨t1, t2, _⟩ := isD_at I1 d
  refine ⟨t1, t2, ?_⟩
  rw [m.trees]
  refine Calls.callWith_builtin rfl (Calls.evalArgs_plain (Calls.spliced_cons (thn (he pins s1 σ H1 _ I1 q1) fun iv s2 ⟨y, H2, I2, ry, q2⟩ =>
    Calls.spliced_cons (thn (hf pins s2 σ H2 _ I2 q2) fun fv s3 ⟨z, H3, I3, rz, ov, g, q3⟩ => Calls.spliced_nil ?_))))
  exact d_get2 hu I3 g ry rz fun w' s4 I4 rw' => ⟨_, H3, I4, rw', q3⟩
end
section
variable {X : Cx} {pins : List (Addr × Obj)} {σ : St} {H : Hp} {s : Shared} {a : Addr} {kvs : List (Key × V)} {A : Around} {E : Value → Shared → Prop}
end
section
variable {X : Cx} {pins : List (Addr × Obj)} {σ : St} {H : Hp} {s : Shared} {a : Addr} {y : V} {u : Value} {A : Around} {E : Value → Shared → Prop}
end
end L2
namespace Att
open PySem PySem.W PySem.Calls PyProof.Rows
theorem ints_of_wellAll {P : Params} {h : Heap} : ∀ (ns : List Int) (vs : List Value), WellAll P h vs (ns.map WData.int) → IntsAre vs ns := by
  intro ns
  induction ns with
  | nil =>
    intro vs w
    rw [List.map_nil] at w
    cases w
    exact .nil
  | cons n ns ih =>
    intro vs w
    rw [List.map_cons] at w
    cases w with
    | cons a b =>
      cases a
      exact .cons _ _ (ih _ b)
theorem script_of {l : OpenLaw} {n : Nat} (hn : l.most = some n) {P : Params} {h : Heap} {args : List WData} {vals : List Value}
    (hpre : l.row.toRowW.claim.pre args = true) (hwl : WellAll P h vals args) :
    ∃ a vs ns, vals = [Value.ref a] ∧ args = [WData.list (ns.map WData.int)] ∧ h.get? a = some { cls := .type "list", data := .seq vs.toArray } ∧ IntsAre vs ns ∧ ns.length ≤ n := by
  have hsh : WShape.hasAll [] args [.list .int] = true := (pre_splitW hpre).1
  have hc : l.pre.holds [] { args := args } = true := (pre_splitW hpre).2
  obtain ⟨d, r, rfl, h1, h2⟩ := hasAllW_cons hsh
  obtain rfl := hasAllW_nil h2
  obtain ⟨xs, rfl, h3⟩ := hasW_list h1
  obtain ⟨ns, rfl⟩ := items_int h3
  have hlen : ns.length ≤ n := by
    unfold OpenLaw.pre at hc
    have h4 : (WTm.not (.lt (.lit (.int (n : Int))) (.len (.arg 0)))).holds [] { args := [.list (ns.map .int)] } = true := by
      have h4 := (holds_andW hc).1
      rw [hn] at h4
      exact h4
    have h5 := condW_of h4 (w_not (w_lt w_lit (w_len_list (w_arg rfl))))
    rw [List.length_map] at h5
    refine Nat.le_of_not_lt fun q => ?_
    have q' : (n : Int) < ((ns.length : Nat) : Int) := by omega
    first
      | (rw [decide_eq_true q'] at h5; exact absurd h5 (by decide))
      | (simp at h5; omega)
  cases hwl with
  | cons w1 w2 =>
    cases w2
    cases w1 with
    | list ho hall => exact ⟨_, _, ns, rfl, rfl, ho, ints_of_wellAll ns _ hall, hlen⟩
theorem post_true (l : OpenLaw) (args : List WData) : l.row.toRowW.claim.post args (.bool true) args = true :=
  postW_of (r := l.row.toRowW) (X := (true == true))
    (show WShape.has [] (.bool true) .bool = true by first | rfl | decide | simp [WShape.has, WShape.arms, WShape.armsAll])
    (show (WTm.eq .res (.lit (.bool true))).value [] { args := args, res := some (.bool true), after := args } = some (.bool (true == true)) from w_eq_bool (w_res rfl) w_lit) rfl
theorem attach_call {l : OpenLaw} {n : Nat} {q : Program} {loose : List Str} {XP : (Str → Option Value) → Heap → Prop} {YP : World → Heap → Prop} {d : DefRec}
    (hn : l.most = some n) (hdf : d.params.defaults = [])
    (call : ∀ (w : World) (s₀ s₁ : Shared) (mg mb : Str → Option Value) (fa : Addr) (o : Obj) (pm cd doc : Value) (a : Addr) (vs : List Value) (ns : List Int),
      Ground q loose [] XP w s₀ mg mb s₁.heap → YP w s₁.heap →
      s₁.heap.get? fa = some o → o.data = .func (docDef d.name d.params d.body d.scope pm cd doc) → s₁.heap.CodeRec cd d.name → mg d.name = some (.ref fa) →
      s₁.heap.get? a = some { cls := .type "list", data := .seq vs.toArray } → IntsAre vs ns → ns.length ≤ n → s₁.gens = #[] →
      codeAny (model l.prog w) callerA (.call (.ref fa) ⟨[.ref a], []⟩) (fun r s' => r = .ok (.ret (.bool true)) ∧ OldK s₁.heap s'.heap ∧ s'.os = s₁.os ∧ AllBare s'.gens) s₁) :
    WalkO q loose XP YP l.row.toRowW d [] (fun f vs => PySem.call f vs) := by
  intro w s₀ s₁ mg mb G Y fa o pm cd doc dV kV ho hd hcd hD hmg hg args vals as hpre hlay hrd hwl hlo
  obtain rfl : dV = .none := Dflts.none hD hdf
  obtain rfl : kV = .none := Dflts.noKw hD
  obtain ⟨a, vs, ns, rfl, rfl, hobj, hints, hlen⟩ := script_of hn hpre hwl
  refine enter_call (codeAny_mono (call w s₀ s₁ mg mb fa o pm cd doc a vs ns G Y ho (fd_plain hd) hcd hmg hobj hints hlen hg) fun r s' hq => ?_)
  obtain ⟨rfl, h2, h3, h4⟩ := hq
  exact ⟨.inl ⟨.bool true, .bool true, [], rfl, fun _ => rfl, .bool true, post_true l _, fun _ => ⟨List.Pairwise.nil, fun _ hm => (nomatch hm)⟩⟩, h2, h3, h4⟩
section
variable {prog : Program} {w : World} {A : Around} {E : Value → Shared → Prop} {s : Shared} {K : Frag}
end
end Att
namespace L2
open PySem PySem.Spec PyProof.Rows
theorem vals_ints : ∀ {vs : List Value} {ns : List Int}, IntsAre vs ns → Vals (ns.map V.int) vs
  | _, _, .nil => .nil
  | _, _, .cons n t h => .cons ⟨t, rfl⟩ (vals_ints h)
def Only (H : Hp) : Prop := ∀ b, H b = none ∨ ∃ o xs, H b = some (.frz o (.lst xs))
theorem law_call {P : Program} {w : World} {K : PySem.W.Frag} {mg mb : Str → Option Value} {CX : CXT} {k : Nat} {fa a : Addr} {fd : FuncData} {x : Str} {sp : Sp} {s₁ : Shared} {vs : List Value} {ns : List Int}
    (KX : K.In s₁.heap) (hns : s₁.heap.Ns mainGlobals mg) (hb : s₁.heap.Ns builtinsNs mb) (hbb : ∀ x : Str, x ≠ "__name__" → mb x = bootBuiltins x) (hlim : s₁.heap.NoLimit) (hg : s₁.gens = #[])
    (ha : s₁.heap.get? a = some { cls := .type "list", data := .seq vs.toArray }) (hi : IntsAre vs ns) (hl : ns.length ≤ sizeLine) (hr : Room k callerA)
    (F : ∀ base : Heap, K.In base → base.Ns mainGlobals mg → FnOk P w K mg base CX k fa fd [x] sp) (hbind : ∀ (s : Shared) (u : Value), BindsTo s fd ⟨[u], []⟩ [(x, u)])
    (hsp : ∀ H : Hp, Only H → SqL K H a (ns.map V.int) → sp [.ref a] H (fun v _ => v = .bl true) fun _ _ _ => False)
    (hCX : ∀ H e s', CX [] H s₁ (fun _ _ _ => False) e s' → False) :
    codeAny (model P w) callerA (.call (.ref fa) ⟨[.ref a], []⟩) (fun r s' => r = .ok (.ret (.bool true)) ∧ OldK s₁.heap s'.heap ∧ s'.os = s₁.os ∧ AllBare s'.gens) s₁ := by
  have rv := vals_ints hi
  have lenV := hi.length
  -- from an abstract heap in which nothing but the script may be tracked
  have core : ∀ H : Hp, Only H → SqL K H a (ns.map V.int) → HOk P w H s₁.heap → (∀ b, H b ≠ none → b = a) → (H a ≠ none → K.lookup a = none) →
      codeAny (model P w) callerA (.call (.ref fa) ⟨[.ref a], []⟩) (fun r s' => r = .ok (.ret (.bool true)) ∧ OldK s₁.heap s'.heap ∧ s'.os = s₁.os ∧ AllBare s'.gens) s₁ := by
    intro H hO hS hok hA hK
    have base_of : ∀ {b : Addr} {o : Obj}, s₁.heap.get? b = some o → H b = none → (hidT s₁.heap H).get? b = some o := fun e n => hidT_get e n
    have noA : ∀ {b : Addr} {o : Obj} {es : Array DictEntry} {ep : Nat}, s₁.heap.get? b = some o → o.data = .dict es ep → H b = none := fun {b o es ep} e d => by
      cases q : H b with
      | none => rfl
      | some u =>
        have e' : b = a := hA b (by rw [q]; simp)
        subst e'
        rw [ha] at e; cases e
        have d' : Data.seq vs.toArray _ = Data.dict es ep := d
        cases d'
    have nsK : ∀ {b : Addr} {m : Str → Option Value}, s₁.heap.Ns b m → (hidT s₁.heap H).Ns b m := fun {b m} ⟨o, es, ep, e, d, r⟩ => ⟨o, es, ep, base_of e (noA e d), d, r⟩
    have hKb : K.In (hidT s₁.heap H) := fun b o e => base_of (KX b o e) (by
      cases q : H b with
      | none => rfl
      | some u =>
        have e' : b = a := hA b (by rw [q]; simp)
        subst e'
        rw [hK (by rw [q]; simp)] at e; cases e)
    have hM : Mod K mg (hidT s₁.heap H) := ⟨hKb, nsK hns, ⟨mb, nsK hb, hbb⟩, let ⟨mc, h1, h2⟩ := hlim; ⟨mc, nsK h1, h2⟩⟩
    have e0 : Env0 P w K mg (hidT s₁.heap H) callerA [] s₁ H := ⟨rfl, hM, fun b o e => of_hidT e, Nat.le_of_eq (hidT_size _ _), trivial, fun b hb => absurd (show b ∈ ([] : List Addr) from hb) (by simp), hok, .of_eq hg⟩
    refine codeAny_mono ((F _ hKb (nsK hns)).run callerA [] s₁ H ⟨[.ref a], []⟩ [.ref a] [.ref a] _ _ hr e0 (hbind s₁ (.ref a)) (.cons rfl .nil) (hsp H hO hS)) fun r s' h => ?_
    cases r with
    | error e => exact (hCX H e s' h).elim
    | ok fl =>
      cases fl with
      | next => exact False.elim h
      | brk => exact False.elim h
      | cont => exact False.elim h
      | ret u =>
        obtain ⟨v, H', os, bare, un, hok', r', q⟩ := h
        have q' : v = .bl true := q
        subst q'
        obtain rfl : u = Value.bool true := r'
        refine ⟨rfl, OldK.of_keep fun b o e => ?_, os, bare⟩
        cases q : H b with
        | none => exact un.keep b o e q (by intro z; exact absurd (show b ∈ ([] : List Addr) from z) (by simp)) (by simp)
        | some u =>
          rcases hO b with z | ⟨ob, xs, z⟩
          · rw [q] at z; cases z
          · have z2 := un.frzs b ob _ z
            obtain ⟨e1, _⟩ := hok b _ z
            obtain ⟨e2, _⟩ := hok' b _ z2
            rw [e] at e1; cases e1
            exact e2
  cases hk : K.lookup a with
  | some o =>
    -- the script is one of the module's own objects
    have e := KX a o hk
    rw [ha] at e
    cases e
    refine core (fun _ => none) (fun _ => .inl rfl) (.inr ⟨_, vs.toArray, _, hk, rfl, rfl, rfl, by rw [List.size_toArray, lenV]; exact hl, by simpa using rv⟩) (fun b u z => by have z' : (none : Option HO) = some u := z; cases z') (fun b z => absurd rfl z) fun z => absurd rfl z
  | none =>
    refine core (fun b => if b = a then some (.frz { cls := .type "list", data := .seq vs.toArray } (.lst (ns.map V.int))) else none) (fun b => ?_) (.inl (.inr ⟨{ cls := .type "list", data := .seq vs.toArray }, if_pos rfl⟩)) (fun b u z => ?_) (fun b z => ?_) fun _ => hk
    · by_cases hb : b = a
      · exact .inr ⟨_, _, if_pos hb⟩
      · exact .inl (if_neg hb)
    · by_cases hb : b = a
      · have z' := (if_pos hb).symm.trans z
        cases z'
        subst hb
        exact ⟨ha, by rw [List.length_map]; exact hl, vs, _, rv, ha⟩
      · have z' := (if_neg hb).symm.trans z
        cases z'
    · by_cases hb : b = a
      · exact hb
      · exact absurd (if_neg hb) z
end L2
namespace L2
open PySem PySem.Spec PyProof.Rows
theorem walk_of {l : PySem.W.OpenLaw} {n k : Nat} {q : Program} {loose : List Str} {XP : (Str → Option Value) → Heap → Prop} {YP : World → Heap → Prop} {d : DefRec} {K : Params → PySem.W.Frag} {CX : World → CXT} {sp : World → Sp} {x : Str}
    (hn : l.most = some n) (hn2 : n ≤ sizeLine) (hdf : d.params.defaults = []) (hr : Room k callerA)
    (hY : ∀ (w : World) (h : Heap), YP w h → (K w.params).In h)
    (F : ∀ (w : World) (mg : Str → Option Value) (fa : Addr) (h : Heap), (K w.params).In h → h.Ns mainGlobals mg → mg d.name = some (.ref fa) →
      ∃ fd : FuncData, (∀ (s : Shared) (u : Value), BindsTo s fd ⟨[u], []⟩ [(x, u)]) ∧
        ∀ base : Heap, (K w.params).In base → base.Ns mainGlobals mg → FnOk l.prog w (K w.params) mg base (CX w) k fa fd [x] (sp w))
    (hsp : ∀ (w : World) (H : Hp) (a : Addr) (ns : List Int), ns.length ≤ n → Only H → SqL (K w.params) H a (ns.map V.int) → sp w [.ref a] H (fun v _ => v = .bl true) fun _ _ _ => False)
    (hCX : ∀ (w : World) (H : Hp) (s : Shared) (e : Value) (s' : Shared), CX w [] H s (fun _ _ _ => False) e s' → False) :
    PySem.W.WalkO q loose XP YP l.row.toRowW d [] (fun f vs => PySem.call f vs) := by
  refine Att.attach_call hn hdf fun w s₀ s₁ mg mb fa o pm cd doc a vs ns G Y ho hd hcd hmg hobj hints hlen hg => ?_
  have KX := hY w _ Y
  obtain ⟨fd, hb, hF⟩ := F w mg fa _ KX G.T.g hmg
  exact law_call KX G.T.g G.T.b G.T.builtins G.T.nolimit hg hobj hints (Nat.le_trans hlen hn2) hr hF hb (fun H hO hS => hsp w H a ns hlen hO hS) fun H e s' => hCX w H s₁ e s'
end L2
namespace L2
open PySem PySem.Spec PyProof.Rows
def inClass (s : Stmt) (j : Nat) : Stmt := match s with
  | .ClassDef _ _ _ body _ _ _ _ _ _ _ => body.getD j (.Pass ⟨0, 0, 0, 0⟩)
  | _ => .Pass ⟨0, 0, 0, 0⟩
def defArgs (s : Stmt) : Arguments := match s with
  | .FunctionDef _ a _ _ _ _ _ _ _ _ => a
  | _ => { posonlyargs := [], args := [], vararg := none, kwonlyargs := [], kw_defaults := [], kwarg := none, defaults := [] }
def defBody (s : Stmt) : List Stmt := match s with
  | .FunctionDef _ _ b _ _ _ _ _ _ _ => b
  | _ => []
def defScope (s : Stmt) : Scope := match s with
  | .FunctionDef _ _ _ _ _ _ sc _ _ _ => sc
  | _ => { kind := .function, names := [], isGenerator := false, isCoroutine := false }
abbrev CX0 : CXT := fun _ _ _ _ _ _ => False
abbrev E0 : XK := fun _ _ _ => False
theorem pass0 {X : Cx} : Passes CX0 X E0 := fun _ _ _ _ _ _ _ h => h.elim
structure Fun (K : PySem.W.Frag) (x qual : Str) (st : Stmt) (f : Addr) (fd : FuncData) : Prop where
  ex : ∃ (oc : Value) (od : Option Addr) (kV doc pm : Value) (an : Option Addr) (cdv ct : Value) (osl : Array (Option Value)),
    fd = PySem.W.fnOf x qual (defArgs st) (defBody st) (defScope st) .none kV doc pm an cdv ct ∧ K.lookup f = some ⟨oc, od, .func fd, osl⟩ ∧ PySem.W.codeIn K cdv qual = true
  kp : PySem.W.keepIn K (.ref f) = true
section
variable {P : Program} {w : World} {K : PySem.W.Frag} {mg : Str → Option Value} {base : Heap}
theorem Fun.ok {x qual : Str} {st : Stmt} {f : Addr} {fd : FuncData} {N ps : List Str} {k : Nat} {sp : Sp} (F : Fun K x qual st f fd) (S : FnScope N ps (defScope st)) (len : ∀ vs H Q E, sp vs H Q E → vs.length = ps.length)
    (hbody : ∀ (cdv : Value) (A : Around) (outer : List Env) (s : Shared) (H : Hp) (vs : List V) (Q : VK) (E : XK), Room k (A.deeper (envOfC qual (defScope st) s.heap.objs.size f cdv)) → sp vs H Q E →
      ∃ t, PSs (cxOf CX0 P w K mg base N qual (defScope st) f cdv A outer s H E).nox (defBody st) t ∧ t { nx := fun _ H' => Q .non H', rt := Q } (start N vs) H) : FnOk P w K mg base CX0 (k + 1) f fd ps sp := by
  obtain ⟨oc, od, kV, doc, pm, an, cdv, ct, osl, rfl, lk, hcd⟩ := F.ex
  refine fn_of lk hcd S len fun A outer s H vs Q E hr hsp => ?_
  obtain ⟨t, h, q⟩ := hbody cdv A outer s H vs Q E hr hsp
  exact ⟨t, h.nox, q⟩
theorem Fun.binds {x qual : Str} {st : Stmt} {f : Addr} {fd : FuncData} {ps : List Str} (F : Fun K x qual st f fd)
    (h : ∀ (kV doc pm : Value) (an : Option Addr) (cdv ct : Value) (us : List Value), us.length = ps.length → bindArgs (PySem.W.fnOf x qual (defArgs st) (defBody st) (defScope st) .none kV doc pm an cdv ct) ⟨us, []⟩ = pure (ps.zip us)) : Binds K fd ps [] := by
  obtain ⟨oc, od, kV, doc, pm, an, cdv, ct, osl, rfl, lk, hcd⟩ := F.ex
  exact .all (h kV doc pm an cdv ct)
theorem fun_mk {x qual : Str} {st : Stmt} {f : Addr} {oc : Value} {od an : Option Addr} {osl : Array (Option Value)} {kV doc pm cdv ct : Value} (l : K.lookup f = some ⟨oc, od, .func (PySem.W.fnOf x qual (defArgs st) (defBody st) (defScope st) .none kV doc pm an cdv ct), osl⟩)
    (c : PySem.W.codeIn K cdv qual = true) (k : PySem.W.keepIn K (.ref f) = true) : Fun K x qual st f (PySem.W.fnOf x qual (defArgs st) (defBody st) (defScope st) .none kV doc pm an cdv ct) := ⟨⟨oc, od, kV, doc, pm, an, cdv, ct, osl, rfl, l, c⟩, k⟩
end
theorem hu_of {A : Around} {k : Nat} (hr : Room k A) : A.units + 1 < cLine := Nat.lt_of_le_of_lt (Nat.add_le_add_left (by decide : 1 ≤ 64) _) hr.units
theorem small1000 {n : Nat} (h : n ≤ 1000) : n < sizeLine := Nat.lt_of_le_of_lt h (by decide)
section
variable {X : Cx}
theorem pv (i : Nat) {x : Str} {pos : Pos} (hN : X.N[i]? = some x := by rfl) (hv : Vis X.env.scope x := by first | exact Or.inl rfl | exact Or.inr (Or.inl rfl) | exact Or.inr (Or.inr rfl)) (hd : (x == ("__debug__" : Str)) = false := by decide)
    (hcd : (x == ("__classdict__" : Str)) = false := by decide) : PE X (.Name x pos) (tVar i) := pe_var hN hv hd hcd
end
theorem iteF {A B : Prop} (h : B) : if false = true then A else B := by
  rw [if_neg Bool.false_ne_true]
  exact h
theorem iteT {A B : Prop} (h : A) : if true = true then A else B := by
  rw [if_pos rfl]
  exact h
def Same (H H' : Hp) : Prop := ∀ b o, H b = some o → H' b = some o
theorem Same.refl (H : Hp) : Same H H := fun _ _ h => h
theorem Same.trans {H H1 H2 : Hp} (a : Same H H1) (b : Same H1 H2) : Same H H2 := fun c o h => b c o (a c o h)
theorem Same.free {H H' : Hp} (e : Same H H') {l : Addr} (h : H' l = Option.none) : H l = Option.none := by
  cases q : H l with
  | none => rfl
  | some o =>
    rw [e l o q] at h
    cases h
theorem Same.seq {K : PySem.W.Frag} {H H' : Hp} {a : Addr} {xs : List V} (e : Same H H') (h : SqL K H a xs) : SqL K H' a xs := by
  rcases h with (h | ⟨o, h⟩) | h
  · exact .inl (.inl (e _ _ h))
  · exact .inl (.inr ⟨o, e _ _ h⟩)
  · exact .inr h
end L2
namespace L2
open PySem PySem.Spec PyProof.Rows
section
variable {X : Cx}
theorem call_lenD : CallR X (.builtin "len") (fun xs H Q => ∃ a kvs, xs = [V.ref a] ∧ H a = some (.dK kvs) ∧ Q (.int kvs.length) H) := by
  intro pins s σ H xs us Q I r h
  obtain ⟨a, kvs, rfl, ha, q⟩ := h
  obtain ⟨u, rfl, ru⟩ := vals1 r
  cases ru
  exact d_len I (.inl ha) fun t s' I' => ⟨.int kvs.length, H, I', ⟨t, rfl⟩, q⟩
end
section
variable {κ : Type} [DecidableEq κ]
end
end L2
set_option Elab.async false
set_option linter.all false
set_option maxRecDepth 100000
set_option maxHeartbeats 4000000
namespace L2
open PySem PySem.Spec PyProof.Rows
mutual
inductive Rep (H : Hp) (S : List Addr) : V → PyData → Prop
  | non : Rep H S .non .none
  | bl (b : Bool) : Rep H S (.bl b) (.bool b)
  | int (i : Int) : Rep H S (.int i) (.int i)
  | str (x : Str) : Rep H S (.str x) (.str x)
  | lst {a : Addr} {xs : List V} {ds : List PyData} : Rd H a (.lst xs) → ¬ a ∈ S → Reps H S xs ds → Rep H S (.ref a) (.list ds)
  | tup {a : Addr} {xs : List V} {ds : List PyData} : Rd H a (.tup xs) → Reps H S xs ds → Rep H S (.ref a) (.tuple ds)
inductive Reps (H : Hp) (S : List Addr) : List V → List PyData → Prop
  | nil : Reps H S [] []
  | cons {x : V} {xs : List V} {d : PyData} {ds : List PyData} : Rep H S x d → Reps H S xs ds → Reps H S (x :: xs) (d :: ds)
end
structure Chg (S : List Addr) (H H' : Hp) : Prop where
  keep : ∀ b o, H b = some o → ¬ b ∈ S → H' b = some o
  tups : ∀ b xs, H b = some (.tup xs) → H' b = some (.tup xs)
  frzs : ∀ b o u, H b = some (.frz o u) → H' b = some (.frz o u)
section
variable {H H' H1 H2 : Hp} {S T : List Addr} {a p : Addr} {o : HO}
theorem Chg.refl (S : List Addr) (H : Hp) : Chg S H H := ⟨fun _ _ e _ => e, fun _ _ e => e, fun _ _ _ e => e⟩
theorem Chg.trans (x : Chg S H H1) (y : Chg S H1 H2) : Chg S H H2 := ⟨fun b o e n => y.keep b o (x.keep b o e n) n, fun b xs e => y.tups b xs (x.tups b xs e), fun b o u e => y.frzs b o u (x.frzs b o u e)⟩
theorem Chg.mono (x : Chg S H H') (h : ∀ b ∈ S, b ∈ T) : Chg T H H' := ⟨fun b o e n => x.keep b o e fun m => n (h b m), x.tups, x.frzs⟩
theorem Chg.of_same (s : Same H H') : Chg S H H' := ⟨fun b o e _ => s b o e, fun b xs e => s b _ e, fun b o u e => s b _ e⟩
theorem Same.new (hp : H p = none) : Same H (upd H p o) := fun b u e => by rw [upd_ne (ne_of_none e hp)]; exact e
theorem Chg.set (mu : Mut (H a)) (ha : a ∈ S) : Chg S H (upd H a o) := by
  refine ⟨fun b u e n => ?_, fun b xs e => ?_, fun b u w e => ?_⟩
  · rw [upd_ne (by rintro rfl; exact n ha)]; exact e
  · rw [upd_ne (by rintro rfl; rw [e] at mu; exact mu)]; exact e
  · rw [upd_ne (by rintro rfl; rw [e] at mu; exact mu)]; exact e
theorem Rd.chgT {xs : List V} (c : Chg S H H') (r : Rd H a (.tup xs)) : Rd H' a (.tup xs) := r.elim (fun e => .inl (c.tups _ _ e)) fun ⟨o, e⟩ => .inr ⟨o, c.frzs _ _ _ e⟩
theorem Rd.chgL {xs : List V} (c : Chg S H H') (ha : ¬ a ∈ S) (r : Rd H a (.lst xs)) : Rd H' a (.lst xs) := r.elim (fun e => .inl (c.keep _ _ e ha)) fun ⟨o, e⟩ => .inr ⟨o, c.frzs _ _ _ e⟩
theorem Rd.some {u : HO} (r : Rd H a u) : ∃ o, H a = some o := r.elim (fun e => ⟨_, e⟩) fun ⟨_, e⟩ => ⟨_, e⟩
mutual
theorem Rep.chg (c : Chg S H H') : ∀ {v : V} {d : PyData}, Rep H S v d → Rep H' S v d
  | _, _, .non => .non
  | _, _, .bl b => .bl b
  | _, _, .int i => .int i
  | _, _, .str x => .str x
  | _, _, .lst r n rs => .lst (r.chgL c n) n (Reps.chg c rs)
  | _, _, .tup r rs => .tup (r.chgT c) (Reps.chg c rs)
theorem Reps.chg (c : Chg S H H') : ∀ {vs : List V} {ds : List PyData}, Reps H S vs ds → Reps H' S vs ds
  | _, _, .nil => .nil
  | _, _, .cons h t => .cons (Rep.chg c h) (Reps.chg c t)
end
mutual
theorem Rep.mono (c : ∀ b ∈ T, b ∈ S) : ∀ {v : V} {d : PyData}, Rep H S v d → Rep H T v d
  | _, _, .non => .non
  | _, _, .bl b => .bl b
  | _, _, .int i => .int i
  | _, _, .str x => .str x
  | _, _, .lst r n rs => .lst r (fun m => n (c _ m)) (Reps.mono c rs)
  | _, _, .tup r rs => .tup r (Reps.mono c rs)
theorem Reps.mono (c : ∀ b ∈ T, b ∈ S) : ∀ {vs : List V} {ds : List PyData}, Reps H S vs ds → Reps H T vs ds
  | _, _, .nil => .nil
  | _, _, .cons h t => .cons (Rep.mono c h) (Reps.mono c t)
end
mutual
theorem Rep.fresh (hp : H p = none) : ∀ {v : V} {d : PyData}, Rep H S v d → Rep H (p :: S) v d
  | _, _, .non => .non
  | _, _, .bl b => .bl b
  | _, _, .int i => .int i
  | _, _, .str x => .str x
  | _, _, .lst r n rs => .lst r (fun m => (List.mem_cons.mp m).elim (fun z => by obtain ⟨o, e⟩ := r.some; rw [z, hp] at e; cases e) n) (Reps.fresh hp rs)
  | _, _, .tup r rs => .tup r (Reps.fresh hp rs)
theorem Reps.fresh (hp : H p = none) : ∀ {vs : List V} {ds : List PyData}, Reps H S vs ds → Reps H (p :: S) vs ds
  | _, _, .nil => .nil
  | _, _, .cons h t => .cons (Rep.fresh hp h) (Reps.fresh hp t)
end
theorem Reps.plain {v : List V} {d : List PyData} (r : Reps H S v d) : Reps H [] v d := r.mono (by simp)
theorem Rep.same {v : V} {d : PyData} (s : Same H H') (r : Rep H S v d) : Rep H' S v d := r.chg (.of_same s)
theorem Reps.same {v : List V} {d : List PyData} (s : Same H H') (r : Reps H S v d) : Reps H' S v d := r.chg (.of_same s)
theorem Reps.length : ∀ {vs : List V} {ds : List PyData}, Reps H S vs ds → vs.length = ds.length
  | _, _, .nil => rfl
  | _, _, .cons _ t => by rw [List.length_cons, List.length_cons, Reps.length t]
theorem Reps.get : ∀ {vs : List V} {ds : List PyData} {i : Nat} {v : V}, Reps H S vs ds → vs[i]? = some v → ∃ d, ds[i]? = some d ∧ Rep H S v d
  | _, _, i, v, .nil, h => by simp at h
  | _, _, 0, v, .cons h t, e => by simp at e; subst e; exact ⟨_, rfl, h⟩
  | _, _, i + 1, v, .cons h t, e => by
    simp at e
    obtain ⟨d, h1, h2⟩ := Reps.get t e
    exact ⟨d, by simpa using h1, h2⟩
theorem Reps.getD : ∀ {vs : List V} {ds : List PyData} {i : Nat} {d : PyData}, Reps H S vs ds → ds[i]? = some d → ∃ v, vs[i]? = some v ∧ Rep H S v d
  | _, _, i, v, .nil, h => by simp at h
  | _, _, 0, v, .cons h t, e => by simp at e; subst e; exact ⟨_, rfl, h⟩
  | _, _, i + 1, v, .cons h t, e => by
    simp at e
    obtain ⟨d, h1, h2⟩ := Reps.getD t e
    exact ⟨d, by simpa using h1, h2⟩
theorem Reps.append : ∀ {vs ws : List V} {ds es : List PyData}, Reps H S vs ds → Reps H S ws es → Reps H S (vs ++ ws) (ds ++ es)
  | _, _, _, _, .nil, h => h
  | _, _, _, _, .cons x t, h => .cons x (Reps.append t h)
theorem Reps.one {v : V} {d : PyData} (h : Rep H S v d) : Reps H S [v] [d] := .cons h .nil
theorem Reps.snoc {vs : List V} {ds : List PyData} {v : V} {d : PyData} (h : Reps H S vs ds) (q : Rep H S v d) : Reps H S (vs ++ [v]) (ds ++ [d]) := h.append (.one q)
theorem Reps.take : ∀ {vs : List V} {ds : List PyData} (n : Nat), Reps H S vs ds → Reps H S (vs.take n) (ds.take n)
  | _, _, 0, _ => by simpa using Reps.nil
  | _, _, n + 1, .nil => by simpa using Reps.nil
  | _, _, n + 1, .cons h t => by simpa using Reps.cons h (Reps.take n t)
theorem Reps.drop : ∀ {vs : List V} {ds : List PyData} (n : Nat), Reps H S vs ds → Reps H S (vs.drop n) (ds.drop n)
  | _, _, 0, h => by simpa using h
  | _, _, n + 1, .nil => by simpa using Reps.nil
  | _, _, n + 1, .cons h t => by simpa using Reps.drop n t
theorem Rep.non_inv {v : V} (r : Rep H S v .none) : v = .non := by cases r; rfl
theorem Rep.bl_inv {v : V} {b : Bool} (r : Rep H S v (.bool b)) : v = .bl b := by cases r; rfl
theorem Rep.int_inv {v : V} {i : Int} (r : Rep H S v (.int i)) : v = .int i := by cases r; rfl
theorem Rep.str_inv {v : V} {x : Str} (r : Rep H S v (.str x)) : v = .str x := by cases r; rfl
theorem Rep.lst_inv {v : V} {ds : List PyData} (r : Rep H S v (.list ds)) : ∃ a xs, v = .ref a ∧ Rd H a (.lst xs) ∧ ¬ a ∈ S ∧ Reps H S xs ds := by cases r with | lst h n t => exact ⟨_, _, rfl, h, n, t⟩
theorem Rep.tup_inv {v : V} {ds : List PyData} (r : Rep H S v (.tuple ds)) : ∃ a xs, v = .ref a ∧ Rd H a (.tup xs) ∧ Reps H S xs ds := by cases r with | tup h t => exact ⟨_, _, rfl, h, t⟩
theorem Reps.nil_inv {vs : List V} (r : Reps H S vs []) : vs = [] := by cases r; rfl
theorem Reps.cons_inv {vs : List V} {d : PyData} {ds : List PyData} (r : Reps H S vs (d :: ds)) : ∃ x xs, vs = x :: xs ∧ Rep H S x d ∧ Reps H S xs ds := by cases r with | cons h t => exact ⟨_, _, rfl, h, t⟩
end
section
variable {X : Cx} {pins : List (Addr × Obj)} {σ : St} {H : Hp} {s : Shared} {S : List Addr}
mutual
theorem Rep.reads (I : Inv X pins σ H s) : ∀ {v : V} {d : PyData} {u : Value}, Rep H S v d → RelV v u → ∃ as, Reads s.heap u d as
  | _, _, _, .non, r => by cases (show _ = Value.none from r); exact ⟨_, .none⟩
  | _, _, _, .bl b, r => by cases (show _ = Value.bool b from r); exact ⟨_, .bool b⟩
  | _, _, _, .int i, r => by obtain ⟨t, e⟩ := (show ∃ t, _ = Value.int i t from r); subst e; exact ⟨_, .int i t⟩
  | _, _, _, .str x, r => by obtain ⟨t, e⟩ := (show ∃ t, _ = Value.str x t from r); subst e; exact ⟨_, .str x t⟩
  | _, _, _, .lst (a := a) h _ rs, r => by
    cases (show _ = Value.ref a from r)
    obtain ⟨its, rv, ⟨o, n, e, c, _, d⟩, _⟩ := I.list (Or.inl h)
    obtain ⟨as, q⟩ := Reps.reads I rs rv
    exact ⟨_, .list e c d (by simpa using q)⟩
  | _, _, _, .tup (a := a) h rs, r => by
    cases (show _ = Value.ref a from r)
    obtain ⟨its, rv, ⟨o, e, c, n, d⟩, _⟩ := I.tuple (Or.inl h)
    obtain ⟨as, q⟩ := Reps.reads I rs rv
    exact ⟨_, .tuple e c d (by simpa using q)⟩
theorem Reps.reads (I : Inv X pins σ H s) : ∀ {vs : List V} {ds : List PyData} {us : List Value}, Reps H S vs ds → Vals vs us → ∃ as, ReadsAll s.heap us ds as
  | _, _, _, .nil, r => by cases r; exact ⟨_, .nil⟩
  | _, _, _, .cons h t, r => by
    cases r with
    | cons r1 r2 =>
      obtain ⟨as, q⟩ := Rep.reads I h r1
      obtain ⟨bs, p⟩ := Reps.reads I t r2
      exact ⟨_, .cons q p⟩
end
end
def rEqD : R2 := fun x y H Q => ∃ d e, Rep H [] x d ∧ Rep H [] y e ∧ SeqAt.shaped d = true ∧ SeqAt.shaped e = true ∧ Q (.bl (PyData.eqv d e)) H
def rNeD : R2 := fun x y H Q => ∃ d e, Rep H [] x d ∧ Rep H [] y e ∧ SeqAt.shaped d = true ∧ SeqAt.shaped e = true ∧ Q (.bl (!PyData.eqv d e)) H
def rInD (neg : Bool) : R2 := fun x y H Q => ∃ d ds, Rep H [] x d ∧ (Rep H [] y (.list ds) ∨ Rep H [] y (.tuple ds)) ∧ PyData.canLayAll0 ds = true ∧ SeqAt.shaped d = true ∧
  Q (.bl (if neg then !(ds.any fun e => PyData.eqv e d) else ds.any fun e => PyData.eqv e d)) H
section
variable {X : Cx}
theorem op_eqD (hu : X.A.units + 64 < cLine) : OpR X (compareOp .Eq) rEqD := by
  intro pins s σ H x y v u Q I rx ry h
  obtain ⟨d, e, rd, re, sd, se, q⟩ := h
  obtain ⟨as, ra⟩ := rd.reads I rx
  obtain ⟨bs, rb⟩ := re.reads I ry
  exact SeqAt.compareEq_shaped ra rb sd se hu ⟨.bl _, H, I, rfl, q⟩
theorem op_neD (hu : X.A.units + 64 < cLine) : OpR X (compareOp .NotEq) rNeD := by
  intro pins s σ H x y v u Q I rx ry h
  obtain ⟨d, e, rd, re, sd, se, q⟩ := h
  obtain ⟨as, ra⟩ := rd.reads I rx
  obtain ⟨bs, rb⟩ := re.reads I ry
  exact SeqAt.compareNe_shaped ra rb sd se hu ⟨.bl _, H, I, rfl, q⟩
theorem op_inD (hu : X.A.units + 65 < cLine) : OpR X (compareOp .In) (rInD false) := by
  intro pins s σ H x y v u Q I rx ry h
  obtain ⟨d, ds, rd, re, sd, se, q⟩ := h
  obtain ⟨as, ra⟩ := rd.reads I rx
  rcases re with re | re
  · obtain ⟨bs, rb⟩ := re.reads I ry
    exact SeqAt.in_list_reads rb ra sd (SeqAt.canLay_of_shaped se) (room_in_shaped se hu) ⟨.bl _, H, I, rfl, q⟩
  · obtain ⟨bs, rb⟩ := re.reads I ry
    exact SeqAt.in_tuple_reads rb ra sd (SeqAt.canLay_of_shaped se) (room_in_shaped se hu) ⟨.bl _, H, I, rfl, q⟩
def TyO (K : PySem.W.Frag) (H : Hp) (x : V) (t : Value) : Prop := TyOf K H x t ∨ ∃ a ys, x = .ref a ∧ Rd H a (.tup ys) ∧ t = .type "tuple"
theorem call_isinst : CallR X (.builtin "isinstance") (fun xs H Q => ∃ x T t b, xs = [x, .ty T] ∧ TyO X.K H x t ∧ PySem.W.kitOne X.K t (.type T) = some b ∧ Q (.bl b) H) := by
  intro pins s σ H xs us Q I r h
  obtain ⟨x, T, t, b, rfl, ty, e, q⟩ := h
  obtain ⟨u, v, rfl, ru, rv⟩ := Vals.two r
  cases (show v = Value.type T from rv)
  rcases ty with ty | ⟨a, ys, rfl, rd, rfl⟩
  · exact isinst_ok I ru ty e fun tk => ⟨.bl b, H, I.tok tk, rfl, q⟩
  · cases (show u = Value.ref a from ru)
    obtain ⟨its, _, ⟨o, h1, h2, _⟩, _⟩ := I.tuple (Or.inl rd)
    exact PySem.W.kia_one PySem.W.kitx_tuple I.kIn ⟨o, h1, h2⟩ e (fun z => nomatch z) fun tk => ⟨.bl b, H, I.tok tk, rfl, q⟩
end
theorem kit_same (K : PySem.W.Frag) (T : String) : PySem.W.kitOne K (.type T) (.type T) = some true := by unfold PySem.W.kitOne; rw [if_pos (by simp)]
def tDSetD (td ty tx : TE) : TE := fun σ H Q => td σ H fun x H1 => ∃ a, x = .ref a ∧ IsD H1 a ∧ ty σ H1 fun y H2 => tx σ H2 fun z H3 => ∃ kvs k, H3 a = some (.dK kvs) ∧ y = kV k ∧ kvs.length < sizeLine ∧
  (∀ v, valV kvs k = some v → Q v H3) ∧ (valV kvs k = none → Q z (upd H3 a (.dK (putK kvs k z))))
section
variable {X : Cx} {o e f : Expr} {apos cpos : Pos} {td ty tx : TE}
theorem pe_dsetd (ho : PE X o td) (he : PE X e ty) (hf : PE X f tx) (m : M2 X o "setdefault" apos e f cpos) : PE X (.Call (.Attribute o "setdefault" apos) [e, f] [] cpos) (tDSetD td ty tx) := by
  intro pins s σ H Q I h
  refine wpAny_Call_method m.base m.few m.line PySem.F.plainAttrs_dict PySem.F.slot_dict_setdefault PySem.F.type_dict_setdefault (thn (ho pins s σ H _ I h) fun u s1 ⟨x, H1, I1, rx, a, ex, d, q1⟩ => ?_)
  subst ex
  obtain rfl : u = Value.ref a := rx
  obtain ⟨t1, t2, _⟩ := isD_at I1 d
  refine ⟨t1, t2, ?_⟩
  rw [m.trees]
  refine Calls.callWith_builtin rfl (Calls.evalArgs_plain (Calls.spliced_cons (thn (he pins s1 σ H1 _ I1 q1) fun iv s2 ⟨y, H2, I2, ry, q2⟩ =>
    Calls.spliced_cons (thn (hf pins s2 σ H2 _ I2 q2) fun fv s3 ⟨z, H3, I3, rz, kvs, k, ea, ey, lz, q3, q4⟩ => Calls.spliced_nil ?_))))
  subst ey
  obtain ⟨z', hd, vs, rel, dd⟩ := dk_of I3.hok ea
  refine call_meetsIn PySem.F.slot_dict_setdefault dd.typeIs PySem.F.entry_dict_setdefault (PySem.F.args_dict_setdefault_3 _ _ _) (kt_meets_setdefault (mixKind X.prog X.w) a (kV_is ry) hd fv)
    ⟨vs, dd, by rw [← rel.length]; exact z', fun v hv => ?_, fun hn h' dd' hs => ?_⟩
  · have rl := rel.val k
    rw [hv] at rl
    cases e : valV kvs k with
    | none => rw [e] at rl; exact (show False from rl).elim
    | some x =>
      rw [e] at rl
      exact ⟨x, H3, I3.tok _, rl, q3 x e⟩
  · have rl := rel.val k
    rw [hn] at rl
    cases e : valV kvs k with
    | some x => rw [e] at rl; exact (show False from rl).elim
    | none =>
      have hl : (putK kvs k z).length ≤ sizeLine := by have := length_putK kvs k z; omega
      have he : ∃ q, h'.get? a = some q := let ⟨q, _, _, hq, _⟩ := dd'; ⟨q, hq⟩
      exact ⟨z, _, d_write I3 (by rw [ea]; exact True.intro) hs he (dk_new hl hd (rel.put k rz) dd'), rz, q4 e⟩
end
abbrev rAddI : R2 := rI0 fun i j => .int (i + j)
abbrev rMulI : R2 := rI CMul fun i j => .int (i * j)
abbrev rModI : R2 := rI (fun _ j => 0 < j) fun i j => .int (i % j)
abbrev rDivI : R2 := rI CDiv fun i j => .int (i / j)
abbrev rLtI : R2 := rI0 fun i j => .bl (decide (i < j))
abbrev rLeI : R2 := rI0 fun i j => .bl (decide (i ≤ j))
abbrev rGtI : R2 := rI0 fun i j => .bl (decide (j < i))
abbrev rGeI : R2 := rI0 fun i j => .bl (decide (j ≤ i))
abbrev rNegI : V → Hp → VK → Prop := rU fun i => .int (-i)
abbrev rLenQ (K : PySem.W.Frag) : List V → Hp → VK → Prop := fun xs H Q => ∃ p ys, xs = [.ref p] ∧ (SqL K H p ys ∨ SqT K H p ys) ∧ Q (.int ys.length) H
abbrev rLenD : List V → Hp → VK → Prop := fun xs H Q => ∃ a kvs, xs = [V.ref a] ∧ H a = some (.dK kvs) ∧ Q (.int kvs.length) H
abbrev rListQ (K : PySem.W.Frag) : List V → Hp → VK → Prop := fun xs H Q => ∃ p ys, xs = [.ref p] ∧ (SqL K H p ys ∨ SqT K H p ys) ∧ ∀ l, H l = none → Q (.ref l) (upd H l (.lst ys))
abbrev rIsi (K : PySem.W.Frag) : List V → Hp → VK → Prop := fun xs H Q => ∃ x T t b, xs = [x, .ty T] ∧ TyO K H x t ∧ PySem.W.kitOne K t (.type T) = some b ∧ Q (.bl b) H
theorem hu65_of {A : Around} {k : Nat} (hr : Room k A) : A.units + 65 < cLine := by have := hr.un; omega
def Has (P : Program) (w : World) (K : PySem.W.Frag) (mg : Str → Option Value) (base : Heap) (k : Nat) (x : Str) (ps : List Str) (sp : Sp) : Prop :=
  ∃ f fd, FnOk P w K mg base CX0 k f fd ps sp ∧ mg x = some (.ref f) ∧ PySem.W.keepIn K (.ref f) = true ∧ Binds K fd ps []
def HasM (P : Program) (w : World) (K : PySem.W.Frag) (mg : Str → Option Value) (base : Heap) (C : Addr) (k : Nat) (x : Str) (ps : List Str) (sp : Sp) : Prop :=
  ∃ f fd, FnOk P w K mg base CX0 k f fd ps sp ∧ Meth K C x f ∧ Binds K fd ps []
def HasI (P : Program) (w : World) (K : PySem.W.Frag) (mg : Str → Option Value) (base : Heap) (C : Addr) (k : Nat) (ps : List Str) (sp : Sp) : Prop :=
  ∃ f fd, FnOk P w K mg base CX0 k f fd ps sp ∧ Mk K C f ∧ Binds K fd ps []
def Grow (R : List Addr) (H : Hp) (R' : List Addr) : Prop := ∀ a ∈ R', a ∈ R ∨ H a = none
theorem Grow.refl (R : List Addr) (H : Hp) : Grow R H R := fun _ h => .inl h
theorem Grow.trans {R R1 R2 : List Addr} {H H1 : Hp} (g1 : Grow R H R1) (c : Chg R H H1) (g2 : Grow R1 H1 R2) : Grow R H R2 := fun a ha => by
  rcases g2 a ha with z | z
  · exact g1 a z
  · by_cases m : a ∈ R
    · exact .inl m
    · cases e : H a with
      | none => exact .inr rfl
      | some o => rw [c.keep a o e m] at z; cases z
theorem Chg.grow {R R1 : List Addr} {H H1 H2 : Hp} (c : Chg R H H1) (g : Grow R H R1) (c2 : Chg R1 H1 H2) : Chg R H H2 :=
  ⟨fun b o e n => c2.keep b o (c.keep b o e n) fun m => (g b m).elim n fun z => (by rw [e] at z; cases z), fun b xs e => c2.tups b xs (c.tups b xs e), fun b o u e => c2.frzs b o u (c.frzs b o u e)⟩
mutual
theorem Rep.grow {H : Hp} {S T : List Addr} (g : Grow S H T) : ∀ {v : V} {d : PyData}, Rep H S v d → Rep H T v d
  | _, _, .non => .non
  | _, _, .bl b => .bl b
  | _, _, .int i => .int i
  | _, _, .str x => .str x
  | _, _, .lst r n rs => .lst r (fun m => (g _ m).elim n fun z => by obtain ⟨o, e⟩ := r.some; rw [z] at e; cases e) (Reps.grow g rs)
  | _, _, .tup r rs => .tup r (Reps.grow g rs)
theorem Reps.grow {H : Hp} {S T : List Addr} (g : Grow S H T) : ∀ {v : List V} {d : List PyData}, Reps H S v d → Reps H T v d
  | _, _, .nil => .nil
  | _, _, .cons h t => .cons (Rep.grow g h) (Reps.grow g t)
end
theorem Chg.put {S : List Addr} {H H' : Hp} {p : Addr} {o : HO} (c : Chg S H H') (hp : H p = none) : Chg S H (upd H' p o) :=
  ⟨fun b u e n => by rw [upd_ne (ne_of_none e hp)]; exact c.keep b u e n, fun b xs e => by rw [upd_ne (ne_of_none e hp)]; exact c.tups b xs e, fun b u w e => by rw [upd_ne (ne_of_none e hp)]; exact c.frzs b u w e⟩
theorem TyO.int {K : PySem.W.Frag} {H : Hp} (i : Int) : TyO K H (.int i) (.type "int") := .inl (.int i)
theorem TyO.bl {K : PySem.W.Frag} {H : Hp} (i : Bool) : TyO K H (.bl i) (.type "bool") := .inl (.bl i)
theorem TyO.str {K : PySem.W.Frag} {H : Hp} (i : Str) : TyO K H (.str i) (.type "str") := .inl (.str i)
theorem TyO.list {K : PySem.W.Frag} {H : Hp} {a : Addr} {xs : List V} (r : Rd H a (.lst xs)) : TyO K H (.ref a) (.type "list") := r.elim (fun e => .inl (.lst e)) fun ⟨_, e⟩ => .inl (.frz e)
theorem TyO.tup {K : PySem.W.Frag} {H : Hp} {a : Addr} {xs : List V} (r : Rd H a (.tup xs)) : TyO K H (.ref a) (.type "tuple") := .inr ⟨a, xs, rfl, r, rfl⟩
end L2
set_option Elab.async false
set_option linter.all false
set_option maxRecDepth 100000
set_option maxHeartbeats 4000000
namespace L2
open PySem PySem.Spec PyProof.Rows
abbrev ccx (X : Cx) (N : List Str) (scope : Scope) (cl : List (Str × Addr)) (C : Addr) (s : Shared) (H : Hp) (fp : List Addr) : Cx :=
  { X with N := N, s₀ := s, H₀ := H, env := compEnvC scope cl C X.env, outer := X.stack, ex := fp, fn := fun _ => false, pn := [], xe := fun _ _ => False }
def picked (pick : List (Option Nat)) (σ : St) : St := pick.map fun o => o.bind fun i => (σ[i]?).bind id
def Picks (X : Cx) (scope : Scope) (cl : List (Str × Addr)) : List Str → List (Option Nat) → Prop
  | [], [] => True
  | _ :: xs, none :: ps => Picks X scope cl xs ps
  | x :: xs, some i :: ps => (X.N[i]? = some x ∧ (X.env.kindOf x = some .cell ∨ X.env.kindOf x = some .free) ∧
      ((relabel scope X.env).names.lookup x = some .cell ∨ (relabel scope X.env).names.lookup x = some .free) ∧ ∃ c, X.env.cells.lookup x = some c ∧ cl.lookup x = some c) ∧ Picks X scope cl xs ps
  | _, _ => False
def ClosOk (X : Cx) : List (Str × Addr) → Prop
  | [] => True
  | p :: r => X.env.cells.lookup p.1 = some p.2 ∧ ClosOk X r
structure CompOk (X : Cx) (N : List Str) (scope : Scope) (cl : List (Str × Addr)) (pick : List (Option Nat)) : Prop where
  clos : closureFor scope X.env = pure cl
  kind : scope.kind = .function
  nocell : (scope.names.all fun y => y.2 != .cell) = true
  loc : (scope.names.all fun y => y.2 != .local || scope.names.lookup y.1 == some .local) = true
  free : (scope.names.all fun y => y.2 != .free || (cl.lookup y.1).isSome) = true
  cells : ClosOk X cl
  picks : Picks X scope cl N pick
theorem ClosOk.look {X : Cx} : ∀ {cl : List (Str × Addr)} {x : Str} {c : Addr}, ClosOk X cl → cl.lookup x = some c → X.env.cells.lookup x = some c
  | [], _, _, _, h => by simp at h
  | (n, a) :: r, x, c, ⟨h1, h2⟩, h => by
    rw [List.lookup_cons] at h
    cases e : x == n with
    | true =>
      rw [e] at h
      have e' : x = n := by simpa using e
      subst e'
      cases h
      exact h1
    | false =>
      rw [e] at h
      exact h2.look h
theorem Picks.length {X : Cx} {scope : Scope} {cl : List (Str × Addr)} : ∀ {N : List Str} {ps : List (Option Nat)}, Picks X scope cl N ps → ps.length = N.length
  | [], [], _ => rfl
  | [], _ :: _, h => (show False from h).elim
  | _ :: _, [], h => (show False from h).elim
  | _ :: xs, none :: ps, h => by
    have h' : Picks X scope cl xs ps := h
    rw [List.length_cons, List.length_cons, h'.length]
  | _ :: xs, some i :: ps, h => by
    have h' : Picks X scope cl xs ps := h.2
    rw [List.length_cons, List.length_cons, h'.length]
theorem Picks.at {X : Cx} {scope : Scope} {cl : List (Str × Addr)} : ∀ {N : List Str} {ps : List (Option Nat)} {j i : Nat} {x : Str}, Picks X scope cl N ps → N[j]? = some x → ps[j]? = some (some i) →
    X.N[i]? = some x ∧ (X.env.kindOf x = some .cell ∨ X.env.kindOf x = some .free) ∧
      ((relabel scope X.env).names.lookup x = some .cell ∨ (relabel scope X.env).names.lookup x = some .free) ∧ ∃ c, X.env.cells.lookup x = some c ∧ cl.lookup x = some c
  | [], _, j, _, _, _, h, _ => by simp at h
  | _ :: _, [], j, _, _, _, _, h => by simp at h
  | y :: xs, none :: ps, 0, _, _, _, _, h => by simp at h
  | y :: xs, some k :: ps, 0, i, x, p, h1, h2 => by
    simp at h1 h2
    subst h1 h2
    exact p.1
  | y :: xs, none :: ps, j + 1, i, x, p, h1, h2 => Picks.at (N := xs) (ps := ps) p (by simpa using h1) (by simpa using h2)
  | y :: xs, some k :: ps, j + 1, i, x, p, h1, h2 => Picks.at (N := xs) (ps := ps) p.2 (by simpa using h1) (by simpa using h2)
theorem compLoop_any {prog : Program} {w : World} {A : Around} {R : Result → Shared → Prop} {s : Shared} {elt target iter : Expr} {ifs : List Expr} {scope : Scope} {pos : Pos} {it acc : Value} {env : Env} (I : Nat → Shared → Prop)
    (turn : ∀ n s, I n s → wpAny (model prog w) A (pyNext it) (fun r s₁ => match r with
      | none => R (.ok .next) s₁
      | some v => wpAny (model prog w) A (letOwnedTupleGo target it v) (fun _ s' => wpAny (model prog w) A (assign target env v) (fun _ s₂ =>
          wpAny (model prog w) A (forIn ifs true fun c r => if r = true then do let ok ← isTrue c env (eval c env); pure (ForInStep.yield ok) else pure (ForInStep.yield r)) (fun ok s₃ =>
            if ok = true then wpAny (model prog w) A (eval elt env) (fun x s₄ =>
              wpAny (model prog w) A (call (.builtin "list.append") [acc, x]) (fun _ s₅ => ∃ m, m < n ∧ I m s₅) (fun _ _ => False) s₄) (fun _ _ => False) s₃
            else ∃ m, m < n ∧ I m s₃) (fun _ _ => False) s₂) (fun _ _ => False) s') (fun _ _ => False) s₁) (fun _ _ => False) s)
    (n : Nat) (h : I n s) :
    codeAny (model prog w) A (.compLoop (.ListComp elt [⟨target, iter, ifs, 0⟩] scope pos) 0 it acc env) R s := by
  refine codeAny_loop rfl I (fun n s hI => ?_) n h
  show wpAny _ A ((compTurn (.ListComp elt [⟨target, iter, ifs, 0⟩] scope pos) 0 it acc env).onRaise (fun x => do noteFrame x env; theTreesLotGoes x)) _ _ s
  refine wpAny_noted ?_
  rw [compTurn_list]
  refine wpAny_bind (wpAny_standAt (wpAny_bind (wpAny_mono (turn n s hI) (fun r s₁ h₁ => ?_) fun _ _ h' => h'.elim)))
  cases r with
  | none => exact wpAny_pure h₁
  | some v =>
    refine wpAny_bind (wpAny_mono h₁ (fun _ s' h' => wpAny_bind (wpAny_mono h' (fun _ s₂ h₂ => wpAny_bind (wpAny_mono h₂ (fun ok s₃ h₃ => ?_) fun _ _ h' => h'.elim)) fun _ _ h' => h'.elim)) fun _ _ h' => h'.elim)
    cases ok with
    | false => exact wpAny_pure ⟨rfl, h₃⟩
    | true =>
      exact wpAny_bind (wpAny_bind (wpAny_mono h₃ (fun x s₄ h₄ => wpAny_bind (wpAny_mono h₄ (fun _ s₅ h₅ => wpAny_pure (wpAny_pure ⟨rfl, h₅⟩)) fun _ _ h' => h'.elim)) fun _ _ h' => h'.elim))
def PIfs (X : Cx) (ifs : List Expr) (t : TT) : Prop :=
  ∀ (pins : List (Addr × Obj)) (s : Shared) (σ : St) (H : Hp) (Q : Bool → Hp → Prop), Inv X pins σ H s → t σ H Q →
    wpAny (model X.prog X.w) X.A (forIn ifs true fun c r => if r = true then do let ok ← isTrue c X.env (eval c X.env); pure (ForInStep.yield ok) else pure (ForInStep.yield r)) (TP X pins σ Q) X.xe s
def tNoIf : TT := fun _ H Q => Q true H
theorem pifs_nil {X : Cx} : PIfs X [] tNoIf := fun _ _ _ H _ I h => wpAny_tests_nil ⟨H, I, h⟩
theorem pifs_one {X : Cx} {c : Expr} {t : TT} (h : PT X c t) : PIfs X [c] t := fun pins s σ H Q I q => wpAny_tests_one (h pins s σ H Q I q)
def Loose (X : Cx) (pins : List (Addr × Obj)) (H : Hp) (C : Addr) : Prop :=
  H C = none ∧ C ≠ X.env.locals ∧ X.s₀.heap.objs.size ≤ C ∧ (∀ x c, X.env.cells.lookup x = some c → c ≠ C) ∧ ∀ q ∈ X.pn ++ pins, q.1 ≠ C
def LcInv (J : It) (g : TG) (ti : TT) (te : TE) (σ0 : St) (H1 : Hp) (Q : VK) (p : Addr) : Prop :=
  ∃ W : Nat → Nat → St → Hp → Prop, (∃ m, W 0 m σ0 (upd H1 p (.lst []))) ∧ ∀ i m σ H, W i m σ H →
    (J.stop i H ∧ Q (.ref p) H) ∨ (J.go i H ∧ ∃ N : St → Hp → Prop, (∀ σ' H', N σ' H' → ∃ m', m' < m ∧ W (i + 1) m' σ' H') ∧
      ∀ x H', J.yld i H x H' → g x σ H' fun σ2 H2 => ti σ2 H2 fun b H3 => if b = true then te σ2 H3 fun v H4 => ∃ xs, H4 p = some (.lst xs) ∧ xs.length < sizeLine ∧ N σ2 (upd H4 p (.lst (xs ++ [v]))) else N σ2 H3)
section
variable {X : Cx} {pins : List (Addr × Obj)} {σ : St} {H2 : Hp} {s2 : Shared} {N : List Str} {scope : Scope} {cl : List (Str × Addr)} {pick : List (Option Nat)} {elt tg iter : Expr} {ifs : List Expr} {pos : Pos}
  {g : TG} {ti : TT} {te : TE} {it : Addr} {fp : List Addr} {tn : Nat → Heap → Prop} {J : It} {Q : VK}
theorem lc_ok {C : Addr} {s3 : Shared} {H3 : Hp} (S : CompOk X N scope cl pick) (I3 : Inv X pins σ H3 s3) (hC : s3.heap.objs.size ≤ C) (f3 : ∀ b ∈ fp, FpOk X pins H3 b) (hlt : ∀ b ∈ fp, b < s3.heap.objs.size) :
    (ccx X N scope cl C s3 H3 fp).Ok where
  mod := I3.mod
  kind := S.kind
  glob := I3.ok.glob
  blt := I3.ok.blt
  above := hC
  inj := fun x y c a b => I3.ok.inj x y c (S.cells.look a) (S.cells.look b)
  has := fun x h => by
    have key : ∀ (names : List (Str × NameKind)), (names.all fun y => y.2 != .cell) = true → (names.all fun y => y.2 != .free || (cl.lookup y.1).isSome) = true →
        ((names.map fun (n, k) => if (k == NameKind.free && X.env.scope.kind == .function && X.env.kindOf n == some .cell) then (n, NameKind.cell) else (n, k)).lookup x = some .cell ∨
         (names.map fun (n, k) => if (k == NameKind.free && X.env.scope.kind == .function && X.env.kindOf n == some .cell) then (n, NameKind.cell) else (n, k)).lookup x = some .free) → ∃ c, cl.lookup x = some c := by
      intro names
      induction names with
      | nil => intro _ _ h; simp at h
      | cons y r ih =>
        obtain ⟨n, k⟩ := y
        intro h1 h2 h3
        rw [List.all_cons, Bool.and_eq_true] at h1 h2
        rw [List.map_cons] at h3
        cases hx : x == n with
        | true =>
          have hx' : x = n := by simpa using hx
          subst hx'
          cases k with
          | free =>
            have q := h2.1
            rw [Bool.or_eq_true] at q
            exact Option.isSome_iff_exists.mp (q.resolve_left (by simp))
          | cell => exact absurd h1.1 (by simp)
          | _ => simp [List.lookup_cons] at h3
        | false =>
          refine ih h1.2 h2.2 ?_
          have e : ∀ (k' : NameKind), List.lookup x ((n, k') :: (r.map fun (n, k) => if (k == NameKind.free && X.env.scope.kind == .function && X.env.kindOf n == some .cell) then (n, NameKind.cell) else (n, k))) =
              List.lookup x (r.map fun (n, k) => if (k == NameKind.free && X.env.scope.kind == .function && X.env.kindOf n == some .cell) then (n, NameKind.cell) else (n, k)) := fun k' => by rw [List.lookup_cons, hx]
          by_cases hc : (k == NameKind.free && X.env.scope.kind == .function && X.env.kindOf n == some .cell) = true
          · simp only [if_pos hc] at h3; rw [e] at h3; exact h3
          · simp only [if_neg hc] at h3; rw [e] at h3; exact h3
    exact key scope.names S.nocell S.free h
  cab := fun x c h => by cases h
  hd := I3.ok.hd
  frames := I3.ok.frames
  stk := .inl rfl
  exf := fun b hb => ⟨fun e => absurd (hlt b hb) (Nat.not_lt.mpr (by rw [show b = C from e]; exact hC)), fun x c e => (f3 b hb).2.2.2.2.1 x c (S.cells.look e)⟩
  bs := I3.bs
  bsz := Nat.le_trans I3.ok.bsz I3.sz
  noex := fun b o e hb => by
    rcases (f3 b hb).2.2.2.1 with z | z
    · exact I3.ok.noex b o e z
    · exact absurd (Nat.lt_of_lt_of_le (Heap.lt_size (I3.ok.bs b o e).1) z) (Nat.lt_irrefl _)
  exfs := fun b hb m => by
    rcases List.mem_cons.mp (I3.stkSub b m) with z | z
    · exact (f3 b hb).2.1 z
    · exact (f3 b hb).2.2.1 z
  funs := I3.stack
  frf := I3.stkFree
theorem lc_inv {C : Addr} {s3 : Shared} {H3 : Hp} {h4 : Heap} {t4 : Nat} {m : Str → Option Value} (S : CompOk X N scope cl pick) (I3 : Inv X pins σ H3 s3) (hC : s3.heap.objs.size ≤ C) (f3 : ∀ b ∈ fp, FpOk X pins H3 b) (hlt : ∀ b ∈ fp, b < s3.heap.objs.size)
    (hn : h4.Ns C m) (hk : ∀ b o, s3.heap.get? b = some o → h4.get? b = some o) : Inv (ccx X N scope cl C s3 H3 fp) [] (picked pick σ) H3 { s3 with heap := h4, toks := t4 } where
  ok := lc_ok S I3 hC f3 hlt
  os := rfl
  bare := I3.bare
  base := Un.kept hk
  loc := by
    refine ⟨m, hn, fun j x v hj hσ hv => ?_⟩
    have hj' : N[j]? = some x := hj
    unfold picked at hσ
    rw [List.getElem?_map] at hσ
    cases hp : pick[j]? with
    | none => rw [hp] at hσ; cases hσ
    | some o =>
      rw [hp] at hσ
      cases o with
      | none => cases hσ
      | some i =>
        obtain ⟨a1, a2, a3, c, a4, a5⟩ := S.picks.at hj' hp
        have hσ' : σ[i]? = some (some v) := by
          have : (σ[i]?).bind id = some v := by simpa using hσ
          cases q : σ[i]? with
          | none => rw [q] at this; cases this
          | some z => rw [q] at this; have e : z = some v := this; rw [e]
        obtain ⟨m0, _, hl⟩ := I3.loc
        have vis : Vis X.env.scope x := a2.elim (fun e => .inr (.inl e)) fun e => .inr (.inr e)
        obtain ⟨u, ru, lk⟩ := hl i x v a1 hσ' vis
        refine ⟨u, ru, .inr ⟨a3, c, a5, ?_⟩⟩
        rcases lk with ⟨z, _⟩ | ⟨_, c', e', ic⟩
        · rcases a2 with y | y <;> (rw [y] at z; cases z)
        · rw [a4] at e'; cases e'
          obtain ⟨o, e, d⟩ := ic
          exact ⟨o, hk _ _ e, d⟩
  cell := fun x c e => by
    obtain ⟨v, o, q, d⟩ := I3.cell x c (S.cells.look e)
    exact ⟨v, o, hk _ _ q, d⟩
  free := I3.hok.fresh hC
  freeC := fun x c e => I3.freeC x c (S.cells.look e)
  pin := fun p hp => nomatch hp
  hok := I3.hok.kept hk
  len := by
    show (picked pick σ).length = N.length
    unfold picked
    rw [List.length_map, S.picks.length]
theorem lc_block {E : Value → Shared → Prop} {RR : Value → Addr → Result → Shared → Prop} (hc : X.calm = true) (S : CompOk X N scope cl pick)
    (hg : ∀ C s H fp, PG (ccx X N scope cl C s H fp) tg g) (ht : ∀ C s H fp, PIfs (ccx X N scope cl C s H fp) ifs ti) (he : ∀ C s H fp, PE (ccx X N scope cl C s H fp) elt te)
    (I2 : Inv X pins σ H2 s2) (T : Turn X.prog X.w X.K tg J fp it tn) (st2 : tn 0 s2.heap) (f2 : ∀ b ∈ fp, FpOk X pins H2 b)
    (hq : ∀ p, H2 p = none → LcInv J g ti te (picked pick σ) H2 Q p)
    (hRR : ∀ C p H' s1 m, Inv X pins σ H' s1 → Loose X pins H' C → s1.heap.Ns C m → Q (.ref p) H' → RR (.ref p) C (.ok .next) s1) :
    wpAny (model X.prog X.w) X.A (newList []) (fun acc s₃ => wpAny (model X.prog X.w) X.A (newFunctionEnv scope X.env.globals cl [] X.env.qual none .none (some X.env)) (fun cenv s₄ =>
      codeAny (model X.prog X.w) X.A (.compStart (.ListComp elt [⟨tg, iter, ifs, 0⟩] scope pos) 0 (.ref it) acc { cenv with scope := relabel scope X.env }) (RR acc cenv.locals) s₄) E s₃) E s2 := by
  have hcell : ∀ y ∈ scope.names, y.2 ≠ .cell := fun y hy => by simpa using List.all_eq_true.mp S.nocell y hy
  refine wpAny_newObj_type (wpAny_newFunctionEnv hcell (by intro y hy; simp at hy) (fun h₁ hns₁ hsb₁ => ?_) S.kind)
  dsimp only at hns₁ hsb₁ ⊢
  have I3 : Inv X pins σ (upd H2 s2.heap.objs.size (.lst [])) { s2 with heap := s2.heap.push { cls := .type "list", data := .seq ([] : List Value).toArray } } :=
    I2.lnew (ys := []) (its := []) (t' := s2.toks) .nil (Nat.zero_le _)
  have hp : H2 s2.heap.objs.size = none := I2.fresh
  obtain ⟨W, ⟨m0, w0⟩, turn⟩ := hq _ hp
  generalize hA : s2.heap.objs.size = acc at *
  generalize hS3 : ({ s2 with heap := s2.heap.push { cls := .type "list", data := .seq ([] : List Value).toArray } } : Shared) = s3 at *
  have hh3 : s3.heap = s2.heap.push { cls := .type "list", data := .seq ([] : List Value).toArray } := by rw [← hS3]
  have hsz : s3.heap.objs.size = acc + 1 := by rw [hh3, Heap.size_push, hA]
  have hlt2 : ∀ b ∈ fp, b < acc := fun b hb => by
    obtain ⟨o, e, _⟩ := T.obj 0 _ st2 b hb
    rw [← hA]; exact Heap.lt_size e
  have hlt : ∀ b ∈ fp, b < s3.heap.objs.size := fun b hb => by rw [hsz]; exact Nat.lt_succ_of_lt (hlt2 b hb)
  have f3 : ∀ b ∈ fp, FpOk X pins (upd H2 acc (.lst [])) b := fun b hb => ⟨by rw [upd_ne (Nat.ne_of_lt (hlt2 b hb))]; exact (f2 b hb).1, (f2 b hb).2⟩
  have hk : ∀ b o, s3.heap.get? b = some o → h₁.get? b = some o := fun b o e => by
    refine hsb₁.extBut b o (Nat.ne_of_lt ?_) (Heap.get?_push_of_some _ ?_)
    · have := Heap.lt_size e
      rw [hh3] at this
      exact this
    · rw [hh3] at e; exact e
  have hCe : (s2.heap.push { cls := .type "list", data := .seq ([] : List Value).toArray }).objs.size = acc + 1 := by rw [Heap.size_push, hA]
  have e4 : ({ s2 with heap := h₁, toks := s2.toks + ([] : List (Str × Value)).length } : Shared) = { s3 with heap := h₁, toks := s2.toks } := by rw [← hS3]; rfl
  have hns : h₁.Ns (acc + 1) (fun x => ([] : List (Str × Value)).reverse.lookup x) := by rw [← hCe]; exact hns₁
  have I4 : Inv (ccx X N scope cl (acc + 1) s3 (upd H2 acc (.lst [])) fp) [] (picked pick σ) (upd H2 acc (.lst [])) { s3 with heap := h₁, toks := s2.toks } :=
    lc_inv S I3 (by rw [hsz]; exact Nat.le_refl _) f3 hlt hns hk
  have st4 : tn 0 h₁ := T.keep _ _ _ st2 fun b hb o e => hk b o (by rw [hh3]; exact Heap.get?_push_of_some _ e)
  have stat : ∀ {H' : Hp}, (∀ b ∈ fp, H' b = none) → ∀ b ∈ fp, FpOk (ccx X N scope cl (acc + 1) s3 (upd H2 acc (.lst [])) fp) [] H' b := fun {H'} hn b hb => by
    have ok := I4.ok
    exact ⟨hn b hb, (ok.exf b hb).1, ok.exfs b hb, .inl hb, (ok.exf b hb).2, fun p hp => nomatch hp⟩
  -- behind the loop: the outer frame again
  have out : ∀ {σ' : St} {H' : Hp} {s1 : Shared}, Inv (ccx X N scope cl (acc + 1) s3 (upd H2 acc (.lst [])) fp) [] σ' H' s1 → Q (.ref acc) H' → RR (.ref acc) (acc + 1) (.ok .next) s1 := fun {σ' H' s1} I' q' => by
    obtain ⟨m', hn', _⟩ := I'.loc
    refine hRR (acc + 1) acc H' s1 m' ?_ ?_ hn' q'
    · exact I3.call' I'.os I'.base I'.hok I'.bare fun b hb => ⟨(f3 b hb).2.2.2.1, (f3 b hb).2.1, (f3 b hb).2.2.2.2.1, (f3 b hb).2.2.2.2.2⟩
    · have big : s3.heap.objs.size ≤ acc + 1 := by rw [hsz]; exact Nat.le_refl _
      refine ⟨I'.free, Nat.ne_of_gt (Nat.lt_of_lt_of_le I3.lt big), Nat.le_trans I3.sz big, fun x c e z => ?_, fun p hp z => ?_⟩
      · obtain ⟨v, ic⟩ := I3.cell x c e
        exact absurd (Nat.lt_of_lt_of_le ic.lt (by rw [z]; exact big)) (Nat.lt_irrefl _)
      · exact absurd (Nat.lt_of_lt_of_le (Heap.lt_size (I3.pin p hp).1) (by rw [z]; exact big)) (Nat.lt_irrefl _)
  have loop : codeAny (model X.prog X.w) X.A (.compLoop (.ListComp elt [⟨tg, iter, ifs, 0⟩] scope pos) 0 (.ref it) (.ref acc) (compEnvC scope cl (acc + 1) X.env)) (RR (.ref acc) (acc + 1)) { s3 with heap := h₁, toks := s2.toks } := by
    refine compLoop_any (fun n s' => ∃ i σ' H', Inv (ccx X N scope cl (acc + 1) s3 (upd H2 acc (.lst [])) fp) [] σ' H' s' ∧ tn i s'.heap ∧ (∀ b ∈ fp, H' b = none) ∧ W i n σ' H') ?_ m0
      ⟨0, _, _, I4, st4, fun b hb => (f3 b hb).1, w0⟩
    rintro n s5 ⟨i, σ5, H5, I5, st5, fr5, w5⟩
    rcases turn i n σ5 H5 w5 with ⟨stop, qn⟩ | ⟨go, Nx, hN, step⟩
    · refine thn (T.done (ccx X N scope cl (acc + 1) s3 (upd H2 acc (.lst [])) fp) rfl rfl rfl hc i [] s5 σ5 H5 _ I5 (stat fr5) st5 stop) fun r s6 ⟨hr, I6⟩ => ?_
      subst hr
      exact out I6 qn
    · refine thn (T.item (ccx X N scope cl (acc + 1) s3 (upd H2 acc (.lst [])) fp) rfl rfl rfl hc i [] s5 σ5 H5 _ I5 (stat fr5) st5 go) fun r s6 ⟨u, hr, h6⟩ => ?_
      subst hr
      refine thn h6 fun _ s7 ⟨x, H7, I7, r7, y7, st7, fr7⟩ => ?_
      have I7' := I7.pinned (stat fr7) (T.obj _ _ st7)
      refine thn (hg _ _ _ _ _ s7 σ5 H7 x u _ I7' r7 (step x H7 y7)) fun _ s8 ⟨σ8, H8, I8, q8⟩ => ?_
      have again : ∀ {s9 : Shared} {σ9 : St} {H9 : Hp}, Inv (ccx X N scope cl (acc + 1) s3 (upd H2 acc (.lst [])) fp) ([] ++ pinsAt fp s7.heap) σ9 H9 s9 → Nx σ9 H9 → ∃ m, m < n ∧ ∃ i σ' H', Inv (ccx X N scope cl (acc + 1) s3 (upd H2 acc (.lst [])) fp) [] σ' H' s9 ∧ tn i s9.heap ∧ (∀ b ∈ fp, H' b = none) ∧ W i m σ' H' := fun {s9 σ9 H9} I9 n9 => by
        obtain ⟨m', hm, w9⟩ := hN σ9 H9 n9
        refine ⟨m', hm, i + 1, σ9, H9, I9.unpinned, T.keep _ _ _ st7 fun b hb o e => (I9.pin (b, o) (List.mem_append_right _ (List.mem_append_right _ (mem_pinsAt hb e)))).1, fun b hb => ?_, w9⟩
        obtain ⟨o, e, d⟩ := T.obj _ _ st7 b hb
        exact (I9.pin (b, o) (List.mem_append_right _ (List.mem_append_right _ (mem_pinsAt hb e)))).2.1
      refine thn (ht _ _ _ _ _ s8 σ8 H8 _ I8 q8) fun ok s9 ⟨H9, I9, q9⟩ => ?_
      cases ok with
      | false => exact again I9 q9
      | true =>
        refine thn (he _ _ _ _ _ s9 σ8 H9 _ I9 q9) fun y s10 ⟨v, H10, I10, r10, xs, hx, hl, n10⟩ => ?_
        refine thn (mt_append _ s10 σ8 H10 (.ref acc) [v] (.ref acc) [y] (fun _ H' => Nx σ8 H') I10 rfl (.cons r10 .nil) ⟨acc, xs, v, rfl, rfl, hx, hl, n10⟩) fun _ s11 ⟨_, H11, I11, _, n11⟩ => again I11 n11
  rw [e4]
  have e5 : ({ newEnv scope (s2.heap.push { cls := .type "list", data := .seq ([] : List Value).toArray }).objs.size X.env.globals cl X.env.qual none .none (some X.env) builtinsNs with scope := relabel scope X.env } : Env) = compEnvC scope cl (acc + 1) X.env := by
    rw [hCe]; rfl
  have e6 : (newEnv scope (s2.heap.push { cls := .type "list", data := .seq ([] : List Value).toArray }).objs.size X.env.globals cl X.env.qual none .none (some X.env) builtinsNs).locals = acc + 1 := by
    rw [hCe]; rfl
  rw [e5, e6]
  exact codeAny_compStart_list loop (T.self _ 0 _ _ _ st4 loop)
end
def tLC (wi : TI) (g : TG) (ti : TT) (te : TE) (pick : List (Option Nat)) : TE := fun σ H Q => wi σ H fun J H1 => ∀ p, H1 p = none → LcInv J g ti te (picked pick σ) H1 Q p
section
variable {X : Cx} {N : List Str} {scope : Scope} {cl : List (Str × Addr)} {pick : List (Option Nat)} {elt tg iter : Expr} {ifs : List Expr} {pos pos' spos : Pos} {wi : TI} {g : TG} {ti : TT} {te : TE}
theorem pe_lc (hc : X.calm = true) (S : CompOk X N scope cl pick) (hi : PI X tg iter wi)
    (hg : ∀ C s H fp, PG (ccx X N scope cl C s H fp) tg g) (ht : ∀ C s H fp, PIfs (ccx X N scope cl C s H fp) ifs ti) (he : ∀ C s H fp, PE (ccx X N scope cl C s H fp) elt te)
    (hs : ∀ x, foldedSetIterable iter X.env x = pure x := by intro _; rfl) : PE X (.ListComp elt [⟨tg, iter, ifs, 0⟩] scope pos) (tLC wi g ti te pick) := by
  intro pins s σ H Q I h
  have hloc : ∀ y ∈ scope.names, y.2 = .local → scope.names.lookup y.1 = some .local := fun y hy e => by
    have := List.all_eq_true.mp S.loc y hy
    rw [e] at this
    simpa using this
  rw [eval_ListComp]
  refine wpAny_comprehension_free (use := none) rfl hs S.clos S.kind hloc (thn (hi pins s σ H _ I h) fun xv s₁ h₁ => thn h₁ fun itv s₂ h₂ => ?_)
  obtain ⟨it, fp, tn, J, H2, e, I2, T, st2, f2, hq⟩ := h₂
  subst e
  refine lc_block (RR := fun acc C => compPost (model X.prog X.w) X.A X.xe none (EP X pins σ Q) acc C) hc S hg ht he I2 T st2 f2 hq ?_
  intro C p H' s1 m I1 L hn q
  refine ⟨m, hn, fun h' hs' => ⟨.ref p, H', I1.turned (t' := s1.toks) (fun b o hb e => (hs'.2 b hb).trans e) L.1 L.2.1 (.inr L.2.2.1) L.2.2.2.1 L.2.2.2.2, rfl, q⟩⟩
theorem ps_setLC {i : Nat} {y : Str} (hsw : swapsWith (.ListComp elt [⟨tg, iter, ifs, 0⟩] scope pos) (some (.Name y pos')) spos.line X.env = pure true) (hN : X.N.Nodup) (hi' : X.N[i]? = some y) (hx : Loc X.env.scope y)
    (hc : X.calm = true) (S : CompOk X N scope cl pick) (hi : PI X tg iter wi)
    (hg : ∀ C s H fp, PG (ccx X N scope cl C s H fp) tg g) (ht : ∀ C s H fp, PIfs (ccx X N scope cl C s H fp) ifs ti) (he : ∀ C s H fp, PE (ccx X N scope cl C s H fp) elt te)
    (hs : ∀ x, foldedSetIterable iter X.env x = pure x := by intro _; rfl) (hf : X.fn y = true ∨ X.env.scope.names.lookup y = some .local := by first | exact .inl rfl | exact .inr rfl | assumption) :
    PS X (.Assign [.Name y pos'] (.ListComp elt [⟨tg, iter, ifs, 0⟩] scope pos) spos) (tAsg (tLC wi g ti te pick) (gName i)) := by
  intro pins s σ H D I h
  have hloc : ∀ y ∈ scope.names, y.2 = .local → scope.names.lookup y.1 = some .local := fun y hy e => by
    have := List.all_eq_true.mp S.loc y hy
    rw [e] at this
    simpa using this
  rw [exec_Assign_Name_used _ _ _ _ hsw]
  refine wpAny_bind (wpAny_standAt (wpAny_bind ?_))
  show wpAny _ X.A (do let _ ← comprehension (.ListComp elt [⟨tg, iter, ifs, 0⟩] scope pos) scope X.env _ (newList []) false (eval iter X.env) (some (assign (.Name y pos') X.env))) _ _ s
  refine wpAny_bind (wpAny_mono (wpAny_comprehension_free (use := some (assign (.Name y pos') X.env)) (Q := fun _ s' => SP X pins D .next s') rfl hs S.clos S.kind hloc
    (thn (hi pins s σ H _ I h) fun xv s₁ h₁ => thn h₁ fun itv s₂ h₂ => ?_)) (fun _ s' hq => wpAny_pure (wpAny_pure hq)) fun _ _ e => e)
  obtain ⟨it, fp, tn, J, H2, e, I2, T, st2, f2, hq⟩ := h₂
  subst e
  refine lc_block (RR := fun acc C => compPost (model X.prog X.w) X.A X.xe (some (assign (.Name y pos') X.env)) (fun _ s' => SP X pins D .next s') acc C) hc S hg ht he I2 T st2 f2 hq ?_
  intro C p H' s1 m I1 L hn q
  show wpAny _ X.A (assign (.Name y pos') X.env (.ref p)) _ _ _
  refine wpAny_assign_Name (store_ok2 I1 hN hi' hx (v := .ref p) rfl (fun s2 I2 hch => ?_) hf)
  obtain ⟨a, sb, ha⟩ := hch
  have hCa : C ≠ a := by
    rcases ha with rfl | e
    · exact L.2.1
    · exact (L.2.2.2.1 y a e).symm
  refine ⟨m, hn.sameBut sb hCa, fun h' hs' => ⟨_, H', I2.turned (t' := s2.toks) (fun b o hb e => (hs'.2 b hb).trans e) L.1 L.2.1 (.inr L.2.2.1) L.2.2.2.1 L.2.2.2.2, q⟩⟩
end
def LcEnd (p : Addr) (Pv : Nat → List V → St → Hp → Prop) (i : Nat) (σ : St) (H : Hp) : Prop := ∃ ys, H p = some (.lst ys) ∧ Pv i ys σ H
theorem lc_list {K : PySem.W.Frag} {a p : Addr} {xs : List V} {g : TG} {ti : TT} {te : TE} {σ0 : St} {H1 : Hp} {Q : VK} (Pv : Nat → List V → St → Hp → Prop) (h0 : Pv 0 [] σ0 (upd H1 p (.lst [])))
    (hl : ∀ i ys σ H, i ≤ xs.length → H p = some (.lst ys) → Pv i ys σ H → SqL K H a xs)
    (hs : ∀ i x ys σ H, xs[i]? = some x → H p = some (.lst ys) → Pv i ys σ H → g x σ H fun σ2 H2 => ti σ2 H2 fun b H3 => if b = true then te σ2 H3 fun v H4 => ∃ zs, H4 p = some (.lst zs) ∧ zs.length < sizeLine ∧ LcEnd p Pv (i + 1) σ2 (upd H4 p (.lst (zs ++ [v])))
      else LcEnd p Pv (i + 1) σ2 H3)
    (hd : ∀ ys σ H, H p = some (.lst ys) → Pv xs.length ys σ H → Q (.ref p) H) :
    LcInv (Itl K a) g ti te σ0 H1 Q p := by
  refine ⟨fun i m σ H => m = xs.length - i ∧ i ≤ xs.length ∧ LcEnd p Pv i σ H, ⟨xs.length, by simp, Nat.zero_le _, [], upd_same, h0⟩, ?_⟩
  rintro i m σ H ⟨rfl, hi, ys, hp, pv⟩
  have q := hl i ys σ H hi hp pv
  by_cases hlt : i < xs.length
  · refine .inr ⟨⟨xs, xs[i], q, by simp [hlt]⟩, LcEnd p Pv (i + 1), fun σ' H' z => ⟨xs.length - (i + 1), by omega, rfl, hlt, z⟩, fun x H' y => ?_⟩
    obtain ⟨e, y⟩ := y
    subst e
    exact hs i x ys σ H' (y xs q) hp pv
  · have e : i = xs.length := by omega
    subst e
    exact .inl ⟨⟨xs, q, Nat.le_refl _⟩, hd ys σ H hp pv⟩
theorem lc_range {lo : Int} {n : Nat} {p : Addr} {g : TG} {ti : TT} {te : TE} {σ0 : St} {H1 : Hp} {Q : VK} (Pv : Nat → List V → St → Hp → Prop) (h0 : Pv 0 [] σ0 (upd H1 p (.lst [])))
    (hs : ∀ i ys σ H, i < n → H p = some (.lst ys) → Pv i ys σ H → g (.int (lo + i)) σ H fun σ2 H2 => ti σ2 H2 fun b H3 => if b = true then te σ2 H3 fun v H4 => ∃ zs, H4 p = some (.lst zs) ∧ zs.length < sizeLine ∧ LcEnd p Pv (i + 1) σ2 (upd H4 p (.lst (zs ++ [v])))
      else LcEnd p Pv (i + 1) σ2 H3)
    (hd : ∀ ys σ H, H p = some (.lst ys) → Pv n ys σ H → Q (.ref p) H) :
    LcInv (Itr lo n) g ti te σ0 H1 Q p := by
  refine ⟨fun i m σ H => m = n - i ∧ i ≤ n ∧ LcEnd p Pv i σ H, ⟨n, by simp, Nat.zero_le _, [], upd_same, h0⟩, ?_⟩
  rintro i m σ H ⟨rfl, hi, ys, hp, pv⟩
  by_cases hlt : i < n
  · refine .inr ⟨hlt, LcEnd p Pv (i + 1), fun σ' H' z => ⟨n - (i + 1), by omega, rfl, hlt, z⟩, fun x H' y => ?_⟩
    obtain ⟨e, y⟩ := y
    subst e
    subst y
    exact hs i ys σ H' hlt hp pv
  · have e : i = n := by omega
    subst e
    exact .inl ⟨Nat.le_refl _, hd ys σ H hp pv⟩
def tCut (t u : TS) : TS := fun D σ H => ∃ P : St → Hp → Prop, t { D with nx := P } σ H ∧ ∀ σ' H', P σ' H' → u D σ' H'
theorem pss_cut {X : Cx} {st : Stmt} {rest : List Stmt} {t u : TS} (h1 : PS X st t) (h2 : PSs X rest u) : PSs X (st :: rest) (tCut t u) := by
  intro pins s σ H D I ⟨P, h, hu⟩
  refine wpAny_execs_cons (thn (h1 pins s σ H _ I h) fun f s1 q => ?_)
  cases f with
  | next =>
    obtain ⟨σ1, H1, I1, q1⟩ := q
    exact h2 pins s1 σ1 H1 D I1 (hu σ1 H1 q1)
  | brk => exact q
  | cont => exact q
  | ret v => exact q
theorem st_cut {t u : TS} {D : Ends} {σ : St} {H : Hp} (P : St → Hp → Prop) (h : t { D with nx := P } σ H) (hu : ∀ σ' H', P σ' H' → u D σ' H') : tCut t u D σ H := ⟨P, h, hu⟩
end L2
set_option Elab.async false
set_option linter.all false
set_option maxRecDepth 100000
set_option maxHeartbeats 4000000
namespace L2
open PySem PySem.Spec PyProof.Rows
section
variable {σ : St} {H : Hp} {Q : VK} {D : Ends} {ta tb tc te : TE} {t u : TS} {c d : TT} {K : PySem.W.Frag} {QB : Bool → Hp → Prop} {x y v : V} {i j : Int} {a p : Addr} {xs ys : List V} {r : R2} {QL : List V → Hp → Prop}
theorem st_var {n : Nat} (h : σ[n]? = some (some v)) (q : Q v H) : tVar n σ H Q := ⟨v, h, q⟩
theorem st_c (q : Q v H) : tC v σ H Q := q
theorem st_op (q : ta σ H fun x H1 => tb σ H1 fun y H2 => r x y H2 Q) : tOp r ta tb σ H Q := q
theorem st_un {r : V → Hp → VK → Prop} (q : ta σ H fun x H1 => r x H1 Q) : tUn r ta σ H Q := q
theorem st_rI {C : Int → Int → Prop} {g : Int → Int → V} (hc : C i j) (q : Q (g i j) H) : rI C g (.int i) (.int j) H Q := ⟨i, j, rfl, rfl, hc, q⟩
theorem st_rI0 {g : Int → Int → V} (q : Q (g i j) H) : rI0 g (.int i) (.int j) H Q := ⟨i, j, rfl, rfl, q⟩
theorem st_rU {g : Int → V} (q : Q (g i) H) : rU g (.int i) H Q := ⟨i, rfl, q⟩
theorem st_rEq (h : scal x y = true) (q : Q (.bl (decide (x = y))) H) : rEq x y H Q := ⟨h, q⟩
theorem st_rNe (h : scal x y = true) (q : Q (.bl (!decide (x = y))) H) : rNe x y H Q := ⟨h, q⟩
theorem st_isN (q : ta σ H fun x H1 => Q (.bl (decide (x = .non))) H1) : tIsN ta σ H Q := q
theorem st_notN (q : ta σ H fun x H1 => Q (.bl (!decide (x = .non))) H1) : tNotN ta σ H Q := q
theorem st_B (q : ta σ H fun x H1 => ∃ c, x = .bl c ∧ QB c H1) : tB ta σ H QB := q
theorem st_test (q : ta σ H fun x H1 => ∃ c, x = .bl c ∧ QB c H1) : tTest ta σ H QB := q
theorem st_bl {P : Bool → Prop} {b : Bool} (q : P b) : ∃ c, V.bl b = .bl c ∧ P c := ⟨b, rfl, q⟩
theorem st_and (q : c σ H fun b H1 => if b = true then d σ H1 QB else QB false H1) : tAnd c d σ H QB := q
theorem st_or (q : c σ H fun b H1 => if b = true then QB true H1 else d σ H1 QB) : tOr c d σ H QB := q
theorem st_not (q : c σ H fun b H1 => QB (!b) H1) : tNot c σ H QB := q
theorem st_andV (q : ta σ H fun x H1 => ∃ c, x = .bl c ∧ if c = true then tb σ H1 Q else Q (.bl false) H1) : tAndV ta tb σ H Q := q
theorem st_orV (q : ta σ H fun x H1 => ∃ c, x = .bl c ∧ if c = true then Q (.bl true) H1 else tb σ H1 Q) : tOrV ta tb σ H Q := q
theorem st_notV (q : ta σ H fun x H1 => ∃ c, x = .bl c ∧ Q (.bl (!c)) H1) : tNotV ta σ H Q := q
theorem st_ifE (q : c σ H fun b H1 => if b = true then ta σ H1 Q else tb σ H1 Q) : tIf c ta tb σ H Q := q
theorem st_chain {r' : R2} (q : ta σ H fun x H1 => tb σ H1 fun y H2 => r x y H2 fun z H3 => ∃ k, z = .bl k ∧ (if k = true then tc σ H3 fun w' H4 => r' y w' H4 Q else Q (.bl false) H3)) : tChain r r' ta tb tc σ H Q := q
theorem st_nil (q : QL [] H) : tNil σ H QL := q
theorem st_cons {tr : TA} (q : ta σ H fun x H1 => tr σ H1 fun xs H2 => QL (x :: xs) H2) : tCons ta tr σ H QL := q
theorem st_tup {t : TA} (q : t σ H fun xs H1 => xs.length ≤ sizeLine ∧ ∀ p, H1 p = none → Q (.ref p) (upd H1 p (.tup xs))) : tTup t σ H Q := q
theorem st_lst {t : TA} (q : t σ H fun xs H1 => xs.length ≤ sizeLine ∧ ∀ p, H1 p = none → Q (.ref p) (upd H1 p (.lst xs))) : tLst t σ H Q := q
theorem st_dnew (q : ∀ p, H p = none → Q (.ref p) (upd H p (.dK []))) : tDNewK σ H Q := q
theorem st_call {sp : Sp} {dvs : List V} {E : XK} {t : TA} (q : t σ H fun vs H1 => sp (vs ++ dvs) H1 Q E) : tCall sp dvs E t σ H Q := q
theorem st_cb {r : List V → Hp → VK → Prop} {t : TA} (q : t σ H fun vs H1 => r vs H1 Q) : tCB r t σ H Q := q
theorem st_lenL (h : SqL K H a ys) (q : Q (.int ys.length) H) : rLenQ K [.ref a] H Q := ⟨a, ys, rfl, .inl h, q⟩
theorem st_lenT (h : SqT K H a ys) (q : Q (.int ys.length) H) : rLenQ K [.ref a] H Q := ⟨a, ys, rfl, .inr h, q⟩
theorem st_lenD {kvs : List (Key × V)} (h : H a = some (.dK kvs)) (q : Q (.int kvs.length) H) : rLenD [.ref a] H Q := ⟨a, kvs, rfl, h, q⟩
theorem st_listL (h : SqL K H a ys) (q : ∀ l, H l = none → Q (.ref l) (upd H l (.lst ys))) : rListQ K [.ref a] H Q := ⟨a, ys, rfl, .inl h, q⟩
theorem st_ixL (h : SqL K H a xs) (e : atI xs i = some v) (q : Q v H) : rIxL K (.ref a) (.int i) H Q := ⟨a, xs, i, v, rfl, rfl, h, e, q⟩
theorem st_ixT (h : SqT K H a xs) (e : atI xs i = some v) (q : Q v H) : rIxT K (.ref a) (.int i) H Q := ⟨a, xs, i, v, rfl, rfl, h, e, q⟩
theorem st_sl {r : V → Option Int → Option Int → Hp → VK → Prop} {tl th : TO} (q : te σ H fun x H1 => tl σ H1 fun l H2 => th σ H2 fun u H3 => r x l u H3 Q) : tSl r te tl th σ H Q := q
theorem st_noPart {QO : Option Int → Hp → Prop} (q : QO none H) : tNoPart σ H QO := q
theorem st_part {QO : Option Int → Hp → Prop} (q : te σ H fun x H1 => ∃ i, x = .int i ∧ QO (some i) H1) : tPart te σ H QO := q
theorem st_int {P : Int → Prop} (q : P i) : ∃ k, V.int i = .int k ∧ P k := ⟨i, rfl, q⟩
theorem st_slL {lo hi : Option Int} (h : SqL K H a xs) (q : ∀ p, H p = none → Q (.ref p) (upd H p (.lst (cutV xs lo hi)))) : rSlL K (.ref a) lo hi H Q := ⟨a, xs, rfl, h, q⟩
theorem st_inL {n : Bool} (h : SqL K H a xs) (f : flatV x = true) (g : xs.all flatV = true) (q : Q (.bl (if n then !inV x xs else inV x xs)) H) : rIn K n x (.ref a) H Q := ⟨a, xs, rfl, .inl h, f, g, q⟩
theorem st_inT {n : Bool} (h : SqT K H a xs) (f : flatV x = true) (g : xs.all flatV = true) (q : Q (.bl (if n then !inV x xs else inV x xs)) H) : rIn K n x (.ref a) H Q := ⟨a, xs, rfl, .inr h, f, g, q⟩
theorem st_bm {T : String} {r : V → List V → Hp → VK → Prop} {t : TA} (q : te σ H fun x H1 => tyV K T x H1 ∧ t σ H1 fun xs H2 => r x xs H2 Q) : tBM K T r te t σ H Q := q
theorem st_append (h : H a = some (.lst xs)) (l : xs.length < sizeLine) (q : Q .non (upd H a (.lst (xs ++ [v])))) : rAppend (.ref a) [v] H Q := ⟨a, xs, v, rfl, rfl, h, l, q⟩
theorem st_extend {b : Addr} (h : H a = some (.lst xs)) (h' : H b = some (.lst ys)) (l : xs.length + ys.length ≤ sizeLine) (q : Q .non (upd H a (.lst (xs ++ ys)))) : rExtend (.ref a) [.ref b] H Q := ⟨a, b, xs, ys, rfl, rfl, h, h', l, q⟩
theorem st_cat {b : Addr} (h : H a = some (.lst xs)) (h' : H b = some (.lst ys)) (l : xs.length + ys.length ≤ sizeLine) (q : ∀ p, H p = none → Q (.ref p) (upd H p (.lst (xs ++ ys)))) : rCat (.ref a) (.ref b) H Q := ⟨a, b, xs, ys, rfl, rfl, h, h', l, q⟩
theorem st_fld {f : Str} (q : ta σ H fun x H1 => ∃ a C dx fs v, x = .ref a ∧ H1 a = some (.ins C dx fs) ∧ Cls K C ∧ NoAttr K C f ∧ fs.lookup f = some v ∧ Q v H1) : tFld K ta f σ H Q := q
theorem st_ins {f : Str} {C dx : Addr} {fs : List (Str × V)} {P : V → Prop} (h : H a = some (.ins C dx fs)) (hc : Cls K C) (hn : NoAttr K C f) (hl : fs.lookup f = some v) (q : P v) :
    ∃ a' C dx fs v, V.ref a = .ref a' ∧ H a' = some (.ins C dx fs) ∧ Cls K C ∧ NoAttr K C f ∧ fs.lookup f = some v ∧ P v := ⟨a, C, dx, fs, v, rfl, h, hc, hn, hl, q⟩
theorem st_seq (q : t { D with nx := u D } σ H) : tSeq t u D σ H := q
theorem st_next (q : D.nx σ H) : tNext D σ H := q
theorem st_ret (q : te σ H D.rt) : tRet te D σ H := q
theorem st_drop (q : te σ H fun _ H1 => D.nx σ H1) : tDrop te D σ H := q
theorem st_if (q : c σ H fun b H1 => if b = true then t D σ H1 else u D σ H1) : tIfS c t u D σ H := q
theorem st_asg {g : TG} (q : te σ H fun x H1 => g x σ H1 D.nx) : tAsg te g D σ H := q
theorem st_gname {n : Nat} {QS : St → Hp → Prop} (q : QS (σ.set n (some v)) H) : gName n v σ H QS := q
theorem st_dput {td ty tv : TE} (q : tv σ H fun v H1 => td σ H1 fun x H2 => ty σ H2 fun y H3 => ∃ a H4, x = .ref a ∧ DPut H3 a y v H4 ∧ D.nx σ H4) : sDPut td ty tv D σ H := q
theorem st_dputK {kvs : List (Key × V)} {k : Int} {P : Hp → Prop} (h : H a = some (.dK kvs)) (l : kvs.length < sizeLine) (q : P (upd H a (.dK (putK kvs (Sum.inl k) v)))) :
    ∃ a' H4, V.ref a = .ref a' ∧ DPut H a' (.int k) v H4 ∧ P H4 := ⟨a, _, rfl, DPut.k (k := Sum.inl k) h l, q⟩
theorem st_dget2 {td ty tx : TE} (q : td σ H fun x H1 => ∃ a, x = .ref a ∧ IsD H1 a ∧ ty σ H1 fun y H2 => tx σ H2 fun z H3 => ∃ o, DGet H3 a y o ∧ Q (o.getD z) H3) : tDGet2 td ty tx σ H Q := q
theorem st_isD {kvs : List (Key × V)} {P : Addr → Prop} (h : H a = some (.dK kvs)) (q : P a) : ∃ a', V.ref a = .ref a' ∧ IsD H a' ∧ P a' := ⟨a, rfl, .inl ⟨kvs, .inl h⟩, q⟩
theorem st_dgetK {kvs : List (Key × V)} {k : Int} {P : Option V → Prop} (h : H a = some (.dK kvs)) (q : P (valV kvs (Sum.inl k))) : ∃ o, DGet H a (.int k) o ∧ P o := ⟨_, DGet.k (k := Sum.inl k) h, q⟩
theorem st_dsetd {td ty tx : TE} (q : td σ H fun x H1 => ∃ a, x = .ref a ∧ IsD H1 a ∧ ty σ H1 fun y H2 => tx σ H2 fun z H3 => ∃ kvs k, H3 a = some (.dK kvs) ∧ y = kV k ∧ kvs.length < sizeLine ∧
  (∀ v, valV kvs k = some v → Q v H3) ∧ (valV kvs k = none → Q z (upd H3 a (.dK (putK kvs k z))))) : tDSetD td ty tx σ H Q := q
theorem st_sz {n : Nat} {P : Prop} (h : Nat.ble n 1000 = true) (q : P) : n ≤ sizeLine ∧ P := ⟨Nat.le_of_lt (small1000 (Nat.le_of_ble_eq_true h)), q⟩
theorem st_all {P : Addr → Prop} (q : ∀ p, H p = none → P p) : ∀ p, H p = none → P p := q
theorem st_for {wi : TI} {g : TG} {tb : TS} (q : wi σ H fun J H1 => ∃ W : Nat → Nat → St → Hp → Prop, (∃ m, W 0 m σ H1) ∧ ∀ i m σ H, W i m σ H →
  (J.stop i H ∧ D.nx σ H) ∨ (J.go i H ∧ ∃ N : St → Hp → Prop, (∀ σ' H', N σ' H' → ∃ m', m' < m ∧ W (i + 1) m' σ' H') ∧ ∀ x H', J.yld i H x H' → g x σ H' fun σ2 H2 => tb { D with nx := N, ct := N, bk := D.nx } σ2 H2)) : tFor wi g tb D σ H := q
theorem st_iList {R : It → Hp → Prop} (q : te σ H fun x H1 => ∃ a, x = .ref a ∧ (∃ xs, SqL K H1 a xs) ∧ R (Itl K a) H1) : iList K te σ H R := q
theorem st_itl {P : Addr → Prop} (h : SqL K H a xs) (q : P a) : ∃ a', V.ref a = .ref a' ∧ (∃ xs, SqL K H a' xs) ∧ P a' := ⟨a, rfl, ⟨xs, h⟩, q⟩
theorem st_iRng {R : It → Hp → Prop} {t : TA} (q : t σ H fun vs H1 => ∃ j : Int, vs = [.int j] ∧ -(2 ^ 62) ≤ j ∧ j < 2 ^ 62 ∧ R (Itr 0 j.toNat) H1) : iRng1 t σ H R := q
theorem st_itr {P : Int → Prop} {n : Nat} (h : n ≤ 1000000) (q : P (n : Int)) : ∃ j : Int, [V.int (n : Int)] = [.int j] ∧ -(2 ^ 62) ≤ j ∧ j < 2 ^ 62 ∧ P j := ⟨n, rfl, by omega, by omega, q⟩
theorem st_lc {wi : TI} {g : TG} {ti : TT} {pick : List (Option Nat)} (q : wi σ H fun J H1 => ∀ p, H1 p = none → LcInv J g ti te (picked pick σ) H1 Q p) : tLC wi g ti te pick σ H Q := q
theorem st_noIf (q : QB true H) : tNoIf σ H QB := q
theorem st_meth {C : Addr} {m : Str} {sp : Sp} {dvs : List V} {E : XK} {t : TA} (q : ta σ H fun x H1 => ∃ a dx fs, x = .ref a ∧ H1 a = some (.ins C dx fs) ∧ fs.lookup m = none ∧ t σ H1 fun vs H2 => sp (x :: (vs ++ dvs)) H2 Q E) : tMeth C m sp dvs E ta t σ H Q := q
theorem st_insM {C dx : Addr} {fs : List (Str × V)} {m : Str} {P : Prop} (h : H a = some (.ins C dx fs)) (hl : fs.lookup m = none) (q : P) : ∃ a' dx fs, V.ref a = .ref a' ∧ H a' = some (.ins C dx fs) ∧ fs.lookup m = none ∧ P := ⟨a, dx, fs, rfl, h, hl, q⟩
theorem st_sfld {tv : TE} {f : Str} (q : tv σ H fun y H1 => ta σ H1 fun x H2 => ∃ a C dx fs, x = .ref a ∧ H2 a = some (.ins C dx fs) ∧ Cls K C ∧ NoAttr K C f ∧ fs.length < 1000 ∧ D.nx σ (upd H2 a (.ins C dx (putF f y fs)))) : sFld K ta tv f D σ H := q
theorem st_make {C : Addr} {sp : Sp} {dvs : List V} {E : XK} {t : TA} (q : t σ H fun vs H1 => ∀ x dx, H1 x = none → H1 dx = none → dx ≠ x → sp (.ref x :: (vs ++ dvs)) (upd (upd H1 dx (.own x)) x (.ins C dx [])) (fun v H2 => v = .non ∧ Q (.ref x) H2) E) : tMake C sp dvs E t σ H Q := q
theorem upd_at {H : Hp} {a b : Addr} {o u : HO} (h : b ≠ a) (e : H b = some u) : upd H a o b = some u := by rw [upd_ne h]; exact e
theorem Same.at {H H' : Hp} {b : Addr} {u : HO} (s : Same H H') (e : H b = some u) : H' b = some u := s b u e
theorem sqL {H : Hp} (h : H a = some (.lst xs)) : SqL K H a xs := .inl (.inl h)
theorem sqLr {H : Hp} (h : Rd H a (.lst xs)) : SqL K H a xs := .inl h
theorem sqT {H : Hp} (h : H a = some (.tup xs)) : SqT K H a xs := .inl (.inl h)
theorem sqTr {H : Hp} (h : Rd H a (.tup xs)) : SqT K H a xs := .inl h
theorem Rd.upd {H : Hp} {a b : Addr} {o u : HO} (h : b ≠ a) (r : Rd H b u) : Rd (L2.upd H a o) b u := r.elim (fun e => .inl (upd_at h e)) fun ⟨q, e⟩ => .inr ⟨q, upd_at h e⟩
theorem Rd.same {H H' : Hp} {b : Addr} {u : HO} (s : Same H H') (r : Rd H b u) : Rd H' b u := r.elim (fun e => .inl (s _ _ e)) fun ⟨q, e⟩ => .inr ⟨q, s _ _ e⟩
theorem Rd.ne_none {H : Hp} {a b : Addr} {u : HO} (r : Rd H a u) (h : H b = none) : a ≠ b := by obtain ⟨o, e⟩ := r.some; exact ne_of_none e h
theorem ne_new {H : Hp} {a b : Addr} {o : HO} (h' : H b = none) (h : H a = some o) : a ≠ b := ne_of_none h h'
theorem ne_newR {H : Hp} {a b : Addr} {u : HO} (h' : H b = none) (r : Rd H a u) : a ≠ b := r.ne_none h'
theorem Same.put {H0 H : Hp} {o : HO} (s : Same H0 H) (hp : H0 p = none) : Same H0 (L2.upd H p o) := fun b u e => upd_at (ne_of_none e hp) (s b u e)
theorem same_of {H H' : Hp} {o : HO} (hp : H p = none) (e : L2.upd H p o = H') : Same H H' := e ▸ Same.new hp
theorem at_of {H H' : Hp} {o : HO} (e : L2.upd H p o = H') : H' p = some o := e ▸ upd_same
theorem mulR {i j : Int} (h : -(2 ^ 64) < j ∧ j < 2 ^ 64) : CMul i j := .inr h
theorem divR {i j : Int} (h : 0 < j ∧ j < 1073741824) : CDiv i j := h
theorem flat_strs (xs : List Str) : (xs.map V.str).all flatV = true := by rw [List.all_map]; exact List.all_eq_true.mpr fun _ _ => rfl
theorem flat_ints (xs : List Int) : (xs.map V.int).all flatV = true := by rw [List.all_map]; exact List.all_eq_true.mpr fun _ _ => rfl
end
end L2
set_option Elab.async false
set_option linter.all false
set_option maxRecDepth 100000
set_option maxHeartbeats 4000000
namespace Oh
open PySem L2
abbrev Line := Str × Int
def wordsOf (b : List Line) (n : Int) : List Str := (b.filter fun l => decide (l.2 = n)).map (·.1)
def voteIn (b : List Line) (n : Int) : Option Str := (wordsOf b n).find? fun w => decide (w = "open" ∨ w = "yes" ∨ w = "no")
def decisionIn (b : List Line) (n : Int) : Option Str := if ("bound" : Str) ∈ wordsOf b n then some ("bound" : Str) else if ("off" : Str) ∈ wordsOf b n ∨ ("no" : Str) ∈ wordsOf b n then some ("off" : Str) else none
def unsure (b : List Line) (n : Int) : Bool := decide (voteIn b n = some ("yes" : Str)) && decide (decisionIn b n = none)
def leftOpen (b : List Line) : List Int := (b.filter fun l => decide (l.1 = ("open" : Str)) && decide (decisionIn b l.2 = none)).map (·.2)
def lineD (l : Line) : PyData := .tuple [.str l.1, .int l.2]
def bookD (b : List Line) : PyData := .list (b.map lineD)
def optV : Option Str → V
 | none => .non
 | some x => .str x
def OkB (b : List Line) : Prop := ∀ l ∈ b, PyData.strOk l.1 = true
theorem wordsOf_snoc (b : List Line) (l : Line) (n : Int) : wordsOf (b ++ [l]) n = if l.2 = n then wordsOf b n ++ [l.1] else wordsOf b n := by
 unfold wordsOf
 rw [List.filter_append, List.map_append, List.filter_cons, List.filter_nil]
 by_cases e : l.2 = n
 ·simp [e]
 ·simp [e]
theorem take_snoc {α : Type} {b : List α} {i : Nat} {l : α} (h : b[i]? = some l) : b.take (i + 1) = b.take i ++ [l] := by rw [List.take_add_one, h]; rfl
theorem wordsOf_len (b : List Line) (n : Int) : (wordsOf b n).length ≤ b.length := by
 unfold wordsOf; rw [List.length_map]; exact List.length_filter_le _ _
theorem line_at {H : Hp} {S : List Addr} {b : List Line} {xs : List V} {i : Nat} {x : V} (rs : Reps H S xs (b.map lineD)) (hx : xs[i]? = some x) :
  ∃ l t, b[i]? = some l ∧ x = .ref t ∧ Rd H t (.tup [.str l.1, .int l.2]) := by
 obtain ⟨d, hd, rx⟩ := rs.get hx
 rw [List.getElem?_map] at hd
 cases hb : b[i]? with
 | none => rw [hb] at hd; cases hd
 | some l =>
  rw [hb] at hd
  have e : lineD l = d := Option.some.inj hd
  subst e
  obtain ⟨t, ys, rfl, rt, rs'⟩ := rx.tup_inv
  obtain ⟨y1, r1, rfl, h1, t1⟩ := rs'.cons_inv
  obtain ⟨y2, r2, rfl, h2, t2⟩ := t1.cons_inv
  cases t2.nil_inv
  rw [h1.str_inv, h2.int_inv] at rt
  exact ⟨l, t, rfl, rfl, rt⟩
theorem len_small {n : Nat} (h : n ≤ 1000000) : n < sizeLine := Nat.lt_of_le_of_lt h (by decide)
theorem in_strs (x : Str) (ws : List Str) : inV (.str x) (ws.map .str) = decide (x ∈ ws) := by
 unfold inV
 rw [List.any_map]
 induction ws with
 | nil => rfl
 | cons w r ih =>
  rw [List.any_cons, ih]
  show ((w == x) || decide (x ∈ r)) = decide (x ∈ w :: r)
  by_cases e : x = w
  ·subst e; simp
  ·have e' : ¬ w = x := fun z => e z.symm
   simp [e, e']
def zR1b (K : PySem.W.Frag)  : TS :=
  (tRet (tLC (iList K (tVar 0)) (gName 0) (tTest (tOp rEq (tOp (rIxT K) (tVar 0) (tC (.int 1))) (tVar 1))) (tOp (rIxT K) (tVar 0) (tC (.int 0))) [none, some 1]))
def zR1i (K : PySem.W.Frag) (zsp1b : Sp) : TS :=
  (tRet (tOp rGtI (tCB (rLenQ K) (tCons (tCall zsp1b [] E0 (tCons (tVar 0) (tCons (tVar 1) tNil))) tNil)) (tC (.int 0))))
def zR1e (K : PySem.W.Frag) (zsp1b : Sp) : TS :=
  (tSeq (tFor (iList K (tCall zsp1b [] E0 (tCons (tVar 0) (tCons (tVar 1) tNil)))) (gName 2)
  (tIfS (tTest (tOp (rIn K false) (tVar 2) (tTup (tCons (tC (.str "open")) (tCons (tC (.str "yes")) (tCons (tC (.str "no")) tNil))))))
  (tRet (tVar 2))
  tNext))
  (tRet (tC .non)))
def zR0l (K : PySem.W.Frag) (zsp1b : Sp) : TS :=
  (tSeq (tAsg (tCall zsp1b [] E0 (tCons (tVar 0) (tCons (tVar 1) tNil))) (gName 2))
  (tSeq (tIfS (tTest (tOp (rIn K false) (tC (.str "bound")) (tVar 2)))
  (tRet (tC (.str "bound")))
  tNext)
  (tSeq (tIfS (tOr (tTest (tOp (rIn K false) (tC (.str "off")) (tVar 2))) (tTest (tOp (rIn K false) (tC (.str "no")) (tVar 2))))
  (tRet (tC (.str "off")))
  tNext)
  (tRet (tC .non)))))
def zR13 (K : PySem.W.Frag) (zsp1e : Sp) (zsp0l : Sp) : TS :=
  (tRet (tAndV (tOp rEq (tCall zsp1e [] E0 (tCons (tVar 0) (tCons (tVar 1) tNil))) (tC (.str "yes"))) (tIsN (tCall zsp0l [] E0 (tCons (tVar 0) (tCons (tVar 1) tNil))))))
def zR17 (K : PySem.W.Frag) (zsp0l : Sp) : TS :=
  (tRet (tLC (iList K (tVar 0)) (gName 0) (tAnd (tTest (tOp rEq (tOp (rIxT K) (tVar 0) (tC (.int 0))) (tC (.str "open")))) (tB (tIsN (tCall zsp0l [] E0 (tCons (tVar 1) (tCons (tOp (rIxT K) (tVar 0) (tC (.int 1))) tNil)))))) (tOp (rIxT K) (tVar 0) (tC (.int 1))) [none, some 0]))
local macro_rules | `(tactic| walk_at "ne") => `(tactic| first | assumption | (refine' Ne.symm ?k1; (case k1 => assumption)) | (refine' ne_new ?k1 ?k2; (case k1 => assumption); (case k2 => walk_at "hl")) | (refine' ne_newR ?k1 ?k2; (case k1 => assumption); (case k2 => walk_at "rd")) | (refine' Ne.symm (ne_new ?k1 ?k2); (case k1 => assumption); (case k2 => walk_at "hl")) | (refine' Ne.symm (ne_newR ?k1 ?k2); (case k1 => assumption); (case k2 => walk_at "rd")))
local macro_rules | `(tactic| walk_at "hl") => `(tactic| with_reducible first | assumption | exact upd_same | (refine' upd_at ?k1 ?k2; (case k1 => walk_at "ne"); (case k2 => walk_at "hl")) | (refine' Same.at ?k1 ?k2; (case k1 => assumption); (case k2 => walk_at "hl")))
local macro_rules | `(tactic| walk_at "rd") => `(tactic| with_reducible first | assumption | (refine' Rd.of ?k1; (case k1 => walk_at "hl")) | (refine' Rd.upd ?k1 ?k2; (case k1 => walk_at "ne"); (case k2 => walk_at "rd")) | (refine' Rd.same ?k1 ?k2; (case k1 => assumption); (case k2 => walk_at "rd")))
local macro_rules | `(tactic| walk_at "sq") => `(tactic| with_reducible first | assumption | (refine' sqLr ?k1; (case k1 => walk_at "rd")) | (refine' sqTr ?k1; (case k1 => walk_at "rd")) | (refine' SqL.new ?k1 ?k2; (case k1 => assumption); (case k2 => walk_at "sq")) | (refine' Same.seq ?k1 ?k2; (case k1 => assumption); (case k2 => walk_at "sq")))
local macro_rules | `(tactic| walk_at "rf") => `(tactic| first | with_unfolding_all rfl | assumption)
local macro_rules | `(tactic| walk_at "fl") => `(tactic| first | with_unfolding_all rfl | exact flat_strs _ | exact flat_ints _)
local macro_rules | `(tactic| walk_at "st") => `(tactic| with_reducible first
 | refine st_seq ?_ | refine st_asg ?_ | refine st_gname ?_ | refine st_if ?_ | refine st_ret ?_ | refine st_retN ?_
 | refine st_drop ?_ | refine st_next ?_ | refine st_test ?_ | refine st_B ?_ | refine st_bl ?_ | refine st_int ?_
 | refine st_and ?_ | refine st_or ?_ | refine st_not ?_ | refine st_andV ?_ | refine st_orV ?_ | refine st_notV ?_ | refine st_ifE ?_
 | refine st_chain ?_ | refine st_op ?_ | refine st_un ?_ | refine st_isN ?_ | refine st_notN ?_
 | refine st_nil ?_ | refine st_cons ?_ | refine st_tup ?_ | refine st_lst ?_ | refine st_dnew ?_ | refine st_call ?_ | refine st_cb ?_
 | (refine' st_var ?k1 ?_; (case k1 => walk_at "rf")) | refine st_c ?_
 | refine st_rI0 ?_ | refine st_rU ?_ | (refine' st_rI ?k1 ?_; (case k1 => first | exact mulR (by decide) | exact divR (by decide) | decide | (show (0 : Int) < _; decide)))
 | (refine' st_rEq ?k1 ?_; (case k1 => walk_at "rf")) | (refine' st_rNe ?k1 ?_; (case k1 => walk_at "rf"))
 | (refine' st_ixL ?k1 ?k2 ?_; (case k1 => walk_at "sq"); (case k2 => walk_at "rf")) | (refine' st_ixT ?k1 ?k2 ?_; (case k1 => walk_at "sq"); (case k2 => walk_at "rf"))
 | (refine' st_lenL ?k1 ?_; (case k1 => walk_at "sq")) | (refine' st_lenT ?k1 ?_; (case k1 => walk_at "sq"))
 | (refine' st_inL ?k1 ?k2 ?k3 ?_; (case k1 => walk_at "sq"); (case k2 => walk_at "rf"); (case k3 => walk_at "fl"))
 | (refine' st_inT ?k1 ?k2 ?k3 ?_; (case k1 => walk_at "sq"); (case k2 => walk_at "rf"); (case k3 => walk_at "fl"))
 | (refine' st_listL ?k1 ?_; (case k1 => walk_at "sq")) | refine st_min ?_ | refine st_intB ?_
 | refine st_sl ?_ | refine st_noPart ?_ | refine st_part ?_ | (refine' st_slL ?k1 ?_; (case k1 => walk_at "sq"))
 | refine st_meth ?_ | (refine' st_insM ?k1 ?k2 ?_; (case k1 => walk_at "hl"); (case k2 => walk_at "rf")) | refine st_sfld ?_
 | (refine' st_ins ?k1 ?k2 ?k3 ?k4 ?_; (case k1 => walk_at "hl"); (case k2 => assumption); (case k3 => assumption); (case k4 => walk_at "rf")) | (refine' st_lenD ?k1 ?_; (case k1 => walk_at "hl"))
 | refine st_bm ?_ | refine st_fld ?_ | refine st_dput ?_ | refine st_dget2 ?_ | refine st_dget ?_ | refine st_dsetd ?_
 | refine st_for ?_ | refine st_iList ?_ | (refine' st_itl ?k1 ?_; (case k1 => walk_at "sq")) | refine st_iRng ?_ | refine st_lc ?_ | refine st_noIf ?_
 | (refine' st_sz ?k1 ?_; (case k1 => with_unfolding_all rfl))
 | (refine' st_isD ?k1 ?_; (case k1 => walk_at "hl")) | (refine' st_dgetK ?k1 ?_; (case k1 => walk_at "hl")))
local macro_rules | `(tactic| walk_at "go") => `(tactic| repeat walk_at "st")
local macro_rules | `(tactic| walk_at "new") => `(tactic| ((with_reducible refine st_all ?_); intro p hp; generalize hH : upd _ p _ = H'; have hs := same_of hp hH; have hg := at_of hH; clear hH))
local macro_rules | `(tactic| walk_at "sm") => `(tactic| with_reducible first | assumption | exact Same.refl _ | (refine' Same.trans ?k1 ?k2; (case k2 => assumption); (case k1 => walk_at "sm")))
local macro_rules | `(tactic| walk_at "goA") => `(tactic| repeat (first | walk_at "st" | walk_at "new"))
def zsp1b : Sp := fun vs H Q _ => ∃ a b n, vs = [.ref a, .int n] ∧ Rep H [] (.ref a) (bookD b) ∧ b.length ≤ 1000000 ∧ ∀ p H', H p = none → Same H H' → H' p = some (.lst ((wordsOf b n).map .str)) → Q (.ref p) H'
theorem zrd1b {K : PySem.W.Frag} {vs : List V} {H : Hp} {Q : VK} {E : XK} (h : zsp1b vs H Q E) : zR1b K { nx := fun _ H' => Q .non H', rt := Q } (start ["book", "bargain"] vs) H := by
 obtain ⟨a, b, n, rfl, hb, hl, k⟩ := h
 obtain ⟨_, xs, e, rd, _, rs⟩ := hb.lst_inv
 cases e
 refine ⟨_, rfl, a, rfl, ⟨xs, sqLr rd⟩, fun p hp => ?_⟩
 have hxl : xs.length = b.length := by rw [rs.length, List.length_map]
 refine lc_list (K := K) (a := a) (xs := xs) (fun i ys σ H' => ∃ v, σ = [v, some (.int n)] ∧ H' = upd H p (.lst ys) ∧ ys = (wordsOf (b.take i) n).map .str) ⟨none, rfl, rfl, rfl⟩ ?_ ?_ ?_
 ·rintro i ys σ H' hi hp' ⟨v, rfl, rfl, rfl⟩
  walk_at "sq"
 ·rintro i x ys σ H' hx hp' ⟨v, rfl, rfl, rfl⟩
  obtain ⟨l, t, hb', rfl, rt⟩ := line_at rs hx
  walk_at "go"
  by_cases e : l.2 = n
  ·rw [if_pos (by simp [e])]
   walk_at "go"
   refine ⟨_, upd_same, ?_, _, upd_same, _, rfl, upd_upd, ?_⟩
   ·rw [List.length_map]
    exact len_small (Nat.le_trans (wordsOf_len _ _) (Nat.le_trans (by rw [List.length_take]; omega) hl))
   ·rw [take_snoc hb', wordsOf_snoc, if_pos e, List.map_append]; rfl
  ·rw [if_neg (by simp [e])]
   exact ⟨_, upd_same, _, rfl, rfl, by rw [take_snoc hb', wordsOf_snoc, if_neg e]⟩
 ·rintro ys σ H' hp' ⟨v, rfl, rfl, rfl⟩
  refine k p _ hp (Same.new hp) ?_
  rw [upd_same, List.take_of_length_le (by omega)]
def zsp1i : Sp := fun vs H Q _ => ∃ a b n, vs = [.ref a, .int n] ∧ Rep H [] (.ref a) (bookD b) ∧ b.length ≤ 1000000 ∧ ∀ H', Same H H' → Q (.bl (!decide (wordsOf b n = []))) H'
theorem zrd1i {K : PySem.W.Frag} {vs : List V} {H : Hp} {Q : VK} {E : XK} (h : zsp1i vs H Q E) : zR1i K zsp1b { nx := fun _ H' => Q .non H', rt := Q } (start ["book", "bargain"] vs) H := by
 obtain ⟨a, b, n, rfl, hb, hl, k⟩ := h
 unfold zR1i
 walk_at "go"
 refine ⟨a, b, n, rfl, hb, hl, fun p H' hp s hp' => ?_⟩
 walk_at "go"
 have e : decide ((0 : Int) < (((wordsOf b n).map V.str).length : Int)) = !decide (wordsOf b n = []) := by
  rw [List.length_map]
  cases wordsOf b n with
  | nil => rfl
  | cons x r => simp
 show Q (.bl (decide ((0 : Int) < (((wordsOf b n).map V.str).length : Int)))) H'
 rw [e]
 exact k H' s
def isVote (w : Str) : Bool := decide (w = "open" ∨ w = "yes" ∨ w = "no")
theorem in_votes (w : Str) : inV (.str w) [.str "open", .str "yes", .str "no"] = isVote w := by
 have := in_strs w ["open", "yes", "no"]
 simp only [List.map_cons, List.map_nil] at this
 rw [this]
 unfold isVote
 simp [List.mem_cons]
theorem find_at {α : Type} {p : α → Bool} {l : List α} {i : Nat} {x : α} (hx : l[i]? = some x) (hp : p x = true) (hn : ∀ y ∈ l.take i, p y = false) : l.find? p = some x := by
 have e : l = l.take i ++ x :: l.drop (i + 1) := by
  have hi : i < l.length := (List.getElem?_eq_some_iff.mp hx).1
  have he : l[i] = x := (List.getElem?_eq_some_iff.mp hx).2
  rw [← he, ← List.drop_eq_getElem_cons hi, List.take_append_drop]
 rw [e, List.find?_append, List.find?_eq_none.mpr (by intro y hy; rw [hn y hy]; simp), List.find?_cons, hp]
 rfl
def zsp1e : Sp := fun vs H Q _ => ∃ a b n, vs = [.ref a, .int n] ∧ Rep H [] (.ref a) (bookD b) ∧ b.length ≤ 1000000 ∧ ∀ H', Same H H' → Q (optV (voteIn b n)) H'
theorem zrd1e {K : PySem.W.Frag} {vs : List V} {H : Hp} {Q : VK} {E : XK} (h : zsp1e vs H Q E) : zR1e K zsp1b { nx := fun _ H' => Q .non H', rt := Q } (start ["book", "bargain", "word"] vs) H := by
 obtain ⟨a, b, n, rfl, hb, hl, k⟩ := h
 unfold zR1e
 walk_at "go"
 refine ⟨a, b, n, rfl, hb, hl, fun p H' hp s hp' => ?_⟩
 walk_at "go"
 refine for_list (K := K) (a := p) (xs := (wordsOf b n).map .str) (fun i σ H2 => ∃ v, σ = [some (.ref a), some (.int n), v] ∧ Same H' H2 ∧ ∀ w ∈ (wordsOf b n).take i, isVote w = false) ⟨none, rfl, Same.refl _, by simp⟩ ?_ ?_ ?_
 ·rintro i σ H2 hi ⟨v, rfl, s2, hn⟩
  exact sqL (s2 _ _ hp')
 ·rintro i x σ H2 hx ⟨v, rfl, s2, hn⟩
  rw [List.getElem?_map] at hx
  cases hw : (wordsOf b n)[i]? with
  | none => rw [hw] at hx; cases hx
  | some w =>
   rw [hw] at hx
   have e : V.str w = x := Option.some.inj hx
   subst e
   walk_at "goA"
   rename_i q hq H3 s3 g3
   show if (if false = true then !inV (.str w) _ else inV (.str w) _) = true then _ else _
   rw [if_neg (by decide : ¬ (false = true)), in_votes]
   cases hv : isVote w with
   | true =>
    refine iteT ?_
    walk_at "go"
    have e : voteIn b n = some w := find_at hw hv hn
    have := k H3 ((s.trans s2).trans s3)
    rw [e] at this
    exact this
   | false =>
    refine iteF ?_
    refine ⟨some (.str w), rfl, s2.trans s3, fun y hy => ?_⟩
    rw [take_snoc hw] at hy
    rcases List.mem_append.mp hy with z | z
    ·exact hn y z
    ·rw [List.mem_singleton.mp z]; exact hv
 ·rintro σ H2 ⟨v, rfl, s2, hn⟩
  walk_at "go"
  have e : voteIn b n = none := List.find?_eq_none.mpr (by
   intro y hy
   have := hn y (by rw [List.length_map, List.take_length]; exact hy)
   unfold isVote at this
   rw [this]; simp)
  have := k H2 (s.trans s2)
  rw [e] at this
  exact this
def zsp0l : Sp := fun vs H Q _ => ∃ a b n, vs = [.ref a, .int n] ∧ Rep H [] (.ref a) (bookD b) ∧ b.length ≤ 1000000 ∧ ∀ H', Same H H' → Q (optV (decisionIn b n)) H'
theorem zrd0l {K : PySem.W.Frag} {vs : List V} {H : Hp} {Q : VK} {E : XK} (h : zsp0l vs H Q E) : zR0l K zsp1b { nx := fun _ H' => Q .non H', rt := Q } (start ["book", "bargain", "words"] vs) H := by
 obtain ⟨a, b, n, rfl, hb, hl, k⟩ := h
 unfold zR0l
 walk_at "go"
 refine ⟨a, b, n, rfl, hb, hl, fun p H' hp s hp' => ?_⟩
 have kk := k H' s
 unfold decisionIn at kk
 walk_at "go"
 show if (if false = true then !inV (.str "bound") _ else inV (.str "bound") _) = true then _ else _
 rw [if_neg (by decide : ¬ (false = true)), in_strs]
 by_cases e1 : ("bound" : Str) ∈ wordsOf b n
 ·rw [if_pos (by simp [e1])]
  rw [if_pos e1] at kk
  walk_at "go"
  exact kk
 rw [if_neg (by simp [e1])]
 rw [if_neg e1] at kk
 walk_at "go"
 show if (if false = true then !inV (.str "off") _ else inV (.str "off") _) = true then _ else _
 rw [if_neg (by decide : ¬ (false = true)), in_strs]
 by_cases e2 : ("off" : Str) ∈ wordsOf b n
 ·rw [if_pos (by simp [e2])]
  rw [if_pos (.inl e2)] at kk
  refine iteT ?_
  walk_at "go"
  exact kk
 rw [if_neg (by simp [e2])]
 walk_at "go"
 show if (if false = true then !inV (.str "no") _ else inV (.str "no") _) = true then _ else _
 rw [if_neg (by decide : ¬ (false = true)), in_strs]
 by_cases e3 : ("no" : Str) ∈ wordsOf b n
 ·rw [if_pos (by simp [e3])]
  rw [if_pos (.inr e3)] at kk
  walk_at "go"
  exact kk
 rw [if_neg (by simp [e3])]
 rw [if_neg (by simp [e2, e3])] at kk
 walk_at "go"
 exact kk
def zsp13 : Sp := fun vs H Q _ => ∃ a b n, vs = [.ref a, .int n] ∧ Rep H [] (.ref a) (bookD b) ∧ b.length ≤ 1000000 ∧ ∀ H', Same H H' → Q (.bl (unsure b n)) H'
theorem optV_scal (o : Option Str) (x : Str) : scal (optV o) (.str x) = true := by cases o <;> rfl
theorem optV_eq (o : Option Str) (x : Str) : decide (optV o = .str x) = decide (o = some x) := by
 cases o with
 | none => simp [optV]
 | some y => simp [optV]
theorem optV_non (o : Option Str) : decide (optV o = .non) = decide (o = none) := by cases o <;> simp [optV]
theorem zrd13 {K : PySem.W.Frag} {vs : List V} {H : Hp} {Q : VK} {E : XK} (h : zsp13 vs H Q E) : zR13 K zsp1e zsp0l { nx := fun _ H' => Q .non H', rt := Q } (start ["book", "bargain"] vs) H := by
 obtain ⟨a, b, n, rfl, hb, hl, k⟩ := h
 unfold zR13
 walk_at "go"
 refine ⟨a, b, n, rfl, hb, hl, fun H' s => ?_⟩
 walk_at "go"
 refine st_rEq (optV_scal _ _) ?_
 walk_at "go"
 rw [optV_eq]
 by_cases e : voteIn b n = some ("yes" : Str)
 ·rw [if_pos (by simp [e])]
  walk_at "go"
  refine ⟨a, b, n, rfl, hb.same s, hl, fun H2 s2 => ?_⟩
  have := k H2 (s.trans s2)
  unfold unsure at this
  rw [decide_eq_true e, Bool.true_and, ← optV_non] at this
  exact this
 ·rw [if_neg (by simp [e])]
  have := k H' s
  unfold unsure at this
  rw [decide_eq_false e, Bool.false_and] at this
  exact this
def zsp17 : Sp := fun vs H Q _ => ∃ a b, vs = [.ref a] ∧ Rep H [] (.ref a) (bookD b) ∧ b.length ≤ 1000000 ∧ ∀ p H', H p = none → Same H H' → H' p = some (.lst ((leftOpen b).map .int)) → Q (.ref p) H'
def openIn (b : List Line) (l : Line) : Bool := decide (l.1 = ("open" : Str)) && decide (decisionIn b l.2 = none)
theorem zrd17 {K : PySem.W.Frag} {vs : List V} {H : Hp} {Q : VK} {E : XK} (h : zsp17 vs H Q E) : zR17 K zsp0l { nx := fun _ H' => Q .non H', rt := Q } (start ["book"] vs) H := by
 obtain ⟨a, b, rfl, hb, hl, k⟩ := h
 obtain ⟨_, xs, e, rd, _, rs⟩ := id hb.lst_inv
 cases e
 have hxl : xs.length = b.length := by rw [rs.length, List.length_map]
 refine ⟨_, rfl, a, rfl, ⟨xs, sqLr rd⟩, fun p hp => ?_⟩
 refine lc_list (K := K) (a := a) (xs := xs) (fun i ys σ H' => ∃ v, σ = [v, some (.ref a)] ∧ Same H H' ∧ ys = (((b.take i).filter (openIn b)).map (·.2)).map .int) ⟨none, rfl, Same.new hp, rfl⟩ ?_ ?_ ?_
 ·rintro i ys σ H' hi hp' ⟨v, rfl, s, rfl⟩
  exact s.seq (sqLr rd)
 ·rintro i x ys σ H' hx hp' ⟨v, rfl, s, rfl⟩
  obtain ⟨l, t, hb', rfl, rt⟩ := line_at rs hx
  walk_at "go"
  have fin : ∀ (c : Bool), openIn b l = c → (if c = true then ((((b.take i).filter (openIn b)).map (·.2)).map V.int) ++ [V.int l.2] else (((b.take i).filter (openIn b)).map (·.2)).map V.int) = (((b.take (i + 1)).filter (openIn b)).map (·.2)).map V.int := by
   intro c hc
   rw [take_snoc hb', List.filter_append, List.filter_cons, hc]
   cases c <;> simp
  by_cases e : l.1 = ("open" : Str)
  ·rw [if_pos (by simp [e])]
   walk_at "go"
   refine ⟨a, b, l.2, rfl, hb.same s, hl, fun H2 s2 => ?_⟩
   walk_at "go"
   rw [optV_non]
   have hc : openIn b l = decide (decisionIn b l.2 = none) := by unfold openIn; rw [decide_eq_true e, Bool.true_and]
   have f := fin _ hc
   by_cases e2 : decisionIn b l.2 = none
   ·rw [if_pos (by simp [e2])]
    rw [if_pos (by simp [e2])] at f
    walk_at "go"
    refine ⟨_, s2 _ _ hp', ?_, _, upd_same, _, rfl, (s.trans s2).put hp, f⟩
    rw [List.length_map, List.length_map]
    exact len_small (Nat.le_trans (List.length_filter_le _ _) (Nat.le_trans (by rw [List.length_take]; omega) hl))
   ·rw [if_neg (by simp [e2])]
    rw [if_neg (by simp [e2])] at f
    exact ⟨_, s2 _ _ hp', _, rfl, s.trans s2, f⟩
  ·rw [if_neg (by simp [e])]
   have hc : openIn b l = false := by unfold openIn; rw [decide_eq_false e, Bool.false_and]
   have f := fin _ hc
   rw [if_neg (by decide)] at f
   refine iteF ?_
   exact ⟨_, hp', _, rfl, s, f⟩
 ·rintro ys σ H' hp' ⟨v, rfl, s, rfl⟩
  refine k p _ hp s ?_
  rw [List.take_of_length_le (by omega)] at hp'
  exact hp'
theorem canLay_lines {b : List Line} (ok : OkB b) : PyData.canLayAll0 (b.map lineD) = true := by
 induction b with
 | nil => rfl
 | cons l r ih =>
  rw [List.map_cons, PyData.canLayAll0, ih fun z hz => ok z (List.mem_cons_of_mem _ hz)]
  simp [lineD, PyData.canLay0, PyData.canLayAll0, ok l (by simp)]
theorem depth_lines (b : List Line) : PyData.depthAll (b.map lineD) ≤ 3 := by
 induction b with
 | nil => simp [PyData.depthAll]
 | cons l r ih =>
  rw [List.map_cons, PyData.depthAll]
  have : PyData.depth (lineD l) ≤ 3 := by simp [lineD, PyData.depth, PyData.depthAll]
  omega
theorem shaped_book {b : List Line} (ok : OkB b) : SeqAt.shaped (bookD b) = true := by
 unfold SeqAt.shaped bookD
 rw [PyData.canLay0, canLay_lines ok, Bool.true_and, PyData.depth]
 have := depth_lines b
 exact decide_eq_true (by omega)
theorem eqv_book {b : List Line} (ok : OkB b) : PyData.eqv (bookD b) (bookD b) = true := SeqAt.eqv_refl _ (SeqAt.canLay_of_shaped (shaped_book ok))
theorem atI_mem {xs : List V} {r : Int} (h0 : 0 ≤ r) (h1 : r < xs.length) : ∃ v, v ∈ xs ∧ atI xs r = some v := by
 have hlt : r.toNat < xs.length := by omega
 refine ⟨xs[r.toNat], List.getElem_mem hlt, ?_⟩
 have := atI_nat (xs := xs) (j := r.toNat) (v := xs[r.toNat]) (by simp [hlt])
 rwa [Int.toNat_of_nonneg h0] at this
def zR11 (K : PySem.W.Frag) (zsp0j : Sp) (C_House : Addr) : TS :=
  (tSeq (sFld K (tVar 0) (tVar 1) "number")
  (tSeq (sFld K (tVar 0) (tLC (iRng1 (tCons (tVar 2) tNil)) (gName 0) (tTest (tOp rNe (tVar 0) (tVar 1))) (tVar 0) [none, some 1]) "others")
  (tSeq (sFld K (tVar 0) (tCB (rListQ K) (tCons (tVar 3) tNil)) "against")
  (tSeq (sFld K (tVar 0) (tLst tNil) "book")
  (tSeq (sFld K (tVar 0) (tC (.bl true)) "awake")
  (tDrop (tMeth C_House "forget" zsp0j [] E0 (tVar 0) tNil)))))))
def zR0j (K : PySem.W.Frag)  : TS :=
  (tSeq (sFld K (tVar 0) tDNewK "counted")
  (tSeq (sFld K (tVar 0) tDNewK "pages")
  (sFld K (tVar 0) (tC (.int 0)) "lines_read")))
def zR0r (K : PySem.W.Frag) (zsp0o : Sp) (zsp07 : Sp) (C_House : Addr) : TS :=
  (tSeq (tIfS (tTest (tOp (rIn K false) (tVar 1) (tFld K (tVar 0) "against")))
  (tSeq (tDrop (tMeth C_House "write" zsp0o [] E0 (tVar 0) (tCons (tC (.str "no")) (tCons (tVar 1) tNil))))
  (tRet (tLst tNil)))
  tNext)
  (tSeq (tDrop (tMeth C_House "write" zsp0o [] E0 (tVar 0) (tCons (tC (.str "open")) (tCons (tVar 1) tNil))))
  (tRet (tMeth C_House "to_others" zsp07 [] E0 (tVar 0) (tCons (tVar 1) (tCons (tC (.str "ask")) tNil))))))
def zR15 (K : PySem.W.Frag) (zsp0d : Sp) (zsp08 : Sp) (zsp09 : Sp) (zsp01 : Sp) (C_House : Addr) : TS :=
  (tSeq (tAsg (tOp (rIxT K) (tVar 1) (tC (.int 0))) (gName 2))
  (tSeq (tAsg (tOp (rIxT K) (tVar 1) (tC (.int 2))) (gName 3))
  (tSeq (tAsg (tOp (rIxT K) (tVar 1) (tC (.int 3))) (gName 4))
  (tSeq (tIfS (tTest (tOp rEq (tVar 4) (tC (.str "ask"))))
  (tRet (tMeth C_House "got_ask" zsp0d [] E0 (tVar 0) (tCons (tVar 2) (tCons (tVar 3) tNil))))
  tNext)
  (tSeq (tIfS (tTest (tOp rEq (tVar 4) (tC (.str "query"))))
  (tRet (tMeth C_House "got_query" zsp08 [] E0 (tVar 0) (tCons (tVar 2) (tCons (tVar 3) tNil))))
  tNext)
  (tSeq (tIfS (tTest (tOp (rIn K false) (tVar 4) (tTup (tCons (tC (.str "yes")) (tCons (tC (.str "no")) tNil)))))
  (tRet (tMeth C_House "got_vote" zsp09 [] E0 (tVar 0) (tCons (tVar 2) (tCons (tVar 3) (tCons (tVar 4) tNil)))))
  tNext)
  (tRet (tMeth C_House "got_decision" zsp01 [] E0 (tVar 0) (tCons (tVar 3) (tCons (tVar 4) tNil))))))))))
def zR0n (K : PySem.W.Frag) (zsp13 : Sp) (zsp0x : Sp) (zsp07 : Sp) (C_House : Addr) : TS :=
  (tSeq (tIfS (tOr (tNot (tB (tFld K (tVar 0) "awake"))) (tNot (tB (tCall zsp13 [] E0 (tCons (tMeth C_House "page" zsp0x [] E0 (tVar 0) (tCons (tVar 1) tNil)) (tCons (tVar 1) tNil))))))
  (tRet (tLst tNil))
  tNext)
  (tRet (tMeth C_House "to_others" zsp07 [] E0 (tVar 0) (tCons (tVar 1) (tCons (tC (.str "query")) tNil)))))
def zR0y (K : PySem.W.Frag) (zsp0j : Sp) (C_House : Addr) : TS :=
  (tSeq (sFld K (tVar 0) (tC (.bl false)) "awake")
  (tDrop (tMeth C_House "forget" zsp0j [] E0 (tVar 0) tNil)))
def zR0w (K : PySem.W.Frag) (zsp17 : Sp) (zsp0i : Sp) (C_House : Addr) : TS :=
  (tSeq (sFld K (tVar 0) (tC (.bl true)) "awake")
  (tSeq (tAsg (tCall zsp17 [] E0 (tCons (tFld K (tVar 0) "book") tNil)) (gName 1))
  (tSeq (tAsg (tLst tNil) (gName 2))
  (tSeq (tFor (iList K (tVar 1)) (gName 3)
  (tDrop (tBM K "list" rExtend (tVar 2) (tCons (tMeth C_House "decide" zsp0i [] E0 (tVar 0) (tCons (tVar 3) (tCons (tC (.str "off")) tNil))) tNil))))
  (tRet (tVar 2))))))
def zR0a (K : PySem.W.Frag) (zsp0c : Sp) (C_House : Addr) : TS :=
  (tSeq (tIfS (tTest (tOp (rIn K true) (tOp (rIxT K) (tVar 1) (tC (.int 3))) (tTup (tCons (tC (.str "no")) (tCons (tC (.str "bound")) (tCons (tC (.str "off")) tNil))))))
  (tRet (tC (.bl false)))
  tNext)
  (tRet (tNotN (tMeth C_House "decision" zsp0c [] E0 (tVar 0) (tCons (tOp (rIxT K) (tVar 1) (tC (.int 2))) tNil)))))
def zR0d (K : PySem.W.Frag) (zsp1i : Sp) (zsp0x : Sp) (zsp0o : Sp) (zsp0c : Sp) (zsp0k : Sp) (C_House : Addr) : TS :=
  (tCut (tIfS (tNot (tB (tCall zsp1i [] E0 (tCons (tMeth C_House "page" zsp0x [] E0 (tVar 0) (tCons (tVar 2) tNil)) (tCons (tVar 2) tNil)))))
  (tDrop (tMeth C_House "write" zsp0o [] E0 (tVar 0) (tCons (tIf (tTest (tOp (rIn K false) (tVar 2) (tFld K (tVar 0) "against"))) (tC (.str "no")) (tC (.str "yes"))) (tCons (tVar 2) tNil))))
  tNext)
  (tSeq (tIfS (tTest (tOp rEq (tMeth C_House "decision" zsp0c [] E0 (tVar 0) (tCons (tVar 2) tNil)) (tC (.str "off"))))
  (tRet (tMeth C_House "to_one" zsp0k [] E0 (tVar 0) (tCons (tVar 1) (tCons (tVar 2) (tCons (tC (.str "no")) tNil)))))
  tNext)
  (tRet (tMeth C_House "to_one" zsp0k [] E0 (tVar 0) (tCons (tVar 1) (tCons (tVar 2) (tCons (tC (.str "yes")) tNil)))))))
def zR09 (K : PySem.W.Frag) (zsp0c : Sp) (zsp0k : Sp) (zsp0i : Sp) (C_House : Addr) : TS :=
  (tSeq (tAsg (tMeth C_House "decision" zsp0c [] E0 (tVar 0) (tCons (tVar 2) tNil)) (gName 4))
  (tSeq (tIfS (tB (tNotN (tVar 4)))
  (tRet (tIf (tTest (tOp rEq (tVar 3) (tC (.str "yes")))) (tMeth C_House "to_one" zsp0k [] E0 (tVar 0) (tCons (tVar 1) (tCons (tVar 2) (tCons (tVar 4) tNil)))) (tLst tNil)))
  tNext)
  (tSeq (tIfS (tTest (tOp rEq (tVar 3) (tC (.str "no"))))
  (tRet (tMeth C_House "decide" zsp0i [] E0 (tVar 0) (tCons (tVar 2) (tCons (tC (.str "off")) tNil))))
  tNext)
  (tSeq (tAsg (tDSetD (tFld K (tVar 0) "counted") (tVar 2) tDNewK) (gName 5))
  (tSeq (sDPut (tVar 5) (tVar 1) (tC (.bl true)))
  (tSeq (tIfS (tTest (tOp rLtI (tCB rLenD (tCons (tVar 5) tNil)) (tCB (rLenQ K) (tCons (tFld K (tVar 0) "others") tNil))))
  (tRet (tLst tNil))
  tNext)
  (tRet (tMeth C_House "decide" zsp0i [] E0 (tVar 0) (tCons (tVar 2) (tCons (tC (.str "bound")) tNil))))))))))
def zR01 (K : PySem.W.Frag) (zsp0c : Sp) (zsp0o : Sp) (C_House : Addr) : TS :=
  (tCut (tIfS (tB (tIsN (tMeth C_House "decision" zsp0c [] E0 (tVar 0) (tCons (tVar 1) tNil))))
  (tDrop (tMeth C_House "write" zsp0o [] E0 (tVar 0) (tCons (tVar 2) (tCons (tVar 1) tNil))))
  tNext)
  (tRet (tLst tNil)))
def zR08 (K : PySem.W.Frag) (zsp13 : Sp) (zsp1i : Sp) (zsp0x : Sp) (zsp0c : Sp) (zsp0k : Sp) (zsp0i : Sp) (zsp0o : Sp) (C_House : Addr) : TS :=
  (tSeq (tIfS (tB (tCall zsp13 [] E0 (tCons (tMeth C_House "page" zsp0x [] E0 (tVar 0) (tCons (tVar 2) tNil)) (tCons (tVar 2) tNil))))
  (tRet (tLst tNil))
  tNext)
  (tSeq (tAsg (tMeth C_House "decision" zsp0c [] E0 (tVar 0) (tCons (tVar 2) tNil)) (gName 3))
  (tSeq (tIfS (tB (tNotN (tVar 3)))
  (tRet (tMeth C_House "to_one" zsp0k [] E0 (tVar 0) (tCons (tVar 1) (tCons (tVar 2) (tCons (tVar 3) tNil)))))
  tNext)
  (tSeq (tIfS (tB (tCall zsp1i [] E0 (tCons (tMeth C_House "page" zsp0x [] E0 (tVar 0) (tCons (tVar 2) tNil)) (tCons (tVar 2) tNil))))
  (tRet (tMeth C_House "decide" zsp0i [] E0 (tVar 0) (tCons (tVar 2) (tCons (tC (.str "off")) tNil))))
  tNext)
  (tSeq (tDrop (tMeth C_House "write" zsp0o [] E0 (tVar 0) (tCons (tC (.str "no")) (tCons (tVar 2) tNil))))
  (tRet (tMeth C_House "to_one" zsp0k [] E0 (tVar 0) (tCons (tVar 1) (tCons (tVar 2) (tCons (tC (.str "off")) tNil))))))))))
def zR0i (K : PySem.W.Frag) (zsp0o : Sp) (zsp07 : Sp) (C_House : Addr) : TS :=
  (tSeq (tDrop (tMeth C_House "write" zsp0o [] E0 (tVar 0) (tCons (tVar 2) (tCons (tVar 1) tNil))))
  (tRet (tMeth C_House "to_others" zsp07 [] E0 (tVar 0) (tCons (tVar 1) (tCons (tVar 2) tNil)))))
def zR0c (K : PySem.W.Frag) (zsp0l : Sp) (zsp0x : Sp) (C_House : Addr) : TS :=
  (tRet (tCall zsp0l [] E0 (tCons (tMeth C_House "page" zsp0x [] E0 (tVar 0) (tCons (tVar 1) tNil)) (tCons (tVar 1) tNil))))
def zR0x (K : PySem.W.Frag)  : TS :=
  (tSeq (tWhile (tTest (tOp rLtI (tFld K (tVar 0) "lines_read") (tCB (rLenQ K) (tCons (tFld K (tVar 0) "book") tNil))))
  (tSeq (tAsg (tOp (rIxL K) (tFld K (tVar 0) "book") (tFld K (tVar 0) "lines_read")) (gName 2))
  (tSeq (tDrop (tBM K "list" rAppend (tDSetD (tFld K (tVar 0) "pages") (tOp (rIxT K) (tVar 2) (tC (.int 1))) (tLst tNil)) (tCons (tVar 2) tNil)))
  (sFldAug K (tVar 0) (tC (.int 1)) rAdd "lines_read"))))
  (tRet (tDGet2 (tFld K (tVar 0) "pages") (tVar 1) (tLst tNil))))
def zR0o (K : PySem.W.Frag)  : TS :=
  (tDrop (tBM K "list" rAppend (tFld K (tVar 0) "book") (tCons (tTup (tCons (tVar 1) (tCons (tVar 2) tNil))) tNil)))
def zR0k (K : PySem.W.Frag)  : TS :=
  (tRet (tLst (tCons (tTup (tCons (tFld K (tVar 0) "number") (tCons (tVar 1) (tCons (tVar 2) (tCons (tVar 3) tNil))))) tNil)))
def zR07 (K : PySem.W.Frag)  : TS :=
  (tRet (tLC (iList K (tFld K (tVar 0) "others")) (gName 0) tNoIf (tTup (tCons (tFld K (tVar 3) "number") (tCons (tVar 0) (tCons (tVar 1) (tCons (tVar 2) tNil))))) [none, some 1, some 2, some 0]))
structure HouseTxt (K : PySem.W.Frag) (C : Addr) : Prop where
 cl : Cls K C
 f1 : NoAttr K C "number"
 f2 : NoAttr K C "others"
 f3 : NoAttr K C "against"
 f4 : NoAttr K C "book"
 f5 : NoAttr K C "awake"
 f6 : NoAttr K C "counted"
 f7 : NoAttr K C "pages"
 f8 : NoAttr K C "lines_read"
structure HS where
 num : Int
 oth : List Int
 agn : List Int
 book : List Line
 up : Bool
 cnt : Int → List Int
abbrev Letter := Int × Int × Int × Str
def letterD (l : Letter) : PyData := .tuple [.int l.1, .int l.2.1, .int l.2.2.1, .str l.2.2.2]
def lettersD (ls : List Letter) : PyData := .list (ls.map letterD)
def HS.wr (h : HS) (w : Str) (n : Int) : HS := { h with book := h.book ++ [(w, n)] }
def HS.toOthers (h : HS) (n : Int) (w : Str) : List Letter := h.oth.map fun k => (h.num, k, n, w)
def HS.begin (h : HS) (n : Int) : HS × List Letter := if n ∈ h.agn then (h.wr "no" n, []) else (h.wr "open" n, h.toOthers n "ask")
def HS.decide (h : HS) (n : Int) (w : Str) : HS × List Letter := (h.wr w n, h.toOthers n w)
def HS.asked (h : HS) (n : Int) : HS := if wordsOf h.book n = [] then h.wr (if n ∈ h.agn then "no" else "yes") n else h
def HS.gotAsk (h : HS) (g n : Int) : HS × List Letter := (h.asked n, [(h.num, g, n, if decisionIn (h.asked n).book n = some ("off" : Str) then "no" else "yes")])
def addG (g : Int) (gs : List Int) : List Int := if g ∈ gs then gs else gs ++ [g]
def HS.count (h : HS) (g n : Int) : HS := { h with cnt := fun m => if m = n then addG g (h.cnt n) else h.cnt m }
def HS.gotVote (h : HS) (g n : Int) (w : Str) : HS × List Letter :=
 match decisionIn h.book n with
 | some d => (h, if w = "yes" then [(h.num, g, n, d)] else [])
 | none => if w = "no" then h.decide n "off" else if (addG g (h.cnt n)).length < h.oth.length then (h.count g n, []) else (h.count g n).decide n "bound"
def HS.gotDecision (h : HS) (n : Int) (w : Str) : HS × List Letter := (if decisionIn h.book n = none then h.wr w n else h, [])
def HS.gotQuery (h : HS) (g n : Int) : HS × List Letter :=
 if unsure h.book n = true then (h, []) else match decisionIn h.book n with
 | some d => (h, [(h.num, g, n, d)])
 | none => if wordsOf h.book n = [] then (h.wr "no" n, [(h.num, g, n, "off")]) else h.decide n "off"
def HS.got (h : HS) (l : Letter) : HS × List Letter :=
 if l.2.2.2 = "ask" then h.gotAsk l.1 l.2.2.1 else if l.2.2.2 = "query" then h.gotQuery l.1 l.2.2.1 else if l.2.2.2 = "yes" ∨ l.2.2.2 = "no" then h.gotVote l.1 l.2.2.1 l.2.2.2 else h.gotDecision l.2.2.1 l.2.2.2
def HS.stop (h : HS) : HS := { h with up := false, cnt := fun _ => [] }
def HS.offAll (h : HS) : List Int → HS × List Letter
 | [] => (h, [])
 | n :: r => let q := (h.decide n "off").1.offAll r; (q.1, (h.decide n "off").2 ++ q.2)
def HS.wake (h : HS) : HS × List Letter := { h with up := true : HS }.offAll (leftOpen h.book)
def gv (g : Int) : Key × V := (Sum.inl g, V.bl true)
structure CntAt (H : Hp) (kvs : List (Key × V)) (cnt : Int → List Int) (R : List Addr) (pc pp : Addr) : Prop where
 no : ∀ n, valV kvs (Sum.inl n : Key) = none → cnt n = []
 yes : ∀ n v, valV kvs (Sum.inl n : Key) = some v → ∃ q, v = .ref q ∧ H q = some (.dK ((cnt n).map gv)) ∧ q ∈ R ∧ q ≠ pc ∧ q ≠ pp
 inj : ∀ n m q, valV kvs (Sum.inl n : Key) = some (.ref q) → valV kvs (Sum.inl m : Key) = some (.ref q) → n = m
def pageOf (b : List Line) (n : Int) : List Line := b.filter fun l => decide (l.2 = n)
theorem pageOf_words (b : List Line) (n : Int) : wordsOf (pageOf b n) n = wordsOf b n := by
 unfold wordsOf pageOf
 rw [List.filter_filter]
 simp
theorem pageOf_dec (b : List Line) (n : Int) : decisionIn (pageOf b n) n = decisionIn b n := by unfold decisionIn; rw [pageOf_words]
theorem pageOf_unsure (b : List Line) (n : Int) : unsure (pageOf b n) n = unsure b n := by unfold unsure voteIn; rw [pageOf_dec, pageOf_words]
theorem pageOf_snoc (b : List Line) (l : Line) (n : Int) : pageOf (b ++ [l]) n = if l.2 = n then pageOf b n ++ [l] else pageOf b n := by
 unfold pageOf
 rw [List.filter_append]
 by_cases e : l.2 = n <;> simp [e]
theorem pageOf_len (b : List Line) (n : Int) : (pageOf b n).length ≤ b.length := List.length_filter_le _ _
structure PagAt (H : Hp) (pvs : List (Key × V)) (b : List Line) (R : List Addr) (po pa pk : Addr) : Prop where
 no : ∀ n, valV pvs (Sum.inl n : Key) = none → pageOf b n = []
 yes : ∀ n v, valV pvs (Sum.inl n : Key) = some v → ∃ q xs, v = .ref q ∧ H q = some (.lst xs) ∧ Reps H [] xs ((pageOf b n).map lineD) ∧ q ∈ R ∧ q ≠ po ∧ q ≠ pa ∧ q ≠ pk
 inj : ∀ n m q, valV pvs (Sum.inl n : Key) = some (.ref q) → valV pvs (Sum.inl m : Key) = some (.ref q) → n = m
theorem PagAt.keep {H H' : Hp} {pvs : List (Key × V)} {b : List Line} {R R' : List Addr} {po pa pk : Addr} (P : PagAt H pvs b R po pa pk) (sub : ∀ a ∈ R, a ∈ R') (kp : ∀ q xs, H q = some (.lst xs) → q ∈ R → q ≠ po → q ≠ pa → q ≠ pk → H' q = some (.lst xs))
  (ch : ∀ (b : List Line) xs, Reps H [] xs (b.map lineD) → Reps H' [] xs (b.map lineD)) : PagAt H' pvs b R' po pa pk :=
 ⟨P.no, fun n v hv => by obtain ⟨q, xs, e, h1, h2, h3, h4, h5, h6⟩ := P.yes n v hv; exact ⟨q, xs, e, kp _ _ h1 h3 h4 h5 h6, ch _ _ h2, sub _ h3, h4, h5, h6⟩, P.inj⟩
structure Pg where
 kvs : List (Key × V)
 pp : Addr
 nr : Nat
 pvs : List (Key × V)
def hfs (num : Int) (po pa pk : Addr) (up : Bool) (pc pp : Addr) (nr : Nat) : List (Str × V) := [("number", .int num), ("others", .ref po), ("against", .ref pa), ("book", .ref pk), ("awake", .bl up), ("counted", .ref pc), ("pages", .ref pp), ("lines_read", .int nr)]
structure HouseI0 (C : Addr) (H : Hp) (p : Addr) (h : HS) (R : List Addr) (N : Nat) (dx po pa pk pc : Addr) (xs : List V) (z : Pg) : Prop where
 ob : H p = some (.ins C dx (hfs h.num po pa pk h.up pc z.pp z.nr))
 ot : H po = some (.lst (h.oth.map .int))
 ag : H pa = some (.lst (h.agn.map .int))
 bk : H pk = some (.lst xs)
 bs : Reps H [] xs (h.book.map lineD)
 cn : H pc = some (.dK z.kvs)
 ct : CntAt H z.kvs h.cnt R pc z.pp
 pg : H z.pp = some (.dK z.pvs)
 pt : PagAt H z.pvs (h.book.take z.nr) R po pa pk
 n1 : po ≠ pk
 n2 : pa ≠ pk
 n3 : pc ≠ z.pp
 m1 : p ∈ R
 m2 : po ∈ R
 m3 : pa ∈ R
 m4 : pk ∈ R
 m5 : pc ∈ R
 m6 : z.pp ∈ R
 trk : ∀ a ∈ R, ∃ o, H a = some o
 l1 : h.book.length ≤ N
 l2 : z.kvs.length ≤ N
 l3 : ∀ n, (h.cnt n).length ≤ N
 l5 : z.nr ≤ h.book.length
 okb : OkB h.book
structure HouseIn (C : Addr) (H : Hp) (p : Addr) (h : HS) (R : List Addr) (N : Nat) (dx po pa pk pc : Addr) (xs : List V) (z : Pg) : Prop extends HouseI0 C H p h R N dx po pa pk pc xs z where
 l4 : z.pvs.length ≤ z.nr
def HouseAt (C : Addr) (H : Hp) (p : Addr) (h : HS) (R : List Addr) (N : Nat) : Prop := ∃ dx po pa pk pc xs z, HouseIn C H p h R N dx po pa pk pc xs z
structure Move (C p : Addr) (H : Hp) (R : List Addr) (H' : Hp) (h' : HS) (R' : List Addr) (N' : Nat) : Prop where
 at_ : HouseAt C H' p h' R' N'
 chg : Chg R H H'
 gr : Grow R H R'
 sb : ∀ a ∈ R, a ∈ R'
theorem lines_any {H : Hp} {S T : List Addr} : ∀ {b : List Line} {xs : List V}, Reps H S xs (b.map lineD) → Reps H T xs (b.map lineD)
 | [], xs, r => by rw [List.map_nil] at r ⊢; rw [r.nil_inv]; exact .nil
 | l :: b, xs, r => by
  rw [List.map_cons] at r ⊢
  obtain ⟨x, ys, rfl, h, t⟩ := r.cons_inv
  obtain ⟨a, zs, rfl, rt, rs⟩ := h.tup_inv
  obtain ⟨y1, r1, rfl, h1, t1⟩ := rs.cons_inv
  obtain ⟨y2, r2, rfl, h2, t2⟩ := t1.cons_inv
  cases t2.nil_inv
  rw [h1.str_inv, h2.int_inv] at rt
  exact .cons (.tup rt (.cons (.str _) (.cons (.int _) .nil))) (lines_any t)
theorem lines_chg {H H' : Hp} {S T : List Addr} {b : List Line} {xs : List V} (r : Reps H S xs (b.map lineD)) (c : Chg T H H') : Reps H' S xs (b.map lineD) := lines_any ((lines_any (T := T) r).chg c)
theorem Move.trans {C p : Addr} {H H1 H2 : Hp} {R R1 R2 : List Addr} {h1 h2 : HS} {N1 N2 : Nat} (a : Move C p H R H1 h1 R1 N1) (b : Move C p H1 R1 H2 h2 R2 N2) : Move C p H R H2 h2 R2 N2 :=
 ⟨b.at_, a.chg.grow a.gr b.chg, a.gr.trans a.chg b.gr, fun x hx => b.sb x (a.sb x hx)⟩
theorem HouseIn.same {C : Addr} {H H' : Hp} {p : Addr} {h : HS} {R : List Addr} {N : Nat} {dx po pa pk pc : Addr} {xs : List V} {z : Pg} (I : HouseIn C H p h R N dx po pa pk pc xs z) (s : Same H H') : HouseIn C H' p h R N dx po pa pk pc xs z :=
  { I with ob := s _ _ I.ob, ot := s _ _ I.ot, ag := s _ _ I.ag, bk := s _ _ I.bk, bs := I.bs.same s, cn := s _ _ I.cn, pg := s _ _ I.pg,
           ct := ⟨I.ct.no, fun n v hv => (by obtain ⟨q, e, h1, h2⟩ := I.ct.yes n v hv; exact ⟨q, e, s _ _ h1, h2⟩), I.ct.inj⟩,
           pt := I.pt.keep (fun _ h => h) (fun q xs h _ _ _ _ => s _ _ h) fun b xs r => r.same s,
           trk := fun a ha => (by obtain ⟨o, e⟩ := I.trk a ha; exact ⟨o, s _ _ e⟩) }
theorem HouseAt.same {C : Addr} {H H' : Hp} {p : Addr} {h : HS} {R : List Addr} {N : Nat} (I : HouseAt C H p h R N) (s : Same H H') : HouseAt C H' p h R N := by
 obtain ⟨dx, po, pa, pk, pc, xs, kvs, I⟩ := I
 exact ⟨dx, po, pa, pk, pc, xs, kvs, I.same s⟩
theorem HouseAt.move {C : Addr} {H H' : Hp} {p : Addr} {h : HS} {R : List Addr} {N : Nat} (I : HouseAt C H p h R N) (s : Same H H') : Move C p H R H' h R N := ⟨I.same s, .of_same s, .refl _ _, fun _ h => h⟩
theorem HouseIn.more {C : Addr} {H : Hp} {p : Addr} {h : HS} {R : List Addr} {N M : Nat} {dx po pa pk pc : Addr} {xs : List V} {z : Pg} (I : HouseIn C H p h R N dx po pa pk pc xs z) (hN : N ≤ M) : HouseIn C H p h R M dx po pa pk pc xs z :=
 { I with l1 := Nat.le_trans I.l1 hN, l2 := Nat.le_trans I.l2 hN, l3 := fun n => Nat.le_trans (I.l3 n) hN }
theorem HouseAt.more {C : Addr} {H : Hp} {p : Addr} {h : HS} {R : List Addr} {N M : Nat} (I : HouseAt C H p h R N) (hN : N ≤ M) : HouseAt C H p h R M := by
 obtain ⟨dx, po, pa, pk, pc, xs, kvs, I⟩ := I
 exact ⟨dx, po, pa, pk, pc, xs, kvs, I.more hN⟩
theorem Move.more {C p : Addr} {H H' : Hp} {R R' : List Addr} {h' : HS} {N' M : Nat} (m : Move C p H R H' h' R' N') (hN : N' ≤ M) : Move C p H R H' h' R' M := ⟨m.at_.more hN, m.chg, m.gr, m.sb⟩
theorem HouseAt.chg {C : Addr} {H H' : Hp} {p : Addr} {h : HS} {R T : List Addr} {N : Nat} (I : HouseAt C H p h R N) (c : Chg T H H') (d : ∀ a ∈ R, ¬ a ∈ T) : HouseAt C H' p h R N := by
 obtain ⟨dx, po, pa, pk, pc, xs, kvs, I⟩ := I
 have kp : ∀ a o, a ∈ R → H a = some o → H' a = some o := fun a o ha e => c.keep a o e (d a ha)
 refine ⟨dx, po, pa, pk, pc, xs, kvs, { I with ob := kp _ _ I.m1 I.ob, ot := kp _ _ I.m2 I.ot, ag := kp _ _ I.m3 I.ag, bk := kp _ _ I.m4 I.bk, bs := (lines_chg I.bs c), cn := kp _ _ I.m5 I.cn, pg := kp _ _ I.m6 I.pg, ct := ⟨I.ct.no, fun n v hv => (by obtain ⟨q, e, h1, h2, h3⟩ := I.ct.yes n v hv; exact ⟨q, e, kp _ _ h2 h1, h2, h3⟩), I.ct.inj⟩, pt := (I.pt.keep (fun _ h => h) (fun q xs h m _ _ _ => kp _ _ m h) (fun b xs r => lines_chg r c)), trk := (fun a ha => (by obtain ⟨o, e⟩ := I.trk a ha; exact ⟨o, kp _ _ ha e⟩)) }⟩
theorem trk_upd {H : Hp} {R : List Addr} {a : Addr} {o : HO} (t : ∀ a ∈ R, ∃ o, H a = some o) : ∀ b ∈ R, ∃ u, upd H a o b = some u := fun b hb => by
 by_cases e : b = a
 ·subst e; exact ⟨o, upd_same⟩
 ·rw [upd_ne e]; exact t b hb
def zsp0o (C : Addr) : Sp := fun vs H Q _ => ∃ p w n h R N, vs = [.ref p, .str w, .int n] ∧ HouseAt C H p h R N ∧ N ≤ 900000 ∧ PyData.strOk w = true ∧ ∀ H', Move C p H R H' (h.wr w n) R (N + 1) → Q .non H'
theorem zrd0o {K : PySem.W.Frag} {C : Addr} {vs : List V} {H : Hp} {Q : VK} {E : XK} (T : HouseTxt K C) (h : zsp0o C vs H Q E) : zR0o K { nx := fun _ H' => Q .non H', rt := Q } (start ["self", "word", "bargain"] vs) H := by
  obtain ⟨p, w, n, h, R, N, rfl, ⟨dx, po, pa, pk, pc, xs, kvs, I⟩, hN, okw, k⟩ := h
  obtain ⟨cl, f1, f2, f3, f4, f5, f6, f7, f8⟩ := T
  obtain ⟨⟨ob, ot, ag, bk, bs, cn, ct, pg, pt, n1, n2, n3, m1, m2, m3, m4, m5, m6, trk, l1, l2, l3, l5, okb⟩, l4⟩ := id I
  have hxl : xs.length = h.book.length := by rw [bs.length, List.length_map]
  unfold zR0o
  walk_at "go"
  refine ⟨.inl ⟨rfl, _, sqL bk⟩, ?_⟩
  walk_at "goA"
  rename_i t ht H1 s1 g1
  have bk1 := s1 _ _ bk
  refine st_append bk1 (len_small (by omega)) ?_
  have ntk : t ≠ pk := ne_of g1 bk1 (by intro z; cases z)
  have kp : ∀ a o, a ≠ pk → H1 a = some o → upd H1 pk (.lst (xs ++ [.ref t])) a = some o := fun a o e z => upd_at e z
  have cB : Chg R H1 (upd H1 pk (.lst (xs ++ [.ref t]))) := .set (by rw [bk1]; exact True.intro) m4
  refine k _ ⟨⟨dx, po, pa, pk, pc, xs ++ [.ref t], kvs, ?_⟩, (Chg.of_same s1).trans cB, .refl _ _, fun _ h => h⟩
  exact { ob := kp _ _ (ne_of (s1 _ _ ob) bk1 (by intro z; cases z)) (s1 _ _ ob), ot := kp _ _ n1 (s1 _ _ ot), ag := kp _ _ n2 (s1 _ _ ag), bk := upd_same,
          bs := (by
            show Reps _ [] _ ((h.book ++ [(w, n)]).map lineD)
            rw [List.map_append]
            exact (lines_chg (bs.same s1) cB).snoc (.tup (.inl (kp _ _ ntk g1)) (.cons (.str _) (.cons (.int _) .nil)))),
          cn := kp _ _ (ne_of (s1 _ _ cn) bk1 (by intro z; cases z)) (s1 _ _ cn), pg := kp _ _ (ne_of (s1 _ _ pg) bk1 (by intro z; cases z)) (s1 _ _ pg),
          ct := ⟨ct.no, fun n v hv => (by obtain ⟨q, e, h1, h2⟩ := ct.yes n v hv; exact ⟨q, e, kp _ _ (ne_of (s1 _ _ h1) bk1 (by intro z; cases z)) (s1 _ _ h1), h2⟩), ct.inj⟩,
          pt := (by
            show PagAt _ _ ((h.book ++ [(w, n)]).take kvs.nr) _ _ _ _
            rw [List.take_append_of_le_length l5]
            exact pt.keep (fun _ h => h) (fun q xs hq _ _ _ nk => kp _ _ nk (s1 _ _ hq)) fun b xs r => lines_chg (r.same s1) cB),
          n1 := n1, n2 := n2, n3 := n3, m1 := m1, m2 := m2, m3 := m3, m4 := m4, m5 := m5, m6 := m6,
          trk := trk_upd fun a ha => (by obtain ⟨o, e⟩ := trk a ha; exact ⟨o, s1 _ _ e⟩),
          l1 := (by show (h.book ++ [(w, n)]).length ≤ N + 1; rw [List.length_append]; show h.book.length + 1 ≤ N + 1; omega), l2 := (by omega), l3 := fun n => Nat.le_succ_of_le (l3 n),
          l4 := l4, l5 := (by show kvs.nr ≤ (h.book ++ [(w, n)]).length; rw [List.length_append]; omega),
          okb := by
            intro l hl
            rcases List.mem_append.mp hl with z | z
            · exact okb l z
            · rw [List.mem_singleton.mp z]; exact okw }
theorem notin_new {H : Hp} {R : List Addr} {l : Addr} (t : ∀ a ∈ R, ∃ o, H a = some o) (hl : H l = none) : ¬ l ∈ R := fun m => by obtain ⟨o, e⟩ := t l m; rw [hl] at e; cases e
theorem letters_any {H : Hp} {S T : List Addr} : ∀ {b : List Letter} {xs : List V}, Reps H S xs (b.map letterD) → Reps H T xs (b.map letterD)
 | [], xs, r => by rw [List.map_nil] at r ⊢; rw [r.nil_inv]; exact .nil
 | l :: b, xs, r => by
  rw [List.map_cons] at r ⊢
  obtain ⟨x, ys, rfl, h, t⟩ := r.cons_inv
  obtain ⟨a, zs, rfl, rt, rs⟩ := h.tup_inv
  obtain ⟨y1, r1, rfl, h1, t1⟩ := rs.cons_inv
  obtain ⟨y2, r2, rfl, h2, t2⟩ := t1.cons_inv
  obtain ⟨y3, r3, rfl, h3, t3⟩ := t2.cons_inv
  obtain ⟨y4, r4, rfl, h4, t4⟩ := t3.cons_inv
  cases t4.nil_inv
  rw [h1.int_inv, h2.int_inv, h3.int_inv, h4.str_inv] at rt
  exact .cons (.tup rt (.cons (.int _) (.cons (.int _) (.cons (.int _) (.cons (.str _) .nil))))) (letters_any t)
theorem letters_chg {H H' : Hp} {S T : List Addr} {b : List Letter} {xs : List V} (r : Reps H S xs (b.map letterD)) (c : Chg T H H') : Reps H' S xs (b.map letterD) := letters_any ((letters_any (T := T) r).chg c)
theorem rep_letter {H : Hp} {S : List Addr} {t : Addr} {a b c : Int} {w : Str} (g : Rd H t (.tup [.int a, .int b, .int c, .str w])) : Rep H S (.ref t) (letterD (a, b, c, w)) := .tup g (.cons (.int _) (.cons (.int _) (.cons (.int _) (.cons (.str _) .nil))))
def Fresh (H : Hp) (v : V) : Prop := ∀ l, v = .ref l → H l = none
theorem Move.free {C p : Addr} {H H' : Hp} {R R' : List Addr} {h' : HS} {N' : Nat} (m : Move C p H R H' h' R' N') {b : Addr} (hb : H' b = none) : H b = none := by
 cases e : H b with
 | none => rfl
 | some o =>
  by_cases y : b ∈ R
  ·obtain ⟨dx, po, pa, pk, pc, xs, kvs, I⟩ := m.at_
   obtain ⟨o', e'⟩ := I.trk b (m.sb b y)
   rw [hb] at e'; cases e'
  ·rw [m.chg.keep b o e y] at hb; cases hb
def LL (H : Hp) (R : List Addr) (v : V) (ls : List Letter) : Prop := ∃ l ys, v = .ref l ∧ H l = some (.lst ys) ∧ ¬ l ∈ R ∧ Reps H R ys (ls.map letterD)
def zsp0k (C : Addr) : Sp := fun vs H Q _ => ∃ p o n w h R N, vs = [.ref p, .int o, .int n, .str w] ∧ HouseAt C H p h R N ∧ ∀ v H', Same H H' → LL H' R v [(h.num, o, n, w)] → Fresh H v → Q v H'
theorem zrd0k {K : PySem.W.Frag} {C : Addr} {vs : List V} {H : Hp} {Q : VK} {E : XK} (T : HouseTxt K C) (h : zsp0k C vs H Q E) : zR0k K { nx := fun _ H' => Q .non H', rt := Q } (start ["self", "other", "bargain", "word"] vs) H := by
 obtain ⟨p, o, n, w, h, R, N, rfl, ⟨dx, po, pa, pk, pc, xs, kvs, I⟩, k⟩ := h
 obtain ⟨cl, f1, f2, f3, f4, f5, f6, f7, f8⟩ := T
 have ob := I.ob
 unfold zR0k
 walk_at "goA"
 rename_i t ht H1 s1 g1 l hl H2 s2 g2
 refine k _ _ (s1.trans s2) ⟨_, _, rfl, g2, notin_new (fun a ha => ?_) hl, .cons (rep_letter (.inl (s2 _ _ g1))) .nil⟩ (by rintro _ ⟨⟩; exact s1.free hl)
 obtain ⟨o, e⟩ := I.trk a ha
 exact ⟨o, s1 _ _ e⟩
def zsp07 (C : Addr) : Sp := fun vs H Q _ => ∃ p n w h R N, vs = [.ref p, .int n, .str w] ∧ HouseAt C H p h R N ∧ h.oth.length ≤ 900000 ∧ ∀ v H', Same H H' → LL H' R v (h.toOthers n w) → Fresh H v → Q v H'
theorem zrd07 {K : PySem.W.Frag} {C : Addr} {vs : List V} {H : Hp} {Q : VK} {E : XK} (T : HouseTxt K C) (h : zsp07 C vs H Q E) : zR07 K { nx := fun _ H' => Q .non H', rt := Q } (start ["self", "bargain", "word"] vs) H := by
 obtain ⟨p, n, w, h, R, N, rfl, ⟨dx, po, pa, pk, pc, xs, kvs, I⟩, hol, k⟩ := h
 obtain ⟨cl, f1, f2, f3, f4, f5, f6, f7, f8⟩ := T
 have ob := I.ob
 have ot := I.ot
 unfold zR07
 walk_at "go"
 intro q hq
 refine lc_list (K := K) (a := po) (xs := h.oth.map .int) (fun i ys σ H' => ∃ v, σ = [v, some (.int n), some (.str w), some (.ref p)] ∧ Same H H' ∧ Reps H' [] ys ((((h.oth.take i).map fun k => (h.num, k, n, w)) : List Letter).map letterD)) ⟨none, rfl, Same.new hq, .nil⟩ ?_ ?_ ?_
 ·rintro i ys σ H' hi hq' ⟨v, rfl, s, rs⟩
  exact sqL (s _ _ ot)
 ·rintro i x ys σ H1 hx hq' ⟨v, rfl, s, rs⟩
  rw [List.getElem?_map] at hx
  cases hk : h.oth[i]? with
  | none => rw [hk] at hx; cases hx
  | some z =>
   rw [hk] at hx
   have e : V.int z = x := Option.some.inj hx
   subst e
   have hi : i < h.oth.length := (List.getElem?_eq_some_iff.mp hk).1
   have ob1 := s _ _ ob
   walk_at "go"
   rw [if_pos rfl]
   walk_at "goA"
   rename_i t ht H2 s2 g2
   have hyl : ys.length = i := by rw [rs.length, List.length_map, List.length_map, List.length_take]; omega
   refine ⟨ys, s2 _ _ hq', len_small (by omega), ys ++ [.ref t], upd_same, _, rfl, (s.trans s2).put hq, ?_⟩
   rw [take_snoc hk, List.map_append, List.map_append]
   have c : Chg [q] H2 (upd H2 q (.lst (ys ++ [.ref t]))) := .set (by rw [s2 _ _ hq']; exact True.intro) (by simp)
   have ntq : t ≠ q := ne_of g2 (s2 _ _ hq') (by intro z; cases z)
   exact (letters_chg (rs.same s2) c).snoc (rep_letter (.inl (upd_at ntq g2)))
 ·rintro ys σ H1 hq' ⟨v, rfl, s, rs⟩
  refine k _ _ s ⟨_, _, rfl, hq', notin_new I.trk hq, ?_⟩ (by rintro _ ⟨⟩; exact hq)
  rw [List.length_map, List.take_length] at rs
  exact letters_any rs
def Ret (C p : Addr) (H : Hp) (R : List Addr) (N : Nat) (r : HS × List Letter) (Q : VK) : Prop := ∀ v H' R', Move C p H R H' r.1 R' N → LL H' R' v r.2 → Fresh H v → Q v H'
theorem Ret.after {C p : Addr} {H H1 : Hp} {R R1 : List Addr} {N N1 : Nat} {h1 : HS} {r : HS × List Letter} {Q : VK} (k : Ret C p H R N r Q) (m : Move C p H R H1 h1 R1 N1) : Ret C p H1 R1 N r Q := fun v H' R' m' l f => k v H' R' (m.trans m') l fun a e => m.free (f a e)
theorem Ret.same {C p : Addr} {H H1 : Hp} {R : List Addr} {N : Nat} {r : HS × List Letter} {Q : VK} {h : HS} {M : Nat} (k : Ret C p H R N r Q) (I : HouseAt C H p h R M) (s : Same H H1) : Ret C p H1 R N r Q := k.after (I.move s)
theorem Ret.done {C p : Addr} {H H' : Hp} {R : List Addr} {N M : Nat} {h : HS} {ls : List Letter} {Q : VK} {v : V} (k : Ret C p H R N (h, ls) Q) (I : HouseAt C H p h R M) (hM : M ≤ N) (s : Same H H') (r : LL H' R v ls) (f : Fresh H v) : Q v H' := k v H' R ((I.move s).more hM) r f
theorem Ret.nil {C p : Addr} {H H' : Hp} {R : List Addr} {N M : Nat} {h : HS} {Q : VK} {l : Addr} (k : Ret C p H R N (h, []) Q) (I : HouseAt C H p h R M) (hM : M ≤ N) (s : Same H H') (hl : H l = none) (g : H' l = some (.lst [])) : Q (.ref l) H' :=
 k.done I hM s ⟨_, _, rfl, g, notin_new (by obtain ⟨dx, po, pa, pk, pc, xs, kvs, I⟩ := I; exact I.trk) hl, .nil⟩ (by rintro _ ⟨⟩; exact hl)
def zsp0i (C : Addr) : Sp := fun vs H Q _ => ∃ p n w h R N, vs = [.ref p, .int n, .str w] ∧ HouseAt C H p h R N ∧ N ≤ 800000 ∧ h.oth.length ≤ 900000 ∧ PyData.strOk w = true ∧ Ret C p H R (N + 1) (h.decide n w) Q
theorem zrd0i {K : PySem.W.Frag} {C : Addr} {vs : List V} {H : Hp} {Q : VK} {E : XK} (T : HouseTxt K C) (h : zsp0i C vs H Q E) : zR0i K (zsp0o C) (zsp07 C) C { nx := fun _ H' => Q .non H', rt := Q } (start ["self", "bargain", "word"] vs) H := by
 obtain ⟨p, n, w, h, R, N, rfl, I, hN, hol, okw, k⟩ := h
 obtain ⟨dx, po, pa, pk, pc, xs, kvs, I0⟩ := id I
 have ob := I0.ob
 unfold zR0i
 walk_at "go"
 refine ⟨p, w, n, h, R, N, rfl, I, by omega, okw, fun H1 m => ?_⟩
 obtain ⟨dx1, po1, pa1, pk1, pc1, xs1, kvs1, I1⟩ := id m.at_
 have ob1 := I1.ob
 walk_at "go"
 refine ⟨p, n, w, h.wr w n, R, N + 1, rfl, m.at_, hol, fun v H2 s2 r f => ?_⟩
 exact (k.after m).done m.at_ (Nat.le_refl _) s2 r f
theorem okS {w : Str} (h : w ∈ ([("ask" : Str), "yes", "no", "bound", "off", "query", "open"] : List Str)) : PyData.strOk w = true := by
 simp only [List.mem_cons, List.not_mem_nil, or_false] at h
 rcases h with rfl | rfl | rfl | rfl | rfl | rfl | rfl <;> decide +kernel
theorem in_ints (x : Int) (ws : List Int) : inV (.int x) (ws.map .int) = decide (x ∈ ws) := by
 unfold inV
 rw [List.any_map]
 induction ws with
 | nil => rfl
 | cons w r ih =>
  rw [List.any_cons, ih]
  show ((w == x) || decide (x ∈ r)) = decide (x ∈ w :: r)
  by_cases e : x = w
  ·subst e; simp
  ·have e' : ¬ w = x := fun z => e z.symm
   simp [e, e']
def zsp0r (C : Addr) : Sp := fun vs H Q _ => ∃ p n h R N, vs = [.ref p, .int n] ∧ HouseAt C H p h R N ∧ N ≤ 800000 ∧ h.oth.length ≤ 900000 ∧ Ret C p H R (N + 1) (h.begin n) Q
theorem zrd0r {K : PySem.W.Frag} {C : Addr} {vs : List V} {H : Hp} {Q : VK} {E : XK} (T : HouseTxt K C) (h : zsp0r C vs H Q E) : zR0r K (zsp0o C) (zsp07 C) C { nx := fun _ H' => Q .non H', rt := Q } (start ["self", "bargain"] vs) H := by
 obtain ⟨p, n, h, R, N, rfl, I, hN, hol, k⟩ := h
 obtain ⟨cl, f1, f2, f3, f4, f5, f6, f7, f8⟩ := T
 obtain ⟨dx, po, pa, pk, pc, xs, kvs, I0⟩ := id I
 have ob := I0.ob
 have ag := I0.ag
 unfold zR0r
 walk_at "go"
 show if (if false = true then _ else inV (.int n) _) = true then _ else _
 rw [if_neg (by decide : ¬ (false = true)), in_ints]
 unfold HS.begin at k
 by_cases e : n ∈ h.agn
 ·rw [if_pos (decide_eq_true e)]
  rw [if_pos e] at k
  walk_at "go"
  refine ⟨p, "no", n, h, R, N, rfl, I, by omega, okS (by simp), fun H1 m => ?_⟩
  walk_at "goA"
  rename_i l hl H2 s2 g2
  exact (k.after m).nil m.at_ (Nat.le_refl _) s2 hl g2
 ·rw [if_neg (by simpa using e)]
  rw [if_neg e] at k
  walk_at "go"
  refine ⟨p, "open", n, h, R, N, rfl, I, by omega, okS (by simp), fun H1 m => ?_⟩
  obtain ⟨dx1, po1, pa1, pk1, pc1, xs1, kvs1, I1⟩ := id m.at_
  have ob1 := I1.ob
  walk_at "go"
  refine ⟨p, n, "ask", h.wr "open" n, R, N + 1, rfl, m.at_, hol, fun v H2 s2 r f => ?_⟩
  exact (k.after m).done m.at_ (Nat.le_refl _) s2 r f
theorem HouseIn.rep {C : Addr} {H : Hp} {p : Addr} {h : HS} {R : List Addr} {N : Nat} {dx po pa pk pc : Addr} {xs : List V} {kvs : Pg} (I : HouseIn C H p h R N dx po pa pk pc xs kvs) : Rep H [] (.ref pk) (bookD h.book) := .lst (.inl I.bk) (by simp) I.bs
theorem hfs_read (num : Int) (po pa pk : Addr) (u : Bool) (pc pp : Addr) (nr m : Nat) : putF "lines_read" (.int m) (hfs num po pa pk u pc pp nr) = hfs num po pa pk u pc pp m := by with_unfolding_all rfl
def zsp0x (C : Addr) : Sp := fun vs H Q _ => ∃ p n h R N, vs = [.ref p, .int n] ∧ HouseAt C H p h R N ∧ N ≤ 900000 ∧ ∀ q H' R', Move C p H R H' h R' N → Rep H' [] (.ref q) (bookD (pageOf h.book n)) → Q (.ref q) H'
theorem zrd0x {K : PySem.W.Frag} {C : Addr} {vs : List V} {H : Hp} {Q : VK} {E : XK} (T : HouseTxt K C) (h : zsp0x C vs H Q E) : zR0x K { nx := fun _ H' => Q .non H', rt := Q } (start ["self", "bargain", "line"] vs) H := by
  obtain ⟨p, n, h, R, N, rfl, ⟨dx, po, pa, pk, pc, xs, z, I⟩, hN, k⟩ := h
  obtain ⟨cl, f1, f2, f3, f4, f5, f6, f7, f8⟩ := T
  unfold zR0x
  refine st_seq ?_
  refine ⟨fun m σ H' => ∃ v R' z', σ = [some (.ref p), some (.int n), v] ∧ m = h.book.length - z'.nr ∧ HouseIn C H' p h R' N dx po pa pk pc xs z' ∧ Chg R H H' ∧ Grow R H R' ∧ ∀ a ∈ R, a ∈ R',
    ⟨_, none, R, z, rfl, rfl, I, .refl _ _, .refl _ _, fun _ h => h⟩, ?_⟩
  rintro m σ H1 ⟨v, R1, z1, rfl, rfl, I1, c1, g1, sb1⟩
  have ob1 := I1.ob
  have bk1 := I1.bk
  have hxl : xs.length = h.book.length := by rw [I1.bs.length, List.length_map]
  have hbl := I1.l1
  have hnr := I1.l5
  walk_at "go"
  by_cases lt : z1.nr < h.book.length
  · rw [if_pos (by simp only [decide_eq_true_eq]; show (z1.nr : Int) < (xs.length : Int); omega)]
    refine ⟨fun σ' H' => ∃ m', m' < h.book.length - z1.nr ∧ ∃ v R' z', σ' = [some (.ref p), some (.int n), v] ∧ m' = h.book.length - z'.nr ∧ HouseIn C H' p h R' N dx po pa pk pc xs z' ∧ Chg R H H' ∧ Grow R H R' ∧ ∀ a ∈ R, a ∈ R', fun σ' H' q => q, ?_⟩
    have hget : ∃ l, h.book[z1.nr]? = some l := ⟨_, List.getElem?_eq_getElem lt⟩
    obtain ⟨l, hl⟩ := hget
    obtain ⟨x, hx, rx⟩ := I1.bs.getD (i := z1.nr) (d := lineD l) (by rw [List.getElem?_map, hl]; rfl)
    obtain ⟨t, ys, rfl, rt, rs⟩ := rx.tup_inv
    obtain ⟨y1, r1, rfl, h1, t1⟩ := rs.cons_inv
    obtain ⟨y2, r2, rfl, h2, t2⟩ := t1.cons_inv
    cases t2.nil_inv
    rw [h1.str_inv, h2.int_inv] at rt
    have htk : h.book.take (z1.nr + 1) = h.book.take z1.nr ++ [l] := take_snoc hl
    walk_at "go"
    refine st_ixL (sqL bk1) (atI_nat hx) ?_
    have after : ∀ (q : Addr) (H5 : Hp) (R5 : List Addr) (z5 : Pg) (D : Ends), z5.nr = z1.nr → D.nx = (fun σ' H' => ∃ m', m' < h.book.length - z1.nr ∧ ∃ v R' z', σ' = [some (.ref p), some (.int n), v] ∧ m' = h.book.length - z'.nr ∧ HouseIn C H' p h R' N dx po pa pk pc xs z' ∧ Chg R H H' ∧ Grow R H R' ∧ ∀ a ∈ R, a ∈ R') →
        HouseI0 C H5 p h R5 N dx po pa pk pc xs z5 → z5.pvs.length ≤ z1.nr + 1 → Chg R H H5 → Grow R H R5 → (∀ a ∈ R, a ∈ R5) → valV z5.pvs (Sum.inl l.2 : Key) = some (.ref q) → Rd H5 t (.tup [.str l.1, .int l.2]) →
        tyV K "list" (.ref q) H5 ∧ (tCons (tVar 2) tNil) [some (.ref p), some (.int n), some (.ref t)] H5 (fun ys H6 => rAppend (.ref q) ys H6 fun _ H7 => sFldAug K (tVar 0) (tC (.int 1)) rAdd "lines_read" D [some (.ref p), some (.int n), some (.ref t)] H7) := by
      intro q H5 R5 z5 D hnr5 hD I5 hl5 c5 g5 sb5 hv rt5
      have P5 := I5.pt
      rw [hnr5] at P5
      obtain ⟨q', ws, eq, gq, rq, mq, no, na, nk⟩ := P5.yes _ _ hv
      cases eq
      refine ⟨.inl ⟨rfl, _, sqL gq⟩, ?_⟩
      have hwl : ws.length ≤ h.book.length := by
        rw [rq.length, List.length_map]
        exact Nat.le_trans (pageOf_len _ _) (by rw [List.length_take]; omega)
      walk_at "go"
      refine st_append gq (len_small (by omega)) ?_
      have c6 : Chg R5 H5 (upd H5 q (.lst (ws ++ [.ref t]))) := .set (by rw [gq]; exact True.intro) mq
      have kp : ∀ a o, a ≠ q → H5 a = some o → upd H5 q (.lst (ws ++ [.ref t])) a = some o := fun a o e z => upd_at e z
      have nq : ∀ {a : Addr} {o : HO}, H5 a = some o → o ≠ .lst ws → a ≠ q := fun z1 z2 => ne_of z1 gq z2
      have npq : p ≠ q := nq I5.ob (by intro z; cases z)
      have ob6 := kp _ _ npq I5.ob
      have gq6 : upd H5 q (.lst (ws ++ [.ref t])) q = some (.lst (ws ++ [.ref t])) := upd_same
      generalize upd H5 q (.lst (ws ++ [.ref t])) = H6 at *
      refine ⟨_, rfl, p, C, dx, _, _, rfl, ob6, cl, f8, by with_unfolding_all rfl, _, _, rfl, rfl, dx, _, ob6, (by show 8 < 1000; decide), ?_⟩
      rw [hnr5, (by omega : ((z1.nr : Int) + 1) = ((z1.nr + 1 : Nat) : Int)), hfs_read, hD]
      have c7 : Chg R5 H6 (upd H6 p (.ins C dx (hfs h.num po pa pk h.up pc z5.pp (z1.nr + 1)))) := .set (by rw [ob6]; exact True.intro) I5.m1
      have c57 := c6.trans c7
      have kq : ∀ a o, a ≠ q → a ≠ p → H5 a = some o → upd H6 p (.ins C dx (hfs h.num po pa pk h.up pc z5.pp (z1.nr + 1))) a = some o := fun a o e e' z => upd_at e' (kp _ _ e z)
      have np : ∀ {a : Addr} {o : HO}, H5 a = some o → o ≠ .ins C dx (hfs h.num po pa pk h.up pc z5.pp z5.nr) → a ≠ p := fun z1 z2 => ne_of z1 I5.ob z2
      have gq7 : upd H6 p (.ins C dx (hfs h.num po pa pk h.up pc z5.pp (z1.nr + 1))) q = some (.lst (ws ++ [.ref t])) := upd_at npq.symm gq6
      have tr7 : ∀ a ∈ R5, ∃ o, upd H6 p (.ins C dx (hfs h.num po pa pk h.up pc z5.pp (z1.nr + 1))) a = some o := trk_upd fun a ha => by
        by_cases e : a = q
        · subst e; exact ⟨_, gq6⟩
        · obtain ⟨o, eo⟩ := I5.trk a ha; exact ⟨o, kp _ _ e eo⟩
      have rt7 : Rd (upd H6 p (.ins C dx (hfs h.num po pa pk h.up pc z5.pp (z1.nr + 1)))) t (.tup [.str l.1, .int l.2]) := by
        rcases rt5 with e | ⟨o, e⟩
        · exact .inl (c57.tups _ _ e)
        · exact .inr ⟨o, c57.frzs _ _ _ e⟩
      refine ⟨h.book.length - (z1.nr + 1), by omega, _, R5, { z5 with nr := z1.nr + 1 }, rfl, rfl, ?_, c5.grow g5 c57, g5, sb5⟩
      exact { ob := upd_same, ot := kq _ _ no.symm (np I5.ot (by intro z; cases z)) I5.ot, ag := kq _ _ na.symm (np I5.ag (by intro z; cases z)) I5.ag, bk := kq _ _ nk.symm (np I5.bk (by intro z; cases z)) I5.bk,
              bs := lines_chg I5.bs c57, cn := kq _ _ (nq I5.cn (by intro z; cases z)) (np I5.cn (by intro z; cases z)) I5.cn, pg := kq _ _ (nq I5.pg (by intro z; cases z)) (np I5.pg (by intro z; cases z)) I5.pg,
              ct := ⟨I5.ct.no, fun m v hm => (by obtain ⟨q2, e2, h2, h3⟩ := I5.ct.yes m v hm; exact ⟨q2, e2, kq _ _ (nq h2 (by intro z; cases z)) (np h2 (by intro z; cases z)) h2, h3⟩), I5.ct.inj⟩,
              pt := (by
                show PagAt _ z5.pvs (h.book.take (z1.nr + 1)) _ _ _ _
                rw [htk]
                refine ⟨fun m hm => ?_, fun m v hm => ?_, P5.inj⟩
                · rw [pageOf_snoc, if_neg (by rintro rfl; rw [hv] at hm; cases hm)]
                  exact P5.no m hm
                · rw [pageOf_snoc]
                  by_cases e : l.2 = m
                  · subst e
                    rw [hv] at hm
                    cases hm
                    rw [if_pos rfl, List.map_append]
                    exact ⟨q, _, rfl, gq7, (lines_chg rq c57).snoc (.tup rt7 (.cons (.str _) (.cons (.int _) .nil))), mq, no, na, nk⟩
                  · rw [if_neg e]
                    obtain ⟨q2, w2, e2, h2, h3, h4, h5⟩ := P5.yes m v hm
                    subst e2
                    exact ⟨q2, w2, rfl, kq _ _ (by rintro rfl; exact e (P5.inj _ _ _ hv hm)) (np h2 (by intro z; cases z)) h2, lines_chg h3 c57, h4, h5⟩),
              n1 := I5.n1, n2 := I5.n2, n3 := I5.n3, m1 := I5.m1, m2 := I5.m2, m3 := I5.m3, m4 := I5.m4, m5 := I5.m5, m6 := I5.m6, trk := tr7, l1 := I5.l1, l2 := I5.l2, l3 := I5.l3, l5 := lt, okb := I5.okb, l4 := hl5 }
    have pg1 := I1.pg
    have n1l : H1 = H1 := rfl
    walk_at "go"
    walk_at "new"
    rename_i p1 hp1 H2 s2 g2
    have I2 := I1.same s2
    refine ⟨z1.pvs, Sum.inl l.2, I2.pg, rfl, len_small (by have := I2.l4; omega), fun v hv => ?_, fun hn => ?_⟩
    · obtain ⟨q, ws, rfl, _⟩ := I2.pt.yes _ _ hv
      exact after q H2 R1 z1 _ rfl rfl I2.toHouseI0 (Nat.le_succ_of_le I2.l4) (c1.trans (.of_same s2)) g1 sb1 hv (rt.same s2)
    · have hval : ∀ m : Int, valV (putK z1.pvs (Sum.inl l.2 : Key) (V.ref p1)) (Sum.inl m : Key) = if m = l.2 then some (.ref p1) else valV z1.pvs (Sum.inl m : Key) := fun m => by
        rw [valV_put]
        by_cases e : m = l.2
        · subst e; simp
        · rw [if_neg e, if_neg (by intro y; exact e (Sum.inl.inj y))]
      have c3 : Chg R1 H2 (upd H2 z1.pp (.dK (putK z1.pvs (Sum.inl l.2 : Key) (V.ref p1)))) := .set (by rw [I2.pg]; exact True.intro) I2.m6
      have kp : ∀ a o, a ≠ z1.pp → H2 a = some o → upd H2 z1.pp (.dK (putK z1.pvs (Sum.inl l.2 : Key) (V.ref p1))) a = some o := fun a o e z => upd_at e z
      have nq : ∀ {a : Addr} {o : HO}, H2 a = some o → o ≠ .dK z1.pvs → a ≠ z1.pp := fun z1 z2 => ne_of z1 I2.pg z2
      have gr : Grow R H (p1 :: R1) := fun a ha => by
        rcases List.mem_cons.mp ha with rfl | y
        · refine .inr ?_
          cases e : H a with
          | none => rfl
          | some o =>
            by_cases m : a ∈ R
            · obtain ⟨o', e'⟩ := I1.trk a (sb1 a m)
              rw [hp1] at e'; cases e'
            · rw [c1.keep a o e m] at hp1; cases hp1
        · exact g1 a y
      refine after p1 _ (p1 :: R1) { z1 with pvs := putK z1.pvs (Sum.inl l.2 : Key) (V.ref p1) } _ rfl rfl ?_ (Nat.le_trans (length_putK _ _ _) (Nat.succ_le_succ I2.l4)) ((c1.trans (.of_same s2)).grow g1 c3) gr (fun a ha => List.mem_cons_of_mem _ (sb1 a ha)) (by rw [hval, if_pos rfl]) ?_
      · exact { ob := kp _ _ (nq I2.ob (by intro z; cases z)) I2.ob, ot := kp _ _ (nq I2.ot (by intro z; cases z)) I2.ot, ag := kp _ _ (nq I2.ag (by intro z; cases z)) I2.ag, bk := kp _ _ (nq I2.bk (by intro z; cases z)) I2.bk,
                bs := lines_chg I2.bs c3, cn := kp _ _ I2.n3 I2.cn, pg := upd_same,
                ct := ⟨I2.ct.no, fun m v hm => (by obtain ⟨q2, e2, h2, h3, h4, h5⟩ := I2.ct.yes m v hm; exact ⟨q2, e2, kp _ _ h5 h2, List.mem_cons_of_mem _ h3, h4, h5⟩), I2.ct.inj⟩,
                pt := ⟨fun m hm => (by
                        rw [hval] at hm
                        by_cases e : m = l.2
                        · rw [if_pos e] at hm; cases hm
                        · rw [if_neg e] at hm; exact I2.pt.no m hm),
                      fun m v hm => (by
                        rw [hval] at hm
                        by_cases e : m = l.2
                        · rw [if_pos e] at hm
                          cases hm
                          subst e
                          refine ⟨p1, [], rfl, kp _ _ (nq g2 (by intro z; cases z)) g2, ?_, by simp, ?_, ?_, ?_⟩
                          · show Reps _ _ _ ((pageOf (h.book.take z1.nr) l.2).map lineD)
                            rw [I2.pt.no _ hn]; exact .nil
                          · exact (ne_new hp1 I1.ot).symm
                          · exact (ne_new hp1 I1.ag).symm
                          · exact (ne_new hp1 I1.bk).symm
                        · rw [if_neg e] at hm
                          obtain ⟨q2, w2, e2, h2, h3, h4, h5⟩ := I2.pt.yes m v hm
                          exact ⟨q2, w2, e2, kp _ _ (nq h2 (by intro z; cases z)) h2, lines_chg h3 c3, List.mem_cons_of_mem _ h4, h5⟩),
                      fun m m2 q h1 h2 => (by
                        rw [hval] at h1 h2
                        have fresh : ∀ r, valV z1.pvs (Sum.inl r : Key) = some (.ref p1) → False := fun r hr => by
                          obtain ⟨q2, w2, e2, h3, _⟩ := I1.pt.yes r _ hr
                          cases e2
                          rw [hp1] at h3
                          cases h3
                        by_cases e1 : m = l.2
                        · by_cases e2 : m2 = l.2
                          · rw [e1, e2]
                          · rw [if_pos e1] at h1; rw [if_neg e2] at h2
                            cases h1
                            exact (fresh _ h2).elim
                        · by_cases e2 : m2 = l.2
                          · rw [if_neg e1] at h1; rw [if_pos e2] at h2
                            cases h2
                            exact (fresh _ h1).elim
                          · rw [if_neg e1] at h1; rw [if_neg e2] at h2
                            exact I2.pt.inj m m2 q h1 h2)⟩,
                n1 := I2.n1, n2 := I2.n2, n3 := I2.n3, m1 := List.mem_cons_of_mem _ I2.m1, m2 := List.mem_cons_of_mem _ I2.m2, m3 := List.mem_cons_of_mem _ I2.m3, m4 := List.mem_cons_of_mem _ I2.m4, m5 := List.mem_cons_of_mem _ I2.m5, m6 := List.mem_cons_of_mem _ I2.m6,
                trk := trk_upd fun a ha => (by
                  rcases List.mem_cons.mp ha with rfl | y
                  · exact ⟨_, g2⟩
                  · exact I2.trk a y),
                l1 := I2.l1, l2 := I2.l2, l3 := I2.l3, l5 := I2.l5, okb := I2.okb }
      · rcases rt.same s2 with e | ⟨o, e⟩
        · exact .inl (c3.tups _ _ e)
        · exact .inr ⟨o, c3.frzs _ _ _ e⟩
  · rw [if_neg (by simp only [decide_eq_true_eq]; show ¬ (z1.nr : Int) < (xs.length : Int); omega)]
    have pg1 := I1.pg
    walk_at "goA"
    rename_i p1 hp1 H2 s2 g2
    have I2 := I1.same s2
    have m2 : Move C p H R H2 h R1 N := ⟨⟨_, _, _, _, _, _, _, I2⟩, c1.trans (.of_same s2), g1, sb1⟩
    have hall : h.book.take z1.nr = h.book := List.take_of_length_le (by omega)
    have P2 := I2.pt
    rw [hall] at P2
    cases hv : valV z1.pvs (Sum.inl n : Key) with
    | none => exact k p1 _ _ m2 (by rw [P2.no _ hv]; exact .lst (.inl g2) (by simp) .nil)
    | some v =>
      obtain ⟨q, ws, rfl, gq, rq, _⟩ := P2.yes _ _ hv
      exact k q _ _ m2 (.lst (.inl gq) (by simp) rq)
def zsp0c (C : Addr) : Sp := fun vs H Q _ => ∃ p n h R N, vs = [.ref p, .int n] ∧ HouseAt C H p h R N ∧ N ≤ 900000 ∧ ∀ H' R', Move C p H R H' h R' N → Q (optV (decisionIn h.book n)) H'
theorem zrd0c {K : PySem.W.Frag} {C : Addr} {vs : List V} {H : Hp} {Q : VK} {E : XK} (T : HouseTxt K C) (h : zsp0c C vs H Q E) : zR0c K zsp0l (zsp0x C) C { nx := fun _ H' => Q .non H', rt := Q } (start ["self", "bargain"] vs) H := by
 obtain ⟨p, n, h, R, N, rfl, I, hN, k⟩ := h
 obtain ⟨dx, po, pa, pk, pc, xs, kvs, I0⟩ := id I
 have ob := I0.ob
 have hl1 := I0.l1
 unfold zR0c
 walk_at "go"
 refine ⟨p, n, h, R, N, rfl, I, hN, fun q H1 R1 m1 r1 => ?_⟩
 walk_at "go"
 refine ⟨q, pageOf h.book n, n, rfl, r1, Nat.le_trans (pageOf_len _ _) (by omega), fun H2 s2 => ?_⟩
 rw [pageOf_dec]
 exact k _ _ (m1.trans (m1.at_.move s2))
def zsp0d (C : Addr) : Sp := fun vs H Q _ => ∃ p g n h R N, vs = [.ref p, .int g, .int n] ∧ HouseAt C H p h R N ∧ N ≤ 800000 ∧ Ret C p H R (N + 1) (h.gotAsk g n) Q
theorem zrd0d {K : PySem.W.Frag} {C : Addr} {vs : List V} {H : Hp} {Q : VK} {E : XK} (T : HouseTxt K C) (h : zsp0d C vs H Q E) : zR0d K zsp1i (zsp0x C) (zsp0o C) (zsp0c C) (zsp0k C) C { nx := fun _ H' => Q .non H', rt := Q } (start ["self", "giver", "bargain"] vs) H := by
 obtain ⟨p, g, n, h, R, N, rfl, I, hN, k⟩ := h
 obtain ⟨cl, f1, f2, f3, f4, f5, f6, f7, f8⟩ := T
 obtain ⟨dx, po, pa, pk, pc, xs, kvs, I0⟩ := id I
 have ob := I0.ob
 have hl1 := I0.l1
 unfold zR0d
 refine st_cut (fun σ' H' => σ' = [some (.ref p), some (.int g), some (.int n)] ∧ ∃ R', Move C p H R H' (h.asked n) R' (N + 1)) ?_ ?_
 ·walk_at "go"
  refine ⟨p, n, h, R, N, rfl, I, by omega, fun q H0 R0 m0 r0 => ?_⟩
  walk_at "go"
  refine ⟨q, pageOf h.book n, n, rfl, r0, Nat.le_trans (pageOf_len _ _) (by omega), fun H1 s1 => ?_⟩
  rw [pageOf_words]
  have m1 := m0.trans (m0.at_.move s1)
  obtain ⟨dx1, po1, pa1, pk1, pc1, xs1, kvs1, I1⟩ := id m1.at_
  have ob1 := I1.ob
  have ag1 := I1.ag
  walk_at "go"
  unfold HS.asked
  by_cases e : wordsOf h.book n = []
  ·rw [if_pos (by simp [e]), if_pos e]
   walk_at "go"
   show if (if false = true then _ else inV (.int n) _) = true then _ else _
   rw [if_neg (by decide : ¬ (false = true)), in_ints]
   by_cases e2 : n ∈ h.agn
   ·rw [if_pos (decide_eq_true e2), if_pos e2]
    walk_at "go"
    exact ⟨p, "no", n, h, R0, N, rfl, m1.at_, by omega, okS (by simp), fun H2 m => ⟨rfl, _, m1.trans m⟩⟩
   ·rw [if_neg (by simpa using e2), if_neg e2]
    walk_at "go"
    exact ⟨p, "yes", n, h, R0, N, rfl, m1.at_, by omega, okS (by simp), fun H2 m => ⟨rfl, _, m1.trans m⟩⟩
  ·rw [if_neg (by simp [e]), if_neg e]
   walk_at "go"
   exact ⟨rfl, _, m1.more (by omega)⟩
 rintro σ' H1 ⟨rfl, R1, m⟩
 obtain ⟨dx1, po1, pa1, pk1, pc1, xs1, kvs1, I1⟩ := id m.at_
 have ob1 := I1.ob
 walk_at "go"
 refine ⟨p, n, h.asked n, R1, N + 1, rfl, m.at_, by omega, fun H2 R2 m2 => ?_⟩
 obtain ⟨dx2, po2, pa2, pk2, pc2, xs2, kvs2, I2⟩ := id m2.at_
 have ob2 := I2.ob
 walk_at "go"
 refine st_rEq (optV_scal _ _) ?_
 walk_at "go"
 rw [optV_eq]
 have hnum : (h.asked n).num = h.num := by unfold HS.asked HS.wr; split <;> rfl
 have kk := (k.after m).after m2
 unfold HS.gotAsk at kk
 by_cases e : decisionIn (h.asked n).book n = some ("off" : Str)
 ·rw [if_pos (decide_eq_true e)]
  rw [if_pos e] at kk
  walk_at "go"
  refine ⟨p, g, n, "no", h.asked n, R2, N + 1, rfl, m2.at_, fun v H3 s3 r f => ?_⟩
  rw [hnum] at r
  exact kk.done m2.at_ (Nat.le_refl _) s3 r f
 ·rw [if_neg (by simpa using e)]
  rw [if_neg e] at kk
  walk_at "go"
  refine ⟨p, g, n, "yes", h.asked n, R2, N + 1, rfl, m2.at_, fun v H3 s3 r f => ?_⟩
  rw [hnum] at r
  exact kk.done m2.at_ (Nat.le_refl _) s3 r f
def zsp01 (C : Addr) : Sp := fun vs H Q _ => ∃ p n w h R N, vs = [.ref p, .int n, .str w] ∧ HouseAt C H p h R N ∧ N ≤ 800000 ∧ PyData.strOk w = true ∧ Ret C p H R (N + 1) (h.gotDecision n w) Q
theorem zrd01 {K : PySem.W.Frag} {C : Addr} {vs : List V} {H : Hp} {Q : VK} {E : XK} (T : HouseTxt K C) (h : zsp01 C vs H Q E) : zR01 K (zsp0c C) (zsp0o C) C { nx := fun _ H' => Q .non H', rt := Q } (start ["self", "bargain", "word"] vs) H := by
 obtain ⟨p, n, w, h, R, N, rfl, I, hN, okw, k⟩ := h
 obtain ⟨cl, f1, f2, f3, f4, f5, f6, f7, f8⟩ := T
 obtain ⟨dx, po, pa, pk, pc, xs, kvs, I0⟩ := id I
 have ob := I0.ob
 unfold zR01
 refine st_cut (fun σ' H' => ∃ R', Move C p H R H' (h.gotDecision n w).1 R' (N + 1)) ?_ ?_
 ·walk_at "go"
  refine ⟨p, n, h, R, N, rfl, I, by omega, fun H1 R1 m1 => ?_⟩
  obtain ⟨dx1, po1, pa1, pk1, pc1, xs1, kvs1, I1⟩ := id m1.at_
  have ob1 := I1.ob
  walk_at "go"
  rw [optV_non]
  unfold HS.gotDecision
  by_cases e : decisionIn h.book n = none
  ·rw [if_pos (decide_eq_true e), if_pos e]
   walk_at "go"
   exact ⟨p, w, n, h, R1, N, rfl, m1.at_, by omega, okw, fun H2 m => ⟨_, m1.trans m⟩⟩
  ·rw [if_neg (by simpa using e), if_neg e]
   walk_at "go"
   exact ⟨_, m1.more (by omega)⟩
 rintro σ' H1 ⟨R1, m⟩
 walk_at "goA"
 rename_i l hl H2 s2 g2
 exact (k.after m).nil m.at_ (Nat.le_refl _) s2 hl g2
def zsp08 (C : Addr) : Sp := fun vs H Q _ => ∃ p g n h R N, vs = [.ref p, .int g, .int n] ∧ HouseAt C H p h R N ∧ N ≤ 800000 ∧ h.oth.length ≤ 900000 ∧ Ret C p H R (N + 1) (h.gotQuery g n) Q
theorem zrd08 {K : PySem.W.Frag} {C : Addr} {vs : List V} {H : Hp} {Q : VK} {E : XK} (T : HouseTxt K C) (h : zsp08 C vs H Q E) :
  zR08 K zsp13 zsp1i (zsp0x C) (zsp0c C) (zsp0k C) (zsp0i C) (zsp0o C) C { nx := fun _ H' => Q .non H', rt := Q } (start ["self", "giver", "bargain", "decided"] vs) H := by
 obtain ⟨p, g, n, h, R, N, rfl, I, hN, hol, k⟩ := h
 obtain ⟨cl, f1, f2, f3, f4, f5, f6, f7, f8⟩ := T
 obtain ⟨dx, po, pa, pk, pc, xs, kvs, I0⟩ := id I
 have ob := I0.ob
 have hl1 : h.book.length ≤ 1000000 := Nat.le_trans I0.l1 (by omega)
 have hlp : (pageOf h.book n).length ≤ 1000000 := Nat.le_trans (pageOf_len _ _) hl1
 unfold zR08
 unfold HS.gotQuery at k
 walk_at "go"
 refine ⟨p, n, h, R, N, rfl, I, by omega, fun q H0 R0 m0 r0 => ?_⟩
 walk_at "go"
 refine ⟨q, pageOf h.book n, n, rfl, r0, hlp, fun H1 s1 => ?_⟩
 rw [pageOf_unsure]
 have m1 := m0.trans (m0.at_.move s1)
 obtain ⟨dx1, po1, pa1, pk1, pc1, xs1, kvs1, I1⟩ := id m1.at_
 have ob1 := I1.ob
 have k1 := k.after m1
 walk_at "go"
 by_cases e : unsure h.book n = true
 ·rw [if_pos e]
  rw [if_pos e] at k1
  walk_at "goA"
  rename_i l hl H2 s2 g2
  exact k1.nil m1.at_ (by omega) s2 hl g2
 rw [if_neg e]
 rw [if_neg e] at k1
 walk_at "go"
 refine ⟨p, n, h, R0, N, rfl, m1.at_, by omega, fun H2 R2 m2 => ?_⟩
 obtain ⟨dx2, po2, pa2, pk2, pc2, xs2, kvs2, I2⟩ := id m2.at_
 have ob2 := I2.ob
 have k2 := k1.after m2
 have J2 := m2.at_
 cases ed : decisionIn h.book n with
 | some d =>
  rw [ed] at k2
  walk_at "go"
  rw [if_pos (by simp [optV])]
  walk_at "go"
  exact ⟨p, g, n, d, h, R2, N, rfl, J2, fun v H3 s3 r f => k2.done J2 (by omega) s3 r f⟩
 | none =>
  rw [ed] at k2
  walk_at "go"
  rw [if_neg (by simp [optV])]
  walk_at "go"
  refine ⟨p, n, h, R2, N, rfl, J2, by omega, fun q3 H3 R3 m3 r3 => ?_⟩
  walk_at "go"
  refine ⟨q3, pageOf h.book n, n, rfl, r3, hlp, fun H4 s4 => ?_⟩
  rw [pageOf_words]
  have m4 := m3.trans (m3.at_.move s4)
  obtain ⟨dx4, po4, pa4, pk4, pc4, xs4, kvs4, I4⟩ := id m4.at_
  have ob4 := I4.ob
  have k4 := k2.after m4
  have J4 := m4.at_
  walk_at "go"
  by_cases e3 : wordsOf h.book n = []
  ·rw [if_neg (by simp [e3])]
   simp only [if_pos e3] at k4
   walk_at "go"
   refine ⟨p, "no", n, h, R3, N, rfl, J4, by omega, okS (by simp), fun H5 m => ?_⟩
   obtain ⟨dx5, po5, pa5, pk5, pc5, xs5, kvs5, I5⟩ := id m.at_
   have ob5 := I5.ob
   walk_at "go"
   exact ⟨p, g, n, "off", h.wr "no" n, R3, N + 1, rfl, m.at_, fun v H5 s5 r f => (k4.after m).done m.at_ (Nat.le_refl _) s5 r f⟩
  ·rw [if_pos (by simp [e3])]
   simp only [if_neg e3] at k4
   walk_at "go"
   exact ⟨p, n, "off", h, R3, N, rfl, J4, hN, hol, okS (by simp), k4⟩
theorem put_gv (g : Int) (gs : List Int) : putK (gs.map gv) (Sum.inl g : Key) (V.bl true) = (addG g gs).map gv := by
 unfold putK addG
 have e : ((gs.map gv).any fun kv => decide (kv.1 = (Sum.inl g : Key))) = decide (g ∈ gs) := by
  rw [List.any_map]
  induction gs with
  | nil => rfl
  | cons x r ih =>
   rw [List.any_cons, ih]
   show (decide ((Sum.inl x : Key) = Sum.inl g) || decide (g ∈ r)) = decide (g ∈ x :: r)
   by_cases z : g = x
   ·subst z; simp
   ·have z' : ¬ x = g := fun y => z y.symm
    simp [z, z']
 rw [e]
 by_cases m : g ∈ gs
 ·rw [if_pos (decide_eq_true m), if_pos m, List.map_map]
  refine List.map_congr_left fun x _ => ?_
  show (if (Sum.inl x : Key) = Sum.inl g then ((Sum.inl x : Key), V.bl true) else (Sum.inl x, V.bl true)) = _
  split <;> rfl
 ·rw [if_neg (by simpa using m), if_neg m, List.map_append]; rfl
theorem addG_len (g : Int) (gs : List Int) : (addG g gs).length ≤ gs.length + 1 := by unfold addG; split <;> simp
def zsp09 (C : Addr) : Sp := fun vs H Q _ => ∃ p g n w h R N, vs = [.ref p, .int g, .int n, .str w] ∧ HouseAt C H p h R N ∧ N ≤ 790000 ∧ h.oth.length ≤ 900000 ∧ Ret C p H R (N + 3) (h.gotVote g n w) Q
theorem zrd09 {K : PySem.W.Frag} {C : Addr} {vs : List V} {H : Hp} {Q : VK} {E : XK} (T : HouseTxt K C) (h : zsp09 C vs H Q E) :
    zR09 K (zsp0c C) (zsp0k C) (zsp0i C) C { nx := fun _ H' => Q .non H', rt := Q } (start ["self", "giver", "bargain", "word", "decided", "givers"] vs) H := by
  obtain ⟨p, g, n, w, h, R, N, rfl, I, hN, hol, k⟩ := h
  obtain ⟨cl, f1, f2, f3, f4, f5, f6, f7, f8⟩ := T
  obtain ⟨dx0, po0, pa0, pk0, pc0, xs0, kvs0, I0⟩ := id I
  have ob := I0.ob
  have hl1 : h.book.length ≤ 1000000 := Nat.le_trans I0.l1 (by omega)
  unfold zR09
  unfold HS.gotVote at k
  walk_at "go"
  refine ⟨p, n, h, R, N, rfl, I, by omega, fun H1 R1 m1 => ?_⟩
  obtain ⟨dx, po, pa, pk, pc, xs, kvs, I1⟩ := id m1.at_
  have J1 := m1.at_
  have ob1 := I1.ob
  have k1 := k.after m1
  cases ed : decisionIn h.book n with
  | some d =>
    rw [ed] at k1
    walk_at "go"
    rw [if_pos (by simp [optV])]
    walk_at "go"
    by_cases e : w = "yes"
    · rw [if_pos (by simp [e])]
      simp only [if_pos e] at k1
      walk_at "go"
      exact ⟨p, g, n, d, h, R1, N, rfl, J1, fun v H3 s3 r f => k1.done J1 (by omega) s3 r f⟩
    · rw [if_neg (by simp [e])]
      simp only [if_neg e] at k1
      walk_at "goA"
      rename_i l hl H2 s2 g2
      exact k1.nil J1 (by omega) s2 hl g2
  | none =>
    rw [ed] at k1
    walk_at "go"
    rw [if_neg (by simp [optV])]
    walk_at "go"
    by_cases e : w = "no"
    · rw [if_pos (by simp [e])]
      simp only [if_pos e] at k1
      walk_at "go"
      exact ⟨p, n, "off", h, R1, N, rfl, J1, by omega, hol, okS (by simp), fun v H' R' m => k1 v H' R' (m.more (by omega))⟩
    rw [if_neg (by simp [e])]
    simp only [if_neg e] at k1
    have after : ∀ (q : Addr) (H5 : Hp) (R5 : List Addr) (kvs5 : Pg) (D : Ends), D.rt = Q → HouseIn C H5 p h R5 (N + 1) dx po pa pk pc xs kvs5 → Chg R1 H1 H5 → Grow R1 H1 R5 → (∀ a ∈ R1, a ∈ R5) → valV kvs5.kvs (Sum.inl n : Key) = some (.ref q) →
        tSeq (sDPut (tVar 5) (tVar 1) (tC (.bl true)))
          (tSeq (tIfS (tTest (tOp rLtI (tCB rLenD (tCons (tVar 5) tNil)) (tCB (rLenQ K) (tCons (tFld K (tVar 0) "others") tNil)))) (tRet (tLst tNil)) tNext)
            (tRet (tMeth C "decide" (zsp0i C) [] E0 (tVar 0) (tCons (tVar 2) (tCons (tC (.str "bound")) tNil))))) D
          [some (.ref p), some (.int g), some (.int n), some (.str w), some (optV none), some (.ref q)] H5 := by
      intro q H5 R5 kvs5 D hrt I5 c5 g5 sb5 hv5
      obtain ⟨q', eq, gq, hqR, hqc, hqp⟩ := I5.ct.yes _ _ hv5
      cases eq
      walk_at "go"
      refine st_dputK gq (len_small (by rw [List.length_map]; have := I5.l3 n; omega)) ?_
      rw [put_gv]
      have nq : ∀ {a : Addr} {o : HO}, H5 a = some o → o ≠ .dK ((h.cnt n).map gv) → a ≠ q := fun z1 z2 => ne_of z1 gq z2
      have kp : ∀ a o, a ≠ q → H5 a = some o → upd H5 q (.dK ((addG g (h.cnt n)).map gv)) a = some o := fun a o e z => upd_at e z
      have c6 : Chg R5 H5 (upd H5 q (.dK ((addG g (h.cnt n)).map gv))) := .set (by rw [gq]; exact True.intro) hqR
      have I6 : HouseIn C (upd H5 q (.dK ((addG g (h.cnt n)).map gv))) p (h.count g n) R5 (N + 2) dx po pa pk pc xs kvs5 :=
        { ob := kp _ _ (nq I5.ob (by intro z; cases z)) I5.ob, ot := kp _ _ (nq I5.ot (by intro z; cases z)) I5.ot, ag := kp _ _ (nq I5.ag (by intro z; cases z)) I5.ag, bk := kp _ _ (nq I5.bk (by intro z; cases z)) I5.bk,
          bs := lines_chg I5.bs c6, cn := kp _ _ hqc.symm I5.cn, pg := kp _ _ hqp.symm I5.pg,
          pt := I5.pt.keep (fun _ h => h) (fun q2 w2 h2 _ _ _ _ => kp _ _ (nq h2 (by intro z; cases z)) h2) (fun b w2 r => lines_chg r c6), n3 := I5.n3, m6 := I5.m6, l4 := I5.l4, l5 := I5.l5,
          ct := ⟨fun m hm => (by
                  have hne : ¬ m = n := by rintro rfl; rw [hv5] at hm; cases hm
                  show (if m = n then _ else h.cnt m) = []
                  rw [if_neg hne]; exact I5.ct.no m hm),
                fun m v hm => (by
                  obtain ⟨q2, e2, h2, h3, h4⟩ := I5.ct.yes m v hm
                  refine ⟨q2, e2, ?_, h3, h4⟩
                  show _ = some (HO.dK ((if m = n then addG g (h.cnt n) else h.cnt m).map gv))
                  by_cases z : m = n
                  · subst z
                    rw [hv5] at hm
                    cases hm
                    cases e2
                    rw [if_pos rfl, upd_same]
                  · rw [if_neg z]
                    exact kp _ _ (by rintro rfl; rw [e2] at hm; exact z (I5.ct.inj _ _ _ hm hv5)) h2), I5.ct.inj⟩,
          n1 := I5.n1, n2 := I5.n2, m1 := I5.m1, m2 := I5.m2, m3 := I5.m3, m4 := I5.m4, m5 := I5.m5, trk := trk_upd I5.trk, l1 := Nat.le_succ_of_le I5.l1, l2 := Nat.le_succ_of_le I5.l2,
          l3 := fun m => (by
            show (if m = n then addG g (h.cnt n) else h.cnt m).length ≤ N + 2
            have h1 := I5.l3 m
            have h2 := I5.l3 n
            have h3 := addG_len g (h.cnt n)
            split <;> omega),
          okb := I5.okb }
      have m6 : Move C p H1 R1 (upd H5 q (.dK ((addG g (h.cnt n)).map gv))) (h.count g n) R5 (N + 2) := ⟨⟨_, _, _, _, _, _, _, I6⟩, c5.grow g5 c6, g5, sb5⟩
      have gq6 : upd H5 q (.dK ((addG g (h.cnt n)).map gv)) q = some (.dK ((addG g (h.cnt n)).map gv)) := upd_same
      have ob6 := I6.ob
      have ot6 := I6.ot
      have k6 := k1.after m6
      generalize upd H5 q (.dK ((addG g (h.cnt n)).map gv)) = H6 at *
      walk_at "go"
      by_cases e2 : (addG g (h.cnt n)).length < h.oth.length
      · rw [if_pos (by simp only [List.length_map, decide_eq_true_eq]; show ((addG g (h.cnt n)).length : Int) < (h.oth.length : Int); omega)]
        simp only [if_pos e2] at k6
        walk_at "goA"
        rename_i l hl H7 s7 g7
        rw [hrt]
        exact k6.nil m6.at_ (by omega) s7 hl g7
      · rw [if_neg (by simp only [List.length_map, decide_eq_true_eq]; show ¬ ((addG g (h.cnt n)).length : Int) < (h.oth.length : Int); omega)]
        simp only [if_neg e2] at k6
        walk_at "go"
        rw [hrt]
        exact ⟨p, n, "bound", h.count g n, R5, N + 2, rfl, m6.at_, by omega, hol, okS (by simp), k6⟩
    have cn1 := I1.cn
    walk_at "go"
    walk_at "new"
    rename_i p1 hp1 H2 s2 g2
    have I2 := I1.same s2
    refine ⟨kvs.kvs, Sum.inl n, I2.cn, rfl, len_small (by have := I2.l2; omega), fun v hv => ?_, fun hn => ?_⟩
    · obtain ⟨q, rfl, _⟩ := I2.ct.yes _ _ hv
      walk_at "st"
      exact after q H2 R1 kvs _ rfl (I2.more (by omega)) (.of_same s2) (.refl _ _) (fun _ h => h) hv
    · walk_at "st"
      have n1c : p1 ≠ pc := (ne_new hp1 cn1).symm
      have hval : ∀ m : Int, valV (putK kvs.kvs (Sum.inl n : Key) (V.ref p1)) (Sum.inl m : Key) = if m = n then some (.ref p1) else valV kvs.kvs (Sum.inl m : Key) := fun m => by
        rw [valV_put]
        by_cases z : m = n
        · subst z; simp
        · rw [if_neg z, if_neg (by intro y; exact z (Sum.inl.inj y))]
      have c3 : Chg R1 H2 (upd H2 pc (.dK (putK kvs.kvs (Sum.inl n : Key) (V.ref p1)))) := .set (by rw [I2.cn]; exact True.intro) I2.m5
      have kp : ∀ a o, a ≠ pc → H2 a = some o → upd H2 pc (.dK (putK kvs.kvs (Sum.inl n : Key) (V.ref p1))) a = some o := fun a o e z => upd_at e z
      have nq : ∀ {a : Addr} {o : HO}, H2 a = some o → o ≠ .dK kvs.kvs → a ≠ pc := fun z1 z2 => ne_of z1 I2.cn z2
      refine after p1 _ (p1 :: R1) { kvs with kvs := putK kvs.kvs (Sum.inl n : Key) (V.ref p1) } _ rfl ?_ ((Chg.of_same s2).trans c3) (fun a ha => ?_) (fun _ h => List.mem_cons_of_mem _ h) (by rw [hval, if_pos rfl])
      · exact { ob := kp _ _ (nq I2.ob (by intro z; cases z)) I2.ob, ot := kp _ _ (nq I2.ot (by intro z; cases z)) I2.ot, ag := kp _ _ (nq I2.ag (by intro z; cases z)) I2.ag, bk := kp _ _ (nq I2.bk (by intro z; cases z)) I2.bk,
                bs := lines_chg I2.bs c3, cn := upd_same, pg := kp _ _ I2.n3.symm I2.pg,
                pt := I2.pt.keep (fun _ h => List.mem_cons_of_mem _ h) (fun q2 w2 h2 _ _ _ _ => kp _ _ (nq h2 (by intro z; cases z)) h2) (fun b w2 r => lines_chg r c3), n3 := I2.n3, m6 := List.mem_cons_of_mem _ I2.m6, l4 := I2.l4, l5 := I2.l5,
                ct := ⟨fun m hm => (by
                        rw [hval] at hm
                        by_cases z : m = n
                        · rw [if_pos z] at hm; cases hm
                        · rw [if_neg z] at hm; exact I2.ct.no m hm),
                      fun m v hm => (by
                        rw [hval] at hm
                        by_cases z : m = n
                        · rw [if_pos z] at hm
                          cases hm
                          subst z
                          exact ⟨p1, rfl, by rw [upd_ne n1c, g2, I2.ct.no _ hn]; rfl, by simp, n1c, (ne_new hp1 I1.pg).symm⟩
                        · rw [if_neg z] at hm
                          obtain ⟨q2, e2, h2, h3, h4⟩ := I2.ct.yes m v hm
                          exact ⟨q2, e2, kp _ _ h4.1 h2, by simp [h3], h4⟩),
                      fun m m2 q h1 h2 => (by
                        rw [hval] at h1 h2
                        have fresh : ∀ r, valV kvs.kvs (Sum.inl r : Key) = some (.ref p1) → False := fun r hr => by
                          obtain ⟨q2, e2, h3, _⟩ := I1.ct.yes r _ hr
                          cases e2
                          rw [hp1] at h3
                          cases h3
                        by_cases e1 : m = n
                        · by_cases e2 : m2 = n
                          · rw [e1, e2]
                          · rw [if_pos e1] at h1; rw [if_neg e2] at h2
                            cases h1
                            exact (fresh _ h2).elim
                        · by_cases e2 : m2 = n
                          · rw [if_neg e1] at h1; rw [if_pos e2] at h2
                            cases h2
                            exact (fresh _ h1).elim
                          · rw [if_neg e1] at h1; rw [if_neg e2] at h2
                            exact I2.ct.inj m m2 q h1 h2)⟩,
                n1 := I2.n1, n2 := I2.n2, m1 := by simp [I2.m1], m2 := by simp [I2.m2], m3 := by simp [I2.m3], m4 := by simp [I2.m4], m5 := by simp [I2.m5],
                trk := trk_upd fun a ha => (by
                  rcases List.mem_cons.mp ha with rfl | z
                  · exact ⟨_, g2⟩
                  · exact I2.trk a z),
                l1 := Nat.le_succ_of_le I2.l1, l2 := Nat.le_trans (length_putK _ _ _) (by have := I2.l2; omega), l3 := fun m => Nat.le_succ_of_le (I2.l3 m), okb := I2.okb }
      · rcases List.mem_cons.mp ha with rfl | z
        · exact .inr hp1
        · exact .inl z
def zsp15 (C : Addr) : Sp := fun vs H Q _ => ∃ p t l h R N, vs = [.ref p, .ref t] ∧ HouseAt C H p h R N ∧ Rd H t (.tup [.int l.1, .int l.2.1, .int l.2.2.1, .str l.2.2.2]) ∧ N ≤ 790000 ∧ h.oth.length ≤ 900000 ∧ PyData.strOk l.2.2.2 = true ∧ Ret C p H R (N + 3) (h.got l) Q
theorem in_yes_no (w : Str) : inV (.str w) [.str "yes", .str "no"] = decide (w = "yes" ∨ w = "no") := by
 have := in_strs w ["yes", "no"]
 simp only [List.map_cons, List.map_nil] at this
 rw [this]; simp [List.mem_cons]
theorem Ret.less {C p : Addr} {H : Hp} {R : List Addr} {N M : Nat} {r : HS × List Letter} {Q : VK} (k : Ret C p H R N r Q) (h : M ≤ N) : Ret C p H R M r Q := fun v H' R' m => k v H' R' (m.more h)
theorem zrd15 {K : PySem.W.Frag} {C : Addr} {vs : List V} {H : Hp} {Q : VK} {E : XK} (T : HouseTxt K C) (h : zsp15 C vs H Q E) :
  zR15 K (zsp0d C) (zsp08 C) (zsp09 C) (zsp01 C) C { nx := fun _ H' => Q .non H', rt := Q } (start ["self", "letter", "giver", "bargain", "word"] vs) H := by
 obtain ⟨p, t, ⟨g, to, n, w⟩, h, R, N, rfl, I, gt, hN, hol, okw, k⟩ := h
 obtain ⟨dx, po, pa, pk, pc, xs, kvs, I0⟩ := id I
 have ob := I0.ob
 unfold zR15
 unfold HS.got at k
 dsimp only at gt okw k
 walk_at "go"
 by_cases e1 : w = "ask"
 ·rw [if_pos (by simp [e1])]
  rw [if_pos e1] at k
  walk_at "go"
  exact ⟨p, g, n, h, R, N, rfl, I, by omega, k.less (by omega)⟩
 rw [if_neg (by simp [e1])]
 rw [if_neg e1] at k
 walk_at "go"
 by_cases e2 : w = "query"
 ·rw [if_pos (by simp [e2])]
  rw [if_pos e2] at k
  walk_at "go"
  exact ⟨p, g, n, h, R, N, rfl, I, by omega, hol, k.less (by omega)⟩
 rw [if_neg (by simp [e2])]
 rw [if_neg e2] at k
 walk_at "goA"
 rename_i q hq H1 s1 g1
 show if (if false = true then _ else inV (.str w) _) = true then _ else _
 rw [if_neg (by decide : ¬ (false = true)), in_yes_no]
 have k1 := k.same I s1
 have ob1 := s1 _ _ ob
 by_cases e3 : w = "yes" ∨ w = "no"
 ·rw [if_pos (decide_eq_true e3)]
  rw [if_pos e3] at k1
  walk_at "go"
  exact ⟨p, g, n, w, h, R, N, rfl, I.same s1, hN, hol, k1⟩
 ·rw [if_neg (by simpa using e3)]
  rw [if_neg e3] at k1
  walk_at "go"
  exact ⟨p, n, w, h, R, N, rfl, I.same s1, by omega, okw, k1.less (by omega)⟩
structure Made (C : Addr) (H : Hp) (p dx : Addr) (fs : List (Str × V)) (H' : Hp) : Prop where
 ob : H' p = some (.ins C dx fs)
 chg : Chg [p] H H'
 free : ∀ b, H' b = none → H b = none
theorem Made.same {C : Addr} {H : Hp} {p dx : Addr} {fs : List (Str × V)} {H' H2 : Hp} (m : Made C H p dx fs H') (s : Same H' H2) : Made C H p dx fs H2 := ⟨s _ _ m.ob, m.chg.trans (.of_same s), fun b hb => m.free b (s.free hb)⟩
theorem Made.put {C : Addr} {H : Hp} {p dx : Addr} {fs : List (Str × V)} {H' : Hp} (m : Made C H p dx fs H') (gs : List (Str × V)) : Made C H p dx gs (upd H' p (.ins C dx gs)) :=
 ⟨upd_same, m.chg.trans (.set (by rw [m.ob]; exact True.intro) (by simp)), fun b hb => by
  by_cases e : b = p
  ·rw [e, upd_same] at hb; cases hb
  ·rw [upd_ne e] at hb; exact m.free b hb⟩
theorem Made.keep {C : Addr} {H : Hp} {p dx : Addr} {fs gs : List (Str × V)} {H' : Hp} (m : Made C H p dx fs H') {b : Addr} {o : HO} (e : H' b = some o) (n : o ≠ .ins C dx fs) : upd H' p (.ins C dx gs) b = some o := upd_at (ne_of e m.ob n) e
def fgt (pc pp : Addr) (fs : List (Str × V)) : List (Str × V) := putF "lines_read" (.int 0) (putF "pages" (.ref pp) (putF "counted" (.ref pc) fs))
def zsp0j (C : Addr) : Sp := fun vs H Q _ => ∃ p dx fs, vs = [.ref p] ∧ H p = some (.ins C dx fs) ∧ fs.length < 900 ∧
 ∀ pc pp H', H pc = none → H pp = none → pc ≠ pp → H' pc = some (.dK []) → H' pp = some (.dK []) → Made C H p dx (fgt pc pp fs) H' → Q .non H'
theorem zrd0j {K : PySem.W.Frag} {C : Addr} {vs : List V} {H : Hp} {Q : VK} {E : XK} (T : HouseTxt K C) (h : zsp0j C vs H Q E) : zR0j K { nx := fun _ H' => Q .non H', rt := Q } (start ["self"] vs) H := by
 obtain ⟨p, dx, fs, rfl, ob, hl, k⟩ := h
 unfold zR0j
 have M0 : Made C H p dx fs H := ⟨ob, .refl _ _, fun _ h => h⟩
 have l1 := length_putF "counted"
 have l2 := length_putF "pages"
 walk_at "go"
 walk_at "new"
 rename_i pc hpc H1 s1 g1
 have M1 := M0.same s1
 walk_at "go"
 refine ⟨p, C, dx, _, rfl, M1.ob, T.cl, T.f6, by omega, ?_⟩
 have M2 := M1.put (putF "counted" (.ref pc) fs)
 have g2 := M1.keep (gs := putF "counted" (.ref pc) fs) g1 (by intro z; cases z)
 generalize upd H1 p (.ins C dx (putF "counted" (.ref pc) fs)) = H2 at *
 walk_at "go"
 walk_at "new"
 rename_i pp hpp H3 s3 g3
 have M3 := M2.same s3
 have g3c := s3 _ _ g2
 have nn : pc ≠ pp := ne_new hpp g2
 walk_at "go"
 refine ⟨p, C, dx, _, rfl, M3.ob, T.cl, T.f7, by have := l1 (.ref pc) fs; omega, ?_⟩
 have M4 := M3.put (putF "pages" (.ref pp) (putF "counted" (.ref pc) fs))
 have g4c := M3.keep (gs := putF "pages" (.ref pp) (putF "counted" (.ref pc) fs)) g3c (by intro z; cases z)
 have g4p := M3.keep (gs := putF "pages" (.ref pp) (putF "counted" (.ref pc) fs)) g3 (by intro z; cases z)
 generalize upd H3 p (.ins C dx (putF "pages" (.ref pp) (putF "counted" (.ref pc) fs))) = H4 at *
 walk_at "go"
 refine ⟨p, C, dx, _, rfl, M4.ob, T.cl, T.f8, by have h1 := l1 (.ref pc) fs; have h2 := l2 (.ref pp) (putF "counted" (.ref pc) fs); omega, ?_⟩
 exact k pc pp _ hpc (M2.free _ hpp) nn (M4.keep (gs := fgt pc pp fs) g4c (by intro z; cases z)) (M4.keep (gs := fgt pc pp fs) g4p (by intro z; cases z)) (M4.put (fgt pc pp fs))
theorem hfs_awake (num : Int) (po pa pk : Addr) (u v : Bool) (pc pp : Addr) (nr : Nat) : putF "awake" (.bl v) (hfs num po pa pk u pc pp nr) = hfs num po pa pk v pc pp nr := by with_unfolding_all rfl
theorem hfs_fgt (num : Int) (po pa pk : Addr) (u : Bool) (pc pp : Addr) (nr : Nat) (qc qp : Addr) : fgt qc qp (hfs num po pa pk u pc pp nr) = hfs num po pa pk u qc qp 0 := by with_unfolding_all rfl
theorem HouseIn.put {C : Addr} {H : Hp} {p : Addr} {h : HS} {R : List Addr} {N : Nat} {dx po pa pk pc : Addr} {xs : List V} {z : Pg} (I : HouseIn C H p h R N dx po pa pk pc xs z) (u : Bool) :
    HouseIn C (upd H p (.ins C dx (hfs h.num po pa pk u pc z.pp z.nr))) p { h with up := u } R N dx po pa pk pc xs z := by
  have kp : ∀ a o, a ≠ p → H a = some o → upd H p (.ins C dx (hfs h.num po pa pk u pc z.pp z.nr)) a = some o := fun a o e z => upd_at e z
  have nq : ∀ {a : Addr} {o : HO}, H a = some o → o ≠ .ins C dx (hfs h.num po pa pk h.up pc z.pp z.nr) → a ≠ p := fun z1 z2 => ne_of z1 I.ob z2
  have c : Chg R H (upd H p (.ins C dx (hfs h.num po pa pk u pc z.pp z.nr))) := .set (by rw [I.ob]; exact True.intro) I.m1
  exact { ob := upd_same, ot := kp _ _ (nq I.ot (by intro z; cases z)) I.ot, ag := kp _ _ (nq I.ag (by intro z; cases z)) I.ag, bk := kp _ _ (nq I.bk (by intro z; cases z)) I.bk, bs := lines_chg I.bs c, cn := kp _ _ (nq I.cn (by intro z; cases z)) I.cn, pg := kp _ _ (nq I.pg (by intro z; cases z)) I.pg,
          ct := ⟨I.ct.no, fun n v hv => (by obtain ⟨q, e, h1, h2⟩ := I.ct.yes n v hv; exact ⟨q, e, kp _ _ (nq h1 (by intro z; cases z)) h1, h2⟩), I.ct.inj⟩,
          pt := I.pt.keep (fun _ h => h) (fun q2 w2 h2 _ _ _ _ => kp _ _ (nq h2 (by intro z; cases z)) h2) (fun b w2 r => lines_chg r c),
          n1 := I.n1, n2 := I.n2, n3 := I.n3, m1 := I.m1, m2 := I.m2, m3 := I.m3, m4 := I.m4, m5 := I.m5, m6 := I.m6, trk := trk_upd I.trk, l1 := I.l1, l2 := I.l2, l3 := I.l3, l4 := I.l4, l5 := I.l5, okb := I.okb }
def zsp0y (C : Addr) : Sp := fun vs H Q _ => ∃ p h R N, vs = [.ref p] ∧ HouseAt C H p h R N ∧ ∀ H' R', Move C p H R H' h.stop R' N → Q .non H'
theorem zrd0y {K : PySem.W.Frag} {C : Addr} {vs : List V} {H : Hp} {Q : VK} {E : XK} (T : HouseTxt K C) (h : zsp0y C vs H Q E) : zR0y K (zsp0j C) C { nx := fun _ H' => Q .non H', rt := Q } (start ["self"] vs) H := by
  obtain ⟨p, h, R, N, rfl, ⟨dx, po, pa, pk, pc, xs, z, I⟩, k⟩ := h
  unfold zR0y
  walk_at "go"
  refine ⟨p, C, dx, _, rfl, I.ob, T.cl, T.f5, (by show 8 < 1000; decide), ?_⟩
  rw [hfs_awake]
  have I1 := I.put false
  have c1 : Chg R H (upd H p (.ins C dx (hfs h.num po pa pk false pc z.pp z.nr))) := .set (by rw [I.ob]; exact True.intro) I.m1
  generalize upd H p (.ins C dx (hfs h.num po pa pk false pc z.pp z.nr)) = H1 at *
  have ob1 := I1.ob
  walk_at "go"
  refine ⟨p, dx, _, rfl, ob1, (by show 8 < 900; decide), fun qc qp H2 hqc hqp nn gc gp M => ?_⟩
  have ob2 := M.ob
  rw [hfs_fgt] at ob2
  have np : ∀ {a : Addr} {o : HO}, H1 a = some o → (∀ D fs, o ≠ .ins C D fs) → ¬ a ∈ [p] := fun z1 z2 y => by rw [List.mem_singleton.mp y, ob1] at z1; cases z1; exact z2 _ _ rfl
  have kp : ∀ {a : Addr} {o : HO}, H1 a = some o → (∀ D fs, o ≠ .ins C D fs) → H2 a = some o := fun z1 z2 => M.chg.keep _ _ z1 (np z1 z2)
  have trk2 : ∀ a ∈ R, ∃ o, H2 a = some o := fun a ha => by
    cases e : H2 a with
    | some o => exact ⟨o, rfl⟩
    | none => obtain ⟨o, e'⟩ := I1.trk a ha; rw [M.free a e] at e'; cases e'
  have fr : ∀ {a : Addr}, H1 a = none → H a = none := fun {a} hq => by
    cases e : H a with
    | none => rfl
    | some o =>
      by_cases m : a ∈ R
      · obtain ⟨o', e'⟩ := I1.trk a m
        rw [hq] at e'; cases e'
      · rw [c1.keep a o e m] at hq; cases hq
  refine k _ (qc :: qp :: R) ⟨⟨dx, po, pa, pk, qc, xs, ⟨[], qp, 0, []⟩, ?_⟩, c1.trans (M.chg.mono fun b hb => by rw [List.mem_singleton.mp hb]; exact I.m1), fun a ha => ?_, fun _ h => List.mem_cons_of_mem _ (List.mem_cons_of_mem _ h)⟩
  · exact { ob := ob2, ot := kp I1.ot (by intro _ _ z; cases z), ag := kp I1.ag (by intro _ _ z; cases z), bk := kp I1.bk (by intro _ _ z; cases z), bs := lines_chg I1.bs M.chg, cn := gc, pg := gp,
            ct := ⟨fun _ _ => rfl, fun _ _ z => (by cases z), fun _ _ _ z => (by cases z)⟩, pt := ⟨fun _ _ => rfl, fun _ _ z => (by cases z), fun _ _ _ z => (by cases z)⟩, n1 := I1.n1, n2 := I1.n2, n3 := nn, m1 := by simp [I1.m1], m2 := by simp [I1.m2], m3 := by simp [I1.m3], m4 := by simp [I1.m4], m5 := by simp, m6 := by simp,
            trk := fun a ha => (by
              rcases List.mem_cons.mp ha with rfl | y
              · exact ⟨_, gc⟩
              rcases List.mem_cons.mp y with rfl | y
              · exact ⟨_, gp⟩
              · exact trk2 a y),
            l1 := I1.l1, l2 := Nat.zero_le _, l3 := fun _ => Nat.zero_le _, l4 := Nat.le_refl _, l5 := Nat.zero_le _, okb := I1.okb }
  · rcases List.mem_cons.mp ha with rfl | y
    · exact .inr (fr hqc)
    rcases List.mem_cons.mp y with rfl | y
    · exact .inr (fr hqp)
    · exact .inl y
def zsp0w (C : Addr) : Sp := fun vs H Q _ => ∃ p h R N, vs = [.ref p] ∧ HouseAt C H p h R N ∧ N ≤ 780000 ∧ (leftOpen h.book).length ≤ 10000 ∧ h.oth.length ≤ 20 ∧ Ret C p H R (N + (leftOpen h.book).length) h.wake Q
theorem offAll_snoc (h : HS) (ns : List Int) (n : Int) : h.offAll (ns ++ [n]) = (((h.offAll ns).1.decide n "off").1, (h.offAll ns).2 ++ ((h.offAll ns).1.decide n "off").2) := by
 induction ns generalizing h with
 | nil => simp [HS.offAll]
 | cons x r ih => simp [HS.offAll, ih]
theorem offAll_oth (h : HS) (ns : List Int) : (h.offAll ns).1.oth = h.oth := by
 induction ns generalizing h with
 | nil => rfl
 | cons x r ih => exact ih _
theorem offAll_len (h : HS) (ns : List Int) : (h.offAll ns).2.length = ns.length * h.oth.length := by
 induction ns generalizing h with
 | nil => simp [HS.offAll]
 | cons x r ih =>
  show ((h.decide x "off").2 ++ ((h.decide x "off").1.offAll r).2).length = _
  rw [List.length_append, ih]
  show (h.oth.map _).length + r.length * h.oth.length = _
  rw [List.length_map, List.length_cons, Nat.succ_mul, Nat.add_comm]
theorem letters_app {H : Hp} {S : List Addr} {xs ys : List V} {a b : List Letter} (r : Reps H S xs (a.map letterD)) (q : Reps H S ys (b.map letterD)) : Reps H S (xs ++ ys) ((a ++ b).map letterD) := by rw [List.map_append]; exact r.append q
theorem zrd0w {K : PySem.W.Frag} {C : Addr} {vs : List V} {H : Hp} {Q : VK} {E : XK} (T : HouseTxt K C) (h : zsp0w C vs H Q E) : zR0w K zsp17 (zsp0i C) C { nx := fun _ H' => Q .non H', rt := Q } (start ["self", "undecided", "sent", "bargain"] vs) H := by
 obtain ⟨p, h, R, N, rfl, ⟨dx, po, pa, pk, pc, xs, kvs, I⟩, hN, hlt, hol, k⟩ := h
 obtain ⟨cl, f1, f2, f3, f4, f5, f6, f7, f8⟩ := T
 unfold zR0w
 walk_at "go"
 refine ⟨p, C, dx, _, rfl, I.ob, cl, f5, (by show 8 < 1000; decide), ?_⟩
 rw [hfs_awake]
 have I1 := I.put true
 have c1 : Chg R H (upd H p (.ins C dx (hfs h.num po pa pk true pc kvs.pp kvs.nr))) := .set (by rw [I.ob]; exact True.intro) I.m1
 generalize upd H p (.ins C dx (hfs h.num po pa pk true pc kvs.pp kvs.nr)) = H1 at *
 have ob1 := I1.ob
 walk_at "go"
 refine ⟨pk, h.book, rfl, I1.rep, Nat.le_trans I1.l1 (by omega), fun pl H2 hpl s2 g2 => ?_⟩
 have I2 := I1.same s2
 have m2 : Move C p H R H2 { h with up := true } R N := ⟨⟨_, _, _, _, _, _, _, I2⟩, c1.trans (.of_same s2), .refl _ _, fun _ h => h⟩
 walk_at "go"
 walk_at "new"
 rename_i ps hps H3 s3 g3
 have g3l := s3 _ _ g2
 have npl : pl ≠ ps := ne_new hps g2
 have k2 := k.after m2
 have hlo : (leftOpen h.book).length ≤ N := by
  unfold leftOpen
  rw [List.length_map]
  exact Nat.le_trans (List.length_filter_le _ _) I.l1
 walk_at "go"
 refine for_list (K := K) (a := pl) (xs := (leftOpen h.book).map .int) (fun i σ H' => ∃ v ys R', σ = [some (.ref p), some (.ref pl), some (.ref ps), v] ∧ HouseAt C H' p (({ h with up := true } : HS).offAll ((leftOpen h.book).take i)).1 R' (N + i) ∧ Chg R H2 H' ∧ (Grow R H2 R' ∧ ∀ a ∈ R, a ∈ R') ∧
   H' ps = some (.lst ys) ∧ ¬ ps ∈ R' ∧ Reps H' [] ys ((({ h with up := true } : HS).offAll ((leftOpen h.book).take i)).2.map letterD) ∧ H' pl = some (.lst ((leftOpen h.book).map .int)))
  ⟨none, [], R, rfl, ⟨_, _, _, _, _, _, _, I2.same s3⟩, .of_same s3, ⟨.refl _ _, fun _ h => h⟩, g3, notin_new I2.trk hps, .nil, g3l⟩ ?_ ?_ ?_
 ·rintro i σ H' hi ⟨v, ys, R', rfl, J, c, ⟨g, sb⟩, gs, ns, rs, gl⟩
  exact sqL gl
 ·rintro i x σ H4 hx ⟨v, ys, R', rfl, J, c, ⟨g, sb⟩, gs, ns, rs, gl⟩
  rw [List.getElem?_map] at hx
  cases hk : (leftOpen h.book)[i]? with
  | none => rw [hk] at hx; cases hx
  | some z =>
   rw [hk] at hx
   have e : V.int z = x := Option.some.inj hx
   subst e
   have hi : i < (leftOpen h.book).length := (List.getElem?_eq_some_iff.mp hk).1
   obtain ⟨dx4, po4, pa4, pk4, pc4, xs4, kvs4, I4⟩ := id J
   have ob4 := I4.ob
   walk_at "go"
   refine ⟨.inl ⟨rfl, _, sqL gs⟩, ?_⟩
   walk_at "go"
   refine ⟨p, z, "off", _, R', N + i, rfl, J, by omega, by rw [offAll_oth]; show h.oth.length ≤ 900000; omega, okS (by simp), ?_⟩
   intro v' H5 R5 m5 rep5 _
   obtain ⟨a5, zs, rfl, g5, ni5, rs5⟩ := rep5
   have gs5 := m5.chg.keep _ _ gs ns
   have ns5 : ¬ ps ∈ R5 := fun y => (m5.gr _ y).elim ns fun q => by rw [gs] at q; cases q
   have npl5 : ¬ pl ∈ R' := fun y => (g _ y).elim (notin_new I1.trk hpl) fun q => by rw [g2] at q; cases q
   have gl5 := m5.chg.keep _ _ gl npl5
   have ly : ys.length = i * h.oth.length := by
    rw [rs.length, List.length_map, offAll_len, List.length_take, Nat.min_eq_left (Nat.le_of_lt hi)]
   have lz : zs.length = h.oth.length := by
    rw [rs5.length, List.length_map]
    show (List.map _ _).length = _
    rw [List.length_map, offAll_oth]
   have hsz : ys.length + zs.length ≤ sizeLine := by
    have h1 : i * h.oth.length ≤ 10000 * 20 := Nat.mul_le_mul (by omega) hol
    rw [sizeLine_eq]
    omega
   walk_at "go"
   refine st_extend gs5 g5 hsz ?_
   have cp : Chg [ps] H5 (upd H5 ps (.lst (ys ++ zs))) := .set (by rw [gs5]; exact True.intro) (by simp)
   refine ⟨_, _, R5, rfl, ?_, (c.grow g m5.chg).put hps, ⟨g.trans c m5.gr, fun x hx => m5.sb x (sb x hx)⟩, upd_same, ns5, ?_, upd_at npl gl5⟩
   ·rw [take_snoc hk, offAll_snoc]
    exact m5.at_.chg cp fun a ha y => by rw [List.mem_singleton.mp y] at ha; exact ns5 ha
   ·rw [take_snoc hk, offAll_snoc]
    exact letters_app (letters_chg (letters_chg rs m5.chg) cp) (letters_any (letters_chg rs5 cp))
 ·rintro σ H4 ⟨v, ys, R', rfl, J, c, ⟨g, sb⟩, gs, ns, rs, gl⟩
  walk_at "go"
  rw [List.length_map, List.take_length] at J rs
  exact k2 _ _ _ ⟨J.more (by omega), c, g, sb⟩ ⟨_, _, rfl, gs, ns, letters_any rs⟩ (by rintro _ ⟨⟩; exact hps)
def othersOf (num : Int) (count : Nat) : List Int := ((List.range count).map fun (k : Nat) => (k : Int)).filter fun k => !decide (k = num)
def newHS (num : Int) (count : Nat) (agn : List Int) : HS := ⟨num, othersOf num count, agn, [], true, fun _ => []⟩
theorem othersOf_le (num : Int) (count : Nat) : (othersOf num count).length ≤ count := by
 unfold othersOf
 refine Nat.le_trans (List.length_filter_le _ _) ?_
 rw [List.length_map, List.length_range]; exact Nat.le_refl _
theorem others_snoc (num : Int) (i : Nat) : othersOf num (i + 1) = if (i : Int) = num then othersOf num i else othersOf num i ++ [(i : Int)] := by
 unfold othersOf
 rw [List.range_succ, List.map_append, List.filter_append]
 by_cases e : (i : Int) = num
 ·simp [e]
 ·simp [e]
def zsp11 (C : Addr) : Sp := fun vs H Q _ => ∃ (p dx a : Addr) (num : Int) (count : Nat) (agn : List Int), vs = [.ref p, .int num, .int count, .ref a] ∧ H p = some (.ins C dx []) ∧ count ≤ 900000 ∧ Rd H a (.lst (agn.map .int)) ∧
 ∀ H' R', HouseAt C H' p (newHS num count agn) R' 0 → Chg [p] H H' → (∀ b ∈ R', b = p ∨ H b = none) → Q .non H'
def fl1 (a : V) : List (Str × V) := [("number", a)]
def fl2 (a b : V) : List (Str × V) := [("number", a), ("others", b)]
def fl3 (a b c : V) : List (Str × V) := [("number", a), ("others", b), ("against", c)]
def fl4 (a b c d : V) : List (Str × V) := [("number", a), ("others", b), ("against", c), ("book", d)]
def fl5 (a b c d e : V) : List (Str × V) := [("number", a), ("others", b), ("against", c), ("book", d), ("awake", e)]
theorem putF1 (v : V) : putF "number" v [] = fl1 v := rfl
theorem putF2 (a v : V) : putF "others" v (fl1 a) = fl2 a v := by with_unfolding_all rfl
theorem putF3 (a b v : V) : putF "against" v (fl2 a b) = fl3 a b v := by with_unfolding_all rfl
theorem putF4 (a b c v : V) : putF "book" v (fl3 a b c) = fl4 a b c v := by with_unfolding_all rfl
theorem putF5 (a b c d v : V) : putF "awake" v (fl4 a b c d) = fl5 a b c d v := by with_unfolding_all rfl
theorem fl5_fgt (num : Int) (po pa pk : Addr) (u : Bool) (pc pp : Addr) : fgt pc pp (fl5 (.int num) (.ref po) (.ref pa) (.ref pk) (.bl u)) = hfs num po pa pk u pc pp 0 := by with_unfolding_all rfl
theorem zrd11 {K : PySem.W.Frag} {C : Addr} {vs : List V} {H : Hp} {Q : VK} {E : XK} (T : HouseTxt K C) (h : zsp11 C vs H Q E) : zR11 K (zsp0j C) C { nx := fun _ H' => Q .non H', rt := Q } (start ["self", "number", "count", "against"] vs) H := by
  obtain ⟨p, dx, a, num, count, agn, rfl, ob, hc, ha, k⟩ := h
  have nap : a ≠ p := by
    rintro rfl
    rcases ha with z | ⟨o, z⟩ <;> (rw [ob] at z; cases z)
  unfold zR11
  have M0 : Made C H p dx [] H := ⟨ob, .refl _ _, fun _ h => h⟩
  walk_at "go"
  refine ⟨p, C, dx, _, rfl, ob, T.cl, T.f1, (by show 0 < 1000; decide), ?_⟩
  rw [putF1]
  have M1 := M0.put (fl1 (.int num))
  have ha1 : Rd (upd H p (.ins C dx (fl1 (.int num)))) a (.lst (agn.map .int)) := ha.upd nap
  generalize upd H p (.ins C dx (fl1 (.int num))) = H1 at *
  walk_at "go"
  refine st_itr (by omega) ?_
  intro po hpo
  refine lc_range (n := count) (fun i ys σ H' => ∃ v, σ = [v, some (.int num)] ∧ H' = upd H1 po (.lst ys) ∧ ys = (othersOf num i).map .int) ⟨none, rfl, rfl, rfl⟩ ?_ ?_
  · rintro i ys σ H' hi hp' ⟨v, rfl, rfl, rfl⟩
    walk_at "go"
    have e0 : ((0 : Int) + (i : Int)) = (i : Int) := Int.zero_add _
    by_cases e : (i : Int) = num
    · rw [if_neg (by simp [e0, e])]
      exact ⟨_, upd_same, _, rfl, rfl, by rw [others_snoc, if_pos e]⟩
    · rw [if_pos (by simp [e0, e])]
      walk_at "go"
      refine ⟨_, upd_same, len_small (by rw [List.length_map]; exact Nat.le_trans (othersOf_le _ _) (by omega)), _, upd_same, _, rfl, upd_upd, ?_⟩
      rw [others_snoc, if_neg e, List.map_append, e0]; rfl
  rintro ys σ H2 g2 ⟨v, rfl, hH2, rfl⟩
  have s2 : Same H1 H2 := by rw [hH2]; exact Same.new hpo
  clear hH2
  have M2 := M1.same s2
  have ha2 := ha1.same s2
  have po0 : H po = none := M1.free _ hpo
  walk_at "go"
  refine ⟨p, C, dx, _, rfl, M2.ob, T.cl, T.f2, (by show 1 < 1000; decide), ?_⟩
  rw [putF2]
  have M3 := M2.put (fl2 (.int num) (.ref po))
  have g3 := M2.keep (gs := (fl2 (.int num) (.ref po))) g2 (by intro z; cases z)
  have ha3 : Rd (upd H2 p (.ins C dx (fl2 (.int num) (.ref po)))) a (.lst (agn.map .int)) := ha2.upd nap
  generalize upd H2 p (.ins C dx (fl2 (.int num) (.ref po))) = H3 at *
  walk_at "go"
  walk_at "new"
  rename_i pa hpa H4 s4 g4
  have M4 := M3.same s4
  have g4o := s4 _ _ g3
  have pa0 : H pa = none := M3.free _ hpa
  walk_at "go"
  refine ⟨p, C, dx, _, rfl, M4.ob, T.cl, T.f3, (by show 2 < 1000; decide), ?_⟩
  rw [putF3]
  have M5 := M4.put (fl3 (.int num) (.ref po) (.ref pa))
  have g5o := M4.keep (gs := (fl3 (.int num) (.ref po) (.ref pa))) g4o (by intro z; cases z)
  have g5a := M4.keep (gs := (fl3 (.int num) (.ref po) (.ref pa))) g4 (by intro z; cases z)
  generalize upd H4 p (.ins C dx (fl3 (.int num) (.ref po) (.ref pa))) = H5 at *
  walk_at "go"
  walk_at "new"
  rename_i pk hpk H6 s6 g6
  have M6 := M5.same s6
  have pk0 : H pk = none := M5.free _ hpk
  have n1 : po ≠ pk := ne_new hpk g5o
  have n2 : pa ≠ pk := ne_new hpk g5a
  walk_at "go"
  refine ⟨p, C, dx, _, rfl, M6.ob, T.cl, T.f4, (by show 3 < 1000; decide), ?_⟩
  rw [putF4]
  have M7 := M6.put (fl4 (.int num) (.ref po) (.ref pa) (.ref pk))
  have g7o := M6.keep (gs := (fl4 (.int num) (.ref po) (.ref pa) (.ref pk))) (s6 _ _ g5o) (by intro z; cases z)
  have g7a := M6.keep (gs := (fl4 (.int num) (.ref po) (.ref pa) (.ref pk))) (s6 _ _ g5a) (by intro z; cases z)
  have g7k := M6.keep (gs := (fl4 (.int num) (.ref po) (.ref pa) (.ref pk))) g6 (by intro z; cases z)
  generalize upd H6 p (.ins C dx (fl4 (.int num) (.ref po) (.ref pa) (.ref pk))) = H7 at *
  walk_at "go"
  refine ⟨p, C, dx, _, rfl, M7.ob, T.cl, T.f5, (by show 4 < 1000; decide), ?_⟩
  rw [putF5]
  have M8 := M7.put (fl5 (.int num) (.ref po) (.ref pa) (.ref pk) (.bl true))
  have g8o := M7.keep (gs := (fl5 (.int num) (.ref po) (.ref pa) (.ref pk) (.bl true))) g7o (by intro z; cases z)
  have g8a := M7.keep (gs := (fl5 (.int num) (.ref po) (.ref pa) (.ref pk) (.bl true))) g7a (by intro z; cases z)
  have g8k := M7.keep (gs := (fl5 (.int num) (.ref po) (.ref pa) (.ref pk) (.bl true))) g7k (by intro z; cases z)
  generalize upd H7 p (.ins C dx (fl5 (.int num) (.ref po) (.ref pa) (.ref pk) (.bl true))) = H8 at *
  have ob8 := M8.ob
  walk_at "go"
  refine ⟨p, dx, _, rfl, ob8, (by show 5 < 900; decide), fun pc pp H9 hpc hpp nn gc gp M => ?_⟩
  have ob9 := M.ob
  rw [fl5_fgt] at ob9
  have pc0 : H pc = none := M8.free _ hpc
  have pp0 : H pp = none := M8.free _ hpp
  have np : ∀ {a : Addr} {o : HO}, H8 a = some o → (∀ D fs, o ≠ .ins C D fs) → ¬ a ∈ [p] := fun z1 z2 y => by rw [List.mem_singleton.mp y, ob8] at z1; cases z1; exact z2 _ _ rfl
  have kp : ∀ {a : Addr} {o : HO}, H8 a = some o → (∀ D fs, o ≠ .ins C D fs) → H9 a = some o := fun z1 z2 => M.chg.keep _ _ z1 (np z1 z2)
  have gAo := kp g8o (by intro _ _ z; cases z)
  have gAa := kp g8a (by intro _ _ z; cases z)
  have gAk := kp g8k (by intro _ _ z; cases z)
  refine k _ [p, po, pa, pk, pc, pp] ⟨dx, po, pa, pk, pc, [], ⟨[], pp, 0, []⟩, ?_⟩ (M8.chg.trans M.chg) (fun b hb => ?_)
  · exact { ob := ob9, ot := gAo, ag := gAa, bk := gAk, bs := .nil, cn := gc, pg := gp, ct := ⟨fun _ _ => rfl, fun _ _ z => (by cases z), fun _ _ _ z => (by cases z)⟩, pt := ⟨fun _ _ => rfl, fun _ _ z => (by cases z), fun _ _ _ z => (by cases z)⟩, n1 := n1, n2 := n2, n3 := nn,
            m1 := by simp, m2 := by simp, m3 := by simp, m4 := by simp, m5 := by simp, m6 := by simp,
            trk := fun b hb => (by
              simp only [List.mem_cons, List.not_mem_nil, or_false] at hb
              rcases hb with rfl | rfl | rfl | rfl | rfl | rfl
              · exact ⟨_, ob9⟩
              · exact ⟨_, gAo⟩
              · exact ⟨_, gAa⟩
              · exact ⟨_, gAk⟩
              · exact ⟨_, gc⟩
              · exact ⟨_, gp⟩),
            l1 := Nat.le_refl _, l2 := Nat.le_refl _, l3 := fun _ => Nat.le_refl _, l4 := Nat.le_refl _, l5 := Nat.le_refl _, okb := (by intro l hl; cases hl) }
  · simp only [List.mem_cons, List.not_mem_nil, or_false] at hb
    rcases hb with rfl | rfl | rfl | rfl | rfl | rfl
    · exact .inl rfl
    · exact .inr po0
    · exact .inr pa0
    · exact .inr pk0
    · exact .inr pc0
    · exact .inr pp0
theorem got_oth (h : HS) (l : Letter) : (h.got l).1.oth = h.oth := by
 unfold HS.got HS.gotAsk HS.asked HS.gotQuery HS.gotVote HS.gotDecision HS.decide HS.count HS.wr
 repeat' split
 all_goals rfl
theorem letter_at {H : Hp} {S : List Addr} {b : List Letter} {xs : List V} {i : Nat} {x : V} (rs : Reps H S xs (b.map letterD)) (hx : xs[i]? = some x) :
  ∃ l t, b[i]? = some l ∧ x = .ref t ∧ Rd H t (.tup [.int l.1, .int l.2.1, .int l.2.2.1, .str l.2.2.2]) := by
 obtain ⟨d, hd, rx⟩ := rs.get hx
 rw [List.getElem?_map] at hd
 cases hb : b[i]? with
 | none => rw [hb] at hd; cases hd
 | some l =>
  rw [hb] at hd
  have e : letterD l = d := Option.some.inj hd
  subst e
  obtain ⟨t, ys, rfl, rt, rs'⟩ := rx.tup_inv
  obtain ⟨y1, r1, rfl, h1, t1⟩ := rs'.cons_inv
  obtain ⟨y2, r2, rfl, h2, t2⟩ := t1.cons_inv
  obtain ⟨y3, r3, rfl, h3, t3⟩ := t2.cons_inv
  obtain ⟨y4, r4, rfl, h4, t4⟩ := t3.cons_inv
  cases t4.nil_inv
  rw [h1.int_inv, h2.int_inv, h3.int_inv, h4.str_inv] at rt
  exact ⟨l, t, rfl, rfl, rt⟩
def HS.query (h : HS) (n : Int) : List Letter := if h.up = true ∧ unsure h.book n = true then h.toOthers n "query" else []
def zsp0n (C : Addr) : Sp := fun vs H Q _ => ∃ p n h R N, vs = [.ref p, .int n] ∧ HouseAt C H p h R N ∧ N ≤ 800000 ∧ h.oth.length ≤ 900000 ∧ Ret C p H R N (h, h.query n) Q
theorem zrd0n {K : PySem.W.Frag} {C : Addr} {vs : List V} {H : Hp} {Q : VK} {E : XK} (T : HouseTxt K C) (h : zsp0n C vs H Q E) :
  zR0n K zsp13 (zsp0x C) (zsp07 C) C { nx := fun _ H' => Q .non H', rt := Q } (start ["self", "bargain"] vs) H := by
 obtain ⟨p, n, h, R, N, rfl, I, hN, hol, k⟩ := h
 obtain ⟨cl, f1, f2, f3, f4, f5, f6, f7, f8⟩ := T
 obtain ⟨dx, po, pa, pk, pc, xs, kvs, I0⟩ := id I
 have ob := I0.ob
 have hl1 := I0.l1
 unfold zR0n
 unfold HS.query at k
 walk_at "go"
 cases hu : h.up with
 | false =>
  rw [hu] at k
  rw [if_neg (by simp)] at k
  rw [if_pos (by rfl), if_pos (by rfl)]
  walk_at "goA"
  rename_i l hl H2 s2 g2
  exact k.nil I (Nat.le_refl _) s2 hl g2
 | true =>
  rw [hu] at k
  rw [if_neg (by decide)]
  walk_at "go"
  refine ⟨p, n, h, R, N, rfl, I, by omega, fun q H0 R0 m0 r0 => ?_⟩
  walk_at "go"
  refine ⟨q, pageOf h.book n, n, rfl, r0, Nat.le_trans (pageOf_len _ _) (by omega), fun H1 s1 => ?_⟩
  rw [pageOf_unsure]
  have m1 := m0.trans (m0.at_.move s1)
  obtain ⟨dx1, po1, pa1, pk1, pc1, xs1, kvs1, I1⟩ := id m1.at_
  have ob1 := I1.ob
  have k1 := k.after m1
  walk_at "go"
  cases e : unsure h.book n with
  | true =>
   rw [if_pos (by simp [e])] at k1
   rw [if_neg (by simp)]
   walk_at "go"
   exact ⟨p, n, "query", h, R0, N, rfl, m1.at_, hol, fun v H2 s2 r f => k1.done m1.at_ (Nat.le_refl _) s2 r f⟩
  | false =>
   rw [if_neg (by simp [e])] at k1
   rw [if_pos (by simp)]
   walk_at "goA"
   rename_i l hl H2 s2 g2
   exact k1.nil m1.at_ (Nat.le_refl _) s2 hl g2
def HS.spent (h : HS) (l : Letter) : Bool := Decidable.decide (l.2.2.2 = "no" ∨ l.2.2.2 = "bound" ∨ l.2.2.2 = "off") && !Decidable.decide (decisionIn h.book l.2.2.1 = none)
theorem in_spent (w : Str) : inV (.str w) [.str "no", .str "bound", .str "off"] = decide (w = "no" ∨ w = "bound" ∨ w = "off") := by
 have := in_strs w ["no", "bound", "off"]
 simp only [List.map_cons, List.map_nil] at this
 rw [this]; simp [List.mem_cons]
def zsp0a (C : Addr) : Sp := fun vs H Q _ => ∃ p t l h R N, vs = [.ref p, .ref t] ∧ HouseAt C H p h R N ∧ Rd H t (.tup [.int l.1, .int l.2.1, .int l.2.2.1, .str l.2.2.2]) ∧ N ≤ 800000 ∧ ∀ H' R', Move C p H R H' h R' N → Q (.bl (h.spent l)) H'
theorem zrd0a {K : PySem.W.Frag} {C : Addr} {vs : List V} {H : Hp} {Q : VK} {E : XK} (T : HouseTxt K C) (h : zsp0a C vs H Q E) :
  zR0a K (zsp0c C) C { nx := fun _ H' => Q .non H', rt := Q } (start ["self", "letter"] vs) H := by
 obtain ⟨p, t, ⟨g, to, n, w⟩, h, R, N, rfl, I, gt, hN, k⟩ := h
 obtain ⟨dx, po, pa, pk, pc, xs, kvs, I0⟩ := id I
 have ob := I0.ob
 unfold zR0a
 unfold HS.spent at k
 dsimp only at gt k
 walk_at "goA"
 rename_i q hq H1 s1 g1
 show if (if true = true then !(inV (.str w) _) else _) = true then _ else _
 rw [if_pos rfl, in_spent]
 have ob1 := s1 _ _ ob
 by_cases e : w = "no" ∨ w = "bound" ∨ w = "off"
 ·rw [if_neg (by simp [e])]
  rw [decide_eq_true e, Bool.true_and] at k
  have gt1 := gt.same s1
  walk_at "go"
  refine ⟨p, n, h, R, N, rfl, I.same s1, by omega, fun H2 R2 m2 => ?_⟩
  walk_at "go"
  have kk := k _ _ ((I.move s1).trans m2)
  cases ed : decisionIn h.book n with
  | none => rw [ed] at kk; exact kk
  | some d => rw [ed] at kk; exact kk
 ·rw [if_pos (by simp [e])]
  rw [decide_eq_false e, Bool.false_and] at k
  walk_at "go"
  exact k _ _ (I.move s1)
def zR14 (K : PySem.W.Frag)  : TS :=
  (tRet (tAndV (tCB (rIsi K) (tCons (tVar 0) (tCons (tC (.ty "int")) tNil))) (tNotV (tCB (rIsi K) (tCons (tVar 0) (tCons (tC (.ty "bool")) tNil))))))
def zR1g (K : PySem.W.Frag)  : TS :=
  (tSeq (tIfS (tTest (tOp rLtI (tVar 1) (tCB (rLenQ K) (tCons (tVar 0) tNil))))
  (tRet (tOp (rIxL K) (tVar 0) (tVar 1)))
  tNext)
  (tRet (tC (.int 0))))
def zR0s (K : PySem.W.Frag) (zsp14 : Sp) : TS :=
  (tSeq (tIfS (tOr (tNot (tB (tCB (rIsi K) (tCons (tVar 0) (tCons (tC (.ty "tuple")) tNil))))) (tTest (tOp rNe (tCB (rLenQ K) (tCons (tVar 0) tNil)) (tC (.int 2)))))
  (tRet (tC (.bl false)))
  tNext)
  (tSeq (tIfS (tOr (tNot (tB (tCB (rIsi K) (tCons (tOp (rIxT K) (tVar 0) (tC (.int 0))) (tCons (tC (.ty "str")) tNil))))) (tNot (tB (tCall zsp14 [] E0 (tCons (tOp (rIxT K) (tVar 0) (tC (.int 1))) tNil)))))
  (tRet (tC (.bl false)))
  tNext)
  (tRet (tOp (rIn K false) (tOp (rIxT K) (tVar 0) (tC (.int 0))) (tLst (tCons (tC (.str "open")) (tCons (tC (.str "yes")) (tCons (tC (.str "no")) (tCons (tC (.str "bound")) (tCons (tC (.str "off")) tNil))))))))))
def zR0e (K : PySem.W.Frag) (zsp0s : Sp) : TS :=
  (tSeq (tIfS (tNot (tB (tCB (rIsi K) (tCons (tVar 0) (tCons (tC (.ty "list")) tNil)))))
  (tRet (tC (.bl false)))
  tNext)
  (tSeq (tFor (iList K (tVar 0)) (gName 1)
  (tIfS (tNot (tB (tCall zsp0s [] E0 (tCons (tVar 1) tNil))))
  (tRet (tC (.bl false)))
  tNext))
  (tRet (tC (.bl true)))))
def zR0f (K : PySem.W.Frag) (zsp14 : Sp) : TS :=
  (tSeq (tIfS (tOr (tNot (tB (tCB (rIsi K) (tCons (tVar 0) (tCons (tC (.ty "tuple")) tNil))))) (tOr (tTest (tOp rNe (tCB (rLenQ K) (tCons (tVar 0) tNil)) (tC (.int 4)))) (tNot (tB (tCB (rIsi K) (tCons (tOp (rIxT K) (tVar 0) (tC (.int 3))) (tCons (tC (.ty "str")) tNil)))))))
  (tRet (tC (.bl false)))
  tNext)
  (tSeq (tFor (iTup K (tSl (rSlT K) (tVar 0) tNoPart (tPart (tC (.int 3))))) (gName 2)
  (tIfS (tNot (tB (tCall zsp14 [] E0 (tCons (tVar 2) tNil))))
  (tRet (tC (.bl false)))
  tNext))
  (tSeq (tIfS (tTest (tOp (rIn K true) (tOp (rIxT K) (tVar 0) (tC (.int 3))) (tLst (tCons (tC (.str "ask")) (tCons (tC (.str "yes")) (tCons (tC (.str "no")) (tCons (tC (.str "bound")) (tCons (tC (.str "off")) (tCons (tC (.str "query")) tNil)))))))))
  (tRet (tC (.bl false)))
  tNext)
  (tRet (tAndV (tChain rLeI rLtI (tC (.int 0)) (tOp (rIxT K) (tVar 0) (tC (.int 0))) (tVar 1)) (tAndV (tChain rLeI rLtI (tC (.int 0)) (tOp (rIxT K) (tVar 0) (tC (.int 1))) (tVar 1)) (tOp rNe (tOp (rIxT K) (tVar 0) (tC (.int 0))) (tOp (rIxT K) (tVar 0) (tC (.int 1))))))))))
def zR06 (K : PySem.W.Frag) (zsp0f : Sp) : TS :=
  (tSeq (tIfS (tNot (tB (tCB (rIsi K) (tCons (tVar 0) (tCons (tC (.ty "list")) tNil)))))
  (tRet (tC (.bl false)))
  tNext)
  (tSeq (tFor (iList K (tVar 0)) (gName 2)
  (tIfS (tNot (tB (tCall zsp0f [] E0 (tCons (tVar 2) (tCons (tVar 1) tNil)))))
  (tRet (tC (.bl false)))
  tNext))
  (tRet (tC (.bl true)))))
theorem kit_int_bool (K : PySem.W.Frag) : PySem.W.kitOne K (.type "int") (.type "bool") = some false := by with_unfolding_all rfl
def zsp14 : Sp := fun vs H Q _ => ∃ i : Int, vs = [.int i] ∧ Q (.bl true) H
theorem zrd14 {K : PySem.W.Frag} {vs : List V} {H : Hp} {Q : VK} {E : XK} (h : zsp14 vs H Q E) : zR14 K { nx := fun _ H' => Q .non H', rt := Q } (start ["_law_found"] vs) H := by
 obtain ⟨i, rfl, k⟩ := h
 unfold zR14
 walk_at "go"
 refine ⟨_, _, _, true, rfl, TyO.int _, kit_same _ _, ?_⟩
 walk_at "go"
 refine iteT ?_
 walk_at "go"
 refine ⟨_, _, _, false, rfl, TyO.int _, kit_int_bool _, ?_⟩
 walk_at "go"
 exact k
def zsp1g (K : PySem.W.Frag) : Sp := fun vs H Q _ => ∃ (a : Addr) (ns : List Int) (k : Nat), vs = [.ref a, .int k] ∧ SqL K H a (ns.map .int) ∧ ∀ z : Int, Q (.int z) H
theorem zrd1g {K : PySem.W.Frag} {vs : List V} {H : Hp} {Q : VK} {E : XK} (h : zsp1g K vs H Q E) : zR1g K { nx := fun _ H' => Q .non H', rt := Q } (start ["_law_script", "_law_k"] vs) H := by
 obtain ⟨a, ns, k, rfl, hS, q⟩ := h
 unfold zR1g
 walk_at "go"
 by_cases e : k < ns.length
 ·rw [if_pos (by simp only [List.length_map, decide_eq_true_eq]; show (k : Int) < (ns.length : Int); omega)]
  have hat : atI (ns.map V.int) (k : Int) = some (.int ns[k]) := atI_nat (by simp [e])
  walk_at "go"
  exact q _
 ·rw [if_neg (by simp only [List.length_map, decide_eq_true_eq]; show ¬ (k : Int) < (ns.length : Int); omega)]
  walk_at "go"
  exact q _
def isLineW (w : Str) : Prop := w = "open" ∨ w = "yes" ∨ w = "no" ∨ w = "bound" ∨ w = "off"
theorem in_lineW {w : Str} (h : isLineW w) : inV (.str w) [.str "open", .str "yes", .str "no", .str "bound", .str "off"] = true := by
 have := in_strs w ["open", "yes", "no", "bound", "off"]
 simp only [List.map_cons, List.map_nil] at this
 rw [this]
 exact decide_eq_true (by simp only [List.mem_cons, List.not_mem_nil, or_false]; exact h)
theorem isLineW.ok {w : Str} (h : isLineW w) : PyData.strOk w = true := by rcases h with rfl | rfl | rfl | rfl | rfl <;> decide +kernel
def zsp0s : Sp := fun vs H Q _ => ∃ t w n, vs = [.ref t] ∧ Rd H t (.tup [.str w, .int n]) ∧ isLineW w ∧ ∀ H', Same H H' → Q (.bl true) H'
theorem zrd0s {K : PySem.W.Frag} {vs : List V} {H : Hp} {Q : VK} {E : XK} (h : zsp0s vs H Q E) : zR0s K zsp14 { nx := fun _ H' => Q .non H', rt := Q } (start ["_law_found"] vs) H := by
 obtain ⟨t, w, n, rfl, rt, hw, k⟩ := h
 unfold zR0s
 walk_at "go"
 refine ⟨_, _, _, true, rfl, TyO.tup rt, kit_same _ _, ?_⟩
 walk_at "go"
 refine iteF ?_
 refine st_test (st_op (st_cb (st_cons (st_var (by rfl) (st_nil (st_lenT (sqTr rt) ?_))))))
 walk_at "go"
 rw [if_neg (by simp)]
 walk_at "go"
 refine ⟨_, _, _, true, rfl, TyO.str _, kit_same _ _, ?_⟩
 walk_at "go"
 refine iteF ?_
 walk_at "go"
 refine ⟨n, rfl, ?_⟩
 walk_at "go"
 refine iteF ?_
 walk_at "goA"
 rename_i q hq H1 s1 g1
 show Q (.bl (if false = true then _ else inV (.str w) _)) H1
 rw [if_neg (by decide : ¬ (false = true)), in_lineW hw]
 exact k H1 s1
def LineWs (b : List Line) : Prop := ∀ l ∈ b, isLineW l.1
def zsp0e : Sp := fun vs H Q _ => ∃ a b, vs = [.ref a] ∧ Rep H [] (.ref a) (bookD b) ∧ LineWs b ∧ ∀ H', Same H H' → Q (.bl true) H'
theorem zrd0e {K : PySem.W.Frag} {vs : List V} {H : Hp} {Q : VK} {E : XK} (h : zsp0e vs H Q E) : zR0e K zsp0s { nx := fun _ H' => Q .non H', rt := Q } (start ["_law_found", "_law_line"] vs) H := by
 obtain ⟨a, b, rfl, hb, hw, k⟩ := h
 obtain ⟨_, xs, e, rd, _, rs⟩ := id hb.lst_inv
 cases e
 unfold zR0e
 walk_at "go"
 refine ⟨_, _, _, true, rfl, TyO.list rd, kit_same _ _, ?_⟩
 walk_at "go"
 refine iteF ?_
 walk_at "go"
 refine for_list (K := K) (a := a) (xs := xs) (fun i σ H' => ∃ v, σ = [some (.ref a), v] ∧ Same H H') ⟨none, rfl, Same.refl _⟩ ?_ ?_ ?_
 ·rintro i σ H' hi ⟨v, rfl, s⟩
  exact s.seq (sqLr rd)
 ·rintro i x σ H' hx ⟨v, rfl, s⟩
  obtain ⟨l, t, hb', rfl, rt⟩ := line_at rs hx
  walk_at "go"
  refine ⟨t, l.1, l.2, rfl, rt.same s, hw l (List.mem_of_getElem? hb'), fun H2 s2 => ?_⟩
  walk_at "go"
  refine iteF ?_
  walk_at "go"
  exact ⟨_, rfl, s.trans s2⟩
 ·rintro σ H' ⟨v, rfl, s⟩
  walk_at "go"
  exact k H' s
def isLetW (w : Str) : Prop := w = "ask" ∨ w = "yes" ∨ w = "no" ∨ w = "bound" ∨ w = "off" ∨ w = "query"
theorem in_letW {w : Str} (h : isLetW w) : inV (.str w) [.str "ask", .str "yes", .str "no", .str "bound", .str "off", .str "query"] = true := by
 have := in_strs w ["ask", "yes", "no", "bound", "off", "query"]
 simp only [List.map_cons, List.map_nil] at this
 rw [this]
 exact decide_eq_true (by simp only [List.mem_cons, List.not_mem_nil, or_false]; exact h)
def GoodL (c : Int) (l : Letter) : Prop := 0 ≤ l.1 ∧ l.1 < c ∧ 0 ≤ l.2.1 ∧ l.2.1 < c ∧ l.1 ≠ l.2.1 ∧ isLetW l.2.2.2
def zsp0f : Sp := fun vs H Q _ => ∃ t c l, vs = [.ref t, .int c] ∧ Rd H t (.tup [.int l.1, .int l.2.1, .int l.2.2.1, .str l.2.2.2]) ∧ GoodL c l ∧ ∀ H', Same H H' → Q (.bl true) H'
theorem zrd0f {K : PySem.W.Frag} {vs : List V} {H : Hp} {Q : VK} {E : XK} (h : zsp0f vs H Q E) : zR0f K zsp14 { nx := fun _ H' => Q .non H', rt := Q } (start ["_law_found", "_law_count", "_law_number"] vs) H := by
 obtain ⟨t, c, ⟨g, to, n, w⟩, rfl, rt, ⟨h1, h2, h3, h4, h5, hw⟩, k⟩ := h
 dsimp only at rt h1 h2 h3 h4 h5 hw
 unfold zR0f
 walk_at "go"
 refine ⟨_, _, _, true, rfl, TyO.tup rt, kit_same _ _, ?_⟩
 walk_at "go"
 refine iteF ?_
 refine st_or (st_test (st_op (st_cb (st_cons (st_var (by rfl) (st_nil (st_lenT (sqTr rt) ?_)))))))
 walk_at "go"
 rw [if_neg (by simp)]
 walk_at "go"
 refine ⟨_, _, _, true, rfl, TyO.str _, kit_same _ _, ?_⟩
 walk_at "go"
 refine iteF ?_
 walk_at "go"
 refine ⟨_, rfl, 3, rfl, t, _, rfl, sqTr rt, by simp [HT.sIx], fun p hp => ?_⟩
 refine ⟨p, rfl, ⟨_, sqT upd_same⟩, ?_⟩
 have s1 : Same H (upd H p (.tup [.int g, .int to, .int n])) := Same.new hp
 have g1 : upd H p (.tup [.int g, .int to, .int n]) p = some (.tup [.int g, .int to, .int n]) := upd_same
 show ∃ W : Nat → Nat → St → Hp → Prop, (∃ m, W 0 m _ (upd H p (.tup [.int g, .int to, .int n]))) ∧ _
 generalize upd H p (.tup [.int g, .int to, .int n]) = H1 at *
 refine for_tup (K := K) (a := p) (xs := [.int g, .int to, .int n]) (fun i σ H' => ∃ v, σ = [some (.ref t), some (.int c), v] ∧ H' = H1) ⟨none, rfl, rfl⟩ ?_ ?_ ?_
 ·rintro i σ H' hi ⟨v, rfl, rfl⟩
  exact sqT g1
 ·rintro i x σ H' hx ⟨v, rfl, rfl⟩
  obtain ⟨z, rfl⟩ : ∃ z, x = V.int z := by
   have := List.mem_of_getElem? hx
   simp only [List.mem_cons, List.not_mem_nil, or_false] at this
   rcases this with rfl | rfl | rfl <;> exact ⟨_, rfl⟩
  walk_at "go"
  refine ⟨z, rfl, ?_⟩
  walk_at "go"
  refine iteF ?_
  walk_at "go"
  exact ⟨_, rfl, rfl⟩
 ·rintro σ H' ⟨v, rfl, rfl⟩
  have rt1 := rt.same s1
  walk_at "goA"
  rename_i q hq H2 s2 g2
  show if (if true = true then !inV (.str w) _ else _) = true then _ else _
  rw [if_pos (rfl : true = true), in_letW hw]
  refine iteF ?_
  have rt2 := rt1.same s2
  walk_at "go"
  rw [if_pos (decide_eq_true h1)]
  walk_at "go"
  rw [if_pos (decide_eq_true h2)]
  walk_at "go"
  rw [if_pos (decide_eq_true h3)]
  walk_at "go"
  rw [if_pos (decide_eq_true h4)]
  walk_at "go"
  rw [show (!decide (V.int g = V.int to)) = true by simp [h5]]
  exact k H2 (s1.trans s2)
def GoodLs (c : Int) (ls : List Letter) : Prop := ∀ l ∈ ls, GoodL c l
def zsp06 : Sp := fun vs H Q _ => ∃ a c ls, vs = [.ref a, .int c] ∧ Rep H [] (.ref a) (lettersD ls) ∧ GoodLs c ls ∧ ∀ H', Same H H' → Q (.bl true) H'
theorem zrd06 {K : PySem.W.Frag} {vs : List V} {H : Hp} {Q : VK} {E : XK} (h : zsp06 vs H Q E) : zR06 K zsp0f { nx := fun _ H' => Q .non H', rt := Q } (start ["_law_found", "_law_count", "_law_letter"] vs) H := by
 obtain ⟨a, c, ls, rfl, hb, hw, k⟩ := h
 obtain ⟨_, xs, e, rd, _, rs⟩ := id hb.lst_inv
 cases e
 unfold zR06
 walk_at "go"
 refine ⟨_, _, _, true, rfl, TyO.list rd, kit_same _ _, ?_⟩
 walk_at "go"
 refine iteF ?_
 walk_at "go"
 refine for_list (K := K) (a := a) (xs := xs) (fun i σ H' => ∃ v, σ = [some (.ref a), some (.int c), v] ∧ Same H H') ⟨none, rfl, Same.refl _⟩ ?_ ?_ ?_
 ·rintro i σ H' hi ⟨v, rfl, s⟩
  exact s.seq (sqLr rd)
 ·rintro i x σ H' hx ⟨v, rfl, s⟩
  obtain ⟨l, t, hb', rfl, rt⟩ := letter_at rs hx
  walk_at "go"
  refine ⟨t, c, l, rfl, rt.same s, hw l (List.mem_of_getElem? hb'), fun H2 s2 => ?_⟩
  walk_at "go"
  refine iteF ?_
  walk_at "go"
  exact ⟨_, rfl, s.trans s2⟩
 ·rintro σ H' ⟨v, rfl, s⟩
  walk_at "go"
  exact k H' s
end Oh
set_option Elab.async false
set_option linter.all false
namespace L2
open PySem PySem.Spec PyProof.Rows
end L2
set_option Elab.async false
set_option linter.all false
set_option maxRecDepth 100000
namespace L2
open PySem PySem.Spec PyProof.Rows
variable {X : Cx}
def rIsi2 (K : PySem.W.Frag) : List V → Hp → VK → Prop := fun xs H Q => ∃ x a T1 T2 t b, xs = [.ref x, .ref a] ∧ ((∃ ys, Rd H x (.lst ys) ∧ t = Value.type "list") ∨ ∃ ys, Rd H x (.tup ys) ∧ t = Value.type "tuple") ∧ H a = some (.tup [.ty T1, .ty T2]) ∧
 PySem.W.kitAny K t [.type T1, .type T2] = some b ∧ Q (.bl b) H
theorem call_isinst2 : CallR X (.builtin "isinstance") (rIsi2 X.K) := by
 intro pins s σ H xs us Q I r h
 obtain ⟨x, a, T1, T2, t, b, rfl, hx, ga, e, q⟩ := h
 obtain ⟨u, v, rfl, ru, rv⟩ := Vals.two r
 cases (show u = Value.ref x from ru)
 cases (show v = Value.ref a from rv)
 obtain ⟨its, vi, ⟨o, h1, h2, n, h3⟩, _⟩ := I.tuple (a := a) (Or.inl (.inl ga))
 obtain ⟨i1, i2, rfl, r1, r2⟩ := Vals.two vi
 cases (show i1 = Value.type T1 from r1)
 cases (show i2 = Value.type T2 from r2)
 obtain ⟨oc, od, odt, osl⟩ := o
 dsimp only at h2 h3
 subst h2
 subst h3
 rcases hx with ⟨ys, rd, rfl⟩ | ⟨ys, rd, rfl⟩
 ·rcases rd with ea | ⟨ob, ea⟩
  ·obtain ⟨_, _, n, _, h1'⟩ := (show ObjOk X.prog X.w H s.heap x (.lst ys) from I.hok x _ ea)
   exact PySem.W.kia_tup PySem.W.kitx_list I.kIn ⟨_, h1', rfl⟩ h1 e (fun z => nomatch z) fun tk => ⟨.bl b, H, I.tok tk, rfl, q⟩
  ·obtain ⟨_, _, _, n, _, h1'⟩ := (show ObjOk X.prog X.w H s.heap x (.frz ob (.lst ys)) from I.hok x _ ea)
   exact PySem.W.kia_tup PySem.W.kitx_list I.kIn ⟨_, h1', rfl⟩ h1 e (fun z => nomatch z) fun tk => ⟨.bl b, H, I.tok tk, rfl, q⟩
 ·obtain ⟨its', _, ⟨o', h1', h2', _⟩, _⟩ := I.tuple (Or.inl rd)
  exact PySem.W.kia_tup PySem.W.kitx_tuple I.kIn ⟨o', h1', h2'⟩ h1 e (fun z => nomatch z) fun tk => ⟨.bl b, H, I.tok tk, rfl, q⟩
theorem kit_list2 (K : PySem.W.Frag) : PySem.W.kitAny K (.type "list") [.type "list", .type "tuple"] = some true := by with_unfolding_all rfl
theorem kit_tup2 (K : PySem.W.Frag) : PySem.W.kitAny K (.type "tuple") [.type "list", .type "tuple"] = some true := by with_unfolding_all rfl
end L2
set_option Elab.async false
set_option linter.all false
set_option maxRecDepth 100000
set_option maxHeartbeats 4000000
namespace L2
open PySem PySem.Spec PyProof.Rows
def rRng2 : List V → Hp → VK → Prop := fun xs H Q => ∃ i j : Int, xs = [.int i, .int j] ∧ ∀ r, H r = none → Q (.ref r) (upd H r (.rng i j))
def rangeV (i j : Int) : List V := (List.range (j - i).toNat).map fun (k : Nat) => V.int (i + k)
def rListRng : List V → Hp → VK → Prop := fun xs H Q => ∃ p, ∃ i j : Int, xs = [.ref p] ∧ H p = some (.rng i j) ∧ (-(2 ^ 62) ≤ i ∧ i < 2 ^ 62 ∧ -(2 ^ 62) ≤ j ∧ j < 2 ^ 62) ∧ (j - i).toNat ≤ 2 ^ 24 ∧ ∀ l, H l = none → Q (.ref l) (upd H l (.lst (rangeV i j)))
section
variable {X : Cx}
theorem call_rng2 : CallR X (.type "range") rRng2 := by
 intro pins s σ H xs us Q I r h
 obtain ⟨i, j, rfl, q⟩ := h
 cases r with
 | cons r rr =>
  cases rr with
  | cons r' rr =>
   cases rr
   obtain ⟨t, rfl⟩ := r
   obtain ⟨t', rfl⟩ := r'
   refine call_range_2 ?_
   exact ⟨.ref s.heap.objs.size, _, I.laid (fun b o e => Heap.get?_push_of_some _ e) (Nat.le_refl _) (show ObjOk X.prog X.w _ _ _ (.rng i j) from ⟨_, _, _, Heap.get?_push_size _ rfl⟩), rfl, q _ (I.hok.fresh (Nat.le_refl _))⟩
theorem paired_of : ∀ (l : List Value) (f : Nat → V) (o : Nat), (∀ j v, l[j]? = some v → RelV (f (o + j)) v) → Vals ((List.range' o l.length).map f) l
 | [], f, o, h => .nil
 | x :: r, f, o, h => by
  rw [List.length_cons, List.range'_succ, List.map_cons]
  refine .cons (h 0 x rfl) (paired_of r f (o + 1) fun j v e => ?_)
  have := h (j + 1) v (by simpa using e)
  rwa [show o + (j + 1) = o + 1 + j from by omega] at this
theorem items_vals {a : Int} {acc : Array Value} {n : Nat} (h : ItemsOf (fun i v => ∃ t, v = Value.int (a + i * 1) t) acc n) : Vals ((List.range n).map fun (k : Nat) => V.int (a + k)) acc.toList := by
 obtain ⟨hs, hv⟩ := h
 have := paired_of acc.toList (fun k => V.int (a + (k : Int))) 0 fun j v e => by
  obtain ⟨t, rfl⟩ := hv j v (by simpa using e)
  exact ⟨t, by simp⟩
 rw [← hs, List.range_eq_range']
 simpa using this
theorem call_listRng (hc : X.calm = true) : CallR X (.type "list") rListRng := by
 intro pins s σ H xs us Q I r h
 obtain ⟨p, i, j, rfl, hp, ⟨h1, h2, h3, h4⟩, hl, q⟩ := h
 obtain ⟨u, rfl, rx⟩ := vals1 r
 cases rx
 obtain ⟨t, u, v, e⟩ := I.hok p _ hp
 have hsz : Builtin.Range.rangeSize i j 1 = (((j - i).toNat : Nat) : Int) := by rw [rangeSize_one]; split <;> omega
 refine call_list_range (n := (j - i).toNat) (I.ok.hd hc) e (small_one h1 h2 h3 h4) hsz hl fun h' tk acc' c' kp hS hacc => ?_
 have rv := items_vals hacc
 have hlen : (rangeV i j).length = (j - i).toNat := by unfold rangeV; simp
 exact ⟨.ref s.heap.objs.size, _, I.laid (t' := tk) kp (Nat.le_refl _) (show ObjOk X.prog X.w _ h' _ (.lst (rangeV i j)) from ⟨by rw [hlen]; exact hl, acc'.toList, c', rv, by simpa using hS⟩), rfl, q _ (I.hok.fresh (Nat.le_refl _))⟩
end
end L2
set_option Elab.async false
set_option linter.all false
set_option maxRecDepth 100000
set_option maxHeartbeats 4000000
namespace Oh
open PySem L2
def zR04 (K : PySem.W.Frag)  : TS :=
  (tRet (tLC (iList K (tVar 0)) (gName 0) (tTest (tOp rEq (tOp (rIxT K) (tVar 0) (tC (.int 0))) (tVar 1))) (tOp (rIxT K) (tVar 0) (tC (.int 1))) [none, some 1]))
def zR12 (K : PySem.W.Frag) (zsp04 : Sp) (zsp11 : Sp) (C_House : Addr) : TS :=
  (tSeq (sFld K (tVar 0) (tLC (iRng1 (tCons (tVar 1) tNil)) (gName 0) tNoIf (tMake C_House zsp11 [] E0 (tCons (tVar 0) (tCons (tVar 1) (tCons (tCall zsp04 [] E0 (tCons (tVar 2) (tCons (tVar 0) tNil))) tNil)))) [none, some 1, some 2]) "houses")
  (tSeq (sFld K (tVar 0) (tLst tNil) "letters")
  (sFld K (tVar 0) (tLst tNil) "unspent")))
def zR1f (K : PySem.W.Frag) (zsp0v : Sp) (zsp0t : Sp) (zsp10 : Sp) (zsp19 : Sp) (zsp1a : Sp) (zsp0u : Sp) (C_Hall : Addr) : TS :=
  (tSeq (tAsg (tOp (rIxT K) (tVar 1) (tC (.int 0))) (gName 2))
  (tSeq (tIfS (tTest (tOp rEq (tVar 2) (tC (.str "begin"))))
  (tRet (tMeth C_Hall "begin" zsp0v [] E0 (tVar 0) (tCons (tOp (rIxT K) (tVar 1) (tC (.int 1))) (tCons (tOp (rIxT K) (tVar 1) (tC (.int 2))) tNil))))
  tNext)
  (tSeq (tIfS (tTest (tOp rEq (tVar 2) (tC (.str "carry"))))
  (tRet (tMeth C_Hall "carry" zsp0t [] E0 (tVar 0) (tCons (tOp (rIxT K) (tVar 1) (tC (.int 1))) (tCons (tOp (rIxT K) (tVar 1) (tC (.int 2))) tNil))))
  tNext)
  (tSeq (tIfS (tTest (tOp rEq (tVar 2) (tC (.str "query"))))
  (tRet (tMeth C_Hall "query" zsp10 [] E0 (tVar 0) (tCons (tOp (rIxT K) (tVar 1) (tC (.int 1))) (tCons (tOp (rIxT K) (tVar 1) (tC (.int 2))) tNil))))
  tNext)
  (tSeq (tIfS (tTest (tOp rEq (tVar 2) (tC (.str "stop"))))
  (tRet (tMeth C_Hall "stop" zsp19 [] E0 (tVar 0) (tCons (tOp (rIxT K) (tVar 1) (tC (.int 1))) tNil)))
  tNext)
  (tSeq (tIfS (tTest (tOp rEq (tVar 2) (tC (.str "wake"))))
  (tRet (tMeth C_Hall "wake" zsp1a [] E0 (tVar 0) (tCons (tOp (rIxT K) (tVar 1) (tC (.int 1))) tNil)))
  tNext)
  (tRet (tMeth C_Hall "sweep" zsp0u [] E0 (tVar 0) tNil))))))))
def zR0v (K : PySem.W.Frag) (zsp1i : Sp) (zsp0r : Sp) (zsp03 : Sp) (C_House : Addr) (C_Hall : Addr) : TS :=
  (tSeq (tAsg (tOp (rIxL K) (tFld K (tVar 0) "houses") (tOp rModI (tVar 1) (tCB (rLenQ K) (tCons (tFld K (tVar 0) "houses") tNil)))) (gName 3))
  (tSeq (tIfS (tOr (tNot (tB (tFld K (tVar 3) "awake"))) (tB (tCall zsp1i [] E0 (tCons (tFld K (tVar 3) "book") (tCons (tVar 1) tNil)))))
  (tRet (tC .non))
  tNext)
  (tSeq (tAsg (tCB (rLenQ K) (tCons (tFld K (tVar 3) "book") tNil)) (gName 4))
  (tSeq (tDrop (tMeth C_Hall "send_or_stop" zsp03 [] E0 (tVar 0) (tCons (tVar 3) (tCons (tMeth C_House "begin" zsp0r [] E0 (tVar 3) (tCons (tVar 1) tNil)) (tCons (tVar 2) tNil)))))
  (tRet (tSl (rSlL K) (tFld K (tVar 3) "book") (tPart (tVar 4)) tNoPart))))))
def zR0t (K : PySem.W.Frag) (zsp15 : Sp) (zsp03 : Sp) (C_House : Addr) (C_Hall : Addr) : TS :=
  (tSeq (tIfS (tTest (tOp rGeI (tVar 1) (tCB (rLenQ K) (tCons (tFld K (tVar 0) "letters") tNil))))
  (tRet (tC .non))
  tNext)
  (tSeq (tAsg (tOp (rIxL K) (tFld K (tVar 0) "letters") (tVar 1)) (gName 3))
  (tSeq (tAsg (tOp (rIxL K) (tFld K (tVar 0) "houses") (tOp (rIxT K) (tVar 3) (tC (.int 1)))) (gName 4))
  (tSeq (tIfS (tNot (tB (tFld K (tVar 4) "awake")))
  (tRet (tC .non))
  tNext)
  (tSeq (tAsg (tCB (rLenQ K) (tCons (tFld K (tVar 4) "book") tNil)) (gName 5))
  (tSeq (tDrop (tMeth C_Hall "send_or_stop" zsp03 [] E0 (tVar 0) (tCons (tVar 4) (tCons (tMeth C_House "got" zsp15 [] E0 (tVar 4) (tCons (tVar 3) tNil)) (tCons (tVar 2) tNil)))))
  (tRet (tSl (rSlL K) (tFld K (tVar 4) "book") (tPart (tVar 5)) tNoPart))))))))
def zR10 (K : PySem.W.Frag) (zsp0n : Sp) (zsp16 : Sp) (C_House : Addr) (C_Hall : Addr) : TS :=
  (tSeq (tAsg (tMeth C_House "query" zsp0n [] E0 (tOp (rIxL K) (tFld K (tVar 0) "houses") (tVar 1)) (tCons (tVar 2) tNil)) (gName 3))
  (tSeq (tDrop (tMeth C_Hall "send" zsp16 [] E0 (tVar 0) (tCons (tVar 3) tNil)))
  (tRet (tOp rGtI (tCB (rLenQ K) (tCons (tVar 3) tNil)) (tC (.int 0))))))
def zR19 (K : PySem.W.Frag) (zsp0y : Sp) (C_House : Addr) : TS :=
  (tSeq (tAsg (tOp (rIxL K) (tFld K (tVar 0) "houses") (tVar 1)) (gName 2))
  (tSeq (tIfS (tNot (tB (tFld K (tVar 2) "awake")))
  (tRet (tC (.bl false)))
  tNext)
  (tSeq (tDrop (tMeth C_House "stop" zsp0y [] E0 (tVar 2) tNil))
  (tRet (tC (.bl true))))))
def zR1a (K : PySem.W.Frag) (zsp0w : Sp) (zsp16 : Sp) (C_House : Addr) (C_Hall : Addr) : TS :=
  (tSeq (tAsg (tOp (rIxL K) (tFld K (tVar 0) "houses") (tVar 1)) (gName 2))
  (tSeq (tIfS (tB (tFld K (tVar 2) "awake"))
  (tRet (tC .non))
  tNext)
  (tSeq (tAsg (tCB (rLenQ K) (tCons (tFld K (tVar 2) "book") tNil)) (gName 3))
  (tSeq (tDrop (tMeth C_Hall "send" zsp16 [] E0 (tVar 0) (tCons (tMeth C_House "wake" zsp0w [] E0 (tVar 2) tNil) tNil)))
  (tRet (tSl (rSlL K) (tFld K (tVar 2) "book") (tPart (tVar 3)) tNoPart))))))
def zR0u (K : PySem.W.Frag) (zsp0t : Sp) (zsp00 : Sp) (C_Hall : Addr) : TS :=
  (tSeq (tAsg (tLst tNil) (gName 1))
  (tSeq (tAsg (tC (.int 0)) (gName 2))
  (tSeq (tWhile (tTest (tOp rLtI (tVar 2) (tCB (rLenQ K) (tCons (tFld K (tVar 0) "unspent") tNil))))
  (tSeq (tAsg (tOp (rIxL K) (tFld K (tVar 0) "unspent") (tVar 2)) (gName 3))
  (tSeq (tAsg (tMeth C_Hall "carry" zsp0t [] E0 (tVar 0) (tCons (tVar 3) (tCons (tC (.bl true)) tNil))) (gName 4))
  (tCut (tIfS (tB (tNotN (tVar 4)))
  (tSeq (tAsg (tOp (rIxT K) (tOp (rIxL K) (tFld K (tVar 0) "letters") (tVar 3)) (tC (.int 1))) (gName 5))
  (tDrop (tBM K "list" rExtend (tVar 1) (tCons (tLC (iList K (tVar 4)) (gName 0) tNoIf (tTup (tCons (tVar 1) (tCons (tVar 0) tNil))) [none, some 5]) tNil))))
  tNext)
  (tAug 2 (tC (.int 1)) (ipI fun i j => i + j))))))
  (tSeq (sFld K (tVar 0) (tLC (iList K (tFld K (tVar 0) "unspent")) (gName 0) (tNot (tB (tMeth C_Hall "is_spent_letter" zsp00 [] E0 (tVar 1) (tCons (tVar 0) tNil)))) (tVar 0) [none, some 0]) "unspent")
  (tRet (tVar 1))))))
def zR00 (K : PySem.W.Frag) (zsp0a : Sp) (C_House : Addr) : TS :=
  (tSeq (tAsg (tOp (rIxL K) (tFld K (tVar 0) "letters") (tVar 1)) (gName 2))
  (tRet (tMeth C_House "is_spent" zsp0a [] E0 (tOp (rIxL K) (tFld K (tVar 0) "houses") (tOp (rIxT K) (tVar 2) (tC (.int 1)))) (tCons (tVar 2) tNil))))
def zR03 (K : PySem.W.Frag) (zsp16 : Sp) (zsp0y : Sp) (C_Hall : Addr) (C_House : Addr) : TS :=
  (tIfS (tB (tVar 3))
  (tDrop (tMeth C_Hall "send" zsp16 [] E0 (tVar 0) (tCons (tVar 2) tNil)))
  (tDrop (tMeth C_House "stop" zsp0y [] E0 (tVar 1) tNil)))
def zR16 (K : PySem.W.Frag)  : TS :=
  (tSeq (tAsg (tCB (rLenQ K) (tCons (tFld K (tVar 0) "letters") tNil)) (gName 2))
  (tSeq (tDrop (tBM K "list" rExtend (tFld K (tVar 0) "letters") (tCons (tVar 1) tNil)))
  (tDrop (tBM K "list" rExtend (tFld K (tVar 0) "unspent") (tCons (tCB rListRng (tCons (tCB rRng2 (tCons (tVar 2) (tCons (tCB (rLenQ K) (tCons (tFld K (tVar 0) "letters") tNil)) tNil))) tNil)) tNil)))))
def zR0z (K : PySem.W.Frag) (zsp12 : Sp) (zsp1f : Sp) (C_Hall : Addr) : TS :=
  (tSeq (tAsg (tMake C_Hall zsp12 [] E0 (tCons (tVar 0) (tCons (tVar 1) tNil))) (gName 3))
  (tSeq (tFor (iList K (tVar 2)) (gName 4)
  (tDrop (tMeth C_Hall "do" zsp1f [] E0 (tVar 3) (tCons (tVar 4) tNil))))
  (tRet (tVar 3))))
def zR1d (K : PySem.W.Frag) (zsp12 : Sp) (zsp1f : Sp) (C_Hall : Addr) : TS :=
  (tSeq (tAsg (tMake C_Hall zsp12 [] E0 (tCons (tVar 0) (tCons (tVar 1) tNil))) (gName 3))
  (tRet (tLC (iList K (tVar 2)) (gName 0) tNoIf (tMeth C_Hall "do" zsp1f [] E0 (tVar 1) (tCons (tVar 0) tNil)) [none, some 3])))
def zR0p (K : PySem.W.Frag) (zsp0z : Sp) : TS :=
  (tRet (tLC (iList K (tFld K (tCall zsp0z [] E0 (tCons (tVar 0) (tCons (tVar 1) (tCons (tVar 2) tNil)))) "houses")) (gName 0) tNoIf (tFld K (tVar 0) "book") [none]))
def zR0g (K : PySem.W.Frag) (zsp0z : Sp) : TS :=
  (tRet (tFld K (tCall zsp0z [] E0 (tCons (tVar 0) (tCons (tVar 1) (tCons (tVar 2) tNil)))) "letters"))
structure HallTxt (K : PySem.W.Frag) (C : Addr) : Prop where
 cl : Cls K C
 f1 : NoAttr K C "houses"
 f2 : NoAttr K C "letters"
 f3 : NoAttr K C "unspent"
local macro_rules | `(tactic| walk_at "ne") => `(tactic| first | assumption | (refine' Ne.symm ?k1; (case k1 => assumption)) | (refine' ne_new ?k1 ?k2; (case k1 => assumption); (case k2 => walk_at "hl")) | (refine' ne_newR ?k1 ?k2; (case k1 => assumption); (case k2 => walk_at "rd")) | (refine' Ne.symm (ne_new ?k1 ?k2); (case k1 => assumption); (case k2 => walk_at "hl")) | (refine' Ne.symm (ne_newR ?k1 ?k2); (case k1 => assumption); (case k2 => walk_at "rd")))
local macro_rules | `(tactic| walk_at "hl") => `(tactic| with_reducible first | assumption | exact upd_same | (refine' upd_at ?k1 ?k2; (case k1 => walk_at "ne"); (case k2 => walk_at "hl")) | (refine' Same.at ?k1 ?k2; (case k1 => assumption); (case k2 => walk_at "hl")))
local macro_rules | `(tactic| walk_at "rd") => `(tactic| with_reducible first | assumption | (refine' Rd.of ?k1; (case k1 => walk_at "hl")) | (refine' Rd.upd ?k1 ?k2; (case k1 => walk_at "ne"); (case k2 => walk_at "rd")) | (refine' Rd.same ?k1 ?k2; (case k1 => assumption); (case k2 => walk_at "rd")))
local macro_rules | `(tactic| walk_at "sq") => `(tactic| with_reducible first | assumption | (refine' sqLr ?k1; (case k1 => walk_at "rd")) | (refine' sqTr ?k1; (case k1 => walk_at "rd")) | (refine' SqL.new ?k1 ?k2; (case k1 => assumption); (case k2 => walk_at "sq")) | (refine' Same.seq ?k1 ?k2; (case k1 => assumption); (case k2 => walk_at "sq")))
local macro_rules | `(tactic| walk_at "rf") => `(tactic| first | with_unfolding_all rfl | assumption)
local macro_rules | `(tactic| walk_at "fl") => `(tactic| first | with_unfolding_all rfl | exact flat_strs _ | exact flat_ints _)
local macro_rules | `(tactic| walk_at "st") => `(tactic| with_reducible first
 | refine st_seq ?_ | refine st_asg ?_ | refine st_gname ?_ | refine st_if ?_ | refine st_ret ?_ | refine st_retN ?_
 | refine st_drop ?_ | refine st_next ?_ | refine st_test ?_ | refine st_B ?_ | refine st_bl ?_ | refine st_int ?_
 | refine st_and ?_ | refine st_or ?_ | refine st_not ?_ | refine st_andV ?_ | refine st_orV ?_ | refine st_notV ?_ | refine st_ifE ?_
 | refine st_chain ?_ | refine st_op ?_ | refine st_un ?_ | refine st_isN ?_ | refine st_notN ?_
 | refine st_nil ?_ | refine st_cons ?_ | refine st_tup ?_ | refine st_lst ?_ | refine st_dnew ?_ | refine st_call ?_ | refine st_cb ?_
 | (refine' st_var ?k1 ?_; (case k1 => walk_at "rf")) | refine st_c ?_
 | refine st_rI0 ?_ | refine st_rU ?_ | (refine' st_rI ?k1 ?_; (case k1 => first | exact mulR (by decide) | exact divR (by decide) | decide | (show (0 : Int) < _; decide)))
 | (refine' st_rEq ?k1 ?_; (case k1 => walk_at "rf")) | (refine' st_rNe ?k1 ?_; (case k1 => walk_at "rf"))
 | (refine' st_ixL ?k1 ?k2 ?_; (case k1 => walk_at "sq"); (case k2 => walk_at "rf")) | (refine' st_ixT ?k1 ?k2 ?_; (case k1 => walk_at "sq"); (case k2 => walk_at "rf"))
 | (refine' st_lenL ?k1 ?_; (case k1 => walk_at "sq")) | (refine' st_lenT ?k1 ?_; (case k1 => walk_at "sq"))
 | (refine' st_inL ?k1 ?k2 ?k3 ?_; (case k1 => walk_at "sq"); (case k2 => walk_at "rf"); (case k3 => walk_at "fl"))
 | (refine' st_inT ?k1 ?k2 ?k3 ?_; (case k1 => walk_at "sq"); (case k2 => walk_at "rf"); (case k3 => walk_at "fl"))
 | (refine' st_listL ?k1 ?_; (case k1 => walk_at "sq")) | refine st_min ?_ | refine st_intB ?_
 | refine st_sl ?_ | refine st_noPart ?_ | refine st_part ?_ | (refine' st_slL ?k1 ?_; (case k1 => walk_at "sq"))
 | refine st_meth ?_ | (refine' st_insM ?k1 ?k2 ?_; (case k1 => walk_at "hl"); (case k2 => walk_at "rf")) | refine st_sfld ?_
 | (refine' st_ins ?k1 ?k2 ?k3 ?k4 ?_; (case k1 => walk_at "hl"); (case k2 => assumption); (case k3 => assumption); (case k4 => walk_at "rf")) | (refine' st_lenD ?k1 ?_; (case k1 => walk_at "hl"))
 | refine st_bm ?_ | refine st_fld ?_ | refine st_dput ?_ | refine st_dget2 ?_ | refine st_dget ?_ | refine st_dsetd ?_
 | refine st_for ?_ | refine st_iList ?_ | (refine' st_itl ?k1 ?_; (case k1 => walk_at "sq")) | refine st_iRng ?_ | refine st_lc ?_ | refine st_noIf ?_
 | (refine' st_sz ?k1 ?_; (case k1 => with_unfolding_all rfl))
 | (refine' st_isD ?k1 ?_; (case k1 => walk_at "hl")) | (refine' st_dgetK ?k1 ?_; (case k1 => walk_at "hl")))
local macro_rules | `(tactic| walk_at "go") => `(tactic| repeat walk_at "st")
local macro_rules | `(tactic| walk_at "new") => `(tactic| ((with_reducible refine st_all ?_); intro p hp; generalize hH : upd _ p _ = H'; have hs := same_of hp hH; have hg := at_of hH; clear hH))
local macro_rules | `(tactic| walk_at "sm") => `(tactic| with_reducible first | assumption | exact Same.refl _ | (refine' Same.trans ?k1 ?k2; (case k2 => assumption); (case k1 => walk_at "sm")))
local macro_rules | `(tactic| walk_at "goA") => `(tactic| repeat (first | walk_at "st" | walk_at "new"))
structure HallS where
 hs : List HS
 ls : List Letter
 un : List Nat
inductive Ans where
 | non | bl (b : Bool) | lines (ls : List Line) | pairs (ps : List (Int × Line))
def pairD (x : Int × Line) : PyData := .tuple [.int x.1, lineD x.2]
def Ans.D : Ans → PyData
 | .non => .none | .bl b => .bool b | .lines ls => bookD ls | .pairs ps => .list (ps.map pairD)
def HallS.send (S : HallS) (sent : List Letter) : HallS := { S with ls := S.ls ++ sent, un := S.un ++ (List.range sent.length).map (S.ls.length + ·) }
def HallS.put (S : HallS) (i : Nat) (h : HS) : HallS := { S with hs := S.hs.set i h }
def HallS.post (S : HallS) (i : Nat) (r : HS × List Letter) (st : Bool) : HallS := if st = true then (S.put i r.1).send r.2 else S.put i r.1.stop
def HallS.lead (S : HallS) (n : Int) : Nat := (n % (S.hs.length : Int)).toNat
def HallS.begin (S : HallS) (n : Int) (st : Bool) : HallS × Ans :=
 match S.hs[S.lead n]? with
 | none => (S, .non)
 | some h => if h.up = true ∧ wordsOf h.book n = [] then (S.post (S.lead n) (h.begin n) st, .lines ((h.begin n).1.book.drop h.book.length)) else (S, .non)
def HallS.carryL (S : HallS) (l : Letter) (st : Bool) : HallS × Ans :=
 match S.hs[l.2.1.toNat]? with
 | none => (S, .non)
 | some h => if h.up = true then (S.post l.2.1.toNat (h.got l) st, .lines ((h.got l).1.book.drop h.book.length)) else (S, .non)
def HallS.carry (S : HallS) (k : Int) (st : Bool) : HallS × Ans :=
 match S.ls[k.toNat]? with
 | none => (S, .non)
 | some l => S.carryL l st
def HallS.query (S : HallS) (i : Nat) (n : Int) : HallS × Ans :=
 match S.hs[i]? with
 | none => (S, .non)
 | some h => (S.send (h.query n), .bl (decide (0 < (h.query n).length)))
def HallS.stop (S : HallS) (i : Nat) : HallS × Ans :=
 match S.hs[i]? with
 | none => (S, .non)
 | some h => if h.up = true then (S.put i h.stop, .bl true) else (S, .bl false)
def HallS.wake (S : HallS) (i : Nat) : HallS × Ans :=
 match S.hs[i]? with
 | none => (S, .non)
 | some h => if h.up = true then (S, .non) else ((S.put i h.wake.1).send h.wake.2, .lines (h.wake.1.book.drop h.book.length))
def told (l : Letter) : Ans → List (Int × Line)
 | .lines ls => ls.map fun x => (l.2.1, x)
 | _ => []
def HallS.turn (S : HallS) (k : Nat) : HallS × List (Int × Line) :=
 match S.ls[k]? with
 | none => (S, [])
 | some l => ((S.carryL l true).1, told l (S.carryL l true).2)
def HallS.sweepGo : Nat → HallS → Nat → List (Int × Line) → Option (HallS × List (Int × Line))
 | 0, S, pl, w => if pl < S.un.length then none else some (S, w)
 | f + 1, S, pl, w => if h : pl < S.un.length then (S.turn S.un[pl]).1.sweepGo f (pl + 1) (w ++ (S.turn S.un[pl]).2) else some (S, w)
def HallS.spentAt (S : HallS) (k : Nat) : Bool :=
 match S.ls[k]? with
 | none => false
 | some l => match S.hs[l.2.1.toNat]? with
  | none => false
  | some h => h.spent l
def HallS.trim (S : HallS) : HallS := { S with un := S.un.filter fun k => !S.spentAt k }
structure LetOk (c : Nat) (l : Letter) : Prop where
 g0 : 0 ≤ l.1
 g1 : l.1 < c
 t0 : 0 ≤ l.2.1
 t1 : l.2.1 < c
 w : l.2.2.2 ∈ ([("ask" : Str), "yes", "no", "bound", "off", "query"] : List Str)
structure HallOk (c : Nat) (S : HallS) : Prop where
 len : S.hs.length = c
 c1 : 2 ≤ c
 c2 : c ≤ 20
 num : ∀ (i : Nat) (h : HS), S.hs[i]? = some h → h.num = i ∧ h.oth = othersOf i c
 let_ : ∀ l ∈ S.ls, LetOk c l
 un : ∀ k ∈ S.un, k < S.ls.length
theorem ne_of_none' {H : Hp} {a b : Addr} {o : HO} (h : H a = none) (h' : H b = some o) : a ≠ b := fun e => by rw [e, h'] at h; cases h
def lfs (ph pl pu : Addr) : List (Str × V) := [("houses", .ref ph), ("letters", .ref pl), ("unspent", .ref pu)]
structure HallIn (CH CX : Addr) (H : Hp) (q : Addr) (ps : Nat → Addr) (S : HallS) (R : List Addr) (N : Nat) (dx ph pl pu : Addr) (Rs : Nat → List Addr) (ys : List V) : Prop where
 ob : H q = some (.ins CX dx (lfs ph pl pu))
 oh : H ph = some (.lst ((List.range S.hs.length).map fun i => .ref (ps i)))
 ol : H pl = some (.lst ys)
 ls : Reps H [] ys (S.ls.map letterD)
 ou : H pu = some (.lst (S.un.map fun (k : Nat) => .int k))
 hs : ∀ i h, S.hs[i]? = some h → HouseAt CH H (ps i) h (Rs i) N
 dj : ∀ i j a, i ≠ j → i < S.hs.length → j < S.hs.length → a ∈ Rs i → a ∈ Rs j → False
 nq : ∀ i a, i < S.hs.length → a ∈ Rs i → a ≠ q ∧ a ≠ ph ∧ a ≠ pl ∧ a ≠ pu
 n1 : ph ≠ pl
 n2 : ph ≠ pu
 n3 : pl ≠ pu
 m1 : q ∈ R
 m2 : ph ∈ R
 m3 : pl ∈ R
 m4 : pu ∈ R
 m5 : ∀ i a, i < S.hs.length → a ∈ Rs i → a ∈ R
 trk : ∀ a ∈ R, ∃ o, H a = some o
def HallAt (CH CX : Addr) (H : Hp) (q : Addr) (ps : Nat → Addr) (S : HallS) (R : List Addr) (N : Nat) : Prop := ∃ dx ph pl pu Rs ys, HallIn CH CX H q ps S R N dx ph pl pu Rs ys
structure HMove (CH CX q : Addr) (ps : Nat → Addr) (H : Hp) (R : List Addr) (H' : Hp) (S' : HallS) (R' : List Addr) (N' : Nat) : Prop where
 at_ : HallAt CH CX H' q ps S' R' N'
 chg : Chg R H H'
 gr : Grow R H R'
 sb : ∀ a ∈ R, a ∈ R'
theorem HMove.trans {CH CX q : Addr} {ps : Nat → Addr} {H H1 H2 : Hp} {R R1 R2 : List Addr} {S1 S2 : HallS} {N1 N2 : Nat} (a : HMove CH CX q ps H R H1 S1 R1 N1) (b : HMove CH CX q ps H1 R1 H2 S2 R2 N2) : HMove CH CX q ps H R H2 S2 R2 N2 :=
 ⟨b.at_, a.chg.grow a.gr b.chg, a.gr.trans a.chg b.gr, fun x hx => b.sb x (a.sb x hx)⟩
theorem HallIn.same {CH CX : Addr} {H H' : Hp} {q : Addr} {ps : Nat → Addr} {S : HallS} {R : List Addr} {N : Nat} {dx ph pl pu : Addr} {Rs : Nat → List Addr} {ys : List V} (I : HallIn CH CX H q ps S R N dx ph pl pu Rs ys) (s : Same H H') : HallIn CH CX H' q ps S R N dx ph pl pu Rs ys :=
 { I with ob := s _ _ I.ob, oh := s _ _ I.oh, ol := s _ _ I.ol, ls := I.ls.same s, ou := s _ _ I.ou, hs := fun i h e => (I.hs i h e).same s, trk := fun a ha => (by obtain ⟨o, e⟩ := I.trk a ha; exact ⟨o, s _ _ e⟩) }
theorem HallAt.same {CH CX : Addr} {H H' : Hp} {q : Addr} {ps : Nat → Addr} {S : HallS} {R : List Addr} {N : Nat} (I : HallAt CH CX H q ps S R N) (s : Same H H') : HallAt CH CX H' q ps S R N := by
 obtain ⟨dx, ph, pl, pu, Rs, ys, I⟩ := I
 exact ⟨dx, ph, pl, pu, Rs, ys, I.same s⟩
theorem HallAt.move {CH CX : Addr} {H H' : Hp} {q : Addr} {ps : Nat → Addr} {S : HallS} {R : List Addr} {N : Nat} (I : HallAt CH CX H q ps S R N) (s : Same H H') : HMove CH CX q ps H R H' S R N := ⟨I.same s, .of_same s, .refl _ _, fun _ h => h⟩
theorem HallIn.more {CH CX : Addr} {H : Hp} {q : Addr} {ps : Nat → Addr} {S : HallS} {R : List Addr} {N M : Nat} {dx ph pl pu : Addr} {Rs : Nat → List Addr} {ys : List V} (I : HallIn CH CX H q ps S R N dx ph pl pu Rs ys) (hN : N ≤ M) : HallIn CH CX H q ps S R M dx ph pl pu Rs ys :=
 { I with hs := fun i h e => (I.hs i h e).more hN }
theorem HallAt.more {CH CX : Addr} {H : Hp} {q : Addr} {ps : Nat → Addr} {S : HallS} {R : List Addr} {N M : Nat} (I : HallAt CH CX H q ps S R N) (hN : N ≤ M) : HallAt CH CX H q ps S R M := by
 obtain ⟨dx, ph, pl, pu, Rs, ys, I⟩ := I
 exact ⟨dx, ph, pl, pu, Rs, ys, I.more hN⟩
theorem HMove.more {CH CX q : Addr} {ps : Nat → Addr} {H H' : Hp} {R R' : List Addr} {S' : HallS} {N' M : Nat} (m : HMove CH CX q ps H R H' S' R' N') (hN : N' ≤ M) : HMove CH CX q ps H R H' S' R' M := ⟨m.at_.more hN, m.chg, m.gr, m.sb⟩
theorem HallAt.trk {CH CX : Addr} {H : Hp} {q : Addr} {ps : Nat → Addr} {S : HallS} {R : List Addr} {N : Nat} (I : HallAt CH CX H q ps S R N) : ∀ a ∈ R, ∃ o, H a = some o := by
 obtain ⟨dx, ph, pl, pu, Rs, ys, I⟩ := I
 exact I.trk
theorem HMove.free {CH CX q : Addr} {ps : Nat → Addr} {H H' : Hp} {R R' : List Addr} {S' : HallS} {N' : Nat} (m : HMove CH CX q ps H R H' S' R' N') {b : Addr} (hb : H' b = none) : H b = none := by
 cases e : H b with
 | none => rfl
 | some o =>
  by_cases y : b ∈ R
  ·obtain ⟨o', e'⟩ := m.at_.trk b (m.sb b y)
   rw [hb] at e'; cases e'
  ·rw [m.chg.keep b o e y] at hb; cases hb
theorem HallIn.step {CH CX : Addr} {H H1 : Hp} {q : Addr} {ps : Nat → Addr} {S : HallS} {R : List Addr} {N N1 : Nat} {dx ph pl pu : Addr} {Rs : Nat → List Addr} {ys : List V} {i : Nat} {h h1 : HS} {Ri : List Addr}
    (I : HallIn CH CX H q ps S R N dx ph pl pu Rs ys) (hi : S.hs[i]? = some h) (m : Move CH (ps i) H (Rs i) H1 h1 Ri N1) (hN : N ≤ N1) :
    HallIn CH CX H1 q ps (S.put i h1) (Ri ++ R) N1 dx ph pl pu (fun j => if j = i then Ri else Rs j) ys ∧ Chg R H H1 ∧ Grow R H (Ri ++ R) := by
  have il : i < S.hs.length := (List.getElem?_eq_some_iff.mp hi).1
  have hlen : (S.put i h1).hs.length = S.hs.length := by show (S.hs.set i h1).length = _; rw [List.length_set]
  have kp : ∀ a o, ¬ a ∈ Rs i → H a = some o → H1 a = some o := fun a o n e => m.chg.keep a o e n
  have nqi : ∀ a, (a = q ∨ a = ph ∨ a = pl ∨ a = pu) → ¬ a ∈ Rs i := fun a ha y => by
    obtain ⟨e1, e2, e3, e4⟩ := I.nq i a il y
    rcases ha with z | z | z | z
    · exact e1 z
    · exact e2 z
    · exact e3 z
    · exact e4 z
  have new : ∀ a, a ∈ Ri → a ∈ Rs i ∨ H a = none := m.gr
  obtain ⟨dx1, po1, pa1, pk1, pc1, xs1, kvs1, J1⟩ := id m.at_
  refine ⟨{ ob := kp _ _ (nqi _ (.inl rfl)) I.ob, oh := ?_, ol := kp _ _ (nqi _ (.inr (.inr (.inl rfl)))) I.ol, ls := letters_chg I.ls m.chg, ou := kp _ _ (nqi _ (.inr (.inr (.inr rfl)))) I.ou, hs := ?_, dj := ?_, nq := ?_, n1 := I.n1, n2 := I.n2, n3 := I.n3,
            m1 := List.mem_append_right _ I.m1, m2 := List.mem_append_right _ I.m2, m3 := List.mem_append_right _ I.m3, m4 := List.mem_append_right _ I.m4, m5 := ?_, trk := ?_ }, m.chg.mono (fun b hb => I.m5 i b il hb), fun a ha => ?_⟩
  · rw [hlen]; exact kp _ _ (nqi _ (.inr (.inl rfl))) I.oh
  · intro j g hj
    change (S.hs.set i h1)[j]? = some g at hj
    by_cases e : j = i
    · subst e
      rw [List.getElem?_set_self il] at hj
      cases hj
      show HouseAt CH H1 (ps j) h1 (if j = j then Ri else Rs j) N1
      rw [if_pos rfl]; exact m.at_
    · rw [List.getElem?_set_ne (Ne.symm e)] at hj
      have jl : j < S.hs.length := (List.getElem?_eq_some_iff.mp hj).1
      show HouseAt CH H1 (ps j) g (if j = i then Ri else Rs j) N1
      rw [if_neg e]
      exact ((I.hs j g hj).chg m.chg fun a ha y => I.dj j i a e jl il ha y).more hN
  · intro j k a e jl kl ja ka
    rw [hlen] at jl kl
    have old : ∀ k, k ≠ i → k < S.hs.length → a ∈ Rs k → a ∈ Ri → False := fun k e kl y y' => by
      rcases new a y' with z | z
      · exact I.dj k i a e kl il y z
      · obtain ⟨o, eo⟩ := I.trk a (I.m5 k a kl y)
        rw [z] at eo; cases eo
    by_cases e1 : j = i
    · have e2 : ¬ k = i := fun z => e (e1.trans z.symm)
      rw [if_pos e1] at ja; rw [if_neg e2] at ka
      exact old k e2 kl ka ja
    · rw [if_neg e1] at ja
      by_cases e2 : k = i
      · rw [if_pos e2] at ka
        exact old j e1 jl ja ka
      · rw [if_neg e2] at ka
        exact I.dj j k a e jl kl ja ka
  · intro j a jl ja
    rw [hlen] at jl
    by_cases e : j = i
    · rw [if_pos e] at ja
      rcases new a ja with z | z
      · exact I.nq i a il z
      · exact ⟨ne_of_none' z I.ob, ne_of_none' z I.oh, ne_of_none' z I.ol, ne_of_none' z I.ou⟩
    · rw [if_neg e] at ja
      exact I.nq j a jl ja
  · intro j a jl ja
    rw [hlen] at jl
    by_cases e : j = i
    · rw [if_pos e] at ja; exact List.mem_append_left _ ja
    · rw [if_neg e] at ja; exact List.mem_append_right _ (I.m5 j a jl ja)
  · intro a ha
    rcases List.mem_append.mp ha with z | z
    · exact J1.trk a z
    · by_cases y : a ∈ Rs i
      · exact J1.trk a (m.sb a y)
      · obtain ⟨o, e⟩ := I.trk a z
        exact ⟨o, kp _ _ y e⟩
  · rcases List.mem_append.mp ha with z | z
    · exact (new a z).imp (fun y => I.m5 i a il y) id
    · exact .inl z
theorem rangeV_len (a b : Nat) : rangeV (a : Int) ((a + b : Nat) : Int) = ((List.range b).map (a + ·)).map fun k => V.int (k : Nat) := by
 unfold rangeV
 rw [show (((a + b : Nat) : Int) - (a : Int)).toNat = b from by omega, List.map_map]
 refine List.map_congr_left fun k _ => ?_
 show V.int ((a : Int) + (k : Int)) = V.int ((a + k : Nat) : Int)
 rw [Int.natCast_add]
def zsp16 (CH CX : Addr) : Sp := fun vs H Q _ => ∃ q a ps S R N sent, vs = [.ref q, .ref a] ∧ HallAt CH CX H q ps S R N ∧ LL H R (.ref a) sent ∧ S.ls.length + sent.length ≤ 900000 ∧ S.un.length + sent.length ≤ 900000 ∧
 ∀ H', HMove CH CX q ps H R H' (S.send sent) R N → Q .non H'
theorem zrd16 {K : PySem.W.Frag} {CH CX : Addr} {vs : List V} {H : Hp} {Q : VK} {E : XK} (T : HallTxt K CX) (h : zsp16 CH CX vs H Q E) : zR16 K { nx := fun _ H' => Q .non H', rt := Q } (start ["self", "sent", "first"] vs) H := by
  obtain ⟨q, a, ps, S, R, N, sent, rfl, ⟨dx, ph, pl, pu, Rs, ys, I⟩, ⟨a', zs, ea, ga, na, rz⟩, hl, hu, k⟩ := h
  cases ea
  obtain ⟨cl, f1, f2, f3⟩ := T
  have ob := I.ob
  have ol := I.ol
  have ou := I.ou
  have hyl : ys.length = S.ls.length := by rw [I.ls.length, List.length_map]
  have hzl : zs.length = sent.length := by rw [rz.length, List.length_map]
  unfold zR16
  walk_at "go"
  refine ⟨.inl ⟨rfl, _, sqL ol⟩, ?_⟩
  walk_at "go"
  refine st_extend ol ga (by rw [sizeLine_eq]; omega) ?_
  have npa : a ≠ pl := fun e => na (e ▸ I.m3)
  have c1 : Chg [pl] H (upd H pl (.lst (ys ++ zs))) := .set (by rw [ol]; exact True.intro) (by simp)
  have ob1 : upd H pl (.lst (ys ++ zs)) q = _ := upd_at (ne_of ob ol (by intro z; cases z)) ob
  have ou1 : upd H pl (.lst (ys ++ zs)) pu = _ := upd_at I.n3.symm ou
  have oh1 : upd H pl (.lst (ys ++ zs)) ph = _ := upd_at I.n1 I.oh
  have ol1 : upd H pl (.lst (ys ++ zs)) pl = some (.lst (ys ++ zs)) := upd_same
  have t1 := trk_upd (a := pl) (o := .lst (ys ++ zs)) I.trk
  generalize upd H pl (.lst (ys ++ zs)) = H1 at *
  walk_at "go"
  refine ⟨.inl ⟨rfl, _, sqL ou1⟩, ?_⟩
  walk_at "go"
  refine ⟨_, _, rfl, fun r hr => ?_⟩
  have s2 : Same H1 (upd H1 r (.rng (ys.length : Int) ((ys ++ zs).length : Nat))) := Same.new hr
  have gr : upd H1 r (.rng (ys.length : Int) ((ys ++ zs).length : Nat)) r = some (.rng (ys.length : Int) ((ys ++ zs).length : Nat)) := upd_same
  generalize upd H1 r (.rng (ys.length : Int) ((ys ++ zs).length : Nat)) = H2 at *
  walk_at "go"
  refine ⟨r, _, _, rfl, gr, ⟨by omega, by omega, by omega, by rw [List.length_append]; omega⟩, by rw [List.length_append]; omega, fun l hl' => ?_⟩
  rw [List.length_append, rangeV_len, hyl, hzl]
  have s3 : Same H2 (upd H2 l (.lst (((List.range sent.length).map (S.ls.length + ·)).map fun k => V.int (k : Nat)))) := Same.new hl'
  have g3 : upd H2 l (.lst (((List.range sent.length).map (S.ls.length + ·)).map fun k => V.int (k : Nat))) l = some (.lst (((List.range sent.length).map (S.ls.length + ·)).map fun k => V.int (k : Nat))) := upd_same
  generalize upd H2 l (.lst (((List.range sent.length).map (S.ls.length + ·)).map fun k => V.int (k : Nat))) = H3 at *
  have s13 := s2.trans s3
  have ou3 := s13 _ _ ou1
  walk_at "go"
  refine st_extend ou3 g3 (by simp only [List.length_map, List.length_range]; rw [sizeLine_eq]; omega) ?_
  have eun : (S.un.map fun k => V.int (k : Nat)) ++ (((List.range sent.length).map (S.ls.length + ·)).map fun k => V.int (k : Nat)) = (S.send sent).un.map fun k => V.int (k : Nat) := by
    show _ = (S.un ++ (List.range sent.length).map (S.ls.length + ·)).map _
    rw [List.map_append]
  rw [eun]
  have c4 : Chg [pu] H3 (upd H3 pu (.lst ((S.send sent).un.map fun k => V.int (k : Nat)))) := .set (by rw [ou3]; exact True.intro) (by simp)
  have cA : Chg [pl, pu] H (upd H3 pu (.lst ((S.send sent).un.map fun k => V.int (k : Nat)))) := ((c1.mono (by simp)).trans (.of_same s13)).trans (c4.mono (by simp))
  have kp : ∀ {a : Addr} {o : HO}, H1 a = some o → a ≠ pu → upd H3 pu (.lst ((S.send sent).un.map fun k => V.int (k : Nat))) a = some o := fun z1 z2 => upd_at z2 (s13 _ _ z1)
  refine k _ ⟨⟨dx, ph, pl, pu, Rs, ys ++ zs, ?_⟩, cA.mono (fun b hb => ?_), .refl _ _, fun _ h => h⟩
  · exact { ob := kp ob1 (ne_of ob ou (by intro z; cases z)), oh := kp oh1 I.n2, ol := kp ol1 I.n3,
            ls := (by
              show Reps _ _ _ ((S.ls ++ sent).map letterD)
              rw [List.map_append]
              exact (letters_chg I.ls cA).append (letters_any (letters_chg rz cA))),
            ou := upd_same, hs := fun i h e => (I.hs i h e).chg cA (fun b hb y => (by
              have il : i < S.hs.length := (List.getElem?_eq_some_iff.mp (show S.hs[i]? = some h from e)).1
              obtain ⟨_, _, e3, e4⟩ := I.nq i b il hb
              simp only [List.mem_cons, List.not_mem_nil, or_false] at y
              rcases y with z | z
              · exact e3 z
              · exact e4 z)),
            dj := I.dj, nq := I.nq, n1 := I.n1, n2 := I.n2, n3 := I.n3, m1 := I.m1, m2 := I.m2, m3 := I.m3, m4 := I.m4, m5 := I.m5,
            trk := trk_upd fun a ha => (by obtain ⟨o, e⟩ := t1 a ha; exact ⟨o, s13 _ _ e⟩) }
  · simp only [List.mem_cons, List.not_mem_nil, or_false] at hb
    rcases hb with rfl | rfl
    · exact I.m3
    · exact I.m4
theorem HallAt.step {CH CX : Addr} {H H1 : Hp} {q : Addr} {ps : Nat → Addr} {S : HallS} {R : List Addr} {N N1 : Nat} {dx ph pl pu : Addr} {Rs : Nat → List Addr} {ys : List V} {i : Nat} {h h1 : HS} {Ri : List Addr}
  (I : HallIn CH CX H q ps S R N dx ph pl pu Rs ys) (hi : S.hs[i]? = some h) (m : Move CH (ps i) H (Rs i) H1 h1 Ri N1) (hN : N ≤ N1) : HMove CH CX q ps H R H1 (S.put i h1) (Ri ++ R) N1 := by
 obtain ⟨J, c, g⟩ := I.step hi m hN
 exact ⟨⟨_, _, _, _, _, _, J⟩, c, g, fun a ha => List.mem_append_right _ ha⟩
theorem LL.wide {H0 H : Hp} {R R' : List Addr} {v : V} {ls : List Letter} (h : LL H R v ls) (f : Fresh H0 v) (t : ∀ a ∈ R', ∃ o, H0 a = some o) : LL H (R ++ R') v ls := by
 obtain ⟨l, ys, rfl, g, n, r⟩ := h
 refine ⟨l, ys, rfl, g, fun y => ?_, letters_any r⟩
 rcases List.mem_append.mp y with z | z
 ·exact n z
 ·exact notin_new t (f l rfl) z
def zsp03 (CH CX : Addr) : Sp := fun vs H Q _ => ∃ q a ps S R N i h st sent, vs = [.ref q, .ref (ps i), .ref a, .bl st] ∧ HallAt CH CX H q ps S R N ∧ S.hs[i]? = some h ∧ LL H R (.ref a) sent ∧ S.ls.length + sent.length ≤ 900000 ∧ S.un.length + sent.length ≤ 900000 ∧
 ∀ H' R', HMove CH CX q ps H R H' (if st = true then S.send sent else S.put i h.stop) R' N → Q .non H'
theorem zrd03 {K : PySem.W.Frag} {CH CX : Addr} {vs : List V} {H : Hp} {Q : VK} {E : XK} (T : HallTxt K CX) (TH : HouseTxt K CH) (h : zsp03 CH CX vs H Q E) :
  zR03 K (zsp16 CH CX) (zsp0y CH) CX CH { nx := fun _ H' => Q .non H', rt := Q } (start ["self", "house", "sent", "stays"] vs) H := by
 obtain ⟨q, a, ps, S, R, N, i, h, st, sent, rfl, I, hi, ll, hl, hu, k⟩ := h
 obtain ⟨dx, ph, pl, pu, Rs, ys, I0⟩ := id I
 have ob := I0.ob
 have il : i < S.hs.length := (List.getElem?_eq_some_iff.mp hi).1
 obtain ⟨dx1, po1, pa1, pk1, pc1, xs1, kvs1, J1⟩ := id (I0.hs i h hi)
 have obh := J1.ob
 unfold zR03
 walk_at "go"
 cases st with
 | true =>
  rw [if_pos rfl]
  walk_at "go"
  exact ⟨q, a, ps, S, R, N, sent, rfl, I, ll, hl, hu, fun H' m => k H' R m⟩
 | false =>
  rw [if_neg (by decide)]
  walk_at "go"
  exact ⟨ps i, h, Rs i, N, rfl, I0.hs i h hi, fun H' Ri m => k H' _ (HallAt.step I0 hi m (Nat.le_refl _))⟩
theorem cut_drop {xs : List V} {i : Nat} (h : i ≤ xs.length) : cutV xs (some (i : Int)) none = xs.drop i := by
 unfold cutV
 have e1 : HT.sIx xs.length 0 (some (i : Int)) = i := by
  unfold HT.sIx
  simp only
  rw [if_neg (by omega)]
  simp; omega
 have e2 : HT.sIx xs.length xs.length none = xs.length := rfl
 rw [e1, e2, List.take_of_length_le (by rw [List.length_drop]; exact Nat.le_refl _)]
theorem at_house {ps : Nat → Addr} {n : Nat} {i : Nat} (h : i < n) : atI ((List.range n).map fun i => V.ref (ps i)) (i : Int) = some (.ref (ps i)) := atI_nat (by rw [List.getElem?_map, List.getElem?_range h]; rfl)
theorem book_rest {CH : Addr} {H : Hp} {p : Addr} {h : HS} {R T : List Addr} {N : Nat} {dx po pa pk pc : Addr} {xs : List V} {z : Pg} (I : HouseIn CH H p h R N dx po pa pk pc xs z) (i : Nat) : Reps H T (xs.drop i) ((h.book.drop i).map lineD) := by
 have := (I.bs).drop i
 rw [← List.map_drop] at this
 exact lines_any this
def HRet (CH CX q : Addr) (ps : Nat → Addr) (H : Hp) (R : List Addr) (N : Nat) (r : HallS × Ans) (Q : VK) : Prop := ∀ v H' R', HMove CH CX q ps H R H' r.1 R' N → Rep H' R' v r.2.D → Fresh H v → Q v H'
theorem HRet.after {CH CX q : Addr} {ps : Nat → Addr} {H H1 : Hp} {R R1 : List Addr} {N N1 : Nat} {S1 : HallS} {r : HallS × Ans} {Q : VK} (k : HRet CH CX q ps H R N r Q) (m : HMove CH CX q ps H R H1 S1 R1 N1) : HRet CH CX q ps H1 R1 N r Q :=
 fun v H' R' m' l f => k v H' R' (m.trans m') l fun a e => m.free (f a e)
theorem HRet.less {CH CX q : Addr} {ps : Nat → Addr} {H : Hp} {R : List Addr} {N M : Nat} {r : HallS × Ans} {Q : VK} (k : HRet CH CX q ps H R N r Q) (h : M ≤ N) : HRet CH CX q ps H R M r Q := fun v H' R' m => k v H' R' (m.more h)
theorem HRet.plain {CH CX q : Addr} {ps : Nat → Addr} {H : Hp} {R : List Addr} {N M : Nat} {S : HallS} {a : Ans} {Q : VK} {v : V} (k : HRet CH CX q ps H R N (S, a) Q) (I : HallAt CH CX H q ps S R M) (hM : M ≤ N) (r : Rep H R v a.D) (f : Fresh H v) : Q v H :=
 k v H R ((I.move (Same.refl _)).more hM) r f
theorem fresh_non (H : Hp) : Fresh H .non := fun _ e => by cases e
theorem fresh_bl (H : Hp) (b : Bool) : Fresh H (.bl b) := fun _ e => by cases e
theorem HRet.rest {CH CX q : Addr} {ps : Nat → Addr} {H H2 : Hp} {R : List Addr} {N M : Nat} {S : HallS} {ls : List Line} {Q : VK} {p : Addr} {zs : List V} (k : HRet CH CX q ps H R N (S, .lines ls) Q) (I : HallAt CH CX H q ps S R M) (hM : M ≤ N) (s : Same H H2) (hp : H p = none) (g : H2 p = some (.lst zs)) (rz : Reps H2 R zs (ls.map lineD)) : Q (.ref p) H2 :=
 k _ _ R ((I.move s).more hM) (.lst (.inl g) (notin_new I.trk hp) rz) (by rintro _ ⟨⟩; exact hp)
structure Small (S : HallS) (N : Nat) : Prop where
 n : N ≤ 700000
 l : S.ls.length ≤ 800000
 u : S.un.length ≤ 800000
theorem HallOk.lead {c : Nat} {S : HallS} (ok : HallOk c S) (n : Int) : ∃ h, S.hs[S.lead n]? = some h ∧ S.lead n < S.hs.length ∧ ((S.lead n : Nat) : Int) = n % (S.hs.length : Int) := by
 have h0 : (0 : Int) < (S.hs.length : Int) := by have := ok.len; have := ok.c1; omega
 have h1 := Int.emod_nonneg n (Int.ne_of_gt h0)
 have h2 := Int.emod_lt_of_pos n h0
 have h3 : S.lead n < S.hs.length := by unfold HallS.lead; omega
 exact ⟨_, List.getElem?_eq_getElem h3, h3, by unfold HallS.lead; omega⟩
theorem begin_len (h : HS) (n : Int) : (h.begin n).2.length ≤ h.oth.length := by
 unfold HS.begin
 split
 ·exact Nat.zero_le _
 ·show (h.oth.map _).length ≤ _; rw [List.length_map]; exact Nat.le_refl _
theorem HallOk.oth {c : Nat} {S : HallS} (ok : HallOk c S) {i : Nat} {h : HS} (hi : S.hs[i]? = some h) : h.oth.length ≤ 20 := by
 rw [(ok.num i h hi).2]; exact Nat.le_trans (othersOf_le _ _) ok.c2
theorem put_get {S : HallS} {i : Nat} {h g : HS} (hi : S.hs[i]? = some h) : (S.put i g).hs[i]? = some g := by
 show (S.hs.set i g)[i]? = some g
 exact List.getElem?_set_self (List.getElem?_eq_some_iff.mp hi).1
theorem put_put (S : HallS) (i : Nat) (g g' : HS) : (S.put i g).put i g' = S.put i g' := by
 show HallS.mk ((S.hs.set i g).set i g') S.ls S.un = HallS.mk (S.hs.set i g') S.ls S.un
 rw [List.set_set]
theorem post_get {S : HallS} {i : Nat} {h : HS} {r : HS × List Letter} {st : Bool} (hi : S.hs[i]? = some h) : ∃ g, (S.post i r st).hs[i]? = some g ∧ g.book = r.1.book := by
 unfold HallS.post
 cases st with
 | true => exact ⟨r.1, put_get hi, rfl⟩
 | false => exact ⟨r.1.stop, put_get hi, rfl⟩
def zsp0v (CH CX : Addr) : Sp := fun vs H Q _ => ∃ q ps S R N c n st, vs = [.ref q, .int n, .bl st] ∧ HallAt CH CX H q ps S R N ∧ HallOk c S ∧ Small S N ∧ HRet CH CX q ps H R (N + 3) (S.begin n st) Q
theorem zrd0v {K : PySem.W.Frag} {CH CX : Addr} {vs : List V} {H : Hp} {Q : VK} {E : XK} (T : HallTxt K CX) (TH : HouseTxt K CH) (h : zsp0v CH CX vs H Q E) :
  zR0v K zsp1i (zsp0r CH) (zsp03 CH CX) CH CX { nx := fun _ H' => Q .non H', rt := Q } (start ["self", "bargain", "stays", "house", "ahead"] vs) H := by
 obtain ⟨q, ps, S, R, N, c, n, st, rfl, I, ok, sm, k⟩ := h
 obtain ⟨cl, f1, f2, f3⟩ := T
 obtain ⟨clh, g1, g2, g3, g4, g5, g6, g7, g8⟩ := TH
 obtain ⟨dx, ph, pl, pu, Rs, ys, I0⟩ := id I
 have ob := I0.ob
 have oh := I0.oh
 obtain ⟨h, hi, il, hlead⟩ := ok.lead n
 obtain ⟨dx1, po1, pa1, pk1, pc1, xs1, z1, J⟩ := id (I0.hs _ h hi)
 have obh := J.ob
 have bkh := J.bk
 have hN := sm.n
 have hl := sm.l
 have hu := sm.u
 have hol := ok.oth hi
 have hc : (S.hs.length : Int) = (c : Int) := by rw [ok.len]
 have hc1 := ok.c1
 have hc2 := ok.c2
 have hxl : xs1.length = h.book.length := by rw [J.bs.length, List.length_map]
 have hb1 := J.l1
 unfold zR0v
 unfold HallS.begin at k
 rw [hi] at k
 dsimp only at k
 generalize hI : S.lead n = i at *
 walk_at "go"
 refine st_rI (show (0 : Int) < (((List.range S.hs.length).map fun i => V.ref (ps i)).length : Int) by rw [List.length_map, List.length_range]; omega) ?_
 refine st_ixL (sqL oh) (by simp only [List.length_map, List.length_range]; rw [← hlead]; exact at_house il) ?_
 walk_at "go"
 cases hup : h.up with
 | false =>
  rw [hup] at k
  rw [if_neg (by simp)] at k
  rw [if_pos (by rfl), if_pos (by rfl)]
  walk_at "go"
  exact k.plain I (by omega) .non (fresh_non _)
 | true =>
  rw [hup] at k
  rw [if_neg (by decide)]
  walk_at "go"
  refine ⟨pk1, h.book, n, rfl, J.rep, by omega, fun H1 s1 => ?_⟩
  have J1 := J.same s1
  have obh1 := J1.ob
  have bkh1 := J1.bk
  have ob1 := s1 _ _ ob
  have k1 := k.after (I.move s1)
  walk_at "go"
  by_cases e : wordsOf h.book n = []
  ·rw [if_neg (by simp [e])]
   rw [if_pos ⟨rfl, e⟩] at k1
   walk_at "go"
   refine ⟨ps i, n, h, Rs i, N, rfl, (I0.hs _ h hi).same s1, by omega, by omega, fun v H2 Ri m2 ll f => ?_⟩
   have I1 := I0.same s1
   have M2 := HallAt.step I1 hi m2 (by omega)
   obtain ⟨l, zs, rfl, gl, nl, rl⟩ := id ll
   walk_at "go"
   refine ⟨q, l, ps, _, _, N + 1, i, (h.begin n).1, st, (h.begin n).2, rfl, M2.at_, put_get hi, ll.wide f I1.trk, ?_, ?_, fun H3 R3 M3 => ?_⟩
   ·have := begin_len h n; show S.ls.length + _ ≤ _; omega
   ·have := begin_len h n; show S.un.length + _ ≤ _; omega
   have hpost : (if st = true then (S.put i (h.begin n).1).send (h.begin n).2 else (S.put i (h.begin n).1).put i (h.begin n).1.stop) = S.post i (h.begin n) st := by unfold HallS.post; rw [put_put]
   rw [hpost] at M3
   obtain ⟨g, hg, hgb⟩ := post_get (r := h.begin n) (st := st) hi
   obtain ⟨dx3, ph3, pl3, pu3, Rs3, ys3, I3⟩ := id M3.at_
   obtain ⟨dx4, po4, pa4, pk4, pc4, xs4, z4, J4⟩ := id (I3.hs i g hg)
   have obh4 := J4.ob
   have bkh4 := J4.bk
   walk_at "goA"
   rename_i pz hpz H5 s5 g5'
   refine ((k1.after M2).after M3).rest M3.at_ (by omega) s5 hpz g5' ?_
   rw [hxl, cut_drop ?_]
   ·rw [← hgb]; exact (book_rest J4 _).same s5
   ·have : xs4.length = g.book.length := by rw [J4.bs.length, List.length_map]
    rw [this, hgb]
    unfold HS.begin HS.wr
    split <;> simp
  ·rw [if_pos (by simp [e])]
   rw [if_neg (fun z => e z.2)] at k1
   walk_at "go"
   exact k1.plain (I.same s1) (by omega) .non (fresh_non _)
theorem got_len (h : HS) (l : Letter) : (h.got l).2.length ≤ h.oth.length + 1 := by
 unfold HS.got HS.gotAsk HS.gotQuery HS.gotVote HS.gotDecision HS.decide HS.toOthers HS.count
 repeat' split
 all_goals simp
theorem got_book (h : HS) (l : Letter) : h.book.length ≤ (h.got l).1.book.length := by
 unfold HS.got HS.gotAsk HS.asked HS.gotQuery HS.gotVote HS.gotDecision HS.decide HS.wr HS.count
 repeat' split
 all_goals simp
theorem LetOk.str {c : Nat} {l : Letter} (h : LetOk c l) : PyData.strOk l.2.2.2 = true := okS (by
 have := h.w
 simp only [List.mem_cons, List.not_mem_nil, or_false] at this ⊢
 rcases this with z | z | z | z | z | z <;> simp [z])
theorem LetOk.to {c : Nat} {l : Letter} {S : HallS} (h : LetOk c l) (hl : S.hs.length = c) : ∃ g, S.hs[l.2.1.toNat]? = some g ∧ l.2.1.toNat < S.hs.length ∧ ((l.2.1.toNat : Nat) : Int) = l.2.1 := by
 have h0 := h.t0
 have h1 := h.t1
 have h3 : l.2.1.toNat < S.hs.length := by omega
 exact ⟨_, List.getElem?_eq_getElem h3, h3, by omega⟩
def zsp0t (CH CX : Addr) : Sp := fun vs H Q _ => ∃ q ps S R N c k st, vs = [.ref q, .int k, .bl st] ∧ 0 ≤ k ∧ HallAt CH CX H q ps S R N ∧ HallOk c S ∧ Small S N ∧ HRet CH CX q ps H R (N + 3) (S.carry k st) Q
theorem zrd0t {K : PySem.W.Frag} {CH CX : Addr} {vs : List V} {H : Hp} {Q : VK} {E : XK} (T : HallTxt K CX) (TH : HouseTxt K CH) (h : zsp0t CH CX vs H Q E) :
  zR0t K (zsp15 CH) (zsp03 CH CX) CH CX { nx := fun _ H' => Q .non H', rt := Q } (start ["self", "which", "stays", "letter", "house", "ahead"] vs) H := by
 obtain ⟨q, ps, S, R, N, c, w, st, rfl, hw, I, ok, sm, k⟩ := h
 obtain ⟨cl, f1, f2, f3⟩ := T
 obtain ⟨clh, g1, g2, g3, g4, g5, g6, g7, g8⟩ := TH
 obtain ⟨dx, ph, pl, pu, Rs, ys, I0⟩ := id I
 have ob := I0.ob
 have oh := I0.oh
 have ol := I0.ol
 have hyl : ys.length = S.ls.length := by rw [I0.ls.length, List.length_map]
 have hN := sm.n
 have hl := sm.l
 have hu := sm.u
 unfold zR0t
 unfold HallS.carry at k
 walk_at "go"
 by_cases lt : (S.ls.length : Int) ≤ w
 ·rw [if_pos (by simp only [decide_eq_true_eq]; show (ys.length : Int) ≤ w; omega)]
  rw [List.getElem?_eq_none (by omega)] at k
  walk_at "go"
  exact k.plain I (by omega) .non (fresh_non _)
 rw [if_neg (by simp only [decide_eq_true_eq]; show ¬ (ys.length : Int) ≤ w; omega)]
 have wl : w.toNat < S.ls.length := by omega
 have hw' : ((w.toNat : Nat) : Int) = w := by omega
 obtain ⟨l, hl'⟩ : ∃ l, S.ls[w.toNat]? = some l := ⟨_, List.getElem?_eq_getElem wl⟩
 rw [hl'] at k
 dsimp only at k
 have lok := ok.let_ l (List.mem_of_getElem? hl')
 obtain ⟨h, hi, il, hto⟩ := lok.to ok.len
 obtain ⟨x, hx, rx⟩ := I0.ls.getD (i := w.toNat) (d := letterD l) (by rw [List.getElem?_map, hl']; rfl)
 obtain ⟨l0, t, e0, rfl, rt⟩ := letter_at I0.ls hx
 rw [hl'] at e0
 cases e0
 unfold HallS.carryL at k
 rw [hi] at k
 dsimp only at k
 obtain ⟨dx1, po1, pa1, pk1, pc1, xs1, z1, J⟩ := id (I0.hs _ h hi)
 have obh := J.ob
 have bkh := J.bk
 have hol := ok.oth hi
 have hxl : xs1.length = h.book.length := by rw [J.bs.length, List.length_map]
 have hb1 := J.l1
 generalize hI : l.2.1.toNat = i at *
 walk_at "go"
 refine st_ixL (sqL ol) (by rw [← hw']; exact atI_nat hx) ?_
 walk_at "go"
 refine st_ixL (sqL oh) (by rw [← hto]; exact at_house il) ?_
 walk_at "go"
 cases hup : h.up with
 | false =>
  rw [hup] at k
  rw [if_neg (by simp)] at k
  rw [if_pos (by rfl)]
  walk_at "go"
  exact k.plain I (by omega) .non (fresh_non _)
 | true =>
  rw [hup] at k
  rw [if_pos rfl] at k
  rw [if_neg (by decide)]
  walk_at "go"
  refine ⟨ps i, t, l, h, Rs i, N, rfl, I0.hs _ h hi, rt, by omega, by omega, lok.str, fun v H2 Ri m2 ll f => ?_⟩
  have M2 := HallAt.step I0 hi m2 (by omega)
  obtain ⟨l2, zs, rfl, gl, nl, rl⟩ := id ll
  walk_at "go"
  refine ⟨q, l2, ps, _, _, N + 3, i, (h.got l).1, st, (h.got l).2, rfl, M2.at_, put_get hi, ll.wide f I0.trk, ?_, ?_, fun H3 R3 M3 => ?_⟩
  ·have := got_len h l; show S.ls.length + _ ≤ _; omega
  ·have := got_len h l; show S.un.length + _ ≤ _; omega
  have hpost : (if st = true then (S.put i (h.got l).1).send (h.got l).2 else (S.put i (h.got l).1).put i (h.got l).1.stop) = S.post i (h.got l) st := by unfold HallS.post; rw [put_put]
  rw [hpost] at M3
  obtain ⟨g, hg, hgb⟩ := post_get (r := h.got l) (st := st) hi
  obtain ⟨dx3, ph3, pl3, pu3, Rs3, ys3, I3⟩ := id M3.at_
  obtain ⟨dx4, po4, pa4, pk4, pc4, xs4, z4, J4⟩ := id (I3.hs i g hg)
  have obh4 := J4.ob
  have bkh4 := J4.bk
  walk_at "goA"
  rename_i pz hpz H5 s5 g5'
  refine ((k.after M2).after M3).rest M3.at_ (by omega) s5 hpz g5' ?_
  rw [hxl, cut_drop ?_]
  ·rw [← hgb]; exact (book_rest J4 _).same s5
  ·have : xs4.length = g.book.length := by rw [J4.bs.length, List.length_map]
   rw [this, hgb]
   exact got_book h l
theorem query_len (h : HS) (n : Int) : (h.query n).length ≤ h.oth.length := by
 unfold HS.query HS.toOthers
 split <;> simp
def zsp10 (CH CX : Addr) : Sp := fun vs H Q _ => ∃ q ps S R N c, ∃ i : Nat, ∃ n : Int, vs = [.ref q, .int i, .int n] ∧ i < S.hs.length ∧ HallAt CH CX H q ps S R N ∧ HallOk c S ∧ Small S N ∧ HRet CH CX q ps H R N (S.query i n) Q
theorem put_self {S : HallS} {i : Nat} {h : HS} (hi : S.hs[i]? = some h) : S.put i h = S := by
 show HallS.mk (S.hs.set i h) S.ls S.un = S
 have : S.hs.set i h = S.hs := by
  refine List.ext_getElem? fun j => ?_
  by_cases e : i = j
  ·subst e
   rw [List.getElem?_set_self (List.getElem?_eq_some_iff.mp hi).1, hi]
  ·rw [List.getElem?_set_ne e]
 rw [this]
theorem zrd10 {K : PySem.W.Frag} {CH CX : Addr} {vs : List V} {H : Hp} {Q : VK} {E : XK} (T : HallTxt K CX) (TH : HouseTxt K CH) (h : zsp10 CH CX vs H Q E) :
  zR10 K (zsp0n CH) (zsp16 CH CX) CH CX { nx := fun _ H' => Q .non H', rt := Q } (start ["self", "number", "bargain", "sent"] vs) H := by
 obtain ⟨q, ps, S, R, N, c, i, n, rfl, il, I, ok, sm, k⟩ := h
 obtain ⟨cl, f1, f2, f3⟩ := T
 obtain ⟨dx, ph, pl, pu, Rs, ys, I0⟩ := id I
 have ob := I0.ob
 have oh := I0.oh
 have hN := sm.n
 have hl := sm.l
 have hu := sm.u
 obtain ⟨h, hi⟩ : ∃ h, S.hs[i]? = some h := ⟨_, List.getElem?_eq_getElem il⟩
 have hol := ok.oth hi
 obtain ⟨dx1, po1, pa1, pk1, pc1, xs1, z1, J⟩ := id (I0.hs _ h hi)
 have obh := J.ob
 unfold zR10
 unfold HallS.query at k
 rw [hi] at k
 dsimp only at k
 walk_at "go"
 refine st_ixL (sqL oh) (at_house il) ?_
 walk_at "go"
 refine ⟨ps i, n, h, Rs i, N, rfl, I0.hs _ h hi, by omega, by omega, fun v H2 Ri m2 ll f => ?_⟩
 have M2 := HallAt.step I0 hi m2 (Nat.le_refl _)
 rw [put_self hi] at M2
 obtain ⟨dx2, ph2, pl2, pu2, Rs2, ys2, I2⟩ := id M2.at_
 have ob2 := I2.ob
 have lw := ll.wide f I0.trk
 obtain ⟨l2, zs, rfl, gl, nl, rl⟩ := id lw
 have hzl : zs.length = (h.query n).length := by rw [rl.length, List.length_map]
 walk_at "go"
 refine ⟨q, l2, ps, S, _, N, h.query n, rfl, M2.at_, lw, ?_, ?_, fun H3 M3 => ?_⟩
 ·have := query_len h n; omega
 ·have := query_len h n; omega
 have gl3 := M3.chg.keep _ _ gl nl
 walk_at "go"
 have kk := ((k.after M2).after M3).plain (v := .bl (decide (0 < (h.query n).length))) M3.at_ (Nat.le_refl _) (.bl _) (fresh_bl _ _)
 rw [hzl]
 have e : decide ((0 : Int) < ((h.query n).length : Int)) = decide (0 < (h.query n).length) := by
  by_cases z : 0 < (h.query n).length
  ·rw [decide_eq_true z, decide_eq_true (by omega)]
  ·rw [decide_eq_false z, decide_eq_false (by omega)]
 rw [← e] at kk
 exact kk
def zsp19 (CH CX : Addr) : Sp := fun vs H Q _ => ∃ q ps S R N, ∃ i : Nat, vs = [.ref q, .int i] ∧ i < S.hs.length ∧ HallAt CH CX H q ps S R N ∧ HRet CH CX q ps H R N (S.stop i) Q
theorem zrd19 {K : PySem.W.Frag} {CH CX : Addr} {vs : List V} {H : Hp} {Q : VK} {E : XK} (T : HallTxt K CX) (TH : HouseTxt K CH) (h : zsp19 CH CX vs H Q E) :
  zR19 K (zsp0y CH) CH { nx := fun _ H' => Q .non H', rt := Q } (start ["self", "number", "house"] vs) H := by
 obtain ⟨q, ps, S, R, N, i, rfl, il, I, k⟩ := h
 obtain ⟨cl, f1, f2, f3⟩ := T
 obtain ⟨clh, g1, g2, g3, g4, g5, g6, g7, g8⟩ := TH
 obtain ⟨dx, ph, pl, pu, Rs, ys, I0⟩ := id I
 have ob := I0.ob
 have oh := I0.oh
 obtain ⟨h, hi⟩ : ∃ h, S.hs[i]? = some h := ⟨_, List.getElem?_eq_getElem il⟩
 obtain ⟨dx1, po1, pa1, pk1, pc1, xs1, z1, J⟩ := id (I0.hs _ h hi)
 have obh := J.ob
 unfold zR19
 unfold HallS.stop at k
 rw [hi] at k
 dsimp only at k
 walk_at "go"
 refine st_ixL (sqL oh) (at_house il) ?_
 walk_at "go"
 cases hup : h.up with
 | false =>
  rw [hup] at k
  rw [if_neg (by simp)] at k
  rw [if_pos (by rfl)]
  walk_at "go"
  exact k.plain I (Nat.le_refl _) (.bl _) (fresh_bl _ _)
 | true =>
  rw [hup] at k
  rw [if_pos rfl] at k
  rw [if_neg (by decide)]
  walk_at "go"
  refine ⟨ps i, h, Rs i, N, rfl, I0.hs _ h hi, fun H2 Ri m2 => ?_⟩
  have M2 := HallAt.step I0 hi m2 (Nat.le_refl _)
  walk_at "go"
  exact (k.after M2).plain M2.at_ (Nat.le_refl _) (.bl _) (fresh_bl _ _)
theorem wake_len (h : HS) : h.wake.2.length = (leftOpen h.book).length * h.oth.length := by unfold HS.wake; rw [offAll_len]
theorem offAll_book (h : HS) (ns : List Int) : (h.offAll ns).1.book = h.book ++ ns.map fun n => (("off" : Str), n) := by
 induction ns generalizing h with
 | nil => simp [HS.offAll]
 | cons x r ih =>
  show (((h.decide x "off").1).offAll r).1.book = _
  rw [ih]
  show (h.book ++ [((("off" : Str)), x)]) ++ _ = _
  simp
theorem wake_book (h : HS) : h.wake.1.book = h.book ++ (leftOpen h.book).map fun n => (("off" : Str), n) := by unfold HS.wake; rw [offAll_book]
def zsp1a (CH CX : Addr) : Sp := fun vs H Q _ => ∃ q ps S R N c, ∃ i : Nat, vs = [.ref q, .int i] ∧ i < S.hs.length ∧ HallAt CH CX H q ps S R N ∧ HallOk c S ∧ Small S N ∧ (∀ h, S.hs[i]? = some h → (leftOpen h.book).length ≤ 1000) ∧ HRet CH CX q ps H R (N + 1000) (S.wake i) Q
theorem zrd1a {K : PySem.W.Frag} {CH CX : Addr} {vs : List V} {H : Hp} {Q : VK} {E : XK} (T : HallTxt K CX) (TH : HouseTxt K CH) (h : zsp1a CH CX vs H Q E) :
  zR1a K (zsp0w CH) (zsp16 CH CX) CH CX { nx := fun _ H' => Q .non H', rt := Q } (start ["self", "number", "house", "ahead"] vs) H := by
 obtain ⟨q, ps, S, R, N, c, i, rfl, il, I, ok, sm, hlo, k⟩ := h
 obtain ⟨cl, f1, f2, f3⟩ := T
 obtain ⟨clh, g1, g2, g3, g4, g5, g6, g7, g8⟩ := TH
 obtain ⟨dx, ph, pl, pu, Rs, ys, I0⟩ := id I
 have ob := I0.ob
 have oh := I0.oh
 have hN := sm.n
 have hl := sm.l
 have hu := sm.u
 obtain ⟨h, hi⟩ : ∃ h, S.hs[i]? = some h := ⟨_, List.getElem?_eq_getElem il⟩
 have hlo' := hlo h hi
 have hol := ok.oth hi
 obtain ⟨dx1, po1, pa1, pk1, pc1, xs1, z1, J⟩ := id (I0.hs _ h hi)
 have obh := J.ob
 have bkh := J.bk
 have hxl : xs1.length = h.book.length := by rw [J.bs.length, List.length_map]
 unfold zR1a
 unfold HallS.wake at k
 rw [hi] at k
 dsimp only at k
 walk_at "go"
 refine st_ixL (sqL oh) (at_house il) ?_
 walk_at "go"
 cases hup : h.up with
 | true =>
  rw [hup] at k
  rw [if_pos rfl] at k
  rw [if_pos (by rfl)]
  walk_at "go"
  exact k.plain I (by omega) .non (fresh_non _)
 | false =>
  rw [hup] at k
  rw [if_neg (by simp)] at k
  rw [if_neg (by decide)]
  walk_at "go"
  refine ⟨ps i, h, Rs i, N, rfl, I0.hs _ h hi, by omega, by omega, hol, fun v H2 Ri m2 ll f => ?_⟩
  have M2 := HallAt.step I0 hi m2 (by omega)
  have lw := ll.wide f I0.trk
  obtain ⟨l2, zs, rfl, gl, nl, rl⟩ := id lw
  have hsl : h.wake.2.length ≤ 20000 := by
   rw [wake_len]
   exact Nat.le_trans (Nat.mul_le_mul hlo' hol) (by decide)
  walk_at "go"
  refine ⟨q, l2, ps, S.put i h.wake.1, _, _, h.wake.2, rfl, M2.at_, lw, by show S.ls.length + _ ≤ _; omega, by show S.un.length + _ ≤ _; omega, fun H3 M3 => ?_⟩
  obtain ⟨dx3, ph3, pl3, pu3, Rs3, ys3, I3⟩ := id M3.at_
  obtain ⟨dx4, po4, pa4, pk4, pc4, xs4, z4, J4⟩ := id (I3.hs i h.wake.1 (put_get hi))
  have obh4 := J4.ob
  have bkh4 := J4.bk
  walk_at "goA"
  rename_i pz hpz H5 s5 g5'
  refine ((k.after M2).after M3).rest M3.at_ (by omega) s5 hpz g5' ?_
  rw [hxl, cut_drop ?_]
  ·exact (book_rest J4 _).same s5
  ·have : xs4.length = h.wake.1.book.length := by rw [J4.bs.length, List.length_map]
   rw [this, wake_book, List.length_append]; omega
def zsp00 (CH CX : Addr) : Sp := fun vs H Q _ => ∃ q ps S R N c dx ph pl pu Rs ys, ∃ k : Nat, vs = [.ref q, .int k] ∧ k < S.ls.length ∧ HallIn CH CX H q ps S R N dx ph pl pu Rs ys ∧ HallOk c S ∧ N ≤ 800000 ∧
 ∀ H' R' Rs', HallIn CH CX H' q ps S R' N dx ph pl pu Rs' ys → Chg R H H' → Grow R H R' → (∀ a ∈ R, a ∈ R') → Q (.bl (S.spentAt k)) H'
theorem zrd00 {K : PySem.W.Frag} {CH CX : Addr} {vs : List V} {H : Hp} {Q : VK} {E : XK} (T : HallTxt K CX) (h : zsp00 CH CX vs H Q E) :
  zR00 K (zsp0a CH) CH { nx := fun _ H' => Q .non H', rt := Q } (start ["self", "which", "letter"] vs) H := by
 obtain ⟨q, ps, S, R, N, c, dx, ph, pl, pu, Rs, ys, w, rfl, wl, I0, ok, hN, k⟩ := h
 obtain ⟨cl, f1, f2, f3⟩ := T
 have ob := I0.ob
 have oh := I0.oh
 have ol := I0.ol
 obtain ⟨l, hl'⟩ : ∃ l, S.ls[w]? = some l := ⟨_, List.getElem?_eq_getElem wl⟩
 have lok := ok.let_ l (List.mem_of_getElem? hl')
 obtain ⟨h, hi, il, hto⟩ := lok.to ok.len
 obtain ⟨x, hx, rx⟩ := I0.ls.getD (i := w) (d := letterD l) (by rw [List.getElem?_map, hl']; rfl)
 obtain ⟨l0, t, e0, rfl, rt⟩ := letter_at I0.ls hx
 rw [hl'] at e0
 cases e0
 have hsp : S.spentAt w = h.spent l := by unfold HallS.spentAt; rw [hl']; dsimp only; rw [hi]
 rw [hsp] at k
 obtain ⟨dx1, po1, pa1, pk1, pc1, xs1, z1, J⟩ := id (I0.hs _ h hi)
 have obh := J.ob
 generalize hI : l.2.1.toNat = i at *
 unfold zR00
 walk_at "go"
 refine st_ixL (sqL ol) (atI_nat hx) ?_
 walk_at "go"
 refine st_ixL (sqL oh) (by rw [← hto]; exact at_house il) ?_
 walk_at "go"
 refine ⟨ps i, t, l, h, Rs i, N, rfl, I0.hs _ h hi, rt, hN, fun H2 Ri m2 => ?_⟩
 obtain ⟨J2, c2, g2⟩ := I0.step hi m2 (Nat.le_refl _)
 rw [put_self hi] at J2
 exact k _ _ _ J2 c2 g2 fun a ha => List.mem_append_right _ ha
theorem got_num (h : HS) (l : Letter) : (h.got l).1.num = h.num := by
 unfold HS.got HS.gotAsk HS.asked HS.gotQuery HS.gotVote HS.gotDecision HS.decide HS.count HS.wr
 repeat' split
 all_goals rfl
theorem got_book1 (h : HS) (l : Letter) : (h.got l).1.book.length ≤ h.book.length + 1 := by
 unfold HS.got HS.gotAsk HS.asked HS.gotQuery HS.gotVote HS.gotDecision HS.decide HS.wr HS.count
 repeat' split
 all_goals simp
theorem mem_others {i c : Nat} {k : Int} (h : k ∈ othersOf (i : Int) c) : 0 ≤ k ∧ k < c ∧ k ≠ i := by
 unfold othersOf at h
 rw [List.mem_filter, List.mem_map] at h
 obtain ⟨⟨j, hj, rfl⟩, h2⟩ := h
 rw [List.mem_range] at hj
 refine ⟨by omega, by omega, ?_⟩
 simpa using h2
theorem dec_words {b : List Line} {n : Int} {d : Str} (h : decisionIn b n = some d) : d = "bound" ∨ d = "off" := by
 unfold decisionIn at h
 split at h
 ·cases h; exact .inl rfl
 ·split at h
  ·cases h; exact .inr rfl
  ·cases h
theorem toOthers_ok {c i : Nat} {h : HS} {n : Int} {w : Str} (hn : h.num = i) (ho : h.oth = othersOf i c) (il : i < c) (hw : w ∈ ([("ask" : Str), "yes", "no", "bound", "off", "query"] : List Str)) : ∀ l ∈ h.toOthers n w, LetOk c l := by
 intro l hl
 unfold HS.toOthers at hl
 obtain ⟨k, hk, rfl⟩ := List.mem_map.mp hl
 rw [ho] at hk
 obtain ⟨h1, h2, h3⟩ := mem_others hk
 rw [hn]
 exact ⟨by show (0 : Int) ≤ i; omega, by show (i : Int) < c; omega, h1, h2, hw⟩
theorem toOne_ok {c i : Nat} {g n : Int} {w : Str} (il : i < c) (g0 : 0 ≤ g) (g1 : g < c) (hw : w ∈ ([("ask" : Str), "yes", "no", "bound", "off", "query"] : List Str)) : LetOk c ((i : Int), g, n, w) :=
 ⟨by show (0 : Int) ≤ i; omega, by show (i : Int) < c; omega, g0, g1, hw⟩
theorem got_ok {c i : Nat} {h : HS} {l : Letter} (hn : h.num = i) (ho : h.oth = othersOf i c) (il : i < c) (lo : LetOk c l) : ∀ x ∈ (h.got l).2, LetOk c x := by
 intro x hx
 have one : ∀ w, w ∈ ([("ask" : Str), "yes", "no", "bound", "off", "query"] : List Str) → x ∈ [(h.num, l.1, l.2.2.1, w)] → LetOk c x := fun w hw z => by
  rw [List.mem_singleton.mp z, hn]; exact toOne_ok il lo.g0 lo.g1 hw
 have all : ∀ w, w ∈ ([("ask" : Str), "yes", "no", "bound", "off", "query"] : List Str) → x ∈ h.toOthers l.2.2.1 w → LetOk c x := fun w hw z => toOthers_ok hn ho il hw x z
 unfold HS.got HS.gotAsk HS.gotQuery HS.gotVote HS.gotDecision HS.decide at hx
 split at hx
 ·dsimp only at hx
  refine one _ ?_ hx
  split <;> simp
 split at hx
 ·split at hx
  ·cases hx
  ·split at hx
   ·rename_i d hd
    refine one _ ?_ hx
    rcases dec_words hd with rfl | rfl <;> simp
   ·split at hx
    ·exact one _ (by simp) hx
    ·exact all _ (by simp) hx
 split at hx
 ·split at hx
  ·rename_i d hd
   dsimp only at hx
   split at hx
   ·refine one _ ?_ hx
    rcases dec_words hd with rfl | rfl <;> simp
   ·cases hx
  ·split at hx
   ·exact all _ (by simp) hx
   ·split at hx
    ·cases hx
    ·exact all _ (by simp) hx
 ·cases hx
theorem HallOk.put {c : Nat} {S : HallS} {i : Nat} {h g : HS} (ok : HallOk c S) (hi : S.hs[i]? = some h) (hn : g.num = h.num) (ho : g.oth = h.oth) : HallOk c (S.put i g) where
 len := by show (S.hs.set i g).length = c; rw [List.length_set]; exact ok.len
 c1 := ok.c1
 c2 := ok.c2
 num := fun j x hx => by
  change (S.hs.set i g)[j]? = some x at hx
  by_cases e : i = j
  ·subst e
   rw [List.getElem?_set_self (List.getElem?_eq_some_iff.mp hi).1] at hx
   cases hx
   rw [hn, ho]; exact ok.num i h hi
  ·rw [List.getElem?_set_ne e] at hx
   exact ok.num j x hx
 let_ := ok.let_
 un := ok.un
theorem HallOk.send {c : Nat} {S : HallS} {sent : List Letter} (ok : HallOk c S) (h : ∀ x ∈ sent, LetOk c x) : HallOk c (S.send sent) where
 len := ok.len
 c1 := ok.c1
 c2 := ok.c2
 num := ok.num
 let_ := fun l hl => (List.mem_append.mp hl).elim (ok.let_ l) (h l)
 un := fun k hk => by
  show k < (S.ls ++ sent).length
  rw [List.length_append]
  rcases List.mem_append.mp hk with z | z
  ·have := ok.un k z; omega
  ·obtain ⟨j, hj, rfl⟩ := List.mem_map.mp z
   rw [List.mem_range] at hj
   show S.ls.length + j < _; omega
theorem HallOk.post {c : Nat} {S : HallS} {i : Nat} {h : HS} {r : HS × List Letter} {st : Bool} (ok : HallOk c S) (hi : S.hs[i]? = some h) (hn : r.1.num = h.num) (ho : r.1.oth = h.oth) (hl : ∀ x ∈ r.2, LetOk c x) : HallOk c (S.post i r st) := by
 unfold HallS.post
 cases st with
 | true => exact (ok.put hi hn ho).send hl
 | false => exact ok.put hi hn ho
theorem HallOk.il {c : Nat} {S : HallS} {i : Nat} {h : HS} (ok : HallOk c S) (hi : S.hs[i]? = some h) : i < c := by rw [← ok.len]; exact (List.getElem?_eq_some_iff.mp hi).1
theorem HallOk.carryL {c : Nat} {S : HallS} {l : Letter} {st : Bool} (ok : HallOk c S) (lo : LetOk c l) : HallOk c (S.carryL l st).1 := by
 unfold HallS.carryL
 split
 ·exact ok
 ·rename_i h hi
  split
  ·obtain ⟨e1, e2⟩ := ok.num _ h hi
   exact ok.post hi (got_num h l) (got_oth h l) (got_ok e1 e2 (ok.il hi) lo)
  ·exact ok
theorem HallOk.carry {c : Nat} {S : HallS} {k : Int} {st : Bool} (ok : HallOk c S) : HallOk c (S.carry k st).1 := by
 unfold HallS.carry
 split
 ·exact ok
 ·rename_i l hl
  exact ok.carryL (ok.let_ l (List.mem_of_getElem? hl))
theorem HallOk.turn {c : Nat} {S : HallS} {k : Nat} (ok : HallOk c S) : HallOk c (S.turn k).1 := by
 unfold HallS.turn
 split
 ·exact ok
 ·rename_i l hl
  exact ok.carryL (ok.let_ l (List.mem_of_getElem? hl))
theorem begin_num (h : HS) (n : Int) : (h.begin n).1.num = h.num ∧ (h.begin n).1.oth = h.oth := by unfold HS.begin HS.wr; split <;> exact ⟨rfl, rfl⟩
theorem HallOk.begin {c : Nat} {S : HallS} {n : Int} {st : Bool} (ok : HallOk c S) : HallOk c (S.begin n st).1 := by
 unfold HallS.begin
 split
 ·exact ok
 ·rename_i h hi
  split
  ·obtain ⟨e1, e2⟩ := ok.num _ h hi
   refine ok.post hi (begin_num h n).1 (begin_num h n).2 fun x hx => ?_
   unfold HS.begin at hx
   split at hx
   ·cases hx
   ·exact toOthers_ok e1 e2 (ok.il hi) (by simp) x hx
  ·exact ok
theorem HallOk.query {c : Nat} {S : HallS} {i : Nat} {n : Int} (ok : HallOk c S) : HallOk c (S.query i n).1 := by
 unfold HallS.query
 split
 ·exact ok
 ·rename_i h hi
  obtain ⟨e1, e2⟩ := ok.num _ h hi
  refine ok.send fun x hx => ?_
  unfold HS.query at hx
  split at hx
  ·exact toOthers_ok e1 e2 (ok.il hi) (by simp) x hx
  ·cases hx
theorem HallOk.stop {c : Nat} {S : HallS} {i : Nat} (ok : HallOk c S) : HallOk c (S.stop i).1 := by
 unfold HallS.stop
 split
 ·exact ok
 ·rename_i h hi
  split
  ·exact ok.put hi rfl rfl
  ·exact ok
theorem offAll_num (h : HS) (ns : List Int) : (h.offAll ns).1.num = h.num := by
 induction ns generalizing h with
 | nil => rfl
 | cons x r ih => exact ih _
theorem offAll_mem (h : HS) (ns : List Int) : ∀ x ∈ (h.offAll ns).2, ∃ n ∈ ns, x ∈ h.toOthers n "off" := by
 induction ns generalizing h with
 | nil => intro x hx; cases hx
 | cons y r ih =>
  intro x hx
  rcases List.mem_append.mp (show x ∈ (h.decide y "off").2 ++ ((h.decide y "off").1.offAll r).2 from hx) with z | z
  ·exact ⟨y, by simp, z⟩
  ·obtain ⟨n, hn, hx⟩ := ih _ x z
   exact ⟨n, List.mem_cons_of_mem _ hn, hx⟩
theorem HallOk.wake {c : Nat} {S : HallS} {i : Nat} (ok : HallOk c S) : HallOk c (S.wake i).1 := by
 unfold HallS.wake
 split
 ·exact ok
 ·rename_i h hi
  split
  ·exact ok
  ·obtain ⟨e1, e2⟩ := ok.num _ h hi
   refine (ok.put hi (by unfold HS.wake; rw [offAll_num]) (by unfold HS.wake; rw [offAll_oth])).send fun x hx => ?_
   obtain ⟨n, hn, hx⟩ := offAll_mem _ _ x hx
   exact toOthers_ok (h := h) e1 e2 (ok.il hi) (by simp) x hx
theorem HallOk.trim {c : Nat} {S : HallS} (ok : HallOk c S) : HallOk c S.trim := ⟨ok.len, ok.c1, ok.c2, ok.num, ok.let_, fun k hk => ok.un k (List.mem_filter.mp hk).1⟩
theorem carryL_mono (S : HallS) (l : Letter) (st : Bool) : (∃ a, (S.carryL l st).1.ls = S.ls ++ a) ∧ ∃ a, (S.carryL l st).1.un = S.un ++ a := by
 unfold HallS.carryL
 split
 ·exact ⟨⟨[], by simp⟩, [], by simp⟩
 ·split
  ·unfold HallS.post
   cases st with
   | true => exact ⟨⟨_, rfl⟩, _, rfl⟩
   | false => exact ⟨⟨[], by simp [HallS.put]⟩, [], by simp [HallS.put]⟩
  ·exact ⟨⟨[], by simp⟩, [], by simp⟩
theorem turn_mono (S : HallS) (k : Nat) : (∃ a, (S.turn k).1.ls = S.ls ++ a) ∧ ∃ a, (S.turn k).1.un = S.un ++ a := by
 unfold HallS.turn
 split
 ·exact ⟨⟨[], by simp⟩, [], by simp⟩
 ·exact carryL_mono _ _ _
theorem turn_told (S : HallS) (k : Nat) : (S.turn k).2.length ≤ 1 := by
 unfold HallS.turn
 split
 ·simp
 ·unfold HallS.carryL
  split
  ·simp [told]
  ·rename_i h hi
   split
   ·have := got_book1 h ‹Letter›
    simp only [told, List.length_map, List.length_drop]
    omega
   ·simp [told]
theorem sweep_mono : ∀ (f : Nat) (S : HallS) (pl : Nat) (w : List (Int × Line)) (r : HallS × List (Int × Line)), S.sweepGo f pl w = some r → S.ls.length ≤ r.1.ls.length ∧ S.un.length ≤ r.1.un.length
 | 0, S, pl, w, r, h => by
  unfold HallS.sweepGo at h
  split at h
  ·cases h
  ·cases h; exact ⟨Nat.le_refl _, Nat.le_refl _⟩
 | f + 1, S, pl, w, r, h => by
  unfold HallS.sweepGo at h
  split at h
  ·have := sweep_mono f _ _ _ _ h
   obtain ⟨⟨a, ha⟩, b, hb⟩ := turn_mono S S.un[pl]
   rw [ha, hb, List.length_append, List.length_append] at this
   omega
  ·cases h; exact ⟨Nat.le_refl _, Nat.le_refl _⟩
theorem pairs_any {H : Hp} {S T : List Addr} : ∀ {b : List (Int × Line)} {xs : List V}, Reps H S xs (b.map pairD) → Reps H T xs (b.map pairD)
 | [], xs, r => by rw [List.map_nil] at r ⊢; rw [r.nil_inv]; exact .nil
 | l :: b, xs, r => by
  rw [List.map_cons] at r ⊢
  obtain ⟨x, ys, rfl, h, t⟩ := r.cons_inv
  obtain ⟨a, zs, rfl, rt, rs⟩ := h.tup_inv
  obtain ⟨y1, r1, rfl, h1, t1⟩ := rs.cons_inv
  obtain ⟨y2, r2, rfl, h2, t2⟩ := t1.cons_inv
  cases t2.nil_inv
  have h2' : Reps H T [y2] ([l.2].map lineD) := lines_any (b := [l.2]) (.cons h2 .nil)
  obtain ⟨_, _, e, h2'', _⟩ := h2'.cons_inv
  cases e
  rw [h1.int_inv] at rt
  exact .cons (.tup rt (.cons (.int _) (.cons h2'' .nil))) (pairs_any t)
theorem pairs_chg {H H' : Hp} {S T : List Addr} {b : List (Int × Line)} {xs : List V} (r : Reps H S xs (b.map pairD)) (c : Chg T H H') : Reps H' S xs (b.map pairD) := pairs_any ((pairs_any (T := T) r).chg c)
theorem HallAt.chg {CH CX : Addr} {H H' : Hp} {q : Addr} {ps : Nat → Addr} {S : HallS} {R T : List Addr} {N : Nat} (I : HallAt CH CX H q ps S R N) (c : Chg T H H') (d : ∀ a ∈ R, ¬ a ∈ T) : HallAt CH CX H' q ps S R N := by
 obtain ⟨dx, ph, pl, pu, Rs, ys, I⟩ := I
 have kp : ∀ a o, a ∈ R → H a = some o → H' a = some o := fun a o ha e => c.keep a o e (d a ha)
 exact ⟨dx, ph, pl, pu, Rs, ys, { I with ob := kp _ _ I.m1 I.ob, oh := kp _ _ I.m2 I.oh, ol := kp _ _ I.m3 I.ol, ls := letters_chg I.ls c, ou := kp _ _ I.m4 I.ou, hs := fun i h e => (I.hs i h e).chg c fun a ha => d a (I.m5 i a (List.getElem?_eq_some_iff.mp e).1 ha), trk := fun a ha => (by obtain ⟨o, e⟩ := I.trk a ha; exact ⟨o, kp _ _ ha e⟩) }⟩
theorem HMove.put {CH CX q : Addr} {ps : Nat → Addr} {H H' : Hp} {R R' : List Addr} {S' : HallS} {N' : Nat} {p : Addr} {o : HO} (m : HMove CH CX q ps H R H' S' R' N') (hp : H p = none) (np : ¬ p ∈ R') (mu : Mut (H' p)) : HMove CH CX q ps H R (upd H' p o) S' R' N' :=
 ⟨m.at_.chg (.set (S := [p]) mu (by simp)) (fun a ha y => by rw [List.mem_singleton.mp y] at ha; exact np ha), m.chg.put hp, m.gr, m.sb⟩
def SwInv (CH CX q : Addr) (ps : Nat → Addr) (H : Hp) (R : List Addr) (N c : Nat) (pw : Addr) (r : HallS × List (Int × Line)) (m : Nat) (σ : St) (H' : Hp) : Prop :=
 ∃ (S' : HallS) (pl : Nat) (w : List (Int × Line)) (R' : List Addr) (ws : List V) (a b d : Option V), σ = [some (.ref q), some (.ref pw), some (.int (pl : Int)), a, b, d] ∧ S'.sweepGo m pl w = some r ∧ HallOk c S' ∧ HMove CH CX q ps H R H' S' R' (N + 3 * pl) ∧
  H' pw = some (.lst ws) ∧ ¬ pw ∈ R' ∧ Reps H' R' ws (w.map pairD) ∧ w.length ≤ pl ∧ pl ≤ S'.un.length
def zsp0u (CH CX : Addr) : Sp := fun vs H Q _ => ∃ q ps S R N c f r, vs = [.ref q] ∧ HallAt CH CX H q ps S R N ∧ HallOk c S ∧ S.sweepGo f 0 [] = some r ∧ N + 3 * r.1.un.length ≤ 700000 ∧ r.1.ls.length ≤ 800000 ∧
 HRet CH CX q ps H R (N + 3 * r.1.un.length) (r.1.trim, .pairs r.2) Q
theorem carryL_ans (S : HallS) (l : Letter) (st : Bool) : (S.carryL l st).2 = .non ∨ ∃ ls, (S.carryL l st).2 = .lines ls := by
 unfold HallS.carryL
 split
 ·exact .inl rfl
 ·split
  ·exact .inr ⟨_, rfl⟩
  ·exact .inl rfl
theorem lfs_un (ph pl pu pv : Addr) : putF "unspent" (.ref pv) (lfs ph pl pu) = lfs ph pl pv := by with_unfolding_all rfl
theorem zrd0u {K : PySem.W.Frag} {CH CX : Addr} {vs : List V} {H : Hp} {Q : VK} {E : XK} (T : HallTxt K CX) (h : zsp0u CH CX vs H Q E) :
    zR0u K (zsp0t CH CX) (zsp00 CH CX) CX { nx := fun _ H' => Q .non H', rt := Q } (start ["self", "written", "place", "which", "lines", "number"] vs) H := by
  obtain ⟨q, ps, S, R, N, c, f, r, rfl, I, ok, hgo, hN, hls, k⟩ := h
  obtain ⟨cl, f1, f2, f3⟩ := T
  unfold zR0u
  walk_at "go"
  walk_at "new"
  rename_i pw hpw H1 s1 g1
  walk_at "go"
  refine ⟨SwInv CH CX q ps H R N c pw r, ⟨f, S, 0, [], R, [], none, none, none, rfl, hgo, ok, (I.move s1), g1, notin_new I.trk hpw, .nil, Nat.le_refl _, Nat.zero_le _⟩, ?_⟩
  rintro m σ H2 ⟨S2, pl, w, R2, ws, a, b, d, rfl, hg2, ok2, M2, gw, nw, rw2, hwl, hpl⟩
  have sizes := sweep_mono _ _ _ _ _ hg2
  obtain ⟨dx, ph, pl', pu, Rs, ys, I2⟩ := id M2.at_
  have ob2 := I2.ob
  have ou2 := I2.ou
  walk_at "go"
  by_cases lt : pl < S2.un.length
  · rw [if_pos (by simp only [decide_eq_true_eq, List.length_map]; omega)]
    cases m with
    | zero => unfold HallS.sweepGo at hg2; rw [if_pos lt] at hg2; cases hg2
    | succ m =>
      unfold HallS.sweepGo at hg2
      rw [dif_pos lt] at hg2
      refine ⟨SwInv CH CX q ps H R N c pw r m, fun σ' H' z => ⟨m, Nat.lt_succ_self _, z⟩, ?_⟩
      have hget : (S2.un.map fun k => V.int (k : Nat))[pl]? = some (.int (S2.un[pl] : Nat)) := by rw [List.getElem?_map, List.getElem?_eq_getElem lt]; rfl
      have hkm : S2.un[pl] ∈ S2.un := List.getElem_mem lt
      generalize S2.un[pl] = k' at hg2 hget hkm
      have hkl := ok2.un k' hkm
      obtain ⟨l, hl⟩ : ∃ l, S2.ls[k']? = some l := ⟨_, List.getElem?_eq_getElem hkl⟩
      have lok := ok2.let_ l (List.mem_of_getElem? hl)
      walk_at "go"
      refine st_ixL (sqL ou2) (atI_nat hget) ?_
      walk_at "go"
      have hsm : Small S2 (N + 3 * pl) := ⟨by omega, by omega, by omega⟩
      refine ⟨q, ps, S2, R2, N + 3 * pl, c, (k' : Int), true, rfl, by omega, M2.at_, ok2, hsm, fun v H3 R3 M3 r3 fr3 => ?_⟩
      have ec : S2.carry (k' : Int) true = S2.carryL l true := by unfold HallS.carry; rw [Int.toNat_natCast, hl]
      rw [ec] at M3 r3
      have et : S2.turn k' = ((S2.carryL l true).1, told l (S2.carryL l true).2) := by unfold HallS.turn; rw [hl]
      have ht1 := turn_told S2 k'
      obtain ⟨⟨la, hla⟩, ua, hua⟩ := turn_mono S2 k'
      have ok3 := ok2.turn (k := k')
      rw [et] at hg2 ht1 hla hua ok3
      dsimp only at hg2 ht1 hla hua ok3
      have gw3 := M3.chg.keep _ _ gw nw
      have nw3 : ¬ pw ∈ R3 := fun y => (M3.gr _ y).elim nw fun z => by rw [gw] at z; cases z
      have rw3 := (rw2.grow M3.gr).chg (M3.chg.mono M3.sb)
      have MA := M2.trans M3
      have eN : N + 3 * pl + 3 = N + 3 * (pl + 1) := by omega
      rw [eN] at MA
      obtain ⟨dx3, ph3, pl3, pu3, Rs3, ys3, I3⟩ := id M3.at_
      have ob3 := I3.ob
      have ol3 := I3.ol
      refine st_cut (fun σ' H' => ∃ R' ws' d', σ' = [some (.ref q), some (.ref pw), some (.int (pl : Int)), some (.int (k' : Int)), some v, d'] ∧ HMove CH CX q ps H R H' (S2.carryL l true).1 R' (N + 3 * (pl + 1)) ∧ H' pw = some (.lst ws') ∧ ¬ pw ∈ R' ∧ Reps H' R' ws' ((w ++ told l (S2.carryL l true).2).map pairD)) ?_ ?_
      · rcases carryL_ans S2 l true with e | ⟨lns, e⟩
        · rw [e] at r3 ⊢
          cases r3.non_inv
          walk_at "go"
          rw [if_neg (by decide)]
          walk_at "go"
          refine ⟨R3, ws, d, rfl, MA, gw3, nw3, ?_⟩
          show Reps H3 R3 ws ((w ++ []).map pairD)
          rw [List.append_nil]; exact rw3
        · rw [e] at r3 ⊢ ht1
          obtain ⟨a3, xs3, rfl, ra, na3, rs3⟩ := r3.lst_inv
          have hl3 : (S2.carryL l true).1.ls[k']? = some l := by rw [hla, List.getElem?_append_left hkl]; exact hl
          obtain ⟨x, hx, rx⟩ := I3.ls.getD (i := k') (d := letterD l) (by rw [List.getElem?_map, hl3]; rfl)
          obtain ⟨l0, t, e0, rfl, rt⟩ := letter_at I3.ls hx
          rw [hl3] at e0
          cases e0
          have hl1 : lns.length ≤ 1 := by have := ht1; unfold told at this; rwa [List.length_map] at this
          have hxl3 : xs3.length = lns.length := by rw [rs3.length, List.length_map]
          have hwsl : ws.length = w.length := by rw [rw3.length, List.length_map]
          walk_at "go"
          rw [if_pos (by simp)]
          walk_at "go"
          refine st_ixL (sqL ol3) (atI_nat hx) ?_
          walk_at "go"
          refine ⟨.inl ⟨rfl, _, sqL gw3⟩, ?_⟩
          walk_at "go"
          intro pn hpn
          refine lc_list (K := K) (a := a3) (xs := xs3) (fun i zs σ H' => ∃ x, σ = [x, some (.int l.2.1)] ∧ Same H3 H' ∧ Reps H' R3 zs (((lns.take i).map fun x => (l.2.1, x)).map pairD)) ⟨none, rfl, Same.new hpn, .nil⟩ ?_ ?_ ?_
          · rintro i zs σ H' hi hq' ⟨x, rfl, s, rs⟩
            exact sqLr (ra.same s)
          · rintro i x zs σ H4 hx' hq' ⟨x', rfl, s4, rs4⟩
            obtain ⟨dd, hd, rx'⟩ := rs3.get hx'
            rw [List.getElem?_map] at hd
            cases hln : lns[i]? with
            | none => rw [hln] at hd; cases hd
            | some ln =>
              rw [hln] at hd
              cases hd
              walk_at "go"
              rw [if_pos rfl]
              walk_at "goA"
              rename_i tt htt H5 s5 g5
              have hil : i < lns.length := (List.getElem?_eq_some_iff.mp hln).1
              have hzl : zs.length = i := by rw [rs4.length, List.length_map, List.length_map, List.length_take]; omega
              have npt : tt ≠ pn := (ne_new htt hq').symm
              refine ⟨zs, s5 _ _ hq', len_small (by omega), zs ++ [.ref tt], upd_same, _, rfl, (s4.trans s5).put hpn, ?_⟩
              have cc : Chg [pn] H5 (upd H5 pn (.lst (zs ++ [.ref tt]))) := .set (by rw [s5 _ _ hq']; exact True.intro) (by simp)
              have npR : ¬ pn ∈ R3 := notin_new I3.trk hpn
              have keepR : ∀ {vs : List V} {ds : List PyData}, Reps H3 R3 vs ds → Reps (upd H5 pn (.lst (zs ++ [.ref tt]))) R3 vs ds := fun r => r.same ((s4.trans s5).put hpn)
              rw [take_snoc hln, List.map_append, List.map_append]
              have rz : Reps (upd H5 pn (.lst (zs ++ [.ref tt]))) R3 zs (((lns.take i).map fun x => (l.2.1, x)).map pairD) := pairs_any (pairs_chg (rs4.same s5) cc)
              exact rz.snoc (.tup (.inl (upd_at npt g5)) (.cons (.int _) (.cons (Rep.same ((s4.trans s5).put hpn) rx') .nil)))
          · rintro zs σ H4 hq' ⟨x', rfl, s4, rs4⟩
            rw [hxl3, List.take_length] at rs4
            have hzl : zs.length = lns.length := by rw [rs4.length, List.length_map, List.length_map]
            have gw4 := s4 _ _ gw3
            walk_at "go"
            refine st_extend gw4 hq' (by rw [sizeLine_eq]; omega) ?_
            have cc : Chg [pw] H4 (upd H4 pw (.lst (ws ++ zs))) := .set (by rw [gw4]; exact True.intro) (by simp)
            refine ⟨R3, ws ++ zs, _, rfl, ((MA.trans (MA.at_.move s4)).put hpw nw3 (by rw [gw4]; exact True.intro)), upd_same, nw3, ?_⟩
            rw [List.map_append]
            exact (pairs_any (pairs_chg (rw3.same s4) cc)).append (pairs_any (pairs_chg rs4 cc))
      · rintro σ' H4 ⟨R4, ws4, d4, rfl, M4, gw4, nw4, rw4⟩
        refine ⟨_, rfl, _, _, rfl, rfl, ?_⟩
        refine ⟨(S2.carryL l true).1, pl + 1, _, R4, ws4, some (.int (k' : Int)), some v, d4, ?_, hg2, ok3, M4, gw4, nw4, rw4, ?_, ?_⟩
        · show [some (V.ref q), some (.ref pw), some (.int ((pl : Int) + 1)), some (.int (k' : Int)), some v, d4] = _
          rw [Int.natCast_add]; rfl
        · rw [List.length_append]; omega
        · rw [hua, List.length_append]; omega
  · rw [if_neg (by simp only [decide_eq_true_eq, List.length_map]; omega)]
    have er : r = (S2, w) := by
      cases m with
      | zero => unfold HallS.sweepGo at hg2; rw [if_neg lt] at hg2; exact (Option.some.inj hg2).symm
      | succ m => unfold HallS.sweepGo at hg2; rw [dif_neg lt] at hg2; exact (Option.some.inj hg2).symm
    subst er
    have epl : pl = S2.un.length := by omega
    subst epl
    dsimp only at hN hls k
    walk_at "go"
    intro pn hpn
    have hpn0 : H pn = none := M2.free hpn
    have npw : pn ≠ pw := (ne_new hpn gw).symm
    refine lc_list (K := K) (a := pu) (xs := S2.un.map fun k => V.int (k : Nat)) (fun i zs σ H' => ∃ x R' Rs', σ = [x, some (.ref q)] ∧ HallIn CH CX H' q ps S2 R' (N + 3 * S2.un.length) dx ph pl' pu Rs' ys ∧ Chg R H H' ∧ Grow R H R' ∧ (∀ a, a ∈ R → a ∈ R') ∧ ¬ pn ∈ R' ∧ ¬ pw ∈ R' ∧ H' pw = some (.lst ws) ∧ Reps H' R' ws (w.map pairD) ∧ zs = ((S2.un.take i).filter fun k => !S2.spentAt k).map fun k => V.int (k : Nat))
      ⟨none, R2, Rs, rfl, I2.same (Same.new hpn), M2.chg.trans (.of_same (Same.new hpn)), M2.gr, M2.sb, notin_new I2.trk hpn, nw, upd_at npw.symm gw, rw2.same (Same.new hpn), rfl⟩ ?_ ?_ ?_
    · rintro i zs σ H' hi hq' ⟨x, R', Rs', rfl, I3, c3, g3, sb3, np3, nw3, gw3, rw3, rfl⟩
      exact sqL I3.ou
    · rintro i x zs σ H3 hx hq' ⟨x', R3, Rs3, rfl, I3, c3, g3, sb3, np3, nw3, gw3, rw3, rfl⟩
      rw [List.getElem?_map] at hx
      cases hk : S2.un[i]? with
      | none => rw [hk] at hx; cases hx
      | some k1 =>
        rw [hk] at hx
        have e : V.int (k1 : Nat) = x := Option.some.inj hx
        subst e
        have hi : i < S2.un.length := (List.getElem?_eq_some_iff.mp hk).1
        have ob3 := I3.ob
        walk_at "go"
        refine ⟨q, ps, S2, R3, _, c, dx, ph, pl', pu, Rs3, ys, k1, rfl, ok2.un k1 (List.mem_of_getElem? hk), I3, ok2, by omega, fun H4 R4 Rs4 I4 c4 g4 sb4 => ?_⟩
        have gp4 := c4.keep _ _ hq' np3
        have gw4 := c4.keep _ _ gw3 nw3
        have np4 : ¬ pn ∈ R4 := fun y => (g4 _ y).elim np3 fun z => by rw [hq'] at z; cases z
        have nw4 : ¬ pw ∈ R4 := fun y => (g4 _ y).elim nw3 fun z => by rw [gw3] at z; cases z
        have rw4 := (rw3.grow g4).chg (c4.mono sb4)
        have c04 := c3.grow g3 c4
        have g04 := g3.trans c3 g4
        have hz : (((S2.un.take i).filter fun k => !S2.spentAt k).map fun k => V.int (k : Nat)).length ≤ i := by
          rw [List.length_map]
          exact Nat.le_trans (List.length_filter_le _ _) (by rw [List.length_take]; omega)
        walk_at "go"
        cases hs : S2.spentAt k1 with
        | true =>
          rw [if_neg (by simp)]
          refine ⟨_, gp4, _, R4, Rs4, rfl, I4, c04, g04, fun a ha => sb4 a (sb3 a ha), np4, nw4, gw4, rw4, ?_⟩
          rw [take_snoc hk, List.filter_append]
          simp [hs]
        | false =>
          rw [if_pos (by simp)]
          walk_at "go"
          have cc : Chg [pn] H4 (upd H4 pn (.lst ((((S2.un.take i).filter fun k => !S2.spentAt k).map fun k => V.int (k : Nat)) ++ [.int (k1 : Nat)]))) := .set (by rw [gp4]; exact True.intro) (by simp)
          have dis : ∀ a ∈ R4, ¬ a ∈ [pn] := fun a ha y => by rw [List.mem_singleton.mp y] at ha; exact np4 ha
          refine ⟨_, gp4, len_small (by omega), _, upd_same, _, R4, Rs4, rfl, ?_, c04.put hpn0, g04, fun a ha => sb4 a (sb3 a ha), np4, nw4, upd_at npw.symm gw4, pairs_any (pairs_chg rw4 cc), ?_⟩
          · have kp : ∀ a o, a ∈ R4 → H4 a = some o → upd H4 pn (.lst ((((S2.un.take i).filter fun k => !S2.spentAt k).map fun k => V.int (k : Nat)) ++ [.int (k1 : Nat)])) a = some o := fun a o ha e => cc.keep a o e (dis a ha)
            exact { I4 with ob := kp _ _ I4.m1 I4.ob, oh := kp _ _ I4.m2 I4.oh, ol := kp _ _ I4.m3 I4.ol, ls := letters_chg I4.ls cc, ou := kp _ _ I4.m4 I4.ou,
                            hs := fun i h e => (I4.hs i h e).chg cc fun a ha => dis a (I4.m5 i a (List.getElem?_eq_some_iff.mp e).1 ha), trk := fun a ha => (by obtain ⟨o, e⟩ := I4.trk a ha; exact ⟨o, kp _ _ ha e⟩) }
          · rw [take_snoc hk, List.filter_append, List.map_append]
            simp [hs]
    · rintro zs σ H3 hq' ⟨x', R3, Rs3, rfl, I3, c3, g3, sb3, np3, nw3, gw3, rw3, rfl⟩
      rw [List.length_map, List.take_length] at hq'
      have ob3 := I3.ob
      walk_at "go"
      refine ⟨q, CX, dx, _, rfl, ob3, cl, f3, (by show 3 < 1000; decide), ?_⟩
      rw [lfs_un]
      have cc : Chg (pn :: R3) H3 (upd H3 q (.ins CX dx (lfs ph pl' pn))) := .set (by rw [ob3]; exact True.intro) (List.mem_cons_of_mem _ I3.m1)
      have cq : Chg [q] H3 (upd H3 q (.ins CX dx (lfs ph pl' pn))) := .set (by rw [ob3]; exact True.intro) (by simp)
      have nwq : pw ≠ q := fun e => nw3 (e ▸ I3.m1)
      have kp : ∀ {a : Addr} {o : HO}, H3 a = some o → (∀ D fs, o ≠ .ins CX D fs) → upd H3 q (.ins CX dx (lfs ph pl' pn)) a = some o := fun z1 z2 => upd_at (ne_of z1 ob3 (z2 _ _)) z1
      have J : HallIn CH CX (upd H3 q (.ins CX dx (lfs ph pl' pn))) q ps S2.trim (pn :: R3) (N + 3 * S2.un.length) dx ph pl' pn Rs3 ys :=
        { ob := upd_same, oh := kp I3.oh (by intro _ _ z; cases z), ol := kp I3.ol (by intro _ _ z; cases z), ls := letters_chg I3.ls cq, ou := kp hq' (by intro _ _ z; cases z),
          hs := fun i h e => (I3.hs i h e).chg cq (fun a ha y => (I3.nq i a (List.getElem?_eq_some_iff.mp e).1 ha).1 (List.mem_singleton.mp y)),
          dj := I3.dj, nq := fun i a il ha => (by
            obtain ⟨e1, e2, e3, e4⟩ := I3.nq i a il ha
            exact ⟨e1, e2, e3, fun z => np3 (z ▸ I3.m5 i a il ha)⟩),
          n1 := I3.n1, n2 := fun z => np3 (z ▸ I3.m2), n3 := fun z => np3 (z ▸ I3.m3), m1 := List.mem_cons_of_mem _ I3.m1, m2 := List.mem_cons_of_mem _ I3.m2, m3 := List.mem_cons_of_mem _ I3.m3, m4 := List.mem_cons_self .., m5 := fun i a il ha => List.mem_cons_of_mem _ (I3.m5 i a il ha),
          trk := trk_upd fun a ha => (by
            rcases List.mem_cons.mp ha with rfl | y
            · exact ⟨_, hq'⟩
            · exact I3.trk a y) }
      have nwn : ¬ pw ∈ pn :: R3 := fun y => by
        rcases List.mem_cons.mp y with z | z
        · exact npw z.symm
        · exact nw3 z
      have gg : Grow R H (pn :: R3) := fun a ha => by
        rcases List.mem_cons.mp ha with rfl | y
        · exact .inr hpn0
        · exact g3 a y
      walk_at "go"
      exact k _ _ _ ⟨⟨_, _, _, _, _, _, J⟩, c3.grow g3 (cq.mono fun b hb => by rw [List.mem_singleton.mp hb]; exact I3.m1), gg, fun a ha => List.mem_cons_of_mem _ (sb3 a ha)⟩ (.lst (.inl (upd_at nwq gw3)) nwn (pairs_any (pairs_chg rw3 cq))) (by rintro _ ⟨⟩; exact hpw)
def wt (l : Letter) : Nat := if l.2.2.2 = "ask" then 22 else if l.2.2.2 = "bound" ∨ l.2.2.2 = "off" then 1 else 21
def wtAt (ls : List Letter) (k : Nat) : Nat := (ls[k]?).elim 0 wt
def pot (S : HallS) (ks : List Nat) : Nat := (ks.map (wtAt S.ls)).sum
theorem sum_le_of {α : Type} (f : α → Nat) (b : Nat) : ∀ (xs : List α), (∀ x ∈ xs, f x ≤ b) → (xs.map f).sum ≤ xs.length * b
 | [], _ => by simp
 | x :: r, h => by
  have h1 := h x (by simp)
  have h2 := sum_le_of f b r fun y hy => h y (List.mem_cons_of_mem _ hy)
  simp only [List.map_cons, List.sum_cons, List.length_cons, Nat.succ_mul]
  omega
theorem wt_le (l : Letter) : wt l ≤ 22 := by
 unfold wt
 split
 ·omega
 ·split <;> omega
theorem wtAt_le (ls : List Letter) (k : Nat) : wtAt ls k ≤ 22 := by
 unfold wtAt
 cases ls[k]? with
 | none => exact Nat.zero_le _
 | some l => exact wt_le l
theorem wt_pos (l : Letter) : 1 ≤ wt l := by
 unfold wt
 split
 ·omega
 ·split <;> omega
theorem wt_off (a b n : Int) {w : Str} (h : w = "bound" ∨ w = "off") : wt (a, b, n, w) = 1 := by
 unfold wt
 dsimp only
 rw [if_neg (by rcases h with rfl | rfl <;> decide), if_pos h]
theorem toOthers_wt (h : HS) (n : Int) {w : Str} (hw : w = "bound" ∨ w = "off") : ((h.toOthers n w).map wt).sum = h.oth.length := by
 unfold HS.toOthers
 rw [List.map_map]
 generalize h.oth = o
 induction o with
 | nil => rfl
 | cons x r ih =>
  rw [List.map_cons, List.sum_cons, ih, List.length_cons]
  show wt (h.num, x, n, w) + _ = _
  rw [wt_off _ _ _ hw]; omega
theorem got_wt {c : Nat} (h : HS) (l : Letter) (lo : LetOk c l) (ho : h.oth.length ≤ 20) : (((h.got l).2).map wt).sum + 1 ≤ wt l := by
 have w21 : l.2.2.2 = "query" ∨ l.2.2.2 = "yes" ∨ l.2.2.2 = "no" → wt l = 21 := fun z => by
  unfold wt
  rw [if_neg (by rcases z with e | e | e <;> rw [e] <;> decide), if_neg (by rcases z with e | e | e <;> rw [e] <;> decide)]
 unfold HS.got
 split
 ·rename_i e
  have : wt l = 22 := by unfold wt; rw [if_pos e]
  rw [this]
  unfold HS.gotAsk
  show (wt _ + 0) + 1 ≤ 22
  have : wt (h.num, l.1, l.2.2.1, if decisionIn (h.asked l.2.2.1).book l.2.2.1 = some ("off" : Str) then ("no" : Str) else "yes") ≤ 21 := by
   unfold wt
   dsimp only
   split
   ·rw [if_neg (by decide)]; split <;> omega
   ·rw [if_neg (by decide)]; split <;> omega
  omega
 split
 ·rename_i e
  rw [w21 (.inl e)]
  unfold HS.gotQuery
  split
  ·simp
  ·split
   ·rename_i d hd
    show (wt _ + 0) + 1 ≤ 21
    rw [wt_off _ _ _ (dec_words hd)]; omega
   ·split
    ·show (wt (h.num, l.1, l.2.2.1, "off") + 0) + 1 ≤ 21
     rw [wt_off _ _ _ (.inr rfl)]; omega
    ·unfold HS.decide
     show ((h.toOthers _ _).map wt).sum + 1 ≤ 21
     rw [toOthers_wt _ _ (.inr rfl)]; omega
 split
 ·rename_i e
  rw [w21 (.inr e)]
  unfold HS.gotVote
  split
  ·rename_i d hd
   dsimp only
   split
   ·show (wt _ + 0) + 1 ≤ 21
    rw [wt_off _ _ _ (dec_words hd)]; omega
   ·simp
  ·split
   ·unfold HS.decide
    show ((h.toOthers _ _).map wt).sum + 1 ≤ 21
    rw [toOthers_wt _ _ (.inr rfl)]; omega
   ·split
    ·simp
    ·unfold HS.decide
     show (((h.count _ _).toOthers _ _).map wt).sum + 1 ≤ 21
     rw [toOthers_wt _ _ (.inl rfl)]
     show h.oth.length + 1 ≤ 21; omega
 ·unfold HS.gotDecision
  have := wt_pos l
  simpa using this
theorem pot_append (S : HallS) (a b : List Nat) : pot S (a ++ b) = pot S a + pot S b := by unfold pot; rw [List.map_append, List.sum_append_nat]
theorem pot_old {S S' : HallS} {a : List Letter} (h : S'.ls = S.ls ++ a) (ks : List Nat) (hk : ∀ k ∈ ks, k < S.ls.length) : pot S' ks = pot S ks := by
 unfold pot
 congr 1
 refine List.map_congr_left fun k hm => ?_
 unfold wtAt
 rw [h, List.getElem?_append_left (hk k hm)]
theorem pot_new (S : HallS) (sent : List Letter) : pot (S.send sent) ((List.range sent.length).map (S.ls.length + ·)) = (sent.map wt).sum := by
 unfold pot
 rw [List.map_map]
 congr 1
 refine List.ext_getElem? fun j => ?_
 rw [List.getElem?_map, List.getElem?_map]
 by_cases hj : j < sent.length
 ·rw [List.getElem?_range hj, List.getElem?_eq_getElem hj]
  show some (wtAt (S.ls ++ sent) (S.ls.length + j)) = _
  unfold wtAt
  rw [List.getElem?_append_right (Nat.le_add_right _ _), Nat.add_sub_cancel_left, List.getElem?_eq_getElem hj]
  rfl
 ·rw [List.getElem?_eq_none (by rw [List.length_range]; omega), List.getElem?_eq_none (by omega)]
  rfl
theorem turn_pot {c : Nat} {S : HallS} (ok : HallOk c S) {pl : Nat} (lt : pl < S.un.length) : pot (S.turn S.un[pl]).1 ((S.turn S.un[pl]).1.un.drop (pl + 1)) + 1 ≤ pot S (S.un.drop pl) := by
 have hkl := ok.un _ (List.getElem_mem lt)
 have e0 : S.un.drop pl = S.un[pl] :: S.un.drop (pl + 1) := List.drop_eq_getElem_cons lt
 have hp : pot S (S.un.drop pl) = wtAt S.ls S.un[pl] + pot S (S.un.drop (pl + 1)) := by rw [e0]; rfl
 have hold : ∀ k ∈ S.un.drop (pl + 1), k < S.ls.length := fun k hk => ok.un k (List.mem_of_mem_drop hk)
 rw [hp]
 generalize S.un[pl] = k at *
 obtain ⟨l, hl⟩ : ∃ l, S.ls[k]? = some l := ⟨_, List.getElem?_eq_getElem hkl⟩
 have lok := ok.let_ l (List.mem_of_getElem? hl)
 have hw : wtAt S.ls k = wt l := by unfold wtAt; rw [hl]; rfl
 have hpos := wt_pos l
 rw [hw]
 unfold HallS.turn
 rw [hl]
 dsimp only
 unfold HallS.carryL
 split
 ·dsimp only; omega
 ·rename_i h hi
  split
  ·unfold HallS.post
   rw [if_pos rfl]
   dsimp only
   have hd : ((S.put l.2.1.toNat (h.got l).1).send (h.got l).2).un.drop (pl + 1) = S.un.drop (pl + 1) ++ (List.range (h.got l).2.length).map (S.ls.length + ·) := by
    show (S.un ++ _).drop (pl + 1) = _
    rw [List.drop_append_of_le_length (by omega)]; rfl
   rw [hd, pot_append]
   have h1 : pot ((S.put l.2.1.toNat (h.got l).1).send (h.got l).2) (S.un.drop (pl + 1)) = pot S (S.un.drop (pl + 1)) := pot_old (a := (h.got l).2) rfl _ hold
   have h2 := pot_new (S.put l.2.1.toNat (h.got l).1) (h.got l).2
   rw [h1]
   have h3 : pot ((S.put l.2.1.toNat (h.got l).1).send (h.got l).2) ((List.range (h.got l).2.length).map (S.ls.length + ·)) = ((h.got l).2.map wt).sum := h2
   rw [h3]
   have := got_wt (c := c) h l lok (ok.oth hi)
   omega
  ·dsimp only; omega
theorem sweep_some {c : Nat} : ∀ (f : Nat) (S : HallS) (pl : Nat) (w : List (Int × Line)), HallOk c S → pl ≤ S.un.length → pot S (S.un.drop pl) ≤ f → ∃ r, S.sweepGo f pl w = some r ∧ r.1.un.length ≤ pl + f ∧ HallOk c r.1
 | 0, S, pl, w, ok, hpl, hf => by
  unfold HallS.sweepGo
  by_cases lt : pl < S.un.length
  ·have := turn_pot ok lt; omega
  ·rw [if_neg lt]; exact ⟨_, rfl, by dsimp only; omega, ok⟩
 | f + 1, S, pl, w, ok, hpl, hf => by
  unfold HallS.sweepGo
  by_cases lt : pl < S.un.length
  ·rw [dif_pos lt]
   have h1 := turn_pot ok lt
   obtain ⟨_, a, ha⟩ := turn_mono S S.un[pl]
   obtain ⟨r, hr, hl, hk⟩ := sweep_some f (S.turn S.un[pl]).1 (pl + 1) (w ++ (S.turn S.un[pl]).2) ok.turn (by rw [ha, List.length_append]; omega) (by omega)
   exact ⟨r, hr, by omega, hk⟩
  ·rw [dif_neg lt]; exact ⟨_, rfl, by dsimp only; omega, ok⟩
def HallS.fuel (S : HallS) : Nat := 22 * S.un.length
def HallS.sweepR (S : HallS) : HallS × List (Int × Line) := (S.sweepGo S.fuel 0 []).getD (S, [])
theorem pot_fuel (S : HallS) : pot S (S.un.drop 0) ≤ S.fuel := by
 unfold pot HallS.fuel
 have := sum_le_of (wtAt S.ls) 22 S.un fun k _ => wtAt_le _ _
 rw [List.drop_zero]; omega
theorem sweepR_ok {c : Nat} {S : HallS} (ok : HallOk c S) : S.sweepGo S.fuel 0 [] = some S.sweepR ∧ S.sweepR.1.un.length ≤ 22 * S.un.length ∧ HallOk c S.sweepR.1 := by
 obtain ⟨r, hr, hl, hk⟩ := sweep_some S.fuel S 0 [] ok (Nat.zero_le _) (pot_fuel S)
 have e : S.sweepR = r := by unfold HallS.sweepR; rw [hr]; rfl
 rw [e]
 exact ⟨hr, by unfold HallS.fuel at hl; omega, hk⟩
inductive Deed where
 | begin (n : Int) (st : Bool) | carry (k : Int) (st : Bool) | query (i : Nat) (n : Int) | stop (i : Nat) | wake (i : Nat) | sweep
def Deed.D : Deed → PyData
 | .begin n st => .tuple [.str "begin", .int n, .bool st]
 | .carry k st => .tuple [.str "carry", .int k, .bool st]
 | .query i n => .tuple [.str "query", .int i, .int n]
 | .stop i => .tuple [.str "stop", .int i]
 | .wake i => .tuple [.str "wake", .int i]
 | .sweep => .tuple [.str "sweep"]
def HallS.do (S : HallS) : Deed → HallS × Ans
 | .begin n st => S.begin n st
 | .carry k st => S.carry k st
 | .query i n => S.query i n
 | .stop i => S.stop i
 | .wake i => S.wake i
 | .sweep => (S.sweepR.1.trim, .pairs S.sweepR.2)
def DeedOk (c : Nat) : Deed → Prop
 | .carry k _ => 0 ≤ k
 | .query i _ => i < c
 | .stop i => i < c
 | .wake i => i < c
 | _ => True
def HallS.cost (S : HallS) : Deed → Nat
 | .sweep => 3 * S.sweepR.1.un.length
 | .wake _ => 1000
 | _ => 3
def HallS.roomy (S : HallS) (N : Nat) : Deed → Prop
 | .wake i => Small S N ∧ ∀ h, S.hs[i]? = some h → (leftOpen h.book).length ≤ 1000
 | .sweep => N + 3 * S.sweepR.1.un.length ≤ 700000 ∧ S.sweepR.1.ls.length ≤ 800000
 | _ => Small S N
theorem HallOk.do {c : Nat} {S : HallS} (ok : HallOk c S) (d : Deed) : HallOk c (S.do d).1 := by
 cases d with
 | begin n st => exact ok.begin
 | carry k st => exact ok.carry
 | query i n => exact ok.query
 | stop i => exact ok.stop
 | wake i => exact ok.wake
 | sweep => exact (sweepR_ok ok).2.2.trim
def HallS.run (S : HallS) : List Deed → HallS × List Ans
 | [] => (S, [])
 | d :: r => (((S.do d).1.run r).1, (S.do d).2 :: ((S.do d).1.run r).2)
def HallS.roomyAll (S : HallS) (N : Nat) : List Deed → Prop
 | [] => True
 | d :: r => S.roomy N d ∧ (S.do d).1.roomyAll (N + S.cost d) r
def HallS.costAll (S : HallS) : List Deed → Nat
 | [] => 0
 | d :: r => S.cost d + (S.do d).1.costAll r
theorem HallOk.run {c : Nat} {S : HallS} (ok : HallOk c S) : ∀ (ds : List Deed), HallOk c (S.run ds).1 := by
 intro ds
 induction ds generalizing S with
 | nil => exact ok
 | cons d r ih => exact ih (ok.do d)
theorem run_snoc (S : HallS) (ds : List Deed) (d : Deed) : S.run (ds ++ [d]) = (((S.run ds).1.do d).1, (S.run ds).2 ++ [((S.run ds).1.do d).2]) := by
 induction ds generalizing S with
 | nil => rfl
 | cons x r ih => show (((S.do x).1.run (r ++ [d])).1, (S.do x).2 :: ((S.do x).1.run (r ++ [d])).2) = _; rw [ih]; rfl
theorem cost_snoc (S : HallS) (ds : List Deed) (d : Deed) : S.costAll (ds ++ [d]) = S.costAll ds + (S.run ds).1.cost d := by
 induction ds generalizing S with
 | nil => show S.cost d + 0 = 0 + S.cost d; omega
 | cons x r ih => show S.cost x + (S.do x).1.costAll (r ++ [d]) = S.cost x + (S.do x).1.costAll r + _; rw [ih, Nat.add_assoc]; rfl
theorem roomy_at : ∀ (ds : List Deed) (S : HallS) (N : Nat), S.roomyAll N ds → ∀ i d, ds[i]? = some d → (S.run (ds.take i)).1.roomy (N + S.costAll (ds.take i)) d
 | [], S, N, h, i, d, hi => by cases hi
 | x :: r, S, N, h, 0, d, hi => by cases hi; exact h.1
 | x :: r, S, N, h, i + 1, d, hi => by
  have := roomy_at r (S.do x).1 (N + S.cost x) h.2 i d (by simpa using hi)
  rw [Nat.add_assoc] at this
  exact this
theorem run_len (S : HallS) (ds : List Deed) : (S.run ds).2.length = ds.length := by
 induction ds generalizing S with
 | nil => rfl
 | cons x r ih => show ((S.do x).1.run r).2.length + 1 = r.length + 1; rw [ih]
def zsp1f (CH CX : Addr) : Sp := fun vs H Q _ => ∃ q t ps S R N c d, vs = [.ref q, .ref t] ∧ Rep H [] (.ref t) d.D ∧ HallAt CH CX H q ps S R N ∧ HallOk c S ∧ DeedOk c d ∧ S.roomy N d ∧ HRet CH CX q ps H R (N + S.cost d) (S.do d) Q
theorem tup_at {H : Hp} {t : Addr} {ds : List PyData} (r : Rep H [] (.ref t) (.tuple ds)) : ∃ xs, Rd H t (.tup xs) ∧ Reps H [] xs ds := by
 obtain ⟨a, xs, e, h, rs⟩ := r.tup_inv
 cases e
 exact ⟨xs, h, rs⟩
theorem zrd1f {K : PySem.W.Frag} {CH CX : Addr} {vs : List V} {H : Hp} {Q : VK} {E : XK} (T : HallTxt K CX) (h : zsp1f CH CX vs H Q E) :
  zR1f K (zsp0v CH CX) (zsp0t CH CX) (zsp10 CH CX) (zsp19 CH CX) (zsp1a CH CX) (zsp0u CH CX) CX { nx := fun _ H' => Q .non H', rt := Q } (start ["self", "deed", "word"] vs) H := by
 obtain ⟨q, t, ps, S, R, N, c, d, rfl, rt, I, ok, dok, rm, k⟩ := h
 obtain ⟨dx, ph, pl, pu, Rs, ys, I0⟩ := id I
 have ob := I0.ob
 unfold zR1f
 cases d with
 | begin n st =>
  obtain ⟨xs, g, rs⟩ := tup_at rt
  obtain ⟨y1, r1, rfl, h1, t1⟩ := rs.cons_inv
  obtain ⟨y2, r2, rfl, h2, t2⟩ := t1.cons_inv
  obtain ⟨y3, r3, rfl, h3, t3⟩ := t2.cons_inv
  cases t3.nil_inv
  rw [h1.str_inv, h2.int_inv, h3.bl_inv] at g
  walk_at "go"
  rw [if_pos (by decide)]
  walk_at "go"
  exact ⟨q, ps, S, R, N, c, n, st, rfl, I, ok, rm, k⟩
 | carry w st =>
  obtain ⟨xs, g, rs⟩ := tup_at rt
  obtain ⟨y1, r1, rfl, h1, t1⟩ := rs.cons_inv
  obtain ⟨y2, r2, rfl, h2, t2⟩ := t1.cons_inv
  obtain ⟨y3, r3, rfl, h3, t3⟩ := t2.cons_inv
  cases t3.nil_inv
  rw [h1.str_inv, h2.int_inv, h3.bl_inv] at g
  walk_at "go"
  rw [if_neg (by decide)]
  walk_at "go"
  rw [if_pos (by decide)]
  walk_at "go"
  exact ⟨q, ps, S, R, N, c, w, st, rfl, dok, I, ok, rm, k⟩
 | query i n =>
  obtain ⟨xs, g, rs⟩ := tup_at rt
  obtain ⟨y1, r1, rfl, h1, t1⟩ := rs.cons_inv
  obtain ⟨y2, r2, rfl, h2, t2⟩ := t1.cons_inv
  obtain ⟨y3, r3, rfl, h3, t3⟩ := t2.cons_inv
  cases t3.nil_inv
  rw [h1.str_inv, h2.int_inv, h3.int_inv] at g
  walk_at "go"
  rw [if_neg (by decide)]
  walk_at "go"
  rw [if_neg (by decide)]
  walk_at "go"
  rw [if_pos (by decide)]
  walk_at "go"
  exact ⟨q, ps, S, R, N, c, i, n, rfl, by rw [ok.len]; exact dok, I, ok, rm, k.less (by omega)⟩
 | stop i =>
  obtain ⟨xs, g, rs⟩ := tup_at rt
  obtain ⟨y1, r1, rfl, h1, t1⟩ := rs.cons_inv
  obtain ⟨y2, r2, rfl, h2, t2⟩ := t1.cons_inv
  cases t2.nil_inv
  rw [h1.str_inv, h2.int_inv] at g
  walk_at "go"
  rw [if_neg (by decide)]
  walk_at "go"
  rw [if_neg (by decide)]
  walk_at "go"
  rw [if_neg (by decide)]
  walk_at "go"
  rw [if_pos (by decide)]
  walk_at "go"
  exact ⟨q, ps, S, R, N, i, rfl, by rw [ok.len]; exact dok, I, k.less (by omega)⟩
 | wake i =>
  obtain ⟨xs, g, rs⟩ := tup_at rt
  obtain ⟨y1, r1, rfl, h1, t1⟩ := rs.cons_inv
  obtain ⟨y2, r2, rfl, h2, t2⟩ := t1.cons_inv
  cases t2.nil_inv
  rw [h1.str_inv, h2.int_inv] at g
  walk_at "go"
  rw [if_neg (by decide)]
  walk_at "go"
  rw [if_neg (by decide)]
  walk_at "go"
  rw [if_neg (by decide)]
  walk_at "go"
  rw [if_neg (by decide)]
  walk_at "go"
  rw [if_pos (by decide)]
  walk_at "go"
  exact ⟨q, ps, S, R, N, c, i, rfl, by rw [ok.len]; exact dok, I, ok, rm.1, rm.2, k⟩
 | sweep =>
  obtain ⟨xs, g, rs⟩ := tup_at rt
  obtain ⟨y1, r1, rfl, h1, t1⟩ := rs.cons_inv
  cases t1.nil_inv
  rw [h1.str_inv] at g
  walk_at "go"
  rw [if_neg (by decide)]
  walk_at "go"
  rw [if_neg (by decide)]
  walk_at "go"
  rw [if_neg (by decide)]
  walk_at "go"
  rw [if_neg (by decide)]
  walk_at "go"
  rw [if_neg (by decide)]
  walk_at "go"
  exact ⟨q, ps, S, R, N, c, _, _, rfl, I, ok, (sweepR_ok ok).1, rm.1, rm.2, k⟩
def agD (x : Int × Int) : PyData := .tuple [.int x.1, .int x.2]
def agOf (ag : List (Int × Int)) (k : Int) : List Int := (ag.filter fun x => decide (x.1 = k)).map (·.2)
def newHall (c : Nat) (ag : List (Int × Int)) : HallS := ⟨(List.range c).map fun (i : Nat) => newHS (i : Int) c (agOf ag (i : Int)), [], []⟩
theorem agOf_snoc (ag : List (Int × Int)) (x : Int × Int) (k : Int) : agOf (ag ++ [x]) k = if x.1 = k then agOf ag k ++ [x.2] else agOf ag k := by
 unfold agOf
 rw [List.filter_append]
 by_cases e : x.1 = k <;> simp [e]
def zsp04 : Sp := fun vs H Q _ => ∃ a ag k, vs = [.ref a, .int k] ∧ Rep H [] (.ref a) (.list (ag.map agD)) ∧ ag.length ≤ 900000 ∧ ∀ p H', H p = none → Same H H' → H' p = some (.lst ((agOf ag k).map .int)) → Q (.ref p) H'
theorem zrd04 {K : PySem.W.Frag} {vs : List V} {H : Hp} {Q : VK} {E : XK} (h : zsp04 vs H Q E) : zR04 K { nx := fun _ H' => Q .non H', rt := Q } (start ["against", "number"] vs) H := by
 obtain ⟨a, ag, k, rfl, ra, hal, kk⟩ := h
 obtain ⟨a', xs, e, ga, _, rs⟩ := ra.lst_inv
 cases e
 unfold zR04
 walk_at "go"
 intro p hp
 have hxl : xs.length = ag.length := by rw [rs.length, List.length_map]
 refine lc_list (K := K) (a := a) (xs := xs) (fun i ys σ H' => ∃ v, σ = [v, some (.int k)] ∧ H' = upd H p (.lst ys) ∧ ys = (agOf (ag.take i) k).map .int) ⟨none, rfl, rfl, rfl⟩ ?_ ?_ ?_
 ·rintro i ys σ H' hi hp' ⟨v, rfl, rfl, rfl⟩
  exact sqLr (ga.same (Same.new hp))
 ·rintro i x ys σ H' hx hp' ⟨v, rfl, rfl, rfl⟩
  obtain ⟨d, hd, rx⟩ := rs.get hx
  rw [List.getElem?_map] at hd
  cases hb : ag[i]? with
  | none => rw [hb] at hd; cases hd
  | some y =>
   rw [hb] at hd
   cases hd
   obtain ⟨t, zs, rfl, rt, rz⟩ := rx.tup_inv
   obtain ⟨y1, r1, rfl, h1, t1⟩ := rz.cons_inv
   obtain ⟨y2, r2, rfl, h2, t2⟩ := t1.cons_inv
   cases t2.nil_inv
   rw [h1.int_inv, h2.int_inv] at rt
   have rt' := rt.same (Same.new (p := p) (o := .lst ((agOf (ag.take i) k).map .int)) hp)
   have hil : i < ag.length := (List.getElem?_eq_some_iff.mp hb).1
   have hz : (agOf (ag.take i) k).length ≤ i := by
    unfold agOf
    rw [List.length_map]
    exact Nat.le_trans (List.length_filter_le _ _) (by rw [List.length_take]; omega)
   walk_at "go"
   by_cases e : y.1 = k
   ·rw [if_pos (by simp [e])]
    walk_at "go"
    refine ⟨_, upd_same, len_small (by rw [List.length_map]; omega), _, upd_same, _, rfl, upd_upd, ?_⟩
    rw [take_snoc hb, agOf_snoc, if_pos e, List.map_append]; rfl
   ·rw [if_neg (by simp [e])]
    exact ⟨_, upd_same, _, rfl, rfl, by rw [take_snoc hb, agOf_snoc, if_neg e]⟩
 ·rintro ys σ H' hp' ⟨v, rfl, hH, rfl⟩
  rw [hxl, List.take_length] at hp'
  exact kk p _ hp (by rw [hH]; exact Same.new hp) hp'
def lf1 (p : Addr) : List (Str × V) := [("houses", .ref p)]
def lf2 (p pl : Addr) : List (Str × V) := [("houses", .ref p), ("letters", .ref pl)]
structure HsIn (CH : Addr) (H H' : Hp) (c i : Nat) (ag : List (Int × Int)) (p : Addr) (ps : Nat → Addr) (Rs : Nat → List Addr) : Prop where
 same : Same H H'
 hs : ∀ j, j < i → HouseAt CH H' (ps j) (newHS j c (agOf ag j)) (Rs j) 0
 dj : ∀ j k a, j ≠ k → j < i → k < i → a ∈ Rs j → a ∈ Rs k → False
 fr : ∀ j a, j < i → a ∈ Rs j → H a = none ∧ a ≠ p
def zsp12 (CH CX : Addr) : Sp := fun vs H Q _ => ∃ (q dx a : Addr) (c : Nat) (ag : List (Int × Int)), vs = [.ref q, .int c, .ref a] ∧ H q = some (.ins CX dx []) ∧ 2 ≤ c ∧ c ≤ 20 ∧ Rep H [] (.ref a) (.list (ag.map agD)) ∧ ag.length ≤ 900000 ∧
 ∀ H' R' ps, HallAt CH CX H' q ps (newHall c ag) R' 0 → Chg [q] H H' → (∀ b ∈ R', b = q ∨ H b = none) → Q .non H'
theorem zrd12 {K : PySem.W.Frag} {CH CX : Addr} {vs : List V} {H : Hp} {Q : VK} {E : XK} (T : HallTxt K CX) (h : zsp12 CH CX vs H Q E) :
    zR12 K zsp04 (zsp11 CH) CH { nx := fun _ H' => Q .non H', rt := Q } (start ["self", "count", "against"] vs) H := by
  obtain ⟨q, dx, a, c, ag, rfl, ob, hc1, hc2, ra, hal, k⟩ := h
  unfold zR12
  have M0 : Made CX H q dx [] H := ⟨ob, .refl _ _, fun _ h => h⟩
  walk_at "go"
  refine st_itr (by omega) ?_
  intro p hp
  have npq : p ≠ q := (ne_new hp ob).symm
  refine lc_range (n := c) (fun i ys σ H' => ∃ v ps Rs, σ = [v, some (.int (c : Int)), some (.ref a)] ∧ ys = (List.range i).map (fun j => V.ref (ps j)) ∧ H' p = some (.lst ys) ∧ HsIn CH H H' c i ag p ps Rs)
    ⟨none, fun _ => 0, fun _ => [], rfl, rfl, upd_same, Same.new hp, fun j hj => absurd hj (Nat.not_lt_zero _), fun j k a e hj => absurd hj (Nat.not_lt_zero _), fun j a hj => absurd hj (Nat.not_lt_zero _)⟩ ?_ ?_
  · rintro i ys σ H1 hi hp1 ⟨v, ps, Rs, rfl, rfl, _, I⟩
    have e0 : ((0 : Int) + (i : Int)) = (i : Int) := Int.zero_add _
    rw [e0]
    walk_at "go"
    rw [if_pos rfl]
    refine st_make ?_
    walk_at "go"
    refine ⟨a, ag, (i : Int), rfl, ra.same I.same, hal, fun pb H2 hpb s2 gb => ?_⟩
    walk_at "go"
    intro x dx' hx hdx nxd
    have hp2 := s2 _ _ hp1
    generalize hH3 : upd (upd H2 dx' (.own x)) x (.ins CH dx' []) = H3
    have s3 : Same H2 H3 := by
      rw [← hH3]
      intro b o e
      rw [upd_ne (ne_of_none e hx), upd_ne (ne_of_none e hdx)]; exact e
    have ob3 : H3 x = some (.ins CH dx' []) := by rw [← hH3]; exact upd_same
    have s03 := (I.same.trans s2).trans s3
    refine ⟨x, dx', pb, (i : Int), c, agOf ag i, rfl, ob3, by omega, .inl (s3 _ _ gb), fun H4 R4 J4 c4 fr4 => ?_⟩
    have k34 : ∀ b o, b ≠ x → H3 b = some o → H4 b = some o := fun b o n e => c4.keep b o e (by simpa using n)
    have hx0 : H x = none := (I.same.trans s2).free hx
    have s04 : Same H H4 := fun b o e => k34 b o (ne_of_none e hx0) (s03 b o e)
    have npx : p ≠ x := ne_new hx hp2
    have hp4 : H4 p = some (.lst ((List.range i).map fun j => V.ref (ps j))) := k34 _ _ npx (s3 _ _ hp2)
    have fr4' : ∀ b ∈ R4, H b = none ∧ b ≠ p ∧ ∀ j, j < i → ¬ b ∈ Rs j := fun b hb => by
      rcases fr4 b hb with z | z
      · subst z
        refine ⟨hx0, npx.symm, fun j hj y => ?_⟩
        obtain ⟨dx1, po1, pa1, pk1, pc1, xs1, z1, J⟩ := id (I.hs j hj)
        obtain ⟨o, e⟩ := J.trk _ y
        rw [s2 _ _ e] at hx; cases hx
      · have z2 := s3.free z
        have z1 := s2.free z2
        refine ⟨I.same.free z1, (ne_new z1 hp1).symm, fun j hj y => ?_⟩
        obtain ⟨dx1, po1, pa1, pk1, pc1, xs1, z1', J⟩ := id (I.hs j hj)
        obtain ⟨o, e⟩ := J.trk _ y
        rw [e] at z1; cases z1
    have cc : Chg [p] H4 (upd H4 p (.lst ((List.range i).map (fun j => V.ref (ps j)) ++ [.ref x]))) := .set (by rw [hp4]; exact True.intro) (by simp)
    refine ⟨rfl, _, hp4, len_small (by rw [List.length_map, List.length_range]; omega), _, upd_same, _, (fun j => if j = i then x else ps j), (fun j => if j = i then R4 else Rs j), rfl, ?_, upd_same, s04.put hp, fun j hj => ?_, fun j k b e hj hk jb kb => ?_, fun j b hj hb => ?_⟩
    · rw [List.range_succ, List.map_append]
      congr 1
      · refine List.map_congr_left fun j hj => ?_
        rw [List.mem_range] at hj
        show V.ref (ps j) = V.ref (if j = i then x else ps j)
        rw [if_neg (by omega)]
      · show _ = [V.ref (if i = i then x else ps i)]
        rw [if_pos rfl]
    · by_cases e : j = i
      · subst e
        rw [if_pos rfl, if_pos rfl]
        exact J4.chg cc fun b hb y => (fr4' b hb).2.1 (List.mem_singleton.mp y)
      · have hj' : j < i := by omega
        rw [if_neg e, if_neg e]
        refine HouseAt.chg (T := [p]) (HouseAt.chg (T := [x]) (((I.hs j hj').same s2).same s3) c4 fun b hb y => ?_) cc fun b hb y => (I.fr j b hj' hb).2 (List.mem_singleton.mp y)
        rw [List.mem_singleton.mp y] at hb
        obtain ⟨dx1, po1, pa1, pk1, pc1, xs1, z1', J⟩ := id (I.hs j hj')
        obtain ⟨o, eo⟩ := J.trk _ hb
        rw [s2 _ _ eo] at hx; cases hx
    · by_cases e1 : j = i
      · have e2 : ¬ k = i := fun z => e (e1.trans z.symm)
        rw [if_pos e1] at jb; rw [if_neg e2] at kb
        exact (fr4' b jb).2.2 k (by omega) kb
      · rw [if_neg e1] at jb
        by_cases e2 : k = i
        · rw [if_pos e2] at kb
          exact (fr4' b kb).2.2 j (by omega) jb
        · rw [if_neg e2] at kb
          exact I.dj j k b e (by omega) (by omega) jb kb
    · by_cases e : j = i
      · rw [if_pos e] at hb
        exact ⟨(fr4' b hb).1, (fr4' b hb).2.1⟩
      · rw [if_neg e] at hb
        exact I.fr j b (by omega) hb
  · rintro ys σ H1 hp1 ⟨v, ps, Rs, rfl, rfl, _, I⟩
    have M1 := M0.same I.same
    walk_at "go"
    refine ⟨q, CX, dx, _, rfl, M1.ob, T.cl, T.f1, (by show 0 < 1000; decide), ?_⟩
    have M2 := M1.put (lf1 p)
    have g2 := M1.keep (gs := (lf1 p)) hp1 (by intro z; cases z)
    have c2 : Chg [q] H1 (upd H1 q (.ins CX dx (lf1 p))) := .set (by rw [M1.ob]; exact True.intro) (by simp)
    have e2 : putF "houses" (.ref p) ([] : List (Str × V)) = (lf1 p) := by with_unfolding_all rfl
    rw [e2]
    generalize upd H1 q (.ins CX dx (lf1 p)) = H2 at *
    walk_at "go"
    walk_at "new"
    rename_i pl hpl H3 s3 g3
    have M3 := M2.same s3
    walk_at "go"
    refine ⟨q, CX, dx, _, rfl, M3.ob, T.cl, T.f2, (by show 1 < 1000; decide), ?_⟩
    have M4 := M3.put (lf2 p pl)
    have g4p := M3.keep (gs := (lf2 p pl)) (s3 _ _ g2) (by intro z; cases z)
    have g4l := M3.keep (gs := (lf2 p pl)) g3 (by intro z; cases z)
    have c4 : Chg [q] H3 (upd H3 q (.ins CX dx (lf2 p pl))) := .set (by rw [M3.ob]; exact True.intro) (by simp)
    have e4 : putF "letters" (.ref pl) (lf1 p) = (lf2 p pl) := by with_unfolding_all rfl
    rw [e4]
    generalize upd H3 q (.ins CX dx (lf2 p pl)) = H4 at *
    walk_at "go"
    walk_at "new"
    rename_i pu hpu H5 s5 g5
    have M5 := M4.same s5
    walk_at "go"
    refine ⟨q, CX, dx, _, rfl, M5.ob, T.cl, T.f3, (by show 2 < 1000; decide), ?_⟩
    have e6 : putF "unspent" (.ref pu) (lf2 p pl) = lfs p pl pu := by with_unfolding_all rfl
    rw [e6]
    have M6 := M5.put (lfs p pl pu)
    have g6p := M5.keep (gs := lfs p pl pu) (s5 _ _ g4p) (by intro z; cases z)
    have g6l := M5.keep (gs := lfs p pl pu) (s5 _ _ g4l) (by intro z; cases z)
    have g6u := M5.keep (gs := lfs p pl pu) g5 (by intro z; cases z)
    have c6 : Chg [q] H5 (upd H5 q (.ins CX dx (lfs p pl pu))) := .set (by rw [M5.ob]; exact True.intro) (by simp)
    have cA : Chg [q] H1 (upd H5 q (.ins CX dx (lfs p pl pu))) := (((c2.trans (.of_same s3)).trans c4).trans (.of_same s5)).trans c6
    generalize upd H5 q (.ins CX dx (lfs p pl pu)) = H6 at *
    have hpl0 : H pl = none := M2.free _ hpl
    have hpu0 : H pu = none := M4.free _ hpu
    have n1 : p ≠ pl := ne_new hpl g2
    have n2 : p ≠ pu := ne_new hpu g4p
    have n3 : pl ≠ pu := ne_new hpu g4l
    have hlen : (newHall c ag).hs.length = c := by show ((List.range c).map _).length = c; rw [List.length_map, List.length_range]
    have hsAt : ∀ i h, (newHall c ag).hs[i]? = some h → i < c ∧ h = newHS i c (agOf ag i) := fun i h e => by
      have il : i < c := by rw [← hlen]; exact (List.getElem?_eq_some_iff.mp e).1
      change ((List.range c).map fun (i : Nat) => newHS (i : Int) c (agOf ag (i : Int)))[i]? = some h at e
      rw [List.getElem?_map, List.getElem?_range il] at e
      exact ⟨il, (Option.some.inj e).symm⟩
    have trkH : ∀ i b, i < c → b ∈ Rs i → ∃ o, H1 b = some o := fun i b il hb => by
      obtain ⟨dx1, po1, pa1, pk1, pc1, xs1, z1, J⟩ := id (I.hs i il)
      exact J.trk b hb
    have nqi : ∀ i b, i < c → b ∈ Rs i → b ≠ q ∧ b ≠ p ∧ b ≠ pl ∧ b ≠ pu := fun i b il hb => by
      obtain ⟨f0, fp⟩ := I.fr i b il hb
      obtain ⟨o, eo⟩ := trkH i b il hb
      refine ⟨fun z => ?_, fp, fun z => ?_, fun z => ?_⟩
      · rw [z, ob] at f0; cases f0
      · subst z
        cases e : H2 b with
        | none => 
          have := cA
          have h2 : H1 b = none := by
            cases e' : H1 b with
            | none => rfl
            | some o' => rw [c2.keep b o' e' (by simpa using fun z => by rw [z, ob] at f0; cases f0)] at e; cases e
          rw [h2] at eo; cases eo
        | some o' => rw [hpl] at e; cases e
      · subst z
        have nbq : b ≠ q := fun z => by rw [z, ob] at f0; cases f0
        have e2 : H4 b = some o := c4.keep _ _ (s3 _ _ (c2.keep b o eo (by simpa using nbq))) (by simpa using nbq)
        rw [hpu] at e2; cases e2
    refine k _ ([q, p, pl, pu] ++ ((List.range c).map Rs).flatten) ps ⟨dx, p, pl, pu, Rs, [], ?_⟩ M6.chg (fun b hb => ?_)
    · exact { ob := M6.ob, oh := by rw [hlen]; exact g6p, ol := g6l, ls := .nil, ou := g6u,
              hs := fun i h e => (by
                obtain ⟨il, rfl⟩ := hsAt i h e
                exact (I.hs i il).chg cA fun b hb y => (nqi i b il hb).1 (List.mem_singleton.mp y)),
              dj := fun i j b e hi hj => I.dj i j b e (by rw [hlen] at hi; exact hi) (by rw [hlen] at hj; exact hj),
              nq := fun i b hi hb => nqi i b (by rw [hlen] at hi; exact hi) hb,
              n1 := n1, n2 := n2, n3 := n3, m1 := by simp, m2 := by simp, m3 := by simp, m4 := by simp,
              m5 := fun i b hi hb => (by
                rw [hlen] at hi
                exact List.mem_append_right _ (List.mem_flatten.mpr ⟨Rs i, List.mem_map.mpr ⟨i, List.mem_range.mpr hi, rfl⟩, hb⟩)),
              trk := fun b hb => (by
                rcases List.mem_append.mp hb with z | z
                · simp only [List.mem_cons, List.not_mem_nil, or_false] at z
                  rcases z with rfl | rfl | rfl | rfl
                  · exact ⟨_, M6.ob⟩
                  · exact ⟨_, g6p⟩
                  · exact ⟨_, g6l⟩
                  · exact ⟨_, g6u⟩
                · obtain ⟨L, hL, hb⟩ := List.mem_flatten.mp z
                  obtain ⟨i, hi, rfl⟩ := List.mem_map.mp hL
                  rw [List.mem_range] at hi
                  obtain ⟨o, eo⟩ := trkH i b hi hb
                  exact ⟨o, cA.keep b o eo (by simpa using (nqi i b hi hb).1)⟩) }
    · rcases List.mem_append.mp hb with z | z
      · simp only [List.mem_cons, List.not_mem_nil, or_false] at z
        rcases z with rfl | rfl | rfl | rfl
        · exact .inl rfl
        · exact .inr hp
        · exact .inr hpl0
        · exact .inr hpu0
      · obtain ⟨L, hL, hb⟩ := List.mem_flatten.mp z
        obtain ⟨i, hi, rfl⟩ := List.mem_map.mp hL
        rw [List.mem_range] at hi
        exact .inr (I.fr i b hi hb).1
theorem newHall_ok {c : Nat} (ag : List (Int × Int)) (h1 : 2 ≤ c) (h2 : c ≤ 20) : HallOk c (newHall c ag) where
 len := by show ((List.range c).map _).length = c; rw [List.length_map, List.length_range]
 c1 := h1
 c2 := h2
 num := fun i h e => by
  change ((List.range c).map fun (i : Nat) => newHS (i : Int) c (agOf ag (i : Int)))[i]? = some h at e
  have il : i < c := by have := (List.getElem?_eq_some_iff.mp e).1; rwa [List.length_map, List.length_range] at this
  rw [List.getElem?_map, List.getElem?_range il] at e
  have := Option.some.inj e
  rw [← this]; exact ⟨rfl, rfl⟩
 let_ := fun l hl => by cases hl
 un := fun k hk => by cases hk
theorem own_same {CH CX q : Addr} {ps : Nat → Addr} {H H1 H2 : Hp} {R R2 : List Addr} {S2 : HallS} {N2 : Nat} (s : Same H H1) (f : ∀ x ∈ R, H x = none) (m : HMove CH CX q ps H1 R H2 S2 R2 N2) : Same H H2 ∧ ∀ x ∈ R2, H x = none :=
 ⟨fun b o e => m.chg.keep b o (s b o e) (fun y => by rw [f b y] at e; cases e), fun x hx => (m.gr x hx).elim (f x) fun z => s.free z⟩
def Given (H : Hp) (vs : List V) (c : Nat) (ag : List (Int × Int)) (ds : List Deed) (rest : List V) : Prop :=
 ∃ a b, vs = .int (c : Int) :: .ref a :: .ref b :: rest ∧ 2 ≤ c ∧ c ≤ 20 ∧ Rep H [] (.ref a) (.list (ag.map agD)) ∧ ag.length ≤ 900000 ∧ Rep H [] (.ref b) (.list (ds.map Deed.D)) ∧ ds.length ≤ 900000 ∧ (∀ d ∈ ds, DeedOk c d) ∧ (newHall c ag).roomyAll 0 ds
theorem deeds_at {H : Hp} {S : List Addr} {ds : List Deed} {xs : List V} {i : Nat} {x : V} (rs : Reps H S xs (ds.map Deed.D)) (hx : xs[i]? = some x) : ∃ d t, ds[i]? = some d ∧ x = .ref t ∧ Rep H S (.ref t) d.D := by
 obtain ⟨dd, hd, rx⟩ := rs.get hx
 rw [List.getElem?_map] at hd
 cases hb : ds[i]? with
 | none => rw [hb] at hd; cases hd
 | some d =>
  rw [hb] at hd
  cases hd
  have : ∃ es, d.D = .tuple es := by cases d <;> exact ⟨_, rfl⟩
  obtain ⟨es, e⟩ := this
  rw [e] at rx
  obtain ⟨t, ys, rfl, rt, rs'⟩ := rx.tup_inv
  exact ⟨d, t, rfl, rfl, by rw [e]; exact .tup rt rs'⟩
def zsp0z (CH CX : Addr) : Sp := fun vs H Q _ => ∃ c ag ds, Given H vs c ag ds [] ∧ ∀ q H' R' ps, HallAt CH CX H' q ps ((newHall c ag).run ds).1 R' ((newHall c ag).costAll ds) → Same H H' → (∀ x ∈ R', H x = none) → Q (.ref q) H'
theorem made_hall {CX q dx : Addr} {H : Hp} (hq : H q = none) (hdx : H dx = none) (nd : dx ≠ q) : Same H (upd (upd H dx (.own q)) q (.ins CX dx [])) ∧ upd (upd H dx (.own q)) q (.ins CX dx []) q = some (.ins CX dx []) :=
 ⟨fun b o e => by rw [upd_ne (ne_of_none e hq), upd_ne (ne_of_none e hdx)]; exact e, upd_same⟩
theorem zrd0z {K : PySem.W.Frag} {CH CX : Addr} {vs : List V} {H : Hp} {Q : VK} {E : XK} (h : zsp0z CH CX vs H Q E) :
  zR0z K (zsp12 CH CX) (zsp1f CH CX) CX { nx := fun _ H' => Q .non H', rt := Q } (start ["count", "against", "deeds", "hall", "deed"] vs) H := by
 obtain ⟨c, ag, ds, ⟨a, b, rfl, hc1, hc2, ra, hal, rb, hdl, dok, rm⟩, k⟩ := h
 obtain ⟨b', xs, e, gb, _, rs⟩ := rb.lst_inv
 cases e
 have hxl : xs.length = ds.length := by rw [rs.length, List.length_map]
 unfold zR0z
 walk_at "go"
 refine st_make ?_
 walk_at "go"
 intro q dx hq hdx nd
 obtain ⟨s1, ob1⟩ := made_hall (CX := CX) hq hdx nd
 generalize upd (upd H dx (.own q)) q (.ins CX dx []) = H1 at *
 refine ⟨q, dx, a, c, ag, rfl, ob1, hc1, hc2, ra.same s1, hal, fun H2 R2 ps I2 c2 f2 => ⟨rfl, ?_⟩⟩
 have s2 : Same H H2 := fun x o e => c2.keep x o (s1 x o e) (by simpa using ne_of_none e hq)
 have fr2 : ∀ x ∈ R2, H x = none := fun x hx => (f2 x hx).elim (fun z => z ▸ hq) fun z => s1.free z
 walk_at "go"
 refine for_list (K := K) (a := b) (xs := xs) (fun i σ H' => ∃ v R', σ = [some (.int (c : Int)), some (.ref a), some (.ref b), some (.ref q), v] ∧ HallAt CH CX H' q ps ((newHall c ag).run (ds.take i)).1 R' ((newHall c ag).costAll (ds.take i)) ∧ Same H H' ∧ ∀ x ∈ R', H x = none)
  ⟨none, R2, rfl, I2, s2, fr2⟩ ?_ ?_ ?_
 ·rintro i σ H' hi ⟨v, R', rfl, J, s, f⟩
  exact sqLr (gb.same s)
 ·rintro i x σ H3 hx ⟨v, R', rfl, J, s, f⟩
  obtain ⟨d, t, hd, rfl, rt⟩ := deeds_at (rs.same s) hx
  obtain ⟨dx3, ph3, pl3, pu3, Rs3, ys3, J0⟩ := id J
  have ob3 := J0.ob
  walk_at "go"
  refine ⟨q, t, ps, _, R', _, c, d, rfl, rt, J, (newHall_ok ag hc1 hc2).run _, dok d (List.mem_of_getElem? hd), ?_, fun w H4 R4 M4 _ _ => ?_⟩
  ·have := roomy_at ds (newHall c ag) 0 rm i d hd
   rwa [Nat.zero_add] at this
  ·obtain ⟨s4, f4⟩ := own_same s f M4
   refine ⟨_, R4, rfl, ?_, s4, f4⟩
   rw [take_snoc hd, run_snoc, cost_snoc]
   exact M4.at_
 ·rintro σ H3 ⟨v, R', rfl, J, s, f⟩
  rw [hxl, List.take_length] at J
  walk_at "go"
  exact k q _ _ ps J s f
theorem ans_out {H : Hp} {R : List Addr} {p : Addr} {w : V} {a : Ans} (r : Rep H R w a.D) (f : ∀ l, w = .ref l → l ≠ p) : Rep H (p :: R) w a.D := by
 have out : ∀ {x : Addr}, w = .ref x → ¬ x ∈ R → ¬ x ∈ p :: R := fun e n y => by
  rcases List.mem_cons.mp y with z | z
  ·exact f _ e z
  ·exact n z
 cases a with
 | non => cases r.non_inv; exact .non
 | bl b => cases r.bl_inv; exact .bl _
 | lines ls =>
  obtain ⟨x, xs, rfl, g, n, rs⟩ := Rep.lst_inv (ds := ls.map lineD) r
  exact .lst g (out rfl n) (lines_any rs)
 | pairs ps =>
  obtain ⟨x, xs, rfl, g, n, rs⟩ := Rep.lst_inv (ds := ps.map pairD) r
  exact .lst g (out rfl n) (pairs_any rs)
def ansD (as : List Ans) : PyData := .list (as.map Ans.D)
def zsp1d (CH CX : Addr) : Sp := fun vs H Q _ => ∃ c ag ds, Given H vs c ag ds [] ∧ ∀ v H', Same H H' → Rep H' [] v (ansD ((newHall c ag).run ds).2) → Fresh H v → Q v H'
theorem zrd1d {K : PySem.W.Frag} {CH CX : Addr} {vs : List V} {H : Hp} {Q : VK} {E : XK} (h : zsp1d CH CX vs H Q E) :
  zR1d K (zsp12 CH CX) (zsp1f CH CX) CX { nx := fun _ H' => Q .non H', rt := Q } (start ["count", "against", "deeds", "hall"] vs) H := by
 obtain ⟨c, ag, ds, ⟨a, b, rfl, hc1, hc2, ra, hal, rb, hdl, dok, rm⟩, k⟩ := h
 obtain ⟨b', xs, e, gb, _, rs⟩ := rb.lst_inv
 cases e
 have hxl : xs.length = ds.length := by rw [rs.length, List.length_map]
 unfold zR1d
 walk_at "go"
 refine st_make ?_
 walk_at "go"
 intro q dx hq hdx nd
 obtain ⟨s1, ob1⟩ := made_hall (CX := CX) hq hdx nd
 generalize upd (upd H dx (.own q)) q (.ins CX dx []) = H1 at *
 refine ⟨q, dx, a, c, ag, rfl, ob1, hc1, hc2, ra.same s1, hal, fun H2 R2 ps I2 c2 f2 => ⟨rfl, ?_⟩⟩
 have s2 : Same H H2 := fun x o e => c2.keep x o (s1 x o e) (by simpa using ne_of_none e hq)
 have fr2 : ∀ x ∈ R2, H x = none := fun x hx => (f2 x hx).elim (fun z => z ▸ hq) fun z => s1.free z
 have gb2 := gb.same s2
 walk_at "go"
 intro p hp
 have hp0 : H p = none := s2.free hp
 refine lc_list (K := K) (a := b) (xs := xs) (fun i ys σ H' => ∃ v R', σ = [v, some (.ref q)] ∧ HallAt CH CX H' q ps ((newHall c ag).run (ds.take i)).1 R' ((newHall c ag).costAll (ds.take i)) ∧ Same H H' ∧ (∀ x ∈ R', H x = none) ∧ ¬ p ∈ R' ∧ Reps H' (p :: R') ys (((newHall c ag).run (ds.take i)).2.map Ans.D))
  ⟨none, R2, rfl, I2.same (Same.new hp), s2.trans (Same.new hp), fr2, notin_new I2.trk hp, .nil⟩ ?_ ?_ ?_
 ·rintro i ys σ H' hi hp' ⟨v, R', rfl, J, s, f, np, rr⟩
  exact sqLr (gb.same s)
 ·rintro i x ys σ H3 hx hp3 ⟨v, R', rfl, J, s, f, np, rr⟩
  obtain ⟨d, t, hd, rfl, rt⟩ := deeds_at (rs.same s) hx
  have hi : i < ds.length := (List.getElem?_eq_some_iff.mp hd).1
  obtain ⟨dx3, ph3, pl3, pu3, Rs3, ys3, J0⟩ := id J
  have ob3 := J0.ob
  walk_at "go"
  rw [if_pos rfl]
  walk_at "go"
  refine ⟨q, t, ps, _, R', _, c, d, rfl, rt, J, (newHall_ok ag hc1 hc2).run _, dok d (List.mem_of_getElem? hd), ?_, fun w H4 R4 M4 rw4 fw4 => ?_⟩
  ·have := roomy_at ds (newHall c ag) 0 rm i d hd
   rwa [Nat.zero_add] at this
  ·obtain ⟨s4, f4⟩ := own_same s f M4
   have gp4 := M4.chg.keep _ _ hp3 np
   have np4 : ¬ p ∈ R4 := fun y => (M4.gr _ y).elim np fun z => by rw [hp3] at z; cases z
   have hyl : ys.length = i := by rw [rr.length, List.length_map, run_len, List.length_take]; omega
   have cq : Chg [p] H4 (upd H4 p (.lst (ys ++ [w]))) := .set (by rw [gp4]; exact True.intro) (by simp)
   have fwp : ∀ l, w = .ref l → l ≠ p := fun l e z => by
    have := fw4 l e
    rw [z, hp3] at this; cases this
   refine ⟨ys, gp4, len_small (by omega), ys ++ [w], upd_same, _, R4, rfl, ?_, s4.put hp0, f4, np4, ?_⟩
   ·rw [take_snoc hd, run_snoc, cost_snoc]
    exact M4.at_.chg cq fun b hb y => by rw [List.mem_singleton.mp y] at hb; exact np4 hb
   ·rw [take_snoc hd, run_snoc, List.map_append]
    have gr2 : Grow (p :: R') H3 (p :: R4) := fun b hb => by
     rcases List.mem_cons.mp hb with z | z
     ·exact .inl (by simp [z])
     ·exact (M4.gr b z).imp (fun y => List.mem_cons_of_mem _ y) id
    have r1 := ((rr.grow gr2).chg (M4.chg.mono fun b hb => List.mem_cons_of_mem _ (M4.sb b hb))).chg (cq.mono fun b hb => by rw [List.mem_singleton.mp hb]; simp)
    exact r1.snoc ((ans_out rw4 fwp).chg (cq.mono fun b hb => by rw [List.mem_singleton.mp hb]; simp))
 ·rintro ys σ H3 hp3 ⟨v, R', rfl, J, s, f, np, rr⟩
  rw [hxl, List.take_length] at rr
  exact k _ _ s (.lst (.inl hp3) (by simp) rr.plain) (by rintro _ ⟨⟩; exact hp0)
def booksD (S : HallS) : PyData := .list (S.hs.map fun h => bookD h.book)
def zsp0p (CH CX : Addr) : Sp := fun vs H Q _ => ∃ c ag ds, Given H vs c ag ds [] ∧ ∀ v H', Same H H' → Rep H' [] v (booksD ((newHall c ag).run ds).1) → Fresh H v → Q v H'
theorem zrd0p {K : PySem.W.Frag} {CH CX : Addr} {vs : List V} {H : Hp} {Q : VK} {E : XK} (T : HallTxt K CX) (TH : HouseTxt K CH) (h : zsp0p CH CX vs H Q E) :
  zR0p K (zsp0z CH CX) { nx := fun _ H' => Q .non H', rt := Q } (start ["count", "against", "deeds"] vs) H := by
 obtain ⟨c, ag, ds, G, k⟩ := h
 obtain ⟨a, b, rfl, hc1, hc2, _⟩ := id G
 obtain ⟨cl, f1, f2, f3⟩ := T
 obtain ⟨clh, g1, g2, g3, g4, g5, g6, g7, g8⟩ := TH
 have ok := (newHall_ok ag hc1 hc2).run ds
 unfold zR0p
 walk_at "go"
 refine ⟨c, ag, ds, G, fun q H1 R1 ps I s f => ?_⟩
 generalize ((newHall c ag).run ds).1 = S at *
 obtain ⟨dx, ph, pl, pu, Rs, ys, I0⟩ := id I
 have ob := I0.ob
 have oh := I0.oh
 have hl := ok.len
 walk_at "go"
 intro p hp
 refine lc_list (K := K) (a := ph) (xs := (List.range S.hs.length).map fun i => V.ref (ps i)) (fun i zs σ H' => ∃ v, σ = [v] ∧ H' = upd H1 p (.lst zs) ∧ Reps H1 [] zs ((S.hs.take i).map fun h => bookD h.book)) ⟨none, rfl, rfl, .nil⟩ ?_ ?_ ?_
 ·rintro i zs σ H' hi hp' ⟨v, rfl, rfl, rr⟩
  exact sqL (upd_at (ne_new hp oh) oh)
 ·rintro i x zs σ H2 hx hp2 ⟨v, rfl, rfl, rr⟩
  have hi : i < S.hs.length := by have := (List.getElem?_eq_some_iff.mp hx).1; rwa [List.length_map, List.length_range] at this
  rw [List.getElem?_map, List.getElem?_range hi] at hx
  cases hx
  have hh : S.hs[i]? = some S.hs[i] := List.getElem?_eq_getElem hi
  obtain ⟨dx1, po1, pa1, pk1, pc1, xs1, z1, J⟩ := id (I0.hs i _ hh)
  have obh : upd H1 p (.lst zs) (ps i) = _ := upd_at (ne_new hp J.ob) J.ob
  walk_at "go"
  rw [if_pos rfl]
  walk_at "go"
  have hzl : zs.length = i := by rw [rr.length, List.length_map, List.length_take]; omega
  have hc20 := ok.c2
  refine ⟨zs, upd_same, len_small (by omega), zs ++ [.ref pk1], upd_same, _, rfl, upd_upd, ?_⟩
  rw [take_snoc hh, List.map_append]
  exact rr.snoc J.rep
 ·rintro zs σ H2 hp2 ⟨v, rfl, rfl, rr⟩
  rw [List.length_map, List.length_range, List.take_length] at rr
  exact k _ _ (s.trans (Same.new hp)) (.lst (.inl upd_same) (by simp) (rr.same (Same.new hp))) (by rintro _ ⟨⟩; exact s.free hp)
def zsp0g (CH CX : Addr) : Sp := fun vs H Q _ => ∃ c ag ds, Given H vs c ag ds [] ∧ ∀ v H', Same H H' → Rep H' [] v (lettersD ((newHall c ag).run ds).1.ls) → Fresh H v → Q v H'
theorem zrd0g {K : PySem.W.Frag} {CH CX : Addr} {vs : List V} {H : Hp} {Q : VK} {E : XK} (T : HallTxt K CX) (h : zsp0g CH CX vs H Q E) :
  zR0g K (zsp0z CH CX) { nx := fun _ H' => Q .non H', rt := Q } (start ["count", "against", "deeds"] vs) H := by
 obtain ⟨c, ag, ds, G, k⟩ := h
 obtain ⟨a, b, rfl, hc1, hc2, _⟩ := id G
 obtain ⟨cl, f1, f2, f3⟩ := T
 unfold zR0g
 walk_at "go"
 refine ⟨c, ag, ds, G, fun q H1 R1 ps I s f => ?_⟩
 obtain ⟨dx, ph, pl, pu, Rs, ys, I0⟩ := id I
 have ob := I0.ob
 walk_at "go"
 exact k _ _ s (.lst (.inl I0.ol) (by simp) I0.ls) (by rintro _ ⟨⟩; exact f _ I0.m3)
structure WI1 (c L : Nat) (A : Nat → Prop) (v : Nat → List Str) : Prop where
 sl : v L = [] ∨ v L = [("no" : Str)] ∨ v L = [("open" : Str)] ∨ v L = [("open" : Str), "bound"] ∨ v L = [("open" : Str), "off"]
 so : ∀ i, i < c → i ≠ L → v i = [] ∨ v i = [("yes" : Str)] ∨ v i = [("no" : Str)] ∨ v i = [("off" : Str)] ∨ v i = [("yes" : Str), "bound"] ∨ v i = [("yes" : Str), "off"]
 ag : ∀ i, i < c → A i → ¬ ("open" : Str) ∈ v i ∧ ¬ ("yes" : Str) ∈ v i
 ys : ∀ i, i < c → i ≠ L → ("yes" : Str) ∈ v i → ("open" : Str) ∈ v L
 bd : ∀ i, i < c → ("bound" : Str) ∈ v i → v L = [("open" : Str), "bound"] ∧ ∀ j, j < c → j ≠ L → v j = [("yes" : Str)] ∨ v j = [("yes" : Str), "bound"]
 of : ∀ i, i < c → (("off" : Str) ∈ v i ∨ ("no" : Str) ∈ v i) → v L = [("no" : Str)] ∨ v L = [("open" : Str), "off"] ∨ ∃ k, k < c ∧ k ≠ L ∧ (v k = [("no" : Str)] ∨ v k = [("off" : Str)])
def Of (ws : List Str) : Prop := ("off" : Str) ∈ ws ∨ ("no" : Str) ∈ ws
inductive Step (c L : Nat) (A : Nat → Prop) (v : Nat → List Str) (i : Nat) : Str → Prop
 | opn : i = L → v i = [] → ¬ A i → Step c L A v i "open"
 | noL : i = L → v i = [] → Step c L A v i "no"
 | yes : i ≠ L → v i = [] → ¬ A i → ("open" : Str) ∈ v L → Step c L A v i "yes"
 | no : i ≠ L → v i = [] → Step c L A v i "no"
 | offL : i = L → v i = [("open" : Str)] → Step c L A v i "off"
 | bndL : i = L → v i = [("open" : Str)] → (∀ j, j < c → j ≠ L → ("yes" : Str) ∈ v j) → Step c L A v i "bound"
 | bnd : i ≠ L → v i = [("yes" : Str)] → (∃ j, j < c ∧ ("bound" : Str) ∈ v j) → Step c L A v i "bound"
 | off : i ≠ L → (v i = [] ∨ v i = [("yes" : Str)]) → (∃ j, j < c ∧ Of (v j)) → Step c L A v i "off"
def app1 (v : Nat → List Str) (i : Nat) (x : Str) : Nat → List Str := fun j => if j = i then v i ++ [x] else v j
theorem app1_self (v : Nat → List Str) (i : Nat) (x : Str) : app1 v i x i = v i ++ [x] := if_pos rfl
theorem app1_ne {v : Nat → List Str} {i j : Nat} {x : Str} (h : j ≠ i) : app1 v i x j = v j := if_neg h
theorem mem_app1 {v : Nat → List Str} {i j : Nat} {x y : Str} (h : y ∈ v j) : y ∈ app1 v i x j := by
 unfold app1
 split
 ·rename_i e; subst e; exact List.mem_append_left _ h
 ·exact h
theorem of_app1 {v : Nat → List Str} {i j : Nat} {x y : Str} (h : y ∈ app1 v i x j) : y ∈ v j ∨ (j = i ∧ y = x) := by
 unfold app1 at h
 split at h
 ·rename_i e
  subst e
  rcases List.mem_append.mp h with z | z
  ·exact .inl z
  ·exact .inr ⟨rfl, List.mem_singleton.mp z⟩
 ·exact .inl h
theorem WI1.nobound {c L : Nat} {A : Nat → Prop} {v : Nat → List Str} (I : WI1 c L A v) {i j : Nat} (hi : i < c) (hb : ("bound" : Str) ∈ v i) (hj : j < c) (hL : L < c) : ¬ Of (v j) := by
 obtain ⟨h1, h2⟩ := I.bd i hi hb
 intro ho
 by_cases e : j = L
 ·subst e; rw [h1] at ho; revert ho; unfold Of; decide
 ·rcases h2 j hj e with z | z <;> (rw [z] at ho; revert ho; unfold Of; decide)
theorem WI1.step {c L : Nat} {A : Nat → Prop} {v : Nat → List Str} (I : WI1 c L A v) {i : Nat} {x : Str} (hi : i < c) (hL : L < c) (s : Step c L A v i x) : WI1 c L A (app1 v i x) := by
 have old : ∀ {j y}, y ∈ v j → y ∈ app1 v i x j := fun h => mem_app1 h
 cases s with
 | opn e ev na =>
  subst e
  have nb : ∀ j, j < c → ¬ ("bound" : Str) ∈ v j := fun j hj z => by
   have := (I.bd j hj z).1; rw [ev] at this; cases this
  refine ⟨?_, ?_, ?_, ?_, ?_, ?_⟩
  ·rw [app1_self, ev]; exact .inr (.inr (.inl rfl))
  ·intro j hj n; rw [app1_ne n]; exact I.so j hj n
  ·intro j hj a
   by_cases n : j = i
   ·subst n; exact absurd a na
   ·rw [app1_ne n]; exact I.ag j hj a
  ·intro j hj n z; rw [app1_self]; exact List.mem_append_right _ (by simp)
  ·intro j hj z
   rcases of_app1 z with z | ⟨_, z⟩
   ·exact absurd z (nb j hj)
   ·exact absurd z (by decide)
  ·intro j hj z
   have z' : ("off" : Str) ∈ v j ∨ ("no" : Str) ∈ v j := by
    rcases z with z | z
    ·rcases of_app1 z with z | ⟨_, z⟩
     ·exact .inl z
     ·exact absurd z (by decide)
    ·rcases of_app1 z with z | ⟨_, z⟩
     ·exact .inr z
     ·exact absurd z (by decide)
   rcases I.of j hj z' with h | h | ⟨k, hk, nk, h⟩
   ·rw [ev] at h; cases h
   ·rw [ev] at h; cases h
   ·exact .inr (.inr ⟨k, hk, nk, by rw [app1_ne nk]; exact h⟩)
 | noL e ev =>
  subst e
  have nb : ∀ j, j < c → ¬ ("bound" : Str) ∈ v j := fun j hj z => by
   have := (I.bd j hj z).1; rw [ev] at this; cases this
  refine ⟨?_, ?_, ?_, ?_, ?_, ?_⟩
  ·rw [app1_self, ev]; exact .inr (.inl rfl)
  ·intro j hj n; rw [app1_ne n]; exact I.so j hj n
  ·intro j hj a
   by_cases n : j = i
   ·subst n; rw [app1_self, ev]; decide
   ·rw [app1_ne n]; exact I.ag j hj a
  ·intro j hj n z
   rw [app1_ne n] at z
   have := I.ys j hj n z; rw [ev] at this; cases this
  ·intro j hj z
   rcases of_app1 z with z | ⟨_, z⟩
   ·exact absurd z (nb j hj)
   ·exact absurd z (by decide)
  ·intro j hj z; rw [app1_self, ev]; exact .inl rfl
 | yes e ev na ho =>
  have nb : ∀ j, j < c → ¬ ("bound" : Str) ∈ v j := fun j hj z => by
   rcases (I.bd j hj z).2 i hi e with h | h <;> (rw [ev] at h; cases h)
  refine ⟨?_, ?_, ?_, ?_, ?_, ?_⟩
  ·rw [app1_ne (Ne.symm e)]; exact I.sl
  ·intro j hj n
   by_cases m : j = i
   ·subst m; rw [app1_self, ev]; exact .inr (.inl rfl)
   ·rw [app1_ne m]; exact I.so j hj n
  ·intro j hj a
   by_cases n : j = i
   ·subst n; exact absurd a na
   ·rw [app1_ne n]; exact I.ag j hj a
  ·intro j hj n z; exact old ho
  ·intro j hj z
   rcases of_app1 z with z | ⟨_, z⟩
   ·exact absurd z (nb j hj)
   ·exact absurd z (by decide)
  ·intro j hj z
   have z' : ("off" : Str) ∈ v j ∨ ("no" : Str) ∈ v j := by
    rcases z with z | z
    ·rcases of_app1 z with z | ⟨_, z⟩
     ·exact .inl z
     ·exact absurd z (by decide)
    ·rcases of_app1 z with z | ⟨_, z⟩
     ·exact .inr z
     ·exact absurd z (by decide)
   rw [app1_ne (Ne.symm e)]
   rcases I.of j hj z' with h | h | ⟨k, hk, nk, h⟩
   ·exact .inl h
   ·exact .inr (.inl h)
   ·refine .inr (.inr ⟨k, hk, nk, ?_⟩)
    rw [app1_ne (by rintro rfl; rw [ev] at h; rcases h with h | h <;> cases h)]; exact h
 | no e ev =>
  have nb : ∀ j, j < c → ¬ ("bound" : Str) ∈ v j := fun j hj z => by
   rcases (I.bd j hj z).2 i hi e with h | h <;> (rw [ev] at h; cases h)
  refine ⟨?_, ?_, ?_, ?_, ?_, ?_⟩
  ·rw [app1_ne (Ne.symm e)]; exact I.sl
  ·intro j hj n
   by_cases m : j = i
   ·subst m; rw [app1_self, ev]; exact .inr (.inr (.inl rfl))
   ·rw [app1_ne m]; exact I.so j hj n
  ·intro j hj a
   by_cases n : j = i
   ·subst n; rw [app1_self, ev]; decide
   ·rw [app1_ne n]; exact I.ag j hj a
  ·intro j hj n z
   rcases of_app1 z with z | ⟨_, z⟩
   ·exact old (I.ys j hj n z)
   ·exact absurd z (by decide)
  ·intro j hj z
   rcases of_app1 z with z | ⟨_, z⟩
   ·exact absurd z (nb j hj)
   ·exact absurd z (by decide)
  ·intro j hj z; exact .inr (.inr ⟨i, hi, e, by rw [app1_self, ev]; exact .inl rfl⟩)
 | offL e ev =>
  subst e
  have nb : ∀ j, j < c → ¬ ("bound" : Str) ∈ v j := fun j hj z => by
   have := (I.bd j hj z).1; rw [ev] at this; cases this
  refine ⟨?_, ?_, ?_, ?_, ?_, ?_⟩
  ·rw [app1_self, ev]; exact .inr (.inr (.inr (.inr rfl)))
  ·intro j hj n; rw [app1_ne n]; exact I.so j hj n
  ·intro j hj a
   by_cases n : j = i
   ·subst n
    have := (I.ag j hj a).1; rw [ev] at this; exact absurd (by decide) this
   ·rw [app1_ne n]; exact I.ag j hj a
  ·intro j hj n z
   rw [app1_self, ev]; decide
  ·intro j hj z
   rcases of_app1 z with z | ⟨_, z⟩
   ·exact absurd z (nb j hj)
   ·exact absurd z (by decide)
  ·intro j hj z; rw [app1_self, ev]; exact .inr (.inl rfl)
 | bndL e ev ay =>
  subst e
  have nof : ∀ j, j < c → ¬ Of (v j) := fun j hj z => by
   rcases I.of j hj z with h | h | ⟨k, hk, nk, h⟩
   ·rw [ev] at h; cases h
   ·rw [ev] at h; cases h
   ·have := ay k hk nk
    rcases h with h | h <;> (rw [h] at this; revert this; decide)
  have hy : ∀ j, j < c → j ≠ i → v j = [("yes" : Str)] ∨ v j = [("yes" : Str), "bound"] := fun j hj n => by
   have h1 := ay j hj n
   have h2 := nof j hj
   rcases I.so j hj n with h | h | h | h | h | h
   ·rw [h] at h1; cases h1
   ·exact .inl h
   ·rw [h] at h1; exact absurd h1 (by decide)
   ·rw [h] at h1; exact absurd h1 (by decide)
   ·exact .inr h
   ·rw [h] at h2; exact absurd (by unfold Of; decide) h2
  refine ⟨?_, ?_, ?_, ?_, ?_, ?_⟩
  ·rw [app1_self, ev]; exact .inr (.inr (.inr (.inl rfl)))
  ·intro j hj n; rw [app1_ne n]; exact I.so j hj n
  ·intro j hj a
   by_cases n : j = i
   ·subst n
    have := (I.ag j hj a).1; rw [ev] at this; exact absurd (by decide) this
   ·rw [app1_ne n]; exact I.ag j hj a
  ·intro j hj n z
   rw [app1_self, ev]; decide
  ·intro j hj z
   refine ⟨by rw [app1_self, ev]; rfl, fun k hk n => ?_⟩
   rw [app1_ne n]; exact hy k hk n
  ·intro j hj z
   have z' : Of (v j) := by
    rcases z with z | z
    ·rcases of_app1 z with z | ⟨_, z⟩
     ·exact .inl z
     ·exact absurd z (by decide)
    ·rcases of_app1 z with z | ⟨_, z⟩
     ·exact .inr z
     ·exact absurd z (by decide)
   exact absurd z' (nof j hj)
 | bnd e ev hb =>
  obtain ⟨k, hk, hb⟩ := hb
  obtain ⟨bL, bO⟩ := I.bd k hk hb
  have nof : ∀ j, j < c → ¬ Of (v j) := fun j hj => I.nobound hk hb hj hL
  refine ⟨?_, ?_, ?_, ?_, ?_, ?_⟩
  ·rw [app1_ne (Ne.symm e)]; exact I.sl
  ·intro j hj n
   by_cases m : j = i
   ·subst m; rw [app1_self, ev]; exact .inr (.inr (.inr (.inr (.inl rfl))))
   ·rw [app1_ne m]; exact I.so j hj n
  ·intro j hj a
   by_cases n : j = i
   ·subst n
    have := (I.ag j hj a).2; rw [ev] at this; exact absurd (by decide) this
   ·rw [app1_ne n]; exact I.ag j hj a
  ·intro j hj n z
   rw [app1_ne (Ne.symm e), bL]; decide
  ·intro j hj z
   refine ⟨by rw [app1_ne (Ne.symm e)]; exact bL, fun l hl n => ?_⟩
   by_cases m : l = i
   ·subst m; rw [app1_self, ev]; exact .inr rfl
   ·rw [app1_ne m]; exact bO l hl n
  ·intro j hj z
   have z' : Of (v j) := by
    rcases z with z | z
    ·rcases of_app1 z with z | ⟨_, z⟩
     ·exact .inl z
     ·exact absurd z (by decide)
    ·rcases of_app1 z with z | ⟨_, z⟩
     ·exact .inr z
     ·exact absurd z (by decide)
   exact absurd z' (nof j hj)
 | off e ev ho =>
  obtain ⟨k, hk, ho⟩ := ho
  have nb : ∀ j, j < c → ¬ ("bound" : Str) ∈ v j := fun j hj z => I.nobound hj z hk hL ho
  refine ⟨?_, ?_, ?_, ?_, ?_, ?_⟩
  ·rw [app1_ne (Ne.symm e)]; exact I.sl
  ·intro j hj n
   by_cases m : j = i
   ·subst m
    rw [app1_self]
    rcases ev with ev | ev <;> rw [ev]
    ·exact .inr (.inr (.inr (.inl rfl)))
    ·exact .inr (.inr (.inr (.inr (.inr rfl))))
   ·rw [app1_ne m]; exact I.so j hj n
  ·intro j hj a
   by_cases n : j = i
   ·subst n
    rw [app1_self]
    have := I.ag j hj a
    rcases ev with ev | ev <;> rw [ev] at this ⊢
    ·decide
    ·exact absurd (by decide) this.2
   ·rw [app1_ne n]; exact I.ag j hj a
  ·intro j hj n z
   rcases of_app1 z with z | ⟨_, z⟩
   ·exact old (I.ys j hj n z)
   ·exact absurd z (by decide)
  ·intro j hj z
   rcases of_app1 z with z | ⟨_, z⟩
   ·exact absurd z (nb j hj)
   ·exact absurd z (by decide)
  ·intro j hj z
   rw [app1_ne (Ne.symm e)]
   rcases I.of k hk ho with h | h | ⟨m, hm, nm, h⟩
   ·exact .inl h
   ·exact .inr (.inl h)
   ·refine .inr (.inr ?_)
    by_cases z : m = i
    ·subst z
     rcases ev with ev | ev <;> (rw [ev] at h; rcases h with h | h <;> cases h)
    ·exact ⟨m, hm, nm, by rw [app1_ne z]; exact h⟩
def ld (c : Nat) (n : Int) : Nat := (n % (c : Int)).toNat
theorem ld_lt {c : Nat} (h : 2 ≤ c) (n : Int) : ld c n < c := by
 have h1 := Int.emod_nonneg n (show (c : Int) ≠ 0 by omega)
 have h2 := Int.emod_lt_of_pos n (show (0 : Int) < c by omega)
 unfold ld; omega
def wOf (S : HallS) (i : Nat) (n : Int) : List Str := (S.hs[i]?).elim [] fun h => wordsOf h.book n
theorem wOf_at {S : HallS} {i : Nat} {h : HS} (hi : S.hs[i]? = some h) (n : Int) : wOf S i n = wordsOf h.book n := by unfold wOf; rw [hi]; rfl
def LI (c : Nat) (w : Nat → Int → List Str) (l : Letter) : Prop :=
 (l.2.2.2 = "ask" ∧ l.1 = ld c l.2.2.1 ∧ l.2.1 ≠ ld c l.2.2.1 ∧ ("open" : Str) ∈ w (ld c l.2.2.1) l.2.2.1) ∨
 (l.2.2.2 = "yes" ∧ l.2.1 = ld c l.2.2.1 ∧ l.1 ≠ ld c l.2.2.1 ∧ ("yes" : Str) ∈ w l.1.toNat l.2.2.1) ∨
 (l.2.2.2 = "no" ∧ l.2.1 = ld c l.2.2.1 ∧ l.1 ≠ ld c l.2.2.1 ∧ Of (w l.1.toNat l.2.2.1) ∧ ("open" : Str) ∈ w (ld c l.2.2.1) l.2.2.1) ∨
 (l.2.2.2 = "query" ∧ l.1 ≠ ld c l.2.2.1 ∧ ("yes" : Str) ∈ w l.1.toNat l.2.2.1 ∧ l.2.1 ≠ l.1) ∨
 (l.2.2.2 = "bound" ∧ l.2.1 ≠ ld c l.2.2.1 ∧ ("bound" : Str) ∈ w l.1.toNat l.2.2.1 ∧ l.2.1 ≠ l.1) ∨
 (l.2.2.2 = "off" ∧ l.2.1 ≠ ld c l.2.2.1 ∧ Of (w l.1.toNat l.2.2.1) ∧ l.2.1 ≠ l.1)
def Ext (w w' : Nat → Int → List Str) : Prop := ∀ i n x, x ∈ w i n → x ∈ w' i n
theorem Of.ext {w w' : Nat → Int → List Str} (e : Ext w w') {i : Nat} {n : Int} (h : Of (w i n)) : Of (w' i n) := h.imp (e i n _) (e i n _)
theorem LI.ext {c : Nat} {w w' : Nat → Int → List Str} (e : Ext w w') {l : Letter} (h : LI c w l) : LI c w' l := by
 rcases h with ⟨a, b, d, f⟩ | ⟨a, b, d, f⟩ | ⟨a, b, d, f, g⟩ | ⟨a, b, d, f⟩ | ⟨a, b, d, f⟩ | ⟨a, b, d, f⟩
 ·exact .inl ⟨a, b, d, e _ _ _ f⟩
 ·exact .inr (.inl ⟨a, b, d, e _ _ _ f⟩)
 ·exact .inr (.inr (.inl ⟨a, b, d, f.ext e, e _ _ _ g⟩))
 ·exact .inr (.inr (.inr (.inl ⟨a, b, e _ _ _ d, f⟩)))
 ·exact .inr (.inr (.inr (.inr (.inl ⟨a, b, e _ _ _ d, f⟩))))
 ·exact .inr (.inr (.inr (.inr (.inr ⟨a, b, d.ext e, f⟩))))
def CI (c : Nat) (w : Nat → Int → List Str) (i : Nat) (n : Int) (gs : List Int) : Prop := gs.Nodup ∧ ∀ g ∈ gs, ∃ j : Nat, g = j ∧ j < c ∧ j ≠ i ∧ ("yes" : Str) ∈ w j n
theorem CI.ext {c : Nat} {w w' : Nat → Int → List Str} (e : Ext w w') {i : Nat} {n : Int} {gs : List Int} (h : CI c w i n gs) : CI c w' i n gs := ⟨h.1, fun g hg => by obtain ⟨j, a, b, d, f⟩ := h.2 g hg; exact ⟨j, a, b, d, e _ _ _ f⟩⟩
structure Inv (c : Nat) (ag : List (Int × Int)) (Bs : Int → Prop) (S : HallS) : Prop where
 ok : HallOk c S
 agn : ∀ (i : Nat) (h : HS), S.hs[i]? = some h → h.agn = agOf ag i
 wi : ∀ n, WI1 c (ld c n) (fun i => n ∈ agOf ag i) (fun i => wOf S i n)
 cn : ∀ (i : Nat) (h : HS) (n : Int), S.hs[i]? = some h → i = ld c n → CI c (wOf S) i n (h.cnt n)
 li : ∀ l ∈ S.ls, LI c (wOf S) l
 ya : ∀ (i : Nat) (n : Int), i < c → i ≠ ld c n → ("yes" : Str) ∈ wOf S i n → (((ld c n : Nat) : Int), (i : Int), n, ("ask" : Str)) ∈ S.ls
 ba : ∀ (i : Nat) (n : Int), i < c → i ≠ ld c n → ("bound" : Str) ∈ wOf S i n → ∃ g : Int, (g, (i : Int), n, ("bound" : Str)) ∈ S.ls
 bs : ∀ (i : Nat) (n : Int), wOf S i n ≠ [] → Bs n
theorem wOf_put {S : HallS} {i : Nat} {h g : HS} (hi : S.hs[i]? = some h) (j : Nat) (n : Int) : wOf (S.put i g) j n = if j = i then wordsOf g.book n else wOf S j n := by
 unfold wOf
 show ((S.hs.set i g)[j]?).elim _ _ = _
 by_cases e : j = i
 ·subst e
  rw [List.getElem?_set_self (List.getElem?_eq_some_iff.mp hi).1, if_pos rfl]; rfl
 ·rw [List.getElem?_set_ne (Ne.symm e), if_neg e]
theorem wOf_same {S : HallS} {i : Nat} {h g : HS} (hi : S.hs[i]? = some h) (hb : g.book = h.book) : wOf (S.put i g) = wOf S := by
 funext j n
 rw [wOf_put hi]
 split
 ·rename_i e; subst e; rw [hb, wOf_at hi]
 ·rfl
theorem wOf_line {S : HallS} {i : Nat} {h g : HS} {x : Str} {m : Int} (hi : S.hs[i]? = some h) (hb : g.book = h.book ++ [(x, m)]) (n : Int) : (fun j => wOf (S.put i g) j n) = if n = m then app1 (fun j => wOf S j n) i x else fun j => wOf S j n := by
 funext j
 rw [wOf_put hi]
 by_cases e : j = i
 ·subst e
  rw [if_pos rfl, hb, wordsOf_snoc]
  by_cases z : n = m
  ·subst z; rw [if_pos rfl, if_pos rfl, app1_self, wOf_at hi]
  ·rw [if_neg (fun y => z y.symm), if_neg z, wOf_at hi]
 ·rw [if_neg e]
  by_cases z : n = m
  ·rw [if_pos z, app1_ne e]
  ·rw [if_neg z]
theorem ext_line {S : HallS} {i : Nat} {h g : HS} {x : Str} {m : Int} (hi : S.hs[i]? = some h) (hb : g.book = h.book ++ [(x, m)]) : Ext (wOf S) (wOf (S.put i g)) := fun j n y hy => by
 have := congrFun (wOf_line hi hb n) j
 rw [this]
 split
 ·exact mem_app1 (v := fun j => wOf S j n) hy
 ·exact hy
theorem Inv.put0 {c : Nat} {ag : List (Int × Int)} {Bs : Int → Prop} {S : HallS} (I : Inv c ag Bs S) {i : Nat} {h g : HS} (hi : S.hs[i]? = some h) (hn : g.num = h.num) (ho : g.oth = h.oth) (ha : g.agn = h.agn) (hb : g.book = h.book)
  (hc : ∀ n, i = ld c n → CI c (wOf S) i n (g.cnt n)) : Inv c ag Bs (S.put i g) := by
 have ew : wOf (S.put i g) = wOf S := wOf_same hi hb
 refine ⟨I.ok.put hi hn ho, ?_, ?_, ?_, ?_, ?_, ?_, ?_⟩
 ·intro j x hx
  change (S.hs.set i g)[j]? = some x at hx
  by_cases e : i = j
  ·subst e
   rw [List.getElem?_set_self (List.getElem?_eq_some_iff.mp hi).1] at hx
   cases hx
   rw [ha]; exact I.agn i h hi
  ·rw [List.getElem?_set_ne e] at hx; exact I.agn j x hx
 ·rw [ew]; exact I.wi
 ·intro j x n hx e
  rw [ew]
  change (S.hs.set i g)[j]? = some x at hx
  by_cases z : i = j
  ·subst z
   rw [List.getElem?_set_self (List.getElem?_eq_some_iff.mp hi).1] at hx
   cases hx
   exact hc n e
  ·rw [List.getElem?_set_ne z] at hx; exact I.cn j x n hx e
 ·rw [ew]; exact I.li
 ·rw [ew]; exact I.ya
 ·rw [ew]; exact I.ba
 ·rw [ew]; exact I.bs
theorem Inv.put1 {c : Nat} {ag : List (Int × Int)} {Bs : Int → Prop} {S : HallS} (I : Inv c ag Bs S) {i : Nat} {h g : HS} {x : Str} {m : Int} (hi : S.hs[i]? = some h) (hn : g.num = h.num) (ho : g.oth = h.oth) (ha : g.agn = h.agn) (hb : g.book = h.book ++ [(x, m)])
  (hc : ∀ n, i = ld c n → CI c (wOf S) i n (g.cnt n)) (st : Step c (ld c m) (fun i => m ∈ agOf ag i) (fun i => wOf S i m) i x) (hB : Bs m)
  (hy : x = "yes" → i ≠ ld c m → (((ld c m : Nat) : Int), (i : Int), m, ("ask" : Str)) ∈ S.ls) (hbd : x = "bound" → i ≠ ld c m → ∃ g : Int, (g, (i : Int), m, ("bound" : Str)) ∈ S.ls) : Inv c ag Bs (S.put i g) := by
 have il := I.ok.il hi
 have ex := ext_line hi hb
 refine ⟨I.ok.put hi hn ho, ?_, ?_, ?_, ?_, ?_, ?_, ?_⟩
 ·intro j y hx
  change (S.hs.set i g)[j]? = some y at hx
  by_cases e : i = j
  ·subst e
   rw [List.getElem?_set_self (List.getElem?_eq_some_iff.mp hi).1] at hx
   cases hx
   rw [ha]; exact I.agn i h hi
  ·rw [List.getElem?_set_ne e] at hx; exact I.agn j y hx
 ·intro n
  rw [wOf_line hi hb n]
  split
  ·rename_i e; subst e; exact (I.wi n).step il (ld_lt I.ok.c1 n) st
  ·exact I.wi n
 ·intro j y n hx e
  change (S.hs.set i g)[j]? = some y at hx
  by_cases z : i = j
  ·subst z
   rw [List.getElem?_set_self (List.getElem?_eq_some_iff.mp hi).1] at hx
   cases hx
   exact (hc n e).ext ex
  ·rw [List.getElem?_set_ne z] at hx; exact (I.cn j y n hx e).ext ex
 ·intro l hl; exact (I.li l hl).ext ex
 ·intro j n hj e z
  have := congrFun (wOf_line hi hb n) j
  rw [this] at z
  split at z
  ·rename_i em
   subst em
   rcases of_app1 z with z | ⟨e1, e2⟩
   ·exact I.ya j n hj e z
   ·subst e1; exact hy e2.symm e
  ·exact I.ya j n hj e z
 ·intro j n hj e z
  have := congrFun (wOf_line hi hb n) j
  rw [this] at z
  split at z
  ·rename_i em
   subst em
   rcases of_app1 z with z | ⟨e1, e2⟩
   ·exact I.ba j n hj e z
   ·subst e1; exact hbd e2.symm e
  ·exact I.ba j n hj e z
 ·intro j n z
  by_cases em : n = m
  ·subst em; exact hB
  ·have := congrFun (wOf_line hi hb n) j
   rw [this, if_neg em] at z
   exact I.bs j n z
theorem Inv.send {c : Nat} {ag : List (Int × Int)} {Bs : Int → Prop} {S : HallS} (I : Inv c ag Bs S) {sent : List Letter} (h : ∀ l ∈ sent, LetOk c l ∧ LI c (wOf S) l) : Inv c ag Bs (S.send sent) :=
 ⟨I.ok.send fun l hl => (h l hl).1, I.agn, I.wi, I.cn, fun l hl => (List.mem_append.mp hl).elim (I.li l) fun z => (h l z).2, fun i n hi e z => List.mem_append_left _ (I.ya i n hi e z), fun i n hi e z => by obtain ⟨g, hg⟩ := I.ba i n hi e z; exact ⟨g, List.mem_append_left _ hg⟩, I.bs⟩
theorem Inv.halt {c : Nat} {ag : List (Int × Int)} {Bs : Int → Prop} {S : HallS} (I : Inv c ag Bs S) {i : Nat} {h : HS} (hi : S.hs[i]? = some h) : Inv c ag Bs (S.put i h.stop) :=
 I.put0 hi rfl rfl rfl rfl fun n _ => ⟨List.nodup_nil, fun g hg => by cases hg⟩
theorem Inv.post {c : Nat} {ag : List (Int × Int)} {Bs : Int → Prop} {S : HallS} {i : Nat} {h : HS} {r : HS × List Letter} {st : Bool} (hi : S.hs[i]? = some h) (I : Inv c ag Bs (S.put i r.1)) (hl : ∀ l ∈ r.2, LetOk c l ∧ LI c (wOf (S.put i r.1)) l) : Inv c ag Bs (S.post i r st) := by
 unfold HallS.post
 cases st with
 | true => exact I.send hl
 | false =>
  rw [if_neg (by decide)]
  have := I.halt (put_get (g := r.1) hi)
  rw [put_put] at this
  exact this
theorem Inv.trim {c : Nat} {ag : List (Int × Int)} {Bs : Int → Prop} {S : HallS} (I : Inv c ag Bs S) : Inv c ag Bs S.trim := ⟨I.ok.trim, I.agn, I.wi, I.cn, I.li, I.ya, I.ba, I.bs⟩
theorem nodup_le : ∀ (l m : List Int), l.Nodup → (∀ x ∈ l, x ∈ m) → l.length ≤ m.length
 | [], m, _, _ => Nat.zero_le _
 | x :: r, m, hn, hs => by
  have hx := hs x (by simp)
  rw [List.nodup_cons] at hn
  have h1 := nodup_le r (m.erase x) hn.2 fun y hy => (List.mem_erase_of_ne (by rintro rfl; exact hn.1 hy)).mpr (hs y (List.mem_cons_of_mem _ hy))
  rw [List.length_erase_of_mem hx] at h1
  have h2 := List.length_pos_of_mem hx
  rw [List.length_cons]; omega
theorem in_others {i c j : Nat} (hj : j < c) (n : j ≠ i) : (j : Int) ∈ othersOf (i : Int) c := by
 unfold othersOf
 rw [List.mem_filter, List.mem_map]
 refine ⟨⟨j, List.mem_range.mpr hj, rfl⟩, ?_⟩
 simp; omega
theorem all_in {c i : Nat} {gs : List Int} (hn : gs.Nodup) (hs : ∀ g ∈ gs, ∃ j : Nat, g = j ∧ j < c ∧ j ≠ i) (hl : (othersOf (i : Int) c).length ≤ gs.length) : ∀ j, j < c → j ≠ i → (j : Int) ∈ gs := by
 intro j hj n
 by_cases m : (j : Int) ∈ gs
 ·exact m
 ·have := nodup_le ((j : Int) :: gs) (othersOf (i : Int) c) (List.nodup_cons.mpr ⟨m, hn⟩) fun x hx => by
   rcases List.mem_cons.mp hx with rfl | z
   ·exact in_others hj n
   ·obtain ⟨k, rfl, hk, nk⟩ := hs x z; exact in_others hk nk
  rw [List.length_cons] at this
  omega
theorem dec_off {b : List Line} {n : Int} (h : decisionIn b n = some ("off" : Str)) : Of (wordsOf b n) := by
 unfold decisionIn at h
 split at h
 ·exact absurd (Option.some.inj h) (by decide)
 ·split at h
  ·rename_i z; exact z
  ·cases h
theorem dec_bound {b : List Line} {n : Int} (h : decisionIn b n = some ("bound" : Str)) : ("bound" : Str) ∈ wordsOf b n := by
 unfold decisionIn at h
 split at h
 ·rename_i z; exact z
 ·split at h
  ·exact absurd (Option.some.inj h) (by decide)
  ·cases h
theorem dec_words_eq {b : List Line} {n : Int} {ws : List Str} (e : wordsOf b n = ws) : decisionIn b n = if ("bound" : Str) ∈ ws then some ("bound" : Str) else if ("off" : Str) ∈ ws ∨ ("no" : Str) ∈ ws then some ("off" : Str) else none := by
 unfold decisionIn; rw [e]
theorem unsure_yes {b : List Line} {n : Int} (e : wordsOf b n = [("yes" : Str)]) : unsure b n = true := by
 unfold unsure voteIn
 rw [dec_words_eq e, e]
 decide
theorem und_lead {c L : Nat} {A : Nat → Prop} {v : Nat → List Str} (I : WI1 c L A v) {b : List Line} {n : Int} (e : wordsOf b n = v L) (h : decisionIn b n = none) : v L = [] ∨ v L = [("open" : Str)] := by
 rcases I.sl with z | z | z | z | z
 ·exact .inl z
 ·rw [dec_words_eq (e.trans z)] at h; exact absurd h (by decide)
 ·exact .inr z
 ·rw [dec_words_eq (e.trans z)] at h; exact absurd h (by decide)
 ·rw [dec_words_eq (e.trans z)] at h; exact absurd h (by decide)
theorem und_other {c L : Nat} {A : Nat → Prop} {v : Nat → List Str} (I : WI1 c L A v) {i : Nat} (hi : i < c) (n' : i ≠ L) {b : List Line} {n : Int} (e : wordsOf b n = v i) (h : decisionIn b n = none) : v i = [] ∨ v i = [("yes" : Str)] := by
 rcases I.so i hi n' with z | z | z | z | z | z
 ·exact .inl z
 ·exact .inr z
 ·rw [dec_words_eq (e.trans z)] at h; exact absurd h (by decide)
 ·rw [dec_words_eq (e.trans z)] at h; exact absurd h (by decide)
 ·rw [dec_words_eq (e.trans z)] at h; exact absurd h (by decide)
 ·rw [dec_words_eq (e.trans z)] at h; exact absurd h (by decide)
theorem addG_nodup {g : Int} {gs : List Int} (h : gs.Nodup) : (addG g gs).Nodup := by
 unfold addG
 split
 ·exact h
 ·rename_i n
  rw [List.nodup_append]
  refine ⟨h, by simp, fun a ha b hb => ?_⟩
  rw [List.mem_singleton.mp hb]
  rintro rfl
  exact n ha
theorem mem_addG {g x : Int} {gs : List Int} (h : x ∈ addG g gs) : x = g ∨ x ∈ gs := by
 unfold addG at h
 split at h
 ·exact .inr h
 ·rcases List.mem_append.mp h with z | z
  ·exact .inr z
  ·exact .inl (List.mem_singleton.mp z)
def Did (c : Nat) (ag : List (Int × Int)) (Bs : Int → Prop) (S : HallS) (i : Nat) (r : HS × List Letter) : Prop := Inv c ag Bs (S.put i r.1) ∧ ∀ x ∈ r.2, LI c (wOf (S.put i r.1)) x
theorem did_nothing {c : Nat} {ag : List (Int × Int)} {Bs : Int → Prop} {S : HallS} (I : Inv c ag Bs S) {i : Nat} {h : HS} (hi : S.hs[i]? = some h) (ls : List Letter) (hl : ∀ x ∈ ls, LI c (wOf S) x) : Did c ag Bs S i (h, ls) := by
 unfold Did
 dsimp only
 rw [put_self hi]
 exact ⟨I, hl⟩
theorem did_wr {c : Nat} {ag : List (Int × Int)} {Bs : Int → Prop} {S : HallS} (I : Inv c ag Bs S) {i : Nat} {h : HS} (hi : S.hs[i]? = some h) {x : Str} {m : Int} (ls : List Letter) (st : Step c (ld c m) (fun i => m ∈ agOf ag i) (fun i => wOf S i m) i x) (hB : Bs m)
  (hy : x = "yes" → i ≠ ld c m → (((ld c m : Nat) : Int), (i : Int), m, ("ask" : Str)) ∈ S.ls) (hbd : x = "bound" → i ≠ ld c m → ∃ g : Int, (g, (i : Int), m, ("bound" : Str)) ∈ S.ls)
  (hl : x ∈ wOf (S.put i (h.wr x m)) i m → Ext (wOf S) (wOf (S.put i (h.wr x m))) → ∀ y ∈ ls, LI c (wOf (S.put i (h.wr x m))) y) : Did c ag Bs S i (h.wr x m, ls) := by
 refine ⟨I.put1 hi rfl rfl rfl rfl (fun n e => I.cn i h n hi e) st hB hy hbd, hl ?_ (ext_line hi rfl)⟩
 rw [wOf_put hi, if_pos rfl]
 show x ∈ wordsOf (h.book ++ [(x, m)]) m
 rw [wordsOf_snoc, if_pos rfl]
 exact List.mem_append_right _ (by simp)
theorem Inv.bsL {c : Nat} {ag : List (Int × Int)} {Bs : Int → Prop} {S : HallS} (I : Inv c ag Bs S) {i : Nat} {n : Int} {x : Str} (h : x ∈ wOf S i n) : Bs n := I.bs i n fun e => by rw [e] at h; cases h
theorem did_got {c : Nat} {ag : List (Int × Int)} {Bs : Int → Prop} {S : HallS} (I : Inv c ag Bs S) {i : Nat} {h : HS} (hi : S.hs[i]? = some h) {l : Letter} (hl : l ∈ S.ls) (ht : l.2.1 = (i : Int)) : Did c ag Bs S i (h.got l) := by
 obtain ⟨g, t, n, w⟩ := l
 dsimp only at ht
 subst ht
 have il := I.ok.il hi
 have lo := I.ok.let_ _ hl
 have hg0 : 0 ≤ g := lo.g0
 have hg1 : g < c := lo.g1
 obtain ⟨hnum, hoth⟩ := I.ok.num i h hi
 have hagn := I.agn i h hi
 have hL := ld_lt I.ok.c1 n
 have W := I.wi n
 have ewi : wordsOf h.book n = wOf S i n := (wOf_at hi n).symm
 have gn : ((g.toNat : Nat) : Int) = g := by omega
 have gl : g.toNat < c := by omega
 have li := I.li _ hl
 unfold HS.got
 dsimp only
 unfold LI at li
 dsimp only at li
 -- what is sent to the giver
 have reply : ∀ (w' : Nat → Int → List Str) (d : Str), g ≠ ld c n → g ≠ i → (d = "bound" → ("bound" : Str) ∈ w' i n) → (d = "off" → Of (w' i n)) → (d = "bound" ∨ d = "off") → LI c w' (h.num, g, n, d) := fun w' d e1 e0 e2 e3 e4 => by
  unfold LI
  dsimp only
  rw [hnum]
  rcases e4 with rfl | rfl
  ·exact .inr (.inr (.inr (.inr (.inl ⟨rfl, e1, e2 rfl, e0⟩))))
  ·exact .inr (.inr (.inr (.inr (.inr ⟨rfl, e1, e3 rfl, e0⟩))))
 have toall : ∀ (w' : Nat → Int → List Str) (d : Str), i = ld c n → (d = "bound" → ("bound" : Str) ∈ w' i n) → (d = "off" → Of (w' i n)) → (d = "bound" ∨ d = "off") → ∀ y ∈ h.toOthers n d, LI c w' y := fun w' d e1 e2 e3 e4 y hy => by
  unfold HS.toOthers at hy
  obtain ⟨k, hk, rfl⟩ := List.mem_map.mp hy
  rw [hoth] at hk
  obtain ⟨h1, h2, h3⟩ := mem_others hk
  unfold LI
  dsimp only
  rw [hnum]
  rcases e4 with rfl | rfl
  ·exact .inr (.inr (.inr (.inr (.inl ⟨rfl, by rw [← e1]; exact h3, e2 rfl, h3⟩))))
  ·exact .inr (.inr (.inr (.inr (.inr ⟨rfl, by rw [← e1]; exact h3, e3 rfl, h3⟩))))
 split
 ·-- ask
  rename_i e
  subst e
  rcases li with ⟨_, a2, a3, a4⟩ | ⟨a1, _⟩ | ⟨a1, _⟩ | ⟨a1, _⟩ | ⟨a1, _⟩ | ⟨a1, _⟩
  all_goals first | exact absurd a1 (by decide) | skip
  have ne : i ≠ ld c n := fun z => a3 (by rw [z])
  unfold HS.gotAsk
  have key : Did c ag Bs S i (h.asked n, []) ∧ wOf (S.put i (h.asked n)) i n ≠ [] := by
   unfold HS.asked
   by_cases em : wordsOf h.book n = []
   ·rw [if_pos em]
    have ev : wOf S i n = [] := ewi ▸ em
    by_cases ea : n ∈ h.agn
    ·rw [if_pos ea]
     refine ⟨did_wr I hi [] (.no ne ev) (I.bsL a4) (fun z => absurd z (by decide)) (fun z => absurd z (by decide)) (fun _ _ y hy => (nomatch hy)), ?_⟩
     rw [wOf_put hi, if_pos rfl]
     show wordsOf (h.book ++ [_]) n ≠ []
     rw [wordsOf_snoc, if_pos rfl]; simp
    ·rw [if_neg ea]
     refine ⟨did_wr I hi [] (.yes ne ev (by rw [← hagn]; exact ea) a4) (I.bsL a4) (fun _ _ => by rw [← a2]; exact hl) (fun z => absurd z (by decide)) (fun _ _ y hy => (nomatch hy)), ?_⟩
     rw [wOf_put hi, if_pos rfl]
     show wordsOf (h.book ++ [_]) n ≠ []
     rw [wordsOf_snoc, if_pos rfl]; simp
   ·rw [if_neg em]
    refine ⟨did_nothing I hi [] (fun y hy => (nomatch hy)), ?_⟩
    rw [put_self hi, ← ewi]; exact em
  obtain ⟨⟨K, _⟩, kn⟩ := key
  refine ⟨K, fun y hy => ?_⟩
  rw [List.mem_singleton.mp hy, hnum]
  have ek : wOf (S.put i (h.asked n)) i n = wordsOf (h.asked n).book n := by rw [wOf_put hi, if_pos rfl]
  have ope : ("open" : Str) ∈ wOf (S.put i (h.asked n)) (ld c n) n := by rw [wOf_put hi, if_neg (Ne.symm ne)]; exact a4
  unfold LI
  dsimp only
  by_cases ed : decisionIn (h.asked n).book n = some ("off" : Str)
  ·rw [if_pos ed]
   refine .inr (.inr (.inl ⟨rfl, a2, fun z => ne (by omega), ?_, ope⟩))
   rw [Int.toNat_natCast, ek]; exact dec_off ed
  ·rw [if_neg ed]
   refine .inr (.inl ⟨rfl, a2, fun z => ne (by omega), ?_⟩)
   rw [Int.toNat_natCast]
   rcases (K.wi n).so i il ne with z | z | z | z | z | z
   ·exact absurd z kn
   ·rw [z]; decide
   ·rw [dec_words_eq (ek.symm.trans z)] at ed; exact absurd (by decide) ed
   ·rw [dec_words_eq (ek.symm.trans z)] at ed; exact absurd (by decide) ed
   ·rw [z]; decide
   ·rw [dec_words_eq (ek.symm.trans z)] at ed; exact absurd (by decide) ed
 split
 ·-- query
  rename_i e0 e
  subst e
  rcases li with ⟨a1, _⟩ | ⟨a1, _⟩ | ⟨a1, _⟩ | ⟨_, a2, a3, a4⟩ | ⟨a1, _⟩ | ⟨a1, _⟩
  all_goals first | exact absurd a1 (by decide) | skip
  have gne : g.toNat ≠ ld c n := fun z => a2 (by omega)
  have ope : ("open" : Str) ∈ wOf S (ld c n) n := W.ys g.toNat gl gne a3
  have hB : Bs n := I.bsL a3
  unfold HS.gotQuery
  split
  ·exact did_nothing I hi [] fun y hy => by cases hy
  ·rename_i eu
   split
   ·rename_i d hd
    refine did_nothing I hi _ fun y hy => ?_
    rw [List.mem_singleton.mp hy]
    refine reply _ d a2 (Ne.symm a4) (fun z => ?_) (fun z => ?_) (dec_words hd)
    ·subst z; rw [← ewi]; exact dec_bound hd
    ·subst z; rw [← ewi]; exact dec_off hd
   ·rename_i hd
    split
    ·rename_i em
     have ev : wOf S i n = [] := ewi ▸ em
     have ne : i ≠ ld c n := fun z => by rw [← z, ev] at ope; cases ope
     refine did_wr I hi _ (.no ne ev) hB (fun z => absurd z (by decide)) (fun z => absurd z (by decide)) fun m _ y hy => ?_
     rw [List.mem_singleton.mp hy]
     exact reply _ "off" a2 (Ne.symm a4) (fun z => absurd z (by decide)) (fun _ => .inr m) (.inr rfl)
    ·rename_i em
     by_cases ne : i = ld c n
     ·have ev : wOf S i n = [("open" : Str)] := by
       rcases und_lead W (b := h.book) (n := n) (by rw [ewi, ne]) hd with z | z
       ·rw [← ne] at z; exact absurd (ewi.trans z) em
       ·rw [← ne] at z; exact z
      unfold HS.decide
      exact did_wr I hi _ (.offL ne ev) hB (fun z => absurd z (by decide)) (fun z => absurd z (by decide)) fun m _ => toall _ "off" ne (fun z => absurd z (by decide)) (fun _ => .inl m) (.inr rfl)
     ·rcases und_other W il ne (b := h.book) (n := n) ewi hd with z | z
      ·exact absurd (ewi.trans z) em
      ·exact absurd (unsure_yes (ewi.trans z)) eu
 split
 ·-- yes, no
  rename_i e0 e1 e
  have tL : i = ld c n ∧ g ≠ ld c n ∧ (("open" : Str) ∈ wOf S (ld c n) n) ∧ (w = "yes" → ("yes" : Str) ∈ wOf S g.toNat n) := by
   rcases li with ⟨a1, _⟩ | ⟨a1, a2, a3, a4⟩ | ⟨a1, a2, a3, a4, a5⟩ | ⟨a1, _⟩ | ⟨a1, _⟩ | ⟨a1, _⟩
   ·exact absurd a1 e0
   ·exact ⟨by omega, a3, W.ys g.toNat gl (fun z => a3 (by omega)) a4, fun _ => a4⟩
   ·exact ⟨by omega, a3, a5, fun z => by rw [a1] at z; exact absurd z (by decide)⟩
   ·exact absurd a1 e1
   ·rw [a1] at e; rcases e with z | z <;> exact absurd z (by decide)
   ·rw [a1] at e; rcases e with z | z <;> exact absurd z (by decide)
  obtain ⟨ne, gne, ope, hye⟩ := tL
  have hB : Bs n := I.bsL ope
  unfold HS.gotVote
  split
  ·rename_i d hd
   refine did_nothing I hi _ fun y hy => ?_
   split at hy
   ·rw [List.mem_singleton.mp hy]
    refine reply _ d gne (by rw [ne]; exact gne) (fun z => ?_) (fun z => ?_) (dec_words hd)
    ·subst z; rw [← ewi]; exact dec_bound hd
    ·subst z; rw [← ewi]; exact dec_off hd
   ·cases hy
  ·rename_i hd
   have ev : wOf S i n = [("open" : Str)] := by
    rcases und_lead W (b := h.book) (n := n) (by rw [ewi, ne]) hd with z | z
    ·rw [z] at ope; cases ope
    ·rw [← ne] at z; exact z
   split
   ·unfold HS.decide
    exact did_wr I hi _ (.offL ne ev) hB (fun z => absurd z (by decide)) (fun z => absurd z (by decide)) fun m _ => toall _ "off" ne (fun z => absurd z (by decide)) (fun _ => .inl m) (.inr rfl)
   ·rename_i enw
    have ew : w = "yes" := e.resolve_right enw
    have hyg := hye ew
    have C0 := I.cn i h n hi ne
    have cnt' : ∀ m, i = ld c m → CI c (wOf S) i m ((h.count g n).cnt m) := fun m em => by
     show CI c (wOf S) i m (if m = n then addG g (h.cnt n) else h.cnt m)
     split
     ·rename_i z
      subst z
      refine ⟨addG_nodup C0.1, fun x hx => ?_⟩
      rcases mem_addG hx with rfl | z
      ·exact ⟨x.toNat, gn.symm, gl, fun z => gne (by omega), hyg⟩
      ·exact C0.2 x z
     ·exact I.cn i h m hi em
    have I2 : Inv c ag Bs (S.put i (h.count g n)) := I.put0 hi rfl rfl rfl rfl cnt'
    split
    ·exact ⟨I2, fun y hy => by cases hy⟩
    ·rename_i hlen
     have C1 : CI c (wOf S) i n (addG g (h.cnt n)) := by
      have := cnt' n ne
      change CI c (wOf S) i n (if n = n then addG g (h.cnt n) else h.cnt n) at this
      rwa [if_pos rfl] at this
     have all : ∀ j, j < c → j ≠ ld c n → ("yes" : Str) ∈ wOf S j n := fun j hj nj => by
      have := all_in C1.1 (fun x hx => by obtain ⟨k, a, b, d, _⟩ := C1.2 x hx; exact ⟨k, a, b, d⟩) (by rw [← hoth]; omega) j hj (fun z => nj (z.trans ne))
      obtain ⟨k, a, b, d, e⟩ := C1.2 _ this
      rwa [show k = j by omega] at e
     have hi2 : (S.put i (h.count g n)).hs[i]? = some (h.count g n) := put_get hi
     have ew2 : wOf (S.put i (h.count g n)) = wOf S := wOf_same hi rfl
     have D := did_wr I2 hi2 (x := "bound") (m := n) (h.toOthers n "bound") (by rw [ew2]; exact .bndL ne ev all) hB (fun z => absurd z (by decide)) (fun _ z => absurd ne z) fun m _ => toall _ "bound" ne (fun _ => m) (fun z => absurd z (by decide)) (.inl rfl)
     unfold Did at D ⊢
     rw [put_put] at D
     exact D
 ·-- bound, off
  rename_i e0 e1 e2
  have tL : i ≠ ld c n ∧ ((w = "bound" ∧ ("bound" : Str) ∈ wOf S g.toNat n) ∨ (w = "off" ∧ Of (wOf S g.toNat n))) := by
   rcases li with ⟨a1, _⟩ | ⟨a1, _⟩ | ⟨a1, _⟩ | ⟨a1, _⟩ | ⟨a1, a2, a3, _⟩ | ⟨a1, a2, a3, _⟩
   ·exact absurd a1 e0
   ·exact absurd (.inl a1) e2
   ·exact absurd (.inr a1) e2
   ·exact absurd a1 e1
   ·exact ⟨fun z => a2 (by rw [z]), .inl ⟨a1, a3⟩⟩
   ·exact ⟨fun z => a2 (by rw [z]), .inr ⟨a1, a3⟩⟩
  obtain ⟨ne, hw⟩ := tL
  have hB : Bs n := by
   rcases hw with ⟨_, z⟩ | ⟨_, z | z⟩ <;> exact I.bsL z
  unfold HS.gotDecision
  by_cases hd : decisionIn h.book n = none
  ·rw [if_pos hd]
   have ev := und_other W il ne (b := h.book) (n := n) ewi hd
   rcases hw with ⟨rfl, hb⟩ | ⟨rfl, ho⟩
   ·have ev' : wOf S i n = [("yes" : Str)] := by
     rcases (W.bd g.toNat gl hb).2 i il ne with z | z
     ·exact z
     ·rcases ev with y | y <;> (rw [y] at z; cases z)
    exact did_wr I hi [] (.bnd ne ev' ⟨g.toNat, gl, hb⟩) hB (fun z => absurd z (by decide)) (fun _ _ => ⟨g, hl⟩) fun _ _ y hy => by cases hy
   ·exact did_wr I hi [] (.off ne ev ⟨g.toNat, gl, ho⟩) hB (fun z => absurd z (by decide)) (fun z => absurd z (by decide)) fun _ _ y hy => by cases hy
  ·rw [if_neg hd]
   exact did_nothing I hi [] fun y hy => by cases hy
theorem Inv.carryL {c : Nat} {ag : List (Int × Int)} {Bs : Int → Prop} {S : HallS} (I : Inv c ag Bs S) {l : Letter} (hl : l ∈ S.ls) (st : Bool) : Inv c ag Bs (S.carryL l st).1 := by
 have lo := I.ok.let_ _ hl
 unfold HallS.carryL
 split
 ·exact I
 ·rename_i h hi
  split
  ·have ht : l.2.1 = ((l.2.1.toNat : Nat) : Int) := by have := lo.t0; omega
   obtain ⟨D1, D2⟩ := did_got I hi hl ht
   obtain ⟨e1, e2⟩ := I.ok.num _ h hi
   exact Inv.post hi D1 fun x hx => ⟨got_ok e1 e2 (I.ok.il hi) lo x hx, D2 x hx⟩
  ·exact I
theorem Inv.carry {c : Nat} {ag : List (Int × Int)} {Bs : Int → Prop} {S : HallS} (I : Inv c ag Bs S) (k : Int) (st : Bool) : Inv c ag Bs (S.carry k st).1 := by
 unfold HallS.carry
 split
 ·exact I
 ·rename_i l hl
  exact I.carryL (List.mem_of_getElem? hl) st
theorem Inv.turn {c : Nat} {ag : List (Int × Int)} {Bs : Int → Prop} {S : HallS} (I : Inv c ag Bs S) (k : Nat) : Inv c ag Bs (S.turn k).1 := by
 unfold HallS.turn
 split
 ·exact I
 ·rename_i l hl
  exact I.carryL (List.mem_of_getElem? hl) true
theorem Inv.sweepGo {c : Nat} {ag : List (Int × Int)} {Bs : Int → Prop} : ∀ (f : Nat) (S : HallS) (pl : Nat) (w : List (Int × Line)) (r : HallS × List (Int × Line)), Inv c ag Bs S → S.sweepGo f pl w = some r → Inv c ag Bs r.1
 | 0, S, pl, w, r, I, h => by
  unfold HallS.sweepGo at h
  split at h
  ·cases h
  ·cases h; exact I
 | f + 1, S, pl, w, r, I, h => by
  unfold HallS.sweepGo at h
  split at h
  ·exact Inv.sweepGo f _ _ _ _ (I.turn _) h
  ·cases h; exact I
theorem did_begin {c : Nat} {ag : List (Int × Int)} {Bs : Int → Prop} {S : HallS} (I : Inv c ag Bs S) {i : Nat} {h : HS} (hi : S.hs[i]? = some h) {n : Int} (ne : i = ld c n) (em : wordsOf h.book n = []) (hB : Bs n) : Did c ag Bs S i (h.begin n) := by
 have ev : wOf S i n = [] := (wOf_at hi n).trans em
 obtain ⟨hnum, hoth⟩ := I.ok.num i h hi
 unfold HS.begin
 split
 ·exact did_wr I hi [] (.noL ne ev) hB (fun z => absurd z (by decide)) (fun z => absurd z (by decide)) fun _ _ y hy => nomatch hy
 ·rename_i na
  rw [I.agn i h hi] at na
  refine did_wr I hi _ (.opn ne ev na) hB (fun z => absurd z (by decide)) (fun z => absurd z (by decide)) fun m _ y hy => ?_
  unfold HS.toOthers at hy
  obtain ⟨k, hk, rfl⟩ := List.mem_map.mp hy
  rw [hoth] at hk
  obtain ⟨h1, h2, h3⟩ := mem_others hk
  unfold LI
  dsimp only
  rw [hnum, ← ne]
  exact .inl ⟨rfl, rfl, h3, m⟩
theorem lead_ld {c : Nat} {S : HallS} (ok : HallOk c S) (n : Int) : S.lead n = ld c n := by unfold HallS.lead ld; rw [ok.len]
theorem Inv.begin {c : Nat} {ag : List (Int × Int)} {Bs : Int → Prop} {S : HallS} (I : Inv c ag Bs S) {n : Int} (st : Bool) (hB : Bs n) : Inv c ag Bs (S.begin n st).1 := by
 unfold HallS.begin
 split
 ·exact I
 ·rename_i h hi
  split
  ·rename_i z
   obtain ⟨D1, D2⟩ := did_begin I hi (lead_ld I.ok n) z.2 hB
   obtain ⟨e1, e2⟩ := I.ok.num _ h hi
   refine Inv.post hi D1 fun x hx => ⟨?_, D2 x hx⟩
   unfold HS.begin at hx
   split at hx
   ·cases hx
   ·exact toOthers_ok e1 e2 (I.ok.il hi) (by simp) x hx
  ·exact I
theorem Inv.stop {c : Nat} {ag : List (Int × Int)} {Bs : Int → Prop} {S : HallS} (I : Inv c ag Bs S) (i : Nat) : Inv c ag Bs (S.stop i).1 := by
 unfold HallS.stop
 split
 ·exact I
 ·rename_i h hi
  split
  ·exact I.halt hi
  ·exact I
theorem uns_yes {b : List Line} {n : Int} (h : unsure b n = true) : ("yes" : Str) ∈ wordsOf b n := by
 unfold unsure voteIn at h
 rw [Bool.and_eq_true] at h
 have := of_decide_eq_true h.1
 exact List.mem_of_find?_eq_some this
theorem Inv.query {c : Nat} {ag : List (Int × Int)} {Bs : Int → Prop} {S : HallS} (I : Inv c ag Bs S) (i : Nat) (n : Int) : Inv c ag Bs (S.query i n).1 := by
 unfold HallS.query
 split
 ·exact I
 ·rename_i h hi
  obtain ⟨e1, e2⟩ := I.ok.num _ h hi
  refine I.send fun x hx => ?_
  unfold HS.query at hx
  split at hx
  ·rename_i z
   refine ⟨toOthers_ok e1 e2 (I.ok.il hi) (by simp) x hx, ?_⟩
   unfold HS.toOthers at hx
   obtain ⟨k, hk, rfl⟩ := List.mem_map.mp hx
   rw [e2] at hk
   obtain ⟨h1, h2, h3⟩ := mem_others hk
   have hy : ("yes" : Str) ∈ wOf S i n := by rw [wOf_at hi]; exact uns_yes z.2
   have ne : i ≠ ld c n := fun z => by
    rcases (I.wi n).sl with y | y | y | y | y <;> (rw [← z] at y; rw [y] at hy; revert hy; decide)
   unfold LI
   dsimp only
   rw [e1]
   exact .inr (.inr (.inr (.inl ⟨rfl, fun z => ne (by omega), by rw [Int.toNat_natCast]; exact hy, h3⟩)))
  ·cases hx
theorem left_words {c : Nat} {ag : List (Int × Int)} {Bs : Int → Prop} {S : HallS} (I : Inv c ag Bs S) {i : Nat} {h : HS} (hi : S.hs[i]? = some h) {n : Int} (hn : n ∈ leftOpen h.book) : i = ld c n ∧ wOf S i n = [("open" : Str)] := by
 unfold leftOpen at hn
 obtain ⟨l, hl, rfl⟩ := List.mem_map.mp hn
 obtain ⟨hm, hf⟩ := List.mem_filter.mp hl
 rw [Bool.and_eq_true] at hf
 have h1 := of_decide_eq_true hf.1
 have h2 := of_decide_eq_true hf.2
 have ho : ("open" : Str) ∈ wOf S i l.2 := by
  rw [wOf_at hi]
  unfold wordsOf
  exact List.mem_map.mpr ⟨l, List.mem_filter.mpr ⟨hm, by simp⟩, h1⟩
 have ne : i = ld c l.2 := by
  by_cases z : i = ld c l.2
  ·exact z
  ·rcases (I.wi l.2).so i (I.ok.il hi) z with y | y | y | y | y | y <;> (rw [y] at ho; exact absurd ho (by decide))
 refine ⟨ne, ?_⟩
 rcases und_lead (I.wi l.2) (b := h.book) (n := l.2) (by rw [← ne, wOf_at hi]) h2 with z | z
 ·rw [← ne] at z; rw [z] at ho; cases ho
 ·rw [← ne] at z; exact z
theorem did_off {c : Nat} {ag : List (Int × Int)} {Bs : Int → Prop} {i : Nat} : ∀ (ns : List Int) (S : HallS) (h : HS), Inv c ag Bs S → S.hs[i]? = some h → ns.Nodup → (∀ n ∈ ns, i = ld c n ∧ wOf S i n = [("open" : Str)]) → Did c ag Bs S i (h.offAll ns)
 | [], S, h, I, hi, _, _ => did_nothing I hi [] fun y hy => nomatch hy
 | n :: r, S, h, I, hi, hd, hs => by
  obtain ⟨ne, ev⟩ := hs n (by simp)
  rw [List.nodup_cons] at hd
  obtain ⟨hnum, hoth⟩ := I.ok.num i h hi
  have hB : Bs n := I.bs i n (by rw [ev]; simp)
  have toall : ∀ (w' : Nat → Int → List Str), Of (w' i n) → ∀ y ∈ h.toOthers n "off", LI c w' y := fun w' e3 y hy => by
   unfold HS.toOthers at hy
   obtain ⟨k, hk, rfl⟩ := List.mem_map.mp hy
   rw [hoth] at hk
   obtain ⟨h1, h2, h3⟩ := mem_others hk
   unfold LI
   dsimp only
   rw [hnum]
   exact .inr (.inr (.inr (.inr (.inr ⟨rfl, by rw [← ne]; exact h3, e3, h3⟩))))
  obtain ⟨D1, D2⟩ := did_wr I hi (h.toOthers n "off") (.offL ne ev) hB (fun z => absurd z (by decide)) (fun z => absurd z (by decide)) fun m _ => toall _ (.inl m)
  dsimp only at D1 D2
  have hi2 : (S.put i (h.wr "off" n)).hs[i]? = some (h.wr "off" n) := put_get hi
  obtain ⟨E1, E2⟩ := did_off r (S.put i (h.wr "off" n)) (h.wr "off" n) D1 hi2 hd.2 fun m hm => by
   obtain ⟨a, b⟩ := hs m (List.mem_cons_of_mem _ hm)
   refine ⟨a, ?_⟩
   have := congrFun (wOf_line (g := h.wr "off" n) hi rfl m) i
   rw [if_neg (by rintro rfl; exact hd.1 hm)] at this
   exact this.trans b
  rw [put_put] at E1 E2
  refine ⟨E1, fun y hy => ?_⟩
  rcases List.mem_append.mp (show y ∈ h.toOthers n "off" ++ ((h.wr "off" n).offAll r).2 from hy) with z | z
  ·refine toall _ ?_ y z
   refine .inl ?_
   show ("off" : Str) ∈ wOf (S.put i ((h.wr "off" n).offAll r).1) i n
   rw [wOf_put hi, if_pos rfl, offAll_book]
   unfold wordsOf
   exact List.mem_map.mpr ⟨(("off" : Str), n), List.mem_filter.mpr ⟨List.mem_append_left _ (List.mem_append_right _ (by simp)), by simp⟩, rfl⟩
  ·exact E2 y z
theorem left_nodup {c : Nat} {ag : List (Int × Int)} {Bs : Int → Prop} {S : HallS} (I : Inv c ag Bs S) {i : Nat} {h : HS} (hi : S.hs[i]? = some h) : (leftOpen h.book).Nodup := by
 have key : ∀ (b : List Line), (∀ n, n ∈ leftOpen h.book → (b.filter fun l => decide (l.2 = n)).length ≤ 1) → ((b.filter fun l => decide (l.1 = ("open" : Str)) && decide (decisionIn h.book l.2 = none)).map (·.2)).Nodup ∨ ∃ n, n ∈ ((b.filter fun l => decide (l.1 = ("open" : Str)) && decide (decisionIn h.book l.2 = none)).map (·.2)) ∧ n ∉ leftOpen h.book := by
  intro b hb
  induction b with
  | nil => exact .inl (by simp)
  | cons x r ih =>
   have hb' : ∀ n, n ∈ leftOpen h.book → (r.filter fun l => decide (l.2 = n)).length ≤ 1 := fun n hn => by
    have := hb n hn
    rw [List.filter_cons] at this
    split at this
    ·rw [List.length_cons] at this; omega
    ·exact this
   rw [List.filter_cons]
   split
   ·rename_i hx
    rcases ih hb' with z | ⟨n, h1, h2⟩
    ·by_cases mm : x.2 ∈ leftOpen h.book
     ·refine .inl ?_
      rw [List.map_cons, List.nodup_cons]
      refine ⟨fun hin => ?_, z⟩
      obtain ⟨y, hy, e⟩ := List.mem_map.mp hin
      have hyr := (List.mem_filter.mp hy).1
      have := hb x.2 mm
      rw [List.filter_cons, if_pos (by simp), List.length_cons] at this
      have hp : 0 < (r.filter fun l => decide (l.2 = x.2)).length := List.length_pos_of_mem (List.mem_filter.mpr ⟨hyr, by simpa using e⟩)
      omega
     ·exact .inr ⟨x.2, by simp, mm⟩
    ·exact .inr ⟨n, by rw [List.map_cons]; exact List.mem_cons_of_mem _ h1, h2⟩
   ·exact ih hb'
 rcases key h.book (fun n hn => by
  have := (left_words I hi hn).2
  rw [wOf_at hi] at this
  unfold wordsOf at this
  have := congrArg List.length this
  rw [List.length_map] at this
  rw [this]; exact Nat.le_refl _) with z | ⟨n, h1, h2⟩
 ·exact z
 ·exact absurd h1 h2
theorem Inv.wake {c : Nat} {ag : List (Int × Int)} {Bs : Int → Prop} {S : HallS} (I : Inv c ag Bs S) (i : Nat) : Inv c ag Bs (S.wake i).1 := by
 unfold HallS.wake
 split
 ·exact I
 ·rename_i h hi
  split
  ·exact I
  ·obtain ⟨e1, e2⟩ := I.ok.num _ h hi
   have I1 : Inv c ag Bs (S.put i { h with up := true }) := I.put0 hi rfl rfl rfl rfl fun n e => I.cn i h n hi e
   have hi1 : (S.put i { h with up := true }).hs[i]? = some { h with up := true } := put_get hi
   obtain ⟨D1, D2⟩ := did_off (leftOpen h.book) _ _ I1 hi1 (left_nodup I hi) fun n hn => by
    obtain ⟨a, b⟩ := left_words I hi hn
    refine ⟨a, ?_⟩
    rw [wOf_same (g := { h with up := true }) hi rfl]; exact b
   rw [put_put] at D1 D2
   unfold HS.wake
   refine D1.send fun x hx => ⟨?_, D2 x hx⟩
   obtain ⟨n, hn, hx⟩ := offAll_mem _ _ x hx
   exact toOthers_ok (h := h) e1 e2 (I.ok.il hi) (by simp) x hx
def DeedIn (Bs : Int → Prop) : Deed → Prop
 | .begin n _ => Bs n
 | _ => True
theorem Inv.do {c : Nat} {ag : List (Int × Int)} {Bs : Int → Prop} {S : HallS} (I : Inv c ag Bs S) (d : Deed) (hd : DeedIn Bs d) : Inv c ag Bs (S.do d).1 := by
 cases d with
 | begin n st => exact I.begin st hd
 | carry k st => exact I.carry k st
 | query i n => exact I.query i n
 | stop i => exact I.stop i
 | wake i => exact I.wake i
 | sweep => exact (Inv.sweepGo _ _ _ _ _ I (sweepR_ok I.ok).1).trim
theorem Inv.run {c : Nat} {ag : List (Int × Int)} {Bs : Int → Prop} {S : HallS} (I : Inv c ag Bs S) : ∀ (ds : List Deed), (∀ d ∈ ds, DeedIn Bs d) → Inv c ag Bs (S.run ds).1 := by
 intro ds hd
 induction ds generalizing S with
 | nil => exact I
 | cons d r ih => exact ih (I.do d (hd d (by simp))) fun x hx => hd x (List.mem_cons_of_mem _ hx)
theorem Inv.new {c : Nat} (ag : List (Int × Int)) (Bs : Int → Prop) (h1 : 2 ≤ c) (h2 : c ≤ 20) : Inv c ag Bs (newHall c ag) := by
 have hs : ∀ (i : Nat) (h : HS), (newHall c ag).hs[i]? = some h → h = newHS (i : Int) c (agOf ag (i : Int)) := fun i h e => by
  change ((List.range c).map fun (i : Nat) => newHS (i : Int) c (agOf ag (i : Int)))[i]? = some h at e
  have il : i < c := by have := (List.getElem?_eq_some_iff.mp e).1; rwa [List.length_map, List.length_range] at this
  rw [List.getElem?_map, List.getElem?_range il] at e
  exact (Option.some.inj e).symm
 have w0 : ∀ i n, wOf (newHall c ag) i n = [] := fun i n => by
  unfold wOf
  cases e : (newHall c ag).hs[i]? with
  | none => rfl
  | some h => rw [hs i h e]; rfl
 refine ⟨newHall_ok ag h1 h2, fun i h e => by rw [hs i h e]; rfl, fun n => ?_, fun i h n e _ => by rw [hs i h e]; exact ⟨List.nodup_nil, fun g hg => (nomatch hg)⟩, fun l hl => (nomatch hl), fun i n _ _ z => (by rw [w0] at z; cases z), fun i n _ _ z => (by rw [w0] at z; cases z), fun i n z => absurd (w0 i n) z⟩
 have e : (fun i => wOf (newHall c ag) i n) = fun _ => [] := by funext i; exact w0 i n
 rw [e]
 exact ⟨.inl rfl, fun _ _ _ => .inl rfl, fun _ _ _ => ⟨fun z => (nomatch z), fun z => (nomatch z)⟩, fun _ _ _ z => (nomatch z), fun _ _ z => (nomatch z), fun _ _ z => z.elim (fun z => (nomatch z)) fun z => (nomatch z)⟩
def zR0h (K : PySem.W.Frag) (zsp0e : Sp) : TS :=
  (tSeq (tIfS (tOr (tNot (tB (tCB (rIsi K) (tCons (tVar 0) (tCons (tC (.ty "list")) tNil))))) (tTest (tOp rNe (tCB (rLenQ K) (tCons (tVar 0) tNil)) (tVar 1))))
  (tRet (tC (.bl false)))
  tNext)
  (tSeq (tFor (iList K (tVar 0)) (gName 2)
  (tIfS (tNot (tB (tCall zsp0e [] E0 (tCons (tVar 2) tNil))))
  (tRet (tC (.bl false)))
  tNext))
  (tRet (tC (.bl true)))))
def zR05 (K : PySem.W.Frag)  : TS :=
  (tRet (tLst (tCons (tC (.int 0)) (tCons (tC (.int 1)) (tCons (tC (.int 2)) (tCons (tC (.int 1000000000000)) tNil))))))
def zR0b (K : PySem.W.Frag) (zsp05 : Sp) : TS :=
  (tRet (tOp (rIxL K) (tCall zsp05 [] E0 tNil) (tOp rModI (tOp rModI (tOp rMulI (tVar 0) (tC (.int 48271))) (tC (.int 1009))) (tC (.int 4)))))
def zR0m (K : PySem.W.Frag) (zsp0b : Sp) : TS :=
  (tSeq (tAsg (tOp rModI (tOp rModI (tOp rMulI (tVar 0) (tC (.int 48271))) (tC (.int 1013))) (tC (.int 16))) (gName 4))
  (tSeq (tAsg (tOp rModI (tOp rModI (tOp rMulI (tOp rAddI (tVar 0) (tVar 1)) (tC (.int 48271))) (tC (.int 1019))) (tVar 2)) (gName 5))
  (tSeq (tAsg (tOp rNe (tOp rModI (tOp rModI (tOp rMulI (tVar 0) (tC (.int 48271))) (tC (.int 1021))) (tC (.int 8))) (tC (.int 3))) (gName 6))
  (tSeq (tIfS (tTest (tOp rLtI (tVar 4) (tC (.int 3))))
  (tRet (tTup (tCons (tC (.str "begin")) (tCons (tCall zsp0b [] E0 (tCons (tOp rDivI (tVar 0) (tC (.int 16))) tNil)) (tCons (tVar 6) tNil)))))
  tNext)
  (tSeq (tIfS (tTest (tOp rEq (tVar 4) (tC (.int 11))))
  (tRet (tTup (tCons (tC (.str "query")) (tCons (tVar 5) (tCons (tCall zsp0b [] E0 (tCons (tOp rDivI (tVar 0) (tC (.int 64))) tNil)) tNil)))))
  tNext)
  (tSeq (tIfS (tTest (tOp rEq (tVar 4) (tC (.int 12))))
  (tRet (tTup (tCons (tC (.str "stop")) (tCons (tVar 5) tNil))))
  tNext)
  (tSeq (tIfS (tOr (tTest (tOp rEq (tVar 4) (tC (.int 13)))) (tTest (tOp rEq (tVar 4) (tC (.int 14)))))
  (tRet (tTup (tCons (tC (.str "wake")) (tCons (tVar 5) tNil))))
  tNext)
  (tSeq (tIfS (tAnd (tTest (tOp rEq (tVar 4) (tC (.int 15)))) (tNot (tB (tVar 3))))
  (tRet (tTup (tCons (tC (.str "sweep")) tNil)))
  tNext)
  (tSeq (tAsg (tOp rModI (tOp rModI (tOp rMulI (tOp rAddI (tVar 0) (tOp rMulI (tC (.int 5)) (tVar 1))) (tC (.int 48271))) (tC (.int 1031))) (tOp rAddI (tOp rMulI (tC (.int 2)) (tVar 1)) (tC (.int 1)))) (gName 7))
  (tCut (tIfS (tTest (tOp rEq (tOp rModI (tOp rModI (tOp rMulI (tVar 0) (tC (.int 48271))) (tC (.int 1087))) (tC (.int 24))) (tC (.int 1))))
  (tAsg (tC (.int 100000000000000000000)) (gName 7))
  tNext)
  (tRet (tTup (tCons (tC (.str "carry")) (tCons (tVar 7) (tCons (tVar 6) tNil)))))))))))))))
def zR18 (K : PySem.W.Frag) (zsp0m : Sp) : TS :=
  (tSeq (tAsg (tLst tNil) (gName 2))
  (tSeq (tAsg (tC (.bl false)) (gName 3))
  (tSeq (tFor (iRng1 (tCons (tCB (rLenQ K) (tCons (tVar 0) tNil)) tNil)) (gName 4)
  (tSeq (tDrop (tBM K "list" rAppend (tVar 2) (tCons (tCall zsp0m [] E0 (tCons (tOp rAddI (tOp (rIxL K) (tVar 0) (tVar 4)) (tOp rMulI (tC (.int 7)) (tVar 4))) (tCons (tVar 4) (tCons (tVar 1) (tCons (tVar 3) tNil))))) tNil)))
  (tAsg (tOrV (tVar 3) (tOp rEqD (tOp (rIxL K) (tVar 2) (tUn rNegI (tC (.int 1)))) (tTup (tCons (tC (.str "sweep")) tNil)))) (gName 3))))
  (tRet (tVar 2)))))
def zR02 (K : PySem.W.Frag) (zsp05 : Sp) : TS :=
  (tSeq (tAsg (tLst tNil) (gName 2))
  (tSeq (tFor (iRng1 (tCons (tVar 1) tNil)) (gName 3)
  (tFor (iRng1 (tCons (tC (.int 4)) tNil)) (gName 4)
  (tIfS (tAnd (tTest (tOp rEq (tOp rModI (tOp rModI (tOp rMulI (tOp rDivI (tVar 0) (tOp rAddI (tOp rAddI (tOp rMulI (tC (.int 3)) (tVar 3)) (tVar 4)) (tC (.int 2)))) (tC (.int 48271))) (tC (.int 1033))) (tC (.int 5))) (tC (.int 1)))) (tTest (tOp rGtI (tOp rModI (tOp rModI (tOp rMulI (tVar 0) (tC (.int 48271))) (tC (.int 1039))) (tC (.int 3))) (tC (.int 0)))))
  (tDrop (tBM K "list" rAppend (tVar 2) (tCons (tTup (tCons (tVar 3) (tCons (tOp (rIxL K) (tCall zsp05 [] E0 tNil) (tVar 4)) tNil))) tNil)))
  tNext)))
  (tRet (tVar 2))))
def booksL (bs : List (List Line)) : PyData := .list (bs.map bookD)
theorem book_at {H : Hp} {S : List Addr} {bs : List (List Line)} {xs : List V} {i : Nat} {x : V} (rs : Reps H S xs (bs.map bookD)) (hx : xs[i]? = some x) : ∃ b t, bs[i]? = some b ∧ x = .ref t ∧ Rep H S (.ref t) (bookD b) := by
 obtain ⟨dd, hd, rx⟩ := rs.get hx
 rw [List.getElem?_map] at hd
 cases hb : bs[i]? with
 | none => rw [hb] at hd; cases hd
 | some b =>
  rw [hb] at hd
  cases hd
  obtain ⟨t, ys, rfl, rt, nt, rs'⟩ := Rep.lst_inv (ds := b.map lineD) rx
  exact ⟨b, t, rfl, rfl, .lst rt nt rs'⟩
def zsp0h : Sp := fun vs H Q _ => ∃ a bs, ∃ c : Nat, vs = [.ref a, .int (c : Int)] ∧ Rep H [] (.ref a) (booksL bs) ∧ bs.length = c ∧ (∀ b ∈ bs, LineWs b) ∧ ∀ H', Same H H' → Q (.bl true) H'
theorem zrd0h {K : PySem.W.Frag} {vs : List V} {H : Hp} {Q : VK} {E : XK} (h : zsp0h vs H Q E) : zR0h K zsp0e { nx := fun _ H' => Q .non H', rt := Q } (start ["_law_found", "_law_count", "_law_book"] vs) H := by
 obtain ⟨a, bs, c, rfl, ra, hc, hw, k⟩ := h
 obtain ⟨_, xs, e, rd, _, rs⟩ := id (Rep.lst_inv (ds := bs.map bookD) ra)
 cases e
 have hxl : xs.length = bs.length := by rw [rs.length, List.length_map]
 unfold zR0h
 walk_at "go"
 refine ⟨_, _, _, true, rfl, TyO.list rd, kit_same _ _, ?_⟩
 walk_at "go"
 refine iteF ?_
 refine st_test (st_op (st_cb (st_cons (st_var (by rfl) (st_nil (st_lenL (sqLr rd) ?_))))))
 walk_at "go"
 rw [if_neg (by simp; omega)]
 walk_at "go"
 refine for_list (K := K) (a := a) (xs := xs) (fun i σ H' => ∃ v, σ = [some (.ref a), some (.int (c : Int)), v] ∧ Same H H') ⟨none, rfl, Same.refl _⟩ ?_ ?_ ?_
 ·rintro i σ H' hi ⟨v, rfl, s⟩
  exact s.seq (sqLr rd)
 ·rintro i x σ H' hx ⟨v, rfl, s⟩
  obtain ⟨b, t, hb, rfl, rt⟩ := book_at rs hx
  walk_at "go"
  refine ⟨t, b, rfl, rt.same s, hw b (List.mem_of_getElem? hb), fun H2 s2 => ?_⟩
  walk_at "go"
  refine iteF ?_
  walk_at "go"
  exact ⟨_, rfl, s.trans s2⟩
 ·rintro σ H' ⟨v, rfl, s⟩
  walk_at "go"
  exact k H' s
def allB : List Int := [0, 1, 2, 1000000000000]
def zsp05 : Sp := fun vs H Q _ => vs = [] ∧ ∀ p H', H p = none → Same H H' → H' p = some (.lst (allB.map .int)) → Q (.ref p) H'
theorem zrd05 {K : PySem.W.Frag} {vs : List V} {H : Hp} {Q : VK} {E : XK} (h : zsp05 vs H Q E) : zR05 K { nx := fun _ H' => Q .non H', rt := Q } (start [] vs) H := by
 obtain ⟨rfl, k⟩ := h
 unfold zR05
 walk_at "goA"
 rename_i p hp H1 s1 g1
 exact k p H1 hp s1 g1
def zsp0b (Bs : Int → Prop) : Sp := fun vs H Q _ => ∃ z : Int, vs = [.int z] ∧ ∀ n H', Bs n → Same H H' → Q (.int n) H'
theorem zrd0b {K : PySem.W.Frag} {vs : List V} {H : Hp} {Q : VK} {E : XK} (h : zsp0b (· ∈ allB) vs H Q E) : zR0b K zsp05 { nx := fun _ H' => Q .non H', rt := Q } (start ["_law_cell"] vs) H := by
 obtain ⟨z, rfl, k⟩ := h
 unfold zR0b
 walk_at "go"
 refine ⟨rfl, fun p H1 hp s1 g1 => ?_⟩
 obtain ⟨v, hv, hat⟩ := atI_mem (xs := allB.map V.int) (r := z * 48271 % 1009 % 4) (by omega) (by show _ < (4 : Int); omega)
 obtain ⟨n, hn, rfl⟩ := List.mem_map.mp hv
 walk_at "go"
 exact k n H1 hn s1
def Drawn (Bs : Int → Prop) (c : Nat) (sw : Bool) (d : Deed) : Prop := DeedOk c d ∧ DeedIn Bs d ∧ (d = .sweep → sw = false)
def zsp0m (Bs : Int → Prop) : Sp := fun vs H Q _ => ∃ (z : Int) (k c : Nat) (sw : Bool), vs = [.int z, .int (k : Int), .int (c : Int), .bl sw] ∧ 2 ≤ c ∧ k ≤ 1000000 ∧ ∀ d t H', Drawn Bs c sw d → Same H H' → Rep H' [] (.ref t) d.D → Q (.ref t) H'
theorem zrd0m {Bs : Int → Prop} {K : PySem.W.Frag} {vs : List V} {H : Hp} {Q : VK} {E : XK} (h : zsp0m Bs vs H Q E) :
  zR0m K (zsp0b Bs) { nx := fun _ H' => Q .non H', rt := Q } (start ["_law_cell", "_law_k", "_law_count", "_law_swept", "_law_way", "_law_who", "_law_stays", "_law_which"] vs) H := by
 obtain ⟨z, k, c, sw, rfl, hc, hkl, kk⟩ := h
 unfold zR0m
 walk_at "go"
 refine st_rI (show (0 : Int) < (c : Int) by omega) ?_
 have hw0 : (0 : Int) ≤ (z + k) * 48271 % 1019 % (c : Int) := Int.emod_nonneg _ (by omega)
 have hw1 : (z + k) * 48271 % 1019 % (c : Int) < c := Int.emod_lt_of_pos _ (by omega)
 obtain ⟨who, ewho⟩ : ∃ who : Nat, (z + k) * 48271 % 1019 % (c : Int) = (who : Int) := ⟨((z + k) * 48271 % 1019 % (c : Int)).toNat, by omega⟩
 have hwl : who < c := by omega
 rw [ewho]
 walk_at "go"
 by_cases e1 : z * 48271 % 1013 % 16 < 3
 ·rw [if_pos (decide_eq_true e1)]
  walk_at "go"
  refine ⟨_, rfl, fun n H1 hn s1 => ?_⟩
  walk_at "goA"
  rename_i t ht H2 s2 g2
  exact kk (.begin n _) t H2 ⟨True.intro, hn, fun e => by cases e⟩ (s1.trans s2) (.tup (.inl g2) (.cons (.str _) (.cons (.int _) (.cons (.bl _) .nil))))
 rw [if_neg (by simpa using e1)]
 walk_at "go"
 by_cases e2 : z * 48271 % 1013 % 16 = 11
 ·rw [if_pos (by simp [e2])]
  walk_at "go"
  refine ⟨_, rfl, fun n H1 hn s1 => ?_⟩
  walk_at "goA"
  rename_i t ht H2 s2 g2
  exact kk (.query who n) t H2 ⟨hwl, True.intro, fun e => by cases e⟩ (s1.trans s2) (.tup (.inl g2) (.cons (.str _) (.cons (.int _) (.cons (.int _) .nil))))
 rw [if_neg (by simp [e2])]
 walk_at "go"
 by_cases e3 : z * 48271 % 1013 % 16 = 12
 ·rw [if_pos (by simp [e3])]
  walk_at "goA"
  rename_i t ht H2 s2 g2
  exact kk (.stop who) t H2 ⟨hwl, True.intro, fun e => by cases e⟩ s2 (.tup (.inl g2) (.cons (.str _) (.cons (.int _) .nil)))
 rw [if_neg (by simp [e3])]
 walk_at "go"
 have wake : ∀ (p : Addr) (H2 : Hp), Same H H2 → H2 p = some (.tup [.str "wake", .int (who : Int)]) → Q (.ref p) H2 := fun p H2 s2 g2 =>
  kk (.wake who) p H2 ⟨hwl, True.intro, fun e => by cases e⟩ s2 (.tup (.inl g2) (.cons (.str _) (.cons (.int _) .nil)))
 by_cases e4 : z * 48271 % 1013 % 16 = 13
 ·rw [if_pos (by simp [e4])]
  rw [if_pos (by rfl)]
  walk_at "goA"
  rename_i t ht H2 s2 g2
  exact wake t H2 s2 g2
 rw [if_neg (by simp [e4])]
 walk_at "go"
 by_cases e5 : z * 48271 % 1013 % 16 = 14
 ·rw [if_pos (by simp [e5])]
  walk_at "goA"
  rename_i t ht H2 s2 g2
  exact wake t H2 s2 g2
 rw [if_neg (by simp [e5])]
 have rest : (tSeq (tAsg (tOp rModI (tOp rModI (tOp rMulI (tOp rAddI (tVar 0) (tOp rMulI (tC (.int 5)) (tVar 1))) (tC (.int 48271))) (tC (.int 1031))) (tOp rAddI (tOp rMulI (tC (.int 2)) (tVar 1)) (tC (.int 1)))) (gName 7))
  (tCut (tIfS (tTest (tOp rEq (tOp rModI (tOp rModI (tOp rMulI (tVar 0) (tC (.int 48271))) (tC (.int 1087))) (tC (.int 24))) (tC (.int 1))))
  (tAsg (tC (.int 100000000000000000000)) (gName 7))
  tNext)
  (tRet (tTup (tCons (tC (.str "carry")) (tCons (tVar 7) (tCons (tVar 6) tNil))))))) { nx := fun _ H' => Q .non H', rt := Q }
   [some (.int z), some (.int (k : Int)), some (.int (c : Int)), some (.bl sw), some (.int (z * 48271 % 1013 % 16)), some (.int (who : Int)), some (.bl (!decide (V.int (z * 48271 % 1021 % 8) = V.int 3))), none] H := by
  walk_at "go"
  refine st_rI (mulR (by omega)) ?_
  walk_at "go"
  refine st_rI (mulR (by omega)) ?_
  walk_at "go"
  refine st_rI (show (0 : Int) < 2 * (k : Int) + 1 by omega) ?_
  walk_at "go"
  have hq0 : (0 : Int) ≤ (z + 5 * k) * 48271 % 1031 % (2 * (k : Int) + 1) := Int.emod_nonneg _ (by omega)
  refine st_cut (fun σ' H' => H' = H ∧ ∃ w : Int, 0 ≤ w ∧ σ' = [some (.int z), some (.int (k : Int)), some (.int (c : Int)), some (.bl sw), some (.int (z * 48271 % 1013 % 16)), some (.int (who : Int)), some (.bl (!decide (V.int (z * 48271 % 1021 % 8) = V.int 3))), some (.int w)]) ?_ ?_
  ·walk_at "go"
   by_cases e7 : z * 48271 % 1087 % 24 = 1
   ·rw [if_pos (by simp [e7])]
    walk_at "go"
    exact ⟨rfl, 100000000000000000000, by decide, rfl⟩
   ·rw [if_neg (by simp [e7])]
    walk_at "go"
    exact ⟨rfl, _, hq0, rfl⟩
  ·rintro σ' H' ⟨rfl, w, hw, rfl⟩
   walk_at "goA"
   rename_i t ht H2 s2 g2
   exact kk (.carry w _) t H2 ⟨hw, True.intro, fun e => by cases e⟩ s2 (.tup (.inl g2) (.cons (.str _) (.cons (.int _) (.cons (.bl _) .nil))))
 walk_at "go"
 by_cases e6 : z * 48271 % 1013 % 16 = 15
 ·rw [if_pos (by simp [e6])]
  walk_at "go"
  cases sw with
  | false =>
   rw [if_pos (by rfl)]
   walk_at "goA"
   rename_i t ht H2 s2 g2
   exact kk .sweep t H2 ⟨True.intro, True.intro, fun _ => rfl⟩ s2 (.tup (.inl g2) (.cons (.str _) .nil))
  | true =>
   rw [if_neg (by decide)]
   walk_at "st"
   exact rest
 ·rw [if_neg (by simp [e6])]
  rw [if_neg (by decide)]
  walk_at "st"
  exact rest
theorem deeds_any {H : Hp} {S T : List Addr} : ∀ {ds : List Deed} {xs : List V}, Reps H S xs (ds.map Deed.D) → Reps H T xs (ds.map Deed.D)
 | [], xs, r => by rw [List.map_nil] at r ⊢; rw [r.nil_inv]; exact .nil
 | d :: ds, xs, r => by
  rw [List.map_cons] at r ⊢
  obtain ⟨x, ys, rfl, h, t⟩ := r.cons_inv
  refine .cons ?_ (deeds_any t)
  cases d with
  | begin n st =>
   obtain ⟨a, zs, rfl, rt, rs⟩ := h.tup_inv
   obtain ⟨y1, r1, rfl, h1, t1⟩ := rs.cons_inv
   obtain ⟨y2, r2, rfl, h2, t2⟩ := t1.cons_inv
   obtain ⟨y3, r3, rfl, h3, t3⟩ := t2.cons_inv
   cases t3.nil_inv
   rw [h1.str_inv, h2.int_inv, h3.bl_inv] at rt
   exact .tup rt (.cons (.str _) (.cons (.int _) (.cons (.bl _) .nil)))
  | carry n st =>
   obtain ⟨a, zs, rfl, rt, rs⟩ := h.tup_inv
   obtain ⟨y1, r1, rfl, h1, t1⟩ := rs.cons_inv
   obtain ⟨y2, r2, rfl, h2, t2⟩ := t1.cons_inv
   obtain ⟨y3, r3, rfl, h3, t3⟩ := t2.cons_inv
   cases t3.nil_inv
   rw [h1.str_inv, h2.int_inv, h3.bl_inv] at rt
   exact .tup rt (.cons (.str _) (.cons (.int _) (.cons (.bl _) .nil)))
  | query i n =>
   obtain ⟨a, zs, rfl, rt, rs⟩ := h.tup_inv
   obtain ⟨y1, r1, rfl, h1, t1⟩ := rs.cons_inv
   obtain ⟨y2, r2, rfl, h2, t2⟩ := t1.cons_inv
   obtain ⟨y3, r3, rfl, h3, t3⟩ := t2.cons_inv
   cases t3.nil_inv
   rw [h1.str_inv, h2.int_inv, h3.int_inv] at rt
   exact .tup rt (.cons (.str _) (.cons (.int _) (.cons (.int _) .nil)))
  | stop i =>
   obtain ⟨a, zs, rfl, rt, rs⟩ := h.tup_inv
   obtain ⟨y1, r1, rfl, h1, t1⟩ := rs.cons_inv
   obtain ⟨y2, r2, rfl, h2, t2⟩ := t1.cons_inv
   cases t2.nil_inv
   rw [h1.str_inv, h2.int_inv] at rt
   exact .tup rt (.cons (.str _) (.cons (.int _) .nil))
  | wake i =>
   obtain ⟨a, zs, rfl, rt, rs⟩ := h.tup_inv
   obtain ⟨y1, r1, rfl, h1, t1⟩ := rs.cons_inv
   obtain ⟨y2, r2, rfl, h2, t2⟩ := t1.cons_inv
   cases t2.nil_inv
   rw [h1.str_inv, h2.int_inv] at rt
   exact .tup rt (.cons (.str _) (.cons (.int _) .nil))
  | sweep =>
   obtain ⟨a, zs, rfl, rt, rs⟩ := h.tup_inv
   obtain ⟨y1, r1, rfl, h1, t1⟩ := rs.cons_inv
   cases t1.nil_inv
   rw [h1.str_inv] at rt
   exact .tup rt (.cons (.str _) .nil)
theorem deeds_chg {H H' : Hp} {S T : List Addr} {ds : List Deed} {xs : List V} (r : Reps H S xs (ds.map Deed.D)) (c : Chg T H H') : Reps H' S xs (ds.map Deed.D) := deeds_any ((deeds_any (T := T) r).chg c)
def isSweep : Deed → Bool
 | .sweep => true
 | _ => false
def sweeps (ds : List Deed) : Nat := (ds.filter isSweep).length
theorem eqv_sweep (d : Deed) : PyData.eqv d.D (.tuple [.str "sweep"]) = isSweep d := by
 cases d <;> simp [Deed.D, PyData.eqv, PyData.eqvAll, isSweep] <;> decide
theorem shaped_deed (d : Deed) : SeqAt.shaped d.D = true := by
 cases d <;> simp [Deed.D, SeqAt.shaped, PyData.canLay0, PyData.canLayAll0, PyData.depth, PyData.depthAll] <;> decide +kernel
structure DrawnAll (Bs : Int → Prop) (c : Nat) (ds : List Deed) : Prop where
 ok : ∀ d ∈ ds, DeedOk c d
 inn : ∀ d ∈ ds, DeedIn Bs d
 one : sweeps ds ≤ 1
def zsp18 (Bs : Int → Prop) : Sp := fun vs H Q _ => ∃ (a : Addr) (zs : List Int) (c : Nat), vs = [.ref a, .int (c : Int)] ∧ Rd H a (.lst (zs.map .int)) ∧ zs.length ≤ 900000 ∧ 2 ≤ c ∧
 ∀ ds p H', ds.length = zs.length → DrawnAll Bs c ds → H p = none → Same H H' → Rep H' [] (.ref p) (.list (ds.map Deed.D)) → (∃ xs, H' p = some (.lst xs) ∧ Reps H' [] xs (ds.map Deed.D)) → Q (.ref p) H'
theorem zrd18 {Bs : Int → Prop} {K : PySem.W.Frag} {vs : List V} {H : Hp} {Q : VK} {E : XK} (h : zsp18 Bs vs H Q E) :
  zR18 K (zsp0m Bs) { nx := fun _ H' => Q .non H', rt := Q } (start ["_law_cells", "_law_count", "_law_deeds", "_law_swept", "_law_k"] vs) H := by
 obtain ⟨a, zs, c, rfl, ra, hzl, hc, kk⟩ := h
 unfold zR18
 walk_at "go"
 walk_at "new"
 rename_i pd hpd H1 s1 g1
 have ra1 := ra.same s1
 walk_at "go"
 rw [List.length_map]
 refine st_itr (by omega) ?_
 refine for_range (n := zs.length) (fun i σ H' => ∃ v ds xs, σ = [some (.ref a), some (.int (c : Int)), some (.ref pd), some (.bl (ds.any isSweep)), v] ∧ Same H H' ∧ H' pd = some (.lst xs) ∧ Reps H' [] xs (ds.map Deed.D) ∧ ds.length = i ∧ DrawnAll Bs c ds)
  ⟨none, [], [], rfl, s1, g1, .nil, rfl, ⟨fun d hd => (nomatch hd), fun d hd => (nomatch hd), Nat.zero_le _⟩⟩ ?_ ?_
 ·rintro i σ H2 hi ⟨v, ds, xs, rfl, s2, g2, rs, hl, D⟩
  have e0 : ((0 : Int) + (i : Int)) = (i : Int) := Int.zero_add _
  rw [e0]
  have ra2 := ra.same s2
  have hxl : xs.length = ds.length := by rw [rs.length, List.length_map]
  have hget : atI (zs.map V.int) (i : Int) = some (.int zs[i]) := atI_nat (by simp [hi])
  walk_at "go"
  refine ⟨.inl ⟨rfl, _, sqL g2⟩, ?_⟩
  walk_at "go"
  refine st_rI (mulR (by omega)) ?_
  walk_at "go"
  refine ⟨_, i, c, _, rfl, hc, by omega, fun d t H3 dr s3 r3 => ?_⟩
  have g3 := s3 _ _ g2
  walk_at "go"
  refine st_append g3 (len_small (by omega)) ?_
  have cc : Chg [pd] H3 (upd H3 pd (.lst (xs ++ [.ref t]))) := .set (by rw [g3]; exact True.intro) (by simp)
  have s4 : Same H (upd H3 pd (.lst (xs ++ [.ref t]))) := (s2.trans s3).put hpd
  have g4 : upd H3 pd (.lst (xs ++ [.ref t])) pd = some (.lst (xs ++ [.ref t])) := upd_same
  have r4 : Reps (upd H3 pd (.lst (xs ++ [.ref t]))) [] (xs ++ [.ref t]) ((ds ++ [d]).map Deed.D) := by
   rw [List.map_append]
   exact (deeds_chg (rs.same s3) cc).append (deeds_chg (ds := [d]) (.cons r3 .nil) cc)
  have rd4 : Rep (upd H3 pd (.lst (xs ++ [.ref t]))) [] (.ref t) d.D := by
   obtain ⟨_, _, e, z, _⟩ := (deeds_chg (ds := [d]) (.cons r3 .nil) cc).cons_inv
   cases e; exact z
  generalize upd H3 pd (.lst (xs ++ [.ref t])) = H4 at *
  have hlen : (ds ++ [d]).length = i + 1 := by rw [List.length_append, hl]; rfl
  have D' : DrawnAll Bs c (ds ++ [d]) := by
   refine ⟨fun y hy => ?_, fun y hy => ?_, ?_⟩
   ·rcases List.mem_append.mp hy with z | z
    ·exact D.ok y z
    ·rw [List.mem_singleton.mp z]; exact dr.1
   ·rcases List.mem_append.mp hy with z | z
    ·exact D.inn y z
    ·rw [List.mem_singleton.mp z]; exact dr.2.1
   ·unfold sweeps
    rw [List.filter_append, List.length_append]
    cases hs : isSweep d with
    | false => simp [hs]; exact D.one
    | true =>
     have e : d = .sweep := by cases d <;> first | rfl | cases hs
     have h0 := dr.2.2 e
     have : ds.filter isSweep = [] := by
      rw [List.filter_eq_nil_iff]
      intro y hy z
      have := List.any_eq_true.mpr ⟨y, hy, z⟩
      rw [h0] at this; cases this
     rw [this]; simp [hs]
  walk_at "go"
  have ee : (ds ++ [d]).any isSweep = (ds.any isSweep || isSweep d) := by rw [List.any_append]; simp
  cases hsw : ds.any isSweep with
  | true =>
   rw [if_pos rfl]
   walk_at "go"
   rw [hsw, Bool.true_or] at ee
   exact ⟨_, ds ++ [d], _, by rw [ee]; rfl, s4, g4, r4, hlen, D'⟩
  | false =>
   rw [if_neg (by decide)]
   rw [hsw, Bool.false_or] at ee
   walk_at "go"
   refine st_ixL (sqL g4) (atI_last _ _) ?_
   walk_at "goA"
   rename_i t5 ht5 H5 s5 g5
   refine ⟨d.D, .tuple [.str "sweep"], rd4.same s5, .tup (.inl g5) (.cons (.str _) .nil), shaped_deed d, shaped_deed .sweep, ?_⟩
   rw [eqv_sweep]
   walk_at "go"
   exact ⟨_, ds ++ [d], _, by rw [ee]; rfl, s4.trans s5, s5 _ _ g4, r4.same s5, hlen, D'⟩
 ·rintro σ H2 ⟨v, ds, xs, rfl, s2, g2, rs, hl, D⟩
  walk_at "go"
  exact kk ds pd H2 hl D hpd s2 (.lst (.inl g2) (by simp) rs) ⟨_, g2, rs⟩
def zsp02 : Sp := fun vs H Q _ => ∃ (z : Int) (c : Nat), vs = [.int z, .int (c : Int)] ∧ c ≤ 20 ∧ ∀ (ag : List (Int × Int)) (p : Addr) (H' : Hp), ag.length ≤ 80 → H p = none → Same H H' → Rep H' [] (.ref p) (.list (ag.map agD)) → Q (.ref p) H'
theorem ags_any {H : Hp} {S T : List Addr} : ∀ {ag : List (Int × Int)} {xs : List V}, Reps H S xs (ag.map agD) → Reps H T xs (ag.map agD)
 | [], xs, r => by rw [List.map_nil] at r ⊢; rw [r.nil_inv]; exact .nil
 | x :: ag, xs, r => by
  rw [List.map_cons] at r ⊢
  obtain ⟨x, ys, rfl, h, t⟩ := r.cons_inv
  obtain ⟨a, zs, rfl, rt, rs⟩ := h.tup_inv
  obtain ⟨y1, r1, rfl, h1, t1⟩ := rs.cons_inv
  obtain ⟨y2, r2, rfl, h2, t2⟩ := t1.cons_inv
  cases t2.nil_inv
  rw [h1.int_inv, h2.int_inv] at rt
  exact .cons (.tup rt (.cons (.int _) (.cons (.int _) .nil))) (ags_any t)
theorem ags_chg {H H' : Hp} {S T : List Addr} {ag : List (Int × Int)} {xs : List V} (r : Reps H S xs (ag.map agD)) (c : Chg T H H') : Reps H' S xs (ag.map agD) := ags_any ((ags_any (T := T) r).chg c)
theorem zrd02 {K : PySem.W.Frag} {vs : List V} {H : Hp} {Q : VK} {E : XK} (h : zsp02 vs H Q E) :
  zR02 K zsp05 { nx := fun _ H' => Q .non H', rt := Q } (start ["_law_cell", "_law_count", "_law_pairs", "_law_k", "_law_j"] vs) H := by
 obtain ⟨z, c, rfl, hc, kk⟩ := h
 unfold zR02
 walk_at "go"
 walk_at "new"
 rename_i pp hpp H1 s1 g1
 walk_at "go"
 refine st_itr (by omega) ?_
 refine for_range (n := c) (fun i σ H' => ∃ (v w : Option V) (ag : List (Int × Int)) (xs : List V), σ = [some (.int z), some (.int (c : Int)), some (.ref pp), v, w] ∧ Same H H' ∧ H' pp = some (.lst xs) ∧ Reps H' [] xs (ag.map agD) ∧ ag.length ≤ 4 * i)
  ⟨none, none, [], [], rfl, s1, g1, .nil, Nat.le_refl _⟩ ?_ ?_
 ·rintro i σ H2 hi ⟨v, w, ag, xs, rfl, s2, g2, rs, hl⟩
  have e0 : ((0 : Int) + (i : Int)) = (i : Int) := Int.zero_add _
  rw [e0]
  walk_at "go"
  refine st_itr (n := 4) (by decide) ?_
  refine for_range (n := 4) (fun j σ H' => ∃ (w : Option V) (ag : List (Int × Int)) (xs : List V), σ = [some (.int z), some (.int (c : Int)), some (.ref pp), some (.int (i : Int)), w] ∧ Same H H' ∧ H' pp = some (.lst xs) ∧ Reps H' [] xs (ag.map agD) ∧ ag.length ≤ 4 * i + j)
   ⟨w, ag, xs, rfl, s2, g2, rs, hl⟩ ?_ ?_
  ·rintro j σ H3 hj ⟨w, ag, xs, rfl, s3, g3, rs, hl⟩
   have e0 : ((0 : Int) + (j : Int)) = (j : Int) := Int.zero_add _
   rw [e0]
   have hxl : xs.length = ag.length := by rw [rs.length, List.length_map]
   walk_at "go"
   refine st_rI (mulR (by omega)) ?_
   walk_at "go"
   refine st_rI (divR (by omega)) ?_
   walk_at "go"
   have skip : ∀ w', ∃ (w : Option V) (ag : List (Int × Int)) (xs : List V), [some (V.int z), some (.int (c : Int)), some (.ref pp), some (.int (i : Int)), w'] = [some (.int z), some (.int (c : Int)), some (.ref pp), some (.int (i : Int)), w] ∧ Same H H3 ∧ H3 pp = some (.lst xs) ∧ Reps H3 [] xs (ag.map agD) ∧ ag.length ≤ 4 * i + (j + 1) :=
    fun w' => ⟨w', ag, xs, rfl, s3, g3, rs, by omega⟩
   split
   ·walk_at "go"
    split
    ·walk_at "go"
     refine ⟨.inl ⟨rfl, _, sqL g3⟩, ?_⟩
     walk_at "go"
     refine ⟨rfl, fun p H4 hp s4 g4 => ?_⟩
     obtain ⟨v, hv, hat⟩ := atI_mem (xs := allB.map V.int) (r := (j : Int)) (by omega) (by show _ < (4 : Int); omega)
     obtain ⟨n, hn, rfl⟩ := List.mem_map.mp hv
     walk_at "goA"
     rename_i t ht H5 s5 g5
     have gp5 := s5 _ _ (s4 _ _ g3)
     refine st_append gp5 (len_small (by omega)) ?_
     have cc : Chg [pp] H5 (upd H5 pp (.lst (xs ++ [.ref t]))) := .set (by rw [gp5]; exact True.intro) (by simp)
     have ntp : t ≠ pp := ne_of g5 gp5 (by intro z; cases z)
     refine ⟨_, ag ++ [((i : Int), n)], _, rfl, ((s3.trans s4).trans s5).put hpp, upd_same, ?_, by rw [List.length_append]; show ag.length + 1 ≤ _; omega⟩
     rw [List.map_append]
     exact (ags_chg ((rs.same s4).same s5) cc).snoc (.tup (.inl (upd_at ntp g5)) (.cons (.int _) (.cons (.int _) .nil)))
    ·walk_at "go"
     exact skip _
   ·rw [if_neg (by decide)]
    walk_at "go"
    exact skip _
  ·rintro σ H3 ⟨w, ag, xs, rfl, s3, g3, rs, hl⟩
   exact ⟨_, w, ag, xs, rfl, s3, g3, rs, by omega⟩
 ·rintro σ H2 ⟨v, w, ag, xs, rfl, s2, g2, rs, hl⟩
  walk_at "go"
  exact kk ag pp H2 (by omega) hpp s2 (.lst (.inl g2) (by simp) rs)
theorem left_le {c : Nat} {ag : List (Int × Int)} {bl : List Int} {S : HallS} (I : Inv c ag (· ∈ bl) S) {i : Nat} {h : HS} (hi : S.hs[i]? = some h) : (leftOpen h.book).length ≤ bl.length :=
 nodup_le _ _ (left_nodup I hi) fun n hn => I.bs i n (by rw [(left_words I hi hn).2]; simp)
structure Cap (S : HallS) (L U : Nat) : Prop where
 l : S.ls.length ≤ L
 u : S.un.length ≤ U
theorem send_cap {S : HallS} {sent : List Letter} {L U G : Nat} (h : Cap S L U) (hs : sent.length ≤ G) : Cap (S.send sent) (L + G) (U + G) := by
 refine ⟨?_, ?_⟩
 ·show (S.ls ++ sent).length ≤ _; rw [List.length_append]; have := h.l; omega
 ·show (S.un ++ _).length ≤ _; rw [List.length_append, List.length_map, List.length_range]; have := h.u; omega
theorem Cap.more {S : HallS} {L U L' U' : Nat} (h : Cap S L U) (hl : L ≤ L') (hu : U ≤ U') : Cap S L' U' := ⟨Nat.le_trans h.l hl, Nat.le_trans h.u hu⟩
theorem post_cap {S : HallS} {i : Nat} {r : HS × List Letter} {st : Bool} {L U G : Nat} (h : Cap S L U) (hs : r.2.length ≤ G) : Cap (S.post i r st) (L + G) (U + G) := by
 unfold HallS.post
 cases st with
 | true => exact send_cap (S := S.put i r.1) ⟨h.l, h.u⟩ hs
 | false => exact Cap.more (S := S.put i r.1.stop) ⟨h.l, h.u⟩ (by omega) (by omega)
theorem othersOf_lt {i c : Nat} (hi : i < c) : (othersOf (i : Int) c).length + 1 ≤ c := by
 have := nodup_le ((i : Int) :: othersOf (i : Int) c) ((List.range c).map fun (k : Nat) => (k : Int)) (List.nodup_cons.mpr ⟨fun z => (mem_others z).2.2 rfl, by
  unfold othersOf
  exact (List.Pairwise.filter _ (List.Pairwise.map _ (fun a b h z => h (by omega)) List.nodup_range))⟩) fun x hx => by
   rcases List.mem_cons.mp hx with rfl | z
   ·exact List.mem_map.mpr ⟨i, List.mem_range.mpr hi, rfl⟩
   ·unfold othersOf at z; exact (List.mem_filter.mp z).1
 rw [List.length_cons, List.length_map, List.length_range] at this
 exact this
theorem HallOk.oth1 {c : Nat} {S : HallS} (ok : HallOk c S) {i : Nat} {h : HS} (hi : S.hs[i]? = some h) : h.oth.length + 1 ≤ c := by
 rw [(ok.num i h hi).2]; exact othersOf_lt (ok.il hi)
theorem do_cap {c : Nat} {ag : List (Int × Int)} {bl : List Int} {S : HallS} (I : Inv c ag (· ∈ bl) S) {L U G : Nat} (h : Cap S L U) (hG : c ≤ G) (hB : bl.length * (c - 1) ≤ G) (d : Deed) (hd : isSweep d = false) : Cap (S.do d).1 (L + G) (U + G) := by
 have stay : Cap S (L + G) (U + G) := h.more (by omega) (by omega)
 cases d with
 | begin n st =>
  show Cap (S.begin n st).1 _ _
  unfold HallS.begin
  split
  ·exact stay
  ·rename_i g hi
   split
   ·refine post_cap h (Nat.le_trans (begin_len g n) ?_)
    have := I.ok.oth1 hi; omega
   ·exact stay
 | carry k st =>
  show Cap (S.carry k st).1 _ _
  unfold HallS.carry
  split
  ·exact stay
  ·unfold HallS.carryL
   split
   ·exact stay
   ·rename_i g hi
    split
    ·refine post_cap h (Nat.le_trans (got_len g _) ?_)
     have := I.ok.oth1 hi; omega
    ·exact stay
 | query i n =>
  show Cap (S.query i n).1 _ _
  unfold HallS.query
  split
  ·exact stay
  ·rename_i g hi
   refine send_cap h (Nat.le_trans (query_len g n) ?_)
   have := I.ok.oth1 hi; omega
 | stop i =>
  show Cap (S.stop i).1 _ _
  unfold HallS.stop
  split
  ·exact stay
  ·split
   ·exact Cap.more (S := S.put _ _) ⟨h.l, h.u⟩ (by omega) (by omega)
   ·exact stay
 | wake i =>
  show Cap (S.wake i).1 _ _
  unfold HallS.wake
  split
  ·exact stay
  ·rename_i g hi
   split
   ·exact stay
   ·refine send_cap (S := S.put i g.wake.1) ⟨h.l, h.u⟩ ?_
    rw [wake_len]
    refine Nat.le_trans (Nat.mul_le_mul (left_le I hi) (Nat.le_refl _)) (Nat.le_trans (Nat.mul_le_mul (Nat.le_refl _) ?_) hB)
    have := I.ok.oth1 hi; omega
 | sweep => cases hd
theorem turn_same (S : HallS) (k : Nat) : (S.turn k).1.ls.length + S.un.length = S.ls.length + (S.turn k).1.un.length := by
 unfold HallS.turn
 split
 ·rfl
 ·unfold HallS.carryL
  split
  ·rfl
  ·split
   ·unfold HallS.post
    rw [if_pos rfl]
    show (S.ls ++ _).length + S.un.length = S.ls.length + (S.un ++ _).length
    rw [List.length_append, List.length_append, List.length_map, List.length_range]; omega
   ·rfl
theorem sweep_same : ∀ (f : Nat) (S : HallS) (pl : Nat) (w : List (Int × Line)) (r : HallS × List (Int × Line)), S.sweepGo f pl w = some r → r.1.ls.length + S.un.length = S.ls.length + r.1.un.length
 | 0, S, pl, w, r, h => by
  unfold HallS.sweepGo at h
  split at h
  ·cases h
  ·cases h; rfl
 | f + 1, S, pl, w, r, h => by
  unfold HallS.sweepGo at h
  split at h
  ·rename_i lt
   have h1 := sweep_same f _ _ _ _ h
   have h2 := turn_same S S.un[pl]
   omega
  ·cases h; rfl
theorem sweep_cap {c : Nat} {S : HallS} (ok : HallOk c S) {L U : Nat} (h : Cap S L U) : S.sweepR.1.un.length ≤ 22 * U ∧ S.sweepR.1.ls.length ≤ L + 22 * U ∧ Cap (S.do .sweep).1 (L + 22 * U) (22 * U) := by
 obtain ⟨h1, h2, h3⟩ := sweepR_ok ok
 have h4 := sweep_same _ _ _ _ _ h1
 have hl := h.l
 have hu := h.u
 refine ⟨by omega, by omega, by show S.sweepR.1.ls.length ≤ _; omega, ?_⟩
 show (S.sweepR.1.un.filter _).length ≤ _
 exact Nat.le_trans (List.length_filter_le _ _) (by omega)
theorem roomy_plain {c : Nat} {ag : List (Int × Int)} {bl : List Int} {S : HallS} (I : Inv c ag (· ∈ bl) S) (hb : bl.length ≤ 1000) {L U N : Nat} (h : Cap S L U) (hN : N ≤ 700000) (hL : L ≤ 800000) (hU : U ≤ 800000) (d : Deed) (hd : isSweep d = false) : S.roomy N d ∧ S.cost d ≤ 1000 := by
 have sm : Small S N := ⟨hN, Nat.le_trans h.l hL, Nat.le_trans h.u hU⟩
 cases d with
 | begin n st => exact ⟨sm, by show 3 ≤ 1000; omega⟩
 | carry k st => exact ⟨sm, by show 3 ≤ 1000; omega⟩
 | query i n => exact ⟨sm, by show 3 ≤ 1000; omega⟩
 | stop i => exact ⟨sm, by show 3 ≤ 1000; omega⟩
 | wake i => exact ⟨⟨sm, fun g hi => Nat.le_trans (left_le I hi) hb⟩, Nat.le_refl _⟩
 | sweep => cases hd
theorem room0 {c : Nat} {ag : List (Int × Int)} {bl : List Int} {G : Nat} (hG : c ≤ G) (hB : bl.length * (c - 1) ≤ G) (hb : bl.length ≤ 1000) : ∀ (ds : List Deed) (S : HallS) (L U N : Nat), Inv c ag (· ∈ bl) S → (∀ d ∈ ds, DeedIn (· ∈ bl) d) → sweeps ds = 0 → Cap S L U →
  N + 1000 * ds.length ≤ 700000 → L + G * ds.length ≤ 800000 → U + G * ds.length ≤ 800000 → S.roomyAll N ds ∧ Cap (S.run ds).1 (L + G * ds.length) (U + G * ds.length) ∧ S.costAll ds ≤ 1000 * ds.length
 | [], S, L, U, N, I, _, _, h, _, _, _ => ⟨True.intro, h.more (Nat.le_add_right _ _) (Nat.le_add_right _ _), Nat.le_refl _⟩
 | d :: r, S, L, U, N, I, hin, hsw, h, hN, hL, hU => by
  have hd : isSweep d = false := by
   cases e : isSweep d with
   | false => rfl
   | true => unfold sweeps at hsw; rw [List.filter_cons, if_pos e] at hsw; cases hsw
  have hsw' : sweeps r = 0 := by unfold sweeps at hsw ⊢; rwa [List.filter_cons, if_neg (by rw [hd]; decide)] at hsw
  rw [List.length_cons, Nat.mul_succ] at hN hL hU
  obtain ⟨r1, r2⟩ := roomy_plain I hb h (by omega) (by omega) (by omega) d hd (N := N)
  have h' := do_cap I h hG hB d hd
  obtain ⟨a, b, e⟩ := room0 hG hB hb r (S.do d).1 (L + G) (U + G) (N + S.cost d) (I.do d (hin d (by simp))) (fun x hx => hin x (List.mem_cons_of_mem _ hx)) hsw' h' (by omega) (by omega) (by omega)
  refine ⟨⟨r1, a⟩, ?_, ?_⟩
  ·rw [List.length_cons, Nat.mul_succ]
   exact Cap.more (S := ((S.do d).1.run r).1) b (by omega) (by omega)
  ·show S.cost d + (S.do d).1.costAll r ≤ _
   rw [List.length_cons, Nat.mul_succ]; omega
theorem room1 {c : Nat} {ag : List (Int × Int)} {bl : List Int} {G : Nat} (hG : c ≤ G) (hB : bl.length * (c - 1) ≤ G) (hb : bl.length ≤ 1000) : ∀ (ds : List Deed) (S : HallS) (L U N : Nat), Inv c ag (· ∈ bl) S → (∀ d ∈ ds, DeedIn (· ∈ bl) d) → sweeps ds ≤ 1 → Cap S L U →
  N + 1000 * ds.length + 66 * (U + G * ds.length) ≤ 700000 → L + G * ds.length + 22 * (U + G * ds.length) ≤ 800000 →
  S.roomyAll N ds ∧ Cap (S.run ds).1 (L + G * ds.length + 22 * (U + G * ds.length)) (22 * (U + G * ds.length)) ∧ S.costAll ds ≤ 1000 * ds.length + 66 * (U + G * ds.length)
 | [], S, L, U, N, I, _, _, h, _, _ => ⟨True.intro, h.more (by omega) (by omega), Nat.zero_le _⟩
 | d :: r, S, L, U, N, I, hin, hsw, h, hN, hL => by
  rw [List.length_cons, Nat.mul_succ, Nat.mul_succ] at hN
  rw [List.length_cons, Nat.mul_succ] at hL
  cases hd : isSweep d with
  | false =>
   have hsw' : sweeps r ≤ 1 := by unfold sweeps at hsw ⊢; rwa [List.filter_cons, if_neg (by rw [hd]; decide)] at hsw
   obtain ⟨r1, r2⟩ := roomy_plain I hb h (by omega) (by omega) (by omega) d hd (N := N)
   have h' := do_cap I h hG hB d hd
   obtain ⟨a, b, e⟩ := room1 hG hB hb r (S.do d).1 (L + G) (U + G) (N + S.cost d) (I.do d (hin d (by simp))) (fun x hx => hin x (List.mem_cons_of_mem _ hx)) hsw' h' (by omega) (by omega)
   refine ⟨⟨r1, a⟩, ?_, ?_⟩
   ·rw [List.length_cons, Nat.mul_succ]
    exact Cap.more (S := ((S.do d).1.run r).1) b (by omega) (by omega)
   ·show S.cost d + (S.do d).1.costAll r ≤ _
    rw [List.length_cons, Nat.mul_succ, Nat.mul_succ]; omega
  | true =>
   have ed : d = .sweep := by cases d <;> first | rfl | cases hd
   subst ed
   have hsw' : sweeps r = 0 := by unfold sweeps at hsw ⊢; rw [List.filter_cons, if_pos hd, List.length_cons] at hsw; omega
   obtain ⟨s1, s2, s3⟩ := sweep_cap I.ok h
   obtain ⟨a, b, e⟩ := room0 hG hB hb r (S.do .sweep).1 (L + 22 * U) (22 * U) (N + S.cost .sweep) (I.do .sweep (hin .sweep (by simp))) (fun x hx => hin x (List.mem_cons_of_mem _ hx)) hsw' s3 (by show N + 3 * _ + _ ≤ _; omega) (by omega) (by omega)
   refine ⟨⟨⟨by omega, by omega⟩, a⟩, ?_, ?_⟩
   ·rw [List.length_cons, Nat.mul_succ]
    exact Cap.more (S := ((S.do .sweep).1.run r).1) b (by omega) (by omega)
   ·show 3 * S.sweepR.1.un.length + (S.do .sweep).1.costAll r ≤ _
    rw [List.length_cons, Nat.mul_succ, Nat.mul_succ]; omega
theorem cap_new (c : Nat) (ag : List (Int × Int)) : Cap (newHall c ag) 0 0 := ⟨Nat.le_refl _, Nat.le_refl _⟩
theorem room_drawn {c : Nat} (ag : List (Int × Int)) {ds : List Deed} (h1 : 2 ≤ c) (h2 : c ≤ 7) (hl : ds.length ≤ 20) (D : DrawnAll (· ∈ allB) c ds) : (newHall c ag).roomyAll 0 ds := by
 have I := Inv.new (c := c) ag (· ∈ allB) h1 (by omega)
 have hB : allB.length * (c - 1) ≤ 24 := by show 4 * (c - 1) ≤ 24; omega
 exact (room1 (G := 24) (by omega) hB (by decide) ds _ 0 0 0 I D.inn D.one (cap_new c ag) (by omega) (by omega)).1
def saidW (c i : Nat) (n : Int) : Str := if i = ld c n then "open" else "yes"
def formsW (s : Str) : List (List Str) := [[], [s], [s, "bound"], [s, "off"], ["no"], ["off"]]
theorem WI1.forms {c : Nat} {n : Int} {A : Nat → Prop} {v : Nat → List Str} (I : WI1 c (ld c n) A v) {i : Nat} (hi : i < c) : v i ∈ formsW (saidW c i n) := by
 unfold saidW
 split
 ·rename_i e
  rcases I.sl with z | z | z | z | z <;> rw [e, z] <;> simp [formsW]
 ·rename_i e
  rcases I.so i hi e with z | z | z | z | z | z <;> rw [z] <;> simp [formsW]
def spLaw (K : PySem.W.Frag) : Sp := fun vs H Q _ => ∃ (a : Addr) (ns : List Int), vs = [.ref a] ∧ SqL K H a (ns.map V.int) ∧ ns.length ≤ 63 ∧ ∀ H', Q (.bl true) H'
theorem cut_some (ns : List Int) (lo hi : Nat) : ∃ cs : List Int, cutV (ns.map V.int) (some (lo : Int)) (some (hi : Int)) = cs.map V.int ∧ cs.length ≤ hi - lo := by
 refine ⟨(ns.drop (HT.sIx (ns.map V.int).length 0 (some (lo : Int)))).take (HT.sIx (ns.map V.int).length (ns.map V.int).length (some (hi : Int)) - HT.sIx (ns.map V.int).length 0 (some (lo : Int))), ?_, ?_⟩
 ·unfold cutV
  rw [List.map_take, List.map_drop]
 ·rw [List.length_take]
  have e1 : HT.sIx (ns.map V.int).length 0 (some (lo : Int)) = min lo (ns.map V.int).length := by unfold HT.sIx; simp; omega
  have e2 : HT.sIx (ns.map V.int).length (ns.map V.int).length (some (hi : Int)) = min hi (ns.map V.int).length := by unfold HT.sIx; simp; omega
  rw [e1, e2, List.length_drop, List.length_map]
  omega
theorem hallWords {c : Nat} {ag : List (Int × Int)} {Bs : Int → Prop} {S : HallS} (I : Inv c ag Bs S) {b : List Line} (hb : b ∈ S.hs.map fun h => h.book) : LineWs b ∧ ∀ l ∈ b, Bs l.2 := by
 obtain ⟨h, hm, rfl⟩ := List.mem_map.mp hb
 obtain ⟨i, hi, e⟩ := List.getElem_of_mem hm
 have hg : S.hs[i]? = some h := by rw [List.getElem?_eq_getElem hi, e]
 have il := I.ok.il hg
 have inw : ∀ l ∈ h.book, l.1 ∈ wOf S i l.2 := fun l hl => by
  rw [wOf_at hg]
  exact List.mem_map.mpr ⟨l, List.mem_filter.mpr ⟨hl, by simp⟩, rfl⟩
 refine ⟨fun l hl => ?_, fun l hl => I.bsL (inw l hl)⟩
 have h1 := inw l hl
 have h2 := (I.wi l.2).forms il
 unfold formsW at h2
 have hs : isLineW (saidW c i l.2) := by unfold saidW isLineW; split <;> simp
 simp only [List.mem_cons, List.not_mem_nil, or_false] at h2
 rcases h2 with z | z | z | z | z | z <;> rw [z] at h1 <;> simp only [List.mem_cons, List.not_mem_nil, or_false] at h1
 ·rw [h1]; exact hs
 ·rcases h1 with h1 | h1
  ·rw [h1]; exact hs
  ·rw [h1]; exact .inr (.inr (.inr (.inl rfl)))
 ·rcases h1 with h1 | h1
  ·rw [h1]; exact hs
  ·rw [h1]; exact .inr (.inr (.inr (.inr rfl)))
 ·rw [h1]; exact .inr (.inr (.inl rfl))
 ·rw [h1]; exact .inr (.inr (.inr (.inr rfl)))
theorem filter_swap {α : Type} (p q : α → Bool) (b : List α) : (b.filter q).filter p = (b.filter p).filter q := by
 rw [List.filter_filter, List.filter_filter]
 congr 1
 funext x
 exact Bool.and_comm _ _
theorem split_len {α : Type} (b : List α) (p : α → Bool) : (b.filter p).length + (b.filter fun x => !p x).length = b.length := by
 induction b with
 | nil => rfl
 | cons x r ih =>
  rw [List.filter_cons, List.filter_cons]
  cases p x <;> simp <;> omega
theorem book_small {c : Nat} {ag : List (Int × Int)} {bl : List Int} {S : HallS} (I : Inv c ag (· ∈ bl) S) {b : List Line} (hb : b ∈ S.hs.map fun h => h.book) : b.length ≤ 2 * bl.length := by
 obtain ⟨h, hm, rfl⟩ := List.mem_map.mp hb
 obtain ⟨i, hi, e⟩ := List.getElem_of_mem hm
 have hg : S.hs[i]? = some h := by rw [List.getElem?_eq_getElem hi, e]
 have il := I.ok.il hg
 have two : ∀ n, (wordsOf h.book n).length ≤ 2 := fun n => by
  have h2 := (I.wi n).forms il
  rw [wOf_at hg] at h2
  unfold formsW at h2
  simp only [List.mem_cons, List.not_mem_nil, or_false] at h2
  rcases h2 with z | z | z | z | z | z <;> rw [z] <;> simp
 have hin : ∀ l ∈ h.book, l.2 ∈ bl := fun l hl => (hallWords I (List.mem_map.mpr ⟨h, hm, rfl⟩)).2 l hl
 have key : ∀ (bl : List Int) (b : List Line), (∀ l ∈ b, l.2 ∈ bl) → (∀ n, (wordsOf b n).length ≤ 2) → b.length ≤ 2 * bl.length := by
  intro bl
  induction bl with
  | nil =>
   intro b hb _
   cases b with
   | nil => exact Nat.le_refl _
   | cons l r => exact absurd (hb l (by simp)) (by simp)
  | cons m r ih =>
   intro b hb h2
   have h3 := ih (b.filter fun l => !decide (l.2 = m)) (fun l hl => by
    obtain ⟨h4, h5⟩ := List.mem_filter.mp hl
    rcases List.mem_cons.mp (hb l h4) with z | z
    ·simp [z] at h5
    ·exact z) (fun n => by
     refine Nat.le_trans ?_ (h2 n)
     unfold wordsOf
     rw [List.length_map, List.length_map, filter_swap]
     exact List.length_filter_le _ _)
   have h4 := h2 m
   unfold wordsOf at h4
   rw [List.length_map] at h4
   have h5 := split_len b fun l => decide (l.2 = m)
   rw [List.length_cons]
   omega
 exact key bl h.book hin two
end Oh
set_option Elab.async false
set_option linter.all false
set_option maxRecDepth 100000
namespace L2
open PySem PySem.Spec PyProof.Rows
variable {X : Cx}
def rSum (K : PySem.W.Frag) : List V → Hp → VK → Prop := fun xs H Q => ∃ p zs, xs = [.ref p] ∧ SqL K H p (zs.map V.int) ∧ Q (.int (List.sum zs)) H
theorem ints_items : ∀ (zs : List Int) (its : List Value), Vals (zs.map V.int) its → ∃ xs : List (Int × Tok), its = xs.map (fun p => Value.int p.1 p.2) ∧ xs.map (·.1) = zs
 | [], its, r => by cases its with
  | nil => exact ⟨[], rfl, rfl⟩
  | cons _ _ => exact absurd r.length (by simp)
 | z :: zs, its, r => by
  cases r with
  | cons h t =>
   obtain ⟨k, rfl⟩ := h
   obtain ⟨xs, rfl, e⟩ := ints_items zs _ t
   exact ⟨(z, k) :: xs, rfl, by rw [List.map_cons, e]⟩
theorem call_sum (hc : X.calm = true) : CallR X (.builtin "sum") (rSum X.K) := by
 intro pins s σ H xs us Q I r h
 obtain ⟨p, zs, rfl, hq, q⟩ := h
 obtain ⟨u, rfl, rx⟩ := vals1 r
 cases rx
 obtain ⟨its, r', pl, hz⟩ := I.list hq
 obtain ⟨xs, rfl, e⟩ := ints_items zs _ r'
 have hi : (xs.map fun p => Value.int p.1 p.2).toArray = intItems xs.toArray := by unfold intItems; simp
 have hl := pl.isList
 rw [hi] at hl
 refine sum_intListG (I.ok.hd hc) hl fun h' tk t' k => ⟨.int (List.sum zs), H, I.kept k, ⟨t', ?_⟩, q⟩
 rw [preSum_eq, List.take_of_length_le (by simp), List.toList_toArray, e]
theorem st_sum {K : PySem.W.Frag} {H : Hp} {a : Addr} {zs : List Int} {Q : VK} (h : SqL K H a (zs.map V.int)) (q : Q (.int (List.sum zs)) H) : rSum K [.ref a] H Q := ⟨a, zs, rfl, h, q⟩
end L2
set_option Elab.async false
set_option linter.all false
set_option maxRecDepth 100000
set_option maxHeartbeats 4000000
namespace Oh
open PySem L2
local macro_rules | `(tactic| walk_at "ne") => `(tactic| first | assumption | (refine' Ne.symm ?k1; (case k1 => assumption)) | (refine' ne_new ?k1 ?k2; (case k1 => assumption); (case k2 => walk_at "hl")) | (refine' ne_newR ?k1 ?k2; (case k1 => assumption); (case k2 => walk_at "rd")) | (refine' Ne.symm (ne_new ?k1 ?k2); (case k1 => assumption); (case k2 => walk_at "hl")) | (refine' Ne.symm (ne_newR ?k1 ?k2); (case k1 => assumption); (case k2 => walk_at "rd")))
local macro_rules | `(tactic| walk_at "hl") => `(tactic| with_reducible first | assumption | exact upd_same | (refine' upd_at ?k1 ?k2; (case k1 => walk_at "ne"); (case k2 => walk_at "hl")) | (refine' Same.at ?k1 ?k2; (case k1 => assumption); (case k2 => walk_at "hl")))
local macro_rules | `(tactic| walk_at "rd") => `(tactic| with_reducible first | assumption | (refine' Rd.of ?k1; (case k1 => walk_at "hl")) | (refine' Rd.upd ?k1 ?k2; (case k1 => walk_at "ne"); (case k2 => walk_at "rd")) | (refine' Rd.same ?k1 ?k2; (case k1 => assumption); (case k2 => walk_at "rd")))
local macro_rules | `(tactic| walk_at "sq") => `(tactic| with_reducible first | assumption | (refine' sqLr ?k1; (case k1 => walk_at "rd")) | (refine' sqTr ?k1; (case k1 => walk_at "rd")) | (refine' SqL.new ?k1 ?k2; (case k1 => assumption); (case k2 => walk_at "sq")) | (refine' Same.seq ?k1 ?k2; (case k1 => assumption); (case k2 => walk_at "sq")))
local macro_rules | `(tactic| walk_at "rf") => `(tactic| first | with_unfolding_all rfl | assumption)
local macro_rules | `(tactic| walk_at "fl") => `(tactic| first | with_unfolding_all rfl | exact flat_strs _ | exact flat_ints _)
local macro_rules | `(tactic| walk_at "st") => `(tactic| with_reducible first
 | refine st_seq ?_ | refine st_asg ?_ | refine st_gname ?_ | refine st_if ?_ | refine st_ret ?_ | refine st_retN ?_
 | refine st_drop ?_ | refine st_next ?_ | refine st_test ?_ | refine st_B ?_ | refine st_bl ?_ | refine st_int ?_
 | refine st_and ?_ | refine st_or ?_ | refine st_not ?_ | refine st_andV ?_ | refine st_orV ?_ | refine st_notV ?_ | refine st_ifE ?_
 | refine st_chain ?_ | refine st_op ?_ | refine st_un ?_ | refine st_isN ?_ | refine st_notN ?_
 | refine st_nil ?_ | refine st_cons ?_ | refine st_tup ?_ | refine st_lst ?_ | refine st_dnew ?_ | refine st_call ?_ | refine st_cb ?_
 | (refine' st_var ?k1 ?_; (case k1 => walk_at "rf")) | refine st_c ?_
 | refine st_rI0 ?_ | refine st_rU ?_ | (refine' st_rI ?k1 ?_; (case k1 => first | exact mulR (by decide) | exact divR (by decide) | decide | (show (0 : Int) < _; decide)))
 | (refine' st_rEq ?k1 ?_; (case k1 => walk_at "rf")) | (refine' st_rNe ?k1 ?_; (case k1 => walk_at "rf"))
 | (refine' st_ixL ?k1 ?k2 ?_; (case k1 => walk_at "sq"); (case k2 => walk_at "rf")) | (refine' st_ixT ?k1 ?k2 ?_; (case k1 => walk_at "sq"); (case k2 => walk_at "rf"))
 | (refine' st_lenL ?k1 ?_; (case k1 => walk_at "sq")) | (refine' st_lenT ?k1 ?_; (case k1 => walk_at "sq"))
 | (refine' st_inL ?k1 ?k2 ?k3 ?_; (case k1 => walk_at "sq"); (case k2 => walk_at "rf"); (case k3 => walk_at "fl"))
 | (refine' st_inT ?k1 ?k2 ?k3 ?_; (case k1 => walk_at "sq"); (case k2 => walk_at "rf"); (case k3 => walk_at "fl"))
 | (refine' st_listL ?k1 ?_; (case k1 => walk_at "sq")) | refine st_min ?_ | refine st_intB ?_
 | refine st_sl ?_ | refine st_noPart ?_ | refine st_part ?_ | (refine' st_slL ?k1 ?_; (case k1 => walk_at "sq"))
 | refine st_meth ?_ | (refine' st_insM ?k1 ?k2 ?_; (case k1 => walk_at "hl"); (case k2 => walk_at "rf")) | refine st_sfld ?_
 | (refine' st_ins ?k1 ?k2 ?k3 ?k4 ?_; (case k1 => walk_at "hl"); (case k2 => assumption); (case k3 => assumption); (case k4 => walk_at "rf")) | (refine' st_lenD ?k1 ?_; (case k1 => walk_at "hl"))
 | refine st_bm ?_ | refine st_fld ?_ | refine st_dput ?_ | refine st_dget2 ?_ | refine st_dget ?_ | refine st_dsetd ?_
 | refine st_for ?_ | refine st_iList ?_ | (refine' st_itl ?k1 ?_; (case k1 => walk_at "sq")) | refine st_iRng ?_ | refine st_lc ?_ | refine st_noIf ?_
 | (refine' st_sz ?k1 ?_; (case k1 => with_unfolding_all rfl))
 | (refine' st_isD ?k1 ?_; (case k1 => walk_at "hl")) | (refine' st_dgetK ?k1 ?_; (case k1 => walk_at "hl")))
local macro_rules | `(tactic| walk_at "go") => `(tactic| repeat walk_at "st")
local macro_rules | `(tactic| walk_at "new") => `(tactic| ((with_reducible refine st_all ?_); intro p hp; generalize hH : upd _ p _ = H'; have hs := same_of hp hH; have hg := at_of hH; clear hH))
local macro_rules | `(tactic| walk_at "sm") => `(tactic| with_reducible first | assumption | exact Same.refl _ | (refine' Same.trans ?k1 ?k2; (case k2 => assumption); (case k1 => walk_at "sm")))
local macro_rules | `(tactic| walk_at "goA") => `(tactic| repeat (first | walk_at "st" | walk_at "new"))
def Wrote (S S' : HallS) (f : Nat → List Line) : Prop := ∀ (j : Nat) (h : HS), S.hs[j]? = some h → ∃ h', S'.hs[j]? = some h' ∧ h'.book = h.book ++ f j
theorem Wrote.refl (S : HallS) : Wrote S S fun _ => [] := fun _ h hj => ⟨h, hj, (List.append_nil _).symm⟩
theorem Wrote.trans {S S1 S2 : HallS} {f g : Nat → List Line} (a : Wrote S S1 f) (b : Wrote S1 S2 g) : Wrote S S2 fun j => f j ++ g j := fun j h hj => by
 obtain ⟨h1, e1, b1⟩ := a j h hj
 obtain ⟨h2, e2, b2⟩ := b j h1 e1
 exact ⟨h2, e2, by rw [b2, b1, List.append_assoc]⟩
def oneF (i : Nat) (ls : List Line) : Nat → List Line := fun j => if j = i then ls else []
theorem Wrote.put {S : HallS} {i : Nat} {h g : HS} {ls : List Line} (hi : S.hs[i]? = some h) (e : g.book = h.book ++ ls) : Wrote S (S.put i g) (oneF i ls) := fun j x hx => by
 show ∃ h', (S.hs.set i g)[j]? = some h' ∧ _
 unfold oneF
 by_cases z : i = j
 ·subst z
  rw [hi] at hx
  cases hx
  exact ⟨g, List.getElem?_set_self (List.getElem?_eq_some_iff.mp hi).1, by rw [if_pos rfl]; exact e⟩
 ·exact ⟨x, by rw [List.getElem?_set_ne z]; exact hx, by rw [if_neg (fun y => z y.symm), List.append_nil]⟩
theorem Wrote.post {S : HallS} {i : Nat} {h : HS} {r : HS × List Letter} {st : Bool} {ls : List Line} (hi : S.hs[i]? = some h) (e : r.1.book = h.book ++ ls) : Wrote S (S.post i r st) (oneF i ls) := by
 unfold HallS.post
 cases st with
 | true => exact Wrote.put hi e
 | false => exact Wrote.put (g := r.1.stop) hi e
theorem more_is {b b' : List Line} (h : ∃ a, b' = b ++ a) : b' = b ++ b'.drop b.length := by
 obtain ⟨a, rfl⟩ := h; rw [List.drop_left]
theorem got_more (h : HS) (l : Letter) : ∃ a, (h.got l).1.book = h.book ++ a := by
 unfold HS.got HS.gotAsk HS.asked HS.gotQuery HS.gotVote HS.gotDecision HS.decide HS.wr HS.count
 repeat' split
 all_goals first | exact ⟨[], (List.append_nil _).symm⟩ | exact ⟨_, rfl⟩
theorem begin_more (h : HS) (n : Int) : ∃ a, (h.begin n).1.book = h.book ++ a ∧ a.length ≤ 1 := by
 unfold HS.begin HS.wr
 split
 ·exact ⟨_, rfl, Nat.le_refl _⟩
 ·exact ⟨_, rfl, Nat.le_refl _⟩
theorem carry_wrote (S : HallS) (l : Letter) (st : Bool) : ((S.carryL l st).2 = .non ∧ (S.carryL l st).1 = S) ∨ ∃ ls, (S.carryL l st).2 = .lines ls ∧ ls.length ≤ 1 ∧ Wrote S (S.carryL l st).1 (oneF l.2.1.toNat ls) := by
 unfold HallS.carryL
 cases hh : S.hs[l.2.1.toNat]? with
 | none => exact .inl ⟨rfl, rfl⟩
 | some h =>
  dsimp only
  by_cases u : h.up = true
  ·rw [if_pos u]
   refine .inr ⟨_, rfl, ?_, Wrote.post hh (more_is (got_more h l))⟩
   rw [List.length_drop]; have := got_book1 h l; omega
  ·rw [if_neg u]; exact .inl ⟨rfl, rfl⟩
def pf (ps : List (Int × Line)) (j : Nat) : List Line := (ps.filter fun p => decide (p.1 = (j : Int))).map (·.2)
theorem pf_app (a b : List (Int × Line)) (j : Nat) : pf (a ++ b) j = pf a j ++ pf b j := by unfold pf; rw [List.filter_append, List.map_append]
theorem pf_told {z : Int} (z0 : 0 ≤ z) (ls : List Line) (j : Nat) : pf (ls.map fun x => (z, x)) j = oneF z.toNat ls j := by
 unfold pf oneF
 by_cases e : j = z.toNat
 ·rw [if_pos e]
  have : z = (j : Int) := by omega
  subst this
  rw [List.filter_eq_self.mpr (fun p hp => by obtain ⟨x, _, rfl⟩ := List.mem_map.mp hp; simp), List.map_map]
  exact List.map_id' _
 ·rw [if_neg e, List.filter_eq_nil_iff.mpr (fun p hp => by obtain ⟨x, _, rfl⟩ := List.mem_map.mp hp; simp; omega)]; rfl
def InC (c : Nat) (ps : List (Int × Line)) : Prop := ∀ p ∈ ps, 0 ≤ p.1 ∧ p.1 < c
theorem turn_wrote {c : Nat} {S : HallS} (ok : HallOk c S) (k : Nat) : Wrote S (S.turn k).1 (pf (S.turn k).2) ∧ InC c (S.turn k).2 := by
 unfold HallS.turn
 cases hl : S.ls[k]? with
 | none => exact ⟨Wrote.refl S, fun p hp => by cases hp⟩
 | some l =>
  dsimp only
  have lo := ok.let_ l (List.mem_of_getElem? hl)
  rcases carry_wrote S l true with ⟨e1, e2⟩ | ⟨ls, e1, _, w⟩
  ·rw [e1, e2]; exact ⟨Wrote.refl S, fun p hp => by cases hp⟩
  ·rw [e1]
   refine ⟨fun j h hj => ?_, fun p hp => ?_⟩
   ·obtain ⟨h', a, b⟩ := w j h hj
    exact ⟨h', a, by rw [b]; show _ = _ ++ pf (ls.map fun x => (l.2.1, x)) j; rw [pf_told lo.t0]⟩
   ·obtain ⟨x, _, rfl⟩ := List.mem_map.mp hp
    exact ⟨lo.t0, lo.t1⟩
theorem sweep_wrote {c : Nat} (S0 : HallS) : ∀ (f : Nat) (S : HallS) (pl : Nat) (w : List (Int × Line)) (r : HallS × List (Int × Line)), HallOk c S → S.sweepGo f pl w = some r → Wrote S0 S (pf w) → InC c w → Wrote S0 r.1 (pf r.2) ∧ InC c r.2
 | 0, S, pl, w, r, ok, h, a, b => by
  unfold HallS.sweepGo at h
  split at h
  ·cases h
  ·cases Option.some.inj h; exact ⟨a, b⟩
 | f + 1, S, pl, w, r, ok, h, a, b => by
  unfold HallS.sweepGo at h
  split at h
  ·rename_i lt
   obtain ⟨t1, t2⟩ := turn_wrote ok S.un[pl]
   refine sweep_wrote S0 f _ _ _ r ok.turn h ?_ ?_
   ·intro j x hx
    obtain ⟨h', e1, e2⟩ := (a.trans t1) j x hx
    exact ⟨h', e1, by rw [e2, pf_app]⟩
   ·intro p hp
    rcases List.mem_append.mp hp with z | z
    ·exact b p z
    ·exact t2 p z
  ·cases Option.some.inj h; exact ⟨a, b⟩
inductive WR (c : Nat) (S : HallS) : Deed → Ans → (Nat → List Line) → Prop
 | sweep (ps : List (Int × Line)) : InC c ps → WR c S .sweep (.pairs ps) (pf ps)
 | stop (i : Nat) (b : Bool) : WR c S (.stop i) (.bl b) fun _ => []
 | query (i : Nat) (n : Int) (b : Bool) : WR c S (.query i n) (.bl b) fun _ => []
 | begin0 (n : Int) (st : Bool) : WR c S (.begin n st) .non fun _ => []
 | carry0 (k : Int) (st : Bool) : WR c S (.carry k st) .non fun _ => []
 | wake0 (i : Nat) : WR c S (.wake i) .non fun _ => []
 | begin (n : Int) (st : Bool) (ls : List Line) : ls.length ≤ 1 → WR c S (.begin n st) (.lines ls) (oneF (S.lead n) ls)
 | carry (k : Int) (st : Bool) (l : Letter) (ls : List Line) : 0 ≤ k → S.ls[k.toNat]? = some l → LetOk c l → ls.length ≤ 1 → WR c S (.carry k st) (.lines ls) (oneF l.2.1.toNat ls)
 | wake (i : Nat) (ls : List Line) : i < c → WR c S (.wake i) (.lines ls) (oneF i ls)
theorem do_wrote {c : Nat} {S : HallS} (ok : HallOk c S) {d : Deed} (dk : DeedOk c d) : ∃ f, WR c S d (S.do d).2 f ∧ Wrote S (S.do d).1 f := by
 cases d with
 | begin n st =>
  show ∃ f, WR c S _ (S.begin n st).2 f ∧ Wrote S (S.begin n st).1 f
  unfold HallS.begin
  cases hh : S.hs[S.lead n]? with
  | none => exact ⟨_, .begin0 n st, Wrote.refl S⟩
  | some h =>
   dsimp only
   split
   ·obtain ⟨a, e, l⟩ := begin_more h n
    refine ⟨_, .begin n st _ ?_, Wrote.post hh (more_is ⟨a, e⟩)⟩
    rw [e, List.drop_left]; exact l
   ·exact ⟨_, .begin0 n st, Wrote.refl S⟩
 | carry k st =>
  show ∃ f, WR c S _ (S.carry k st).2 f ∧ Wrote S (S.carry k st).1 f
  unfold HallS.carry
  cases hl : S.ls[k.toNat]? with
  | none => exact ⟨_, .carry0 k st, Wrote.refl S⟩
  | some l =>
   dsimp only
   rcases carry_wrote S l st with ⟨e1, e2⟩ | ⟨ls, e1, le, w⟩
   ·rw [e1, e2]; exact ⟨_, .carry0 k st, Wrote.refl S⟩
   ·rw [e1]; exact ⟨_, .carry k st l ls dk hl (ok.let_ l (List.mem_of_getElem? hl)) le, w⟩
 | query i n =>
  show ∃ f, WR c S _ (S.query i n).2 f ∧ Wrote S (S.query i n).1 f
  obtain ⟨h, hh⟩ : ∃ h, S.hs[i]? = some h := ⟨_, List.getElem?_eq_getElem (show i < S.hs.length by rw [ok.len]; exact dk)⟩
  unfold HallS.query
  rw [hh]
  exact ⟨_, .query i n _, Wrote.refl S⟩
 | stop i =>
  show ∃ f, WR c S _ (S.stop i).2 f ∧ Wrote S (S.stop i).1 f
  obtain ⟨h, hh⟩ : ∃ h, S.hs[i]? = some h := ⟨_, List.getElem?_eq_getElem (show i < S.hs.length by rw [ok.len]; exact dk)⟩
  unfold HallS.stop
  rw [hh]
  dsimp only
  split
  ·refine ⟨_, .stop i true, fun j x hx => ?_⟩
   obtain ⟨h', e1, e2⟩ := Wrote.put (S := S) (g := h.stop) (ls := []) hh (List.append_nil _).symm j x hx
   exact ⟨h', e1, by rw [e2]; unfold oneF; split <;> rfl⟩
  ·exact ⟨_, .stop i false, Wrote.refl S⟩
 | wake i =>
  show ∃ f, WR c S _ (S.wake i).2 f ∧ Wrote S (S.wake i).1 f
  obtain ⟨h, hh⟩ : ∃ h, S.hs[i]? = some h := ⟨_, List.getElem?_eq_getElem (show i < S.hs.length by rw [ok.len]; exact dk)⟩
  unfold HallS.wake
  rw [hh]
  dsimp only
  split
  ·exact ⟨_, .wake0 i, Wrote.refl S⟩
  ·exact ⟨_, .wake i _ dk, Wrote.put (S := S) hh (more_is ⟨_, wake_book h⟩)⟩
 | sweep =>
  obtain ⟨a, b⟩ := sweep_wrote (c := c) S S.fuel S 0 [] _ ok (sweepR_ok ok).1 (Wrote.refl S) (fun p hp => by cases hp)
  exact ⟨_, .sweep _ b, a⟩
theorem sum_add (f g : Nat → Int) : ∀ l : List Nat, (l.map fun j => f j + g j).sum = (l.map f).sum + (l.map g).sum
 | [] => rfl
 | x :: r => by
  rw [List.map_cons, List.map_cons, List.map_cons, List.sum_cons, List.sum_cons, List.sum_cons, sum_add f g r]; omega
theorem sum_one {p : Int} (p0 : 0 ≤ p) : ∀ n : Nat, ((List.range n).map fun (j : Nat) => if p = (j : Int) then (1 : Int) else 0).sum = if p < n then 1 else 0
 | 0 => by rw [if_neg (by omega)]; rfl
 | n + 1 => by
  rw [List.range_succ, List.map_append, List.sum_append, sum_one p0 n]
  by_cases e : p = (n : Int)
  ·simp [e]; omega
  ·by_cases l : p < n
   ·rw [if_pos l, if_pos (by omega)]; simp [e]
   ·rw [if_neg l, if_neg (by omega)]; simp [e]
theorem sum_pf {c : Nat} : ∀ {ps : List (Int × Line)}, InC c ps → ((List.range c).map fun j => ((pf ps j).length : Int)).sum = ps.length
 | [], _ => by
  have : ∀ l : List Nat, (l.map fun j => ((pf [] j).length : Int)).sum = 0 := fun l => by
   induction l with
   | nil => rfl
   | cons x r ih => rw [List.map_cons, List.sum_cons, ih]; rfl
  exact this _
 | p :: ps, h => by
  have e : (fun j : Nat => ((pf (p :: ps) j).length : Int)) = fun j : Nat => (if p.1 = (j : Int) then (1 : Int) else 0) + ((pf ps j).length : Int) := by
   funext j
   unfold pf
   by_cases z : p.1 = (j : Int)
   ·rw [List.filter_cons_of_pos (by simpa using z), if_pos z]; simp; omega
   ·rw [List.filter_cons_of_neg (by simpa using z), if_neg z]; simp
  rw [e, sum_add, sum_one (h p List.mem_cons_self).1, if_pos (h p List.mem_cons_self).2, sum_pf (fun q hq => h q (List.mem_cons_of_mem _ hq)), List.length_cons]
  omega
theorem flat_one {i : Nat} (ls : List Line) : ∀ n : Nat, ((List.range n).flatMap fun j => oneF i ls j) = if i < n then ls else []
 | 0 => rfl
 | n + 1 => by
  rw [List.range_succ, List.flatMap_append, flat_one ls n]
  unfold oneF
  by_cases e : n = i
  ·subst e; rw [if_neg (by omega), if_pos (by omega)]; simp
  ·by_cases l : i < n
   ·rw [if_pos l, if_pos (by omega)]; simp [e]
   ·rw [if_neg l, if_neg (by omega)]; simp [e]
def zR1h (K : PySem.W.Frag) (zsp1h : Sp) : TS :=
  (tSeq (tIfS (tB (tIsN (tVar 1)))
  (tRet (tIsN (tVar 0)))
  tNext)
  (tSeq (tIfS (tB (tCB (rIsi K) (tCons (tVar 1) (tCons (tC (.ty "bool")) tNil))))
  (tRet (tAndV (tCB (rIsi K) (tCons (tVar 0) (tCons (tC (.ty "bool")) tNil))) (tOp rEq (tVar 0) (tVar 1))))
  tNext)
  (tSeq (tIfS (tB (tCB (rIsi K) (tCons (tVar 1) (tCons (tC (.ty "int")) tNil))))
  (tRet (tAndV (tCB (rIsi K) (tCons (tVar 0) (tCons (tC (.ty "int")) tNil))) (tAndV (tNotV (tCB (rIsi K) (tCons (tVar 0) (tCons (tC (.ty "bool")) tNil)))) (tOp rEq (tVar 0) (tVar 1)))))
  tNext)
  (tSeq (tIfS (tB (tCB (rIsi K) (tCons (tVar 1) (tCons (tC (.ty "str")) tNil))))
  (tRet (tAndV (tCB (rIsi K) (tCons (tVar 0) (tCons (tC (.ty "str")) tNil))) (tOp rEq (tVar 0) (tVar 1))))
  tNext)
  (tSeq (tIfS (tB (tCB (rIsi K) (tCons (tVar 1) (tCons (tC (.ty "dict")) tNil))))
  tNever
  tNext)
  (tSeq (tIfS (tTest (tOp rNe (tCB (rIsi K) (tCons (tVar 1) (tCons (tC (.ty "tuple")) tNil))) (tCB (rIsi K) (tCons (tVar 0) (tCons (tC (.ty "tuple")) tNil)))))
  (tRet (tC (.bl false)))
  tNext)
  (tSeq (tIfS (tOr (tTest (tOp rNe (tCB (rIsi K) (tCons (tVar 1) (tCons (tC (.ty "list")) tNil))) (tCB (rIsi K) (tCons (tVar 0) (tCons (tC (.ty "list")) tNil))))) (tNot (tB (tCB (rIsi2 K) (tCons (tVar 1) (tCons (tTup (tCons (tC (.ty "list")) (tCons (tC (.ty "tuple")) tNil))) tNil))))))
  (tRet (tC (.bl false)))
  tNext)
  (tSeq (tIfS (tTest (tOp rNe (tCB (rLenQ K) (tCons (tVar 0) tNil)) (tCB (rLenQ K) (tCons (tVar 1) tNil))))
  (tRet (tC (.bl false)))
  tNext)
  (tSeq (tFor (iRng1 (tCons (tCB (rLenQ K) (tCons (tVar 1) tNil)) tNil)) (gName 2)
  (tIfS (tNot (tB (tCall zsp1h [] E0 (tCons (tOp (rIx K) (tVar 0) (tVar 2)) (tCons (tOp (rIx K) (tVar 1) (tVar 2)) tNil)))))
  (tRet (tC (.bl false)))
  tNext))
  (tRet (tC (.bl true))))))))))))
def zR1c (K : PySem.W.Frag)  : TS :=
  (tSeq (tIfS (tTest (tOp rNeD (tSl (rSlL K) (tVar 1) tNoPart (tPart (tCB (rLenQ K) (tCons (tVar 0) tNil)))) (tVar 0)))
  (tRet (tC .non))
  tNext)
  (tRet (tSl (rSlL K) (tVar 1) (tPart (tCB (rLenQ K) (tCons (tVar 0) tNil))) tNoPart)))
def zR0q (K : PySem.W.Frag) (zsp14 : Sp) (zsp0s : Sp) (zsp1h : Sp) (zsp0e : Sp) : TS :=
  (tSeq (tAsg (tLst tNil) (gName 5))
  (tSeq (tIfS (tTest (tOp rEq (tOp (rIxT K) (tVar 1) (tC (.int 0))) (tC (.str "sweep"))))
  (tSeq (tIfS (tNot (tB (tCB (rIsi K) (tCons (tVar 2) (tCons (tC (.ty "list")) tNil)))))
  (tRet (tC (.bl false)))
  tNext)
  (tSeq (tFor (iList K (tVar 2)) (gName 6)
  (tSeq (tIfS (tOr (tNot (tB (tCB (rIsi K) (tCons (tVar 6) (tCons (tC (.ty "tuple")) tNil))))) (tTest (tOp rNe (tCB (rLenQ K) (tCons (tVar 6) tNil)) (tC (.int 2)))))
  (tRet (tC (.bl false)))
  tNext)
  (tIfS (tOr (tNot (tB (tCall zsp14 [] E0 (tCons (tOp (rIxT K) (tVar 6) (tC (.int 0))) tNil)))) (tNot (tB (tCall zsp0s [] E0 (tCons (tOp (rIxT K) (tVar 6) (tC (.int 1))) tNil)))))
  (tRet (tC (.bl false)))
  tNext)))
  (tSeq (tFor (iRng1 (tCons (tVar 3) tNil)) (gName 7)
  (tIfS (tNot (tB (tCall zsp1h [] E0 (tCons (tOp (rIxL K) (tVar 0) (tVar 7)) (tCons (tLC (iList K (tVar 2)) (gName 0) (tTest (tOp rEq (tOp (rIxT K) (tVar 0) (tC (.int 0))) (tVar 1))) (tOp (rIxT K) (tVar 0) (tC (.int 1))) [none, some 7]) tNil)))))
  (tRet (tC (.bl false)))
  tNext))
  (tRet (tOp rEq (tCB (rSum K) (tCons (tLC (iList K (tVar 0)) (gName 0) tNoIf (tCB (rLenQ K) (tCons (tVar 0) tNil)) [none]) tNil)) (tCB (rLenQ K) (tCons (tVar 2) tNil)))))))
  tNext)
  (tSeq (tAsg (tLst tNil) (gName 8))
  (tSeq (tFor (iList K (tVar 0)) (gName 9)
  (tAsg (tOp rCat (tVar 8) (tVar 9)) (gName 8)))
  (tSeq (tIfS (tOr (tTest (tOp rEq (tOp (rIxT K) (tVar 1) (tC (.int 0))) (tC (.str "stop")))) (tTest (tOp rEq (tOp (rIxT K) (tVar 1) (tC (.int 0))) (tC (.str "query")))))
  (tRet (tAndV (tCB (rIsi K) (tCons (tVar 2) (tCons (tC (.ty "bool")) tNil))) (tOp rEqD (tVar 8) (tLst tNil))))
  tNext)
  (tSeq (tIfS (tB (tIsN (tVar 2)))
  (tRet (tOp rEqD (tVar 8) (tLst tNil)))
  tNext)
  (tSeq (tIfS (tOr (tNot (tB (tCall zsp0e [] E0 (tCons (tVar 2) tNil)))) (tTest (tOp rNeD (tVar 2) (tVar 8))))
  (tRet (tC (.bl false)))
  tNext)
  (tCut (tIfS (tTest (tOp rEq (tOp (rIxT K) (tVar 1) (tC (.int 0))) (tC (.str "begin"))))
  (tAsg (tOp (rIxL K) (tVar 0) (tOp rModI (tOp (rIxT K) (tVar 1) (tC (.int 1))) (tVar 3))) (gName 5))
  (tIfS (tTest (tOp rEq (tOp (rIxT K) (tVar 1) (tC (.int 0))) (tC (.str "wake"))))
  (tAsg (tOp (rIxL K) (tVar 0) (tOp (rIxT K) (tVar 1) (tC (.int 1)))) (gName 5))
  (tAsg (tOp (rIxL K) (tVar 0) (tOp (rIxT K) (tOp (rIxL K) (tVar 4) (tOp (rIxT K) (tVar 1) (tC (.int 1)))) (tC (.int 1)))) (gName 5))))
  (tRet (tAndV (tOp rEqD (tVar 5) (tVar 8)) (tOrV (tOp rLtI (tCB (rLenQ K) (tCons (tVar 8) tNil)) (tC (.int 2))) (tOp rEq (tOp (rIxT K) (tVar 1) (tC (.int 0))) (tC (.str "wake"))))))))))))))
def zR1j (K : PySem.W.Frag) (zsp1g : Sp) (zsp02 : Sp) (zsp18 : Sp) (zsp1d : Sp) (zsp0p : Sp) (zsp0h : Sp) (zsp1c : Sp) (zsp0g : Sp) (zsp06 : Sp) (zsp0q : Sp) : TS :=
  (tSeq (tAsg (tOp (rIxL K) (tLst (tCons (tC (.int 2)) (tCons (tC (.int 3)) (tCons (tC (.int 4)) (tCons (tC (.int 2)) (tCons (tC (.int 3)) (tCons (tC (.int 4)) (tCons (tC (.int 2)) (tCons (tC (.int 7)) tNil))))))))) (tOp rModI (tOp rModI (tOp rMulI (tCall zsp1g [] E0 (tCons (tVar 0) (tCons (tC (.int 0)) tNil))) (tC (.int 48271))) (tC (.int 1049))) (tC (.int 8)))) (gName 1))
  (tSeq (tAsg (tCall zsp02 [] E0 (tCons (tCall zsp1g [] E0 (tCons (tVar 0) (tCons (tC (.int 1)) tNil))) (tCons (tVar 1) tNil))) (gName 2))
  (tSeq (tAsg (tCall zsp18 [] E0 (tCons (tSl (rSlL K) (tVar 0) (tPart (tC (.int 3))) (tPart (tC (.int 23)))) (tCons (tVar 1) tNil))) (gName 3))
  (tSeq (tAsg (tCB (rListQ K) (tCons (tVar 3) tNil)) (gName 4))
  (tSeq (tAsg (tCall zsp1d [] E0 (tCons (tVar 1) (tCons (tCB (rListQ K) (tCons (tVar 2) tNil)) (tCons (tVar 4) tNil)))) (gName 5))
  (tSeq (tIfS (tOr (tNot (tB (tCB (rIsi K) (tCons (tVar 5) (tCons (tC (.ty "list")) tNil))))) (tOr (tTest (tOp rNe (tCB (rLenQ K) (tCons (tVar 5) tNil)) (tCB (rLenQ K) (tCons (tVar 3) tNil)))) (tTest (tOp rNeD (tVar 4) (tVar 3)))))
  (tRet (tC (.bl false)))
  tNext)
  (tSeq (tFor (iRng1 (tCons (tC (.int 3)) tNil)) (gName 6)
  (tIfS (tTest (tOp rGtI (tCB (rLenQ K) (tCons (tVar 3) tNil)) (tC (.int 0))))
  (tSeq (tAsg (tOp rModI (tOp rModI (tOp rMulI (tOp rDivI (tCall zsp1g [] E0 (tCons (tVar 0) (tCons (tC (.int 2)) tNil))) (tOp rAddI (tOp rMulI (tC (.int 5)) (tVar 6)) (tC (.int 1)))) (tC (.int 48271))) (tC (.int 1051))) (tCB (rLenQ K) (tCons (tVar 3) tNil))) (gName 7))
  (tSeq (tAsg (tCall zsp0p [] E0 (tCons (tVar 1) (tCons (tCB (rListQ K) (tCons (tVar 2) tNil)) (tCons (tSl (rSlL K) (tVar 3) tNoPart (tPart (tVar 7))) tNil)))) (gName 8))
  (tSeq (tAsg (tCall zsp0p [] E0 (tCons (tVar 1) (tCons (tCB (rListQ K) (tCons (tVar 2) tNil)) (tCons (tSl (rSlL K) (tVar 3) tNoPart (tPart (tOp rAddI (tVar 7) (tC (.int 1))))) tNil)))) (gName 9))
  (tSeq (tIfS (tNot (tB (tCall zsp0h [] E0 (tCons (tVar 8) (tCons (tVar 1) tNil)))))
  (tRet (tC (.bl false)))
  tNext)
  (tSeq (tIfS (tNot (tB (tCall zsp0h [] E0 (tCons (tVar 9) (tCons (tVar 1) tNil)))))
  (tRet (tC (.bl false)))
  tNext)
  (tSeq (tAsg (tLC (iRng1 (tCons (tVar 1) tNil)) (gName 0) tNoIf (tCall zsp1c [] E0 (tCons (tOp (rIxL K) (tVar 1) (tVar 0)) (tCons (tOp (rIxL K) (tVar 2) (tVar 0)) tNil))) [none, some 8, some 9]) (gName 10))
  (tSeq (tIfS (tTest (tOp (rInD false) (tC .non) (tVar 10)))
  (tRet (tC (.bl false)))
  tNext)
  (tSeq (tAsg (tCall zsp0g [] E0 (tCons (tVar 1) (tCons (tCB (rListQ K) (tCons (tVar 2) tNil)) (tCons (tSl (rSlL K) (tVar 3) tNoPart (tPart (tVar 7))) tNil)))) (gName 11))
  (tSeq (tIfS (tNot (tB (tCall zsp06 [] E0 (tCons (tVar 11) (tCons (tVar 1) tNil)))))
  (tRet (tC (.bl false)))
  tNext)
  (tIfS (tNot (tB (tCall zsp0q [] E0 (tCons (tVar 10) (tCons (tOp (rIxL K) (tVar 3) (tVar 7)) (tCons (tOp (rIxL K) (tVar 5) (tVar 7)) (tCons (tVar 1) (tCons (tVar 11) tNil))))))))
  (tRet (tC (.bl false)))
  tNext))))))))))
  tNext))
  (tRet (tC (.bl true))))))))))
def SoOk : Nat → PyData → Prop
 | _, .int _ => True
 | _, .str _ => True
 | d + 1, .list ds => ds.length ≤ 1000 ∧ ∀ e ∈ ds, SoOk d e
 | d + 1, .tuple ds => ds.length ≤ 1000 ∧ ∀ e ∈ ds, SoOk d e
 | _, _ => False
def zsp1h (d : Nat) : Sp := fun vs H Q _ => ∃ x y D, vs = [x, y] ∧ Rep H [] x D ∧ Rep H [] y D ∧ SoOk d D ∧ ∀ H', Same H H' → Q (.bl true) H'
def spSub : Nat → Sp
 | 0 => fun _ _ _ _ => False
 | d + 1 => zsp1h d
section
variable (K : PySem.W.Frag)
theorem kit_sb : PySem.W.kitOne K (.type "str") (.type "bool") = some false := by with_unfolding_all rfl
theorem kit_si : PySem.W.kitOne K (.type "str") (.type "int") = some false := by with_unfolding_all rfl
theorem kit_lb : PySem.W.kitOne K (.type "list") (.type "bool") = some false := by with_unfolding_all rfl
theorem kit_li : PySem.W.kitOne K (.type "list") (.type "int") = some false := by with_unfolding_all rfl
theorem kit_ls : PySem.W.kitOne K (.type "list") (.type "str") = some false := by with_unfolding_all rfl
theorem kit_ld : PySem.W.kitOne K (.type "list") (.type "dict") = some false := by with_unfolding_all rfl
theorem kit_lt : PySem.W.kitOne K (.type "list") (.type "tuple") = some false := by with_unfolding_all rfl
theorem kit_tb : PySem.W.kitOne K (.type "tuple") (.type "bool") = some false := by with_unfolding_all rfl
theorem kit_ti : PySem.W.kitOne K (.type "tuple") (.type "int") = some false := by with_unfolding_all rfl
theorem kit_ts : PySem.W.kitOne K (.type "tuple") (.type "str") = some false := by with_unfolding_all rfl
theorem kit_td : PySem.W.kitOne K (.type "tuple") (.type "dict") = some false := by with_unfolding_all rfl
theorem kit_tl : PySem.W.kitOne K (.type "tuple") (.type "list") = some false := by with_unfolding_all rfl
end
theorem zrd1h {K : PySem.W.Frag} (d : Nat) {vs : List V} {H : Hp} {Q : VK} {E : XK} (h : zsp1h d vs H Q E) : zR1h K (spSub d) { nx := fun _ H' => Q .non H', rt := Q } (start ["_law_found", "_law_meant", "_law_k"] vs) H := by
 obtain ⟨x, y, D, rfl, rx, ry, ok, k⟩ := h
 unfold zR1h
 cases D with
 | int i =>
  cases rx.int_inv
  cases ry.int_inv
  walk_at "go"
  refine iteF ?_
  walk_at "go"
  refine ⟨_, _, _, false, rfl, TyO.int _, kit_int_bool _, ?_⟩
  walk_at "go"
  refine iteF ?_
  walk_at "go"
  refine ⟨_, _, _, true, rfl, TyO.int _, kit_same _ _, ?_⟩
  walk_at "go"
  refine iteT ?_
  walk_at "go"
  refine ⟨_, _, _, true, rfl, TyO.int _, kit_same _ _, ?_⟩
  walk_at "go"
  refine iteT ?_
  walk_at "go"
  refine ⟨_, _, _, false, rfl, TyO.int _, kit_int_bool _, ?_⟩
  walk_at "go"
  refine iteT ?_
  walk_at "go"
  rw [decide_eq_true rfl]
  exact k H (Same.refl _)
 | str i =>
  cases rx.str_inv
  cases ry.str_inv
  walk_at "go"
  refine iteF ?_
  walk_at "go"
  refine ⟨_, _, _, false, rfl, TyO.str _, kit_sb _, ?_⟩
  walk_at "go"
  refine iteF ?_
  walk_at "go"
  refine ⟨_, _, _, false, rfl, TyO.str _, kit_si _, ?_⟩
  walk_at "go"
  refine iteF ?_
  walk_at "go"
  refine ⟨_, _, _, true, rfl, TyO.str _, kit_same _ _, ?_⟩
  walk_at "go"
  refine iteT ?_
  walk_at "go"
  refine ⟨_, _, _, true, rfl, TyO.str _, kit_same _ _, ?_⟩
  walk_at "go"
  refine iteT ?_
  walk_at "go"
  rw [decide_eq_true rfl]
  exact k H (Same.refl _)
 | list ds =>
  cases d with
  | zero => exact ok.elim
  | succ d =>
   obtain ⟨hl, hd⟩ := ok
   obtain ⟨a1, xs, rfl, g1, _, r1⟩ := rx.lst_inv
   obtain ⟨a2, ys, rfl, g2, _, r2⟩ := ry.lst_inv
   have l1 : xs.length = ds.length := r1.length
   have l2 : ys.length = ds.length := r2.length
   walk_at "go"
   refine iteF ?_
   walk_at "go"
   refine ⟨_, _, _, false, rfl, TyO.list g2, kit_lb _, ?_⟩
   walk_at "go"
   refine iteF ?_
   walk_at "go"
   refine ⟨_, _, _, false, rfl, TyO.list g2, kit_li _, ?_⟩
   walk_at "go"
   refine iteF ?_
   walk_at "go"
   refine ⟨_, _, _, false, rfl, TyO.list g2, kit_ls _, ?_⟩
   walk_at "go"
   refine iteF ?_
   walk_at "go"
   refine ⟨_, _, _, false, rfl, TyO.list g2, kit_ld _, ?_⟩
   walk_at "go"
   refine iteF ?_
   walk_at "go"
   refine ⟨_, _, _, false, rfl, TyO.list g2, kit_lt _, ?_⟩
   walk_at "go"
   refine ⟨_, _, _, false, rfl, TyO.list g1, kit_lt _, ?_⟩
   walk_at "go"
   refine iteF ?_
   walk_at "go"
   refine ⟨_, _, _, true, rfl, TyO.list g2, kit_same _ _, ?_⟩
   walk_at "go"
   refine ⟨_, _, _, true, rfl, TyO.list g1, kit_same _ _, ?_⟩
   walk_at "go"
   refine iteF ?_
   walk_at "goA"
   rename_i pt hpt H1 s1 gt
   have g1' := g1.same s1
   have g2' := g2.same s1
   refine ⟨_, _, _, _, _, true, rfl, .inl ⟨_, g2', rfl⟩, gt, kit_list2 K, ?_⟩
   walk_at "go"
   refine iteF ?_
   walk_at "go"
   rw [if_neg (by simp [l1, l2])]
   walk_at "go"
   refine st_itr (n := ys.length) (by omega) ?_
   refine for_range (n := ys.length) (fun i σ H' => ∃ v, σ = [some (.ref a1), some (.ref a2), v] ∧ Same H H') ⟨none, rfl, s1⟩ ?_ ?_
   ·rintro i σ H2 hi ⟨v, rfl, s2⟩
    obtain ⟨e1, he1⟩ : ∃ e, xs[i]? = some e := ⟨xs[i]'(by omega), List.getElem?_eq_getElem _⟩
    obtain ⟨e2, he2⟩ : ∃ e, ys[i]? = some e := ⟨ys[i], List.getElem?_eq_getElem _⟩
    obtain ⟨d1, hd1, q1⟩ := r1.get he1
    obtain ⟨d2, hd2, q2⟩ := r2.get he2
    rw [hd1] at hd2
    cases Option.some.inj hd2
    have e0 : ((0 : Int) + (i : Int)) = (i : Int) := Int.zero_add _
    walk_at "go"
    refine .inl (st_ixL (sqLr (g1.same s2)) (by rw [e0]; exact atI_nat he1) ?_)
    walk_at "go"
    refine .inl (st_ixL (sqLr (g2.same s2)) (by rw [e0]; exact atI_nat he2) ?_)
    walk_at "go"
    refine ⟨e1, e2, d1, rfl, q1.same s2, q2.same s2, hd d1 (List.mem_of_getElem? hd1), fun H3 s3 => ?_⟩
    walk_at "go"
    refine iteF ?_
    walk_at "go"
    exact ⟨_, rfl, s2.trans s3⟩
   ·rintro σ H2 ⟨v, rfl, s2⟩
    walk_at "go"
    exact k H2 s2
 | tuple ds =>
  cases d with
  | zero => exact ok.elim
  | succ d =>
   obtain ⟨hl, hd⟩ := ok
   obtain ⟨a1, xs, rfl, g1, r1⟩ := rx.tup_inv
   obtain ⟨a2, ys, rfl, g2, r2⟩ := ry.tup_inv
   have l1 : xs.length = ds.length := r1.length
   have l2 : ys.length = ds.length := r2.length
   walk_at "go"
   refine iteF ?_
   walk_at "go"
   refine ⟨_, _, _, false, rfl, TyO.tup g2, kit_tb _, ?_⟩
   walk_at "go"
   refine iteF ?_
   walk_at "go"
   refine ⟨_, _, _, false, rfl, TyO.tup g2, kit_ti _, ?_⟩
   walk_at "go"
   refine iteF ?_
   walk_at "go"
   refine ⟨_, _, _, false, rfl, TyO.tup g2, kit_ts _, ?_⟩
   walk_at "go"
   refine iteF ?_
   walk_at "go"
   refine ⟨_, _, _, false, rfl, TyO.tup g2, kit_td _, ?_⟩
   walk_at "go"
   refine iteF ?_
   walk_at "go"
   refine ⟨_, _, _, true, rfl, TyO.tup g2, kit_same _ _, ?_⟩
   walk_at "go"
   refine ⟨_, _, _, true, rfl, TyO.tup g1, kit_same _ _, ?_⟩
   walk_at "go"
   refine iteF ?_
   walk_at "go"
   refine ⟨_, _, _, false, rfl, TyO.tup g2, kit_tl _, ?_⟩
   walk_at "go"
   refine ⟨_, _, _, false, rfl, TyO.tup g1, kit_tl _, ?_⟩
   walk_at "go"
   refine iteF ?_
   walk_at "goA"
   rename_i pt hpt H1 s1 gt
   have g1' := g1.same s1
   have g2' := g2.same s1
   refine ⟨_, _, _, _, _, true, rfl, .inr ⟨_, g2', rfl⟩, gt, kit_tup2 K, ?_⟩
   walk_at "go"
   refine iteF ?_
   refine st_test (st_op (st_cb (st_cons (st_var (by rfl) (st_nil (st_lenT (sqTr g1') ?_))))))
   refine st_cb (st_cons (st_var (by rfl) (st_nil (st_lenT (sqTr g2') ?_))))
   walk_at "go"
   rw [if_neg (by simp [l1, l2])]
   refine st_next (st_seq (st_for (st_iRng (st_cons (st_cb (st_cons (st_var (by rfl) (st_nil (st_lenT (sqTr g2') ?_)))))))))
   walk_at "go"
   refine st_itr (n := ys.length) (by omega) ?_
   refine for_range (n := ys.length) (fun i σ H' => ∃ v, σ = [some (.ref a1), some (.ref a2), v] ∧ Same H H') ⟨none, rfl, s1⟩ ?_ ?_
   ·rintro i σ H2 hi ⟨v, rfl, s2⟩
    obtain ⟨e1, he1⟩ : ∃ e, xs[i]? = some e := ⟨xs[i]'(by omega), List.getElem?_eq_getElem _⟩
    obtain ⟨e2, he2⟩ : ∃ e, ys[i]? = some e := ⟨ys[i], List.getElem?_eq_getElem _⟩
    obtain ⟨d1, hd1, q1⟩ := r1.get he1
    obtain ⟨d2, hd2, q2⟩ := r2.get he2
    rw [hd1] at hd2
    cases Option.some.inj hd2
    have e0 : ((0 : Int) + (i : Int)) = (i : Int) := Int.zero_add _
    walk_at "go"
    refine .inr (.inl (st_ixT (sqTr (g1.same s2)) (by rw [e0]; exact atI_nat he1) ?_))
    walk_at "go"
    refine .inr (.inl (st_ixT (sqTr (g2.same s2)) (by rw [e0]; exact atI_nat he2) ?_))
    walk_at "go"
    refine ⟨e1, e2, d1, rfl, q1.same s2, q2.same s2, hd d1 (List.mem_of_getElem? hd1), fun H3 s3 => ?_⟩
    walk_at "go"
    refine iteF ?_
    walk_at "go"
    exact ⟨_, rfl, s2.trans s3⟩
   ·rintro σ H2 ⟨v, rfl, s2⟩
    walk_at "go"
    exact k H2 s2
 | none => cases d <;> exact ok.elim
 | bool b => cases d <;> exact ok.elim
 | dict b => cases d <;> exact ok.elim
theorem so_book {b : List Line} (h : b.length ≤ 1000) : SoOk 2 (bookD b) := by
 refine ⟨by rw [List.length_map]; exact h, fun e he => ?_⟩
 obtain ⟨l, _, rfl⟩ := List.mem_map.mp he
 refine ⟨by show 2 ≤ 1000; decide, fun e he => ?_⟩
 simp only [List.mem_cons, List.not_mem_nil, or_false] at he
 rcases he with rfl | rfl
 ·exact True.intro
 ·exact True.intro
theorem cutTakeN {xs : List V} {i : Nat} (h : i ≤ xs.length) : cutV xs none (some (i : Int)) = xs.take i := by
 unfold cutV
 have e1 : HT.sIx xs.length 0 none = 0 := rfl
 have e2 : HT.sIx xs.length xs.length (some (i : Int)) = i := by
  unfold HT.sIx
  simp only
  rw [if_neg (by omega)]
  simp; omega
 rw [e1, e2]; simp
theorem LineWs.okB {b : List Line} (h : LineWs b) : OkB b := fun l hl => (h l hl).ok
theorem lines_chg' {H H' : Hp} {S T : List Addr} {b : List Line} {xs : List V} (r : Reps H S xs (b.map lineD)) (c : Chg T H H') : Reps H' S xs (b.map lineD) := lines_any ((lines_any (T := T) r).chg c)
def zsp1c : Sp := fun vs H Q _ => ∃ a b x r, vs = [.ref a, .ref b] ∧ Rep H [] (.ref a) (bookD x) ∧ Rep H [] (.ref b) (bookD (x ++ r)) ∧ OkB x ∧ ∀ p zs H', H p = none → Same H H' → H' p = some (.lst zs) → Reps H' [] zs (r.map lineD) → Q (.ref p) H'
theorem zrd1c {K : PySem.W.Frag} {vs : List V} {H : Hp} {Q : VK} {E : XK} (h : zsp1c vs H Q E) : zR1c K { nx := fun _ H' => Q .non H', rt := Q } (start ["_law_before", "_law_behind"] vs) H := by
 obtain ⟨a, b, x, r, rfl, ra, rb, ok, k⟩ := h
 obtain ⟨_, xs, e, ga, _, rxs⟩ := id (Rep.lst_inv (ds := x.map lineD) ra)
 cases e
 obtain ⟨_, ys, e, gb, _, rys⟩ := id (Rep.lst_inv (ds := (x ++ r).map lineD) rb)
 cases e
 have hxl : xs.length = x.length := by rw [rxs.length, List.length_map]
 have hyl : ys.length = x.length + r.length := by rw [rys.length, List.length_map, List.length_append]
 unfold zR1c
 walk_at "goA"
 rename_i p hp H1 s1 g1
 rw [cutTakeN (by omega)] at g1
 refine ⟨bookD x, bookD x, .lst (.inl g1) (by simp) ?_, ra.same s1, shaped_book ok, shaped_book ok, ?_⟩
 ·have := (rys.same s1).take xs.length
  rw [hxl, ← List.map_take, List.take_left] at this
  rw [hxl]; exact this
 rw [eqv_book ok]
 walk_at "go"
 rw [if_neg (by decide)]
 walk_at "goA"
 rename_i p2 hp2 H2 s2 g2
 rw [cut_drop (by omega)] at g2
 refine k p2 _ H2 (s1.free hp2) (s1.trans s2) g2 ?_
 have := (rys.same (s1.trans s2)).drop xs.length
 rw [hxl, ← List.map_drop, List.drop_left] at this
 rw [hxl]; exact this
def RowsAt (H : Hp) (xs : List V) (c : Nat) (f : Nat → List Line) : Prop := xs.length = c ∧ ∀ j, j < c → ∃ t zs, xs[j]? = some (.ref t) ∧ H t = some (.lst zs) ∧ Reps H [] zs ((f j).map lineD)
theorem RowsAt.same {H H' : Hp} {xs : List V} {c : Nat} {f : Nat → List Line} (r : RowsAt H xs c f) (s : Same H H') : RowsAt H' xs c f := ⟨r.1, fun j hj => by
 obtain ⟨t, zs, e, g, rr⟩ := r.2 j hj
 exact ⟨t, zs, e, s _ _ g, rr.same s⟩⟩
def Deed.word : Deed → Str
 | .begin _ _ => "begin" | .carry _ _ => "carry" | .query _ _ => "query" | .stop _ => "stop" | .wake _ => "wake" | .sweep => "sweep"
def Deed.vs : Deed → List V
 | .begin n st => [.str "begin", .int n, .bl st] | .carry k st => [.str "carry", .int k, .bl st] | .query i n => [.str "query", .int i, .int n]
 | .stop i => [.str "stop", .int i] | .wake i => [.str "wake", .int i] | .sweep => [.str "sweep"]
theorem vs_0 (d : Deed) : atI d.vs 0 = some (.str d.word) := by cases d <;> rfl
theorem deed_rd {H : Hp} {p : Addr} : ∀ {d : Deed}, Rep H [] (.ref p) d.D → Rd H p (.tup d.vs)
 | .begin n st, r => by
  obtain ⟨xs, g, rs⟩ := tup_at (ds := [.str "begin", .int n, .bool st]) r
  obtain ⟨x, ys, rfl, h1, rs⟩ := rs.cons_inv
  obtain ⟨y, zs, rfl, h2, rs⟩ := rs.cons_inv
  obtain ⟨z, us, rfl, h3, rs⟩ := rs.cons_inv
  cases rs.nil_inv
  rw [h1.str_inv, h2.int_inv, h3.bl_inv] at g; exact g
 | .carry n st, r => by
  obtain ⟨xs, g, rs⟩ := tup_at (ds := [.str "carry", .int n, .bool st]) r
  obtain ⟨x, ys, rfl, h1, rs⟩ := rs.cons_inv
  obtain ⟨y, zs, rfl, h2, rs⟩ := rs.cons_inv
  obtain ⟨z, us, rfl, h3, rs⟩ := rs.cons_inv
  cases rs.nil_inv
  rw [h1.str_inv, h2.int_inv, h3.bl_inv] at g; exact g
 | .query n st, r => by
  obtain ⟨xs, g, rs⟩ := tup_at (ds := [.str "query", .int n, .int st]) r
  obtain ⟨x, ys, rfl, h1, rs⟩ := rs.cons_inv
  obtain ⟨y, zs, rfl, h2, rs⟩ := rs.cons_inv
  obtain ⟨z, us, rfl, h3, rs⟩ := rs.cons_inv
  cases rs.nil_inv
  rw [h1.str_inv, h2.int_inv, h3.int_inv] at g; exact g
 | .stop n, r => by
  obtain ⟨xs, g, rs⟩ := tup_at (ds := [.str "stop", .int n]) r
  obtain ⟨x, ys, rfl, h1, rs⟩ := rs.cons_inv
  obtain ⟨y, zs, rfl, h2, rs⟩ := rs.cons_inv
  cases rs.nil_inv
  rw [h1.str_inv, h2.int_inv] at g; exact g
 | .wake n, r => by
  obtain ⟨xs, g, rs⟩ := tup_at (ds := [.str "wake", .int n]) r
  obtain ⟨x, ys, rfl, h1, rs⟩ := rs.cons_inv
  obtain ⟨y, zs, rfl, h2, rs⟩ := rs.cons_inv
  cases rs.nil_inv
  rw [h1.str_inv, h2.int_inv] at g; exact g
 | .sweep, r => by
  obtain ⟨xs, g, rs⟩ := tup_at (ds := [.str "sweep"]) r
  obtain ⟨x, ys, rfl, h1, rs⟩ := rs.cons_inv
  cases rs.nil_inv
  rw [h1.str_inv] at g; exact g
theorem pair_at {H : Hp} {S : List Addr} {b : List (Int × Line)} {xs : List V} {i : Nat} {x : V} (rs : Reps H S xs (b.map pairD)) (hx : xs[i]? = some x) :
  ∃ p t u, b[i]? = some p ∧ x = .ref t ∧ Rd H t (.tup [.int p.1, .ref u]) ∧ Rd H u (.tup [.str p.2.1, .int p.2.2]) := by
 obtain ⟨d, hd, rx⟩ := rs.get hx
 rw [List.getElem?_map] at hd
 cases hb : b[i]? with
 | none => rw [hb] at hd; cases hd
 | some l =>
  rw [hb] at hd
  have e : pairD l = d := Option.some.inj hd
  subst e
  obtain ⟨t, ys, rfl, rt, rs'⟩ := Rep.tup_inv (ds := [.int l.1, lineD l.2]) rx
  obtain ⟨y1, r1, rfl, h1, t1⟩ := rs'.cons_inv
  obtain ⟨y2, r2, rfl, h2, t2⟩ := t1.cons_inv
  cases t2.nil_inv
  have h2' : Reps H S [y2] ([l.2].map lineD) := .cons h2 .nil
  obtain ⟨m, u, em, eu, gu⟩ := line_at (i := 0) h2' rfl
  cases em
  cases eu
  rw [h1.int_inv] at rt
  exact ⟨l, t, u, rfl, rfl, rt, gu⟩
theorem flat_len {f : Nat → List Line} : ∀ {n : Nat}, (∀ j, j < n → (f j).length ≤ 1000) → ((List.range n).flatMap f).length ≤ 1000 * n
 | 0, _ => Nat.le_refl _
 | n + 1, h => by
  rw [List.range_succ, List.flatMap_append, List.length_append]
  have h1 := flat_len (n := n) fun j hj => h j (by omega)
  have h2 := h n (by omega)
  rw [List.flatMap_cons, List.flatMap_nil, List.append_nil]
  omega
theorem flat_nil : ∀ n : Nat, ((List.range n).flatMap fun _ => ([] : List Line)) = []
 | 0 => rfl
 | n + 1 => by rw [List.range_succ, List.flatMap_append, flat_nil n]; simp
def zsp0q : Sp := fun vs H Q _ => ∃ (pr pd : Addr) (tv : V) (pl : Addr) (c : Nat) (xs : List V) (f : Nat → List Line) (S : HallS) (d : Deed) (an : Ans), vs = [.ref pr, .ref pd, tv, .int (c : Int), .ref pl] ∧ H pr = some (.lst xs) ∧ RowsAt H xs c f ∧ Rep H [] (.ref pd) d.D ∧ Rep H [] tv an.D ∧ Rep H [] (.ref pl) (lettersD S.ls) ∧ WR c S d an f ∧ HallOk c S ∧ (∀ j, j < c → LineWs (f j) ∧ (f j).length ≤ 1000) ∧ ∀ H', Same H H' → Q (.bl true) H'
theorem zrd0q {K : PySem.W.Frag} {vs : List V} {H : Hp} {Q : VK} {E : XK} (h : zsp0q vs H Q E) : zR0q K zsp14 zsp0s (zsp1h 2) zsp0e { nx := fun _ H' => Q .non H', rt := Q } (start ["_law_rows", "_law_deed", "_law_told", "_law_count", "_law_letters", "_law_due", "_law_pair", "_law_k", "_law_lines", "_law_row"] vs) H := by
 obtain ⟨pr, pd, tv, pl, c, xs, f, S, d, an, rfl, gr, rows, rdd, rt, rl, w, ok, lw, k⟩ := h
 have gd := deed_rd rdd
 have c2 := ok.c2
 obtain ⟨_, yl, e, gl, _, rls⟩ := id (Rep.lst_inv (ds := S.ls.map letterD) rl)
 cases e
 unfold zR0q
 walk_at "goA"
 rename_i pn hpn H1 s1 g1
 refine st_ixT (sqTr (gd.same s1)) (vs_0 d) ?_
 walk_at "go"
 by_cases e : d.word = ("sweep" : Str)
 ·rw [if_pos (by rw [e]; exact decide_eq_true rfl)]
  cases w with
  | stop i b => exact absurd e (show ¬ ("stop" : Str) = "sweep" by decide)
  | query i n b => exact absurd e (show ¬ ("query" : Str) = "sweep" by decide)
  | begin0 n st => exact absurd e (show ¬ ("begin" : Str) = "sweep" by decide)
  | carry0 n st => exact absurd e (show ¬ ("carry" : Str) = "sweep" by decide)
  | wake0 n => exact absurd e (show ¬ ("wake" : Str) = "sweep" by decide)
  | begin n st ls hl => exact absurd e (show ¬ ("begin" : Str) = "sweep" by decide)
  | carry n st l ls h1 h2 h3 h4 => exact absurd e (show ¬ ("carry" : Str) = "sweep" by decide)
  | wake i ls hi => exact absurd e (show ¬ ("wake" : Str) = "sweep" by decide)
  | sweep ps hin =>
   obtain ⟨pt, ts, rfl, gt, _, rts⟩ := Rep.lst_inv (ds := ps.map pairD) rt
   have htl : ts.length = ps.length := by rw [rts.length, List.length_map]
   have gt1 := gt.same s1
   have rts1 := rts.same s1
   have gr1 := s1 _ _ gr
   have rows1 := rows.same s1
   walk_at "go"
   refine ⟨_, _, _, true, rfl, TyO.list gt1, kit_same _ _, ?_⟩
   walk_at "go"
   refine iteF ?_
   walk_at "go"
   refine for_list (K := K) (a := pt) (xs := ts) (fun i σ H' => ∃ v6, σ = [some (.ref pr), some (.ref pd), some (.ref pt), some (.int (c : Int)), some (.ref pl), some (.ref pn), v6, none, none, none] ∧ Same H1 H') ⟨none, rfl, Same.refl _⟩ ?_ ?_ ?_
   ·rintro i σ H' hi ⟨v6, rfl, s⟩
    exact sqLr (gt1.same s)
   ·rintro i x σ H' hx ⟨v6, rfl, s⟩
    obtain ⟨p, t, u, hp, rfl, g2, gu⟩ := pair_at (rts1.same s) hx
    have hpm := List.mem_of_getElem? hp
    have hin' := hin p hpm
    have hlw : isLineW p.2.1 := (lw p.1.toNat (by omega)).1 p.2 (by
     unfold pf
     exact List.mem_map.mpr ⟨p, List.mem_filter.mpr ⟨hpm, by simp; omega⟩, rfl⟩)
    walk_at "go"
    refine ⟨_, _, _, true, rfl, TyO.tup g2, kit_same _ _, ?_⟩
    walk_at "go"
    refine iteF ?_
    refine st_test (st_op (st_cb (st_cons (st_var (by rfl) (st_nil (st_lenT (sqTr g2) ?_))))))
    walk_at "go"
    rw [if_neg (by simp)]
    walk_at "go"
    refine ⟨p.1, rfl, ?_⟩
    walk_at "go"
    refine iteF ?_
    walk_at "go"
    refine ⟨u, p.2.1, p.2.2, rfl, gu, hlw, fun H2 s2 => ?_⟩
    walk_at "go"
    refine iteF ?_
    walk_at "go"
    exact ⟨_, rfl, s.trans s2⟩
   ·rintro σ H2 ⟨v6, rfl, s2⟩
    walk_at "go"
    refine st_itr (by omega) ?_
    refine for_range (n := c) (fun i σ H' => ∃ v7, σ = [some (.ref pr), some (.ref pd), some (.ref pt), some (.int (c : Int)), some (.ref pl), some (.ref pn), v6, v7, none, none] ∧ Same H1 H') ⟨none, rfl, s2⟩ ?_ ?_
    ·rintro i σ H3 hi ⟨v7, rfl, s3⟩
     have e0 : ((0 : Int) + (i : Int)) = (i : Int) := Int.zero_add _
     rw [e0]
     obtain ⟨t, zs, hx, gz, rz⟩ := (rows1.same s3).2 i hi
     have ls8 := (lw i hi).2
     walk_at "go"
     refine st_ixL (sqL (s3 _ _ gr1)) (atI_nat hx) ?_
     have gt3 := gt1.same s3
     walk_at "go"
     intro pz hpz
     refine lc_list (K := K) (a := pt) (xs := ts) (fun j ys σ H' => ∃ v, σ = [v, some (.int (i : Int))] ∧ Same H3 H' ∧ Reps H' [] ys ((pf (ps.take j) i).map lineD)) ⟨none, rfl, Same.new hpz, .nil⟩ ?_ ?_ ?_
     ·rintro j ys σ H4 hj hp4 ⟨v, rfl, s4, rr⟩
      exact sqLr (gt3.same s4)
     ·rintro j x ys σ H4 hx hp4 ⟨v, rfl, s4, rr⟩
      obtain ⟨p, t', u, hp, rfl, g2, gu⟩ := pair_at ((rts1.same s3).same s4) hx
      have hyl : ys.length ≤ 1000 := by
       rw [rr.length, List.length_map]
       have e1 : pf ps i = pf (ps.take j) i ++ pf (ps.drop j) i := by rw [← pf_app, List.take_append_drop]
       rw [e1, List.length_append] at ls8
       omega
      have e2 : pf (ps.take (j + 1)) i = pf (ps.take j) i ++ pf [p] i := by rw [take_snoc hp, pf_app]
      walk_at "go"
      by_cases e3 : p.1 = (i : Int)
      ·rw [if_pos (by simp [e3])]
       walk_at "go"
       have cc : Chg [pz] H4 (upd H4 pz (.lst (ys ++ [.ref u]))) := .set (by rw [hp4]; exact True.intro) (by simp)
       refine ⟨ys, hp4, len_small (by omega), _, upd_same, _, rfl, s4.put hpz, ?_⟩
       rw [e2, List.map_append, show pf [p] i = [p.2] by unfold pf; simp [e3]]
       exact (lines_chg' rr cc).append (.cons (.tup (gu.chgT cc) (.cons (.str _) (.cons (.int _) .nil))) .nil)
      ·rw [if_neg (by simp [e3])]
       refine ⟨_, hp4, _, rfl, s4, ?_⟩
       rw [e2, show pf [p] i = [] by unfold pf; simp [e3], List.append_nil]
       exact rr
     ·rintro ys σ H4 hp4 ⟨v, rfl, s4, rr⟩
      rw [htl, List.take_length] at rr
      walk_at "go"
      refine ⟨_, _, bookD (pf ps i), rfl, .lst (.inl (s4 _ _ gz)) (by simp) (rz.same s4), .lst (.inl hp4) (by simp) rr, so_book ls8, fun H5 s5 => ?_⟩
      walk_at "go"
      refine iteF ?_
      walk_at "go"
      exact ⟨_, rfl, (s3.trans s4).trans s5⟩
    ·rintro σ H3 ⟨v7, rfl, s3⟩
     have gr3 := s3 _ _ gr1
     have rows3 := rows1.same s3
     have gt3 := gt1.same s3
     walk_at "go"
     intro pz hpz
     refine lc_list (K := K) (a := pr) (xs := xs) (fun j ys σ H' => ∃ v, σ = [v] ∧ Same H3 H' ∧ ys = (List.range j).map fun j => V.int ((pf ps j).length : Int)) ⟨none, rfl, Same.new hpz, rfl⟩ ?_ ?_ ?_
     ·rintro j ys σ H4 hj hp4 ⟨v, rfl, s4, rr⟩
      exact sqL (s4 _ _ gr3)
     ·rintro j x ys σ H4 hx hp4 ⟨v, rfl, s4, rr⟩
      have hj : j < c := by rw [← rows3.1]; exact (List.getElem?_eq_some_iff.mp hx).1
      obtain ⟨t, zs, hx', gz, rz⟩ := (rows3.same s4).2 j hj
      rw [hx] at hx'
      cases hx'
      have hzl : zs.length = (pf ps j).length := by rw [rz.length, List.length_map]
      walk_at "go"
      rw [if_pos rfl]
      walk_at "go"
      refine ⟨ys, hp4, len_small (by rw [rr, List.length_map, List.length_range]; omega), _, upd_same, _, rfl, s4.put hpz, ?_⟩
      rw [rr, List.range_succ, List.map_append, hzl]; rfl
     ·rintro ys σ H4 hp4 ⟨v, rfl, s4, rr⟩
      rw [rows3.1] at rr
      subst rr
      walk_at "go"
      refine st_sum (zs := (List.range c).map fun j => ((pf ps j).length : Int)) (by rw [List.map_map]; exact sqL hp4) ?_
      walk_at "go"
      rw [sum_pf hin, htl, decide_eq_true rfl]
      exact k _ ((s1.trans s3).trans s4)
 ·rw [if_neg (by simp [e])]
  have gr1 := s1 _ _ gr
  have rows1 := rows.same s1
  walk_at "goA"
  rename_i q0 hq0 H2 s2 g2
  have s12 := s1.trans s2
  have gr2 := s2 _ _ gr1
  refine for_list (K := K) (a := pr) (xs := xs) (fun i σ H' => ∃ (q : Addr) (zs : List V) (v9 : Option V), σ = [some (.ref pr), some (.ref pd), some tv, some (.int (c : Int)), some (.ref pl), some (.ref pn), none, none, some (.ref q), v9] ∧ Same H2 H' ∧ H' q = some (.lst zs) ∧ Reps H' [] zs (((List.range i).flatMap f).map lineD)) ⟨q0, [], none, rfl, Same.refl _, g2, .nil⟩ ?_ ?_ ?_
  ·rintro i σ H' hi ⟨q, zs, v9, rfl, s, gq, rq⟩
   exact sqL (s _ _ gr2)
  ·rintro i x σ H' hx ⟨q, zs, v9, rfl, s, gq, rq⟩
   have hi : i < c := by rw [← rows1.1]; exact (List.getElem?_eq_some_iff.mp hx).1
   obtain ⟨t, us, hx', gu, ru⟩ := ((rows1.same s2).same s).2 i hi
   rw [hx] at hx'
   cases hx'
   have hzl : zs.length ≤ 1000 * i := by rw [rq.length, List.length_map]; exact flat_len fun j hj => (lw j (by omega)).2
   have hul : us.length ≤ 1000 := by rw [ru.length, List.length_map]; exact (lw i hi).2
   walk_at "go"
   refine st_cat gq gu (Nat.le_of_lt (len_small (by omega))) ?_
   walk_at "new"
   rename_i q' hq' H4 s4 g4
   walk_at "go"
   refine ⟨q', _, _, rfl, s.trans s4, g4, ?_⟩
   rw [List.range_succ, List.flatMap_append, List.map_append]
   refine (rq.same s4).append ?_
   simp only [List.flatMap_cons, List.flatMap_nil, List.append_nil]
   exact ru.same s4
  ·rintro σ H3 ⟨q, zs, v9, rfl, s, gq, rq⟩
   rw [rows.1] at rq
   have s13 := s12.trans s
   have gd3 := gd.same s13
   have rt3 := rt.same s13
   have gr3 := s _ _ gr2
   have rows3 := rows.same s13
   have rq' : Rep H3 [] (.ref q) (bookD ((List.range c).flatMap f)) := .lst (.inl gq) (by simp) rq
   have okn : OkB [] := fun l hl => (nomatch hl)
   have lensh : ∀ i ls, i < c → (∀ j, f j = oneF i ls j) → (List.range c).flatMap f = ls := fun i ls hi hf => by
    rw [show f = oneF i ls from funext hf, flat_one, if_pos hi]
   cases w with
   | sweep ps hin => exact absurd rfl e
   | stop i b =>
    rw [flat_nil] at rq'
    have et : tv = .bl b := rt.bl_inv
    subst et
    have gd3 : Rd H3 pd (.tup [.str "stop", .int i]) := gd3
    walk_at "go"
    rw [if_pos (by rfl)]
    rw [if_pos (by rfl)]
    walk_at "go"
    refine ⟨_, _, _, true, rfl, TyO.bl _, kit_same _ _, ?_⟩
    walk_at "go"
    refine iteT ?_
    walk_at "goA"
    rename_i z hz H4 s4 g4
    refine ⟨bookD [], bookD [], rq'.same s4, .lst (.inl g4) (by simp) .nil, shaped_book okn, shaped_book okn, ?_⟩
    rw [eqv_book okn]
    exact k _ (s13.trans s4)
   | query i n b =>
    rw [flat_nil] at rq'
    have et : tv = .bl b := rt.bl_inv
    subst et
    have gd3 : Rd H3 pd (.tup [.str "query", .int i, .int n]) := gd3
    walk_at "go"
    rw [if_neg (show ¬ decide (V.str ("query" : Str) = V.str "stop") = true by decide)]
    walk_at "go"
    rw [if_pos (by rfl)]
    walk_at "go"
    refine ⟨_, _, _, true, rfl, TyO.bl _, kit_same _ _, ?_⟩
    walk_at "go"
    refine iteT ?_
    walk_at "goA"
    rename_i z hz H4 s4 g4
    refine ⟨bookD [], bookD [], rq'.same s4, .lst (.inl g4) (by simp) .nil, shaped_book okn, shaped_book okn, ?_⟩
    rw [eqv_book okn]
    exact k _ (s13.trans s4)
   | begin0 n st =>
    rw [flat_nil] at rq'
    have et : tv = .non := rt.non_inv
    subst et
    have gd3 : Rd H3 pd (.tup [.str "begin", .int n, .bl st]) := gd3
    walk_at "go"
    rw [if_neg (show ¬ decide (V.str ("begin" : Str) = V.str "stop") = true by decide)]
    walk_at "go"
    rw [if_neg (show ¬ decide (V.str ("begin" : Str) = V.str "query") = true by decide)]
    walk_at "go"
    rw [if_pos (by rfl)]
    walk_at "goA"
    rename_i z hz H4 s4 g4
    refine ⟨bookD [], bookD [], rq'.same s4, .lst (.inl g4) (by simp) .nil, shaped_book okn, shaped_book okn, ?_⟩
    rw [eqv_book okn]
    exact k _ (s13.trans s4)
   | carry0 n st =>
    rw [flat_nil] at rq'
    have et : tv = .non := rt.non_inv
    subst et
    have gd3 : Rd H3 pd (.tup [.str "carry", .int n, .bl st]) := gd3
    walk_at "go"
    rw [if_neg (show ¬ decide (V.str ("carry" : Str) = V.str "stop") = true by decide)]
    walk_at "go"
    rw [if_neg (show ¬ decide (V.str ("carry" : Str) = V.str "query") = true by decide)]
    walk_at "go"
    rw [if_pos (by rfl)]
    walk_at "goA"
    rename_i z hz H4 s4 g4
    refine ⟨bookD [], bookD [], rq'.same s4, .lst (.inl g4) (by simp) .nil, shaped_book okn, shaped_book okn, ?_⟩
    rw [eqv_book okn]
    exact k _ (s13.trans s4)
   | wake0 n =>
    rw [flat_nil] at rq'
    have et : tv = .non := rt.non_inv
    subst et
    have gd3 : Rd H3 pd (.tup [.str "wake", .int n]) := gd3
    walk_at "go"
    rw [if_neg (show ¬ decide (V.str ("wake" : Str) = V.str "stop") = true by decide)]
    walk_at "go"
    rw [if_neg (show ¬ decide (V.str ("wake" : Str) = V.str "query") = true by decide)]
    walk_at "go"
    rw [if_pos (by rfl)]
    walk_at "goA"
    rename_i z hz H4 s4 g4
    refine ⟨bookD [], bookD [], rq'.same s4, .lst (.inl g4) (by simp) .nil, shaped_book okn, shaped_book okn, ?_⟩
    rw [eqv_book okn]
    exact k _ (s13.trans s4)
   | begin n st ls hl =>
    obtain ⟨h0, hh0, hlt, hle⟩ := ok.lead n
    rw [ok.len] at hlt hle
    rw [lensh _ ls hlt fun _ => rfl] at rq'
    have hw : LineWs ls := by have := (lw _ hlt).1; unfold oneF at this; rwa [if_pos rfl] at this
    obtain ⟨pt, ts, rfl, gt, _, rts⟩ := id (Rep.lst_inv (ds := ls.map lineD) rt3)
    have gd3 : Rd H3 pd (.tup [.str "begin", .int n, .bl st]) := gd3
    walk_at "go"
    rw [if_neg (show ¬ decide (V.str ("begin" : Str) = V.str "stop") = true by decide)]
    walk_at "go"
    rw [if_neg (show ¬ decide (V.str ("begin" : Str) = V.str "query") = true by decide)]
    walk_at "go"
    rw [if_neg (show ¬ decide (V.ref pt = V.non) = true by simp)]
    walk_at "go"
    refine ⟨pt, ls, rfl, rt3, hw, fun H4 s4 => ?_⟩
    walk_at "go"
    refine iteF ?_
    walk_at "go"
    refine ⟨bookD ls, bookD ls, rt3.same s4, rq'.same s4, shaped_book hw.okB, shaped_book hw.okB, ?_⟩
    rw [eqv_book hw.okB]
    walk_at "go"
    rw [if_neg (by decide)]
    obtain ⟨t, us, hx, gu, ru⟩ := (rows3.same s4).2 _ hlt
    rw [show oneF (S.lead n) ls (S.lead n) = ls by unfold oneF; rw [if_pos rfl]] at ru
    have gd4 := gd3.same s4
    walk_at "st"
    refine st_cut (fun σ' H' => σ' = [some (.ref pr), some (.ref pd), some (.ref pt), some (.int (c : Int)), some (.ref pl), some (.ref t), none, none, some (.ref q), v9] ∧ H' = H4) ?_ ?_
    ·walk_at "go"
     rw [if_pos (by rfl)]
     walk_at "go"
     refine st_rI (show (0 : Int) < (c : Int) by omega) ?_
     refine st_ixL (sqL (s4 _ _ gr3)) (by rw [← hle]; exact atI_nat hx) ?_
     walk_at "go"
     exact ⟨rfl, rfl⟩
    rintro σ' H' ⟨rfl, rfl⟩
    walk_at "go"
    refine ⟨bookD ls, bookD ls, .lst (.inl gu) (by simp) ru, rq'.same s4, shaped_book hw.okB, shaped_book hw.okB, ?_⟩
    rw [eqv_book hw.okB]
    walk_at "go"
    refine iteT ?_
    have gq4 := s4 _ _ gq
    have hzl : zs.length = ls.length := by
     rw [rq.length, List.length_map, lensh _ ls hlt fun _ => rfl]
    walk_at "go"
    rw [if_pos (decide_eq_true (by omega))]
    exact k _ (s13.trans s4)
   | wake i ls hi =>
    rw [lensh _ ls hi fun _ => rfl] at rq'
    have hw : LineWs ls := by have := (lw _ hi).1; unfold oneF at this; rwa [if_pos rfl] at this
    obtain ⟨pt, ts, rfl, gt, _, rts⟩ := id (Rep.lst_inv (ds := ls.map lineD) rt3)
    have gd3 : Rd H3 pd (.tup [.str "wake", .int i]) := gd3
    walk_at "go"
    rw [if_neg (show ¬ decide (V.str ("wake" : Str) = V.str "stop") = true by decide)]
    walk_at "go"
    rw [if_neg (show ¬ decide (V.str ("wake" : Str) = V.str "query") = true by decide)]
    walk_at "go"
    rw [if_neg (show ¬ decide (V.ref pt = V.non) = true by simp)]
    walk_at "go"
    refine ⟨pt, ls, rfl, rt3, hw, fun H4 s4 => ?_⟩
    walk_at "go"
    refine iteF ?_
    walk_at "go"
    refine ⟨bookD ls, bookD ls, rt3.same s4, rq'.same s4, shaped_book hw.okB, shaped_book hw.okB, ?_⟩
    rw [eqv_book hw.okB]
    walk_at "go"
    rw [if_neg (by decide)]
    obtain ⟨t, us, hx, gu, ru⟩ := (rows3.same s4).2 _ hi
    rw [show oneF i ls i = ls by unfold oneF; rw [if_pos rfl]] at ru
    have gd4 := gd3.same s4
    walk_at "st"
    refine st_cut (fun σ' H' => σ' = [some (.ref pr), some (.ref pd), some (.ref pt), some (.int (c : Int)), some (.ref pl), some (.ref t), none, none, some (.ref q), v9] ∧ H' = H4) ?_ ?_
    ·walk_at "go"
     rw [if_neg (show ¬ decide (V.str ("wake" : Str) = V.str "begin") = true by decide)]
     walk_at "go"
     rw [if_pos (by rfl)]
     walk_at "go"
     refine st_ixL (sqL (s4 _ _ gr3)) (atI_nat hx) ?_
     walk_at "go"
     exact ⟨rfl, rfl⟩
    rintro σ' H' ⟨rfl, rfl⟩
    walk_at "go"
    refine ⟨bookD ls, bookD ls, .lst (.inl gu) (by simp) ru, rq'.same s4, shaped_book hw.okB, shaped_book hw.okB, ?_⟩
    rw [eqv_book hw.okB]
    walk_at "go"
    refine iteT ?_
    have gq4 := s4 _ _ gq
    walk_at "go"
    split
    ·exact k _ (s13.trans s4)
    ·walk_at "go"
     rw [decide_eq_true rfl]
     exact k _ (s13.trans s4)
   | carry n st l ls hn hl lo hll =>
    have hi : l.2.1.toNat < c := by have := lo.t0; have := lo.t1; omega
    rw [lensh _ ls hi fun _ => rfl] at rq'
    have hw : LineWs ls := by have := (lw _ hi).1; unfold oneF at this; rwa [if_pos rfl] at this
    obtain ⟨pt, ts, rfl, gt, _, rts⟩ := id (Rep.lst_inv (ds := ls.map lineD) rt3)
    have gd3 : Rd H3 pd (.tup [.str "carry", .int n, .bl st]) := gd3
    walk_at "go"
    rw [if_neg (show ¬ decide (V.str ("carry" : Str) = V.str "stop") = true by decide)]
    walk_at "go"
    rw [if_neg (show ¬ decide (V.str ("carry" : Str) = V.str "query") = true by decide)]
    walk_at "go"
    rw [if_neg (show ¬ decide (V.ref pt = V.non) = true by simp)]
    walk_at "go"
    refine ⟨pt, ls, rfl, rt3, hw, fun H4 s4 => ?_⟩
    walk_at "go"
    refine iteF ?_
    walk_at "go"
    refine ⟨bookD ls, bookD ls, rt3.same s4, rq'.same s4, shaped_book hw.okB, shaped_book hw.okB, ?_⟩
    rw [eqv_book hw.okB]
    walk_at "go"
    rw [if_neg (by decide)]
    obtain ⟨t, us, hx, gu, ru⟩ := (rows3.same s4).2 _ hi
    rw [show oneF l.2.1.toNat ls l.2.1.toNat = ls by unfold oneF; rw [if_pos rfl]] at ru
    have gd4 := gd3.same s4
    have s14 := s13.trans s4
    obtain ⟨xl, hxl, _⟩ := (rls.same s14).getD (i := n.toNat) (d := letterD l) (by rw [List.getElem?_map, hl]; rfl)
    obtain ⟨l', tl, hl', rfl, rtl⟩ := letter_at (rls.same s14) hxl
    rw [hl] at hl'
    cases hl'
    walk_at "st"
    refine st_cut (fun σ' H' => σ' = [some (.ref pr), some (.ref pd), some (.ref pt), some (.int (c : Int)), some (.ref pl), some (.ref t), none, none, some (.ref q), v9] ∧ H' = H4) ?_ ?_
    ·walk_at "go"
     rw [if_neg (show ¬ decide (V.str ("carry" : Str) = V.str "begin") = true by decide)]
     walk_at "go"
     rw [if_neg (show ¬ decide (V.str ("carry" : Str) = V.str "wake") = true by decide)]
     walk_at "go"
     have en : ((n.toNat : Nat) : Int) = n := by omega
     refine st_ixL (sqLr (gl.same s14)) (by rw [← en]; exact atI_nat hxl) ?_
     walk_at "go"
     have et : ((l.2.1.toNat : Nat) : Int) = l.2.1 := by have := lo.t0; omega
     refine st_ixL (sqL (s4 _ _ gr3)) (by rw [← et]; exact atI_nat hx) ?_
     walk_at "go"
     exact ⟨rfl, rfl⟩
    rintro σ' H' ⟨rfl, rfl⟩
    walk_at "go"
    refine ⟨bookD ls, bookD ls, .lst (.inl gu) (by simp) ru, rq'.same s4, shaped_book hw.okB, shaped_book hw.okB, ?_⟩
    rw [eqv_book hw.okB]
    walk_at "go"
    refine iteT ?_
    have gq4 := s4 _ _ gq
    have hzl : zs.length = ls.length := by
     rw [rq.length, List.length_map, lensh _ ls hi fun _ => rfl]
    walk_at "go"
    rw [if_pos (decide_eq_true (by omega))]
    exact k _ (s13.trans s4)
theorem canLay_deed (d : Deed) : PyData.canLay0 d.D = true := by
 cases d <;> simp [Deed.D, PyData.canLay0, PyData.canLayAll0] <;> decide +kernel
theorem canLay_deeds (ds : List Deed) : PyData.canLayAll0 (ds.map Deed.D) = true := by
 induction ds with
 | nil => rfl
 | cons l r ih => rw [List.map_cons, PyData.canLayAll0, ih, canLay_deed]; rfl
theorem depth_deeds (ds : List Deed) : PyData.depthAll (ds.map Deed.D) ≤ 3 := by
 induction ds with
 | nil => simp [PyData.depthAll]
 | cons l r ih =>
  rw [List.map_cons, PyData.depthAll]
  have : PyData.depth l.D ≤ 3 := by cases l <;> simp [Deed.D, PyData.depth, PyData.depthAll]
  omega
theorem shaped_deeds (ds : List Deed) : SeqAt.shaped (.list (ds.map Deed.D)) = true := by
 unfold SeqAt.shaped
 rw [PyData.canLay0, canLay_deeds, Bool.true_and, PyData.depth]
 have := depth_deeds ds
 exact decide_eq_true (by omega)
theorem li_good {c : Nat} {w : Nat → Int → List Str} {l : Letter} (lo : LetOk c l) (li : LI c w l) : GoodL (c : Int) l := by
 refine ⟨lo.g0, lo.g1, lo.t0, lo.t1, ?_, ?_⟩
 ·rcases li with ⟨_, a2, a3, _⟩ | ⟨_, a2, a3, _⟩ | ⟨_, a2, a3, _⟩ | ⟨_, _, _, a4⟩ | ⟨_, _, _, a4⟩ | ⟨_, _, _, a4⟩
  ·rw [a2]; exact Ne.symm a3
  ·rw [a2]; exact a3
  ·rw [a2]; exact a3
  ·exact Ne.symm a4
  ·exact Ne.symm a4
  ·exact Ne.symm a4
 ·have := lo.w
  simp only [List.mem_cons, List.not_mem_nil, or_false] at this
  exact this
theorem run_at : ∀ (ds : List Deed) (S : HallS) (i : Nat) (d : Deed), ds[i]? = some d → (S.run ds).2[i]? = some ((S.run (ds.take i)).1.do d).2
 | [], S, i, d, h => by cases h
 | x :: r, S, 0, d, h => by cases h; rfl
 | x :: r, S, i + 1, d, h => run_at r (S.do x).1 i d (by simpa using h)
theorem DrawnAll.take {Bs : Int → Prop} {c : Nat} {ds : List Deed} (D : DrawnAll Bs c ds) (i : Nat) : DrawnAll Bs c (ds.take i) := by
 refine ⟨fun d hd => D.ok d (List.mem_of_mem_take hd), fun d hd => D.inn d (List.mem_of_mem_take hd), Nat.le_trans ?_ D.one⟩
 unfold sweeps
 exact ((List.take_sublist i ds).filter _).length_le
theorem RowsAt.snoc {H : Hp} {p t : Addr} {ys zs : List V} {i : Nat} {f : Nat → List Line} (r : RowsAt H ys i f) (np : ∀ (j : Nat) u, ys[j]? = some (.ref u) → u ≠ p) (mu : Mut (H p)) (g : H t = some (.lst zs)) (rz : Reps H [] zs ((f i).map lineD)) (nt : t ≠ p) :
  RowsAt (upd H p (.lst (ys ++ [.ref t]))) (ys ++ [.ref t]) (i + 1) f ∧ ∀ (j : Nat) u, (ys ++ [V.ref t])[j]? = some (.ref u) → u ≠ p := by
 have cc : Chg [p] H (upd H p (.lst (ys ++ [.ref t]))) := .set mu (by simp)
 have hl := r.1
 refine ⟨⟨by simp [hl], fun j hj => ?_⟩, fun j u hu => ?_⟩
 ·by_cases e : j = i
  ·subst e
   exact ⟨t, zs, by rw [List.getElem?_append_right (by omega), hl, Nat.sub_self]; rfl, upd_at nt g, lines_chg' rz cc⟩
  ·obtain ⟨u, us, e1, g1, r1⟩ := r.2 j (by omega)
   exact ⟨u, us, by rw [List.getElem?_append_left (by omega)]; exact e1, upd_at (np j u e1) g1, lines_chg' r1 cc⟩
 ·by_cases e : j < ys.length
  ·rw [List.getElem?_append_left e] at hu; exact np j u hu
  ·rw [List.getElem?_append_right (by omega)] at hu
   cases hz : j - ys.length with
   | zero => rw [hz] at hu; cases hu; exact nt
   | succ n => rw [hz] at hu; cases hu
theorem canLay_books {f : Nat → List Line} : ∀ l : List Nat, (∀ j ∈ l, OkB (f j)) → PyData.canLayAll0 (l.map fun j => bookD (f j)) = true
 | [], _ => rfl
 | x :: r, h => by
  rw [List.map_cons, PyData.canLayAll0, canLay_books r fun j hj => h j (List.mem_cons_of_mem _ hj)]
  have : PyData.canLay0 (bookD (f x)) = true := by unfold bookD; rw [PyData.canLay0]; exact canLay_lines (h x List.mem_cons_self)
  rw [this]; rfl
theorem no_none (f : Nat → List Line) : ∀ l : List Nat, ((l.map fun j => bookD (f j)).any fun e => PyData.eqv e .none) = false
 | [] => rfl
 | x :: r => by
  rw [List.map_cons, List.any_cons, no_none f r]
  have : PyData.eqv (bookD (f x)) .none = false := by unfold bookD; simp [PyData.eqv]
  rw [this]; rfl
theorem zrd1j {K : PySem.W.Frag} {CH CX : Addr} {vs : List V} {H : Hp} {Q : VK} {E : XK} (h : spLaw K vs H Q E) :
  zR1j K (zsp1g K) zsp02 (zsp18 (· ∈ allB)) (zsp1d CH CX) (zsp0p CH CX) zsp0h zsp1c (zsp0g CH CX) zsp06 zsp0q { nx := fun _ H' => Q .non H', rt := Q }
   (start ["_law_script", "_law_count", "_law_against", "_law_deeds", "_law_handed", "_law_told", "_law_k", "_law_spot", "_law_before", "_law_behind", "_law_rows", "_law_letters"] vs) H := by
 obtain ⟨a, ns, rfl, hS, hl, k⟩ := h
 unfold zR1j
 walk_at "goA"
 rename_i pc hpc H1 s1 g1
 have hS1 := s1.seq hS
 refine ⟨a, ns, 0, rfl, hS1, fun z0 => ?_⟩
 obtain ⟨cv, hcv, ec⟩ := atI_mem (xs := [V.int 2, V.int 3, V.int 4, V.int 2, V.int 3, V.int 4, V.int 2, V.int 7]) (r := z0 * 48271 % 1049 % 8) (by omega) (by show _ < (8 : Int); omega)
 obtain ⟨c, rfl, c2, c7⟩ : ∃ c : Nat, cv = .int c ∧ 2 ≤ c ∧ c ≤ 7 := by
  simp only [List.mem_cons, List.not_mem_nil, or_false] at hcv
  rcases hcv with rfl | rfl | rfl | rfl | rfl | rfl | rfl | rfl
  ·exact ⟨2, rfl, by omega, by omega⟩
  ·exact ⟨3, rfl, by omega, by omega⟩
  ·exact ⟨4, rfl, by omega, by omega⟩
  ·exact ⟨2, rfl, by omega, by omega⟩
  ·exact ⟨3, rfl, by omega, by omega⟩
  ·exact ⟨4, rfl, by omega, by omega⟩
  ·exact ⟨2, rfl, by omega, by omega⟩
  ·exact ⟨7, rfl, by omega, by omega⟩
 have g1' : SqL K H1 pc _ := sqL g1
 walk_at "go"
 refine ⟨a, ns, 1, rfl, hS1, fun z1 => ?_⟩
 walk_at "go"
 refine ⟨z1, c, rfl, by omega, fun ag pg H2 hag hpg s2 rg => ?_⟩
 have hS2 := s2.seq hS1
 walk_at "goA"
 rename_i pz hpz H3 s3 g3
 obtain ⟨cs, ecs, hcs⟩ := cut_some ns 3 23
 rw [show cutV (ns.map V.int) (some 3) (some 23) = cs.map V.int from ecs] at g3
 refine ⟨pz, cs, c, rfl, .inl g3, by omega, c2, fun ds pd H4 hdl D hpd s4 rd4 ⟨xs7, gd4, rds4⟩ => ?_⟩
 have hS4 := s4.seq (s3.seq hS2)
 have rg4 := (rg.same s3).same s4
 obtain ⟨_, gs, eg, gg, _, rgs⟩ := id (Rep.lst_inv (ds := ag.map agD) rg4)
 cases eg
 walk_at "goA"
 rename_i q1 hq1 H5 s5 g5 q2 hq2 H6 s6 g6
 have rga : Rep H6 [] (.ref q2) (.list (ag.map agD)) := .lst (.inl g6) (by simp) ((rgs.same s5).same s6)
 have rdd : Rep H6 [] (.ref q1) (.list (ds.map Deed.D)) := .lst (.inl (s6 _ _ g5)) (by simp) ((rds4.same s5).same s6)
 have hroom := room_drawn ag c2 c7 (by omega) D
 refine ⟨c, ag, ds, ⟨q2, q1, rfl, c2, by omega, rga, by omega, rdd, by omega, D.ok, hroom⟩, fun va H7 s7 ra7 fa7 => ?_⟩
 have s47 := (s5.trans s6).trans s7
 have gd7 := s47 _ _ gd4
 have rds7 := rds4.same s47
 have gg7 := gg.same s47
 have rgs7 := rgs.same s47
 have hS7 := s47.seq hS4
 have rdd7 := rdd.same s7
 have hansl := run_len (newHall c ag) ds
 obtain ⟨pa, xa, rfl, ga, _, rsa⟩ := id (Rep.lst_inv (ds := ((newHall c ag).run ds).2.map Ans.D) ra7)
 have hal : xa.length = ds.length := by rw [rsa.length, List.length_map, hansl]
 have hxl7 : xs7.length = ds.length := by rw [rds7.length, List.length_map]
 walk_at "go"
 refine ⟨_, _, _, true, rfl, TyO.list ga, kit_same _ _, ?_⟩
 walk_at "go"
 refine iteF ?_
 walk_at "go"
 rw [if_neg (by simp [hal, hxl7])]
 walk_at "go"
 refine ⟨.list (ds.map Deed.D), .list (ds.map Deed.D), rdd7, .lst (.inl gd7) (by simp) rds7, shaped_deeds ds, shaped_deeds ds, ?_⟩
 rw [SeqAt.eqv_refl _ (SeqAt.canLay_of_shaped (shaped_deeds ds))]
 walk_at "go"
 rw [if_neg (by decide)]
 walk_at "go"
 refine st_itr (n := 3) (by decide) ?_
 refine for_range (n := 3) (fun i σ H' => ∃ v1 v2 v3 v4 v5 v6, σ = [some (.ref a), some (.int (c : Int)), some (.ref pg), some (.ref pd), some (.ref q1), some (.ref pa), v1, v2, v3, v4, v5, v6] ∧ Same H7 H') ⟨none, none, none, none, none, none, rfl, Same.refl _⟩ ?_ ?_
 ·rintro i σ A hi ⟨v1, v2, v3, v4, v5, v6, rfl, s⟩
  have e0 : ((0 : Int) + (i : Int)) = (i : Int) := Int.zero_add _
  rw [e0]
  have gdA := s _ _ gd7
  have ggA := gg7.same s
  have hSA := s.seq hS7
  walk_at "go"
  by_cases hz : xs7.length = 0
  ·rw [if_neg (by simp [hz])]
   walk_at "go"
   exact ⟨_, _, _, _, _, _, rfl, s⟩
  rw [if_pos (by simp; omega)]
  walk_at "go"
  refine ⟨a, ns, 2, rfl, hSA, fun z2 => ?_⟩
  walk_at "go"
  refine st_rI (mulR (by omega)) ?_
  walk_at "go"
  refine st_rI (divR (by omega)) ?_
  walk_at "go"
  refine st_rI (show (0 : Int) < (xs7.length : Int) by omega) ?_
  have hb : ∀ y : Int, y % (xs7.length : Int) = ((y % (xs7.length : Int)).toNat : Int) := fun y => (Int.toNat_of_nonneg (Int.emod_nonneg _ (by omega))).symm
  have hb2 : ∀ y : Int, (y % (xs7.length : Int)).toNat < xs7.length := fun y => by
   have := Int.emod_lt_of_pos y (show (0 : Int) < (xs7.length : Int) by omega)
   have := Int.emod_nonneg y (show (xs7.length : Int) ≠ 0 by omega)
   omega
  rw [hb]
  generalize hg : Int.toNat (_ % (xs7.length : Int)) = sp
  have hsp : sp < xs7.length := hg ▸ hb2 _
  clear hg hb hb2
  obtain ⟨x, hx⟩ : ∃ x, xs7[sp]? = some x := ⟨_, List.getElem?_eq_getElem hsp⟩
  obtain ⟨d, td, hd, rfl, _⟩ := deeds_at rds7 hx
  have Dt := D.take sp
  have Du := D.take (sp + 1)
  have I0 := Inv.new (c := c) ag (· ∈ allB) c2 (by omega)
  have I1 := I0.run (ds.take sp) Dt.inn
  have I2 := I0.run (ds.take (sp + 1)) Du.inn
  have room1 := room_drawn ag c2 c7 (by rw [List.length_take]; omega) Dt
  have room2 := room_drawn ag c2 c7 (by rw [List.length_take]; omega) Du
  have eS : ((newHall c ag).run (ds.take (sp + 1))).1 = (((newHall c ag).run (ds.take sp)).1.do d).1 := by rw [take_snoc hd, run_snoc]
  have ean := run_at ds (newHall c ag) sp d hd
  obtain ⟨f, wr, wt⟩ := do_wrote I1.ok (D.ok d (List.mem_of_getElem? hd))
  rw [← eS] at wt
  walk_at "goA"
  rename_i q3 hq3 B1 t1 k1 q4 hq4 B2 t2 k2
  rw [cutTakeN (by omega)] at k2
  have ga3 : Rep B2 [] (.ref q3) (.list (ag.map agD)) := .lst (.inl (t2 _ _ k1)) (by simp) (((rgs7.same s).same t1).same t2)
  have rd3 : Rep B2 [] (.ref q4) (.list ((ds.take sp).map Deed.D)) := .lst (.inl k2) (by simp) (by rw [List.map_take]; exact (((rds7.same s).same t1).same t2).take sp)
  refine ⟨c, ag, ds.take sp, ⟨q3, q4, rfl, c2, by omega, ga3, by omega, rd3, by rw [List.length_take]; omega, Dt.ok, room1⟩, fun vb1 B3 u3 rb3 fb3 => ?_⟩
  have sA3 := (t1.trans t2).trans u3
  have gd3 := sA3 _ _ gdA
  have gg3 := ggA.same sA3
  walk_at "goA"
  rename_i q5 hq5 B4 t4 k4 q6 hq6 B5 t5 k5
  rw [show ((sp : Int) + 1) = ((sp + 1 : Nat) : Int) by omega, cutTakeN (by omega)] at k5
  have sA5 := (sA3.trans t4).trans t5
  have ga5 : Rep B5 [] (.ref q5) (.list (ag.map agD)) := .lst (.inl (t5 _ _ k4)) (by simp) ((rgs7.same s).same sA5)
  have rd5 : Rep B5 [] (.ref q6) (.list ((ds.take (sp + 1)).map Deed.D)) := .lst (.inl k5) (by simp) (by rw [List.map_take]; exact ((rds7.same s).same sA5).take (sp + 1))
  refine ⟨c, ag, ds.take (sp + 1), ⟨q5, q6, rfl, c2, by omega, ga5, by omega, rd5, by rw [List.length_take]; omega, Du.ok, room2⟩, fun vb2 B6 u6 rb6 fb6 => ?_⟩
  have sA6 := sA5.trans u6
  have rb36 := ((rb3.same t4).same t5).same u6
  generalize hS1 : ((newHall c ag).run (ds.take sp)).1 = S1 at *
  generalize hS2 : ((newHall c ag).run (ds.take (sp + 1))).1 = S2 at *
  have hlen1 : (S1.hs.map fun h => h.book).length = c := by rw [List.length_map]; exact I1.ok.len
  have hlen2 : (S2.hs.map fun h => h.book).length = c := by rw [List.length_map]; exact I2.ok.len
  have erb : ∀ S : HallS, booksD S = booksL (S.hs.map fun h => h.book) := fun S => by unfold booksD booksL; rw [List.map_map]; rfl
  rw [erb] at rb36 rb6
  obtain ⟨pb1, xb1, rfl, gb1, _, rbs1⟩ := id (Rep.lst_inv (ds := (S1.hs.map fun h => h.book).map bookD) rb36)
  obtain ⟨pb2, xb2, rfl, gb2, _, rbs2⟩ := id (Rep.lst_inv (ds := (S2.hs.map fun h => h.book).map bookD) rb6)
  walk_at "go"
  refine ⟨pb1, _, c, rfl, rb36, hlen1, fun b hb => (hallWords I1 hb).1, fun B7 u7 => ?_⟩
  walk_at "go"
  rw [if_neg (by decide)]
  walk_at "go"
  refine ⟨pb2, _, c, rfl, rb6.same u7, hlen2, fun b hb => (hallWords I2 hb).1, fun B8 u8 => ?_⟩
  walk_at "go"
  rw [if_neg (by decide)]
  have u68 := u7.trans u8
  have gb18 := gb1.same u68
  have gb28 := gb2.same u68
  have rbs18 := rbs1.same u68
  have rbs28 := rbs2.same u68
  have fgood : ∀ j, j < c → ∃ h1 h2, S1.hs[j]? = some h1 ∧ S2.hs[j]? = some h2 ∧ h2.book = h1.book ++ f j ∧ LineWs h1.book ∧ LineWs (f j) ∧ (f j).length ≤ 8 := fun j hj => by
   obtain ⟨h1, hh1⟩ : ∃ h, S1.hs[j]? = some h := ⟨_, List.getElem?_eq_getElem (by rw [I1.ok.len]; exact hj)⟩
   obtain ⟨h2, hh2, hbk⟩ := wt j h1 hh1
   have m1 : h1.book ∈ S1.hs.map fun h => h.book := List.mem_map.mpr ⟨h1, List.mem_of_getElem? hh1, rfl⟩
   have m2 : h2.book ∈ S2.hs.map fun h => h.book := List.mem_map.mpr ⟨h2, List.mem_of_getElem? hh2, rfl⟩
   have w2 := (hallWords I2 m2).1
   have l2 := book_small (bl := allB) I2 m2
   have e8 : 2 * allB.length = 8 := rfl
   rw [hbk] at w2 l2
   rw [List.length_append] at l2
   exact ⟨h1, h2, hh1, hh2, hbk, (hallWords I1 m1).1, fun l hl => w2 l (List.mem_append_right _ hl), by omega⟩
  walk_at "go"
  refine st_itr (by omega) ?_
  intro pr hpr
  refine lc_range (n := c) (fun j ys σ H' => ∃ v, σ = [v, some (.ref pb1), some (.ref pb2)] ∧ Same B8 H' ∧ RowsAt H' ys j f ∧ (∀ (j : Nat) u, ys[j]? = some (.ref u) → u ≠ pr) ∧ Reps H' [pr] ys ((List.range j).map fun j => bookD (f j))) ⟨none, rfl, Same.new hpr, ⟨rfl, fun j hj => absurd hj (by omega)⟩, fun j u hu => by simp at hu, .nil⟩ ?_ ?_
  ·rintro j ys σ B9 hj hp9 ⟨v, rfl, s9, rows, np, rr⟩
   have e0 : ((0 : Int) + (j : Int)) = (j : Int) := Int.zero_add _
   rw [e0]
   obtain ⟨h1, h2, hh1, hh2, hbk, w1, wf, l8⟩ := fgood j hj
   have hb1 : (S1.hs.map fun h => h.book)[j]? = some h1.book := by rw [List.getElem?_map, hh1]; rfl
   have hb2 : (S2.hs.map fun h => h.book)[j]? = some h2.book := by rw [List.getElem?_map, hh2]; rfl
   obtain ⟨x1, hx1, _⟩ := rbs18.getD (i := j) (d := bookD h1.book) (by rw [List.getElem?_map, hb1]; rfl)
   obtain ⟨x2, hx2, _⟩ := rbs28.getD (i := j) (d := bookD h2.book) (by rw [List.getElem?_map, hb2]; rfl)
   obtain ⟨b1', tb1, hb1', rfl, rtb1⟩ := book_at (rbs18.same s9) hx1
   obtain ⟨b2', tb2, hb2', rfl, rtb2⟩ := book_at (rbs28.same s9) hx2
   rw [hb1] at hb1'
   cases hb1'
   rw [hb2] at hb2'
   cases hb2'
   rw [hbk] at rtb2
   walk_at "go"
   rw [if_pos rfl]
   walk_at "go"
   refine st_ixL (sqLr (gb18.same s9)) (atI_nat hx1) ?_
   walk_at "go"
   refine st_ixL (sqLr (gb28.same s9)) (atI_nat hx2) ?_
   walk_at "go"
   refine ⟨tb1, tb2, h1.book, f j, rfl, rtb1, rtb2, w1.okB, fun t zs B10 ht t10 gt rz => ?_⟩
   have hp10 := t10 _ _ hp9
   have ntp : t ≠ pr := ne_of_none' ht hp9
   have cc : Chg [pr] B10 (upd B10 pr (.lst (ys ++ [.ref t]))) := .set (by rw [hp10]; exact True.intro) (by simp)
   obtain ⟨rn1, rn2⟩ := (rows.same t10).snoc np (p := pr) (by rw [hp10]; exact True.intro) gt rz ntp
   have hyl := rows.1
   refine ⟨ys, hp10, len_small (by omega), _, upd_same, _, rfl, (s9.trans t10).put hpr, rn1, rn2, ?_⟩
   rw [List.range_succ, List.map_append]
   refine (((rr.same t10).append (.cons (.lst (.inl gt) (by simpa using ntp) (lines_any rz)) .nil)).chg cc)
  rintro ys σ B9 hp9 ⟨v, rfl, s9, rows, np, rr⟩
  walk_at "go"
  refine ⟨.none, _, .non, .inl (.lst (.inl hp9) (by simp) rr.plain), canLay_books _ fun j hj => ?_, by decide, ?_⟩
  ·obtain ⟨h1, h2, _, _, _, _, wf, _⟩ := fgood j (List.mem_range.mp hj)
   exact wf.okB
  rw [no_none]
  walk_at "go"
  rw [if_neg (by decide)]
  have sA9 := (sA6.trans u68).trans s9
  have gdA9 := sA9 _ _ gdA
  have ggA9 := ggA.same sA9
  walk_at "goA"
  rename_i q7 hq7 B10 t10 k10 q8 hq8 B11 t11 k11
  rw [cutTakeN (by omega)] at k11
  have sA11 := (sA9.trans t10).trans t11
  have ga11 : Rep B11 [] (.ref q7) (.list (ag.map agD)) := .lst (.inl (t11 _ _ k10)) (by simp) ((rgs7.same s).same sA11)
  have rd11 : Rep B11 [] (.ref q8) (.list ((ds.take sp).map Deed.D)) := .lst (.inl k11) (by simp) (by rw [List.map_take]; exact ((rds7.same s).same sA11).take sp)
  refine ⟨c, ag, ds.take sp, ⟨q7, q8, rfl, c2, by omega, ga11, by omega, rd11, by rw [List.length_take]; omega, Dt.ok, room1⟩, fun vl B12 u12 rl12 fl12 => ?_⟩
  rw [hS1] at rl12
  obtain ⟨pl, xl, rfl, gl, _, rls⟩ := id (Rep.lst_inv (ds := S1.ls.map letterD) rl12)
  walk_at "go"
  refine ⟨pl, (c : Int), S1.ls, rfl, rl12, fun l hl => li_good (I1.ok.let_ l hl) (I1.li l hl), fun B13 u13 => ?_⟩
  walk_at "go"
  rw [if_neg (by decide)]
  have s913 := ((t10.trans t11).trans u12).trans u13
  have sA13 := sA9.trans s913
  have s713 := s.trans sA13
  walk_at "go"
  refine st_ixL (sqL (sA13 _ _ gdA)) (atI_nat hx) ?_
  walk_at "go"
  obtain ⟨xt, hxt, rxt⟩ := (rsa.same s713).getD (i := sp) (d := (S1.do d).2.D) (by rw [List.getElem?_map, ean]; rfl)
  refine st_ixL (sqLr (ga.same s713)) (atI_nat hxt) ?_
  walk_at "go"
  obtain ⟨d', td', hd', etd, rtd⟩ := deeds_at (rds7.same s713) hx
  cases etd
  rw [hd] at hd'
  cases hd'
  refine ⟨pr, td, xt, pl, c, ys, f, S1, d, _, rfl, s913 _ _ hp9, rows.same s913, rtd, rxt, rl12.same u13, wr, I1.ok, fun j hj => ?_, fun B14 u14 => ?_⟩
  ·obtain ⟨h1, h2, _, _, _, _, wf, l8⟩ := fgood j hj
   exact ⟨wf, by omega⟩
  walk_at "go"
  rw [if_neg (by decide)]
  walk_at "go"
  exact ⟨_, _, _, _, _, _, rfl, s713.trans u14⟩
 ·rintro σ H' ⟨v1, v2, v3, v4, v5, v6, rfl, s⟩
  walk_at "go"
  exact k _
def top (i : Nat) : Stmt := PySem.Challenge.pw_oathhall_k11_whole_books_stand.main.body.getD i (.Pass ⟨0, 0, 0, 0⟩)
abbrev zs1b : Stmt := top 1
abbrev zs1i : Stmt := top 2
abbrev zs1e : Stmt := top 3
abbrev zs0l : Stmt := top 4
abbrev zs13 : Stmt := top 5
abbrev zs17 : Stmt := top 6
abbrev zs11 : Stmt := inClass (top 8) 0
abbrev zs0j : Stmt := inClass (top 8) 1
abbrev zs0r : Stmt := inClass (top 8) 2
abbrev zs15 : Stmt := inClass (top 8) 3
abbrev zs0n : Stmt := inClass (top 8) 4
abbrev zs0y : Stmt := inClass (top 8) 5
abbrev zs0w : Stmt := inClass (top 8) 6
abbrev zs0a : Stmt := inClass (top 8) 7
abbrev zs0d : Stmt := inClass (top 8) 8
abbrev zs09 : Stmt := inClass (top 8) 9
abbrev zs01 : Stmt := inClass (top 8) 10
abbrev zs08 : Stmt := inClass (top 8) 11
abbrev zs0i : Stmt := inClass (top 8) 12
abbrev zs0c : Stmt := inClass (top 8) 13
abbrev zs0x : Stmt := inClass (top 8) 14
abbrev zs0o : Stmt := inClass (top 8) 15
abbrev zs0k : Stmt := inClass (top 8) 16
abbrev zs07 : Stmt := inClass (top 8) 17
abbrev zs04 : Stmt := top 10
abbrev zs12 : Stmt := inClass (top 11) 0
abbrev zs1f : Stmt := inClass (top 11) 1
abbrev zs0v : Stmt := inClass (top 11) 2
abbrev zs0t : Stmt := inClass (top 11) 3
abbrev zs10 : Stmt := inClass (top 11) 4
abbrev zs19 : Stmt := inClass (top 11) 5
abbrev zs1a : Stmt := inClass (top 11) 6
abbrev zs0u : Stmt := inClass (top 11) 7
abbrev zs00 : Stmt := inClass (top 11) 8
abbrev zs03 : Stmt := inClass (top 11) 9
abbrev zs16 : Stmt := inClass (top 11) 10
abbrev zs0z : Stmt := top 13
abbrev zs1d : Stmt := top 14
abbrev zs0p : Stmt := top 15
abbrev zs0g : Stmt := top 16
abbrev zs1h : Stmt := top 18
abbrev zs14 : Stmt := top 19
abbrev zs1g : Stmt := top 20
abbrev zs0s : Stmt := top 21
abbrev zs0e : Stmt := top 22
abbrev zs0h : Stmt := top 23
abbrev zs05 : Stmt := top 24
abbrev zs0b : Stmt := top 25
abbrev zs0m : Stmt := top 26
abbrev zs18 : Stmt := top 27
abbrev zs02 : Stmt := top 28
abbrev zs0f : Stmt := top 29
abbrev zs06 : Stmt := top 30
abbrev zs1c : Stmt := top 31
abbrev zs0q : Stmt := top 32
abbrev zs1j : Stmt := top 33
structure Txt (K : PySem.W.Frag) (mg : Str → Option Value) (C_House : Addr) (C_Hall : Addr) : Prop where
 ok : True
 n_bool : mg "bool" = none
 n_dict : mg "dict" = none
 n_int : mg "int" = none
 n_isinstance : mg "isinstance" = none
 n_len : mg "len" = none
 n_list : mg "list" = none
 n_range : mg "range" = none
 n_str : mg "str" = none
 n_sum : mg "sum" = none
 n_tuple : mg "tuple" = none
 cl_House : Cls K C_House
 m_House : mg "House" = some (.ref C_House)
 f_House_against : NoAttr K C_House "against"
 f_House_awake : NoAttr K C_House "awake"
 f_House_book : NoAttr K C_House "book"
 f_House_counted : NoAttr K C_House "counted"
 f_House_lines_read : NoAttr K C_House "lines_read"
 f_House_number : NoAttr K C_House "number"
 f_House_others : NoAttr K C_House "others"
 f_House_pages : NoAttr K C_House "pages"
 cl_Hall : Cls K C_Hall
 m_Hall : mg "Hall" = some (.ref C_Hall)
 f_Hall_houses : NoAttr K C_Hall "houses"
 f_Hall_letters : NoAttr K C_Hall "letters"
 f_Hall_unspent : NoAttr K C_Hall "unspent"
theorem zsc1b : FnScope ["book", "bargain"] ["book", "bargain"] (defScope zs1b) := ⟨rfl, rfl, rfl, by decide +kernel, rfl, by decide +kernel, by decide +kernel⟩
theorem znd1b_0 : List.Nodup (["line", "bargain"] : List Str) := by decide +kernel
theorem zsc1i : FnScope ["book", "bargain"] ["book", "bargain"] (defScope zs1i) := ⟨rfl, rfl, rfl, by decide +kernel, rfl, by decide +kernel, by decide +kernel⟩
theorem zsc1e : FnScope ["book", "bargain", "word"] ["book", "bargain"] (defScope zs1e) := ⟨rfl, rfl, rfl, by decide +kernel, rfl, by decide +kernel, by decide +kernel⟩
theorem zsc0l : FnScope ["book", "bargain", "words"] ["book", "bargain"] (defScope zs0l) := ⟨rfl, rfl, rfl, by decide +kernel, rfl, by decide +kernel, by decide +kernel⟩
theorem zsc13 : FnScope ["book", "bargain"] ["book", "bargain"] (defScope zs13) := ⟨rfl, rfl, rfl, by decide +kernel, rfl, by decide +kernel, by decide +kernel⟩
theorem zsc17 : FnScope ["book"] ["book"] (defScope zs17) := ⟨rfl, rfl, rfl, by decide +kernel, rfl, by decide +kernel, by decide +kernel⟩
theorem znd17_0 : List.Nodup (["line", "book"] : List Str) := by decide +kernel
theorem zsc11 : FnScope ["self", "number", "count", "against"] ["self", "number", "count", "against"] (defScope zs11) := ⟨rfl, rfl, rfl, by decide +kernel, rfl, by decide +kernel, by decide +kernel⟩
theorem znd11_0 : List.Nodup (["other", "number"] : List Str) := by decide +kernel
theorem zsc0j : FnScope ["self"] ["self"] (defScope zs0j) := ⟨rfl, rfl, rfl, by decide +kernel, rfl, by decide +kernel, by decide +kernel⟩
theorem zsc0r : FnScope ["self", "bargain"] ["self", "bargain"] (defScope zs0r) := ⟨rfl, rfl, rfl, by decide +kernel, rfl, by decide +kernel, by decide +kernel⟩
theorem zsc15 : FnScope ["self", "letter", "giver", "bargain", "word"] ["self", "letter"] (defScope zs15) := ⟨rfl, rfl, rfl, by decide +kernel, rfl, by decide +kernel, by decide +kernel⟩
theorem zsc0n : FnScope ["self", "bargain"] ["self", "bargain"] (defScope zs0n) := ⟨rfl, rfl, rfl, by decide +kernel, rfl, by decide +kernel, by decide +kernel⟩
theorem zsc0y : FnScope ["self"] ["self"] (defScope zs0y) := ⟨rfl, rfl, rfl, by decide +kernel, rfl, by decide +kernel, by decide +kernel⟩
theorem zsc0w : FnScope ["self", "undecided", "sent", "bargain"] ["self"] (defScope zs0w) := ⟨rfl, rfl, rfl, by decide +kernel, rfl, by decide +kernel, by decide +kernel⟩
theorem zsc0a : FnScope ["self", "letter"] ["self", "letter"] (defScope zs0a) := ⟨rfl, rfl, rfl, by decide +kernel, rfl, by decide +kernel, by decide +kernel⟩
theorem zsc0d : FnScope ["self", "giver", "bargain"] ["self", "giver", "bargain"] (defScope zs0d) := ⟨rfl, rfl, rfl, by decide +kernel, rfl, by decide +kernel, by decide +kernel⟩
theorem zsc09 : FnScope ["self", "giver", "bargain", "word", "decided", "givers"] ["self", "giver", "bargain", "word"] (defScope zs09) := ⟨rfl, rfl, rfl, by decide +kernel, rfl, by decide +kernel, by decide +kernel⟩
theorem zsc01 : FnScope ["self", "bargain", "word"] ["self", "bargain", "word"] (defScope zs01) := ⟨rfl, rfl, rfl, by decide +kernel, rfl, by decide +kernel, by decide +kernel⟩
theorem zsc08 : FnScope ["self", "giver", "bargain", "decided"] ["self", "giver", "bargain"] (defScope zs08) := ⟨rfl, rfl, rfl, by decide +kernel, rfl, by decide +kernel, by decide +kernel⟩
theorem zsc0i : FnScope ["self", "bargain", "word"] ["self", "bargain", "word"] (defScope zs0i) := ⟨rfl, rfl, rfl, by decide +kernel, rfl, by decide +kernel, by decide +kernel⟩
theorem zsc0c : FnScope ["self", "bargain"] ["self", "bargain"] (defScope zs0c) := ⟨rfl, rfl, rfl, by decide +kernel, rfl, by decide +kernel, by decide +kernel⟩
theorem zsc0x : FnScope ["self", "bargain", "line"] ["self", "bargain"] (defScope zs0x) := ⟨rfl, rfl, rfl, by decide +kernel, rfl, by decide +kernel, by decide +kernel⟩
theorem zsc0o : FnScope ["self", "word", "bargain"] ["self", "word", "bargain"] (defScope zs0o) := ⟨rfl, rfl, rfl, by decide +kernel, rfl, by decide +kernel, by decide +kernel⟩
theorem zsc0k : FnScope ["self", "other", "bargain", "word"] ["self", "other", "bargain", "word"] (defScope zs0k) := ⟨rfl, rfl, rfl, by decide +kernel, rfl, by decide +kernel, by decide +kernel⟩
theorem zsc07 : FnScope ["self", "bargain", "word"] ["self", "bargain", "word"] (defScope zs07) := ⟨rfl, rfl, rfl, by decide +kernel, rfl, by decide +kernel, by decide +kernel⟩
theorem znd07_0 : List.Nodup (["other", "bargain", "word", "self"] : List Str) := by decide +kernel
theorem zsc04 : FnScope ["against", "number"] ["against", "number"] (defScope zs04) := ⟨rfl, rfl, rfl, by decide +kernel, rfl, by decide +kernel, by decide +kernel⟩
theorem znd04_0 : List.Nodup (["pair", "number"] : List Str) := by decide +kernel
theorem zsc12 : FnScope ["self", "count", "against"] ["self", "count", "against"] (defScope zs12) := ⟨rfl, rfl, rfl, by decide +kernel, rfl, by decide +kernel, by decide +kernel⟩
theorem znd12_0 : List.Nodup (["number", "count", "against"] : List Str) := by decide +kernel
theorem zsc1f : FnScope ["self", "deed", "word"] ["self", "deed"] (defScope zs1f) := ⟨rfl, rfl, rfl, by decide +kernel, rfl, by decide +kernel, by decide +kernel⟩
theorem zsc0v : FnScope ["self", "bargain", "stays", "house", "ahead"] ["self", "bargain", "stays"] (defScope zs0v) := ⟨rfl, rfl, rfl, by decide +kernel, rfl, by decide +kernel, by decide +kernel⟩
theorem zsc0t : FnScope ["self", "which", "stays", "letter", "house", "ahead"] ["self", "which", "stays"] (defScope zs0t) := ⟨rfl, rfl, rfl, by decide +kernel, rfl, by decide +kernel, by decide +kernel⟩
theorem zsc10 : FnScope ["self", "number", "bargain", "sent"] ["self", "number", "bargain"] (defScope zs10) := ⟨rfl, rfl, rfl, by decide +kernel, rfl, by decide +kernel, by decide +kernel⟩
theorem zsc19 : FnScope ["self", "number", "house"] ["self", "number"] (defScope zs19) := ⟨rfl, rfl, rfl, by decide +kernel, rfl, by decide +kernel, by decide +kernel⟩
theorem zsc1a : FnScope ["self", "number", "house", "ahead"] ["self", "number"] (defScope zs1a) := ⟨rfl, rfl, rfl, by decide +kernel, rfl, by decide +kernel, by decide +kernel⟩
theorem zsc0u : FnScope ["self", "written", "place", "which", "lines", "number"] ["self"] (defScope zs0u) := ⟨rfl, rfl, rfl, by decide +kernel, rfl, by decide +kernel, by decide +kernel⟩
theorem znd0u_0 : List.Nodup (["line", "number"] : List Str) := by decide +kernel
theorem znd0u_1 : List.Nodup (["which", "self"] : List Str) := by decide +kernel
theorem zsc00 : FnScope ["self", "which", "letter"] ["self", "which"] (defScope zs00) := ⟨rfl, rfl, rfl, by decide +kernel, rfl, by decide +kernel, by decide +kernel⟩
theorem zsc03 : FnScope ["self", "house", "sent", "stays"] ["self", "house", "sent", "stays"] (defScope zs03) := ⟨rfl, rfl, rfl, by decide +kernel, rfl, by decide +kernel, by decide +kernel⟩
theorem zsc16 : FnScope ["self", "sent", "first"] ["self", "sent"] (defScope zs16) := ⟨rfl, rfl, rfl, by decide +kernel, rfl, by decide +kernel, by decide +kernel⟩
theorem zsc0z : FnScope ["count", "against", "deeds", "hall", "deed"] ["count", "against", "deeds"] (defScope zs0z) := ⟨rfl, rfl, rfl, by decide +kernel, rfl, by decide +kernel, by decide +kernel⟩
theorem zsc1d : FnScope ["count", "against", "deeds", "hall"] ["count", "against", "deeds"] (defScope zs1d) := ⟨rfl, rfl, rfl, by decide +kernel, rfl, by decide +kernel, by decide +kernel⟩
theorem znd1d_0 : List.Nodup (["deed", "hall"] : List Str) := by decide +kernel
theorem zsc0p : FnScope ["count", "against", "deeds"] ["count", "against", "deeds"] (defScope zs0p) := ⟨rfl, rfl, rfl, by decide +kernel, rfl, by decide +kernel, by decide +kernel⟩
theorem znd0p_0 : List.Nodup (["house"] : List Str) := by decide +kernel
theorem zsc0g : FnScope ["count", "against", "deeds"] ["count", "against", "deeds"] (defScope zs0g) := ⟨rfl, rfl, rfl, by decide +kernel, rfl, by decide +kernel, by decide +kernel⟩
theorem zsc1h : FnScope ["_law_found", "_law_meant", "_law_k"] ["_law_found", "_law_meant"] (defScope zs1h) := ⟨rfl, rfl, rfl, by decide +kernel, rfl, by decide +kernel, by decide +kernel⟩
theorem zsc14 : FnScope ["_law_found"] ["_law_found"] (defScope zs14) := ⟨rfl, rfl, rfl, by decide +kernel, rfl, by decide +kernel, by decide +kernel⟩
theorem zsc1g : FnScope ["_law_script", "_law_k"] ["_law_script", "_law_k"] (defScope zs1g) := ⟨rfl, rfl, rfl, by decide +kernel, rfl, by decide +kernel, by decide +kernel⟩
theorem zsc0s : FnScope ["_law_found"] ["_law_found"] (defScope zs0s) := ⟨rfl, rfl, rfl, by decide +kernel, rfl, by decide +kernel, by decide +kernel⟩
theorem zsc0e : FnScope ["_law_found", "_law_line"] ["_law_found"] (defScope zs0e) := ⟨rfl, rfl, rfl, by decide +kernel, rfl, by decide +kernel, by decide +kernel⟩
theorem zsc0h : FnScope ["_law_found", "_law_count", "_law_book"] ["_law_found", "_law_count"] (defScope zs0h) := ⟨rfl, rfl, rfl, by decide +kernel, rfl, by decide +kernel, by decide +kernel⟩
theorem zsc05 : FnScope [] [] (defScope zs05) := ⟨rfl, rfl, rfl, by decide +kernel, rfl, by decide +kernel, by decide +kernel⟩
theorem zsc0b : FnScope ["_law_cell"] ["_law_cell"] (defScope zs0b) := ⟨rfl, rfl, rfl, by decide +kernel, rfl, by decide +kernel, by decide +kernel⟩
theorem zsc0m : FnScope ["_law_cell", "_law_k", "_law_count", "_law_swept", "_law_way", "_law_who", "_law_stays", "_law_which"] ["_law_cell", "_law_k", "_law_count", "_law_swept"] (defScope zs0m) := ⟨rfl, rfl, rfl, by decide +kernel, rfl, by decide +kernel, by decide +kernel⟩
theorem zsc18 : FnScope ["_law_cells", "_law_count", "_law_deeds", "_law_swept", "_law_k"] ["_law_cells", "_law_count"] (defScope zs18) := ⟨rfl, rfl, rfl, by decide +kernel, rfl, by decide +kernel, by decide +kernel⟩
theorem zsc02 : FnScope ["_law_cell", "_law_count", "_law_pairs", "_law_k", "_law_j"] ["_law_cell", "_law_count"] (defScope zs02) := ⟨rfl, rfl, rfl, by decide +kernel, rfl, by decide +kernel, by decide +kernel⟩
theorem zsc0f : FnScope ["_law_found", "_law_count", "_law_number"] ["_law_found", "_law_count"] (defScope zs0f) := ⟨rfl, rfl, rfl, by decide +kernel, rfl, by decide +kernel, by decide +kernel⟩
theorem zsc06 : FnScope ["_law_found", "_law_count", "_law_letter"] ["_law_found", "_law_count"] (defScope zs06) := ⟨rfl, rfl, rfl, by decide +kernel, rfl, by decide +kernel, by decide +kernel⟩
theorem zsc1c : FnScope ["_law_before", "_law_behind"] ["_law_before", "_law_behind"] (defScope zs1c) := ⟨rfl, rfl, rfl, by decide +kernel, rfl, by decide +kernel, by decide +kernel⟩
theorem zsc0q : FnScope ["_law_rows", "_law_deed", "_law_told", "_law_count", "_law_letters", "_law_due", "_law_pair", "_law_k", "_law_lines", "_law_row"] ["_law_rows", "_law_deed", "_law_told", "_law_count", "_law_letters"] (defScope zs0q) := ⟨rfl, rfl, rfl, by decide +kernel, rfl, by decide +kernel, by decide +kernel⟩
theorem znd0q_0 : List.Nodup (["_law_pair", "_law_k"] : List Str) := by decide +kernel
theorem znd0q_1 : List.Nodup (["_law_row"] : List Str) := by decide +kernel
theorem zsc1j : FnScope ["_law_script", "_law_count", "_law_against", "_law_deeds", "_law_handed", "_law_told", "_law_k", "_law_spot", "_law_before", "_law_behind", "_law_rows", "_law_letters"] ["_law_script"] (defScope zs1j) := ⟨rfl, rfl, rfl, by decide +kernel, rfl, by decide +kernel, by decide +kernel⟩
theorem znd1j_0 : List.Nodup (["_law_j", "_law_before", "_law_behind"] : List Str) := by decide +kernel
theorem Txt.hs {K : PySem.W.Frag} {mg : Str → Option Value} {C_House : Addr} {C_Hall : Addr} (T : Txt K mg C_House C_Hall) : HouseTxt K C_House := ⟨T.cl_House, T.f_House_number, T.f_House_others, T.f_House_against, T.f_House_book, T.f_House_awake, T.f_House_counted, T.f_House_pages, T.f_House_lines_read⟩
theorem Txt.hx {K : PySem.W.Frag} {mg : Str → Option Value} {C_House : Addr} {C_Hall : Addr} (T : Txt K mg C_House C_Hall) : HallTxt K C_Hall := ⟨T.cl_Hall, T.f_Hall_houses, T.f_Hall_letters, T.f_Hall_unspent⟩
section
variable {P : Program} {w : World} {K : PySem.W.Frag} {mg : Str → Option Value} {base : Heap} {f : Addr} {cdv : Value} {A : Around} {outer : List Env} {s : Shared} {H : Hp} {E : XK}
theorem zder1b {C_House : Addr} {C_Hall : Addr}  (T : Txt K mg C_House C_Hall)
  
  (hr : Room 0 (A.deeper (PyProof.Rows.envOfC "words_of" (defScope zs1b) s.heap.objs.size f cdv))) :
  PSs (cxOf CX0 P w K mg base ["book", "bargain"] "words_of" (defScope zs1b) f cdv A outer s H E).nox (defBody zs1b) (zR1b K ) := by
 have hu := hu_of hr
 have hu64 := hr.units
 have hu65 := hu65_of hr
 unfold zR1b
 exact (pss_one (ps_ret (pe_lc rfl (show CompOk _ (["line", "bargain"] : List Str) _ ([("bargain", s.heap.objs.size + 1 + 0)] : List (Str × Addr)) ([none, some 1] : List (Option Nat)) from ⟨by with_unfolding_all rfl, rfl, rfl, rfl, rfl, ⟨rfl, trivial⟩, ⟨⟨rfl, Or.inl rfl, Or.inl rfl, _, rfl, rfl⟩, trivial⟩⟩) (pi_list (pv 0)) (fun _ _ _ _ => (pg_name (i := 0) znd1b_0 rfl (Or.inl rfl))) (fun _ _ _ _ => (pifs_one (pt_cmpR op_eq (pe_ix ix_tup (pv 0) pe_int (fun _ _ => rfl)) (pv 1) (nomark _)))) (fun _ _ _ _ => (pe_ix ix_tup (pv 0) pe_int (fun _ _ => rfl))))))
theorem zder1i {C_House : Addr} {C_Hall : Addr} (zsp1b : Sp) (T : Txt K mg C_House C_Hall)
  (zh1b : Has P w K mg base 1 "words_of" ["book", "bargain"] zsp1b)
  (hr : Room 1 (A.deeper (PyProof.Rows.envOfC "knows" (defScope zs1i) s.heap.objs.size f cdv))) :
  PSs (cxOf CX0 P w K mg base ["book", "bargain"] "knows" (defScope zs1i) f cdv A outer s H E).nox (defBody zs1i) (zR1i K zsp1b) := by
 have hu := hu_of hr
 have hu64 := hr.units
 have hu65 := hu65_of hr
 obtain ⟨zf1b, zfd1b, zG1b, zm1b, zk1b, zb1b⟩ := zh1b
 have zhr1b := hr.mono (j := 1) (by decide)
 unfold zR1i
 exact (pss_one (ps_ret (pe_cmpR op_gt (pe_callB call_len_seq (by rfl) T.n_len PySem.boot_len (pa_cons (pe_call zG1b zhr1b rfl zm1b zk1b zb1b .nil pass0 (pa_cons (pv 0) (pa_cons (pv 1) pa_nil))) pa_nil)) pe_int (nomark _))))
theorem zder1e {C_House : Addr} {C_Hall : Addr} (zsp1b : Sp) (T : Txt K mg C_House C_Hall)
  (zh1b : Has P w K mg base 1 "words_of" ["book", "bargain"] zsp1b)
  (hr : Room 1 (A.deeper (PyProof.Rows.envOfC "vote_in" (defScope zs1e) s.heap.objs.size f cdv))) :
  PSs (cxOf CX0 P w K mg base ["book", "bargain", "word"] "vote_in" (defScope zs1e) f cdv A outer s H E).nox (defBody zs1e) (zR1e K zsp1b) := by
 have hu := hu_of hr
 have hu64 := hr.units
 have hu65 := hu65_of hr
 obtain ⟨zf1b, zfd1b, zG1b, zm1b, zk1b, zb1b⟩ := zh1b
 have zhr1b := hr.mono (j := 1) (by decide)
 unfold zR1e
 exact (pss_cons (ps_for PassesOwn.never rfl (pi_list (pe_call zG1b zhr1b rfl zm1b zk1b zb1b .nil pass0 (pa_cons (pv 0) (pa_cons (pv 1) pa_nil)))) (pg_name (i := 2) zsc1e.nd rfl (Or.inl rfl))
   (pss_one (ps_if (pt_cmpR op_in_seq (pv 2) (pe_tup (pa_cons pe_str (pa_cons pe_str (pa_cons pe_str pa_nil)))) (by with_unfolding_all rfl))
   (pss_one (ps_ret (pv 2)))
   pss_nil)))
   (pss_one (ps_ret pe_non)))
theorem zder0l {C_House : Addr} {C_Hall : Addr} (zsp1b : Sp) (T : Txt K mg C_House C_Hall)
  (zh1b : Has P w K mg base 1 "words_of" ["book", "bargain"] zsp1b)
  (hr : Room 1 (A.deeper (PyProof.Rows.envOfC "decision_in" (defScope zs0l) s.heap.objs.size f cdv))) :
  PSs (cxOf CX0 P w K mg base ["book", "bargain", "words"] "decision_in" (defScope zs0l) f cdv A outer s H E).nox (defBody zs0l) (zR0l K zsp1b) := by
 have hu := hu_of hr
 have hu64 := hr.units
 have hu65 := hu65_of hr
 obtain ⟨zf1b, zfd1b, zG1b, zm1b, zk1b, zb1b⟩ := zh1b
 have zhr1b := hr.mono (j := 1) (by decide)
 unfold zR0l
 exact (pss_cons (ps_set (i := 2) zsc0l.nd rfl (Or.inl rfl) (pe_call zG1b zhr1b rfl zm1b zk1b zb1b .nil pass0 (pa_cons (pv 0) (pa_cons (pv 1) pa_nil))))
   (pss_cons (ps_if (pt_cmpR op_in_seq pe_str (pv 2) (by with_unfolding_all rfl))
   (pss_one (ps_ret pe_str))
   pss_nil)
   (pss_cons (ps_if (PW.pt (pw_or (pt_cmpR op_in_seq pe_str (pv 2) (by with_unfolding_all rfl)) (pw_or1 (pt_cmpR op_in_seq pe_str (pv 2) (by with_unfolding_all rfl)))))
   (pss_one (ps_ret pe_str))
   pss_nil)
   (pss_one (ps_ret pe_non)))))
theorem zder13 {C_House : Addr} {C_Hall : Addr} (zsp1e : Sp) (zsp0l : Sp) (T : Txt K mg C_House C_Hall)
  (zh1e : Has P w K mg base 2 "vote_in" ["book", "bargain"] zsp1e) (zh0l : Has P w K mg base 2 "decision_in" ["book", "bargain"] zsp0l)
  (hr : Room 2 (A.deeper (PyProof.Rows.envOfC "is_unsure" (defScope zs13) s.heap.objs.size f cdv))) :
  PSs (cxOf CX0 P w K mg base ["book", "bargain"] "is_unsure" (defScope zs13) f cdv A outer s H E).nox (defBody zs13) (zR13 K zsp1e zsp0l) := by
 have hu := hu_of hr
 have hu64 := hr.units
 have hu65 := hu65_of hr
 obtain ⟨zf1e, zfd1e, zG1e, zm1e, zk1e, zb1e⟩ := zh1e
 have zhr1e := hr.mono (j := 2) (by decide)
 obtain ⟨zf0l, zfd0l, zG0l, zm0l, zk0l, zb0l⟩ := zh0l
 have zhr0l := hr.mono (j := 2) (by decide)
 unfold zR13
 exact (pss_one (ps_ret (pe_and (pe_cmpR op_eq (pe_call zG1e zhr1e rfl zm1e zk1e zb1e .nil pass0 (pa_cons (pv 0) (pa_cons (pv 1) pa_nil))) pe_str (nomark _)) (pe_one (pe_cmp (pc_isN (pe_call zG0l zhr0l rfl zm0l zk0l zb0l .nil pass0 (pa_cons (pv 0) (pa_cons (pv 1) pa_nil)))))))))
theorem zder17 {C_House : Addr} {C_Hall : Addr} (zsp0l : Sp) (T : Txt K mg C_House C_Hall)
  (zh0l : Has P w K mg base 2 "decision_in" ["book", "bargain"] zsp0l)
  (hr : Room 2 (A.deeper (PyProof.Rows.envOfC "left_open" (defScope zs17) s.heap.objs.size f cdv))) :
  PSs (cxOf CX0 P w K mg base ["book"] "left_open" (defScope zs17) f cdv A outer s H E).nox (defBody zs17) (zR17 K zsp0l) := by
 have hu := hu_of hr
 have hu64 := hr.units
 have hu65 := hu65_of hr
 obtain ⟨zf0l, zfd0l, zG0l, zm0l, zk0l, zb0l⟩ := zh0l
 have zhr0l := hr.mono (j := 2) (by decide)
 unfold zR17
 exact (pss_one (ps_ret (pe_lc rfl (show CompOk _ (["line", "book"] : List Str) _ ([("book", s.heap.objs.size + 1 + 0)] : List (Str × Addr)) ([none, some 0] : List (Option Nat)) from ⟨by with_unfolding_all rfl, rfl, rfl, rfl, rfl, ⟨rfl, trivial⟩, ⟨⟨rfl, Or.inl rfl, Or.inl rfl, _, rfl, rfl⟩, trivial⟩⟩) (pi_list (pv 0)) (fun _ _ _ _ => (pg_name (i := 0) znd17_0 rfl (Or.inl rfl))) (fun _ _ _ _ => (pifs_one (PW.pt (pw_and (pt_cmpR op_eq (pe_ix ix_tup (pv 0) pe_int (fun _ _ => rfl)) pe_str (nomark _)) (pw_and1 (pt_cmp (pc_isN (pe_call zG0l zhr0l rfl zm0l zk0l zb0l .nil pass0 (pa_cons (pv 1) (pa_cons (pe_ix ix_tup (pv 0) pe_int (fun _ _ => rfl)) pa_nil)))))))))) (fun _ _ _ _ => (pe_ix ix_tup (pv 0) pe_int (fun _ _ => rfl))))))
theorem zder11 {C_Hall : Addr} (zsp0j : Sp) (C_House : Addr) (T : Txt K mg C_House C_Hall)
  (zh0j : HasM P w K mg base C_House 1 "forget" ["self"] zsp0j)
  (hr : Room 1 (A.deeper (PyProof.Rows.envOfC "House.__init__" (defScope zs11) s.heap.objs.size f cdv))) :
  PSs (cxOf CX0 P w K mg base ["self", "number", "count", "against"] "House.__init__" (defScope zs11) f cdv A outer s H E).nox (defBody zs11) (zR11 K zsp0j C_House) := by
 have hu := hu_of hr
 have hu64 := hr.units
 have hu65 := hu65_of hr
 obtain ⟨zf0j, zfd0j, zG0j, zmt0j, zb0j⟩ := zh0j
 have zhr0j := hr.mono (j := 1) (by decide)
 unfold zR11
 exact (pss_cons (ps_fld (pv 0) (pv 1) rfl)
   (pss_cons (ps_fld (pv 0) (pe_lc rfl (show CompOk _ (["other", "number"] : List Str) _ ([("number", s.heap.objs.size + 1 + 0)] : List (Str × Addr)) ([none, some 1] : List (Option Nat)) from ⟨by with_unfolding_all rfl, rfl, rfl, rfl, rfl, ⟨rfl, trivial⟩, ⟨⟨rfl, Or.inl rfl, Or.inl rfl, _, rfl, rfl⟩, trivial⟩⟩) (pi_range1 rfl T.n_range (pa_cons (pv 2) pa_nil)) (fun _ _ _ _ => (pg_name (i := 0) znd11_0 rfl (Or.inl rfl))) (fun _ _ _ _ => (pifs_one (pt_cmpR op_ne (pv 0) (pv 1) (nomark _)))) (fun _ _ _ _ => (pv 0))) rfl)
   (pss_cons (ps_fld (pv 0) (pe_callTy call_list_of (by rfl) T.n_list PySem.Pv.boot_list (pa_cons (pv 3) pa_nil)) rfl)
   (pss_cons (ps_fld (pv 0) (pe_lst pa_nil) rfl)
   (pss_cons (ps_fld (pv 0) pe_bl rfl)
   (pss_one (ps_expr (pe_meth0 (pv 0) T.cl_House zmt0j zG0j zhr0j zb0j .nil pass0))))))))
theorem zder0j {C_House : Addr} {C_Hall : Addr}  (T : Txt K mg C_House C_Hall)
  
  (hr : Room 0 (A.deeper (PyProof.Rows.envOfC "House.forget" (defScope zs0j) s.heap.objs.size f cdv))) :
  PSs (cxOf CX0 P w K mg base ["self"] "House.forget" (defScope zs0j) f cdv A outer s H E).nox (defBody zs0j) (zR0j K ) := by
 have hu := hu_of hr
 have hu64 := hr.units
 have hu65 := hu65_of hr
 unfold zR0j
 exact (pss_cons (ps_fld (pv 0) pe_dnewK rfl)
   (pss_cons (ps_fld (pv 0) pe_dnewK rfl)
   (pss_one (ps_fld (pv 0) pe_int rfl))))
theorem zder0r {C_Hall : Addr} (zsp0o : Sp) (zsp07 : Sp) (C_House : Addr) (T : Txt K mg C_House C_Hall)
  (zh0o : HasM P w K mg base C_House 1 "write" ["self", "word", "bargain"] zsp0o) (zh07 : HasM P w K mg base C_House 1 "to_others" ["self", "bargain", "word"] zsp07)
  (hr : Room 1 (A.deeper (PyProof.Rows.envOfC "House.begin" (defScope zs0r) s.heap.objs.size f cdv))) :
  PSs (cxOf CX0 P w K mg base ["self", "bargain"] "House.begin" (defScope zs0r) f cdv A outer s H E).nox (defBody zs0r) (zR0r K zsp0o zsp07 C_House) := by
 have hu := hu_of hr
 have hu64 := hr.units
 have hu65 := hu65_of hr
 obtain ⟨zf0o, zfd0o, zG0o, zmt0o, zb0o⟩ := zh0o
 have zhr0o := hr.mono (j := 1) (by decide)
 obtain ⟨zf07, zfd07, zG07, zmt07, zb07⟩ := zh07
 have zhr07 := hr.mono (j := 1) (by decide)
 unfold zR0r
 exact (pss_cons (ps_if (pt_cmpR op_in_seq (pv 1) (pe_fld (pv 0) rfl) (by with_unfolding_all rfl))
   (pss_cons (ps_expr (pe_meth (pv 0) T.cl_House zmt0o zG0o zhr0o zb0o .nil pass0 (pa_cons pe_str (pa_cons (pv 1) pa_nil))))
   (pss_one (ps_ret (pe_lst pa_nil))))
   pss_nil)
   (pss_cons (ps_expr (pe_meth (pv 0) T.cl_House zmt0o zG0o zhr0o zb0o .nil pass0 (pa_cons pe_str (pa_cons (pv 1) pa_nil))))
   (pss_one (ps_ret (pe_meth (pv 0) T.cl_House zmt07 zG07 zhr07 zb07 .nil pass0 (pa_cons (pv 1) (pa_cons pe_str pa_nil)))))))
theorem zder15 {C_Hall : Addr} (zsp0d : Sp) (zsp08 : Sp) (zsp09 : Sp) (zsp01 : Sp) (C_House : Addr) (T : Txt K mg C_House C_Hall)
  (zh0d : HasM P w K mg base C_House 4 "got_ask" ["self", "giver", "bargain"] zsp0d) (zh08 : HasM P w K mg base C_House 4 "got_query" ["self", "giver", "bargain"] zsp08) (zh09 : HasM P w K mg base C_House 4 "got_vote" ["self", "giver", "bargain", "word"] zsp09) (zh01 : HasM P w K mg base C_House 4 "got_decision" ["self", "bargain", "word"] zsp01)
  (hr : Room 4 (A.deeper (PyProof.Rows.envOfC "House.got" (defScope zs15) s.heap.objs.size f cdv))) :
  PSs (cxOf CX0 P w K mg base ["self", "letter", "giver", "bargain", "word"] "House.got" (defScope zs15) f cdv A outer s H E).nox (defBody zs15) (zR15 K zsp0d zsp08 zsp09 zsp01 C_House) := by
 have hu := hu_of hr
 have hu64 := hr.units
 have hu65 := hu65_of hr
 obtain ⟨zf0d, zfd0d, zG0d, zmt0d, zb0d⟩ := zh0d
 have zhr0d := hr.mono (j := 4) (by decide)
 obtain ⟨zf08, zfd08, zG08, zmt08, zb08⟩ := zh08
 have zhr08 := hr.mono (j := 4) (by decide)
 obtain ⟨zf09, zfd09, zG09, zmt09, zb09⟩ := zh09
 have zhr09 := hr.mono (j := 4) (by decide)
 obtain ⟨zf01, zfd01, zG01, zmt01, zb01⟩ := zh01
 have zhr01 := hr.mono (j := 4) (by decide)
 unfold zR15
 exact (pss_cons (ps_set (i := 2) zsc15.nd rfl (Or.inl rfl) (pe_ix ix_tup (pv 1) pe_int (fun _ _ => rfl)))
   (pss_cons (ps_set (i := 3) zsc15.nd rfl (Or.inl rfl) (pe_ix ix_tup (pv 1) pe_int (fun _ _ => rfl)))
   (pss_cons (ps_set (i := 4) zsc15.nd rfl (Or.inl rfl) (pe_ix ix_tup (pv 1) pe_int (fun _ _ => rfl)))
   (pss_cons (ps_if (pt_cmpR op_eq (pv 4) pe_str (nomark _))
   (pss_one (ps_ret (pe_meth (pv 0) T.cl_House zmt0d zG0d zhr0d zb0d .nil pass0 (pa_cons (pv 2) (pa_cons (pv 3) pa_nil)))))
   pss_nil)
   (pss_cons (ps_if (pt_cmpR op_eq (pv 4) pe_str (nomark _))
   (pss_one (ps_ret (pe_meth (pv 0) T.cl_House zmt08 zG08 zhr08 zb08 .nil pass0 (pa_cons (pv 2) (pa_cons (pv 3) pa_nil)))))
   pss_nil)
   (pss_cons (ps_if (pt_cmpR op_in_seq (pv 4) (pe_tup (pa_cons pe_str (pa_cons pe_str pa_nil))) (by with_unfolding_all rfl))
   (pss_one (ps_ret (pe_meth (pv 0) T.cl_House zmt09 zG09 zhr09 zb09 .nil pass0 (pa_cons (pv 2) (pa_cons (pv 3) (pa_cons (pv 4) pa_nil))))))
   pss_nil)
   (pss_one (ps_ret (pe_meth (pv 0) T.cl_House zmt01 zG01 zhr01 zb01 .nil pass0 (pa_cons (pv 3) (pa_cons (pv 4) pa_nil)))))))))))
theorem zder0n {C_Hall : Addr} (zsp13 : Sp) (zsp0x : Sp) (zsp07 : Sp) (C_House : Addr) (T : Txt K mg C_House C_Hall)
  (zh13 : Has P w K mg base 3 "is_unsure" ["book", "bargain"] zsp13) (zh0x : HasM P w K mg base C_House 1 "page" ["self", "bargain"] zsp0x) (zh07 : HasM P w K mg base C_House 1 "to_others" ["self", "bargain", "word"] zsp07)
  (hr : Room 3 (A.deeper (PyProof.Rows.envOfC "House.query" (defScope zs0n) s.heap.objs.size f cdv))) :
  PSs (cxOf CX0 P w K mg base ["self", "bargain"] "House.query" (defScope zs0n) f cdv A outer s H E).nox (defBody zs0n) (zR0n K zsp13 zsp0x zsp07 C_House) := by
 have hu := hu_of hr
 have hu64 := hr.units
 have hu65 := hu65_of hr
 obtain ⟨zf13, zfd13, zG13, zm13, zk13, zb13⟩ := zh13
 have zhr13 := hr.mono (j := 3) (by decide)
 obtain ⟨zf0x, zfd0x, zG0x, zmt0x, zb0x⟩ := zh0x
 have zhr0x := hr.mono (j := 1) (by decide)
 obtain ⟨zf07, zfd07, zG07, zmt07, zb07⟩ := zh07
 have zhr07 := hr.mono (j := 1) (by decide)
 unfold zR0n
 exact (pss_cons (ps_if (PW.pt (pw_or (pt_not (pt_val (pe_fld (pv 0) rfl))) (pw_or1 (pt_not (pt_val (pe_call zG13 zhr13 rfl zm13 zk13 zb13 .nil pass0 (pa_cons (pe_meth (pv 0) T.cl_House zmt0x zG0x zhr0x zb0x .nil pass0 (pa_cons (pv 1) pa_nil)) (pa_cons (pv 1) pa_nil))))))))
   (pss_one (ps_ret (pe_lst pa_nil)))
   pss_nil)
   (pss_one (ps_ret (pe_meth (pv 0) T.cl_House zmt07 zG07 zhr07 zb07 .nil pass0 (pa_cons (pv 1) (pa_cons pe_str pa_nil))))))
theorem zder0y {C_Hall : Addr} (zsp0j : Sp) (C_House : Addr) (T : Txt K mg C_House C_Hall)
  (zh0j : HasM P w K mg base C_House 1 "forget" ["self"] zsp0j)
  (hr : Room 1 (A.deeper (PyProof.Rows.envOfC "House.stop" (defScope zs0y) s.heap.objs.size f cdv))) :
  PSs (cxOf CX0 P w K mg base ["self"] "House.stop" (defScope zs0y) f cdv A outer s H E).nox (defBody zs0y) (zR0y K zsp0j C_House) := by
 have hu := hu_of hr
 have hu64 := hr.units
 have hu65 := hu65_of hr
 obtain ⟨zf0j, zfd0j, zG0j, zmt0j, zb0j⟩ := zh0j
 have zhr0j := hr.mono (j := 1) (by decide)
 unfold zR0y
 exact (pss_cons (ps_fld (pv 0) pe_bl rfl)
   (pss_one (ps_expr (pe_meth0 (pv 0) T.cl_House zmt0j zG0j zhr0j zb0j .nil pass0))))
theorem zder0w {C_Hall : Addr} (zsp17 : Sp) (zsp0i : Sp) (C_House : Addr) (T : Txt K mg C_House C_Hall)
  (zh17 : Has P w K mg base 3 "left_open" ["book"] zsp17) (zh0i : HasM P w K mg base C_House 2 "decide" ["self", "bargain", "word"] zsp0i)
  (hr : Room 3 (A.deeper (PyProof.Rows.envOfC "House.wake" (defScope zs0w) s.heap.objs.size f cdv))) :
  PSs (cxOf CX0 P w K mg base ["self", "undecided", "sent", "bargain"] "House.wake" (defScope zs0w) f cdv A outer s H E).nox (defBody zs0w) (zR0w K zsp17 zsp0i C_House) := by
 have hu := hu_of hr
 have hu64 := hr.units
 have hu65 := hu65_of hr
 obtain ⟨zf17, zfd17, zG17, zm17, zk17, zb17⟩ := zh17
 have zhr17 := hr.mono (j := 3) (by decide)
 obtain ⟨zf0i, zfd0i, zG0i, zmt0i, zb0i⟩ := zh0i
 have zhr0i := hr.mono (j := 2) (by decide)
 unfold zR0w
 exact (pss_cons (ps_fld (pv 0) pe_bl rfl)
   (pss_cons (ps_set (i := 1) zsc0w.nd rfl (Or.inl rfl) (pe_call zG17 zhr17 rfl zm17 zk17 zb17 .nil pass0 (pa_cons (pe_fld (pv 0) rfl) pa_nil)))
   (pss_cons (ps_set (i := 2) zsc0w.nd rfl (Or.inl rfl) (pe_lst pa_nil))
   (pss_cons (ps_for PassesOwn.never rfl (pi_list (pv 1)) (pg_name (i := 3) zsc0w.nd rfl (Or.inl rfl))
   (pss_one (ps_expr (pe_bm PySem.F.plainAttrs_list PySem.F.slot_list_extend PySem.F.type_list_extend mt_extend (pv 2) (pa_cons (pe_meth (pv 0) T.cl_House zmt0i zG0i zhr0i zb0i .nil pass0 (pa_cons (pv 3) (pa_cons pe_str pa_nil))) pa_nil)))))
   (pss_one (ps_ret (pv 2)))))))
theorem zder0a {C_Hall : Addr} (zsp0c : Sp) (C_House : Addr) (T : Txt K mg C_House C_Hall)
  (zh0c : HasM P w K mg base C_House 3 "decision" ["self", "bargain"] zsp0c)
  (hr : Room 3 (A.deeper (PyProof.Rows.envOfC "House.is_spent" (defScope zs0a) s.heap.objs.size f cdv))) :
  PSs (cxOf CX0 P w K mg base ["self", "letter"] "House.is_spent" (defScope zs0a) f cdv A outer s H E).nox (defBody zs0a) (zR0a K zsp0c C_House) := by
 have hu := hu_of hr
 have hu64 := hr.units
 have hu65 := hu65_of hr
 obtain ⟨zf0c, zfd0c, zG0c, zmt0c, zb0c⟩ := zh0c
 have zhr0c := hr.mono (j := 3) (by decide)
 unfold zR0a
 exact (pss_cons (ps_if (pt_cmpR op_notIn_seq (pe_ix ix_tup (pv 1) pe_int (fun _ _ => rfl)) (pe_tup (pa_cons pe_str (pa_cons pe_str (pa_cons pe_str pa_nil)))) (by with_unfolding_all rfl))
   (pss_one (ps_ret pe_bl))
   pss_nil)
   (pss_one (ps_ret (pe_cmp (pc_notN (pe_meth (pv 0) T.cl_House zmt0c zG0c zhr0c zb0c .nil pass0 (pa_cons (pe_ix ix_tup (pv 1) pe_int (fun _ _ => rfl)) pa_nil)))))))
theorem zder0d {C_Hall : Addr} (zsp1i : Sp) (zsp0x : Sp) (zsp0o : Sp) (zsp0c : Sp) (zsp0k : Sp) (C_House : Addr) (T : Txt K mg C_House C_Hall)
  (zh1i : Has P w K mg base 2 "knows" ["book", "bargain"] zsp1i) (zh0x : HasM P w K mg base C_House 1 "page" ["self", "bargain"] zsp0x) (zh0o : HasM P w K mg base C_House 1 "write" ["self", "word", "bargain"] zsp0o) (zh0c : HasM P w K mg base C_House 3 "decision" ["self", "bargain"] zsp0c) (zh0k : HasM P w K mg base C_House 1 "to_one" ["self", "other", "bargain", "word"] zsp0k)
  (hr : Room 3 (A.deeper (PyProof.Rows.envOfC "House.got_ask" (defScope zs0d) s.heap.objs.size f cdv))) :
  PSs (cxOf CX0 P w K mg base ["self", "giver", "bargain"] "House.got_ask" (defScope zs0d) f cdv A outer s H E).nox (defBody zs0d) (zR0d K zsp1i zsp0x zsp0o zsp0c zsp0k C_House) := by
 have hu := hu_of hr
 have hu64 := hr.units
 have hu65 := hu65_of hr
 obtain ⟨zf1i, zfd1i, zG1i, zm1i, zk1i, zb1i⟩ := zh1i
 have zhr1i := hr.mono (j := 2) (by decide)
 obtain ⟨zf0x, zfd0x, zG0x, zmt0x, zb0x⟩ := zh0x
 have zhr0x := hr.mono (j := 1) (by decide)
 obtain ⟨zf0o, zfd0o, zG0o, zmt0o, zb0o⟩ := zh0o
 have zhr0o := hr.mono (j := 1) (by decide)
 obtain ⟨zf0c, zfd0c, zG0c, zmt0c, zb0c⟩ := zh0c
 have zhr0c := hr.mono (j := 3) (by decide)
 obtain ⟨zf0k, zfd0k, zG0k, zmt0k, zb0k⟩ := zh0k
 have zhr0k := hr.mono (j := 1) (by decide)
 unfold zR0d
 exact (pss_cut (ps_if (pt_not (pt_val (pe_call zG1i zhr1i rfl zm1i zk1i zb1i .nil pass0 (pa_cons (pe_meth (pv 0) T.cl_House zmt0x zG0x zhr0x zb0x .nil pass0 (pa_cons (pv 2) pa_nil)) (pa_cons (pv 2) pa_nil)))))
   (pss_one (ps_expr (pe_meth (pv 0) T.cl_House zmt0o zG0o zhr0o zb0o .nil pass0 (pa_cons (pe_ifExp (pt_cmpR op_in_seq (pv 2) (pe_fld (pv 0) rfl) (by with_unfolding_all rfl)) pe_str pe_str) (pa_cons (pv 2) pa_nil)))))
   pss_nil)
   (pss_cons (ps_if (pt_cmpR op_eq (pe_meth (pv 0) T.cl_House zmt0c zG0c zhr0c zb0c .nil pass0 (pa_cons (pv 2) pa_nil)) pe_str (nomark _))
   (pss_one (ps_ret (pe_meth (pv 0) T.cl_House zmt0k zG0k zhr0k zb0k .nil pass0 (pa_cons (pv 1) (pa_cons (pv 2) (pa_cons pe_str pa_nil))))))
   pss_nil)
   (pss_one (ps_ret (pe_meth (pv 0) T.cl_House zmt0k zG0k zhr0k zb0k .nil pass0 (pa_cons (pv 1) (pa_cons (pv 2) (pa_cons pe_str pa_nil))))))))
theorem zder09 {C_Hall : Addr} (zsp0c : Sp) (zsp0k : Sp) (zsp0i : Sp) (C_House : Addr) (T : Txt K mg C_House C_Hall)
  (zh0c : HasM P w K mg base C_House 3 "decision" ["self", "bargain"] zsp0c) (zh0k : HasM P w K mg base C_House 1 "to_one" ["self", "other", "bargain", "word"] zsp0k) (zh0i : HasM P w K mg base C_House 2 "decide" ["self", "bargain", "word"] zsp0i)
  (hr : Room 3 (A.deeper (PyProof.Rows.envOfC "House.got_vote" (defScope zs09) s.heap.objs.size f cdv))) :
  PSs (cxOf CX0 P w K mg base ["self", "giver", "bargain", "word", "decided", "givers"] "House.got_vote" (defScope zs09) f cdv A outer s H E).nox (defBody zs09) (zR09 K zsp0c zsp0k zsp0i C_House) := by
 have hu := hu_of hr
 have hu64 := hr.units
 have hu65 := hu65_of hr
 obtain ⟨zf0c, zfd0c, zG0c, zmt0c, zb0c⟩ := zh0c
 have zhr0c := hr.mono (j := 3) (by decide)
 obtain ⟨zf0k, zfd0k, zG0k, zmt0k, zb0k⟩ := zh0k
 have zhr0k := hr.mono (j := 1) (by decide)
 obtain ⟨zf0i, zfd0i, zG0i, zmt0i, zb0i⟩ := zh0i
 have zhr0i := hr.mono (j := 2) (by decide)
 unfold zR09
 exact (pss_cons (ps_set (i := 4) zsc09.nd rfl (Or.inl rfl) (pe_meth (pv 0) T.cl_House zmt0c zG0c zhr0c zb0c .nil pass0 (pa_cons (pv 2) pa_nil)))
   (pss_cons (ps_if (pt_cmp (pc_notN (pv 4)))
   (pss_one (ps_ret (pe_ifExp (pt_cmpR op_eq (pv 3) pe_str (nomark _)) (pe_meth (pv 0) T.cl_House zmt0k zG0k zhr0k zb0k .nil pass0 (pa_cons (pv 1) (pa_cons (pv 2) (pa_cons (pv 4) pa_nil)))) (pe_lst pa_nil))))
   pss_nil)
   (pss_cons (ps_if (pt_cmpR op_eq (pv 3) pe_str (nomark _))
   (pss_one (ps_ret (pe_meth (pv 0) T.cl_House zmt0i zG0i zhr0i zb0i .nil pass0 (pa_cons (pv 2) (pa_cons pe_str pa_nil)))))
   pss_nil)
   (pss_cons (ps_set (i := 5) zsc09.nd rfl (Or.inl rfl) (pe_dsetd (pe_fld (pv 0) rfl) (pv 2) pe_dnewK ⟨rfl, rfl, rfl, rfl⟩))
   (pss_cons (ps_dput hu (pv 5) (pv 1) pe_bl rfl)
   (pss_cons (ps_if (pt_cmpR op_lt (pe_callB call_lenD (by rfl) T.n_len PySem.boot_len (pa_cons (pv 5) pa_nil)) (pe_callB call_len_seq (by rfl) T.n_len PySem.boot_len (pa_cons (pe_fld (pv 0) rfl) pa_nil)) (nomark _))
   (pss_one (ps_ret (pe_lst pa_nil)))
   pss_nil)
   (pss_one (ps_ret (pe_meth (pv 0) T.cl_House zmt0i zG0i zhr0i zb0i .nil pass0 (pa_cons (pv 2) (pa_cons pe_str pa_nil)))))))))))
theorem zder01 {C_Hall : Addr} (zsp0c : Sp) (zsp0o : Sp) (C_House : Addr) (T : Txt K mg C_House C_Hall)
  (zh0c : HasM P w K mg base C_House 3 "decision" ["self", "bargain"] zsp0c) (zh0o : HasM P w K mg base C_House 1 "write" ["self", "word", "bargain"] zsp0o)
  (hr : Room 3 (A.deeper (PyProof.Rows.envOfC "House.got_decision" (defScope zs01) s.heap.objs.size f cdv))) :
  PSs (cxOf CX0 P w K mg base ["self", "bargain", "word"] "House.got_decision" (defScope zs01) f cdv A outer s H E).nox (defBody zs01) (zR01 K zsp0c zsp0o C_House) := by
 have hu := hu_of hr
 have hu64 := hr.units
 have hu65 := hu65_of hr
 obtain ⟨zf0c, zfd0c, zG0c, zmt0c, zb0c⟩ := zh0c
 have zhr0c := hr.mono (j := 3) (by decide)
 obtain ⟨zf0o, zfd0o, zG0o, zmt0o, zb0o⟩ := zh0o
 have zhr0o := hr.mono (j := 1) (by decide)
 unfold zR01
 exact (pss_cut (ps_if (pt_cmp (pc_isN (pe_meth (pv 0) T.cl_House zmt0c zG0c zhr0c zb0c .nil pass0 (pa_cons (pv 1) pa_nil))))
   (pss_one (ps_expr (pe_meth (pv 0) T.cl_House zmt0o zG0o zhr0o zb0o .nil pass0 (pa_cons (pv 2) (pa_cons (pv 1) pa_nil)))))
   pss_nil)
   (pss_one (ps_ret (pe_lst pa_nil))))
theorem zder08 {C_Hall : Addr} (zsp13 : Sp) (zsp1i : Sp) (zsp0x : Sp) (zsp0c : Sp) (zsp0k : Sp) (zsp0i : Sp) (zsp0o : Sp) (C_House : Addr) (T : Txt K mg C_House C_Hall)
  (zh13 : Has P w K mg base 3 "is_unsure" ["book", "bargain"] zsp13) (zh1i : Has P w K mg base 2 "knows" ["book", "bargain"] zsp1i) (zh0x : HasM P w K mg base C_House 1 "page" ["self", "bargain"] zsp0x) (zh0c : HasM P w K mg base C_House 3 "decision" ["self", "bargain"] zsp0c) (zh0k : HasM P w K mg base C_House 1 "to_one" ["self", "other", "bargain", "word"] zsp0k) (zh0i : HasM P w K mg base C_House 2 "decide" ["self", "bargain", "word"] zsp0i) (zh0o : HasM P w K mg base C_House 1 "write" ["self", "word", "bargain"] zsp0o)
  (hr : Room 3 (A.deeper (PyProof.Rows.envOfC "House.got_query" (defScope zs08) s.heap.objs.size f cdv))) :
  PSs (cxOf CX0 P w K mg base ["self", "giver", "bargain", "decided"] "House.got_query" (defScope zs08) f cdv A outer s H E).nox (defBody zs08) (zR08 K zsp13 zsp1i zsp0x zsp0c zsp0k zsp0i zsp0o C_House) := by
 have hu := hu_of hr
 have hu64 := hr.units
 have hu65 := hu65_of hr
 obtain ⟨zf13, zfd13, zG13, zm13, zk13, zb13⟩ := zh13
 have zhr13 := hr.mono (j := 3) (by decide)
 obtain ⟨zf1i, zfd1i, zG1i, zm1i, zk1i, zb1i⟩ := zh1i
 have zhr1i := hr.mono (j := 2) (by decide)
 obtain ⟨zf0x, zfd0x, zG0x, zmt0x, zb0x⟩ := zh0x
 have zhr0x := hr.mono (j := 1) (by decide)
 obtain ⟨zf0c, zfd0c, zG0c, zmt0c, zb0c⟩ := zh0c
 have zhr0c := hr.mono (j := 3) (by decide)
 obtain ⟨zf0k, zfd0k, zG0k, zmt0k, zb0k⟩ := zh0k
 have zhr0k := hr.mono (j := 1) (by decide)
 obtain ⟨zf0i, zfd0i, zG0i, zmt0i, zb0i⟩ := zh0i
 have zhr0i := hr.mono (j := 2) (by decide)
 obtain ⟨zf0o, zfd0o, zG0o, zmt0o, zb0o⟩ := zh0o
 have zhr0o := hr.mono (j := 1) (by decide)
 unfold zR08
 exact (pss_cons (ps_if (pt_val (pe_call zG13 zhr13 rfl zm13 zk13 zb13 .nil pass0 (pa_cons (pe_meth (pv 0) T.cl_House zmt0x zG0x zhr0x zb0x .nil pass0 (pa_cons (pv 2) pa_nil)) (pa_cons (pv 2) pa_nil))))
   (pss_one (ps_ret (pe_lst pa_nil)))
   pss_nil)
   (pss_cons (ps_set (i := 3) zsc08.nd rfl (Or.inl rfl) (pe_meth (pv 0) T.cl_House zmt0c zG0c zhr0c zb0c .nil pass0 (pa_cons (pv 2) pa_nil)))
   (pss_cons (ps_if (pt_cmp (pc_notN (pv 3)))
   (pss_one (ps_ret (pe_meth (pv 0) T.cl_House zmt0k zG0k zhr0k zb0k .nil pass0 (pa_cons (pv 1) (pa_cons (pv 2) (pa_cons (pv 3) pa_nil))))))
   pss_nil)
   (pss_cons (ps_if (pt_val (pe_call zG1i zhr1i rfl zm1i zk1i zb1i .nil pass0 (pa_cons (pe_meth (pv 0) T.cl_House zmt0x zG0x zhr0x zb0x .nil pass0 (pa_cons (pv 2) pa_nil)) (pa_cons (pv 2) pa_nil))))
   (pss_one (ps_ret (pe_meth (pv 0) T.cl_House zmt0i zG0i zhr0i zb0i .nil pass0 (pa_cons (pv 2) (pa_cons pe_str pa_nil)))))
   pss_nil)
   (pss_cons (ps_expr (pe_meth (pv 0) T.cl_House zmt0o zG0o zhr0o zb0o .nil pass0 (pa_cons pe_str (pa_cons (pv 2) pa_nil))))
   (pss_one (ps_ret (pe_meth (pv 0) T.cl_House zmt0k zG0k zhr0k zb0k .nil pass0 (pa_cons (pv 1) (pa_cons (pv 2) (pa_cons pe_str pa_nil)))))))))))
theorem zder0i {C_Hall : Addr} (zsp0o : Sp) (zsp07 : Sp) (C_House : Addr) (T : Txt K mg C_House C_Hall)
  (zh0o : HasM P w K mg base C_House 1 "write" ["self", "word", "bargain"] zsp0o) (zh07 : HasM P w K mg base C_House 1 "to_others" ["self", "bargain", "word"] zsp07)
  (hr : Room 1 (A.deeper (PyProof.Rows.envOfC "House.decide" (defScope zs0i) s.heap.objs.size f cdv))) :
  PSs (cxOf CX0 P w K mg base ["self", "bargain", "word"] "House.decide" (defScope zs0i) f cdv A outer s H E).nox (defBody zs0i) (zR0i K zsp0o zsp07 C_House) := by
 have hu := hu_of hr
 have hu64 := hr.units
 have hu65 := hu65_of hr
 obtain ⟨zf0o, zfd0o, zG0o, zmt0o, zb0o⟩ := zh0o
 have zhr0o := hr.mono (j := 1) (by decide)
 obtain ⟨zf07, zfd07, zG07, zmt07, zb07⟩ := zh07
 have zhr07 := hr.mono (j := 1) (by decide)
 unfold zR0i
 exact (pss_cons (ps_expr (pe_meth (pv 0) T.cl_House zmt0o zG0o zhr0o zb0o .nil pass0 (pa_cons (pv 2) (pa_cons (pv 1) pa_nil))))
   (pss_one (ps_ret (pe_meth (pv 0) T.cl_House zmt07 zG07 zhr07 zb07 .nil pass0 (pa_cons (pv 1) (pa_cons (pv 2) pa_nil))))))
theorem zder0c {C_Hall : Addr} (zsp0l : Sp) (zsp0x : Sp) (C_House : Addr) (T : Txt K mg C_House C_Hall)
  (zh0l : Has P w K mg base 2 "decision_in" ["book", "bargain"] zsp0l) (zh0x : HasM P w K mg base C_House 1 "page" ["self", "bargain"] zsp0x)
  (hr : Room 2 (A.deeper (PyProof.Rows.envOfC "House.decision" (defScope zs0c) s.heap.objs.size f cdv))) :
  PSs (cxOf CX0 P w K mg base ["self", "bargain"] "House.decision" (defScope zs0c) f cdv A outer s H E).nox (defBody zs0c) (zR0c K zsp0l zsp0x C_House) := by
 have hu := hu_of hr
 have hu64 := hr.units
 have hu65 := hu65_of hr
 obtain ⟨zf0l, zfd0l, zG0l, zm0l, zk0l, zb0l⟩ := zh0l
 have zhr0l := hr.mono (j := 2) (by decide)
 obtain ⟨zf0x, zfd0x, zG0x, zmt0x, zb0x⟩ := zh0x
 have zhr0x := hr.mono (j := 1) (by decide)
 unfold zR0c
 exact (pss_one (ps_ret (pe_call zG0l zhr0l rfl zm0l zk0l zb0l .nil pass0 (pa_cons (pe_meth (pv 0) T.cl_House zmt0x zG0x zhr0x zb0x .nil pass0 (pa_cons (pv 1) pa_nil)) (pa_cons (pv 1) pa_nil)))))
theorem zder0x {C_House : Addr} {C_Hall : Addr}  (T : Txt K mg C_House C_Hall)
  
  (hr : Room 0 (A.deeper (PyProof.Rows.envOfC "House.page" (defScope zs0x) s.heap.objs.size f cdv))) :
  PSs (cxOf CX0 P w K mg base ["self", "bargain", "line"] "House.page" (defScope zs0x) f cdv A outer s H E).nox (defBody zs0x) (zR0x K ) := by
 have hu := hu_of hr
 have hu64 := hr.units
 have hu65 := hu65_of hr
 unfold zR0x
 exact (pss_cons (ps_while PassesOwn.never (pt_cmpR op_lt (pe_fld (pv 0) rfl) (pe_callB call_len_seq (by rfl) T.n_len PySem.boot_len (pa_cons (pe_fld (pv 0) rfl) pa_nil)) (nomark _))
   (pss_cons (ps_set (i := 2) zsc0x.nd rfl (Or.inl rfl) (pe_ix ix_list (pe_fld (pv 0) rfl) (pe_fld (pv 0) rfl) (fun _ _ => rfl)))
   (pss_cons (ps_expr (pe_bm PySem.F.plainAttrs_list PySem.F.slot_list_append PySem.F.type_list_append mt_append (pe_dsetd (pe_fld (pv 0) rfl) (pe_ix ix_tup (pv 2) pe_int (fun _ _ => rfl)) (pe_lst pa_nil) ⟨rfl, rfl, rfl, rfl⟩) (pa_cons (pv 2) pa_nil)))
   (pss_one (ps_fldaug (pv 0) pe_int in_add)))))
   (pss_one (ps_ret (pe_dget2 hu (pe_fld (pv 0) rfl) (pv 1) (pe_lst pa_nil) ⟨rfl, rfl, rfl, rfl⟩))))
theorem zder0o {C_House : Addr} {C_Hall : Addr}  (T : Txt K mg C_House C_Hall)
  
  (hr : Room 0 (A.deeper (PyProof.Rows.envOfC "House.write" (defScope zs0o) s.heap.objs.size f cdv))) :
  PSs (cxOf CX0 P w K mg base ["self", "word", "bargain"] "House.write" (defScope zs0o) f cdv A outer s H E).nox (defBody zs0o) (zR0o K ) := by
 have hu := hu_of hr
 have hu64 := hr.units
 have hu65 := hu65_of hr
 unfold zR0o
 exact (pss_one (ps_expr (pe_bm PySem.F.plainAttrs_list PySem.F.slot_list_append PySem.F.type_list_append mt_append (pe_fld (pv 0) rfl) (pa_cons (pe_tup (pa_cons (pv 1) (pa_cons (pv 2) pa_nil))) pa_nil))))
theorem zder0k {C_House : Addr} {C_Hall : Addr}  (T : Txt K mg C_House C_Hall)
  
  (hr : Room 0 (A.deeper (PyProof.Rows.envOfC "House.to_one" (defScope zs0k) s.heap.objs.size f cdv))) :
  PSs (cxOf CX0 P w K mg base ["self", "other", "bargain", "word"] "House.to_one" (defScope zs0k) f cdv A outer s H E).nox (defBody zs0k) (zR0k K ) := by
 have hu := hu_of hr
 have hu64 := hr.units
 have hu65 := hu65_of hr
 unfold zR0k
 exact (pss_one (ps_ret (pe_lst (pa_cons (pe_tup (pa_cons (pe_fld (pv 0) rfl) (pa_cons (pv 1) (pa_cons (pv 2) (pa_cons (pv 3) pa_nil))))) pa_nil))))
theorem zder07 {C_House : Addr} {C_Hall : Addr}  (T : Txt K mg C_House C_Hall)
  
  (hr : Room 0 (A.deeper (PyProof.Rows.envOfC "House.to_others" (defScope zs07) s.heap.objs.size f cdv))) :
  PSs (cxOf CX0 P w K mg base ["self", "bargain", "word"] "House.to_others" (defScope zs07) f cdv A outer s H E).nox (defBody zs07) (zR07 K ) := by
 have hu := hu_of hr
 have hu64 := hr.units
 have hu65 := hu65_of hr
 unfold zR07
 exact (pss_one (ps_ret (pe_lc rfl (show CompOk _ (["other", "bargain", "word", "self"] : List Str) _ ([("word", s.heap.objs.size + 1 + 2), ("self", s.heap.objs.size + 1 + 0), ("bargain", s.heap.objs.size + 1 + 1)] : List (Str × Addr)) ([none, some 1, some 2, some 0] : List (Option Nat)) from ⟨by with_unfolding_all rfl, rfl, rfl, rfl, rfl, ⟨rfl, ⟨rfl, ⟨rfl, trivial⟩⟩⟩, ⟨⟨rfl, Or.inl rfl, Or.inl rfl, _, rfl, rfl⟩, ⟨⟨rfl, Or.inl rfl, Or.inl rfl, _, rfl, rfl⟩, ⟨⟨rfl, Or.inl rfl, Or.inl rfl, _, rfl, rfl⟩, trivial⟩⟩⟩⟩) (pi_list (pe_fld (pv 0) rfl)) (fun _ _ _ _ => (pg_name (i := 0) znd07_0 rfl (Or.inl rfl))) (fun _ _ _ _ => pifs_nil) (fun _ _ _ _ => (pe_tup (pa_cons (pe_fld (pv 3) rfl) (pa_cons (pv 0) (pa_cons (pv 1) (pa_cons (pv 2) pa_nil)))))))))
theorem zder04 {C_House : Addr} {C_Hall : Addr}  (T : Txt K mg C_House C_Hall)
  
  (hr : Room 0 (A.deeper (PyProof.Rows.envOfC "bargains_against" (defScope zs04) s.heap.objs.size f cdv))) :
  PSs (cxOf CX0 P w K mg base ["against", "number"] "bargains_against" (defScope zs04) f cdv A outer s H E).nox (defBody zs04) (zR04 K ) := by
 have hu := hu_of hr
 have hu64 := hr.units
 have hu65 := hu65_of hr
 unfold zR04
 exact (pss_one (ps_ret (pe_lc rfl (show CompOk _ (["pair", "number"] : List Str) _ ([("number", s.heap.objs.size + 1 + 0)] : List (Str × Addr)) ([none, some 1] : List (Option Nat)) from ⟨by with_unfolding_all rfl, rfl, rfl, rfl, rfl, ⟨rfl, trivial⟩, ⟨⟨rfl, Or.inl rfl, Or.inl rfl, _, rfl, rfl⟩, trivial⟩⟩) (pi_list (pv 0)) (fun _ _ _ _ => (pg_name (i := 0) znd04_0 rfl (Or.inl rfl))) (fun _ _ _ _ => (pifs_one (pt_cmpR op_eq (pe_ix ix_tup (pv 0) pe_int (fun _ _ => rfl)) (pv 1) (nomark _)))) (fun _ _ _ _ => (pe_ix ix_tup (pv 0) pe_int (fun _ _ => rfl))))))
theorem zder12 {C_Hall : Addr} (zsp04 : Sp) (zsp11 : Sp) (C_House : Addr) (T : Txt K mg C_House C_Hall)
  (zh04 : Has P w K mg base 1 "bargains_against" ["against", "number"] zsp04) (zh11 : HasI P w K mg base C_House 2 ["self", "number", "count", "against"] zsp11)
  (hr : Room 3 (A.deeper (PyProof.Rows.envOfC "Hall.__init__" (defScope zs12) s.heap.objs.size f cdv))) :
  PSs (cxOf CX0 P w K mg base ["self", "count", "against"] "Hall.__init__" (defScope zs12) f cdv A outer s H E).nox (defBody zs12) (zR12 K zsp04 zsp11 C_House) := by
 have hu := hu_of hr
 have hu64 := hr.units
 have hu65 := hu65_of hr
 obtain ⟨zf04, zfd04, zG04, zm04, zk04, zb04⟩ := zh04
 have zhr04 := hr.mono (j := 1) (by decide)
 obtain ⟨zf11, zfd11, zG11, mk_House, zb11⟩ := zh11
 have zhr11 := hr.mono (j := 3) (by decide)
 unfold zR12
 exact (pss_cons (ps_fld (pv 0) (pe_lc rfl (show CompOk _ (["number", "count", "against"] : List Str) _ ([("count", s.heap.objs.size + 1 + 0), ("against", s.heap.objs.size + 1 + 1)] : List (Str × Addr)) ([none, some 1, some 2] : List (Option Nat)) from ⟨by with_unfolding_all rfl, rfl, rfl, rfl, rfl, ⟨rfl, ⟨rfl, trivial⟩⟩, ⟨⟨rfl, Or.inl rfl, Or.inl rfl, _, rfl, rfl⟩, ⟨⟨rfl, Or.inl rfl, Or.inl rfl, _, rfl, rfl⟩, trivial⟩⟩⟩) (pi_range1 rfl T.n_range (pa_cons (pv 1) pa_nil)) (fun _ _ _ _ => (pg_name (i := 0) znd12_0 rfl (Or.inl rfl))) (fun _ _ _ _ => pifs_nil) (fun _ _ _ _ => (pe_make mk_House zG11 zhr11 rfl T.m_House zb11 .nil pass0 (pa_cons (pv 0) (pa_cons (pv 1) (pa_cons (pe_call zG04 zhr04 rfl zm04 zk04 zb04 .nil pass0 (pa_cons (pv 2) (pa_cons (pv 0) pa_nil))) pa_nil)))))) rfl)
   (pss_cons (ps_fld (pv 0) (pe_lst pa_nil) rfl)
   (pss_one (ps_fld (pv 0) (pe_lst pa_nil) rfl))))
theorem zder1f {C_House : Addr} (zsp0v : Sp) (zsp0t : Sp) (zsp10 : Sp) (zsp19 : Sp) (zsp1a : Sp) (zsp0u : Sp) (C_Hall : Addr) (T : Txt K mg C_House C_Hall)
  (zh0v : HasM P w K mg base C_Hall 4 "begin" ["self", "bargain", "stays"] zsp0v) (zh0t : HasM P w K mg base C_Hall 6 "carry" ["self", "which", "stays"] zsp0t) (zh10 : HasM P w K mg base C_Hall 5 "query" ["self", "number", "bargain"] zsp10) (zh19 : HasM P w K mg base C_Hall 3 "stop" ["self", "number"] zsp19) (zh1a : HasM P w K mg base C_Hall 5 "wake" ["self", "number"] zsp1a) (zh0u : HasM P w K mg base C_Hall 7 "sweep" ["self"] zsp0u)
  (hr : Room 7 (A.deeper (PyProof.Rows.envOfC "Hall.do" (defScope zs1f) s.heap.objs.size f cdv))) :
  PSs (cxOf CX0 P w K mg base ["self", "deed", "word"] "Hall.do" (defScope zs1f) f cdv A outer s H E).nox (defBody zs1f) (zR1f K zsp0v zsp0t zsp10 zsp19 zsp1a zsp0u C_Hall) := by
 have hu := hu_of hr
 have hu64 := hr.units
 have hu65 := hu65_of hr
 obtain ⟨zf0v, zfd0v, zG0v, zmt0v, zb0v⟩ := zh0v
 have zhr0v := hr.mono (j := 4) (by decide)
 obtain ⟨zf0t, zfd0t, zG0t, zmt0t, zb0t⟩ := zh0t
 have zhr0t := hr.mono (j := 6) (by decide)
 obtain ⟨zf10, zfd10, zG10, zmt10, zb10⟩ := zh10
 have zhr10 := hr.mono (j := 5) (by decide)
 obtain ⟨zf19, zfd19, zG19, zmt19, zb19⟩ := zh19
 have zhr19 := hr.mono (j := 3) (by decide)
 obtain ⟨zf1a, zfd1a, zG1a, zmt1a, zb1a⟩ := zh1a
 have zhr1a := hr.mono (j := 5) (by decide)
 obtain ⟨zf0u, zfd0u, zG0u, zmt0u, zb0u⟩ := zh0u
 have zhr0u := hr.mono (j := 7) (by decide)
 unfold zR1f
 exact (pss_cons (ps_set (i := 2) zsc1f.nd rfl (Or.inl rfl) (pe_ix ix_tup (pv 1) pe_int (fun _ _ => rfl)))
   (pss_cons (ps_if (pt_cmpR op_eq (pv 2) pe_str (nomark _))
   (pss_one (ps_ret (pe_meth (pv 0) T.cl_Hall zmt0v zG0v zhr0v zb0v .nil pass0 (pa_cons (pe_ix ix_tup (pv 1) pe_int (fun _ _ => rfl)) (pa_cons (pe_ix ix_tup (pv 1) pe_int (fun _ _ => rfl)) pa_nil)))))
   pss_nil)
   (pss_cons (ps_if (pt_cmpR op_eq (pv 2) pe_str (nomark _))
   (pss_one (ps_ret (pe_meth (pv 0) T.cl_Hall zmt0t zG0t zhr0t zb0t .nil pass0 (pa_cons (pe_ix ix_tup (pv 1) pe_int (fun _ _ => rfl)) (pa_cons (pe_ix ix_tup (pv 1) pe_int (fun _ _ => rfl)) pa_nil)))))
   pss_nil)
   (pss_cons (ps_if (pt_cmpR op_eq (pv 2) pe_str (nomark _))
   (pss_one (ps_ret (pe_meth (pv 0) T.cl_Hall zmt10 zG10 zhr10 zb10 .nil pass0 (pa_cons (pe_ix ix_tup (pv 1) pe_int (fun _ _ => rfl)) (pa_cons (pe_ix ix_tup (pv 1) pe_int (fun _ _ => rfl)) pa_nil)))))
   pss_nil)
   (pss_cons (ps_if (pt_cmpR op_eq (pv 2) pe_str (nomark _))
   (pss_one (ps_ret (pe_meth (pv 0) T.cl_Hall zmt19 zG19 zhr19 zb19 .nil pass0 (pa_cons (pe_ix ix_tup (pv 1) pe_int (fun _ _ => rfl)) pa_nil))))
   pss_nil)
   (pss_cons (ps_if (pt_cmpR op_eq (pv 2) pe_str (nomark _))
   (pss_one (ps_ret (pe_meth (pv 0) T.cl_Hall zmt1a zG1a zhr1a zb1a .nil pass0 (pa_cons (pe_ix ix_tup (pv 1) pe_int (fun _ _ => rfl)) pa_nil))))
   pss_nil)
   (pss_one (ps_ret (pe_meth0 (pv 0) T.cl_Hall zmt0u zG0u zhr0u zb0u .nil pass0)))))))))
theorem zder0v (zsp1i : Sp) (zsp0r : Sp) (zsp03 : Sp) (C_House : Addr) (C_Hall : Addr) (T : Txt K mg C_House C_Hall)
  (zh1i : Has P w K mg base 2 "knows" ["book", "bargain"] zsp1i) (zh0r : HasM P w K mg base C_House 2 "begin" ["self", "bargain"] zsp0r) (zh03 : HasM P w K mg base C_Hall 3 "send_or_stop" ["self", "house", "sent", "stays"] zsp03)
  (hr : Room 3 (A.deeper (PyProof.Rows.envOfC "Hall.begin" (defScope zs0v) s.heap.objs.size f cdv))) :
  PSs (cxOf CX0 P w K mg base ["self", "bargain", "stays", "house", "ahead"] "Hall.begin" (defScope zs0v) f cdv A outer s H E).nox (defBody zs0v) (zR0v K zsp1i zsp0r zsp03 C_House C_Hall) := by
 have hu := hu_of hr
 have hu64 := hr.units
 have hu65 := hu65_of hr
 obtain ⟨zf1i, zfd1i, zG1i, zm1i, zk1i, zb1i⟩ := zh1i
 have zhr1i := hr.mono (j := 2) (by decide)
 obtain ⟨zf0r, zfd0r, zG0r, zmt0r, zb0r⟩ := zh0r
 have zhr0r := hr.mono (j := 2) (by decide)
 obtain ⟨zf03, zfd03, zG03, zmt03, zb03⟩ := zh03
 have zhr03 := hr.mono (j := 3) (by decide)
 unfold zR0v
 exact (pss_cons (ps_set (i := 3) zsc0v.nd rfl (Or.inl rfl) (pe_ix ix_list (pe_fld (pv 0) rfl) (pe_op op_mod (pv 1) (pe_callB call_len_seq (by rfl) T.n_len PySem.boot_len (pa_cons (pe_fld (pv 0) rfl) pa_nil))) (fun _ _ => rfl)))
   (pss_cons (ps_if (PW.pt (pw_or (pt_not (pt_val (pe_fld (pv 3) rfl))) (pw_or1 (pt_val (pe_call zG1i zhr1i rfl zm1i zk1i zb1i .nil pass0 (pa_cons (pe_fld (pv 3) rfl) (pa_cons (pv 1) pa_nil)))))))
   (pss_one (ps_ret pe_non))
   pss_nil)
   (pss_cons (ps_set (i := 4) zsc0v.nd rfl (Or.inl rfl) (pe_callB call_len_seq (by rfl) T.n_len PySem.boot_len (pa_cons (pe_fld (pv 3) rfl) pa_nil)))
   (pss_cons (ps_expr (pe_meth (pv 0) T.cl_Hall zmt03 zG03 zhr03 zb03 .nil pass0 (pa_cons (pv 3) (pa_cons (pe_meth (pv 3) T.cl_House zmt0r zG0r zhr0r zb0r .nil pass0 (pa_cons (pv 1) pa_nil)) (pa_cons (pv 2) pa_nil)))))
   (pss_one (ps_ret (pe_slice sl_list (pe_fld (pv 3) rfl) (po_some (pv 4)) po_none)))))))
theorem zder0t (zsp15 : Sp) (zsp03 : Sp) (C_House : Addr) (C_Hall : Addr) (T : Txt K mg C_House C_Hall)
  (zh15 : HasM P w K mg base C_House 5 "got" ["self", "letter"] zsp15) (zh03 : HasM P w K mg base C_Hall 3 "send_or_stop" ["self", "house", "sent", "stays"] zsp03)
  (hr : Room 5 (A.deeper (PyProof.Rows.envOfC "Hall.carry" (defScope zs0t) s.heap.objs.size f cdv))) :
  PSs (cxOf CX0 P w K mg base ["self", "which", "stays", "letter", "house", "ahead"] "Hall.carry" (defScope zs0t) f cdv A outer s H E).nox (defBody zs0t) (zR0t K zsp15 zsp03 C_House C_Hall) := by
 have hu := hu_of hr
 have hu64 := hr.units
 have hu65 := hu65_of hr
 obtain ⟨zf15, zfd15, zG15, zmt15, zb15⟩ := zh15
 have zhr15 := hr.mono (j := 5) (by decide)
 obtain ⟨zf03, zfd03, zG03, zmt03, zb03⟩ := zh03
 have zhr03 := hr.mono (j := 3) (by decide)
 unfold zR0t
 exact (pss_cons (ps_if (pt_cmpR op_ge (pv 1) (pe_callB call_len_seq (by rfl) T.n_len PySem.boot_len (pa_cons (pe_fld (pv 0) rfl) pa_nil)) (nomark _))
   (pss_one (ps_ret pe_non))
   pss_nil)
   (pss_cons (ps_set (i := 3) zsc0t.nd rfl (Or.inl rfl) (pe_ix ix_list (pe_fld (pv 0) rfl) (pv 1) (fun _ _ => rfl)))
   (pss_cons (ps_set (i := 4) zsc0t.nd rfl (Or.inl rfl) (pe_ix ix_list (pe_fld (pv 0) rfl) (pe_ix ix_tup (pv 3) pe_int (fun _ _ => rfl)) (fun _ _ => rfl)))
   (pss_cons (ps_if (pt_not (pt_val (pe_fld (pv 4) rfl)))
   (pss_one (ps_ret pe_non))
   pss_nil)
   (pss_cons (ps_set (i := 5) zsc0t.nd rfl (Or.inl rfl) (pe_callB call_len_seq (by rfl) T.n_len PySem.boot_len (pa_cons (pe_fld (pv 4) rfl) pa_nil)))
   (pss_cons (ps_expr (pe_meth (pv 0) T.cl_Hall zmt03 zG03 zhr03 zb03 .nil pass0 (pa_cons (pv 4) (pa_cons (pe_meth (pv 4) T.cl_House zmt15 zG15 zhr15 zb15 .nil pass0 (pa_cons (pv 3) pa_nil)) (pa_cons (pv 2) pa_nil)))))
   (pss_one (ps_ret (pe_slice sl_list (pe_fld (pv 4) rfl) (po_some (pv 5)) po_none)))))))))
theorem zder10 (zsp0n : Sp) (zsp16 : Sp) (C_House : Addr) (C_Hall : Addr) (T : Txt K mg C_House C_Hall)
  (zh0n : HasM P w K mg base C_House 4 "query" ["self", "bargain"] zsp0n) (zh16 : HasM P w K mg base C_Hall 1 "send" ["self", "sent"] zsp16)
  (hr : Room 4 (A.deeper (PyProof.Rows.envOfC "Hall.query" (defScope zs10) s.heap.objs.size f cdv))) :
  PSs (cxOf CX0 P w K mg base ["self", "number", "bargain", "sent"] "Hall.query" (defScope zs10) f cdv A outer s H E).nox (defBody zs10) (zR10 K zsp0n zsp16 C_House C_Hall) := by
 have hu := hu_of hr
 have hu64 := hr.units
 have hu65 := hu65_of hr
 obtain ⟨zf0n, zfd0n, zG0n, zmt0n, zb0n⟩ := zh0n
 have zhr0n := hr.mono (j := 4) (by decide)
 obtain ⟨zf16, zfd16, zG16, zmt16, zb16⟩ := zh16
 have zhr16 := hr.mono (j := 1) (by decide)
 unfold zR10
 exact (pss_cons (ps_set (i := 3) zsc10.nd rfl (Or.inl rfl) (pe_meth (pe_ix ix_list (pe_fld (pv 0) rfl) (pv 1) (fun _ _ => rfl)) T.cl_House zmt0n zG0n zhr0n zb0n .nil pass0 (pa_cons (pv 2) pa_nil)))
   (pss_cons (ps_expr (pe_meth (pv 0) T.cl_Hall zmt16 zG16 zhr16 zb16 .nil pass0 (pa_cons (pv 3) pa_nil)))
   (pss_one (ps_ret (pe_cmpR op_gt (pe_callB call_len_seq (by rfl) T.n_len PySem.boot_len (pa_cons (pv 3) pa_nil)) pe_int (nomark _))))))
theorem zder19 {C_Hall : Addr} (zsp0y : Sp) (C_House : Addr) (T : Txt K mg C_House C_Hall)
  (zh0y : HasM P w K mg base C_House 2 "stop" ["self"] zsp0y)
  (hr : Room 2 (A.deeper (PyProof.Rows.envOfC "Hall.stop" (defScope zs19) s.heap.objs.size f cdv))) :
  PSs (cxOf CX0 P w K mg base ["self", "number", "house"] "Hall.stop" (defScope zs19) f cdv A outer s H E).nox (defBody zs19) (zR19 K zsp0y C_House) := by
 have hu := hu_of hr
 have hu64 := hr.units
 have hu65 := hu65_of hr
 obtain ⟨zf0y, zfd0y, zG0y, zmt0y, zb0y⟩ := zh0y
 have zhr0y := hr.mono (j := 2) (by decide)
 unfold zR19
 exact (pss_cons (ps_set (i := 2) zsc19.nd rfl (Or.inl rfl) (pe_ix ix_list (pe_fld (pv 0) rfl) (pv 1) (fun _ _ => rfl)))
   (pss_cons (ps_if (pt_not (pt_val (pe_fld (pv 2) rfl)))
   (pss_one (ps_ret pe_bl))
   pss_nil)
   (pss_cons (ps_expr (pe_meth0 (pv 2) T.cl_House zmt0y zG0y zhr0y zb0y .nil pass0))
   (pss_one (ps_ret pe_bl)))))
theorem zder1a (zsp0w : Sp) (zsp16 : Sp) (C_House : Addr) (C_Hall : Addr) (T : Txt K mg C_House C_Hall)
  (zh0w : HasM P w K mg base C_House 4 "wake" ["self"] zsp0w) (zh16 : HasM P w K mg base C_Hall 1 "send" ["self", "sent"] zsp16)
  (hr : Room 4 (A.deeper (PyProof.Rows.envOfC "Hall.wake" (defScope zs1a) s.heap.objs.size f cdv))) :
  PSs (cxOf CX0 P w K mg base ["self", "number", "house", "ahead"] "Hall.wake" (defScope zs1a) f cdv A outer s H E).nox (defBody zs1a) (zR1a K zsp0w zsp16 C_House C_Hall) := by
 have hu := hu_of hr
 have hu64 := hr.units
 have hu65 := hu65_of hr
 obtain ⟨zf0w, zfd0w, zG0w, zmt0w, zb0w⟩ := zh0w
 have zhr0w := hr.mono (j := 4) (by decide)
 obtain ⟨zf16, zfd16, zG16, zmt16, zb16⟩ := zh16
 have zhr16 := hr.mono (j := 1) (by decide)
 unfold zR1a
 exact (pss_cons (ps_set (i := 2) zsc1a.nd rfl (Or.inl rfl) (pe_ix ix_list (pe_fld (pv 0) rfl) (pv 1) (fun _ _ => rfl)))
   (pss_cons (ps_if (pt_val (pe_fld (pv 2) rfl))
   (pss_one (ps_ret pe_non))
   pss_nil)
   (pss_cons (ps_set (i := 3) zsc1a.nd rfl (Or.inl rfl) (pe_callB call_len_seq (by rfl) T.n_len PySem.boot_len (pa_cons (pe_fld (pv 2) rfl) pa_nil)))
   (pss_cons (ps_expr (pe_meth (pv 0) T.cl_Hall zmt16 zG16 zhr16 zb16 .nil pass0 (pa_cons (pe_meth0 (pv 2) T.cl_House zmt0w zG0w zhr0w zb0w .nil pass0) pa_nil)))
   (pss_one (ps_ret (pe_slice sl_list (pe_fld (pv 2) rfl) (po_some (pv 3)) po_none)))))))
theorem zder0u {C_House : Addr} (zsp0t : Sp) (zsp00 : Sp) (C_Hall : Addr) (T : Txt K mg C_House C_Hall)
  (zh0t : HasM P w K mg base C_Hall 6 "carry" ["self", "which", "stays"] zsp0t) (zh00 : HasM P w K mg base C_Hall 5 "is_spent_letter" ["self", "which"] zsp00)
  (hr : Room 6 (A.deeper (PyProof.Rows.envOfC "Hall.sweep" (defScope zs0u) s.heap.objs.size f cdv))) :
  PSs (cxOf CX0 P w K mg base ["self", "written", "place", "which", "lines", "number"] "Hall.sweep" (defScope zs0u) f cdv A outer s H E).nox (defBody zs0u) (zR0u K zsp0t zsp00 C_Hall) := by
 have hu := hu_of hr
 have hu64 := hr.units
 have hu65 := hu65_of hr
 obtain ⟨zf0t, zfd0t, zG0t, zmt0t, zb0t⟩ := zh0t
 have zhr0t := hr.mono (j := 6) (by decide)
 obtain ⟨zf00, zfd00, zG00, zmt00, zb00⟩ := zh00
 have zhr00 := hr.mono (j := 5) (by decide)
 unfold zR0u
 exact (pss_cons (ps_set (i := 1) zsc0u.nd rfl (Or.inl rfl) (pe_lst pa_nil))
   (pss_cons (ps_set (i := 2) zsc0u.nd rfl (Or.inl rfl) pe_int)
   (pss_cons (ps_while PassesOwn.never (pt_cmpR op_lt (pv 2) (pe_callB call_len_seq (by rfl) T.n_len PySem.boot_len (pa_cons (pe_fld (pv 0) rfl) pa_nil)) (nomark _))
   (pss_cons (ps_set (i := 3) zsc0u.nd rfl (Or.inl rfl) (pe_ix ix_list (pe_fld (pv 0) rfl) (pv 2) (fun _ _ => rfl)))
   (pss_cons (ps_set (i := 4) zsc0u.nd rfl (Or.inl rfl) (pe_meth (pv 0) T.cl_Hall zmt0t zG0t zhr0t zb0t .nil pass0 (pa_cons (pv 3) (pa_cons pe_bl pa_nil))))
   (pss_cut (ps_if (pt_cmp (pc_notN (pv 4)))
   (pss_cons (ps_set (i := 5) zsc0u.nd rfl (Or.inr rfl) (pe_ix ix_tup (pe_ix ix_list (pe_fld (pv 0) rfl) (pv 3) (fun _ _ => rfl)) pe_int (fun _ _ => rfl)))
   (pss_one (ps_expr (pe_bm PySem.F.plainAttrs_list PySem.F.slot_list_extend PySem.F.type_list_extend mt_extend (pv 1) (pa_cons (pe_lc rfl (show CompOk _ (["line", "number"] : List Str) _ ([("number", s.heap.objs.size + 1 + 1)] : List (Str × Addr)) ([none, some 5] : List (Option Nat)) from ⟨by with_unfolding_all rfl, rfl, rfl, rfl, rfl, ⟨rfl, trivial⟩, ⟨⟨rfl, Or.inl rfl, Or.inl rfl, _, rfl, rfl⟩, trivial⟩⟩) (pi_list (pv 4)) (fun _ _ _ _ => (pg_name (i := 0) znd0u_0 rfl (Or.inl rfl))) (fun _ _ _ _ => pifs_nil) (fun _ _ _ _ => (pe_tup (pa_cons (pv 1) (pa_cons (pv 0) pa_nil))))) pa_nil)))))
   pss_nil)
   (pss_one (ps_aug (i := 2) zsc0u.nd rfl (Or.inl rfl) pe_int ip_add))))))
   (pss_cons (ps_fld (pv 0) (pe_lc rfl (show CompOk _ (["which", "self"] : List Str) _ ([("self", s.heap.objs.size + 1 + 0)] : List (Str × Addr)) ([none, some 0] : List (Option Nat)) from ⟨by with_unfolding_all rfl, rfl, rfl, rfl, rfl, ⟨rfl, trivial⟩, ⟨⟨rfl, Or.inl rfl, Or.inl rfl, _, rfl, rfl⟩, trivial⟩⟩) (pi_list (pe_fld (pv 0) rfl)) (fun _ _ _ _ => (pg_name (i := 0) znd0u_1 rfl (Or.inl rfl))) (fun _ _ _ _ => (pifs_one (pt_not (pt_val (pe_meth (pv 1) T.cl_Hall zmt00 zG00 zhr00 zb00 .nil pass0 (pa_cons (pv 0) pa_nil)))))) (fun _ _ _ _ => (pv 0))) rfl)
   (pss_one (ps_ret (pv 1)))))))
theorem zder00 {C_Hall : Addr} (zsp0a : Sp) (C_House : Addr) (T : Txt K mg C_House C_Hall)
  (zh0a : HasM P w K mg base C_House 4 "is_spent" ["self", "letter"] zsp0a)
  (hr : Room 4 (A.deeper (PyProof.Rows.envOfC "Hall.is_spent_letter" (defScope zs00) s.heap.objs.size f cdv))) :
  PSs (cxOf CX0 P w K mg base ["self", "which", "letter"] "Hall.is_spent_letter" (defScope zs00) f cdv A outer s H E).nox (defBody zs00) (zR00 K zsp0a C_House) := by
 have hu := hu_of hr
 have hu64 := hr.units
 have hu65 := hu65_of hr
 obtain ⟨zf0a, zfd0a, zG0a, zmt0a, zb0a⟩ := zh0a
 have zhr0a := hr.mono (j := 4) (by decide)
 unfold zR00
 exact (pss_cons (ps_set (i := 2) zsc00.nd rfl (Or.inl rfl) (pe_ix ix_list (pe_fld (pv 0) rfl) (pv 1) (fun _ _ => rfl)))
   (pss_one (ps_ret (pe_meth (pe_ix ix_list (pe_fld (pv 0) rfl) (pe_ix ix_tup (pv 2) pe_int (fun _ _ => rfl)) (fun _ _ => rfl)) T.cl_House zmt0a zG0a zhr0a zb0a .nil pass0 (pa_cons (pv 2) pa_nil)))))
theorem zder03 (zsp16 : Sp) (zsp0y : Sp) (C_Hall : Addr) (C_House : Addr) (T : Txt K mg C_House C_Hall)
  (zh16 : HasM P w K mg base C_Hall 1 "send" ["self", "sent"] zsp16) (zh0y : HasM P w K mg base C_House 2 "stop" ["self"] zsp0y)
  (hr : Room 2 (A.deeper (PyProof.Rows.envOfC "Hall.send_or_stop" (defScope zs03) s.heap.objs.size f cdv))) :
  PSs (cxOf CX0 P w K mg base ["self", "house", "sent", "stays"] "Hall.send_or_stop" (defScope zs03) f cdv A outer s H E).nox (defBody zs03) (zR03 K zsp16 zsp0y C_Hall C_House) := by
 have hu := hu_of hr
 have hu64 := hr.units
 have hu65 := hu65_of hr
 obtain ⟨zf16, zfd16, zG16, zmt16, zb16⟩ := zh16
 have zhr16 := hr.mono (j := 1) (by decide)
 obtain ⟨zf0y, zfd0y, zG0y, zmt0y, zb0y⟩ := zh0y
 have zhr0y := hr.mono (j := 2) (by decide)
 unfold zR03
 exact (pss_one (ps_if (pt_val (pv 3))
   (pss_one (ps_expr (pe_meth (pv 0) T.cl_Hall zmt16 zG16 zhr16 zb16 .nil pass0 (pa_cons (pv 2) pa_nil))))
   (pss_one (ps_expr (pe_meth0 (pv 1) T.cl_House zmt0y zG0y zhr0y zb0y .nil pass0)))))
theorem zder16 {C_House : Addr} {C_Hall : Addr}  (T : Txt K mg C_House C_Hall)
  
  (hr : Room 0 (A.deeper (PyProof.Rows.envOfC "Hall.send" (defScope zs16) s.heap.objs.size f cdv))) :
  PSs (cxOf CX0 P w K mg base ["self", "sent", "first"] "Hall.send" (defScope zs16) f cdv A outer s H E).nox (defBody zs16) (zR16 K ) := by
 have hu := hu_of hr
 have hu64 := hr.units
 have hu65 := hu65_of hr
 unfold zR16
 exact (pss_cons (ps_set (i := 2) zsc16.nd rfl (Or.inl rfl) (pe_callB call_len_seq (by rfl) T.n_len PySem.boot_len (pa_cons (pe_fld (pv 0) rfl) pa_nil)))
   (pss_cons (ps_expr (pe_bm PySem.F.plainAttrs_list PySem.F.slot_list_extend PySem.F.type_list_extend mt_extend (pe_fld (pv 0) rfl) (pa_cons (pv 1) pa_nil)))
   (pss_one (ps_expr (pe_bm PySem.F.plainAttrs_list PySem.F.slot_list_extend PySem.F.type_list_extend mt_extend (pe_fld (pv 0) rfl) (pa_cons (pe_callTy (call_listRng rfl) (by rfl) T.n_list PySem.Pv.boot_list (pa_cons (pe_callTy call_rng2 (by rfl) T.n_range PyProof.Rows.boot_range (pa_cons (pv 2) (pa_cons (pe_callB call_len_seq (by rfl) T.n_len PySem.boot_len (pa_cons (pe_fld (pv 0) rfl) pa_nil)) pa_nil))) pa_nil)) pa_nil))))))
theorem zder0z {C_House : Addr} (zsp12 : Sp) (zsp1f : Sp) (C_Hall : Addr) (T : Txt K mg C_House C_Hall)
  (zh1f : HasM P w K mg base C_Hall 8 "do" ["self", "deed"] zsp1f) (zh12 : HasI P w K mg base C_Hall 4 ["self", "count", "against"] zsp12)
  (hr : Room 8 (A.deeper (PyProof.Rows.envOfC "hall_after" (defScope zs0z) s.heap.objs.size f cdv))) :
  PSs (cxOf CX0 P w K mg base ["count", "against", "deeds", "hall", "deed"] "hall_after" (defScope zs0z) f cdv A outer s H E).nox (defBody zs0z) (zR0z K zsp12 zsp1f C_Hall) := by
 have hu := hu_of hr
 have hu64 := hr.units
 have hu65 := hu65_of hr
 obtain ⟨zf1f, zfd1f, zG1f, zmt1f, zb1f⟩ := zh1f
 have zhr1f := hr.mono (j := 8) (by decide)
 obtain ⟨zf12, zfd12, zG12, mk_Hall, zb12⟩ := zh12
 have zhr12 := hr.mono (j := 5) (by decide)
 unfold zR0z
 exact (pss_cons (ps_set (i := 3) zsc0z.nd rfl (Or.inl rfl) (pe_make mk_Hall zG12 zhr12 rfl T.m_Hall zb12 .nil pass0 (pa_cons (pv 0) (pa_cons (pv 1) pa_nil))))
   (pss_cons (ps_for PassesOwn.never rfl (pi_list (pv 2)) (pg_name (i := 4) zsc0z.nd rfl (Or.inl rfl))
   (pss_one (ps_expr (pe_meth (pv 3) T.cl_Hall zmt1f zG1f zhr1f zb1f .nil pass0 (pa_cons (pv 4) pa_nil)))))
   (pss_one (ps_ret (pv 3)))))
theorem zder1d {C_House : Addr} (zsp12 : Sp) (zsp1f : Sp) (C_Hall : Addr) (T : Txt K mg C_House C_Hall)
  (zh1f : HasM P w K mg base C_Hall 8 "do" ["self", "deed"] zsp1f) (zh12 : HasI P w K mg base C_Hall 4 ["self", "count", "against"] zsp12)
  (hr : Room 8 (A.deeper (PyProof.Rows.envOfC "answers" (defScope zs1d) s.heap.objs.size f cdv))) :
  PSs (cxOf CX0 P w K mg base ["count", "against", "deeds", "hall"] "answers" (defScope zs1d) f cdv A outer s H E).nox (defBody zs1d) (zR1d K zsp12 zsp1f C_Hall) := by
 have hu := hu_of hr
 have hu64 := hr.units
 have hu65 := hu65_of hr
 obtain ⟨zf1f, zfd1f, zG1f, zmt1f, zb1f⟩ := zh1f
 have zhr1f := hr.mono (j := 8) (by decide)
 obtain ⟨zf12, zfd12, zG12, mk_Hall, zb12⟩ := zh12
 have zhr12 := hr.mono (j := 5) (by decide)
 unfold zR1d
 exact (pss_cons (ps_set (i := 3) zsc1d.nd rfl (Or.inr rfl) (pe_make mk_Hall zG12 zhr12 rfl T.m_Hall zb12 .nil pass0 (pa_cons (pv 0) (pa_cons (pv 1) pa_nil))))
   (pss_one (ps_ret (pe_lc rfl (show CompOk _ (["deed", "hall"] : List Str) _ ([("hall", s.heap.objs.size + 1 + 0)] : List (Str × Addr)) ([none, some 3] : List (Option Nat)) from ⟨by with_unfolding_all rfl, rfl, rfl, rfl, rfl, ⟨rfl, trivial⟩, ⟨⟨rfl, Or.inl rfl, Or.inl rfl, _, rfl, rfl⟩, trivial⟩⟩) (pi_list (pv 2)) (fun _ _ _ _ => (pg_name (i := 0) znd1d_0 rfl (Or.inl rfl))) (fun _ _ _ _ => pifs_nil) (fun _ _ _ _ => (pe_meth (pv 1) T.cl_Hall zmt1f zG1f zhr1f zb1f .nil pass0 (pa_cons (pv 0) pa_nil)))))))
theorem zder0p {C_House : Addr} {C_Hall : Addr} (zsp0z : Sp) (T : Txt K mg C_House C_Hall)
  (zh0z : Has P w K mg base 9 "hall_after" ["count", "against", "deeds"] zsp0z)
  (hr : Room 9 (A.deeper (PyProof.Rows.envOfC "books_after" (defScope zs0p) s.heap.objs.size f cdv))) :
  PSs (cxOf CX0 P w K mg base ["count", "against", "deeds"] "books_after" (defScope zs0p) f cdv A outer s H E).nox (defBody zs0p) (zR0p K zsp0z) := by
 have hu := hu_of hr
 have hu64 := hr.units
 have hu65 := hu65_of hr
 obtain ⟨zf0z, zfd0z, zG0z, zm0z, zk0z, zb0z⟩ := zh0z
 have zhr0z := hr.mono (j := 9) (by decide)
 unfold zR0p
 exact (pss_one (ps_ret (pe_lc rfl (show CompOk _ (["house"] : List Str) _ ([] : List (Str × Addr)) ([none] : List (Option Nat)) from ⟨by with_unfolding_all rfl, rfl, rfl, rfl, rfl, trivial, trivial⟩) (pi_list (pe_fld (pe_call zG0z zhr0z rfl zm0z zk0z zb0z .nil pass0 (pa_cons (pv 0) (pa_cons (pv 1) (pa_cons (pv 2) pa_nil)))) rfl)) (fun _ _ _ _ => (pg_name (i := 0) znd0p_0 rfl (Or.inl rfl))) (fun _ _ _ _ => pifs_nil) (fun _ _ _ _ => (pe_fld (pv 0) rfl)))))
theorem zder0g {C_House : Addr} {C_Hall : Addr} (zsp0z : Sp) (T : Txt K mg C_House C_Hall)
  (zh0z : Has P w K mg base 9 "hall_after" ["count", "against", "deeds"] zsp0z)
  (hr : Room 9 (A.deeper (PyProof.Rows.envOfC "letters_after" (defScope zs0g) s.heap.objs.size f cdv))) :
  PSs (cxOf CX0 P w K mg base ["count", "against", "deeds"] "letters_after" (defScope zs0g) f cdv A outer s H E).nox (defBody zs0g) (zR0g K zsp0z) := by
 have hu := hu_of hr
 have hu64 := hr.units
 have hu65 := hu65_of hr
 obtain ⟨zf0z, zfd0z, zG0z, zm0z, zk0z, zb0z⟩ := zh0z
 have zhr0z := hr.mono (j := 9) (by decide)
 unfold zR0g
 exact (pss_one (ps_ret (pe_fld (pe_call zG0z zhr0z rfl zm0z zk0z zb0z .nil pass0 (pa_cons (pv 0) (pa_cons (pv 1) (pa_cons (pv 2) pa_nil)))) rfl)))
theorem zder1h {C_House : Addr} {C_Hall : Addr} (zsp1h : Sp) (T : Txt K mg C_House C_Hall)
  {lev : Nat} (zh1h : Has P w K mg base lev "_law_so" ["_law_found", "_law_meant"] zsp1h)
  (hr : Room lev (A.deeper (PyProof.Rows.envOfC "_law_so" (defScope zs1h) s.heap.objs.size f cdv))) :
  PSs (cxOf CX0 P w K mg base ["_law_found", "_law_meant", "_law_k"] "_law_so" (defScope zs1h) f cdv A outer s H E).nox (defBody zs1h) (zR1h K zsp1h) := by
 have hu := hu_of hr
 have hu64 := hr.units
 have hu65 := hu65_of hr
 obtain ⟨zf1h, zfd1h, zG1h, zm1h, zk1h, zb1h⟩ := zh1h
 have zhr1h := hr
 unfold zR1h
 exact (pss_cons (ps_if (pt_cmp (pc_isN (pv 1)))
   (pss_one (ps_ret (pe_cmp (pc_isN (pv 0)))))
   pss_nil)
   (pss_cons (ps_if (pt_val (pe_callB call_isinst (by rfl) T.n_isinstance PyProof.Rows.boot_isinstance (pa_cons (pv 1) (pa_cons (pe_bltn (by rfl) T.n_bool PySem.Pv.boot_bool (v := .ty "bool") rfl) pa_nil))))
   (pss_one (ps_ret (pe_and (pe_callB call_isinst (by rfl) T.n_isinstance PyProof.Rows.boot_isinstance (pa_cons (pv 0) (pa_cons (pe_bltn (by rfl) T.n_bool PySem.Pv.boot_bool (v := .ty "bool") rfl) pa_nil))) (pe_one (pe_cmpR op_eq (pv 0) (pv 1) (nomark _))))))
   pss_nil)
   (pss_cons (ps_if (pt_val (pe_callB call_isinst (by rfl) T.n_isinstance PyProof.Rows.boot_isinstance (pa_cons (pv 1) (pa_cons (pe_bltn (by rfl) T.n_int PySem.Pv.boot_int (v := .ty "int") rfl) pa_nil))))
   (pss_one (ps_ret (pe_and (pe_callB call_isinst (by rfl) T.n_isinstance PyProof.Rows.boot_isinstance (pa_cons (pv 0) (pa_cons (pe_bltn (by rfl) T.n_int PySem.Pv.boot_int (v := .ty "int") rfl) pa_nil))) (pe_and (pe_not (pe_callB call_isinst (by rfl) T.n_isinstance PyProof.Rows.boot_isinstance (pa_cons (pv 0) (pa_cons (pe_bltn (by rfl) T.n_bool PySem.Pv.boot_bool (v := .ty "bool") rfl) pa_nil)))) (pe_one (pe_cmpR op_eq (pv 0) (pv 1) (nomark _)))))))
   pss_nil)
   (pss_cons (ps_if (pt_val (pe_callB call_isinst (by rfl) T.n_isinstance PyProof.Rows.boot_isinstance (pa_cons (pv 1) (pa_cons (pe_bltn (by rfl) T.n_str PySem.Pv.boot_str (v := .ty "str") rfl) pa_nil))))
   (pss_one (ps_ret (pe_and (pe_callB call_isinst (by rfl) T.n_isinstance PyProof.Rows.boot_isinstance (pa_cons (pv 0) (pa_cons (pe_bltn (by rfl) T.n_str PySem.Pv.boot_str (v := .ty "str") rfl) pa_nil))) (pe_one (pe_cmpR op_eq (pv 0) (pv 1) (nomark _))))))
   pss_nil)
   (pss_cons (ps_if (pt_val (pe_callB call_isinst (by rfl) T.n_isinstance PyProof.Rows.boot_isinstance (pa_cons (pv 1) (pa_cons (pe_bltn (by rfl) T.n_dict PySem.Pv.boot_dict (v := .ty "dict") rfl) pa_nil))))
   (pss_one ps_never)
   pss_nil)
   (pss_cons (ps_if (pt_cmpR op_ne (pe_callB call_isinst (by rfl) T.n_isinstance PyProof.Rows.boot_isinstance (pa_cons (pv 1) (pa_cons (pe_bltn (by rfl) T.n_tuple PySem.Pv.boot_tuple (v := .ty "tuple") rfl) pa_nil))) (pe_callB call_isinst (by rfl) T.n_isinstance PyProof.Rows.boot_isinstance (pa_cons (pv 0) (pa_cons (pe_bltn (by rfl) T.n_tuple PySem.Pv.boot_tuple (v := .ty "tuple") rfl) pa_nil))) (nomark _))
   (pss_one (ps_ret pe_bl))
   pss_nil)
   (pss_cons (ps_if (PW.pt (pw_or (pt_cmpR op_ne (pe_callB call_isinst (by rfl) T.n_isinstance PyProof.Rows.boot_isinstance (pa_cons (pv 1) (pa_cons (pe_bltn (by rfl) T.n_list PySem.Pv.boot_list (v := .ty "list") rfl) pa_nil))) (pe_callB call_isinst (by rfl) T.n_isinstance PyProof.Rows.boot_isinstance (pa_cons (pv 0) (pa_cons (pe_bltn (by rfl) T.n_list PySem.Pv.boot_list (v := .ty "list") rfl) pa_nil))) (nomark _)) (pw_or1 (pt_not (pt_val (pe_callB call_isinst2 (by rfl) T.n_isinstance PyProof.Rows.boot_isinstance (pa_cons (pv 1) (pa_cons (pe_tup (pa_cons (pe_bltn (by rfl) T.n_list PySem.Pv.boot_list (v := .ty "list") rfl) (pa_cons (pe_bltn (by rfl) T.n_tuple PySem.Pv.boot_tuple (v := .ty "tuple") rfl) pa_nil))) pa_nil))))))))
   (pss_one (ps_ret pe_bl))
   pss_nil)
   (pss_cons (ps_if (pt_cmpR op_ne (pe_callB call_len_seq (by rfl) T.n_len PySem.boot_len (pa_cons (pv 0) pa_nil)) (pe_callB call_len_seq (by rfl) T.n_len PySem.boot_len (pa_cons (pv 1) pa_nil)) (nomark _))
   (pss_one (ps_ret pe_bl))
   pss_nil)
   (pss_cons (ps_for PassesOwn.never rfl (pi_range1 rfl T.n_range (pa_cons (pe_callB call_len_seq (by rfl) T.n_len PySem.boot_len (pa_cons (pv 1) pa_nil)) pa_nil)) (pg_name (i := 2) zsc1h.nd rfl (Or.inl rfl))
   (pss_one (ps_if (pt_not (pt_val (pe_call zG1h zhr1h rfl zm1h zk1h zb1h .nil pass0 (pa_cons (pe_ix ix_seq (pv 0) (pv 2) (fun _ _ => rfl)) (pa_cons (pe_ix ix_seq (pv 1) (pv 2) (fun _ _ => rfl)) pa_nil)))))
   (pss_one (ps_ret pe_bl))
   pss_nil)))
   (pss_one (ps_ret pe_bl)))))))))))
theorem zder14 {C_House : Addr} {C_Hall : Addr}  (T : Txt K mg C_House C_Hall)
  
  (hr : Room 0 (A.deeper (PyProof.Rows.envOfC "_law_whole" (defScope zs14) s.heap.objs.size f cdv))) :
  PSs (cxOf CX0 P w K mg base ["_law_found"] "_law_whole" (defScope zs14) f cdv A outer s H E).nox (defBody zs14) (zR14 K ) := by
 have hu := hu_of hr
 have hu64 := hr.units
 have hu65 := hu65_of hr
 unfold zR14
 exact (pss_one (ps_ret (pe_and (pe_callB call_isinst (by rfl) T.n_isinstance PyProof.Rows.boot_isinstance (pa_cons (pv 0) (pa_cons (pe_bltn (by rfl) T.n_int PySem.Pv.boot_int (v := .ty "int") rfl) pa_nil))) (pe_one (pe_not (pe_callB call_isinst (by rfl) T.n_isinstance PyProof.Rows.boot_isinstance (pa_cons (pv 0) (pa_cons (pe_bltn (by rfl) T.n_bool PySem.Pv.boot_bool (v := .ty "bool") rfl) pa_nil))))))))
theorem zder1g {C_House : Addr} {C_Hall : Addr}  (T : Txt K mg C_House C_Hall)
  
  (hr : Room 0 (A.deeper (PyProof.Rows.envOfC "_law_at" (defScope zs1g) s.heap.objs.size f cdv))) :
  PSs (cxOf CX0 P w K mg base ["_law_script", "_law_k"] "_law_at" (defScope zs1g) f cdv A outer s H E).nox (defBody zs1g) (zR1g K ) := by
 have hu := hu_of hr
 have hu64 := hr.units
 have hu65 := hu65_of hr
 unfold zR1g
 exact (pss_cons (ps_if (pt_cmpR op_lt (pv 1) (pe_callB call_len_seq (by rfl) T.n_len PySem.boot_len (pa_cons (pv 0) pa_nil)) (nomark _))
   (pss_one (ps_ret (pe_ix ix_list (pv 0) (pv 1) (fun _ _ => rfl))))
   pss_nil)
   (pss_one (ps_ret pe_int)))
theorem zder0s {C_House : Addr} {C_Hall : Addr} (zsp14 : Sp) (T : Txt K mg C_House C_Hall)
  (zh14 : Has P w K mg base 1 "_law_whole" ["_law_found"] zsp14)
  (hr : Room 1 (A.deeper (PyProof.Rows.envOfC "_law_is_line" (defScope zs0s) s.heap.objs.size f cdv))) :
  PSs (cxOf CX0 P w K mg base ["_law_found"] "_law_is_line" (defScope zs0s) f cdv A outer s H E).nox (defBody zs0s) (zR0s K zsp14) := by
 have hu := hu_of hr
 have hu64 := hr.units
 have hu65 := hu65_of hr
 obtain ⟨zf14, zfd14, zG14, zm14, zk14, zb14⟩ := zh14
 have zhr14 := hr.mono (j := 1) (by decide)
 unfold zR0s
 exact (pss_cons (ps_if (PW.pt (pw_or (pt_not (pt_val (pe_callB call_isinst (by rfl) T.n_isinstance PyProof.Rows.boot_isinstance (pa_cons (pv 0) (pa_cons (pe_bltn (by rfl) T.n_tuple PySem.Pv.boot_tuple (v := .ty "tuple") rfl) pa_nil))))) (pw_or1 (pt_cmpR op_ne (pe_callB call_len_seq (by rfl) T.n_len PySem.boot_len (pa_cons (pv 0) pa_nil)) pe_int (nomark _)))))
   (pss_one (ps_ret pe_bl))
   pss_nil)
   (pss_cons (ps_if (PW.pt (pw_or (pt_not (pt_val (pe_callB call_isinst (by rfl) T.n_isinstance PyProof.Rows.boot_isinstance (pa_cons (pe_ix ix_tup (pv 0) pe_int (fun _ _ => rfl)) (pa_cons (pe_bltn (by rfl) T.n_str PySem.Pv.boot_str (v := .ty "str") rfl) pa_nil))))) (pw_or1 (pt_not (pt_val (pe_call zG14 zhr14 rfl zm14 zk14 zb14 .nil pass0 (pa_cons (pe_ix ix_tup (pv 0) pe_int (fun _ _ => rfl)) pa_nil)))))))
   (pss_one (ps_ret pe_bl))
   pss_nil)
   (pss_one (ps_ret (pe_cmpR op_in_seq (pe_ix ix_tup (pv 0) pe_int (fun _ _ => rfl)) (pe_lst (pa_cons pe_str (pa_cons pe_str (pa_cons pe_str (pa_cons pe_str (pa_cons pe_str pa_nil)))))) (by with_unfolding_all rfl))))))
theorem zder0e {C_House : Addr} {C_Hall : Addr} (zsp0s : Sp) (T : Txt K mg C_House C_Hall)
  (zh0s : Has P w K mg base 2 "_law_is_line" ["_law_found"] zsp0s)
  (hr : Room 2 (A.deeper (PyProof.Rows.envOfC "_law_are_lines" (defScope zs0e) s.heap.objs.size f cdv))) :
  PSs (cxOf CX0 P w K mg base ["_law_found", "_law_line"] "_law_are_lines" (defScope zs0e) f cdv A outer s H E).nox (defBody zs0e) (zR0e K zsp0s) := by
 have hu := hu_of hr
 have hu64 := hr.units
 have hu65 := hu65_of hr
 obtain ⟨zf0s, zfd0s, zG0s, zm0s, zk0s, zb0s⟩ := zh0s
 have zhr0s := hr.mono (j := 2) (by decide)
 unfold zR0e
 exact (pss_cons (ps_if (pt_not (pt_val (pe_callB call_isinst (by rfl) T.n_isinstance PyProof.Rows.boot_isinstance (pa_cons (pv 0) (pa_cons (pe_bltn (by rfl) T.n_list PySem.Pv.boot_list (v := .ty "list") rfl) pa_nil)))))
   (pss_one (ps_ret pe_bl))
   pss_nil)
   (pss_cons (ps_for PassesOwn.never rfl (pi_list (pv 0)) (pg_name (i := 1) zsc0e.nd rfl (Or.inl rfl))
   (pss_one (ps_if (pt_not (pt_val (pe_call zG0s zhr0s rfl zm0s zk0s zb0s .nil pass0 (pa_cons (pv 1) pa_nil))))
   (pss_one (ps_ret pe_bl))
   pss_nil)))
   (pss_one (ps_ret pe_bl))))
theorem zder0h {C_House : Addr} {C_Hall : Addr} (zsp0e : Sp) (T : Txt K mg C_House C_Hall)
  (zh0e : Has P w K mg base 3 "_law_are_lines" ["_law_found"] zsp0e)
  (hr : Room 3 (A.deeper (PyProof.Rows.envOfC "_law_are_books" (defScope zs0h) s.heap.objs.size f cdv))) :
  PSs (cxOf CX0 P w K mg base ["_law_found", "_law_count", "_law_book"] "_law_are_books" (defScope zs0h) f cdv A outer s H E).nox (defBody zs0h) (zR0h K zsp0e) := by
 have hu := hu_of hr
 have hu64 := hr.units
 have hu65 := hu65_of hr
 obtain ⟨zf0e, zfd0e, zG0e, zm0e, zk0e, zb0e⟩ := zh0e
 have zhr0e := hr.mono (j := 3) (by decide)
 unfold zR0h
 exact (pss_cons (ps_if (PW.pt (pw_or (pt_not (pt_val (pe_callB call_isinst (by rfl) T.n_isinstance PyProof.Rows.boot_isinstance (pa_cons (pv 0) (pa_cons (pe_bltn (by rfl) T.n_list PySem.Pv.boot_list (v := .ty "list") rfl) pa_nil))))) (pw_or1 (pt_cmpR op_ne (pe_callB call_len_seq (by rfl) T.n_len PySem.boot_len (pa_cons (pv 0) pa_nil)) (pv 1) (nomark _)))))
   (pss_one (ps_ret pe_bl))
   pss_nil)
   (pss_cons (ps_for PassesOwn.never rfl (pi_list (pv 0)) (pg_name (i := 2) zsc0h.nd rfl (Or.inl rfl))
   (pss_one (ps_if (pt_not (pt_val (pe_call zG0e zhr0e rfl zm0e zk0e zb0e .nil pass0 (pa_cons (pv 2) pa_nil))))
   (pss_one (ps_ret pe_bl))
   pss_nil)))
   (pss_one (ps_ret pe_bl))))
theorem zder05 {C_House : Addr} {C_Hall : Addr}  (T : Txt K mg C_House C_Hall)
  
  (hr : Room 0 (A.deeper (PyProof.Rows.envOfC "_law_all_bargains" (defScope zs05) s.heap.objs.size f cdv))) :
  PSs (cxOf CX0 P w K mg base [] "_law_all_bargains" (defScope zs05) f cdv A outer s H E).nox (defBody zs05) (zR05 K ) := by
 have hu := hu_of hr
 have hu64 := hr.units
 have hu65 := hu65_of hr
 unfold zR05
 exact (pss_one (ps_ret (pe_lst (pa_cons pe_int (pa_cons pe_int (pa_cons pe_int (pa_cons pe_int pa_nil)))))))
theorem zder0b {C_House : Addr} {C_Hall : Addr} (zsp05 : Sp) (T : Txt K mg C_House C_Hall)
  (zh05 : Has P w K mg base 1 "_law_all_bargains" [] zsp05)
  (hr : Room 1 (A.deeper (PyProof.Rows.envOfC "_law_bargain_of" (defScope zs0b) s.heap.objs.size f cdv))) :
  PSs (cxOf CX0 P w K mg base ["_law_cell"] "_law_bargain_of" (defScope zs0b) f cdv A outer s H E).nox (defBody zs0b) (zR0b K zsp05) := by
 have hu := hu_of hr
 have hu64 := hr.units
 have hu65 := hu65_of hr
 obtain ⟨zf05, zfd05, zG05, zm05, zk05, zb05⟩ := zh05
 have zhr05 := hr.mono (j := 1) (by decide)
 unfold zR0b
 exact (pss_one (ps_ret (pe_ix ix_list (pe_call0 zG05 zhr05 rfl zm05 zk05 zb05 .nil pass0) (pe_op op_mod (pe_op op_mod (pe_op op_mul (pv 0) pe_int) pe_int) pe_int) (fun _ _ => rfl))))
theorem zder0m {C_House : Addr} {C_Hall : Addr} (zsp0b : Sp) (T : Txt K mg C_House C_Hall)
  (zh0b : Has P w K mg base 2 "_law_bargain_of" ["_law_cell"] zsp0b)
  (hr : Room 2 (A.deeper (PyProof.Rows.envOfC "_law_deed_of" (defScope zs0m) s.heap.objs.size f cdv))) :
  PSs (cxOf CX0 P w K mg base ["_law_cell", "_law_k", "_law_count", "_law_swept", "_law_way", "_law_who", "_law_stays", "_law_which"] "_law_deed_of" (defScope zs0m) f cdv A outer s H E).nox (defBody zs0m) (zR0m K zsp0b) := by
 have hu := hu_of hr
 have hu64 := hr.units
 have hu65 := hu65_of hr
 obtain ⟨zf0b, zfd0b, zG0b, zm0b, zk0b, zb0b⟩ := zh0b
 have zhr0b := hr.mono (j := 2) (by decide)
 unfold zR0m
 exact (pss_cons (ps_set (i := 4) zsc0m.nd rfl (Or.inl rfl) (pe_op op_mod (pe_op op_mod (pe_op op_mul (pv 0) pe_int) pe_int) pe_int))
   (pss_cons (ps_set (i := 5) zsc0m.nd rfl (Or.inl rfl) (pe_op op_mod (pe_op op_mod (pe_op op_mul (pe_op op_add (pv 0) (pv 1)) pe_int) pe_int) (pv 2)))
   (pss_cons (ps_set (i := 6) zsc0m.nd rfl (Or.inl rfl) (pe_cmpR op_ne (pe_op op_mod (pe_op op_mod (pe_op op_mul (pv 0) pe_int) pe_int) pe_int) pe_int (nomark _)))
   (pss_cons (ps_if (pt_cmpR op_lt (pv 4) pe_int (nomark _))
   (pss_one (ps_ret (pe_tup (pa_cons pe_str (pa_cons (pe_call zG0b zhr0b rfl zm0b zk0b zb0b .nil pass0 (pa_cons (pe_op op_fdiv (pv 0) pe_int) pa_nil)) (pa_cons (pv 6) pa_nil))))))
   pss_nil)
   (pss_cons (ps_if (pt_cmpR op_eq (pv 4) pe_int (nomark _))
   (pss_one (ps_ret (pe_tup (pa_cons pe_str (pa_cons (pv 5) (pa_cons (pe_call zG0b zhr0b rfl zm0b zk0b zb0b .nil pass0 (pa_cons (pe_op op_fdiv (pv 0) pe_int) pa_nil)) pa_nil))))))
   pss_nil)
   (pss_cons (ps_if (pt_cmpR op_eq (pv 4) pe_int (nomark _))
   (pss_one (ps_ret (pe_tup (pa_cons pe_str (pa_cons (pv 5) pa_nil)))))
   pss_nil)
   (pss_cons (ps_if (PW.pt (pw_or (pt_cmpR op_eq (pv 4) pe_int (nomark _)) (pw_or1 (pt_cmpR op_eq (pv 4) pe_int (nomark _)))))
   (pss_one (ps_ret (pe_tup (pa_cons pe_str (pa_cons (pv 5) pa_nil)))))
   pss_nil)
   (pss_cons (ps_if (PW.pt (pw_and (pt_cmpR op_eq (pv 4) pe_int (nomark _)) (pw_and1 (pt_not (pt_val (pv 3))))))
   (pss_one (ps_ret (pe_tup (pa_cons pe_str pa_nil))))
   pss_nil)
   (pss_cons (ps_set (i := 7) zsc0m.nd rfl (Or.inl rfl) (pe_op op_mod (pe_op op_mod (pe_op op_mul (pe_op op_add (pv 0) (pe_op op_mul pe_int (pv 1))) pe_int) pe_int) (pe_op op_add (pe_op op_mul pe_int (pv 1)) pe_int)))
   (pss_cut (ps_if (pt_cmpR op_eq (pe_op op_mod (pe_op op_mod (pe_op op_mul (pv 0) pe_int) pe_int) pe_int) pe_int (nomark _))
   (pss_one (ps_set (i := 7) zsc0m.nd rfl (Or.inl rfl) pe_int))
   pss_nil)
   (pss_one (ps_ret (pe_tup (pa_cons pe_str (pa_cons (pv 7) (pa_cons (pv 6) pa_nil))))))))))))))))
theorem zder18 {C_House : Addr} {C_Hall : Addr} (zsp0m : Sp) (T : Txt K mg C_House C_Hall)
  (zh0m : Has P w K mg base 3 "_law_deed_of" ["_law_cell", "_law_k", "_law_count", "_law_swept"] zsp0m)
  (hr : Room 3 (A.deeper (PyProof.Rows.envOfC "_law_drawn" (defScope zs18) s.heap.objs.size f cdv))) :
  PSs (cxOf CX0 P w K mg base ["_law_cells", "_law_count", "_law_deeds", "_law_swept", "_law_k"] "_law_drawn" (defScope zs18) f cdv A outer s H E).nox (defBody zs18) (zR18 K zsp0m) := by
 have hu := hu_of hr
 have hu64 := hr.units
 have hu65 := hu65_of hr
 obtain ⟨zf0m, zfd0m, zG0m, zm0m, zk0m, zb0m⟩ := zh0m
 have zhr0m := hr.mono (j := 3) (by decide)
 unfold zR18
 exact (pss_cons (ps_set (i := 2) zsc18.nd rfl (Or.inl rfl) (pe_lst pa_nil))
   (pss_cons (ps_set (i := 3) zsc18.nd rfl (Or.inl rfl) pe_bl)
   (pss_cons (ps_for PassesOwn.never rfl (pi_range1 rfl T.n_range (pa_cons (pe_callB call_len_seq (by rfl) T.n_len PySem.boot_len (pa_cons (pv 0) pa_nil)) pa_nil)) (pg_name (i := 4) zsc18.nd rfl (Or.inl rfl))
   (pss_cons (ps_expr (pe_bm PySem.F.plainAttrs_list PySem.F.slot_list_append PySem.F.type_list_append mt_append (pv 2) (pa_cons (pe_call zG0m zhr0m rfl zm0m zk0m zb0m .nil pass0 (pa_cons (pe_op op_add (pe_ix ix_list (pv 0) (pv 4) (fun _ _ => rfl)) (pe_op op_mul pe_int (pv 4))) (pa_cons (pv 4) (pa_cons (pv 1) (pa_cons (pv 3) pa_nil))))) pa_nil)))
   (pss_one (ps_set (i := 3) zsc18.nd rfl (Or.inl rfl) (pe_or (pv 3) (pe_one (pe_cmpR (op_eqD hu64) (pe_ix ix_list (pv 2) (pe_un un_neg pe_int) (fun _ _ => rfl)) (pe_tup (pa_cons pe_str pa_nil)) (nomark _))))))))
   (pss_one (ps_ret (pv 2))))))
theorem zder02 {C_House : Addr} {C_Hall : Addr} (zsp05 : Sp) (T : Txt K mg C_House C_Hall)
  (zh05 : Has P w K mg base 1 "_law_all_bargains" [] zsp05)
  (hr : Room 1 (A.deeper (PyProof.Rows.envOfC "_law_pairs_against" (defScope zs02) s.heap.objs.size f cdv))) :
  PSs (cxOf CX0 P w K mg base ["_law_cell", "_law_count", "_law_pairs", "_law_k", "_law_j"] "_law_pairs_against" (defScope zs02) f cdv A outer s H E).nox (defBody zs02) (zR02 K zsp05) := by
 have hu := hu_of hr
 have hu64 := hr.units
 have hu65 := hu65_of hr
 obtain ⟨zf05, zfd05, zG05, zm05, zk05, zb05⟩ := zh05
 have zhr05 := hr.mono (j := 1) (by decide)
 unfold zR02
 exact (pss_cons (ps_set (i := 2) zsc02.nd rfl (Or.inl rfl) (pe_lst pa_nil))
   (pss_cons (ps_for PassesOwn.never rfl (pi_range1 rfl T.n_range (pa_cons (pv 1) pa_nil)) (pg_name (i := 3) zsc02.nd rfl (Or.inl rfl))
   (pss_one (ps_for PassesOwn.never rfl (pi_range1 rfl T.n_range (pa_cons pe_int pa_nil)) (pg_name (i := 4) zsc02.nd rfl (Or.inl rfl))
   (pss_one (ps_if (PW.pt (pw_and (pt_cmpR op_eq (pe_op op_mod (pe_op op_mod (pe_op op_mul (pe_op op_fdiv (pv 0) (pe_op op_add (pe_op op_add (pe_op op_mul pe_int (pv 3)) (pv 4)) pe_int)) pe_int) pe_int) pe_int) pe_int (nomark _)) (pw_and1 (pt_cmpR op_gt (pe_op op_mod (pe_op op_mod (pe_op op_mul (pv 0) pe_int) pe_int) pe_int) pe_int (nomark _)))))
   (pss_one (ps_expr (pe_bm PySem.F.plainAttrs_list PySem.F.slot_list_append PySem.F.type_list_append mt_append (pv 2) (pa_cons (pe_tup (pa_cons (pv 3) (pa_cons (pe_ix ix_list (pe_call0 zG05 zhr05 rfl zm05 zk05 zb05 .nil pass0) (pv 4) (fun _ _ => rfl)) pa_nil))) pa_nil))))
   pss_nil)))))
   (pss_one (ps_ret (pv 2)))))
theorem zder0f {C_House : Addr} {C_Hall : Addr} (zsp14 : Sp) (T : Txt K mg C_House C_Hall)
  (zh14 : Has P w K mg base 1 "_law_whole" ["_law_found"] zsp14)
  (hr : Room 1 (A.deeper (PyProof.Rows.envOfC "_law_is_letter" (defScope zs0f) s.heap.objs.size f cdv))) :
  PSs (cxOf CX0 P w K mg base ["_law_found", "_law_count", "_law_number"] "_law_is_letter" (defScope zs0f) f cdv A outer s H E).nox (defBody zs0f) (zR0f K zsp14) := by
 have hu := hu_of hr
 have hu64 := hr.units
 have hu65 := hu65_of hr
 obtain ⟨zf14, zfd14, zG14, zm14, zk14, zb14⟩ := zh14
 have zhr14 := hr.mono (j := 1) (by decide)
 unfold zR0f
 exact (pss_cons (ps_if (PW.pt (pw_or (pt_not (pt_val (pe_callB call_isinst (by rfl) T.n_isinstance PyProof.Rows.boot_isinstance (pa_cons (pv 0) (pa_cons (pe_bltn (by rfl) T.n_tuple PySem.Pv.boot_tuple (v := .ty "tuple") rfl) pa_nil))))) (pw_or (pt_cmpR op_ne (pe_callB call_len_seq (by rfl) T.n_len PySem.boot_len (pa_cons (pv 0) pa_nil)) pe_int (nomark _)) (pw_or1 (pt_not (pt_val (pe_callB call_isinst (by rfl) T.n_isinstance PyProof.Rows.boot_isinstance (pa_cons (pe_ix ix_tup (pv 0) pe_int (fun _ _ => rfl)) (pa_cons (pe_bltn (by rfl) T.n_str PySem.Pv.boot_str (v := .ty "str") rfl) pa_nil)))))))))
   (pss_one (ps_ret pe_bl))
   pss_nil)
   (pss_cons (ps_for PassesOwn.never rfl (pi_tup (pe_slice sl_tup (pv 0) po_none (po_some pe_int))) (pg_name (i := 2) zsc0f.nd rfl (Or.inl rfl))
   (pss_one (ps_if (pt_not (pt_val (pe_call zG14 zhr14 rfl zm14 zk14 zb14 .nil pass0 (pa_cons (pv 2) pa_nil))))
   (pss_one (ps_ret pe_bl))
   pss_nil)))
   (pss_cons (ps_if (pt_cmpR op_notIn_seq (pe_ix ix_tup (pv 0) pe_int (fun _ _ => rfl)) (pe_lst (pa_cons pe_str (pa_cons pe_str (pa_cons pe_str (pa_cons pe_str (pa_cons pe_str (pa_cons pe_str pa_nil))))))) (by with_unfolding_all rfl))
   (pss_one (ps_ret pe_bl))
   pss_nil)
   (pss_one (ps_ret (pe_and (pe_chain op_le op_lt pe_int (pe_ix ix_tup (pv 0) pe_int (fun _ _ => rfl)) (pv 1)) (pe_and (pe_chain op_le op_lt pe_int (pe_ix ix_tup (pv 0) pe_int (fun _ _ => rfl)) (pv 1)) (pe_one (pe_cmpR op_ne (pe_ix ix_tup (pv 0) pe_int (fun _ _ => rfl)) (pe_ix ix_tup (pv 0) pe_int (fun _ _ => rfl)) (nomark _))))))))))
theorem zder06 {C_House : Addr} {C_Hall : Addr} (zsp0f : Sp) (T : Txt K mg C_House C_Hall)
  (zh0f : Has P w K mg base 2 "_law_is_letter" ["_law_found", "_law_count"] zsp0f)
  (hr : Room 2 (A.deeper (PyProof.Rows.envOfC "_law_are_letters" (defScope zs06) s.heap.objs.size f cdv))) :
  PSs (cxOf CX0 P w K mg base ["_law_found", "_law_count", "_law_letter"] "_law_are_letters" (defScope zs06) f cdv A outer s H E).nox (defBody zs06) (zR06 K zsp0f) := by
 have hu := hu_of hr
 have hu64 := hr.units
 have hu65 := hu65_of hr
 obtain ⟨zf0f, zfd0f, zG0f, zm0f, zk0f, zb0f⟩ := zh0f
 have zhr0f := hr.mono (j := 2) (by decide)
 unfold zR06
 exact (pss_cons (ps_if (pt_not (pt_val (pe_callB call_isinst (by rfl) T.n_isinstance PyProof.Rows.boot_isinstance (pa_cons (pv 0) (pa_cons (pe_bltn (by rfl) T.n_list PySem.Pv.boot_list (v := .ty "list") rfl) pa_nil)))))
   (pss_one (ps_ret pe_bl))
   pss_nil)
   (pss_cons (ps_for PassesOwn.never rfl (pi_list (pv 0)) (pg_name (i := 2) zsc06.nd rfl (Or.inl rfl))
   (pss_one (ps_if (pt_not (pt_val (pe_call zG0f zhr0f rfl zm0f zk0f zb0f .nil pass0 (pa_cons (pv 2) (pa_cons (pv 1) pa_nil)))))
   (pss_one (ps_ret pe_bl))
   pss_nil)))
   (pss_one (ps_ret pe_bl))))
theorem zder1c {C_House : Addr} {C_Hall : Addr}  (T : Txt K mg C_House C_Hall)
  
  (hr : Room 0 (A.deeper (PyProof.Rows.envOfC "_law_rest" (defScope zs1c) s.heap.objs.size f cdv))) :
  PSs (cxOf CX0 P w K mg base ["_law_before", "_law_behind"] "_law_rest" (defScope zs1c) f cdv A outer s H E).nox (defBody zs1c) (zR1c K ) := by
 have hu := hu_of hr
 have hu64 := hr.units
 have hu65 := hu65_of hr
 unfold zR1c
 exact (pss_cons (ps_if (pt_cmpR (op_neD hu64) (pe_slice sl_list (pv 1) po_none (po_some (pe_callB call_len_seq (by rfl) T.n_len PySem.boot_len (pa_cons (pv 0) pa_nil)))) (pv 0) (nomark _))
   (pss_one (ps_ret pe_non))
   pss_nil)
   (pss_one (ps_ret (pe_slice sl_list (pv 1) (po_some (pe_callB call_len_seq (by rfl) T.n_len PySem.boot_len (pa_cons (pv 0) pa_nil))) po_none))))
theorem zder0q {C_House : Addr} {C_Hall : Addr} (zsp14 : Sp) (zsp0s : Sp) (zsp1h : Sp) (zsp0e : Sp) (T : Txt K mg C_House C_Hall)
  (zh14 : Has P w K mg base 1 "_law_whole" ["_law_found"] zsp14) (zh0s : Has P w K mg base 2 "_law_is_line" ["_law_found"] zsp0s) (zh1h : Has P w K mg base 4 "_law_so" ["_law_found", "_law_meant"] zsp1h) (zh0e : Has P w K mg base 3 "_law_are_lines" ["_law_found"] zsp0e)
  (hr : Room 4 (A.deeper (PyProof.Rows.envOfC "_law_written" (defScope zs0q) s.heap.objs.size f cdv))) :
  PSs (cxOf CX0 P w K mg base ["_law_rows", "_law_deed", "_law_told", "_law_count", "_law_letters", "_law_due", "_law_pair", "_law_k", "_law_lines", "_law_row"] "_law_written" (defScope zs0q) f cdv A outer s H E).nox (defBody zs0q) (zR0q K zsp14 zsp0s zsp1h zsp0e) := by
 have hu := hu_of hr
 have hu64 := hr.units
 have hu65 := hu65_of hr
 obtain ⟨zf14, zfd14, zG14, zm14, zk14, zb14⟩ := zh14
 have zhr14 := hr.mono (j := 1) (by decide)
 obtain ⟨zf0s, zfd0s, zG0s, zm0s, zk0s, zb0s⟩ := zh0s
 have zhr0s := hr.mono (j := 2) (by decide)
 obtain ⟨zf1h, zfd1h, zG1h, zm1h, zk1h, zb1h⟩ := zh1h
 have zhr1h := hr.mono (j := 4) (by decide)
 obtain ⟨zf0e, zfd0e, zG0e, zm0e, zk0e, zb0e⟩ := zh0e
 have zhr0e := hr.mono (j := 3) (by decide)
 unfold zR0q
 exact (pss_cons (ps_set (i := 5) zsc0q.nd rfl (Or.inl rfl) (pe_lst pa_nil))
   (pss_cons (ps_if (pt_cmpR op_eq (pe_ix ix_tup (pv 1) pe_int (fun _ _ => rfl)) pe_str (nomark _))
   (pss_cons (ps_if (pt_not (pt_val (pe_callB call_isinst (by rfl) T.n_isinstance PyProof.Rows.boot_isinstance (pa_cons (pv 2) (pa_cons (pe_bltn (by rfl) T.n_list PySem.Pv.boot_list (v := .ty "list") rfl) pa_nil)))))
   (pss_one (ps_ret pe_bl))
   pss_nil)
   (pss_cons (ps_for PassesOwn.never rfl (pi_list (pv 2)) (pg_name (i := 6) zsc0q.nd rfl (Or.inl rfl))
   (pss_cons (ps_if (PW.pt (pw_or (pt_not (pt_val (pe_callB call_isinst (by rfl) T.n_isinstance PyProof.Rows.boot_isinstance (pa_cons (pv 6) (pa_cons (pe_bltn (by rfl) T.n_tuple PySem.Pv.boot_tuple (v := .ty "tuple") rfl) pa_nil))))) (pw_or1 (pt_cmpR op_ne (pe_callB call_len_seq (by rfl) T.n_len PySem.boot_len (pa_cons (pv 6) pa_nil)) pe_int (nomark _)))))
   (pss_one (ps_ret pe_bl))
   pss_nil)
   (pss_one (ps_if (PW.pt (pw_or (pt_not (pt_val (pe_call zG14 zhr14 rfl zm14 zk14 zb14 .nil pass0 (pa_cons (pe_ix ix_tup (pv 6) pe_int (fun _ _ => rfl)) pa_nil)))) (pw_or1 (pt_not (pt_val (pe_call zG0s zhr0s rfl zm0s zk0s zb0s .nil pass0 (pa_cons (pe_ix ix_tup (pv 6) pe_int (fun _ _ => rfl)) pa_nil)))))))
   (pss_one (ps_ret pe_bl))
   pss_nil))))
   (pss_cons (ps_for PassesOwn.never rfl (pi_range1 rfl T.n_range (pa_cons (pv 3) pa_nil)) (pg_name (i := 7) zsc0q.nd rfl (Or.inr rfl))
   (pss_one (ps_if (pt_not (pt_val (pe_call zG1h zhr1h rfl zm1h zk1h zb1h .nil pass0 (pa_cons (pe_ix ix_list (pv 0) (pv 7) (fun _ _ => rfl)) (pa_cons (pe_lc rfl (show CompOk _ (["_law_pair", "_law_k"] : List Str) _ ([("_law_k", s.heap.objs.size + 1 + 0)] : List (Str × Addr)) ([none, some 7] : List (Option Nat)) from ⟨by with_unfolding_all rfl, rfl, rfl, rfl, rfl, ⟨rfl, trivial⟩, ⟨⟨rfl, Or.inl rfl, Or.inl rfl, _, rfl, rfl⟩, trivial⟩⟩) (pi_list (pv 2)) (fun _ _ _ _ => (pg_name (i := 0) znd0q_0 rfl (Or.inl rfl))) (fun _ _ _ _ => (pifs_one (pt_cmpR op_eq (pe_ix ix_tup (pv 0) pe_int (fun _ _ => rfl)) (pv 1) (nomark _)))) (fun _ _ _ _ => (pe_ix ix_tup (pv 0) pe_int (fun _ _ => rfl)))) pa_nil)))))
   (pss_one (ps_ret pe_bl))
   pss_nil)))
   (pss_one (ps_ret (pe_cmpR op_eq (pe_callB (call_sum rfl) (by rfl) T.n_sum PyProof.Rows.boot_sum (pa_cons (pe_lc rfl (show CompOk _ (["_law_row"] : List Str) _ ([] : List (Str × Addr)) ([none] : List (Option Nat)) from ⟨by with_unfolding_all rfl, rfl, rfl, rfl, rfl, trivial, trivial⟩) (pi_list (pv 0)) (fun _ _ _ _ => (pg_name (i := 0) znd0q_1 rfl (Or.inl rfl))) (fun _ _ _ _ => pifs_nil) (fun _ _ _ _ => (pe_callB call_len_seq (by rfl) T.n_len PySem.boot_len (pa_cons (pv 0) pa_nil)))) pa_nil)) (pe_callB call_len_seq (by rfl) T.n_len PySem.boot_len (pa_cons (pv 2) pa_nil)) (nomark _)))))))
   pss_nil)
   (pss_cons (ps_set (i := 8) zsc0q.nd rfl (Or.inl rfl) (pe_lst pa_nil))
   (pss_cons (ps_for PassesOwn.never rfl (pi_list (pv 0)) (pg_name (i := 9) zsc0q.nd rfl (Or.inl rfl))
   (pss_one (ps_set (i := 8) zsc0q.nd rfl (Or.inl rfl) (pe_op op_cat (pv 8) (pv 9)))))
   (pss_cons (ps_if (PW.pt (pw_or (pt_cmpR op_eq (pe_ix ix_tup (pv 1) pe_int (fun _ _ => rfl)) pe_str (nomark _)) (pw_or1 (pt_cmpR op_eq (pe_ix ix_tup (pv 1) pe_int (fun _ _ => rfl)) pe_str (nomark _)))))
   (pss_one (ps_ret (pe_and (pe_callB call_isinst (by rfl) T.n_isinstance PyProof.Rows.boot_isinstance (pa_cons (pv 2) (pa_cons (pe_bltn (by rfl) T.n_bool PySem.Pv.boot_bool (v := .ty "bool") rfl) pa_nil))) (pe_one (pe_cmpR (op_eqD hu64) (pv 8) (pe_lst pa_nil) (nomark _))))))
   pss_nil)
   (pss_cons (ps_if (pt_cmp (pc_isN (pv 2)))
   (pss_one (ps_ret (pe_cmpR (op_eqD hu64) (pv 8) (pe_lst pa_nil) (nomark _))))
   pss_nil)
   (pss_cons (ps_if (PW.pt (pw_or (pt_not (pt_val (pe_call zG0e zhr0e rfl zm0e zk0e zb0e .nil pass0 (pa_cons (pv 2) pa_nil)))) (pw_or1 (pt_cmpR (op_neD hu64) (pv 2) (pv 8) (nomark _)))))
   (pss_one (ps_ret pe_bl))
   pss_nil)
   (pss_cut (ps_if (pt_cmpR op_eq (pe_ix ix_tup (pv 1) pe_int (fun _ _ => rfl)) pe_str (nomark _))
   (pss_one (ps_set (i := 5) zsc0q.nd rfl (Or.inl rfl) (pe_ix ix_list (pv 0) (pe_op op_mod (pe_ix ix_tup (pv 1) pe_int (fun _ _ => rfl)) (pv 3)) (fun _ _ => rfl))))
   (pss_one (ps_if (pt_cmpR op_eq (pe_ix ix_tup (pv 1) pe_int (fun _ _ => rfl)) pe_str (nomark _))
   (pss_one (ps_set (i := 5) zsc0q.nd rfl (Or.inl rfl) (pe_ix ix_list (pv 0) (pe_ix ix_tup (pv 1) pe_int (fun _ _ => rfl)) (fun _ _ => rfl))))
   (pss_one (ps_set (i := 5) zsc0q.nd rfl (Or.inl rfl) (pe_ix ix_list (pv 0) (pe_ix ix_tup (pe_ix ix_list (pv 4) (pe_ix ix_tup (pv 1) pe_int (fun _ _ => rfl)) (fun _ _ => rfl)) pe_int (fun _ _ => rfl)) (fun _ _ => rfl)))))))
   (pss_one (ps_ret (pe_and (pe_cmpR (op_eqD hu64) (pv 5) (pv 8) (nomark _)) (pe_one (pe_or (pe_cmpR op_lt (pe_callB call_len_seq (by rfl) T.n_len PySem.boot_len (pa_cons (pv 8) pa_nil)) pe_int (nomark _)) (pe_one (pe_cmpR op_eq (pe_ix ix_tup (pv 1) pe_int (fun _ _ => rfl)) pe_str (nomark _))))))))))))))))
theorem zder1j {C_House : Addr} {C_Hall : Addr} (zsp1g : Sp) (zsp02 : Sp) (zsp18 : Sp) (zsp1d : Sp) (zsp0p : Sp) (zsp0h : Sp) (zsp1c : Sp) (zsp0g : Sp) (zsp06 : Sp) (zsp0q : Sp) (T : Txt K mg C_House C_Hall)
  (zh1g : Has P w K mg base 1 "_law_at" ["_law_script", "_law_k"] zsp1g) (zh02 : Has P w K mg base 2 "_law_pairs_against" ["_law_cell", "_law_count"] zsp02) (zh18 : Has P w K mg base 4 "_law_drawn" ["_law_cells", "_law_count"] zsp18) (zh1d : Has P w K mg base 9 "answers" ["count", "against", "deeds"] zsp1d) (zh0p : Has P w K mg base 10 "books_after" ["count", "against", "deeds"] zsp0p) (zh0h : Has P w K mg base 4 "_law_are_books" ["_law_found", "_law_count"] zsp0h) (zh1c : Has P w K mg base 1 "_law_rest" ["_law_before", "_law_behind"] zsp1c) (zh0g : Has P w K mg base 10 "letters_after" ["count", "against", "deeds"] zsp0g) (zh06 : Has P w K mg base 3 "_law_are_letters" ["_law_found", "_law_count"] zsp06) (zh0q : Has P w K mg base 5 "_law_written" ["_law_rows", "_law_deed", "_law_told", "_law_count", "_law_letters"] zsp0q)
  (hr : Room 10 (A.deeper (PyProof.Rows.envOfC "law" (defScope zs1j) s.heap.objs.size f cdv))) :
  PSs (cxOf CX0 P w K mg base ["_law_script", "_law_count", "_law_against", "_law_deeds", "_law_handed", "_law_told", "_law_k", "_law_spot", "_law_before", "_law_behind", "_law_rows", "_law_letters"] "law" (defScope zs1j) f cdv A outer s H E).nox (defBody zs1j) (zR1j K zsp1g zsp02 zsp18 zsp1d zsp0p zsp0h zsp1c zsp0g zsp06 zsp0q) := by
 have hu := hu_of hr
 have hu64 := hr.units
 have hu65 := hu65_of hr
 obtain ⟨zf1g, zfd1g, zG1g, zm1g, zk1g, zb1g⟩ := zh1g
 have zhr1g := hr.mono (j := 1) (by decide)
 obtain ⟨zf02, zfd02, zG02, zm02, zk02, zb02⟩ := zh02
 have zhr02 := hr.mono (j := 2) (by decide)
 obtain ⟨zf18, zfd18, zG18, zm18, zk18, zb18⟩ := zh18
 have zhr18 := hr.mono (j := 4) (by decide)
 obtain ⟨zf1d, zfd1d, zG1d, zm1d, zk1d, zb1d⟩ := zh1d
 have zhr1d := hr.mono (j := 9) (by decide)
 obtain ⟨zf0p, zfd0p, zG0p, zm0p, zk0p, zb0p⟩ := zh0p
 have zhr0p := hr.mono (j := 10) (by decide)
 obtain ⟨zf0h, zfd0h, zG0h, zm0h, zk0h, zb0h⟩ := zh0h
 have zhr0h := hr.mono (j := 4) (by decide)
 obtain ⟨zf1c, zfd1c, zG1c, zm1c, zk1c, zb1c⟩ := zh1c
 have zhr1c := hr.mono (j := 1) (by decide)
 obtain ⟨zf0g, zfd0g, zG0g, zm0g, zk0g, zb0g⟩ := zh0g
 have zhr0g := hr.mono (j := 10) (by decide)
 obtain ⟨zf06, zfd06, zG06, zm06, zk06, zb06⟩ := zh06
 have zhr06 := hr.mono (j := 3) (by decide)
 obtain ⟨zf0q, zfd0q, zG0q, zm0q, zk0q, zb0q⟩ := zh0q
 have zhr0q := hr.mono (j := 5) (by decide)
 unfold zR1j
 exact (pss_cons (ps_set (i := 1) zsc1j.nd rfl (Or.inl rfl) (pe_ix ix_list (pe_lst (pa_cons pe_int (pa_cons pe_int (pa_cons pe_int (pa_cons pe_int (pa_cons pe_int (pa_cons pe_int (pa_cons pe_int (pa_cons pe_int pa_nil))))))))) (pe_op op_mod (pe_op op_mod (pe_op op_mul (pe_call zG1g zhr1g rfl zm1g zk1g zb1g .nil pass0 (pa_cons (pv 0) (pa_cons pe_int pa_nil))) pe_int) pe_int) pe_int) (fun _ _ => rfl)))
   (pss_cons (ps_set (i := 2) zsc1j.nd rfl (Or.inl rfl) (pe_call zG02 zhr02 rfl zm02 zk02 zb02 .nil pass0 (pa_cons (pe_call zG1g zhr1g rfl zm1g zk1g zb1g .nil pass0 (pa_cons (pv 0) (pa_cons pe_int pa_nil))) (pa_cons (pv 1) pa_nil))))
   (pss_cons (ps_set (i := 3) zsc1j.nd rfl (Or.inl rfl) (pe_call zG18 zhr18 rfl zm18 zk18 zb18 .nil pass0 (pa_cons (pe_slice sl_list (pv 0) (po_some pe_int) (po_some pe_int)) (pa_cons (pv 1) pa_nil))))
   (pss_cons (ps_set (i := 4) zsc1j.nd rfl (Or.inl rfl) (pe_callTy call_list_of (by rfl) T.n_list PySem.Pv.boot_list (pa_cons (pv 3) pa_nil)))
   (pss_cons (ps_set (i := 5) zsc1j.nd rfl (Or.inl rfl) (pe_call zG1d zhr1d rfl zm1d zk1d zb1d .nil pass0 (pa_cons (pv 1) (pa_cons (pe_callTy call_list_of (by rfl) T.n_list PySem.Pv.boot_list (pa_cons (pv 2) pa_nil)) (pa_cons (pv 4) pa_nil)))))
   (pss_cons (ps_if (PW.pt (pw_or (pt_not (pt_val (pe_callB call_isinst (by rfl) T.n_isinstance PyProof.Rows.boot_isinstance (pa_cons (pv 5) (pa_cons (pe_bltn (by rfl) T.n_list PySem.Pv.boot_list (v := .ty "list") rfl) pa_nil))))) (pw_or (pt_cmpR op_ne (pe_callB call_len_seq (by rfl) T.n_len PySem.boot_len (pa_cons (pv 5) pa_nil)) (pe_callB call_len_seq (by rfl) T.n_len PySem.boot_len (pa_cons (pv 3) pa_nil)) (nomark _)) (pw_or1 (pt_cmpR (op_neD hu64) (pv 4) (pv 3) (nomark _))))))
   (pss_one (ps_ret pe_bl))
   pss_nil)
   (pss_cons (ps_for PassesOwn.never rfl (pi_range1 rfl T.n_range (pa_cons pe_int pa_nil)) (pg_name (i := 6) zsc1j.nd rfl (Or.inl rfl))
   (pss_one (ps_if (pt_cmpR op_gt (pe_callB call_len_seq (by rfl) T.n_len PySem.boot_len (pa_cons (pv 3) pa_nil)) pe_int (nomark _))
   (pss_cons (ps_set (i := 7) zsc1j.nd rfl (Or.inl rfl) (pe_op op_mod (pe_op op_mod (pe_op op_mul (pe_op op_fdiv (pe_call zG1g zhr1g rfl zm1g zk1g zb1g .nil pass0 (pa_cons (pv 0) (pa_cons pe_int pa_nil))) (pe_op op_add (pe_op op_mul pe_int (pv 6)) pe_int)) pe_int) pe_int) (pe_callB call_len_seq (by rfl) T.n_len PySem.boot_len (pa_cons (pv 3) pa_nil))))
   (pss_cons (ps_set (i := 8) zsc1j.nd rfl (Or.inr rfl) (pe_call zG0p zhr0p rfl zm0p zk0p zb0p .nil pass0 (pa_cons (pv 1) (pa_cons (pe_callTy call_list_of (by rfl) T.n_list PySem.Pv.boot_list (pa_cons (pv 2) pa_nil)) (pa_cons (pe_slice sl_list (pv 3) po_none (po_some (pv 7))) pa_nil)))))
   (pss_cons (ps_set (i := 9) zsc1j.nd rfl (Or.inr rfl) (pe_call zG0p zhr0p rfl zm0p zk0p zb0p .nil pass0 (pa_cons (pv 1) (pa_cons (pe_callTy call_list_of (by rfl) T.n_list PySem.Pv.boot_list (pa_cons (pv 2) pa_nil)) (pa_cons (pe_slice sl_list (pv 3) po_none (po_some (pe_op op_add (pv 7) pe_int))) pa_nil)))))
   (pss_cons (ps_if (pt_not (pt_val (pe_call zG0h zhr0h rfl zm0h zk0h zb0h .nil pass0 (pa_cons (pv 8) (pa_cons (pv 1) pa_nil)))))
   (pss_one (ps_ret pe_bl))
   pss_nil)
   (pss_cons (ps_if (pt_not (pt_val (pe_call zG0h zhr0h rfl zm0h zk0h zb0h .nil pass0 (pa_cons (pv 9) (pa_cons (pv 1) pa_nil)))))
   (pss_one (ps_ret pe_bl))
   pss_nil)
   (pss_cons (ps_setLC (i := 10) rfl zsc1j.nd rfl (Or.inl rfl) rfl (show CompOk _ (["_law_j", "_law_before", "_law_behind"] : List Str) _ ([("_law_behind", s.heap.objs.size + 1 + 1), ("_law_before", s.heap.objs.size + 1 + 0)] : List (Str × Addr)) ([none, some 8, some 9] : List (Option Nat)) from ⟨by with_unfolding_all rfl, rfl, rfl, rfl, rfl, ⟨rfl, ⟨rfl, trivial⟩⟩, ⟨⟨rfl, Or.inl rfl, Or.inl rfl, _, rfl, rfl⟩, ⟨⟨rfl, Or.inl rfl, Or.inl rfl, _, rfl, rfl⟩, trivial⟩⟩⟩) (pi_range1 rfl T.n_range (pa_cons (pv 1) pa_nil)) (fun _ _ _ _ => (pg_name (i := 0) znd1j_0 rfl (Or.inl rfl))) (fun _ _ _ _ => pifs_nil) (fun _ _ _ _ => (pe_call zG1c zhr1c rfl zm1c zk1c zb1c .nil pass0 (pa_cons (pe_ix ix_list (pv 1) (pv 0) (fun _ _ => rfl)) (pa_cons (pe_ix ix_list (pv 2) (pv 0) (fun _ _ => rfl)) pa_nil)))))
   (pss_cons (ps_if (pt_cmpR (op_inD hu65) pe_non (pv 10) (by with_unfolding_all rfl))
   (pss_one (ps_ret pe_bl))
   pss_nil)
   (pss_cons (ps_set (i := 11) zsc1j.nd rfl (Or.inl rfl) (pe_call zG0g zhr0g rfl zm0g zk0g zb0g .nil pass0 (pa_cons (pv 1) (pa_cons (pe_callTy call_list_of (by rfl) T.n_list PySem.Pv.boot_list (pa_cons (pv 2) pa_nil)) (pa_cons (pe_slice sl_list (pv 3) po_none (po_some (pv 7))) pa_nil)))))
   (pss_cons (ps_if (pt_not (pt_val (pe_call zG06 zhr06 rfl zm06 zk06 zb06 .nil pass0 (pa_cons (pv 11) (pa_cons (pv 1) pa_nil)))))
   (pss_one (ps_ret pe_bl))
   pss_nil)
   (pss_one (ps_if (pt_not (pt_val (pe_call zG0q zhr0q rfl zm0q zk0q zb0q .nil pass0 (pa_cons (pv 10) (pa_cons (pe_ix ix_list (pv 3) (pv 7) (fun _ _ => rfl)) (pa_cons (pe_ix ix_list (pv 5) (pv 7) (fun _ _ => rfl)) (pa_cons (pv 1) (pa_cons (pv 11) pa_nil))))))))
   (pss_one (ps_ret pe_bl))
   pss_nil)))))))))))
   pss_nil)))
   (pss_one (ps_ret pe_bl)))))))))
end
local macro_rules | `(tactic| walk_at "q") => `(tactic| (intro vs H Q E h; have q := h; repeat (first | (obtain ⟨e, _⟩ := q; subst e; rfl) | (obtain ⟨⟨_, _, e, _⟩, _⟩ := q; subst e; rfl) | (obtain ⟨_, q⟩ := q))))
section
variable {P : Program} {w : World} {K : PySem.W.Frag} {mg : Str → Option Value} {base : Heap}
theorem zok1g {C_House : Addr} {C_Hall : Addr} {f : Addr} {fd : FuncData} (F : Fun K "_law_at" "_law_at" zs1g f fd) (T : Txt K mg C_House C_Hall)  (hm : mg "_law_at" = some (.ref f)) : Has P w K mg base 1 "_law_at" ["_law_script", "_law_k"] (zsp1g K) :=
 ⟨f, fd, F.ok zsc1g (by walk_at "q") (fun cdv A outer s H vs Q E hr h => ⟨_, zder1g  T  hr, zrd1g h⟩), hm, F.kp, F.binds fun _ _ _ _ _ _ us hl => match us, hl with | [_,_], _ => rfl⟩
theorem zok05 {C_House : Addr} {C_Hall : Addr} {f : Addr} {fd : FuncData} (F : Fun K "_law_all_bargains" "_law_all_bargains" zs05 f fd) (T : Txt K mg C_House C_Hall)  (hm : mg "_law_all_bargains" = some (.ref f)) : Has P w K mg base 1 "_law_all_bargains" [] zsp05 :=
 ⟨f, fd, F.ok zsc05 (by walk_at "q") (fun cdv A outer s H vs Q E hr h => ⟨_, zder05  T  hr, zrd05 h⟩), hm, F.kp, F.binds fun _ _ _ _ _ _ us hl => match us, hl with | [], _ => rfl⟩
theorem zok02 {C_House : Addr} {C_Hall : Addr} {f : Addr} {fd : FuncData} (F : Fun K "_law_pairs_against" "_law_pairs_against" zs02 f fd) (T : Txt K mg C_House C_Hall) (zh05 : Has P w K mg base 1 "_law_all_bargains" [] zsp05) (hm : mg "_law_pairs_against" = some (.ref f)) : Has P w K mg base 2 "_law_pairs_against" ["_law_cell", "_law_count"] zsp02 :=
 ⟨f, fd, F.ok zsc02 (by walk_at "q") (fun cdv A outer s H vs Q E hr h => ⟨_, zder02 zsp05 T zh05 hr, zrd02 h⟩), hm, F.kp, F.binds fun _ _ _ _ _ _ us hl => match us, hl with | [_,_], _ => rfl⟩
theorem zok0b {C_House : Addr} {C_Hall : Addr} {f : Addr} {fd : FuncData} (F : Fun K "_law_bargain_of" "_law_bargain_of" zs0b f fd) (T : Txt K mg C_House C_Hall) (zh05 : Has P w K mg base 1 "_law_all_bargains" [] zsp05) (hm : mg "_law_bargain_of" = some (.ref f)) : Has P w K mg base 2 "_law_bargain_of" ["_law_cell"] (zsp0b (· ∈ allB)) :=
 ⟨f, fd, F.ok zsc0b (by walk_at "q") (fun cdv A outer s H vs Q E hr h => ⟨_, zder0b zsp05 T zh05 hr, zrd0b h⟩), hm, F.kp, F.binds fun _ _ _ _ _ _ us hl => match us, hl with | [_], _ => rfl⟩
theorem zok0m {C_House : Addr} {C_Hall : Addr} {f : Addr} {fd : FuncData} (F : Fun K "_law_deed_of" "_law_deed_of" zs0m f fd) (T : Txt K mg C_House C_Hall) (zh0b : Has P w K mg base 2 "_law_bargain_of" ["_law_cell"] (zsp0b (· ∈ allB))) (hm : mg "_law_deed_of" = some (.ref f)) : Has P w K mg base 3 "_law_deed_of" ["_law_cell", "_law_k", "_law_count", "_law_swept"] (zsp0m (· ∈ allB)) :=
 ⟨f, fd, F.ok zsc0m (by walk_at "q") (fun cdv A outer s H vs Q E hr h => ⟨_, zder0m (zsp0b (· ∈ allB)) T zh0b hr, zrd0m h⟩), hm, F.kp, F.binds fun _ _ _ _ _ _ us hl => match us, hl with | [_,_,_,_], _ => rfl⟩
theorem zok18 {C_House : Addr} {C_Hall : Addr} {f : Addr} {fd : FuncData} (F : Fun K "_law_drawn" "_law_drawn" zs18 f fd) (T : Txt K mg C_House C_Hall) (zh0m : Has P w K mg base 3 "_law_deed_of" ["_law_cell", "_law_k", "_law_count", "_law_swept"] (zsp0m (· ∈ allB))) (hm : mg "_law_drawn" = some (.ref f)) : Has P w K mg base 4 "_law_drawn" ["_law_cells", "_law_count"] (zsp18 (· ∈ allB)) :=
 ⟨f, fd, F.ok zsc18 (by walk_at "q") (fun cdv A outer s H vs Q E hr h => ⟨_, zder18 (zsp0m (· ∈ allB)) T zh0m hr, zrd18 h⟩), hm, F.kp, F.binds fun _ _ _ _ _ _ us hl => match us, hl with | [_,_], _ => rfl⟩
theorem zok1b {C_House : Addr} {C_Hall : Addr} {f : Addr} {fd : FuncData} (F : Fun K "words_of" "words_of" zs1b f fd) (T : Txt K mg C_House C_Hall)  (hm : mg "words_of" = some (.ref f)) : Has P w K mg base 1 "words_of" ["book", "bargain"] zsp1b :=
 ⟨f, fd, F.ok zsc1b (by walk_at "q") (fun cdv A outer s H vs Q E hr h => ⟨_, zder1b  T  hr, zrd1b h⟩), hm, F.kp, F.binds fun _ _ _ _ _ _ us hl => match us, hl with | [_,_], _ => rfl⟩
theorem zok1i {C_House : Addr} {C_Hall : Addr} {f : Addr} {fd : FuncData} (F : Fun K "knows" "knows" zs1i f fd) (T : Txt K mg C_House C_Hall) (zh1b : Has P w K mg base 1 "words_of" ["book", "bargain"] zsp1b) (hm : mg "knows" = some (.ref f)) : Has P w K mg base 2 "knows" ["book", "bargain"] zsp1i :=
 ⟨f, fd, F.ok zsc1i (by walk_at "q") (fun cdv A outer s H vs Q E hr h => ⟨_, zder1i zsp1b T zh1b hr, zrd1i h⟩), hm, F.kp, F.binds fun _ _ _ _ _ _ us hl => match us, hl with | [_,_], _ => rfl⟩
theorem zok0o {C_House : Addr} {C_Hall : Addr} {f : Addr} {fd : FuncData} (F : Fun K "write" "House.write" zs0o f fd) (T : Txt K mg C_House C_Hall)  (hm : Meth K C_House "write" f) : HasM P w K mg base C_House 1 "write" ["self", "word", "bargain"] (zsp0o C_House) :=
 ⟨f, fd, F.ok zsc0o (by walk_at "q") (fun cdv A outer s H vs Q E hr h => ⟨_, zder0o  T  hr, zrd0o T.hs h⟩), hm, F.binds fun _ _ _ _ _ _ us hl => match us, hl with | [_,_,_], _ => rfl⟩
theorem zok07 {C_House : Addr} {C_Hall : Addr} {f : Addr} {fd : FuncData} (F : Fun K "to_others" "House.to_others" zs07 f fd) (T : Txt K mg C_House C_Hall)  (hm : Meth K C_House "to_others" f) : HasM P w K mg base C_House 1 "to_others" ["self", "bargain", "word"] (zsp07 C_House) :=
 ⟨f, fd, F.ok zsc07 (by walk_at "q") (fun cdv A outer s H vs Q E hr h => ⟨_, zder07  T  hr, zrd07 T.hs h⟩), hm, F.binds fun _ _ _ _ _ _ us hl => match us, hl with | [_,_,_], _ => rfl⟩
theorem zok0r {C_House : Addr} {C_Hall : Addr} {f : Addr} {fd : FuncData} (F : Fun K "begin" "House.begin" zs0r f fd) (T : Txt K mg C_House C_Hall) (zh0o : HasM P w K mg base C_House 1 "write" ["self", "word", "bargain"] (zsp0o C_House)) (zh07 : HasM P w K mg base C_House 1 "to_others" ["self", "bargain", "word"] (zsp07 C_House)) (hm : Meth K C_House "begin" f) : HasM P w K mg base C_House 2 "begin" ["self", "bargain"] (zsp0r C_House) :=
 ⟨f, fd, F.ok zsc0r (by walk_at "q") (fun cdv A outer s H vs Q E hr h => ⟨_, zder0r (zsp0o C_House) (zsp07 C_House) C_House T zh0o zh07 hr, zrd0r T.hs h⟩), hm, F.binds fun _ _ _ _ _ _ us hl => match us, hl with | [_,_], _ => rfl⟩
theorem zok16 {C_House : Addr} {C_Hall : Addr} {f : Addr} {fd : FuncData} (F : Fun K "send" "Hall.send" zs16 f fd) (T : Txt K mg C_House C_Hall)  (hm : Meth K C_Hall "send" f) : HasM P w K mg base C_Hall 1 "send" ["self", "sent"] (zsp16 C_House C_Hall) :=
 ⟨f, fd, F.ok zsc16 (by walk_at "q") (fun cdv A outer s H vs Q E hr h => ⟨_, zder16  T  hr, zrd16 T.hx h⟩), hm, F.binds fun _ _ _ _ _ _ us hl => match us, hl with | [_,_], _ => rfl⟩
theorem zok0j {C_House : Addr} {C_Hall : Addr} {f : Addr} {fd : FuncData} (F : Fun K "forget" "House.forget" zs0j f fd) (T : Txt K mg C_House C_Hall)  (hm : Meth K C_House "forget" f) : HasM P w K mg base C_House 1 "forget" ["self"] (zsp0j C_House) :=
 ⟨f, fd, F.ok zsc0j (by walk_at "q") (fun cdv A outer s H vs Q E hr h => ⟨_, zder0j  T  hr, zrd0j T.hs h⟩), hm, F.binds fun _ _ _ _ _ _ us hl => match us, hl with | [_], _ => rfl⟩
theorem zok0y {C_House : Addr} {C_Hall : Addr} {f : Addr} {fd : FuncData} (F : Fun K "stop" "House.stop" zs0y f fd) (T : Txt K mg C_House C_Hall) (zh0j : HasM P w K mg base C_House 1 "forget" ["self"] (zsp0j C_House)) (hm : Meth K C_House "stop" f) : HasM P w K mg base C_House 2 "stop" ["self"] (zsp0y C_House) :=
 ⟨f, fd, F.ok zsc0y (by walk_at "q") (fun cdv A outer s H vs Q E hr h => ⟨_, zder0y (zsp0j C_House) C_House T zh0j hr, zrd0y T.hs h⟩), hm, F.binds fun _ _ _ _ _ _ us hl => match us, hl with | [_], _ => rfl⟩
theorem zok03 {C_House : Addr} {C_Hall : Addr} {f : Addr} {fd : FuncData} (F : Fun K "send_or_stop" "Hall.send_or_stop" zs03 f fd) (T : Txt K mg C_House C_Hall) (zh16 : HasM P w K mg base C_Hall 1 "send" ["self", "sent"] (zsp16 C_House C_Hall)) (zh0y : HasM P w K mg base C_House 2 "stop" ["self"] (zsp0y C_House)) (hm : Meth K C_Hall "send_or_stop" f) : HasM P w K mg base C_Hall 3 "send_or_stop" ["self", "house", "sent", "stays"] (zsp03 C_House C_Hall) :=
 ⟨f, fd, F.ok zsc03 (by walk_at "q") (fun cdv A outer s H vs Q E hr h => ⟨_, zder03 (zsp16 C_House C_Hall) (zsp0y C_House) C_Hall C_House T zh16 zh0y hr, zrd03 T.hx T.hs h⟩), hm, F.binds fun _ _ _ _ _ _ us hl => match us, hl with | [_,_,_,_], _ => rfl⟩
theorem zok0v {C_House : Addr} {C_Hall : Addr} {f : Addr} {fd : FuncData} (F : Fun K "begin" "Hall.begin" zs0v f fd) (T : Txt K mg C_House C_Hall) (zh1i : Has P w K mg base 2 "knows" ["book", "bargain"] zsp1i) (zh0r : HasM P w K mg base C_House 2 "begin" ["self", "bargain"] (zsp0r C_House)) (zh03 : HasM P w K mg base C_Hall 3 "send_or_stop" ["self", "house", "sent", "stays"] (zsp03 C_House C_Hall)) (hm : Meth K C_Hall "begin" f) : HasM P w K mg base C_Hall 4 "begin" ["self", "bargain", "stays"] (zsp0v C_House C_Hall) :=
 ⟨f, fd, F.ok zsc0v (by walk_at "q") (fun cdv A outer s H vs Q E hr h => ⟨_, zder0v zsp1i (zsp0r C_House) (zsp03 C_House C_Hall) C_House C_Hall T zh1i zh0r zh03 hr, zrd0v T.hx T.hs h⟩), hm, F.binds fun _ _ _ _ _ _ us hl => match us, hl with | [_,_,_], _ => rfl⟩
theorem zok0x {C_House : Addr} {C_Hall : Addr} {f : Addr} {fd : FuncData} (F : Fun K "page" "House.page" zs0x f fd) (T : Txt K mg C_House C_Hall)  (hm : Meth K C_House "page" f) : HasM P w K mg base C_House 1 "page" ["self", "bargain"] (zsp0x C_House) :=
 ⟨f, fd, F.ok zsc0x (by walk_at "q") (fun cdv A outer s H vs Q E hr h => ⟨_, zder0x  T  hr, zrd0x T.hs h⟩), hm, F.binds fun _ _ _ _ _ _ us hl => match us, hl with | [_,_], _ => rfl⟩
theorem zok0l {C_House : Addr} {C_Hall : Addr} {f : Addr} {fd : FuncData} (F : Fun K "decision_in" "decision_in" zs0l f fd) (T : Txt K mg C_House C_Hall) (zh1b : Has P w K mg base 1 "words_of" ["book", "bargain"] zsp1b) (hm : mg "decision_in" = some (.ref f)) : Has P w K mg base 2 "decision_in" ["book", "bargain"] zsp0l :=
 ⟨f, fd, F.ok zsc0l (by walk_at "q") (fun cdv A outer s H vs Q E hr h => ⟨_, zder0l zsp1b T zh1b hr, zrd0l h⟩), hm, F.kp, F.binds fun _ _ _ _ _ _ us hl => match us, hl with | [_,_], _ => rfl⟩
theorem zok0c {C_House : Addr} {C_Hall : Addr} {f : Addr} {fd : FuncData} (F : Fun K "decision" "House.decision" zs0c f fd) (T : Txt K mg C_House C_Hall) (zh0l : Has P w K mg base 2 "decision_in" ["book", "bargain"] zsp0l) (zh0x : HasM P w K mg base C_House 1 "page" ["self", "bargain"] (zsp0x C_House)) (hm : Meth K C_House "decision" f) : HasM P w K mg base C_House 3 "decision" ["self", "bargain"] (zsp0c C_House) :=
 ⟨f, fd, F.ok zsc0c (by walk_at "q") (fun cdv A outer s H vs Q E hr h => ⟨_, zder0c zsp0l (zsp0x C_House) C_House T zh0l zh0x hr, zrd0c T.hs h⟩), hm, F.binds fun _ _ _ _ _ _ us hl => match us, hl with | [_,_], _ => rfl⟩
theorem zok0k {C_House : Addr} {C_Hall : Addr} {f : Addr} {fd : FuncData} (F : Fun K "to_one" "House.to_one" zs0k f fd) (T : Txt K mg C_House C_Hall)  (hm : Meth K C_House "to_one" f) : HasM P w K mg base C_House 1 "to_one" ["self", "other", "bargain", "word"] (zsp0k C_House) :=
 ⟨f, fd, F.ok zsc0k (by walk_at "q") (fun cdv A outer s H vs Q E hr h => ⟨_, zder0k  T  hr, zrd0k T.hs h⟩), hm, F.binds fun _ _ _ _ _ _ us hl => match us, hl with | [_,_,_,_], _ => rfl⟩
theorem zok0d {C_House : Addr} {C_Hall : Addr} {f : Addr} {fd : FuncData} (F : Fun K "got_ask" "House.got_ask" zs0d f fd) (T : Txt K mg C_House C_Hall) (zh1i : Has P w K mg base 2 "knows" ["book", "bargain"] zsp1i) (zh0x : HasM P w K mg base C_House 1 "page" ["self", "bargain"] (zsp0x C_House)) (zh0o : HasM P w K mg base C_House 1 "write" ["self", "word", "bargain"] (zsp0o C_House)) (zh0c : HasM P w K mg base C_House 3 "decision" ["self", "bargain"] (zsp0c C_House)) (zh0k : HasM P w K mg base C_House 1 "to_one" ["self", "other", "bargain", "word"] (zsp0k C_House)) (hm : Meth K C_House "got_ask" f) : HasM P w K mg base C_House 4 "got_ask" ["self", "giver", "bargain"] (zsp0d C_House) :=
 ⟨f, fd, F.ok zsc0d (by walk_at "q") (fun cdv A outer s H vs Q E hr h => ⟨_, zder0d zsp1i (zsp0x C_House) (zsp0o C_House) (zsp0c C_House) (zsp0k C_House) C_House T zh1i zh0x zh0o zh0c zh0k hr, zrd0d T.hs h⟩), hm, F.binds fun _ _ _ _ _ _ us hl => match us, hl with | [_,_,_], _ => rfl⟩
theorem zok1e {C_House : Addr} {C_Hall : Addr} {f : Addr} {fd : FuncData} (F : Fun K "vote_in" "vote_in" zs1e f fd) (T : Txt K mg C_House C_Hall) (zh1b : Has P w K mg base 1 "words_of" ["book", "bargain"] zsp1b) (hm : mg "vote_in" = some (.ref f)) : Has P w K mg base 2 "vote_in" ["book", "bargain"] zsp1e :=
 ⟨f, fd, F.ok zsc1e (by walk_at "q") (fun cdv A outer s H vs Q E hr h => ⟨_, zder1e zsp1b T zh1b hr, zrd1e h⟩), hm, F.kp, F.binds fun _ _ _ _ _ _ us hl => match us, hl with | [_,_], _ => rfl⟩
theorem zok13 {C_House : Addr} {C_Hall : Addr} {f : Addr} {fd : FuncData} (F : Fun K "is_unsure" "is_unsure" zs13 f fd) (T : Txt K mg C_House C_Hall) (zh1e : Has P w K mg base 2 "vote_in" ["book", "bargain"] zsp1e) (zh0l : Has P w K mg base 2 "decision_in" ["book", "bargain"] zsp0l) (hm : mg "is_unsure" = some (.ref f)) : Has P w K mg base 3 "is_unsure" ["book", "bargain"] zsp13 :=
 ⟨f, fd, F.ok zsc13 (by walk_at "q") (fun cdv A outer s H vs Q E hr h => ⟨_, zder13 zsp1e zsp0l T zh1e zh0l hr, zrd13 h⟩), hm, F.kp, F.binds fun _ _ _ _ _ _ us hl => match us, hl with | [_,_], _ => rfl⟩
theorem zok0i {C_House : Addr} {C_Hall : Addr} {f : Addr} {fd : FuncData} (F : Fun K "decide" "House.decide" zs0i f fd) (T : Txt K mg C_House C_Hall) (zh0o : HasM P w K mg base C_House 1 "write" ["self", "word", "bargain"] (zsp0o C_House)) (zh07 : HasM P w K mg base C_House 1 "to_others" ["self", "bargain", "word"] (zsp07 C_House)) (hm : Meth K C_House "decide" f) : HasM P w K mg base C_House 2 "decide" ["self", "bargain", "word"] (zsp0i C_House) :=
 ⟨f, fd, F.ok zsc0i (by walk_at "q") (fun cdv A outer s H vs Q E hr h => ⟨_, zder0i (zsp0o C_House) (zsp07 C_House) C_House T zh0o zh07 hr, zrd0i T.hs h⟩), hm, F.binds fun _ _ _ _ _ _ us hl => match us, hl with | [_,_,_], _ => rfl⟩
theorem zok08 {C_House : Addr} {C_Hall : Addr} {f : Addr} {fd : FuncData} (F : Fun K "got_query" "House.got_query" zs08 f fd) (T : Txt K mg C_House C_Hall) (zh13 : Has P w K mg base 3 "is_unsure" ["book", "bargain"] zsp13) (zh1i : Has P w K mg base 2 "knows" ["book", "bargain"] zsp1i) (zh0x : HasM P w K mg base C_House 1 "page" ["self", "bargain"] (zsp0x C_House)) (zh0c : HasM P w K mg base C_House 3 "decision" ["self", "bargain"] (zsp0c C_House)) (zh0k : HasM P w K mg base C_House 1 "to_one" ["self", "other", "bargain", "word"] (zsp0k C_House)) (zh0i : HasM P w K mg base C_House 2 "decide" ["self", "bargain", "word"] (zsp0i C_House)) (zh0o : HasM P w K mg base C_House 1 "write" ["self", "word", "bargain"] (zsp0o C_House)) (hm : Meth K C_House "got_query" f) : HasM P w K mg base C_House 4 "got_query" ["self", "giver", "bargain"] (zsp08 C_House) :=
 ⟨f, fd, F.ok zsc08 (by walk_at "q") (fun cdv A outer s H vs Q E hr h => ⟨_, zder08 zsp13 zsp1i (zsp0x C_House) (zsp0c C_House) (zsp0k C_House) (zsp0i C_House) (zsp0o C_House) C_House T zh13 zh1i zh0x zh0c zh0k zh0i zh0o hr, zrd08 T.hs h⟩), hm, F.binds fun _ _ _ _ _ _ us hl => match us, hl with | [_,_,_], _ => rfl⟩
theorem zok09 {C_House : Addr} {C_Hall : Addr} {f : Addr} {fd : FuncData} (F : Fun K "got_vote" "House.got_vote" zs09 f fd) (T : Txt K mg C_House C_Hall) (zh0c : HasM P w K mg base C_House 3 "decision" ["self", "bargain"] (zsp0c C_House)) (zh0k : HasM P w K mg base C_House 1 "to_one" ["self", "other", "bargain", "word"] (zsp0k C_House)) (zh0i : HasM P w K mg base C_House 2 "decide" ["self", "bargain", "word"] (zsp0i C_House)) (hm : Meth K C_House "got_vote" f) : HasM P w K mg base C_House 4 "got_vote" ["self", "giver", "bargain", "word"] (zsp09 C_House) :=
 ⟨f, fd, F.ok zsc09 (by walk_at "q") (fun cdv A outer s H vs Q E hr h => ⟨_, zder09 (zsp0c C_House) (zsp0k C_House) (zsp0i C_House) C_House T zh0c zh0k zh0i hr, zrd09 T.hs h⟩), hm, F.binds fun _ _ _ _ _ _ us hl => match us, hl with | [_,_,_,_], _ => rfl⟩
theorem zok01 {C_House : Addr} {C_Hall : Addr} {f : Addr} {fd : FuncData} (F : Fun K "got_decision" "House.got_decision" zs01 f fd) (T : Txt K mg C_House C_Hall) (zh0c : HasM P w K mg base C_House 3 "decision" ["self", "bargain"] (zsp0c C_House)) (zh0o : HasM P w K mg base C_House 1 "write" ["self", "word", "bargain"] (zsp0o C_House)) (hm : Meth K C_House "got_decision" f) : HasM P w K mg base C_House 4 "got_decision" ["self", "bargain", "word"] (zsp01 C_House) :=
 ⟨f, fd, F.ok zsc01 (by walk_at "q") (fun cdv A outer s H vs Q E hr h => ⟨_, zder01 (zsp0c C_House) (zsp0o C_House) C_House T zh0c zh0o hr, zrd01 T.hs h⟩), hm, F.binds fun _ _ _ _ _ _ us hl => match us, hl with | [_,_,_], _ => rfl⟩
theorem zok15 {C_House : Addr} {C_Hall : Addr} {f : Addr} {fd : FuncData} (F : Fun K "got" "House.got" zs15 f fd) (T : Txt K mg C_House C_Hall) (zh0d : HasM P w K mg base C_House 4 "got_ask" ["self", "giver", "bargain"] (zsp0d C_House)) (zh08 : HasM P w K mg base C_House 4 "got_query" ["self", "giver", "bargain"] (zsp08 C_House)) (zh09 : HasM P w K mg base C_House 4 "got_vote" ["self", "giver", "bargain", "word"] (zsp09 C_House)) (zh01 : HasM P w K mg base C_House 4 "got_decision" ["self", "bargain", "word"] (zsp01 C_House)) (hm : Meth K C_House "got" f) : HasM P w K mg base C_House 5 "got" ["self", "letter"] (zsp15 C_House) :=
 ⟨f, fd, F.ok zsc15 (by walk_at "q") (fun cdv A outer s H vs Q E hr h => ⟨_, zder15 (zsp0d C_House) (zsp08 C_House) (zsp09 C_House) (zsp01 C_House) C_House T zh0d zh08 zh09 zh01 hr, zrd15 T.hs h⟩), hm, F.binds fun _ _ _ _ _ _ us hl => match us, hl with | [_,_], _ => rfl⟩
theorem zok0t {C_House : Addr} {C_Hall : Addr} {f : Addr} {fd : FuncData} (F : Fun K "carry" "Hall.carry" zs0t f fd) (T : Txt K mg C_House C_Hall) (zh15 : HasM P w K mg base C_House 5 "got" ["self", "letter"] (zsp15 C_House)) (zh03 : HasM P w K mg base C_Hall 3 "send_or_stop" ["self", "house", "sent", "stays"] (zsp03 C_House C_Hall)) (hm : Meth K C_Hall "carry" f) : HasM P w K mg base C_Hall 6 "carry" ["self", "which", "stays"] (zsp0t C_House C_Hall) :=
 ⟨f, fd, F.ok zsc0t (by walk_at "q") (fun cdv A outer s H vs Q E hr h => ⟨_, zder0t (zsp15 C_House) (zsp03 C_House C_Hall) C_House C_Hall T zh15 zh03 hr, zrd0t T.hx T.hs h⟩), hm, F.binds fun _ _ _ _ _ _ us hl => match us, hl with | [_,_,_], _ => rfl⟩
theorem zok0n {C_House : Addr} {C_Hall : Addr} {f : Addr} {fd : FuncData} (F : Fun K "query" "House.query" zs0n f fd) (T : Txt K mg C_House C_Hall) (zh13 : Has P w K mg base 3 "is_unsure" ["book", "bargain"] zsp13) (zh0x : HasM P w K mg base C_House 1 "page" ["self", "bargain"] (zsp0x C_House)) (zh07 : HasM P w K mg base C_House 1 "to_others" ["self", "bargain", "word"] (zsp07 C_House)) (hm : Meth K C_House "query" f) : HasM P w K mg base C_House 4 "query" ["self", "bargain"] (zsp0n C_House) :=
 ⟨f, fd, F.ok zsc0n (by walk_at "q") (fun cdv A outer s H vs Q E hr h => ⟨_, zder0n zsp13 (zsp0x C_House) (zsp07 C_House) C_House T zh13 zh0x zh07 hr, zrd0n T.hs h⟩), hm, F.binds fun _ _ _ _ _ _ us hl => match us, hl with | [_,_], _ => rfl⟩
theorem zok10 {C_House : Addr} {C_Hall : Addr} {f : Addr} {fd : FuncData} (F : Fun K "query" "Hall.query" zs10 f fd) (T : Txt K mg C_House C_Hall) (zh0n : HasM P w K mg base C_House 4 "query" ["self", "bargain"] (zsp0n C_House)) (zh16 : HasM P w K mg base C_Hall 1 "send" ["self", "sent"] (zsp16 C_House C_Hall)) (hm : Meth K C_Hall "query" f) : HasM P w K mg base C_Hall 5 "query" ["self", "number", "bargain"] (zsp10 C_House C_Hall) :=
 ⟨f, fd, F.ok zsc10 (by walk_at "q") (fun cdv A outer s H vs Q E hr h => ⟨_, zder10 (zsp0n C_House) (zsp16 C_House C_Hall) C_House C_Hall T zh0n zh16 hr, zrd10 T.hx T.hs h⟩), hm, F.binds fun _ _ _ _ _ _ us hl => match us, hl with | [_,_,_], _ => rfl⟩
theorem zok19 {C_House : Addr} {C_Hall : Addr} {f : Addr} {fd : FuncData} (F : Fun K "stop" "Hall.stop" zs19 f fd) (T : Txt K mg C_House C_Hall) (zh0y : HasM P w K mg base C_House 2 "stop" ["self"] (zsp0y C_House)) (hm : Meth K C_Hall "stop" f) : HasM P w K mg base C_Hall 3 "stop" ["self", "number"] (zsp19 C_House C_Hall) :=
 ⟨f, fd, F.ok zsc19 (by walk_at "q") (fun cdv A outer s H vs Q E hr h => ⟨_, zder19 (zsp0y C_House) C_House T zh0y hr, zrd19 T.hx T.hs h⟩), hm, F.binds fun _ _ _ _ _ _ us hl => match us, hl with | [_,_], _ => rfl⟩
theorem zok17 {C_House : Addr} {C_Hall : Addr} {f : Addr} {fd : FuncData} (F : Fun K "left_open" "left_open" zs17 f fd) (T : Txt K mg C_House C_Hall) (zh0l : Has P w K mg base 2 "decision_in" ["book", "bargain"] zsp0l) (hm : mg "left_open" = some (.ref f)) : Has P w K mg base 3 "left_open" ["book"] zsp17 :=
 ⟨f, fd, F.ok zsc17 (by walk_at "q") (fun cdv A outer s H vs Q E hr h => ⟨_, zder17 zsp0l T zh0l hr, zrd17 h⟩), hm, F.kp, F.binds fun _ _ _ _ _ _ us hl => match us, hl with | [_], _ => rfl⟩
theorem zok0w {C_House : Addr} {C_Hall : Addr} {f : Addr} {fd : FuncData} (F : Fun K "wake" "House.wake" zs0w f fd) (T : Txt K mg C_House C_Hall) (zh17 : Has P w K mg base 3 "left_open" ["book"] zsp17) (zh0i : HasM P w K mg base C_House 2 "decide" ["self", "bargain", "word"] (zsp0i C_House)) (hm : Meth K C_House "wake" f) : HasM P w K mg base C_House 4 "wake" ["self"] (zsp0w C_House) :=
 ⟨f, fd, F.ok zsc0w (by walk_at "q") (fun cdv A outer s H vs Q E hr h => ⟨_, zder0w zsp17 (zsp0i C_House) C_House T zh17 zh0i hr, zrd0w T.hs h⟩), hm, F.binds fun _ _ _ _ _ _ us hl => match us, hl with | [_], _ => rfl⟩
theorem zok1a {C_House : Addr} {C_Hall : Addr} {f : Addr} {fd : FuncData} (F : Fun K "wake" "Hall.wake" zs1a f fd) (T : Txt K mg C_House C_Hall) (zh0w : HasM P w K mg base C_House 4 "wake" ["self"] (zsp0w C_House)) (zh16 : HasM P w K mg base C_Hall 1 "send" ["self", "sent"] (zsp16 C_House C_Hall)) (hm : Meth K C_Hall "wake" f) : HasM P w K mg base C_Hall 5 "wake" ["self", "number"] (zsp1a C_House C_Hall) :=
 ⟨f, fd, F.ok zsc1a (by walk_at "q") (fun cdv A outer s H vs Q E hr h => ⟨_, zder1a (zsp0w C_House) (zsp16 C_House C_Hall) C_House C_Hall T zh0w zh16 hr, zrd1a T.hx T.hs h⟩), hm, F.binds fun _ _ _ _ _ _ us hl => match us, hl with | [_,_], _ => rfl⟩
theorem zok0a {C_House : Addr} {C_Hall : Addr} {f : Addr} {fd : FuncData} (F : Fun K "is_spent" "House.is_spent" zs0a f fd) (T : Txt K mg C_House C_Hall) (zh0c : HasM P w K mg base C_House 3 "decision" ["self", "bargain"] (zsp0c C_House)) (hm : Meth K C_House "is_spent" f) : HasM P w K mg base C_House 4 "is_spent" ["self", "letter"] (zsp0a C_House) :=
 ⟨f, fd, F.ok zsc0a (by walk_at "q") (fun cdv A outer s H vs Q E hr h => ⟨_, zder0a (zsp0c C_House) C_House T zh0c hr, zrd0a T.hs h⟩), hm, F.binds fun _ _ _ _ _ _ us hl => match us, hl with | [_,_], _ => rfl⟩
theorem zok00 {C_House : Addr} {C_Hall : Addr} {f : Addr} {fd : FuncData} (F : Fun K "is_spent_letter" "Hall.is_spent_letter" zs00 f fd) (T : Txt K mg C_House C_Hall) (zh0a : HasM P w K mg base C_House 4 "is_spent" ["self", "letter"] (zsp0a C_House)) (hm : Meth K C_Hall "is_spent_letter" f) : HasM P w K mg base C_Hall 5 "is_spent_letter" ["self", "which"] (zsp00 C_House C_Hall) :=
 ⟨f, fd, F.ok zsc00 (by walk_at "q") (fun cdv A outer s H vs Q E hr h => ⟨_, zder00 (zsp0a C_House) C_House T zh0a hr, zrd00 T.hx h⟩), hm, F.binds fun _ _ _ _ _ _ us hl => match us, hl with | [_,_], _ => rfl⟩
theorem zok0u {C_House : Addr} {C_Hall : Addr} {f : Addr} {fd : FuncData} (F : Fun K "sweep" "Hall.sweep" zs0u f fd) (T : Txt K mg C_House C_Hall) (zh0t : HasM P w K mg base C_Hall 6 "carry" ["self", "which", "stays"] (zsp0t C_House C_Hall)) (zh00 : HasM P w K mg base C_Hall 5 "is_spent_letter" ["self", "which"] (zsp00 C_House C_Hall)) (hm : Meth K C_Hall "sweep" f) : HasM P w K mg base C_Hall 7 "sweep" ["self"] (zsp0u C_House C_Hall) :=
 ⟨f, fd, F.ok zsc0u (by walk_at "q") (fun cdv A outer s H vs Q E hr h => ⟨_, zder0u (zsp0t C_House C_Hall) (zsp00 C_House C_Hall) C_Hall T zh0t zh00 hr, zrd0u T.hx h⟩), hm, F.binds fun _ _ _ _ _ _ us hl => match us, hl with | [_], _ => rfl⟩
theorem zok1f {C_House : Addr} {C_Hall : Addr} {f : Addr} {fd : FuncData} (F : Fun K "do" "Hall.do" zs1f f fd) (T : Txt K mg C_House C_Hall) (zh0v : HasM P w K mg base C_Hall 4 "begin" ["self", "bargain", "stays"] (zsp0v C_House C_Hall)) (zh0t : HasM P w K mg base C_Hall 6 "carry" ["self", "which", "stays"] (zsp0t C_House C_Hall)) (zh10 : HasM P w K mg base C_Hall 5 "query" ["self", "number", "bargain"] (zsp10 C_House C_Hall)) (zh19 : HasM P w K mg base C_Hall 3 "stop" ["self", "number"] (zsp19 C_House C_Hall)) (zh1a : HasM P w K mg base C_Hall 5 "wake" ["self", "number"] (zsp1a C_House C_Hall)) (zh0u : HasM P w K mg base C_Hall 7 "sweep" ["self"] (zsp0u C_House C_Hall)) (hm : Meth K C_Hall "do" f) : HasM P w K mg base C_Hall 8 "do" ["self", "deed"] (zsp1f C_House C_Hall) :=
 ⟨f, fd, F.ok zsc1f (by walk_at "q") (fun cdv A outer s H vs Q E hr h => ⟨_, zder1f (zsp0v C_House C_Hall) (zsp0t C_House C_Hall) (zsp10 C_House C_Hall) (zsp19 C_House C_Hall) (zsp1a C_House C_Hall) (zsp0u C_House C_Hall) C_Hall T zh0v zh0t zh10 zh19 zh1a zh0u hr, zrd1f T.hx h⟩), hm, F.binds fun _ _ _ _ _ _ us hl => match us, hl with | [_,_], _ => rfl⟩
theorem zok04 {C_House : Addr} {C_Hall : Addr} {f : Addr} {fd : FuncData} (F : Fun K "bargains_against" "bargains_against" zs04 f fd) (T : Txt K mg C_House C_Hall)  (hm : mg "bargains_against" = some (.ref f)) : Has P w K mg base 1 "bargains_against" ["against", "number"] zsp04 :=
 ⟨f, fd, F.ok zsc04 (by walk_at "q") (fun cdv A outer s H vs Q E hr h => ⟨_, zder04  T  hr, zrd04 h⟩), hm, F.kp, F.binds fun _ _ _ _ _ _ us hl => match us, hl with | [_,_], _ => rfl⟩
theorem zok11 {C_House : Addr} {C_Hall : Addr} {f : Addr} {fd : FuncData} (F : Fun K "__init__" "House.__init__" zs11 f fd) (T : Txt K mg C_House C_Hall) (zh0j : HasM P w K mg base C_House 1 "forget" ["self"] (zsp0j C_House)) (hm : Mk K C_House f) : HasI P w K mg base C_House 2 ["self", "number", "count", "against"] (zsp11 C_House) :=
 ⟨f, fd, F.ok zsc11 (by walk_at "q") (fun cdv A outer s H vs Q E hr h => ⟨_, zder11 (zsp0j C_House) C_House T zh0j hr, zrd11 T.hs h⟩), hm, F.binds fun _ _ _ _ _ _ us hl => match us, hl with | [_,_,_,_], _ => rfl⟩
theorem zok12 {C_House : Addr} {C_Hall : Addr} {f : Addr} {fd : FuncData} (F : Fun K "__init__" "Hall.__init__" zs12 f fd) (T : Txt K mg C_House C_Hall) (zh04 : Has P w K mg base 1 "bargains_against" ["against", "number"] zsp04) (zh11 : HasI P w K mg base C_House 2 ["self", "number", "count", "against"] (zsp11 C_House)) (hm : Mk K C_Hall f) : HasI P w K mg base C_Hall 4 ["self", "count", "against"] (zsp12 C_House C_Hall) :=
 ⟨f, fd, F.ok zsc12 (by walk_at "q") (fun cdv A outer s H vs Q E hr h => ⟨_, zder12 zsp04 (zsp11 C_House) C_House T zh04 zh11 hr, zrd12 T.hx h⟩), hm, F.binds fun _ _ _ _ _ _ us hl => match us, hl with | [_,_,_], _ => rfl⟩
theorem zok1d {C_House : Addr} {C_Hall : Addr} {f : Addr} {fd : FuncData} (F : Fun K "answers" "answers" zs1d f fd) (T : Txt K mg C_House C_Hall) (zh1f : HasM P w K mg base C_Hall 8 "do" ["self", "deed"] (zsp1f C_House C_Hall)) (zh12 : HasI P w K mg base C_Hall 4 ["self", "count", "against"] (zsp12 C_House C_Hall)) (hm : mg "answers" = some (.ref f)) : Has P w K mg base 9 "answers" ["count", "against", "deeds"] (zsp1d C_House C_Hall) :=
 ⟨f, fd, F.ok zsc1d (by walk_at "q") (fun cdv A outer s H vs Q E hr h => ⟨_, zder1d (zsp12 C_House C_Hall) (zsp1f C_House C_Hall) C_Hall T zh1f zh12 hr, zrd1d h⟩), hm, F.kp, F.binds fun _ _ _ _ _ _ us hl => match us, hl with | [_,_,_], _ => rfl⟩
theorem zok0z {C_House : Addr} {C_Hall : Addr} {f : Addr} {fd : FuncData} (F : Fun K "hall_after" "hall_after" zs0z f fd) (T : Txt K mg C_House C_Hall) (zh1f : HasM P w K mg base C_Hall 8 "do" ["self", "deed"] (zsp1f C_House C_Hall)) (zh12 : HasI P w K mg base C_Hall 4 ["self", "count", "against"] (zsp12 C_House C_Hall)) (hm : mg "hall_after" = some (.ref f)) : Has P w K mg base 9 "hall_after" ["count", "against", "deeds"] (zsp0z C_House C_Hall) :=
 ⟨f, fd, F.ok zsc0z (by walk_at "q") (fun cdv A outer s H vs Q E hr h => ⟨_, zder0z (zsp12 C_House C_Hall) (zsp1f C_House C_Hall) C_Hall T zh1f zh12 hr, zrd0z h⟩), hm, F.kp, F.binds fun _ _ _ _ _ _ us hl => match us, hl with | [_,_,_], _ => rfl⟩
theorem zok0p {C_House : Addr} {C_Hall : Addr} {f : Addr} {fd : FuncData} (F : Fun K "books_after" "books_after" zs0p f fd) (T : Txt K mg C_House C_Hall) (zh0z : Has P w K mg base 9 "hall_after" ["count", "against", "deeds"] (zsp0z C_House C_Hall)) (hm : mg "books_after" = some (.ref f)) : Has P w K mg base 10 "books_after" ["count", "against", "deeds"] (zsp0p C_House C_Hall) :=
 ⟨f, fd, F.ok zsc0p (by walk_at "q") (fun cdv A outer s H vs Q E hr h => ⟨_, zder0p (zsp0z C_House C_Hall) T zh0z hr, zrd0p T.hx T.hs h⟩), hm, F.kp, F.binds fun _ _ _ _ _ _ us hl => match us, hl with | [_,_,_], _ => rfl⟩
theorem zok14 {C_House : Addr} {C_Hall : Addr} {f : Addr} {fd : FuncData} (F : Fun K "_law_whole" "_law_whole" zs14 f fd) (T : Txt K mg C_House C_Hall)  (hm : mg "_law_whole" = some (.ref f)) : Has P w K mg base 1 "_law_whole" ["_law_found"] zsp14 :=
 ⟨f, fd, F.ok zsc14 (by walk_at "q") (fun cdv A outer s H vs Q E hr h => ⟨_, zder14  T  hr, zrd14 h⟩), hm, F.kp, F.binds fun _ _ _ _ _ _ us hl => match us, hl with | [_], _ => rfl⟩
theorem zok0s {C_House : Addr} {C_Hall : Addr} {f : Addr} {fd : FuncData} (F : Fun K "_law_is_line" "_law_is_line" zs0s f fd) (T : Txt K mg C_House C_Hall) (zh14 : Has P w K mg base 1 "_law_whole" ["_law_found"] zsp14) (hm : mg "_law_is_line" = some (.ref f)) : Has P w K mg base 2 "_law_is_line" ["_law_found"] zsp0s :=
 ⟨f, fd, F.ok zsc0s (by walk_at "q") (fun cdv A outer s H vs Q E hr h => ⟨_, zder0s zsp14 T zh14 hr, zrd0s h⟩), hm, F.kp, F.binds fun _ _ _ _ _ _ us hl => match us, hl with | [_], _ => rfl⟩
theorem zok0e {C_House : Addr} {C_Hall : Addr} {f : Addr} {fd : FuncData} (F : Fun K "_law_are_lines" "_law_are_lines" zs0e f fd) (T : Txt K mg C_House C_Hall) (zh0s : Has P w K mg base 2 "_law_is_line" ["_law_found"] zsp0s) (hm : mg "_law_are_lines" = some (.ref f)) : Has P w K mg base 3 "_law_are_lines" ["_law_found"] zsp0e :=
 ⟨f, fd, F.ok zsc0e (by walk_at "q") (fun cdv A outer s H vs Q E hr h => ⟨_, zder0e zsp0s T zh0s hr, zrd0e h⟩), hm, F.kp, F.binds fun _ _ _ _ _ _ us hl => match us, hl with | [_], _ => rfl⟩
theorem zok0h {C_House : Addr} {C_Hall : Addr} {f : Addr} {fd : FuncData} (F : Fun K "_law_are_books" "_law_are_books" zs0h f fd) (T : Txt K mg C_House C_Hall) (zh0e : Has P w K mg base 3 "_law_are_lines" ["_law_found"] zsp0e) (hm : mg "_law_are_books" = some (.ref f)) : Has P w K mg base 4 "_law_are_books" ["_law_found", "_law_count"] zsp0h :=
 ⟨f, fd, F.ok zsc0h (by walk_at "q") (fun cdv A outer s H vs Q E hr h => ⟨_, zder0h zsp0e T zh0e hr, zrd0h h⟩), hm, F.kp, F.binds fun _ _ _ _ _ _ us hl => match us, hl with | [_,_], _ => rfl⟩
theorem zok1c {C_House : Addr} {C_Hall : Addr} {f : Addr} {fd : FuncData} (F : Fun K "_law_rest" "_law_rest" zs1c f fd) (T : Txt K mg C_House C_Hall)  (hm : mg "_law_rest" = some (.ref f)) : Has P w K mg base 1 "_law_rest" ["_law_before", "_law_behind"] zsp1c :=
 ⟨f, fd, F.ok zsc1c (by walk_at "q") (fun cdv A outer s H vs Q E hr h => ⟨_, zder1c  T  hr, zrd1c h⟩), hm, F.kp, F.binds fun _ _ _ _ _ _ us hl => match us, hl with | [_,_], _ => rfl⟩
theorem zok0g {C_House : Addr} {C_Hall : Addr} {f : Addr} {fd : FuncData} (F : Fun K "letters_after" "letters_after" zs0g f fd) (T : Txt K mg C_House C_Hall) (zh0z : Has P w K mg base 9 "hall_after" ["count", "against", "deeds"] (zsp0z C_House C_Hall)) (hm : mg "letters_after" = some (.ref f)) : Has P w K mg base 10 "letters_after" ["count", "against", "deeds"] (zsp0g C_House C_Hall) :=
 ⟨f, fd, F.ok zsc0g (by walk_at "q") (fun cdv A outer s H vs Q E hr h => ⟨_, zder0g (zsp0z C_House C_Hall) T zh0z hr, zrd0g T.hx h⟩), hm, F.kp, F.binds fun _ _ _ _ _ _ us hl => match us, hl with | [_,_,_], _ => rfl⟩
theorem zok0f {C_House : Addr} {C_Hall : Addr} {f : Addr} {fd : FuncData} (F : Fun K "_law_is_letter" "_law_is_letter" zs0f f fd) (T : Txt K mg C_House C_Hall) (zh14 : Has P w K mg base 1 "_law_whole" ["_law_found"] zsp14) (hm : mg "_law_is_letter" = some (.ref f)) : Has P w K mg base 2 "_law_is_letter" ["_law_found", "_law_count"] zsp0f :=
 ⟨f, fd, F.ok zsc0f (by walk_at "q") (fun cdv A outer s H vs Q E hr h => ⟨_, zder0f zsp14 T zh14 hr, zrd0f h⟩), hm, F.kp, F.binds fun _ _ _ _ _ _ us hl => match us, hl with | [_,_], _ => rfl⟩
theorem zok06 {C_House : Addr} {C_Hall : Addr} {f : Addr} {fd : FuncData} (F : Fun K "_law_are_letters" "_law_are_letters" zs06 f fd) (T : Txt K mg C_House C_Hall) (zh0f : Has P w K mg base 2 "_law_is_letter" ["_law_found", "_law_count"] zsp0f) (hm : mg "_law_are_letters" = some (.ref f)) : Has P w K mg base 3 "_law_are_letters" ["_law_found", "_law_count"] zsp06 :=
 ⟨f, fd, F.ok zsc06 (by walk_at "q") (fun cdv A outer s H vs Q E hr h => ⟨_, zder06 zsp0f T zh0f hr, zrd06 h⟩), hm, F.kp, F.binds fun _ _ _ _ _ _ us hl => match us, hl with | [_,_], _ => rfl⟩
theorem no_law_so {f : Addr} {fd : FuncData} (F : Fun K "_law_so" "_law_so" zs1h f fd) (hm : mg "_law_so" = some (.ref f)) : Has P w K mg base 1 "_law_so" ["_law_found", "_law_meant"] (spSub 0) :=
 ⟨f, fd, ⟨fun _ _ _ _ h => h.elim, fun _ _ _ _ _ _ _ _ _ _ _ _ _ h => h.elim⟩, hm, F.kp, F.binds fun _ _ _ _ _ _ us hl => match us, hl with | [_,_], _ => rfl⟩
theorem zok1h {C_House : Addr} {C_Hall : Addr} {f : Addr} {fd : FuncData} (F : Fun K "_law_so" "_law_so" zs1h f fd) (T : Txt K mg C_House C_Hall) (d lev : Nat) (zh1h : Has P w K mg base lev "_law_so" ["_law_found", "_law_meant"] (spSub d)) (hm : mg "_law_so" = some (.ref f)) : Has P w K mg base (lev + 1) "_law_so" ["_law_found", "_law_meant"] (zsp1h d) :=
 ⟨f, fd, F.ok zsc1h (by walk_at "q") (fun cdv A outer s H vs Q E hr h => ⟨_, zder1h (spSub d) T zh1h hr, zrd1h d h⟩), hm, F.kp, F.binds fun _ _ _ _ _ _ us hl => match us, hl with | [_,_], _ => rfl⟩
theorem zok0q {C_House : Addr} {C_Hall : Addr} {f : Addr} {fd : FuncData} (F : Fun K "_law_written" "_law_written" zs0q f fd) (T : Txt K mg C_House C_Hall) (zh14 : Has P w K mg base 1 "_law_whole" ["_law_found"] zsp14) (zh0s : Has P w K mg base 2 "_law_is_line" ["_law_found"] zsp0s) (zh1h : Has P w K mg base 4 "_law_so" ["_law_found", "_law_meant"] (zsp1h 2)) (zh0e : Has P w K mg base 3 "_law_are_lines" ["_law_found"] zsp0e) (hm : mg "_law_written" = some (.ref f)) : Has P w K mg base 5 "_law_written" ["_law_rows", "_law_deed", "_law_told", "_law_count", "_law_letters"] zsp0q :=
 ⟨f, fd, F.ok zsc0q (by walk_at "q") (fun cdv A outer s H vs Q E hr h => ⟨_, zder0q zsp14 zsp0s (zsp1h 2) zsp0e T zh14 zh0s zh1h zh0e hr, zrd0q h⟩), hm, F.kp, F.binds fun _ _ _ _ _ _ us hl => match us, hl with | [_,_,_,_,_], _ => rfl⟩
theorem zok1j {C_House : Addr} {C_Hall : Addr} {f : Addr} {fd : FuncData} (F : Fun K "law" "law" zs1j f fd) (T : Txt K mg C_House C_Hall) (zh1g : Has P w K mg base 1 "_law_at" ["_law_script", "_law_k"] (zsp1g K)) (zh02 : Has P w K mg base 2 "_law_pairs_against" ["_law_cell", "_law_count"] zsp02) (zh18 : Has P w K mg base 4 "_law_drawn" ["_law_cells", "_law_count"] (zsp18 (· ∈ allB))) (zh1d : Has P w K mg base 9 "answers" ["count", "against", "deeds"] (zsp1d C_House C_Hall)) (zh0p : Has P w K mg base 10 "books_after" ["count", "against", "deeds"] (zsp0p C_House C_Hall)) (zh0h : Has P w K mg base 4 "_law_are_books" ["_law_found", "_law_count"] zsp0h) (zh1c : Has P w K mg base 1 "_law_rest" ["_law_before", "_law_behind"] zsp1c) (zh0g : Has P w K mg base 10 "letters_after" ["count", "against", "deeds"] (zsp0g C_House C_Hall)) (zh06 : Has P w K mg base 3 "_law_are_letters" ["_law_found", "_law_count"] zsp06) (zh0q : Has P w K mg base 5 "_law_written" ["_law_rows", "_law_deed", "_law_told", "_law_count", "_law_letters"] zsp0q) : FnOk P w K mg base CX0 11 f fd ["_law_script"] (spLaw K) :=
 F.ok zsc1j (by walk_at "q") (fun cdv A outer s H vs Q E hr h => ⟨_, zder1j (zsp1g K) zsp02 (zsp18 (· ∈ allB)) (zsp1d C_House C_Hall) (zsp0p C_House C_Hall) zsp0h zsp1c (zsp0g C_House C_Hall) zsp06 zsp0q T zh1g zh02 zh18 zh1d zh0p zh0h zh1c zh0g zh06 zh0q hr, zrd1j h⟩)
end
theorem all_mk {l : PySem.W.OpenLaw} {w : World} {K : PySem.W.Frag} {h : Heap} {mg : Str → Option Value} {fa : Addr} {C_House : Addr} {C_Hall : Addr} (X : K.In h) (G : h.Ns mainGlobals mg) (hfa : mg "law" = some (.ref fa))
  {f0 : Addr} {od0 an0 : Option Addr} {sl0 : Array (Option Value)} {oc0 kV0 dc0 pm0 cd0 ct0 : Value}
  {f1 : Addr} {od1 an1 : Option Addr} {sl1 : Array (Option Value)} {oc1 kV1 dc1 pm1 cd1 ct1 : Value}
  {f2 : Addr} {od2 an2 : Option Addr} {sl2 : Array (Option Value)} {oc2 kV2 dc2 pm2 cd2 ct2 : Value}
  {f3 : Addr} {od3 an3 : Option Addr} {sl3 : Array (Option Value)} {oc3 kV3 dc3 pm3 cd3 ct3 : Value}
  {f4 : Addr} {od4 an4 : Option Addr} {sl4 : Array (Option Value)} {oc4 kV4 dc4 pm4 cd4 ct4 : Value}
  {f5 : Addr} {od5 an5 : Option Addr} {sl5 : Array (Option Value)} {oc5 kV5 dc5 pm5 cd5 ct5 : Value}
  {f6 : Addr} {od6 an6 : Option Addr} {sl6 : Array (Option Value)} {oc6 kV6 dc6 pm6 cd6 ct6 : Value}
  {f7 : Addr} {od7 an7 : Option Addr} {sl7 : Array (Option Value)} {oc7 kV7 dc7 pm7 cd7 ct7 : Value}
  {f8 : Addr} {od8 an8 : Option Addr} {sl8 : Array (Option Value)} {oc8 kV8 dc8 pm8 cd8 ct8 : Value}
  {f9 : Addr} {od9 an9 : Option Addr} {sl9 : Array (Option Value)} {oc9 kV9 dc9 pm9 cd9 ct9 : Value}
  {f10 : Addr} {od10 an10 : Option Addr} {sl10 : Array (Option Value)} {oc10 kV10 dc10 pm10 cd10 ct10 : Value}
  {f11 : Addr} {od11 an11 : Option Addr} {sl11 : Array (Option Value)} {oc11 kV11 dc11 pm11 cd11 ct11 : Value}
  {f12 : Addr} {od12 an12 : Option Addr} {sl12 : Array (Option Value)} {oc12 kV12 dc12 pm12 cd12 ct12 : Value}
  {f13 : Addr} {od13 an13 : Option Addr} {sl13 : Array (Option Value)} {oc13 kV13 dc13 pm13 cd13 ct13 : Value}
  {f14 : Addr} {od14 an14 : Option Addr} {sl14 : Array (Option Value)} {oc14 kV14 dc14 pm14 cd14 ct14 : Value}
  {f15 : Addr} {od15 an15 : Option Addr} {sl15 : Array (Option Value)} {oc15 kV15 dc15 pm15 cd15 ct15 : Value}
  {f16 : Addr} {od16 an16 : Option Addr} {sl16 : Array (Option Value)} {oc16 kV16 dc16 pm16 cd16 ct16 : Value}
  {f17 : Addr} {od17 an17 : Option Addr} {sl17 : Array (Option Value)} {oc17 kV17 dc17 pm17 cd17 ct17 : Value}
  {f18 : Addr} {od18 an18 : Option Addr} {sl18 : Array (Option Value)} {oc18 kV18 dc18 pm18 cd18 ct18 : Value}
  {f19 : Addr} {od19 an19 : Option Addr} {sl19 : Array (Option Value)} {oc19 kV19 dc19 pm19 cd19 ct19 : Value}
  {f20 : Addr} {od20 an20 : Option Addr} {sl20 : Array (Option Value)} {oc20 kV20 dc20 pm20 cd20 ct20 : Value}
  {f21 : Addr} {od21 an21 : Option Addr} {sl21 : Array (Option Value)} {oc21 kV21 dc21 pm21 cd21 ct21 : Value}
  {f22 : Addr} {od22 an22 : Option Addr} {sl22 : Array (Option Value)} {oc22 kV22 dc22 pm22 cd22 ct22 : Value}
  {f23 : Addr} {od23 an23 : Option Addr} {sl23 : Array (Option Value)} {oc23 kV23 dc23 pm23 cd23 ct23 : Value}
  {f24 : Addr} {od24 an24 : Option Addr} {sl24 : Array (Option Value)} {oc24 kV24 dc24 pm24 cd24 ct24 : Value}
  {f25 : Addr} {od25 an25 : Option Addr} {sl25 : Array (Option Value)} {oc25 kV25 dc25 pm25 cd25 ct25 : Value}
  {f26 : Addr} {od26 an26 : Option Addr} {sl26 : Array (Option Value)} {oc26 kV26 dc26 pm26 cd26 ct26 : Value}
  {f27 : Addr} {od27 an27 : Option Addr} {sl27 : Array (Option Value)} {oc27 kV27 dc27 pm27 cd27 ct27 : Value}
  {f28 : Addr} {od28 an28 : Option Addr} {sl28 : Array (Option Value)} {oc28 kV28 dc28 pm28 cd28 ct28 : Value}
  {f29 : Addr} {od29 an29 : Option Addr} {sl29 : Array (Option Value)} {oc29 kV29 dc29 pm29 cd29 ct29 : Value}
  {f30 : Addr} {od30 an30 : Option Addr} {sl30 : Array (Option Value)} {oc30 kV30 dc30 pm30 cd30 ct30 : Value}
  {f31 : Addr} {od31 an31 : Option Addr} {sl31 : Array (Option Value)} {oc31 kV31 dc31 pm31 cd31 ct31 : Value}
  {f32 : Addr} {od32 an32 : Option Addr} {sl32 : Array (Option Value)} {oc32 kV32 dc32 pm32 cd32 ct32 : Value}
  {f33 : Addr} {od33 an33 : Option Addr} {sl33 : Array (Option Value)} {oc33 kV33 dc33 pm33 cd33 ct33 : Value}
  {f34 : Addr} {od34 an34 : Option Addr} {sl34 : Array (Option Value)} {oc34 kV34 dc34 pm34 cd34 ct34 : Value}
  {f35 : Addr} {od35 an35 : Option Addr} {sl35 : Array (Option Value)} {oc35 kV35 dc35 pm35 cd35 ct35 : Value}
  {f36 : Addr} {od36 an36 : Option Addr} {sl36 : Array (Option Value)} {oc36 kV36 dc36 pm36 cd36 ct36 : Value}
  {f37 : Addr} {od37 an37 : Option Addr} {sl37 : Array (Option Value)} {oc37 kV37 dc37 pm37 cd37 ct37 : Value}
  {f38 : Addr} {od38 an38 : Option Addr} {sl38 : Array (Option Value)} {oc38 kV38 dc38 pm38 cd38 ct38 : Value}
  {f39 : Addr} {od39 an39 : Option Addr} {sl39 : Array (Option Value)} {oc39 kV39 dc39 pm39 cd39 ct39 : Value}
  {f40 : Addr} {od40 an40 : Option Addr} {sl40 : Array (Option Value)} {oc40 kV40 dc40 pm40 cd40 ct40 : Value}
  {f41 : Addr} {od41 an41 : Option Addr} {sl41 : Array (Option Value)} {oc41 kV41 dc41 pm41 cd41 ct41 : Value}
  {f42 : Addr} {od42 an42 : Option Addr} {sl42 : Array (Option Value)} {oc42 kV42 dc42 pm42 cd42 ct42 : Value}
  {f43 : Addr} {od43 an43 : Option Addr} {sl43 : Array (Option Value)} {oc43 kV43 dc43 pm43 cd43 ct43 : Value}
  {f44 : Addr} {od44 an44 : Option Addr} {sl44 : Array (Option Value)} {oc44 kV44 dc44 pm44 cd44 ct44 : Value}
  {f45 : Addr} {od45 an45 : Option Addr} {sl45 : Array (Option Value)} {oc45 kV45 dc45 pm45 cd45 ct45 : Value}
  {f46 : Addr} {od46 an46 : Option Addr} {sl46 : Array (Option Value)} {oc46 kV46 dc46 pm46 cd46 ct46 : Value}
  {f47 : Addr} {od47 an47 : Option Addr} {sl47 : Array (Option Value)} {oc47 kV47 dc47 pm47 cd47 ct47 : Value}
  {f48 : Addr} {od48 an48 : Option Addr} {sl48 : Array (Option Value)} {oc48 kV48 dc48 pm48 cd48 ct48 : Value}
  {f49 : Addr} {od49 an49 : Option Addr} {sl49 : Array (Option Value)} {oc49 kV49 dc49 pm49 cd49 ct49 : Value}
  {f50 : Addr} {od50 an50 : Option Addr} {sl50 : Array (Option Value)} {oc50 kV50 dc50 pm50 cd50 ct50 : Value}
  {f51 : Addr} {od51 an51 : Option Addr} {sl51 : Array (Option Value)} {oc51 kV51 dc51 pm51 cd51 ct51 : Value}
  {f52 : Addr} {od52 an52 : Option Addr} {sl52 : Array (Option Value)} {oc52 kV52 dc52 pm52 cd52 ct52 : Value}
  {f53 : Addr} {od53 an53 : Option Addr} {sl53 : Array (Option Value)} {oc53 kV53 dc53 pm53 cd53 ct53 : Value}
  {f54 : Addr} {od54 an54 : Option Addr} {sl54 : Array (Option Value)} {oc54 kV54 dc54 pm54 cd54 ct54 : Value}
  {f55 : Addr} {od55 an55 : Option Addr} {sl55 : Array (Option Value)} {oc55 kV55 dc55 pm55 cd55 ct55 : Value}
  (aC_House : PySem.W.nsIn K mainGlobals "House" = some (some (.ref C_House)))
  (aC_Hall : PySem.W.nsIn K mainGlobals "Hall" = some (some (.ref C_Hall)))
  (a0 : PySem.W.nsIn K mainGlobals "_law_at" = some (some (.ref f0)))
  (l0 : K.lookup f0 = some ⟨oc0, od0, .func (PySem.W.fnOf "_law_at" "_law_at" (defArgs zs1g) (defBody zs1g) (defScope zs1g) .none kV0 dc0 pm0 an0 cd0 ct0), sl0⟩) (c0 : PySem.W.codeIn K cd0 "_law_at" = true) (k0 : PySem.W.keepIn K (.ref f0) = true)
  (a1 : PySem.W.nsIn K mainGlobals "_law_all_bargains" = some (some (.ref f1)))
  (l1 : K.lookup f1 = some ⟨oc1, od1, .func (PySem.W.fnOf "_law_all_bargains" "_law_all_bargains" (defArgs zs05) (defBody zs05) (defScope zs05) .none kV1 dc1 pm1 an1 cd1 ct1), sl1⟩) (c1 : PySem.W.codeIn K cd1 "_law_all_bargains" = true) (k1 : PySem.W.keepIn K (.ref f1) = true)
  (a2 : PySem.W.nsIn K mainGlobals "_law_pairs_against" = some (some (.ref f2)))
  (l2 : K.lookup f2 = some ⟨oc2, od2, .func (PySem.W.fnOf "_law_pairs_against" "_law_pairs_against" (defArgs zs02) (defBody zs02) (defScope zs02) .none kV2 dc2 pm2 an2 cd2 ct2), sl2⟩) (c2 : PySem.W.codeIn K cd2 "_law_pairs_against" = true) (k2 : PySem.W.keepIn K (.ref f2) = true)
  (a3 : PySem.W.nsIn K mainGlobals "_law_bargain_of" = some (some (.ref f3)))
  (l3 : K.lookup f3 = some ⟨oc3, od3, .func (PySem.W.fnOf "_law_bargain_of" "_law_bargain_of" (defArgs zs0b) (defBody zs0b) (defScope zs0b) .none kV3 dc3 pm3 an3 cd3 ct3), sl3⟩) (c3 : PySem.W.codeIn K cd3 "_law_bargain_of" = true) (k3 : PySem.W.keepIn K (.ref f3) = true)
  (a4 : PySem.W.nsIn K mainGlobals "_law_deed_of" = some (some (.ref f4)))
  (l4 : K.lookup f4 = some ⟨oc4, od4, .func (PySem.W.fnOf "_law_deed_of" "_law_deed_of" (defArgs zs0m) (defBody zs0m) (defScope zs0m) .none kV4 dc4 pm4 an4 cd4 ct4), sl4⟩) (c4 : PySem.W.codeIn K cd4 "_law_deed_of" = true) (k4 : PySem.W.keepIn K (.ref f4) = true)
  (a5 : PySem.W.nsIn K mainGlobals "_law_drawn" = some (some (.ref f5)))
  (l5 : K.lookup f5 = some ⟨oc5, od5, .func (PySem.W.fnOf "_law_drawn" "_law_drawn" (defArgs zs18) (defBody zs18) (defScope zs18) .none kV5 dc5 pm5 an5 cd5 ct5), sl5⟩) (c5 : PySem.W.codeIn K cd5 "_law_drawn" = true) (k5 : PySem.W.keepIn K (.ref f5) = true)
  (a6 : PySem.W.nsIn K mainGlobals "words_of" = some (some (.ref f6)))
  (l6 : K.lookup f6 = some ⟨oc6, od6, .func (PySem.W.fnOf "words_of" "words_of" (defArgs zs1b) (defBody zs1b) (defScope zs1b) .none kV6 dc6 pm6 an6 cd6 ct6), sl6⟩) (c6 : PySem.W.codeIn K cd6 "words_of" = true) (k6 : PySem.W.keepIn K (.ref f6) = true)
  (a7 : PySem.W.nsIn K mainGlobals "knows" = some (some (.ref f7)))
  (l7 : K.lookup f7 = some ⟨oc7, od7, .func (PySem.W.fnOf "knows" "knows" (defArgs zs1i) (defBody zs1i) (defScope zs1i) .none kV7 dc7 pm7 an7 cd7 ct7), sl7⟩) (c7 : PySem.W.codeIn K cd7 "knows" = true) (k7 : PySem.W.keepIn K (.ref f7) = true)
  (a8 : PySem.W.findIn K (.ref C_House) "write" = some (some (.ref f8))) (i8 : PySem.W.isFn K (.ref f8) = true)
  (l8 : K.lookup f8 = some ⟨oc8, od8, .func (PySem.W.fnOf "write" "House.write" (defArgs zs0o) (defBody zs0o) (defScope zs0o) .none kV8 dc8 pm8 an8 cd8 ct8), sl8⟩) (c8 : PySem.W.codeIn K cd8 "House.write" = true) (k8 : PySem.W.keepIn K (.ref f8) = true)
  (a9 : PySem.W.findIn K (.ref C_House) "to_others" = some (some (.ref f9))) (i9 : PySem.W.isFn K (.ref f9) = true)
  (l9 : K.lookup f9 = some ⟨oc9, od9, .func (PySem.W.fnOf "to_others" "House.to_others" (defArgs zs07) (defBody zs07) (defScope zs07) .none kV9 dc9 pm9 an9 cd9 ct9), sl9⟩) (c9 : PySem.W.codeIn K cd9 "House.to_others" = true) (k9 : PySem.W.keepIn K (.ref f9) = true)
  (a10 : PySem.W.findIn K (.ref C_House) "begin" = some (some (.ref f10))) (i10 : PySem.W.isFn K (.ref f10) = true)
  (l10 : K.lookup f10 = some ⟨oc10, od10, .func (PySem.W.fnOf "begin" "House.begin" (defArgs zs0r) (defBody zs0r) (defScope zs0r) .none kV10 dc10 pm10 an10 cd10 ct10), sl10⟩) (c10 : PySem.W.codeIn K cd10 "House.begin" = true) (k10 : PySem.W.keepIn K (.ref f10) = true)
  (a11 : PySem.W.findIn K (.ref C_Hall) "send" = some (some (.ref f11))) (i11 : PySem.W.isFn K (.ref f11) = true)
  (l11 : K.lookup f11 = some ⟨oc11, od11, .func (PySem.W.fnOf "send" "Hall.send" (defArgs zs16) (defBody zs16) (defScope zs16) .none kV11 dc11 pm11 an11 cd11 ct11), sl11⟩) (c11 : PySem.W.codeIn K cd11 "Hall.send" = true) (k11 : PySem.W.keepIn K (.ref f11) = true)
  (a12 : PySem.W.findIn K (.ref C_House) "forget" = some (some (.ref f12))) (i12 : PySem.W.isFn K (.ref f12) = true)
  (l12 : K.lookup f12 = some ⟨oc12, od12, .func (PySem.W.fnOf "forget" "House.forget" (defArgs zs0j) (defBody zs0j) (defScope zs0j) .none kV12 dc12 pm12 an12 cd12 ct12), sl12⟩) (c12 : PySem.W.codeIn K cd12 "House.forget" = true) (k12 : PySem.W.keepIn K (.ref f12) = true)
  (a13 : PySem.W.findIn K (.ref C_House) "stop" = some (some (.ref f13))) (i13 : PySem.W.isFn K (.ref f13) = true)
  (l13 : K.lookup f13 = some ⟨oc13, od13, .func (PySem.W.fnOf "stop" "House.stop" (defArgs zs0y) (defBody zs0y) (defScope zs0y) .none kV13 dc13 pm13 an13 cd13 ct13), sl13⟩) (c13 : PySem.W.codeIn K cd13 "House.stop" = true) (k13 : PySem.W.keepIn K (.ref f13) = true)
  (a14 : PySem.W.findIn K (.ref C_Hall) "send_or_stop" = some (some (.ref f14))) (i14 : PySem.W.isFn K (.ref f14) = true)
  (l14 : K.lookup f14 = some ⟨oc14, od14, .func (PySem.W.fnOf "send_or_stop" "Hall.send_or_stop" (defArgs zs03) (defBody zs03) (defScope zs03) .none kV14 dc14 pm14 an14 cd14 ct14), sl14⟩) (c14 : PySem.W.codeIn K cd14 "Hall.send_or_stop" = true) (k14 : PySem.W.keepIn K (.ref f14) = true)
  (a15 : PySem.W.findIn K (.ref C_Hall) "begin" = some (some (.ref f15))) (i15 : PySem.W.isFn K (.ref f15) = true)
  (l15 : K.lookup f15 = some ⟨oc15, od15, .func (PySem.W.fnOf "begin" "Hall.begin" (defArgs zs0v) (defBody zs0v) (defScope zs0v) .none kV15 dc15 pm15 an15 cd15 ct15), sl15⟩) (c15 : PySem.W.codeIn K cd15 "Hall.begin" = true) (k15 : PySem.W.keepIn K (.ref f15) = true)
  (a16 : PySem.W.findIn K (.ref C_House) "page" = some (some (.ref f16))) (i16 : PySem.W.isFn K (.ref f16) = true)
  (l16 : K.lookup f16 = some ⟨oc16, od16, .func (PySem.W.fnOf "page" "House.page" (defArgs zs0x) (defBody zs0x) (defScope zs0x) .none kV16 dc16 pm16 an16 cd16 ct16), sl16⟩) (c16 : PySem.W.codeIn K cd16 "House.page" = true) (k16 : PySem.W.keepIn K (.ref f16) = true)
  (a17 : PySem.W.nsIn K mainGlobals "decision_in" = some (some (.ref f17)))
  (l17 : K.lookup f17 = some ⟨oc17, od17, .func (PySem.W.fnOf "decision_in" "decision_in" (defArgs zs0l) (defBody zs0l) (defScope zs0l) .none kV17 dc17 pm17 an17 cd17 ct17), sl17⟩) (c17 : PySem.W.codeIn K cd17 "decision_in" = true) (k17 : PySem.W.keepIn K (.ref f17) = true)
  (a18 : PySem.W.findIn K (.ref C_House) "decision" = some (some (.ref f18))) (i18 : PySem.W.isFn K (.ref f18) = true)
  (l18 : K.lookup f18 = some ⟨oc18, od18, .func (PySem.W.fnOf "decision" "House.decision" (defArgs zs0c) (defBody zs0c) (defScope zs0c) .none kV18 dc18 pm18 an18 cd18 ct18), sl18⟩) (c18 : PySem.W.codeIn K cd18 "House.decision" = true) (k18 : PySem.W.keepIn K (.ref f18) = true)
  (a19 : PySem.W.findIn K (.ref C_House) "to_one" = some (some (.ref f19))) (i19 : PySem.W.isFn K (.ref f19) = true)
  (l19 : K.lookup f19 = some ⟨oc19, od19, .func (PySem.W.fnOf "to_one" "House.to_one" (defArgs zs0k) (defBody zs0k) (defScope zs0k) .none kV19 dc19 pm19 an19 cd19 ct19), sl19⟩) (c19 : PySem.W.codeIn K cd19 "House.to_one" = true) (k19 : PySem.W.keepIn K (.ref f19) = true)
  (a20 : PySem.W.findIn K (.ref C_House) "got_ask" = some (some (.ref f20))) (i20 : PySem.W.isFn K (.ref f20) = true)
  (l20 : K.lookup f20 = some ⟨oc20, od20, .func (PySem.W.fnOf "got_ask" "House.got_ask" (defArgs zs0d) (defBody zs0d) (defScope zs0d) .none kV20 dc20 pm20 an20 cd20 ct20), sl20⟩) (c20 : PySem.W.codeIn K cd20 "House.got_ask" = true) (k20 : PySem.W.keepIn K (.ref f20) = true)
  (a21 : PySem.W.nsIn K mainGlobals "vote_in" = some (some (.ref f21)))
  (l21 : K.lookup f21 = some ⟨oc21, od21, .func (PySem.W.fnOf "vote_in" "vote_in" (defArgs zs1e) (defBody zs1e) (defScope zs1e) .none kV21 dc21 pm21 an21 cd21 ct21), sl21⟩) (c21 : PySem.W.codeIn K cd21 "vote_in" = true) (k21 : PySem.W.keepIn K (.ref f21) = true)
  (a22 : PySem.W.nsIn K mainGlobals "is_unsure" = some (some (.ref f22)))
  (l22 : K.lookup f22 = some ⟨oc22, od22, .func (PySem.W.fnOf "is_unsure" "is_unsure" (defArgs zs13) (defBody zs13) (defScope zs13) .none kV22 dc22 pm22 an22 cd22 ct22), sl22⟩) (c22 : PySem.W.codeIn K cd22 "is_unsure" = true) (k22 : PySem.W.keepIn K (.ref f22) = true)
  (a23 : PySem.W.findIn K (.ref C_House) "decide" = some (some (.ref f23))) (i23 : PySem.W.isFn K (.ref f23) = true)
  (l23 : K.lookup f23 = some ⟨oc23, od23, .func (PySem.W.fnOf "decide" "House.decide" (defArgs zs0i) (defBody zs0i) (defScope zs0i) .none kV23 dc23 pm23 an23 cd23 ct23), sl23⟩) (c23 : PySem.W.codeIn K cd23 "House.decide" = true) (k23 : PySem.W.keepIn K (.ref f23) = true)
  (a24 : PySem.W.findIn K (.ref C_House) "got_query" = some (some (.ref f24))) (i24 : PySem.W.isFn K (.ref f24) = true)
  (l24 : K.lookup f24 = some ⟨oc24, od24, .func (PySem.W.fnOf "got_query" "House.got_query" (defArgs zs08) (defBody zs08) (defScope zs08) .none kV24 dc24 pm24 an24 cd24 ct24), sl24⟩) (c24 : PySem.W.codeIn K cd24 "House.got_query" = true) (k24 : PySem.W.keepIn K (.ref f24) = true)
  (a25 : PySem.W.findIn K (.ref C_House) "got_vote" = some (some (.ref f25))) (i25 : PySem.W.isFn K (.ref f25) = true)
  (l25 : K.lookup f25 = some ⟨oc25, od25, .func (PySem.W.fnOf "got_vote" "House.got_vote" (defArgs zs09) (defBody zs09) (defScope zs09) .none kV25 dc25 pm25 an25 cd25 ct25), sl25⟩) (c25 : PySem.W.codeIn K cd25 "House.got_vote" = true) (k25 : PySem.W.keepIn K (.ref f25) = true)
  (a26 : PySem.W.findIn K (.ref C_House) "got_decision" = some (some (.ref f26))) (i26 : PySem.W.isFn K (.ref f26) = true)
  (l26 : K.lookup f26 = some ⟨oc26, od26, .func (PySem.W.fnOf "got_decision" "House.got_decision" (defArgs zs01) (defBody zs01) (defScope zs01) .none kV26 dc26 pm26 an26 cd26 ct26), sl26⟩) (c26 : PySem.W.codeIn K cd26 "House.got_decision" = true) (k26 : PySem.W.keepIn K (.ref f26) = true)
  (a27 : PySem.W.findIn K (.ref C_House) "got" = some (some (.ref f27))) (i27 : PySem.W.isFn K (.ref f27) = true)
  (l27 : K.lookup f27 = some ⟨oc27, od27, .func (PySem.W.fnOf "got" "House.got" (defArgs zs15) (defBody zs15) (defScope zs15) .none kV27 dc27 pm27 an27 cd27 ct27), sl27⟩) (c27 : PySem.W.codeIn K cd27 "House.got" = true) (k27 : PySem.W.keepIn K (.ref f27) = true)
  (a28 : PySem.W.findIn K (.ref C_Hall) "carry" = some (some (.ref f28))) (i28 : PySem.W.isFn K (.ref f28) = true)
  (l28 : K.lookup f28 = some ⟨oc28, od28, .func (PySem.W.fnOf "carry" "Hall.carry" (defArgs zs0t) (defBody zs0t) (defScope zs0t) .none kV28 dc28 pm28 an28 cd28 ct28), sl28⟩) (c28 : PySem.W.codeIn K cd28 "Hall.carry" = true) (k28 : PySem.W.keepIn K (.ref f28) = true)
  (a29 : PySem.W.findIn K (.ref C_House) "query" = some (some (.ref f29))) (i29 : PySem.W.isFn K (.ref f29) = true)
  (l29 : K.lookup f29 = some ⟨oc29, od29, .func (PySem.W.fnOf "query" "House.query" (defArgs zs0n) (defBody zs0n) (defScope zs0n) .none kV29 dc29 pm29 an29 cd29 ct29), sl29⟩) (c29 : PySem.W.codeIn K cd29 "House.query" = true) (k29 : PySem.W.keepIn K (.ref f29) = true)
  (a30 : PySem.W.findIn K (.ref C_Hall) "query" = some (some (.ref f30))) (i30 : PySem.W.isFn K (.ref f30) = true)
  (l30 : K.lookup f30 = some ⟨oc30, od30, .func (PySem.W.fnOf "query" "Hall.query" (defArgs zs10) (defBody zs10) (defScope zs10) .none kV30 dc30 pm30 an30 cd30 ct30), sl30⟩) (c30 : PySem.W.codeIn K cd30 "Hall.query" = true) (k30 : PySem.W.keepIn K (.ref f30) = true)
  (a31 : PySem.W.findIn K (.ref C_Hall) "stop" = some (some (.ref f31))) (i31 : PySem.W.isFn K (.ref f31) = true)
  (l31 : K.lookup f31 = some ⟨oc31, od31, .func (PySem.W.fnOf "stop" "Hall.stop" (defArgs zs19) (defBody zs19) (defScope zs19) .none kV31 dc31 pm31 an31 cd31 ct31), sl31⟩) (c31 : PySem.W.codeIn K cd31 "Hall.stop" = true) (k31 : PySem.W.keepIn K (.ref f31) = true)
  (a32 : PySem.W.nsIn K mainGlobals "left_open" = some (some (.ref f32)))
  (l32 : K.lookup f32 = some ⟨oc32, od32, .func (PySem.W.fnOf "left_open" "left_open" (defArgs zs17) (defBody zs17) (defScope zs17) .none kV32 dc32 pm32 an32 cd32 ct32), sl32⟩) (c32 : PySem.W.codeIn K cd32 "left_open" = true) (k32 : PySem.W.keepIn K (.ref f32) = true)
  (a33 : PySem.W.findIn K (.ref C_House) "wake" = some (some (.ref f33))) (i33 : PySem.W.isFn K (.ref f33) = true)
  (l33 : K.lookup f33 = some ⟨oc33, od33, .func (PySem.W.fnOf "wake" "House.wake" (defArgs zs0w) (defBody zs0w) (defScope zs0w) .none kV33 dc33 pm33 an33 cd33 ct33), sl33⟩) (c33 : PySem.W.codeIn K cd33 "House.wake" = true) (k33 : PySem.W.keepIn K (.ref f33) = true)
  (a34 : PySem.W.findIn K (.ref C_Hall) "wake" = some (some (.ref f34))) (i34 : PySem.W.isFn K (.ref f34) = true)
  (l34 : K.lookup f34 = some ⟨oc34, od34, .func (PySem.W.fnOf "wake" "Hall.wake" (defArgs zs1a) (defBody zs1a) (defScope zs1a) .none kV34 dc34 pm34 an34 cd34 ct34), sl34⟩) (c34 : PySem.W.codeIn K cd34 "Hall.wake" = true) (k34 : PySem.W.keepIn K (.ref f34) = true)
  (a35 : PySem.W.findIn K (.ref C_House) "is_spent" = some (some (.ref f35))) (i35 : PySem.W.isFn K (.ref f35) = true)
  (l35 : K.lookup f35 = some ⟨oc35, od35, .func (PySem.W.fnOf "is_spent" "House.is_spent" (defArgs zs0a) (defBody zs0a) (defScope zs0a) .none kV35 dc35 pm35 an35 cd35 ct35), sl35⟩) (c35 : PySem.W.codeIn K cd35 "House.is_spent" = true) (k35 : PySem.W.keepIn K (.ref f35) = true)
  (a36 : PySem.W.findIn K (.ref C_Hall) "is_spent_letter" = some (some (.ref f36))) (i36 : PySem.W.isFn K (.ref f36) = true)
  (l36 : K.lookup f36 = some ⟨oc36, od36, .func (PySem.W.fnOf "is_spent_letter" "Hall.is_spent_letter" (defArgs zs00) (defBody zs00) (defScope zs00) .none kV36 dc36 pm36 an36 cd36 ct36), sl36⟩) (c36 : PySem.W.codeIn K cd36 "Hall.is_spent_letter" = true) (k36 : PySem.W.keepIn K (.ref f36) = true)
  (a37 : PySem.W.findIn K (.ref C_Hall) "sweep" = some (some (.ref f37))) (i37 : PySem.W.isFn K (.ref f37) = true)
  (l37 : K.lookup f37 = some ⟨oc37, od37, .func (PySem.W.fnOf "sweep" "Hall.sweep" (defArgs zs0u) (defBody zs0u) (defScope zs0u) .none kV37 dc37 pm37 an37 cd37 ct37), sl37⟩) (c37 : PySem.W.codeIn K cd37 "Hall.sweep" = true) (k37 : PySem.W.keepIn K (.ref f37) = true)
  (a38 : PySem.W.findIn K (.ref C_Hall) "do" = some (some (.ref f38))) (i38 : PySem.W.isFn K (.ref f38) = true)
  (l38 : K.lookup f38 = some ⟨oc38, od38, .func (PySem.W.fnOf "do" "Hall.do" (defArgs zs1f) (defBody zs1f) (defScope zs1f) .none kV38 dc38 pm38 an38 cd38 ct38), sl38⟩) (c38 : PySem.W.codeIn K cd38 "Hall.do" = true) (k38 : PySem.W.keepIn K (.ref f38) = true)
  (a39 : PySem.W.nsIn K mainGlobals "bargains_against" = some (some (.ref f39)))
  (l39 : K.lookup f39 = some ⟨oc39, od39, .func (PySem.W.fnOf "bargains_against" "bargains_against" (defArgs zs04) (defBody zs04) (defScope zs04) .none kV39 dc39 pm39 an39 cd39 ct39), sl39⟩) (c39 : PySem.W.codeIn K cd39 "bargains_against" = true) (k39 : PySem.W.keepIn K (.ref f39) = true)
  (a40 : PySem.W.findIn K (.ref C_House) "__init__" = some (some (.ref f40))) (i40 : PySem.W.isFn K (.ref f40) = true)
  (l40 : K.lookup f40 = some ⟨oc40, od40, .func (PySem.W.fnOf "__init__" "House.__init__" (defArgs zs11) (defBody zs11) (defScope zs11) .none kV40 dc40 pm40 an40 cd40 ct40), sl40⟩) (c40 : PySem.W.codeIn K cd40 "House.__init__" = true) (k40 : PySem.W.keepIn K (.ref f40) = true)
  (a41 : PySem.W.findIn K (.ref C_Hall) "__init__" = some (some (.ref f41))) (i41 : PySem.W.isFn K (.ref f41) = true)
  (l41 : K.lookup f41 = some ⟨oc41, od41, .func (PySem.W.fnOf "__init__" "Hall.__init__" (defArgs zs12) (defBody zs12) (defScope zs12) .none kV41 dc41 pm41 an41 cd41 ct41), sl41⟩) (c41 : PySem.W.codeIn K cd41 "Hall.__init__" = true) (k41 : PySem.W.keepIn K (.ref f41) = true)
  (a42 : PySem.W.nsIn K mainGlobals "answers" = some (some (.ref f42)))
  (l42 : K.lookup f42 = some ⟨oc42, od42, .func (PySem.W.fnOf "answers" "answers" (defArgs zs1d) (defBody zs1d) (defScope zs1d) .none kV42 dc42 pm42 an42 cd42 ct42), sl42⟩) (c42 : PySem.W.codeIn K cd42 "answers" = true) (k42 : PySem.W.keepIn K (.ref f42) = true)
  (a43 : PySem.W.nsIn K mainGlobals "hall_after" = some (some (.ref f43)))
  (l43 : K.lookup f43 = some ⟨oc43, od43, .func (PySem.W.fnOf "hall_after" "hall_after" (defArgs zs0z) (defBody zs0z) (defScope zs0z) .none kV43 dc43 pm43 an43 cd43 ct43), sl43⟩) (c43 : PySem.W.codeIn K cd43 "hall_after" = true) (k43 : PySem.W.keepIn K (.ref f43) = true)
  (a44 : PySem.W.nsIn K mainGlobals "books_after" = some (some (.ref f44)))
  (l44 : K.lookup f44 = some ⟨oc44, od44, .func (PySem.W.fnOf "books_after" "books_after" (defArgs zs0p) (defBody zs0p) (defScope zs0p) .none kV44 dc44 pm44 an44 cd44 ct44), sl44⟩) (c44 : PySem.W.codeIn K cd44 "books_after" = true) (k44 : PySem.W.keepIn K (.ref f44) = true)
  (a45 : PySem.W.nsIn K mainGlobals "_law_whole" = some (some (.ref f45)))
  (l45 : K.lookup f45 = some ⟨oc45, od45, .func (PySem.W.fnOf "_law_whole" "_law_whole" (defArgs zs14) (defBody zs14) (defScope zs14) .none kV45 dc45 pm45 an45 cd45 ct45), sl45⟩) (c45 : PySem.W.codeIn K cd45 "_law_whole" = true) (k45 : PySem.W.keepIn K (.ref f45) = true)
  (a46 : PySem.W.nsIn K mainGlobals "_law_is_line" = some (some (.ref f46)))
  (l46 : K.lookup f46 = some ⟨oc46, od46, .func (PySem.W.fnOf "_law_is_line" "_law_is_line" (defArgs zs0s) (defBody zs0s) (defScope zs0s) .none kV46 dc46 pm46 an46 cd46 ct46), sl46⟩) (c46 : PySem.W.codeIn K cd46 "_law_is_line" = true) (k46 : PySem.W.keepIn K (.ref f46) = true)
  (a47 : PySem.W.nsIn K mainGlobals "_law_are_lines" = some (some (.ref f47)))
  (l47 : K.lookup f47 = some ⟨oc47, od47, .func (PySem.W.fnOf "_law_are_lines" "_law_are_lines" (defArgs zs0e) (defBody zs0e) (defScope zs0e) .none kV47 dc47 pm47 an47 cd47 ct47), sl47⟩) (c47 : PySem.W.codeIn K cd47 "_law_are_lines" = true) (k47 : PySem.W.keepIn K (.ref f47) = true)
  (a48 : PySem.W.nsIn K mainGlobals "_law_are_books" = some (some (.ref f48)))
  (l48 : K.lookup f48 = some ⟨oc48, od48, .func (PySem.W.fnOf "_law_are_books" "_law_are_books" (defArgs zs0h) (defBody zs0h) (defScope zs0h) .none kV48 dc48 pm48 an48 cd48 ct48), sl48⟩) (c48 : PySem.W.codeIn K cd48 "_law_are_books" = true) (k48 : PySem.W.keepIn K (.ref f48) = true)
  (a49 : PySem.W.nsIn K mainGlobals "_law_rest" = some (some (.ref f49)))
  (l49 : K.lookup f49 = some ⟨oc49, od49, .func (PySem.W.fnOf "_law_rest" "_law_rest" (defArgs zs1c) (defBody zs1c) (defScope zs1c) .none kV49 dc49 pm49 an49 cd49 ct49), sl49⟩) (c49 : PySem.W.codeIn K cd49 "_law_rest" = true) (k49 : PySem.W.keepIn K (.ref f49) = true)
  (a50 : PySem.W.nsIn K mainGlobals "letters_after" = some (some (.ref f50)))
  (l50 : K.lookup f50 = some ⟨oc50, od50, .func (PySem.W.fnOf "letters_after" "letters_after" (defArgs zs0g) (defBody zs0g) (defScope zs0g) .none kV50 dc50 pm50 an50 cd50 ct50), sl50⟩) (c50 : PySem.W.codeIn K cd50 "letters_after" = true) (k50 : PySem.W.keepIn K (.ref f50) = true)
  (a51 : PySem.W.nsIn K mainGlobals "_law_is_letter" = some (some (.ref f51)))
  (l51 : K.lookup f51 = some ⟨oc51, od51, .func (PySem.W.fnOf "_law_is_letter" "_law_is_letter" (defArgs zs0f) (defBody zs0f) (defScope zs0f) .none kV51 dc51 pm51 an51 cd51 ct51), sl51⟩) (c51 : PySem.W.codeIn K cd51 "_law_is_letter" = true) (k51 : PySem.W.keepIn K (.ref f51) = true)
  (a52 : PySem.W.nsIn K mainGlobals "_law_are_letters" = some (some (.ref f52)))
  (l52 : K.lookup f52 = some ⟨oc52, od52, .func (PySem.W.fnOf "_law_are_letters" "_law_are_letters" (defArgs zs06) (defBody zs06) (defScope zs06) .none kV52 dc52 pm52 an52 cd52 ct52), sl52⟩) (c52 : PySem.W.codeIn K cd52 "_law_are_letters" = true) (k52 : PySem.W.keepIn K (.ref f52) = true)
  (a53 : PySem.W.nsIn K mainGlobals "_law_so" = some (some (.ref f53)))
  (l53 : K.lookup f53 = some ⟨oc53, od53, .func (PySem.W.fnOf "_law_so" "_law_so" (defArgs zs1h) (defBody zs1h) (defScope zs1h) .none kV53 dc53 pm53 an53 cd53 ct53), sl53⟩) (c53 : PySem.W.codeIn K cd53 "_law_so" = true) (k53 : PySem.W.keepIn K (.ref f53) = true)
  (a54 : PySem.W.nsIn K mainGlobals "_law_written" = some (some (.ref f54)))
  (l54 : K.lookup f54 = some ⟨oc54, od54, .func (PySem.W.fnOf "_law_written" "_law_written" (defArgs zs0q) (defBody zs0q) (defScope zs0q) .none kV54 dc54 pm54 an54 cd54 ct54), sl54⟩) (c54 : PySem.W.codeIn K cd54 "_law_written" = true) (k54 : PySem.W.keepIn K (.ref f54) = true)
  (a55 : PySem.W.nsIn K mainGlobals "law" = some (some (.ref f55)))
  (l55 : K.lookup f55 = some ⟨oc55, od55, .func (PySem.W.fnOf "law" "law" (defArgs zs1j) (defBody zs1j) (defScope zs1j) .none kV55 dc55 pm55 an55 cd55 ct55), sl55⟩) (c55 : PySem.W.codeIn K cd55 "law" = true) (k55 : PySem.W.keepIn K (.ref f55) = true)
  (z_bool : PySem.W.nsIn K mainGlobals "bool" = some none)
  (z_dict : PySem.W.nsIn K mainGlobals "dict" = some none)
  (z_int : PySem.W.nsIn K mainGlobals "int" = some none)
  (z_isinstance : PySem.W.nsIn K mainGlobals "isinstance" = some none)
  (z_len : PySem.W.nsIn K mainGlobals "len" = some none)
  (z_list : PySem.W.nsIn K mainGlobals "list" = some none)
  (z_range : PySem.W.nsIn K mainGlobals "range" = some none)
  (z_str : PySem.W.nsIn K mainGlobals "str" = some none)
  (z_sum : PySem.W.nsIn K mainGlobals "sum" = some none)
  (z_tuple : PySem.W.nsIn K mainGlobals "tuple" = some none)
  (pg_House : PySem.W.plainGet K C_House Str.empty = true) (hd_House : PySem.W.hasDictIn K C_House = true) (po_House : PySem.W.plainOver K C_House = true) (sa_House : PySem.W.findIn K (.ref C_House) "__setattr__" = some (some (.builtin "object.__setattr__"))) (mk_House : PySem.W.makesIn K C_House = true) (kc_House : PySem.W.keepIn K (.ref C_House) = true)
  (n_House_against : PySem.W.findIn K (.ref C_House) "against" = some none)
  (n_House_awake : PySem.W.findIn K (.ref C_House) "awake" = some none)
  (n_House_book : PySem.W.findIn K (.ref C_House) "book" = some none)
  (n_House_counted : PySem.W.findIn K (.ref C_House) "counted" = some none)
  (n_House_lines_read : PySem.W.findIn K (.ref C_House) "lines_read" = some none)
  (n_House_number : PySem.W.findIn K (.ref C_House) "number" = some none)
  (n_House_others : PySem.W.findIn K (.ref C_House) "others" = some none)
  (n_House_pages : PySem.W.findIn K (.ref C_House) "pages" = some none)
  (pg_Hall : PySem.W.plainGet K C_Hall Str.empty = true) (hd_Hall : PySem.W.hasDictIn K C_Hall = true) (po_Hall : PySem.W.plainOver K C_Hall = true) (sa_Hall : PySem.W.findIn K (.ref C_Hall) "__setattr__" = some (some (.builtin "object.__setattr__"))) (mk_Hall : PySem.W.makesIn K C_Hall = true) (kc_Hall : PySem.W.keepIn K (.ref C_Hall) = true)
  (n_Hall_houses : PySem.W.findIn K (.ref C_Hall) "houses" = some none)
  (n_Hall_letters : PySem.W.findIn K (.ref C_Hall) "letters" = some none)
  (n_Hall_unspent : PySem.W.findIn K (.ref C_Hall) "unspent" = some none) :
  ∃ fd : FuncData, (∀ (s : Shared) (v : Value), BindsTo s fd ⟨[v], []⟩ [("_law_script", v)]) ∧ ∀ base : Heap, K.In base → base.Ns mainGlobals mg → FnOk l.prog w K mg base CX0 11 fa fd ["_law_script"] (spLaw K) := by
 have e := hfa.symm.trans (PySem.W.mg_of X G a55)
 cases e
 have T : Txt K mg C_House C_Hall := ⟨trivial, PySem.W.mg_none_of X G z_bool, PySem.W.mg_none_of X G z_dict, PySem.W.mg_none_of X G z_int, PySem.W.mg_none_of X G z_isinstance, PySem.W.mg_none_of X G z_len, PySem.W.mg_none_of X G z_list, PySem.W.mg_none_of X G z_range, PySem.W.mg_none_of X G z_str, PySem.W.mg_none_of X G z_sum, PySem.W.mg_none_of X G z_tuple, ⟨pg_House, hd_House, po_House, sa_House⟩, PySem.W.mg_of X G aC_House, n_House_against, n_House_awake, n_House_book, n_House_counted, n_House_lines_read, n_House_number, n_House_others, n_House_pages, ⟨pg_Hall, hd_Hall, po_Hall, sa_Hall⟩, PySem.W.mg_of X G aC_Hall, n_Hall_houses, n_Hall_letters, n_Hall_unspent⟩
 have F0 := fun_mk (st := zs1g) l0 c0 k0
 have F1 := fun_mk (st := zs05) l1 c1 k1
 have F2 := fun_mk (st := zs02) l2 c2 k2
 have F3 := fun_mk (st := zs0b) l3 c3 k3
 have F4 := fun_mk (st := zs0m) l4 c4 k4
 have F5 := fun_mk (st := zs18) l5 c5 k5
 have F6 := fun_mk (st := zs1b) l6 c6 k6
 have F7 := fun_mk (st := zs1i) l7 c7 k7
 have F8 := fun_mk (st := zs0o) l8 c8 k8
 have F9 := fun_mk (st := zs07) l9 c9 k9
 have F10 := fun_mk (st := zs0r) l10 c10 k10
 have F11 := fun_mk (st := zs16) l11 c11 k11
 have F12 := fun_mk (st := zs0j) l12 c12 k12
 have F13 := fun_mk (st := zs0y) l13 c13 k13
 have F14 := fun_mk (st := zs03) l14 c14 k14
 have F15 := fun_mk (st := zs0v) l15 c15 k15
 have F16 := fun_mk (st := zs0x) l16 c16 k16
 have F17 := fun_mk (st := zs0l) l17 c17 k17
 have F18 := fun_mk (st := zs0c) l18 c18 k18
 have F19 := fun_mk (st := zs0k) l19 c19 k19
 have F20 := fun_mk (st := zs0d) l20 c20 k20
 have F21 := fun_mk (st := zs1e) l21 c21 k21
 have F22 := fun_mk (st := zs13) l22 c22 k22
 have F23 := fun_mk (st := zs0i) l23 c23 k23
 have F24 := fun_mk (st := zs08) l24 c24 k24
 have F25 := fun_mk (st := zs09) l25 c25 k25
 have F26 := fun_mk (st := zs01) l26 c26 k26
 have F27 := fun_mk (st := zs15) l27 c27 k27
 have F28 := fun_mk (st := zs0t) l28 c28 k28
 have F29 := fun_mk (st := zs0n) l29 c29 k29
 have F30 := fun_mk (st := zs10) l30 c30 k30
 have F31 := fun_mk (st := zs19) l31 c31 k31
 have F32 := fun_mk (st := zs17) l32 c32 k32
 have F33 := fun_mk (st := zs0w) l33 c33 k33
 have F34 := fun_mk (st := zs1a) l34 c34 k34
 have F35 := fun_mk (st := zs0a) l35 c35 k35
 have F36 := fun_mk (st := zs00) l36 c36 k36
 have F37 := fun_mk (st := zs0u) l37 c37 k37
 have F38 := fun_mk (st := zs1f) l38 c38 k38
 have F39 := fun_mk (st := zs04) l39 c39 k39
 have F40 := fun_mk (st := zs11) l40 c40 k40
 have F41 := fun_mk (st := zs12) l41 c41 k41
 have F42 := fun_mk (st := zs1d) l42 c42 k42
 have F43 := fun_mk (st := zs0z) l43 c43 k43
 have F44 := fun_mk (st := zs0p) l44 c44 k44
 have F45 := fun_mk (st := zs14) l45 c45 k45
 have F46 := fun_mk (st := zs0s) l46 c46 k46
 have F47 := fun_mk (st := zs0e) l47 c47 k47
 have F48 := fun_mk (st := zs0h) l48 c48 k48
 have F49 := fun_mk (st := zs1c) l49 c49 k49
 have F50 := fun_mk (st := zs0g) l50 c50 k50
 have F51 := fun_mk (st := zs0f) l51 c51 k51
 have F52 := fun_mk (st := zs06) l52 c52 k52
 have F53 := fun_mk (st := zs1h) l53 c53 k53
 have F54 := fun_mk (st := zs0q) l54 c54 k54
 have F55 := fun_mk (st := zs1j) l55 c55 k55
 refine ⟨PySem.W.fnOf "law" "law" (defArgs zs1j) (defBody zs1j) (defScope zs1j) .none kV55 dc55 pm55 an55 cd55 ct55, fun s v => .of_eq rfl, fun base _ _ => ?_⟩
 have zh1g := zok1g (P := l.prog) (w := w) (base := base) F0 T  (PySem.W.mg_of X G a0)
 have zh05 := zok05 (P := l.prog) (w := w) (base := base) F1 T  (PySem.W.mg_of X G a1)
 have zh02 := zok02 (P := l.prog) (w := w) (base := base) F2 T zh05 (PySem.W.mg_of X G a2)
 have zh0b := zok0b (P := l.prog) (w := w) (base := base) F3 T zh05 (PySem.W.mg_of X G a3)
 have zh0m := zok0m (P := l.prog) (w := w) (base := base) F4 T zh0b (PySem.W.mg_of X G a4)
 have zh18 := zok18 (P := l.prog) (w := w) (base := base) F5 T zh0m (PySem.W.mg_of X G a5)
 have zh1b := zok1b (P := l.prog) (w := w) (base := base) F6 T  (PySem.W.mg_of X G a6)
 have zh1i := zok1i (P := l.prog) (w := w) (base := base) F7 T zh1b (PySem.W.mg_of X G a7)
 have zh0o := zok0o (P := l.prog) (w := w) (base := base) F8 T  ⟨a8, i8, k8⟩
 have zh07 := zok07 (P := l.prog) (w := w) (base := base) F9 T  ⟨a9, i9, k9⟩
 have zh0r := zok0r (P := l.prog) (w := w) (base := base) F10 T zh0o zh07 ⟨a10, i10, k10⟩
 have zh16 := zok16 (P := l.prog) (w := w) (base := base) F11 T  ⟨a11, i11, k11⟩
 have zh0j := zok0j (P := l.prog) (w := w) (base := base) F12 T  ⟨a12, i12, k12⟩
 have zh0y := zok0y (P := l.prog) (w := w) (base := base) F13 T zh0j ⟨a13, i13, k13⟩
 have zh03 := zok03 (P := l.prog) (w := w) (base := base) F14 T zh16 zh0y ⟨a14, i14, k14⟩
 have zh0v := zok0v (P := l.prog) (w := w) (base := base) F15 T zh1i zh0r zh03 ⟨a15, i15, k15⟩
 have zh0x := zok0x (P := l.prog) (w := w) (base := base) F16 T  ⟨a16, i16, k16⟩
 have zh0l := zok0l (P := l.prog) (w := w) (base := base) F17 T zh1b (PySem.W.mg_of X G a17)
 have zh0c := zok0c (P := l.prog) (w := w) (base := base) F18 T zh0l zh0x ⟨a18, i18, k18⟩
 have zh0k := zok0k (P := l.prog) (w := w) (base := base) F19 T  ⟨a19, i19, k19⟩
 have zh0d := zok0d (P := l.prog) (w := w) (base := base) F20 T zh1i zh0x zh0o zh0c zh0k ⟨a20, i20, k20⟩
 have zh1e := zok1e (P := l.prog) (w := w) (base := base) F21 T zh1b (PySem.W.mg_of X G a21)
 have zh13 := zok13 (P := l.prog) (w := w) (base := base) F22 T zh1e zh0l (PySem.W.mg_of X G a22)
 have zh0i := zok0i (P := l.prog) (w := w) (base := base) F23 T zh0o zh07 ⟨a23, i23, k23⟩
 have zh08 := zok08 (P := l.prog) (w := w) (base := base) F24 T zh13 zh1i zh0x zh0c zh0k zh0i zh0o ⟨a24, i24, k24⟩
 have zh09 := zok09 (P := l.prog) (w := w) (base := base) F25 T zh0c zh0k zh0i ⟨a25, i25, k25⟩
 have zh01 := zok01 (P := l.prog) (w := w) (base := base) F26 T zh0c zh0o ⟨a26, i26, k26⟩
 have zh15 := zok15 (P := l.prog) (w := w) (base := base) F27 T zh0d zh08 zh09 zh01 ⟨a27, i27, k27⟩
 have zh0t := zok0t (P := l.prog) (w := w) (base := base) F28 T zh15 zh03 ⟨a28, i28, k28⟩
 have zh0n := zok0n (P := l.prog) (w := w) (base := base) F29 T zh13 zh0x zh07 ⟨a29, i29, k29⟩
 have zh10 := zok10 (P := l.prog) (w := w) (base := base) F30 T zh0n zh16 ⟨a30, i30, k30⟩
 have zh19 := zok19 (P := l.prog) (w := w) (base := base) F31 T zh0y ⟨a31, i31, k31⟩
 have zh17 := zok17 (P := l.prog) (w := w) (base := base) F32 T zh0l (PySem.W.mg_of X G a32)
 have zh0w := zok0w (P := l.prog) (w := w) (base := base) F33 T zh17 zh0i ⟨a33, i33, k33⟩
 have zh1a := zok1a (P := l.prog) (w := w) (base := base) F34 T zh0w zh16 ⟨a34, i34, k34⟩
 have zh0a := zok0a (P := l.prog) (w := w) (base := base) F35 T zh0c ⟨a35, i35, k35⟩
 have zh00 := zok00 (P := l.prog) (w := w) (base := base) F36 T zh0a ⟨a36, i36, k36⟩
 have zh0u := zok0u (P := l.prog) (w := w) (base := base) F37 T zh0t zh00 ⟨a37, i37, k37⟩
 have zh1f := zok1f (P := l.prog) (w := w) (base := base) F38 T zh0v zh0t zh10 zh19 zh1a zh0u ⟨a38, i38, k38⟩
 have zh04 := zok04 (P := l.prog) (w := w) (base := base) F39 T  (PySem.W.mg_of X G a39)
 have zh11 := zok11 (P := l.prog) (w := w) (base := base) F40 T zh0j ⟨mk_House, a40, i40, kc_House⟩
 have zh12 := zok12 (P := l.prog) (w := w) (base := base) F41 T zh04 zh11 ⟨mk_Hall, a41, i41, kc_Hall⟩
 have zh1d := zok1d (P := l.prog) (w := w) (base := base) F42 T zh1f zh12 (PySem.W.mg_of X G a42)
 have zh0z := zok0z (P := l.prog) (w := w) (base := base) F43 T zh1f zh12 (PySem.W.mg_of X G a43)
 have zh0p := zok0p (P := l.prog) (w := w) (base := base) F44 T zh0z (PySem.W.mg_of X G a44)
 have zh14 := zok14 (P := l.prog) (w := w) (base := base) F45 T  (PySem.W.mg_of X G a45)
 have zh0s := zok0s (P := l.prog) (w := w) (base := base) F46 T zh14 (PySem.W.mg_of X G a46)
 have zh0e := zok0e (P := l.prog) (w := w) (base := base) F47 T zh0s (PySem.W.mg_of X G a47)
 have zh0h := zok0h (P := l.prog) (w := w) (base := base) F48 T zh0e (PySem.W.mg_of X G a48)
 have zh1c := zok1c (P := l.prog) (w := w) (base := base) F49 T  (PySem.W.mg_of X G a49)
 have zh0g := zok0g (P := l.prog) (w := w) (base := base) F50 T zh0z (PySem.W.mg_of X G a50)
 have zh0f := zok0f (P := l.prog) (w := w) (base := base) F51 T zh14 (PySem.W.mg_of X G a51)
 have zh06 := zok06 (P := l.prog) (w := w) (base := base) F52 T zh0f (PySem.W.mg_of X G a52)
 have zh1h := zok1h F53 T 2 3 (zok1h F53 T 1 2 (zok1h F53 T 0 1 (no_law_so (P := l.prog) (w := w) (base := base) F53 (PySem.W.mg_of X G a53)) (PySem.W.mg_of X G a53)) (PySem.W.mg_of X G a53)) (PySem.W.mg_of X G a53)
 have zh0q := zok0q (P := l.prog) (w := w) (base := base) F54 T zh14 zh0s zh1h zh0e (PySem.W.mg_of X G a54)
 exact zok1j F55 T zh1g zh02 zh18 zh1d zh0p zh0h zh1c zh0g zh06 zh0q
theorem walk {l : PySem.W.OpenLaw} {q : Program} {loose : List Str} {XP : (Str → Option Value) → Heap → Prop} {YP : World → Heap → Prop} {d : DefRec} {K : Params → PySem.W.Frag} (hn : l.most = some 63) (hdf : d.params.defaults = [])
  (hY : ∀ (w : World) (h : Heap), YP w h → (K w.params).In h)
  (F : ∀ (w : World) (mg : Str → Option Value) (fa : Addr) (h : Heap), (K w.params).In h → h.Ns mainGlobals mg → mg d.name = some (.ref fa) →
   ∃ fd : FuncData, (∀ (s : Shared) (u : Value), BindsTo s fd ⟨[u], []⟩ [("_law_script", u)]) ∧ ∀ base : Heap, (K w.params).In base → base.Ns mainGlobals mg → FnOk l.prog w (K w.params) mg base CX0 11 fa fd ["_law_script"] (spLaw (K w.params))) :
  PySem.W.WalkO q loose XP YP l.row.toRowW d [] (fun f vs => PySem.call f vs) :=
 L2.walk_of (n := 63) (k := 11) (x := "_law_script") (CX := fun _ => CX0) (sp := fun w => spLaw (K w.params)) hn (by decide) hdf ⟨rfl, by decide, by decide⟩ hY F (fun _ _ a ns hl _ hS => ⟨a, ns, rfl, hS, hl, fun _ => rfl⟩) fun _ _ _ _ _ z => z
end Oh
def PySem.W.Fast.tw6653228509646414181 : Nat := 0
def PySem.W.Fast.tw17278741761069096576 : Nat := 0
def PySem.W.Fast.tw16366791892799394259 : Nat := 0
def PySem.W.Fast.tw8257958500068075273 : Nat := 0
def PySem.W.Fast.tw1543883958436741627 : Nat := 0
def PySem.W.Fast.tw11067326664282572668 : Nat := 0
def PySem.W.Fast.tw5771309422829342154 : Nat := 0
def PySem.W.Fast.tw9567264289797588183 : Nat := 0
def PySem.W.Fast.tw8816951102214372290 : Nat := 0
def PySem.W.Fast.tw9984830035472066862 : Nat := 0
open PySem PySem.W PyProof.Rows
set_option maxRecDepth 100000 in
set_option maxHeartbeats 0 in
theorem PySem.Challenge.cw_oathhall_k11_whole_books_stand_holds : PySem.Challenge.rw_oathhall_k11_whole_books_stand.Holds := by
 w_on; o_law; k_head; (case hw => w_witness2)
 k_fill
 refine Oh.walk (l := PySem.Challenge.rw_oathhall_k11_whole_books_stand) rfl rfl (fun w h Y => PySem.W.kIn_of Y) ?F
 case F =>
  intro w mg fa h KX G hmg
  refine' Oh.all_mk KX G hmg ?_ ?_ ?_ ?_ ?_ ?_ ?_ ?_ ?_ ?_ ?_ ?_ ?_ ?_ ?_ ?_ ?_ ?_ ?_ ?_ ?_ ?_ ?_ ?_ ?_ ?_ ?_ ?_ ?_ ?_ ?_ ?_ ?_ ?_ ?_ ?_ ?_ ?_ ?_ ?_ ?_ ?_ ?_ ?_ ?_ ?_ ?_ ?_ ?_ ?_ ?_ ?_ ?_ ?_ ?_ ?_ ?_ ?_ ?_ ?_ ?_ ?_ ?_ ?_ ?_ ?_ ?_ ?_ ?_ ?_ ?_ ?_ ?_ ?_ ?_ ?_ ?_ ?_ ?_ ?_ ?_ ?_ ?_ ?_ ?_ ?_ ?_ ?_ ?_ ?_ ?_ ?_ ?_ ?_ ?_ ?_ ?_ ?_ ?_ ?_ ?_ ?_ ?_ ?_ ?_ ?_ ?_ ?_ ?_ ?_ ?_ ?_ ?_ ?_ ?_ ?_ ?_ ?_ ?_ ?_ ?_ ?_ ?_ ?_ ?_ ?_ ?_ ?_ ?_ ?_ ?_ ?_ ?_ ?_ ?_ ?_ ?_ ?_ ?_ ?_ ?_ ?_ ?_ ?_ ?_ ?_ ?_ ?_ ?_ ?_ ?_ ?_ ?_ ?_ ?_ ?_ ?_ ?_ ?_ ?_ ?_ ?_ ?_ ?_ ?_ ?_ ?_ ?_ ?_ ?_ ?_ ?_ ?_ ?_ ?_ ?_ ?_ ?_ ?_ ?_ ?_ ?_ ?_ ?_ ?_ ?_ ?_ ?_ ?_ ?_ ?_ ?_ ?_ ?_ ?_ ?_ ?_ ?_ ?_ ?_ ?_ ?_ ?_ ?_ ?_ ?_ ?_ ?_ ?_ ?_ ?_ ?_ ?_ ?_ ?_ ?_ ?_ ?_ ?_ ?_ ?_ ?_ ?_ ?_ ?_ ?_ ?_ ?_ ?_ ?_ ?_ ?_ ?_ ?_ ?_ ?_ ?_ ?_ ?_ ?_ ?_ ?_ ?_ ?_ ?_ ?_ ?_ ?_ ?_ ?_ ?_ ?_ ?_ ?_ ?_ ?_ ?_ ?_ ?_ ?_ ?_ ?_ ?_ ?_ ?_ ?_ ?_ ?_ ?_ ?_ ?_ ?_ ?_ ?_ ?_ ?_ ?_ ?_ ?_ ?_ ?_ ?_ ?_ ?_ ?_ ?_ ?_ ?_
  all_goals (try k_is)

