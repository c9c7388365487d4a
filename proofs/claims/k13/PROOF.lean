import PyProof.Rows.All
import Wide.All
import OpenK.AllK
import Wide.FinOn
import Lean
import PyProof.EqAt
import PyProof.EqKinds
import PyProof.TupleCall
import KE.KIntText
import PyProof.StrCalls2
import PyProof.CallStr
import PyProof.Rows.FStr
import PyProof.Rows.CountFlat
import PyProof.ExcArgs
import KE.KIsAll
import KE.KFmtOwn
import KE.KxText
import PyProof.StrLawsTight
import PyProof.StrLawsChain
import PyProof.Rows.StrCut
import PyProof.Rows.StrJoinMade
import PyProof.Rows.StrBin
import PySem.Challenge.RW_oathhall_k13_books_on_lines
set_option Elab.async false
set_option linter.all false
set_option maxRecDepth 100000
namespace L2
open PySem PySem.Spec PyProof.Rows
abbrev Key := Sum Int Str
def keyIs : Key → Value → Bool
  | .inl k, v => Value.isInt k v
  | .inr x, v => Value.isStrOf x v
def keyH (w : World) : Key → Int
  | .inl k => hashInt k
  | .inr x => hashStr w x
theorem keyIs_shape : ∀ {k : Key} {v : Value}, keyIs k v = true → (∃ i t, k = Sum.inl i ∧ v = Value.int i t) ∨ (∃ x t, k = Sum.inr x ∧ v = Value.str x t)
  | .inl i, v, h => by
    obtain ⟨t, e⟩ := Value.isInt_shape (k := i) (v := v) h
    exact .inl ⟨i, t, rfl, e⟩
  | .inr x, v, h => by
    obtain ⟨t, e⟩ := Value.isStrOf_shape (x := x) (v := v) h
    exact .inr ⟨x, t, rfl, e⟩
theorem keyIs_int (i : Int) (t : Tok) : keyIs (.inl i) (.int i t) = true := by simp [keyIs, Value.isInt]
theorem keyIs_str (x : Str) (t : Tok) : keyIs (.inr x) (.str x t) = true := by simp [keyIs, Value.isStrOf]
theorem key_ll (a b : Int) : decide ((Sum.inl a : Key) = Sum.inl b) = (a == b) := by
  by_cases e : a = b
  · subst e; simp
  · have h : ¬ (Sum.inl a : Key) = Sum.inl b := fun q => e (Sum.inl.inj q)
    rw [decide_eq_false h]
    exact (beq_eq_false_iff_ne.mpr e).symm
theorem key_rr (a b : Str) : decide ((Sum.inr a : Key) = Sum.inr b) = decide (a = b) := by
  by_cases e : a = b
  · subst e; simp
  · have h : ¬ (Sum.inr a : Key) = Sum.inr b := fun q => e (Sum.inr.inj q)
    rw [decide_eq_false h, decide_eq_false e]
theorem key_lr (a : Int) (b : Str) : decide ((Sum.inl a : Key) = Sum.inr b) = false := decide_eq_false (fun q => nomatch q)
theorem key_rl (a : Str) (b : Int) : decide ((Sum.inr a : Key) = Sum.inl b) = false := decide_eq_false (fun q => nomatch q)
def mixKind (prog : Program) (w : World) : PySem.KeyKind prog w Key where
  is := keyIs
  hash := keyH w
  inj := fun v a b ha hb => by
    rcases keyIs_shape ha with ⟨i, t, rfl, rfl⟩ | ⟨x, t, rfl, rfl⟩
    · rcases keyIs_shape hb with ⟨j, u, rfl, e⟩ | ⟨y, u, rfl, e⟩
      · injection e with e1 _; rw [e1]
      · exact nomatch e
    · rcases keyIs_shape hb with ⟨j, u, rfl, e⟩ | ⟨y, u, rfl, e⟩
      · exact nomatch e
      · injection e with e1 _; rw [e1]
  byValue := fun k v h => by
    rcases keyIs_shape h with ⟨i, t, rfl, rfl⟩ | ⟨x, t, rfl, rfl⟩ <;> rfl
  pyHash := fun hv h => by
    rcases keyIs_shape hv with ⟨i, t, rfl, rfl⟩ | ⟨x, t, rfl, rfl⟩
    · exact wpAny_pyHash_int h
    · exact wpAny_pyHash_str h
  eqBool := fun hu hv h => by
    rcases keyIs_shape hu with ⟨i, t, rfl, rfl⟩ | ⟨x, t, rfl, rfl⟩
    · rcases keyIs_shape hv with ⟨j, u, rfl, rfl⟩ | ⟨y, u, rfl, rfl⟩
      · rw [key_ll] at h; exact wpAny_eqBool_int h
      · rw [key_lr] at h; exact SeqAt.EqAt.int_str i t y u _ _ _ _ h
    · rcases keyIs_shape hv with ⟨j, u, rfl, rfl⟩ | ⟨y, u, rfl, rfl⟩
      · rw [key_rl] at h; exact SeqAt.EqAt.str_int x t j u _ _ _ _ h
      · rw [key_rr] at h; exact wpAny_eqBool_str h
  «strs» := fun k x t v h => by
    rcases keyIs_shape h with ⟨i, u, rfl, e⟩ | ⟨y, u, rfl, e⟩
    · exact nomatch e
    · injection e with e1 _
      subst e1
      cases v <;> rfl
theorem mixKind_int (prog : Program) (w : World) (i : Int) (t : Tok) : (mixKind prog w).is (.inl i) (.int i t) = true := keyIs_int i t
theorem mixKind_str (prog : Program) (w : World) (x : Str) (t : Tok) : (mixKind prog w).is (.inr x) (.str x t) = true := keyIs_str x t
end L2
namespace L2
open PySem PySem.Spec PyProof.Rows
inductive V where
  | non | bl (b : Bool) | int (i : Int) | str (x : Str) | byt (b : Array UInt8) | flt (b : UInt64) | ref (a : Addr) | ty (n : String)
  deriving DecidableEq
def RelV : V → Value → Prop
  | .non, u => u = Value.none
  | .bl b, u => u = Value.bool b
  | .int i, u => ∃ t, u = Value.int i t
  | .str x, u => ∃ t, u = Value.str x t
  | .byt b, u => ∃ t, u = Value.bytes b t
  | .flt b, u => ∃ t, u = Value.float b t
  | .ref a, u => u = Value.ref a
  | .ty n, u => u = Value.type n
abbrev Vals : List V → List Value → Prop := Paired RelV
theorem Vals.length {xs : List V} {us : List Value} (r : Vals xs us) : xs.length = us.length := Paired.length r
theorem Vals.get : ∀ {xs : List V} {us : List Value} {i : Nat} {x : V}, Vals xs us → xs[i]? = some x → ∃ u, us[i]? = some u ∧ RelV x u
  | _, _, _, _, .nil, e => by simp at e
  | _, _, 0, _, .cons r _, e => by simp at e; subst e; exact ⟨_, rfl, r⟩
  | _, _, i + 1, x, .cons _ t, e => by
    obtain ⟨u, h1, h2⟩ := Vals.get (i := i) (x := x) t (by simpa using e)
    exact ⟨u, by simpa using h1, h2⟩
theorem Vals.append : ∀ {xs ys : List V} {us ws : List Value}, Vals xs us → Vals ys ws → Vals (xs ++ ys) (us ++ ws)
  | _, _, _, _, .nil, s => s
  | _, _, _, _, .cons r t, s => .cons r (Vals.append t s)
theorem Vals.take : ∀ {xs : List V} {us : List Value} (n : Nat), Vals xs us → Vals (xs.take n) (us.take n)
  | _, _, 0, _ => .nil
  | _, _, _ + 1, .nil => .nil
  | _, _, n + 1, .cons r t => .cons r (Vals.take n t)
theorem Vals.drop : ∀ {xs : List V} {us : List Value} (n : Nat), Vals xs us → Vals (xs.drop n) (us.drop n)
  | _, _, 0, r => r
  | _, _, _ + 1, .nil => .nil
  | _, _, n + 1, .cons _ t => Vals.drop n t
def RelO : Option V → Option Value → Prop
  | some v, some u => RelV v u
  | none, none => True
  | _, _ => False
def KV {κ : Type} : List (κ × V) → List (κ × Value) → Prop := Paired fun (p : κ × V) (q : κ × Value) => p.1 = q.1 ∧ RelV p.2 q.2
def kV : Key → V
  | .inl i => .int i
  | .inr x => .str x
inductive HO where
  
  | lst (xs : List V)
  
  | tup (xs : List V)
  
  | dK (kvs : List (Key × V)) | dT (kvs : List (List Key × V))
  
  | set (S : Int → Bool) (n : Nat)
  
  | ins (C dx : Addr) (fs : List (Str × V))
  
  | own (x : Addr)
  
  | xd (fs : List (Str × V))
  
  | met (f x : Addr)
  
  | rng (lo hi : Int)
  
  | frz (o : Obj) (u : HO)
  
  | tbl (ps : Array Value)
  
  | ext (φ : Heap → Prop)
abbrev Hp := Addr → Option HO
def upd (H : Hp) (a : Addr) (o : HO) : Hp := fun b => if b = a then some o else H b
theorem upd_same {H : Hp} {a : Addr} {o : HO} : upd H a o a = some o := by unfold upd; rw [if_pos rfl]
theorem upd_ne {H : Hp} {a b : Addr} {o : HO} (h : b ≠ a) : upd H a o b = H b := by unfold upd; rw [if_neg h]
theorem upd_upd {H : Hp} {a : Addr} {o u : HO} : upd (upd H a o) a u = upd H a u := by
  funext b; unfold upd; split <;> rfl
theorem ne_of {H : Hp} {a b : Addr} {o u : HO} (h : H a = some o) (h' : H b = some u) (d : o ≠ u) : a ≠ b := by
  intro e; subst e; rw [h] at h'; exact d (Option.some.inj h')
theorem ne_of_none {H : Hp} {a b : Addr} {o : HO} (h : H a = some o) (h' : H b = none) : a ≠ b := by
  intro e; subst e; rw [h] at h'; cases h'
section
variable (P : Program) (w : World)
def ObjOk (H : Hp) (h : Heap) (a : Addr) : HO → Prop
  | .lst xs => xs.length ≤ sizeLine ∧ ∃ (its : List Value) (n : Nat), Vals xs its ∧ h.get? a = some { cls := .type "list", data := .seq its.toArray n }
  | .tup xs => xs.length ≤ sizeLine ∧ ∃ its : List Value, Vals xs its ∧ IsTup h a its.toArray
  | .dK kvs => kvs.length ≤ sizeLine ∧ (a == sysModules) = false ∧ ∃ vs, KV kvs vs ∧ h.DictOf (mixKind P w) a vs
  | .dT kvs => kvs.length ≤ sizeLine ∧ (a == sysModules) = false ∧ ∃ xs : List (List Key × Addr × Value),
      Paired (fun (p : List Key × V) (q : List Key × Addr × Value) => p.1 = q.1 ∧ H q.2.1 = some (.tup (p.1.map kV)) ∧ RelV p.2 q.2.2) kvs xs ∧
      ∃ o es ep, h.get? a = some o ∧ o.ExactDict ∧ o.data = .dict es ep ∧ es.toList = xs.map (entryOfKey (tupleKind (mixKind P w))) ∧ (xs.map (·.1)).Nodup
  | .set S n => h.SetOf (intKind P w) a S n
  | .ins C dx fs => H dx = some (.own a) ∧ fs.length ≤ 1000 ∧ dx ≠ a ∧ h.get? a = some (PySem.W.instObj C dx) ∧
      ∃ mA, h.Ns1 dx mA ∧ (∀ f, RelO (fs.lookup f) (mA f)) ∧ PySem.Within mA (fs.map (·.1))
  | .own _ => ∃ o, h.get? a = some o
  | .xd fs => ∃ mA, h.Ns1 a mA ∧ ∀ f, RelO (fs.lookup f) (mA f)
  | .rng lo hi => ∃ t u v, h.get? a = some { cls := .type "range", data := .fields #[.int lo t, .int hi u, .int 1 v] }
  | .frz o u => h.get? a = some o ∧ ObjOk H h a u
  | .tbl ps => h.get? a = some { cls := .none, data := .fields ps }
  | .met f x => h.get? a = some (PySem.W.methodObj (.ref f) (.ref x))
  | .ext φ => φ h ∧ (∃ o, h.get? a = some o) ∧ ∀ h1 h2 : Heap, φ h1 → (∀ o, h1.get? a = some o → h2.get? a = some o) → φ h2
def HOk (H : Hp) (h : Heap) : Prop := ∀ a o, H a = some o → ObjOk P w H h a o
end
section
variable {P : Program} {w : World} {H H' : Hp} {h h' : Heap} {a : Addr} {o : HO}
theorem ObjOk.lt (x : ObjOk P w H h a o) : a < h.objs.size := by
  cases o with
  | lst xs => obtain ⟨_, _, _, _, e⟩ := x; exact Heap.lt_size e
  | tup xs => obtain ⟨_, _, _, p⟩ := x; exact p.lt
  | dK kvs => obtain ⟨_, _, _, _, o, _, _, e, _⟩ := x; exact Heap.lt_size e
  | dT kvs => obtain ⟨_, _, _, _, o, _, _, e, _⟩ := x; exact Heap.lt_size e
  | set S n => obtain ⟨o, _, _, _, e, _⟩ := x; exact Heap.lt_size e
  | ins C dx fs => obtain ⟨_, _, _, e, _⟩ := x; exact Heap.lt_size e
  | own y => obtain ⟨_, e⟩ := x; exact Heap.lt_size e
  | xd fs => obtain ⟨_, ⟨_, _, _, e, _⟩, _⟩ := x; exact Heap.lt_size e
  | rng lo hi => obtain ⟨_, _, _, e⟩ := x; exact Heap.lt_size e
  | frz ob u => obtain ⟨e, _⟩ := x; exact Heap.lt_size e
  | tbl ps => exact Heap.lt_size (show h.get? a = some _ from x)
  | met f y => exact Heap.lt_size (show h.get? a = some _ from x)
  | ext φ => obtain ⟨_, ⟨_, e⟩, _⟩ := x; exact Heap.lt_size e
theorem Paired.mapP {α β : Type} {F G : α → β → Prop} : ∀ {l₁ : List α} {l₂ : List β}, Paired F l₁ l₂ → (∀ a b, F a b → G a b) → Paired G l₁ l₂
  | _, _, .nil, _ => .nil
  | _, _, .cons r t, f => .cons (f _ _ r) (Paired.mapP t f)
theorem ObjOk.stay (x : ObjOk P w H h a o) (k : ∀ b u, (b = a ∨ H b = some (.own a)) → h.get? b = some u → h'.get? b = some u)
    (ho : ∀ b, H b = some (.own a) → H' b = some (.own a)) (ht : ∀ b xs, H b = some (.tup xs) → H' b = some (.tup xs)) : ObjOk P w H' h' a o := by
  induction o with
  | lst xs => obtain ⟨z, its, n, r, e⟩ := x; exact ⟨z, its, n, r, k _ _ (.inl rfl) e⟩
  | tup xs => obtain ⟨z, its, r, ob, e, c⟩ := x; exact ⟨z, its, r, ob, k _ _ (.inl rfl) e, c⟩
  | dK kvs => obtain ⟨z, y, vs, r, ob, es, ep, e, c⟩ := x; exact ⟨z, y, vs, r, ob, es, ep, k _ _ (.inl rfl) e, c⟩
  | dT kvs =>
    obtain ⟨z, y, xs, r, ob, es, ep, e, c⟩ := x
    exact ⟨z, y, xs, Paired.mapP r fun p q z => ⟨z.1, ht _ _ z.2.1, z.2.2⟩, ob, es, ep, k _ _ (.inl rfl) e, c⟩
  | set S n => obtain ⟨ob, es, ep, t, e, c⟩ := x; exact ⟨ob, es, ep, t, k _ _ (.inl rfl) e, c⟩
  | ins C dx fs =>
    obtain ⟨d, z, ne, e, mA, ⟨od, es, ep, e2, c⟩, r⟩ := x
    exact ⟨ho _ d, z, ne, k _ _ (.inl rfl) e, mA, ⟨od, es, ep, k _ _ (.inr d) e2, c⟩, r⟩
  | own y => obtain ⟨ob, e⟩ := x; exact ⟨ob, k _ _ (.inl rfl) e⟩
  | xd fs => obtain ⟨mA, ⟨od, es, ep, e, c⟩, r⟩ := x; exact ⟨mA, ⟨od, es, ep, k _ _ (.inl rfl) e, c⟩, r⟩
  | rng lo hi => obtain ⟨t, u, v, e⟩ := x; exact ⟨t, u, v, k _ _ (.inl rfl) e⟩
  | frz ob u ih => obtain ⟨e, q⟩ := x; exact ⟨k _ _ (.inl rfl) e, ih q⟩
  | tbl ps =>
    have e : h.get? a = some { cls := .none, data := .fields ps } := x
    show h'.get? a = some { cls := .none, data := .fields ps }
    exact k a _ (.inl rfl) e
  | met f y =>
    have e : h.get? a = some (PySem.W.methodObj (.ref f) (.ref y)) := x
    show h'.get? a = some (PySem.W.methodObj (.ref f) (.ref y))
    exact k a _ (.inl rfl) e
  | ext φ => obtain ⟨p, ⟨o, e⟩, st⟩ := x; exact ⟨st _ _ p fun o q => k _ _ (.inl rfl) q, ⟨o, k _ _ (.inl rfl) e⟩, st⟩
theorem HOk.lt (x : HOk P w H h) (e : H a = some o) : a < h.objs.size := (x a o e).lt
theorem HOk.fresh (x : HOk P w H h) (e : h.objs.size ≤ a) : H a = none := by
  cases q : H a with
  | none => rfl
  | some u => exact absurd (Nat.lt_of_lt_of_le (x.lt q) e) (Nat.lt_irrefl _)
theorem HOk.kept (x : HOk P w H h) (k : ∀ b u, h.get? b = some u → h'.get? b = some u) : HOk P w H h' := fun a o e =>
  (x a o e).stay (fun b u _ q => k b u q) (fun _ q => q) fun _ _ q => q
theorem HOk.laid (x : HOk P w H h) (k : ∀ b u, h.get? b = some u → h'.get? b = some u) (hp : h.objs.size ≤ a) (new : ObjOk P w (upd H a o) h' a o) : HOk P w (upd H a o) h' := fun b u e => by
  have hn := x.fresh hp
  by_cases hb : b = a
  · subst hb; rw [upd_same] at e; cases e; exact new
  · rw [upd_ne hb] at e
    exact (x b u e).stay (fun c v _ q => k c v q) (fun c q => by rw [upd_ne (ne_of_none q hn)]; exact q) fun c xs q => by rw [upd_ne (ne_of_none q hn)]; exact q
end
def Rd (H : Hp) (a : Addr) (u : HO) : Prop := H a = some u ∨ ∃ o, H a = some (.frz o u)
theorem Rd.of {H : Hp} {a : Addr} {u : HO} (h : H a = some u) : Rd H a u := .inl h
theorem Rd.ok {P : Program} {w : World} {H : Hp} {h : Heap} {a : Addr} {u : HO} (r : Rd H a u) (x : HOk P w H h) : ObjOk P w H h a u := by
  rcases r with r | ⟨o, r⟩
  · exact x a u r
  · obtain ⟨_, q⟩ := x a _ r
    exact q
def Mut : Option HO → Prop
  | some (.lst _) => True
  | some (.dK _) => True
  | some (.dT _) => True
  | some (.set _ _) => True
  | some (.ins _ _ _) => True
  | some (.ext _) => True
  | _ => False
section
variable {P : Program} {w : World} {H : Hp} {h h' : Heap} {x e : Addr} {o' : HO}
theorem HOk.write (ok : HOk P w H h) (mu : Mut (H x)) (he : e = x ∨ H e = some (.own x)) (k : ∀ b u, b ≠ e → h.get? b = some u → h'.get? b = some u) (heo : ∃ u, h'.get? e = some u)
    (new : ObjOk P w (upd H x o') h' x o') : HOk P w (upd H x o') h' := fun b u q => by
  have nown : ∀ c y, H c = some (.own y) → c ≠ x := fun c y r z => by subst z; rw [r] at mu; exact mu
  have ntup : ∀ c xs, H c = some (.tup xs) → c ≠ x := fun c xs r z => by subst z; rw [r] at mu; exact mu
  by_cases hb : b = x
  · subst hb; rw [upd_same] at q; cases q; exact new
  · rw [upd_ne hb] at q
    by_cases hbe : b = e
    · have q' : H b = some (.own x) := by
        rcases he with z | z
        · exact absurd (hbe.trans z) hb
        · rw [hbe]; exact z
      rw [q] at q'; cases q'
      obtain ⟨v, hv⟩ := heo
      exact ⟨v, by rw [hbe]; exact hv⟩
    · refine (ok b u q).stay (fun c v hc r => k c v ?_ r) (fun c r => by rw [upd_ne (nown c b r)]; exact r) fun c xs r => by rw [upd_ne (ntup c xs r)]; exact r
      rcases hc with rfl | hc
      · exact hbe
      · rintro rfl
        rcases he with z | z
        · exact nown c b hc z
        · rw [hc] at z; cases z; exact hb rfl
end
structure Un (fs ex : List Addr) (H H' : Hp) (h h' : Heap) : Prop where
  keep : ∀ b o, h.get? b = some o → H b = none → b ∉ fs → b ∉ ex → h'.get? b = some o
  slot : ∀ b o, h.get? b = some o → H b = none → b ∈ fs → b ∉ ex → ∃ sl, h'.get? b = some { o with slots := sl }
  free : ∀ b o, h.get? b = some o → H b = none → b ∉ ex → H' b = none
  there : ∀ b o, h.get? b = some o → b ∉ ex → ∃ o', h'.get? b = some o'
  tups : ∀ b xs, H b = some (.tup xs) → H' b = some (.tup xs)
  frzs : ∀ b o u, H b = some (.frz o u) → H' b = some (.frz o u)
  tbls : ∀ b ps, H b = some (.tbl ps) → ∃ more, H' b = some (.tbl (ps ++ more))
section
variable {fs fs' ex ex' : List Addr} {H H1 H2 : Hp} {h h1 h2 h' : Heap} {a x e : Addr} {o : HO}
theorem Un.any (u : Un fs ex H H1 h h1) {b : Addr} {ob : Obj} (q : h.get? b = some ob) (n : H b = none) (hx : b ∉ ex) : ∃ sl, h1.get? b = some { ob with slots := sl } := by
  by_cases hb : b ∈ fs
  · exact u.slot b ob q n hb hx
  · exact ⟨ob.slots, u.keep b ob q n hb hx⟩
theorem Un.kept (k : ∀ b u, h.get? b = some u → h'.get? b = some u) : Un fs ex H H h h' :=
  ⟨fun b ob q _ _ _ => k b ob q, fun b ob q _ _ _ => ⟨ob.slots, k b ob q⟩, fun _ _ _ n _ => n, fun b ob q _ => ⟨ob, k b ob q⟩, fun _ _ q => q, fun _ _ _ q => q, fun _ ps q => ⟨#[], by rw [q]; simp⟩⟩
theorem Un.refl : Un fs ex H H h h := Un.kept fun _ _ q => q
theorem Un.laid (k : ∀ b u, h.get? b = some u → h'.get? b = some u) (hp : h.objs.size ≤ a) (hn : H a = none) : Un fs ex H (upd H a o) h h' where
  keep := fun b u q _ _ _ => k b u q
  slot := fun b u q _ _ _ => ⟨u.slots, k b u q⟩
  free := fun b u q n _ => by rw [upd_ne (Nat.ne_of_lt (Nat.lt_of_lt_of_le (Heap.lt_size q) hp))]; exact n
  there := fun b u q _ => ⟨u, k b u q⟩
  tups := fun b xs q => by rw [upd_ne (ne_of_none q hn)]; exact q
  frzs := fun b u xs q => by rw [upd_ne (ne_of_none q hn)]; exact q
  tbls := fun b ps q => ⟨#[], by rw [upd_ne (ne_of_none q hn), q]; simp⟩
theorem Un.write (mu : Mut (H x)) (he : e = x ∨ H e = some (.own x)) (k : ∀ b u, b ≠ e → h.get? b = some u → h'.get? b = some u) (heo : ∃ u, h'.get? e = some u) : Un fs ex H (upd H x o) h h' := by
  have hx : ∀ b, H b = none → b ≠ x := fun b n z => by subst z; rw [n] at mu; exact mu
  have hb : ∀ b, H b = none → b ≠ e := fun b n z => by
    subst z
    rcases he with r | r
    · exact hx b n r
    · rw [n] at r; cases r
  have hm : ∀ b u, H b = some u → ¬ Mut (some u) → b ≠ x := fun b u q nm z => by subst z; rw [q] at mu; exact nm mu
  refine ⟨fun b u q n _ _ => k b u (hb b n) q, fun b u q n _ _ => ⟨u.slots, k b u (hb b n) q⟩, fun b u q n _ => by rw [upd_ne (hx b n)]; exact n, fun b u q _ => ?_,
    fun b xs q => by rw [upd_ne (hm b _ q fun z => z)]; exact q, fun b u xs q => by rw [upd_ne (hm b _ q fun z => z)]; exact q, fun b ps q => ⟨#[], by rw [upd_ne (hm b _ q fun z => z), q]; simp⟩⟩
  by_cases hbe : b = e
  · subst hbe; exact heo
  · exact ⟨u, k b u hbe q⟩
end
def trk (h : Heap) (H : Hp) : List Addr := (List.range h.objs.size).filter fun a => (H a).isSome
def hidT (h : Heap) (H : Hp) : Heap := PySem.W.hideAll h (trk h H)
theorem hidT_size (h : Heap) (H : Hp) : (hidT h H).objs.size = h.objs.size := PySem.W.hideAll_size _ _
theorem hidT_get {h : Heap} {H : Hp} {b : Addr} {o : Obj} (e : h.get? b = some o) (n : H b = none) : (hidT h H).get? b = some o :=
  PySem.W.hideAll_get _ e fun hm => by
    have q : (H b).isSome = true := (List.mem_filter.mp hm).2
    rw [n] at q; simp at q
theorem of_hidT {h : Heap} {H : Hp} {b : Addr} {o : Obj} (e : (hidT h H).get? b = some o) : h.get? b = some o ∧ H b = none := by
  have e' : h.get? b = some o := PySem.W.of_hideAll (trk h H) e
  refine ⟨e', ?_⟩
  cases q : H b with
  | none => rfl
  | some x =>
    have hm : b ∈ trk h H := List.mem_filter.mpr ⟨List.mem_range.mpr (Heap.lt_size e'), by simp [q]⟩
    have z : (hidT h H).get? b = none := PySem.W.hideAll_none (trk h H) hm
    rw [z] at e; cases e
end L2
namespace L2
open PySem PySem.Spec PyProof.Rows
structure Mod (K : PySem.W.Frag) (mg : Str → Option Value) (base : Heap) : Prop where
  kin : K.In base
  glob : base.Ns mainGlobals mg
  blt : ∃ mb, base.Ns builtinsNs mb ∧ ∀ x : Str, x ≠ "__name__" → mb x = bootBuiltins x
  nolimit : base.NoLimit
structure Cx where
  prog : Program
  w : World
  K : PySem.W.Frag
  mg : Str → Option Value
  base : Heap
  A : Around
  N : List Str
  s₀ : Shared
  H₀ : Hp
  env : Env
  outer : List Env
  stack : List Env
  ex : List Addr
  fn : Str → Bool
  calm : Bool
  pn : List (Addr × Obj)
  xe : Value → Shared → Prop
def frs (l : List Env) : List Addr := l.filterMap (·.frame)
abbrev Cx.fs (X : Cx) : List Addr := frs X.outer
def Vis (sc : Scope) (x : Str) : Prop := sc.names.lookup x = some .local ∨ sc.names.lookup x = some .cell ∨ sc.names.lookup x = some .free
def Loc (sc : Scope) (x : Str) : Prop := sc.names.lookup x = some .local ∨ sc.names.lookup x = some .cell
def Look (env : Env) (h : Heap) (m : Str → Option Value) (x : Str) (u : Value) : Prop :=
  (env.kindOf x = some .local ∧ m x = some u) ∨ ((env.kindOf x = some .cell ∨ env.kindOf x = some .free) ∧ ∃ c, env.cells.lookup x = some c ∧ h.IsCell c (some u))
structure Cx.Ok (X : Cx) : Prop where
  mod : Mod X.K X.mg X.base
  kind : X.env.scope.kind = .function
  glob : X.env.globals = mainGlobals
  blt : X.env.builtins = builtinsNs
  above : X.s₀.heap.objs.size ≤ X.env.locals
  inj : ∀ x y c, X.env.cells.lookup x = some c → X.env.cells.lookup y = some c → x = y
  has : ∀ x, (X.env.kindOf x = some .cell ∨ X.env.kindOf x = some .free) → ∃ c, X.env.cells.lookup x = some c
  cab : ∀ x c, X.fn x = true → X.env.cells.lookup x = some c → X.s₀.heap.objs.size ≤ c
  hd : X.calm = true → X.A.handled = none
  frames : X.A.frames = some X.stack
  stk : X.stack = X.outer ∨ (X.stack = X.env :: X.outer ∧ X.env.frame = some X.env.locals)
  exf : ∀ b ∈ X.ex, b ≠ X.env.locals ∧ ∀ x c, X.env.cells.lookup x = some c → c ≠ b
  bs : ∀ b o, X.base.get? b = some o → X.s₀.heap.get? b = some o ∧ X.H₀ b = none
  bsz : X.base.objs.size ≤ X.s₀.heap.objs.size
  noex : ∀ b o, X.base.get? b = some o → b ∉ X.ex
  exfs : ∀ b ∈ X.ex, b ∉ X.fs
  funs : X.s₀.heap.FunFrames X.base X.outer
  frf : ∀ b ∈ X.fs, X.H₀ b = none
structure Inv (X : Cx) (pins : List (Addr × Obj)) (σ : List (Option V)) (H : Hp) (s : Shared) : Prop where
  ok : X.Ok
  os : s.os = X.s₀.os
  bare : AllBare s.gens
  base : Un X.fs X.ex X.H₀ H X.s₀.heap s.heap
  loc : ∃ m, s.heap.Ns X.env.locals m ∧ ∀ (i : Nat) (x : Str) (v : V), X.N[i]? = some x → σ[i]? = some (some v) → Vis X.env.scope x → ∃ u, RelV v u ∧ Look X.env s.heap m x u
  cell : ∀ x c, X.env.cells.lookup x = some c → ∃ v, s.heap.IsCell c v
  free : H X.env.locals = none
  freeC : ∀ x c, X.env.cells.lookup x = some c → H c = none
  pin : ∀ p ∈ X.pn ++ pins, s.heap.get? p.1 = some p.2 ∧ H p.1 = none ∧ p.1 ≠ X.env.locals ∧ p.1 ∉ X.fs ∧ ∀ v, p.2.data ≠ .cell v
  hok : HOk X.prog X.w H s.heap
  len : σ.length = X.N.length
section
variable {X : Cx} {pins : List (Addr × Obj)} {σ : List (Option V)} {H H' : Hp} {s : Shared} {h' : Heap}
theorem Cx.Ok.nofr (ok : X.Ok) {b : Addr} {o : Obj} (e : X.base.get? b = some o) : b ∉ X.fs := fun hb => by
  have := (ok.funs.mem hb).1
  rw [e] at this; cases this
theorem Inv.bs (I : Inv X pins σ H s) : ∀ b o, X.base.get? b = some o → s.heap.get? b = some o ∧ H b = none := fun b o e =>
  ⟨I.base.keep b o (I.ok.bs b o e).1 (I.ok.bs b o e).2 (I.ok.nofr e) (I.ok.noex b o e), I.base.free b o (I.ok.bs b o e).1 (I.ok.bs b o e).2 (I.ok.noex b o e)⟩
theorem Inv.bk (I : Inv X pins σ H s) : ∀ b o, X.base.get? b = some o → s.heap.get? b = some o := fun b o e => (I.bs b o e).1
theorem Inv.mod (I : Inv X pins σ H s) : Mod X.K X.mg X.base := I.ok.mod
theorem Inv.kIn (I : Inv X pins σ H s) : X.K.In s.heap := I.ok.mod.kin.keeps I.bk
theorem Inv.lt (I : Inv X pins σ H s) : X.env.locals < s.heap.objs.size := let ⟨_, hn, _⟩ := I.loc; hn.lt
theorem Inv.sz (I : Inv X pins σ H s) : X.s₀.heap.objs.size ≤ s.heap.objs.size := Nat.le_trans I.ok.above (Nat.le_of_lt I.lt)
theorem Inv.nofs (I : Inv X pins σ H s) {a : Addr} (h : s.heap.objs.size ≤ a) : a ∉ X.fs := fun hb => by
  obtain ⟨_, o, ho, _⟩ := I.ok.funs.mem hb
  exact absurd (Nat.lt_of_lt_of_le (Heap.lt_size ho) (Nat.le_trans I.sz h)) (Nat.lt_irrefl _)
theorem Inv.cne (I : Inv X pins σ H s) : ∀ x c, X.env.cells.lookup x = some c → c ≠ X.env.locals := fun x c e z => by
  obtain ⟨v, o, ho, hd⟩ := I.cell x c e
  obtain ⟨m, ⟨o', es, ep, ho', hd', _⟩, _⟩ := I.loc
  rw [z, ho'] at ho; cases ho; rw [hd'] at hd; cases hd
theorem Inv.funs (I : Inv X pins σ H s) : s.heap.FunFrames X.base X.outer := by
  have all : ∀ (l : List Env), (∀ b ∈ frs l, b ∈ X.fs) → X.s₀.heap.FunFrames X.base l → s.heap.FunFrames X.base l := by
    intro l
    induction l with
    | nil => intro _ _; trivial
    | cons env r ih =>
      intro hs hl
      obtain ⟨hk, ⟨L, o, hf, hn, ho, hd⟩, hr⟩ := hl
      have hL : L ∈ X.fs := hs L (by unfold frs; rw [List.filterMap_cons, hf]; exact List.mem_cons_self)
      obtain ⟨sl, e⟩ := I.base.slot L o ho (I.ok.frf L hL) hL fun z => I.ok.exfs L z hL
      exact ⟨hk, ⟨L, _, hf, hn, e, hd⟩, ih (fun b hb => hs b (by unfold frs; rw [List.filterMap_cons, hf]; exact List.mem_cons_of_mem _ hb)) hr⟩
  exact all X.outer (fun _ hb => hb) I.ok.funs
theorem Inv.stack (I : Inv X pins σ H s) : s.heap.FunFrames X.base X.stack := by
  rcases I.ok.stk with e | ⟨e, hf⟩
  · rw [e]; exact I.funs
  · rw [e]
    obtain ⟨m, hn, _⟩ := I.loc
    refine .cons (by rw [I.ok.kind]; decide) hf hn ?_ I.funs
    exact Heap.get?_none_of_le (Nat.le_trans I.ok.bsz I.ok.above)
theorem Inv.stkSub (I : Inv X pins σ H s) : ∀ b ∈ frs X.stack, b ∈ X.env.locals :: X.fs := fun b hb => by
  rcases I.ok.stk with e | ⟨e, hf⟩
  · rw [e] at hb; exact List.mem_cons_of_mem _ hb
  · rw [e] at hb
    unfold frs at hb
    rw [List.filterMap_cons, hf] at hb
    exact hb
theorem Inv.stkFree (I : Inv X pins σ H s) : ∀ b ∈ frs X.stack, H b = none := fun b hb => by
  rcases List.mem_cons.mp (I.stkSub b hb) with e | hb
  · rw [e]; exact I.free
  · obtain ⟨_, o, ho, _⟩ := I.ok.funs.mem hb
    exact I.base.free b o ho (I.ok.frf b hb) fun z => I.ok.exfs b z hb
theorem Inv.step {g' : Array GenState} {t' : Nat} {d' : Drawn} {ch : List Addr} (I : Inv X pins σ H s)
    (hch : ∀ b ∈ ch, (b ∈ X.ex ∨ X.s₀.heap.objs.size ≤ b) ∧ b ≠ X.env.locals ∧ (∀ x c, X.env.cells.lookup x = some c → c ≠ b) ∧ ∀ p ∈ X.pn ++ pins, p.1 ≠ b)
    (keep : ∀ b o, b ≠ X.env.locals → b ∉ X.fs → b ∉ ch → s.heap.get? b = some o → H b = none → h'.get? b = some o)
    (slot : ∀ b o, b ≠ X.env.locals → b ∈ X.fs → b ∉ ch → s.heap.get? b = some o → H b = none → ∃ sl, h'.get? b = some { o with slots := sl }) (free : ∀ b o, b ∉ ch → s.heap.get? b = some o → H b = none → H' b = none)
    (there : ∀ b o, b ∉ ch → s.heap.get? b = some o → ∃ o', h'.get? b = some o')
    (tups : ∀ b xs, H b = some (.tup xs) → H' b = some (.tup xs)) (frzs : ∀ b o u, H b = some (.frz o u) → H' b = some (.frz o u)) (tbls : ∀ b ps, H b = some (.tbl ps) → ∃ more, H' b = some (.tbl (ps ++ more)))
    (ns : ∀ m, s.heap.Ns X.env.locals m → h'.Ns X.env.locals m) (hok : HOk X.prog X.w H' h') (hg : AllBare g') :
    Inv X pins σ H' { s with heap := h', gens := g', drawn := d', toks := t' } := by
  have neL : ∀ b o, X.s₀.heap.get? b = some o → b ≠ X.env.locals := fun b o e => Nat.ne_of_lt (Nat.lt_of_lt_of_le (Heap.lt_size e) I.ok.above)
  have neC : ∀ b o, X.s₀.heap.get? b = some o → b ∉ X.ex → b ∉ ch := fun b o e hx hb => by
    rcases (hch b hb).1 with z | z
    · exact hx z
    · exact absurd (Nat.lt_of_lt_of_le (Heap.lt_size e) z) (Nat.lt_irrefl _)
  have cellK : ∀ x c, X.env.cells.lookup x = some c → ∀ v, s.heap.IsCell c v → h'.IsCell c v := fun x c e v ⟨o, ho, hd⟩ => by
    have nch : c ∉ ch := fun z => (hch c z).2.2.1 x c e rfl
    by_cases hc : c ∈ X.fs
    · obtain ⟨sl, q⟩ := slot c o (I.cne x c e) hc nch ho (I.freeC x c e)
      exact ⟨_, q, hd⟩
    · exact ⟨o, keep c o (I.cne x c e) hc nch ho (I.freeC x c e), hd⟩
  refine ⟨I.ok, I.os, hg, ⟨fun b o e n hb hx => ?_, fun b o e n hb hx => ?_, fun b o e n hx => ?_, fun b o e hx => ?_, fun b xs e => tups b xs (I.base.tups b xs e), fun b o xs e => frzs b o xs (I.base.frzs b o xs e), fun b ps e => ?_⟩, ?_, fun x c e => ?_, ?_, fun x c e => ?_, fun p hp => ?_, hok, I.len⟩
  · exact keep b o (neL b o e) hb (neC b o e hx) (I.base.keep b o e n hb hx) (I.base.free b o e n hx)
  · obtain ⟨sl, e1⟩ := I.base.slot b o e n hb hx
    obtain ⟨sl', e2⟩ := slot b _ (neL b o e) hb (neC b o e hx) e1 (I.base.free b o e n hx)
    exact ⟨sl', e2⟩
  · obtain ⟨o', e1⟩ := I.base.there b o e hx
    exact free b o' (neC b o e hx) e1 (I.base.free b o e n hx)
  · obtain ⟨o', e1⟩ := I.base.there b o e hx
    exact there b o' (neC b o e hx) e1
  · obtain ⟨m1, e1⟩ := I.base.tbls b ps e
    obtain ⟨m2, e2⟩ := tbls b _ e1
    exact ⟨m1 ++ m2, by rw [e2, Array.append_assoc]⟩
  · obtain ⟨m, hn, hl⟩ := I.loc
    refine ⟨m, ns m hn, fun i x v e1 e2 e3 => ?_⟩
    obtain ⟨u, r, l⟩ := hl i x v e1 e2 e3
    refine ⟨u, r, ?_⟩
    rcases l with l | ⟨k, c, e, z⟩
    · exact .inl l
    · exact .inr ⟨k, c, e, cellK x c e _ z⟩
  · obtain ⟨v, z⟩ := I.cell x c e
    exact ⟨v, cellK x c e v z⟩
  · obtain ⟨m, ⟨o, _, _, ho, _⟩, _⟩ := I.loc
    exact free _ o (fun z => (hch _ z).2.1 rfl) ho I.free
  · obtain ⟨v, o, ho, hd⟩ := I.cell x c e
    exact free c o (fun z => (hch c z).2.2.1 x c e rfl) ho (I.freeC x c e)
  · obtain ⟨e, n, ne, nf, d⟩ := I.pin p hp
    have nch : p.1 ∉ ch := fun z => (hch p.1 z).2.2.2 p hp rfl
    exact ⟨keep p.1 p.2 ne nf nch e n, free p.1 p.2 nch e n, ne, nf, d⟩
theorem Inv.un {t' : Nat} (I : Inv X pins σ H s) (u : Un X.fs [] H H' s.heap h') (hok : HOk X.prog X.w H' h') : Inv X pins σ H' { s with heap := h', toks := t' } := by
  obtain ⟨m, ⟨o, es, ep, ho, r⟩, _⟩ := id I.loc
  obtain ⟨sl, hL⟩ := u.any ho I.free (by simp)
  exact I.step (g' := s.gens) (d' := s.drawn) (ch := []) (fun _ z => nomatch z) (fun b o _ hb _ e n => u.keep b o e n hb (by simp)) (fun b o _ hb _ e n => u.slot b o e n hb (by simp)) (fun b o _ e n => u.free b o e n (by simp)) (fun b o _ e => u.there b o e (by simp)) u.tups u.frzs u.tbls (fun m' hm => by
    obtain ⟨o', es', ep', ho', r'⟩ := hm
    rw [ho] at ho'; cases ho'
    exact ⟨_, es', ep', hL, r'⟩) hok I.bare
theorem Inv.call {g' : Array GenState} {t' : Nat} {d' : Drawn} {ch : List Addr} (I : Inv X pins σ H s) (u : Un (frs X.stack) ch H H' s.heap h') (hok : HOk X.prog X.w H' h') (hg : AllBare g')
    (hch : ∀ b ∈ ch, (b ∈ X.ex ∨ X.s₀.heap.objs.size ≤ b) ∧ b ≠ X.env.locals ∧ (∀ x c, X.env.cells.lookup x = some c → c ≠ b) ∧ ∀ p ∈ X.pn ++ pins, p.1 ≠ b) :
    Inv X pins σ H' { s with heap := h', gens := g', drawn := d', toks := t' } := by
  obtain ⟨m, ⟨o, es, ep, ho, r⟩, _⟩ := id I.loc
  obtain ⟨sl, hL⟩ := u.any ho I.free fun z => (hch _ z).2.1 rfl
  exact I.step (ch := ch) hch (fun b o hL hb hc e n => u.keep b o e n (fun z => (List.mem_cons.mp (I.stkSub b z)).elim hL hb) hc) (fun b o _ _ hc e n => u.any e n hc) (fun b o hc e n => u.free b o e n hc) (fun b o hc e => u.there b o e hc) u.tups u.frzs u.tbls (fun m' hm => by
    obtain ⟨o', es', ep', ho', r'⟩ := hm
    rw [ho] at ho'; cases ho'
    exact ⟨_, es', ep', hL, r'⟩) hok hg
theorem Inv.turned {t' : Nat} {it : Addr} (I : Inv X pins σ H s) (k : ∀ b o, b ≠ it → s.heap.get? b = some o → h'.get? b = some o) (hn : H it = none) (hL : it ≠ X.env.locals)
    (h1 : it ∈ X.ex ∨ X.s₀.heap.objs.size ≤ it) (h2 : ∀ x c, X.env.cells.lookup x = some c → c ≠ it) (h3 : ∀ p ∈ X.pn ++ pins, p.1 ≠ it) : Inv X pins σ H { s with heap := h', toks := t' } := by
  have nit : ∀ b u, H b = some u → b ≠ it := fun b u e z => by rw [z, hn] at e; cases e
  refine I.step (g' := s.gens) (d' := s.drawn) (ch := [it]) (fun b hb => ?_) (fun b o _ _ hc e _ => k b o (fun z => hc (by simp [z])) e) (fun b o _ _ hc e _ => ⟨o.slots, k b o (fun z => hc (by simp [z])) e⟩) (fun _ _ _ _ n => n)
    (fun b o hc e => ⟨o, k b o (fun z => hc (by simp [z])) e⟩) (fun _ _ e => e) (fun _ _ _ e => e) (fun b ps e => ⟨#[], by rw [e]; simp⟩) (fun m hm => ?_) (fun b u e => ?_) I.bare
  · have e : b = it := by simpa using hb
    subst e
    exact ⟨h1, hL, h2, h3⟩
  · obtain ⟨o, es, ep, ho, r⟩ := hm
    exact ⟨o, es, ep, k _ o (Ne.symm hL) ho, r⟩
  · refine (I.hok b u e).stay (fun c v hc q => k c v ?_ q) (fun _ q => q) fun _ _ q => q
    rcases hc with z | z
    · rw [z]; exact nit b u e
    · exact nit c _ z
theorem Inv.tok (I : Inv X pins σ H s) (t : Nat) : Inv X pins σ H { s with toks := t } := I.un (h' := s.heap) (t' := t) Un.refl I.hok
theorem Inv.kept {t' : Nat} (I : Inv X pins σ H s) (k : ∀ b u, s.heap.get? b = some u → h'.get? b = some u) : Inv X pins σ H { s with heap := h', toks := t' } := I.un (Un.kept k) (I.hok.kept k)
theorem Inv.laid {a : Addr} {o : HO} {t' : Nat} (I : Inv X pins σ H s) (k : ∀ b u, s.heap.get? b = some u → h'.get? b = some u) (hp : s.heap.objs.size ≤ a) (new : ObjOk X.prog X.w (upd H a o) h' a o) :
    Inv X pins σ (upd H a o) { s with heap := h', toks := t' } := I.un (Un.laid k hp (I.hok.fresh hp)) (I.hok.laid k hp new)
theorem Inv.write {x e : Addr} {o : HO} {t' : Nat} (I : Inv X pins σ H s) (mu : Mut (H x)) (he : e = x ∨ H e = some (.own x)) (k : ∀ b u, b ≠ e → s.heap.get? b = some u → h'.get? b = some u) (heo : ∃ u, h'.get? e = some u)
    (new : ObjOk X.prog X.w (upd H x o) h' x o) : Inv X pins σ (upd H x o) { s with heap := h', toks := t' } := I.un (Un.write mu he k heo) (I.hok.write mu he k heo new)
theorem Inv.pins_of {pins' : List (Addr × Obj)} (I : Inv X pins σ H s) (h : ∀ p ∈ pins', s.heap.get? p.1 = some p.2 ∧ H p.1 = none ∧ p.1 ≠ X.env.locals ∧ p.1 ∉ X.fs ∧ ∀ v, p.2.data ≠ .cell v) : Inv X pins' σ H s :=
  ⟨I.ok, I.os, I.bare, I.base, I.loc, I.cell, I.free, I.freeC, fun p hp => (List.mem_append.mp hp).elim (fun z => I.pin p (List.mem_append_left _ z)) (h p), I.hok, I.len⟩
theorem nodup_ix {N : List Str} (hN : N.Nodup) {i j : Nat} {x : Str} (a : N[i]? = some x) (b : N[j]? = some x) : i = j := by
  obtain ⟨h1, e1⟩ := List.getElem?_eq_some_iff.mp a
  obtain ⟨h2, e2⟩ := List.getElem?_eq_some_iff.mp b
  exact (List.getElem_inj hN).mp (e1.trans e2.symm)
theorem store_ok2 {M : Model} {A : Around} {E : Value → Shared → Prop} {i : Nat} {x : Str} {v : V} {u : Value} {Q : Unit → Shared → Prop} (I : Inv X pins σ H s) (hN : X.N.Nodup) (hi : X.N[i]? = some x) (hx : Loc X.env.scope x) (r : RelV v u)
    (h : ∀ s', Inv X pins (σ.set i (some v)) H s' → (∃ a, Heap.SameBut a s.heap s'.heap ∧ (a = X.env.locals ∨ X.env.cells.lookup x = some a)) → Q () s') (hf : X.fn x = true ∨ X.env.scope.names.lookup x = some .local := by first | exact .inl rfl | exact .inr rfl | assumption) : wpAny M A (storeName X.env x u) Q E s := by
  obtain ⟨m, hn, hl⟩ := id I.loc
  have hcls : (X.env.scope.kind == .class || (X.env.scope.kind == .module && X.env.locals != X.env.globals)) = false := by rw [I.ok.kind]; rfl
  have hiσ : i < σ.length := by rw [I.len]; exact (List.getElem?_eq_some_iff.mp hi).1
  have cne := I.cne
  have tracked : ∀ {a : Addr} {h' : Heap}, (∃ o, s.heap.get? a = some o ∧ H a = none) → Heap.SameBut a s.heap h' → HOk X.prog X.w H h' := fun {a h'} ha hs b ob e => by
    obtain ⟨_, _, hfree⟩ := ha
    refine (I.hok b ob e).stay (fun c w' hc q => (hs.2 c ?_).trans q) (fun _ q => q) fun _ _ q => q
    rintro rfl
    rcases hc with rfl | hc
    · rw [hfree] at e; cases e
    · rw [hfree] at hc; cases hc
  rcases hx with hk | hk
  · refine wpAny_storeName_local hk hn (fun h' hn' hs => ?_) hcls
    obtain ⟨oL, _, _, hoL, _⟩ := id hn
    refine h _ ⟨I.ok, I.os, I.bare, ⟨fun b o e n hb hx => ?_, fun b o e n hb hx => ?_, I.base.free, fun b o e hx => ?_, I.base.tups, I.base.frzs, I.base.tbls⟩, ⟨_, hn', fun j y v' e1 e2 e3 => ?_⟩, fun y c e => ?_, I.free, I.freeC, fun p hp => ?_, tracked ⟨oL, hoL, I.free⟩ hs, by simpa using I.len⟩ ⟨_, hs, .inl rfl⟩
    · exact (hs.2 b (Nat.ne_of_lt (Nat.lt_of_lt_of_le (Heap.lt_size e) I.ok.above))).trans (I.base.keep b o e n hb hx)
    · obtain ⟨sl, e1⟩ := I.base.slot b o e n hb hx
      exact ⟨sl, (hs.2 b (Nat.ne_of_lt (Nat.lt_of_lt_of_le (Heap.lt_size e) I.ok.above))).trans e1⟩
    · obtain ⟨o', e1⟩ := I.base.there b o e hx
      exact ⟨o', (hs.2 b (Nat.ne_of_lt (Nat.lt_of_lt_of_le (Heap.lt_size e) I.ok.above))).trans e1⟩
    · by_cases hj : j = i
      · subst hj
        rw [hi] at e1; cases e1
        rw [List.getElem?_set_self hiσ] at e2
        cases e2
        exact ⟨u, r, .inl ⟨hk, by simp⟩⟩
      · rw [List.getElem?_set_ne (Ne.symm hj)] at e2
        obtain ⟨u', r', q⟩ := hl j y v' e1 e2 e3
        refine ⟨u', r', ?_⟩
        rcases q with ⟨k, e⟩ | ⟨k, c, e, z⟩
        · refine .inl ⟨k, ?_⟩
          have : y ≠ x := fun e => hj (nodup_ix hN e1 (e ▸ hi))
          simp [this, e]
        · exact .inr ⟨k, c, e, z.sameBut hs (cne y c e)⟩
    · obtain ⟨w', z⟩ := I.cell y c e
      exact ⟨w', z.sameBut hs (cne y c e)⟩
    · obtain ⟨e, n, ne, nf, d⟩ := I.pin p hp
      exact ⟨(hs.2 p.1 ne).trans e, n, ne, nf, d⟩
  · have hfn : X.fn x = true := by
      rcases hf with z | z
      · exact z
      · rw [z] at hk; cases hk
    obtain ⟨c, hc⟩ := I.ok.has x (.inl hk)
    obtain ⟨w', z⟩ := I.cell x c hc
    refine wpAny_storeName_cell I.ok.kind hk hc z (fun h' hc' hs => ?_)
    obtain ⟨oc, hoc, hocd⟩ := id z
    refine h { s with heap := h' } ⟨I.ok, I.os, I.bare, ⟨fun b o e n hb hx => ?_, fun b o e n hb hx => ?_, I.base.free, fun b o e hx => ?_, I.base.tups, I.base.frzs, I.base.tbls⟩, ⟨m, hn.sameBut hs (Ne.symm (cne x c hc)), fun j y v' e1 e2 e3 => ?_⟩, fun y c' e => ?_, I.free, I.freeC, fun p hp => ?_, tracked ⟨oc, hoc, I.freeC x c hc⟩ hs, by simpa using I.len⟩ ⟨c, hs, .inr hc⟩
    · exact (hs.2 b (Nat.ne_of_lt (Nat.lt_of_lt_of_le (Heap.lt_size e) (I.ok.cab x c hfn hc)))).trans (I.base.keep b o e n hb hx)
    · obtain ⟨sl, e1⟩ := I.base.slot b o e n hb hx
      exact ⟨sl, (hs.2 b (Nat.ne_of_lt (Nat.lt_of_lt_of_le (Heap.lt_size e) (I.ok.cab x c hfn hc)))).trans e1⟩
    · obtain ⟨o', e1⟩ := I.base.there b o e hx
      exact ⟨o', (hs.2 b (Nat.ne_of_lt (Nat.lt_of_lt_of_le (Heap.lt_size e) (I.ok.cab x c hfn hc)))).trans e1⟩
    · by_cases hj : j = i
      · subst hj
        rw [hi] at e1; cases e1
        rw [List.getElem?_set_self hiσ] at e2
        cases e2
        exact ⟨u, r, .inr ⟨.inl hk, c, hc, hc'⟩⟩
      · rw [List.getElem?_set_ne (Ne.symm hj)] at e2
        obtain ⟨u', r', q⟩ := hl j y v' e1 e2 e3
        refine ⟨u', r', ?_⟩
        rcases q with q | ⟨k, c', e, z'⟩
        · exact .inl q
        · refine .inr ⟨k, c', e, z'.sameBut hs ?_⟩
          rintro rfl
          exact hj (nodup_ix hN e1 (I.ok.inj _ _ _ e hc ▸ hi))
    · by_cases hcc : c' = c
      · subst hcc; exact ⟨_, hc'⟩
      · obtain ⟨w2, z2⟩ := I.cell y c' e
        exact ⟨w2, z2.sameBut hs hcc⟩
    · obtain ⟨e, n, ne, nf, d⟩ := I.pin p hp
      refine ⟨(hs.2 p.1 ?_).trans e, n, ne, nf, d⟩
      intro q
      rw [q, hoc] at e
      have q' : oc = p.2 := Option.some.inj e
      exact d w' (by rw [← q']; exact hocd)
theorem store_ok {M : Model} {A : Around} {E : Value → Shared → Prop} {i : Nat} {x : Str} {v : V} {u : Value} {Q : Unit → Shared → Prop} (I : Inv X pins σ H s) (hN : X.N.Nodup) (hi : X.N[i]? = some x) (hx : Loc X.env.scope x) (r : RelV v u)
    (h : ∀ s', Inv X pins (σ.set i (some v)) H s' → Q () s') (hf : X.fn x = true ∨ X.env.scope.names.lookup x = some .local := by first | exact .inl rfl | exact .inr rfl | assumption) : wpAny M A (storeName X.env x u) Q E s :=
  store_ok2 I hN hi hx r (fun s' I' _ => h s' I') hf
theorem Inv.call' {s' : Shared} {ch : List Addr} (I : Inv X pins σ H s) (ho : s'.os = s.os) (u : Un (frs X.stack) ch H H' s.heap s'.heap) (hok : HOk X.prog X.w H' s'.heap) (hg : AllBare s'.gens)
    (hch : ∀ b ∈ ch, (b ∈ X.ex ∨ X.s₀.heap.objs.size ≤ b) ∧ b ≠ X.env.locals ∧ (∀ x c, X.env.cells.lookup x = some c → c ≠ b) ∧ ∀ p ∈ X.pn ++ pins, p.1 ≠ b) : Inv X pins σ H' s' := by
  obtain ⟨h', g', d', t', o'⟩ := s'
  have e : o' = s.os := ho
  subst e
  exact I.call (g' := g') (t' := t') (d' := d') u hok hg hch
end
abbrev XK := Value → Option Addr → Hp → Prop
abbrev St := List (Option V)
abbrev VK := V → Hp → Prop
abbrev TE := St → Hp → VK → Prop
abbrev TT := St → Hp → (Bool → Hp → Prop) → Prop
abbrev TA := St → Hp → (List V → Hp → Prop) → Prop
structure Ends where
  nx : St → Hp → Prop
  rt : VK
  bk : St → Hp → Prop := fun _ _ => False
  ct : St → Hp → Prop := fun _ _ => False
abbrev TS := Ends → St → Hp → Prop
def EP (X : Cx) (pins : List (Addr × Obj)) (σ : St) (Q : VK) (u : Value) (s' : Shared) : Prop := ∃ v H', Inv X pins σ H' s' ∧ RelV v u ∧ Q v H'
def TP (X : Cx) (pins : List (Addr × Obj)) (σ : St) (Q : Bool → Hp → Prop) (b : Bool) (s' : Shared) : Prop := ∃ H', Inv X pins σ H' s' ∧ Q b H'
def AP (X : Cx) (pins : List (Addr × Obj)) (σ : St) (Q : List V → Hp → Prop) (us : List Value) (s' : Shared) : Prop := ∃ vs H', Inv X pins σ H' s' ∧ Vals vs us ∧ Q vs H'
def SP (X : Cx) (pins : List (Addr × Obj)) (D : Ends) (f : Flow) (s' : Shared) : Prop :=
  match f with
  | .next => ∃ σ' H', Inv X pins σ' H' s' ∧ D.nx σ' H'
  | .brk => ∃ σ' H', Inv X pins σ' H' s' ∧ D.bk σ' H'
  | .cont => ∃ σ' H', Inv X pins σ' H' s' ∧ D.ct σ' H'
  | .ret u => ∃ v σ' H', Inv X pins σ' H' s' ∧ RelV v u ∧ D.rt v H'
def PE (X : Cx) (e : Expr) (t : TE) : Prop :=
  ∀ (pins : List (Addr × Obj)) (s : Shared) (σ : St) (H : Hp) (Q : VK), Inv X pins σ H s → t σ H Q → wpAny (model X.prog X.w) X.A (eval e X.env) (EP X pins σ Q) X.xe s
def PT (X : Cx) (e : Expr) (t : TT) : Prop :=
  ∀ (pins : List (Addr × Obj)) (s : Shared) (σ : St) (H : Hp) (Q : Bool → Hp → Prop), Inv X pins σ H s → t σ H Q → wpAny (model X.prog X.w) X.A (isTrue e X.env (eval e X.env)) (TP X pins σ Q) X.xe s
def PW (X : Cx) (e : Expr) (t : TT) : Prop :=
  ∀ (whole : Sem Value) (pins : List (Addr × Obj)) (s : Shared) (σ : St) (H : Hp) (Q : Bool → Hp → Prop), Inv X pins σ H s → t σ H Q → wpAny (model X.prog X.w) X.A (isTrue e X.env whole) (TP X pins σ Q) X.xe s
theorem PW.pt {X : Cx} {e : Expr} {t : TT} (h : PW X e t) : PT X e t := h _
def PA (X : Cx) (es : List Expr) (t : TA) : Prop :=
  ∀ (pos : Pos) (pins : List (Addr × Obj)) (s : Shared) (σ : St) (H : Hp) (Q : List V → Hp → Prop), Inv X pins σ H s → t σ H Q → wpAny (model X.prog X.w) X.A (spliced (backTo pos (starEach es X.env))) (AP X pins σ Q) X.xe s
def PS (X : Cx) (st : Stmt) (t : TS) : Prop :=
  ∀ (pins : List (Addr × Obj)) (s : Shared) (σ : St) (H : Hp) (D : Ends), Inv X pins σ H s → t D σ H → wpAny (model X.prog X.w) X.A (exec st X.env) (SP X pins D) X.xe s
def PSs (X : Cx) (st : List Stmt) (t : TS) : Prop :=
  ∀ (pins : List (Addr × Obj)) (s : Shared) (σ : St) (H : Hp) (D : Ends), Inv X pins σ H s → t D σ H → wpAny (model X.prog X.w) X.A (execs st X.env) (SP X pins D) X.xe s
theorem thn {α : Type} {t : Sem α} {Q Q' : α → Shared → Prop} {M : Model} {A : Around} {E : Value → Shared → Prop} {s : Shared} (h : wpAny M A t Q E s) (hQ : ∀ a s, Q a s → Q' a s) : wpAny M A t Q' E s := wpAny_mono h hQ fun _ _ x => x
end L2
namespace L2
open PySem PySem.Spec PyProof.Rows
section
variable {X : Cx}
theorem bin {a b : Expr} {ta tb : TE} (ha : PE X a ta) (hb : PE X b tb) {pins : List (Addr × Obj)} {s : Shared} {σ : St} {H : Hp} {R : V → V → Hp → Prop} (I : Inv X pins σ H s) (h : ta σ H fun x H1 => tb σ H1 fun y H2 => R x y H2)
    {α : Type} {Q : α → Shared → Prop} {f : Value → Value → Sem α}
    (hf : ∀ v u s2 x y H2, Inv X pins σ H2 s2 → RelV x v → RelV y u → R x y H2 → wpAny (model X.prog X.w) X.A (f v u) Q X.xe s2) :
    wpAny (model X.prog X.w) X.A (eval a X.env) (fun v s₁ => wpAny (model X.prog X.w) X.A (eval b X.env) (fun u s₂ => wpAny (model X.prog X.w) X.A (f v u) Q X.xe s₂) X.xe s₁) X.xe s := by
  refine thn (ha pins s σ H _ I h) fun v s1 ⟨x, H1, I1, r1, q1⟩ => ?_
  refine thn (hb pins s1 σ H1 _ I1 q1) fun u s2 ⟨y, H2, I2, r2, q2⟩ => ?_
  exact hf v u s2 x y H2 I2 r1 r2 q2
def tVar (i : Nat) : TE := fun σ H Q => ∃ v, σ[i]? = some (some v) ∧ Q v H
def tC (v : V) : TE := fun _ H Q => Q v H
theorem pe_var {i : Nat} {x : Str} {pos : Pos} (hN : X.N[i]? = some x) (hv : Vis X.env.scope x) (hd : (x == ("__debug__" : Str)) = false := by decide) (hcd : (x == ("__classdict__" : Str)) = false := by decide) : PE X (.Name x pos) (tVar i) := by
  intro pins s σ H Q I h
  obtain ⟨v, e, h⟩ := h
  obtain ⟨m, hn, hl⟩ := I.loc
  obtain ⟨u, r, l⟩ := hl i x v hN e hv
  have fin : EP X pins σ Q u s := ⟨v, H, I, r, h⟩
  rcases l with ⟨hk, hm⟩ | ⟨hk, c, hc, hcell⟩
  · exact wpAny_Name (wpAny_loadName_local I.ok.kind hk hn hm fin) hd
  · rcases hk with hk | hk
    · exact wpAny_Name (wpAny_loadName_cell I.ok.kind hk hc hcell fin) hd
    · exact wpAny_Name (wpAny_loadName_free I.ok.kind hk hc hcell fin hcd) hd
theorem pe_int {i j pos} : PE X (.Constant (.int i) j pos) (tC (.int i)) := fun _ _ _ H _ I h => wpAny_Constant_int ⟨.int i, H, I.tok _, ⟨_, rfl⟩, h⟩
theorem pe_bl {b j pos} : PE X (.Constant (.bool b) j pos) (tC (.bl b)) := fun _ _ _ H _ I h => Constant_bool ⟨.bl b, H, I, rfl, h⟩
theorem pe_str {x j pos} : PE X (.Constant (.str x) j pos) (tC (.str x)) := fun _ _ _ H _ I h => Calls.Constant_str ⟨.str x, H, I.tok _, ⟨_, rfl⟩, h⟩
def Gl (X : Cx) (x : Str) : Prop := X.env.kindOf x = some .globalImplicit
theorem ld_glob {E : Value → Shared → Prop} {pins : List (Addr × Obj)} {s : Shared} {σ : St} {H : Hp} {x : Str} {u : Value} {pos : Pos} {Q : Value → Shared → Prop} (I : Inv X pins σ H s) (hg : Gl X x) (hm : X.mg x = some u) (h : Q u s)
    (hd : (x == ("__debug__" : Str)) = false := by decide) : wpAny (model X.prog X.w) X.A (eval (.Name x pos) X.env) Q E s :=
  Calls.Name_function_global I.ok.kind hg (Calls.loadGlobal_global (by rw [I.ok.glob]; exact I.mod.glob.keeps I.bk) hm h) hd
theorem ld_blt {E : Value → Shared → Prop} {pins : List (Addr × Obj)} {s : Shared} {σ : St} {H : Hp} {x : Str} {u : Value} {pos : Pos} {Q : Value → Shared → Prop} (I : Inv X pins σ H s) (hg : Gl X x) (hm : X.mg x = none) (hv : bootBuiltins x = some u) (h : Q u s)
    (hn : x ≠ "__name__" := by decide) (hd : (x == ("__debug__" : Str)) = false := by decide) : wpAny (model X.prog X.w) X.A (eval (.Name x pos) X.env) Q E s := by
  obtain ⟨mb, h1, h2⟩ := I.mod.blt
  exact Calls.Name_function_global I.ok.kind hg (Calls.loadGlobal_builtin (by rw [I.ok.glob]; exact I.mod.glob.keeps I.bk) hm (by rw [I.ok.blt]; exact h1.keeps I.bk) ((h2 x hn).trans hv) h) hd
theorem pe_glob {x : Str} {v : V} {u : Value} {pos : Pos} (hg : Gl X x) (hm : X.mg x = some u) (r : RelV v u) (hd : (x == ("__debug__" : Str)) = false := by decide) : PE X (.Name x pos) (tC v) :=
  fun _ _ _ H _ I h => ld_glob I hg hm ⟨v, H, I, r, h⟩ hd
theorem pe_bltn {x : Str} {v : V} {u : Value} {pos : Pos} (hg : Gl X x) (hm : X.mg x = none) (hv : bootBuiltins x = some u) (r : RelV v u) (hn : x ≠ "__name__" := by decide) (hd : (x == ("__debug__" : Str)) = false := by decide) : PE X (.Name x pos) (tC v) :=
  fun _ _ _ H _ I h => ld_blt I hg hm hv ⟨v, H, I, r, h⟩ hn hd
variable {a b : Expr} {ta tb : TE} {pos : Pos}
def PC (X : Cx) (op : CmpOp) (a b : Expr) (t : TE) : Prop :=
  ∀ (pins : List (Addr × Obj)) (s : Shared) (σ : St) (H : Hp) (Q : VK), Inv X pins σ H s → t σ H Q →
    wpAny (model X.prog X.w) X.A (eval a X.env) (fun v s₁ => wpAny (model X.prog X.w) X.A (eval b X.env) (fun u s₂ => wpAny (model X.prog X.w) X.A (compareOp op v u) (EP X pins σ Q) X.xe s₂) X.xe s₁) X.xe s
def tB (t : TE) : TT := fun σ H Q => t σ H fun x H1 => ∃ c, x = .bl c ∧ Q c H1
theorem pt_cmp {op : CmpOp} {t : TE} (h : PC X op a b t) (h1 : behindInMarks op b = false := by first | exact nobehind _ (by decide) (by decide) | rfl) : PT X (.Compare a [op] [b] pos) (tB t) := by
  intro pins s σ H Q I hw
  refine wpAny_isTrue_Compare1 (thn (h pins s σ H _ I hw) fun v s1 h1 => thn h1 fun u s2 h2 => thn h2 fun c s3 ⟨x, H1, I1, r1, q1⟩ => ?_) h1
  obtain ⟨d, rfl, q⟩ := q1
  cases r1
  exact wpAny_truthy_bool ⟨H1, I1, q⟩
theorem pt_val {e : Expr} {t : TE} (h : PE X e t) (he : ∀ whole, isTrue e X.env whole = (do let v ← whole; standAt e.pos; holding [v] (truthy v)) := by intro _; rfl) : PT X e (tB t) := by
  intro pins s σ H Q I hw
  refine isTrue_plain (thn (h pins s σ H _ I hw) fun v s1 ⟨x, H1, I1, r1, q1⟩ => ?_) (he _)
  obtain ⟨d, rfl, q⟩ := q1
  cases r1
  exact wpAny_truthy_bool ⟨H1, I1, q⟩
variable {tA tB' : TT} {rest : List Expr}
def tAnd (t u : TT) : TT := fun σ H Q => t σ H fun c H1 => if c = true then u σ H1 Q else Q false H1
def tOr (t u : TT) : TT := fun σ H Q => t σ H fun c H1 => if c = true then Q true H1 else u σ H1 Q
def tNot (t : TT) : TT := fun σ H Q => t σ H fun c H1 => Q (!c) H1
theorem pw_and1 (ha : PT X a tA) : PW X (.BoolOp .And [a] pos) tA := by
  intro wh pins s σ H Q I h
  refine isTrue_and (thn (ha pins s σ H Q I h) fun c s1 e => ?_)
  cases c with
  | true => exact isTrue_and_nil e
  | false => exact e
theorem pw_or1 (ha : PT X a tA) : PW X (.BoolOp .Or [a] pos) tA := by
  intro wh pins s σ H Q I h
  refine isTrue_or (thn (ha pins s σ H Q I h) fun c s1 e => ?_)
  cases c with
  | false => exact isTrue_or_nil e
  | true => exact e
theorem pw_and (ha : PT X a tA) (hb : PW X (.BoolOp .And (b :: rest) pos) tB') : PW X (.BoolOp .And (a :: b :: rest) pos) (tAnd tA tB') := by
  intro wh pins s σ H Q I h
  refine isTrue_and (thn (ha pins s σ H _ I h) fun c s1 ⟨H1, I1, q1⟩ => ?_)
  cases c with
  | true => exact hb wh pins s1 σ H1 Q I1 q1
  | false => exact ⟨H1, I1, q1⟩
theorem pw_or (ha : PT X a tA) (hb : PW X (.BoolOp .Or (b :: rest) pos) tB') : PW X (.BoolOp .Or (a :: b :: rest) pos) (tOr tA tB') := by
  intro wh pins s σ H Q I h
  refine isTrue_or (thn (ha pins s σ H _ I h) fun c s1 ⟨H1, I1, q1⟩ => ?_)
  cases c with
  | true => exact ⟨H1, I1, q1⟩
  | false => exact hb wh pins s1 σ H1 Q I1 q1
theorem pt_not (ha : PT X a tA) : PT X (.UnaryOp .Not a pos) (tNot tA) := by
  intro pins s σ H Q I h
  exact isTrue_not (ha pins s σ H (fun c H1 => Q (!c) H1) I h)
def tAndV (ta tb : TE) : TE := fun σ H Q => ta σ H fun x H1 => ∃ c, x = .bl c ∧ if c = true then tb σ H1 Q else Q (.bl false) H1
def tOrV (ta tb : TE) : TE := fun σ H Q => ta σ H fun x H1 => ∃ c, x = .bl c ∧ if c = true then Q (.bl true) H1 else tb σ H1 Q
def tNotV (ta : TE) : TE := fun σ H Q => ta σ H fun x H1 => ∃ c, x = .bl c ∧ Q (.bl (!c)) H1
theorem pe_one {op} {t : TE} (h : PE X a t) : PE X (.BoolOp op [a] pos) t := fun pins s σ H Q I hw => BoolOp_one (h pins s σ H Q I hw)
theorem pe_and (ha : PE X a ta) (hb : PE X (.BoolOp .And (b :: rest) pos) tb) : PE X (.BoolOp .And (a :: b :: rest) pos) (tAndV ta tb) := by
  intro pins s σ H Q I h
  refine BoolOp_and (thn (ha pins s σ H _ I h) fun v s1 ⟨x, H1, I1, r1, q1⟩ => ?_)
  obtain ⟨c, rfl, q1⟩ := q1
  cases r1
  refine wpAny_truthy_bool ?_
  cases c with
  | true => exact hb pins s1 σ H1 Q I1 q1
  | false => exact ⟨.bl false, H1, I1, rfl, q1⟩
theorem pe_or (ha : PE X a ta) (hb : PE X (.BoolOp .Or (b :: rest) pos) tb) : PE X (.BoolOp .Or (a :: b :: rest) pos) (tOrV ta tb) := by
  intro pins s σ H Q I h
  refine BoolOp_or (thn (ha pins s σ H _ I h) fun v s1 ⟨x, H1, I1, r1, q1⟩ => ?_)
  obtain ⟨c, rfl, q1⟩ := q1
  cases r1
  refine wpAny_truthy_bool ?_
  cases c with
  | false => exact hb pins s1 σ H1 Q I1 q1
  | true => exact ⟨.bl true, H1, I1, rfl, q1⟩
theorem pe_not (ha : PE X a ta) : PE X (.UnaryOp .Not a pos) (tNotV ta) := by
  intro pins s σ H Q I h
  refine UnaryOp_ (thn (ha pins s σ H _ I h) fun v s1 ⟨x, H1, I1, r1, q1⟩ => ?_)
  obtain ⟨c, rfl, q1⟩ := q1
  cases r1
  exact not_of (wpAny_truthy_bool ⟨.bl (!c), H1, I1, rfl, q1⟩)
end
end L2
namespace L2
open PySem PySem.Spec PyProof.Rows
def SqL (K : PySem.W.Frag) (H : Hp) (a : Addr) (xs : List V) : Prop :=
  Rd H a (.lst xs) ∨
    ∃ (o : Obj) (its : Array Value) (n : Nat), K.lookup a = some o ∧ o.cls = .type "list" ∧ o.dict = none ∧ o.data = .seq its n ∧ its.size ≤ sizeLine ∧ Vals xs its.toList
def SqT (K : PySem.W.Frag) (H : Hp) (a : Addr) (xs : List V) : Prop :=
  Rd H a (.tup xs) ∨
    ∃ (o : Obj) (its : Array Value) (n : Nat), K.lookup a = some o ∧ o.cls = .type "tuple" ∧ o.data = .seq its n ∧ its.size ≤ sizeLine ∧ Vals xs its.toList
def absV : Value → Option V
  | .none => some .non
  | .bool b => some (.bl b)
  | .int i _ => some (.int i)
  | .str x _ => some (.str x)
  | .bytes b _ => some (.byt b)
  | .float b _ => some (.flt b)
  | .ref a => some (.ref a)
  | .type n => some (.ty n)
  | _ => none
theorem RelV.abs {x : V} {u : Value} (r : RelV x u) : absV u = some x := by
  cases x with
  | non => cases r; rfl
  | bl _ => cases r; rfl
  | int _ => obtain ⟨t, rfl⟩ := r; rfl
  | str _ => obtain ⟨t, rfl⟩ := r; rfl
  | byt _ => obtain ⟨t, rfl⟩ := r; rfl
  | flt _ => obtain ⟨t, rfl⟩ := r; rfl
  | ref _ => cases r; rfl
  | ty _ => cases r; rfl
theorem RelV.inj {x y : V} {u : Value} (r : RelV x u) (q : RelV y u) : x = y := Option.some.inj (r.abs.symm.trans q.abs)
theorem Vals.inj : ∀ {xs ys : List V} {us : List Value}, Vals xs us → Vals ys us → xs = ys
  | _, _, _, .nil, .nil => rfl
  | _, _, _, .cons r t, .cons r' t' => by rw [r.inj r', Vals.inj t t']
section
variable {X : Cx} {pins : List (Addr × Obj)} {σ : St} {H : Hp} {s : Shared} {a : Addr} {xs ys : List V}
theorem Inv.list (I : Inv X pins σ H s) (h : SqL X.K H a xs) : ∃ its : List Value, Vals xs its ∧ PlainL s.heap a its.toArray ∧ xs.length ≤ sizeLine := by
  rcases h with h | ⟨o, its, n, hk, hc, hd, hs, hz, r⟩
  · obtain ⟨z, its, n, r, e⟩ := h.ok I.hok
    exact ⟨its, r, ⟨_, n, e, rfl, rfl, rfl⟩, z⟩
  · refine ⟨its.toList, r, ⟨o, n, I.kIn a o hk, hc, hd, by simpa using hs⟩, ?_⟩
    have e := r.length
    simp only [Array.length_toList] at e
    omega
theorem Inv.tuple (I : Inv X pins σ H s) (h : SqT X.K H a xs) : ∃ its : List Value, Vals xs its ∧ IsTup s.heap a its.toArray ∧ xs.length ≤ sizeLine := by
  rcases h with h | ⟨o, its, n, hk, hc, hs, hz, r⟩
  · obtain ⟨z, its, r, p⟩ := h.ok I.hok
    exact ⟨its, r, p, z⟩
  · refine ⟨its.toList, r, ⟨o, I.kIn a o hk, hc, n, by simpa using hs⟩, ?_⟩
    have e := r.length
    simp only [Array.length_toList] at e
    omega
theorem Inv.list_inj (I : Inv X pins σ H s) (h : SqL X.K H a xs) (h' : SqL X.K H a ys) : xs = ys := by
  obtain ⟨its, r, ⟨o, n, e, _, _, d⟩, _⟩ := I.list h
  obtain ⟨its', r', ⟨o', n', e', _, _, d'⟩, _⟩ := I.list h'
  rw [e] at e'; cases e'
  rw [d] at d'
  injection d' with d1 _
  have : its = its' := by simpa using congrArg Array.toList d1
  subst this
  exact r.inj r'
end
abbrev Cx.wish (X : Cx) (E : Value → Shared → Prop) : Cx := { X with xe := E }
abbrev Cx.nox (X : Cx) : Cx := X.wish fun _ _ => False
theorem Cx.Ok.wish {X : Cx} (ok : X.Ok) (E : Value → Shared → Prop) : (X.wish E).Ok :=
  ⟨ok.mod, ok.kind, ok.glob, ok.blt, ok.above, ok.inj, ok.has, ok.cab, ok.hd, ok.frames, ok.stk, ok.exf, ok.bs, ok.bsz, ok.noex, ok.exfs, ok.funs, ok.frf⟩
theorem Cx.Ok.unwish {X : Cx} {E : Value → Shared → Prop} (ok : (X.wish E).Ok) : X.Ok :=
  ⟨ok.mod, ok.kind, ok.glob, ok.blt, ok.above, ok.inj, ok.has, ok.cab, ok.hd, ok.frames, ok.stk, ok.exf, ok.bs, ok.bsz, ok.noex, ok.exfs, ok.funs, ok.frf⟩
section
variable {X : Cx} {pins : List (Addr × Obj)} {σ : St} {H : Hp} {s : Shared} {E : Value → Shared → Prop}
theorem Inv.wish (I : Inv X pins σ H s) (E : Value → Shared → Prop) : Inv (X.wish E) pins σ H s := ⟨I.ok.wish E, I.os, I.bare, I.base, I.loc, I.cell, I.free, I.freeC, I.pin, I.hok, I.len⟩
theorem Inv.unwish (I : Inv (X.wish E) pins σ H s) : Inv X pins σ H s := ⟨I.ok.unwish, I.os, I.bare, I.base, I.loc, I.cell, I.free, I.freeC, I.pin, I.hok, I.len⟩
theorem SP.unwish {D : Ends} {f : Flow} {s' : Shared} (h : SP (X.wish E) pins D f s') : SP X pins D f s' := by
  cases f with
  | next => obtain ⟨σ', H', I, q⟩ := h; exact ⟨σ', H', I.unwish, q⟩
  | brk => obtain ⟨σ', H', I, q⟩ := h; exact ⟨σ', H', I.unwish, q⟩
  | cont => obtain ⟨σ', H', I, q⟩ := h; exact ⟨σ', H', I.unwish, q⟩
  | ret u => obtain ⟨v, σ', H', I, r, q⟩ := h; exact ⟨v, σ', H', I.unwish, r, q⟩
theorem PSs.nox {st : List Stmt} {t : TS} (h : PSs X.nox st t) : PSs X st t := fun pins s σ H D I hw =>
  wpAny_mono (h pins s σ H D (I.wish _) hw) (fun _ _ q => q.unwish) fun _ _ z => False.elim z
end
section
variable {X : Cx} {st : Stmt} {rest : List Stmt} {t u : TS} {e : Expr} {te : TE} {pos : Pos}
def tNext : TS := fun D σ H => D.nx σ H
def tSeq (t u : TS) : TS := fun D σ H => t { D with nx := u D } σ H
theorem pss_nil : PSs X [] tNext := fun _ _ σ H _ I h => wpAny_execs_nil ⟨σ, H, I, h⟩
theorem pss_cons (h1 : PS X st t) (h2 : PSs X rest u) : PSs X (st :: rest) (tSeq t u) := by
  intro pins s σ H D I h
  refine wpAny_execs_cons (thn (h1 pins s σ H { D with nx := u D } I h) fun f s1 q => ?_)
  cases f with
  | next =>
    obtain ⟨σ', H', I', q⟩ := q
    exact h2 pins s1 σ' H' D I' q
  | ret v => exact q
  | brk => exact q
  | cont => exact q
theorem pss_one (h1 : PS X st t) : PSs X [st] t := by
  intro pins s σ H D I h
  refine wpAny_execs_cons (thn (h1 pins s σ H D I h) fun f s1 q => ?_)
  cases f with
  | next => exact wpAny_execs_nil q
  | ret v => exact q
  | brk => exact q
  | cont => exact q
theorem Inv.quiet {pins : List (Addr × Obj)} {σ : St} {H : Hp} {s : Shared} (I : Inv X pins σ H s) : interactive X.env = false := by simp [interactive, I.ok.kind]
def tDrop (te : TE) : TS := fun D σ H => te σ H fun _ H1 => D.nx σ H1
theorem ps_expr (he : PE X e te) (hs : swapsWith e none pos.line X.env = pure false := by rfl) : PS X (.Expr e pos) (tDrop te) := by
  intro pins s σ H D I h
  exact wpAny_Expr_any (thn (he pins s σ H _ I h) fun v s1 ⟨x, H1, I1, r1, q1⟩ => ⟨σ, H1, I1, q1⟩) I.quiet hs
def tRet (te : TE) : TS := fun D σ H => te σ H D.rt
theorem ps_ret (he : PE X e te) : PS X (.Return (some e) pos) (tRet te) := by
  intro pins s σ H D I h
  exact wpAny_Return_some (thn (he pins s σ H _ I h) fun v s1 ⟨x, H1, I1, r1, q1⟩ => ⟨x, σ, H1, I1, r1, q1⟩)
def tIfS (c : TT) (t u : TS) : TS := fun D σ H => c σ H fun b H1 => if b = true then t D σ H1 else u D σ H1
theorem ps_if {c : Expr} {a b : List Stmt} {tc : TT} (hc : PT X c tc) (ha : PSs X a t) (hb : PSs X b u) : PS X (.If c a b pos) (tIfS tc t u) := by
  intro pins s σ H D I h
  refine wpAny_If (thn (hc pins s σ H _ I h) fun d s1 ⟨H1, I1, q1⟩ => ?_)
  cases d with
  | true => exact ha pins s1 σ H1 D I1 q1
  | false => exact hb pins s1 σ H1 D I1 q1
end
abbrev TG := V → St → Hp → (St → Hp → Prop) → Prop
def PG (X : Cx) (target : Expr) (t : TG) : Prop :=
  ∀ (pins : List (Addr × Obj)) (s : Shared) (σ : St) (H : Hp) (v : V) (u : Value) (Q : St → Hp → Prop), Inv X pins σ H s → RelV v u → t v σ H Q →
    wpAny (model X.prog X.w) X.A (assign target X.env u) (fun _ s' => ∃ σ' H', Inv X pins σ' H' s' ∧ Q σ' H') X.xe s
section
variable {X : Cx} {pos : Pos}
def gName (i : Nat) : TG := fun v σ H Q => Q (σ.set i (some v)) H
theorem pg_name {i : Nat} {x : Str} (hN : X.N.Nodup) (hi : X.N[i]? = some x) (hx : Loc X.env.scope x) (hf : X.fn x = true ∨ X.env.scope.names.lookup x = some .local := by first | exact .inl rfl | exact .inr rfl | assumption) : PG X (.Name x pos) (gName i) := by
  intro pins s σ H v u Q I r h
  exact wpAny_assign_Name (store_ok I hN hi hx r (fun s' I' => ⟨_, H, I', h⟩) hf)
def tAsg (te : TE) (g : TG) : TS := fun D σ H => te σ H fun x H1 => g x σ H1 D.nx
theorem ps_set {i : Nat} {x : Str} {e : Expr} {te : TE} {pos' : Pos} (hN : X.N.Nodup) (hi : X.N[i]? = some x) (hx : Loc X.env.scope x) (he : PE X e te) (hs : swapsWith e (some (.Name x pos')) pos.line X.env = pure false := by rfl) (hf : X.fn x = true ∨ X.env.scope.names.lookup x = some .local := by first | exact .inl rfl | exact .inr rfl | assumption) :
    PS X (.Assign [.Name x pos'] e pos) (tAsg te (gName i)) := by
  intro pins s σ H D I h
  refine wpAny_Assign_Name (thn (he pins s σ H _ I h) fun v s1 ⟨y, H1, I1, r1, q1⟩ => ?_) hs
  exact store_ok I1 hN hi hx r1 (fun s2 I2 => ⟨_, H1, I2, q1⟩) hf
end
section
variable {X : Cx} {pos : Pos}
end
structure It where
  go : Nat → Hp → Prop
  yld : Nat → Hp → V → Hp → Prop
  stop : Nat → Hp → Prop
def FpOk (X : Cx) (pins : List (Addr × Obj)) (H : Hp) (b : Addr) : Prop :=
  H b = none ∧ b ≠ X.env.locals ∧ b ∉ X.fs ∧ (b ∈ X.ex ∨ X.s₀.heap.objs.size ≤ b) ∧ (∀ x c, X.env.cells.lookup x = some c → c ≠ b) ∧ ∀ p ∈ X.pn ++ pins, p.1 ≠ b
theorem Inv.fpOk {X : Cx} {pins : List (Addr × Obj)} {σ : St} {H H' : Hp} {s : Shared} {b : Addr} (I : Inv X pins σ H s) (hb : s.heap.objs.size ≤ b) (hn : H' b = none) : FpOk X pins H' b := by
  refine ⟨hn, Nat.ne_of_gt (Nat.lt_of_lt_of_le I.lt hb), I.nofs hb, .inr (Nat.le_trans I.sz hb), fun x c e z => ?_, fun p hp z => ?_⟩
  · obtain ⟨v, q⟩ := I.cell x c e
    exact absurd (Nat.lt_of_lt_of_le q.lt (by rw [z]; exact hb)) (Nat.lt_irrefl _)
  · exact absurd (Nat.lt_of_lt_of_le (Heap.lt_size (I.pin p hp).1) (by rw [z]; exact hb)) (Nat.lt_irrefl _)
structure Turn (P : Program) (w : World) (K : PySem.W.Frag) (tg : Expr) (J : It) (fp : List Addr) (it : Addr) (tn : Nat → Heap → Prop) : Prop where
  mem : it ∈ fp
  obj : ∀ i h, tn i h → ∀ b ∈ fp, ∃ o, h.get? b = some o ∧ ∀ v, o.data ≠ .cell v
  keep : ∀ i h h', tn i h → (∀ b ∈ fp, ∀ o, h.get? b = some o → h'.get? b = some o) → tn i h'
  item : ∀ (X : Cx), X.prog = P → X.w = w → X.K = K → X.calm = true → ∀ (i : Nat) (pins : List (Addr × Obj)) (s : Shared) (σ : St) (H : Hp) (E : Value → Shared → Prop), Inv X pins σ H s → (∀ b ∈ fp, FpOk X pins H b) → tn i s.heap → J.go i H →
    wpAny (model P w) X.A (pyNext (.ref it)) (fun r s1 => ∃ u, r = some u ∧
      wpAny (model P w) X.A (letOwnedTupleGo tg (.ref it) u) (fun _ s2 => ∃ x H', Inv X pins σ H' s2 ∧ RelV x u ∧ J.yld i H x H' ∧ tn (i + 1) s2.heap ∧ ∀ b ∈ fp, H' b = none) E s1) E s
  done : ∀ (X : Cx), X.prog = P → X.w = w → X.K = K → X.calm = true → ∀ (i : Nat) (pins : List (Addr × Obj)) (s : Shared) (σ : St) (H : Hp) (E : Value → Shared → Prop), Inv X pins σ H s → (∀ b ∈ fp, FpOk X pins H b) → tn i s.heap → J.stop i H →
    wpAny (model P w) X.A (pyNext (.ref it)) (fun r s1 => r = none ∧ Inv X pins σ H s1) E s
  self : ∀ (A : Around) (i : Nat) (s : Shared) (Q : Value → Shared → Prop) (E : Value → Shared → Prop), tn i s.heap → Q (.ref it) s → wpAny (model P w) A (pyIter (.ref it)) Q E s
abbrev TI := St → Hp → (It → Hp → Prop) → Prop
def PIE (X : Cx) (pins : List (Addr × Obj)) (σ : St) (tg : Expr) (R : It → Hp → Prop) (itv : Value) (s2 : Shared) : Prop :=
  ∃ (it : Addr) (fp : List Addr) (tn : Nat → Heap → Prop) (J : It) (H' : Hp), itv = .ref it ∧ Inv X pins σ H' s2 ∧ Turn X.prog X.w X.K tg J fp it tn ∧ tn 0 s2.heap ∧ (∀ b ∈ fp, FpOk X pins H' b) ∧ R J H'
def PI (X : Cx) (tg iter : Expr) (wi : TI) : Prop :=
  ∀ (pins : List (Addr × Obj)) (s : Shared) (σ : St) (H : Hp) (R : It → Hp → Prop), Inv X pins σ H s → wi σ H R →
    wpAny (model X.prog X.w) X.A (eval iter X.env) (fun v s1 => wpAny (model X.prog X.w) X.A (pyIter v) (PIE X pins σ tg R) X.xe s1) X.xe s
theorem go_of {M : Model} {A : Around} {E : Value → Shared → Prop} {s : Shared} {tg : Expr} {it : Addr} {u : Value} {o : Obj} {n : String} {vs : Array Value} {Q : Unit → Shared → Prop} (ho : s.heap.get? it = some o) (hc : o.cls = .type n) (hd : o.data = .fields vs)
    (hn : ["enumerate", "zip", "dict_itemiterator", "dict_reverseitemiterator", "odict_iterator", "itertools.zip_longest", "itertools.pairwise"].contains n = false) (hQ : Q () s) : wpAny M A (letOwnedTupleGo tg (.ref it) u) Q E s := by
  unfold letOwnedTupleGo
  cases tg <;> first
    | exact wpAny_pure hQ
    | (cases u <;> first
        | exact wpAny_pure hQ
        | (refine wpAny_bind (wpAny_load ho ?_)
           rw [hc, hd]
           show wpAny M A (if (["enumerate", "zip", "dict_itemiterator", "dict_reverseitemiterator", "odict_iterator", "itertools.zip_longest", "itertools.pairwise"].contains n && vs[0]? == some (rawInt _)) = true then _ else _) Q E s
           rw [if_neg (by intro h; rw [hn, Bool.false_and] at h; cases h)]
           exact wpAny_pure hQ))
def Itl (K : PySem.W.Frag) (a : Addr) : It :=
  ⟨fun i H => ∃ xs x, SqL K H a xs ∧ xs[i]? = some x, fun i H x H' => H' = H ∧ ∀ xs, SqL K H a xs → xs[i]? = some x, fun i H => ∃ xs, SqL K H a xs ∧ xs.length ≤ i⟩
def Itr (lo : Int) (n : Nat) : It := ⟨fun i _ => i < n, fun i H x H' => H' = H ∧ x = .int (lo + i), fun i _ => n ≤ i⟩
theorem turn_list {P : Program} {w : World} {K : PySem.W.Frag} {tg : Expr} (a it : Addr) : Turn P w K tg (Itl K a) [it] it (fun i h => h.IsListIter it a i) where
  mem := by simp
  obj := fun i h st b hb => by
    have e : b = it := by simpa using hb
    subst e
    obtain ⟨o, e, c, d⟩ := st
    exact ⟨o, e, fun v z => by rw [d] at z; cases z⟩
  keep := fun i h h' st k => st.at fun o e => k it (by simp) o e
  item := by
    intro X hP hw hK hc i pins s σ H E I hf st hg
    subst hP hw hK
    obtain ⟨xs, x, hq, hx⟩ := hg
    obtain ⟨its, rv, p, hz⟩ := I.list hq
    obtain ⟨u, hu, ru⟩ := rv.get hx
    obtain ⟨f0, f1, f2, f3, f4, f5⟩ := hf it (by simp)
    refine wpAny_pyNext_list_item st p.isList (x := u) (by simpa using hu) fun h' st' sb => ?_
    have I1 : Inv X pins σ H { s with heap := h' } := I.turned (t' := s.toks) (fun b o hb e => (sb.2 b hb).trans e) f0 f1 f3 f4 f5
    obtain ⟨o, e, c, d⟩ := id st'
    exact ⟨u, rfl, go_of (s := { s with heap := h' }) e c d (by decide) ⟨x, H, I1, ru, ⟨rfl, fun ys hy => by rw [I.list_inj hy hq]; exact hx⟩, st', fun b hb => (hf b hb).1⟩⟩
  done := by
    intro X hP hw hK hc i pins s σ H E I hf st hg
    subst hP hw hK
    obtain ⟨xs, hq, hx⟩ := hg
    obtain ⟨its, rv, p, hz⟩ := I.list hq
    obtain ⟨f0, f1, f2, f3, f4, f5⟩ := hf it (by simp)
    have hl := rv.length
    exact wpAny_pyNext_list_end (I.ok.hd hc) st p.isList (by simp; omega) fun h' eb => ⟨rfl, I.turned (t' := s.toks) (fun b o hb e => eb b o hb e) f0 f1 f3 f4 f5⟩
  self := fun _ _ _ _ _ st h => wpAny_pyIter_listiter st h
theorem turn_range {P : Program} {w : World} {K : PySem.W.Frag} {tg : Expr} (it : Addr) (lo : Int) (n : Nat) : Turn P w K tg (Itr lo n) [it] it (fun i h => IsRangeIter h it (lo + (i : Nat) * 1) ((n : Int) - (i : Nat)) 1) where
  mem := by simp
  obj := fun i h st b hb => by
    have e : b = it := by simpa using hb
    subst e
    exact ⟨_, st, fun v z => by
      have z' : Data.fields _ = Data.cell v := z
      cases z'⟩
  keep := fun i h h' st k => k it (by simp) _ st
  item := by
    intro X hP hw hK hc i pins s σ H E I hf st hg
    subst hP hw hK
    obtain ⟨f0, f1, f2, f3, f4, f5⟩ := hf it (by simp)
    have W := Walks.range (prog := X.prog) (w := X.w) (I.ok.hd hc) it lo 1 n
    refine W.item i s _ _ hg st fun v h' tk hv st' kk => ?_
    obtain ⟨t, rfl⟩ := hv
    have I1 : Inv X pins σ H { s with heap := h', toks := tk } := I.turned (fun b o hb e => kk b o (by simpa using hb) e) f0 f1 f3 f4 f5
    refine ⟨_, rfl, go_of (s := { s with heap := h', toks := tk }) (n := "range_iterator") st' rfl rfl (by decide) ⟨.int (lo + i), H, I1, ⟨t, ?_⟩, ⟨rfl, rfl⟩, st', fun b hb => (hf b hb).1⟩⟩
    rw [Int.mul_one]
  done := by
    intro X hP hw hK hc i pins s σ H E I hf st hg
    subst hP hw hK
    obtain ⟨f0, f1, f2, f3, f4, f5⟩ := hf it (by simp)
    exact wpAny_pyNext_range_end (I.ok.hd hc) st (by have : n ≤ i := hg; omega) fun h' eb => ⟨rfl, I.turned (t' := s.toks) (fun b o hb e => eb b o hb e) f0 f1 f3 f4 f5⟩
  self := fun _ _ _ _ _ st h => wpAny_pyIter_rangeiter st h
end L2
namespace L2
open PySem PySem.Spec PyProof.Rows
section
variable {X : Cx} {tg : Expr}
def iList (K : PySem.W.Frag) (tl : TE) : TI := fun σ H R => tl σ H fun x H1 => ∃ a, x = .ref a ∧ (∃ xs, SqL K H1 a xs) ∧ R (Itl K a) H1
theorem pi_list {l : Expr} {tl : TE} (hl : PE X l tl) : PI X tg l (iList X.K tl) := by
  intro pins s σ H R I h
  refine thn (hl pins s σ H _ I h) fun v s1 ⟨x, H1, I1, r1, q1⟩ => ?_
  obtain ⟨a, e, ⟨xs, hq⟩, q⟩ := q1
  subst e
  cases r1
  obtain ⟨its, rv, p, hz⟩ := I1.list hq
  refine wpAny_pyIter_list p.isList ?_
  refine ⟨s1.heap.objs.size, [s1.heap.objs.size], _, _, H1, rfl, I1.kept (t' := s1.toks) fun b o e => Heap.get?_push_of_some _ e, turn_list a _, ⟨_, Heap.get?_push_size _ rfl, rfl, rfl⟩, fun b hb => ?_, q⟩
  have e : b = s1.heap.objs.size := by simpa using hb
  subst e
  exact I1.fpOk (Nat.le_refl _) (I1.hok.fresh (Nat.le_refl _))
theorem range_it {pins : List (Addr × Obj)} {σ : St} {H : Hp} {s : Shared} {R : It → Hp → Prop} {E : Value → Shared → Prop} {lo hi : Int} {t u v : Tok} {tk : Nat} (I : Inv X pins σ H s) (h1 : -(2 ^ 62) ≤ lo) (h2 : lo < 2 ^ 62) (h3 : -(2 ^ 62) ≤ hi) (h4 : hi < 2 ^ 62)
    (q : R (Itr lo (hi - lo).toNat) H) : wpAny (model X.prog X.w) X.A (pyIter (.ref s.heap.objs.size)) (PIE X pins σ tg R) E { s with heap := s.heap.push { cls := .type "range", data := .fields #[.int lo t, .int hi u, .int 1 v] }, toks := tk } := by
  refine wpAny_pyIter_range (IsRange.new ..) (small_one h1 h2 h3 h4) ?_
  have I1 : Inv X pins σ H { s with heap := s.heap.push { cls := .type "range", data := .fields #[.int lo t, .int hi u, .int 1 v] }, toks := tk } := I.kept fun b o e => Heap.get?_push_of_some _ e
  refine ⟨(s.heap.push { cls := .type "range", data := .fields #[.int lo t, .int hi u, .int 1 v] }).objs.size, [(s.heap.push { cls := .type "range", data := .fields #[.int lo t, .int hi u, .int 1 v] }).objs.size], _, _, H, rfl,
    I1.kept (t' := tk) fun b o e => Heap.get?_push_of_some _ e, turn_range _ lo (hi - lo).toNat, ?_, fun b hb => ?_, q⟩
  · have e1 : lo + ((0 : Nat) : Int) * 1 = lo := by simp
    have e2 : (((hi - lo).toNat : Nat) : Int) - ((0 : Nat) : Int) = Builtin.Range.rangeSize lo hi 1 := by rw [rangeSize_one]; split <;> omega
    show IsRangeIter _ _ (lo + ((0 : Nat) : Int) * 1) ((((hi - lo).toNat : Nat) : Int) - ((0 : Nat) : Int)) 1
    rw [e1, e2]
    exact Heap.get?_push_size _ rfl
  · have e : b = (s.heap.push { cls := .type "range", data := .fields #[.int lo t, .int hi u, .int 1 v] }).objs.size := by simpa using hb
    subst e
    exact I1.fpOk (Nat.le_refl _) (I1.hok.fresh (Nat.le_refl _))
def iRng1 (ta : TA) : TI := fun σ H R => ta σ H fun vs H1 => ∃ j : Int, vs = [.int j] ∧ -(2 ^ 62) ≤ j ∧ j < 2 ^ 62 ∧ R (Itr 0 j.toNat) H1
theorem pi_range1 {a : Expr} {ta : TA} {p pos : Pos} (hg : Gl X "range") (hm : X.mg "range" = none) (ha : PA X [a] ta) (hs : starEach [a] X.env = [(false, eval a X.env)] := by rfl) : PI X tg (.Call (.Name "range" p) [a] [] pos) (iRng1 ta) := by
  intro pins s σ H R I h
  refine Call_ (ld_blt I hg hm boot_range (PyProof.Rows.callWith_type1 (thn (ha pos pins s σ H _ I h) fun us s1 ⟨vs, H1, I1, r1, q1⟩ => ?_) hs rfl))
  obtain ⟨j, e, q1, q2, q⟩ := q1
  subst e
  cases r1 with
  | cons r rr =>
    cases rr
    obtain ⟨t, rfl⟩ := r
    exact call_range_1 (range_it I1 (by omega) (by omega) q1 q2 (by simpa using q))
def tFor (wi : TI) (g : TG) (tb : TS) : TS := fun D σ H => wi σ H fun J H1 => ∃ W : Nat → Nat → St → Hp → Prop, (∃ m, W 0 m σ H1) ∧ ∀ i m σ H, W i m σ H →
  (J.stop i H ∧ D.nx σ H) ∨ (J.go i H ∧ ∃ N : St → Hp → Prop, (∀ σ' H', N σ' H' → ∃ m', m' < m ∧ W (i + 1) m' σ' H') ∧ ∀ x H', J.yld i H x H' → g x σ H' fun σ2 H2 => tb { D with nx := N, ct := N, bk := D.nx } σ2 H2)
def pinsAt (fp : List Addr) (h : Heap) : List (Addr × Obj) := fp.filterMap fun b => (h.get? b).map fun o => (b, o)
theorem mem_pinsAt {fp : List Addr} {h : Heap} {b : Addr} {o : Obj} (hb : b ∈ fp) (e : h.get? b = some o) : (b, o) ∈ pinsAt fp h := List.mem_filterMap.mpr ⟨b, hb, by rw [e]; rfl⟩
theorem of_pinsAt {fp : List Addr} {h : Heap} {p : Addr × Obj} (hp : p ∈ pinsAt fp h) : p.1 ∈ fp ∧ h.get? p.1 = some p.2 := by
  obtain ⟨b, hb, e⟩ := List.mem_filterMap.mp hp
  cases q : h.get? b with
  | none => rw [q] at e; cases e
  | some o =>
    rw [q] at e
    have e' : (b, o) = p := Option.some.inj e
    subst e'
    exact ⟨hb, q⟩
theorem Inv.pinned {pins : List (Addr × Obj)} {σ : St} {H : Hp} {s : Shared} {fp : List Addr} (I : Inv X pins σ H s) (hf : ∀ b ∈ fp, FpOk X pins H b) (ho : ∀ b ∈ fp, ∃ o, s.heap.get? b = some o ∧ ∀ v, o.data ≠ .cell v) : Inv X (pins ++ pinsAt fp s.heap) σ H s :=
  I.pins_of fun p hp => (List.mem_append.mp hp).elim (fun z => I.pin p (List.mem_append_right _ z)) fun z => by
    obtain ⟨hb, e⟩ := of_pinsAt z
    obtain ⟨f0, f1, f2, _⟩ := hf p.1 hb
    obtain ⟨o, e', d⟩ := ho p.1 hb
    rw [e] at e'; cases e'
    exact ⟨e, f0, f1, f2, d⟩
theorem Inv.unpinned {pins pl : List (Addr × Obj)} {σ : St} {H : Hp} {s : Shared} (I : Inv X (pins ++ pl) σ H s) : Inv X pins σ H s := I.pins_of fun p hp => I.pin p (List.mem_append_right _ (List.mem_append_left _ hp))
theorem ps_for {iter : Expr} {body : List Stmt} {wi : TI} {g : TG} {tb : TS} {pos : Pos} (hp : PassesOwn (model X.prog X.w) X.A X.env X.xe) (hc : X.calm = true) (hi : PI X tg iter wi) (hg : PG X tg g) (hb : PSs X body tb)
    (hs : ∀ x, foldedSetIterable iter X.env x = pure x := by intro _; rfl) : PS X (.For tg iter body [] pos) (tFor wi g tb) := by
  intro pins s σ H D I h
  refine wpAny_For (thn (hi pins s σ H _ I h) fun v s1 h1 => thn h1 fun itv s2 h2 => ?_) hs
  obtain ⟨it, fp, tn, J, H2, e, I2, T, st2, f2, W, ⟨m0, w0⟩, turn⟩ := h2
  subst e
  -- what stays true of the iterator's objects through the loop
  have stat : ∀ {H' : Hp}, (∀ b ∈ fp, H' b = none) → ∀ b ∈ fp, FpOk X pins H' b := fun hn b hb => ⟨hn b hb, (f2 b hb).2⟩
  refine codeAny_forLoop_any (fun n s' => ∃ i σ' H', Inv X pins σ' H' s' ∧ tn i s'.heap ∧ (∀ b ∈ fp, H' b = none) ∧ W i n σ' H') ?_ m0 ⟨0, σ, H2, I2, st2, fun b hb => (f2 b hb).1, w0⟩
  rintro n s3 ⟨i, σ3, H3, I3, st3, fr3, w3⟩
  rcases turn i n σ3 H3 w3 with ⟨stop, qn⟩ | ⟨go, N, hN, step⟩
  · refine wpAny_passesOwn hp (thn (T.done X rfl rfl rfl hc i pins s3 σ3 H3 X.xe I3 (stat fr3) st3 stop) fun r s4 ⟨hr, I4⟩ => ?_)
    subst hr
    exact wpAny_execs_nil ⟨σ3, H3, I4, qn⟩
  · refine wpAny_passesOwn hp (thn (T.item X rfl rfl rfl hc i pins s3 σ3 H3 X.xe I3 (stat fr3) st3 go) fun r s4 ⟨u, hr, h4⟩ => ?_)
    subst hr
    refine wpAny_passesOwn hp (thn h4 fun _ s5 ⟨x, H5, I5, r5, y5, st5, fr5⟩ => ?_)
    have I5' := I5.pinned (stat fr5) (T.obj _ _ st5)
    refine wpAny_passesOwn hp (thn (hg _ s5 σ3 H5 x u _ I5' r5 (step x H5 y5)) fun _ s6 ⟨σ6, H6, I6, q6⟩ => ?_)
    refine wpAny_passesOwn hp (thn (hb _ s6 σ6 H6 _ I6 q6) fun f s7 q7 => ?_)
    have again : ∀ {σ7 : St} {H7 : Hp}, Inv X (pins ++ pinsAt fp s5.heap) σ7 H7 s7 → N σ7 H7 → ∃ m, m < n ∧ ∃ i σ' H', Inv X pins σ' H' s7 ∧ tn i s7.heap ∧ (∀ b ∈ fp, H' b = none) ∧ W i m σ' H' := fun {σ7 H7} I7 n7 => by
      obtain ⟨m', hm, w7⟩ := hN σ7 H7 n7
      refine ⟨m', hm, i + 1, σ7, H7, I7.unpinned, T.keep _ _ _ st5 fun b hb o e => (I7.pin (b, o) (List.mem_append_right _ (List.mem_append_right _ (mem_pinsAt hb e)))).1, fun b hb => ?_, w7⟩
      obtain ⟨o, e, d⟩ := T.obj _ _ st5 b hb
      exact (I7.pin (b, o) (List.mem_append_right _ (List.mem_append_right _ (mem_pinsAt hb e)))).2.1
    cases f with
    | next => obtain ⟨σ7, H7, I7, n7⟩ := q7; exact again I7 n7
    | cont => obtain ⟨σ7, H7, I7, n7⟩ := q7; exact again I7 n7
    | brk => obtain ⟨σ7, H7, I7, q7⟩ := q7; exact ⟨σ7, H7, I7.unpinned, q7⟩
    | ret v => obtain ⟨x7, σ7, H7, I7, r7, q7⟩ := q7; exact ⟨x7, σ7, H7, I7.unpinned, r7, q7⟩
end
theorem for_list {K : PySem.W.Frag} {a : Addr} {xs : List V} {g : TG} {tb : TS} {D : Ends} {σ : St} {H : Hp} (Pv : Nat → St → Hp → Prop) (h0 : Pv 0 σ H) (hl : ∀ i σ H, i ≤ xs.length → Pv i σ H → SqL K H a xs)
    (hs : ∀ i x σ H, xs[i]? = some x → Pv i σ H → g x σ H fun σ2 H2 => tb { D with nx := Pv (i + 1), ct := Pv (i + 1), bk := D.nx } σ2 H2) (hd : ∀ σ H, Pv xs.length σ H → D.nx σ H) :
    ∃ W : Nat → Nat → St → Hp → Prop, (∃ m, W 0 m σ H) ∧ ∀ i m σ H, W i m σ H →
      ((Itl K a).stop i H ∧ D.nx σ H) ∨ ((Itl K a).go i H ∧ ∃ N : St → Hp → Prop, (∀ σ' H', N σ' H' → ∃ m', m' < m ∧ W (i + 1) m' σ' H') ∧ ∀ x H', (Itl K a).yld i H x H' → g x σ H' fun σ2 H2 => tb { D with nx := N, ct := N, bk := D.nx } σ2 H2) := by
  refine ⟨fun i m σ H => m = xs.length - i ∧ i ≤ xs.length ∧ Pv i σ H, ⟨xs.length, by simp, Nat.zero_le _, h0⟩, ?_⟩
  rintro i m σ H ⟨rfl, hi, p⟩
  have q := hl i σ H hi p
  by_cases hlt : i < xs.length
  · refine .inr ⟨⟨xs, xs[i], q, by simp [hlt]⟩, Pv (i + 1), fun σ' H' p' => ⟨xs.length - (i + 1), by omega, rfl, hlt, p'⟩, fun x H' y => ?_⟩
    obtain ⟨e, y⟩ := y
    subst e
    exact hs i x σ _ (y xs q) p
  · have e : i = xs.length := by omega
    subst e
    exact .inl ⟨⟨xs, q, Nat.le_refl _⟩, hd σ H p⟩
theorem for_range {lo : Int} {n : Nat} {g : TG} {tb : TS} {D : Ends} {σ : St} {H : Hp} (Pv : Nat → St → Hp → Prop) (h0 : Pv 0 σ H)
    (hs : ∀ i σ H, i < n → Pv i σ H → g (.int (lo + i)) σ H fun σ2 H2 => tb { D with nx := Pv (i + 1), ct := Pv (i + 1), bk := D.nx } σ2 H2) (hd : ∀ σ H, Pv n σ H → D.nx σ H) :
    ∃ W : Nat → Nat → St → Hp → Prop, (∃ m, W 0 m σ H) ∧ ∀ i m σ H, W i m σ H →
      ((Itr lo n).stop i H ∧ D.nx σ H) ∨ ((Itr lo n).go i H ∧ ∃ N : St → Hp → Prop, (∀ σ' H', N σ' H' → ∃ m', m' < m ∧ W (i + 1) m' σ' H') ∧ ∀ x H', (Itr lo n).yld i H x H' → g x σ H' fun σ2 H2 => tb { D with nx := N, ct := N, bk := D.nx } σ2 H2) := by
  refine ⟨fun i m σ H => m = n - i ∧ i ≤ n ∧ Pv i σ H, ⟨n, by simp, Nat.zero_le _, h0⟩, ?_⟩
  rintro i m σ H ⟨rfl, hi, p⟩
  by_cases hlt : i < n
  · refine .inr ⟨hlt, Pv (i + 1), fun σ' H' p' => ⟨n - (i + 1), by omega, rfl, hlt, p'⟩, fun x H' y => ?_⟩
    obtain ⟨e, y⟩ := y
    subst e y
    exact hs i σ _ hlt p
  · have e : i = n := by omega
    subst e
    exact .inl ⟨Nat.le_refl _, hd σ H p⟩
end L2
namespace L2
open PySem PySem.Spec PyProof.Rows
abbrev R2 := V → V → Hp → VK → Prop
def OpR (X : Cx) (f : Value → Value → Sem Value) (r : R2) : Prop :=
  ∀ (pins : List (Addr × Obj)) (s : Shared) (σ : St) (H : Hp) (x y : V) (v u : Value) (Q : VK), Inv X pins σ H s → RelV x v → RelV y u → r x y H Q →
    wpAny (model X.prog X.w) X.A (f v u) (EP X pins σ Q) X.xe s
def CallR (X : Cx) (f : Value) (r : List V → Hp → VK → Prop) : Prop :=
  ∀ (pins : List (Addr × Obj)) (s : Shared) (σ : St) (H : Hp) (xs : List V) (us : List Value) (Q : VK), Inv X pins σ H s → Vals xs us → r xs H Q →
    wpAny (model X.prog X.w) X.A (call f us) (EP X pins σ Q) X.xe s
def tOp (r : R2) (ta tb : TE) : TE := fun σ H Q => ta σ H fun x H1 => tb σ H1 fun y H2 => r x y H2 Q
def rI (C : Int → Int → Prop) (g : Int → Int → V) : R2 := fun x y H Q => ∃ i j, x = .int i ∧ y = .int j ∧ C i j ∧ Q (g i j) H
def rI0 (g : Int → Int → V) : R2 := fun x y H Q => ∃ i j, x = .int i ∧ y = .int j ∧ Q (g i j) H
section
variable {X : Cx} {a b c : Expr} {ta tb tc : TE} {pos : Pos}
theorem binT (ha : PE X a ta) (hb : PE X b tb) {pins : List (Addr × Obj)} {s : Shared} {σ : St} {H : Hp} {R : V → V → Hp → Prop} (I : Inv X pins σ H s)
    (h : ta σ H fun x H1 => tb σ H1 fun y H2 => R x y H2) {Q : Value → Shared → Prop} {f : Value → Value → Sem Value}
    (hf : ∀ v u s2 x y H2, Inv X pins σ H2 s2 → RelV x v → RelV y u → R x y H2 → wpAny (model X.prog X.w) X.A (f v u) Q X.xe s2) :
    wpAny (model X.prog X.w) X.A (eval a X.env) (fun v s₁ => wpAny (model X.prog X.w) X.A (eval b X.env) (fun u s₂ => wpAny (model X.prog X.w) X.A (f v u) Q X.xe s₂) X.xe s₁) X.xe s := by
  refine thn (ha pins s σ H _ I h) fun v s1 ⟨x, H1, I1, r1, q1⟩ => ?_
  refine thn (hb pins s1 σ H1 _ I1 q1) fun u s2 ⟨y, H2, I2, r2, q2⟩ => ?_
  exact hf v u s2 x y H2 I2 r1 r2 q2
theorem pe_op {op : Operator} {r : R2} (ho : OpR X (binaryOp op) r) (ha : PE X a ta) (hb : PE X b tb) : PE X (.BinOp a op b pos) (tOp r ta tb) := by
  intro pins s σ H Q I h
  exact wpAny_BinOp (binT ha hb I h fun v u s2 x y H2 I2 rx ry q => ho pins s2 σ H2 x y v u Q I2 rx ry q)
theorem opI {f : Value → Value → Sem Value} {C : Int → Int → Prop} {g : Int → Int → Int}
    (rule : ∀ (i j : Int) (t u : Tok) (s : Shared) (Q : Value → Shared → Prop) (E : Value → Shared → Prop), C i j → Q (.int (g i j) s.toks) { s with toks := s.toks + 1 } → wpAny (model X.prog X.w) X.A (f (.int i t) (.int j u)) Q E s) :
    OpR X f (rI C fun i j => .int (g i j)) := by
  intro pins s σ H x y v u Q I rx ry h
  obtain ⟨i, j, rfl, rfl, hc, q⟩ := h
  obtain ⟨t, rfl⟩ := rx
  obtain ⟨t', rfl⟩ := ry
  exact rule i j t t' s _ _ hc ⟨.int (g i j), H, I.tok _, ⟨_, rfl⟩, q⟩
theorem opI0 {f : Value → Value → Sem Value} {g : Int → Int → Int}
    (rule : ∀ (i j : Int) (t u : Tok) (s : Shared) (Q : Value → Shared → Prop) (E : Value → Shared → Prop), Q (.int (g i j) s.toks) { s with toks := s.toks + 1 } → wpAny (model X.prog X.w) X.A (f (.int i t) (.int j u)) Q E s) :
    OpR X f (rI0 fun i j => .int (g i j)) := by
  intro pins s σ H x y v u Q I rx ry h
  obtain ⟨i, j, rfl, rfl, q⟩ := h
  obtain ⟨t, rfl⟩ := rx
  obtain ⟨t', rfl⟩ := ry
  exact rule i j t t' s _ _ ⟨.int (g i j), H, I.tok _, ⟨_, rfl⟩, q⟩
theorem opB0 {f : Value → Value → Sem Value} {g : Int → Int → Bool}
    (rule : ∀ (i j : Int) (t u : Tok) (s : Shared) (Q : Value → Shared → Prop) (E : Value → Shared → Prop), Q (.bool (g i j)) s → wpAny (model X.prog X.w) X.A (f (.int i t) (.int j u)) Q E s) :
    OpR X f (rI0 fun i j => .bl (g i j)) := by
  intro pins s σ H x y v u Q I rx ry h
  obtain ⟨i, j, rfl, rfl, q⟩ := h
  obtain ⟨t, rfl⟩ := rx
  obtain ⟨t', rfl⟩ := ry
  exact rule i j t t' s _ _ ⟨.bl (g i j), H, I, rfl, q⟩
def CMul (i j : Int) : Prop := (-(2 ^ 64) < i ∧ i < 2 ^ 64) ∨ (-(2 ^ 64) < j ∧ j < 2 ^ 64)
theorem CMul.ok {i j : Int} (h : CMul i j) : IntMulOk i j := by
  rcases h with ⟨h1, h2⟩ | ⟨h1, h2⟩
  · exact .of_left (intBits_le_64 h1 h2)
  · exact .of_right (intBits_le_64 h1 h2)
theorem op_add : OpR X (binaryOp .Add) (rI0 fun i j => .int (i + j)) := opI0 fun _ _ _ _ _ _ _ q => add_int q
theorem op_mul : OpR X (binaryOp .Mult) (rI CMul fun i j => .int (i * j)) := opI fun _ _ _ _ _ _ _ hc q => mul_int q hc.ok
theorem op_mod : OpR X (binaryOp .Mod) (rI (fun _ j => 0 < j) fun i j => .int (i % j)) := opI fun i j _ _ _ _ _ hc q => by
  have h1 : (0 : Int) < j := hc
  exact mod_int' (by omega) (by rw [Int.fmod_eq_emod_of_nonneg i (by omega)]; exact q)
end
def scal : V → V → Bool
  | .non, .non => true | .non, .int _ => true | .int _, .non => true | .non, .bl _ => true | .bl _, .non => true | .non, .str _ => true | .str _, .non => true
  | .int _, .int _ => true | .bl _, .bl _ => true | .str _, .str _ => true | .byt _, .byt _ => true
  | .int _, .str _ => true | .str _, .int _ => true | .bl _, .str _ => true | .str _, .bl _ => true
  | _, _ => false
def rEq : R2 := fun x y H Q => scal x y = true ∧ Q (.bl (decide (x = y))) H
def rNe : R2 := fun x y H Q => scal x y = true ∧ Q (.bl (!decide (x = y))) H
theorem dec_int {i j : Int} : decide (V.int i = V.int j) = (i == j) := by
  rw [Bool.eq_iff_iff]
  simp
theorem dec_bl {i j : Bool} : decide (V.bl i = V.bl j) = (i == j) := by
  rw [Bool.eq_iff_iff]
  simp
theorem dec_str {i j : Str} : decide (V.str i = V.str j) = (i == j) := by
  rw [Bool.eq_iff_iff]
  simp
theorem dec_byt {i j : Array UInt8} : decide (V.byt i = V.byt j) = (i.toList == j.toList) := by
  rw [Bool.eq_iff_iff]
  cases i
  cases j
  simp
section
variable {X : Cx} {a b c : Expr} {ta tb tc : TE} {pos : Pos}
theorem fin_bl {pins : List (Addr × Obj)} {σ : St} {H : Hp} {s : Shared} {Q : VK} {k k' : Bool} (I : Inv X pins σ H s) (q : Q (.bl k) H) (e : k = k') : EP X pins σ Q (.bool k') s := by
  subst e
  exact ⟨.bl k, H, I, rfl, q⟩
theorem op_eq : OpR X (compareOp .Eq) rEq := by
  intro pins s σ H x y v u Q I rx ry h
  obtain ⟨hs, q⟩ := h
  cases x with
  | non =>
    cases rx
    cases y with
    | non => cases ry; exact PySem.EqNone.eq_none_none (fin_bl I q (by simp))
    | bl j => cases ry; exact PySem.EqNone.eq_none_bool (fin_bl I q (by simp))
    | int j => obtain ⟨t', rfl⟩ := ry; exact PySem.EqNone.eq_none_int (fin_bl I q (by simp))
    | str j => obtain ⟨t', rfl⟩ := ry; exact PySem.EqNone.eq_none_str (fin_bl I q (by simp))
    | _ => exact absurd (show false = true from hs) Bool.false_ne_true
  | bl i =>
    cases rx
    cases y with
    | non => cases ry; exact PySem.EqNone.eq_bool_none (fin_bl I q (by simp))
    | bl j => cases ry; exact eq_bool (fin_bl I q dec_bl)
    | str j => obtain ⟨t', rfl⟩ := ry; exact PySem.EqMixed.eq_bool_str (fin_bl I q (by simp))
    | _ => exact absurd (show false = true from hs) Bool.false_ne_true
  | int i =>
    obtain ⟨t, rfl⟩ := rx
    cases y with
    | non => cases ry; exact PySem.EqNone.eq_int_none (fin_bl I q (by simp))
    | int j => obtain ⟨t', rfl⟩ := ry; exact eq_int (fin_bl I q dec_int)
    | str j => obtain ⟨t', rfl⟩ := ry; exact PySem.EqMixed.eq_int_str (fin_bl I q (by simp))
    | _ => exact absurd (show false = true from hs) Bool.false_ne_true
  | str i =>
    obtain ⟨t, rfl⟩ := rx
    cases y with
    | non => cases ry; exact PySem.EqNone.eq_str_none (fin_bl I q (by simp))
    | bl j => cases ry; exact PySem.EqMixed.eq_str_bool (fin_bl I q (by simp))
    | int j => obtain ⟨t', rfl⟩ := ry; exact PySem.EqMixed.eq_str_int (fin_bl I q (by simp))
    | str j => obtain ⟨t', rfl⟩ := ry; exact eq_str (fin_bl I q dec_str)
    | _ => exact absurd (show false = true from hs) Bool.false_ne_true
  | byt i =>
    obtain ⟨t, rfl⟩ := rx
    cases y with
    | byt j => obtain ⟨t', rfl⟩ := ry; exact PySem.W.eq_bytes (fin_bl I q dec_byt)
    | _ => exact absurd (show false = true from hs) Bool.false_ne_true
  | _ => cases y <;> exact absurd (show false = true from hs) Bool.false_ne_true
theorem op_ne : OpR X (compareOp .NotEq) rNe := by
  intro pins s σ H x y v u Q I rx ry h
  obtain ⟨hs, q⟩ := h
  cases x with
  | non =>
    cases rx
    cases y with
    | non => cases ry; exact PySem.EqNone.ne_none_none (fin_bl I q (by simp))
    | bl j => cases ry; exact PySem.EqNone.ne_none_bool (fin_bl I q (by simp))
    | int j => obtain ⟨t', rfl⟩ := ry; exact PySem.EqNone.ne_none_int (fin_bl I q (by simp))
    | str j => obtain ⟨t', rfl⟩ := ry; exact PySem.EqNone.ne_none_str (fin_bl I q (by simp))
    | _ => exact absurd (show false = true from hs) Bool.false_ne_true
  | bl i =>
    cases rx
    cases y with
    | non => cases ry; exact PySem.EqNone.ne_bool_none (fin_bl I q (by simp))
    | bl j => cases ry; exact ne_bool (fin_bl I q (congrArg not dec_bl))
    | str j => obtain ⟨t', rfl⟩ := ry; exact PySem.EqMixed.ne_bool_str (fin_bl I q (by simp))
    | _ => exact absurd (show false = true from hs) Bool.false_ne_true
  | int i =>
    obtain ⟨t, rfl⟩ := rx
    cases y with
    | non => cases ry; exact PySem.EqNone.ne_int_none (fin_bl I q (by simp))
    | int j => obtain ⟨t', rfl⟩ := ry; exact ne_int (fin_bl I q (congrArg not dec_int))
    | str j => obtain ⟨t', rfl⟩ := ry; exact PySem.EqMixed.ne_int_str (fin_bl I q (by simp))
    | _ => exact absurd (show false = true from hs) Bool.false_ne_true
  | str i =>
    obtain ⟨t, rfl⟩ := rx
    cases y with
    | non => cases ry; exact PySem.EqNone.ne_str_none (fin_bl I q (by simp))
    | bl j => cases ry; exact PySem.EqMixed.ne_str_bool (fin_bl I q (by simp))
    | int j => obtain ⟨t', rfl⟩ := ry; exact PySem.EqMixed.ne_str_int (fin_bl I q (by simp))
    | str j => obtain ⟨t', rfl⟩ := ry; exact ne_str (fin_bl I q (congrArg not dec_str))
    | _ => exact absurd (show false = true from hs) Bool.false_ne_true
  | byt i =>
    obtain ⟨t, rfl⟩ := rx
    cases y with
    | byt j => obtain ⟨t', rfl⟩ := ry; exact PySem.W.ne_bytes (fin_bl I q (congrArg not dec_byt))
    | _ => exact absurd (show false = true from hs) Bool.false_ne_true
  | _ => cases y <;> exact absurd (show false = true from hs) Bool.false_ne_true
theorem op_lt : OpR X (compareOp .Lt) (rI0 fun i j => .bl (decide (i < j))) := opB0 fun _ _ _ _ _ _ _ q => lt_int q
theorem nomark (b : Expr) {op : CmpOp} (h : op ≠ .In := by decide) (h2 : op ≠ .NotIn := by decide) : behindInMarks op b = false := by
  have e1 : (op == CmpOp.In) = false := by cases op <;> first | rfl | exact absurd rfl h
  have e2 : (op == CmpOp.NotIn) = false := by cases op <;> first | rfl | exact absurd rfl h2
  cases b <;> simp [behindInMarks, e1, e2]
theorem pe_cmpR {op : CmpOp} {r : R2} (ho : OpR X (compareOp op) r) (ha : PE X a ta) (hb : PE X b tb) (hm : behindInMarks op b = false) : PE X (.Compare a [op] [b] pos) (tOp r ta tb) := by
  intro pins s σ H Q I h
  exact wpAny_Compare1 (binT ha hb I h fun v u s2 x y H2 I2 rx ry q => ho pins s2 σ H2 x y v u Q I2 rx ry q) hm
def tTest (t : TE) : TT := fun σ H Q => t σ H fun x H' => ∃ k, x = .bl k ∧ Q k H'
theorem pt_cmpR {op : CmpOp} {r : R2} (ho : OpR X (compareOp op) r) (ha : PE X a ta) (hb : PE X b tb) (hm : behindInMarks op b = false) : PT X (.Compare a [op] [b] pos) (tTest (tOp r ta tb)) := by
  intro pins s σ H Q I h
  refine wpAny_isTrue_Compare1 (thn (ha pins s σ H _ I h) fun v s1 ⟨x, H1, I1, r1, q1⟩ => thn (hb pins s1 σ H1 _ I1 q1) fun u s2 ⟨y, H2, I2, r2, q2⟩ =>
    thn (ho pins s2 σ H2 x y v u _ I2 r1 r2 q2) fun c s3 ⟨z, H3, I3, r3, k, e, q3⟩ => ?_) hm
  subst e
  cases r3
  exact wpAny_truthy_bool ⟨H3, I3, q3⟩
theorem line63 : (sizeLine : Nat) < 2 ^ 63 := by rw [sizeLine_eq]; decide
theorem op_add_str : OpR X (binaryOp .Add) (fun x y H Q => ∃ i j, x = .str i ∧ y = .str j ∧ i.length + j.length ≤ sizeLine ∧ Q (.str (i ++ j)) H) := by
  intro pins s σ H x y v u Q I rx ry h
  obtain ⟨i, j, rfl, rfl, hz, q⟩ := h
  obtain ⟨t, rfl⟩ := rx
  obtain ⟨t', rfl⟩ := ry
  exact add_str (fun t' tk => ⟨.str (i ++ j), H, I.tok _, ⟨_, rfl⟩, q⟩) hz
theorem vals1 {x : V} {us : List Value} (r : Vals [x] us) : ∃ u, us = [u] ∧ RelV x u := by
  cases r with
  | cons r1 r2 => cases r2; exact ⟨_, rfl, r1⟩
end
end L2
namespace L2
open PySem PySem.Spec PyProof.Rows
structure ObjM (h : Heap) (x dx C : Addr) (mA : Str → Option Value) : Prop where
  obj : h.get? x = some (PySem.W.instObj C dx)
  ns : h.Ns1 dx mA
  ne : dx ≠ x
theorem lookIn_ns {h : Heap} {dx : Addr} {mA : Str → Option Value} (n : h.Ns1 dx mA) : ∃ od, h.get? dx = some od ∧ ∀ name, PySem.W.lookIn name od = some (mA name) := by
  obtain ⟨o, es, ep, ho, hd, hk, _, hm⟩ := n
  refine ⟨o, ho, fun name => ?_⟩
  have e := hm name
  unfold nsFind findBy at e
  rw [← Array.find?_toList] at e
  unfold PySem.W.lookIn
  rw [hd]
  dsimp only
  split
  · rename_i y q
    rw [q] at e
    exact congrArg some e
  · rename_i q
    rw [q] at e
    have a : es.toList.any (·.refKey) = false := by
      rw [List.any_eq_false]
      intro y hy
      obtain ⟨z, t, hkey⟩ := hk y (Array.mem_toList_iff.mp hy)
      simp [DictEntry.refKey, hkey]
    have a' : ¬ es.toList.any (·.refKey) = true := by rw [a]; exact Bool.false_ne_true
    rw [if_neg a']
    exact congrArg some e
theorem ObjM.look {h : Heap} {x dx C : Addr} {mA : Str → Option Value} (I : ObjM h x dx C mA) : ∃ od, PySem.W.InstAt h x (PySem.W.instObj C dx) C (some od) ∧ ∀ name, PySem.W.lookIn name od = some (mA name) :=
  let ⟨od, ho, hl⟩ := lookIn_ns I.ns
  ⟨od, ⟨I.obj, rfl, rfl, ho⟩, hl⟩
section
variable {prog : Program} {w : World} {A : Around} {E : Value → Shared → Prop} {s : Shared} {K : PySem.W.Frag} {x dx C f : Addr} {mA : Str → Option Value} {name : Str} {v : Value}
end
section
variable {P : Program} {w : World} {H H' : Hp} {h h' : Heap} {a C dx : Addr} {fs fs' : List (Str × V)}
theorem ins_get (hok : HOk P w H h) (e : H a = some (.ins C dx fs)) : ∃ mA, ObjM h a dx C mA ∧ (∀ f, RelO (fs.lookup f) (mA f)) ∧ PySem.Within mA (fs.map (·.1)) ∧ fs.length ≤ 1000 ∧ H dx = some (.own a) := by
  obtain ⟨d, z, ne, ob, mA, n, r, q⟩ := (show ObjOk P w H h a (.ins C dx fs) from hok a _ e)
  exact ⟨mA, ⟨ob, n, ne⟩, r, q, z, d⟩
end
structure Cls (K : PySem.W.Frag) (C : Addr) : Prop where
  pg : PySem.W.plainGet K C Str.empty = true
  hd : PySem.W.hasDictIn K C = true
  po : PySem.W.plainOver K C = true
  sa : PySem.W.findIn K (.ref C) "__setattr__" = some (some (.builtin "object.__setattr__"))
theorem Cls.get {K : PySem.W.Frag} {C : Addr} (c : Cls K C) (f : Str) : PySem.W.plainGet K C f = true := c.pg
section
variable {X : Cx} {pins : List (Addr × Obj)} {σ : St} {H : Hp} {s : Shared} {a C dx : Addr} {fs : List (Str × V)} {f : Str} {v : V} {A : Around} {E : Value → Shared → Prop}
end
section
variable {X : Cx} {o e value : Expr} {f : Str} {pos pos' tpos : Pos} {ta tv : TE}
end
section
variable {X : Cx} {pins : List (Addr × Obj)} {σ : St} {H : Hp} {s : Shared} {A : Around} {E : Value → Shared → Prop} {Q : Value → Shared → Prop} {c : Value} {b : Bool}
inductive TyOf (K : PySem.W.Frag) (H : Hp) : V → Value → Prop where
  | non : TyOf K H .non (.type "NoneType")
  | bl (x : Bool) : TyOf K H (.bl x) (.type "bool")
  | int (i : Int) : TyOf K H (.int i) (.type "int")
  | str (x : Str) : TyOf K H (.str x) (.type "str")
  | flt (x : UInt64) : TyOf K H (.flt x) (.type "float")
  | lst {a : Addr} {xs : List V} (e : H a = some (.lst xs)) : TyOf K H (.ref a) (.type "list")
  | frz {a : Addr} {o : Obj} {xs : List V} (e : H a = some (.frz o (.lst xs))) : TyOf K H (.ref a) (.type "list")
  | tup {a : Addr} {xs : List V} (e : H a = some (.tup xs)) : TyOf K H (.ref a) (.type "tuple")
  | dK {a : Addr} {kvs : List (Key × V)} (e : H a = some (.dK kvs)) : TyOf K H (.ref a) (.type "dict")
  | dT {a : Addr} {kvs : List (List Key × V)} (e : H a = some (.dT kvs)) : TyOf K H (.ref a) (.type "dict")
  | ins {a C dx : Addr} {fs : List (Str × V)} (e : H a = some (.ins C dx fs)) (cl : Cls K C) (ha : PySem.W.findIn K (.ref C) "__class__" = some (some (.builtin "object.__class__")))
      (hn : PySem.W.specialIn K (.builtin "object.__class__") "__get__" = some (some (.builtin "getset_descriptor.__get__"))) (htk : PySem.W.takesIn K (.builtin "object.__class__") = some true)
      (hm : PySem.W.mroIn K C (.type "object") = some true) : TyOf K H (.ref a) (.ref C)
theorem isinst_ok {x : V} {u t : Value} (I : Inv X pins σ H s) (rx : RelV x u) (ty : TyOf X.K H x t) (e : PySem.W.kitOne X.K t c = some b) (h : ∀ tk, Q (.bool b) { s with toks := tk }) :
    wpAny (model X.prog X.w) A (call (.builtin "isinstance") [u, c]) Q E s := by
  cases ty with
  | non => cases (show u = Value.none from rx); exact PySem.W.kia_one PySem.W.kitx_none I.kIn True.intro e (fun z => nomatch z) h
  | bl y => cases (show u = Value.bool y from rx); exact PySem.W.kia_one PySem.W.kitx_bool I.kIn True.intro e (fun z => nomatch z) h
  | int i => obtain ⟨t, q⟩ := (show ∃ t, u = Value.int i t from rx); cases q; exact PySem.W.kia_one PySem.W.kitx_int I.kIn True.intro e (fun z => nomatch z) h
  | str y => obtain ⟨t, q⟩ := (show ∃ t, u = Value.str y t from rx); cases q; exact PySem.W.kia_one PySem.W.kitx_str I.kIn True.intro e (fun z => nomatch z) h
  | flt y => obtain ⟨t, q⟩ := (show ∃ t, u = Value.float y t from rx); cases q; exact PySem.W.kia_one PySem.W.kitx_float I.kIn True.intro e (fun z => nomatch z) h
  | @lst a xs ea =>
    cases (show u = Value.ref a from rx)
    obtain ⟨_, _, n, _, h1⟩ := (show ObjOk X.prog X.w H s.heap a (.lst xs) from I.hok a _ ea)
    exact PySem.W.kia_one PySem.W.kitx_list I.kIn ⟨_, h1, rfl⟩ e (fun z => nomatch z) h
  | @frz a ob xs ea =>
    cases (show u = Value.ref a from rx)
    obtain ⟨_, _, _, n, _, h1⟩ := (show ObjOk X.prog X.w H s.heap a (.frz ob (.lst xs)) from I.hok a _ ea)
    exact PySem.W.kia_one PySem.W.kitx_list I.kIn ⟨_, h1, rfl⟩ e (fun z => nomatch z) h
  | @tup a xs ea =>
    cases (show u = Value.ref a from rx)
    obtain ⟨_, _, _, p⟩ := (show ObjOk X.prog X.w H s.heap a (.tup xs) from I.hok a _ ea)
    obtain ⟨o, h1, h2, _⟩ := p
    exact PySem.W.kia_one PySem.W.kitx_tuple I.kIn ⟨o, h1, h2⟩ e (fun z => nomatch z) h
  | @dK a kvs ea =>
    cases (show u = Value.ref a from rx)
    obtain ⟨_, _, vs, _, p⟩ := (show ObjOk X.prog X.w H s.heap a (.dK kvs) from I.hok a _ ea)
    obtain ⟨o, es, ep, h1, h2, _⟩ := p
    exact PySem.W.kia_one PySem.W.kitx_dict I.kIn ⟨o, h1, h2.1⟩ e (fun z => nomatch z) h
  | @dT a kvs ea =>
    cases (show u = Value.ref a from rx)
    obtain ⟨_, _, xs, _, o, es, ep, h1, h2, _⟩ := (show ObjOk X.prog X.w H s.heap a (.dT kvs) from I.hok a _ ea)
    exact PySem.W.kia_one PySem.W.kitx_dict I.kIn ⟨o, h1, h2.1⟩ e (fun z => nomatch z) h
  | @ins a C dx fs ea cl ha hn htk hm =>
    cases (show u = Value.ref a from rx)
    obtain ⟨mA, O, _⟩ := ins_get I.hok ea
    obtain ⟨od, J, _⟩ := O.look
    exact PySem.W.kia_one (PySem.W.kitx_own (cl.get _) cl.hd ha hn htk hm) I.kIn J e (fun z => nomatch z) h
end
end L2
namespace L2
open PySem PySem.Spec PyProof.Rows
structure Room (k : Nat) (A : Around) : Prop where
  hd : A.handled = none
  dp : A.depth + 3 * k + 5 < recursionLimit
  un : A.units + 16 * k + 200 < cLine
theorem Room.mono {j k : Nat} {A : Around} (r : Room k A) (h : j ≤ k) : Room j A := ⟨r.hd, by have := r.dp; omega, by have := r.un; omega⟩
theorem Room.deeper {k : Nat} {A : Around} (r : Room (k + 1) A) (env : Env) : Room k (A.deeper env) :=
  ⟨r.hd, by have := r.dp; show A.depth + 1 + 3 * k + 5 < _; omega, by have := r.un; show A.units + 3 + 16 * k + 200 < _; omega⟩
theorem Room.depth {k : Nat} {A : Around} (r : Room k A) : A.depth < recursionLimit := by have := r.dp; omega
theorem Room.units {k : Nat} {A : Around} (r : Room k A) : A.units + 64 < cLine := by have := r.un; omega
def tNil : TA := fun _ H Q => Q [] H
def tCons (ta : TE) (tr : TA) : TA := fun σ H Q => ta σ H fun x H1 => tr σ H1 fun xs H2 => Q (x :: xs) H2
section
variable {X : Cx} {e : Expr} {es : List Expr} {te : TE} {t : TA} {pos : Pos}
theorem pa_nil : PA X [] tNil := fun _ _ _ _ H Q I h => Calls.spliced_nil ⟨[], H, I, .nil, h⟩
theorem pa_cons (ha : PE X e te) (hr : PA X es t) (hs : starEach (e :: es) X.env = (false, eval e X.env) :: starEach es X.env := by rfl) : PA X (e :: es) (tCons te t) := by
  intro pos pins s σ H Q I h
  rw [hs]
  show wpAny _ _ (spliced ((false, eval e X.env) :: backTo pos (starEach es X.env))) _ _ s
  refine Calls.spliced_cons (thn (ha pins s σ H _ I h) fun u s1 ⟨x, H1, I1, r1, q1⟩ => ?_)
  exact thn (hr pos pins s1 σ H1 _ I1 q1) fun us s2 ⟨xs, H2, I2, r2, q2⟩ => ⟨x :: xs, H2, I2, .cons r1 r2, q2⟩
def tTup (t : TA) : TE := fun σ H Q => t σ H fun xs H1 => xs.length ≤ sizeLine ∧ ∀ p, H1 p = none → Q (.ref p) (upd H1 p (.tup xs))
def tLst (t : TA) : TE := fun σ H Q => t σ H fun xs H1 => xs.length ≤ sizeLine ∧ ∀ p, H1 p = none → Q (.ref p) (upd H1 p (.lst xs))
theorem pe_tup {x1} (h : PA X es t) : PE X (.Tuple es x1 pos) (tTup t) := by
  intro pins s σ H Q I hq
  refine wpAny_Tuple_spliced (thn (h pos pins s σ H _ I hq) fun us s1 ⟨xs, H1, I1, r, z, q⟩ => ⟨by rw [← r.length]; exact z, ?_⟩)
  have hf : H1 s1.heap.objs.size = none := I1.hok.fresh (Nat.le_refl _)
  refine ⟨.ref s1.heap.objs.size, upd H1 s1.heap.objs.size (.tup xs), I1.laid (t' := s1.toks) (fun b u e => Heap.get?_push_of_some _ e) (Nat.le_refl _) ?_, rfl, q _ hf⟩
  exact ⟨z, us, r, ⟨_, Heap.get?_push_size _ rfl, rfl, _, rfl⟩⟩
theorem pe_lst (h : PA X es t) : PE X (.List es pos) (tLst t) := by
  intro pins s σ H Q I hq
  refine wpAny_List_spliced (thn (h pos pins s σ H _ I hq) fun us s1 ⟨xs, H1, I1, r, z, q⟩ => ⟨by rw [← r.length]; exact z, ?_⟩)
  have hf : H1 s1.heap.objs.size = none := I1.hok.fresh (Nat.le_refl _)
  refine ⟨.ref s1.heap.objs.size, upd H1 s1.heap.objs.size (.lst xs), I1.laid (t' := s1.toks) (fun b u e => Heap.get?_push_of_some _ e) (Nat.le_refl _) ?_, rfl, q _ hf⟩
  exact ⟨z, us, 0, r, Heap.get?_push_size _ rfl⟩
end
abbrev Sp := List V → Hp → VK → XK → Prop
abbrev CXT := List Env → Hp → Shared → XK → Value → Shared → Prop
structure Env0 (P : Program) (w : World) (K : PySem.W.Frag) (mg : Str → Option Value) (base : Heap) (A : Around) (outer : List Env) (s : Shared) (H : Hp) : Prop where
  frames : A.frames = some outer
  mod : Mod K mg base
  bs : ∀ b o, base.get? b = some o → s.heap.get? b = some o ∧ H b = none
  bsz : base.objs.size ≤ s.heap.objs.size
  funs : s.heap.FunFrames base outer
  frf : ∀ b ∈ frs outer, H b = none
  hok : HOk P w H s.heap
  bare : AllBare s.gens
def CE (outer : List Env) (P : Program) (w : World) (H : Hp) (s : Shared) (Q : VK) (u : Value) (s' : Shared) : Prop :=
  ∃ v H', s'.os = s.os ∧ AllBare s'.gens ∧ Un (frs outer) [] H H' s.heap s'.heap ∧ HOk P w H' s'.heap ∧ RelV v u ∧ Q v H'
def CR (CX : CXT) (outer : List Env) (P : Program) (w : World) (H : Hp) (s : Shared) (Q : VK) (E : XK) (r : Result) (s' : Shared) : Prop :=
  match r with
  | .ok (.ret u) => CE outer P w H s Q u s'
  | .ok _ => False
  | .error e => CX outer H s E e s'
structure FnOk (P : Program) (w : World) (K : PySem.W.Frag) (mg : Str → Option Value) (base : Heap) (CX : CXT) (k : Nat) (f : Addr) (fd : FuncData) (ps : List Str) (sp : Sp) : Prop where
  len : ∀ vs H Q E, sp vs H Q E → vs.length = ps.length
  run : ∀ (A : Around) (outer : List Env) (s : Shared) (H : Hp) (args : Args) (us : List Value) (vs : List V) (Q : VK) (E : XK), Room k A → Env0 P w K mg base A outer s H → BindsTo s fd args (ps.zip us) → Vals vs us → sp vs H Q E →
    codeAny (model P w) A (.call (.ref f) args) (CR CX outer P w H s Q E) s
section
variable {X : Cx} {pins : List (Addr × Obj)} {σ : St} {H : Hp} {s s' : Shared}
theorem Inv.env0 (I : Inv X pins σ H s) : Env0 X.prog X.w X.K X.mg X.base X.A X.stack s H :=
  ⟨I.ok.frames, I.ok.mod, I.bs, Nat.le_trans I.ok.bsz I.sz, I.stack, I.stkFree, I.hok, I.bare⟩
theorem Inv.after {Q : VK} {u : Value} (I : Inv X pins σ H s) (h : CE X.stack X.prog X.w H s Q u s') : EP X pins σ Q u s' := by
  obtain ⟨v, H', os, bare, un, hok, r, q⟩ := h
  obtain ⟨hh, g, d, t, os'⟩ := s'
  obtain rfl : os' = s.os := os
  exact ⟨v, H', I.call (h' := hh) (g' := g) (d' := d) (t' := t) (ch := []) un hok bare (fun b z => absurd z (by simp)), r, q⟩
end
def tCall (sp : Sp) (dvs : List V) (E : XK) (t : TA) : TE := fun σ H Q => t σ H fun vs H1 => sp (vs ++ dvs) H1 Q E
def Binds (K : PySem.W.Frag) (fd : FuncData) (ps : List Str) (ds : List Value) : Prop :=
  ∀ (s : Shared) (us : List Value), K.In s.heap → (us ++ ds).length = ps.length → BindsTo s fd ⟨us, []⟩ (ps.zip (us ++ ds))
theorem Binds.all {K : PySem.W.Frag} {fd : FuncData} {ps : List Str} (h : ∀ us : List Value, us.length = ps.length → bindArgs fd ⟨us, []⟩ = pure (ps.zip us)) : Binds K fd ps [] := fun s us _ hl => by
  rw [List.append_nil] at hl ⊢
  exact .of_eq (h us hl)
def Passes (CX : CXT) (X : Cx) (E : XK) : Prop := ∀ (pins : List (Addr × Obj)) (σ : St) (H : Hp) (s : Shared) (e : Value) (s' : Shared), Inv X pins σ H s → CX X.stack H s E e s' → X.xe e s'
section
variable {X : Cx} {CX : CXT} {k : Nat} {f C : Addr} {fd : FuncData} {ps : List Str} {sp : Sp} {dvs : List V} {ds : List Value} {E : XK} {x m : Str} {p pos apos : Pos} {e o : Expr} {es : List Expr} {ta : TE} {t : TA}
theorem run_fn {pins : List (Addr × Obj)} {σ : St} {H : Hp} {s : Shared} {Q : VK} {us : List Value} {vs : List V} (F : FnOk X.prog X.w X.K X.mg X.base CX k f fd ps sp) (hr : Room k X.A) (hb : Binds X.K fd ps ds) (hd : Vals dvs ds) (hx : Passes CX X E)
    (I : Inv X pins σ H s) (r : Vals vs us) (h : sp (vs ++ dvs) H Q E) : wpAny (model X.prog X.w) X.A (call (.ref f) us) (EP X pins σ Q) X.xe s := by
  have r2 : Vals (vs ++ dvs) (us ++ ds) := r.append hd
  have hl : (us ++ ds).length = ps.length := by rw [← r2.length]; exact F.len _ _ _ _ h
  refine wpAny_call (codeAny_mono (F.run X.A X.stack s H ⟨us, []⟩ (us ++ ds) (vs ++ dvs) Q E hr I.env0 (hb s us I.kIn hl) r2 h) fun r s' hq => ?_)
  cases r with
  | error e => exact hx pins σ H s e s' I hq
  | ok fl =>
    cases fl with
    | ret u => exact I.after hq
    | next => exact False.elim hq
    | brk => exact False.elim hq
    | cont => exact False.elim hq
theorem pe_call (F : FnOk X.prog X.w X.K X.mg X.base CX k f fd ps sp) (hr : Room k X.A) (hg : Gl X x) (hm : X.mg x = some (.ref f)) (hk : PySem.W.keepIn X.K (.ref f) = true) (hb : Binds X.K fd ps ds) (hd : Vals dvs ds) (hx : Passes CX X E)
    (ha : PA X (e :: es) t) (hdb : (x == ("__debug__" : Str)) = false := by decide) (he : starEach (e :: es) X.env = (false, eval e X.env) :: starEach es X.env := by rfl) (hpl : (backTo pos (starEach es X.env)).any (·.1) = false := by rfl) :
    PE X (.Call (.Name x p) (e :: es) [] pos) (tCall sp dvs E t) := by
  intro pins s σ H Q I h
  refine wpAny_Call_Name_kw (ld_glob I hg hm ?_ hdb)
  refine PySem.W.callWith_K (h₀ := X.base) I.ok.mod.kin hk (thn (ha pos pins s σ H _ I h) fun us s1 ⟨vs, H1, I1, r, q⟩ => ⟨I1.kIn, ?_⟩) he hpl
  exact run_fn F hr hb hd hx I1 r q
end
section
variable {X : Cx} {CX : CXT} {k : Nat} {f C : Addr} {fd : FuncData} {ps ks : List Str} {sp : Sp} {E : XK} {x m : Str} {p pos apos kpos : Pos} {e o : Expr} {es : List Expr} {kws : List Keyword} {te ta : TE} {t tk : TA} {nm : Option Str}
variable {g : List Value → List Value → List Value} {gV : List V → List V → List V}
end
structure FnScope (N P : List Str) (sc : Scope) : Prop where
  kind : sc.kind = .function
  co : sc.isCoroutine = false
  gen : sc.isGenerator = false
  nd : N.Nodup
  pre : N.take P.length = P
  par : ∀ x ∈ P, sc.names.lookup x = some .local ∨ sc.names.lookup x = some .cell
  nofree : ∀ y ∈ sc.names, y.2 ≠ .free
theorem bindL_out {kindOf : Str → Option NameKind} {x : Str} : ∀ {binds : List (Str × Value)} {m : Str → Option Value}, (∀ v, (x, v) ∉ binds) → bindL kindOf binds m x = m x
  | [], _, _ => rfl
  | (n, v) :: r, m, h => by
    unfold bindL
    rw [bindL_out fun w hw => h w (List.mem_cons_of_mem _ hw)]
    split
    · have : x ≠ n := by rintro rfl; exact h v List.mem_cons_self
      simp [this]
    · rfl
theorem bindC_out {kindOf : Str → Option NameKind} {x : Str} : ∀ {binds : List (Str × Value)} {m : Str → Option Value}, (∀ v, (x, v) ∉ binds) → bindC kindOf binds m x = m x
  | [], _, _ => rfl
  | (n, v) :: r, m, h => by
    unfold bindC
    rw [bindC_out fun w hw => h w (List.mem_cons_of_mem _ hw)]
    split
    · rfl
    · have : x ≠ n := by rintro rfl; exact h v List.mem_cons_self
      simp [this]
theorem bindL_get {kindOf : Str → Option NameKind} {x : Str} {v : Value} : ∀ {P : List Str} {vs : List Value} {i : Nat} {m : Str → Option Value}, P.Nodup → P[i]? = some x → vs[i]? = some v → kindOf x = some .local →
    bindL kindOf (P.zip vs) m x = some v
  | [], _, _, _, _, h, _, _ => by simp at h
  | _ :: _, [], _, _, _, _, h, _ => by simp at h
  | p :: P, w :: vs, 0, m, nd, h1, h2, hk => by
    simp at h1 h2; subst h1; subst h2
    show bindL kindOf ((p, w) :: P.zip vs) m p = _
    unfold bindL
    rw [bindL_out fun v hv => (List.nodup_cons.mp nd).1 (List.of_mem_zip hv).1, if_pos hk]
    simp
  | p :: P, w :: vs, i + 1, m, nd, h1, h2, hk => by
    show bindL kindOf ((p, w) :: P.zip vs) m x = _
    unfold bindL
    exact bindL_get (i := i) (List.nodup_cons.mp nd).2 (by simpa using h1) (by simpa using h2) hk
theorem bindC_get {kindOf : Str → Option NameKind} {x : Str} {v : Value} : ∀ {P : List Str} {vs : List Value} {i : Nat} {m : Str → Option Value}, P.Nodup → P[i]? = some x → vs[i]? = some v → kindOf x ≠ some .local →
    bindC kindOf (P.zip vs) m x = some v
  | [], _, _, _, _, h, _, _ => by simp at h
  | _ :: _, [], _, _, _, _, h, _ => by simp at h
  | p :: P, w :: vs, 0, m, nd, h1, h2, hk => by
    simp at h1 h2; subst h1; subst h2
    show bindC kindOf ((p, w) :: P.zip vs) m p = _
    unfold bindC
    rw [bindC_out fun v hv => (List.nodup_cons.mp nd).1 (List.of_mem_zip hv).1, if_neg hk]
    simp
  | p :: P, w :: vs, i + 1, m, nd, h1, h2, hk => by
    show bindC kindOf ((p, w) :: P.zip vs) m x = _
    unfold bindC
    exact bindC_get (i := i) (List.nodup_cons.mp nd).2 (by simpa using h1) (by simpa using h2) hk
def start (N : List Str) (vs : List V) : St := vs.map some ++ List.replicate (N.length - vs.length) none
def cxOf (CX : CXT) (P : Program) (w : World) (K : PySem.W.Frag) (mg : Str → Option Value) (base : Heap) (N : List Str) (qual : Str) (scope : Scope) (f : Addr) (cd : Value) (A : Around) (outer : List Env) (s : Shared) (H : Hp) (E : XK) : Cx where
  prog := P
  w := w
  K := K
  mg := mg
  base := base
  A := A.deeper (envOfC qual scope s.heap.objs.size f cd)
  N := N
  s₀ := s
  H₀ := H
  env := envOfC qual scope s.heap.objs.size f cd
  outer := outer
  stack := envOfC qual scope s.heap.objs.size f cd :: outer
  ex := []
  calm := true
  fn := fun _ => true
  pn := []
  xe := fun e s' => wpAny (model P w) (A.deeper (envOfC qual scope s.heap.objs.size f cd)) (leaving (envOfC qual scope s.heap.objs.size f cd) e) (fun _ s'' => CX outer H s E e s'') (fun e' s'' => CX outer H s E e' s'') s'
theorem cell_has {sc : Scope} {n : Nat} {x : Str} (h : sc.names.lookup x = some .cell) : ∃ c, (cellsFrom n sc.names []).lookup x = some c := by
  have q := PySem.W.cellsFrom_some sc.names n [] (.inl h)
  exact Option.isSome_iff_exists.mp q
theorem inv_start {CX : CXT} {P : Program} {w : World} {K : PySem.W.Frag} {mg : Str → Option Value} {base : Heap} {N ps : List Str} {qual : Str} {scope : Scope} {f : Addr} {cd : Value} {A : Around} {outer : List Env} {s s1 : Shared} {H : Hp} {E : XK} {us : List Value} {vs : List V}
    (S : FnScope N ps scope) (hd : A.handled = none) (e0 : Env0 P w K mg base A outer s H) (hl : vs.length = ps.length) (r : Vals vs us)
    (x : InCallC s s.heap.objs.size (bindL (envOfC qual scope s.heap.objs.size f cd).kindOf (ps.zip us) fun _ => none) (cellsFrom (s.heap.objs.size + 1) scope.names []) (bindC (envOfC qual scope s.heap.objs.size f cd).kindOf (ps.zip us) fun _ => none) s1) :
    Inv (cxOf CX P w K mg base N qual scope f cd A outer s H E) [] (start N vs) H s1 := by
  have hpl : ps.length ≤ N.length := by have := congrArg List.length S.pre; rw [List.length_take] at this; omega
  obtain ⟨h1, tk, rfl, hk⟩ := x.done
  have noA : ∀ b : Addr, b ∉ (cxOf CX P w K mg base N qual scope f cd A outer s H E).ex := fun b z => absurd (show b ∈ ([] : List Addr) from z) (by simp)
  refine ⟨⟨e0.mod, S.kind, rfl, rfl, Nat.le_refl _, fun y z c h1 h2 => ?_, fun y hy => ?_, fun y c _ h => ?_, fun _ => hd, Around.frames_deeper e0.frames, .inr ⟨rfl, rfl⟩, fun b z => absurd z (noA b), e0.bs, e0.bsz, fun b _ _ => noA b, fun b z => absurd z (noA b), e0.funs, e0.frf⟩,
    rfl, e0.bare, Un.kept hk, ⟨_, x.toInCall.ns, fun i y v h1 h2 h3 => ?_⟩, fun y c h => ⟨_, x.cell y c h⟩, e0.hok.fresh (Nat.le_refl _), fun y c h => ?_, fun p hp => absurd (show p ∈ ([] : List (Addr × Obj)) from hp) (by simp), e0.hok.kept hk, ?_⟩
  · exact name_of_addr x.apart (PySem.mem_of_lookup h1) (PySem.mem_of_lookup h2)
  · have hy : scope.names.lookup y = some .cell ∨ scope.names.lookup y = some .free := hy
    rcases hy with hy | hy
    · exact cell_has hy
    · exact absurd rfl (S.nofree _ (PySem.mem_of_lookup hy))
  · exact Nat.le_of_lt (x.above y c (PySem.mem_of_lookup h))
  · have hi : i < vs.length := by
      unfold start at h2
      by_cases hi : i < vs.length
      · exact hi
      · rw [List.getElem?_append_right (by simpa using hi)] at h2
        rw [List.getElem?_replicate] at h2
        split at h2 <;> cases h2
    have ha : vs[i]? = some v := by
      unfold start at h2
      rw [List.getElem?_append_left (by simpa using hi), List.getElem?_map] at h2
      cases e : vs[i]? with
      | none => rw [e] at h2; cases h2
      | some a => rw [e] at h2; cases h2; rfl
    obtain ⟨u, hu, rv⟩ := r.get ha
    have hp : ps[i]? = some y := by
      rw [← S.pre, List.getElem?_take_of_lt (by omega)]; exact h1
    have ndP : ps.Nodup := by rw [← S.pre]; exact S.nd.sublist (List.take_sublist _ _)
    refine ⟨u, rv, ?_⟩
    rcases S.par y (List.mem_of_getElem? hp) with k | k
    · exact .inl ⟨k, bindL_get ndP hp hu k⟩
    · obtain ⟨c, e⟩ := cell_has (n := s.heap.objs.size + 1) k
      refine .inr ⟨.inl k, c, e, ?_⟩
      have q := x.cell y c e
      rw [bindC_get ndP hp hu (by show scope.names.lookup y ≠ _; rw [k]; decide)] at q
      exact q
  · exact e0.hok.fresh (Nat.le_of_lt (x.above y c (PySem.mem_of_lookup h)))
  · unfold start
    show _ = N.length
    rw [List.length_append, List.length_map, List.length_replicate]
    omega
theorem fn_of {CX : CXT} {P : Program} {w : World} {K : PySem.W.Frag} {mg : Str → Option Value} {base : Heap} {k : Nat} {f : Addr} {name qual : Str} {params : Arguments} {body : List Stmt} {scope : Scope} {dV kV doc pm cdv ct oc : Value} {an od : Option Addr}
    {osl : Array (Option Value)} {N ps : List Str} {sp : Sp} (lk : K.lookup f = some ⟨oc, od, .func (PySem.W.fnOf name qual params body scope dV kV doc pm an cdv ct), osl⟩) (hcd : PySem.W.codeIn K cdv qual = true) (S : FnScope N ps scope)
    (len : ∀ vs H Q E, sp vs H Q E → vs.length = ps.length)
    (hbody : ∀ (A : Around) (outer : List Env) (s : Shared) (H : Hp) (vs : List V) (Q : VK) (E : XK), Room k (A.deeper (envOfC qual scope s.heap.objs.size f cdv)) → sp vs H Q E →
      ∃ t, PSs (cxOf CX P w K mg base N qual scope f cdv A outer s H E) body t ∧ t { nx := fun _ H' => Q .non H', rt := Q } (start N vs) H) :
    FnOk P w K mg base CX (k + 1) f (PySem.W.fnOf name qual params body scope dV kV doc pm an cdv ct) ps sp := by
  refine ⟨len, fun A outer s H args us vs Q E hr e0 hb r hsp => ?_⟩
  have hl := len _ _ _ _ hsp
  have KX : K.In s.heap := e0.mod.kin.keeps fun b o e => (e0.bs b o e).1
  have lim : s.heap.NoLimit := e0.mod.nolimit.keeps fun b o e => (e0.bs b o e).1
  have hkind : ∀ y ∈ ps.zip us, scope.names.lookup y.1 = some .local ∨ (scope.names.lookup y.1 = some .cell ∧ ((cellsFrom (s.heap.objs.size + 1) scope.names []).lookup y.1).isSome = true) := fun ⟨n, v⟩ hy => by
    rcases S.par n (List.of_mem_zip hy).1 with q | q
    · exact .inl q
    · exact .inr ⟨q, PySem.W.cellsFrom_some _ _ _ (.inl q)⟩
  refine codeAny_call_function hr.depth (KX _ _ lk) rfl S.co S.gen rfl (PySem.W.codeRec_of KX hcd) (hb _ _ _ _ ?_)
  refine wpAny_newFunctionEnv_cells S.kind hkind fun env he s1 x => ?_
  subst he
  refine ⟨lim.keeps x.toInCall.keep, codeAny_func ?_⟩
  obtain ⟨t, ht, hq⟩ := hbody A outer s H vs Q E (hr.deeper _) hsp
  have I : Inv (cxOf CX P w K mg base N qual scope f cdv A outer s H E) [] (start N vs) H s1 := inv_start S hr.hd e0 hl r x
  refine wpAny_mono (ht [] s1 (start N vs) H _ I hq) (fun fl s' hs => ?_) fun e s' hs => hs
  have fin : ∀ {σ' : St} {H' : Hp} {v : V} {u : Value}, Inv (cxOf CX P w K mg base N qual scope f cdv A outer s H E) [] σ' H' s' → RelV v u → Q v H' → CE outer P w H s Q u s' :=
    fun {σ' H' v u} J rv q => ⟨v, H', J.os, J.bare, J.base, J.hok, rv, q⟩
  cases fl with
  | ret u =>
    obtain ⟨v, σ', H', J, rv, q⟩ := hs
    exact fin J rv q
  | next =>
    obtain ⟨σ', H', J, q⟩ := hs
    exact fin (v := V.non) (u := Value.none) J rfl q
  | brk =>
    obtain ⟨_, _, _, q⟩ := hs
    exact False.elim q
  | cont =>
    obtain ⟨_, _, _, q⟩ := hs
    exact False.elim q
end L2
namespace L2
open PySem PySem.Spec PyProof.Rows
section
variable {X : Cx} {x : Str} {p pos : Pos} {e : Expr} {es : List Expr} {t : TA} {id T : String} {r : List V → Hp → VK → Prop}
def tCB (r : List V → Hp → VK → Prop) (t : TA) : TE := fun σ H Q => t σ H fun vs H1 => r vs H1 Q
theorem pe_callB (hc : CallR X (.builtin id) r) (hg : Gl X x) (hm : X.mg x = none) (hv : bootBuiltins x = some (.builtin id)) (ha : PA X (e :: es) t) (hn : x ≠ "__name__" := by decide) (hdb : (x == ("__debug__" : Str)) = false := by decide)
    (he : starEach (e :: es) X.env = (false, eval e X.env) :: starEach es X.env := by rfl) (hpl : (backTo pos (starEach es X.env)).any (·.1) = false := by rfl) : PE X (.Call (.Name x p) (e :: es) [] pos) (tCB r t) := by
  intro pins s σ H Q I h
  refine wpAny_Call_Name_kw (ld_blt I hg hm hv ?_ hn hdb)
  exact PyProof.Rows.callWith_builtin1 (thn (ha pos pins s σ H _ I h) fun us s1 ⟨vs, H1, I1, r1, q1⟩ => hc pins s1 σ H1 vs us Q I1 r1 q1) he hpl
theorem pe_callTy (hc : CallR X (.type T) r) (hg : Gl X x) (hm : X.mg x = none) (hv : bootBuiltins x = some (.type T)) (ha : PA X (e :: es) t) (hn : x ≠ "__name__" := by decide) (hdb : (x == ("__debug__" : Str)) = false := by decide)
    (he : starEach (e :: es) X.env = (false, eval e X.env) :: starEach es X.env := by rfl) (hpl : (backTo pos (starEach es X.env)).any (·.1) = false := by rfl) : PE X (.Call (.Name x p) (e :: es) [] pos) (tCB r t) := by
  intro pins s σ H Q I h
  refine wpAny_Call_Name_kw (ld_blt I hg hm hv ?_ hn hdb)
  exact PyProof.Rows.callWith_type1 (thn (ha pos pins s σ H _ I h) fun us s1 ⟨vs, H1, I1, r1, q1⟩ => hc pins s1 σ H1 vs us Q I1 r1 q1) he hpl
end
end L2
namespace HT
open PySem PyProof.Rows
section
open PySem.SeqAt
open PySem.AutoSeq1 (wpAny_loadPart')
open PySem.MeetsSeq PySem.MeetsSeq2 PySem.MeetsSeq3
end
section
variable {prog : Program} {w : World} {A : Around} {E : Value → Shared → Prop} {s : Shared}
def sIx (n d : Nat) : Option Int → Nat
  | none => d
  | some v => if v < 0 then (v + (n : Int)).toNat else min v.toNat n
theorem sIx_none (n d : Nat) : sIx n d none = d := rfl
theorem sIx_nat (n d k : Nat) : sIx n d (some (k : Int)) = min k n := by
  show (if (k : Int) < 0 then ((k : Int) + (n : Int)).toNat else min (k : Int).toNat n) = min k n
  rw [if_neg (by omega), Int.toNat_natCast]
end
end HT
namespace L2
open PySem PySem.Spec PyProof.Rows
abbrev TO := St → Hp → (Option Int → Hp → Prop) → Prop
def PO (X : Cx) (e : Option Expr) (t : TO) : Prop :=
  ∀ (pins : List (Addr × Obj)) (s : Shared) (σ : St) (H : Hp) (Q : Option Int → Hp → Prop), Inv X pins σ H s → t σ H Q →
    wpAny (model X.prog X.w) X.A (evalPart e X.env) (fun u s' => ∃ o H', Inv X pins σ H' s' ∧ IsPart u o ∧ Q o H') X.xe s
def tNoPart : TO := fun _ H Q => Q none H
def tPart (t : TE) : TO := fun σ H Q => t σ H fun x H1 => ∃ i, x = .int i ∧ Q (some i) H1
section
variable {X : Cx} {e : Expr} {te : TE} {lo hi : Option Expr} {tl th : TO} {pos p2 : Pos}
theorem po_none : PO X none tNoPart := by
  intro pins s σ H Q I h
  rw [evalPart_none]
  exact wpAny_pure ⟨none, H, I, .none, h⟩
theorem po_some (h : PE X e te) : PO X (some e) (tPart te) := by
  intro pins s σ H Q I hw
  rw [evalPart_some]
  refine thn (h pins s σ H _ I hw) fun u s1 ⟨x, H1, I1, r1, q1⟩ => ?_
  obtain ⟨i, rfl, q⟩ := q1
  obtain ⟨t, rfl⟩ := r1
  exact ⟨some i, H1, I1, .int i t, q⟩
def SlR (X : Cx) (r : V → Option Int → Option Int → Hp → VK → Prop) : Prop :=
  ∀ (pins : List (Addr × Obj)) (s : Shared) (σ : St) (H : Hp) (x : V) (v vl vu : Value) (lo hi : Option Int) (sl : Addr) (Q : VK), Inv X pins σ H s → RelV x v → s.heap.IsSliceOf sl vl vu .none → IsPart vl lo → IsPart vu hi → r x lo hi H Q →
    ∃ T id, typeLookup (.type T) "__getitem__" = pure (some (.builtin id)) ∧ s.TypeIs v T ∧ wpAny (model X.prog X.w) X.A (getItem v (.ref sl)) (EP X pins σ Q) X.xe s
def tSl (r : V → Option Int → Option Int → Hp → VK → Prop) (te : TE) (tl th : TO) : TE := fun σ H Q => te σ H fun x H1 => tl σ H1 fun l H2 => th σ H2 fun u H3 => r x l u H3 Q
theorem pe_slice {r : V → Option Int → Option Int → Hp → VK → Prop} (hr : SlR X r) (he : PE X e te) (hl : PO X lo tl) (hu : PO X hi th) : PE X (.Subscript e (.Slice lo hi none p2) pos) (tSl r te tl th) := by
  intro pins s σ H Q I h
  refine Subscript_ (thn (he pins s σ H _ I h) fun v s1 ⟨x, H1, I1, r1, q1⟩ => ?_)
  refine wpAny_Slice (thn (hl pins s1 σ H1 _ I1 q1) fun vl s2 ⟨l, H2, I2, pl, q2⟩ => thn (hu pins s2 σ H2 _ I2 q2) fun vu s3 ⟨u, H3, I3, pu, q3⟩ => ?_)
  rw [evalPart_none]
  refine wpAny_pure ?_
  have I4 : Inv X pins σ H3 { s3 with heap := s3.heap.push { cls := .type "slice", data := .fields #[vl, vu, .none] } } := I3.kept (t' := s3.toks) fun b ob q => Heap.get?_push_of_some _ q
  obtain ⟨T, id, hT, ht, hg⟩ := hr pins { s3 with heap := s3.heap.push { cls := .type "slice", data := .fields #[vl, vu, .none] } } σ H3 x v vl vu l u s3.heap.objs.size Q I4 r1 (Heap.IsSliceOf.new ..) pl pu q3
  show wpAny (model X.prog X.w) X.A (subscriptTail e (.Slice lo hi none p2) v (.ref s3.heap.objs.size)) (EP X pins σ Q) X.xe { s3 with heap := s3.heap.push { cls := .type "slice", data := .fields #[vl, vu, .none] } }
  exact tail_any (ops := [.ref s3.heap.objs.size, v]) ht hT hg (by with_unfolding_all rfl)
def cutV (xs : List V) (lo hi : Option Int) : List V := (xs.drop (HT.sIx xs.length 0 lo)).take (HT.sIx xs.length xs.length hi - HT.sIx xs.length 0 lo)
theorem cutV_length (xs : List V) (lo hi : Option Int) : (cutV xs lo hi).length ≤ xs.length := by
  unfold cutV
  rw [List.length_take, List.length_drop]
  omega
end
end L2
namespace L2
open PySem PySem.Spec PyProof.Rows
def ixN (n : Nat) (i : Int) : Option Nat := if 0 ≤ i then (if i < n then some i.toNat else none) else if -(n : Int) ≤ i then some (i + n).toNat else none
def atI {α : Type} (xs : List α) (i : Int) : Option α := (ixN xs.length i).bind fun j => xs[j]?
theorem ixN_seq {n : Nat} {i : Int} {j : Nat} (h : ixN n i = some j) : seqIndex? i n = some j ∧ j < n ∧ -(n : Int) ≤ i ∧ i < n := by
  unfold ixN at h
  by_cases h0 : 0 ≤ i
  · rw [if_pos h0] at h
    by_cases h1 : i < n
    · rw [if_pos h1] at h
      have e : i.toNat = j := Option.some.inj h
      exact ⟨by rw [seqIndex_of h0 h1, e], by omega, by omega, h1⟩
    · rw [if_neg h1] at h; cases h
  · rw [if_neg h0] at h
    by_cases h1 : -(n : Int) ≤ i
    · rw [if_pos h1] at h
      have e : (i + n).toNat = j := Option.some.inj h
      exact ⟨by rw [seqIndex_neg (by omega) h1, e], by omega, h1, by omega⟩
    · rw [if_neg h1] at h; cases h
theorem atI_get {α : Type} {xs : List α} {i : Int} {v : α} (h : atI xs i = some v) : ∃ j, seqIndex? i xs.length = some j ∧ xs[j]? = some v ∧ j < xs.length ∧ -(xs.length : Int) ≤ i ∧ i < xs.length := by
  unfold atI at h
  cases e : ixN xs.length i with
  | none => rw [e] at h; cases h
  | some j =>
    rw [e] at h
    obtain ⟨h1, h2, h3, h4⟩ := ixN_seq e
    exact ⟨j, h1, h, h2, h3, h4⟩
theorem atI_nat {α : Type} {xs : List α} {j : Nat} {v : α} (h : xs[j]? = some v) : atI xs (j : Int) = some v := by
  have hj : j < xs.length := (List.getElem?_eq_some_iff.mp h).1
  have e : ixN xs.length (j : Int) = some j := by
    unfold ixN
    rw [if_pos (by omega), if_pos (by omega)]; simp
  unfold atI; rw [e]; exact h
def PlainIx (b : Expr) : Prop := ∀ o i, subscripted b false o i = operate [o, i] (getItem o i)
def IxR (X : Cx) (r : R2) : Prop :=
  ∀ (value slice : Expr) (pins : List (Addr × Obj)) (s : Shared) (σ : St) (H : Hp) (x y : V) (v u : Value) (Q : VK), Inv X pins σ H s → RelV x v → RelV y u → r x y H Q →
    subscripted slice false v u = operate [v, u] (getItem v u) → wpAny (model X.prog X.w) X.A (subscriptTail value slice v u) (EP X pins σ Q) X.xe s
def MtR (X : Cx) (id : String) (r : V → List V → Hp → VK → Prop) : Prop :=
  ∀ (pins : List (Addr × Obj)) (s : Shared) (σ : St) (H : Hp) (x : V) (xs : List V) (v : Value) (us : List Value) (Q : VK), Inv X pins σ H s → RelV x v → Vals xs us → r x xs H Q →
    wpAny (model X.prog X.w) X.A (call (.builtin id) (v :: us)) (EP X pins σ Q) X.xe s
section
variable {X : Cx} {a b : Expr} {ta tb : TE} {pos : Pos}
theorem pe_ix {r : R2} (hr : IxR X r) (ha : PE X a ta) (hb : PE X b tb) (hs : PlainIx b) : PE X (.Subscript a b pos) (tOp r ta tb) := by
  intro pins s σ H Q I h
  exact Subscript_ (binT ha hb I h fun v u s2 x y H2 I2 rx ry q => hr a b pins s2 σ H2 x y v u Q I2 rx ry q (hs _ _))
def rIxL (K : PySem.W.Frag) : R2 := fun x y H Q => ∃ p xs i v, x = .ref p ∧ y = .int i ∧ SqL K H p xs ∧ atI xs i = some v ∧ Q v H
def rIxT (K : PySem.W.Frag) : R2 := fun x y H Q => ∃ p xs i v, x = .ref p ∧ y = .int i ∧ SqT K H p xs ∧ atI xs i = some v ∧ Q v H
theorem ix_list : IxR X (rIxL X.K) := by
  intro value slice pins s σ H x y v u Q I rx ry h hs
  obtain ⟨p, xs, i, z, rfl, rfl, hq, he, q⟩ := h
  cases rx
  obtain ⟨t, rfl⟩ := ry
  obtain ⟨its, r, pl, hz⟩ := I.list hq
  obtain ⟨j, h1, h2, h3, h4, h5⟩ := atI_get he
  obtain ⟨w, ew, rw'⟩ := r.get h2
  have hl := r.length
  have hn := line63
  have fin : EP X pins σ Q w s := ⟨z, H, I, rw', q⟩
  by_cases h0 : 0 ≤ i
  · have hj : i.toNat = j := by
      rw [seqIndex_of h0 h5] at h1
      exact Option.some.inj h1
    exact item_listR pl.isList h0 (by omega) (by rw [hj]; simpa using ew) fin hs
  · have hj : (i + (its.toArray.size : Int)).toNat = j := by
      rw [seqIndex_neg (by omega) h4] at h1
      rw [List.size_toArray, ← hl]
      exact Option.some.inj h1
    exact subscriptTail_builtinR (x := w) pl.isList.typeIs slot_list_getitem.lookup
      (wpAny_getItem_list_neg (Q := fun r s' => r = w ∧ EP X pins σ Q r s') pl.isList (by omega) (by rw [List.size_toArray] <;> omega) (by omega) (by rw [hj]; simpa using ew) ⟨rfl, fin⟩) hs
theorem ix_tup : IxR X (rIxT X.K) := by
  intro value slice pins s σ H x y v u Q I rx ry h hs
  obtain ⟨p, xs, i, z, rfl, rfl, hq, he, q⟩ := h
  cases rx
  obtain ⟨t, rfl⟩ := ry
  obtain ⟨its, r, pl, hz⟩ := I.tuple hq
  obtain ⟨j, h1, h2, h3, h4, h5⟩ := atI_get he
  obtain ⟨w, ew, rw'⟩ := r.get h2
  have hl := r.length
  have hn := line63
  have fin : EP X pins σ Q w s := ⟨z, H, I, rw', q⟩
  exact subscriptTail_builtinR (x := w) pl.typeIs slot_tuple_getitem.lookup
    (getItem_tuple (j := j) (Q := fun r s' => r = w ∧ EP X pins σ Q r s') pl (by omega) (by omega) (by rw [List.size_toArray, ← hl]; exact h1) (by simpa using ew) ⟨rfl, fin⟩) hs
theorem slice_bounds (lo hi : Option Int) (n : Nat) : (sliceBounds lo hi none n).1 = ((HT.sIx n 0 lo : Nat) : Int) ∧ (sliceBounds lo hi none n).2.1 = ((HT.sIx n n hi : Nat) : Int) ∧ (sliceBounds lo hi none n).2.2 = 1 := by
  refine ⟨?_, ?_, rfl⟩
  · cases lo with
    | none => simp [sliceBounds, HT.sIx]
    | some i =>
      simp only [sliceBounds, HT.sIx, Option.getD_none, show (1 : Int) > 0 by decide, if_true]
      by_cases h : i < 0
      · simp only [h, if_true] <;> omega
      · simp only [h, if_false] <;> omega
  · cases hi with
    | none => simp [sliceBounds, HT.sIx]
    | some i =>
      simp only [sliceBounds, HT.sIx, Option.getD_none, show (1 : Int) > 0 by decide, if_true]
      by_cases h : i < 0
      · simp only [h, if_true] <;> omega
      · simp only [h, if_false] <;> omega
theorem slicePick_cut (its : List Value) (lo hi : Option Int) : slicePick its.toArray lo hi none = ((its.drop (HT.sIx its.length 0 lo)).take (HT.sIx its.length its.length hi - HT.sIx its.length 0 lo)).toArray := by
  obtain ⟨h1, h2, h3⟩ := slice_bounds lo hi its.toArray.size
  unfold slicePick
  rw [h1, h2, h3]
  simp only [sliceRange_one, pick_run, List.size_toArray] <;> rfl
def rSlL (K : PySem.W.Frag) : V → Option Int → Option Int → Hp → VK → Prop := fun x lo hi H Q => ∃ a xs, x = .ref a ∧ SqL K H a xs ∧ ∀ p, H p = none → Q (.ref p) (upd H p (.lst (cutV xs lo hi)))
theorem sl_list : SlR X (rSlL X.K) := by
  intro pins s σ H x v vl vu lo hi sl Q I rx hs pl pu h
  obtain ⟨a, xs, rfl, hx, q⟩ := h
  cases rx
  obtain ⟨its, r, ht, hz⟩ := I.list hx
  have hlen := r.length
  refine ⟨"list", _, slot_list_getitem.lookup, ht.isList.typeIs, ?_⟩
  refine wpAny_getItem_list_slice ht.isList hs pl pu .none (by simp) ?_ (by rw [List.size_toArray] <;> omega)
  rw [slicePick_cut, ← hlen]
  refine ⟨.ref s.heap.objs.size, _, I.laid (t' := s.toks) (o := .lst (cutV xs lo hi)) (fun b ob q => Heap.get?_push_of_some _ q) (Nat.le_refl _) ?_, rfl, q _ (I.hok.fresh (Nat.le_refl _))⟩
  exact ⟨Nat.le_trans (cutV_length xs lo hi) hz, _, 0, (r.drop (HT.sIx xs.length 0 lo)).take (HT.sIx xs.length xs.length hi - HT.sIx xs.length 0 lo), Heap.get?_push_size _ rfl⟩
def flatV : V → Bool
  | .non => true
  | .bl _ => true
  | .int _ => true
  | .str _ => true
  | _ => false
def eqV : V → V → Bool
  | .non, .non => true
  | .bl a, .bl b => a == b
  | .bl a, .int b => (if a then 1 else 0) == b
  | .int a, .bl b => a == (if b then 1 else 0)
  | .int a, .int b => a == b
  | .str a, .str b => a == b
  | _, _ => false
theorem eqAt_V {A : Around} {s : Shared} {y x : V} {u v : Value} (ry : RelV y u) (rx : RelV x v) (fy : flatV y = true) (fx : flatV x = true) : SeqAt.EqAt A s u v (eqV y x) := by
  cases y with
  | non =>
    cases ry
    cases x with
    | non => cases rx; exact SeqAt.EqAt.same _
    | bl b => cases rx; exact SeqAt.EqAt.none_bool b
    | int b => obtain ⟨t, rfl⟩ := rx; exact SeqAt.EqAt.none_int b t
    | str b => obtain ⟨t, rfl⟩ := rx; exact SeqAt.EqAt.none_str b t
    | _ => exact absurd (show false = true from fx) Bool.false_ne_true
  | bl a =>
    cases ry
    cases x with
    | non => cases rx; exact SeqAt.EqAt.bool_none a
    | bl b => cases rx; exact SeqAt.EqAt.bool_bool a b
    | int b => obtain ⟨t, rfl⟩ := rx; exact SeqAt.EqAt.bool_int a b t
    | str b => obtain ⟨t, rfl⟩ := rx; exact SeqAt.EqAt.bool_str a b t
    | _ => exact absurd (show false = true from fx) Bool.false_ne_true
  | int a =>
    obtain ⟨t', rfl⟩ := ry
    cases x with
    | non => cases rx; exact SeqAt.EqAt.int_none a t'
    | bl b => cases rx; exact SeqAt.EqAt.int_bool a t' b
    | int b => obtain ⟨t, rfl⟩ := rx; exact SeqAt.EqAt.int_int a t' b t
    | str b => obtain ⟨t, rfl⟩ := rx; exact SeqAt.EqAt.int_str a t' b t
    | _ => exact absurd (show false = true from fx) Bool.false_ne_true
  | str a =>
    obtain ⟨t', rfl⟩ := ry
    cases x with
    | non => cases rx; exact SeqAt.EqAt.str_none a t'
    | bl b => cases rx; exact SeqAt.EqAt.str_bool a t' b
    | int b => obtain ⟨t, rfl⟩ := rx; exact SeqAt.EqAt.str_int a t' b t
    | str b => obtain ⟨t, rfl⟩ := rx; exact SeqAt.EqAt.str_str a t' b t
    | _ => exact absurd (show false = true from fx) Bool.false_ne_true
  | _ => exact absurd (show false = true from fy) Bool.false_ne_true
def eqU (x : V) (u : Value) : Bool := match u with
  | .none => eqV .non x
  | .bool b => eqV (.bl b) x
  | .int i _ => eqV (.int i) x
  | .str z _ => eqV (.str z) x
  | _ => false
theorem eqU_of {x y : V} {u : Value} (r : RelV y u) (f : flatV y = true) : eqU x u = eqV y x := by
  cases y with
  | non => cases r; rfl
  | bl b => cases r; rfl
  | int i => obtain ⟨t, rfl⟩ := r; rfl
  | str z => obtain ⟨t, rfl⟩ := r; rfl
  | _ => exact absurd (show false = true from f) Bool.false_ne_true
theorem any_eqU {x : V} : ∀ {xs : List V} {us : List Value}, Vals xs us → xs.all flatV = true → us.any (eqU x) = xs.any fun y => eqV y x
  | _, _, .nil, _ => rfl
  | y :: xs, u :: us, .cons r t, f => by
    rw [List.all_cons, Bool.and_eq_true] at f
    rw [List.any_cons, List.any_cons, eqU_of r f.1, any_eqU t f.2]
theorem mem_eqAt {A : Around} {s : Shared} {x : V} {v : Value} (rx : RelV x v) (fx : flatV x = true) : ∀ {xs : List V} {us : List Value}, Vals xs us → xs.all flatV = true → ∀ u ∈ us, SeqAt.EqAt A s u v (eqU x u)
  | _, _, .nil, _ => fun u hu => by cases hu
  | y :: xs, u :: us, .cons r t, f => fun u' hu => by
    rw [List.all_cons, Bool.and_eq_true] at f
    rcases List.mem_cons.mp hu with rfl | hu
    · rw [eqU_of r f.1]; exact eqAt_V r rx f.1 fx
    · exact mem_eqAt rx fx t f.2 u' hu
def inV (x : V) (xs : List V) : Bool := xs.any fun y => eqV y x
def rIn (K : PySem.W.Frag) (neg : Bool) : R2 := fun x y H Q => ∃ p xs, y = .ref p ∧ (SqL K H p xs ∨ SqT K H p xs) ∧ flatV x = true ∧ xs.all flatV = true ∧ Q (.bl (if neg then !inV x xs else inV x xs)) H
theorem op_in_seq : OpR X (compareOp .In) (rIn X.K false) := by
  intro pins s σ H x y v u Q I rx ry h
  obtain ⟨p, xs, rfl, hq, fx, fs, q⟩ := h
  cases ry
  rcases hq with hq | hq
  · obtain ⟨its, r, pl, hz⟩ := I.list hq
    refine SeqAt.in_listAt (eqU x) pl.isList (fun w hw => mem_eqAt rx fx r fs w (by simpa using hw)) ⟨.bl _, H, I, rfl, ?_⟩
    rw [show its.toArray.any (eqU x) = its.any (eqU x) by simp, any_eqU r fs]
    exact q
  · obtain ⟨its, r, pl, hz⟩ := I.tuple hq
    refine SeqAt.in_tupleAt (eqU x) pl (fun w hw => mem_eqAt rx fx r fs w (by simpa using hw)) ⟨.bl _, H, I, rfl, ?_⟩
    rw [show its.toArray.any (eqU x) = its.any (eqU x) by simp, any_eqU r fs]
    exact q
theorem op_notIn_seq : OpR X (compareOp .NotIn) (rIn X.K true) := by
  intro pins s σ H x y v u Q I rx ry h
  obtain ⟨p, xs, rfl, hq, fx, fs, q⟩ := h
  cases ry
  rcases hq with hq | hq
  · obtain ⟨its, r, pl, hz⟩ := I.list hq
    refine SeqAt.notIn_listAt (eqU x) pl.isList (fun w hw => mem_eqAt rx fx r fs w (by simpa using hw)) ⟨.bl _, H, I, rfl, ?_⟩
    rw [show its.toArray.any (eqU x) = its.any (eqU x) by simp, any_eqU r fs]
    exact q
  · obtain ⟨its, r, pl, hz⟩ := I.tuple hq
    refine SeqAt.notIn_tupleAt (eqU x) pl (fun w hw => mem_eqAt rx fx r fs w (by simpa using hw)) ⟨.bl _, H, I, rfl, ?_⟩
    rw [show its.toArray.any (eqU x) = its.any (eqU x) by simp, any_eqU r fs]
    exact q
theorem call_len_seq : CallR X (.builtin "len") (fun xs H Q => ∃ p ys, xs = [.ref p] ∧ (SqL X.K H p ys ∨ SqT X.K H p ys) ∧ Q (.int ys.length) H) := by
  intro pins s σ H xs us Q I r h
  obtain ⟨p, ys, rfl, hq, q⟩ := h
  obtain ⟨u, rfl, rx⟩ := vals1 r
  cases rx
  have hn := line63
  rcases hq with hq | hq
  · obtain ⟨its, r', pl, hz⟩ := I.list hq
    have hlen := r'.length
    exact Calls.call_len_list pl.isList (by simp only [List.size_toArray] <;> omega) ⟨.int ys.length, H, I.tok _, ⟨s.toks + 1, by rw [List.size_toArray, hlen]⟩, q⟩
  · obtain ⟨its, r', pl, hz⟩ := I.tuple hq
    have hlen := r'.length
    exact len_tuple pl (by simp only [List.size_toArray] <;> omega) ⟨.int ys.length, H, I.tok _, ⟨s.toks + 1, by rw [List.size_toArray, hlen]⟩, q⟩
theorem call_list_of : CallR X (.type "list") (fun xs H Q => ∃ p ys, xs = [.ref p] ∧ (SqL X.K H p ys ∨ SqT X.K H p ys) ∧ ∀ l, H l = none → Q (.ref l) (upd H l (.lst ys))) := by
  intro pins s σ H xs us Q I r h
  obtain ⟨p, ys, rfl, hq, q⟩ := h
  obtain ⟨u, rfl, rx⟩ := vals1 r
  cases rx
  have fin : ∀ (its : List Value), Vals ys its → ys.length ≤ sizeLine → ∀ (h' : Heap) (c' : Nat), (∀ b o', s.heap.get? b = some o' → h'.get? b = some o') →
      h'.get? s.heap.objs.size = some { cls := .type "list", dict := none, data := .seq its.toArray c', slots := #[] } → EP X pins σ Q (.ref s.heap.objs.size) { s with heap := h' } := fun its r' hz h' c' kp e =>
    ⟨.ref s.heap.objs.size, _, I.laid (t' := s.toks) kp (Nat.le_refl _) (show ObjOk X.prog X.w _ h' _ (.lst ys) from ⟨hz, its, c', r', e⟩), rfl, q _ (I.hok.fresh (Nat.le_refl _))⟩
  rcases hq with hq | hq
  · obtain ⟨its, r', pl, hz⟩ := I.list hq
    have hlen := r'.length
    obtain ⟨o, ho, hc, n, hd⟩ := pl.isList
    exact call_list_seq p (.inl rfl) ho hc hd (fun h' c' kp e => fin its r' hz h' c' kp e) (by simp only [List.size_toArray] <;> omega)
  · obtain ⟨its, r', pl, hz⟩ := I.tuple hq
    have hlen := r'.length
    obtain ⟨o, ho, hc, n, hd⟩ := pl
    exact call_list_seq p (.inr rfl) ho hc hd (fun h' c' kp e => fin its r' hz h' c' kp e) (by simp only [List.size_toArray] <;> omega)
def tyV (K : PySem.W.Frag) (T : String) (x : V) (H : Hp) : Prop := match x with
  | .str _ => T = "str"
  | .int _ => T = "int"
  | .ref p => (T = "list" ∧ ∃ xs, SqL K H p xs) ∨ (T = "tuple" ∧ ∃ o, K.lookup p = some o ∧ o.cls = .type "tuple" ∧ o.dict = none) ∨
      (T = "dict" ∧ ((∃ kvs, H p = some (.dK kvs)) ∨ ∃ kvs, H p = some (.dT kvs))) ∨ (T = "set" ∧ ∃ S n, H p = some (.set S n))
  | _ => False
theorem tyV_is {pins : List (Addr × Obj)} {σ : St} {H : Hp} {s : Shared} {T : String} {x : V} {v : Value} (I : Inv X pins σ H s) (r : RelV x v) (ty : tyV X.K T x H) :
    s.TypeIs v T ∧ ∀ a, v = .ref a → ∃ ob, s.heap.get? a = some ob ∧ ob.dict = none := by
  cases x with
  | str z =>
    obtain ⟨t, rfl⟩ := r
    cases (show T = "str" from ty)
    exact ⟨typeIs_str s z t, fun _ e => nomatch e⟩
  | int i =>
    obtain ⟨t, rfl⟩ := r
    cases (show T = "int" from ty)
    exact ⟨typeIs_int s i t, fun _ e => nomatch e⟩
  | ref p =>
    cases r
    rcases ty with ⟨rfl, xs, hq⟩ | ⟨rfl, o, hk, hc, hd⟩ | ⟨rfl, hk⟩ | ⟨rfl, S, n, hk⟩
    · obtain ⟨its, _, pl, _⟩ := I.list hq
      refine ⟨pl.isList.typeIs, fun a e => ?_⟩
      cases e
      obtain ⟨o, n, e, c, hd, _⟩ := pl
      exact ⟨o, e, hd⟩
    · refine ⟨⟨o, I.kIn p o hk, hc⟩, fun a e => ?_⟩
      cases e
      exact ⟨o, I.kIn _ o hk, hd⟩
    · have z : ∃ o, s.heap.get? p = some o ∧ o.ExactDict := by
        rcases hk with ⟨kvs, hk⟩ | ⟨kvs, hk⟩
        · obtain ⟨_, _, _, _, o, _, _, e, ex, _⟩ := I.hok p _ hk
          exact ⟨o, e, ex⟩
        · obtain ⟨_, _, _, _, o, _, _, e, ex, _⟩ := I.hok p _ hk
          exact ⟨o, e, ex⟩
      obtain ⟨o, e, ex⟩ := z
      refine ⟨⟨o, e, ex.1⟩, fun a e2 => ?_⟩
      cases e2
      exact ⟨o, e, ex.2.1⟩
    · obtain ⟨o, _, _, _, e, ex, _⟩ := I.hok p _ hk
      refine ⟨⟨o, e, ex.1⟩, fun a e2 => ?_⟩
      cases e2
      exact ⟨o, e, ex.2.1⟩
  | _ => exact False.elim ty
def tBM (K : PySem.W.Frag) (T : String) (r : V → List V → Hp → VK → Prop) (to : TE) (t : TA) : TE := fun σ H Q => to σ H fun x H1 => tyV K T x H1 ∧ t σ H1 fun xs H2 => r x xs H2 Q
variable {o e : Expr} {es : List Expr} {to : TE} {t : TA} {name : Str} {apos cpos : Pos} {T id : String} {r : V → List V → Hp → VK → Prop}
theorem pe_bm (pa : PlainAttrs T) (slot : Slot T name id) (hty : typeOf (.builtin id) = pure (.type "method_descriptor")) (hm : MtR X id r) (ho : PE X o to) (ha : PA X (e :: es) t)
    (hbase : attributeBase o name X.env (eval o X.env) = eval o X.env := by rfl)
    (hfew : ((backTo cpos (starEach (e :: es) X.env)).all (fun x => !x.1) && (backToKw cpos (keywordEach [] X.env)).all (fun x => x.1.isSome)
      && decide ((e :: es).length + ([] : List Keyword).length + (if ([] : List Keyword).isEmpty then 0 else 1) < 30)) = true := by rfl)
    (hline : (apos.endLine == cpos.line) = true := by rfl) (hs : starEach (e :: es) X.env = (false, eval e X.env) :: starEach es X.env := by rfl) (hplain : (backTo cpos (starEach es X.env)).any (·.1) = false := by rfl) :
    PE X (.Call (.Attribute o name apos) (e :: es) [] cpos) (tBM X.K T r to t) := by
  intro pins s σ H Q I h
  refine wpAny_Call_method_late hbase hfew hline rfl (thn (ho pins s σ H _ I h) fun v s1 ⟨x, H1, I1, r1, ty, q1⟩ => ?_)
  obtain ⟨h1, h2⟩ := tyV_is I1 r1 ty
  refine ⟨T, id, pa, slot, hty, h1, h2, ?_⟩
  have hA := ha cpos pins s1 σ H1 _ I1 q1
  rw [hs] at hA ⊢
  refine Calls.callWith_builtin (by show (false || (backTo cpos (starEach es X.env)).any (·.1)) = false; rw [hplain] <;> rfl) (Calls.evalArgs_plain ?_)
  exact thn hA fun us s2 ⟨vs, H2, I2, r2, q2⟩ => hm pins s2 σ H2 x vs v us Q I2 r1 r2 q2
end
end L2
namespace L2
open PySem PySem.Spec PyProof.Rows
def MtM (X : Cx) (id : String) (r : V → List V → Hp → VK → Prop) : Prop :=
  ∀ (pins : List (Addr × Obj)) (s : Shared) (σ : St) (H : Hp) (x : V) (xs : List V) (v : Value) (us : List Value) (Q : VK), Inv X pins σ H s → RelV x v → Vals xs us → r x xs H Q →
    wpAny (model X.prog X.w) X.A (call (.builtin id) (v :: us)) (EP X pins σ Q) X.xe s
theorem Vals.one : ∀ {x : V} {us : List Value}, Vals [x] us → ∃ u, us = [u] ∧ RelV x u
  | _, _, .cons r .nil => ⟨_, rfl, r⟩
theorem Vals.two : ∀ {x y : V} {us : List Value}, Vals [x, y] us → ∃ u v, us = [u, v] ∧ RelV x u ∧ RelV y v
  | _, _, _, .cons r (.cons q .nil) => ⟨_, _, rfl, r, q⟩
section
variable {X : Cx} {pins : List (Addr × Obj)} {σ : St} {H : Hp} {s : Shared} {l b : Addr} {xs ys zs : List V}
theorem Inv.lset {its its' : List Value} {n : Nat} {f : Array Value → Array Value} {t' : Nat} (I : Inv X pins σ H s) (hH : H l = some (.lst xs))
    (e : s.heap.get? l = some { cls := .type "list", data := .seq its.toArray n }) (hf : f its.toArray = its'.toArray) (hv : Vals ys its') (hz : ys.length ≤ sizeLine) :
    Inv X pins σ (upd H l (.lst ys)) { s with heap := s.heap.update l (Obj.mapSeq f), toks := t' } := by
  have q := PySem.IsL.update e f
  rw [hf] at q
  refine I.write (x := l) (e := l) (by rw [hH]; exact trivial) (.inl rfl) (fun b' u hb hu => (Heap.get?_update_other s.heap (Obj.mapSeq f) (Ne.symm hb)).trans hu) ⟨_, q⟩ ?_
  exact ⟨hz, its', _, hv, q⟩
theorem Inv.lnew {its : List Value} {t' : Nat} (I : Inv X pins σ H s) (hv : Vals ys its) (hz : ys.length ≤ sizeLine) :
    Inv X pins σ (upd H s.heap.objs.size (.lst ys)) { s with heap := s.heap.push { cls := .type "list", data := .seq its.toArray }, toks := t' } :=
  I.laid (fun _ _ q => Heap.get?_push_of_some _ q) (Nat.le_refl _) ⟨hz, its, 0, hv, Heap.get?_push_size _ rfl⟩
theorem Inv.fresh (I : Inv X pins σ H s) : H s.heap.objs.size = none := I.hok.fresh (Nat.le_refl _)
theorem Inv.lstM (I : Inv X pins σ H s) (hH : H l = some (.lst xs)) : xs.length ≤ sizeLine ∧ ∃ (its : List Value) (n : Nat), Vals xs its ∧ xs.length = its.length ∧ s.heap.get? l = some { cls := .type "list", data := .seq its.toArray n } := by
  obtain ⟨z, its, n, r, e⟩ := I.hok l _ hH
  exact ⟨z, its, n, r, r.length, e⟩
end
section
variable {X : Cx}
def rAppend : V → List V → Hp → VK → Prop := fun x vs H Q => ∃ l xs y, x = .ref l ∧ vs = [y] ∧ H l = some (.lst xs) ∧ xs.length < sizeLine ∧ Q .non (upd H l (.lst (xs ++ [y])))
theorem mt_append : MtM X "list.append" rAppend := by
  intro pins s σ H x vs v us Q I rx rv h
  obtain ⟨l, xs, y, rfl, rfl, hH, hz, q⟩ := h
  cases rx
  obtain ⟨u, rfl, ru⟩ := rv.one
  obtain ⟨z, its, n, r, hl, e⟩ := I.lstM hH
  refine call_meets F.slot_list_append ⟨_, e, rfl⟩ F.entry_list_append (F.args_list_append_2 _ _) (PySem.list_append l its.toArray n u (by rw [List.size_toArray]; omega)) ⟨e, ?_⟩
  refine ⟨.non, _, I.lset (its' := its ++ [u]) hH e (by simp) (r.append (.cons ru .nil)) ?_, rfl, q⟩
  rw [List.length_append, List.length_singleton]
  omega
def rCat : R2 := fun x y H Q => ∃ l b xs zs, x = .ref l ∧ y = .ref b ∧ H l = some (.lst xs) ∧ H b = some (.lst zs) ∧ xs.length + zs.length ≤ sizeLine ∧ ∀ p, H p = none → Q (.ref p) (upd H p (.lst (xs ++ zs)))
theorem op_cat : OpR X (binaryOp .Add) rCat := by
  intro pins s σ H x y v u Q I rx ry h
  obtain ⟨l, b, xs, zs, rfl, rfl, hH, hB, hz, q⟩ := h
  cases rx
  cases ry
  obtain ⟨z, its, n, r, hl, e⟩ := I.lstM hH
  obtain ⟨z2, its2, n2, r2, hl2, e2⟩ := I.lstM hB
  refine PySem.P.add_list e e2 ?_ (by rw [List.size_toArray, List.size_toArray]; omega)
  have ea : its.toArray ++ its2.toArray = (its ++ its2).toArray := by simp
  rw [ea]
  exact ⟨.ref _, _, I.lnew (t' := s.toks) (r.append r2) (by rw [List.length_append]; omega), rfl, q _ I.fresh⟩
end
section
variable {prog : Program} {w : World} {A : Around} {E : Value → Shared → Prop} {s : Shared}
end
section
variable {X : Cx}
end
end L2
namespace L2
open PySem PySem.Spec PyProof.Rows
section
variable {κ : Type} [DecidableEq κ]
def valV (kvs : List (κ × V)) (k : κ) : Option V := (kvs.find? fun kv => decide (kv.1 = k)).map (·.2)
def putK (kvs : List (κ × V)) (k : κ) (v : V) : List (κ × V) :=
  if (kvs.any fun kv => decide (kv.1 = k)) = true then kvs.map (fun kv => if kv.1 = k then (kv.1, v) else kv) else kvs ++ [(k, v)]
theorem valV_pos {p : κ × V} {r : List (κ × V)} {k : κ} (e : p.1 = k) : valV (p :: r) k = some p.2 := by simp [valV, List.find?_cons, e]
theorem valV_neg {p : κ × V} {r : List (κ × V)} {k : κ} (e : ¬ p.1 = k) : valV (p :: r) k = valV r k := by simp [valV, List.find?_cons, e]
theorem valV_any (k : κ) : ∀ kvs : List (κ × V), (kvs.any fun kv => decide (kv.1 = k)) = (valV kvs k).isSome
  | [] => rfl
  | p :: r => by
    rw [List.any_cons]
    by_cases e : p.1 = k
    · simp only [valV_pos e, decide_eq_true e, Bool.true_or, Option.isSome_some]
    · rw [valV_neg e, decide_eq_false e, Bool.false_or]; exact valV_any k r
theorem valV_map (k j : κ) (y : V) : ∀ kvs : List (κ × V), valV (kvs.map fun kv => if kv.1 = k then (kv.1, y) else kv) j = (valV kvs j).map fun x => if j = k then y else x
  | [] => rfl
  | p :: r => by
    have ih := valV_map k j y r
    rw [List.map_cons]
    by_cases h : p.1 = k
    · rw [if_pos h]
      by_cases e : p.1 = j
      · rw [valV_pos (p := (p.1, y)) e, valV_pos e, Option.map_some, if_pos (e.symm.trans h)]
      · rw [valV_neg (p := (p.1, y)) e, valV_neg e, ih]
    · rw [if_neg h]
      by_cases e : p.1 = j
      · rw [valV_pos (p := p) e, valV_pos e, Option.map_some, if_neg (fun z => h (e.trans z))]
      · rw [valV_neg (p := p) e, valV_neg e, ih]
theorem valV_snoc (k j : κ) (y : V) : ∀ kvs : List (κ × V), valV kvs k = none → valV (kvs ++ [(k, y)]) j = if j = k then some y else valV kvs j
  | [], _ => by
    by_cases e : k = j
    · rw [if_pos e.symm]; exact valV_pos (p := (k, y)) e
    · rw [if_neg (fun z => e z.symm)]; exact valV_neg (p := (k, y)) e
  | p :: r, hn => by
    rw [List.cons_append]
    have hk : ¬ p.1 = k := fun z => by rw [valV_pos z] at hn; cases hn
    rw [valV_neg hk] at hn
    have ih := valV_snoc k j y r hn
    by_cases e : p.1 = j
    · rw [valV_pos e, valV_pos e, if_neg (fun z => hk (e.trans z))]
    · rw [valV_neg e, valV_neg e, ih]
theorem valV_put (kvs : List (κ × V)) (k j : κ) (y : V) : valV (putK kvs k y) j = if j = k then some y else valV kvs j := by
  unfold putK
  by_cases a : (kvs.any fun kv => decide (kv.1 = k)) = true
  · rw [if_pos a, valV_map]
    rw [valV_any] at a
    by_cases e : j = k
    · obtain ⟨x, hx⟩ := Option.isSome_iff_exists.mp a
      rw [if_pos e, e, hx, Option.map_some, if_pos rfl]
    · rw [if_neg e]
      cases valV kvs j with
      | none => rfl
      | some x => rw [Option.map_some, if_neg e]
  · rw [if_neg a]
    refine valV_snoc k j y kvs ?_
    rw [valV_any] at a
    cases q : valV kvs k with
    | none => rfl
    | some x => rw [q] at a; exact (a rfl).elim
theorem length_putK (kvs : List (κ × V)) (k : κ) (v : V) : (putK kvs k v).length ≤ kvs.length + 1 := by
  unfold putK
  split
  · rw [List.length_map]; omega
  · rw [List.length_append, List.length_cons, List.length_nil]; omega
theorem RelO.isSome_eq {o : Option V} {u : Option Value} (r : RelO o u) : o.isSome = u.isSome := by
  cases o with
  | none => cases u with
    | none => rfl
    | some _ => exact (show False from r).elim
  | some _ => cases u with
    | none => exact (show False from r).elim
    | some _ => rfl
theorem RelO.getD {o : Option V} {u : Option Value} {d : V} {d' : Value} (r : RelO o u) (rd : RelV d d') : RelV (o.getD d) (u.getD d') := by
  cases o with
  | none => cases u with
    | none => exact rd
    | some _ => exact (show False from r).elim
  | some _ => cases u with
    | none => exact (show False from r).elim
    | some _ => exact r
theorem KV.val {kvs : List (κ × V)} {vs : List (κ × Value)} (r : KV kvs vs) (k : κ) : RelO (valV kvs k) (valueAt vs k) := by
  unfold KV at r
  induction r with
  | nil => exact True.intro
  | @cons p q ps qs h t ih =>
    obtain ⟨h1, h2⟩ := h
    by_cases e : p.1 = k
    · have e' : q.1 = k := h1.symm.trans e
      have b : valueAt (q :: qs) k = some q.2 := by simp [valueAt, List.find?_cons, e']
      rw [valV_pos e, b]; exact h2
    · have e' : ¬ q.1 = k := fun z => e (h1.trans z)
      have b : valueAt (q :: qs) k = valueAt qs k := by simp [valueAt, List.find?_cons, e']
      rw [valV_neg e, b]; exact ih
theorem KV.any {kvs : List (κ × V)} {vs : List (κ × Value)} (r : KV kvs vs) (k : κ) : (kvs.any fun kv => decide (kv.1 = k)) = vs.any fun kv => decide (kv.1 = k) := by
  unfold KV at r
  induction r with
  | nil => rfl
  | cons h t ih => rw [List.any_cons, List.any_cons, ih, h.1]
theorem KV.repl {kvs : List (κ × V)} {vs : List (κ × Value)} (r : KV kvs vs) (k : κ) {y : V} {u : Value} (ry : RelV y u) :
    KV (kvs.map fun kv => if kv.1 = k then (kv.1, y) else kv) (vs.map fun kv => if kv.1 = k then (kv.1, u) else kv) := by
  unfold KV at r ⊢
  induction r with
  | nil => exact .nil
  | @cons p q ps qs h t ih =>
    rw [List.map_cons, List.map_cons]
    refine .cons ?_ ih
    obtain ⟨h1, h2⟩ := h
    by_cases e : p.1 = k
    · rw [if_pos e, if_pos (h1.symm.trans e)]; exact ⟨h1, ry⟩
    · rw [if_neg e, if_neg (fun z => e (h1.trans z))]; exact ⟨h1, h2⟩
theorem KV.put {kvs : List (κ × V)} {vs : List (κ × Value)} (r : KV kvs vs) (k : κ) {y : V} {u : Value} (ry : RelV y u) : KV (putK kvs k y) (stored vs k u) := by
  unfold putK stored
  rw [r.any k]
  by_cases e : (vs.any fun kv => decide (kv.1 = k)) = true
  · rw [if_pos e, if_pos e]; exact r.repl k ry
  · rw [if_neg e, if_neg e]; exact Paired.snoc r ⟨rfl, ry⟩
theorem KV.length {kvs : List (κ × V)} {vs : List (κ × Value)} (r : KV kvs vs) : kvs.length = vs.length := Paired.length r
end
theorem kV_is {P : Program} {w : World} {k : Key} {u : Value} (r : RelV (kV k) u) : (mixKind P w).is k u = true := by
  cases k with
  | inl i => obtain ⟨t, e⟩ := (show ∃ t, u = Value.int i t from r); subst e; exact mixKind_int P w i t
  | inr x => obtain ⟨t, e⟩ := (show ∃ t, u = Value.str x t from r); subst e; exact mixKind_str P w x t
theorem items_are {P : Program} {w : World} : ∀ {ks : List Key} {us : List Value}, Vals (ks.map kV) us → ItemsAre (mixKind P w) ks us
  | [], _, r => by rw [List.map_nil] at r; cases r; exact .nil
  | k :: ks, _, r => by
    rw [List.map_cons] at r
    cases r with
    | cons h t => exact .cons (kV_is h) (items_are t)
abbrev KT (H : Hp) : List (List Key × V) → List (List Key × Addr × Value) → Prop := Paired fun p q => p.1 = q.1 ∧ H q.2.1 = some (.tup (p.1.map kV)) ∧ RelV p.2 q.2.2
theorem KT.val {H : Hp} {kvs : List (List Key × V)} {xs : List (List Key × Addr × Value)} (r : KT H kvs xs) (k : List Key) : RelO (valV kvs k) ((atKey xs k).map (·.2)) := by
  induction r with
  | nil => exact True.intro
  | @cons p q ps qs h t ih =>
    obtain ⟨h1, _, h2⟩ := h
    by_cases e : p.1 = k
    · have e' : q.1 = k := h1.symm.trans e
      have b : atKey (q :: qs) k = some q.2 := by simp [atKey, List.find?_cons, e']
      rw [valV_pos e, b]; exact h2
    · have e' : ¬ q.1 = k := fun z => e (h1.trans z)
      have b : atKey (q :: qs) k = atKey qs k := by simp [atKey, List.find?_cons, e']
      rw [valV_neg e, b]; exact ih
theorem KT.repl {H : Hp} {kvs : List (List Key × V)} {xs : List (List Key × Addr × Value)} (r : KT H kvs xs) (k : List Key) {y : V} {u : Value} (ry : RelV y u) :
    KT H (kvs.map fun kv => if kv.1 = k then (kv.1, y) else kv) (xs.map (putAt k u)) := by
  induction r with
  | nil => exact .nil
  | @cons p q ps qs h t ih =>
    rw [List.map_cons, List.map_cons]
    refine .cons ?_ ih
    obtain ⟨h1, h2, h3⟩ := h
    unfold putAt
    by_cases e : p.1 = k
    · rw [if_pos e, if_pos (h1.symm.trans e)]; exact ⟨h1, h2, ry⟩
    · rw [if_neg e, if_neg (fun z => e (h1.trans z))]; exact ⟨h1, h2, h3⟩
theorem KT.put {H : Hp} {kvs : List (List Key × V)} {xs : List (List Key × Addr × Value)} (r : KT H kvs xs) (k : List Key) {b : Addr} {y : V} {u : Value} (hb : H b = some (.tup (k.map kV))) (ry : RelV y u) :
    KT H (putK kvs k y) (storedH xs k b u) := by
  have e : (kvs.any fun kv => decide (kv.1 = k)) = (atKey xs k).isSome := by
    rw [valV_any, (r.val k).isSome_eq, Option.isSome_map]
  unfold putK storedH
  rw [e]
  by_cases q : (atKey xs k).isSome = true
  · rw [if_pos q, if_pos q]; exact r.repl k ry
  · rw [if_neg q, if_neg q]; exact Paired.snoc r ⟨rfl, hb, ry⟩
theorem KT.keeps {H H' : Hp} {kvs : List (List Key × V)} {xs : List (List Key × Addr × Value)} (r : KT H kvs xs) (ht : ∀ b ys, H b = some (.tup ys) → H' b = some (.tup ys)) : KT H' kvs xs :=
  Paired.mapP r fun _ _ z => ⟨z.1, ht _ _ z.2.1, z.2.2⟩
section
variable {P : Program} {w : World} {H : Hp} {h : Heap} {a : Addr}
theorem rd_of {u : HO} (ok : HOk P w H h) (e : Rd H a u) : ObjOk P w H h a u := e.ok ok
theorem dk_rd {kvs : List (Key × V)} (ok : HOk P w H h) (e : Rd H a (.dK kvs)) : kvs.length ≤ sizeLine ∧ (a == sysModules) = false ∧ ∃ vs, KV kvs vs ∧ h.DictOf (mixKind P w) a vs :=
  show ObjOk P w H h a (.dK kvs) from rd_of ok e
theorem dk_of {kvs : List (Key × V)} (ok : HOk P w H h) (e : H a = some (.dK kvs)) : kvs.length ≤ sizeLine ∧ (a == sysModules) = false ∧ ∃ vs, KV kvs vs ∧ h.DictOf (mixKind P w) a vs := dk_rd ok (.inl e)
theorem key_of {ks : List Key} (ok : HOk P w H h) (e : H a = some (.tup (ks.map kV))) : (tupleKind (mixKind P w)).is h ks a := by
  obtain ⟨_, its, r, o, h1, h2, n, h3⟩ := (show ObjOk P w H h a (.tup (ks.map kV)) from ok a _ e)
  exact ⟨o, its.toArray, n, h1, h2, h3, by simpa using items_are r⟩
theorem dt_rd {kvs : List (List Key × V)} (ok : HOk P w H h) (e : Rd H a (.dT kvs)) : kvs.length ≤ sizeLine ∧ (a == sysModules) = false ∧
    ∃ xs, KT H kvs xs ∧ h.DictOfH (tupleKind (mixKind P w)) a xs := by
  obtain ⟨z, y, xs, r, o, es, ep, h1, h2, h3, h4, h5⟩ := (show ObjOk P w H h a (.dT kvs) from rd_of ok e)
  refine ⟨z, y, xs, r, o, es, ep, h1, h2, h3, h4, fun x hx => ?_, h5⟩
  have all : ∀ {l : List (List Key × V)} {m : List (List Key × Addr × Value)}, KT H l m → ∀ x ∈ m, (tupleKind (mixKind P w)).is h x.1 x.2.1 := by
    intro l m q
    induction q with
    | nil => intro x hx; exact nomatch hx
    | @cons p q ps qs hq t ih =>
      intro x hx
      rcases List.mem_cons.mp hx with e | hx
      · subst e
        exact key_of ok (by rw [← hq.1]; exact hq.2.1)
      · exact ih x hx
  exact all r x hx
theorem dt_of {kvs : List (List Key × V)} (ok : HOk P w H h) (e : H a = some (.dT kvs)) : kvs.length ≤ sizeLine ∧ (a == sysModules) = false ∧
    ∃ xs, KT H kvs xs ∧ h.DictOfH (tupleKind (mixKind P w)) a xs := dt_rd ok (.inl e)
end
def DGet (H : Hp) (a : Addr) (y : V) (r : Option V) : Prop :=
  (∃ kvs k, Rd H a (.dK kvs) ∧ y = kV k ∧ r = valV kvs k) ∨ ∃ kvs k b, Rd H a (.dT kvs) ∧ y = .ref b ∧ H b = some (.tup (k.map kV)) ∧ r = valV kvs k
def DPut (H : Hp) (a : Addr) (y v : V) (H' : Hp) : Prop :=
  (∃ kvs k, H a = some (.dK kvs) ∧ y = kV k ∧ kvs.length < sizeLine ∧ H' = upd H a (.dK (putK kvs k v))) ∨
  ∃ kvs k b, H a = some (.dT kvs) ∧ y = .ref b ∧ H b = some (.tup (k.map kV)) ∧ kvs.length < sizeLine ∧ H' = upd H a (.dT (putK kvs k v))
theorem DGet.k {H : Hp} {a : Addr} {kvs : List (Key × V)} {k : Key} (e : H a = some (.dK kvs)) : DGet H a (kV k) (valV kvs k) := .inl ⟨kvs, k, .inl e, rfl, rfl⟩
theorem DPut.k {H : Hp} {a : Addr} {kvs : List (Key × V)} {k : Key} {v : V} (e : H a = some (.dK kvs)) (hl : kvs.length < sizeLine) : DPut H a (kV k) v (upd H a (.dK (putK kvs k v))) := .inl ⟨kvs, k, e, rfl, hl, rfl⟩
section
variable {X : Cx} {pins : List (Addr × Obj)} {σ : St} {H : Hp} {s : Shared} {a : Addr} {y v : V} {u r : Value} {o : Option V} {A : Around} {E : Value → Shared → Prop}
theorem Inv.big (I : Inv X pins σ H s) : sysModules < s.heap.objs.size := by
  have h : mainGlobals < s.heap.objs.size := (I.mod.glob.keeps I.bk).lt
  exact Nat.lt_trans (by decide) h
theorem d_write {h' : Heap} {t' : Nat} {ob : HO} (I : Inv X pins σ H s) (mu : Mut (H a)) (hs : Heap.SameBut a s.heap h') (he : ∃ q, h'.get? a = some q) (new : ObjOk X.prog X.w (upd H a ob) h' a ob) :
    Inv X pins σ (upd H a ob) { s with heap := h', toks := t' } :=
  I.write (x := a) (e := a) mu (.inl rfl) (fun b q hb z => (hs.2 b hb).trans z) he new
theorem dk_new {P : Program} {w : World} {H' : Hp} {h' : Heap} {kvs : List (Key × V)} {vs : List (Key × Value)} (z : kvs.length ≤ sizeLine) (hd : (a == sysModules) = false) (rel : KV kvs vs) (dd : h'.DictOf (mixKind P w) a vs) :
    ObjOk P w H' h' a (.dK kvs) := ⟨z, hd, vs, rel, dd⟩
theorem d_setItem {H' : Hp} {Q : Unit → Shared → Prop} (hu : A.units + 1 < cLine) (I : Inv X pins σ H s) (g : DPut H a y v H') (ry : RelV y u) (rv : RelV v r) (h : ∀ s', Inv X pins σ H' s' → Q () s') :
    wpAny (model X.prog X.w) A (setItem (.ref a) u r) Q E s := by
  rcases g with ⟨kvs, k, e, ey, l, eH⟩ | ⟨kvs, k, b, e, ey, eb, l, eH⟩
  · subst ey eH
    obtain ⟨z, hd, vs, rel, dd⟩ := dk_of I.hok e
    have hz : vs.length ≤ sizeLine := by rw [← rel.length]; exact z
    have hl : (putK kvs k v).length ≤ sizeLine := by have := length_putK kvs k v; omega
    refine wpAny_setItem_pairs (hsz := hz) (kV_is ry) dd fun h' dd' hs => h _ ?_
    have he : ∃ q, h'.get? a = some q := let ⟨q, _, _, hq, _⟩ := dd'; ⟨q, hq⟩
    exact d_write I (by rw [e]; exact True.intro) hs he (dk_new hl hd (rel.put k rv) dd')
  · subst ey eH
    cases (show u = Value.ref b from ry)
    obtain ⟨z, hd, xs, rel, dd⟩ := dt_of I.hok e
    have hz : xs.length ≤ sizeLine := by rw [← Paired.length rel]; exact z
    have hl : (putK kvs k v).length ≤ sizeLine := by have := length_putK kvs k v; omega
    refine wpAny_setItem_heap (hsz := hz) (tupleKind_room_in1 hu) (key_of I.hok eb) dd fun h' dd' hs => h _ ?_
    obtain ⟨q, es, ep, hq, h2, h3, h4, _, h5⟩ := dd'
    refine d_write I (by rw [e]; exact True.intro) hs ⟨q, hq⟩ ⟨hl, hd, _, (rel.put k eb rv).keeps fun c ys ec => ?_, q, es, ep, hq, h2, h3, h4, h5⟩
    rw [upd_ne (ne_of ec e (fun z => nomatch z))]
    exact ec
end
section
variable {X : Cx} {pins : List (Addr × Obj)} {σ : St} {H : Hp} {s : Shared} {a : Addr} {kvs : List (Key × V)} {k : Key} {u : Value} {A : Around} {E : Value → Shared → Prop}
end
def sDPut (td ty tv : TE) : TS := fun D σ H => tv σ H fun v H1 => td σ H1 fun x H2 => ty σ H2 fun y H3 => ∃ a H4, x = .ref a ∧ DPut H3 a y v H4 ∧ D.nx σ H4
section
variable {X : Cx} {o i e value : Expr} {pos pos' tpos : Pos} {td ty tv : TE}
theorem ps_dput (hu : X.A.units + 1 < cLine) (ho : PE X o td) (hi : PE X i ty) (hv : PE X value tv) (hs : swapsWith value (some (.Subscript o i pos')) pos.line X.env = pure false) :
    PS X (.Assign [.Subscript o i pos'] value pos) (sDPut td ty tv) := by
  intro pins s σ H D I h
  refine wpAny_Assign_Subscript (thn (hv pins s σ H _ I h) fun r s1 ⟨v, H1, I1, rv, q1⟩ => thn (ho pins s1 σ H1 _ I1 q1) fun u s2 ⟨x, H2, I2, rx, q2⟩ => thn (hi pins s2 σ H2 _ I2 q2) fun iv s3 ⟨y, H3, I3, ry, a, H4, ex, g, q3⟩ => ?_) hs
  subst ex
  obtain rfl : u = Value.ref a := rx
  exact d_setItem hu I3 g ry rv fun s4 I4 => ⟨σ, H4, I4, q3⟩
end
theorem dk_empty {P : Program} {w : World} {H : Hp} (h : Heap) (hb : sysModules < h.objs.size) : ObjOk P w H (h.push { cls := .type "dict", data := .dict #[] }) h.objs.size (.dK []) :=
  ⟨Nat.zero_le _, beq_eq_false_iff_ne.mpr (Ne.symm (Nat.ne_of_lt hb)), [], .nil, Heap.DictOf.new h⟩
def tDNewK : TE := fun _ H Q => ∀ p, H p = none → Q (.ref p) (upd H p (.dK []))
section
variable {X : Cx} {pos : Pos}
theorem pe_dnewK : PE X (.Dict [] [] pos) tDNewK := fun pins s σ H Q I h =>
  wpAny_Dict_empty ⟨.ref s.heap.objs.size, _, I.laid (a := s.heap.objs.size) (o := .dK []) (t' := s.toks) (fun _ _ q => Heap.get?_push_of_some _ q) (Nat.le_refl _) (dk_empty s.heap I.big), rfl, h _ (I.hok.fresh (Nat.le_refl _))⟩
end
structure M2 (X : Cx) (o : Expr) (m : Str) (apos : Pos) (e f : Expr) (cpos : Pos) : Prop where
  base : attributeBase o m X.env (eval o X.env) = eval o X.env
  few : ((backTo cpos (starEach [e, f] X.env)).all (fun x => !x.1) && (backToKw cpos (keywordEach [] X.env)).all (fun x => x.1.isSome)
    && decide (([e, f] : List Expr).length + ([] : List Keyword).length + (if ([] : List Keyword).isEmpty then 0 else 1) < 30)) = true
  line : (apos.endLine == cpos.line) = true
  trees : backTo cpos (starEach [e, f] X.env) = [(false, eval e X.env), (false, eval f X.env)]
def IsD (H : Hp) (a : Addr) : Prop := (∃ kvs, Rd H a (.dK kvs)) ∨ ∃ kvs, Rd H a (.dT kvs)
theorem isD_at {X : Cx} {pins : List (Addr × Obj)} {σ : St} {H : Hp} {s : Shared} {a : Addr} (I : Inv X pins σ H s) (d : IsD H a) :
    s.TypeIs (.ref a) "dict" ∧ (∀ b, Value.ref a = .ref b → ∃ ob, s.heap.get? b = some ob ∧ ob.dict = none) ∧ (a == sysModules) = false := by
  rcases d with ⟨kvs, e⟩ | ⟨kvs, e⟩
  · obtain ⟨_, hd, vs, _, dd⟩ := dk_rd I.hok e
    refine ⟨dd.typeIs, fun b q => ?_, hd⟩
    cases q
    obtain ⟨ob, _, _, h1, h2, _⟩ := dd
    exact ⟨ob, h1, h2.2.1⟩
  · obtain ⟨_, hd, xs, _, dd⟩ := dt_rd I.hok e
    refine ⟨dd.typeIs, fun b q => ?_, hd⟩
    cases q
    obtain ⟨ob, _, _, h1, h2, _⟩ := dd
    exact ⟨ob, h1, h2.2.1⟩
section
variable {X : Cx} {pins : List (Addr × Obj)} {σ : St} {H : Hp} {s : Shared} {a : Addr} {y d : V} {u r : Value} {o : Option V} {A : Around} {E : Value → Shared → Prop}
theorem d_get2 {Q : Value → Shared → Prop} (hu : A.units + 1 < cLine) (I : Inv X pins σ H s) (g : DGet H a y o) (ry : RelV y u) (rd : RelV d r) (h : ∀ w' s', Inv X pins σ H s' → RelV (o.getD d) w' → Q w' s') :
    wpAny (model X.prog X.w) A (call (.builtin "dict.get") [.ref a, u, r]) Q E s := by
  rcases g with ⟨kvs, k, e, ey, l⟩ | ⟨kvs, k, b, e, ey, eb, l⟩
  · subst ey
    obtain ⟨z, hd, vs, rel, dd⟩ := dk_rd I.hok e
    refine call_meetsIn PySem.F.slot_dict_get dd.typeIs PySem.F.entry_dict_get (PySem.F.args_dict_get_3 _ _ _) (meets_dict_get_default (mixKind X.prog X.w) a (kV_is ry) hd r) ⟨_, dd.mapOf, h _ _ (I.tok _) ?_⟩
    rw [l]
    exact (rel.val k).getD rd
  · subst ey
    cases (show u = Value.ref b from ry)
    obtain ⟨z, hd, xs, rel, dd⟩ := dt_rd I.hok e
    refine call_meetsIn PySem.F.slot_dict_get dd.typeIs PySem.F.entry_dict_get (PySem.F.args_dict_get_3 _ _ _) (meetsH_dict_get_default (tupleKind (mixKind X.prog X.w)) a b hd r) ⟨tupleKind_room_in1 hu, k, xs, key_of I.hok eb, dd, h _ _ (I.tok _) ?_⟩
    rw [l]
    exact (rel.val k).getD rd
end
def tDGet2 (td ty tx : TE) : TE := fun σ H Q => td σ H fun x H1 => ∃ a, x = .ref a ∧ IsD H1 a ∧ ty σ H1 fun y H2 => tx σ H2 fun z H3 => ∃ o, DGet H3 a y o ∧ Q (o.getD z) H3
section
variable {X : Cx} {o e f : Expr} {apos cpos : Pos} {td ty tx : TE}
theorem pe_dget2 (hu : X.A.units + 1 < cLine) (ho : PE X o td) (he : PE X e ty) (hf : PE X f tx) (m : M2 X o "get" apos e f cpos) : PE X (.Call (.Attribute o "get" apos) [e, f] [] cpos) (tDGet2 td ty tx) := by
  intro pins s σ H Q I h
  refine wpAny_Call_method m.base m.few m.line PySem.F.plainAttrs_dict PySem.F.slot_dict_get PySem.F.type_dict_get (thn (ho pins s σ H _ I h) fun u s1 ⟨x, H1, I1, rx, a, ex, d, q1⟩ => ?_)
  subst ex
  obtain rfl : u = Value.ref a := rx
  obtain ⟨t1, t2, _⟩ := isD_at I1 d
  refine ⟨t1, t2, ?_⟩
  rw [m.trees]
  refine Calls.callWith_builtin rfl (Calls.evalArgs_plain (Calls.spliced_cons (thn (he pins s1 σ H1 _ I1 q1) fun iv s2 ⟨y, H2, I2, ry, q2⟩ =>
    Calls.spliced_cons (thn (hf pins s2 σ H2 _ I2 q2) fun fv s3 ⟨z, H3, I3, rz, ov, g, q3⟩ => Calls.spliced_nil ?_))))
  exact d_get2 hu I3 g ry rz fun w' s4 I4 rw' => ⟨_, H3, I4, rw', q3⟩
end
section
variable {X : Cx} {pins : List (Addr × Obj)} {σ : St} {H : Hp} {s : Shared} {a : Addr} {kvs : List (Key × V)} {A : Around} {E : Value → Shared → Prop}
end
section
variable {X : Cx} {pins : List (Addr × Obj)} {σ : St} {H : Hp} {s : Shared} {a : Addr} {y : V} {u : Value} {A : Around} {E : Value → Shared → Prop}
end
end L2
namespace Att
open PySem PySem.W PySem.Calls PyProof.Rows
theorem ints_of_wellAll {P : Params} {h : Heap} : ∀ (ns : List Int) (vs : List Value), WellAll P h vs (ns.map WData.int) → IntsAre vs ns := by
  intro ns
  induction ns with
  | nil =>
    intro vs w
    rw [List.map_nil] at w
    cases w
    exact .nil
  | cons n ns ih =>
    intro vs w
    rw [List.map_cons] at w
    cases w with
    | cons a b =>
      cases a
      exact .cons _ _ (ih _ b)
theorem script_of {l : OpenLaw} {n : Nat} (hn : l.most = some n) {P : Params} {h : Heap} {args : List WData} {vals : List Value}
    (hpre : l.row.toRowW.claim.pre args = true) (hwl : WellAll P h vals args) :
    ∃ a vs ns, vals = [Value.ref a] ∧ args = [WData.list (ns.map WData.int)] ∧ h.get? a = some { cls := .type "list", data := .seq vs.toArray } ∧ IntsAre vs ns ∧ ns.length ≤ n := by
  have hsh : WShape.hasAll [] args [.list .int] = true := (pre_splitW hpre).1
  have hc : l.pre.holds [] { args := args } = true := (pre_splitW hpre).2
  obtain ⟨d, r, rfl, h1, h2⟩ := hasAllW_cons hsh
  obtain rfl := hasAllW_nil h2
  obtain ⟨xs, rfl, h3⟩ := hasW_list h1
  obtain ⟨ns, rfl⟩ := items_int h3
  have hlen : ns.length ≤ n := by
    unfold OpenLaw.pre at hc
    have h4 : (WTm.not (.lt (.lit (.int (n : Int))) (.len (.arg 0)))).holds [] { args := [.list (ns.map .int)] } = true := by
      have h4 := (holds_andW hc).1
      rw [hn] at h4
      exact h4
    have h5 := condW_of h4 (w_not (w_lt w_lit (w_len_list (w_arg rfl))))
    rw [List.length_map] at h5
    refine Nat.le_of_not_lt fun q => ?_
    have q' : (n : Int) < ((ns.length : Nat) : Int) := by omega
    first
      | (rw [decide_eq_true q'] at h5; exact absurd h5 (by decide))
      | (simp at h5; omega)
  cases hwl with
  | cons w1 w2 =>
    cases w2
    cases w1 with
    | list ho hall => exact ⟨_, _, ns, rfl, rfl, ho, ints_of_wellAll ns _ hall, hlen⟩
theorem post_true (l : OpenLaw) (args : List WData) : l.row.toRowW.claim.post args (.bool true) args = true :=
  postW_of (r := l.row.toRowW) (X := (true == true))
    (show WShape.has [] (.bool true) .bool = true by first | rfl | decide | simp [WShape.has, WShape.arms, WShape.armsAll])
    (show (WTm.eq .res (.lit (.bool true))).value [] { args := args, res := some (.bool true), after := args } = some (.bool (true == true)) from w_eq_bool (w_res rfl) w_lit) rfl
theorem attach_call {l : OpenLaw} {n : Nat} {q : Program} {loose : List Str} {XP : (Str → Option Value) → Heap → Prop} {YP : World → Heap → Prop} {d : DefRec}
    (hn : l.most = some n) (hdf : d.params.defaults = [])
    (call : ∀ (w : World) (s₀ s₁ : Shared) (mg mb : Str → Option Value) (fa : Addr) (o : Obj) (pm cd doc : Value) (a : Addr) (vs : List Value) (ns : List Int),
      Ground q loose [] XP w s₀ mg mb s₁.heap → YP w s₁.heap →
      s₁.heap.get? fa = some o → o.data = .func (docDef d.name d.params d.body d.scope pm cd doc) → s₁.heap.CodeRec cd d.name → mg d.name = some (.ref fa) →
      s₁.heap.get? a = some { cls := .type "list", data := .seq vs.toArray } → IntsAre vs ns → ns.length ≤ n → s₁.gens = #[] →
      codeAny (model l.prog w) callerA (.call (.ref fa) ⟨[.ref a], []⟩) (fun r s' => r = .ok (.ret (.bool true)) ∧ OldK s₁.heap s'.heap ∧ s'.os = s₁.os ∧ AllBare s'.gens) s₁) :
    WalkO q loose XP YP l.row.toRowW d [] (fun f vs => PySem.call f vs) := by
  intro w s₀ s₁ mg mb G Y fa o pm cd doc dV kV ho hd hcd hD hmg hg args vals as hpre hlay hrd hwl hlo
  obtain rfl : dV = .none := Dflts.none hD hdf
  obtain rfl : kV = .none := Dflts.noKw hD
  obtain ⟨a, vs, ns, rfl, rfl, hobj, hints, hlen⟩ := script_of hn hpre hwl
  refine enter_call (codeAny_mono (call w s₀ s₁ mg mb fa o pm cd doc a vs ns G Y ho (fd_plain hd) hcd hmg hobj hints hlen hg) fun r s' hq => ?_)
  obtain ⟨rfl, h2, h3, h4⟩ := hq
  exact ⟨.inl ⟨.bool true, .bool true, [], rfl, fun _ => rfl, .bool true, post_true l _, fun _ => ⟨List.Pairwise.nil, fun _ hm => (nomatch hm)⟩⟩, h2, h3, h4⟩
section
variable {prog : Program} {w : World} {A : Around} {E : Value → Shared → Prop} {s : Shared} {K : Frag}
end
end Att
namespace L2
open PySem PySem.Spec PyProof.Rows
theorem vals_ints : ∀ {vs : List Value} {ns : List Int}, IntsAre vs ns → Vals (ns.map V.int) vs
  | _, _, .nil => .nil
  | _, _, .cons n t h => .cons ⟨t, rfl⟩ (vals_ints h)
def Only (H : Hp) : Prop := ∀ b, H b = none ∨ ∃ o xs, H b = some (.frz o (.lst xs))
theorem law_call {P : Program} {w : World} {K : PySem.W.Frag} {mg mb : Str → Option Value} {CX : CXT} {k : Nat} {fa a : Addr} {fd : FuncData} {x : Str} {sp : Sp} {s₁ : Shared} {vs : List Value} {ns : List Int}
    (KX : K.In s₁.heap) (hns : s₁.heap.Ns mainGlobals mg) (hb : s₁.heap.Ns builtinsNs mb) (hbb : ∀ x : Str, x ≠ "__name__" → mb x = bootBuiltins x) (hlim : s₁.heap.NoLimit) (hg : s₁.gens = #[])
    (ha : s₁.heap.get? a = some { cls := .type "list", data := .seq vs.toArray }) (hi : IntsAre vs ns) (hl : ns.length ≤ sizeLine) (hr : Room k callerA)
    (F : ∀ base : Heap, K.In base → base.Ns mainGlobals mg → FnOk P w K mg base CX k fa fd [x] sp) (hbind : ∀ (s : Shared) (u : Value), BindsTo s fd ⟨[u], []⟩ [(x, u)])
    (hsp : ∀ H : Hp, Only H → SqL K H a (ns.map V.int) → sp [.ref a] H (fun v _ => v = .bl true) fun _ _ _ => False)
    (hCX : ∀ H e s', CX [] H s₁ (fun _ _ _ => False) e s' → False) :
    codeAny (model P w) callerA (.call (.ref fa) ⟨[.ref a], []⟩) (fun r s' => r = .ok (.ret (.bool true)) ∧ OldK s₁.heap s'.heap ∧ s'.os = s₁.os ∧ AllBare s'.gens) s₁ := by
  have rv := vals_ints hi
  have lenV := hi.length
  -- from an abstract heap in which nothing but the script may be tracked
  have core : ∀ H : Hp, Only H → SqL K H a (ns.map V.int) → HOk P w H s₁.heap → (∀ b, H b ≠ none → b = a) → (H a ≠ none → K.lookup a = none) →
      codeAny (model P w) callerA (.call (.ref fa) ⟨[.ref a], []⟩) (fun r s' => r = .ok (.ret (.bool true)) ∧ OldK s₁.heap s'.heap ∧ s'.os = s₁.os ∧ AllBare s'.gens) s₁ := by
    intro H hO hS hok hA hK
    have base_of : ∀ {b : Addr} {o : Obj}, s₁.heap.get? b = some o → H b = none → (hidT s₁.heap H).get? b = some o := fun e n => hidT_get e n
    have noA : ∀ {b : Addr} {o : Obj} {es : Array DictEntry} {ep : Nat}, s₁.heap.get? b = some o → o.data = .dict es ep → H b = none := fun {b o es ep} e d => by
      cases q : H b with
      | none => rfl
      | some u =>
        have e' : b = a := hA b (by rw [q]; simp)
        subst e'
        rw [ha] at e; cases e
        have d' : Data.seq vs.toArray _ = Data.dict es ep := d
        cases d'
    have nsK : ∀ {b : Addr} {m : Str → Option Value}, s₁.heap.Ns b m → (hidT s₁.heap H).Ns b m := fun {b m} ⟨o, es, ep, e, d, r⟩ => ⟨o, es, ep, base_of e (noA e d), d, r⟩
    have hKb : K.In (hidT s₁.heap H) := fun b o e => base_of (KX b o e) (by
      cases q : H b with
      | none => rfl
      | some u =>
        have e' : b = a := hA b (by rw [q]; simp)
        subst e'
        rw [hK (by rw [q]; simp)] at e; cases e)
    have hM : Mod K mg (hidT s₁.heap H) := ⟨hKb, nsK hns, ⟨mb, nsK hb, hbb⟩, let ⟨mc, h1, h2⟩ := hlim; ⟨mc, nsK h1, h2⟩⟩
    have e0 : Env0 P w K mg (hidT s₁.heap H) callerA [] s₁ H := ⟨rfl, hM, fun b o e => of_hidT e, Nat.le_of_eq (hidT_size _ _), trivial, fun b hb => absurd (show b ∈ ([] : List Addr) from hb) (by simp), hok, .of_eq hg⟩
    refine codeAny_mono ((F _ hKb (nsK hns)).run callerA [] s₁ H ⟨[.ref a], []⟩ [.ref a] [.ref a] _ _ hr e0 (hbind s₁ (.ref a)) (.cons rfl .nil) (hsp H hO hS)) fun r s' h => ?_
    cases r with
    | error e => exact (hCX H e s' h).elim
    | ok fl =>
      cases fl with
      | next => exact False.elim h
      | brk => exact False.elim h
      | cont => exact False.elim h
      | ret u =>
        obtain ⟨v, H', os, bare, un, hok', r', q⟩ := h
        have q' : v = .bl true := q
        subst q'
        obtain rfl : u = Value.bool true := r'
        refine ⟨rfl, OldK.of_keep fun b o e => ?_, os, bare⟩
        cases q : H b with
        | none => exact un.keep b o e q (by intro z; exact absurd (show b ∈ ([] : List Addr) from z) (by simp)) (by simp)
        | some u =>
          rcases hO b with z | ⟨ob, xs, z⟩
          · rw [q] at z; cases z
          · have z2 := un.frzs b ob _ z
            obtain ⟨e1, _⟩ := hok b _ z
            obtain ⟨e2, _⟩ := hok' b _ z2
            rw [e] at e1; cases e1
            exact e2
  cases hk : K.lookup a with
  | some o =>
    -- the script is one of the module's own objects
    have e := KX a o hk
    rw [ha] at e
    cases e
    refine core (fun _ => none) (fun _ => .inl rfl) (.inr ⟨_, vs.toArray, _, hk, rfl, rfl, rfl, by rw [List.size_toArray, lenV]; exact hl, by simpa using rv⟩) (fun b u z => by have z' : (none : Option HO) = some u := z; cases z') (fun b z => absurd rfl z) fun z => absurd rfl z
  | none =>
    refine core (fun b => if b = a then some (.frz { cls := .type "list", data := .seq vs.toArray } (.lst (ns.map V.int))) else none) (fun b => ?_) (.inl (.inr ⟨{ cls := .type "list", data := .seq vs.toArray }, if_pos rfl⟩)) (fun b u z => ?_) (fun b z => ?_) fun _ => hk
    · by_cases hb : b = a
      · exact .inr ⟨_, _, if_pos hb⟩
      · exact .inl (if_neg hb)
    · by_cases hb : b = a
      · have z' := (if_pos hb).symm.trans z
        cases z'
        subst hb
        exact ⟨ha, by rw [List.length_map]; exact hl, vs, _, rv, ha⟩
      · have z' := (if_neg hb).symm.trans z
        cases z'
    · by_cases hb : b = a
      · exact hb
      · exact absurd (if_neg hb) z
end L2
namespace L2
open PySem PySem.Spec PyProof.Rows
theorem walk_of {l : PySem.W.OpenLaw} {n k : Nat} {q : Program} {loose : List Str} {XP : (Str → Option Value) → Heap → Prop} {YP : World → Heap → Prop} {d : DefRec} {K : Params → PySem.W.Frag} {CX : World → CXT} {sp : World → Sp} {x : Str}
    (hn : l.most = some n) (hn2 : n ≤ sizeLine) (hdf : d.params.defaults = []) (hr : Room k callerA)
    (hY : ∀ (w : World) (h : Heap), YP w h → (K w.params).In h)
    (F : ∀ (w : World) (mg : Str → Option Value) (fa : Addr) (h : Heap), (K w.params).In h → h.Ns mainGlobals mg → mg d.name = some (.ref fa) →
      ∃ fd : FuncData, (∀ (s : Shared) (u : Value), BindsTo s fd ⟨[u], []⟩ [(x, u)]) ∧
        ∀ base : Heap, (K w.params).In base → base.Ns mainGlobals mg → FnOk l.prog w (K w.params) mg base (CX w) k fa fd [x] (sp w))
    (hsp : ∀ (w : World) (H : Hp) (a : Addr) (ns : List Int), ns.length ≤ n → Only H → SqL (K w.params) H a (ns.map V.int) → sp w [.ref a] H (fun v _ => v = .bl true) fun _ _ _ => False)
    (hCX : ∀ (w : World) (H : Hp) (s : Shared) (e : Value) (s' : Shared), CX w [] H s (fun _ _ _ => False) e s' → False) :
    PySem.W.WalkO q loose XP YP l.row.toRowW d [] (fun f vs => PySem.call f vs) := by
  refine Att.attach_call hn hdf fun w s₀ s₁ mg mb fa o pm cd doc a vs ns G Y ho hd hcd hmg hobj hints hlen hg => ?_
  have KX := hY w _ Y
  obtain ⟨fd, hb, hF⟩ := F w mg fa _ KX G.T.g hmg
  exact law_call KX G.T.g G.T.b G.T.builtins G.T.nolimit hg hobj hints (Nat.le_trans hlen hn2) hr hF hb (fun H hO hS => hsp w H a ns hlen hO hS) fun H e s' => hCX w H s₁ e s'
end L2
namespace L2
open PySem PySem.Spec PyProof.Rows
def defArgs (s : Stmt) : Arguments := match s with
  | .FunctionDef _ a _ _ _ _ _ _ _ _ => a
  | _ => { posonlyargs := [], args := [], vararg := none, kwonlyargs := [], kw_defaults := [], kwarg := none, defaults := [] }
def defBody (s : Stmt) : List Stmt := match s with
  | .FunctionDef _ _ b _ _ _ _ _ _ _ => b
  | _ => []
def defScope (s : Stmt) : Scope := match s with
  | .FunctionDef _ _ _ _ _ _ sc _ _ _ => sc
  | _ => { kind := .function, names := [], isGenerator := false, isCoroutine := false }
abbrev CX0 : CXT := fun _ _ _ _ _ _ => False
abbrev E0 : XK := fun _ _ _ => False
theorem pass0 {X : Cx} : Passes CX0 X E0 := fun _ _ _ _ _ _ _ h => h.elim
structure Fun (K : PySem.W.Frag) (x qual : Str) (st : Stmt) (f : Addr) (fd : FuncData) : Prop where
  ex : ∃ (oc : Value) (od : Option Addr) (kV doc pm : Value) (an : Option Addr) (cdv ct : Value) (osl : Array (Option Value)),
    fd = PySem.W.fnOf x qual (defArgs st) (defBody st) (defScope st) .none kV doc pm an cdv ct ∧ K.lookup f = some ⟨oc, od, .func fd, osl⟩ ∧ PySem.W.codeIn K cdv qual = true
  kp : PySem.W.keepIn K (.ref f) = true
section
variable {P : Program} {w : World} {K : PySem.W.Frag} {mg : Str → Option Value} {base : Heap}
theorem Fun.ok {x qual : Str} {st : Stmt} {f : Addr} {fd : FuncData} {N ps : List Str} {k : Nat} {sp : Sp} (F : Fun K x qual st f fd) (S : FnScope N ps (defScope st)) (len : ∀ vs H Q E, sp vs H Q E → vs.length = ps.length)
    (hbody : ∀ (cdv : Value) (A : Around) (outer : List Env) (s : Shared) (H : Hp) (vs : List V) (Q : VK) (E : XK), Room k (A.deeper (envOfC qual (defScope st) s.heap.objs.size f cdv)) → sp vs H Q E →
      ∃ t, PSs (cxOf CX0 P w K mg base N qual (defScope st) f cdv A outer s H E).nox (defBody st) t ∧ t { nx := fun _ H' => Q .non H', rt := Q } (start N vs) H) : FnOk P w K mg base CX0 (k + 1) f fd ps sp := by
  obtain ⟨oc, od, kV, doc, pm, an, cdv, ct, osl, rfl, lk, hcd⟩ := F.ex
  refine fn_of lk hcd S len fun A outer s H vs Q E hr hsp => ?_
  obtain ⟨t, h, q⟩ := hbody cdv A outer s H vs Q E hr hsp
  exact ⟨t, h.nox, q⟩
theorem Fun.binds {x qual : Str} {st : Stmt} {f : Addr} {fd : FuncData} {ps : List Str} (F : Fun K x qual st f fd)
    (h : ∀ (kV doc pm : Value) (an : Option Addr) (cdv ct : Value) (us : List Value), us.length = ps.length → bindArgs (PySem.W.fnOf x qual (defArgs st) (defBody st) (defScope st) .none kV doc pm an cdv ct) ⟨us, []⟩ = pure (ps.zip us)) : Binds K fd ps [] := by
  obtain ⟨oc, od, kV, doc, pm, an, cdv, ct, osl, rfl, lk, hcd⟩ := F.ex
  exact .all (h kV doc pm an cdv ct)
theorem fun_mk {x qual : Str} {st : Stmt} {f : Addr} {oc : Value} {od an : Option Addr} {osl : Array (Option Value)} {kV doc pm cdv ct : Value} (l : K.lookup f = some ⟨oc, od, .func (PySem.W.fnOf x qual (defArgs st) (defBody st) (defScope st) .none kV doc pm an cdv ct), osl⟩)
    (c : PySem.W.codeIn K cdv qual = true) (k : PySem.W.keepIn K (.ref f) = true) : Fun K x qual st f (PySem.W.fnOf x qual (defArgs st) (defBody st) (defScope st) .none kV doc pm an cdv ct) := ⟨⟨oc, od, kV, doc, pm, an, cdv, ct, osl, rfl, l, c⟩, k⟩
end
theorem hu_of {A : Around} {k : Nat} (hr : Room k A) : A.units + 1 < cLine := Nat.lt_of_le_of_lt (Nat.add_le_add_left (by decide : 1 ≤ 64) _) hr.units
theorem small1000 {n : Nat} (h : n ≤ 1000) : n < sizeLine := Nat.lt_of_le_of_lt h (by decide)
section
variable {X : Cx}
theorem pv (i : Nat) {x : Str} {pos : Pos} (hN : X.N[i]? = some x := by rfl) (hv : Vis X.env.scope x := by first | exact Or.inl rfl | exact Or.inr (Or.inl rfl) | exact Or.inr (Or.inr rfl)) (hd : (x == ("__debug__" : Str)) = false := by decide)
    (hcd : (x == ("__classdict__" : Str)) = false := by decide) : PE X (.Name x pos) (tVar i) := pe_var hN hv hd hcd
end
theorem iteF {A B : Prop} (h : B) : if false = true then A else B := by
  rw [if_neg Bool.false_ne_true]
  exact h
theorem iteT {A B : Prop} (h : A) : if true = true then A else B := by
  rw [if_pos rfl]
  exact h
def Same (H H' : Hp) : Prop := ∀ b o, H b = some o → H' b = some o
theorem Same.refl (H : Hp) : Same H H := fun _ _ h => h
theorem Same.trans {H H1 H2 : Hp} (a : Same H H1) (b : Same H1 H2) : Same H H2 := fun c o h => b c o (a c o h)
theorem Same.free {H H' : Hp} (e : Same H H') {l : Addr} (h : H' l = Option.none) : H l = Option.none := by
  cases q : H l with
  | none => rfl
  | some o =>
    rw [e l o q] at h
    cases h
theorem Same.seq {K : PySem.W.Frag} {H H' : Hp} {a : Addr} {xs : List V} (e : Same H H') (h : SqL K H a xs) : SqL K H' a xs := by
  rcases h with (h | ⟨o, h⟩) | h
  · exact .inl (.inl (e _ _ h))
  · exact .inl (.inr ⟨o, e _ _ h⟩)
  · exact .inr h
end L2
namespace L2
open PySem PySem.Spec PyProof.Rows
section
variable {X : Cx}
end
section
variable {κ : Type} [DecidableEq κ]
end
end L2
set_option Elab.async false
set_option linter.all false
set_option maxRecDepth 100000
set_option maxHeartbeats 4000000
namespace L2
open PySem PySem.Spec PyProof.Rows
mutual
inductive Rep (H : Hp) (S : List Addr) : V → PyData → Prop
  | non : Rep H S .non .none
  | bl (b : Bool) : Rep H S (.bl b) (.bool b)
  | int (i : Int) : Rep H S (.int i) (.int i)
  | str (x : Str) : Rep H S (.str x) (.str x)
  | lst {a : Addr} {xs : List V} {ds : List PyData} : Rd H a (.lst xs) → ¬ a ∈ S → Reps H S xs ds → Rep H S (.ref a) (.list ds)
  | tup {a : Addr} {xs : List V} {ds : List PyData} : Rd H a (.tup xs) → Reps H S xs ds → Rep H S (.ref a) (.tuple ds)
inductive Reps (H : Hp) (S : List Addr) : List V → List PyData → Prop
  | nil : Reps H S [] []
  | cons {x : V} {xs : List V} {d : PyData} {ds : List PyData} : Rep H S x d → Reps H S xs ds → Reps H S (x :: xs) (d :: ds)
end
structure Chg (S : List Addr) (H H' : Hp) : Prop where
  keep : ∀ b o, H b = some o → ¬ b ∈ S → H' b = some o
  tups : ∀ b xs, H b = some (.tup xs) → H' b = some (.tup xs)
  frzs : ∀ b o u, H b = some (.frz o u) → H' b = some (.frz o u)
section
variable {H H' H1 H2 : Hp} {S T : List Addr} {a p : Addr} {o : HO}
theorem Chg.of_same (s : Same H H') : Chg S H H' := ⟨fun b o e _ => s b o e, fun b xs e => s b _ e, fun b o u e => s b _ e⟩
theorem Same.new (hp : H p = none) : Same H (upd H p o) := fun b u e => by rw [upd_ne (ne_of_none e hp)]; exact e
theorem Chg.set (mu : Mut (H a)) (ha : a ∈ S) : Chg S H (upd H a o) := by
  refine ⟨fun b u e n => ?_, fun b xs e => ?_, fun b u w e => ?_⟩
  · rw [upd_ne (by rintro rfl; exact n ha)]; exact e
  · rw [upd_ne (by rintro rfl; rw [e] at mu; exact mu)]; exact e
  · rw [upd_ne (by rintro rfl; rw [e] at mu; exact mu)]; exact e
theorem Rd.chgT {xs : List V} (c : Chg S H H') (r : Rd H a (.tup xs)) : Rd H' a (.tup xs) := r.elim (fun e => .inl (c.tups _ _ e)) fun ⟨o, e⟩ => .inr ⟨o, c.frzs _ _ _ e⟩
theorem Rd.chgL {xs : List V} (c : Chg S H H') (ha : ¬ a ∈ S) (r : Rd H a (.lst xs)) : Rd H' a (.lst xs) := r.elim (fun e => .inl (c.keep _ _ e ha)) fun ⟨o, e⟩ => .inr ⟨o, c.frzs _ _ _ e⟩
theorem Rd.some {u : HO} (r : Rd H a u) : ∃ o, H a = some o := r.elim (fun e => ⟨_, e⟩) fun ⟨_, e⟩ => ⟨_, e⟩
mutual
theorem Rep.chg (c : Chg S H H') : ∀ {v : V} {d : PyData}, Rep H S v d → Rep H' S v d
  | _, _, .non => .non
  | _, _, .bl b => .bl b
  | _, _, .int i => .int i
  | _, _, .str x => .str x
  | _, _, .lst r n rs => .lst (r.chgL c n) n (Reps.chg c rs)
  | _, _, .tup r rs => .tup (r.chgT c) (Reps.chg c rs)
theorem Reps.chg (c : Chg S H H') : ∀ {vs : List V} {ds : List PyData}, Reps H S vs ds → Reps H' S vs ds
  | _, _, .nil => .nil
  | _, _, .cons h t => .cons (Rep.chg c h) (Reps.chg c t)
end
mutual
theorem Rep.mono (c : ∀ b ∈ T, b ∈ S) : ∀ {v : V} {d : PyData}, Rep H S v d → Rep H T v d
  | _, _, .non => .non
  | _, _, .bl b => .bl b
  | _, _, .int i => .int i
  | _, _, .str x => .str x
  | _, _, .lst r n rs => .lst r (fun m => n (c _ m)) (Reps.mono c rs)
  | _, _, .tup r rs => .tup r (Reps.mono c rs)
theorem Reps.mono (c : ∀ b ∈ T, b ∈ S) : ∀ {vs : List V} {ds : List PyData}, Reps H S vs ds → Reps H T vs ds
  | _, _, .nil => .nil
  | _, _, .cons h t => .cons (Rep.mono c h) (Reps.mono c t)
end
mutual
theorem Rep.fresh (hp : H p = none) : ∀ {v : V} {d : PyData}, Rep H S v d → Rep H (p :: S) v d
  | _, _, .non => .non
  | _, _, .bl b => .bl b
  | _, _, .int i => .int i
  | _, _, .str x => .str x
  | _, _, .lst r n rs => .lst r (fun m => (List.mem_cons.mp m).elim (fun z => by obtain ⟨o, e⟩ := r.some; rw [z, hp] at e; cases e) n) (Reps.fresh hp rs)
  | _, _, .tup r rs => .tup r (Reps.fresh hp rs)
theorem Reps.fresh (hp : H p = none) : ∀ {vs : List V} {ds : List PyData}, Reps H S vs ds → Reps H (p :: S) vs ds
  | _, _, .nil => .nil
  | _, _, .cons h t => .cons (Rep.fresh hp h) (Reps.fresh hp t)
end
theorem Reps.plain {v : List V} {d : List PyData} (r : Reps H S v d) : Reps H [] v d := r.mono (by simp)
theorem Rep.same {v : V} {d : PyData} (s : Same H H') (r : Rep H S v d) : Rep H' S v d := r.chg (.of_same s)
theorem Reps.same {v : List V} {d : List PyData} (s : Same H H') (r : Reps H S v d) : Reps H' S v d := r.chg (.of_same s)
theorem Reps.length : ∀ {vs : List V} {ds : List PyData}, Reps H S vs ds → vs.length = ds.length
  | _, _, .nil => rfl
  | _, _, .cons _ t => by rw [List.length_cons, List.length_cons, Reps.length t]
theorem Reps.get : ∀ {vs : List V} {ds : List PyData} {i : Nat} {v : V}, Reps H S vs ds → vs[i]? = some v → ∃ d, ds[i]? = some d ∧ Rep H S v d
  | _, _, i, v, .nil, h => by simp at h
  | _, _, 0, v, .cons h t, e => by simp at e; subst e; exact ⟨_, rfl, h⟩
  | _, _, i + 1, v, .cons h t, e => by
    simp at e
    obtain ⟨d, h1, h2⟩ := Reps.get t e
    exact ⟨d, by simpa using h1, h2⟩
theorem Reps.append : ∀ {vs ws : List V} {ds es : List PyData}, Reps H S vs ds → Reps H S ws es → Reps H S (vs ++ ws) (ds ++ es)
  | _, _, _, _, .nil, h => h
  | _, _, _, _, .cons x t, h => .cons x (Reps.append t h)
theorem Reps.one {v : V} {d : PyData} (h : Rep H S v d) : Reps H S [v] [d] := .cons h .nil
theorem Reps.snoc {vs : List V} {ds : List PyData} {v : V} {d : PyData} (h : Reps H S vs ds) (q : Rep H S v d) : Reps H S (vs ++ [v]) (ds ++ [d]) := h.append (.one q)
theorem Rep.int_inv {v : V} {i : Int} (r : Rep H S v (.int i)) : v = .int i := by cases r; rfl
theorem Rep.str_inv {v : V} {x : Str} (r : Rep H S v (.str x)) : v = .str x := by cases r; rfl
theorem Rep.lst_inv {v : V} {ds : List PyData} (r : Rep H S v (.list ds)) : ∃ a xs, v = .ref a ∧ Rd H a (.lst xs) ∧ ¬ a ∈ S ∧ Reps H S xs ds := by cases r with | lst h n t => exact ⟨_, _, rfl, h, n, t⟩
theorem Rep.tup_inv {v : V} {ds : List PyData} (r : Rep H S v (.tuple ds)) : ∃ a xs, v = .ref a ∧ Rd H a (.tup xs) ∧ Reps H S xs ds := by cases r with | tup h t => exact ⟨_, _, rfl, h, t⟩
theorem Reps.nil_inv {vs : List V} (r : Reps H S vs []) : vs = [] := by cases r; rfl
theorem Reps.cons_inv {vs : List V} {d : PyData} {ds : List PyData} (r : Reps H S vs (d :: ds)) : ∃ x xs, vs = x :: xs ∧ Rep H S x d ∧ Reps H S xs ds := by cases r with | cons h t => exact ⟨_, _, rfl, h, t⟩
theorem reps_strs : ∀ (xs : List Str), Reps H S (xs.map .str) (xs.map .str)
  | [] => .nil
  | x :: xs => .cons (.str x) (reps_strs xs)
end
section
variable {X : Cx} {pins : List (Addr × Obj)} {σ : St} {H : Hp} {s : Shared} {S : List Addr}
mutual
theorem Rep.reads (I : Inv X pins σ H s) : ∀ {v : V} {d : PyData} {u : Value}, Rep H S v d → RelV v u → ∃ as, Reads s.heap u d as
  | _, _, _, .non, r => by cases (show _ = Value.none from r); exact ⟨_, .none⟩
  | _, _, _, .bl b, r => by cases (show _ = Value.bool b from r); exact ⟨_, .bool b⟩
  | _, _, _, .int i, r => by obtain ⟨t, e⟩ := (show ∃ t, _ = Value.int i t from r); subst e; exact ⟨_, .int i t⟩
  | _, _, _, .str x, r => by obtain ⟨t, e⟩ := (show ∃ t, _ = Value.str x t from r); subst e; exact ⟨_, .str x t⟩
  | _, _, _, .lst (a := a) h _ rs, r => by
    cases (show _ = Value.ref a from r)
    obtain ⟨its, rv, ⟨o, n, e, c, _, d⟩, _⟩ := I.list (Or.inl h)
    obtain ⟨as, q⟩ := Reps.reads I rs rv
    exact ⟨_, .list e c d (by simpa using q)⟩
  | _, _, _, .tup (a := a) h rs, r => by
    cases (show _ = Value.ref a from r)
    obtain ⟨its, rv, ⟨o, e, c, n, d⟩, _⟩ := I.tuple (Or.inl h)
    obtain ⟨as, q⟩ := Reps.reads I rs rv
    exact ⟨_, .tuple e c d (by simpa using q)⟩
theorem Reps.reads (I : Inv X pins σ H s) : ∀ {vs : List V} {ds : List PyData} {us : List Value}, Reps H S vs ds → Vals vs us → ∃ as, ReadsAll s.heap us ds as
  | _, _, _, .nil, r => by cases r; exact ⟨_, .nil⟩
  | _, _, _, .cons h t, r => by
    cases r with
    | cons r1 r2 =>
      obtain ⟨as, q⟩ := Rep.reads I h r1
      obtain ⟨bs, p⟩ := Reps.reads I t r2
      exact ⟨_, .cons q p⟩
end
end
def rEqD : R2 := fun x y H Q => ∃ d e, Rep H [] x d ∧ Rep H [] y e ∧ SeqAt.shaped d = true ∧ SeqAt.shaped e = true ∧ Q (.bl (PyData.eqv d e)) H
def rNeD : R2 := fun x y H Q => ∃ d e, Rep H [] x d ∧ Rep H [] y e ∧ SeqAt.shaped d = true ∧ SeqAt.shaped e = true ∧ Q (.bl (!PyData.eqv d e)) H
def rInD (neg : Bool) : R2 := fun x y H Q => ∃ d ds, Rep H [] x d ∧ (Rep H [] y (.list ds) ∨ Rep H [] y (.tuple ds)) ∧ PyData.canLayAll0 ds = true ∧ SeqAt.shaped d = true ∧
  Q (.bl (if neg then !(ds.any fun e => PyData.eqv e d) else ds.any fun e => PyData.eqv e d)) H
section
variable {X : Cx}
theorem op_eqD (hu : X.A.units + 64 < cLine) : OpR X (compareOp .Eq) rEqD := by
  intro pins s σ H x y v u Q I rx ry h
  obtain ⟨d, e, rd, re, sd, se, q⟩ := h
  obtain ⟨as, ra⟩ := rd.reads I rx
  obtain ⟨bs, rb⟩ := re.reads I ry
  exact SeqAt.compareEq_shaped ra rb sd se hu ⟨.bl _, H, I, rfl, q⟩
theorem op_neD (hu : X.A.units + 64 < cLine) : OpR X (compareOp .NotEq) rNeD := by
  intro pins s σ H x y v u Q I rx ry h
  obtain ⟨d, e, rd, re, sd, se, q⟩ := h
  obtain ⟨as, ra⟩ := rd.reads I rx
  obtain ⟨bs, rb⟩ := re.reads I ry
  exact SeqAt.compareNe_shaped ra rb sd se hu ⟨.bl _, H, I, rfl, q⟩
theorem op_inD (hu : X.A.units + 65 < cLine) : OpR X (compareOp .In) (rInD false) := by
  intro pins s σ H x y v u Q I rx ry h
  obtain ⟨d, ds, rd, re, sd, se, q⟩ := h
  obtain ⟨as, ra⟩ := rd.reads I rx
  rcases re with re | re
  · obtain ⟨bs, rb⟩ := re.reads I ry
    exact SeqAt.in_list_reads rb ra sd (SeqAt.canLay_of_shaped se) (room_in_shaped se hu) ⟨.bl _, H, I, rfl, q⟩
  · obtain ⟨bs, rb⟩ := re.reads I ry
    exact SeqAt.in_tuple_reads rb ra sd (SeqAt.canLay_of_shaped se) (room_in_shaped se hu) ⟨.bl _, H, I, rfl, q⟩
def TyO (K : PySem.W.Frag) (H : Hp) (x : V) (t : Value) : Prop := TyOf K H x t ∨ ∃ a ys, x = .ref a ∧ Rd H a (.tup ys) ∧ t = .type "tuple"
theorem call_isinst : CallR X (.builtin "isinstance") (fun xs H Q => ∃ x T t b, xs = [x, .ty T] ∧ TyO X.K H x t ∧ PySem.W.kitOne X.K t (.type T) = some b ∧ Q (.bl b) H) := by
  intro pins s σ H xs us Q I r h
  obtain ⟨x, T, t, b, rfl, ty, e, q⟩ := h
  obtain ⟨u, v, rfl, ru, rv⟩ := Vals.two r
  cases (show v = Value.type T from rv)
  rcases ty with ty | ⟨a, ys, rfl, rd, rfl⟩
  · exact isinst_ok I ru ty e fun tk => ⟨.bl b, H, I.tok tk, rfl, q⟩
  · cases (show u = Value.ref a from ru)
    obtain ⟨its, _, ⟨o, h1, h2, _⟩, _⟩ := I.tuple (Or.inl rd)
    exact PySem.W.kia_one PySem.W.kitx_tuple I.kIn ⟨o, h1, h2⟩ e (fun z => nomatch z) fun tk => ⟨.bl b, H, I.tok tk, rfl, q⟩
end
theorem kit_same (K : PySem.W.Frag) (T : String) : PySem.W.kitOne K (.type T) (.type T) = some true := by unfold PySem.W.kitOne; rw [if_pos (by simp)]
def tDSetD (td ty tx : TE) : TE := fun σ H Q => td σ H fun x H1 => ∃ a, x = .ref a ∧ IsD H1 a ∧ ty σ H1 fun y H2 => tx σ H2 fun z H3 => ∃ kvs k, H3 a = some (.dK kvs) ∧ y = kV k ∧ kvs.length < sizeLine ∧
  (∀ v, valV kvs k = some v → Q v H3) ∧ (valV kvs k = none → Q z (upd H3 a (.dK (putK kvs k z))))
section
variable {X : Cx} {o e f : Expr} {apos cpos : Pos} {td ty tx : TE}
theorem pe_dsetd (ho : PE X o td) (he : PE X e ty) (hf : PE X f tx) (m : M2 X o "setdefault" apos e f cpos) : PE X (.Call (.Attribute o "setdefault" apos) [e, f] [] cpos) (tDSetD td ty tx) := by
  intro pins s σ H Q I h
  refine wpAny_Call_method m.base m.few m.line PySem.F.plainAttrs_dict PySem.F.slot_dict_setdefault PySem.F.type_dict_setdefault (thn (ho pins s σ H _ I h) fun u s1 ⟨x, H1, I1, rx, a, ex, d, q1⟩ => ?_)
  subst ex
  obtain rfl : u = Value.ref a := rx
  obtain ⟨t1, t2, _⟩ := isD_at I1 d
  refine ⟨t1, t2, ?_⟩
  rw [m.trees]
  refine Calls.callWith_builtin rfl (Calls.evalArgs_plain (Calls.spliced_cons (thn (he pins s1 σ H1 _ I1 q1) fun iv s2 ⟨y, H2, I2, ry, q2⟩ =>
    Calls.spliced_cons (thn (hf pins s2 σ H2 _ I2 q2) fun fv s3 ⟨z, H3, I3, rz, kvs, k, ea, ey, lz, q3, q4⟩ => Calls.spliced_nil ?_))))
  subst ey
  obtain ⟨z', hd, vs, rel, dd⟩ := dk_of I3.hok ea
  refine call_meetsIn PySem.F.slot_dict_setdefault dd.typeIs PySem.F.entry_dict_setdefault (PySem.F.args_dict_setdefault_3 _ _ _) (kt_meets_setdefault (mixKind X.prog X.w) a (kV_is ry) hd fv)
    ⟨vs, dd, by rw [← rel.length]; exact z', fun v hv => ?_, fun hn h' dd' hs => ?_⟩
  · have rl := rel.val k
    rw [hv] at rl
    cases e : valV kvs k with
    | none => rw [e] at rl; exact (show False from rl).elim
    | some x =>
      rw [e] at rl
      exact ⟨x, H3, I3.tok _, rl, q3 x e⟩
  · have rl := rel.val k
    rw [hn] at rl
    cases e : valV kvs k with
    | some x => rw [e] at rl; exact (show False from rl).elim
    | none =>
      have hl : (putK kvs k z).length ≤ sizeLine := by have := length_putK kvs k z; omega
      have he : ∃ q, h'.get? a = some q := let ⟨q, _, _, hq, _⟩ := dd'; ⟨q, hq⟩
      exact ⟨z, _, d_write I3 (by rw [ea]; exact True.intro) hs he (dk_new hl hd (rel.put k rz) dd'), rz, q4 e⟩
end
abbrev rAddI : R2 := rI0 fun i j => .int (i + j)
abbrev rMulI : R2 := rI CMul fun i j => .int (i * j)
abbrev rModI : R2 := rI (fun _ j => 0 < j) fun i j => .int (i % j)
abbrev rLtI : R2 := rI0 fun i j => .bl (decide (i < j))
abbrev rLenQ (K : PySem.W.Frag) : List V → Hp → VK → Prop := fun xs H Q => ∃ p ys, xs = [.ref p] ∧ (SqL K H p ys ∨ SqT K H p ys) ∧ Q (.int ys.length) H
abbrev rListQ (K : PySem.W.Frag) : List V → Hp → VK → Prop := fun xs H Q => ∃ p ys, xs = [.ref p] ∧ (SqL K H p ys ∨ SqT K H p ys) ∧ ∀ l, H l = none → Q (.ref l) (upd H l (.lst ys))
abbrev rIsi (K : PySem.W.Frag) : List V → Hp → VK → Prop := fun xs H Q => ∃ x T t b, xs = [x, .ty T] ∧ TyO K H x t ∧ PySem.W.kitOne K t (.type T) = some b ∧ Q (.bl b) H
abbrev rCatS : R2 := fun x y H Q => ∃ i j, x = .str i ∧ y = .str j ∧ i.length + j.length ≤ sizeLine ∧ Q (.str (i ++ j)) H
theorem hu65_of {A : Around} {k : Nat} (hr : Room k A) : A.units + 65 < cLine := by have := hr.un; omega
def Has (P : Program) (w : World) (K : PySem.W.Frag) (mg : Str → Option Value) (base : Heap) (k : Nat) (x : Str) (ps : List Str) (sp : Sp) : Prop :=
  ∃ f fd, FnOk P w K mg base CX0 k f fd ps sp ∧ mg x = some (.ref f) ∧ PySem.W.keepIn K (.ref f) = true ∧ Binds K fd ps []
def Grow (R : List Addr) (H : Hp) (R' : List Addr) : Prop := ∀ a ∈ R', a ∈ R ∨ H a = none
mutual
theorem Rep.grow {H : Hp} {S T : List Addr} (g : Grow S H T) : ∀ {v : V} {d : PyData}, Rep H S v d → Rep H T v d
  | _, _, .non => .non
  | _, _, .bl b => .bl b
  | _, _, .int i => .int i
  | _, _, .str x => .str x
  | _, _, .lst r n rs => .lst r (fun m => (g _ m).elim n fun z => by obtain ⟨o, e⟩ := r.some; rw [z] at e; cases e) (Reps.grow g rs)
  | _, _, .tup r rs => .tup r (Reps.grow g rs)
theorem Reps.grow {H : Hp} {S T : List Addr} (g : Grow S H T) : ∀ {v : List V} {d : List PyData}, Reps H S v d → Reps H T v d
  | _, _, .nil => .nil
  | _, _, .cons h t => .cons (Rep.grow g h) (Reps.grow g t)
end
theorem TyO.int {K : PySem.W.Frag} {H : Hp} (i : Int) : TyO K H (.int i) (.type "int") := .inl (.int i)
theorem TyO.str {K : PySem.W.Frag} {H : Hp} (i : Str) : TyO K H (.str i) (.type "str") := .inl (.str i)
theorem TyO.list {K : PySem.W.Frag} {H : Hp} {a : Addr} {xs : List V} (r : Rd H a (.lst xs)) : TyO K H (.ref a) (.type "list") := r.elim (fun e => .inl (.lst e)) fun ⟨_, e⟩ => .inl (.frz e)
theorem TyO.tup {K : PySem.W.Frag} {H : Hp} {a : Addr} {xs : List V} (r : Rd H a (.tup xs)) : TyO K H (.ref a) (.type "tuple") := .inr ⟨a, xs, rfl, r, rfl⟩
end L2
set_option Elab.async false
set_option linter.all false
set_option maxRecDepth 100000
set_option maxHeartbeats 4000000
namespace L2
open PySem PySem.Spec PyProof.Rows
abbrev ccx (X : Cx) (N : List Str) (scope : Scope) (cl : List (Str × Addr)) (C : Addr) (s : Shared) (H : Hp) (fp : List Addr) : Cx :=
  { X with N := N, s₀ := s, H₀ := H, env := compEnvC scope cl C X.env, outer := X.stack, ex := fp, fn := fun _ => false, pn := [], xe := fun _ _ => False }
def picked (pick : List (Option Nat)) (σ : St) : St := pick.map fun o => o.bind fun i => (σ[i]?).bind id
def Picks (X : Cx) (scope : Scope) (cl : List (Str × Addr)) : List Str → List (Option Nat) → Prop
  | [], [] => True
  | _ :: xs, none :: ps => Picks X scope cl xs ps
  | x :: xs, some i :: ps => (X.N[i]? = some x ∧ (X.env.kindOf x = some .cell ∨ X.env.kindOf x = some .free) ∧
      ((relabel scope X.env).names.lookup x = some .cell ∨ (relabel scope X.env).names.lookup x = some .free) ∧ ∃ c, X.env.cells.lookup x = some c ∧ cl.lookup x = some c) ∧ Picks X scope cl xs ps
  | _, _ => False
def ClosOk (X : Cx) : List (Str × Addr) → Prop
  | [] => True
  | p :: r => X.env.cells.lookup p.1 = some p.2 ∧ ClosOk X r
structure CompOk (X : Cx) (N : List Str) (scope : Scope) (cl : List (Str × Addr)) (pick : List (Option Nat)) : Prop where
  clos : closureFor scope X.env = pure cl
  kind : scope.kind = .function
  nocell : (scope.names.all fun y => y.2 != .cell) = true
  loc : (scope.names.all fun y => y.2 != .local || scope.names.lookup y.1 == some .local) = true
  free : (scope.names.all fun y => y.2 != .free || (cl.lookup y.1).isSome) = true
  cells : ClosOk X cl
  picks : Picks X scope cl N pick
theorem ClosOk.look {X : Cx} : ∀ {cl : List (Str × Addr)} {x : Str} {c : Addr}, ClosOk X cl → cl.lookup x = some c → X.env.cells.lookup x = some c
  | [], _, _, _, h => by simp at h
  | (n, a) :: r, x, c, ⟨h1, h2⟩, h => by
    rw [List.lookup_cons] at h
    cases e : x == n with
    | true =>
      rw [e] at h
      have e' : x = n := by simpa using e
      subst e'
      cases h
      exact h1
    | false =>
      rw [e] at h
      exact h2.look h
theorem Picks.length {X : Cx} {scope : Scope} {cl : List (Str × Addr)} : ∀ {N : List Str} {ps : List (Option Nat)}, Picks X scope cl N ps → ps.length = N.length
  | [], [], _ => rfl
  | [], _ :: _, h => (show False from h).elim
  | _ :: _, [], h => (show False from h).elim
  | _ :: xs, none :: ps, h => by
    have h' : Picks X scope cl xs ps := h
    rw [List.length_cons, List.length_cons, h'.length]
  | _ :: xs, some i :: ps, h => by
    have h' : Picks X scope cl xs ps := h.2
    rw [List.length_cons, List.length_cons, h'.length]
theorem Picks.at {X : Cx} {scope : Scope} {cl : List (Str × Addr)} : ∀ {N : List Str} {ps : List (Option Nat)} {j i : Nat} {x : Str}, Picks X scope cl N ps → N[j]? = some x → ps[j]? = some (some i) →
    X.N[i]? = some x ∧ (X.env.kindOf x = some .cell ∨ X.env.kindOf x = some .free) ∧
      ((relabel scope X.env).names.lookup x = some .cell ∨ (relabel scope X.env).names.lookup x = some .free) ∧ ∃ c, X.env.cells.lookup x = some c ∧ cl.lookup x = some c
  | [], _, j, _, _, _, h, _ => by simp at h
  | _ :: _, [], j, _, _, _, _, h => by simp at h
  | y :: xs, none :: ps, 0, _, _, _, _, h => by simp at h
  | y :: xs, some k :: ps, 0, i, x, p, h1, h2 => by
    simp at h1 h2
    subst h1 h2
    exact p.1
  | y :: xs, none :: ps, j + 1, i, x, p, h1, h2 => Picks.at (N := xs) (ps := ps) p (by simpa using h1) (by simpa using h2)
  | y :: xs, some k :: ps, j + 1, i, x, p, h1, h2 => Picks.at (N := xs) (ps := ps) p.2 (by simpa using h1) (by simpa using h2)
theorem compLoop_any {prog : Program} {w : World} {A : Around} {R : Result → Shared → Prop} {s : Shared} {elt target iter : Expr} {ifs : List Expr} {scope : Scope} {pos : Pos} {it acc : Value} {env : Env} (I : Nat → Shared → Prop)
    (turn : ∀ n s, I n s → wpAny (model prog w) A (pyNext it) (fun r s₁ => match r with
      | none => R (.ok .next) s₁
      | some v => wpAny (model prog w) A (letOwnedTupleGo target it v) (fun _ s' => wpAny (model prog w) A (assign target env v) (fun _ s₂ =>
          wpAny (model prog w) A (forIn ifs true fun c r => if r = true then do let ok ← isTrue c env (eval c env); pure (ForInStep.yield ok) else pure (ForInStep.yield r)) (fun ok s₃ =>
            if ok = true then wpAny (model prog w) A (eval elt env) (fun x s₄ =>
              wpAny (model prog w) A (call (.builtin "list.append") [acc, x]) (fun _ s₅ => ∃ m, m < n ∧ I m s₅) (fun _ _ => False) s₄) (fun _ _ => False) s₃
            else ∃ m, m < n ∧ I m s₃) (fun _ _ => False) s₂) (fun _ _ => False) s') (fun _ _ => False) s₁) (fun _ _ => False) s)
    (n : Nat) (h : I n s) :
    codeAny (model prog w) A (.compLoop (.ListComp elt [⟨target, iter, ifs, 0⟩] scope pos) 0 it acc env) R s := by
  refine codeAny_loop rfl I (fun n s hI => ?_) n h
  show wpAny _ A ((compTurn (.ListComp elt [⟨target, iter, ifs, 0⟩] scope pos) 0 it acc env).onRaise (fun x => do noteFrame x env; theTreesLotGoes x)) _ _ s
  refine wpAny_noted ?_
  rw [compTurn_list]
  refine wpAny_bind (wpAny_standAt (wpAny_bind (wpAny_mono (turn n s hI) (fun r s₁ h₁ => ?_) fun _ _ h' => h'.elim)))
  cases r with
  | none => exact wpAny_pure h₁
  | some v =>
    refine wpAny_bind (wpAny_mono h₁ (fun _ s' h' => wpAny_bind (wpAny_mono h' (fun _ s₂ h₂ => wpAny_bind (wpAny_mono h₂ (fun ok s₃ h₃ => ?_) fun _ _ h' => h'.elim)) fun _ _ h' => h'.elim)) fun _ _ h' => h'.elim)
    cases ok with
    | false => exact wpAny_pure ⟨rfl, h₃⟩
    | true =>
      exact wpAny_bind (wpAny_bind (wpAny_mono h₃ (fun x s₄ h₄ => wpAny_bind (wpAny_mono h₄ (fun _ s₅ h₅ => wpAny_pure (wpAny_pure ⟨rfl, h₅⟩)) fun _ _ h' => h'.elim)) fun _ _ h' => h'.elim))
def PIfs (X : Cx) (ifs : List Expr) (t : TT) : Prop :=
  ∀ (pins : List (Addr × Obj)) (s : Shared) (σ : St) (H : Hp) (Q : Bool → Hp → Prop), Inv X pins σ H s → t σ H Q →
    wpAny (model X.prog X.w) X.A (forIn ifs true fun c r => if r = true then do let ok ← isTrue c X.env (eval c X.env); pure (ForInStep.yield ok) else pure (ForInStep.yield r)) (TP X pins σ Q) X.xe s
def tNoIf : TT := fun _ H Q => Q true H
theorem pifs_nil {X : Cx} : PIfs X [] tNoIf := fun _ _ _ H _ I h => wpAny_tests_nil ⟨H, I, h⟩
theorem pifs_one {X : Cx} {c : Expr} {t : TT} (h : PT X c t) : PIfs X [c] t := fun pins s σ H Q I q => wpAny_tests_one (h pins s σ H Q I q)
def Loose (X : Cx) (pins : List (Addr × Obj)) (H : Hp) (C : Addr) : Prop :=
  H C = none ∧ C ≠ X.env.locals ∧ X.s₀.heap.objs.size ≤ C ∧ (∀ x c, X.env.cells.lookup x = some c → c ≠ C) ∧ ∀ q ∈ X.pn ++ pins, q.1 ≠ C
def LcInv (J : It) (g : TG) (ti : TT) (te : TE) (σ0 : St) (H1 : Hp) (Q : VK) (p : Addr) : Prop :=
  ∃ W : Nat → Nat → St → Hp → Prop, (∃ m, W 0 m σ0 (upd H1 p (.lst []))) ∧ ∀ i m σ H, W i m σ H →
    (J.stop i H ∧ Q (.ref p) H) ∨ (J.go i H ∧ ∃ N : St → Hp → Prop, (∀ σ' H', N σ' H' → ∃ m', m' < m ∧ W (i + 1) m' σ' H') ∧
      ∀ x H', J.yld i H x H' → g x σ H' fun σ2 H2 => ti σ2 H2 fun b H3 => if b = true then te σ2 H3 fun v H4 => ∃ xs, H4 p = some (.lst xs) ∧ xs.length < sizeLine ∧ N σ2 (upd H4 p (.lst (xs ++ [v]))) else N σ2 H3)
section
variable {X : Cx} {pins : List (Addr × Obj)} {σ : St} {H2 : Hp} {s2 : Shared} {N : List Str} {scope : Scope} {cl : List (Str × Addr)} {pick : List (Option Nat)} {elt tg iter : Expr} {ifs : List Expr} {pos : Pos}
  {g : TG} {ti : TT} {te : TE} {it : Addr} {fp : List Addr} {tn : Nat → Heap → Prop} {J : It} {Q : VK}
theorem lc_ok {C : Addr} {s3 : Shared} {H3 : Hp} (S : CompOk X N scope cl pick) (I3 : Inv X pins σ H3 s3) (hC : s3.heap.objs.size ≤ C) (f3 : ∀ b ∈ fp, FpOk X pins H3 b) (hlt : ∀ b ∈ fp, b < s3.heap.objs.size) :
    (ccx X N scope cl C s3 H3 fp).Ok where
  mod := I3.mod
  kind := S.kind
  glob := I3.ok.glob
  blt := I3.ok.blt
  above := hC
  inj := fun x y c a b => I3.ok.inj x y c (S.cells.look a) (S.cells.look b)
  has := fun x h => by
    have key : ∀ (names : List (Str × NameKind)), (names.all fun y => y.2 != .cell) = true → (names.all fun y => y.2 != .free || (cl.lookup y.1).isSome) = true →
        ((names.map fun (n, k) => if (k == NameKind.free && X.env.scope.kind == .function && X.env.kindOf n == some .cell) then (n, NameKind.cell) else (n, k)).lookup x = some .cell ∨
         (names.map fun (n, k) => if (k == NameKind.free && X.env.scope.kind == .function && X.env.kindOf n == some .cell) then (n, NameKind.cell) else (n, k)).lookup x = some .free) → ∃ c, cl.lookup x = some c := by
      intro names
      induction names with
      | nil => intro _ _ h; simp at h
      | cons y r ih =>
        obtain ⟨n, k⟩ := y
        intro h1 h2 h3
        rw [List.all_cons, Bool.and_eq_true] at h1 h2
        rw [List.map_cons] at h3
        cases hx : x == n with
        | true =>
          have hx' : x = n := by simpa using hx
          subst hx'
          cases k with
          | free =>
            have q := h2.1
            rw [Bool.or_eq_true] at q
            exact Option.isSome_iff_exists.mp (q.resolve_left (by simp))
          | cell => exact absurd h1.1 (by simp)
          | _ => simp [List.lookup_cons] at h3
        | false =>
          refine ih h1.2 h2.2 ?_
          have e : ∀ (k' : NameKind), List.lookup x ((n, k') :: (r.map fun (n, k) => if (k == NameKind.free && X.env.scope.kind == .function && X.env.kindOf n == some .cell) then (n, NameKind.cell) else (n, k))) =
              List.lookup x (r.map fun (n, k) => if (k == NameKind.free && X.env.scope.kind == .function && X.env.kindOf n == some .cell) then (n, NameKind.cell) else (n, k)) := fun k' => by rw [List.lookup_cons, hx]
          by_cases hc : (k == NameKind.free && X.env.scope.kind == .function && X.env.kindOf n == some .cell) = true
          · simp only [if_pos hc] at h3; rw [e] at h3; exact h3
          · simp only [if_neg hc] at h3; rw [e] at h3; exact h3
    exact key scope.names S.nocell S.free h
  cab := fun x c h => by cases h
  hd := I3.ok.hd
  frames := I3.ok.frames
  stk := .inl rfl
  exf := fun b hb => ⟨fun e => absurd (hlt b hb) (Nat.not_lt.mpr (by rw [show b = C from e]; exact hC)), fun x c e => (f3 b hb).2.2.2.2.1 x c (S.cells.look e)⟩
  bs := I3.bs
  bsz := Nat.le_trans I3.ok.bsz I3.sz
  noex := fun b o e hb => by
    rcases (f3 b hb).2.2.2.1 with z | z
    · exact I3.ok.noex b o e z
    · exact absurd (Nat.lt_of_lt_of_le (Heap.lt_size (I3.ok.bs b o e).1) z) (Nat.lt_irrefl _)
  exfs := fun b hb m => by
    rcases List.mem_cons.mp (I3.stkSub b m) with z | z
    · exact (f3 b hb).2.1 z
    · exact (f3 b hb).2.2.1 z
  funs := I3.stack
  frf := I3.stkFree
theorem lc_inv {C : Addr} {s3 : Shared} {H3 : Hp} {h4 : Heap} {t4 : Nat} {m : Str → Option Value} (S : CompOk X N scope cl pick) (I3 : Inv X pins σ H3 s3) (hC : s3.heap.objs.size ≤ C) (f3 : ∀ b ∈ fp, FpOk X pins H3 b) (hlt : ∀ b ∈ fp, b < s3.heap.objs.size)
    (hn : h4.Ns C m) (hk : ∀ b o, s3.heap.get? b = some o → h4.get? b = some o) : Inv (ccx X N scope cl C s3 H3 fp) [] (picked pick σ) H3 { s3 with heap := h4, toks := t4 } where
  ok := lc_ok S I3 hC f3 hlt
  os := rfl
  bare := I3.bare
  base := Un.kept hk
  loc := by
    refine ⟨m, hn, fun j x v hj hσ hv => ?_⟩
    have hj' : N[j]? = some x := hj
    unfold picked at hσ
    rw [List.getElem?_map] at hσ
    cases hp : pick[j]? with
    | none => rw [hp] at hσ; cases hσ
    | some o =>
      rw [hp] at hσ
      cases o with
      | none => cases hσ
      | some i =>
        obtain ⟨a1, a2, a3, c, a4, a5⟩ := S.picks.at hj' hp
        have hσ' : σ[i]? = some (some v) := by
          have : (σ[i]?).bind id = some v := by simpa using hσ
          cases q : σ[i]? with
          | none => rw [q] at this; cases this
          | some z => rw [q] at this; have e : z = some v := this; rw [e]
        obtain ⟨m0, _, hl⟩ := I3.loc
        have vis : Vis X.env.scope x := a2.elim (fun e => .inr (.inl e)) fun e => .inr (.inr e)
        obtain ⟨u, ru, lk⟩ := hl i x v a1 hσ' vis
        refine ⟨u, ru, .inr ⟨a3, c, a5, ?_⟩⟩
        rcases lk with ⟨z, _⟩ | ⟨_, c', e', ic⟩
        · rcases a2 with y | y <;> (rw [y] at z; cases z)
        · rw [a4] at e'; cases e'
          obtain ⟨o, e, d⟩ := ic
          exact ⟨o, hk _ _ e, d⟩
  cell := fun x c e => by
    obtain ⟨v, o, q, d⟩ := I3.cell x c (S.cells.look e)
    exact ⟨v, o, hk _ _ q, d⟩
  free := I3.hok.fresh hC
  freeC := fun x c e => I3.freeC x c (S.cells.look e)
  pin := fun p hp => nomatch hp
  hok := I3.hok.kept hk
  len := by
    show (picked pick σ).length = N.length
    unfold picked
    rw [List.length_map, S.picks.length]
theorem lc_block {E : Value → Shared → Prop} {RR : Value → Addr → Result → Shared → Prop} (hc : X.calm = true) (S : CompOk X N scope cl pick)
    (hg : ∀ C s H fp, PG (ccx X N scope cl C s H fp) tg g) (ht : ∀ C s H fp, PIfs (ccx X N scope cl C s H fp) ifs ti) (he : ∀ C s H fp, PE (ccx X N scope cl C s H fp) elt te)
    (I2 : Inv X pins σ H2 s2) (T : Turn X.prog X.w X.K tg J fp it tn) (st2 : tn 0 s2.heap) (f2 : ∀ b ∈ fp, FpOk X pins H2 b)
    (hq : ∀ p, H2 p = none → LcInv J g ti te (picked pick σ) H2 Q p)
    (hRR : ∀ C p H' s1 m, Inv X pins σ H' s1 → Loose X pins H' C → s1.heap.Ns C m → Q (.ref p) H' → RR (.ref p) C (.ok .next) s1) :
    wpAny (model X.prog X.w) X.A (newList []) (fun acc s₃ => wpAny (model X.prog X.w) X.A (newFunctionEnv scope X.env.globals cl [] X.env.qual none .none (some X.env)) (fun cenv s₄ =>
      codeAny (model X.prog X.w) X.A (.compStart (.ListComp elt [⟨tg, iter, ifs, 0⟩] scope pos) 0 (.ref it) acc { cenv with scope := relabel scope X.env }) (RR acc cenv.locals) s₄) E s₃) E s2 := by
  have hcell : ∀ y ∈ scope.names, y.2 ≠ .cell := fun y hy => by simpa using List.all_eq_true.mp S.nocell y hy
  refine wpAny_newObj_type (wpAny_newFunctionEnv hcell (by intro y hy; simp at hy) (fun h₁ hns₁ hsb₁ => ?_) S.kind)
  dsimp only at hns₁ hsb₁ ⊢
  have I3 : Inv X pins σ (upd H2 s2.heap.objs.size (.lst [])) { s2 with heap := s2.heap.push { cls := .type "list", data := .seq ([] : List Value).toArray } } :=
    I2.lnew (ys := []) (its := []) (t' := s2.toks) .nil (Nat.zero_le _)
  have hp : H2 s2.heap.objs.size = none := I2.fresh
  obtain ⟨W, ⟨m0, w0⟩, turn⟩ := hq _ hp
  generalize hA : s2.heap.objs.size = acc at *
  generalize hS3 : ({ s2 with heap := s2.heap.push { cls := .type "list", data := .seq ([] : List Value).toArray } } : Shared) = s3 at *
  have hh3 : s3.heap = s2.heap.push { cls := .type "list", data := .seq ([] : List Value).toArray } := by rw [← hS3]
  have hsz : s3.heap.objs.size = acc + 1 := by rw [hh3, Heap.size_push, hA]
  have hlt2 : ∀ b ∈ fp, b < acc := fun b hb => by
    obtain ⟨o, e, _⟩ := T.obj 0 _ st2 b hb
    rw [← hA]; exact Heap.lt_size e
  have hlt : ∀ b ∈ fp, b < s3.heap.objs.size := fun b hb => by rw [hsz]; exact Nat.lt_succ_of_lt (hlt2 b hb)
  have f3 : ∀ b ∈ fp, FpOk X pins (upd H2 acc (.lst [])) b := fun b hb => ⟨by rw [upd_ne (Nat.ne_of_lt (hlt2 b hb))]; exact (f2 b hb).1, (f2 b hb).2⟩
  have hk : ∀ b o, s3.heap.get? b = some o → h₁.get? b = some o := fun b o e => by
    refine hsb₁.extBut b o (Nat.ne_of_lt ?_) (Heap.get?_push_of_some _ ?_)
    · have := Heap.lt_size e
      rw [hh3] at this
      exact this
    · rw [hh3] at e; exact e
  have hCe : (s2.heap.push { cls := .type "list", data := .seq ([] : List Value).toArray }).objs.size = acc + 1 := by rw [Heap.size_push, hA]
  have e4 : ({ s2 with heap := h₁, toks := s2.toks + ([] : List (Str × Value)).length } : Shared) = { s3 with heap := h₁, toks := s2.toks } := by rw [← hS3]; rfl
  have hns : h₁.Ns (acc + 1) (fun x => ([] : List (Str × Value)).reverse.lookup x) := by rw [← hCe]; exact hns₁
  have I4 : Inv (ccx X N scope cl (acc + 1) s3 (upd H2 acc (.lst [])) fp) [] (picked pick σ) (upd H2 acc (.lst [])) { s3 with heap := h₁, toks := s2.toks } :=
    lc_inv S I3 (by rw [hsz]; exact Nat.le_refl _) f3 hlt hns hk
  have st4 : tn 0 h₁ := T.keep _ _ _ st2 fun b hb o e => hk b o (by rw [hh3]; exact Heap.get?_push_of_some _ e)
  have stat : ∀ {H' : Hp}, (∀ b ∈ fp, H' b = none) → ∀ b ∈ fp, FpOk (ccx X N scope cl (acc + 1) s3 (upd H2 acc (.lst [])) fp) [] H' b := fun {H'} hn b hb => by
    have ok := I4.ok
    exact ⟨hn b hb, (ok.exf b hb).1, ok.exfs b hb, .inl hb, (ok.exf b hb).2, fun p hp => nomatch hp⟩
  -- behind the loop: the outer frame again
  have out : ∀ {σ' : St} {H' : Hp} {s1 : Shared}, Inv (ccx X N scope cl (acc + 1) s3 (upd H2 acc (.lst [])) fp) [] σ' H' s1 → Q (.ref acc) H' → RR (.ref acc) (acc + 1) (.ok .next) s1 := fun {σ' H' s1} I' q' => by
    obtain ⟨m', hn', _⟩ := I'.loc
    refine hRR (acc + 1) acc H' s1 m' ?_ ?_ hn' q'
    · exact I3.call' I'.os I'.base I'.hok I'.bare fun b hb => ⟨(f3 b hb).2.2.2.1, (f3 b hb).2.1, (f3 b hb).2.2.2.2.1, (f3 b hb).2.2.2.2.2⟩
    · have big : s3.heap.objs.size ≤ acc + 1 := by rw [hsz]; exact Nat.le_refl _
      refine ⟨I'.free, Nat.ne_of_gt (Nat.lt_of_lt_of_le I3.lt big), Nat.le_trans I3.sz big, fun x c e z => ?_, fun p hp z => ?_⟩
      · obtain ⟨v, ic⟩ := I3.cell x c e
        exact absurd (Nat.lt_of_lt_of_le ic.lt (by rw [z]; exact big)) (Nat.lt_irrefl _)
      · exact absurd (Nat.lt_of_lt_of_le (Heap.lt_size (I3.pin p hp).1) (by rw [z]; exact big)) (Nat.lt_irrefl _)
  have loop : codeAny (model X.prog X.w) X.A (.compLoop (.ListComp elt [⟨tg, iter, ifs, 0⟩] scope pos) 0 (.ref it) (.ref acc) (compEnvC scope cl (acc + 1) X.env)) (RR (.ref acc) (acc + 1)) { s3 with heap := h₁, toks := s2.toks } := by
    refine compLoop_any (fun n s' => ∃ i σ' H', Inv (ccx X N scope cl (acc + 1) s3 (upd H2 acc (.lst [])) fp) [] σ' H' s' ∧ tn i s'.heap ∧ (∀ b ∈ fp, H' b = none) ∧ W i n σ' H') ?_ m0
      ⟨0, _, _, I4, st4, fun b hb => (f3 b hb).1, w0⟩
    rintro n s5 ⟨i, σ5, H5, I5, st5, fr5, w5⟩
    rcases turn i n σ5 H5 w5 with ⟨stop, qn⟩ | ⟨go, Nx, hN, step⟩
    · refine thn (T.done (ccx X N scope cl (acc + 1) s3 (upd H2 acc (.lst [])) fp) rfl rfl rfl hc i [] s5 σ5 H5 _ I5 (stat fr5) st5 stop) fun r s6 ⟨hr, I6⟩ => ?_
      subst hr
      exact out I6 qn
    · refine thn (T.item (ccx X N scope cl (acc + 1) s3 (upd H2 acc (.lst [])) fp) rfl rfl rfl hc i [] s5 σ5 H5 _ I5 (stat fr5) st5 go) fun r s6 ⟨u, hr, h6⟩ => ?_
      subst hr
      refine thn h6 fun _ s7 ⟨x, H7, I7, r7, y7, st7, fr7⟩ => ?_
      have I7' := I7.pinned (stat fr7) (T.obj _ _ st7)
      refine thn (hg _ _ _ _ _ s7 σ5 H7 x u _ I7' r7 (step x H7 y7)) fun _ s8 ⟨σ8, H8, I8, q8⟩ => ?_
      have again : ∀ {s9 : Shared} {σ9 : St} {H9 : Hp}, Inv (ccx X N scope cl (acc + 1) s3 (upd H2 acc (.lst [])) fp) ([] ++ pinsAt fp s7.heap) σ9 H9 s9 → Nx σ9 H9 → ∃ m, m < n ∧ ∃ i σ' H', Inv (ccx X N scope cl (acc + 1) s3 (upd H2 acc (.lst [])) fp) [] σ' H' s9 ∧ tn i s9.heap ∧ (∀ b ∈ fp, H' b = none) ∧ W i m σ' H' := fun {s9 σ9 H9} I9 n9 => by
        obtain ⟨m', hm, w9⟩ := hN σ9 H9 n9
        refine ⟨m', hm, i + 1, σ9, H9, I9.unpinned, T.keep _ _ _ st7 fun b hb o e => (I9.pin (b, o) (List.mem_append_right _ (List.mem_append_right _ (mem_pinsAt hb e)))).1, fun b hb => ?_, w9⟩
        obtain ⟨o, e, d⟩ := T.obj _ _ st7 b hb
        exact (I9.pin (b, o) (List.mem_append_right _ (List.mem_append_right _ (mem_pinsAt hb e)))).2.1
      refine thn (ht _ _ _ _ _ s8 σ8 H8 _ I8 q8) fun ok s9 ⟨H9, I9, q9⟩ => ?_
      cases ok with
      | false => exact again I9 q9
      | true =>
        refine thn (he _ _ _ _ _ s9 σ8 H9 _ I9 q9) fun y s10 ⟨v, H10, I10, r10, xs, hx, hl, n10⟩ => ?_
        refine thn (mt_append _ s10 σ8 H10 (.ref acc) [v] (.ref acc) [y] (fun _ H' => Nx σ8 H') I10 rfl (.cons r10 .nil) ⟨acc, xs, v, rfl, rfl, hx, hl, n10⟩) fun _ s11 ⟨_, H11, I11, _, n11⟩ => again I11 n11
  rw [e4]
  have e5 : ({ newEnv scope (s2.heap.push { cls := .type "list", data := .seq ([] : List Value).toArray }).objs.size X.env.globals cl X.env.qual none .none (some X.env) builtinsNs with scope := relabel scope X.env } : Env) = compEnvC scope cl (acc + 1) X.env := by
    rw [hCe]; rfl
  have e6 : (newEnv scope (s2.heap.push { cls := .type "list", data := .seq ([] : List Value).toArray }).objs.size X.env.globals cl X.env.qual none .none (some X.env) builtinsNs).locals = acc + 1 := by
    rw [hCe]; rfl
  rw [e5, e6]
  exact codeAny_compStart_list loop (T.self _ 0 _ _ _ st4 loop)
end
def tLC (wi : TI) (g : TG) (ti : TT) (te : TE) (pick : List (Option Nat)) : TE := fun σ H Q => wi σ H fun J H1 => ∀ p, H1 p = none → LcInv J g ti te (picked pick σ) H1 Q p
section
variable {X : Cx} {N : List Str} {scope : Scope} {cl : List (Str × Addr)} {pick : List (Option Nat)} {elt tg iter : Expr} {ifs : List Expr} {pos pos' spos : Pos} {wi : TI} {g : TG} {ti : TT} {te : TE}
theorem pe_lc (hc : X.calm = true) (S : CompOk X N scope cl pick) (hi : PI X tg iter wi)
    (hg : ∀ C s H fp, PG (ccx X N scope cl C s H fp) tg g) (ht : ∀ C s H fp, PIfs (ccx X N scope cl C s H fp) ifs ti) (he : ∀ C s H fp, PE (ccx X N scope cl C s H fp) elt te)
    (hs : ∀ x, foldedSetIterable iter X.env x = pure x := by intro _; rfl) : PE X (.ListComp elt [⟨tg, iter, ifs, 0⟩] scope pos) (tLC wi g ti te pick) := by
  intro pins s σ H Q I h
  have hloc : ∀ y ∈ scope.names, y.2 = .local → scope.names.lookup y.1 = some .local := fun y hy e => by
    have := List.all_eq_true.mp S.loc y hy
    rw [e] at this
    simpa using this
  rw [eval_ListComp]
  refine wpAny_comprehension_free (use := none) rfl hs S.clos S.kind hloc (thn (hi pins s σ H _ I h) fun xv s₁ h₁ => thn h₁ fun itv s₂ h₂ => ?_)
  obtain ⟨it, fp, tn, J, H2, e, I2, T, st2, f2, hq⟩ := h₂
  subst e
  refine lc_block (RR := fun acc C => compPost (model X.prog X.w) X.A X.xe none (EP X pins σ Q) acc C) hc S hg ht he I2 T st2 f2 hq ?_
  intro C p H' s1 m I1 L hn q
  refine ⟨m, hn, fun h' hs' => ⟨.ref p, H', I1.turned (t' := s1.toks) (fun b o hb e => (hs'.2 b hb).trans e) L.1 L.2.1 (.inr L.2.2.1) L.2.2.2.1 L.2.2.2.2, rfl, q⟩⟩
theorem ps_setLC {i : Nat} {y : Str} (hsw : swapsWith (.ListComp elt [⟨tg, iter, ifs, 0⟩] scope pos) (some (.Name y pos')) spos.line X.env = pure true) (hN : X.N.Nodup) (hi' : X.N[i]? = some y) (hx : Loc X.env.scope y)
    (hc : X.calm = true) (S : CompOk X N scope cl pick) (hi : PI X tg iter wi)
    (hg : ∀ C s H fp, PG (ccx X N scope cl C s H fp) tg g) (ht : ∀ C s H fp, PIfs (ccx X N scope cl C s H fp) ifs ti) (he : ∀ C s H fp, PE (ccx X N scope cl C s H fp) elt te)
    (hs : ∀ x, foldedSetIterable iter X.env x = pure x := by intro _; rfl) (hf : X.fn y = true ∨ X.env.scope.names.lookup y = some .local := by first | exact .inl rfl | exact .inr rfl | assumption) :
    PS X (.Assign [.Name y pos'] (.ListComp elt [⟨tg, iter, ifs, 0⟩] scope pos) spos) (tAsg (tLC wi g ti te pick) (gName i)) := by
  intro pins s σ H D I h
  have hloc : ∀ y ∈ scope.names, y.2 = .local → scope.names.lookup y.1 = some .local := fun y hy e => by
    have := List.all_eq_true.mp S.loc y hy
    rw [e] at this
    simpa using this
  rw [exec_Assign_Name_used _ _ _ _ hsw]
  refine wpAny_bind (wpAny_standAt (wpAny_bind ?_))
  show wpAny _ X.A (do let _ ← comprehension (.ListComp elt [⟨tg, iter, ifs, 0⟩] scope pos) scope X.env _ (newList []) false (eval iter X.env) (some (assign (.Name y pos') X.env))) _ _ s
  refine wpAny_bind (wpAny_mono (wpAny_comprehension_free (use := some (assign (.Name y pos') X.env)) (Q := fun _ s' => SP X pins D .next s') rfl hs S.clos S.kind hloc
    (thn (hi pins s σ H _ I h) fun xv s₁ h₁ => thn h₁ fun itv s₂ h₂ => ?_)) (fun _ s' hq => wpAny_pure (wpAny_pure hq)) fun _ _ e => e)
  obtain ⟨it, fp, tn, J, H2, e, I2, T, st2, f2, hq⟩ := h₂
  subst e
  refine lc_block (RR := fun acc C => compPost (model X.prog X.w) X.A X.xe (some (assign (.Name y pos') X.env)) (fun _ s' => SP X pins D .next s') acc C) hc S hg ht he I2 T st2 f2 hq ?_
  intro C p H' s1 m I1 L hn q
  show wpAny _ X.A (assign (.Name y pos') X.env (.ref p)) _ _ _
  refine wpAny_assign_Name (store_ok2 I1 hN hi' hx (v := .ref p) rfl (fun s2 I2 hch => ?_) hf)
  obtain ⟨a, sb, ha⟩ := hch
  have hCa : C ≠ a := by
    rcases ha with rfl | e
    · exact L.2.1
    · exact (L.2.2.2.1 y a e).symm
  refine ⟨m, hn.sameBut sb hCa, fun h' hs' => ⟨_, H', I2.turned (t' := s2.toks) (fun b o hb e => (hs'.2 b hb).trans e) L.1 L.2.1 (.inr L.2.2.1) L.2.2.2.1 L.2.2.2.2, q⟩⟩
end
def LcEnd (p : Addr) (Pv : Nat → List V → St → Hp → Prop) (i : Nat) (σ : St) (H : Hp) : Prop := ∃ ys, H p = some (.lst ys) ∧ Pv i ys σ H
theorem lc_list {K : PySem.W.Frag} {a p : Addr} {xs : List V} {g : TG} {ti : TT} {te : TE} {σ0 : St} {H1 : Hp} {Q : VK} (Pv : Nat → List V → St → Hp → Prop) (h0 : Pv 0 [] σ0 (upd H1 p (.lst [])))
    (hl : ∀ i ys σ H, i ≤ xs.length → H p = some (.lst ys) → Pv i ys σ H → SqL K H a xs)
    (hs : ∀ i x ys σ H, xs[i]? = some x → H p = some (.lst ys) → Pv i ys σ H → g x σ H fun σ2 H2 => ti σ2 H2 fun b H3 => if b = true then te σ2 H3 fun v H4 => ∃ zs, H4 p = some (.lst zs) ∧ zs.length < sizeLine ∧ LcEnd p Pv (i + 1) σ2 (upd H4 p (.lst (zs ++ [v])))
      else LcEnd p Pv (i + 1) σ2 H3)
    (hd : ∀ ys σ H, H p = some (.lst ys) → Pv xs.length ys σ H → Q (.ref p) H) :
    LcInv (Itl K a) g ti te σ0 H1 Q p := by
  refine ⟨fun i m σ H => m = xs.length - i ∧ i ≤ xs.length ∧ LcEnd p Pv i σ H, ⟨xs.length, by simp, Nat.zero_le _, [], upd_same, h0⟩, ?_⟩
  rintro i m σ H ⟨rfl, hi, ys, hp, pv⟩
  have q := hl i ys σ H hi hp pv
  by_cases hlt : i < xs.length
  · refine .inr ⟨⟨xs, xs[i], q, by simp [hlt]⟩, LcEnd p Pv (i + 1), fun σ' H' z => ⟨xs.length - (i + 1), by omega, rfl, hlt, z⟩, fun x H' y => ?_⟩
    obtain ⟨e, y⟩ := y
    subst e
    exact hs i x ys σ H' (y xs q) hp pv
  · have e : i = xs.length := by omega
    subst e
    exact .inl ⟨⟨xs, q, Nat.le_refl _⟩, hd ys σ H hp pv⟩
def tCut (t u : TS) : TS := fun D σ H => ∃ P : St → Hp → Prop, t { D with nx := P } σ H ∧ ∀ σ' H', P σ' H' → u D σ' H'
theorem pss_cut {X : Cx} {st : Stmt} {rest : List Stmt} {t u : TS} (h1 : PS X st t) (h2 : PSs X rest u) : PSs X (st :: rest) (tCut t u) := by
  intro pins s σ H D I ⟨P, h, hu⟩
  refine wpAny_execs_cons (thn (h1 pins s σ H _ I h) fun f s1 q => ?_)
  cases f with
  | next =>
    obtain ⟨σ1, H1, I1, q1⟩ := q
    exact h2 pins s1 σ1 H1 D I1 (hu σ1 H1 q1)
  | brk => exact q
  | cont => exact q
  | ret v => exact q
theorem st_cut {t u : TS} {D : Ends} {σ : St} {H : Hp} (P : St → Hp → Prop) (h : t { D with nx := P } σ H) (hu : ∀ σ' H', P σ' H' → u D σ' H') : tCut t u D σ H := ⟨P, h, hu⟩
end L2
set_option Elab.async false
set_option linter.all false
set_option maxRecDepth 100000
set_option maxHeartbeats 4000000
namespace L2
open PySem PySem.Spec PyProof.Rows
section
variable {σ : St} {H : Hp} {Q : VK} {D : Ends} {ta tb tc te : TE} {t u : TS} {c d : TT} {K : PySem.W.Frag} {QB : Bool → Hp → Prop} {x y v : V} {i j : Int} {a p : Addr} {xs ys : List V} {r : R2} {QL : List V → Hp → Prop}
theorem st_var {n : Nat} (h : σ[n]? = some (some v)) (q : Q v H) : tVar n σ H Q := ⟨v, h, q⟩
theorem st_c (q : Q v H) : tC v σ H Q := q
theorem st_op (q : ta σ H fun x H1 => tb σ H1 fun y H2 => r x y H2 Q) : tOp r ta tb σ H Q := q
theorem st_rI {C : Int → Int → Prop} {g : Int → Int → V} (hc : C i j) (q : Q (g i j) H) : rI C g (.int i) (.int j) H Q := ⟨i, j, rfl, rfl, hc, q⟩
theorem st_rI0 {g : Int → Int → V} (q : Q (g i j) H) : rI0 g (.int i) (.int j) H Q := ⟨i, j, rfl, rfl, q⟩
theorem st_rEq (h : scal x y = true) (q : Q (.bl (decide (x = y))) H) : rEq x y H Q := ⟨h, q⟩
theorem st_rNe (h : scal x y = true) (q : Q (.bl (!decide (x = y))) H) : rNe x y H Q := ⟨h, q⟩
theorem st_B (q : ta σ H fun x H1 => ∃ c, x = .bl c ∧ QB c H1) : tB ta σ H QB := q
theorem st_test (q : ta σ H fun x H1 => ∃ c, x = .bl c ∧ QB c H1) : tTest ta σ H QB := q
theorem st_bl {P : Bool → Prop} {b : Bool} (q : P b) : ∃ c, V.bl b = .bl c ∧ P c := ⟨b, rfl, q⟩
theorem st_and (q : c σ H fun b H1 => if b = true then d σ H1 QB else QB false H1) : tAnd c d σ H QB := q
theorem st_or (q : c σ H fun b H1 => if b = true then QB true H1 else d σ H1 QB) : tOr c d σ H QB := q
theorem st_not (q : c σ H fun b H1 => QB (!b) H1) : tNot c σ H QB := q
theorem st_andV (q : ta σ H fun x H1 => ∃ c, x = .bl c ∧ if c = true then tb σ H1 Q else Q (.bl false) H1) : tAndV ta tb σ H Q := q
theorem st_orV (q : ta σ H fun x H1 => ∃ c, x = .bl c ∧ if c = true then Q (.bl true) H1 else tb σ H1 Q) : tOrV ta tb σ H Q := q
theorem st_notV (q : ta σ H fun x H1 => ∃ c, x = .bl c ∧ Q (.bl (!c)) H1) : tNotV ta σ H Q := q
theorem st_nil (q : QL [] H) : tNil σ H QL := q
theorem st_cons {tr : TA} (q : ta σ H fun x H1 => tr σ H1 fun xs H2 => QL (x :: xs) H2) : tCons ta tr σ H QL := q
theorem st_tup {t : TA} (q : t σ H fun xs H1 => xs.length ≤ sizeLine ∧ ∀ p, H1 p = none → Q (.ref p) (upd H1 p (.tup xs))) : tTup t σ H Q := q
theorem st_lst {t : TA} (q : t σ H fun xs H1 => xs.length ≤ sizeLine ∧ ∀ p, H1 p = none → Q (.ref p) (upd H1 p (.lst xs))) : tLst t σ H Q := q
theorem st_dnew (q : ∀ p, H p = none → Q (.ref p) (upd H p (.dK []))) : tDNewK σ H Q := q
theorem st_call {sp : Sp} {dvs : List V} {E : XK} {t : TA} (q : t σ H fun vs H1 => sp (vs ++ dvs) H1 Q E) : tCall sp dvs E t σ H Q := q
theorem st_cb {r : List V → Hp → VK → Prop} {t : TA} (q : t σ H fun vs H1 => r vs H1 Q) : tCB r t σ H Q := q
theorem st_lenL (h : SqL K H a ys) (q : Q (.int ys.length) H) : rLenQ K [.ref a] H Q := ⟨a, ys, rfl, .inl h, q⟩
theorem st_lenT (h : SqT K H a ys) (q : Q (.int ys.length) H) : rLenQ K [.ref a] H Q := ⟨a, ys, rfl, .inr h, q⟩
theorem st_listL (h : SqL K H a ys) (q : ∀ l, H l = none → Q (.ref l) (upd H l (.lst ys))) : rListQ K [.ref a] H Q := ⟨a, ys, rfl, .inl h, q⟩
theorem st_ixL (h : SqL K H a xs) (e : atI xs i = some v) (q : Q v H) : rIxL K (.ref a) (.int i) H Q := ⟨a, xs, i, v, rfl, rfl, h, e, q⟩
theorem st_ixT (h : SqT K H a xs) (e : atI xs i = some v) (q : Q v H) : rIxT K (.ref a) (.int i) H Q := ⟨a, xs, i, v, rfl, rfl, h, e, q⟩
theorem st_sl {r : V → Option Int → Option Int → Hp → VK → Prop} {tl th : TO} (q : te σ H fun x H1 => tl σ H1 fun l H2 => th σ H2 fun u H3 => r x l u H3 Q) : tSl r te tl th σ H Q := q
theorem st_noPart {QO : Option Int → Hp → Prop} (q : QO none H) : tNoPart σ H QO := q
theorem st_part {QO : Option Int → Hp → Prop} (q : te σ H fun x H1 => ∃ i, x = .int i ∧ QO (some i) H1) : tPart te σ H QO := q
theorem st_int {P : Int → Prop} (q : P i) : ∃ k, V.int i = .int k ∧ P k := ⟨i, rfl, q⟩
theorem st_slL {lo hi : Option Int} (h : SqL K H a xs) (q : ∀ p, H p = none → Q (.ref p) (upd H p (.lst (cutV xs lo hi)))) : rSlL K (.ref a) lo hi H Q := ⟨a, xs, rfl, h, q⟩
theorem st_inL {n : Bool} (h : SqL K H a xs) (f : flatV x = true) (g : xs.all flatV = true) (q : Q (.bl (if n then !inV x xs else inV x xs)) H) : rIn K n x (.ref a) H Q := ⟨a, xs, rfl, .inl h, f, g, q⟩
theorem st_inT {n : Bool} (h : SqT K H a xs) (f : flatV x = true) (g : xs.all flatV = true) (q : Q (.bl (if n then !inV x xs else inV x xs)) H) : rIn K n x (.ref a) H Q := ⟨a, xs, rfl, .inr h, f, g, q⟩
theorem st_bm {T : String} {r : V → List V → Hp → VK → Prop} {t : TA} (q : te σ H fun x H1 => tyV K T x H1 ∧ t σ H1 fun xs H2 => r x xs H2 Q) : tBM K T r te t σ H Q := q
theorem st_append (h : H a = some (.lst xs)) (l : xs.length < sizeLine) (q : Q .non (upd H a (.lst (xs ++ [v])))) : rAppend (.ref a) [v] H Q := ⟨a, xs, v, rfl, rfl, h, l, q⟩
theorem st_cat {b : Addr} (h : H a = some (.lst xs)) (h' : H b = some (.lst ys)) (l : xs.length + ys.length ≤ sizeLine) (q : ∀ p, H p = none → Q (.ref p) (upd H p (.lst (xs ++ ys)))) : rCat (.ref a) (.ref b) H Q := ⟨a, b, xs, ys, rfl, rfl, h, h', l, q⟩
theorem st_seq (q : t { D with nx := u D } σ H) : tSeq t u D σ H := q
theorem st_next (q : D.nx σ H) : tNext D σ H := q
theorem st_ret (q : te σ H D.rt) : tRet te D σ H := q
theorem st_drop (q : te σ H fun _ H1 => D.nx σ H1) : tDrop te D σ H := q
theorem st_if (q : c σ H fun b H1 => if b = true then t D σ H1 else u D σ H1) : tIfS c t u D σ H := q
theorem st_asg {g : TG} (q : te σ H fun x H1 => g x σ H1 D.nx) : tAsg te g D σ H := q
theorem st_gname {n : Nat} {QS : St → Hp → Prop} (q : QS (σ.set n (some v)) H) : gName n v σ H QS := q
theorem st_dput {td ty tv : TE} (q : tv σ H fun v H1 => td σ H1 fun x H2 => ty σ H2 fun y H3 => ∃ a H4, x = .ref a ∧ DPut H3 a y v H4 ∧ D.nx σ H4) : sDPut td ty tv D σ H := q
theorem st_dputK {kvs : List (Key × V)} {k : Int} {P : Hp → Prop} (h : H a = some (.dK kvs)) (l : kvs.length < sizeLine) (q : P (upd H a (.dK (putK kvs (Sum.inl k) v)))) :
    ∃ a' H4, V.ref a = .ref a' ∧ DPut H a' (.int k) v H4 ∧ P H4 := ⟨a, _, rfl, DPut.k (k := Sum.inl k) h l, q⟩
theorem st_dget2 {td ty tx : TE} (q : td σ H fun x H1 => ∃ a, x = .ref a ∧ IsD H1 a ∧ ty σ H1 fun y H2 => tx σ H2 fun z H3 => ∃ o, DGet H3 a y o ∧ Q (o.getD z) H3) : tDGet2 td ty tx σ H Q := q
theorem st_isD {kvs : List (Key × V)} {P : Addr → Prop} (h : H a = some (.dK kvs)) (q : P a) : ∃ a', V.ref a = .ref a' ∧ IsD H a' ∧ P a' := ⟨a, rfl, .inl ⟨kvs, .inl h⟩, q⟩
theorem st_dgetK {kvs : List (Key × V)} {k : Int} {P : Option V → Prop} (h : H a = some (.dK kvs)) (q : P (valV kvs (Sum.inl k))) : ∃ o, DGet H a (.int k) o ∧ P o := ⟨_, DGet.k (k := Sum.inl k) h, q⟩
theorem st_dsetd {td ty tx : TE} (q : td σ H fun x H1 => ∃ a, x = .ref a ∧ IsD H1 a ∧ ty σ H1 fun y H2 => tx σ H2 fun z H3 => ∃ kvs k, H3 a = some (.dK kvs) ∧ y = kV k ∧ kvs.length < sizeLine ∧
  (∀ v, valV kvs k = some v → Q v H3) ∧ (valV kvs k = none → Q z (upd H3 a (.dK (putK kvs k z))))) : tDSetD td ty tx σ H Q := q
theorem st_sz {n : Nat} {P : Prop} (h : Nat.ble n 1000 = true) (q : P) : n ≤ sizeLine ∧ P := ⟨Nat.le_of_lt (small1000 (Nat.le_of_ble_eq_true h)), q⟩
theorem st_all {P : Addr → Prop} (q : ∀ p, H p = none → P p) : ∀ p, H p = none → P p := q
theorem st_for {wi : TI} {g : TG} {tb : TS} (q : wi σ H fun J H1 => ∃ W : Nat → Nat → St → Hp → Prop, (∃ m, W 0 m σ H1) ∧ ∀ i m σ H, W i m σ H →
  (J.stop i H ∧ D.nx σ H) ∨ (J.go i H ∧ ∃ N : St → Hp → Prop, (∀ σ' H', N σ' H' → ∃ m', m' < m ∧ W (i + 1) m' σ' H') ∧ ∀ x H', J.yld i H x H' → g x σ H' fun σ2 H2 => tb { D with nx := N, ct := N, bk := D.nx } σ2 H2)) : tFor wi g tb D σ H := q
theorem st_iList {R : It → Hp → Prop} (q : te σ H fun x H1 => ∃ a, x = .ref a ∧ (∃ xs, SqL K H1 a xs) ∧ R (Itl K a) H1) : iList K te σ H R := q
theorem st_itl {P : Addr → Prop} (h : SqL K H a xs) (q : P a) : ∃ a', V.ref a = .ref a' ∧ (∃ xs, SqL K H a' xs) ∧ P a' := ⟨a, rfl, ⟨xs, h⟩, q⟩
theorem st_iRng {R : It → Hp → Prop} {t : TA} (q : t σ H fun vs H1 => ∃ j : Int, vs = [.int j] ∧ -(2 ^ 62) ≤ j ∧ j < 2 ^ 62 ∧ R (Itr 0 j.toNat) H1) : iRng1 t σ H R := q
theorem st_itr {P : Int → Prop} {n : Nat} (h : n ≤ 1000000) (q : P (n : Int)) : ∃ j : Int, [V.int (n : Int)] = [.int j] ∧ -(2 ^ 62) ≤ j ∧ j < 2 ^ 62 ∧ P j := ⟨n, rfl, by omega, by omega, q⟩
theorem st_lc {wi : TI} {g : TG} {ti : TT} {pick : List (Option Nat)} (q : wi σ H fun J H1 => ∀ p, H1 p = none → LcInv J g ti te (picked pick σ) H1 Q p) : tLC wi g ti te pick σ H Q := q
theorem st_noIf (q : QB true H) : tNoIf σ H QB := q
theorem upd_at {H : Hp} {a b : Addr} {o u : HO} (h : b ≠ a) (e : H b = some u) : upd H a o b = some u := by rw [upd_ne h]; exact e
theorem Same.at {H H' : Hp} {b : Addr} {u : HO} (s : Same H H') (e : H b = some u) : H' b = some u := s b u e
theorem sqL {H : Hp} (h : H a = some (.lst xs)) : SqL K H a xs := .inl (.inl h)
theorem sqLr {H : Hp} (h : Rd H a (.lst xs)) : SqL K H a xs := .inl h
theorem sqTr {H : Hp} (h : Rd H a (.tup xs)) : SqT K H a xs := .inl h
theorem Rd.upd {H : Hp} {a b : Addr} {o u : HO} (h : b ≠ a) (r : Rd H b u) : Rd (L2.upd H a o) b u := r.elim (fun e => .inl (upd_at h e)) fun ⟨q, e⟩ => .inr ⟨q, upd_at h e⟩
theorem Rd.same {H H' : Hp} {b : Addr} {u : HO} (s : Same H H') (r : Rd H b u) : Rd H' b u := r.elim (fun e => .inl (s _ _ e)) fun ⟨q, e⟩ => .inr ⟨q, s _ _ e⟩
theorem Rd.ne_none {H : Hp} {a b : Addr} {u : HO} (r : Rd H a u) (h : H b = none) : a ≠ b := by obtain ⟨o, e⟩ := r.some; exact ne_of_none e h
theorem ne_new {H : Hp} {a b : Addr} {o : HO} (h' : H b = none) (h : H a = some o) : a ≠ b := ne_of_none h h'
theorem ne_newR {H : Hp} {a b : Addr} {u : HO} (h' : H b = none) (r : Rd H a u) : a ≠ b := r.ne_none h'
theorem Same.put {H0 H : Hp} {o : HO} (s : Same H0 H) (hp : H0 p = none) : Same H0 (L2.upd H p o) := fun b u e => upd_at (ne_of_none e hp) (s b u e)
theorem same_of {H H' : Hp} {o : HO} (hp : H p = none) (e : L2.upd H p o = H') : Same H H' := e ▸ Same.new hp
theorem at_of {H H' : Hp} {o : HO} (e : L2.upd H p o = H') : H' p = some o := e ▸ upd_same
theorem mulR {i j : Int} (h : -(2 ^ 64) < j ∧ j < 2 ^ 64) : CMul i j := .inr h
end
end L2
set_option Elab.async false
set_option linter.all false
set_option maxRecDepth 100000
set_option maxHeartbeats 4000000
namespace Oh
open PySem L2
abbrev Line := Str × Int
def wordsOf (b : List Line) (n : Int) : List Str := (b.filter fun l => decide (l.2 = n)).map (·.1)
def canStand (w : Str) (ws : List Str) : Bool :=
  if ws = [] then decide (w = "open" ∨ w = "yes" ∨ w = "no" ∨ w = "off") else decide (ws = ([("open" : Str)]) ∨ ws = ([("yes" : Str)])) && decide (w = "bound" ∨ w = "off")
def soundFrom (seen : List Line) : List Line → Bool
  | [] => true
  | l :: r => canStand l.1 (wordsOf seen l.2) && soundFrom (seen ++ [l]) r
def sound (b : List Line) : Bool := soundFrom [] b
def lineD (l : Line) : PyData := .tuple [.str l.1, .int l.2]
def bookD (b : List Line) : PyData := .list (b.map lineD)
def OkB (b : List Line) : Prop := ∀ l ∈ b, PyData.strOk l.1 = true
theorem wordsOf_snoc (b : List Line) (l : Line) (n : Int) : wordsOf (b ++ [l]) n = if l.2 = n then wordsOf b n ++ [l.1] else wordsOf b n := by
  unfold wordsOf
  rw [List.filter_append, List.map_append, List.filter_cons, List.filter_nil]
  by_cases e : l.2 = n
  · simp [e]
  · simp [e]
theorem take_snoc {α : Type} {b : List α} {i : Nat} {l : α} (h : b[i]? = some l) : b.take (i + 1) = b.take i ++ [l] := by rw [List.take_add_one, h]; rfl
theorem wordsOf_len (b : List Line) (n : Int) : (wordsOf b n).length ≤ b.length := by
  unfold wordsOf; rw [List.length_map]; exact List.length_filter_le _ _
theorem wordsOf_ok {b : List Line} {n : Int} (ok : OkB b) : ∀ w ∈ wordsOf b n, PyData.strOk w = true := by
  intro w hw
  obtain ⟨l, hl, rfl⟩ := List.mem_map.mp hw
  exact ok l (List.mem_filter.mp hl).1
theorem line_at {H : Hp} {S : List Addr} {b : List Line} {xs : List V} {i : Nat} {x : V} (rs : Reps H S xs (b.map lineD)) (hx : xs[i]? = some x) :
    ∃ l t, b[i]? = some l ∧ x = .ref t ∧ Rd H t (.tup [.str l.1, .int l.2]) := by
  obtain ⟨d, hd, rx⟩ := rs.get hx
  rw [List.getElem?_map] at hd
  cases hb : b[i]? with
  | none => rw [hb] at hd; cases hd
  | some l =>
    rw [hb] at hd
    have e : lineD l = d := Option.some.inj hd
    subst e
    obtain ⟨t, ys, rfl, rt, rs'⟩ := rx.tup_inv
    obtain ⟨y1, r1, rfl, h1, t1⟩ := rs'.cons_inv
    obtain ⟨y2, r2, rfl, h2, t2⟩ := t1.cons_inv
    cases t2.nil_inv
    rw [h1.str_inv, h2.int_inv] at rt
    exact ⟨l, t, rfl, rfl, rt⟩
theorem len_small {n : Nat} (h : n ≤ 1000000) : n < sizeLine := Nat.lt_of_le_of_lt h (by decide)
theorem in_strs (x : Str) (ws : List Str) : inV (.str x) (ws.map .str) = decide (x ∈ ws) := by
  unfold inV
  rw [List.any_map]
  induction ws with
  | nil => rfl
  | cons w r ih =>
    rw [List.any_cons, ih]
    show ((w == x) || decide (x ∈ r)) = decide (x ∈ w :: r)
    by_cases e : x = w
    · subst e; simp
    · have e' : ¬ w = x := fun z => e z.symm
      simp [e, e']
def zR08 (K : PySem.W.Frag)  : TS :=
    (tSeq (tIfS (tTest (tOp rEq (tCB (rLenQ K) (tCons (tVar 1) tNil)) (tC (.int 0))))
    (tRet (tOp (rIn K false) (tVar 0) (tTup (tCons (tC (.str "open")) (tCons (tC (.str "yes")) (tCons (tC (.str "no")) (tCons (tC (.str "off")) tNil)))))))
    tNext)
    (tRet (tAndV (tOp (rInD false) (tVar 1) (tTup (tCons (tLst (tCons (tC (.str "open")) tNil)) (tCons (tLst (tCons (tC (.str "yes")) tNil)) tNil)))) (tOp (rIn K false) (tVar 0) (tTup (tCons (tC (.str "bound")) (tCons (tC (.str "off")) tNil)))))))
def zR0b (K : PySem.W.Frag) (zsp08 : Sp) : TS :=
    (tSeq (tAsg tDNewK (gName 1))
    (tSeq (tFor (iList K (tVar 0)) (gName 2)
    (tSeq (tAsg (tDSetD (tVar 1) (tOp (rIxT K) (tVar 2) (tC (.int 1))) (tLst tNil)) (gName 3))
    (tSeq (tIfS (tNot (tB (tCall zsp08 [] E0 (tCons (tOp (rIxT K) (tVar 2) (tC (.int 0))) (tCons (tVar 3) tNil)))))
    (tRet (tC (.bl false)))
    tNext)
    (tDrop (tBM K "list" rAppend (tVar 3) (tCons (tOp (rIxT K) (tVar 2) (tC (.int 0))) tNil))))))
    (tRet (tC (.bl true)))))
local macro_rules | `(tactic| walk_at "ne") => `(tactic| first | assumption | (refine' Ne.symm ?k1; (case k1 => assumption)) | (refine' ne_new ?k1 ?k2; (case k1 => assumption); (case k2 => walk_at "hl")) | (refine' ne_newR ?k1 ?k2; (case k1 => assumption); (case k2 => walk_at "rd")) | (refine' Ne.symm (ne_new ?k1 ?k2); (case k1 => assumption); (case k2 => walk_at "hl")) | (refine' Ne.symm (ne_newR ?k1 ?k2); (case k1 => assumption); (case k2 => walk_at "rd")))
local macro_rules | `(tactic| walk_at "hl") => `(tactic| with_reducible first | assumption | exact upd_same | (refine' upd_at ?k1 ?k2; (case k1 => walk_at "ne"); (case k2 => walk_at "hl")) | (refine' Same.at ?k1 ?k2; (case k1 => assumption); (case k2 => walk_at "hl")))
local macro_rules | `(tactic| walk_at "rd") => `(tactic| with_reducible first | assumption | (refine' Rd.of ?k1; (case k1 => walk_at "hl")) | (refine' Rd.upd ?k1 ?k2; (case k1 => walk_at "ne"); (case k2 => walk_at "rd")) | (refine' Rd.same ?k1 ?k2; (case k1 => assumption); (case k2 => walk_at "rd")))
local macro_rules | `(tactic| walk_at "sq") => `(tactic| with_reducible first | assumption | (refine' sqLr ?k1; (case k1 => walk_at "rd")) | (refine' sqTr ?k1; (case k1 => walk_at "rd")) | (refine' SqL.new ?k1 ?k2; (case k1 => assumption); (case k2 => walk_at "sq")) | (refine' Same.seq ?k1 ?k2; (case k1 => assumption); (case k2 => walk_at "sq")))
local macro_rules | `(tactic| walk_at "rf") => `(tactic| first | with_unfolding_all rfl | assumption)
local macro_rules | `(tactic| walk_at "fl") => `(tactic| first | with_unfolding_all rfl | exact flat_strs _ | exact flat_ints _)
local macro_rules | `(tactic| walk_at "st") => `(tactic| with_reducible first
  | refine st_seq ?_ | refine st_asg ?_ | refine st_gname ?_ | refine st_if ?_ | refine st_ret ?_ | refine st_retN ?_
  | refine st_drop ?_ | refine st_next ?_ | refine st_test ?_ | refine st_B ?_ | refine st_bl ?_ | refine st_int ?_
  | refine st_and ?_ | refine st_or ?_ | refine st_not ?_ | refine st_andV ?_ | refine st_orV ?_ | refine st_notV ?_ | refine st_ifE ?_
  | refine st_chain ?_ | refine st_op ?_ | refine st_un ?_ | refine st_isN ?_ | refine st_notN ?_
  | refine st_nil ?_ | refine st_cons ?_ | refine st_tup ?_ | refine st_lst ?_ | refine st_dnew ?_ | refine st_call ?_ | refine st_cb ?_
  | (refine' st_var ?k1 ?_; (case k1 => walk_at "rf")) | refine st_c ?_
  | refine st_rI0 ?_ | refine st_rU ?_ | (refine' st_rI ?k1 ?_; (case k1 => first | exact mulR (by decide) | exact divR (by decide) | decide | (show (0 : Int) < _; decide)))
  | (refine' st_rEq ?k1 ?_; (case k1 => walk_at "rf")) | (refine' st_rNe ?k1 ?_; (case k1 => walk_at "rf"))
  | (refine' st_ixL ?k1 ?k2 ?_; (case k1 => walk_at "sq"); (case k2 => walk_at "rf")) | (refine' st_ixT ?k1 ?k2 ?_; (case k1 => walk_at "sq"); (case k2 => walk_at "rf"))
  | (refine' st_lenL ?k1 ?_; (case k1 => walk_at "sq")) | (refine' st_lenT ?k1 ?_; (case k1 => walk_at "sq"))
  | (refine' st_inL ?k1 ?k2 ?k3 ?_; (case k1 => walk_at "sq"); (case k2 => walk_at "rf"); (case k3 => walk_at "fl"))
  | (refine' st_inT ?k1 ?k2 ?k3 ?_; (case k1 => walk_at "sq"); (case k2 => walk_at "rf"); (case k3 => walk_at "fl"))
  | (refine' st_listL ?k1 ?_; (case k1 => walk_at "sq")) | refine st_min ?_ | refine st_intB ?_
  | refine st_sl ?_ | refine st_noPart ?_ | refine st_part ?_ | (refine' st_slL ?k1 ?_; (case k1 => walk_at "sq"))
  | refine st_meth ?_ | (refine' st_insM ?k1 ?k2 ?_; (case k1 => walk_at "hl"); (case k2 => walk_at "rf")) | refine st_sfld ?_
  | (refine' st_ins ?k1 ?k2 ?k3 ?k4 ?_; (case k1 => walk_at "hl"); (case k2 => assumption); (case k3 => assumption); (case k4 => walk_at "rf")) | (refine' st_lenD ?k1 ?_; (case k1 => walk_at "hl"))
  | refine st_bm ?_ | refine st_fld ?_ | refine st_dput ?_ | refine st_dget2 ?_ | refine st_dget ?_ | refine st_dsetd ?_
  | refine st_for ?_ | refine st_iList ?_ | (refine' st_itl ?k1 ?_; (case k1 => walk_at "sq")) | refine st_iRng ?_ | refine st_lc ?_ | refine st_noIf ?_
  | (refine' st_sz ?k1 ?_; (case k1 => with_unfolding_all rfl))
  | (refine' st_isD ?k1 ?_; (case k1 => walk_at "hl")) | (refine' st_dgetK ?k1 ?_; (case k1 => walk_at "hl")))
local macro_rules | `(tactic| walk_at "go") => `(tactic| repeat walk_at "st")
local macro_rules | `(tactic| walk_at "new") => `(tactic| ((with_reducible refine st_all ?_); intro p hp; generalize hH : upd _ p _ = H'; have hs := same_of hp hH; have hg := at_of hH; clear hH))
local macro_rules | `(tactic| walk_at "sm") => `(tactic| with_reducible first | assumption | exact Same.refl _ | (refine' Same.trans ?k1 ?k2; (case k2 => assumption); (case k1 => walk_at "sm")))
local macro_rules | `(tactic| walk_at "goA") => `(tactic| repeat (first | walk_at "st" | walk_at "new"))
def OkW (ws : List Str) : Prop := ∀ w ∈ ws, PyData.strOk w = true
def listS (ws : List Str) : PyData := .list (ws.map .str)
theorem canLay_strs {ws : List Str} (ok : OkW ws) : PyData.canLayAll0 (ws.map .str) = true := by
  induction ws with
  | nil => rfl
  | cons w r ih =>
    rw [List.map_cons, PyData.canLayAll0, PyData.canLay0, ok w (by simp), Bool.true_and]
    exact ih fun x hx => ok x (List.mem_cons_of_mem _ hx)
theorem depth_strs (ws : List Str) : PyData.depthAll (ws.map .str) ≤ 1 := by
  induction ws with
  | nil => simp [PyData.depthAll]
  | cons w r ih => rw [List.map_cons, PyData.depthAll, PyData.depth]; omega
theorem shaped_strs {ws : List Str} (ok : OkW ws) : SeqAt.shaped (listS ws) = true := by
  unfold SeqAt.shaped listS
  rw [PyData.canLay0, canLay_strs ok, Bool.true_and, PyData.depth]
  have := depth_strs ws
  exact decide_eq_true (by omega)
theorem eqv_strs : ∀ (xs ys : List Str), PyData.eqv (listS xs) (listS ys) = decide (xs = ys) := by
  intro xs ys
  unfold listS
  rw [PyData.eqv]
  induction xs generalizing ys with
  | nil => cases ys <;> simp [PyData.eqvAll]
  | cons x r ih =>
    cases ys with
    | nil => simp [PyData.eqvAll]
    | cons y s =>
      rw [List.map_cons, List.map_cons, PyData.eqvAll, PyData.eqv, ih s]
      by_cases e : x = y
      · subst e; simp
      · simp [e]
theorem rep_strs {H : Hp} {a : Addr} {ws : List Str} (h : Rd H a (.lst (ws.map .str))) : Rep H [] (.ref a) (listS ws) := .lst h (by simp) (reps_strs ws)
def zsp08 : Sp := fun vs H Q _ => ∃ w a ws, vs = [.str w, .ref a] ∧ Rd H a (.lst (ws.map .str)) ∧ OkW ws ∧ ∀ H', Same H H' → Q (.bl (canStand w ws)) H'
theorem zrd08 {K : PySem.W.Frag} {vs : List V} {H : Hp} {Q : VK} {E : XK} (h : zsp08 vs H Q E) : zR08 K { nx := fun _ H' => Q .non H', rt := Q } (start ["word", "ahead"] vs) H := by
  obtain ⟨w, a, ws, rfl, ha, ok, k⟩ := h
  unfold zR08
  unfold canStand at k
  walk_at "go"
  by_cases e : ws = []
  · subst e
    refine iteT ?_
    simp only [if_true] at k
    walk_at "goA"
    have e1 : inV (.str w) [.str "open", .str "yes", .str "no", .str "off"] = decide (w = "open" ∨ w = "yes" ∨ w = "no" ∨ w = "off") := by
      have := in_strs w ["open", "yes", "no", "off"]
      simp only [List.map_cons, List.map_nil] at this
      rw [this]; simp [List.mem_cons]
    show Q (.bl (if false = true then !inV (.str w) _ else inV (.str w) _)) _
    rw [if_neg (by decide : ¬ (false = true)), e1]
    exact k _ (by walk_at "sm")
  · rw [if_neg (by simpa using e)]
    rw [if_neg e] at k
    walk_at "goA"
    rename_i q1 h1 H1 s1 g1 q2 h2 H2 s2 g2 q3 h3 H3 s3 g3
    have r1 : Rep H3 [] (.ref q3) (.tuple [listS ["open"], listS ["yes"]]) :=
      .tup (by walk_at "rd") (.cons (rep_strs (ws := ["open"]) (by show Rd _ q1 (.lst [.str "open"]); walk_at "rd")) (.cons (rep_strs (ws := ["yes"]) (by show Rd _ q2 (.lst [.str "yes"]); walk_at "rd")) .nil))
    refine ⟨listS ws, [listS ["open"], listS ["yes"]], rep_strs (by walk_at "rd"), .inr r1, by decide +kernel, shaped_strs ok, ?_⟩
    have e2 : ([listS ["open"], listS ["yes"]].any fun e => PyData.eqv e (listS ws)) = decide (ws = ([("open" : Str)]) ∨ ws = ([("yes" : Str)])) := by
      simp only [List.any_cons, List.any_nil, eqv_strs, Bool.or_false]
      by_cases z1 : ws = [("open" : Str)]
      · subst z1; simp
      · by_cases z2 : ws = [("yes" : Str)]
        · subst z2; simp
        · have z1' : ¬ [("open" : Str)] = ws := fun z => z1 z.symm
          have z2' : ¬ [("yes" : Str)] = ws := fun z => z2 z.symm
          simp [z1, z2, z1', z2']
    show ∃ c, V.bl (if false = true then _ else _) = .bl c ∧ _
    rw [if_neg (by decide : ¬ (false = true)), e2]
    walk_at "go"
    by_cases z : ws = ([("open" : Str)]) ∨ ws = ([("yes" : Str)])
    · rw [if_pos (decide_eq_true z)]
      walk_at "goA"
      have e1 : inV (.str w) [.str "bound", .str "off"] = decide (w = "bound" ∨ w = "off") := by
        have := in_strs w ["bound", "off"]
        simp only [List.map_cons, List.map_nil] at this
        rw [this]; simp [List.mem_cons]
      show Q (.bl (if false = true then !inV (.str w) _ else inV (.str w) _)) _
      rw [if_neg (by decide : ¬ (false = true)), e1]
      rw [decide_eq_true z, Bool.true_and] at k
      exact k _ (by walk_at "sm")
    · rw [if_neg (by simpa using z)]
      rw [decide_eq_false z, Bool.false_and] at k
      exact k _ (by walk_at "sm")
structure WTab (H0 H : Hp) (kvs : List (Key × V)) (seen : List Line) : Prop where
  no : ∀ n, valV kvs (Sum.inl n : Key) = none → wordsOf seen n = []
  yes : ∀ n v, valV kvs (Sum.inl n : Key) = some v → ∃ r, v = .ref r ∧ H0 r = none ∧ H r = some (.lst ((wordsOf seen n).map .str))
  inj : ∀ n m r, valV kvs (Sum.inl n : Key) = some (.ref r) → valV kvs (Sum.inl m : Key) = some (.ref r) → n = m
theorem sound_at {b : List Line} {i : Nat} {l : Line} (h : b[i]? = some l) : soundFrom (b.take i) (b.drop i) = (canStand l.1 (wordsOf (b.take i) l.2) && soundFrom (b.take (i + 1)) (b.drop (i + 1))) := by
  have hi : i < b.length := (List.getElem?_eq_some_iff.mp h).1
  have he : b[i] = l := (List.getElem?_eq_some_iff.mp h).2
  rw [List.drop_eq_getElem_cons hi, he, soundFrom, take_snoc h]
def zsp0b : Sp := fun vs H Q _ => ∃ a b, vs = [.ref a] ∧ Rep H [] (.ref a) (bookD b) ∧ b.length ≤ 900 ∧ OkB b ∧ ∀ H', Same H H' → Q (.bl (sound b)) H'
theorem zrd0b {K : PySem.W.Frag} {vs : List V} {H : Hp} {Q : VK} {E : XK} (h : zsp0b vs H Q E) : zR0b K zsp08 { nx := fun _ H' => Q .non H', rt := Q } (start ["book", "words_so_far", "line", "ahead"] vs) H := by
  obtain ⟨a, b, rfl, hb, hl, ok, k⟩ := h
  obtain ⟨_, xs, e, rd, _, rs⟩ := id hb.lst_inv
  cases e
  have hxl : xs.length = b.length := by rw [rs.length, List.length_map]
  unfold zR0b
  walk_at "goA"
  rename_i d hd H1 s1 g1
  refine for_list (K := K) (a := a) (xs := xs) (fun i σ H2 => ∃ v2 v3 kvs, σ = [some (.ref a), some (.ref d), v2, v3] ∧ Same H H2 ∧ H2 d = some (.dK kvs) ∧ kvs.length ≤ i ∧ WTab H H2 kvs (b.take i) ∧ sound b = soundFrom (b.take i) (b.drop i))
    ⟨none, none, [], rfl, s1, g1, Nat.le_refl _, ⟨fun _ _ => rfl, fun _ _ z => (by cases z), fun _ _ _ z => (by cases z)⟩, rfl⟩ ?_ ?_ ?_
  · rintro i σ H2 hi ⟨v2, v3, kvs, rfl, s2, g2, hk, W, hs⟩
    exact s2.seq (sqLr rd)
  · rintro i x σ H2 hx ⟨v2, v3, kvs, rfl, s2, g2, hk, W, hs⟩
    obtain ⟨l, t, hb', rfl, rt⟩ := line_at rs hx
    have hi : i < b.length := (List.getElem?_eq_some_iff.mp hb').1
    have okw : OkW (wordsOf (b.take i) l.2) := wordsOf_ok fun z hz => ok z (List.mem_of_mem_take hz)
    rw [sound_at hb'] at hs
    -- behind setdefault
    have after : ∀ (r : Addr) (H5 : Hp) (kvs5 : List (Key × V)) (D : Ends), D.rt = Q → (∀ (σ' : St) (H' : Hp), (∃ v2 v3 kvs, σ' = [some (.ref a), some (.ref d), v2, v3] ∧ Same H H' ∧ H' d = some (.dK kvs) ∧ kvs.length ≤ i + 1 ∧ WTab H H' kvs (b.take (i + 1)) ∧ sound b = soundFrom (b.take (i + 1)) (b.drop (i + 1))) → D.nx σ' H') →
        Same H H5 → H5 d = some (.dK kvs5) → kvs5.length ≤ i + 1 → WTab H H5 kvs5 (b.take i) → valV kvs5 (Sum.inl l.2 : Key) = some (.ref r) →
        tSeq (tIfS (tNot (tB (tCall zsp08 [] E0 (tCons (tOp (rIxT K) (tVar 2) (tC (.int 0))) (tCons (tVar 3) tNil))))) (tRet (tC (.bl false))) tNext)
          (tDrop (tBM K "list" rAppend (tVar 3) (tCons (tOp (rIxT K) (tVar 2) (tC (.int 0))) tNil))) D [some (.ref a), some (.ref d), some (.ref t), some (.ref r)] H5 := by
      intro r H5 kvs5 D hrt hnx s5 g5 hk5 W5 hv5
      obtain ⟨r', er, hr0, gr⟩ := W5.yes _ _ hv5
      cases er
      have rt5 := rt.same s5
      walk_at "go"
      refine ⟨l.1, r, wordsOf (b.take i) l.2, rfl, .inl gr, okw, fun H6 s6 => ?_⟩
      have g6r := s6 _ _ gr
      have rt6 := rt5.same s6
      have hls : ((wordsOf (b.take i) l.2).map V.str).length < sizeLine := by
        rw [List.length_map]
        exact len_small (Nat.le_trans (wordsOf_len _ _) (by rw [List.length_take]; omega))
      walk_at "go"
      cases hc : canStand l.1 (wordsOf (b.take i) l.2) with
      | false =>
        refine iteT ?_
        walk_at "go"
        rw [hc, Bool.false_and] at hs
        rw [hs] at k
        rw [hrt]
        exact k _ (s5.trans s6)
      | true =>
        rw [hc, Bool.true_and] at hs
        refine iteF ?_
        walk_at "go"
        refine ⟨.inl ⟨rfl, _, sqL g6r⟩, ?_⟩
        walk_at "go"
        refine st_append g6r hls ?_
        refine hnx _ _ ⟨_, _, kvs5, rfl, (s5.trans s6).put hr0, upd_at (ne_of (s6 _ _ g5) g6r (by intro z; cases z)) (s6 _ _ g5), hk5, ⟨fun n hn => ?_, fun n v hv => ?_, W5.inj⟩, hs⟩
        · have hne : ¬ l.2 = n := by rintro rfl; rw [hv5] at hn; cases hn
          rw [take_snoc hb', wordsOf_snoc, if_neg hne]
          exact W5.no n hn
        · obtain ⟨r', rfl, hr', gr'⟩ := W5.yes n v hv
          refine ⟨r', rfl, hr', ?_⟩
          rw [take_snoc hb', wordsOf_snoc]
          by_cases hne : l.2 = n
          · subst hne
            rw [hv5] at hv
            cases hv
            rw [if_pos rfl, List.map_append, upd_same]; rfl
          · rw [if_neg hne, upd_ne (by rintro rfl; exact hne (W5.inj _ _ _ hv5 hv))]
            exact s6 _ _ gr'
    have rt2 := rt.same s2
    walk_at "go"
    walk_at "new"
    rename_i p hp H3 s3 g3
    have hp0 : H p = none := s2.free hp
    have g3d := s3 _ _ g2
    refine ⟨kvs, Sum.inl l.2, g3d, rfl, len_small (by omega), fun v hv => ?_, fun hn => ?_⟩
    · obtain ⟨r, rfl, hr0, gr⟩ := W.yes _ _ hv
      walk_at "st"
      refine after r H3 kvs _ rfl (fun σ' H' z => z) (s2.trans s3) g3d (by omega) ⟨W.no, fun n v hv => ?_, W.inj⟩ hv
      obtain ⟨r', e, h1, h2⟩ := W.yes n v hv
      exact ⟨r', e, h1, s3 _ _ h2⟩
    · walk_at "st"
      have nd : p ≠ d := ne_of g3 g3d (by intro z; cases z)
      have hval : ∀ n : Int, valV (putK kvs (Sum.inl l.2 : Key) (V.ref p)) (Sum.inl n : Key) = if n = l.2 then some (.ref p) else valV kvs (Sum.inl n : Key) := fun n => by
        rw [valV_put]
        by_cases e : n = l.2
        · subst e; simp
        · rw [if_neg e, if_neg (by intro z; exact e (Sum.inl.inj z))]
      refine after p _ (putK kvs (Sum.inl l.2 : Key) (V.ref p)) _ rfl (fun σ' H' z => z) ((s2.trans s3).put hd) upd_same (Nat.le_trans (length_putK _ _ _) (by omega)) ⟨fun n hv => ?_, fun n v hv => ?_, fun n m r h1 h2 => ?_⟩ (by rw [hval, if_pos rfl])
      · rw [hval] at hv
        by_cases e : n = l.2
        · rw [if_pos e] at hv; cases hv
        · rw [if_neg e] at hv; exact W.no n hv
      · rw [hval] at hv
        by_cases e : n = l.2
        · rw [if_pos e] at hv
          cases hv
          subst e
          exact ⟨p, rfl, hp0, by rw [upd_ne nd, g3, W.no _ hn]; rfl⟩
        · rw [if_neg e] at hv
          obtain ⟨r', e', h1, h2⟩ := W.yes n v hv
          have h3 := s3 _ _ h2
          exact ⟨r', e', h1, by rw [upd_ne (ne_of h3 g3d (by intro z; cases z))]; exact h3⟩
      · rw [hval] at h1 h2
        have fresh : ∀ q, valV kvs (Sum.inl q : Key) = some (.ref p) → False := fun q hq => by
          obtain ⟨r', e', _, h5⟩ := W.yes q _ hq
          cases e'
          rw [hp] at h5
          cases h5
        by_cases e1 : n = l.2
        · by_cases e2 : m = l.2
          · rw [e1, e2]
          · rw [if_pos e1] at h1; rw [if_neg e2] at h2
            cases h1
            exact (fresh _ h2).elim
        · by_cases e2 : m = l.2
          · rw [if_neg e1] at h1; rw [if_pos e2] at h2
            cases h2
            exact (fresh _ h1).elim
          · rw [if_neg e1] at h1; rw [if_neg e2] at h2
            exact W.inj n m r h1 h2
  · rintro σ H2 ⟨v2, v3, kvs, rfl, s2, g2, hk, W, hs⟩
    walk_at "go"
    rw [hxl, List.drop_length, soundFrom] at hs
    rw [hs] at k
    exact k _ s2
theorem st_eqS {H : Hp} {Q : VK} {a b : Addr} {xs ys : List Str} (h1 : Rd H a (.lst (xs.map .str))) (h2 : Rd H b (.lst (ys.map .str))) (o1 : OkW xs) (o2 : OkW ys) (q : Q (.bl (decide (xs = ys))) H) : rEqD (.ref a) (.ref b) H Q :=
  ⟨listS xs, listS ys, rep_strs h1, rep_strs h2, shaped_strs o1, shaped_strs o2, by rw [eqv_strs]; exact q⟩
theorem canLay_lines {b : List Line} (ok : OkB b) : PyData.canLayAll0 (b.map lineD) = true := by
  induction b with
  | nil => rfl
  | cons l r ih =>
    rw [List.map_cons, PyData.canLayAll0, ih fun z hz => ok z (List.mem_cons_of_mem _ hz)]
    simp [lineD, PyData.canLay0, PyData.canLayAll0, ok l (by simp)]
theorem depth_lines (b : List Line) : PyData.depthAll (b.map lineD) ≤ 3 := by
  induction b with
  | nil => simp [PyData.depthAll]
  | cons l r ih =>
    rw [List.map_cons, PyData.depthAll]
    have : PyData.depth (lineD l) ≤ 3 := by simp [lineD, PyData.depth, PyData.depthAll]
    omega
theorem shaped_book {b : List Line} (ok : OkB b) : SeqAt.shaped (bookD b) = true := by
  unfold SeqAt.shaped bookD
  rw [PyData.canLay0, canLay_lines ok, Bool.true_and, PyData.depth]
  have := depth_lines b
  exact decide_eq_true (by omega)
theorem eqv_book {b : List Line} (ok : OkB b) : PyData.eqv (bookD b) (bookD b) = true := SeqAt.eqv_refl _ (SeqAt.canLay_of_shaped (shaped_book ok))
theorem atI_mem {xs : List V} {r : Int} (h0 : 0 ≤ r) (h1 : r < xs.length) : ∃ v, v ∈ xs ∧ atI xs r = some v := by
  have hlt : r.toNat < xs.length := by omega
  refine ⟨xs[r.toNat], List.getElem_mem hlt, ?_⟩
  have := atI_nat (xs := xs) (j := r.toNat) (v := xs[r.toNat]) (by simp [hlt])
  rwa [Int.toNat_of_nonneg h0] at this
def isWord (w : Str) : Prop := w = "open" ∨ w = "yes" ∨ w = "no" ∨ w = "off" ∨ w = "bound"
theorem isWord.ok {w : Str} (h : isWord w) : PyData.strOk w = true := by rcases h with rfl | rfl | rfl | rfl | rfl <;> decide +kernel
theorem cut_take {xs : List V} {i : Nat} (h : i ≤ xs.length) : cutV xs none (some ((0 : Int) + (i : Int))) = xs.take i := by
  unfold cutV
  rw [Int.zero_add, HT.sIx_none, HT.sIx_nat, List.drop_zero, Nat.sub_zero, Nat.min_eq_left h]
theorem any_open_yes (ws : List Str) : ([listS ["open"], listS ["yes"]].any fun e => PyData.eqv e (listS ws)) = decide (ws = ([("open" : Str)]) ∨ ws = ([("yes" : Str)])) := by
  simp only [List.any_cons, List.any_nil, eqv_strs, Bool.or_false]
  by_cases z1 : ws = [("open" : Str)]
  · subst z1; simp
  · by_cases z2 : ws = [("yes" : Str)]
    · subst z2; simp
    · have z1' : ¬ [("open" : Str)] = ws := fun z => z1 z.symm
      have z2' : ¬ [("yes" : Str)] = ws := fun z => z2 z.symm
      simp [z1, z2, z1', z2']
end Oh
set_option Elab.async false
set_option linter.all false
set_option maxRecDepth 100000
set_option maxHeartbeats 4000000
namespace Oh
open PySem L2
local macro_rules | `(tactic| walk_at "ne") => `(tactic| first | assumption | (refine' Ne.symm ?k1; (case k1 => assumption)) | (refine' ne_new ?k1 ?k2; (case k1 => assumption); (case k2 => walk_at "hl")) | (refine' ne_newR ?k1 ?k2; (case k1 => assumption); (case k2 => walk_at "rd")) | (refine' Ne.symm (ne_new ?k1 ?k2); (case k1 => assumption); (case k2 => walk_at "hl")) | (refine' Ne.symm (ne_newR ?k1 ?k2); (case k1 => assumption); (case k2 => walk_at "rd")))
local macro_rules | `(tactic| walk_at "hl") => `(tactic| with_reducible first | assumption | exact upd_same | (refine' upd_at ?k1 ?k2; (case k1 => walk_at "ne"); (case k2 => walk_at "hl")) | (refine' Same.at ?k1 ?k2; (case k1 => assumption); (case k2 => walk_at "hl")))
local macro_rules | `(tactic| walk_at "rd") => `(tactic| with_reducible first | assumption | (refine' Rd.of ?k1; (case k1 => walk_at "hl")) | (refine' Rd.upd ?k1 ?k2; (case k1 => walk_at "ne"); (case k2 => walk_at "rd")) | (refine' Rd.same ?k1 ?k2; (case k1 => assumption); (case k2 => walk_at "rd")))
local macro_rules | `(tactic| walk_at "sq") => `(tactic| with_reducible first | assumption | (refine' sqLr ?k1; (case k1 => walk_at "rd")) | (refine' sqTr ?k1; (case k1 => walk_at "rd")) | (refine' SqL.new ?k1 ?k2; (case k1 => assumption); (case k2 => walk_at "sq")) | (refine' Same.seq ?k1 ?k2; (case k1 => assumption); (case k2 => walk_at "sq")))
local macro_rules | `(tactic| walk_at "rf") => `(tactic| first | with_unfolding_all rfl | assumption)
local macro_rules | `(tactic| walk_at "fl") => `(tactic| first | with_unfolding_all rfl | exact flat_strs _ | exact flat_ints _)
local macro_rules | `(tactic| walk_at "st") => `(tactic| with_reducible first
  | refine st_seq ?_ | refine st_asg ?_ | refine st_gname ?_ | refine st_if ?_ | refine st_ret ?_ | refine st_retN ?_
  | refine st_drop ?_ | refine st_next ?_ | refine st_test ?_ | refine st_B ?_ | refine st_bl ?_ | refine st_int ?_
  | refine st_and ?_ | refine st_or ?_ | refine st_not ?_ | refine st_andV ?_ | refine st_orV ?_ | refine st_notV ?_ | refine st_ifE ?_
  | refine st_chain ?_ | refine st_op ?_ | refine st_un ?_ | refine st_isN ?_ | refine st_notN ?_
  | refine st_nil ?_ | refine st_cons ?_ | refine st_tup ?_ | refine st_lst ?_ | refine st_dnew ?_ | refine st_call ?_ | refine st_cb ?_
  | (refine' st_var ?k1 ?_; (case k1 => walk_at "rf")) | refine st_c ?_
  | refine st_rI0 ?_ | refine st_rU ?_ | (refine' st_rI ?k1 ?_; (case k1 => first | exact mulR (by decide) | exact divR (by decide) | decide | (show (0 : Int) < _; decide)))
  | (refine' st_rEq ?k1 ?_; (case k1 => walk_at "rf")) | (refine' st_rNe ?k1 ?_; (case k1 => walk_at "rf"))
  | (refine' st_ixL ?k1 ?k2 ?_; (case k1 => walk_at "sq"); (case k2 => walk_at "rf")) | (refine' st_ixT ?k1 ?k2 ?_; (case k1 => walk_at "sq"); (case k2 => walk_at "rf"))
  | (refine' st_lenL ?k1 ?_; (case k1 => walk_at "sq")) | (refine' st_lenT ?k1 ?_; (case k1 => walk_at "sq"))
  | (refine' st_inL ?k1 ?k2 ?k3 ?_; (case k1 => walk_at "sq"); (case k2 => walk_at "rf"); (case k3 => walk_at "fl"))
  | (refine' st_inT ?k1 ?k2 ?k3 ?_; (case k1 => walk_at "sq"); (case k2 => walk_at "rf"); (case k3 => walk_at "fl"))
  | (refine' st_listL ?k1 ?_; (case k1 => walk_at "sq")) | refine st_min ?_ | refine st_intB ?_
  | refine st_sl ?_ | refine st_noPart ?_ | refine st_part ?_ | (refine' st_slL ?k1 ?_; (case k1 => walk_at "sq"))
  | refine st_meth ?_ | (refine' st_insM ?k1 ?k2 ?_; (case k1 => walk_at "hl"); (case k2 => walk_at "rf")) | refine st_sfld ?_
  | (refine' st_ins ?k1 ?k2 ?k3 ?k4 ?_; (case k1 => walk_at "hl"); (case k2 => assumption); (case k3 => assumption); (case k4 => walk_at "rf")) | (refine' st_lenD ?k1 ?_; (case k1 => walk_at "hl"))
  | refine st_bm ?_ | refine st_fld ?_ | refine st_dput ?_ | refine st_dget2 ?_ | refine st_dget ?_ | refine st_dsetd ?_
  | refine st_for ?_ | refine st_iList ?_ | (refine' st_itl ?k1 ?_; (case k1 => walk_at "sq")) | refine st_iRng ?_ | refine st_lc ?_ | refine st_noIf ?_
  | (refine' st_sz ?k1 ?_; (case k1 => with_unfolding_all rfl))
  | (refine' st_isD ?k1 ?_; (case k1 => walk_at "hl")) | (refine' st_dgetK ?k1 ?_; (case k1 => walk_at "hl")))
local macro_rules | `(tactic| walk_at "go") => `(tactic| repeat walk_at "st")
local macro_rules | `(tactic| walk_at "new") => `(tactic| ((with_reducible refine st_all ?_); intro p hp; generalize hH : upd _ p _ = H'; have hs := same_of hp hH; have hg := at_of hH; clear hH))
local macro_rules | `(tactic| walk_at "sm") => `(tactic| with_reducible first | assumption | exact Same.refl _ | (refine' Same.trans ?k1 ?k2; (case k2 => assumption); (case k1 => walk_at "sm")))
local macro_rules | `(tactic| walk_at "goA") => `(tactic| repeat (first | walk_at "st" | walk_at "new"))
def zR06 (K : PySem.W.Frag)  : TS :=
    (tRet (tAndV (tCB (rIsi K) (tCons (tVar 0) (tCons (tC (.ty "int")) tNil))) (tNotV (tCB (rIsi K) (tCons (tVar 0) (tCons (tC (.ty "bool")) tNil))))))
def zR0c (K : PySem.W.Frag)  : TS :=
    (tSeq (tIfS (tTest (tOp rLtI (tVar 1) (tCB (rLenQ K) (tCons (tVar 0) tNil))))
    (tRet (tOp (rIxL K) (tVar 0) (tVar 1)))
    tNext)
    (tRet (tC (.int 0))))
def zR03 (K : PySem.W.Frag) (zsp06 : Sp) : TS :=
    (tSeq (tIfS (tOr (tNot (tB (tCB (rIsi K) (tCons (tVar 0) (tCons (tC (.ty "tuple")) tNil))))) (tTest (tOp rNe (tCB (rLenQ K) (tCons (tVar 0) tNil)) (tC (.int 2)))))
    (tRet (tC (.bl false)))
    tNext)
    (tSeq (tIfS (tOr (tNot (tB (tCB (rIsi K) (tCons (tOp (rIxT K) (tVar 0) (tC (.int 0))) (tCons (tC (.ty "str")) tNil))))) (tNot (tB (tCall zsp06 [] E0 (tCons (tOp (rIxT K) (tVar 0) (tC (.int 1))) tNil)))))
    (tRet (tC (.bl false)))
    tNext)
    (tRet (tOp (rIn K false) (tOp (rIxT K) (tVar 0) (tC (.int 0))) (tLst (tCons (tC (.str "open")) (tCons (tC (.str "yes")) (tCons (tC (.str "no")) (tCons (tC (.str "bound")) (tCons (tC (.str "off")) tNil))))))))))
def zR01 (K : PySem.W.Frag) (zsp03 : Sp) : TS :=
    (tSeq (tIfS (tNot (tB (tCB (rIsi K) (tCons (tVar 0) (tCons (tC (.ty "list")) tNil)))))
    (tRet (tC (.bl false)))
    tNext)
    (tSeq (tFor (iList K (tVar 0)) (gName 1)
    (tIfS (tNot (tB (tCall zsp03 [] E0 (tCons (tVar 1) tNil))))
    (tRet (tC (.bl false)))
    tNext))
    (tRet (tC (.bl true)))))
theorem kit_int_bool (K : PySem.W.Frag) : PySem.W.kitOne K (.type "int") (.type "bool") = some false := by with_unfolding_all rfl
def zsp06 : Sp := fun vs H Q _ => ∃ i : Int, vs = [.int i] ∧ Q (.bl true) H
theorem zrd06 {K : PySem.W.Frag} {vs : List V} {H : Hp} {Q : VK} {E : XK} (h : zsp06 vs H Q E) : zR06 K { nx := fun _ H' => Q .non H', rt := Q } (start ["_law_found"] vs) H := by
  obtain ⟨i, rfl, k⟩ := h
  unfold zR06
  walk_at "go"
  refine ⟨_, _, _, true, rfl, TyO.int _, kit_same _ _, ?_⟩
  walk_at "go"
  refine iteT ?_
  walk_at "go"
  refine ⟨_, _, _, false, rfl, TyO.int _, kit_int_bool _, ?_⟩
  walk_at "go"
  exact k
def zsp0c (K : PySem.W.Frag) : Sp := fun vs H Q _ => ∃ (a : Addr) (ns : List Int) (k : Nat), vs = [.ref a, .int k] ∧ SqL K H a (ns.map .int) ∧ ∀ z : Int, Q (.int z) H
theorem zrd0c {K : PySem.W.Frag} {vs : List V} {H : Hp} {Q : VK} {E : XK} (h : zsp0c K vs H Q E) : zR0c K { nx := fun _ H' => Q .non H', rt := Q } (start ["_law_script", "_law_k"] vs) H := by
  obtain ⟨a, ns, k, rfl, hS, q⟩ := h
  unfold zR0c
  walk_at "go"
  by_cases e : k < ns.length
  · rw [if_pos (by simp only [List.length_map, decide_eq_true_eq]; show (k : Int) < (ns.length : Int); omega)]
    have hat : atI (ns.map V.int) (k : Int) = some (.int ns[k]) := atI_nat (by simp [e])
    walk_at "go"
    exact q _
  · rw [if_neg (by simp only [List.length_map, decide_eq_true_eq]; show ¬ (k : Int) < (ns.length : Int); omega)]
    walk_at "go"
    exact q _
def isLineW (w : Str) : Prop := w = "open" ∨ w = "yes" ∨ w = "no" ∨ w = "bound" ∨ w = "off"
theorem in_lineW {w : Str} (h : isLineW w) : inV (.str w) [.str "open", .str "yes", .str "no", .str "bound", .str "off"] = true := by
  have := in_strs w ["open", "yes", "no", "bound", "off"]
  simp only [List.map_cons, List.map_nil] at this
  rw [this]
  exact decide_eq_true (by simp only [List.mem_cons, List.not_mem_nil, or_false]; exact h)
def zsp03 : Sp := fun vs H Q _ => ∃ t w n, vs = [.ref t] ∧ Rd H t (.tup [.str w, .int n]) ∧ isLineW w ∧ ∀ H', Same H H' → Q (.bl true) H'
theorem zrd03 {K : PySem.W.Frag} {vs : List V} {H : Hp} {Q : VK} {E : XK} (h : zsp03 vs H Q E) : zR03 K zsp06 { nx := fun _ H' => Q .non H', rt := Q } (start ["_law_found"] vs) H := by
  obtain ⟨t, w, n, rfl, rt, hw, k⟩ := h
  unfold zR03
  walk_at "go"
  refine ⟨_, _, _, true, rfl, TyO.tup rt, kit_same _ _, ?_⟩
  walk_at "go"
  refine iteF ?_
  refine st_test (st_op (st_cb (st_cons (st_var (by rfl) (st_nil (st_lenT (sqTr rt) ?_))))))
  walk_at "go"
  rw [if_neg (by simp)]
  walk_at "go"
  refine ⟨_, _, _, true, rfl, TyO.str _, kit_same _ _, ?_⟩
  walk_at "go"
  refine iteF ?_
  walk_at "go"
  refine ⟨n, rfl, ?_⟩
  walk_at "go"
  refine iteF ?_
  walk_at "goA"
  rename_i q hq H1 s1 g1
  show Q (.bl (if false = true then _ else inV (.str w) _)) H1
  rw [if_neg (by decide : ¬ (false = true)), in_lineW hw]
  exact k H1 s1
def LineWs (b : List Line) : Prop := ∀ l ∈ b, isLineW l.1
def zsp01 : Sp := fun vs H Q _ => ∃ a b, vs = [.ref a] ∧ Rep H [] (.ref a) (bookD b) ∧ LineWs b ∧ ∀ H', Same H H' → Q (.bl true) H'
theorem zrd01 {K : PySem.W.Frag} {vs : List V} {H : Hp} {Q : VK} {E : XK} (h : zsp01 vs H Q E) : zR01 K zsp03 { nx := fun _ H' => Q .non H', rt := Q } (start ["_law_found", "_law_line"] vs) H := by
  obtain ⟨a, b, rfl, hb, hw, k⟩ := h
  obtain ⟨_, xs, e, rd, _, rs⟩ := id hb.lst_inv
  cases e
  unfold zR01
  walk_at "go"
  refine ⟨_, _, _, true, rfl, TyO.list rd, kit_same _ _, ?_⟩
  walk_at "go"
  refine iteF ?_
  walk_at "go"
  refine for_list (K := K) (a := a) (xs := xs) (fun i σ H' => ∃ v, σ = [some (.ref a), v] ∧ Same H H') ⟨none, rfl, Same.refl _⟩ ?_ ?_ ?_
  · rintro i σ H' hi ⟨v, rfl, s⟩
    exact s.seq (sqLr rd)
  · rintro i x σ H' hx ⟨v, rfl, s⟩
    obtain ⟨l, t, hb', rfl, rt⟩ := line_at rs hx
    walk_at "go"
    refine ⟨t, l.1, l.2, rfl, rt.same s, hw l (List.mem_of_getElem? hb'), fun H2 s2 => ?_⟩
    walk_at "go"
    refine iteF ?_
    walk_at "go"
    exact ⟨_, rfl, s.trans s2⟩
  · rintro σ H' ⟨v, rfl, s⟩
    walk_at "go"
    exact k H' s
end Oh
set_option Elab.async false
set_option linter.all false
namespace L2
open PySem PySem.Spec PyProof.Rows
end L2
set_option Elab.async false
set_option linter.all false
set_option maxRecDepth 100000
namespace L2
open PySem PySem.Spec PyProof.Rows
variable {X : Cx}
def rIntS : List V → Hp → VK → Prop := fun xs H Q => ∃ z n, xs = [.str z] ∧ PySem.intText? z = some n ∧ z.length ≤ 640 ∧ Q (.int n) H
theorem call_intS : CallR X (.type "int") rIntS := by
  intro pins s σ H xs us Q I r h
  obtain ⟨z, n, rfl, hn, hl, q⟩ := h
  obtain ⟨u, rfl, t, rfl⟩ := vals1 r
  exact PySem.W.KIN.call_text hn hl ⟨.int n, H, I.tok _, ⟨_, rfl⟩, q⟩
end L2
set_option Elab.async false
set_option linter.all false
set_option maxRecDepth 100000
set_option maxHeartbeats 4000000
namespace L2
open PySem PySem.Spec PyProof.Rows
section
variable {X : Cx}
end
end L2
set_option Elab.async false
set_option linter.all false
set_option maxRecDepth 100000
set_option maxHeartbeats 4000000
namespace L2
open PySem PySem.Spec PyProof.Rows
theorem ObjOk.is {P : Program} {w : World} {H : Hp} {h : Heap} {a : Addr} {o : HO} (x : ObjOk P w H h a o) : ∃ ob, h.get? a = some ob := by
  cases o with
  | lst xs => obtain ⟨_, _, _, _, e⟩ := x; exact ⟨_, e⟩
  | tup xs => obtain ⟨_, _, _, ob, e, _⟩ := x; exact ⟨_, e⟩
  | dK kvs => obtain ⟨_, _, _, _, o, _, _, e, _⟩ := x; exact ⟨_, e⟩
  | dT kvs => obtain ⟨_, _, _, _, o, _, _, e, _⟩ := x; exact ⟨_, e⟩
  | set S n => obtain ⟨o, _, _, _, e, _⟩ := x; exact ⟨_, e⟩
  | ins C dx fs => obtain ⟨_, _, _, e, _⟩ := x; exact ⟨_, e⟩
  | own y => exact x
  | xd fs => obtain ⟨_, ⟨_, _, _, e, _⟩, _⟩ := x; exact ⟨_, e⟩
  | rng lo hi => obtain ⟨_, _, _, e⟩ := x; exact ⟨_, e⟩
  | frz ob u => obtain ⟨e, _⟩ := x; exact ⟨_, e⟩
  | tbl ps => exact ⟨_, (show h.get? a = some _ from x)⟩
  | met f y => exact ⟨_, (show h.get? a = some _ from x)⟩
  | ext φ => obtain ⟨_, e, _⟩ := x; exact e
theorem HOk.new {P : Program} {w : World} {H : Hp} {h : Heap} {a : Addr} (x : HOk P w H h) (e : h.get? a = none) : H a = none := by
  cases q : H a with
  | none => rfl
  | some u => obtain ⟨ob, z⟩ := (x a u q).is; rw [e] at z; cases z
theorem HOk.keepT {P : Program} {w : World} {H : Hp} {h h' : Heap} (x : HOk P w H h) (k : ∀ b o, H b ≠ none → h.get? b = some o → h'.get? b = some o) : HOk P w H h' := fun a o e =>
  (x a o e).stay (fun b u hb q => k b u (by
    rcases hb with rfl | z
    · rw [e]; intro y; cases y
    · rw [z]; intro y; cases y) q) (fun _ q => q) fun _ _ q => q
theorem Un.then {fs : List Addr} {H0 H : Hp} {h0 h1 h2 : Heap} (u : Un fs [] H0 H h0 h1) (k : ∀ b o, h1.get? b = some o → (∃ o', h0.get? b = some o') → b ∉ fs → h2.get? b = some o) (sl : ∀ b o, h1.get? b = some o → b ∈ fs → ∃ sl, h2.get? b = some { o with slots := sl }) : Un fs [] H0 H h0 h2 where
  keep := fun b o e n m x => k b o (u.keep b o e n m x) ⟨o, e⟩ m
  slot := fun b o e n m x => by
    obtain ⟨s1, h1⟩ := u.slot b o e n m x
    obtain ⟨s2, h2⟩ := sl b _ h1 m
    exact ⟨s2, h2⟩
  free := u.free
  there := fun b o e x => by
    obtain ⟨o', h'⟩ := u.there b o e x
    by_cases m : b ∈ fs
    · obtain ⟨s2, h2⟩ := sl b o' h' m
      exact ⟨_, h2⟩
    · exact ⟨_, k b o' h' ⟨o, e⟩ m⟩
  tups := u.tups
  frzs := u.frzs
  tbls := u.tbls
structure Fly (P : Program) (w : World) (l : List Env) (H : Hp) (s : Shared) (H' : Hp) (ea : Addr) (cls fl : Value) (s' : Shared) : Prop where
  os : s'.os = s.os
  bare : AllBare s'.gens
  un : Un (frs l) [] H H' s.heap s'.heap
  hok : HOk P w H' s'.heap
  nt : H' ea = none
  new : s.heap.get? ea = none
  fly : ∃ B a0, B.StaysIn s'.heap ∧ B.get? ea = none ∧ s'.heap.FunFrames B l ∧ s'.heap.TracedAtW B ea cls a0 fl ∧ ∀ b o, s'.heap.get? b = some o → (H' b ≠ none ∨ ∃ o', s.heap.get? b = some o') → b ∉ frs l → B.get? b = some o
def CXE (P : Program) (w : World) : CXT := fun outer H s E e s' => ∃ ea cls H', e = .ref ea ∧ Fly P w outer H s H' ea cls .none s' ∧ E cls none H'
theorem frs_cons {env : Env} {l : List Env} {L b : Addr} (hf : env.frame = some L) : b ∈ frs (env :: l) ↔ b = L ∨ b ∈ frs l := by
  unfold frs
  rw [List.filterMap_cons, hf]
  exact List.mem_cons
structure OwnB (X : Cx) (outer : List Env) : Prop where
  stk : X.stack = X.env :: outer
  fr : X.env.frame = some X.env.locals
  fs : X.outer = outer
  ex : X.ex = []
section
variable {X : Cx} {outer : List Env} {pins : List (Addr × Obj)} {σ : St} {H : Hp} {s : Shared}
theorem OwnB.out (O : OwnB X outer) (I : Inv X pins σ H s) {b : Addr} (hb : H b ≠ none ∨ ∃ o', X.s₀.heap.get? b = some o') (n : b ∉ frs outer) : b ∉ frs X.stack := by
  rw [O.stk]
  intro m
  rcases (frs_cons O.fr).mp m with z | z
  · rcases hb with y | ⟨o', y⟩
    · rw [z] at y; exact y I.free
    · rw [z] at y
      exact absurd (Nat.lt_of_lt_of_le (Heap.lt_size y) I.ok.above) (Nat.lt_irrefl _)
  · exact n z
theorem Inv.raise {cls : Value} {args : List Value} {ea : Addr} {h' : Heap} {M : Model} {E : XK} (O : OwnB X outer) (I : Inv X pins σ H s) (hx : Heap.MadeExcOf s.heap h' ea cls args) (q : E cls none H) :
    wpAny M X.A (leaving X.env (.ref ea)) (fun _ s'' => CXE X.prog X.w outer X.H₀ X.s₀ E (.ref ea) s'') (fun e' s'' => CXE X.prog X.w outer X.H₀ X.s₀ E e' s'') { s with heap := h' } := by
  have hin : ∀ env ∈ X.stack, ∀ a, env.frame = some a → a ∈ frs X.stack := fun env he b hb => List.mem_filterMap.mpr ⟨env, he, hb⟩
  have ff := PySem.W.funFrames_hide I.stack hin
  have kb : (PySem.W.hideAll s.heap (frs X.stack)).StaysIn s.heap := fun b o e => PySem.W.of_hideAll _ e
  have fr := I.ok.frames
  rw [O.stk] at fr
  refine wpAny_leaves_madeW (s := { s with heap := h' }) (base := PySem.W.hideAll s.heap (frs X.stack)) (h := s.heap) fr O.fr kb (by rw [← O.stk]; exact ff) hx fun h'' t hfl _ _ up => ?_
  obtain ⟨f1, f2, f3, f4⟩ := hfl
  have un0 := I.base
  rw [O.ex, show X.fs = frs outer from by unfold Cx.fs; rw [O.fs]] at un0
  have inB : ∀ b o, s.heap.get? b = some o → (H b ≠ none ∨ ∃ o', X.s₀.heap.get? b = some o') → b ∉ frs outer → (PySem.W.hideAll s.heap (frs X.stack)).get? b = some o := fun b o e c n => PySem.W.hideAll_get _ e (O.out I c n)
  have sl : ∀ b o, s.heap.get? b = some o → b ∈ frs outer → ∃ sl, h''.get? b = some { o with slots := sl } := fun b o e m => by
    have m' : b ∈ frs X.stack := by rw [O.stk]; exact (frs_cons O.fr).mpr (.inr m)
    obtain ⟨_, o1, e1, d1⟩ := I.stack.mem m'
    rw [e] at e1
    cases e1
    exact up b o (hx.keeps b o e) d1
  refine ⟨ea, cls, H, rfl, ⟨I.os, I.bare, un0.then (fun b o e c n => f1 b o (inB b o e (.inr c) n)) sl, I.hok.keepT fun b o c e => ?_, I.hok.new hx.new, ?_, ?_⟩, q⟩
  · by_cases n : b ∈ frs outer
    · exact absurd (I.ok.frf b (by rw [show X.fs = frs outer from by unfold Cx.fs; rw [O.fs]]; exact n)) (fun z => by
        have m' : b ∈ frs X.stack := by rw [O.stk]; exact (frs_cons O.fr).mpr (.inr n)
        exact c (I.stkFree b m'))
    · exact f1 b o (inB b o e (.inl c) n)
  · cases e : X.s₀.heap.get? ea with
    | none => rfl
    | some o =>
      obtain ⟨o', z⟩ := un0.there ea o e (by simp)
      rw [hx.new] at z; cases z
  · refine ⟨_, _, f1, f2, f3, f4, fun b o e c n => ?_⟩
    have : ∃ o1, s.heap.get? b = some o1 := by
      rcases c with c | ⟨o', c⟩
      · cases z : H b with
        | none => exact absurd z c
        | some u => exact (I.hok b u z).is
      · exact un0.there b o' c (by simp)
    obtain ⟨o1, e1⟩ := this
    have e2 := inB b o1 e1 c n
    have e3 := f1 b o1 e2
    rw [e] at e3
    cases e3
    exact e2
theorem Inv.fly {H' : Hp} {ea : Addr} {cls fl : Value} {s' : Shared} (I : Inv X pins σ H s) (F : Fly X.prog X.w X.stack H s H' ea cls fl s') : Inv X pins σ H' s' :=
  I.call' F.os F.un F.hok F.bare fun b hb => nomatch hb
theorem Fly.step {P : Program} {w : World} {l : List Env} {H H' : Hp} {s s' : Shared} {ea : Addr} {cls fl fl' a0 : Value} {h'' : Heap} {B : Heap} (F : Fly P w l H s H' ea cls fl s') (ff : ∀ b ∈ frs l, H' b = none)
    (hB : ∀ b o, s'.heap.get? b = some o → (H' b ≠ none ∨ ∃ o', s.heap.get? b = some o') → b ∉ frs l → B.get? b = some o)
    (f1 : B.StaysIn h'') (f2 : B.get? ea = none) (f3 : h''.FunFrames B l) (f4 : h''.TracedAtW B ea cls a0 fl') (up : s'.heap.UpToSlots h'') (fr : s'.heap.FunFrames B l) :
    Fly P w l H s H' ea cls fl' { s' with heap := h'' } := by
  refine ⟨F.os, F.bare, F.un.then (fun b o e c n => f1 b o (hB b o e (.inr c) n)) (fun b o e m => ?_), F.hok.keepT fun b o c e => ?_, F.nt, F.new, B, a0, f1, f2, f3, f4, fun b o e c n => ?_⟩
  · obtain ⟨_, o1, e1, d1⟩ := fr.mem m
    rw [e] at e1
    cases e1
    exact up b o e d1
  · by_cases n : b ∈ frs l
    · exact absurd (ff b n) c
    · exact f1 b o (hB b o e (.inl c) n)
  · have : ∃ o1, s'.heap.get? b = some o1 := by
      rcases c with c | ⟨o', c⟩
      · cases z : H' b with
        | none => exact absurd z c
        | some u => exact (F.hok b u z).is
      · exact F.un.there b o' c (by simp)
    obtain ⟨o1, e1⟩ := this
    have e2 := hB b o1 e1 c n
    have e3 := f1 b o1 e2
    rw [e] at e3
    cases e3
    exact e2
theorem wpAny_leaving_anyW {base : Heap} {M : Model} {A : Around} {E : Value → Shared → Prop} {s : Shared} {env : Env} {outer : List Env} {L e : Addr} {cls a0 fl : Value} {Q : Unit → Shared → Prop}
    (hfr : A.frames = some (env :: outer)) (hl : s.heap.FunFrames base (env :: outer)) (hf : env.frame = some L) (ht : s.heap.TracedAtW base e cls a0 fl) (hkb : base.StaysIn s.heap) (hen : base.get? e = none)
    (h : ∀ h', Heap.FlyingW base outer e cls a0 h' → s.heap.UpToSlots h' → Q () { s with heap := h' }) : wpAny M A (leaving env (.ref e)) Q E s := by
  by_cases hq : fl = rawInt L
  · subst hq
    unfold leaving
    refine wpAny_bind (wpAny_noteFrame_againW hf ht ?_)
    refine wpAny_landsW ⟨hkb, hen, hl, ht⟩ fun h' hfl up => ?_
    obtain ⟨k1, k2, ⟨_, _, k3⟩, k4⟩ := hfl
    exact h h' ⟨k1, k2, k3, k4⟩ up
  · obtain ⟨oe, vs, T, oT, ts, he, ⟨hcls, h0⟩, hd, h1, hnT, hTe, hT, hdT, h3⟩ := ht
    subst hcls
    unfold leaving noteFrame
    simp only [hf]
    refine wpAny_bind (wpAny_bind (wpAny_field he hd h1 ?_))
    rw [if_pos (show (Value.ref T != Value.none) = true from by simp)]
    refine wpAny_bind (wpAny_field hT hdT h3 ?_)
    rw [if_neg (show ¬ ((fl == rawInt L) = true) from fun z => hq (by simpa using z))]
    refine wpAny_bind (wpAny_setField hT hdT (Array.getElem?_eq_some_iff.mp h3).1 ?_)
    have other : ∀ b, b ≠ T → (s.heap.update T (Obj.mapFields (·.setIfInBounds 3 Value.none))).get? b = s.heap.get? b := fun b hb => Heap.get?_update_other _ _ (Ne.symm hb)
    have noRecord : ∀ b o, s.heap.get? b = some o → (∀ vs, o.data ≠ .fields vs) → b ≠ T := fun b o hb hnf q => by
      rw [q, hT] at hb; injection hb with hb; subst hb; exact hnf ts hdT
    refine wpAny_newEntryW hfr (hl.of_keeps fun b o hb hnf => ⟨o, (other b (noRecord b o hb hnf)).trans hb, rfl⟩) hf ((other e (Ne.symm hTe)).trans he)
      (fun b o hbo => (other b fun q => by rw [q, hnT] at hbo; cases hbo).trans (hkb b o hbo)) hen hd (Array.getElem?_eq_some_iff.mp h1).1 h0
      fun h' ⟨x1, ⟨_, _, x2⟩, x3, x4⟩ => h h' ⟨x1, hen, x2, x3⟩ fun b o hb hnf => x4 b o ((other b (noRecord b o hb hnf)).trans hb) hnf
end
end L2
set_option Elab.async false
set_option linter.all false
set_option maxRecDepth 100000
set_option maxHeartbeats 4000000
namespace L2
open PySem PySem.Spec PyProof.Rows
theorem exc_obj {K : PySem.W.Frag} {C : Addr} {bmB : List Value} {newId : String} (q : PySem.W.excIn K C bmB newId = true) :
    ∃ (bm : List Value) (N : Addr) (nm qn : Str) (bs : List Value) (hd : Bool) (sn : List Str) (sub : List Value) (ab : Bool) (col : Option Bool) (dd : Option Addr) (k0 k1 k2 k3 k5 : Option Value),
      K.lookup C = some (excClassObj nm qn C N bs bm hd sn sub ab col dd k0 k1 k2 k3 k5 newId) ∧ PySem.W.tailIn K bmB bm = true ∧ PySem.W.nsOkIn K N = true ∧ PySem.W.nsIn K N "__init__" = some none := by
  unfold PySem.W.excIn at q
  split at q
  · rename_i dd cd sl ho
    split at q
    · rename_i C' bm k0 k1 k2 k3 n k5 hm hs
      simp only [Bool.and_eq_true, beq_iff_eq, Bool.not_eq_true'] at q
      obtain ⟨⟨⟨⟨⟨rfl, rfl⟩, hdel⟩, ht⟩, hok⟩, hni⟩ := q
      obtain ⟨nm, bs, mro, ns, qn, hd, sn, sub, ab, col, del⟩ := cd
      dsimp only at hm hdel hok hni
      subst hm hdel
      have hsl : sl = #[k0, k1, k2, k3, some (.builtin n), k5] := by
        obtain ⟨l⟩ := sl
        simp only at hs
        rw [hs]
      subst hsl
      exact ⟨bm, ns, nm, qn, bs, hd, sn, sub, ab, col, dd, k0, k1, k2, k3, k5, ho, ht, hok, hni⟩
    · cases q
  · cases q
def tRaise (E : XK) (C : Addr) : TS := fun _ _ H => E (.ref C) none H
def RaisesAt (X : Cx) (E : XK) (C : Addr) : Prop := ∀ (pins : List (Addr × Obj)) (σ : St) (H : Hp) (s : Shared) (h' : Heap) (ea : Addr) (args : List Value), Inv X pins σ H s → Heap.MadeExcOf s.heap h' ea (.ref C) args → E (.ref C) none H → X.xe (.ref ea) { s with heap := h' }
theorem ps_raise {X : Cx} {E : XK} {C : Addr} {x : Str} {np cpos pos p2 : Pos} {j : Nat} {msg : Str} {B nid iid : String} {bmB : List Value} (F : ExcBaseFacts B nid iid bmB) (hg : Gl X x) (hm : X.mg x = some (.ref C)) (q : PySem.W.excIn X.K C bmB nid = true) (hc : X.calm = true) (hx : RaisesAt X E C)
    (hd : (x == ("__debug__" : Str)) = false := by decide) : PS X (.Raise (some (.Call (.Name x np) [.Constant (.str msg) j p2] [] cpos)) none pos) (tRaise E C) := by
  intro pins s σ H D I h
  obtain ⟨bm, N, nm, qn, bs, hdct, sn, sub, ab, col, dd, k0, k1, k2, k3, k5, hC, ht, hok, hni⟩ := exc_obj q
  have ns0 : s.heap.Ns N (s.heap.nsMap N) := .of_isNs (PySem.W.isNs_of_in I.kIn hok)
  have hbase : bm.contains (.type "BaseException") = true := (PySem.W.tail_of_in I.kIn ht).hasType F.hasBase
  refine wpAny_Raise_call_subT (C := C) (nm := nm) (q := qn) (N := N) (bs := bs) (bm := bm) (hdct := hdct) (sn := sn) (sub := sub) (ab := ab) (col := col) (dd := dd) (k0 := k0) (k1 := k1) (k2 := k2) (k3 := k3) (k5 := k5) F hbase (I.ok.hd hc) rfl (PySem.W.nsMap_none_of_in I.kIn hok hni) (ld_glob I hg hm ⟨rfl, ?_⟩ hd)
  refine Calls.evalArgs_plain (Calls.spliced_cons ?_)
  show wpAny _ _ (eval (.Constant (.str msg) j p2) X.env) _ _ _
  refine Calls.Constant_str (Calls.spliced_nil ⟨rfl, by show 1 ≤ sizeLine; decide, I.kIn C _ hC, ns0, PySem.W.tail_of_in I.kIn ht, fun h' e hm => ?_⟩)
  exact hx pins σ H { s with toks := s.toks + 1 } h' e _ (I.tok _) hm h
theorem raises_cx {P : Program} {w : World} {K : PySem.W.Frag} {mg : Str → Option Value} {base : Heap} {N : List Str} {qual : Str} {scope : Scope} {f : Addr} {cd : Value} {A : Around} {outer : List Env} {s : Shared} {H : Hp} {E : XK} {C : Addr} :
    RaisesAt (cxOf (CXE P w) P w K mg base N qual scope f cd A outer s H E) E C := fun pins σ H1 s1 h' ea args I hx q =>
  Inv.raise (X := cxOf (CXE P w) P w K mg base N qual scope f cd A outer s H E) (outer := outer) ⟨rfl, rfl, rfl, rfl⟩ I hx q
end L2
set_option Elab.async false
set_option linter.all false
set_option maxRecDepth 100000
set_option maxHeartbeats 4000000
namespace L2
open PySem PySem.Spec PyProof.Rows
section
variable {M : Model} {A : Around} {E : Value → Shared → Prop} {h : Heap} {g : Array GenState} {d : Drawn} {t : Nat} {os : OsState} {C D : Addr} {bmC bmD : List Value}
variable {nm q : Str} {N : Addr} {bs : List Value} {hdct : Bool} {sn : List Str} {sub : List Value} {ab : Bool} {col : Option Bool} {dd : Option Addr} {k0 k1 k2 k3 k5 : Option Value} {newId : String}
variable {nm' q' : Str} {N' : Addr} {bs' : List Value} {hdct' : Bool} {sn' : List Str} {sub' : List Value} {ab' : Bool} {col' : Option Bool} {dd' : Option Addr} {k0' k1' k2' k3' k5' : Option Value} {newId' : String}
theorem excMatches_own {e : Addr} {oe : Obj} {Q : Bool → Shared → Prop}
    (hD : h.get? D = some (excClassObj nm q D N bs bmD hdct sn sub ab col dd k0 k1 k2 k3 k5 newId)) (hC : h.get? C = some (excClassObj nm' q' C N' bs' bmC hdct' sn' sub' ab' col' dd' k0' k1' k2' k3' k5' newId')) (he : h.get? e = some oe) (hcls : oe.cls = .ref D) (hbase : bmC.contains (.type "BaseException") = true)
    (hq : Q ((Value.ref D :: bmD).contains (.ref C)) ⟨h, g, d, t, os⟩) : wpAny M A (excMatches (.ref e) (.ref C)) Q E ⟨h, g, d, t, os⟩ := by
  have hcB : (Value.ref C :: bmC).contains (.type "BaseException") = true := by rw [List.contains_cons, hbase, Bool.or_true]
  have f := tc_notTuple
  generalize hb : (Value.ref D :: bmD).contains (.ref C) = b at hq
  unfold excMatches
  repeat (first | (with_reducible refine wpAny_loadPart_at he ?_; rw [hcls]) | with_reducible refine wpAny_loadPart_at hC ?_ | (with_reducible refine wpAny_isSubtype_exc hC ?_; rw [hcB]) | (with_reducible refine wpAny_isSubtype_exc hD ?_; rw [hb]) | wp_step)
  cases b <;> (repeat (first | exact hq | wp_step))
end
theorem Fly.land {P : Program} {w : World} {l : List Env} {H H' : Hp} {s s' : Shared} {ea : Addr} {cls fl : Value} {M : Model} {A : Around} {E : Value → Shared → Prop} {Q : Unit → Shared → Prop} (F : Fly P w l H s H' ea cls fl s') (ff : ∀ b ∈ frs l, H' b = none)
    (k : ∀ h'', Fly P w l H s H' ea cls .none { s' with heap := h'' } → Q () { s' with heap := h'' }) : wpAny M A (setFlight (.ref ea) none) Q E s' := by
  obtain ⟨B, a0, b1, b2, b3, b4, b5⟩ := F.fly
  refine wpAny_setFlight_noneW b1 b3 b4 fun h'' k1 k2 k3 k4 => k h'' (F.step ff b5 k1 b2 k2 k3 (fun b o hb hn => ⟨o.slots, k4 b o hb hn⟩) b3)
theorem Fly.note {P : Program} {w : World} {env : Env} {outer : List Env} {L : Addr} {H H' : Hp} {s s' : Shared} {ea : Addr} {cls : Value} {M : Model} {A : Around} {E : Value → Shared → Prop} {Q : Unit → Shared → Prop} (F : Fly P w (env :: outer) H s H' ea cls .none s') (ff : ∀ b ∈ frs (env :: outer), H' b = none)
    (hfr : A.frames = some (env :: outer)) {env' : Env} (hf' : env'.frame = some L) (hf : env.frame = some L) (he : env' = env ∨ ∀ s Q, wpAny M A (noteFrame (.ref ea) env) Q E s → wpAny M A (noteFrame (.ref ea) env') Q E s)
    (k : ∀ h'', Fly P w (env :: outer) H s H' ea cls (rawInt L) { s' with heap := h'' } → Q () { s' with heap := h'' }) : wpAny M A (noteFrame (.ref ea) env') Q E s' := by
  obtain ⟨B, a0, b1, b2, b3, b4, b5⟩ := F.fly
  have main : wpAny M A (noteFrame (.ref ea) env) Q E s' := wpAny_looks_onW hfr hf ⟨b1, b2, b3, b4⟩ fun h'' hh up => k h'' (F.step ff b5 hh.1 hh.2.1 hh.2.2.1 hh.2.2.2 up b3)
  rcases he with rfl | he
  · exact main
  · exact he _ _ main
abbrev Cx.at (X : Cx) (pn : List (Addr × Obj)) (xe : Value → Shared → Prop) : Cx := { X with pn := pn, xe := xe }
abbrev Cx.marked (X : Cx) (ea : Addr) (pn : List (Addr × Obj)) (xe : Value → Shared → Prop) : Cx := { X with A := X.A.mark (some (.ref ea)), calm := false, pn := pn, xe := xe }
section
variable {X : Cx} {outer : List Env} {pins pins' : List (Addr × Obj)} {σ : St} {H : Hp} {s : Shared} {xe : Value → Shared → Prop} {ea : Addr} {pn : List (Addr × Obj)}
theorem Inv.toAt (I : Inv X pins σ H s) : Inv (X.at (X.pn ++ pins) xe) [] σ H s :=
  ⟨⟨I.ok.mod, I.ok.kind, I.ok.glob, I.ok.blt, I.ok.above, I.ok.inj, I.ok.has, I.ok.cab, I.ok.hd, I.ok.frames, I.ok.stk, I.ok.exf, I.ok.bs, I.ok.bsz, I.ok.noex, I.ok.exfs, I.ok.funs, I.ok.frf⟩, I.os, I.bare, I.base, I.loc, I.cell, I.free, I.freeC, fun p hp => I.pin p (by simpa using hp), I.hok, I.len⟩
theorem Inv.ofAt (I : Inv (X.at (X.pn ++ pins) xe) pins' σ H s) : Inv X pins σ H s :=
  ⟨⟨I.ok.mod, I.ok.kind, I.ok.glob, I.ok.blt, I.ok.above, I.ok.inj, I.ok.has, I.ok.cab, I.ok.hd, I.ok.frames, I.ok.stk, I.ok.exf, I.ok.bs, I.ok.bsz, I.ok.noex, I.ok.exfs, I.ok.funs, I.ok.frf⟩, I.os, I.bare, I.base, I.loc, I.cell, I.free, I.freeC, fun p hp => I.pin p (List.mem_append_left _ hp), I.hok, I.len⟩
theorem Inv.toMark (I : Inv X pins σ H s) : Inv (X.marked ea (X.pn ++ pins) xe) [] σ H s :=
  ⟨⟨I.ok.mod, I.ok.kind, I.ok.glob, I.ok.blt, I.ok.above, I.ok.inj, I.ok.has, I.ok.cab, fun z => (nomatch z), I.ok.frames, I.ok.stk, I.ok.exf, I.ok.bs, I.ok.bsz, I.ok.noex, I.ok.exfs, I.ok.funs, I.ok.frf⟩, I.os, I.bare, I.base, I.loc, I.cell, I.free, I.freeC, fun p hp => I.pin p (by simpa using hp), I.hok, I.len⟩
theorem Inv.ofMark (hd : X.calm = true → X.A.handled = none) (I : Inv (X.marked ea (X.pn ++ pins) xe) pins' σ H s) : Inv X pins σ H s :=
  ⟨⟨I.ok.mod, I.ok.kind, I.ok.glob, I.ok.blt, I.ok.above, I.ok.inj, I.ok.has, I.ok.cab, hd, I.ok.frames, I.ok.stk, I.ok.exf, I.ok.bs, I.ok.bsz, I.ok.noex, I.ok.exfs, I.ok.funs, I.ok.frf⟩, I.os, I.bare, I.base, I.loc, I.cell, I.free, I.freeC, fun p hp => I.pin p (List.mem_append_left _ hp), I.hok, I.len⟩
theorem SP.ofAt {D : Ends} {f : Flow} {s' : Shared} (h : SP (X.at (X.pn ++ pins) xe) [] D f s') : SP X pins D f s' := by
  cases f with
  | next => obtain ⟨σ', H', I, q⟩ := h; exact ⟨σ', H', I.ofAt, q⟩
  | brk => obtain ⟨σ', H', I, q⟩ := h; exact ⟨σ', H', I.ofAt, q⟩
  | cont => obtain ⟨σ', H', I, q⟩ := h; exact ⟨σ', H', I.ofAt, q⟩
  | ret u => obtain ⟨v, σ', H', I, r, q⟩ := h; exact ⟨v, σ', H', I.ofAt, r, q⟩
theorem SP.ofMark (hd : X.calm = true → X.A.handled = none) {D : Ends} {f : Flow} {s' : Shared} (h : SP (X.marked ea (X.pn ++ pins) xe) [] D f s') : SP X pins D f s' := by
  cases f with
  | next => obtain ⟨σ', H', I, q⟩ := h; exact ⟨σ', H', I.ofMark hd, q⟩
  | brk => obtain ⟨σ', H', I, q⟩ := h; exact ⟨σ', H', I.ofMark hd, q⟩
  | cont => obtain ⟨σ', H', I, q⟩ := h; exact ⟨σ', H', I.ofMark hd, q⟩
  | ret u => obtain ⟨v, σ', H', I, r, q⟩ := h; exact ⟨v, σ', H', I.ofMark hd, r, q⟩
end
def mroIn (K : PySem.W.Frag) (C : Addr) : List Value := match K.lookup C with
  | some ⟨_, _, .cls cd, _⟩ => cd.mro
  | _ => []
def tTry2 (te : XK → TE) (C1 C2 : Addr) (t1 t2 : TS) : TS := fun D σ H => te (fun cls _ H' => ∀ σ' : St, σ'.length = σ.length → (cls = .ref C1 ∧ t1 D σ' H') ∨ (cls = .ref C2 ∧ t2 D σ' H')) σ H fun _ H1 => D.nx σ H1
section
variable {X : Cx} {outer : List Env} {pins : List (Addr × Obj)} {σ : St} {H H' : Hp} {s s' : Shared} {ea : Addr} {cls : Value} {M : Model} {E : Value → Shared → Prop}
theorem caught_at {Kk : Shared → Prop} (O : OwnB X outer) (I : Inv X pins σ H s) (F : Fly X.prog X.w X.stack H s H' ea cls .none s') (k : ∀ h'', Fly X.prog X.w X.stack H s H' ea cls .none { s' with heap := h'' } → Kk { s' with heap := h'' }) :
    wpAny M X.A (noteFrame (.ref ea) X.env) (fun _ s2 => wpAny M X.A (setFlight (.ref ea) none) (fun _ s3 => Kk s3) E s2) E s' := by
  have ff : ∀ b ∈ frs X.stack, H' b = none := fun b hb => (I.fly F).stkFree b hb
  have fr := I.ok.frames
  have e := O.stk
  rw [e] at ff fr F k
  refine F.note ff fr O.fr O.fr (.inl rfl) fun h4 F4 => ?_
  exact Fly.land F4 ff fun h5 F5 => k h5 F5
theorem clause_at {D C : Addr} {bmB bmB' : List Value} {nid nid' : String} {x : Str} {np pos : Pos} {b0 : Stmt} {suite : List Stmt} {rest : List ExceptHandler} {Q : Flow → Shared → Prop} {name : Option Str} (O : OwnB X outer) (I : Inv X pins σ H s) (F : Fly X.prog X.w X.stack H s H' ea (.ref D) .none s')
    (hg : Gl X x) (hm : X.mg x = some (.ref C)) (qD : PySem.W.excIn X.K D bmB nid = true) (qC : PySem.W.excIn X.K C bmB' nid' = true) (hB : bmB'.contains (.type "BaseException") = true)
    (hit : (mroIn X.K D).contains (.ref C) = true → ∀ h'', Fly X.prog X.w X.stack H s H' ea (.ref D) .none { s' with heap := h'' } → codeAny (model X.prog X.w) (X.A.mark (some (.ref ea))) (.handlers (.ref ea) [.ExceptHandler none name (b0 :: suite) pos] X.env) (fun r s₂ => match r with
          | .ok f => (match name with
            | none => Q f s₂
            | some n => wpAny (model X.prog X.w) X.A (do bindName X.env n .none; unbindBehindTheSuite X.env n pos) (fun _ s₃ => Q f s₃) E s₂)
          | .error x => cameBackBy (model X.prog X.w) X.A X.env E x s₂) s')
    (miss : (mroIn X.K D).contains (.ref C) = false → wpAny (model X.prog X.w) X.A (handleBy (.ref ea) X.env rest) Q E s')
    (hd : (x == ("__debug__" : Str)) = false := by decide) :
    wpAny (model X.prog X.w) X.A (handleBy (.ref ea) X.env (.ExceptHandler (some (.Name x np)) name (b0 :: suite) pos :: rest)) Q E s' := by
  have J := I.fly F
  obtain ⟨bm, N, nm, qn, bs, hdct, sn, sub, ab, col, dd, k0, k1, k2, k3, k5, hC, ht, hok, hni⟩ := exc_obj qC
  obtain ⟨bm', N', nm', qn', bs', hdct', sn', sub', ab', col', dd', k0', k1', k2', k3', k5', hD, ht', hok', hni'⟩ := exc_obj qD
  have em : mroIn X.K D = .ref D :: bm' := by unfold mroIn; rw [hD]
  rw [em] at hit miss
  obtain ⟨B, a0, b1, b2, b3, ⟨oe, vs, T, oT, ts, he, ⟨hcls, h0⟩, r⟩, b5⟩ := F.fly
  refine wpAny_handleBy_cons (codeAny_handlers_test (ld_glob (X := X.marked ea (X.pn ++ pins) (fun _ _ => False)) (J.toMark (ea := ea) (xe := fun _ _ => False)) hg hm ?_ hd)) (by intro q; cases q)
  obtain ⟨hp, gg, dr, tk, os⟩ := s'
  refine excMatches_own (J.kIn D _ hD) (J.kIn C _ hC) he hcls ((PySem.W.tail_of_in J.kIn ht).hasType hB) ?_
  cases hb : (Value.ref D :: bm').contains (.ref C) with
  | true => exact hit hb hp F
  | false => exact miss hb
end
end L2
set_option Elab.async false
set_option linter.all false
set_option maxRecDepth 100000
set_option maxHeartbeats 4000000
namespace L2
open PySem PySem.Spec PyProof.Rows
section
variable {X : Cx} {outer : List Env} {pins : List (Addr × Obj)} {σ : St} {H H' : Hp} {s s' : Shared} {ea : Addr} {cls : Value} {E : Value → Shared → Prop}
theorem suite_at {st : Stmt} {pos : Pos} {t : TS} {D : Ends} (I : Inv X pins σ H s) (F : Fly X.prog X.w X.stack H s H' ea cls .none s') (h : PSs (X.marked ea (X.pn ++ pins) fun _ _ => False) [st] t) (q : t D σ H') :
    codeAny (model X.prog X.w) (X.A.mark (some (.ref ea))) (.handlers (.ref ea) [.ExceptHandler none none [st] pos] X.env) (fun r s₂ => match r with
          | .ok f => SP X pins D f s₂
          | .error x => cameBackBy (model X.prog X.w) X.A X.env E x s₂) s' := by
  have ff : ∀ b ∈ frs X.stack, H' b = none := fun b hb => (I.fly F).stkFree b hb
  refine codeAny_handlers_suite (F.land ff fun h'' F2 => ?_)
  refine wpAny_mono (h [] _ σ H' D ((I.fly F2).toMark) q) (fun f s2 hq => SP.ofMark I.ok.hd hq) fun _ _ z => z.elim
theorem ps_try2 {e : Expr} {pos epos np1 np2 p1 p2 : Pos} {te : XK → TE} {x1 x2 : Str} {C1 C2 : Addr} {st1 st2 : Stmt} {t1 t2 : TS} {bmB : List Value} {nid : String} (O : OwnB X outer)
    (he : ∀ pn xe EE, Passes (CXE X.prog X.w) (X.at pn xe) EE → PE (X.at pn xe) e (te EE))
    (g1 : Gl X x1) (m1 : X.mg x1 = some (.ref C1)) (q1 : PySem.W.excIn X.K C1 bmB nid = true) (g2 : Gl X x2) (m2 : X.mg x2 = some (.ref C2)) (q2 : PySem.W.excIn X.K C2 bmB nid = true) (hB : bmB.contains (.type "BaseException") = true)
    (n11 : (mroIn X.K C1).contains (.ref C1) = true) (n21 : (mroIn X.K C2).contains (.ref C1) = false) (n22 : (mroIn X.K C2).contains (.ref C2) = true)
    (h1 : ∀ ea pn, PSs (X.marked ea pn fun _ _ => False) [st1] t1) (h2 : ∀ ea pn, PSs (X.marked ea pn fun _ _ => False) [st2] t2)
    (hs : swapsWith e none epos.line X.env = pure false := by rfl) (hd1 : (x1 == ("__debug__" : Str)) = false := by decide) (hd2 : (x2 == ("__debug__" : Str)) = false := by decide) :
    PS X (.Try [.Expr e epos] [.ExceptHandler (some (.Name x1 np1)) none [st1] p1, .ExceptHandler (some (.Name x2 np2)) none [st2] p2] [] [] pos) (tTry2 te C1 C2 t1 t2) := by
  intro pins s σ H D I h
  have hl := I.len
  refine wpAny_Try_except ?_
  refine wpAny_mono ((pss_one (ps_expr (he (X.pn ++ pins) (fun e s' => ∃ (σ' : St) (H0 : Hp) (s0 : Shared) (ea : Addr) (cls : Value) (H' : Hp), e = .ref ea ∧ Inv X pins σ' H0 s0 ∧ Fly X.prog X.w X.stack H0 s0 H' ea cls .none s' ∧ ∀ σ' : St, σ'.length = σ.length → (cls = .ref C1 ∧ t1 D σ' H') ∨ (cls = .ref C2 ∧ t2 D σ' H')) _
    (fun pins' σ' H0 s0 e s' I0 ⟨ea, cls, H', he, F, q⟩ => ⟨σ', H0, s0, ea, cls, H', he, I0.ofAt, F, q⟩)) hs)) [] s σ H D I.toAt h) (fun f s1 hq => ?_) (fun e s1 hq => ?_)
  · cases f with
    | next =>
      obtain ⟨σ1, H1, I1, q1⟩ := hq
      exact wpAny_execs_nil ⟨σ1, H1, I1.ofAt, q1⟩
    | brk => exact SP.ofAt hq
    | cont => exact SP.ofAt hq
    | ret u => exact SP.ofAt hq
  · obtain ⟨σ', H0, s0, ea, cls, H', rfl, I0, F, q⟩ := hq
    refine caught_at O I0 F fun h2' F2 => ?_
    have q' := q σ' (by rw [I0.len, hl])
    rcases q' with ⟨rfl, q'⟩ | ⟨rfl, q'⟩
    · refine clause_at O I0 F2 g1 m1 q1 q1 hB (fun _ h3 F3 => suite_at I0 F2 (h1 ea _) q') (fun z => by rw [n11] at z; cases z) hd1
    · refine clause_at O I0 F2 g1 m1 q2 q1 hB (fun z => by rw [n21] at z; cases z) (fun _ => ?_) hd1
      exact clause_at O I0 F2 g2 m2 q2 q2 hB (fun _ h3 F3 => suite_at I0 F2 (h2 ea _) q') (fun z => by rw [n22] at z; cases z) hd2
end
end L2
set_option Elab.async false
set_option linter.all false
set_option maxRecDepth 100000
set_option maxHeartbeats 4000000
namespace L2
open PySem PySem.Spec PyProof.Rows
def Imp (X : Cx) (pins : List (Addr × Obj)) (H' : Hp) (b : Addr) : Prop := H' b ≠ none ∨ (∃ o', X.s₀.heap.get? b = some o') ∨ (∃ p ∈ X.pn ++ pins, p.1 = b) ∨ ∃ x, X.env.cells.lookup x = some b
structure Air (X : Cx) (pins : List (Addr × Obj)) (H' : Hp) (ea : Addr) (cls fl : Value) (s' : Shared) : Prop where
  nt : H' ea = none
  new : X.s₀.heap.get? ea = none
  fly : ∃ B a0, B.StaysIn s'.heap ∧ B.get? ea = none ∧ s'.heap.FunFrames B X.stack ∧ s'.heap.TracedAtW B ea cls a0 fl ∧ ∀ b o, s'.heap.get? b = some o → Imp X pins H' b → b ∉ frs X.stack → B.get? b = some o
section
variable {X : Cx} {outer : List Env} {pins : List (Addr × Obj)} {σ : St} {H H' : Hp} {s s' : Shared} {ea : Addr} {cls fl : Value} {M : Model} {E : XK}
theorem Fly.air (I : Inv X pins σ H s) (F : Fly X.prog X.w X.stack H s H' ea cls fl s') (hex : ∀ b ∈ X.ex, ∃ o, s.heap.get? b = some o) : Air X pins H' ea cls fl s' := by
  obtain ⟨B, a0, b1, b2, b3, b4, b5⟩ := F.fly
  have there : ∀ b o', X.s₀.heap.get? b = some o' → ∃ o, s.heap.get? b = some o := fun b o' e => by
    by_cases m : b ∈ X.ex
    · exact hex b m
    · exact I.base.there b o' e m
  refine ⟨F.nt, ?_, B, a0, b1, b2, b3, b4, fun b o e c n => b5 b o e ?_ n⟩
  · cases e : X.s₀.heap.get? ea with
    | none => rfl
    | some o =>
      obtain ⟨o', z⟩ := there ea o e
      rw [F.new] at z; cases z
  · rcases c with c | ⟨o', c⟩ | ⟨p, hp, rfl⟩ | ⟨x, c⟩
    · exact .inl c
    · exact .inr (there b o' c)
    · exact .inr ⟨_, (I.pin p hp).1⟩
    · obtain ⟨v, o1, z, _⟩ := I.cell x b c
      exact .inr ⟨_, z⟩
theorem Inv.leaveA (O : OwnB X outer) (J : Inv X pins σ H' s') (a : Air X pins H' ea cls fl s') (q : E cls none H') :
    wpAny M X.A (leaving X.env (.ref ea)) (fun _ s'' => CXE X.prog X.w outer X.H₀ X.s₀ E (.ref ea) s'') (fun e' s'' => CXE X.prog X.w outer X.H₀ X.s₀ E e' s'') s' := by
  obtain ⟨B, a0, b1, b2, b3, b4, b5⟩ := a.fly
  have fr := J.ok.frames
  rw [O.stk] at fr b3
  have un0 := J.base
  have efs : X.fs = frs outer := by unfold Cx.fs; rw [O.fs]
  rw [O.ex, efs] at un0
  refine wpAny_leaving_anyW fr b3 O.fr b4 b1 b2 fun h'' hfl up => ?_
  obtain ⟨f1, f2, f3, f4⟩ := hfl
  have inB : ∀ b o, s'.heap.get? b = some o → (H' b ≠ none ∨ ∃ o', X.s₀.heap.get? b = some o') → b ∉ frs outer → B.get? b = some o := fun b o e c n => b5 b o e (c.imp id .inl) (O.out J c n)
  refine ⟨ea, cls, H', rfl, ⟨J.os, J.bare, un0.then (fun b o e c n => f1 b o (inB b o e (.inr c) n)) (fun b o e m => ?_), J.hok.keepT fun b o c e => ?_, a.nt, a.new, B, a0, f1, f2, f3, f4, fun b o e c n => ?_⟩, q⟩
  · obtain ⟨_, o1, e1, d1⟩ := b3.mem ((frs_cons O.fr).mpr (.inr m))
    rw [e] at e1
    cases e1
    exact up b o e d1
  · by_cases n : b ∈ frs outer
    · exact absurd (J.stkFree b (by rw [O.stk]; exact (frs_cons O.fr).mpr (.inr n))) c
    · exact f1 b o (inB b o e (.inl c) n)
  · have : ∃ o1, s'.heap.get? b = some o1 := by
      rcases c with c | ⟨o', c⟩
      · cases z : H' b with
        | none => exact absurd z c
        | some u => exact (J.hok b u z).is
      · exact un0.there b o' c (by simp)
    obtain ⟨o1, e1⟩ := this
    have e2 := inB b o1 e1 c n
    have e3 := f1 b o1 e2
    rw [e] at e3
    cases e3
    exact e2
theorem Air.set {fr : Option Addr} {Q : Unit → Shared → Prop} {EE : Value → Shared → Prop} (O : OwnB X outer) (J : Inv X pins σ H' s') (a : Air X pins H' ea cls fl s')
    (k : ∀ h'' fl', Inv X pins σ H' { s' with heap := h'' } → Air X pins H' ea cls fl' { s' with heap := h'' } → Q () { s' with heap := h'' }) : wpAny M X.A (setFlight (.ref ea) fr) Q EE s' := by
  obtain ⟨B, a0, b1, b2, b3, ⟨oe, vs, T, oT, ts, he, hcls, hd, h1, hnT, hTe, hT, hdT, h3⟩, b5⟩ := a.fly
  have hsz3 : 3 < ts.size := (Array.getElem?_eq_some_iff.mp h3).1
  unfold setFlight
  refine wpAny_bind (wpAny_field he hd h1 ?_)
  rw [if_pos (show (Value.ref T != Value.none) = true from by simp)]
  refine wpAny_setField hT hdT hsz3 ?_
  generalize hfl' : (fr.elim Value.none fun f => rawInt f) = fl'
  have other : ∀ b, b ≠ T → (s'.heap.update T (Obj.mapFields (·.setIfInBounds 3 fl'))).get? b = s'.heap.get? b := fun b hb => Heap.get?_update_other _ _ (Ne.symm hb)
  have noRecord : ∀ b o, s'.heap.get? b = some o → (∀ vs, o.data ≠ .fields vs) → b ≠ T := fun b o hb hnf q => by
    rw [q, hT] at hb; injection hb with hb; subst hb; exact hnf ts hdT
  have hTn : T ∉ frs X.stack := fun m => by
    obtain ⟨_, o1, e1, d1⟩ := b3.mem m
    rw [hT] at e1
    cases e1
    exact d1 ts hdT
  have nImp : ∀ b, Imp X pins H' b → b ≠ T := fun b c z => by
    subst z
    have := b5 b oT hT c hTn
    rw [hnT] at this; cases this
  have there' : ∀ b o, s'.heap.get? b = some o → ∃ o', (s'.heap.update T (Obj.mapFields (·.setIfInBounds 3 fl'))).get? b = some o' := fun b o e => by
    by_cases z : b = T
    · subst z; exact ⟨_, Heap.get?_update_self _ hT (Obj.isFreed_of_fields (Obj.data_mapFields hdT _))⟩
    · exact ⟨o, (other b z).trans e⟩
  have up := J.base
  refine k _ fl' ?_ ?_
  · refine ⟨J.ok, J.os, J.bare, ⟨fun b o e n hb hx => ?_, fun b o e n hb hx => ?_, J.base.free, fun b o e hx => ?_, J.base.tups, J.base.frzs, J.base.tbls⟩, ?_, fun x c e => ?_, J.free, J.freeC, fun p hp => ?_, J.hok.keepT fun b o c e => (other b (nImp b (.inl c))).trans e, J.len⟩
    · exact (other b (nImp b (.inr (.inl ⟨o, e⟩)))).trans (J.base.keep b o e n hb hx)
    · obtain ⟨sl, z⟩ := J.base.slot b o e n hb hx
      exact ⟨sl, (other b (nImp b (.inr (.inl ⟨o, e⟩)))).trans z⟩
    · obtain ⟨o', z⟩ := J.base.there b o e hx
      exact there' b o' z
    · obtain ⟨m, ⟨oL, es, ep, hoL, hdL, r⟩, hl⟩ := J.loc
      have nL : X.env.locals ≠ T := noRecord _ oL hoL fun vs z => by rw [hdL] at z; cases z
      refine ⟨m, ⟨oL, es, ep, (other _ nL).trans hoL, hdL, r⟩, fun i x v h1 h2 h3 => ?_⟩
      obtain ⟨u, ru, lk⟩ := hl i x v h1 h2 h3
      refine ⟨u, ru, lk.imp id fun ⟨z1, c, z2, o1, z3, z4⟩ => ⟨z1, c, z2, o1, (other c (nImp c (.inr (.inr (.inr ⟨x, z2⟩))))).trans z3, z4⟩⟩
    · obtain ⟨v, o1, z3, z4⟩ := J.cell x c e
      exact ⟨v, o1, (other c (nImp c (.inr (.inr (.inr ⟨x, e⟩))))).trans z3, z4⟩
    · obtain ⟨z1, z2⟩ := J.pin p hp
      exact ⟨(other p.1 (nImp p.1 (.inr (.inr (.inl ⟨p, hp, rfl⟩))))).trans z1, z2⟩
  · refine ⟨a.nt, a.new, B, a0, fun b o hbo => (other b fun q => by rw [q, hnT] at hbo; cases hbo).trans (b1 b o hbo), b2, b3.of_keeps fun b o hb hnf => ⟨o, (other b (noRecord b o hb hnf)).trans hb, rfl⟩,
      ⟨oe, vs, T, _, _, (other ea (Ne.symm hTe)).trans he, hcls, hd, h1, hnT, hTe, Heap.get?_update_self _ hT (Obj.isFreed_of_fields (Obj.data_mapFields hdT _)), Obj.data_mapFields hdT _, by simp [hsz3]⟩, fun b o e c n => ?_⟩
    have z := nImp b c
    exact b5 b o ((other b z).symm.trans e) c n
end
end L2
set_option Elab.async false
set_option linter.all false
set_option maxRecDepth 100000
set_option maxHeartbeats 4000000
namespace L2
open PySem PySem.Spec PyProof.Rows
theorem compLoop_anyE {prog : Program} {w : World} {A : Around} {R : Result → Shared → Prop} {s : Shared} {elt target iter : Expr} {ifs : List Expr} {scope : Scope} {pos : Pos} {it acc : Value} {env : Env} (I : Nat → Shared → Prop)
    (turn : ∀ n s, I n s → wpAny (model prog w) A (pyNext it) (fun r s₁ => match r with
      | none => R (.ok .next) s₁
      | some v => wpAny (model prog w) A (letOwnedTupleGo target it v) (fun _ s' => wpAny (model prog w) A (assign target env v) (fun _ s₂ =>
          wpAny (model prog w) A (forIn ifs true fun c r => if r = true then do let ok ← isTrue c env (eval c env); pure (ForInStep.yield ok) else pure (ForInStep.yield r)) (fun ok s₃ =>
            if ok = true then wpAny (model prog w) A (eval elt env) (fun x s₄ =>
              wpAny (model prog w) A (call (.builtin "list.append") [acc, x]) (fun _ s₅ => ∃ m, m < n ∧ I m s₅) (fun _ _ => False) s₄) (notedBy (model prog w) A env fun x s' => R (.error x) s') s₃
            else ∃ m, m < n ∧ I m s₃) (fun _ _ => False) s₂) (fun _ _ => False) s') (fun _ _ => False) s₁) (fun _ _ => False) s)
    (n : Nat) (h : I n s) :
    codeAny (model prog w) A (.compLoop (.ListComp elt [⟨target, iter, ifs, 0⟩] scope pos) 0 it acc env) R s := by
  refine codeAny_loop rfl I (fun n s hI => ?_) n h
  show wpAny _ A ((compTurn (.ListComp elt [⟨target, iter, ifs, 0⟩] scope pos) 0 it acc env).onRaise (fun x => do noteFrame x env; theTreesLotGoes x)) _ _ s
  refine wpAny_noted ?_
  rw [compTurn_list]
  refine wpAny_bind (wpAny_standAt (wpAny_bind (wpAny_mono (turn n s hI) (fun r s₁ h₁ => ?_) fun _ _ h' => h'.elim)))
  cases r with
  | none => exact wpAny_pure h₁
  | some v =>
    refine wpAny_bind (wpAny_mono h₁ (fun _ s' h' => wpAny_bind (wpAny_mono h' (fun _ s₂ h₂ => wpAny_bind (wpAny_mono h₂ (fun ok s₃ h₃ => ?_) fun _ _ h' => h'.elim)) fun _ _ h' => h'.elim)) fun _ _ h' => h'.elim)
    cases ok with
    | false => exact wpAny_pure ⟨rfl, h₃⟩
    | true =>
      exact wpAny_bind (wpAny_bind (wpAny_mono h₃ (fun x s₄ h₄ => wpAny_bind (wpAny_mono h₄ (fun _ s₅ h₅ => wpAny_pure (wpAny_pure ⟨rfl, h₅⟩)) fun _ _ h' => h'.elim)) fun _ _ h' => h'))
section
variable {X : Cx} {pins : List (Addr × Obj)} {σ : St} {H2 : Hp} {s2 : Shared} {N : List Str} {scope : Scope} {cl : List (Str × Addr)} {pick : List (Option Nat)} {elt tg iter : Expr} {ifs : List Expr} {pos : Pos}
  {g : TG} {ti : TT} {te : TE} {it : Addr} {fp : List Addr} {tn : Nat → Heap → Prop} {J : It} {Q : VK}
theorem lc_blockE {EE : XK} {te' : XK → TE} {outer : List Env} {E : Value → Shared → Prop} {RR : Value → Addr → Result → Shared → Prop} (hc : X.calm = true) (O : OwnB X outer) (S : CompOk X N scope cl pick)
    (hg : ∀ C s H fp, PG (ccx X N scope cl C s H fp) tg g) (ht : ∀ C s H fp, PIfs (ccx X N scope cl C s H fp) ifs ti) (he : ∀ C s H fp pn xe, Passes (CXE X.prog X.w) ((ccx X N scope cl C s H fp).at pn xe) EE → PE ((ccx X N scope cl C s H fp).at pn xe) elt (te' EE))
    (I2 : Inv X pins σ H2 s2) (T : Turn X.prog X.w X.K tg J fp it tn) (st2 : tn 0 s2.heap) (f2 : ∀ b ∈ fp, FpOk X pins H2 b)
    (hq : ∀ p, H2 p = none → LcInv J g ti (te' EE) (picked pick σ) H2 Q p)
    (hRR : ∀ C p H' s1 m, Inv X pins σ H' s1 → Loose X pins H' C → s1.heap.Ns C m → Q (.ref p) H' → RR (.ref p) C (.ok .next) s1)
    (hER : ∀ C p ea cls H' s1 m, Inv X pins σ H' s1 → Loose X pins H' C → s1.heap.Ns C m → Air X pins H' ea cls (rawInt X.env.locals) s1 → EE cls none H' → RR (.ref p) C (.error (.ref ea)) s1) :
    wpAny (model X.prog X.w) X.A (newList []) (fun acc s₃ => wpAny (model X.prog X.w) X.A (newFunctionEnv scope X.env.globals cl [] X.env.qual none .none (some X.env)) (fun cenv s₄ =>
      codeAny (model X.prog X.w) X.A (.compStart (.ListComp elt [⟨tg, iter, ifs, 0⟩] scope pos) 0 (.ref it) acc { cenv with scope := relabel scope X.env }) (RR acc cenv.locals) s₄) E s₃) E s2 := by
  have hcell : ∀ y ∈ scope.names, y.2 ≠ .cell := fun y hy => by simpa using List.all_eq_true.mp S.nocell y hy
  refine wpAny_newObj_type (wpAny_newFunctionEnv hcell (by intro y hy; simp at hy) (fun h₁ hns₁ hsb₁ => ?_) S.kind)
  dsimp only at hns₁ hsb₁ ⊢
  have I3 : Inv X pins σ (upd H2 s2.heap.objs.size (.lst [])) { s2 with heap := s2.heap.push { cls := .type "list", data := .seq ([] : List Value).toArray } } :=
    I2.lnew (ys := []) (its := []) (t' := s2.toks) .nil (Nat.zero_le _)
  have hp : H2 s2.heap.objs.size = none := I2.fresh
  obtain ⟨W, ⟨m0, w0⟩, turn⟩ := hq _ hp
  generalize hA : s2.heap.objs.size = acc at *
  generalize hS3 : ({ s2 with heap := s2.heap.push { cls := .type "list", data := .seq ([] : List Value).toArray } } : Shared) = s3 at *
  have hh3 : s3.heap = s2.heap.push { cls := .type "list", data := .seq ([] : List Value).toArray } := by rw [← hS3]
  have hsz : s3.heap.objs.size = acc + 1 := by rw [hh3, Heap.size_push, hA]
  have hlt2 : ∀ b ∈ fp, b < acc := fun b hb => by
    obtain ⟨o, e, _⟩ := T.obj 0 _ st2 b hb
    rw [← hA]; exact Heap.lt_size e
  have hlt : ∀ b ∈ fp, b < s3.heap.objs.size := fun b hb => by rw [hsz]; exact Nat.lt_succ_of_lt (hlt2 b hb)
  have f3 : ∀ b ∈ fp, FpOk X pins (upd H2 acc (.lst [])) b := fun b hb => ⟨by rw [upd_ne (Nat.ne_of_lt (hlt2 b hb))]; exact (f2 b hb).1, (f2 b hb).2⟩
  have hk : ∀ b o, s3.heap.get? b = some o → h₁.get? b = some o := fun b o e => by
    refine hsb₁.extBut b o (Nat.ne_of_lt ?_) (Heap.get?_push_of_some _ ?_)
    · have := Heap.lt_size e
      rw [hh3] at this
      exact this
    · rw [hh3] at e; exact e
  have hCe : (s2.heap.push { cls := .type "list", data := .seq ([] : List Value).toArray }).objs.size = acc + 1 := by rw [Heap.size_push, hA]
  have e4 : ({ s2 with heap := h₁, toks := s2.toks + ([] : List (Str × Value)).length } : Shared) = { s3 with heap := h₁, toks := s2.toks } := by rw [← hS3]; rfl
  have hns : h₁.Ns (acc + 1) (fun x => ([] : List (Str × Value)).reverse.lookup x) := by rw [← hCe]; exact hns₁
  have I4 : Inv (ccx X N scope cl (acc + 1) s3 (upd H2 acc (.lst [])) fp) [] (picked pick σ) (upd H2 acc (.lst [])) { s3 with heap := h₁, toks := s2.toks } :=
    lc_inv S I3 (by rw [hsz]; exact Nat.le_refl _) f3 hlt hns hk
  have st4 : tn 0 h₁ := T.keep _ _ _ st2 fun b hb o e => hk b o (by rw [hh3]; exact Heap.get?_push_of_some _ e)
  have stat : ∀ {H' : Hp}, (∀ b ∈ fp, H' b = none) → ∀ b ∈ fp, FpOk (ccx X N scope cl (acc + 1) s3 (upd H2 acc (.lst [])) fp) [] H' b := fun {H'} hn b hb => by
    have ok := I4.ok
    exact ⟨hn b hb, (ok.exf b hb).1, ok.exfs b hb, .inl hb, (ok.exf b hb).2, fun p hp => nomatch hp⟩
  -- behind the loop: the outer frame again
  have out : ∀ {σ' : St} {H' : Hp} {s1 : Shared}, Inv (ccx X N scope cl (acc + 1) s3 (upd H2 acc (.lst [])) fp) [] σ' H' s1 → Q (.ref acc) H' → RR (.ref acc) (acc + 1) (.ok .next) s1 := fun {σ' H' s1} I' q' => by
    obtain ⟨m', hn', _⟩ := I'.loc
    refine hRR (acc + 1) acc H' s1 m' ?_ ?_ hn' q'
    · exact I3.call' I'.os I'.base I'.hok I'.bare fun b hb => ⟨(f3 b hb).2.2.2.1, (f3 b hb).2.1, (f3 b hb).2.2.2.2.1, (f3 b hb).2.2.2.2.2⟩
    · have big : s3.heap.objs.size ≤ acc + 1 := by rw [hsz]; exact Nat.le_refl _
      refine ⟨I'.free, Nat.ne_of_gt (Nat.lt_of_lt_of_le I3.lt big), Nat.le_trans I3.sz big, fun x c e z => ?_, fun p hp z => ?_⟩
      · obtain ⟨v, ic⟩ := I3.cell x c e
        exact absurd (Nat.lt_of_lt_of_le ic.lt (by rw [z]; exact big)) (Nat.lt_irrefl _)
      · exact absurd (Nat.lt_of_lt_of_le (Heap.lt_size (I3.pin p hp).1) (by rw [z]; exact big)) (Nat.lt_irrefl _)
  have loop : codeAny (model X.prog X.w) X.A (.compLoop (.ListComp elt [⟨tg, iter, ifs, 0⟩] scope pos) 0 (.ref it) (.ref acc) (compEnvC scope cl (acc + 1) X.env)) (RR (.ref acc) (acc + 1)) { s3 with heap := h₁, toks := s2.toks } := by
    refine compLoop_anyE (fun n s' => ∃ i σ' H', Inv (ccx X N scope cl (acc + 1) s3 (upd H2 acc (.lst [])) fp) [] σ' H' s' ∧ tn i s'.heap ∧ (∀ b ∈ fp, H' b = none) ∧ W i n σ' H') ?_ m0
      ⟨0, _, _, I4, st4, fun b hb => (f3 b hb).1, w0⟩
    rintro n s5 ⟨i, σ5, H5, I5, st5, fr5, w5⟩
    rcases turn i n σ5 H5 w5 with ⟨stop, qn⟩ | ⟨go, Nx, hN, step⟩
    · refine thn (T.done (ccx X N scope cl (acc + 1) s3 (upd H2 acc (.lst [])) fp) rfl rfl rfl hc i [] s5 σ5 H5 _ I5 (stat fr5) st5 stop) fun r s6 ⟨hr, I6⟩ => ?_
      subst hr
      exact out I6 qn
    · refine thn (T.item (ccx X N scope cl (acc + 1) s3 (upd H2 acc (.lst [])) fp) rfl rfl rfl hc i [] s5 σ5 H5 _ I5 (stat fr5) st5 go) fun r s6 ⟨u, hr, h6⟩ => ?_
      subst hr
      refine thn h6 fun _ s7 ⟨x, H7, I7, r7, y7, st7, fr7⟩ => ?_
      have I7' := I7.pinned (stat fr7) (T.obj _ _ st7)
      refine thn (hg _ _ _ _ _ s7 σ5 H7 x u _ I7' r7 (step x H7 y7)) fun _ s8 ⟨σ8, H8, I8, q8⟩ => ?_
      have again : ∀ {s9 : Shared} {σ9 : St} {H9 : Hp}, Inv (ccx X N scope cl (acc + 1) s3 (upd H2 acc (.lst [])) fp) ([] ++ pinsAt fp s7.heap) σ9 H9 s9 → Nx σ9 H9 → ∃ m, m < n ∧ ∃ i σ' H', Inv (ccx X N scope cl (acc + 1) s3 (upd H2 acc (.lst [])) fp) [] σ' H' s9 ∧ tn i s9.heap ∧ (∀ b ∈ fp, H' b = none) ∧ W i m σ' H' := fun {s9 σ9 H9} I9 n9 => by
        obtain ⟨m', hm, w9⟩ := hN σ9 H9 n9
        refine ⟨m', hm, i + 1, σ9, H9, I9.unpinned, T.keep _ _ _ st7 fun b hb o e => (I9.pin (b, o) (List.mem_append_right _ (List.mem_append_right _ (mem_pinsAt hb e)))).1, fun b hb => ?_, w9⟩
        obtain ⟨o, e, d⟩ := T.obj _ _ st7 b hb
        exact (I9.pin (b, o) (List.mem_append_right _ (List.mem_append_right _ (mem_pinsAt hb e)))).2.1
      refine thn (ht _ _ _ _ _ s8 σ8 H8 _ I8 q8) fun ok s9 ⟨H9, I9, q9⟩ => ?_
      cases ok with
      | false => exact again I9 q9
      | true =>
        refine wpAny_mono (he (acc + 1) s3 (upd H2 acc (.lst [])) fp ([] ++ ([] ++ pinsAt fp s7.heap)) (fun e s' => ∃ (σ' : St) (H0 : Hp) (s0 : Shared) (ea : Addr) (cls : Value) (H' : Hp), e = .ref ea ∧ Inv (ccx X N scope cl (acc + 1) s3 (upd H2 acc (.lst [])) fp) ([] ++ pinsAt fp s7.heap) σ' H0 s0 ∧ Fly X.prog X.w X.stack H0 s0 H' ea cls .none s' ∧ EE cls none H')
          (fun pins' σ' H0 s0 e s' I0 ⟨ea, cls, H', he, F, q⟩ => ⟨σ', H0, s0, ea, cls, H', he, Inv.ofAt (X := ccx X N scope cl (acc + 1) s3 (upd H2 acc (.lst [])) fp) I0, F, q⟩) [] s9 σ8 H9 _ (Inv.toAt (X := ccx X N scope cl (acc + 1) s3 (upd H2 acc (.lst [])) fp) I9) q9) (fun y s10 ⟨v, H10, I10, r10, xs, hx, hl, n10⟩ => ?_) (fun e s10 hx => ?_)
        · have I10 := Inv.ofAt (X := ccx X N scope cl (acc + 1) s3 (upd H2 acc (.lst [])) fp) I10
          refine thn (mt_append _ s10 σ8 H10 (.ref acc) [v] (.ref acc) [y] (fun _ H' => Nx σ8 H') I10 rfl (.cons r10 .nil) ⟨acc, xs, v, rfl, rfl, hx, hl, n10⟩) fun _ s11 ⟨_, H11, I11, _, n11⟩ => again I11 n11
        · obtain ⟨σ', H0, s0, ea, cls, H', rfl, I0, F, q⟩ := hx
          have ff : ∀ b ∈ frs X.stack, H' b = none := fun b hb => (I0.fly F).stkFree b hb
          have fr := I2.ok.frames
          have estk := O.stk
          have sameN : ∀ (s : Shared) (Q : Unit → Shared → Prop) (E : Value → Shared → Prop), wpAny (model X.prog X.w) X.A (noteFrame (.ref ea) X.env) Q E s → wpAny (model X.prog X.w) X.A (noteFrame (.ref ea) (compEnvC scope cl (acc + 1) X.env)) Q E s := fun s Q E h => h
          have F' := F
          rw [estk] at F' ff fr
          refine F'.note ff fr (env' := compEnvC scope cl (acc + 1) X.env) O.fr O.fr (.inr fun s Q h => sameN s Q _ h) fun h4 F4 => ?_
          rw [← estk] at F4
          have J4 := I0.fly F4
          have Xm : Inv X pins σ H' { s10 with heap := h4 } := I3.call' J4.os J4.base J4.hok J4.bare fun b hb => ⟨(f3 b hb).2.2.2.1, (f3 b hb).2.1, (f3 b hb).2.2.2.2.1, (f3 b hb).2.2.2.2.2⟩
          have hexY : ∀ b ∈ fp, ∃ o, s0.heap.get? b = some o := fun b hb => by
            obtain ⟨o, e, d⟩ := T.obj _ _ st7 b hb
            exact ⟨o, (I0.pin (b, o) (List.mem_append_right _ (List.mem_append_right _ (mem_pinsAt hb e)))).1⟩
          have aY := F4.air I0 hexY
          have there3 : ∀ b o', X.s₀.heap.get? b = some o' → ∃ o, s3.heap.get? b = some o := fun b o' e => I3.base.there b o' e (by rw [O.ex]; simp)
          obtain ⟨m', hn', _⟩ := J4.loc
          have big : s3.heap.objs.size ≤ acc + 1 := by rw [hsz]; exact Nat.le_refl _
          refine hER (acc + 1) acc ea cls H' _ m' Xm ⟨J4.free, Nat.ne_of_gt (Nat.lt_of_lt_of_le I3.lt big), Nat.le_trans I3.sz big, fun x c e z => ?_, fun p hp z => ?_⟩ hn' ⟨aY.nt, ?_, ?_⟩ q
          · obtain ⟨v, ic⟩ := I3.cell x c e
            exact absurd (Nat.lt_of_lt_of_le ic.lt (by rw [z]; exact big)) (Nat.lt_irrefl _)
          · exact absurd (Nat.lt_of_lt_of_le (Heap.lt_size (I3.pin p hp).1) (by rw [z]; exact big)) (Nat.lt_irrefl _)
          · cases e : X.s₀.heap.get? ea with
            | none => rfl
            | some o =>
              obtain ⟨o', z⟩ := there3 ea o e
              have z2 : s3.heap.get? ea = none := aY.new
              rw [z2] at z; cases z
          · obtain ⟨B, a0, b1, b2, b3, b4, b5⟩ := aY.fly
            refine ⟨B, a0, b1, b2, b3, b4, fun b o e c n => b5 b o e ?_ n⟩
            rcases c with c | ⟨o', c⟩ | ⟨p, hp, rfl⟩ | ⟨x, c⟩
            · exact .inl c
            · exact .inr (.inl (there3 b o' c))
            · exact .inr (.inl ⟨_, (I3.pin p hp).1⟩)
            · obtain ⟨v, o1, z, _⟩ := I3.cell x b c
              exact .inr (.inl ⟨_, z⟩)
  rw [e4]
  have e5 : ({ newEnv scope (s2.heap.push { cls := .type "list", data := .seq ([] : List Value).toArray }).objs.size X.env.globals cl X.env.qual none .none (some X.env) builtinsNs with scope := relabel scope X.env } : Env) = compEnvC scope cl (acc + 1) X.env := by
    rw [hCe]; rfl
  have e6 : (newEnv scope (s2.heap.push { cls := .type "list", data := .seq ([] : List Value).toArray }).objs.size X.env.globals cl X.env.qual none .none (some X.env) builtinsNs).locals = acc + 1 := by
    rw [hCe]; rfl
  rw [e5, e6]
  exact codeAny_compStart_list loop (T.self _ 0 _ _ _ st4 loop)
end
theorem funFrames_but {base h h' : Heap} {C : Addr} : ∀ {l : List Env}, h.FunFrames base l → (∀ env ∈ l, env.frame ≠ some C) → Heap.SameBut C h h' → h'.FunFrames (base.hide C) l
  | [], _, _, _ => trivial
  | env :: _, ⟨hk, ⟨L, o, hf, hn, ho, hd⟩, hr⟩, hne, hs => by
    have z : L ≠ C := fun z => hne env (.head _) (by rw [hf, z])
    exact ⟨hk, ⟨L, o, hf, by rw [Heap.hide_ne _ z]; exact hn, (hs.2 L z).trans ho, hd⟩, funFrames_but hr (fun e he => hne e (.tail _ he)) hs⟩
def LeavesAt (X : Cx) (E : XK) : Prop := ∀ (pins : List (Addr × Obj)) (σ : St) (H' : Hp) (ea : Addr) (cls fl : Value) (s' : Shared), Inv X pins σ H' s' → Air X pins H' ea cls fl s' → E cls none H' → X.xe (.ref ea) s'
theorem lc_raised {X : Cx} {pins : List (Addr × Obj)} {σ : St} {EE : XK} {outer : List Env} {use : Value → Sem Unit} {QQ : Value → Shared → Prop} (O : OwnB X outer) (hXE : LeavesAt X EE) :
    ∀ C p ea cls H' s1 m, Inv X pins σ H' s1 → Loose X pins H' C → s1.heap.Ns C m → Air X pins H' ea cls (rawInt X.env.locals) s1 → EE cls none H' → compPost (model X.prog X.w) X.A X.xe (some use) QQ (.ref p) C (.error (.ref ea)) s1 := by
  intro C p ea cls H' s1 m I1 L hn a q
  refine ⟨m, hn, fun h' hs' cenv _ => ?_⟩
  have J := I1.turned (h' := h') (t' := s1.toks) (fun b o hb e => (hs'.2 b hb).trans e) L.1 L.2.1 (.inr L.2.2.1) L.2.2.2.1 L.2.2.2.2
  obtain ⟨oC, esC, epC, hoC, hdC, _⟩ := hn
  obtain ⟨B, a0, b1, b2, b3, ⟨oe, vs, T, oT, ts, he, hcls, hd, h1, hnT, hTe, hT, hdT, h3⟩, b5⟩ := a.fly
  have ndict : ∀ b o ws, s1.heap.get? b = some o → o.data = .fields ws → b ≠ C := fun b o ws e d z => by
    rw [z, hoC] at e; cases e; rw [hdC] at d; cases d
  have hCs : C ∉ frs X.stack := fun mm => by
    have e := O.stk
    rw [e] at mm
    rcases (frs_cons O.fr).mp mm with z | z
    · exact L.2.1 z
    · have z' : C ∈ X.fs := by show C ∈ frs X.outer; rw [O.fs]; exact z
      obtain ⟨_, o1, e1, _⟩ := I1.ok.funs.mem z'
      exact absurd (Nat.lt_of_lt_of_le (Heap.lt_size e1) L.2.2.1) (Nat.lt_irrefl _)
  have fields_ne : ∀ env ∈ X.stack, env.frame ≠ some C := fun env he z => hCs (List.mem_filterMap.mpr ⟨env, he, z⟩)
  have a' : Air X pins H' ea cls (rawInt X.env.locals) { s1 with heap := h' } := by
    refine ⟨a.nt, a.new, B.hide C, a0, fun b o e => ?_, ?_, ?_, ⟨oe, vs, T, oT, ts, (hs'.2 ea (ndict ea oe vs he hd)).trans he, hcls, hd, h1, ?_, hTe, (hs'.2 T (ndict T oT ts hT hdT)).trans hT, hdT, h3⟩, fun b o e c n => ?_⟩
    · by_cases z : b = C
      · subst z; rw [Heap.hide_self] at e; cases e
      · rw [Heap.hide_ne _ z] at e; exact (hs'.2 b z).trans (b1 b o e)
    · rw [Heap.hide_ne _ (ndict ea oe vs he hd)]; exact b2
    · exact funFrames_but b3 fields_ne hs'
    · rw [Heap.hide_ne _ (ndict T oT ts hT hdT)]; exact hnT
    · have z : b ≠ C := fun z => by
        subst z
        rcases c with c | ⟨o', c⟩ | ⟨pp, hp, c⟩ | ⟨x, c⟩
        · exact c L.1
        · exact absurd (Nat.lt_of_lt_of_le (Heap.lt_size c) L.2.2.1) (Nat.lt_irrefl _)
        · exact L.2.2.2.2 pp hp c
        · exact L.2.2.2.1 x _ c rfl
      rw [Heap.hide_ne _ z]
      exact b5 b o ((hs'.2 b z).symm.trans e) c n
  unfold PySem.passOn
  refine wpAny_bind (wpAny_field ((hs'.2 ea (ndict ea oe vs he hd)).trans he) hd h1 ?_)
  rw [if_neg (show ¬ ((Value.ref T == Value.none) = true) from by simp)]
  refine wpAny_bind (Air.set O J a' fun h'' fl' J2 a2 => wpAny_throw (hXE pins σ H' ea cls fl' _ J2 a2 q))
section
variable {X : Cx} {N : List Str} {scope : Scope} {cl : List (Str × Addr)} {pick : List (Option Nat)} {elt tg iter : Expr} {ifs : List Expr} {pos pos' spos : Pos} {wi : TI} {g : TG} {ti : TT} {te : TE}
theorem ps_setLCE {EE : XK} {te' : XK → TE} {outer : List Env} {i : Nat} {y : Str} (hsw : swapsWith (.ListComp elt [⟨tg, iter, ifs, 0⟩] scope pos) (some (.Name y pos')) spos.line X.env = pure true) (hN : X.N.Nodup) (hi' : X.N[i]? = some y) (hx : Loc X.env.scope y)
    (hc : X.calm = true) (O : OwnB X outer) (hXE : LeavesAt X EE) (S : CompOk X N scope cl pick) (hi : PI X tg iter wi)
    (hg : ∀ C s H fp, PG (ccx X N scope cl C s H fp) tg g) (ht : ∀ C s H fp, PIfs (ccx X N scope cl C s H fp) ifs ti) (he : ∀ C s H fp pn xe, Passes (CXE X.prog X.w) ((ccx X N scope cl C s H fp).at pn xe) EE → PE ((ccx X N scope cl C s H fp).at pn xe) elt (te' EE))
    (hs : ∀ x, foldedSetIterable iter X.env x = pure x := by intro _; rfl) (hf : X.fn y = true ∨ X.env.scope.names.lookup y = some .local := by first | exact .inl rfl | exact .inr rfl | assumption) :
    PS X (.Assign [.Name y pos'] (.ListComp elt [⟨tg, iter, ifs, 0⟩] scope pos) spos) (tAsg (tLC wi g ti (te' EE) pick) (gName i)) := by
  intro pins s σ H D I h
  have hloc : ∀ y ∈ scope.names, y.2 = .local → scope.names.lookup y.1 = some .local := fun y hy e => by
    have := List.all_eq_true.mp S.loc y hy
    rw [e] at this
    simpa using this
  rw [exec_Assign_Name_used _ _ _ _ hsw]
  refine wpAny_bind (wpAny_standAt (wpAny_bind ?_))
  show wpAny _ X.A (do let _ ← comprehension (.ListComp elt [⟨tg, iter, ifs, 0⟩] scope pos) scope X.env _ (newList []) false (eval iter X.env) (some (assign (.Name y pos') X.env))) _ _ s
  refine wpAny_bind (wpAny_mono (wpAny_comprehension_free (use := some (assign (.Name y pos') X.env)) (Q := fun _ s' => SP X pins D .next s') rfl hs S.clos S.kind hloc
    (thn (hi pins s σ H _ I h) fun xv s₁ h₁ => thn h₁ fun itv s₂ h₂ => ?_)) (fun _ s' hq => wpAny_pure (wpAny_pure hq)) fun _ _ e => e)
  obtain ⟨it, fp, tn, J, H2, e, I2, T, st2, f2, hq⟩ := h₂
  subst e
  refine lc_blockE (RR := fun acc C => compPost (model X.prog X.w) X.A X.xe (some (assign (.Name y pos') X.env)) (fun _ s' => SP X pins D .next s') acc C) hc O S hg ht he I2 T st2 f2 hq ?_ ?_
  rotate_left
  · exact lc_raised O hXE
  intro C p H' s1 m I1 L hn q
  show wpAny _ X.A (assign (.Name y pos') X.env (.ref p)) _ _ _
  refine wpAny_assign_Name (store_ok2 I1 hN hi' hx (v := .ref p) rfl (fun s2 I2 hch => ?_) hf)
  obtain ⟨a, sb, ha⟩ := hch
  have hCa : C ≠ a := by
    rcases ha with rfl | e
    · exact L.2.1
    · exact (L.2.2.2.1 y a e).symm
  refine ⟨m, hn.sameBut sb hCa, fun h' hs' => ⟨_, H', I2.turned (t' := s2.toks) (fun b o hb e => (hs'.2 b hb).trans e) L.1 L.2.1 (.inr L.2.2.1) L.2.2.2.1 L.2.2.2.2, q⟩⟩
end
end L2
set_option Elab.async false
set_option linter.all false
set_option maxRecDepth 100000
set_option maxHeartbeats 4000000
namespace L2
open PySem PySem.Spec PyProof.Rows
section
variable {X : Cx} {outer : List Env} {pins : List (Addr × Obj)} {σ : St} {H H' : Hp} {s s' : Shared} {ea : Addr} {cls : Value} {E : Value → Shared → Prop}
theorem Inv.gone {h' : Heap} {m' : Str → Option Value} {t' : Nat} (I : Inv X pins σ H s) (hn' : h'.Ns X.env.locals m') (hs : Heap.SameBut X.env.locals s.heap h') : Inv X pins (List.replicate X.N.length none) H { s with heap := h', toks := t' } := by
  obtain ⟨m, hn, hl⟩ := id I.loc
  obtain ⟨oL, _, _, hoL, _⟩ := id hn
  refine ⟨I.ok, I.os, I.bare, ⟨fun b o e n hb hx => ?_, fun b o e n hb hx => ?_, I.base.free, fun b o e hx => ?_, I.base.tups, I.base.frzs, I.base.tbls⟩, ⟨m', hn', fun j y v' e1 e2 e3 => ?_⟩, fun y c e => ?_, I.free, I.freeC, fun p hp => ?_, I.hok.keepT fun b o c e => ?_, by simp⟩
  · exact (hs.2 b (Nat.ne_of_lt (Nat.lt_of_lt_of_le (Heap.lt_size e) I.ok.above))).trans (I.base.keep b o e n hb hx)
  · obtain ⟨sl, e1⟩ := I.base.slot b o e n hb hx
    exact ⟨sl, (hs.2 b (Nat.ne_of_lt (Nat.lt_of_lt_of_le (Heap.lt_size e) I.ok.above))).trans e1⟩
  · obtain ⟨o', e1⟩ := I.base.there b o e hx
    exact ⟨o', (hs.2 b (Nat.ne_of_lt (Nat.lt_of_lt_of_le (Heap.lt_size e) I.ok.above))).trans e1⟩
  · rw [List.getElem?_replicate] at e2
    split at e2 <;> cases e2
  · obtain ⟨v, o1, z3, z4⟩ := I.cell y c e
    exact ⟨v, o1, (hs.2 c (I.cne y c e)).trans z3, z4⟩
  · obtain ⟨z1, z2, z3, z4⟩ := I.pin p hp
    exact ⟨(hs.2 p.1 z3).trans z1, z2, z3, z4⟩
  · exact (hs.2 b fun z => c (by rw [z]; exact I.free)).trans e
theorem suiteAs_at {b0 : Stmt} {suite : List Stmt} {pos : Pos} {t : TS} {D : Ends} {n : Str} {i : Nat} (I : Inv X pins σ H s) (F : Fly X.prog X.w X.stack H s H' ea cls .none s') (hN : X.N.Nodup) (hi : X.N[i]? = some n) (hk : X.env.kindOf n = some .local)
    (h : ∀ oe pn, oe.cls = cls → PSs (X.marked ea ((ea, oe) :: pn) fun _ _ => False) (b0 :: suite) t) (q : t { D with nx := fun _ _ => False, bk := fun _ _ => False, ct := fun _ _ => False } (σ.set i (some (.ref ea))) H') (hlc : X.env.scope.names.lookup n = some .local) :
    codeAny (model X.prog X.w) (X.A.mark (some (.ref ea))) (.handlers (.ref ea) [.ExceptHandler none (some n) (b0 :: suite) pos] X.env) (fun r s₂ => match r with
          | .ok f => wpAny (model X.prog X.w) X.A (do bindName X.env n .none; unbindBehindTheSuite X.env n pos) (fun _ s₃ => SP X pins D f s₃) E s₂
          | .error x => cameBackBy (model X.prog X.w) X.A X.env E x s₂) s' := by
  have ff : ∀ b ∈ frs X.stack, H' b = none := fun b hb => (I.fly F).stkFree b hb
  refine codeAny_handlers_suite_as (F.land ff fun h2 F2 => ?_)
  have J := I.fly F2
  obtain ⟨B, a0, b1, b2, b3, ⟨oe, vs, T, oT, ts, he, ⟨hcls, h0⟩, hd, r⟩, b5⟩ := F2.fly
  have Jm : Inv (X.marked ea ((ea, oe) :: (X.pn ++ pins)) fun _ _ => False) [] σ H' { s' with heap := h2 } := by
    refine { (J.toMark (ea := ea) (xe := fun _ _ => False)) with ok := ?_, pin := fun p hp => ?_ }
    · have o := (J.toMark (ea := ea) (xe := fun _ _ => False)).ok
      exact ⟨o.mod, o.kind, o.glob, o.blt, o.above, o.inj, o.has, o.cab, fun z => (nomatch z), o.frames, o.stk, o.exf, o.bs, o.bsz, o.noex, o.exfs, o.funs, o.frf⟩
    · rw [List.append_nil] at hp
      rcases List.mem_cons.mp hp with rfl | hp
      · refine ⟨he, F2.nt, fun z => ?_, fun z => ?_, fun v z => by rw [hd] at z; cases z⟩
        · obtain ⟨m, ⟨oL, es, ep, hoL, hdL, _⟩, _⟩ := J.loc
          have z' : ea = X.env.locals := z
          rw [← z'] at hoL
          have := hoL.symm.trans he
          cases this
          rw [hdL] at hd; cases hd
        · have z' : ea ∈ X.fs := z
          obtain ⟨_, o1, e1, _⟩ := I.ok.funs.mem z'
          obtain ⟨o', z2⟩ := I.base.there ea o1 e1 fun m => I.ok.exfs ea m z'
          rw [F2.new] at z2; cases z2
      · exact J.pin p hp
  refine store_ok2 (X := X.marked ea ((ea, oe) :: (X.pn ++ pins)) fun _ _ => False) (i := i) Jm hN hi (.inl hlc) (v := .ref ea) rfl (fun s3 J3 _ => ?_) (.inr hlc)
  refine wpAny_mono (h oe (X.pn ++ pins) hcls [] s3 _ H' _ J3 q) (fun f s4 hq => ?_) fun _ _ z => z.elim
  cases f with
  | ret u =>
    obtain ⟨v, σ', H4, J4, rv, q4⟩ := hq
    have J5 : Inv X pins σ' H4 s4 := by
      refine { J4 with ok := ?_, pin := fun p hp => J4.pin p (by rw [List.append_nil]; exact List.mem_cons_of_mem _ hp) }
      have o := J4.ok
      exact ⟨o.mod, o.kind, o.glob, o.blt, o.above, o.inj, o.has, o.cab, I.ok.hd, o.frames, o.stk, o.exf, o.bs, o.bsz, o.noex, o.exfs, o.funs, o.frf⟩
    obtain ⟨m, hn, _⟩ := id J5.loc
    have hcls' : (X.env.scope.kind == .class || (X.env.scope.kind == .module && X.env.locals != X.env.globals)) = false := by rw [J5.ok.kind]; rfl
    refine wpAny_nameGoes hk hn hcls' fun h5 m5 hn5 hs5 => ⟨v, _, H4, J5.gone hn5 hs5, rv, q4⟩
  | next => obtain ⟨_, _, _, z⟩ := hq; exact z.elim
  | brk => obtain ⟨_, _, _, z⟩ := hq; exact z.elim
  | cont => obtain ⟨_, _, _, z⟩ := hq; exact z.elim
end
end L2
set_option Elab.async false
set_option linter.all false
set_option maxRecDepth 100000
set_option maxHeartbeats 4000000
namespace L2
open PySem PySem.Spec PyProof.Rows
open Builtin Builtin.Str
section
variable {X : Cx}
theorem vals_strs : ∀ l : List (Str × Tok), Vals ((l.map (·.1)).map V.str) (strValues l)
  | [] => .nil
  | (x, t) :: r => .cons ⟨t, rfl⟩ (vals_strs r)
def rSplit : V → List V → Hp → VK → Prop := fun x vs H Q => ∃ z y, x = .str z ∧ vs = [.str y] ∧ (y.length == 0) = false ∧ z.length ≤ sizeLine ∧ (Txt.split z y).length ≤ sizeLine ∧ ∀ p, H p = none → Q (.ref p) (upd H p (.lst ((Txt.split z y).map V.str)))
theorem mt_split : MtR X "str.split" rSplit := by
  intro pins s σ H x vs v us Q I rx rv h
  obtain ⟨z, y, rfl, rfl, hy, hz, hn, q⟩ := h
  obtain ⟨t, rfl⟩ := rx
  obtain ⟨u0, rfl, ru⟩ := rv.one
  obtain ⟨u, rfl⟩ := ru
  have fin : ∀ (l : List (Str × Tok)) (tk : Nat), l.map (·.1) = Txt.split z y → EP X pins σ Q (.ref s.heap.objs.size) { s with toks := tk, heap := s.heap.push { cls := .type "list", data := .seq (strValues l).toArray } } := fun l tk e => by
    refine ⟨.ref s.heap.objs.size, _, I.lnew (ys := (Txt.split z y).map V.str) (its := strValues l) (t' := tk) ?_ ?_, rfl, q _ I.fresh⟩
    · rw [← e]; exact vals_strs l
    · rw [List.length_map]; exact hn
  cases h1 : (decide (z.length < y.length) || decide (strKind z < strKind y))
  · cases hf : (occurrences z y 0 z.length (z.length + 1)).isEmpty
    · have es : Txt.split z y = partsBetween z (occurrences z y 0 z.length (z.length + 1)) y.length := (if_neg (ne_true_of_eq_false h1)).trans (if_neg (ne_true_of_eq_false hf))
      refine call_meets F.slot_str_split (typeIs_str _ _ _) F.entry_str_split (F.args_str_split_2 _ _) (meets_str_split_sep z y t u h1 hy hf hz (by rw [← es]; exact hn)) ?_
      show wants _ _ _ { s with toks := _, heap := s.heap.push { cls := .type "list", data := .seq (strsFrom s.toks (partsBetween z (occurrences z y 0 z.length (z.length + 1)) y.length)).toArray } }
      rw [strsFrom_eq]
      exact fin (numbered s.toks _) _ ((numbered_texts _ _).trans es.symm)
    · exact call_meets F.slot_str_split (typeIs_str _ _ _) F.entry_str_split (F.args_str_split_2 _ _) (meets_str_split_not_found z y t u h1 hy hf)
        (fin [(z, t)] s.toks ((if_neg (ne_true_of_eq_false h1)).trans (if_pos hf)).symm)
  · exact call_meets F.slot_str_split (typeIs_str _ _ _) F.entry_str_split (F.args_str_split_2 _ _) (meets_str_split_cannot_occur z y t u h1)
      (fin [(z, t)] s.toks (if_pos h1).symm)
def rStripC : V → List V → Hp → VK → Prop := fun x vs H Q => ∃ z y, x = .str z ∧ vs = [.str y] ∧ z.length ≤ sizeLine ∧ Q (.str (Txt.stripChars z y)) H
theorem mt_stripC : MtR X "str.strip" rStripC := by
  intro pins s σ H x vs v us Q I rx rv h
  obtain ⟨z, y, rfl, rfl, hz, q⟩ := h
  obtain ⟨t, rfl⟩ := rx
  obtain ⟨u0, rfl, ru⟩ := rv.one
  obtain ⟨u, rfl⟩ := ru
  exact SC.stripChars (fun t' k => ⟨.str _, H, I.tok _, ⟨_, rfl⟩, q⟩) hz
def rStarts : V → List V → Hp → VK → Prop := fun x vs H Q => ∃ z y, x = .str z ∧ vs = [.str y] ∧ Q (.bl (Txt.startswith z y)) H
theorem mt_starts : MtR X "str.startswith" rStarts := by
  intro pins s σ H x vs v us Q I rx rv h
  obtain ⟨z, y, rfl, rfl, q⟩ := h
  obtain ⟨t, rfl⟩ := rx
  obtain ⟨u0, rfl, ru⟩ := rv.one
  obtain ⟨u, rfl⟩ := ru
  exact SC.startswith ⟨.bl _, H, I, rfl, q⟩
def rCountB : V → List V → Hp → VK → Prop := fun x vs H Q => ∃ (l : Addr) (bs : List Bool) (k : Bool), x = .ref l ∧ vs = [.bl k] ∧ H l = some (.lst (bs.map V.bl)) ∧ Q (.int (bs.count k)) H
theorem vals_bls : ∀ {bs : List Bool} {us : List Value}, Vals (bs.map V.bl) us → us = bs.map Value.bool
  | [], _, .nil => rfl
  | b :: bs, _, .cons r t => by rw [vals_bls t, show _ = Value.bool b from r]; rfl
theorem count_bools (k : Bool) : ∀ bs : List Bool, (bs.map Value.bool).countP (isBoolOf k) = bs.count k
  | [] => rfl
  | b :: bs => by
    rw [List.map_cons, List.countP_cons, List.count_cons, count_bools k bs]
    rfl
theorem mt_countB : MtR X "list.count" rCountB := by
  intro pins s σ H x vs v us Q I rx rv h
  obtain ⟨l, bs, k, rfl, rfl, hH, q⟩ := h
  cases rx
  obtain ⟨u0, rfl, ru⟩ := rv.one
  cases (show u0 = Value.bool k from ru)
  obtain ⟨z, its, n, r, hl, e⟩ := I.lstM hH
  cases vals_bls r
  refine call_meets F.slot_list_count ⟨_, e, rfl⟩ F.entry_list_count (F.args_list_count_2 _ _) (PySem.SeqAt.list_countAt l (bs.map Value.bool).toArray n none _ (.bool k) (isBoolOf k)) ⟨e, fun y hy => ?_, ?_⟩
  · replace hy := List.mem_map.mp (List.mem_toArray.mp hy)
    obtain ⟨b, _, rfl⟩ := hy
    exact PySem.SeqAt.EqAt.bool_bool b k
  · rw [show (bs.map Value.bool).toArray.toList = bs.map Value.bool from rfl, count_bools]
    exact ⟨.int _, H, I.tok _, ⟨_, rfl⟩, q⟩
def rStrI : List V → Hp → VK → Prop := fun xs H Q => ∃ n : Int, xs = [.int n] ∧ n.natAbs.log2 < 1920 ∧ Q (.str (toString n)) H
theorem call_strI : CallR X (.type "str") rStrI := by
  intro pins s σ H xs us Q I r h
  obtain ⟨n, rfl, hn, q⟩ := h
  obtain ⟨u, rfl, t, rfl⟩ := vals1 r
  exact PySem.P.str_of_int hn ⟨.str _, H, I.tok _, ⟨_, rfl⟩, q⟩
def tFmt (ta tb : TE) (m : Str) : TE := fun σ H Q => ta σ H fun x H1 => ∃ z, x = .str z ∧ z.length ≤ 1000 ∧ tb σ H1 fun y H2 => ∃ n : Int, y = .int n ∧ n.natAbs.log2 < 1920 ∧ (z ++ m ++ (toString n : Str)).length ≤ sizeLine ∧ Q (.str (z ++ m ++ (toString n : Str))) H2
theorem pe_fmt {a b : Expr} {ta tb : TE} {m : Str} {p1 p2 p3 pos : Pos} {j : Nat} (ha : PE X a ta) (hb : PE X b tb) (hm : m.length ≤ 1000 := by decide) : PE X (.JoinedStr [.FormattedValue a (-1) none p1, .Constant (.str m) j p2, .FormattedValue b (-1) none p3] pos) (tFmt ta tb m) := by
  intro pins s σ H Q I h
  refine JoinedStr_many (joinParts_cons (FormattedValue_plain (thn (ha pins s σ H _ I h) fun v s1 ⟨x, H1, I1, r1, z, ex, hz, q1⟩ => ?_)))
  subst ex
  obtain ⟨t, rfl⟩ := r1
  have sl : (1000 : Nat) + 1000 ≤ sizeLine := by decide
  have e0 : Str.empty ++ z = z := Str.empty_append z
  refine formatField_str (fun t' tk => ?_) (by omega)
  refine ⟨by rw [e0]; omega, joinParts_cons (Calls.Constant_str ⟨?_, joinParts_cons (FormattedValue_plain ?_)⟩)⟩
  · rw [e0, strLen_append]; omega
  refine thn (hb pins _ σ H1 _ (I1.tok (tk + 1)) q1) fun v2 s2 ⟨y, H2, I2, r2, n, ey, hn, hl, q2⟩ => ?_
  subst ey
  obtain ⟨t2, rfl⟩ := r2
  refine formatField_int_small hn ⟨by rw [e0]; exact hl, joinParts_nil ?_ (by rw [e0]; exact hl)⟩
  rw [e0]
  exact ⟨.str _, H2, I2.tok _, ⟨_, rfl⟩, q2⟩
end
end L2
set_option Elab.async false
set_option linter.all false
set_option maxRecDepth 100000
set_option maxHeartbeats 4000000
namespace L2
open PySem PySem.Spec PyProof.Rows PySem.W PySem.Calls
open Builtin Builtin.ObjectAttr Builtin.Getset_descriptor
structure ExcIs (K : Frag) (D : Addr) : Prop where
  cd : (clsIn K D).isSome = true
  ga : findIn K (.ref D) "__getattribute__" = some (some (.builtin "BaseException.__getattribute__"))
  gh : findIn K (.ref D) "__getattr__" = some none
  ca : findIn K (.ref D) "__class__" = some (some (.builtin "object.__class__"))
  cg : specialIn K (.builtin "object.__class__") "__get__" = some (some (.builtin "getset_descriptor.__get__"))
  ct : takesIn K (.builtin "object.__class__") = some true
  mo : PySem.W.mroIn K D (.type "object") = some true
  mb : PySem.W.mroIn K D (.type "BaseException") = some true
def ExAt (ea D : Addr) : Heap → Prop := fun h => ∃ oe, h.get? ea = some oe ∧ oe.cls = .ref D
section
variable {prog : Program} {w : World} {A : Around} {E : Value → Shared → Prop} {s : Shared} {K : Frag} {x D : Addr} {R : Result → Shared → Prop}
theorem ExAt.type {M : Model} {h : Heap} (I : ExAt x D h) : Looks M h (typeOf (.ref x)) (.ref D) := by
  obtain ⟨oe, e, c⟩ := I
  exact c ▸ (Looks.ld e).andThen .now
theorem exc_class_get {tp : Value} (X : K.In s.heap) (I : ExAt x D s.heap) (hm : PySem.W.mroIn K D (.type "object") = some true)
    (h : R (.ok (.ret (.ref D))) s) : codeAny (model prog w) A (.call (.builtin "getset_descriptor.__get__") ⟨[.builtin "object.__class__", .ref x, tp], []⟩) R s := by
  obtain ⟨hh, g, dr, t, os⟩ := s
  have L0 := I.type (M := model prog w)
  have L1 := looks_mroIn (M := model prog w) X hm
  refine codeAny_call_builtin KF.slot_gs.plain KF.entry_gs (KF.slot_gs.check _ _ _ _ _ _ _ _ KF.type_class (KF.args_gs _ _ _) ?_)
  unfold Builtin.«getset_descriptor.__get__» descrGet
  rw [dga_obj]
  refine wpAny_bind (wpAny_pure ?_)
  unfold descrGetter descrCheckInstance descrNameAndClass isInstance
  simp only [KF.owner_class]
  repeat lk
  refine ⟨Code.quiet_builtin _ (by decide +kernel), codeAny_builtin KF.entry_class ?_⟩
  unfold Builtin.«object.__class__» shownTypeOf
  repeat lk
  exact h
theorem exc_class {Q : Option Value → Shared → Prop} (T : ExcIs K D) (X : K.In s.heap) (I : ExAt x D s.heap) (h : Q (some (.ref D)) { s with toks := s.toks + 1 }) : wpAny (model prog w) A (getAttr? (.ref x) "__class__") Q E s := by
  obtain ⟨hh, g, d, t, os⟩ := s
  have L0 := I.type (M := model prog w)
  have L1 := looks_findIn (M := model prog w) X T.ga
  have L2 := looks_findIn (M := model prog w) X T.gh
  have L3 : Looks (model prog w) hh (find (.ref x) (.ref D) "__class__") (.bind (.builtin "getset_descriptor.__get__") (.builtin "object.__class__")) :=
    (looks_findIn (M := model prog w) X T.ca).andThen ((show Looks (model prog w) hh (getOf (some (.builtin "object.__class__"))) (some (.builtin "getset_descriptor.__get__")) from looks_specialIn X T.cg).andThen
      ((show Looks (model prog w) hh (dataDescriptor? (some (.builtin "object.__class__")) (some (.builtin "getset_descriptor.__get__"))) (some ((.builtin "getset_descriptor.__get__"), (.builtin "object.__class__"))) from (looks_takesIn X T.ct).andThen .now).andThen (Looks.tag .now)))
  unfold getAttr? getAttrBy? getAttrBy
  refine wpAny_bind (wpAny_mkText (wpAny_bind (wpAny_attempt (wpAny_holding (wpAny_bind (L0.at (wpAny_bind (L1.at ?_))))))))
  show wpAny _ _ (getAttrByItsOwn _ _ _ _ _ _) _ _ _
  unfold getAttrByItsOwn
  refine wpAny_bind (show wpAny _ _ (typeLookup (.ref D) "__getattr__") _ _ _ from L2.at ?_)
  refine wpAny_bind (wpAny_attempt (wpAny_holding ?_))
  show wpAny _ _ (boundAndCalled _ _ _) _ _ _
  unfold boundAndCalled
  rw [PySem.F.excAttr_ValueError.ga.bind]
  refine wpAny_bind (wpAny_pure ?_)
  refine wpAny_call (codeAny_call_builtin PySem.F.excAttr_ValueError.ga.plain PySem.F.entry_bexc_ga (check_slot (i := "BaseException.__getattribute__") (owner := "BaseException") (n := "__getattribute__") (by decide +kernel) (by decide +kernel) (L0.andThen (looks_mroIn X T.mb)) (PySem.F.args_bexc_ga _ _) ?_))
  refine wpAny_bind (show wpAny _ _ (pure (Value.ref x, [Value.str "__class__" t])) _ _ _ from wpAny_pure ?_)
  refine wpAny_bind (show wpAny _ _ (pure ("__class__" : Str)) _ _ _ from wpAny_pure ?_)
  refine wpAny_bind (L0.at (wpAny_bind (L3.at ?_)))
  show wpAny _ _ (holding [.builtin "object.__class__"] (call (.builtin "getset_descriptor.__get__") [.builtin "object.__class__", .ref x, .ref D]) >>= ret) _ _ _
  refine wpAny_bind (wpAny_holding (wpAny_call (exc_class_get (s := ⟨hh, g, d, t + 1, os⟩) X I T.mo (wpAny_pure ?_))))
  exact wpAny_pure (wpAny_pure h)
theorem kitx_exc (T : ExcIs K D) : KitX K (.ref x) (.ref D) (ExAt x D) where
  ty := fun _ _ _ I => I.type
  it := fun _ _ X _ => by
    obtain ⟨cdD, hcD⟩ := Option.isSome_iff_exists.mp T.cd
    unfold clsIn at hcD
    split at hcD
    · rename_i c' d' cd' sl' ho
      intro A' Q' E' s' k q
      unfold isType loadHead
      exact wpAny_bind (wpAny_loadPart (k _ _ (X _ _ ho)) (wpAny_pure q))
    · cases hcD
  ne := fun h tp dd its n sl X htp => by
    obtain ⟨cdD, hcD⟩ := Option.isSome_iff_exists.mp T.cd
    refine Bool.eq_false_iff.mpr fun q => ?_
    have e : D = tp := Value.ref.inj (beq_iff_eq.mp q)
    subst e
    unfold clsIn at hcD
    split at hcD
    · rename_i c' d' cd' sl' ho
      have z := (X _ _ ho).symm.trans htp
      cases z
    · cases hcD
  ca := fun X I k => exc_class T X I k
end
def rIsiE (K : Frag) (ea D : Addr) : List V → Hp → VK → Prop := fun xs H Q => ∃ c b, (∃ T, xs = [.ref ea, .ty T] ∧ c = Value.type T ∨ ∃ C, xs = [.ref ea, .ref C] ∧ c = Value.ref C) ∧ kitOne K (.ref D) c = some b ∧ Q (.bl b) H
theorem call_isiE {X : Cx} {ea D : Addr} {oe : Obj} (T : ExcIs X.K D) (hp : (ea, oe) ∈ X.pn) (hc : oe.cls = .ref D) : CallR X (.builtin "isinstance") (rIsiE X.K ea D) := by
  intro pins s σ H xs us Q I r h
  obtain ⟨c, b, hx, e, q⟩ := h
  have ex : ExAt ea D s.heap := ⟨oe, (I.pin _ (List.mem_append_left _ hp)).1, hc⟩
  have fin : wpAny (model X.prog X.w) X.A (call (.builtin "isinstance") [.ref ea, c]) (EP X pins σ Q) X.xe s := kia_one (kitx_exc T) I.kIn ex e (fun z => nomatch z) fun tk => ⟨.bl b, H, I.tok tk, rfl, q⟩
  obtain ⟨T', ⟨rfl, rfl⟩ | ⟨C, rfl, rfl⟩⟩ := hx
  · obtain ⟨u, v, rfl, ru, rv⟩ := Vals.two r
    cases (show u = Value.ref ea from ru)
    cases (show v = Value.type T' from rv)
    exact fin
  · obtain ⟨u, v, rfl, ru, rv⟩ := Vals.two r
    cases (show u = Value.ref ea from ru)
    cases (show v = Value.ref C from rv)
    exact fin
theorem leaves_cx {P : Program} {w : World} {K : PySem.W.Frag} {mg : Str → Option Value} {base : Heap} {N : List Str} {qual : Str} {scope : Scope} {f : Addr} {cd : Value} {A : Around} {outer : List Env} {s : Shared} {H : Hp} {E : XK} :
    LeavesAt (cxOf (CXE P w) P w K mg base N qual scope f cd A outer s H E) E := fun pins σ H' ea cls fl s' I a q =>
  Inv.leaveA (X := cxOf (CXE P w) P w K mg base N qual scope f cd A outer s H E) (outer := outer) ⟨rfl, rfl, rfl, rfl⟩ I a q
def EF : XK := fun _ _ _ => False
theorem passF {X : Cx} {P : Program} {w : World} : Passes (CXE P w) X EF := fun _ _ _ _ _ _ _ ⟨_, _, _, _, _, q⟩ => q.elim
section
variable {P : Program} {w : World} {K : PySem.W.Frag} {mg : Str → Option Value} {base : Heap}
theorem Fun.okE {x qual : Str} {st : Stmt} {f : Addr} {fd : FuncData} {N ps : List Str} {k : Nat} {sp : Sp} (F : Fun K x qual st f fd) (S : FnScope N ps (defScope st)) (len : ∀ vs H Q E, sp vs H Q E → vs.length = ps.length)
    (hbody : ∀ (cdv : Value) (A : Around) (outer : List Env) (s : Shared) (H : Hp) (vs : List V) (Q : VK) (E : XK), Room k (A.deeper (envOfC qual (defScope st) s.heap.objs.size f cdv)) → sp vs H Q E →
      ∃ t, PSs (cxOf (CXE P w) P w K mg base N qual (defScope st) f cdv A outer s H E) (defBody st) t ∧ t { nx := fun _ H' => Q .non H', rt := Q } (start N vs) H) : FnOk P w K mg base (CXE P w) (k + 1) f fd ps sp := by
  obtain ⟨oc, od, kV, doc, pm, an, cdv, ct, osl, rfl, lk, hcd⟩ := F.ex
  exact fn_of lk hcd S len fun A outer s H vs Q E hr hsp => hbody cdv A outer s H vs Q E hr hsp
def HasE (P : Program) (w : World) (K : PySem.W.Frag) (mg : Str → Option Value) (base : Heap) (k : Nat) (x : Str) (ps : List Str) (sp : Sp) : Prop :=
  ∃ f fd, FnOk P w K mg base (CXE P w) k f fd ps sp ∧ mg x = some (.ref f) ∧ PySem.W.keepIn K (.ref f) = true ∧ Binds K fd ps []
end
def tTryAs (te : XK → TE) (i : Nat) (D1 : Addr) (t : Addr → TS) : TS := fun D σ H => te (fun cls _ H' => cls = .ref D1 ∧ ∀ (ea : Addr) (σ' : St), σ'.length = σ.length → t ea { D with nx := fun _ _ => False, bk := fun _ _ => False, ct := fun _ _ => False } (σ'.set i (some (.ref ea))) H') σ H fun _ H1 => D.nx σ H1
section
variable {X : Cx} {outer : List Env}
theorem ps_tryAs {e : Expr} {pos epos np1 p1 : Pos} {te : XK → TE} {x1 n : Str} {C1 D1 : Addr} {b0 : Stmt} {suite : List Stmt} {t : Addr → TS} {bmB : List Value} {nid : String} {i : Nat} (O : OwnB X outer)
    (he : ∀ pn xe EE, Passes (CXE X.prog X.w) (X.at pn xe) EE → PE (X.at pn xe) e (te EE))
    (g1 : Gl X x1) (m1 : X.mg x1 = some (.ref C1)) (q1 : PySem.W.excIn X.K C1 bmB nid = true) (qD : PySem.W.excIn X.K D1 bmB nid = true) (hB : bmB.contains (.type "BaseException") = true)
    (n11 : (L2.mroIn X.K D1).contains (.ref C1) = true) (hN : X.N.Nodup) (hi : X.N[i]? = some n) (hk : X.env.kindOf n = some .local) (hlc : X.env.scope.names.lookup n = some .local)
    (h1 : ∀ ea oe pn, oe.cls = .ref D1 → PSs (X.marked ea ((ea, oe) :: pn) fun _ _ => False) (b0 :: suite) (t ea))
    (hs : swapsWith e none epos.line X.env = pure false := by rfl) (hd1 : (x1 == ("__debug__" : Str)) = false := by decide) :
    PS X (.Try [.Expr e epos] [.ExceptHandler (some (.Name x1 np1)) (some n) (b0 :: suite) p1] [] [] pos) (tTryAs te i D1 t) := by
  intro pins s σ H D I h
  have hl := I.len
  refine wpAny_Try_except ?_
  refine wpAny_mono ((pss_one (ps_expr (he (X.pn ++ pins) (fun e s' => ∃ (σ' : St) (H0 : Hp) (s0 : Shared) (ea : Addr) (cls : Value) (H' : Hp), e = .ref ea ∧ Inv X pins σ' H0 s0 ∧ Fly X.prog X.w X.stack H0 s0 H' ea cls .none s' ∧ cls = .ref D1 ∧ ∀ (ea : Addr) (σ' : St), σ'.length = σ.length → t ea { D with nx := fun _ _ => False, bk := fun _ _ => False, ct := fun _ _ => False } (σ'.set i (some (.ref ea))) H') _
    (fun pins' σ' H0 s0 e s' I0 ⟨ea, cls, H', he, F, q⟩ => ⟨σ', H0, s0, ea, cls, H', he, I0.ofAt, F, q⟩)) hs)) [] s σ H D I.toAt h) (fun f s1 hq => ?_) (fun e s1 hq => ?_)
  · cases f with
    | next =>
      obtain ⟨σ1, H1, I1, q1⟩ := hq
      exact wpAny_execs_nil ⟨σ1, H1, I1.ofAt, q1⟩
    | brk => exact SP.ofAt hq
    | cont => exact SP.ofAt hq
    | ret u => exact SP.ofAt hq
  · obtain ⟨σ', H0, s0, ea, cls, H', rfl, I0, F, rfl, q⟩ := hq
    refine caught_at O I0 F fun h2' F2 => ?_
    exact clause_at O I0 F2 g1 m1 qD q1 hB (fun _ h3 F3 => suiteAs_at I0 F2 hN hi hk (fun oe pn hc => h1 ea oe pn hc) (q ea σ' (by rw [I0.len, hl])) hlc) (fun z => by rw [n11] at z; cases z) hd1
end
end L2
set_option Elab.async false
set_option linter.all false
set_option maxRecDepth 100000
set_option maxHeartbeats 4000000
namespace Oh
open PySem L2
def zR05 (K : PySem.W.Frag)  : TS :=
    (tSeq (tAsg (tOp (rIxT K) (tVar 0) (tC (.int 0))) (gName 1))
    (tSeq (tAsg (tOp (rIxT K) (tVar 0) (tC (.int 1))) (gName 2))
    (tRet (tFmt (tVar 1) (tVar 2) " "))))
def zR0d (K : PySem.W.Frag) (zsp05 : Sp) : TS :=
    (tRet (tLC (iList K (tVar 0)) (gName 0) tNoIf (tCall zsp05 [] E0 (tCons (tVar 0) tNil)) [none]))
def zR07 (K : PySem.W.Frag)  : TS :=
    (tSeq (tIfS (tOr (tTest (tOp rEq (tVar 0) (tC (.str "")))) (tTest (tOp rNe (tBM K "str" rStripC (tVar 0) (tCons (tC (.str "0123456789")) tNil)) (tC (.str "")))))
    (tRet (tC (.bl false)))
    tNext)
    (tRet (tOrV (tOp rEq (tVar 0) (tC (.str "0"))) (tNotV (tBM K "str" rStarts (tVar 0) (tCons (tC (.str "0")) tNil))))))
def zR09 (K : PySem.W.Frag) (zsp07 : Sp) (C_NoLine : Addr) (E : XK) : TS :=
    (tSeq (tAsg (tBM K "str" rSplit (tVar 0) (tCons (tC (.str " ")) tNil)) (gName 1))
    (tSeq (tIfS (tTest (tOp rNe (tCB (rLenQ K) (tCons (tVar 1) tNil)) (tC (.int 2))))
    (tRaise E C_NoLine)
    tNext)
    (tSeq (tIfS (tTest (tOp (rIn K true) (tOp (rIxL K) (tVar 1) (tC (.int 0))) (tTup (tCons (tC (.str "open")) (tCons (tC (.str "yes")) (tCons (tC (.str "no")) (tCons (tC (.str "bound")) (tCons (tC (.str "off")) tNil))))))))
    (tRaise E C_NoLine)
    tNext)
    (tSeq (tIfS (tNot (tB (tCall zsp07 [] E0 (tCons (tOp (rIxL K) (tVar 1) (tC (.int 1))) tNil))))
    (tRaise E C_NoLine)
    tNext)
    (tRet (tTup (tCons (tOp (rIxL K) (tVar 1) (tC (.int 0))) (tCons (tCB rIntS (tCons (tOp (rIxL K) (tVar 1) (tC (.int 1))) tNil)) tNil))))))))
def zR0e (K : PySem.W.Frag) (zsp09 : Sp) (zsp0b : Sp) (C_NoBook : Addr) (E : XK) : TS :=
    (tSeq (tAsg (tLC (iList K (tVar 0)) (gName 0) tNoIf (tCall zsp09 [] E (tCons (tVar 0) tNil)) [none]) (gName 1))
    (tSeq (tIfS (tNot (tB (tCall zsp0b [] E0 (tCons (tVar 1) tNil))))
    (tRaise E C_NoBook)
    tNext)
    (tRet (tVar 1))))
def zR04 (K : PySem.W.Frag)  : TS :=
    (tSeq (tAsg (tLst tNil) (gName 1))
    (tSeq (tAsg tDNewK (gName 2))
    (tSeq (tFor (iList K (tVar 0)) (gName 3)
    (tSeq (tAsg (tOp (rIxL K) (tLst (tCons (tC (.int 0)) (tCons (tC (.int 9)) (tCons (tC (.int 10)) (tCons (tC (.int 1)) (tCons (tC (.int 2)) (tCons (tC (.int 100000000000000000000)) tNil))))))) (tOp rModI (tOp rModI (tOp rMulI (tVar 3) (tC (.int 48271))) (tC (.int 1009))) (tC (.int 6)))) (gName 4))
    (tCut (tIfS (tTest (tOp rEq (tOp rModI (tOp rModI (tOp rMulI (tVar 3) (tC (.int 48271))) (tC (.int 1063))) (tC (.int 4))) (tC (.int 1))))
    (tAsg (tOp rAddI (tC (.int 100)) (tOp rModI (tOp rMulI (tVar 3) (tC (.int 48271))) (tC (.int 1000000000000)))) (gName 4))
    tNext)
    (tSeq (tAsg (tDGet2 (tVar 2) (tVar 4) (tLst tNil)) (gName 5))
    (tSeq (tAsg (tOp (rIxL K) (tLst (tCons (tC (.str "open")) (tCons (tC (.str "yes")) (tCons (tC (.str "no")) (tCons (tC (.str "off")) tNil))))) (tOp rModI (tOp rModI (tOp rMulI (tVar 3) (tC (.int 48271))) (tC (.int 1013))) (tC (.int 4)))) (gName 6))
    (tCut (tIfS (tOr (tTest (tOp rEqD (tVar 5) (tLst (tCons (tC (.str "open")) tNil)))) (tTest (tOp rEqD (tVar 5) (tLst (tCons (tC (.str "yes")) tNil)))))
    (tAsg (tOp (rIxL K) (tLst (tCons (tC (.str "bound")) (tCons (tC (.str "off")) tNil))) (tOp rModI (tOp rModI (tOp rMulI (tVar 3) (tC (.int 48271))) (tC (.int 1019))) (tC (.int 2)))) (gName 6))
    tNext)
    (tIfS (tOr (tTest (tOp rEqD (tVar 5) (tLst tNil))) (tOr (tTest (tOp rEqD (tVar 5) (tLst (tCons (tC (.str "open")) tNil)))) (tTest (tOp rEqD (tVar 5) (tLst (tCons (tC (.str "yes")) tNil))))))
    (tSeq (tDrop (tBM K "list" rAppend (tVar 1) (tCons (tTup (tCons (tVar 6) (tCons (tVar 4) tNil))) tNil)))
    (sDPut (tVar 2) (tVar 4) (tOp rCat (tVar 5) (tLst (tCons (tVar 6) tNil)))))
    tNext)))))))
    (tRet (tVar 1)))))
def zR0a (K : PySem.W.Frag) (zsp0e : Sp) (C_NoLine : Addr) (C_NoBook : Addr) : TS :=
    (tSeq (tAsg (tC (.str "read")) (gName 1))
    (tSeq (tTry2 (fun EE => (tCall zsp0e [] EE (tCons (tVar 0) tNil))) C_NoLine C_NoBook (tAsg (tC (.str "no line")) (gName 1)) (tAsg (tC (.str "no book")) (gName 1)))
    (tRet (tVar 1))))
def zR00 (K : PySem.W.Frag) (zsp0e : Sp) (C_HallError : Addr) (C_NoLine : Addr) (C_NoBook : Addr) : TS :=
    (tSeq (tTryAs (fun EE => (tCall zsp0e [] EE (tCons (tVar 0) tNil))) 1 C_NoLine (fun ea => (tSeq (tAsg (tLst (tCons (tCB (rIsiE K ea C_NoLine) (tCons (tVar 1) (tCons (tC (.ref C_NoLine)) tNil))) (tCons (tCB (rIsiE K ea C_NoLine) (tCons (tVar 1) (tCons (tC (.ref C_NoBook)) tNil))) tNil))) (gName 2))
    (tRet (tAndV (tCB (rIsiE K ea C_NoLine) (tCons (tVar 1) (tCons (tC (.ty "ValueError")) tNil))) (tOp rEq (tBM K "list" rCountB (tVar 2) (tCons (tC (.bl true)) tNil)) (tC (.int 1))))))))
    (tRet (tC (.bl false))))
def zR02 (K : PySem.W.Frag)  : TS :=
    (tSeq (tAsg (tLst (tCons (tC (.str "")) (tCons (tC (.str "yes")) (tCons (tC (.str "yes ")) (tCons (tC (.str " yes 1")) (tCons (tC (.str "yes  1")) (tCons (tC (.str "Yes 1")) (tCons (tC (.str "maybe 1")) (tCons (tC (.str "yes 01")) (tCons (tC (.str "yes -1")) (tCons (tC (.str "yes +1")) tNil))))))))))) (gName 2))
    (tSeq (tAsg (tOp rCat (tVar 2) (tLst (tCons (tC (.str "yes 1 ")) (tCons (tC (.str "yes x")) (tCons (tC (.str "yes 1 2")) (tCons (tC (.str "1 yes")) (tCons (tC (.str "yes1")) (tCons (tC (.str "yes 00")) tNil)))))))) (gName 2))
    (tSeq (tAsg (tOp rModI (tOp rModI (tOp rMulI (tVar 1) (tC (.int 48271))) (tC (.int 1021))) (tOp rAddI (tCB (rLenQ K) (tCons (tVar 0) tNil)) (tC (.int 1)))) (gName 3))
    (tRet (tOp rCat (tOp rCat (tSl (rSlL K) (tVar 0) tNoPart (tPart (tVar 3))) (tLst (tCons (tOp (rIxL K) (tVar 2) (tOp rModI (tOp rModI (tOp rMulI (tVar 1) (tC (.int 48271))) (tC (.int 1031))) (tCB (rLenQ K) (tCons (tVar 2) tNil)))) tNil))) (tSl (rSlL K) (tVar 0) (tPart (tVar 3)) tNoPart))))))
def zR0f (K : PySem.W.Frag) (zsp04 : Sp) (zsp0d : Sp) (zsp0e : Sp) (zsp01 : Sp) (zsp0c : Sp) (zsp02 : Sp) (zsp0a : Sp) (zsp00 : Sp) : TS :=
    (tSeq (tAsg (tCall zsp04 [] E0 (tCons (tSl (rSlL K) (tVar 0) (tPart (tC (.int 2))) (tPart (tC (.int 150)))) tNil)) (gName 1))
    (tSeq (tAsg (tLC (iList K (tVar 1)) (gName 0) tNoIf (tOp rCatS (tOp rCatS (tOp (rIxT K) (tVar 0) (tC (.int 0))) (tC (.str " "))) (tCB rStrI (tCons (tOp (rIxT K) (tVar 0) (tC (.int 1))) tNil))) [none]) (gName 2))
    (tSeq (tAsg (tCall zsp0d [] E0 (tCons (tCB (rListQ K) (tCons (tVar 1) tNil)) tNil)) (gName 3))
    (tSeq (tIfS (tOr (tNot (tB (tCB (rIsi K) (tCons (tVar 3) (tCons (tC (.ty "list")) tNil))))) (tTest (tOp rNe (tCB (rLenQ K) (tCons (tVar 3) tNil)) (tCB (rLenQ K) (tCons (tVar 2) tNil)))))
    (tRet (tC (.bl false)))
    tNext)
    (tSeq (tFor (iRng1 (tCons (tCB (rLenQ K) (tCons (tVar 2) tNil)) tNil)) (gName 4)
    (tIfS (tOr (tNot (tB (tCB (rIsi K) (tCons (tOp (rIxL K) (tVar 3) (tVar 4)) (tCons (tC (.ty "str")) tNil))))) (tTest (tOp rNe (tOp (rIxL K) (tVar 3) (tVar 4)) (tOp (rIxL K) (tVar 2) (tVar 4)))))
    (tRet (tC (.bl false)))
    tNext))
    (tSeq (tAsg (tCall zsp0e [] EF (tCons (tCB (rListQ K) (tCons (tVar 2) tNil)) tNil)) (gName 5))
    (tSeq (tIfS (tOr (tNot (tB (tCall zsp01 [] E0 (tCons (tVar 5) tNil)))) (tTest (tOp rNeD (tVar 5) (tVar 1))))
    (tRet (tC (.bl false)))
    tNext)
    (tSeq (tIfS (tTest (tOp rNe (tCall zsp0a [] E0 (tCons (tCall zsp02 [] E0 (tCons (tVar 2) (tCons (tCall zsp0c [] E0 (tCons (tVar 0) (tCons (tC (.int 0)) tNil))) tNil))) tNil)) (tC (.str "no line"))))
    (tRet (tC (.bl false)))
    tNext)
    (tSeq (tAsg (tOp (rIxL K) (tLst (tCons (tC (.str "bound 7")) (tCons (tC (.str "bound 0")) tNil))) (tOp rModI (tOp rModI (tOp rMulI (tCall zsp0c [] E0 (tCons (tVar 0) (tCons (tC (.int 1)) tNil))) (tC (.int 48271))) (tC (.int 1033))) (tC (.int 2)))) (gName 6))
    (tSeq (tAsg (tLC (iList K (tVar 1)) (gName 0) (tTest (tOp rEq (tOp (rIxT K) (tVar 0) (tC (.int 1))) (tC (.int 0)))) (tOp (rIxT K) (tVar 0) (tC (.int 0))) [none]) (gName 7))
    (tSeq (tAsg (tC (.str "no book")) (gName 8))
    (tCut (tIfS (tAnd (tTest (tOp rEq (tVar 6) (tC (.str "bound 0")))) (tTest (tOp (rInD false) (tVar 7) (tLst (tCons (tLst (tCons (tC (.str "open")) tNil)) (tCons (tLst (tCons (tC (.str "yes")) tNil)) tNil))))))
    (tAsg (tC (.str "read")) (gName 8))
    tNext)
    (tSeq (tIfS (tTest (tOp rNe (tCall zsp0a [] E0 (tCons (tOp rCat (tVar 2) (tLst (tCons (tVar 6) tNil))) tNil)) (tVar 8)))
    (tRet (tC (.bl false)))
    tNext)
    (tSeq (tIfS (tTest (tOp rEq (tCB (rLenQ K) (tCons (tVar 2) tNil)) (tC (.int 0))))
    (tRet (tC (.bl true)))
    tNext)
    (tSeq (tAsg (tOp (rIxL K) (tVar 1) (tOp rModI (tOp rModI (tOp rMulI (tCall zsp0c [] E0 (tCons (tVar 0) (tCons (tC (.int 1)) tNil))) (tC (.int 48271))) (tC (.int 1039))) (tCB (rLenQ K) (tCons (tVar 1) tNil)))) (gName 9))
    (tSeq (tIfS (tTest (tOp rNe (tCall zsp0a [] E0 (tCons (tOp rCat (tVar 2) (tLst (tCons (tOp rCatS (tOp rCatS (tOp (rIxT K) (tVar 9) (tC (.int 0))) (tC (.str " "))) (tCB rStrI (tCons (tOp (rIxT K) (tVar 9) (tC (.int 1))) tNil))) tNil))) tNil)) (tC (.str "no book"))))
    (tRet (tC (.bl false)))
    tNext)
    (tSeq (tAsg (tCall zsp02 [] E0 (tCons (tOp rCat (tVar 2) (tLst (tCons (tVar 6) tNil))) (tCons (tCall zsp0c [] E0 (tCons (tVar 0) (tCons (tC (.int 0)) tNil))) tNil))) (gName 10))
    (tRet (tAndV (tOp rEq (tCall zsp0a [] E0 (tCons (tVar 10) tNil)) (tC (.str "no line"))) (tCall zsp00 [] E0 (tCons (tVar 10) tNil)))))))))))))))))))))
local macro_rules | `(tactic| walk_at "ne") => `(tactic| first | assumption | (refine' Ne.symm ?k1; (case k1 => assumption)) | (refine' ne_new ?k1 ?k2; (case k1 => assumption); (case k2 => walk_at "hl")) | (refine' ne_newR ?k1 ?k2; (case k1 => assumption); (case k2 => walk_at "rd")) | (refine' Ne.symm (ne_new ?k1 ?k2); (case k1 => assumption); (case k2 => walk_at "hl")) | (refine' Ne.symm (ne_newR ?k1 ?k2); (case k1 => assumption); (case k2 => walk_at "rd")))
local macro_rules | `(tactic| walk_at "hl") => `(tactic| with_reducible first | assumption | exact upd_same | (refine' upd_at ?k1 ?k2; (case k1 => walk_at "ne"); (case k2 => walk_at "hl")) | (refine' Same.at ?k1 ?k2; (case k1 => assumption); (case k2 => walk_at "hl")))
local macro_rules | `(tactic| walk_at "rd") => `(tactic| with_reducible first | assumption | (refine' Rd.of ?k1; (case k1 => walk_at "hl")) | (refine' Rd.upd ?k1 ?k2; (case k1 => walk_at "ne"); (case k2 => walk_at "rd")) | (refine' Rd.same ?k1 ?k2; (case k1 => assumption); (case k2 => walk_at "rd")))
local macro_rules | `(tactic| walk_at "sq") => `(tactic| with_reducible first | assumption | (refine' sqLr ?k1; (case k1 => walk_at "rd")) | (refine' sqTr ?k1; (case k1 => walk_at "rd")) | (refine' SqL.new ?k1 ?k2; (case k1 => assumption); (case k2 => walk_at "sq")) | (refine' Same.seq ?k1 ?k2; (case k1 => assumption); (case k2 => walk_at "sq")))
local macro_rules | `(tactic| walk_at "rf") => `(tactic| first | with_unfolding_all rfl | assumption)
local macro_rules | `(tactic| walk_at "fl") => `(tactic| first | with_unfolding_all rfl | exact flat_strs _ | exact flat_ints _)
local macro_rules | `(tactic| walk_at "st") => `(tactic| with_reducible first
  | refine st_seq ?_ | refine st_asg ?_ | refine st_gname ?_ | refine st_if ?_ | refine st_ret ?_ | refine st_retN ?_
  | refine st_drop ?_ | refine st_next ?_ | refine st_test ?_ | refine st_B ?_ | refine st_bl ?_ | refine st_int ?_
  | refine st_and ?_ | refine st_or ?_ | refine st_not ?_ | refine st_andV ?_ | refine st_orV ?_ | refine st_notV ?_ | refine st_ifE ?_
  | refine st_chain ?_ | refine st_op ?_ | refine st_un ?_ | refine st_isN ?_ | refine st_notN ?_
  | refine st_nil ?_ | refine st_cons ?_ | refine st_tup ?_ | refine st_lst ?_ | refine st_dnew ?_ | refine st_call ?_ | refine st_cb ?_
  | (refine' st_var ?k1 ?_; (case k1 => walk_at "rf")) | refine st_c ?_
  | refine st_rI0 ?_ | refine st_rU ?_ | (refine' st_rI ?k1 ?_; (case k1 => first | exact mulR (by decide) | exact divR (by decide) | decide | (show (0 : Int) < _; decide)))
  | (refine' st_rEq ?k1 ?_; (case k1 => walk_at "rf")) | (refine' st_rNe ?k1 ?_; (case k1 => walk_at "rf"))
  | (refine' st_ixL ?k1 ?k2 ?_; (case k1 => walk_at "sq"); (case k2 => walk_at "rf")) | (refine' st_ixT ?k1 ?k2 ?_; (case k1 => walk_at "sq"); (case k2 => walk_at "rf"))
  | (refine' st_lenL ?k1 ?_; (case k1 => walk_at "sq")) | (refine' st_lenT ?k1 ?_; (case k1 => walk_at "sq"))
  | (refine' st_inL ?k1 ?k2 ?k3 ?_; (case k1 => walk_at "sq"); (case k2 => walk_at "rf"); (case k3 => walk_at "fl"))
  | (refine' st_inT ?k1 ?k2 ?k3 ?_; (case k1 => walk_at "sq"); (case k2 => walk_at "rf"); (case k3 => walk_at "fl"))
  | (refine' st_listL ?k1 ?_; (case k1 => walk_at "sq")) | refine st_min ?_ | refine st_intB ?_
  | refine st_sl ?_ | refine st_noPart ?_ | refine st_part ?_ | (refine' st_slL ?k1 ?_; (case k1 => walk_at "sq"))
  | refine st_meth ?_ | (refine' st_insM ?k1 ?k2 ?_; (case k1 => walk_at "hl"); (case k2 => walk_at "rf")) | refine st_sfld ?_
  | (refine' st_ins ?k1 ?k2 ?k3 ?k4 ?_; (case k1 => walk_at "hl"); (case k2 => assumption); (case k3 => assumption); (case k4 => walk_at "rf")) | (refine' st_lenD ?k1 ?_; (case k1 => walk_at "hl"))
  | refine st_bm ?_ | refine st_fld ?_ | refine st_dput ?_ | refine st_dget2 ?_ | refine st_dget ?_ | refine st_dsetd ?_
  | refine st_for ?_ | refine st_iList ?_ | (refine' st_itl ?k1 ?_; (case k1 => walk_at "sq")) | refine st_iRng ?_ | refine st_lc ?_ | refine st_noIf ?_
  | (refine' st_sz ?k1 ?_; (case k1 => with_unfolding_all rfl))
  | (refine' st_isD ?k1 ?_; (case k1 => walk_at "hl")) | (refine' st_dgetK ?k1 ?_; (case k1 => walk_at "hl")))
local macro_rules | `(tactic| walk_at "go") => `(tactic| repeat walk_at "st")
local macro_rules | `(tactic| walk_at "new") => `(tactic| ((with_reducible refine st_all ?_); intro p hp; generalize hH : upd _ p _ = H'; have hs := same_of hp hH; have hg := at_of hH; clear hH))
local macro_rules | `(tactic| walk_at "sm") => `(tactic| with_reducible first | assumption | exact Same.refl _ | (refine' Same.trans ?k1 ?k2; (case k2 => assumption); (case k1 => walk_at "sm")))
local macro_rules | `(tactic| walk_at "goA") => `(tactic| repeat (first | walk_at "st" | walk_at "new"))
section
open PySem.Builtin PySem.Builtin.Str PySem.NumText PySem.W.KIN
abbrev numS (n : Int) : Str := Str.ofString (toString n)
def lineS (l : Line) : Str := l.1 ++ " " ++ numS l.2
theorem num_digits {n : Int} (h0 : 0 ≤ n) : AllDigits (numS n).cps.toList ∧ (numS n).cps.toList ≠ [] := by
  obtain ⟨m, rfl⟩ := Int.eq_ofNat_of_zero_le h0
  refine ⟨fun c hc => ?_, ?_⟩
  · rw [signs_num] at hc
    obtain ⟨ch, hch, e⟩ := List.mem_map.mp hc
    rw [← e]
    exact PyProof.Rows.digit_range (Nat.isDigit_of_mem_toDigits (by decide) (by decide) hch)
  · rw [signs_num]
    intro e
    have h := PySem.toDigits_len_ge 10 m
    rw [List.map_eq_nil_iff.mp e] at h
    exact absurd h (by decide)
theorem num_len {n : Int} (h0 : 0 ≤ n) (h1 : n < 10 ^ 30) : (numS n).length ≤ 30 := PyProof.Rows.toString_length_le h0 (by decide) h1
theorem num_back {n : Int} (h0 : 0 ≤ n) (h1 : n < 10 ^ 30) : PySem.intText? (numS n) = some n := by
  obtain ⟨a, b⟩ := num_digits h0
  have hl := num_len h0 h1
  have e := intText_digits a b (Nat.le_trans hl (by decide))
  obtain ⟨m, rfl⟩ := Int.eq_ofNat_of_zero_le h0
  rw [signs_num, val_back] at e
  exact e
theorem num_log {n : Int} (h0 : 0 ≤ n) (h1 : n < 10 ^ 30) : n.natAbs.log2 < 1920 := by
  by_cases e : n.natAbs = 0
  · rw [e]; decide
  · refine (Nat.log2_lt e).mpr (Nat.lt_of_lt_of_le (show n.natAbs < 10 ^ 30 by omega) ?_)
    exact Nat.le_trans (by decide : 10 ^ 30 ≤ 2 ^ 100) (Nat.pow_le_pow_right (by decide) (show 100 ≤ 1920 by decide))
theorem str_eq {a b : Str} (h : a.cps.toList = b.cps.toList) : a = b := Str.ext' (Array.toList_inj.mp h)
theorem strip_digits {z : Str} (h : AllDigits z.cps.toList) : Txt.stripChars z "0123456789" = "" := by
  unfold Txt.stripChars
  rw [PyProof.Rows.stripBy_eq]
  have g : ∀ c : Nat, c < 58 → 48 ≤ c → ("0123456789" : Str).cps.contains c = true := by decide +kernel
  have e : stripLo ("0123456789" : Str).cps.contains true z = z.length := by
    simp only [stripLo, if_true]
    rw [NumText.takeWhile_all fun c hc => g c (by have := h c hc; omega) (h c hc).1]
    simp [Str.length]
  apply str_eq
  rw [StrLaws.strSub_toList, e]
  rw [List.drop_of_length_le (by simp [Str.length])]
  simp
  rfl
theorem head_digit (m : Nat) (h : 0 < m) : ∃ c r, (Nat.toDigits 10 m).map Char.toNat = c :: r ∧ c ≠ 48 := by
  induction m using Nat.strongRecOn with
  | _ m ih =>
    by_cases h10 : m < 10
    · rw [Nat.toDigits_of_lt_base h10]
      refine ⟨_, _, rfl, ?_⟩
      have : ∀ d : Nat, d < 10 → 0 < d → (Nat.digitChar d).toNat ≠ 48 := by decide
      exact this m h10 h
    · have hm : m % 10 < 10 := Nat.mod_lt m (by decide)
      have t : Nat.toDigits 10 (m / 10) ++ Nat.toDigits 10 (m % 10) = Nat.toDigits 10 (10 * (m / 10) + m % 10) := Nat.toDigits_append_toDigits (by decide) (by omega) hm
      rw [Nat.div_add_mod] at t
      obtain ⟨c, r, e, hc⟩ := ih (m / 10) (by omega) (by omega)
      rw [← t, List.map_append, e]
      exact ⟨c, _, rfl, hc⟩
def isNumB (z : Str) : Bool := if (decide (z = "") || !decide (Txt.stripChars z "0123456789" = "")) = true then false else decide (z = "0") || !Txt.startswith z "0"
theorem num_is {n : Int} (h0 : 0 ≤ n) : isNumB (numS n) = true := by
  obtain ⟨a, b⟩ := num_digits h0
  unfold isNumB
  rw [strip_digits a, decide_eq_false (fun z => b (by rw [z]; rfl)), decide_eq_true rfl]
  rw [if_neg (by decide)]
  obtain ⟨m, rfl⟩ := Int.eq_ofNat_of_zero_le h0
  by_cases e : m = 0
  · subst e; decide +kernel
  · obtain ⟨c, r, e1, hc⟩ := head_digit m (by omega)
    rw [← signs_num] at e1
    have : Txt.startswith (numS (m : Int)) "0" = false := by
      unfold Txt.startswith
      rw [StrLaws.subAt_eq, e1]
      have e2 : (List.take (Str.length "0") (List.drop 0 (c :: r)) == Array.toList (Str.cps "0")) = false := by
        show ([c] == [48]) = false
        simpa using hc
      rw [e2, Bool.and_false]
    rw [this]
    simp
theorem cut_eq : ∀ {a b c e : List Nat}, 32 ∉ a → 32 ∉ b → a ++ 32 :: c = b ++ 32 :: e → a = b ∧ c = e
  | [], [], c, e, _, _, h => by
    injection h with _ h
    exact ⟨rfl, h⟩
  | [], y :: b, c, e, _, hb, h => by
    injection h with h1 h2
    exact absurd (h1 ▸ List.mem_cons_self) hb
  | x :: a, [], c, e, ha, _, h => by
    injection h with h1 h2
    exact absurd (h1 ▸ List.mem_cons_self) ha
  | x :: a, y :: b, c, e, ha, hb, h => by
    injection h with h1 h2
    obtain ⟨r1, r2⟩ := cut_eq (fun m => ha (List.mem_cons_of_mem _ m)) (fun m => hb (List.mem_cons_of_mem _ m)) h2
    exact ⟨by rw [h1, r1], r2⟩
theorem app_list3 (a b : Str) : (a ++ " " ++ b).cps.toList = a.cps.toList ++ 32 :: b.cps.toList := by
  rw [Str.cps_append, Str.cps_append, Array.toList_append, Array.toList_append, List.append_assoc]
  rfl
theorem split_two {w d : Str} (hw : 32 ∉ w.cps.toList) (hd : 32 ∉ d.cps.toList) : Txt.split (w ++ " " ++ d) " " = [w, d] := by
  have hj := StrLaws.join_split (w ++ " " ++ d) " "
  have hf := StrLaws.split_free (w ++ " " ++ d) 32
  have e32 : (⟨#[32]⟩ : Str) = " " := by decide +kernel
  rw [e32] at hf
  generalize Txt.split (w ++ " " ++ d) " " = l at hj hf
  have has : 32 ∈ (w ++ " " ++ d).cps.toList := by rw [app_list3]; simp
  cases l with
  | nil =>
    rw [← hj] at has
    exact absurd has (by decide)
  | cons p l =>
    cases l with
    | nil =>
      have : p = w ++ " " ++ d := hj
      rw [← this] at has
      exact absurd has (hf p List.mem_cons_self)
    | cons q l =>
      have h1 : p ++ " " ++ Str.join " " (q :: l) = w ++ " " ++ d := hj
      have h2 := congrArg (fun x => x.cps.toList) h1
      simp only [app_list3] at h2
      obtain ⟨r1, r2⟩ := cut_eq (hf p List.mem_cons_self) hw h2
      cases l with
      | nil =>
        rw [str_eq r1, show q = d from str_eq r2]
      | cons q2 l =>
        have h3 : Str.join " " (q :: q2 :: l) = q ++ " " ++ Str.join " " (q2 :: l) := rfl
        rw [h3, app_list3] at r2
        exact absurd (by rw [← r2]; simp) hd
end
theorem word_free {w : Str} (h : isWord w) : 32 ∉ w.cps.toList ∧ w.length ≤ 10 := by rcases h with rfl | rfl | rfl | rfl | rfl <;> decide +kernel
def LineOk (l : Line) : Prop := isWord l.1 ∧ 0 ≤ l.2 ∧ l.2 < 10 ^ 30
def BookOk (b : List Line) : Prop := ∀ l ∈ b, LineOk l
theorem lineS_len {l : Line} (h : LineOk l) : (lineS l).length ≤ 50 := by
  unfold lineS
  rw [PySem.strLen_append, PySem.strLen_append]
  have h1 := (word_free h.1).2
  have h2 := num_len h.2.1 h.2.2
  have h3 : Str.length " " = 1 := by decide +kernel
  omega
theorem split_line {l : Line} (h : LineOk l) : Txt.split (lineS l) " " = [l.1, numS l.2] := by
  refine split_two (word_free h.1).1 fun m => ?_
  have := (num_digits h.2.1).1 32 m
  omega
def wordB (a : Str) : Bool := inV (.str a) [.str "open", .str "yes", .str "no", .str "bound", .str "off"]
theorem wordB_of {a : Str} (h : isWord a) : wordB a = true := by rcases h with rfl | rfl | rfl | rfl | rfl <;> decide +kernel
def bads : List Str := ["", "yes", "yes ", " yes 1", "yes  1", "Yes 1", "maybe 1", "yes 01", "yes -1", "yes +1", "yes 1 ", "yes x", "yes 1 2", "1 yes", "yes1", "yes 00"]
def badB (z : Str) : Bool := decide (z.length ≤ 50) && decide ((Txt.split z " ").length ≤ 50) && match Txt.split z " " with
  | [a, b] => (!wordB a || !isNumB b) && decide (b.length ≤ 50)
  | _ => true
theorem bads_all : bads.all badB = true := by decide +kernel
theorem bad_ok {z : Str} (h : z ∈ bads) : z.length ≤ 50 ∧ (Txt.split z " ").length ≤ 50 ∧ ((Txt.split z " ").length ≠ 2 ∨ ∃ a b, Txt.split z " " = [a, b] ∧ b.length ≤ 50 ∧ (wordB a = false ∨ (wordB a = true ∧ isNumB b = false))) := by
  have q := List.all_eq_true.mp bads_all z h
  unfold badB at q
  rw [Bool.and_eq_true, Bool.and_eq_true, decide_eq_true_eq, decide_eq_true_eq] at q
  obtain ⟨⟨q1, q2⟩, q3⟩ := q
  refine ⟨q1, q2, ?_⟩
  generalize Txt.split z " " = l at q3
  match l, q3 with
  | [], _ => exact .inl (by decide)
  | [_], _ => exact .inl (by simp)
  | [a, b], q3 =>
    rw [Bool.and_eq_true, Bool.or_eq_true, decide_eq_true_eq] at q3
    refine .inr ⟨a, b, rfl, q3.2, ?_⟩
    cases hw : wordB a with
    | false => exact .inl rfl
    | true =>
      refine .inr ⟨rfl, ?_⟩
      rw [hw] at q3
      simpa using q3.1
  | _ :: _ :: _ :: r, _ => exact .inl (by simp)
theorem soundFrom_snoc (l : Line) : ∀ (b seen : List Line), soundFrom seen (b ++ [l]) = (soundFrom seen b && canStand l.1 (wordsOf (seen ++ b) l.2))
  | [], seen => by
    rw [List.nil_append, List.append_nil]
    show (canStand l.1 (wordsOf seen l.2) && true) = (true && canStand l.1 (wordsOf seen l.2))
    rw [Bool.and_true, Bool.true_and]
  | x :: b, seen => by
    rw [List.cons_append]
    show (canStand x.1 (wordsOf seen x.2) && soundFrom (seen ++ [x]) (b ++ [l])) = (canStand x.1 (wordsOf seen x.2) && soundFrom (seen ++ [x]) b && _)
    rw [soundFrom_snoc l b (seen ++ [x]), Bool.and_assoc, List.append_assoc]
    rfl
theorem sound_snoc (b : List Line) (l : Line) : sound (b ++ [l]) = (sound b && canStand l.1 (wordsOf b l.2)) := soundFrom_snoc l b []
theorem mem_wordsOf {b : List Line} {l : Line} (h : l ∈ b) : l.1 ∈ wordsOf b l.2 := List.mem_map.mpr ⟨l, List.mem_filter.mpr ⟨h, by simp⟩, rfl⟩
theorem again_no {b : List Line} {l : Line} (h : l ∈ b) : sound (b ++ [l]) = false := by
  rw [sound_snoc, Bool.and_eq_false_iff]
  right
  have m := mem_wordsOf h
  cases e : canStand l.1 (wordsOf b l.2) with
  | false => rfl
  | true =>
    exfalso
    unfold canStand at e
    split at e
    · rename_i z; rw [z] at m; cases m
    · simp only [Bool.and_eq_true, decide_eq_true_eq] at e
      obtain ⟨e1, e2⟩ := e
      rcases e1 with e1 | e1 <;> rw [e1] at m <;> rw [List.mem_singleton.mp m] at e2 <;> exact absurd e2 (by decide +kernel)
theorem bound_is {b : List Line} (h : sound b = true) (n : Int) : sound (b ++ [(("bound" : Str), n)]) = decide (wordsOf b n = [("open" : Str)] ∨ wordsOf b n = [("yes" : Str)]) := by
  rw [sound_snoc, h, Bool.true_and]
  unfold canStand
  split
  · rename_i z
    have z : wordsOf b n = [] := z
    rw [z]; show decide ((("bound" : Str)) = "open" ∨ (("bound" : Str)) = "yes" ∨ (("bound" : Str)) = "no" ∨ (("bound" : Str)) = "off") = _; decide +kernel
  · show (decide (wordsOf b n = _ ∨ wordsOf b n = _) && decide (("bound" : Str) = "bound" ∨ ("bound" : Str) = "off")) = _
    rw [decide_eq_true (Or.inl rfl : ("bound" : Str) = "bound" ∨ ("bound" : Str) = "off"), Bool.and_true]
theorem bound_no {b : List Line} {n : Int} (h : ∀ l ∈ b, l.2 ≠ n) : sound (b ++ [(("bound" : Str), n)]) = false := by
  rw [sound_snoc, Bool.and_eq_false_iff]
  right
  have e : wordsOf b n = [] := by
    unfold wordsOf
    rw [List.filter_eq_nil_iff.mpr fun l hl => by simpa using h l hl]
    rfl
  show canStand "bound" (wordsOf b n) = false
  rw [e]; decide +kernel
def zsp05 : Sp := fun vs H Q _ => ∃ t l, vs = [.ref t] ∧ Rd H t (.tup [.str l.1, .int l.2]) ∧ LineOk l ∧ Q (.str (lineS l)) H
theorem zrd05 {K : PySem.W.Frag} {vs : List V} {H : Hp} {Q : VK} {E : XK} (h : zsp05 vs H Q E) : zR05 K { nx := fun _ H' => Q .non H', rt := Q } (start ["line", "word", "bargain"] vs) H := by
  obtain ⟨t, l, rfl, rt, ok, k⟩ := h
  unfold zR05
  walk_at "go"
  have hl := lineS_len ok
  have hw := (word_free ok.1).2
  refine (show tVar 1 _ _ _ from st_var (by rfl) ⟨_, rfl, by omega, show tVar 2 _ _ _ from st_var (by rfl) ⟨_, rfl, num_log ok.2.1 ok.2.2, ?_, k⟩⟩)
  exact Nat.le_trans hl (by decide)
def zsp0d : Sp := fun vs H Q _ => ∃ a b, vs = [.ref a] ∧ Rep H [] (.ref a) (bookD b) ∧ BookOk b ∧ b.length ≤ 900 ∧ ∀ p H', H p = none → Same H H' → H' p = some (.lst ((b.map lineS).map .str)) → Q (.ref p) H'
theorem zrd0d {K : PySem.W.Frag} {vs : List V} {H : Hp} {Q : VK} {E : XK} (h : zsp0d vs H Q E) : zR0d K zsp05 { nx := fun _ H' => Q .non H', rt := Q } (start ["book"] vs) H := by
  obtain ⟨a, b, rfl, hb, ok, hl, k⟩ := h
  obtain ⟨_, xs, e, rd, _, rs⟩ := hb.lst_inv
  cases e
  refine ⟨_, rfl, a, rfl, ⟨xs, sqLr rd⟩, fun p hp => ?_⟩
  have hxl : xs.length = b.length := by rw [rs.length, List.length_map]
  refine lc_list (K := K) (a := a) (xs := xs) (fun i ys σ H' => ∃ v, σ = [v] ∧ H' = upd H p (.lst ys) ∧ ys = ((b.take i).map lineS).map .str) ⟨none, rfl, rfl, rfl⟩ ?_ ?_ ?_
  · rintro i ys σ H' hi hp' ⟨v, rfl, rfl, rfl⟩
    walk_at "sq"
  · rintro i x ys σ H' hx hp' ⟨v, rfl, rfl, rfl⟩
    obtain ⟨l, t, hb', rfl, rt⟩ := line_at rs hx
    walk_at "go"
    refine iteT ?_
    walk_at "go"
    refine ⟨t, l, rfl, rt.upd (rt.ne_none hp), ok l (List.mem_of_getElem? hb'), ?_⟩
    refine ⟨_, upd_same, ?_, _, upd_same, _, rfl, upd_upd, ?_⟩
    · rw [List.length_map, List.length_map, List.length_take]
      exact len_small (by omega)
    · rw [take_snoc hb', List.map_append, List.map_append]; rfl
  · rintro ys σ H' hp' ⟨v, rfl, rfl, rfl⟩
    refine k p _ hp (Same.new hp) ?_
    rw [upd_same, List.take_of_length_le (by omega)]
def zsp07 : Sp := fun vs H Q _ => ∃ z, vs = [.str z] ∧ z.length ≤ 1000 ∧ Q (.bl (isNumB z)) H
theorem zrd07 {K : PySem.W.Frag} {vs : List V} {H : Hp} {Q : VK} {E : XK} (h : zsp07 vs H Q E) : zR07 K { nx := fun _ H' => Q .non H', rt := Q } (start ["figures"] vs) H := by
  obtain ⟨z, rfl, hl, k⟩ := h
  unfold isNumB at k
  unfold zR07
  walk_at "go"
  by_cases e : z = ""
  · rw [if_pos (by simp [e])]
    walk_at "go"
    rw [decide_eq_true e, Bool.true_or, if_pos rfl] at k
    exact k
  · rw [if_neg (by simp [e])]
    rw [decide_eq_false e, Bool.false_or] at k
    walk_at "go"
    refine ⟨rfl, ?_⟩
    walk_at "go"
    refine ⟨z, "0123456789", rfl, rfl, Nat.le_trans hl (by decide), ?_⟩
    walk_at "go"
    by_cases e2 : Txt.stripChars z "0123456789" = ""
    · rw [if_neg (by simp [e2])]
      rw [decide_eq_true e2, if_neg (by decide)] at k
      walk_at "go"
      by_cases e3 : z = "0"
      · rw [if_pos (by simp [e3])]
        rw [decide_eq_true e3, Bool.true_or] at k
        walk_at "go"
        exact k
      · rw [if_neg (by simp [e3])]
        rw [decide_eq_false e3, Bool.false_or] at k
        walk_at "go"
        refine ⟨rfl, ?_⟩
        walk_at "go"
        refine ⟨z, "0", rfl, rfl, ?_⟩
        walk_at "go"
        exact k
    · rw [if_pos (by simp [e2])]
      rw [decide_eq_false e2, if_pos (by decide)] at k
      walk_at "go"
      exact k
def zsp09 (C : Addr) : Sp := fun vs H Q E => ∃ z, vs = [.str z] ∧ ((∃ l, z = lineS l ∧ LineOk l ∧ ∀ t H', H t = none → Same H H' → H' t = some (.tup [.str l.1, .int l.2]) → Q (.ref t) H') ∨ (z ∈ bads ∧ ∀ H', Same H H' → E (.ref C) none H'))
theorem zrd09 {K : PySem.W.Frag} {C : Addr} {vs : List V} {H : Hp} {Q : VK} {E : XK} (h : zsp09 C vs H Q E) : zR09 K zsp07 C E { nx := fun _ H' => Q .non H', rt := Q } (start ["text", "parts"] vs) H := by
  obtain ⟨z, rfl, h⟩ := h
  have hz : z.length ≤ 50 ∧ (Txt.split z " ").length ≤ 50 := by
    rcases h with ⟨l, rfl, ok, _⟩ | ⟨hb, _⟩
    · exact ⟨lineS_len ok, by rw [split_line ok]; simp⟩
    · obtain ⟨h1, h2, _⟩ := bad_ok hb
      exact ⟨h1, h2⟩
  unfold zR09
  walk_at "go"
  refine ⟨rfl, ?_⟩
  walk_at "go"
  refine ⟨z, " ", rfl, rfl, by decide, Nat.le_trans hz.1 (by decide), Nat.le_trans hz.2 (by decide), ?_⟩
  walk_at "new"
  rename_i p hp H1 s1 g1
  walk_at "go"
  rcases h with ⟨l, rfl, ok, k⟩ | ⟨hb, k⟩
  · rw [split_line ok] at g1 ⊢
    rw [if_neg (by simp)]
    have a0 : atI (([l.1, numS l.2] : List Str).map V.str) 0 = some (.str l.1) := rfl
    have a1 : atI (([l.1, numS l.2] : List Str).map V.str) 1 = some (.str (numS l.2)) := rfl
    walk_at "goA"
    rename_i q hq H2 s2 g2
    show if (if true = true then !wordB l.1 else _) = true then _ else _
    rw [if_pos (by rfl : true = true), wordB_of ok.1]
    refine iteF ?_
    walk_at "go"
    refine ⟨numS l.2, rfl, Nat.le_trans (num_len ok.2.1 ok.2.2) (by decide), ?_⟩
    rw [num_is ok.2.1]
    walk_at "go"
    refine iteF ?_
    walk_at "go"
    refine ⟨numS l.2, l.2, rfl, num_back ok.2.1 ok.2.2, Nat.le_trans (num_len ok.2.1 ok.2.2) (by decide), ?_⟩
    walk_at "goA"
    rename_i t ht H3 s3 g3
    exact k t H3 ((s1.trans s2).free ht) ((s1.trans s2).trans s3) g3
  · obtain ⟨_, _, hb⟩ := bad_ok hb
    rcases hb with hn | ⟨a, b, es, hb, hw⟩
    · rw [if_pos (by simp; omega)]
      exact k H1 s1
    · rw [es] at g1 ⊢
      rw [if_neg (by simp)]
      have a0 : atI (([a, b] : List Str).map V.str) 0 = some (.str a) := rfl
      have a1 : atI (([a, b] : List Str).map V.str) 1 = some (.str b) := rfl
      walk_at "goA"
      rename_i q hq H2 s2 g2
      show if (if true = true then !wordB a else _) = true then _ else _
      rw [if_pos (by rfl : true = true)]
      rcases hw with hw | ⟨hw, hnm⟩
      · rw [hw]
        refine iteT ?_
        exact k H2 (s1.trans s2)
      · rw [hw]
        refine iteF ?_
        walk_at "go"
        refine ⟨b, rfl, by omega, ?_⟩
        rw [hnm]
        walk_at "go"
        refine iteT ?_
        exact k H2 (s1.trans s2)
def Goods (zs : List Str) (b : List Line) : Prop := zs = b.map lineS ∧ BookOk b ∧ b.length ≤ 900
def Spoilt (zs : List Str) : Prop := ∃ b x r, zs = b.map lineS ++ x :: r ∧ BookOk b ∧ x ∈ bads ∧ b.length ≤ 900
def zsp0e (CL CB : Addr) : Sp := fun vs H Q E => ∃ a zs, vs = [.ref a] ∧ Rd H a (.lst (zs.map .str)) ∧ ((∃ b, Goods zs b ∧ (sound b = true → ∀ p H', H p = none → Same H H' → Rep H' [] (.ref p) (bookD b) → Q (.ref p) H') ∧ (sound b = false → ∀ H', Same H H' → E (.ref CB) none H')) ∨ (Spoilt zs ∧ ∀ H', Same H H' → E (.ref CL) none H'))
theorem BookOk.ok {b : List Line} (h : BookOk b) : OkB b := fun l hl => (h l hl).1.ok
theorem zrd0e {K : PySem.W.Frag} {CL CB : Addr} {vs : List V} {H : Hp} {Q : VK} {E : XK} (h : zsp0e CL CB vs H Q E) : zR0e K (zsp09 CL) zsp0b CB E { nx := fun _ H' => Q .non H', rt := Q } (start ["lines", "book"] vs) H := by
  obtain ⟨a, zs, rfl, rd, h⟩ := h
  unfold zR0e
  walk_at "go"
  intro p hp
  -- what stands of it: a good part, and maybe a bad text behind
  obtain ⟨b, r, ez, ok, hl, hr⟩ : ∃ b r, zs = b.map lineS ++ r ∧ BookOk b ∧ b.length ≤ 900 ∧ ((r = [] ∧ (sound b = true → ∀ p H', H p = none → Same H H' → Rep H' [] (.ref p) (bookD b) → Q (.ref p) H') ∧ (sound b = false → ∀ H', Same H H' → E (.ref CB) none H')) ∨ ∃ x r', r = x :: r' ∧ x ∈ bads ∧ ∀ H', Same H H' → E (.ref CL) none H') := by
    rcases h with ⟨b, ⟨e, ok, hl⟩, k1, k2⟩ | ⟨⟨b, x, r, e, ok, hx, hl⟩, k⟩
    · exact ⟨b, [], by rw [e, List.append_nil], ok, hl, .inl ⟨rfl, k1, k2⟩⟩
    · exact ⟨b, x :: r, e, ok, hl, .inr ⟨x, r, rfl, hx, k⟩⟩
  have hz : ∀ i x, (zs.map V.str)[i]? = some x → (∃ l, b[i]? = some l ∧ x = .str (lineS l)) ∨ (i = b.length ∧ ∃ x' , x = .str x' ∧ x' ∈ bads ∧ ∀ H', Same H H' → E (.ref CL) none H') ∨ b.length < i := by
    intro i x hx
    rw [ez, List.getElem?_map] at hx
    by_cases hi : i < b.length
    · left
      rw [List.getElem?_append_left (by rw [List.length_map]; exact hi), List.getElem?_map] at hx
      rw [List.getElem?_eq_getElem hi] at hx ⊢
      exact ⟨_, rfl, (Option.some.inj hx).symm⟩
    · right
      rcases Nat.lt_or_eq_of_le (Nat.le_of_not_lt hi) with y | y
      · exact .inr y
      · left
        refine ⟨y.symm, ?_⟩
        subst y
        rw [List.getElem?_append_right (by simp)] at hx
        rcases hr with ⟨rfl, _⟩ | ⟨x', r', rfl, hx', k⟩
        · simp at hx
        · simp at hx
          exact ⟨x', hx.symm, hx', k⟩
  refine lc_list (K := K) (a := a) (xs := zs.map .str) (fun i ys σ H' => ∃ v, σ = [v] ∧ Same H H' ∧ i ≤ b.length ∧ Reps H' [p] ys ((b.take i).map lineD)) ⟨none, rfl, Same.new hp, Nat.zero_le _, .nil⟩ ?_ ?_ ?_
  · rintro i ys σ H' hi hp' ⟨v, rfl, s, _, _⟩
    exact s.seq (sqLr rd)
  · rintro i x ys σ H' hx hp' ⟨v, rfl, s, hi, rs⟩
    rcases hz i x hx with ⟨l, hb', rfl⟩ | ⟨rfl, x', rfl, hx', k⟩ | z
    · walk_at "go"
      refine iteT ?_
      walk_at "go"
      refine ⟨lineS l, rfl, .inl ⟨l, rfl, ok l (List.mem_of_getElem? hb'), fun t H2 ht s2 g2 => ?_⟩⟩
      have tp : t ≠ p := fun e => by subst e; rw [hp'] at ht; cases ht
      have hp2 := s2 _ _ hp'
      have lt := (List.getElem?_eq_some_iff.mp hb').1
      refine ⟨ys, hp2, ?_, _, upd_same, _, rfl, (s.trans s2).put hp, by omega, ?_⟩
      · rw [rs.length, List.length_map, List.length_take]
        exact len_small (by omega)
      · rw [take_snoc hb', List.map_append]
        have c : Chg [p] H2 (upd H2 p (.lst (ys ++ [.ref t]))) := Chg.set (by rw [hp2]; exact trivial) List.mem_cons_self
        exact Reps.snoc ((rs.same s2).chg c) (Rep.chg c (.tup (.inl g2) (.cons (.str _) (.cons (.int _) .nil))))
    · walk_at "go"
      refine iteT ?_
      walk_at "go"
      exact ⟨x', rfl, .inr ⟨hx', fun H2 s2 => k H2 (s.trans s2)⟩⟩
    · omega
  · rintro ys σ H' hp' ⟨v, rfl, s, hi, rs⟩
    have hlen : (zs.map V.str).length = b.length := by
      rw [List.length_map] at hi ⊢
      rw [ez, List.length_append, List.length_map] at hi ⊢
      omega
    rcases hr with ⟨rfl, k1, k2⟩ | ⟨x, r', rfl, hx, k⟩
    · rw [hlen, List.take_of_length_le (Nat.le_refl _)] at rs
      have hb : Rep H' [] (.ref p) (bookD b) := .lst (.inl hp') (by simp) rs.plain
      walk_at "go"
      refine ⟨p, b, rfl, hb, hl, ok.ok, fun H2 s2 => ?_⟩
      walk_at "go"
      cases hs : sound b with
      | true =>
        refine iteF ?_
        walk_at "go"
        exact k1 hs p H2 hp (s.trans s2) (hb.same s2)
      | false =>
        refine iteT ?_
        exact k2 hs H2 (s.trans s2)
    · rw [ez, List.length_map, List.length_append, List.length_cons, List.length_map] at hlen
      omega
def zsp0a (CL CB : Addr) : Sp := fun vs H Q _ => ∃ a zs, vs = [.ref a] ∧ Rd H a (.lst (zs.map .str)) ∧ ((∃ b, Goods zs b ∧ ∀ H', Same H H' → Q (.str (if sound b = true then "read" else "no book")) H') ∨ (Spoilt zs ∧ ∀ H', Same H H' → Q (.str "no line") H'))
theorem two_of {σ : St} (h : σ.length = 2) : ∃ u v, σ = [u, v] := by
  match σ, h with
  | [u, v], _ => exact ⟨u, v, rfl⟩
theorem three_of {σ : St} (h : σ.length = 3) : ∃ u v w, σ = [u, v, w] := by
  match σ, h with
  | [u, v, w], _ => exact ⟨u, v, w, rfl⟩
theorem zrd0a {K : PySem.W.Frag} {CL CB : Addr} {vs : List V} {H : Hp} {Q : VK} {E : XK} (h : zsp0a CL CB vs H Q E) : zR0a K (zsp0e CL CB) CL CB { nx := fun _ H' => Q .non H', rt := Q } (start ["_law_lines", "_law_word"] vs) H := by
  obtain ⟨a, zs, rfl, rd, h⟩ := h
  unfold zR0a
  walk_at "go"
  unfold tTry2
  walk_at "go"
  refine ⟨a, zs, rfl, rd, ?_⟩
  rcases h with ⟨b, g, k⟩ | ⟨sp, k⟩
  · refine .inl ⟨b, g, fun hs p H' hp s _ => ?_, fun hs H' s σ' hσ => .inr ⟨rfl, ?_⟩⟩
    · rw [if_pos hs] at k
      walk_at "go"
      exact k H' s
    · rw [if_neg (by rw [hs]; decide)] at k
      obtain ⟨u, v, rfl⟩ := two_of hσ
      walk_at "go"
      exact k H' s
  · refine .inr ⟨sp, fun H' s σ' hσ => .inl ⟨rfl, ?_⟩⟩
    obtain ⟨u, v, rfl⟩ := two_of hσ
    walk_at "go"
    exact k H' s
def zsp00 : Sp := fun vs H Q _ => ∃ a zs, vs = [.ref a] ∧ Rd H a (.lst (zs.map .str)) ∧ Spoilt zs ∧ ∀ H', Same H H' → Q (.bl true) H'
theorem zrd00 {K : PySem.W.Frag} {CH CL CB : Addr} (n2 : PySem.W.kitOne K (.ref CL) (.ref CB) = some false) (n3 : PySem.W.kitOne K (.ref CL) (.type "ValueError") = some true) {vs : List V} {H : Hp} {Q : VK} {E : XK} (h : zsp00 vs H Q E) :
    zR00 K (zsp0e CL CB) CH CL CB { nx := fun _ H' => Q .non H', rt := Q } (start ["_law_lines", "e", "_law_kinds"] vs) H := by
  obtain ⟨a, zs, rfl, rd, sp, k⟩ := h
  unfold zR00
  walk_at "go"
  unfold tTryAs
  walk_at "go"
  refine ⟨a, zs, rfl, rd, .inr ⟨sp, fun H' s => ⟨rfl, fun ea σ' hσ => ?_⟩⟩⟩
  obtain ⟨u, v, w, rfl⟩ := three_of hσ
  show tSeq _ _ _ [u, some (.ref ea), w] _
  walk_at "go"
  refine ⟨_, true, ⟨"", .inr ⟨CL, rfl, rfl⟩⟩, by unfold PySem.W.kitOne; rw [if_pos (by simp)], ?_⟩
  walk_at "go"
  refine ⟨_, false, ⟨"", .inr ⟨CB, rfl, rfl⟩⟩, n2, ?_⟩
  walk_at "goA"
  rename_i q hq H2 s2 g2
  refine ⟨_, true, ⟨"ValueError", .inl ⟨rfl, rfl⟩⟩, n3, ?_⟩
  walk_at "go"
  refine iteT ?_
  walk_at "go"
  refine ⟨.inl ⟨rfl, _, by walk_at "sq"⟩, ?_⟩
  walk_at "go"
  refine ⟨q, [true, false], true, rfl, rfl, g2, ?_⟩
  walk_at "go"
  exact k H2 (s.trans s2)
theorem ok13_nil : OkW [] := by intro z hz; cases hz
theorem ok13_one {w : Str} (h : PyData.strOk w = true) : OkW [w] := by intro z hz; rw [List.mem_singleton.mp hz]; exact h
theorem ok13_open : OkW ["open"] := ok13_one (by decide +kernel)
theorem ok13_yes : OkW ["yes"] := ok13_one (by decide +kernel)
theorem word13 {xs : List V} {r : Int} {P : Str → Prop} (h0 : 0 ≤ r) (h1 : r < xs.length) (hw : ∀ v ∈ xs, ∃ w, v = .str w ∧ P w) : ∃ w, atI xs r = some (.str w) ∧ P w := by
  obtain ⟨v, hv, e⟩ := atI_mem h0 h1
  obtain ⟨w, rfl, h⟩ := hw v hv
  exact ⟨w, e, h⟩
def BTab (H : Hp) (pb : Addr) (kvs : List (Key × V)) (b : List Line) : Prop := ∀ n, (∀ v, valV kvs (Sum.inl n : Key) = some v → ∃ r, v = .ref r ∧ H r = some (.lst ((wordsOf b n).map .str)) ∧ r ≠ pb) ∧ (valV kvs (Sum.inl n : Key) = none → wordsOf b n = [])
theorem BTab.at {H : Hp} {pb p : Addr} {kvs : List (Key × V)} {b : List Line} {n : Int} {H' : Hp} (S : BTab H pb kvs b) (s : Same H H') (g : H' p = some (.lst [])) (hp : p ≠ pb) :
    ∃ r, (valV kvs (Sum.inl n : Key)).getD (.ref p) = .ref r ∧ H' r = some (.lst ((wordsOf b n).map .str)) ∧ r ≠ pb := by
  cases e : valV kvs (Sum.inl n : Key) with
  | none => exact ⟨p, rfl, by rw [(S n).2 e]; exact g, hp⟩
  | some v =>
    obtain ⟨r, rfl, h1, h2⟩ := (S n).1 v e
    exact ⟨r, rfl, s _ _ h1, h2⟩
def Num13 (n : Int) : Prop := 0 ≤ n ∧ n < 10 ^ 30 ∧ n ≠ 7
theorem num13_big (z : Int) : Num13 (100 + z % 1000000000000) := by
  have h1 := Int.emod_nonneg z (show (1000000000000 : Int) ≠ 0 by decide)
  have h2 := Int.emod_lt_of_pos z (show (0 : Int) < 1000000000000 by decide)
  generalize z % 1000000000000 = m at *
  refine ⟨by omega, Int.lt_trans (show 100 + m < 10 ^ 13 by omega) (by decide), by omega⟩
def zsp04 (K : PySem.W.Frag) : Sp := fun vs H Q _ => ∃ (a : Addr) (ns : List Int), vs = [.ref a] ∧ SqL K H a (ns.map .int) ∧ ns.length ≤ 200 ∧
  ∀ p b H', H p = none → Same H H' → Rep H' [] (.ref p) (bookD b) → sound b = true → BookOk b → (∀ l ∈ b, l.2 ≠ 7) → b.length ≤ 200 → Q (.ref p) H'
theorem zrd04 {K : PySem.W.Frag} {vs : List V} {H : Hp} {Q : VK} {E : XK} (h : zsp04 K vs H Q E) : zR04 K { nx := fun _ H' => Q .non H', rt := Q }
    (start ["_law_cells", "_law_book", "_law_states", "_law_cell", "_law_bargain", "_law_lines", "_law_word"] vs) H := by
  obtain ⟨a, ns, rfl, hS, hlen, k⟩ := h
  unfold zR04
  walk_at "go"
  walk_at "new"
  rename_i pb hpb H1 s1 g1
  walk_at "go"
  walk_at "new"
  rename_i d hd H2 s2 g2
  have hd0 : H d = none := s1.free hd
  have npd : pb ≠ d := ne_new hd g1
  walk_at "go"
  refine for_list (K := K) (a := a) (xs := ns.map V.int) (fun i σ H' => ∃ v3 v4 v5 v6 b xs kvs, σ = [some (.ref a), some (.ref pb), some (.ref d), v3, v4, v5, v6] ∧ Same H H' ∧
      H' pb = some (.lst xs) ∧ Reps H' [pb, d] xs (b.map lineD) ∧ b.length ≤ i ∧ BookOk b ∧ (∀ l ∈ b, l.2 ≠ 7) ∧ sound b = true ∧ H' d = some (.dK kvs) ∧ kvs.length ≤ i ∧ BTab H' pb kvs b)
    ⟨none, none, none, none, [], [], [], rfl, s1.trans s2, s2 _ _ g1, .nil, Nat.le_refl _, (by intro l hl; cases hl), (by intro l hl; cases hl), rfl, g2, Nat.le_refl _, fun n => ⟨(by intro v hv; cases hv), fun _ => rfl⟩⟩ ?_ ?_ ?_
  · rintro i σ H3 hi ⟨v3, v4, v5, v6, b, xs, kvs, rfl, s3, _⟩
    exact s3.seq hS
  · rintro i x σ H3 hx ⟨v3, v4, v5, v6, b, xs, kvs, rfl, s3, gb, rs, hbl, ok, n7, so, gd, hkl, T⟩
    have hi : i < ns.length := by
      have := (List.getElem?_eq_some_iff.mp hx).1
      rwa [List.length_map] at this
    obtain ⟨c, hc⟩ : ∃ c, ns[i]? = some c := ⟨ns[i], by simp [hi]⟩
    rw [List.getElem?_map, hc] at hx
    cases hx
    have hxl : xs.length = b.length := by rw [rs.length, List.length_map]
    obtain ⟨n0, hn0, nn0⟩ : ∃ n, atI [V.int 0, V.int 9, V.int 10, V.int 1, V.int 2, V.int 100000000000000000000] (c * 48271 % 1009 % 6) = some (.int n) ∧ Num13 n := by
      obtain ⟨v, hv, e⟩ := atI_mem (xs := [V.int 0, V.int 9, V.int 10, V.int 1, V.int 2, V.int 100000000000000000000]) (r := c * 48271 % 1009 % 6) (by omega) (by show _ < (6 : Int); omega)
      simp only [List.mem_cons, List.not_mem_nil, or_false] at hv
      rcases hv with rfl | rfl | rfl | rfl | rfl | rfl <;> exact ⟨_, e, by unfold Num13; decide⟩
    obtain ⟨w1, hw1, iw1⟩ := word13 (P := fun w => w = "open" ∨ w = "yes" ∨ w = "no" ∨ w = "off") (xs := [V.str "open", V.str "yes", V.str "no", V.str "off"]) (r := c * 48271 % 1013 % 4) (by omega) (by show _ < (4 : Int); omega) (by
      intro v hv
      simp only [List.mem_cons, List.not_mem_nil, or_false] at hv
      rcases hv with rfl | rfl | rfl | rfl <;> exact ⟨_, rfl, by simp⟩)
    obtain ⟨w2, hw2, iw2⟩ := word13 (P := fun w => w = "bound" ∨ w = "off") (xs := [V.str "bound", V.str "off"]) (r := c * 48271 % 1019 % 2) (by omega) (by show _ < (2 : Int); omega) (by
      intro v hv
      simp only [List.mem_cons, List.not_mem_nil, or_false] at hv
      rcases hv with rfl | rfl <;> exact ⟨_, rfl, by simp⟩)
    walk_at "goA"
    rename_i p1 hp1 H4 s4 g4
    refine st_cut (fun σ' H' => ∃ n, Num13 n ∧ Same H4 H' ∧ σ' = [some (.ref a), some (.ref pb), some (.ref d), some (.int c), some (.int n), v5, v6]) ?_ ?_
    · walk_at "go"
      by_cases e1 : c * 48271 % 1063 % 4 = 1
      · rw [if_pos (by simp [e1])]
        walk_at "go"
        exact ⟨_, num13_big _, Same.refl _, rfl⟩
      · rw [if_neg (by simp [e1])]
        walk_at "go"
        exact ⟨n0, nn0, Same.refl _, rfl⟩
    rintro σ' H5 ⟨n, nn, s5, rfl⟩
    have gd5 := s5 _ _ (s4 _ _ gd)
    walk_at "goA"
    rename_i p2 hp2 H6 s6 g6 p3 hp3 H7 s7 g7
    have gb7 := s7 _ _ (s6 _ _ (s5 _ _ (s4 _ _ gb)))
    have gd7 := s7 _ _ (s6 _ _ gd5)
    obtain ⟨r, er, gr, hr⟩ := BTab.at (n := n) T ((s4.trans s5).trans s6) g6 (ne_new hp2 (s5 _ _ (s4 _ _ gb))).symm
    have gr7 := s7 _ _ gr
    have s37 : Same H3 H7 := ((s4.trans s5).trans s6).trans s7
    have okr : OkW (wordsOf b n) := wordsOf_ok ok.ok
    clear s4 s5 s6 s7 g4 g6 g7 gd5
    rw [er]
    generalize hws : wordsOf b n = ws at gr gr7 okr
    refine st_cut (fun σ' H' => ∃ w, isWord w ∧ ((ws = [("open" : Str)] ∨ ws = [("yes" : Str)]) → w = "bound" ∨ w = "off") ∧ (¬ (ws = [("open" : Str)] ∨ ws = [("yes" : Str)]) → w = "open" ∨ w = "yes" ∨ w = "no" ∨ w = "off") ∧ Same H7 H' ∧ σ' = [some (.ref a), some (.ref pb), some (.ref d), some (.int c), some (.int n), some (.ref r), some (.str w)]) ?_ ?_
    · have i1 : isWord w1 := by unfold isWord; rcases iw1 with rfl | rfl | rfl | rfl <;> simp
      have i2 : isWord w2 := by unfold isWord; rcases iw2 with rfl | rfl <;> simp
      walk_at "goA"
      rename_i q1 hq1 H8 s8 g8
      refine st_eqS (xs := ws) (ys := ["open"]) (.inl (s8 _ _ gr7)) (.inl g8) okr ok13_open ?_
      walk_at "go"
      by_cases e1 : ws = [("open" : Str)]
      · rw [if_pos (decide_eq_true e1)]
        refine iteT ?_
        walk_at "goA"
        exact ⟨w2, i2, fun _ => iw2, fun z => absurd (.inl e1) z, by walk_at "sm", rfl⟩
      · rw [if_neg (by simpa using e1)]
        walk_at "goA"
        rename_i q2 hq2 H9 s9 g9
        refine st_eqS (xs := ws) (ys := ["yes"]) (.inl (s9 _ _ (s8 _ _ gr7))) (.inl g9) okr ok13_yes ?_
        walk_at "go"
        by_cases e2 : ws = [("yes" : Str)]
        · rw [if_pos (decide_eq_true e2)]
          walk_at "goA"
          exact ⟨w2, i2, fun _ => iw2, fun z => absurd (.inr e2) z, by walk_at "sm", rfl⟩
        · rw [if_neg (by simpa using e2)]
          walk_at "go"
          exact ⟨w1, i1, fun z => absurd z (fun z => z.elim e1 e2), fun _ => iw1, by walk_at "sm", rfl⟩
    rintro σ' H8 ⟨w, iw, wa, wb, s8, rfl⟩
    have gr8 := s8 _ _ gr7
    have gb8 := s8 _ _ gb7
    have gd8 := s8 _ _ gd7
    have s38 : Same H3 H8 := s37.trans s8
    clear s8
    have T8 : BTab H8 pb kvs b := fun n => ⟨fun v hv => by
      obtain ⟨r, e, h1, h2⟩ := (T n).1 v hv
      exact ⟨r, e, s38 _ _ h1, h2⟩, (T n).2⟩
    have stay : ∀ H', Same H8 H' → ∃ v3' v4' v5' v6' b' xs' kvs', [some (V.ref a), some (.ref pb), some (.ref d), some (.int c), some (.int n), some (.ref r), some (.str w)] = [some (.ref a), some (.ref pb), some (.ref d), v3', v4', v5', v6'] ∧ Same H H' ∧
      H' pb = some (.lst xs') ∧ Reps H' [pb, d] xs' (b'.map lineD) ∧ b'.length ≤ i + 1 ∧ BookOk b' ∧ (∀ l ∈ b', l.2 ≠ 7) ∧ sound b' = true ∧ H' d = some (.dK kvs') ∧ kvs'.length ≤ i + 1 ∧ BTab H' pb kvs' b' := fun H' s =>
      ⟨_, _, _, _, b, xs, kvs, rfl, (s3.trans s38).trans s, s _ _ gb8, rs.same (s38.trans s), by omega, ok, n7, so, s _ _ gd8, by omega, fun n => ⟨fun v hv => by
      obtain ⟨r, e, h1, h2⟩ := (T8 n).1 v hv
      exact ⟨r, e, s _ _ h1, h2⟩, (T8 n).2⟩⟩
    have go : ∀ (D : Ends), (∀ σ' H', (∃ v3' v4' v5' v6' b' xs' kvs', σ' = [some (V.ref a), some (.ref pb), some (.ref d), v3', v4', v5', v6'] ∧ Same H H' ∧
      H' pb = some (.lst xs') ∧ Reps H' [pb, d] xs' (b'.map lineD) ∧ b'.length ≤ i + 1 ∧ BookOk b' ∧ (∀ l ∈ b', l.2 ≠ 7) ∧ sound b' = true ∧ H' d = some (.dK kvs') ∧ kvs'.length ≤ i + 1 ∧ BTab H' pb kvs' b') → D.nx σ' H') → ∀ H9, Same H8 H9 → (ws = [] ∨ ws = [("open" : Str)] ∨ ws = [("yes" : Str)]) →
        (tSeq (tDrop (tBM K "list" rAppend (tVar 1) (tCons (tTup (tCons (tVar 6) (tCons (tVar 4) tNil))) tNil))) (sDPut (tVar 2) (tVar 4) (tOp rCat (tVar 5) (tLst (tCons (tVar 6) tNil))))) D [some (.ref a), some (.ref pb), some (.ref d), some (.int c), some (.int n), some (.ref r), some (.str w)] H9 := by
      intro D hD H9 s9 hws'
      have gr9 := s9 _ _ gr8
      have gb9 := s9 _ _ gb8
      have gd9 := s9 _ _ gd8
      have s39 : Same H3 H9 := s38.trans s9
      have cs : canStand w (wordsOf b n) = true := by
        rw [hws]
        unfold canStand
        rcases hws' with e | e | e
        · rw [if_pos e]
          exact decide_eq_true (wb (by rw [e]; decide))
        · rw [if_neg (by rw [e]; decide), decide_eq_true (.inl e), Bool.true_and]
          exact decide_eq_true (wa (.inl e))
        · rw [if_neg (by rw [e]; decide), decide_eq_true (.inr e), Bool.true_and]
          exact decide_eq_true (wa (.inr e))
      have T9 : BTab H9 pb kvs b := fun n => ⟨fun v hv => by
        obtain ⟨r, e, h1, h2⟩ := (T8 n).1 v hv
        exact ⟨r, e, s9 _ _ h1, h2⟩, (T8 n).2⟩
      walk_at "go"
      refine ⟨.inl ⟨rfl, _, sqL gb9⟩, ?_⟩
      walk_at "goA"
      rename_i t ht HA sA gA
      refine st_append (sA _ _ gb9) (len_small (by omega)) ?_
      have ntp : t ≠ pb := ne_of gA (sA _ _ gb9) (by intro z; cases z)
      have cB : Chg [pb, d] HA (upd HA pb (.lst (xs ++ [.ref t]))) := .set (by rw [sA _ _ gb9]; exact True.intro) (by simp)
      have sB : Same H (upd HA pb (.lst (xs ++ [.ref t]))) := ((s3.trans s39).trans sA).put hpb
      have gbB : upd HA pb (.lst (xs ++ [.ref t])) pb = some (.lst (xs ++ [.ref t])) := upd_same
      have gdB : upd HA pb (.lst (xs ++ [.ref t])) d = some (.dK kvs) := upd_at npd.symm (sA _ _ gd9)
      have gtB : upd HA pb (.lst (xs ++ [.ref t])) t = some (.tup [.str w, .int n]) := upd_at ntp gA
      have grB : upd HA pb (.lst (xs ++ [.ref t])) r = some (.lst (ws.map .str)) := upd_at hr (sA _ _ gr9)
      have TB : BTab (upd HA pb (.lst (xs ++ [.ref t]))) pb kvs b := fun n => ⟨fun v hv => by
        obtain ⟨r, e, h1, h2⟩ := (T9 n).1 v hv
        exact ⟨r, e, upd_at h2 (sA _ _ h1), h2⟩, (T9 n).2⟩
      have rsB : Reps (upd HA pb (.lst (xs ++ [.ref t]))) [pb, d] (xs ++ [.ref t]) ((b ++ [(w, n)]).map lineD) := by
        rw [List.map_append]
        exact ((rs.same (s39.trans sA)).chg cB).snoc (.tup (.inl gtB) (.cons (.str _) (.cons (.int _) .nil)))
      generalize upd HA pb (.lst (xs ++ [.ref t])) = HB at *
      clear cB sA gA s39 gb9 gd9 gr9
      walk_at "goA"
      rename_i q1 hq1 HC sC gC
      have wl : ws.length ≤ b.length := by rw [← hws]; exact wordsOf_len _ _
      refine st_cat (sC _ _ grB) gC ?_ ?_
      · rw [List.length_map]; exact Nat.le_of_lt (len_small (by show ws.length + 1 ≤ 1000000; omega))
      walk_at "new"
      rename_i q2 hq2 HD sD gD
      walk_at "go"
      refine st_dputK (sD _ _ (sC _ _ gdB)) (len_small (by omega)) ?_
      have gdD := sD _ _ (sC _ _ gdB)
      have gbD := sD _ _ (sC _ _ gbB)
      have sBD : Same HB HD := sC.trans sD
      have nqd : q2 ≠ d := ne_of gD gdD (by intro z; cases z)
      have nqb : q2 ≠ pb := (ne_new hq2 (sC _ _ gbB)).symm
      have cD : Chg [pb, d] HD (upd HD d (.dK (putK kvs (Sum.inl n : Key) (.ref q2)))) := .set (by rw [gdD]; exact True.intro) (by simp)
      refine hD _ _ ⟨_, _, _, _, b ++ [(w, n)], xs ++ [.ref t], _, rfl, (sB.trans sBD).put hd0, upd_at npd gbD, (rsB.same sBD).chg cD, by rw [List.length_append]; show b.length + 1 ≤ i + 1; omega, ?_, ?_, by rw [sound_snoc, so, cs]; rfl, upd_same, Nat.le_trans (length_putK _ _ _) (by omega), fun m => ⟨fun v hv => ?_, fun hv => ?_⟩⟩
      · intro l hl
        rcases List.mem_append.mp hl with z | z
        · exact ok l z
        · rw [List.mem_singleton.mp z]; exact ⟨iw, nn.1, nn.2.1⟩
      · intro l hl
        rcases List.mem_append.mp hl with z | z
        · exact n7 l z
        · rw [List.mem_singleton.mp z]; exact nn.2.2
      · rw [valV_put] at hv
        by_cases e : (Sum.inl m : Key) = Sum.inl n
        · rw [if_pos e] at hv
          cases hv
          have e' : m = n := Sum.inl.inj e
          refine ⟨q2, rfl, ?_, nqb⟩
          rw [upd_at nqd gD, wordsOf_snoc, if_pos e'.symm, e', hws, List.map_append]
          rfl
        · rw [if_neg e] at hv
          obtain ⟨r', e', h1, h2⟩ := (TB m).1 v hv
          have nm : ¬ n = m := fun z => e (by rw [z])
          refine ⟨r', e', ?_, h2⟩
          rw [wordsOf_snoc, if_neg nm]
          exact upd_at (ne_of (sBD _ _ h1) gdD (by intro z; cases z)) (sBD _ _ h1)
      · rw [valV_put] at hv
        by_cases e : (Sum.inl m : Key) = Sum.inl n
        · rw [if_pos e] at hv; cases hv
        · rw [if_neg e] at hv
          have nm : ¬ n = m := fun z => e (by rw [z])
          rw [wordsOf_snoc, if_neg nm]
          exact (TB m).2 hv
    walk_at "goA"
    rename_i q1 hq1 H9 s9 g9
    refine st_eqS (xs := ws) (ys := []) (.inl (s9 _ _ gr8)) (.inl g9) okr ok13_nil ?_
    walk_at "go"
    by_cases e1 : ws = []
    · rw [if_pos (decide_eq_true e1)]
      refine iteT ?_
      exact go _ (fun _ _ z => z) H9 s9 (.inl e1)
    · rw [if_neg (by simpa using e1)]
      walk_at "goA"
      rename_i q2 hq2 HA sA gA
      refine st_eqS (xs := ws) (ys := ["open"]) (.inl (sA _ _ (s9 _ _ gr8))) (.inl gA) okr ok13_open ?_
      walk_at "go"
      by_cases e2 : ws = [("open" : Str)]
      · rw [if_pos (decide_eq_true e2)]
        refine iteT ?_
        exact go _ (fun _ _ z => z) HA (s9.trans sA) (.inr (.inl e2))
      · rw [if_neg (by simpa using e2)]
        walk_at "goA"
        rename_i q3 hq3 HB sB gB
        refine st_eqS (xs := ws) (ys := ["yes"]) (.inl (sB _ _ (sA _ _ (s9 _ _ gr8)))) (.inl gB) okr ok13_yes ?_
        walk_at "go"
        by_cases e3 : ws = [("yes" : Str)]
        · rw [if_pos (decide_eq_true e3)]
          exact go _ (fun _ _ z => z) HB ((s9.trans sA).trans sB) (.inr (.inr e3))
        · rw [if_neg (by simpa using e3)]
          walk_at "go"
          exact stay HB ((s9.trans sA).trans sB)
  · rintro σ H3 ⟨v3, v4, v5, v6, b, xs, kvs, rfl, s3, gb, rs, hbl, ok, n7, so, gd, hkl, T⟩
    walk_at "go"
    rw [List.length_map] at hbl
    exact k pb b H3 hpb s3 (.lst (.inl gb) (by simp) rs.plain) so ok n7 (by omega)
theorem cut13_take {xs : List V} {i : Nat} (h : i ≤ xs.length) : cutV xs none (some (i : Int)) = xs.take i := by
  have := cut_take h
  rwa [Int.zero_add] at this
theorem cut13_drop {xs : List V} {i : Nat} (h : i ≤ xs.length) : cutV xs (some (i : Int)) none = xs.drop i := by
  unfold cutV
  have e1 : HT.sIx xs.length 0 (some (i : Int)) = i := by
    unfold HT.sIx
    simp only
    rw [if_neg (by omega)]
    simp; omega
  have e2 : HT.sIx xs.length xs.length none = xs.length := rfl
  rw [e1, e2, List.take_of_length_le (by rw [List.length_drop]; exact Nat.le_refl _)]
theorem cut13_ints (ns : List Int) (lo hi : Option Int) : ∃ cs : List Int, cutV (ns.map V.int) lo hi = cs.map V.int ∧ cs.length ≤ ns.length := by
  refine ⟨(ns.drop (HT.sIx (ns.map V.int).length 0 lo)).take (HT.sIx (ns.map V.int).length (ns.map V.int).length hi - HT.sIx (ns.map V.int).length 0 lo), ?_, ?_⟩
  · unfold cutV
    rw [List.map_take, List.map_drop]
  · rw [List.length_take, List.length_drop]; omega
def WithBad (zs zs' : List Str) : Prop := ∃ i x, zs' = zs.take i ++ x :: zs.drop i ∧ x ∈ bads
def zsp02 : Sp := fun vs H Q _ => ∃ a zs c, vs = [.ref a, .int c] ∧ H a = some (.lst (zs.map .str)) ∧ zs.length ≤ 900 ∧ ∀ p zs' H', WithBad zs zs' → H p = none → Same H H' → H' p = some (.lst (zs'.map .str)) → Q (.ref p) H'
theorem zrd02 {K : PySem.W.Frag} {vs : List V} {H : Hp} {Q : VK} {E : XK} (h : zsp02 vs H Q E) : zR02 K { nx := fun _ H' => Q .non H', rt := Q } (start ["_law_lines", "_law_cell", "_law_bad", "_law_spot"] vs) H := by
  obtain ⟨a, zs, c, rfl, ga, hl, k⟩ := h
  unfold zR02
  walk_at "goA"
  rename_i p1 hp1 H1 s1 g1 p2 hp2 H2 s2 g2
  refine st_cat (s2 _ _ g1) g2 (by decide) ?_
  walk_at "new"
  rename_i p3 hp3 H3 s3 g3
  have ga3 := s3 _ _ (s2 _ _ (s1 _ _ ga))
  have s03 : Same H H3 := (s1.trans s2).trans s3
  clear s1 s2 s3 g1 g2
  have g3' : H3 p3 = some (.lst (bads.map V.str)) := g3
  clear g3
  walk_at "go"
  refine st_rI (show (0 : Int) < _ by omega) ?_
  generalize hr : c * 48271 % 1021 % (((zs.map V.str).length : Int) + 1) = r
  have r0 : 0 ≤ r := by rw [← hr]; exact Int.emod_nonneg _ (by omega)
  have r1 : r < (zs.length : Int) + 1 := by
    rw [← hr, List.length_map]; exact Int.emod_lt_of_pos _ (by omega)
  obtain ⟨i, rfl⟩ := Int.eq_ofNat_of_zero_le r0
  have hi : i ≤ zs.length := by omega
  clear hr r0 r1
  walk_at "go"
  walk_at "new"
  rename_i p4 hp4 H4 s4 g4
  have ga4 := s4 _ _ ga3
  have g34 := s4 _ _ g3'
  walk_at "go"
  obtain ⟨x, hx, hb⟩ := word13 (P := fun x => x ∈ bads) (xs := bads.map V.str) (r := c * 48271 % 1031 % (((bads.map V.str).length : Nat) : Int)) (Int.emod_nonneg _ (by decide)) (Int.emod_lt_of_pos _ (by decide)) (by
    intro v hv
    obtain ⟨z, hz, rfl⟩ := List.mem_map.mp hv
    exact ⟨z, rfl, hz⟩)
  walk_at "goA"
  rename_i p5 hp5 H5 s5 g5
  rw [cut13_take (by rw [List.length_map]; exact hi)] at g4
  have g45 := s5 _ _ g4
  refine st_cat g45 g5 ?_ ?_
  · rw [List.length_take, List.length_map]
    exact Nat.le_of_lt (len_small (by show _ + 1 ≤ 1000000; omega))
  walk_at "new"
  rename_i p6 hp6 H6 s6 g6
  have ga6 := s6 _ _ (s5 _ _ ga4)
  walk_at "go"
  walk_at "new"
  rename_i p7 hp7 H7 s7 g7
  rw [cut13_drop (by rw [List.length_map]; exact hi)] at g7
  refine st_cat (s7 _ _ g6) g7 ?_ ?_
  · rw [List.length_append, List.length_take, List.length_drop, List.length_map]
    exact Nat.le_of_lt (len_small (by show _ + 1 + _ ≤ 1000000; omega))
  walk_at "new"
  rename_i p8 hp8 H8 s8 g8
  have s38 : Same H3 H8 := (((s4.trans s5).trans s6).trans s7).trans s8
  refine k p8 _ H8 ⟨i, x, rfl, hb⟩ ((s03.trans (((s4.trans s5).trans s6).trans s7)).free hp8) (s03.trans s38) ?_
  rw [g8, ← List.map_take, ← List.map_drop, List.map_append, List.map_cons, List.append_assoc]
  rfl
def spLaw (K : PySem.W.Frag) : Sp := fun vs H Q _ => ∃ (a : Addr) (ns : List Int), vs = [.ref a] ∧ SqL K H a (ns.map V.int) ∧ ns.length ≤ 63 ∧ ∀ H', Q (.bl true) H'
theorem Rep.items {H : Hp} {a : Addr} {b : List Line} (h : Rep H [] (.ref a) (bookD b)) : ∃ xs, Rd H a (.lst xs) ∧ Reps H [] xs (b.map lineD) := by
  obtain ⟨_, xs, e, rd, _, rs⟩ := h.lst_inv
  cases e
  exact ⟨xs, rd, rs⟩
theorem BookOk.ws {b : List Line} (h : BookOk b) : LineWs b := fun l hl => by
  have := (h l hl).1
  unfold isWord at this
  unfold isLineW
  rcases this with z | z | z | z | z
  · exact .inl z
  · exact .inr (.inl z)
  · exact .inr (.inr (.inl z))
  · exact .inr (.inr (.inr (.inr z)))
  · exact .inr (.inr (.inr (.inl z)))
theorem spoilt_of {b : List Line} {zs : List Str} (ok : BookOk b) (hl : b.length ≤ 900) (h : WithBad (b.map lineS) zs) : Spoilt zs := by
  obtain ⟨i, x, rfl, hx⟩ := h
  exact ⟨b.take i, x, _, by rw [List.map_take], fun l hl => ok l (List.mem_of_mem_take hl), hx, by rw [List.length_take]; omega⟩
theorem goods_snoc {b : List Line} {l : Line} (ok : BookOk b) (hl : b.length ≤ 200) (hk : LineOk l) : Goods (b.map lineS ++ [lineS l]) (b ++ [l]) := by
  refine ⟨by rw [List.map_append]; rfl, fun z hz => ?_, by rw [List.length_append]; show b.length + 1 ≤ 900; omega⟩
  rcases List.mem_append.mp hz with y | y
  · exact ok z y
  · rw [List.mem_singleton.mp y]; exact hk
theorem zrd0f {K : PySem.W.Frag} {CL CB : Addr} {vs : List V} {H : Hp} {Q : VK} {E : XK} (h : spLaw K vs H Q E) : zR0f K (zsp04 K) zsp0d (zsp0e CL CB) zsp01 (zsp0c K) zsp02 (zsp0a CL CB) zsp00 { nx := fun _ H' => Q .non H', rt := Q }
    (start ["_law_script", "_law_book", "_law_lines", "_law_found", "_law_k", "_law_back", "_law_more", "_law_words", "_law_due", "_law_again", "_law_spoilt"] vs) H := by
  obtain ⟨a, ns, rfl, hS, hlen, k⟩ := h
  unfold zR0f
  walk_at "go"
  walk_at "new"
  rename_i p0 hp0 H1 s1 g1
  obtain ⟨cs, ec, hcl⟩ := cut13_ints ns (some 2) (some 150)
  rw [ec] at g1
  walk_at "go"
  refine ⟨p0, cs, rfl, sqL g1, by omega, fun pb b H2 hpb s2 rb so ok n7 hbl => ?_⟩
  obtain ⟨xs, rdb, rs⟩ := Rep.items rb
  have hxl : xs.length = b.length := by rw [rs.length, List.length_map]
  walk_at "go"
  intro q hq
  refine lc_list (K := K) (a := pb) (xs := xs) (fun i ys σ H' => ∃ v, σ = [v] ∧ H' = upd H2 q (.lst ys) ∧ ys = ((b.take i).map lineS).map .str) ⟨none, rfl, rfl, rfl⟩ ?_ ?_ ?_
  · rintro i ys σ H' hi hp' ⟨v, rfl, rfl, rfl⟩
    exact sqLr (rdb.upd (rdb.ne_none hq))
  · rintro i x ys σ H' hx hp' ⟨v, rfl, rfl, rfl⟩
    obtain ⟨l, t, hb', rfl, rt⟩ := line_at rs hx
    have lok := ok l (List.mem_of_getElem? hb')
    have hll := lineS_len lok
    have rt' := rt.upd (o := .lst (((b.take i).map lineS).map .str)) (rt.ne_none hq)
    have hw := (word_free lok.1).2
    have hn := num_len lok.2.1 lok.2.2
    walk_at "go"
    refine iteT ?_
    walk_at "go"
    have e1 : Str.length " " = 1 := by decide +kernel
    refine ⟨l.1, " ", rfl, rfl, Nat.le_trans (by omega : _ ≤ 100) (by decide), ?_⟩
    walk_at "go"
    refine ⟨l.2, rfl, num_log lok.2.1 lok.2.2, ?_⟩
    refine ⟨_, _, rfl, rfl, ?_, ?_⟩
    · unfold lineS at hll
      rw [PySem.strLen_append] at hll
      exact Nat.le_trans hll (by decide)
    refine ⟨_, upd_same, ?_, _, upd_same, _, rfl, upd_upd, ?_⟩
    · rw [List.length_map, List.length_map, List.length_take]
      exact len_small (by omega)
    · rw [take_snoc hb', List.map_append, List.map_append]; rfl
  rintro ys σ H3 hq3 ⟨v, rfl, hH3, rfl⟩
  rw [List.take_of_length_le (by omega)] at hq3
  have s3 : Same H2 H3 := by rw [hH3]; exact Same.new hq
  clear hH3
  have s03 : Same H H3 := (s1.trans s2).trans s3
  have rb3 := rb.same s3
  have rdb3 := rdb.same s3
  have rs3 := rs.same s3
  clear rb rdb rs s1 s2 s3 g1 hp0 hpb hq
  walk_at "go"
  walk_at "new"
  rename_i p1 hp1 H4 s4 g4
  walk_at "go"
  refine ⟨p1, b, rfl, .lst (.inl g4) (by simp) (rs3.same s4), ok, by omega, fun pf H5 hpf s5 g5 => ?_⟩
  have hq5 := s5 _ _ (s4 _ _ hq3)
  have s35 : Same H3 H5 := s4.trans s5
  clear s4 s5 g4 hp1
  walk_at "go"
  refine ⟨_, _, _, true, rfl, TyO.list (.inl g5), kit_same _ _, ?_⟩
  walk_at "go"
  refine iteF ?_
  walk_at "go"
  rw [if_neg (by simp)]
  walk_at "go"
  refine st_itr (by rw [List.length_map, List.length_map]; omega) ?_
  refine for_range (n := ((b.map lineS).map V.str).length) (fun i σ H' => ∃ v4, σ = [some (.ref a), some (.ref pb), some (.ref q), some (.ref pf), v4, none, none, none, none, none, none] ∧ H' = H5) ⟨none, rfl, rfl⟩ ?_ ?_
  · rintro i σ H' hi ⟨v4, rfl, rfl⟩
    rw [List.length_map, List.length_map] at hi
    have hat : atI ((b.map lineS).map V.str) ((0 : Int) + (i : Int)) = some (.str (lineS b[i])) := by rw [Int.zero_add]; exact atI_nat (by simp [hi])
    walk_at "go"
    refine ⟨_, _, _, true, rfl, TyO.str _, kit_same _ _, ?_⟩
    walk_at "go"
    refine iteF ?_
    walk_at "go"
    rw [if_neg (by simp)]
    walk_at "go"
    exact ⟨_, rfl, rfl⟩
  rintro σ H' ⟨v4, rfl, rfl⟩
  walk_at "go"
  walk_at "new"
  rename_i p2 hp2 H6 s6 g6
  walk_at "go"
  refine ⟨p2, b.map lineS, rfl, .inl g6, .inl ⟨b, ⟨rfl, ok, by omega⟩, fun _ pr H7 hpr s7 rr => ?_, fun z => by rw [so] at z; cases z⟩⟩
  have s57 : Same H3 H7 := s35.trans (s6.trans s7)
  clear s6 s7 s35 g6 hp2 hpf g5 hpr
  have hq7 := s57 _ _ hq3
  walk_at "go"
  refine ⟨pr, b, rfl, rr, ok.ws, fun H8 s8 => ?_⟩
  walk_at "go"
  refine iteF ?_
  walk_at "go"
  refine ⟨bookD b, bookD b, rr.same s8, rb3.same (s57.trans s8), shaped_book ok.ok, shaped_book ok.ok, ?_⟩
  rw [eqv_book ok.ok]
  walk_at "go"
  refine iteF ?_
  have s38 : Same H3 H8 := s57.trans s8
  have hq8 := s38 _ _ hq3
  have sq8 : SqL K H8 a (ns.map V.int) := (s03.trans s38).seq hS
  clear s8 s57 hq7 rr
  walk_at "go"
  refine ⟨a, ns, 0, rfl, sq8, fun z0 => ?_⟩
  walk_at "go"
  refine ⟨q, b.map lineS, z0, rfl, hq8, by rw [List.length_map]; omega, fun p3 zs3 H9 wb3 hp3 s9 g9 => ?_⟩
  walk_at "go"
  refine ⟨p3, zs3, rfl, .inl g9, .inr ⟨spoilt_of ok (by omega) wb3, fun HA sA => ?_⟩⟩
  walk_at "go"
  rw [if_neg (by simp)]
  have s3A : Same H3 HA := s38.trans (s9.trans sA)
  have sqA : SqL K HA a (ns.map V.int) := (s03.trans s3A).seq hS
  have hqA := s3A _ _ hq3
  have rdbA := rdb3.same s3A
  have rsA := rs3.same s3A
  clear sA s9 g9 s38 sq8 hq8 hp3
  walk_at "goA"
  rename_i p4 hp4 HB sB gB
  refine ⟨a, ns, 1, rfl, sB.seq sqA, fun z1 => ?_⟩
  obtain ⟨m, hm, m70⟩ : ∃ m : Int, atI [V.str "bound 7", V.str "bound 0"] (z1 * 48271 % 1033 % 2) = some (.str (lineS (("bound" : Str), m))) ∧ (m = 7 ∨ m = 0) := by
    obtain ⟨v, hv, e⟩ := atI_mem (xs := [V.str "bound 7", V.str "bound 0"]) (r := z1 * 48271 % 1033 % 2) (by omega) (by show _ < (2 : Int); omega)
    simp only [List.mem_cons, List.not_mem_nil, or_false] at hv
    rcases hv with rfl | rfl
    · exact ⟨7, by rw [e, show lineS (("bound" : Str), 7) = "bound 7" by decide +kernel], .inl rfl⟩
    · exact ⟨0, by rw [e, show lineS (("bound" : Str), 0) = "bound 0" by decide +kernel], .inr rfl⟩
  have lmk : LineOk (("bound" : Str), m) := ⟨by unfold isWord; simp, by rcases m70 with rfl | rfl <;> decide, by rcases m70 with rfl | rfl <;> decide⟩
  walk_at "go"
  have s3B : Same H3 HB := s3A.trans sB
  have rdbB := rdb3.same s3B
  have rsB := rs3.same s3B
  clear hp4 gB sB s3A sqA hqA rdbA rsA
  walk_at "go"
  intro qw hqw
  refine lc_list (K := K) (a := pb) (xs := xs) (fun i ys σ H' => ∃ v, σ = [v] ∧ H' = upd HB qw (.lst ys) ∧ ys = (wordsOf (b.take i) 0).map .str) ⟨none, rfl, rfl, rfl⟩ ?_ ?_ ?_
  · rintro i ys σ H' hi hp' ⟨v, rfl, rfl, rfl⟩
    exact sqLr (rdbB.upd (rdbB.ne_none hqw))
  · rintro i x ys σ H' hx hp' ⟨v, rfl, rfl, rfl⟩
    obtain ⟨l, t, hb', rfl, rt⟩ := line_at rsB hx
    have rt' := rt.upd (o := .lst ((wordsOf (b.take i) 0).map .str)) (rt.ne_none hqw)
    walk_at "go"
    by_cases e : l.2 = 0
    · rw [if_pos (by simp [e])]
      walk_at "go"
      refine ⟨_, upd_same, ?_, _, upd_same, _, rfl, upd_upd, ?_⟩
      · rw [List.length_map]
        exact len_small (Nat.le_trans (wordsOf_len _ _) (Nat.le_trans (by rw [List.length_take]; omega) (Nat.le_trans hbl (by decide))))
      · rw [take_snoc hb', wordsOf_snoc, if_pos e, List.map_append]; rfl
    · rw [if_neg (by simp [e])]
      exact ⟨_, upd_same, _, rfl, rfl, by rw [take_snoc hb', wordsOf_snoc, if_neg e]⟩
  rintro ys σ HC hqC ⟨v, rfl, hHC, rfl⟩
  rw [List.take_of_length_le (by omega)] at hqC
  have s3C : Same H3 HC := by rw [hHC]; exact s3B.trans (Same.new hqw)
  clear hHC hqw s3B rdbB rsB
  have okw : OkW (wordsOf b 0) := wordsOf_ok ok.ok
  walk_at "go"
  refine st_cut (fun σ' H' => Same HC H' ∧ σ' = [some (.ref a), some (.ref pb), some (.ref q), some (.ref pf), v4, some (.ref pr), some (.str (lineS (("bound" : Str), m))), some (.ref qw), some (.str (if sound (b ++ [(("bound" : Str), m)]) = true then "read" else "no book")), none, none]) ?_ ?_
  · walk_at "go"
    have e0 : lineS (("bound" : Str), 0) = "bound 0" := by decide +kernel
    have e7 : lineS (("bound" : Str), 7) = "bound 7" := by decide +kernel
    rcases m70 with rfl | rfl
    · rw [if_neg (by rw [e7]; decide +kernel)]
      refine iteF ?_
      walk_at "go"
      rw [bound_no n7, if_neg (by decide)]
      exact ⟨Same.refl _, rfl⟩
    · rw [if_pos (by rw [e0]; decide +kernel)]
      walk_at "goA"
      rename_i q1 h1 H6' s6 g6 q2 h2 H7' s7 g7 q3 h3 H8' s8 g8
      have r1 : Rep H8' [] (.ref q3) (.list [listS ["open"], listS ["yes"]]) :=
        .lst (by walk_at "rd") (by simp) (.cons (rep_strs (ws := ["open"]) (by show Rd _ q1 (.lst [.str "open"]); walk_at "rd")) (.cons (rep_strs (ws := ["yes"]) (by show Rd _ q2 (.lst [.str "yes"]); walk_at "rd")) .nil))
      refine ⟨listS (wordsOf b 0), [listS ["open"], listS ["yes"]], rep_strs (.inl (s8 _ _ (s7 _ _ (s6 _ _ hqC)))), .inl r1, by decide +kernel, shaped_strs okw, ?_⟩
      rw [any_open_yes]
      show ∃ c, V.bl (if false = true then _ else _) = .bl c ∧ _
      rw [if_neg (by decide : ¬ false = true), bound_is so]
      walk_at "go"
      by_cases z : wordsOf b 0 = ([("open" : Str)]) ∨ wordsOf b 0 = ([("yes" : Str)])
      · rw [decide_eq_true z]
        refine iteT ?_
        walk_at "go"
        exact ⟨(s6.trans s7).trans s8, rfl⟩
      · rw [decide_eq_false z]
        refine iteF ?_
        walk_at "go"
        exact ⟨(s6.trans s7).trans s8, rfl⟩
  rintro σ' HD ⟨sD, rfl⟩
  have s3D : Same H3 HD := s3C.trans sD
  clear sD s3C hqC
  have hqD := s3D _ _ hq3
  generalize hdue : (if sound (b ++ [(("bound" : Str), m)]) = true then ("read" : Str) else "no book") = due
  walk_at "goA"
  rename_i p5 hp5 HE sE gE
  have zl : ((b.map lineS).map V.str).length + 1 ≤ sizeLine := by
    rw [List.length_map, List.length_map]
    exact Nat.le_of_lt (len_small (by omega))
  refine st_cat (sE _ _ hqD) gE zl ?_
  walk_at "new"
  rename_i p6 hp6 HF sF gF
  walk_at "go"
  refine ⟨p6, b.map lineS ++ [lineS (("bound" : Str), m)], rfl, .inl (by rw [gF, List.map_append]; rfl), .inl ⟨b ++ [(("bound" : Str), m)], goods_snoc ok hbl lmk, fun HG sG => ?_⟩⟩
  rw [hdue]
  walk_at "go"
  rw [if_neg (by simp)]
  have s3G : Same H3 HG := ((s3D.trans sE).trans sF).trans sG
  have hqG := s3G _ _ hq3
  have rdbG := rdb3.same s3G
  have rsG := rs3.same s3G
  have sqG : SqL K HG a (ns.map V.int) := (s03.trans s3G).seq hS
  clear sG sF sE s3D hqD gE gF hp5 hp6
  walk_at "go"
  by_cases hb0 : b.length = 0
  · rw [if_pos (by simp [hb0])]
    walk_at "go"
    exact k _
  rw [if_neg (by simp; intro z; exact hb0 (by rw [z]; rfl))]
  walk_at "go"
  refine ⟨a, ns, 1, rfl, sqG, fun z2 => ?_⟩
  walk_at "go"
  refine st_rI (show (0 : Int) < _ by rw [hxl]; omega) ?_
  obtain ⟨x, hxm, hx⟩ := atI_mem (xs := xs) (r := z2 * 48271 % 1039 % (xs.length : Int)) (Int.emod_nonneg _ (by omega)) (Int.emod_lt_of_pos _ (by omega))
  obtain ⟨j, hj⟩ := List.getElem?_of_mem hxm
  obtain ⟨l, t, hb', rfl, rt⟩ := line_at rsG hj
  have lb := List.mem_of_getElem? hb'
  have lok := ok l lb
  have hll := lineS_len lok
  have hw := (word_free lok.1).2
  have hn := num_len lok.2.1 lok.2.2
  have e1 : Str.length " " = 1 := by decide +kernel
  walk_at "go"
  refine ⟨l.1, " ", rfl, rfl, Nat.le_trans (by omega : _ ≤ 100) (by decide), ?_⟩
  walk_at "go"
  refine ⟨l.2, rfl, num_log lok.2.1 lok.2.2, ?_⟩
  refine ⟨_, _, rfl, rfl, ?_, ?_⟩
  · unfold lineS at hll
    rw [PySem.strLen_append] at hll
    exact Nat.le_trans hll (by decide)
  walk_at "goA"
  rename_i p7 hp7 HI sI gI
  refine st_cat (sI _ _ hqG) gI zl ?_
  walk_at "new"
  rename_i p8 hp8 HJ sJ gJ
  walk_at "go"
  refine ⟨p8, b.map lineS ++ [lineS l], rfl, .inl (by rw [gJ, List.map_append]; rfl), .inl ⟨b ++ [l], goods_snoc ok hbl lok, fun HK sK => ?_⟩⟩
  rw [again_no lb, if_neg (by decide)]
  walk_at "go"
  rw [if_neg (by simp)]
  have s3K : Same H3 HK := ((s3G.trans sI).trans sJ).trans sK
  have hqK := s3K _ _ hq3
  have sqK : SqL K HK a (ns.map V.int) := (s03.trans s3K).seq hS
  clear sI sJ sK s3G hqG rdbG rsG sqG gI gJ hp7 hp8 rt
  walk_at "goA"
  rename_i p9 hp9 HL sL gL
  refine st_cat (sL _ _ hqK) gL zl ?_
  walk_at "new"
  rename_i pA hpA HM sM gM
  walk_at "go"
  refine ⟨a, ns, 0, rfl, (sL.trans sM).seq sqK, fun z3 => ?_⟩
  walk_at "go"
  have gd := goods_snoc ok hbl lmk
  refine ⟨pA, (b ++ [(("bound" : Str), m)]).map lineS, z3, rfl, by rw [gM, List.map_append, List.map_append]; rfl, by rw [List.length_map]; exact gd.2.2, fun pB zsB HN wbB hpB sN gN => ?_⟩
  have spB := spoilt_of gd.2.1 gd.2.2 wbB
  walk_at "go"
  refine ⟨pB, zsB, rfl, .inl gN, .inr ⟨spB, fun HO sO => ?_⟩⟩
  walk_at "go"
  rw [if_pos (by simp)]
  walk_at "go"
  exact ⟨pB, zsB, rfl, .inl (sO _ _ gN), spB, fun HP sP => k _⟩
section
open PySem.W
variable {K : Frag} {D C : Addr} {v : Value} {b : Bool}
theorem cls_of_mro (h : PySem.W.mroIn K D v = some b) : (clsIn K D).isSome = true := by
  unfold PySem.W.mroIn at h
  cases e : clsIn K D with
  | none => rw [e] at h; cases h
  | some cd => rfl
theorem mro_has (h : PySem.W.mroIn K D v = some b) : (L2.mroIn K D).contains v = b := by
  unfold PySem.W.mroIn at h
  unfold L2.mroIn
  cases e : clsIn K D with
  | none => rw [e] at h; cases h
  | some cd =>
    rw [e, Option.bind_some] at h
    unfold clsIn at e
    split at e
    · rename_i c' d' cd' sl' ho
      cases e
      rw [ho]
      split at h
      · cases h
      · exact Option.some.inj h
    · cases e
theorem kit_no (h : PySem.W.mroIn K C (.ref D) = some false) (hs : PySem.W.mroIn K C (.ref C) = some true) (ty : typeIn K (.ref C) = some (.type "type")) (sb : subIn K (.ref D) (.ref C) = some false) : kitOne K (.ref D) (.ref C) = some false := by
  have ne : ¬ ((Value.ref D == Value.ref C) = true) := fun z => by
    have e : D = C := Value.ref.inj (beq_iff_eq.mp z)
    subst e
    rw [h] at hs
    cases hs
  unfold kitOne
  rw [if_neg ne]
  unfold kitCls
  simp only
  rw [if_pos (by rw [cls_of_mro h, ty]; rfl), sb]
theorem kit_ve (sb : subIn K (.ref D) (.type "ValueError") = some true) : kitOne K (.ref D) (.type "ValueError") = some true := by
  unfold kitOne
  rw [if_neg (by intro z; cases (beq_iff_eq.mp z))]
  unfold kitCls
  simp only
  rw [if_pos (by decide +kernel), sb]
end
def top (i : Nat) : Stmt := PySem.Challenge.pw_oathhall_k13_books_on_lines.main.body.getD i (.Pass ⟨0, 0, 0, 0⟩)
abbrev zs08 : Stmt := top 1
abbrev zs0b : Stmt := top 2
abbrev zs05 : Stmt := top 8
abbrev zs0d : Stmt := top 9
abbrev zs07 : Stmt := top 10
abbrev zs09 : Stmt := top 11
abbrev zs0e : Stmt := top 12
abbrev zs06 : Stmt := top 14
abbrev zs0c : Stmt := top 15
abbrev zs03 : Stmt := top 16
abbrev zs01 : Stmt := top 17
abbrev zs04 : Stmt := top 18
abbrev zs0a : Stmt := top 19
abbrev zs00 : Stmt := top 20
abbrev zs02 : Stmt := top 21
abbrev zs0f : Stmt := top 22
structure Txt (K : PySem.W.Frag) (mg : Str → Option Value) (C_HallError : Addr) (C_NoLine : Addr) (C_NoBook : Addr) : Prop where
  ok : True
  n_ValueError : mg "ValueError" = none
  n_bool : mg "bool" = none
  n_int : mg "int" = none
  n_isinstance : mg "isinstance" = none
  n_len : mg "len" = none
  n_list : mg "list" = none
  n_range : mg "range" = none
  n_str : mg "str" = none
  n_tuple : mg "tuple" = none
  m_HallError : mg "HallError" = some (.ref C_HallError)
  x_HallError : PySem.W.excIn K C_HallError [.type "ValueError", .type "Exception", .type "BaseException", .type "object"] "ValueError.__new__" = true
  s_HallError : (L2.mroIn K C_HallError).contains (.ref C_HallError) = true
  m_NoLine : mg "NoLine" = some (.ref C_NoLine)
  x_NoLine : PySem.W.excIn K C_NoLine [.type "ValueError", .type "Exception", .type "BaseException", .type "object"] "ValueError.__new__" = true
  s_NoLine : (L2.mroIn K C_NoLine).contains (.ref C_NoLine) = true
  m_NoBook : mg "NoBook" = some (.ref C_NoBook)
  x_NoBook : PySem.W.excIn K C_NoBook [.type "ValueError", .type "Exception", .type "BaseException", .type "object"] "ValueError.__new__" = true
  s_NoBook : (L2.mroIn K C_NoBook).contains (.ref C_NoBook) = true
  d_NoBook_NoLine : (L2.mroIn K C_NoBook).contains (.ref C_NoLine) = false
  u_NoLine_HallError : (L2.mroIn K C_NoLine).contains (.ref C_HallError) = true
  is_NoLine : ExcIs K C_NoLine
  k_no : PySem.W.kitOne K (.ref C_NoLine) (.ref C_NoBook) = some false
  k_ve : PySem.W.kitOne K (.ref C_NoLine) (.type "ValueError") = some true
theorem boot_ValueError : bootBuiltins "ValueError" = some (.type "ValueError") := by decide +kernel
theorem zsc08 : FnScope ["word", "ahead"] ["word", "ahead"] (defScope zs08) := ⟨rfl, rfl, rfl, by decide +kernel, rfl, by decide +kernel, by decide +kernel⟩
theorem zsc0b : FnScope ["book", "words_so_far", "line", "ahead"] ["book"] (defScope zs0b) := ⟨rfl, rfl, rfl, by decide +kernel, rfl, by decide +kernel, by decide +kernel⟩
theorem zsc05 : FnScope ["line", "word", "bargain"] ["line"] (defScope zs05) := ⟨rfl, rfl, rfl, by decide +kernel, rfl, by decide +kernel, by decide +kernel⟩
theorem zsc0d : FnScope ["book"] ["book"] (defScope zs0d) := ⟨rfl, rfl, rfl, by decide +kernel, rfl, by decide +kernel, by decide +kernel⟩
theorem znd0d_0 : List.Nodup (["line"] : List Str) := by decide +kernel
theorem zsc07 : FnScope ["figures"] ["figures"] (defScope zs07) := ⟨rfl, rfl, rfl, by decide +kernel, rfl, by decide +kernel, by decide +kernel⟩
theorem zsc09 : FnScope ["text", "parts"] ["text"] (defScope zs09) := ⟨rfl, rfl, rfl, by decide +kernel, rfl, by decide +kernel, by decide +kernel⟩
theorem zsc0e : FnScope ["lines", "book"] ["lines"] (defScope zs0e) := ⟨rfl, rfl, rfl, by decide +kernel, rfl, by decide +kernel, by decide +kernel⟩
theorem znd0e_0 : List.Nodup (["text"] : List Str) := by decide +kernel
theorem zsc06 : FnScope ["_law_found"] ["_law_found"] (defScope zs06) := ⟨rfl, rfl, rfl, by decide +kernel, rfl, by decide +kernel, by decide +kernel⟩
theorem zsc0c : FnScope ["_law_script", "_law_k"] ["_law_script", "_law_k"] (defScope zs0c) := ⟨rfl, rfl, rfl, by decide +kernel, rfl, by decide +kernel, by decide +kernel⟩
theorem zsc03 : FnScope ["_law_found"] ["_law_found"] (defScope zs03) := ⟨rfl, rfl, rfl, by decide +kernel, rfl, by decide +kernel, by decide +kernel⟩
theorem zsc01 : FnScope ["_law_found", "_law_line"] ["_law_found"] (defScope zs01) := ⟨rfl, rfl, rfl, by decide +kernel, rfl, by decide +kernel, by decide +kernel⟩
theorem zsc04 : FnScope ["_law_cells", "_law_book", "_law_states", "_law_cell", "_law_bargain", "_law_lines", "_law_word"] ["_law_cells"] (defScope zs04) := ⟨rfl, rfl, rfl, by decide +kernel, rfl, by decide +kernel, by decide +kernel⟩
theorem zsc0a : FnScope ["_law_lines", "_law_word"] ["_law_lines"] (defScope zs0a) := ⟨rfl, rfl, rfl, by decide +kernel, rfl, by decide +kernel, by decide +kernel⟩
theorem zsc00 : FnScope ["_law_lines", "e", "_law_kinds"] ["_law_lines"] (defScope zs00) := ⟨rfl, rfl, rfl, by decide +kernel, rfl, by decide +kernel, by decide +kernel⟩
theorem zsc02 : FnScope ["_law_lines", "_law_cell", "_law_bad", "_law_spot"] ["_law_lines", "_law_cell"] (defScope zs02) := ⟨rfl, rfl, rfl, by decide +kernel, rfl, by decide +kernel, by decide +kernel⟩
theorem zsc0f : FnScope ["_law_script", "_law_book", "_law_lines", "_law_found", "_law_k", "_law_back", "_law_more", "_law_words", "_law_due", "_law_again", "_law_spoilt"] ["_law_script"] (defScope zs0f) := ⟨rfl, rfl, rfl, by decide +kernel, rfl, by decide +kernel, by decide +kernel⟩
theorem znd0f_0 : List.Nodup (["_law_line"] : List Str) := by decide +kernel
theorem znd0f_1 : List.Nodup (["_law_line"] : List Str) := by decide +kernel
section
variable {P : Program} {w : World} {K : PySem.W.Frag} {mg : Str → Option Value} {base : Heap} {f : Addr} {cdv : Value} {A : Around} {outer : List Env} {s : Shared} {H : Hp} {E : XK}
theorem zder08 {C_HallError : Addr} {C_NoLine : Addr} {C_NoBook : Addr}  (T : Txt K mg C_HallError C_NoLine C_NoBook)
    
    (hr : Room 0 (A.deeper (PyProof.Rows.envOfC "can_stand" (defScope zs08) s.heap.objs.size f cdv))) :
    PSs (cxOf CX0 P w K mg base ["word", "ahead"] "can_stand" (defScope zs08) f cdv A outer s H E).nox (defBody zs08) (zR08 K ) := by
  have hu := hu_of hr
  have hu64 := hr.units
  have hu65 := hu65_of hr
  unfold zR08
  exact (pss_cons (ps_if (pt_cmpR op_eq (pe_callB call_len_seq (by rfl) T.n_len PySem.boot_len (pa_cons (pv 1) pa_nil)) pe_int (nomark _))
      (pss_one (ps_ret (pe_cmpR op_in_seq (pv 0) (pe_tup (pa_cons pe_str (pa_cons pe_str (pa_cons pe_str (pa_cons pe_str pa_nil))))) (by with_unfolding_all rfl))))
      pss_nil)
      (pss_one (ps_ret (pe_and (pe_cmpR (op_inD hu65) (pv 1) (pe_tup (pa_cons (pe_lst (pa_cons pe_str pa_nil)) (pa_cons (pe_lst (pa_cons pe_str pa_nil)) pa_nil))) (by with_unfolding_all rfl)) (pe_one (pe_cmpR op_in_seq (pv 0) (pe_tup (pa_cons pe_str (pa_cons pe_str pa_nil))) (by with_unfolding_all rfl)))))))
theorem zder0b {C_HallError : Addr} {C_NoLine : Addr} {C_NoBook : Addr} (zsp08 : Sp) (T : Txt K mg C_HallError C_NoLine C_NoBook)
    (zh08 : Has P w K mg base 1 "can_stand" ["word", "ahead"] zsp08)
    (hr : Room 1 (A.deeper (PyProof.Rows.envOfC "is_sound" (defScope zs0b) s.heap.objs.size f cdv))) :
    PSs (cxOf CX0 P w K mg base ["book", "words_so_far", "line", "ahead"] "is_sound" (defScope zs0b) f cdv A outer s H E).nox (defBody zs0b) (zR0b K zsp08) := by
  have hu := hu_of hr
  have hu64 := hr.units
  have hu65 := hu65_of hr
  obtain ⟨zf08, zfd08, zG08, zm08, zk08, zb08⟩ := zh08
  have zhr08 := hr.mono (j := 1) (by decide)
  unfold zR0b
  exact (pss_cons (ps_set (i := 1) zsc0b.nd rfl (Or.inl rfl) pe_dnewK)
      (pss_cons (ps_for PassesOwn.never rfl (pi_list (pv 0)) (pg_name (i := 2) zsc0b.nd rfl (Or.inl rfl))
      (pss_cons (ps_set (i := 3) zsc0b.nd rfl (Or.inl rfl) (pe_dsetd (pv 1) (pe_ix ix_tup (pv 2) pe_int (fun _ _ => rfl)) (pe_lst pa_nil) ⟨rfl, rfl, rfl, rfl⟩))
      (pss_cons (ps_if (pt_not (pt_val (pe_call zG08 zhr08 rfl zm08 zk08 zb08 .nil pass0 (pa_cons (pe_ix ix_tup (pv 2) pe_int (fun _ _ => rfl)) (pa_cons (pv 3) pa_nil)))))
      (pss_one (ps_ret pe_bl))
      pss_nil)
      (pss_one (ps_expr (pe_bm PySem.F.plainAttrs_list PySem.F.slot_list_append PySem.F.type_list_append mt_append (pv 3) (pa_cons (pe_ix ix_tup (pv 2) pe_int (fun _ _ => rfl)) pa_nil)))))))
      (pss_one (ps_ret pe_bl))))
theorem zder05 {C_HallError : Addr} {C_NoLine : Addr} {C_NoBook : Addr}  (T : Txt K mg C_HallError C_NoLine C_NoBook)
    
    (hr : Room 0 (A.deeper (PyProof.Rows.envOfC "shown_line" (defScope zs05) s.heap.objs.size f cdv))) :
    PSs (cxOf CX0 P w K mg base ["line", "word", "bargain"] "shown_line" (defScope zs05) f cdv A outer s H E).nox (defBody zs05) (zR05 K ) := by
  have hu := hu_of hr
  have hu64 := hr.units
  have hu65 := hu65_of hr
  unfold zR05
  exact (pss_cons (ps_set (i := 1) zsc05.nd rfl (Or.inl rfl) (pe_ix ix_tup (pv 0) pe_int (fun _ _ => rfl)))
      (pss_cons (ps_set (i := 2) zsc05.nd rfl (Or.inl rfl) (pe_ix ix_tup (pv 0) pe_int (fun _ _ => rfl)))
      (pss_one (ps_ret (pe_fmt (pv 1) (pv 2))))))
theorem zder0d {C_HallError : Addr} {C_NoLine : Addr} {C_NoBook : Addr} (zsp05 : Sp) (T : Txt K mg C_HallError C_NoLine C_NoBook)
    (zh05 : Has P w K mg base 1 "shown_line" ["line"] zsp05)
    (hr : Room 1 (A.deeper (PyProof.Rows.envOfC "shown" (defScope zs0d) s.heap.objs.size f cdv))) :
    PSs (cxOf CX0 P w K mg base ["book"] "shown" (defScope zs0d) f cdv A outer s H E).nox (defBody zs0d) (zR0d K zsp05) := by
  have hu := hu_of hr
  have hu64 := hr.units
  have hu65 := hu65_of hr
  obtain ⟨zf05, zfd05, zG05, zm05, zk05, zb05⟩ := zh05
  have zhr05 := hr.mono (j := 1) (by decide)
  unfold zR0d
  exact (pss_one (ps_ret (pe_lc rfl (show CompOk _ (["line"] : List Str) _ ([] : List (Str × Addr)) ([none] : List (Option Nat)) from ⟨by with_unfolding_all rfl, rfl, rfl, rfl, rfl, trivial, trivial⟩) (pi_list (pv 0)) (fun _ _ _ _ => (pg_name (i := 0) znd0d_0 rfl (Or.inl rfl))) (fun _ _ _ _ => pifs_nil) (fun _ _ _ _ => (pe_call zG05 zhr05 rfl zm05 zk05 zb05 .nil pass0 (pa_cons (pv 0) pa_nil))))))
theorem zder07 {C_HallError : Addr} {C_NoLine : Addr} {C_NoBook : Addr}  (T : Txt K mg C_HallError C_NoLine C_NoBook)
    
    (hr : Room 0 (A.deeper (PyProof.Rows.envOfC "is_number" (defScope zs07) s.heap.objs.size f cdv))) :
    PSs (cxOf CX0 P w K mg base ["figures"] "is_number" (defScope zs07) f cdv A outer s H E).nox (defBody zs07) (zR07 K ) := by
  have hu := hu_of hr
  have hu64 := hr.units
  have hu65 := hu65_of hr
  unfold zR07
  exact (pss_cons (ps_if (PW.pt (pw_or (pt_cmpR op_eq (pv 0) pe_str (nomark _)) (pw_or1 (pt_cmpR op_ne (pe_bm PySem.F.plainAttrs_str PySem.F.slot_str_strip PySem.F.type_str_strip mt_stripC (pv 0) (pa_cons pe_str pa_nil)) pe_str (nomark _)))))
      (pss_one (ps_ret pe_bl))
      pss_nil)
      (pss_one (ps_ret (pe_or (pe_cmpR op_eq (pv 0) pe_str (nomark _)) (pe_one (pe_not (pe_bm PySem.F.plainAttrs_str PySem.F.slot_str_startswith PySem.F.type_str_startswith mt_starts (pv 0) (pa_cons pe_str pa_nil))))))))
theorem zder09 {P : Program} {w : World} {K : PySem.W.Frag} {mg : Str → Option Value} {base : Heap} {f : Addr} {cdv : Value} {A : Around} {outer : List Env} {s : Shared} {H : Hp} {C_HallError : Addr} {C_NoBook : Addr} (zsp07 : Sp) (C_NoLine : Addr) (E : XK) (T : Txt K mg C_HallError C_NoLine C_NoBook)
    (zh07 : Has P w K mg base 1 "is_number" ["figures"] zsp07)
    (hr : Room 1 (A.deeper (PyProof.Rows.envOfC "read_line" (defScope zs09) s.heap.objs.size f cdv))) :
    PSs (cxOf (CXE P w) P w K mg base ["text", "parts"] "read_line" (defScope zs09) f cdv A outer s H E) (defBody zs09) (zR09 K zsp07 C_NoLine E) := by
  have hu := hu_of hr
  have hu64 := hr.units
  have hu65 := hu65_of hr
  obtain ⟨zf07, zfd07, zG07, zm07, zk07, zb07⟩ := zh07
  have zhr07 := hr.mono (j := 1) (by decide)
  unfold zR09
  exact (pss_cons (ps_set (i := 1) zsc09.nd rfl (Or.inl rfl) (pe_bm PySem.F.plainAttrs_str PySem.F.slot_str_split PySem.F.type_str_split mt_split (pv 0) (pa_cons pe_str pa_nil)))
      (pss_cons (ps_if (pt_cmpR op_ne (pe_callB call_len_seq (by rfl) T.n_len PySem.boot_len (pa_cons (pv 1) pa_nil)) pe_int (nomark _))
      (pss_one (ps_raise PySem.F.excBase_ValueError rfl T.m_NoLine T.x_NoLine rfl raises_cx))
      pss_nil)
      (pss_cons (ps_if (pt_cmpR op_notIn_seq (pe_ix ix_list (pv 1) pe_int (fun _ _ => rfl)) (pe_tup (pa_cons pe_str (pa_cons pe_str (pa_cons pe_str (pa_cons pe_str (pa_cons pe_str pa_nil)))))) (by with_unfolding_all rfl))
      (pss_one (ps_raise PySem.F.excBase_ValueError rfl T.m_NoLine T.x_NoLine rfl raises_cx))
      pss_nil)
      (pss_cons (ps_if (pt_not (pt_val (pe_call zG07 zhr07 rfl zm07 zk07 zb07 .nil pass0 (pa_cons (pe_ix ix_list (pv 1) pe_int (fun _ _ => rfl)) pa_nil))))
      (pss_one (ps_raise PySem.F.excBase_ValueError rfl T.m_NoLine T.x_NoLine rfl raises_cx))
      pss_nil)
      (pss_one (ps_ret (pe_tup (pa_cons (pe_ix ix_list (pv 1) pe_int (fun _ _ => rfl)) (pa_cons (pe_callTy call_intS (by rfl) T.n_int PySem.Pv.boot_int (pa_cons (pe_ix ix_list (pv 1) pe_int (fun _ _ => rfl)) pa_nil)) pa_nil)))))))))
theorem zder0e {P : Program} {w : World} {K : PySem.W.Frag} {mg : Str → Option Value} {base : Heap} {f : Addr} {cdv : Value} {A : Around} {outer : List Env} {s : Shared} {H : Hp} {C_HallError : Addr} {C_NoLine : Addr} (zsp09 : Sp) (zsp0b : Sp) (C_NoBook : Addr) (E : XK) (T : Txt K mg C_HallError C_NoLine C_NoBook)
    (zh09 : HasE P w K mg base 2 "read_line" ["text"] zsp09) (zh0b : Has P w K mg base 2 "is_sound" ["book"] zsp0b)
    (hr : Room 2 (A.deeper (PyProof.Rows.envOfC "read" (defScope zs0e) s.heap.objs.size f cdv))) :
    PSs (cxOf (CXE P w) P w K mg base ["lines", "book"] "read" (defScope zs0e) f cdv A outer s H E) (defBody zs0e) (zR0e K zsp09 zsp0b C_NoBook E) := by
  have hu := hu_of hr
  have hu64 := hr.units
  have hu65 := hu65_of hr
  obtain ⟨zf09, zfd09, zG09, zm09, zk09, zb09⟩ := zh09
  have zhr09 := hr.mono (j := 2) (by decide)
  obtain ⟨zf0b, zfd0b, zG0b, zm0b, zk0b, zb0b⟩ := zh0b
  have zhr0b := hr.mono (j := 2) (by decide)
  unfold zR0e
  exact (pss_cons (ps_setLCE (i := 1) (EE := E) (te' := fun EE => (tCall zsp09 [] EE (tCons (tVar 0) tNil))) rfl zsc0e.nd rfl (Or.inl rfl) rfl ⟨rfl, rfl, rfl, rfl⟩ leaves_cx (show CompOk _ (["text"] : List Str) _ ([] : List (Str × Addr)) ([none] : List (Option Nat)) from ⟨by with_unfolding_all rfl, rfl, rfl, rfl, rfl, trivial, trivial⟩) (pi_list (pv 0)) (fun _ _ _ _ => (pg_name (i := 0) znd0e_0 rfl (Or.inl rfl))) (fun _ _ _ _ => pifs_nil) (fun _ _ _ _ _ _ hp => (pe_call zG09 zhr09 rfl zm09 zk09 zb09 .nil hp (pa_cons (pv 0) pa_nil))))
      (pss_cons (ps_if (pt_not (pt_val (pe_call zG0b zhr0b rfl zm0b zk0b zb0b .nil pass0 (pa_cons (pv 1) pa_nil))))
      (pss_one (ps_raise PySem.F.excBase_ValueError rfl T.m_NoBook T.x_NoBook rfl raises_cx))
      pss_nil)
      (pss_one (ps_ret (pv 1)))))
theorem zder06 {C_HallError : Addr} {C_NoLine : Addr} {C_NoBook : Addr}  (T : Txt K mg C_HallError C_NoLine C_NoBook)
    
    (hr : Room 0 (A.deeper (PyProof.Rows.envOfC "_law_whole" (defScope zs06) s.heap.objs.size f cdv))) :
    PSs (cxOf CX0 P w K mg base ["_law_found"] "_law_whole" (defScope zs06) f cdv A outer s H E).nox (defBody zs06) (zR06 K ) := by
  have hu := hu_of hr
  have hu64 := hr.units
  have hu65 := hu65_of hr
  unfold zR06
  exact (pss_one (ps_ret (pe_and (pe_callB call_isinst (by rfl) T.n_isinstance PyProof.Rows.boot_isinstance (pa_cons (pv 0) (pa_cons (pe_bltn (by rfl) T.n_int PySem.Pv.boot_int (v := .ty "int") rfl) pa_nil))) (pe_one (pe_not (pe_callB call_isinst (by rfl) T.n_isinstance PyProof.Rows.boot_isinstance (pa_cons (pv 0) (pa_cons (pe_bltn (by rfl) T.n_bool PySem.Pv.boot_bool (v := .ty "bool") rfl) pa_nil))))))))
theorem zder0c {C_HallError : Addr} {C_NoLine : Addr} {C_NoBook : Addr}  (T : Txt K mg C_HallError C_NoLine C_NoBook)
    
    (hr : Room 0 (A.deeper (PyProof.Rows.envOfC "_law_at" (defScope zs0c) s.heap.objs.size f cdv))) :
    PSs (cxOf CX0 P w K mg base ["_law_script", "_law_k"] "_law_at" (defScope zs0c) f cdv A outer s H E).nox (defBody zs0c) (zR0c K ) := by
  have hu := hu_of hr
  have hu64 := hr.units
  have hu65 := hu65_of hr
  unfold zR0c
  exact (pss_cons (ps_if (pt_cmpR op_lt (pv 1) (pe_callB call_len_seq (by rfl) T.n_len PySem.boot_len (pa_cons (pv 0) pa_nil)) (nomark _))
      (pss_one (ps_ret (pe_ix ix_list (pv 0) (pv 1) (fun _ _ => rfl))))
      pss_nil)
      (pss_one (ps_ret pe_int)))
theorem zder03 {C_HallError : Addr} {C_NoLine : Addr} {C_NoBook : Addr} (zsp06 : Sp) (T : Txt K mg C_HallError C_NoLine C_NoBook)
    (zh06 : Has P w K mg base 1 "_law_whole" ["_law_found"] zsp06)
    (hr : Room 1 (A.deeper (PyProof.Rows.envOfC "_law_is_line" (defScope zs03) s.heap.objs.size f cdv))) :
    PSs (cxOf CX0 P w K mg base ["_law_found"] "_law_is_line" (defScope zs03) f cdv A outer s H E).nox (defBody zs03) (zR03 K zsp06) := by
  have hu := hu_of hr
  have hu64 := hr.units
  have hu65 := hu65_of hr
  obtain ⟨zf06, zfd06, zG06, zm06, zk06, zb06⟩ := zh06
  have zhr06 := hr.mono (j := 1) (by decide)
  unfold zR03
  exact (pss_cons (ps_if (PW.pt (pw_or (pt_not (pt_val (pe_callB call_isinst (by rfl) T.n_isinstance PyProof.Rows.boot_isinstance (pa_cons (pv 0) (pa_cons (pe_bltn (by rfl) T.n_tuple PySem.Pv.boot_tuple (v := .ty "tuple") rfl) pa_nil))))) (pw_or1 (pt_cmpR op_ne (pe_callB call_len_seq (by rfl) T.n_len PySem.boot_len (pa_cons (pv 0) pa_nil)) pe_int (nomark _)))))
      (pss_one (ps_ret pe_bl))
      pss_nil)
      (pss_cons (ps_if (PW.pt (pw_or (pt_not (pt_val (pe_callB call_isinst (by rfl) T.n_isinstance PyProof.Rows.boot_isinstance (pa_cons (pe_ix ix_tup (pv 0) pe_int (fun _ _ => rfl)) (pa_cons (pe_bltn (by rfl) T.n_str PySem.Pv.boot_str (v := .ty "str") rfl) pa_nil))))) (pw_or1 (pt_not (pt_val (pe_call zG06 zhr06 rfl zm06 zk06 zb06 .nil pass0 (pa_cons (pe_ix ix_tup (pv 0) pe_int (fun _ _ => rfl)) pa_nil)))))))
      (pss_one (ps_ret pe_bl))
      pss_nil)
      (pss_one (ps_ret (pe_cmpR op_in_seq (pe_ix ix_tup (pv 0) pe_int (fun _ _ => rfl)) (pe_lst (pa_cons pe_str (pa_cons pe_str (pa_cons pe_str (pa_cons pe_str (pa_cons pe_str pa_nil)))))) (by with_unfolding_all rfl))))))
theorem zder01 {C_HallError : Addr} {C_NoLine : Addr} {C_NoBook : Addr} (zsp03 : Sp) (T : Txt K mg C_HallError C_NoLine C_NoBook)
    (zh03 : Has P w K mg base 2 "_law_is_line" ["_law_found"] zsp03)
    (hr : Room 2 (A.deeper (PyProof.Rows.envOfC "_law_are_lines" (defScope zs01) s.heap.objs.size f cdv))) :
    PSs (cxOf CX0 P w K mg base ["_law_found", "_law_line"] "_law_are_lines" (defScope zs01) f cdv A outer s H E).nox (defBody zs01) (zR01 K zsp03) := by
  have hu := hu_of hr
  have hu64 := hr.units
  have hu65 := hu65_of hr
  obtain ⟨zf03, zfd03, zG03, zm03, zk03, zb03⟩ := zh03
  have zhr03 := hr.mono (j := 2) (by decide)
  unfold zR01
  exact (pss_cons (ps_if (pt_not (pt_val (pe_callB call_isinst (by rfl) T.n_isinstance PyProof.Rows.boot_isinstance (pa_cons (pv 0) (pa_cons (pe_bltn (by rfl) T.n_list PySem.Pv.boot_list (v := .ty "list") rfl) pa_nil)))))
      (pss_one (ps_ret pe_bl))
      pss_nil)
      (pss_cons (ps_for PassesOwn.never rfl (pi_list (pv 0)) (pg_name (i := 1) zsc01.nd rfl (Or.inl rfl))
      (pss_one (ps_if (pt_not (pt_val (pe_call zG03 zhr03 rfl zm03 zk03 zb03 .nil pass0 (pa_cons (pv 1) pa_nil))))
      (pss_one (ps_ret pe_bl))
      pss_nil)))
      (pss_one (ps_ret pe_bl))))
theorem zder04 {C_HallError : Addr} {C_NoLine : Addr} {C_NoBook : Addr}  (T : Txt K mg C_HallError C_NoLine C_NoBook)
    
    (hr : Room 0 (A.deeper (PyProof.Rows.envOfC "_law_book_of" (defScope zs04) s.heap.objs.size f cdv))) :
    PSs (cxOf CX0 P w K mg base ["_law_cells", "_law_book", "_law_states", "_law_cell", "_law_bargain", "_law_lines", "_law_word"] "_law_book_of" (defScope zs04) f cdv A outer s H E).nox (defBody zs04) (zR04 K ) := by
  have hu := hu_of hr
  have hu64 := hr.units
  have hu65 := hu65_of hr
  unfold zR04
  exact (pss_cons (ps_set (i := 1) zsc04.nd rfl (Or.inl rfl) (pe_lst pa_nil))
      (pss_cons (ps_set (i := 2) zsc04.nd rfl (Or.inl rfl) pe_dnewK)
      (pss_cons (ps_for PassesOwn.never rfl (pi_list (pv 0)) (pg_name (i := 3) zsc04.nd rfl (Or.inl rfl))
      (pss_cons (ps_set (i := 4) zsc04.nd rfl (Or.inl rfl) (pe_ix ix_list (pe_lst (pa_cons pe_int (pa_cons pe_int (pa_cons pe_int (pa_cons pe_int (pa_cons pe_int (pa_cons pe_int pa_nil))))))) (pe_op op_mod (pe_op op_mod (pe_op op_mul (pv 3) pe_int) pe_int) pe_int) (fun _ _ => rfl)))
      (pss_cut (ps_if (pt_cmpR op_eq (pe_op op_mod (pe_op op_mod (pe_op op_mul (pv 3) pe_int) pe_int) pe_int) pe_int (nomark _))
      (pss_one (ps_set (i := 4) zsc04.nd rfl (Or.inl rfl) (pe_op op_add pe_int (pe_op op_mod (pe_op op_mul (pv 3) pe_int) pe_int))))
      pss_nil)
      (pss_cons (ps_set (i := 5) zsc04.nd rfl (Or.inl rfl) (pe_dget2 hu (pv 2) (pv 4) (pe_lst pa_nil) ⟨rfl, rfl, rfl, rfl⟩))
      (pss_cons (ps_set (i := 6) zsc04.nd rfl (Or.inl rfl) (pe_ix ix_list (pe_lst (pa_cons pe_str (pa_cons pe_str (pa_cons pe_str (pa_cons pe_str pa_nil))))) (pe_op op_mod (pe_op op_mod (pe_op op_mul (pv 3) pe_int) pe_int) pe_int) (fun _ _ => rfl)))
      (pss_cut (ps_if (PW.pt (pw_or (pt_cmpR (op_eqD hu64) (pv 5) (pe_lst (pa_cons pe_str pa_nil)) (nomark _)) (pw_or1 (pt_cmpR (op_eqD hu64) (pv 5) (pe_lst (pa_cons pe_str pa_nil)) (nomark _)))))
      (pss_one (ps_set (i := 6) zsc04.nd rfl (Or.inl rfl) (pe_ix ix_list (pe_lst (pa_cons pe_str (pa_cons pe_str pa_nil))) (pe_op op_mod (pe_op op_mod (pe_op op_mul (pv 3) pe_int) pe_int) pe_int) (fun _ _ => rfl))))
      pss_nil)
      (pss_one (ps_if (PW.pt (pw_or (pt_cmpR (op_eqD hu64) (pv 5) (pe_lst pa_nil) (nomark _)) (pw_or (pt_cmpR (op_eqD hu64) (pv 5) (pe_lst (pa_cons pe_str pa_nil)) (nomark _)) (pw_or1 (pt_cmpR (op_eqD hu64) (pv 5) (pe_lst (pa_cons pe_str pa_nil)) (nomark _))))))
      (pss_cons (ps_expr (pe_bm PySem.F.plainAttrs_list PySem.F.slot_list_append PySem.F.type_list_append mt_append (pv 1) (pa_cons (pe_tup (pa_cons (pv 6) (pa_cons (pv 4) pa_nil))) pa_nil)))
      (pss_one (ps_dput hu (pv 2) (pv 4) (pe_op op_cat (pv 5) (pe_lst (pa_cons (pv 6) pa_nil))) rfl)))
      pss_nil))))))))
      (pss_one (ps_ret (pv 1))))))
theorem zder0a {C_HallError : Addr} (zsp0e : Sp) (C_NoLine : Addr) (C_NoBook : Addr) (T : Txt K mg C_HallError C_NoLine C_NoBook)
    (zh0e : HasE P w K mg base 3 "read" ["lines"] zsp0e)
    (hr : Room 3 (A.deeper (PyProof.Rows.envOfC "_law_told" (defScope zs0a) s.heap.objs.size f cdv))) :
    PSs (cxOf CX0 P w K mg base ["_law_lines", "_law_word"] "_law_told" (defScope zs0a) f cdv A outer s H E).nox (defBody zs0a) (zR0a K zsp0e C_NoLine C_NoBook) := by
  have hu := hu_of hr
  have hu64 := hr.units
  have hu65 := hu65_of hr
  obtain ⟨zf0e, zfd0e, zG0e, zm0e, zk0e, zb0e⟩ := zh0e
  have zhr0e := hr.mono (j := 3) (by decide)
  unfold zR0a
  exact (pss_cons (ps_set (i := 1) zsc0a.nd rfl (Or.inl rfl) pe_str)
      (pss_cons (ps_try2 (te := fun EE => (tCall zsp0e [] EE (tCons (tVar 0) tNil))) ⟨rfl, rfl, rfl, rfl⟩ (fun _ _ _ hp => (pe_call zG0e zhr0e rfl zm0e zk0e zb0e .nil hp (pa_cons (pv 0) pa_nil))) rfl T.m_NoLine T.x_NoLine rfl T.m_NoBook T.x_NoBook (by decide) T.s_NoLine T.d_NoBook_NoLine T.s_NoBook (fun _ _ => pss_one (ps_set (i := 1) zsc0a.nd rfl (Or.inl rfl) pe_str)) (fun _ _ => pss_one (ps_set (i := 1) zsc0a.nd rfl (Or.inl rfl) pe_str)))
      (pss_one (ps_ret (pv 1)))))
theorem zder00 (zsp0e : Sp) (C_HallError : Addr) (C_NoLine : Addr) (C_NoBook : Addr) (T : Txt K mg C_HallError C_NoLine C_NoBook)
    (zh0e : HasE P w K mg base 3 "read" ["lines"] zsp0e)
    (hr : Room 3 (A.deeper (PyProof.Rows.envOfC "_law_under_base" (defScope zs00) s.heap.objs.size f cdv))) :
    PSs (cxOf CX0 P w K mg base ["_law_lines", "e", "_law_kinds"] "_law_under_base" (defScope zs00) f cdv A outer s H E).nox (defBody zs00) (zR00 K zsp0e C_HallError C_NoLine C_NoBook) := by
  have hu := hu_of hr
  have hu64 := hr.units
  have hu65 := hu65_of hr
  obtain ⟨zf0e, zfd0e, zG0e, zm0e, zk0e, zb0e⟩ := zh0e
  have zhr0e := hr.mono (j := 3) (by decide)
  unfold zR00
  exact (pss_cons (ps_tryAs (i := 1) (t := fun ea => (tSeq (tAsg (tLst (tCons (tCB (rIsiE K ea C_NoLine) (tCons (tVar 1) (tCons (tC (.ref C_NoLine)) tNil))) (tCons (tCB (rIsiE K ea C_NoLine) (tCons (tVar 1) (tCons (tC (.ref C_NoBook)) tNil))) tNil))) (gName 2))
    (tRet (tAndV (tCB (rIsiE K ea C_NoLine) (tCons (tVar 1) (tCons (tC (.ty "ValueError")) tNil))) (tOp rEq (tBM K "list" rCountB (tVar 2) (tCons (tC (.bl true)) tNil)) (tC (.int 1))))))) (te := fun EE => (tCall zsp0e [] EE (tCons (tVar 0) tNil))) ⟨rfl, rfl, rfl, rfl⟩ (fun _ _ _ hp => (pe_call zG0e zhr0e rfl zm0e zk0e zb0e .nil hp (pa_cons (pv 0) pa_nil))) rfl T.m_HallError T.x_HallError T.x_NoLine (by decide) T.u_NoLine_HallError zsc00.nd rfl rfl rfl (fun ea oe pn hc => (pss_cons (ps_set (i := 2) zsc00.nd rfl (Or.inl rfl) (pe_lst (pa_cons (pe_callB (call_isiE T.is_NoLine List.mem_cons_self hc) (by rfl) T.n_isinstance PyProof.Rows.boot_isinstance (pa_cons (pv 1) (pa_cons (pe_glob (by rfl) T.m_NoLine (v := .ref C_NoLine) rfl) pa_nil))) (pa_cons (pe_callB (call_isiE T.is_NoLine List.mem_cons_self hc) (by rfl) T.n_isinstance PyProof.Rows.boot_isinstance (pa_cons (pv 1) (pa_cons (pe_glob (by rfl) T.m_NoBook (v := .ref C_NoBook) rfl) pa_nil))) pa_nil))))
      (pss_one (ps_ret (pe_and (pe_callB (call_isiE T.is_NoLine List.mem_cons_self hc) (by rfl) T.n_isinstance PyProof.Rows.boot_isinstance (pa_cons (pv 1) (pa_cons (pe_bltn (by rfl) T.n_ValueError boot_ValueError (v := .ty "ValueError") rfl) pa_nil))) (pe_one (pe_cmpR op_eq (pe_bm PySem.F.plainAttrs_list PySem.F.slot_list_count PySem.F.type_list_count mt_countB (pv 2) (pa_cons pe_bl pa_nil)) pe_int (nomark _)))))))))
      (pss_one (ps_ret pe_bl)))
theorem zder02 {C_HallError : Addr} {C_NoLine : Addr} {C_NoBook : Addr}  (T : Txt K mg C_HallError C_NoLine C_NoBook)
    
    (hr : Room 0 (A.deeper (PyProof.Rows.envOfC "_law_with_bad" (defScope zs02) s.heap.objs.size f cdv))) :
    PSs (cxOf CX0 P w K mg base ["_law_lines", "_law_cell", "_law_bad", "_law_spot"] "_law_with_bad" (defScope zs02) f cdv A outer s H E).nox (defBody zs02) (zR02 K ) := by
  have hu := hu_of hr
  have hu64 := hr.units
  have hu65 := hu65_of hr
  unfold zR02
  exact (pss_cons (ps_set (i := 2) zsc02.nd rfl (Or.inl rfl) (pe_lst (pa_cons pe_str (pa_cons pe_str (pa_cons pe_str (pa_cons pe_str (pa_cons pe_str (pa_cons pe_str (pa_cons pe_str (pa_cons pe_str (pa_cons pe_str (pa_cons pe_str pa_nil))))))))))))
      (pss_cons (ps_set (i := 2) zsc02.nd rfl (Or.inl rfl) (pe_op op_cat (pv 2) (pe_lst (pa_cons pe_str (pa_cons pe_str (pa_cons pe_str (pa_cons pe_str (pa_cons pe_str (pa_cons pe_str pa_nil)))))))))
      (pss_cons (ps_set (i := 3) zsc02.nd rfl (Or.inl rfl) (pe_op op_mod (pe_op op_mod (pe_op op_mul (pv 1) pe_int) pe_int) (pe_op op_add (pe_callB call_len_seq (by rfl) T.n_len PySem.boot_len (pa_cons (pv 0) pa_nil)) pe_int)))
      (pss_one (ps_ret (pe_op op_cat (pe_op op_cat (pe_slice sl_list (pv 0) po_none (po_some (pv 3))) (pe_lst (pa_cons (pe_ix ix_list (pv 2) (pe_op op_mod (pe_op op_mod (pe_op op_mul (pv 1) pe_int) pe_int) (pe_callB call_len_seq (by rfl) T.n_len PySem.boot_len (pa_cons (pv 2) pa_nil))) (fun _ _ => rfl)) pa_nil))) (pe_slice sl_list (pv 0) (po_some (pv 3)) po_none)))))))
theorem zder0f {C_HallError : Addr} {C_NoLine : Addr} {C_NoBook : Addr} (zsp04 : Sp) (zsp0d : Sp) (zsp0e : Sp) (zsp01 : Sp) (zsp0c : Sp) (zsp02 : Sp) (zsp0a : Sp) (zsp00 : Sp) (T : Txt K mg C_HallError C_NoLine C_NoBook)
    (zh04 : Has P w K mg base 1 "_law_book_of" ["_law_cells"] zsp04) (zh0d : Has P w K mg base 2 "shown" ["book"] zsp0d) (zh0e : HasE P w K mg base 3 "read" ["lines"] zsp0e) (zh01 : Has P w K mg base 3 "_law_are_lines" ["_law_found"] zsp01) (zh0c : Has P w K mg base 1 "_law_at" ["_law_script", "_law_k"] zsp0c) (zh02 : Has P w K mg base 1 "_law_with_bad" ["_law_lines", "_law_cell"] zsp02) (zh0a : Has P w K mg base 4 "_law_told" ["_law_lines"] zsp0a) (zh00 : Has P w K mg base 4 "_law_under_base" ["_law_lines"] zsp00)
    (hr : Room 4 (A.deeper (PyProof.Rows.envOfC "law" (defScope zs0f) s.heap.objs.size f cdv))) :
    PSs (cxOf CX0 P w K mg base ["_law_script", "_law_book", "_law_lines", "_law_found", "_law_k", "_law_back", "_law_more", "_law_words", "_law_due", "_law_again", "_law_spoilt"] "law" (defScope zs0f) f cdv A outer s H E).nox (defBody zs0f) (zR0f K zsp04 zsp0d zsp0e zsp01 zsp0c zsp02 zsp0a zsp00) := by
  have hu := hu_of hr
  have hu64 := hr.units
  have hu65 := hu65_of hr
  obtain ⟨zf04, zfd04, zG04, zm04, zk04, zb04⟩ := zh04
  have zhr04 := hr.mono (j := 1) (by decide)
  obtain ⟨zf0d, zfd0d, zG0d, zm0d, zk0d, zb0d⟩ := zh0d
  have zhr0d := hr.mono (j := 2) (by decide)
  obtain ⟨zf0e, zfd0e, zG0e, zm0e, zk0e, zb0e⟩ := zh0e
  have zhr0e := hr.mono (j := 3) (by decide)
  obtain ⟨zf01, zfd01, zG01, zm01, zk01, zb01⟩ := zh01
  have zhr01 := hr.mono (j := 3) (by decide)
  obtain ⟨zf0c, zfd0c, zG0c, zm0c, zk0c, zb0c⟩ := zh0c
  have zhr0c := hr.mono (j := 1) (by decide)
  obtain ⟨zf02, zfd02, zG02, zm02, zk02, zb02⟩ := zh02
  have zhr02 := hr.mono (j := 1) (by decide)
  obtain ⟨zf0a, zfd0a, zG0a, zm0a, zk0a, zb0a⟩ := zh0a
  have zhr0a := hr.mono (j := 4) (by decide)
  obtain ⟨zf00, zfd00, zG00, zm00, zk00, zb00⟩ := zh00
  have zhr00 := hr.mono (j := 4) (by decide)
  unfold zR0f
  exact (pss_cons (ps_set (i := 1) zsc0f.nd rfl (Or.inl rfl) (pe_call zG04 zhr04 rfl zm04 zk04 zb04 .nil pass0 (pa_cons (pe_slice sl_list (pv 0) (po_some pe_int) (po_some pe_int)) pa_nil)))
      (pss_cons (ps_setLC (i := 2) rfl zsc0f.nd rfl (Or.inl rfl) rfl (show CompOk _ (["_law_line"] : List Str) _ ([] : List (Str × Addr)) ([none] : List (Option Nat)) from ⟨by with_unfolding_all rfl, rfl, rfl, rfl, rfl, trivial, trivial⟩) (pi_list (pv 1)) (fun _ _ _ _ => (pg_name (i := 0) znd0f_0 rfl (Or.inl rfl))) (fun _ _ _ _ => pifs_nil) (fun _ _ _ _ => (pe_op op_add_str (pe_op op_add_str (pe_ix ix_tup (pv 0) pe_int (fun _ _ => rfl)) pe_str) (pe_callTy call_strI (by rfl) T.n_str PySem.Pv.boot_str (pa_cons (pe_ix ix_tup (pv 0) pe_int (fun _ _ => rfl)) pa_nil)))))
      (pss_cons (ps_set (i := 3) zsc0f.nd rfl (Or.inl rfl) (pe_call zG0d zhr0d rfl zm0d zk0d zb0d .nil pass0 (pa_cons (pe_callTy call_list_of (by rfl) T.n_list PySem.Pv.boot_list (pa_cons (pv 1) pa_nil)) pa_nil)))
      (pss_cons (ps_if (PW.pt (pw_or (pt_not (pt_val (pe_callB call_isinst (by rfl) T.n_isinstance PyProof.Rows.boot_isinstance (pa_cons (pv 3) (pa_cons (pe_bltn (by rfl) T.n_list PySem.Pv.boot_list (v := .ty "list") rfl) pa_nil))))) (pw_or1 (pt_cmpR op_ne (pe_callB call_len_seq (by rfl) T.n_len PySem.boot_len (pa_cons (pv 3) pa_nil)) (pe_callB call_len_seq (by rfl) T.n_len PySem.boot_len (pa_cons (pv 2) pa_nil)) (nomark _)))))
      (pss_one (ps_ret pe_bl))
      pss_nil)
      (pss_cons (ps_for PassesOwn.never rfl (pi_range1 rfl T.n_range (pa_cons (pe_callB call_len_seq (by rfl) T.n_len PySem.boot_len (pa_cons (pv 2) pa_nil)) pa_nil)) (pg_name (i := 4) zsc0f.nd rfl (Or.inl rfl))
      (pss_one (ps_if (PW.pt (pw_or (pt_not (pt_val (pe_callB call_isinst (by rfl) T.n_isinstance PyProof.Rows.boot_isinstance (pa_cons (pe_ix ix_list (pv 3) (pv 4) (fun _ _ => rfl)) (pa_cons (pe_bltn (by rfl) T.n_str PySem.Pv.boot_str (v := .ty "str") rfl) pa_nil))))) (pw_or1 (pt_cmpR op_ne (pe_ix ix_list (pv 3) (pv 4) (fun _ _ => rfl)) (pe_ix ix_list (pv 2) (pv 4) (fun _ _ => rfl)) (nomark _)))))
      (pss_one (ps_ret pe_bl))
      pss_nil)))
      (pss_cons (ps_set (i := 5) zsc0f.nd rfl (Or.inl rfl) (pe_call zG0e zhr0e rfl zm0e zk0e zb0e .nil passF (pa_cons (pe_callTy call_list_of (by rfl) T.n_list PySem.Pv.boot_list (pa_cons (pv 2) pa_nil)) pa_nil)))
      (pss_cons (ps_if (PW.pt (pw_or (pt_not (pt_val (pe_call zG01 zhr01 rfl zm01 zk01 zb01 .nil pass0 (pa_cons (pv 5) pa_nil)))) (pw_or1 (pt_cmpR (op_neD hu64) (pv 5) (pv 1) (nomark _)))))
      (pss_one (ps_ret pe_bl))
      pss_nil)
      (pss_cons (ps_if (pt_cmpR op_ne (pe_call zG0a zhr0a rfl zm0a zk0a zb0a .nil pass0 (pa_cons (pe_call zG02 zhr02 rfl zm02 zk02 zb02 .nil pass0 (pa_cons (pv 2) (pa_cons (pe_call zG0c zhr0c rfl zm0c zk0c zb0c .nil pass0 (pa_cons (pv 0) (pa_cons pe_int pa_nil))) pa_nil))) pa_nil)) pe_str (nomark _))
      (pss_one (ps_ret pe_bl))
      pss_nil)
      (pss_cons (ps_set (i := 6) zsc0f.nd rfl (Or.inl rfl) (pe_ix ix_list (pe_lst (pa_cons pe_str (pa_cons pe_str pa_nil))) (pe_op op_mod (pe_op op_mod (pe_op op_mul (pe_call zG0c zhr0c rfl zm0c zk0c zb0c .nil pass0 (pa_cons (pv 0) (pa_cons pe_int pa_nil))) pe_int) pe_int) pe_int) (fun _ _ => rfl)))
      (pss_cons (ps_setLC (i := 7) rfl zsc0f.nd rfl (Or.inl rfl) rfl (show CompOk _ (["_law_line"] : List Str) _ ([] : List (Str × Addr)) ([none] : List (Option Nat)) from ⟨by with_unfolding_all rfl, rfl, rfl, rfl, rfl, trivial, trivial⟩) (pi_list (pv 1)) (fun _ _ _ _ => (pg_name (i := 0) znd0f_1 rfl (Or.inl rfl))) (fun _ _ _ _ => (pifs_one (pt_cmpR op_eq (pe_ix ix_tup (pv 0) pe_int (fun _ _ => rfl)) pe_int (nomark _)))) (fun _ _ _ _ => (pe_ix ix_tup (pv 0) pe_int (fun _ _ => rfl))))
      (pss_cons (ps_set (i := 8) zsc0f.nd rfl (Or.inl rfl) pe_str)
      (pss_cut (ps_if (PW.pt (pw_and (pt_cmpR op_eq (pv 6) pe_str (nomark _)) (pw_and1 (pt_cmpR (op_inD hu65) (pv 7) (pe_lst (pa_cons (pe_lst (pa_cons pe_str pa_nil)) (pa_cons (pe_lst (pa_cons pe_str pa_nil)) pa_nil))) (by with_unfolding_all rfl)))))
      (pss_one (ps_set (i := 8) zsc0f.nd rfl (Or.inl rfl) pe_str))
      pss_nil)
      (pss_cons (ps_if (pt_cmpR op_ne (pe_call zG0a zhr0a rfl zm0a zk0a zb0a .nil pass0 (pa_cons (pe_op op_cat (pv 2) (pe_lst (pa_cons (pv 6) pa_nil))) pa_nil)) (pv 8) (nomark _))
      (pss_one (ps_ret pe_bl))
      pss_nil)
      (pss_cons (ps_if (pt_cmpR op_eq (pe_callB call_len_seq (by rfl) T.n_len PySem.boot_len (pa_cons (pv 2) pa_nil)) pe_int (nomark _))
      (pss_one (ps_ret pe_bl))
      pss_nil)
      (pss_cons (ps_set (i := 9) zsc0f.nd rfl (Or.inl rfl) (pe_ix ix_list (pv 1) (pe_op op_mod (pe_op op_mod (pe_op op_mul (pe_call zG0c zhr0c rfl zm0c zk0c zb0c .nil pass0 (pa_cons (pv 0) (pa_cons pe_int pa_nil))) pe_int) pe_int) (pe_callB call_len_seq (by rfl) T.n_len PySem.boot_len (pa_cons (pv 1) pa_nil))) (fun _ _ => rfl)))
      (pss_cons (ps_if (pt_cmpR op_ne (pe_call zG0a zhr0a rfl zm0a zk0a zb0a .nil pass0 (pa_cons (pe_op op_cat (pv 2) (pe_lst (pa_cons (pe_op op_add_str (pe_op op_add_str (pe_ix ix_tup (pv 9) pe_int (fun _ _ => rfl)) pe_str) (pe_callTy call_strI (by rfl) T.n_str PySem.Pv.boot_str (pa_cons (pe_ix ix_tup (pv 9) pe_int (fun _ _ => rfl)) pa_nil))) pa_nil))) pa_nil)) pe_str (nomark _))
      (pss_one (ps_ret pe_bl))
      pss_nil)
      (pss_cons (ps_set (i := 10) zsc0f.nd rfl (Or.inl rfl) (pe_call zG02 zhr02 rfl zm02 zk02 zb02 .nil pass0 (pa_cons (pe_op op_cat (pv 2) (pe_lst (pa_cons (pv 6) pa_nil))) (pa_cons (pe_call zG0c zhr0c rfl zm0c zk0c zb0c .nil pass0 (pa_cons (pv 0) (pa_cons pe_int pa_nil))) pa_nil))))
      (pss_one (ps_ret (pe_and (pe_cmpR op_eq (pe_call zG0a zhr0a rfl zm0a zk0a zb0a .nil pass0 (pa_cons (pv 10) pa_nil)) pe_str (nomark _)) (pe_one (pe_call zG00 zhr00 rfl zm00 zk00 zb00 .nil pass0 (pa_cons (pv 10) pa_nil)))))))))))))))))))))))
end
section
variable {P : Program} {w : World} {K : PySem.W.Frag} {mg : Str → Option Value} {base : Heap}
theorem zok04 {C_HallError : Addr} {C_NoLine : Addr} {C_NoBook : Addr} {f : Addr} {fd : FuncData} (F : Fun K "_law_book_of" "_law_book_of" zs04 f fd) (T : Txt K mg C_HallError C_NoLine C_NoBook)  (hm : mg "_law_book_of" = some (.ref f)) : Has P w K mg base 1 "_law_book_of" ["_law_cells"] (zsp04 K) :=
  ⟨f, fd, F.ok zsc04 (fun vs H Q E h => (by
    have q := h
    repeat (first | (obtain ⟨rfl, _⟩ := q; rfl) | (obtain ⟨⟨_, _, rfl, _⟩, _⟩ := q; rfl) | (obtain ⟨_, q⟩ := q)))) (fun cdv A outer s H vs Q E hr h => ⟨_, zder04  T  hr, zrd04 h⟩), hm, F.kp, F.binds fun _ _ _ _ _ _ us hl => match us, hl with | [_], _ => rfl⟩
theorem zok05 {C_HallError : Addr} {C_NoLine : Addr} {C_NoBook : Addr} {f : Addr} {fd : FuncData} (F : Fun K "shown_line" "shown_line" zs05 f fd) (T : Txt K mg C_HallError C_NoLine C_NoBook)  (hm : mg "shown_line" = some (.ref f)) : Has P w K mg base 1 "shown_line" ["line"] zsp05 :=
  ⟨f, fd, F.ok zsc05 (fun vs H Q E h => (by
    have q := h
    repeat (first | (obtain ⟨rfl, _⟩ := q; rfl) | (obtain ⟨⟨_, _, rfl, _⟩, _⟩ := q; rfl) | (obtain ⟨_, q⟩ := q)))) (fun cdv A outer s H vs Q E hr h => ⟨_, zder05  T  hr, zrd05 h⟩), hm, F.kp, F.binds fun _ _ _ _ _ _ us hl => match us, hl with | [_], _ => rfl⟩
theorem zok0d {C_HallError : Addr} {C_NoLine : Addr} {C_NoBook : Addr} {f : Addr} {fd : FuncData} (F : Fun K "shown" "shown" zs0d f fd) (T : Txt K mg C_HallError C_NoLine C_NoBook) (zh05 : Has P w K mg base 1 "shown_line" ["line"] zsp05) (hm : mg "shown" = some (.ref f)) : Has P w K mg base 2 "shown" ["book"] zsp0d :=
  ⟨f, fd, F.ok zsc0d (fun vs H Q E h => (by
    have q := h
    repeat (first | (obtain ⟨rfl, _⟩ := q; rfl) | (obtain ⟨⟨_, _, rfl, _⟩, _⟩ := q; rfl) | (obtain ⟨_, q⟩ := q)))) (fun cdv A outer s H vs Q E hr h => ⟨_, zder0d zsp05 T zh05 hr, zrd0d h⟩), hm, F.kp, F.binds fun _ _ _ _ _ _ us hl => match us, hl with | [_], _ => rfl⟩
theorem zok07 {C_HallError : Addr} {C_NoLine : Addr} {C_NoBook : Addr} {f : Addr} {fd : FuncData} (F : Fun K "is_number" "is_number" zs07 f fd) (T : Txt K mg C_HallError C_NoLine C_NoBook)  (hm : mg "is_number" = some (.ref f)) : Has P w K mg base 1 "is_number" ["figures"] zsp07 :=
  ⟨f, fd, F.ok zsc07 (fun vs H Q E h => (by
    have q := h
    repeat (first | (obtain ⟨rfl, _⟩ := q; rfl) | (obtain ⟨⟨_, _, rfl, _⟩, _⟩ := q; rfl) | (obtain ⟨_, q⟩ := q)))) (fun cdv A outer s H vs Q E hr h => ⟨_, zder07  T  hr, zrd07 h⟩), hm, F.kp, F.binds fun _ _ _ _ _ _ us hl => match us, hl with | [_], _ => rfl⟩
theorem zok09 {C_HallError : Addr} {C_NoLine : Addr} {C_NoBook : Addr} {f : Addr} {fd : FuncData} (F : Fun K "read_line" "read_line" zs09 f fd) (T : Txt K mg C_HallError C_NoLine C_NoBook) (zh07 : Has P w K mg base 1 "is_number" ["figures"] zsp07) (hm : mg "read_line" = some (.ref f)) : HasE P w K mg base 2 "read_line" ["text"] (zsp09 C_NoLine) :=
  ⟨f, fd, F.okE zsc09 (fun vs H Q E h => (by
    have q := h
    repeat (first | (obtain ⟨rfl, _⟩ := q; rfl) | (obtain ⟨⟨_, _, rfl, _⟩, _⟩ := q; rfl) | (obtain ⟨_, q⟩ := q)))) (fun cdv A outer s H vs Q E hr h => ⟨_, zder09 zsp07 C_NoLine E T zh07 hr, zrd09 h⟩), hm, F.kp, F.binds fun _ _ _ _ _ _ us hl => match us, hl with | [_], _ => rfl⟩
theorem zok08 {C_HallError : Addr} {C_NoLine : Addr} {C_NoBook : Addr} {f : Addr} {fd : FuncData} (F : Fun K "can_stand" "can_stand" zs08 f fd) (T : Txt K mg C_HallError C_NoLine C_NoBook)  (hm : mg "can_stand" = some (.ref f)) : Has P w K mg base 1 "can_stand" ["word", "ahead"] zsp08 :=
  ⟨f, fd, F.ok zsc08 (fun vs H Q E h => (by
    have q := h
    repeat (first | (obtain ⟨rfl, _⟩ := q; rfl) | (obtain ⟨⟨_, _, rfl, _⟩, _⟩ := q; rfl) | (obtain ⟨_, q⟩ := q)))) (fun cdv A outer s H vs Q E hr h => ⟨_, zder08  T  hr, zrd08 h⟩), hm, F.kp, F.binds fun _ _ _ _ _ _ us hl => match us, hl with | [_, _], _ => rfl⟩
theorem zok0b {C_HallError : Addr} {C_NoLine : Addr} {C_NoBook : Addr} {f : Addr} {fd : FuncData} (F : Fun K "is_sound" "is_sound" zs0b f fd) (T : Txt K mg C_HallError C_NoLine C_NoBook) (zh08 : Has P w K mg base 1 "can_stand" ["word", "ahead"] zsp08) (hm : mg "is_sound" = some (.ref f)) : Has P w K mg base 2 "is_sound" ["book"] zsp0b :=
  ⟨f, fd, F.ok zsc0b (fun vs H Q E h => (by
    have q := h
    repeat (first | (obtain ⟨rfl, _⟩ := q; rfl) | (obtain ⟨⟨_, _, rfl, _⟩, _⟩ := q; rfl) | (obtain ⟨_, q⟩ := q)))) (fun cdv A outer s H vs Q E hr h => ⟨_, zder0b zsp08 T zh08 hr, zrd0b h⟩), hm, F.kp, F.binds fun _ _ _ _ _ _ us hl => match us, hl with | [_], _ => rfl⟩
theorem zok0e {C_HallError : Addr} {C_NoLine : Addr} {C_NoBook : Addr} {f : Addr} {fd : FuncData} (F : Fun K "read" "read" zs0e f fd) (T : Txt K mg C_HallError C_NoLine C_NoBook) (zh09 : HasE P w K mg base 2 "read_line" ["text"] (zsp09 C_NoLine)) (zh0b : Has P w K mg base 2 "is_sound" ["book"] zsp0b) (hm : mg "read" = some (.ref f)) : HasE P w K mg base 3 "read" ["lines"] (zsp0e C_NoLine C_NoBook) :=
  ⟨f, fd, F.okE zsc0e (fun vs H Q E h => (by
    have q := h
    repeat (first | (obtain ⟨rfl, _⟩ := q; rfl) | (obtain ⟨⟨_, _, rfl, _⟩, _⟩ := q; rfl) | (obtain ⟨_, q⟩ := q)))) (fun cdv A outer s H vs Q E hr h => ⟨_, zder0e (zsp09 C_NoLine) zsp0b C_NoBook E T zh09 zh0b hr, zrd0e h⟩), hm, F.kp, F.binds fun _ _ _ _ _ _ us hl => match us, hl with | [_], _ => rfl⟩
theorem zok06 {C_HallError : Addr} {C_NoLine : Addr} {C_NoBook : Addr} {f : Addr} {fd : FuncData} (F : Fun K "_law_whole" "_law_whole" zs06 f fd) (T : Txt K mg C_HallError C_NoLine C_NoBook)  (hm : mg "_law_whole" = some (.ref f)) : Has P w K mg base 1 "_law_whole" ["_law_found"] zsp06 :=
  ⟨f, fd, F.ok zsc06 (fun vs H Q E h => (by
    have q := h
    repeat (first | (obtain ⟨rfl, _⟩ := q; rfl) | (obtain ⟨⟨_, _, rfl, _⟩, _⟩ := q; rfl) | (obtain ⟨_, q⟩ := q)))) (fun cdv A outer s H vs Q E hr h => ⟨_, zder06  T  hr, zrd06 h⟩), hm, F.kp, F.binds fun _ _ _ _ _ _ us hl => match us, hl with | [_], _ => rfl⟩
theorem zok03 {C_HallError : Addr} {C_NoLine : Addr} {C_NoBook : Addr} {f : Addr} {fd : FuncData} (F : Fun K "_law_is_line" "_law_is_line" zs03 f fd) (T : Txt K mg C_HallError C_NoLine C_NoBook) (zh06 : Has P w K mg base 1 "_law_whole" ["_law_found"] zsp06) (hm : mg "_law_is_line" = some (.ref f)) : Has P w K mg base 2 "_law_is_line" ["_law_found"] zsp03 :=
  ⟨f, fd, F.ok zsc03 (fun vs H Q E h => (by
    have q := h
    repeat (first | (obtain ⟨rfl, _⟩ := q; rfl) | (obtain ⟨⟨_, _, rfl, _⟩, _⟩ := q; rfl) | (obtain ⟨_, q⟩ := q)))) (fun cdv A outer s H vs Q E hr h => ⟨_, zder03 zsp06 T zh06 hr, zrd03 h⟩), hm, F.kp, F.binds fun _ _ _ _ _ _ us hl => match us, hl with | [_], _ => rfl⟩
theorem zok01 {C_HallError : Addr} {C_NoLine : Addr} {C_NoBook : Addr} {f : Addr} {fd : FuncData} (F : Fun K "_law_are_lines" "_law_are_lines" zs01 f fd) (T : Txt K mg C_HallError C_NoLine C_NoBook) (zh03 : Has P w K mg base 2 "_law_is_line" ["_law_found"] zsp03) (hm : mg "_law_are_lines" = some (.ref f)) : Has P w K mg base 3 "_law_are_lines" ["_law_found"] zsp01 :=
  ⟨f, fd, F.ok zsc01 (fun vs H Q E h => (by
    have q := h
    repeat (first | (obtain ⟨rfl, _⟩ := q; rfl) | (obtain ⟨⟨_, _, rfl, _⟩, _⟩ := q; rfl) | (obtain ⟨_, q⟩ := q)))) (fun cdv A outer s H vs Q E hr h => ⟨_, zder01 zsp03 T zh03 hr, zrd01 h⟩), hm, F.kp, F.binds fun _ _ _ _ _ _ us hl => match us, hl with | [_], _ => rfl⟩
theorem zok0c {C_HallError : Addr} {C_NoLine : Addr} {C_NoBook : Addr} {f : Addr} {fd : FuncData} (F : Fun K "_law_at" "_law_at" zs0c f fd) (T : Txt K mg C_HallError C_NoLine C_NoBook)  (hm : mg "_law_at" = some (.ref f)) : Has P w K mg base 1 "_law_at" ["_law_script", "_law_k"] (zsp0c K) :=
  ⟨f, fd, F.ok zsc0c (fun vs H Q E h => (by
    have q := h
    repeat (first | (obtain ⟨rfl, _⟩ := q; rfl) | (obtain ⟨⟨_, _, rfl, _⟩, _⟩ := q; rfl) | (obtain ⟨_, q⟩ := q)))) (fun cdv A outer s H vs Q E hr h => ⟨_, zder0c  T  hr, zrd0c h⟩), hm, F.kp, F.binds fun _ _ _ _ _ _ us hl => match us, hl with | [_, _], _ => rfl⟩
theorem zok02 {C_HallError : Addr} {C_NoLine : Addr} {C_NoBook : Addr} {f : Addr} {fd : FuncData} (F : Fun K "_law_with_bad" "_law_with_bad" zs02 f fd) (T : Txt K mg C_HallError C_NoLine C_NoBook)  (hm : mg "_law_with_bad" = some (.ref f)) : Has P w K mg base 1 "_law_with_bad" ["_law_lines", "_law_cell"] zsp02 :=
  ⟨f, fd, F.ok zsc02 (fun vs H Q E h => (by
    have q := h
    repeat (first | (obtain ⟨rfl, _⟩ := q; rfl) | (obtain ⟨⟨_, _, rfl, _⟩, _⟩ := q; rfl) | (obtain ⟨_, q⟩ := q)))) (fun cdv A outer s H vs Q E hr h => ⟨_, zder02  T  hr, zrd02 h⟩), hm, F.kp, F.binds fun _ _ _ _ _ _ us hl => match us, hl with | [_, _], _ => rfl⟩
theorem zok0a {C_HallError : Addr} {C_NoLine : Addr} {C_NoBook : Addr} {f : Addr} {fd : FuncData} (F : Fun K "_law_told" "_law_told" zs0a f fd) (T : Txt K mg C_HallError C_NoLine C_NoBook) (zh0e : HasE P w K mg base 3 "read" ["lines"] (zsp0e C_NoLine C_NoBook)) (hm : mg "_law_told" = some (.ref f)) : Has P w K mg base 4 "_law_told" ["_law_lines"] (zsp0a C_NoLine C_NoBook) :=
  ⟨f, fd, F.ok zsc0a (fun vs H Q E h => (by
    have q := h
    repeat (first | (obtain ⟨rfl, _⟩ := q; rfl) | (obtain ⟨⟨_, _, rfl, _⟩, _⟩ := q; rfl) | (obtain ⟨_, q⟩ := q)))) (fun cdv A outer s H vs Q E hr h => ⟨_, zder0a (zsp0e C_NoLine C_NoBook) C_NoLine C_NoBook T zh0e hr, zrd0a h⟩), hm, F.kp, F.binds fun _ _ _ _ _ _ us hl => match us, hl with | [_], _ => rfl⟩
theorem zok00 {C_HallError : Addr} {C_NoLine : Addr} {C_NoBook : Addr} {f : Addr} {fd : FuncData} (F : Fun K "_law_under_base" "_law_under_base" zs00 f fd) (T : Txt K mg C_HallError C_NoLine C_NoBook) (zh0e : HasE P w K mg base 3 "read" ["lines"] (zsp0e C_NoLine C_NoBook)) (hm : mg "_law_under_base" = some (.ref f)) : Has P w K mg base 4 "_law_under_base" ["_law_lines"] zsp00 :=
  ⟨f, fd, F.ok zsc00 (fun vs H Q E h => (by
    have q := h
    repeat (first | (obtain ⟨rfl, _⟩ := q; rfl) | (obtain ⟨⟨_, _, rfl, _⟩, _⟩ := q; rfl) | (obtain ⟨_, q⟩ := q)))) (fun cdv A outer s H vs Q E hr h => ⟨_, zder00 (zsp0e C_NoLine C_NoBook) C_HallError C_NoLine C_NoBook T zh0e hr, zrd00 T.k_no T.k_ve h⟩), hm, F.kp, F.binds fun _ _ _ _ _ _ us hl => match us, hl with | [_], _ => rfl⟩
theorem zok0f {C_HallError : Addr} {C_NoLine : Addr} {C_NoBook : Addr} {f : Addr} {fd : FuncData} (F : Fun K "law" "law" zs0f f fd) (T : Txt K mg C_HallError C_NoLine C_NoBook) (zh04 : Has P w K mg base 1 "_law_book_of" ["_law_cells"] (zsp04 K)) (zh0d : Has P w K mg base 2 "shown" ["book"] zsp0d) (zh0e : HasE P w K mg base 3 "read" ["lines"] (zsp0e C_NoLine C_NoBook)) (zh01 : Has P w K mg base 3 "_law_are_lines" ["_law_found"] zsp01) (zh0c : Has P w K mg base 1 "_law_at" ["_law_script", "_law_k"] (zsp0c K)) (zh02 : Has P w K mg base 1 "_law_with_bad" ["_law_lines", "_law_cell"] zsp02) (zh0a : Has P w K mg base 4 "_law_told" ["_law_lines"] (zsp0a C_NoLine C_NoBook)) (zh00 : Has P w K mg base 4 "_law_under_base" ["_law_lines"] zsp00) : FnOk P w K mg base CX0 5 f fd ["_law_script"] (spLaw K) :=
  F.ok zsc0f (fun vs H Q E h => (by
    have q := h
    repeat (first | (obtain ⟨rfl, _⟩ := q; rfl) | (obtain ⟨⟨_, _, rfl, _⟩, _⟩ := q; rfl) | (obtain ⟨_, q⟩ := q)))) (fun cdv A outer s H vs Q E hr h => ⟨_, zder0f (zsp04 K) zsp0d (zsp0e C_NoLine C_NoBook) zsp01 (zsp0c K) zsp02 (zsp0a C_NoLine C_NoBook) zsp00 T zh04 zh0d zh0e zh01 zh0c zh02 zh0a zh00 hr, zrd0f h⟩)
end
theorem all_mk {l : PySem.W.OpenLaw} {w : World} {K : PySem.W.Frag} {h : Heap} {mg : Str → Option Value} {fa : Addr} {C_HallError : Addr} {C_NoLine : Addr} {C_NoBook : Addr} (X : K.In h) (G : h.Ns mainGlobals mg) (hfa : mg "law" = some (.ref fa))
    {f0 : Addr} {od0 an0 : Option Addr} {sl0 : Array (Option Value)} {oc0 kV0 dc0 pm0 cd0 ct0 : Value}
    {f1 : Addr} {od1 an1 : Option Addr} {sl1 : Array (Option Value)} {oc1 kV1 dc1 pm1 cd1 ct1 : Value}
    {f2 : Addr} {od2 an2 : Option Addr} {sl2 : Array (Option Value)} {oc2 kV2 dc2 pm2 cd2 ct2 : Value}
    {f3 : Addr} {od3 an3 : Option Addr} {sl3 : Array (Option Value)} {oc3 kV3 dc3 pm3 cd3 ct3 : Value}
    {f4 : Addr} {od4 an4 : Option Addr} {sl4 : Array (Option Value)} {oc4 kV4 dc4 pm4 cd4 ct4 : Value}
    {f5 : Addr} {od5 an5 : Option Addr} {sl5 : Array (Option Value)} {oc5 kV5 dc5 pm5 cd5 ct5 : Value}
    {f6 : Addr} {od6 an6 : Option Addr} {sl6 : Array (Option Value)} {oc6 kV6 dc6 pm6 cd6 ct6 : Value}
    {f7 : Addr} {od7 an7 : Option Addr} {sl7 : Array (Option Value)} {oc7 kV7 dc7 pm7 cd7 ct7 : Value}
    {f8 : Addr} {od8 an8 : Option Addr} {sl8 : Array (Option Value)} {oc8 kV8 dc8 pm8 cd8 ct8 : Value}
    {f9 : Addr} {od9 an9 : Option Addr} {sl9 : Array (Option Value)} {oc9 kV9 dc9 pm9 cd9 ct9 : Value}
    {f10 : Addr} {od10 an10 : Option Addr} {sl10 : Array (Option Value)} {oc10 kV10 dc10 pm10 cd10 ct10 : Value}
    {f11 : Addr} {od11 an11 : Option Addr} {sl11 : Array (Option Value)} {oc11 kV11 dc11 pm11 cd11 ct11 : Value}
    {f12 : Addr} {od12 an12 : Option Addr} {sl12 : Array (Option Value)} {oc12 kV12 dc12 pm12 cd12 ct12 : Value}
    {f13 : Addr} {od13 an13 : Option Addr} {sl13 : Array (Option Value)} {oc13 kV13 dc13 pm13 cd13 ct13 : Value}
    {f14 : Addr} {od14 an14 : Option Addr} {sl14 : Array (Option Value)} {oc14 kV14 dc14 pm14 cd14 ct14 : Value}
    {f15 : Addr} {od15 an15 : Option Addr} {sl15 : Array (Option Value)} {oc15 kV15 dc15 pm15 cd15 ct15 : Value}
    (aC_HallError : PySem.W.nsIn K mainGlobals "HallError" = some (some (.ref C_HallError)))
    (aC_NoLine : PySem.W.nsIn K mainGlobals "NoLine" = some (some (.ref C_NoLine)))
    (aC_NoBook : PySem.W.nsIn K mainGlobals "NoBook" = some (some (.ref C_NoBook)))
    (xi_HallError : PySem.W.excIn K C_HallError [.type "ValueError", .type "Exception", .type "BaseException", .type "object"] "ValueError.__new__" = true) (ms_HallError : PySem.W.mroIn K C_HallError (.ref C_HallError) = some true)
    (xi_NoLine : PySem.W.excIn K C_NoLine [.type "ValueError", .type "Exception", .type "BaseException", .type "object"] "ValueError.__new__" = true) (ms_NoLine : PySem.W.mroIn K C_NoLine (.ref C_NoLine) = some true)
    (xi_NoBook : PySem.W.excIn K C_NoBook [.type "ValueError", .type "Exception", .type "BaseException", .type "object"] "ValueError.__new__" = true) (ms_NoBook : PySem.W.mroIn K C_NoBook (.ref C_NoBook) = some true)
    (md : PySem.W.mroIn K C_NoBook (.ref C_NoLine) = some false) (mu : PySem.W.mroIn K C_NoLine (.ref C_HallError) = some true)
    (iga : PySem.W.findIn K (.ref C_NoLine) "__getattribute__" = some (some (.builtin "BaseException.__getattribute__"))) (igh : PySem.W.findIn K (.ref C_NoLine) "__getattr__" = some none) (ica : PySem.W.findIn K (.ref C_NoLine) "__class__" = some (some (.builtin "object.__class__"))) (icg : PySem.W.specialIn K (.builtin "object.__class__") "__get__" = some (some (.builtin "getset_descriptor.__get__"))) (ict : PySem.W.takesIn K (.builtin "object.__class__") = some true) (imo : PySem.W.mroIn K C_NoLine (.type "object") = some true) (imb : PySem.W.mroIn K C_NoLine (.type "BaseException") = some true)
    (ity : PySem.W.typeIn K (.ref C_NoBook) = some (.type "type")) (isb : PySem.W.subIn K (.ref C_NoLine) (.ref C_NoBook) = some false) (isv : PySem.W.subIn K (.ref C_NoLine) (.type "ValueError") = some true)
    (a0 : PySem.W.nsIn K mainGlobals "_law_book_of" = some (some (.ref f0)))
    (l0 : K.lookup f0 = some ⟨oc0, od0, .func (PySem.W.fnOf "_law_book_of" "_law_book_of" (defArgs zs04) (defBody zs04) (defScope zs04) .none kV0 dc0 pm0 an0 cd0 ct0), sl0⟩) (c0 : PySem.W.codeIn K cd0 "_law_book_of" = true) (k0 : PySem.W.keepIn K (.ref f0) = true)
    (a1 : PySem.W.nsIn K mainGlobals "shown_line" = some (some (.ref f1)))
    (l1 : K.lookup f1 = some ⟨oc1, od1, .func (PySem.W.fnOf "shown_line" "shown_line" (defArgs zs05) (defBody zs05) (defScope zs05) .none kV1 dc1 pm1 an1 cd1 ct1), sl1⟩) (c1 : PySem.W.codeIn K cd1 "shown_line" = true) (k1 : PySem.W.keepIn K (.ref f1) = true)
    (a2 : PySem.W.nsIn K mainGlobals "shown" = some (some (.ref f2)))
    (l2 : K.lookup f2 = some ⟨oc2, od2, .func (PySem.W.fnOf "shown" "shown" (defArgs zs0d) (defBody zs0d) (defScope zs0d) .none kV2 dc2 pm2 an2 cd2 ct2), sl2⟩) (c2 : PySem.W.codeIn K cd2 "shown" = true) (k2 : PySem.W.keepIn K (.ref f2) = true)
    (a3 : PySem.W.nsIn K mainGlobals "is_number" = some (some (.ref f3)))
    (l3 : K.lookup f3 = some ⟨oc3, od3, .func (PySem.W.fnOf "is_number" "is_number" (defArgs zs07) (defBody zs07) (defScope zs07) .none kV3 dc3 pm3 an3 cd3 ct3), sl3⟩) (c3 : PySem.W.codeIn K cd3 "is_number" = true) (k3 : PySem.W.keepIn K (.ref f3) = true)
    (a4 : PySem.W.nsIn K mainGlobals "read_line" = some (some (.ref f4)))
    (l4 : K.lookup f4 = some ⟨oc4, od4, .func (PySem.W.fnOf "read_line" "read_line" (defArgs zs09) (defBody zs09) (defScope zs09) .none kV4 dc4 pm4 an4 cd4 ct4), sl4⟩) (c4 : PySem.W.codeIn K cd4 "read_line" = true) (k4 : PySem.W.keepIn K (.ref f4) = true)
    (a5 : PySem.W.nsIn K mainGlobals "can_stand" = some (some (.ref f5)))
    (l5 : K.lookup f5 = some ⟨oc5, od5, .func (PySem.W.fnOf "can_stand" "can_stand" (defArgs zs08) (defBody zs08) (defScope zs08) .none kV5 dc5 pm5 an5 cd5 ct5), sl5⟩) (c5 : PySem.W.codeIn K cd5 "can_stand" = true) (k5 : PySem.W.keepIn K (.ref f5) = true)
    (a6 : PySem.W.nsIn K mainGlobals "is_sound" = some (some (.ref f6)))
    (l6 : K.lookup f6 = some ⟨oc6, od6, .func (PySem.W.fnOf "is_sound" "is_sound" (defArgs zs0b) (defBody zs0b) (defScope zs0b) .none kV6 dc6 pm6 an6 cd6 ct6), sl6⟩) (c6 : PySem.W.codeIn K cd6 "is_sound" = true) (k6 : PySem.W.keepIn K (.ref f6) = true)
    (a7 : PySem.W.nsIn K mainGlobals "read" = some (some (.ref f7)))
    (l7 : K.lookup f7 = some ⟨oc7, od7, .func (PySem.W.fnOf "read" "read" (defArgs zs0e) (defBody zs0e) (defScope zs0e) .none kV7 dc7 pm7 an7 cd7 ct7), sl7⟩) (c7 : PySem.W.codeIn K cd7 "read" = true) (k7 : PySem.W.keepIn K (.ref f7) = true)
    (a8 : PySem.W.nsIn K mainGlobals "_law_whole" = some (some (.ref f8)))
    (l8 : K.lookup f8 = some ⟨oc8, od8, .func (PySem.W.fnOf "_law_whole" "_law_whole" (defArgs zs06) (defBody zs06) (defScope zs06) .none kV8 dc8 pm8 an8 cd8 ct8), sl8⟩) (c8 : PySem.W.codeIn K cd8 "_law_whole" = true) (k8 : PySem.W.keepIn K (.ref f8) = true)
    (a9 : PySem.W.nsIn K mainGlobals "_law_is_line" = some (some (.ref f9)))
    (l9 : K.lookup f9 = some ⟨oc9, od9, .func (PySem.W.fnOf "_law_is_line" "_law_is_line" (defArgs zs03) (defBody zs03) (defScope zs03) .none kV9 dc9 pm9 an9 cd9 ct9), sl9⟩) (c9 : PySem.W.codeIn K cd9 "_law_is_line" = true) (k9 : PySem.W.keepIn K (.ref f9) = true)
    (a10 : PySem.W.nsIn K mainGlobals "_law_are_lines" = some (some (.ref f10)))
    (l10 : K.lookup f10 = some ⟨oc10, od10, .func (PySem.W.fnOf "_law_are_lines" "_law_are_lines" (defArgs zs01) (defBody zs01) (defScope zs01) .none kV10 dc10 pm10 an10 cd10 ct10), sl10⟩) (c10 : PySem.W.codeIn K cd10 "_law_are_lines" = true) (k10 : PySem.W.keepIn K (.ref f10) = true)
    (a11 : PySem.W.nsIn K mainGlobals "_law_at" = some (some (.ref f11)))
    (l11 : K.lookup f11 = some ⟨oc11, od11, .func (PySem.W.fnOf "_law_at" "_law_at" (defArgs zs0c) (defBody zs0c) (defScope zs0c) .none kV11 dc11 pm11 an11 cd11 ct11), sl11⟩) (c11 : PySem.W.codeIn K cd11 "_law_at" = true) (k11 : PySem.W.keepIn K (.ref f11) = true)
    (a12 : PySem.W.nsIn K mainGlobals "_law_with_bad" = some (some (.ref f12)))
    (l12 : K.lookup f12 = some ⟨oc12, od12, .func (PySem.W.fnOf "_law_with_bad" "_law_with_bad" (defArgs zs02) (defBody zs02) (defScope zs02) .none kV12 dc12 pm12 an12 cd12 ct12), sl12⟩) (c12 : PySem.W.codeIn K cd12 "_law_with_bad" = true) (k12 : PySem.W.keepIn K (.ref f12) = true)
    (a13 : PySem.W.nsIn K mainGlobals "_law_told" = some (some (.ref f13)))
    (l13 : K.lookup f13 = some ⟨oc13, od13, .func (PySem.W.fnOf "_law_told" "_law_told" (defArgs zs0a) (defBody zs0a) (defScope zs0a) .none kV13 dc13 pm13 an13 cd13 ct13), sl13⟩) (c13 : PySem.W.codeIn K cd13 "_law_told" = true) (k13 : PySem.W.keepIn K (.ref f13) = true)
    (a14 : PySem.W.nsIn K mainGlobals "_law_under_base" = some (some (.ref f14)))
    (l14 : K.lookup f14 = some ⟨oc14, od14, .func (PySem.W.fnOf "_law_under_base" "_law_under_base" (defArgs zs00) (defBody zs00) (defScope zs00) .none kV14 dc14 pm14 an14 cd14 ct14), sl14⟩) (c14 : PySem.W.codeIn K cd14 "_law_under_base" = true) (k14 : PySem.W.keepIn K (.ref f14) = true)
    (a15 : PySem.W.nsIn K mainGlobals "law" = some (some (.ref f15)))
    (l15 : K.lookup f15 = some ⟨oc15, od15, .func (PySem.W.fnOf "law" "law" (defArgs zs0f) (defBody zs0f) (defScope zs0f) .none kV15 dc15 pm15 an15 cd15 ct15), sl15⟩) (c15 : PySem.W.codeIn K cd15 "law" = true) (k15 : PySem.W.keepIn K (.ref f15) = true)
    (z_ValueError : PySem.W.nsIn K mainGlobals "ValueError" = some none)
    (z_bool : PySem.W.nsIn K mainGlobals "bool" = some none)
    (z_int : PySem.W.nsIn K mainGlobals "int" = some none)
    (z_isinstance : PySem.W.nsIn K mainGlobals "isinstance" = some none)
    (z_len : PySem.W.nsIn K mainGlobals "len" = some none)
    (z_list : PySem.W.nsIn K mainGlobals "list" = some none)
    (z_range : PySem.W.nsIn K mainGlobals "range" = some none)
    (z_str : PySem.W.nsIn K mainGlobals "str" = some none)
    (z_tuple : PySem.W.nsIn K mainGlobals "tuple" = some none) :
    ∃ fd : FuncData, (∀ (s : Shared) (v : Value), BindsTo s fd ⟨[v], []⟩ [("_law_script", v)]) ∧ ∀ base : Heap, K.In base → base.Ns mainGlobals mg → FnOk l.prog w K mg base CX0 5 fa fd ["_law_script"] (spLaw K) := by
  have e := hfa.symm.trans (PySem.W.mg_of X G a15)
  cases e
  have T : Txt K mg C_HallError C_NoLine C_NoBook := ⟨trivial, PySem.W.mg_none_of X G z_ValueError, PySem.W.mg_none_of X G z_bool, PySem.W.mg_none_of X G z_int, PySem.W.mg_none_of X G z_isinstance, PySem.W.mg_none_of X G z_len, PySem.W.mg_none_of X G z_list, PySem.W.mg_none_of X G z_range, PySem.W.mg_none_of X G z_str, PySem.W.mg_none_of X G z_tuple, PySem.W.mg_of X G aC_HallError, xi_HallError, mro_has ms_HallError, PySem.W.mg_of X G aC_NoLine, xi_NoLine, mro_has ms_NoLine, PySem.W.mg_of X G aC_NoBook, xi_NoBook, mro_has ms_NoBook, mro_has md, mro_has mu, ⟨cls_of_mro imo, iga, igh, ica, icg, ict, imo, imb⟩, kit_no md ms_NoBook ity isb, kit_ve isv⟩
  have F0 := fun_mk (st := zs04) l0 c0 k0
  have F1 := fun_mk (st := zs05) l1 c1 k1
  have F2 := fun_mk (st := zs0d) l2 c2 k2
  have F3 := fun_mk (st := zs07) l3 c3 k3
  have F4 := fun_mk (st := zs09) l4 c4 k4
  have F5 := fun_mk (st := zs08) l5 c5 k5
  have F6 := fun_mk (st := zs0b) l6 c6 k6
  have F7 := fun_mk (st := zs0e) l7 c7 k7
  have F8 := fun_mk (st := zs06) l8 c8 k8
  have F9 := fun_mk (st := zs03) l9 c9 k9
  have F10 := fun_mk (st := zs01) l10 c10 k10
  have F11 := fun_mk (st := zs0c) l11 c11 k11
  have F12 := fun_mk (st := zs02) l12 c12 k12
  have F13 := fun_mk (st := zs0a) l13 c13 k13
  have F14 := fun_mk (st := zs00) l14 c14 k14
  have F15 := fun_mk (st := zs0f) l15 c15 k15
  refine ⟨PySem.W.fnOf "law" "law" (defArgs zs0f) (defBody zs0f) (defScope zs0f) .none kV15 dc15 pm15 an15 cd15 ct15, fun s v => .of_eq rfl, fun base _ _ => ?_⟩
  have zh04 := zok04 (P := l.prog) (w := w) (base := base) F0 T  (PySem.W.mg_of X G a0)
  have zh05 := zok05 (P := l.prog) (w := w) (base := base) F1 T  (PySem.W.mg_of X G a1)
  have zh0d := zok0d (P := l.prog) (w := w) (base := base) F2 T zh05 (PySem.W.mg_of X G a2)
  have zh07 := zok07 (P := l.prog) (w := w) (base := base) F3 T  (PySem.W.mg_of X G a3)
  have zh09 := zok09 (P := l.prog) (w := w) (base := base) F4 T zh07 (PySem.W.mg_of X G a4)
  have zh08 := zok08 (P := l.prog) (w := w) (base := base) F5 T  (PySem.W.mg_of X G a5)
  have zh0b := zok0b (P := l.prog) (w := w) (base := base) F6 T zh08 (PySem.W.mg_of X G a6)
  have zh0e := zok0e (P := l.prog) (w := w) (base := base) F7 T zh09 zh0b (PySem.W.mg_of X G a7)
  have zh06 := zok06 (P := l.prog) (w := w) (base := base) F8 T  (PySem.W.mg_of X G a8)
  have zh03 := zok03 (P := l.prog) (w := w) (base := base) F9 T zh06 (PySem.W.mg_of X G a9)
  have zh01 := zok01 (P := l.prog) (w := w) (base := base) F10 T zh03 (PySem.W.mg_of X G a10)
  have zh0c := zok0c (P := l.prog) (w := w) (base := base) F11 T  (PySem.W.mg_of X G a11)
  have zh02 := zok02 (P := l.prog) (w := w) (base := base) F12 T  (PySem.W.mg_of X G a12)
  have zh0a := zok0a (P := l.prog) (w := w) (base := base) F13 T zh0e (PySem.W.mg_of X G a13)
  have zh00 := zok00 (P := l.prog) (w := w) (base := base) F14 T zh0e (PySem.W.mg_of X G a14)
  exact zok0f F15 T zh04 zh0d zh0e zh01 zh0c zh02 zh0a zh00
theorem walk {l : PySem.W.OpenLaw} {q : Program} {loose : List Str} {XP : (Str → Option Value) → Heap → Prop} {YP : World → Heap → Prop} {d : DefRec} {K : Params → PySem.W.Frag} (hn : l.most = some 63) (hdf : d.params.defaults = [])
    (hY : ∀ (w : World) (h : Heap), YP w h → (K w.params).In h)
    (F : ∀ (w : World) (mg : Str → Option Value) (fa : Addr) (h : Heap), (K w.params).In h → h.Ns mainGlobals mg → mg d.name = some (.ref fa) →
      ∃ fd : FuncData, (∀ (s : Shared) (u : Value), BindsTo s fd ⟨[u], []⟩ [("_law_script", u)]) ∧ ∀ base : Heap, (K w.params).In base → base.Ns mainGlobals mg → FnOk l.prog w (K w.params) mg base CX0 5 fa fd ["_law_script"] (spLaw (K w.params))) :
    PySem.W.WalkO q loose XP YP l.row.toRowW d [] (fun f vs => PySem.call f vs) :=
  L2.walk_of (n := 63) (k := 5) (x := "_law_script") (CX := fun _ => CX0) (sp := fun w => spLaw (K w.params)) hn (by decide) hdf ⟨rfl, by decide, by decide⟩ hY F (fun _ _ a ns hl _ hS => ⟨a, ns, rfl, hS, hl, fun _ => rfl⟩) fun _ _ _ _ _ z => z
end Oh
def PySem.W.Fast.tw963484939373558651 : Nat := 0
def PySem.W.Fast.tw12520871054793630980 : Nat := 0
def PySem.W.Fast.tw11576451752763779286 : Nat := 0
def PySem.W.Fast.tw7738290175711737189 : Nat := 0
def PySem.W.Fast.tw1896004923247820770 : Nat := 0
open PySem PySem.W PyProof.Rows
set_option maxRecDepth 100000 in
set_option maxHeartbeats 0 in
theorem PySem.Challenge.cw_oathhall_k13_books_on_lines_holds : PySem.Challenge.rw_oathhall_k13_books_on_lines.Holds := by
  w_on; o_law; k_head; (case hw => w_witness2)
  k_fill
  refine Oh.walk (l := PySem.Challenge.rw_oathhall_k13_books_on_lines) rfl rfl (fun w h Y => PySem.W.kIn_of Y) ?F
  case F =>
    intro w mg fa h KX G hmg
    refine' Oh.all_mk KX G hmg ?aC_HallError ?aC_NoLine ?aC_NoBook ?xi_HallError ?ms_HallError ?xi_NoLine ?ms_NoLine ?xi_NoBook ?ms_NoBook ?md ?mu ?iga ?igh ?ica ?icg ?ict ?imo ?imb ?ity ?isb ?isv ?a0 ?l0 ?c0 ?k0 ?a1 ?l1 ?c1 ?k1 ?a2 ?l2 ?c2 ?k2 ?a3 ?l3 ?c3 ?k3 ?a4 ?l4 ?c4 ?k4 ?a5 ?l5 ?c5 ?k5 ?a6 ?l6 ?c6 ?k6 ?a7 ?l7 ?c7 ?k7 ?a8 ?l8 ?c8 ?k8 ?a9 ?l9 ?c9 ?k9 ?a10 ?l10 ?c10 ?k10 ?a11 ?l11 ?c11 ?k11 ?a12 ?l12 ?c12 ?k12 ?a13 ?l13 ?c13 ?k13 ?a14 ?l14 ?c14 ?k14 ?a15 ?l15 ?c15 ?k15 ?z_ValueError ?z_bool ?z_int ?z_isinstance ?z_len ?z_list ?z_range ?z_str ?z_tuple
    (case aC_HallError => k_is)
    (case aC_NoLine => k_is)
    (case aC_NoBook => k_is)
    (case xi_HallError => k_exc)
    (case ms_HallError => k_is)
    (case xi_NoLine => k_exc)
    (case ms_NoLine => k_is)
    (case xi_NoBook => k_exc)
    (case ms_NoBook => k_is)
    (case md => k_is)
    (case mu => k_is)
    (case iga => k_is)
    (case igh => k_is)
    (case ica => k_is)
    (case icg => k_is)
    (case ict => k_is)
    (case imo => k_is)
    (case imb => k_is)
    (case ity => k_is)
    (case isb => k_is)
    (case isv => k_is)
    (case a0 => k_is)
    (case l0 => k_is)
    (case c0 => k_is)
    (case k0 => k_is)
    (case a1 => k_is)
    (case l1 => k_is)
    (case c1 => k_is)
    (case k1 => k_is)
    (case a2 => k_is)
    (case l2 => k_is)
    (case c2 => k_is)
    (case k2 => k_is)
    (case a3 => k_is)
    (case l3 => k_is)
    (case c3 => k_is)
    (case k3 => k_is)
    (case a4 => k_is)
    (case l4 => k_is)
    (case c4 => k_is)
    (case k4 => k_is)
    (case a5 => k_is)
    (case l5 => k_is)
    (case c5 => k_is)
    (case k5 => k_is)
    (case a6 => k_is)
    (case l6 => k_is)
    (case c6 => k_is)
    (case k6 => k_is)
    (case a7 => k_is)
    (case l7 => k_is)
    (case c7 => k_is)
    (case k7 => k_is)
    (case a8 => k_is)
    (case l8 => k_is)
    (case c8 => k_is)
    (case k8 => k_is)
    (case a9 => k_is)
    (case l9 => k_is)
    (case c9 => k_is)
    (case k9 => k_is)
    (case a10 => k_is)
    (case l10 => k_is)
    (case c10 => k_is)
    (case k10 => k_is)
    (case a11 => k_is)
    (case l11 => k_is)
    (case c11 => k_is)
    (case k11 => k_is)
    (case a12 => k_is)
    (case l12 => k_is)
    (case c12 => k_is)
    (case k12 => k_is)
    (case a13 => k_is)
    (case l13 => k_is)
    (case c13 => k_is)
    (case k13 => k_is)
    (case a14 => k_is)
    (case l14 => k_is)
    (case c14 => k_is)
    (case k14 => k_is)
    (case a15 => k_is)
    (case l15 => k_is)
    (case c15 => k_is)
    (case k15 => k_is)
    (case z_ValueError => k_is)
    (case z_bool => k_is)
    (case z_int => k_is)
    (case z_isinstance => k_is)
    (case z_len => k_is)
    (case z_list => k_is)
    (case z_range => k_is)
    (case z_str => k_is)
    (case z_tuple => k_is)

