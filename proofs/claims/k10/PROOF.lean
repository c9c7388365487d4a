import PyProof.Rows.All
import Wide.All
import OpenK.AllK
import Wide.FinOn
import Lean
import PyProof.EqAt
import PyProof.EqKinds
import PyProof.TupleCall
import KE.KIntText
import PySem.Challenge.RW_oathhall_k10_whole_whom_it_waits_for
abbrev laa:=@List.length_map
abbrev lab:=@List.getElem?_eq_some_iff
abbrev lac:=@List.mem_cons_of_mem
abbrev lad:=@List.getElem?_eq_getElem
abbrev lae:=@List.getElem?_map
abbrev laf:=@List.length_append
abbrev lag:=@List.mem_singleton
abbrev lah:=@List.map_cons
abbrev lai:=@List.map_append
abbrev laj:=@List.length_cons
abbrev lak:=@List.mem_append_right
abbrev lal:=@List.mem_append_left
abbrev lam:=@List.mem_of_getElem?
abbrev lan:=@Option.some.inj
abbrev lao:=@List.getElem?_set_self
abbrev lap:=@List.mem_append
abbrev laq:=@List.length_range
abbrev lar:=@List.getElem?_set_ne
abbrev las:=@Nat.le_trans
abbrev lat:=@Nat.le_refl
abbrev lau:=@Bool.false_ne_true
abbrev lav:=@Nat.lt_of_lt_of_le
abbrev lax:=@List.length_take
abbrev lay:=@List.filter_append
abbrev laz:=@List.filter_cons
abbrev laA:=@List.mem_map
abbrev laB:=@List.mem_range
abbrev laC:=@List.mem_filter
abbrev laD:=@List.getElem?_range
abbrev laE:=@List.take_length
abbrev laF:=@List.append_nil
abbrev laG:=@List.map_nil
abbrev laH:=@List.size_toArray
abbrev laI:=@Nat.zero_le
abbrev laJ:=@List.length_filter_le
set_option Elab.async false
set_option linter.all false
set_option maxRecDepth 100000
namespace L2
open PySem PySem.Spec PyProof.Rows
abbrev bn:=Sum Int Str
def ma:bn→Value→Bool
  | .inl k,v=>Value.isInt k v
  | .inr x,v=>Value.isStrOf x v
def HW(w:World):bn→Int
  | .inl k=>hashInt k
  | .inr x=>hashStr w x
theorem de:∀ {k:bn} {v:Value},ma k v=true→(∃ i t,k=Sum.inl i∧v=Value.int i t)∨(∃ x t,k=Sum.inr x∧v=Value.str x t)
  | .inl i,v,h=>by
    obtain ⟨t,e⟩:=Value.isInt_shape (k:=i) (v:=v) h
    exact .inl ⟨i,t,rfl,e⟩
  | .inr x,v,h=>by
    obtain ⟨t,e⟩:=Value.isStrOf_shape (x:=x) (v:=v) h
    exact .inr ⟨x,t,rfl,e⟩
theorem xK(i:Int)(t:Tok):ma (.inl i) (.int i t)=true:=by simp [ma,Value.isInt]
theorem xu(x:Str)(t:Tok):ma (.inr x) (.str x t)=true:=by simp [ma,Value.isStrOf]
theorem BB(a b:Int):decide ((Sum.inl a:bn)=Sum.inl b)=(a==b):=by
  by_cases e:a=b
  · subst e;simp
  · have h:¬ (Sum.inl a:bn)=Sum.inl b:=fun q=>e (Sum.inl.inj q)
    rw [decide_eq_false h]
    exact (beq_eq_false_iff_ne.mpr e).symm
theorem BY(a b:Str):decide ((Sum.inr a:bn)=Sum.inr b)=decide (a=b):=by
  by_cases e:a=b
  · subst e;simp
  · have h:¬ (Sum.inr a:bn)=Sum.inr b:=fun q=>e (Sum.inr.inj q)
    rw [decide_eq_false h,decide_eq_false e]
theorem Ba(a:Int)(b:Str):decide ((Sum.inl a:bn)=Sum.inr b)=false:=decide_eq_false (fun q=>nomatch q)
theorem Be(a:Str)(b:Int):decide ((Sum.inr a:bn)=Sum.inl b)=false:=decide_eq_false (fun q=>nomatch q)
def cX(prog:Program)(w:World):PySem.KeyKind prog w bn where
  is:=ma
  hash:=HW w
  inj:=fun v a b ha hb=>by
    rcases de ha with ⟨i,t,rfl,rfl⟩ | ⟨x,t,rfl,rfl⟩
    · rcases de hb with ⟨j,u,rfl,e⟩ | ⟨y,u,rfl,e⟩
      · injection e with e1 _;rw [e1]
      · exact nomatch e
    · rcases de hb with ⟨j,u,rfl,e⟩ | ⟨y,u,rfl,e⟩
      · exact nomatch e
      · injection e with e1 _;rw [e1]
  byValue:=fun k v h=>by
    rcases de h with ⟨i,t,rfl,rfl⟩ | ⟨x,t,rfl,rfl⟩ <;> rfl
  pyHash:=fun hv h=>by
    rcases de hv with ⟨i,t,rfl,rfl⟩ | ⟨x,t,rfl,rfl⟩
    · exact wpAny_pyHash_int h
    · exact wpAny_pyHash_str h
  eqBool:=fun hu hv h=>by
    rcases de hu with ⟨i,t,rfl,rfl⟩ | ⟨x,t,rfl,rfl⟩
    · rcases de hv with ⟨j,u,rfl,rfl⟩ | ⟨y,u,rfl,rfl⟩
      · rw [BB] at h;exact wpAny_eqBool_int h
      · rw [Ba] at h;exact SeqAt.EqAt.int_str i t y u _ _ _ _ h
    · rcases de hv with ⟨j,u,rfl,rfl⟩ | ⟨y,u,rfl,rfl⟩
      · rw [Be] at h;exact SeqAt.EqAt.str_int x t j u _ _ _ _ h
      · rw [BY] at h;exact wpAny_eqBool_str h
  «strs»:=fun k x t v h=>by
    rcases de h with ⟨i,u,rfl,e⟩ | ⟨y,u,rfl,e⟩
    · exact nomatch e
    · injection e with e1 _
      subst e1
      cases v <;> rfl
theorem tO(prog:Program)(w:World)(i:Int)(t:Tok):(cX prog w).is (.inl i) (.int i t)=true:=xK i t
theorem tR(prog:Program)(w:World)(x:Str)(t:Tok):(cX prog w).is (.inr x) (.str x t)=true:=xu x t
end L2
namespace L2
open PySem PySem.Spec PyProof.Rows
inductive V where
  | non | bl (b:Bool) | int (i:Int) | str (x:Str) | byt (b:Array UInt8) | flt (b:UInt64) | ref (a:Addr) | ty (n:String)
  deriving DecidableEq
def RelV:V→Value→Prop
  | .non,u=>u=Value.none
  | .bl b,u=>u=Value.bool b
  | .int i,u=>∃ t,u=Value.int i t
  | .str x,u=>∃ t,u=Value.str x t
  | .byt b,u=>∃ t,u=Value.bytes b t
  | .flt b,u=>∃ t,u=Value.float b t
  | .ref a,u=>u=Value.ref a
  | .ty n,u=>u=Value.type n
abbrev Vals:List V→List Value→Prop:=Paired RelV
theorem Vals.length{xs:List V}{us:List Value}(r:Vals xs us):xs.length=us.length:=Paired.length r
theorem Vals.get:∀ {xs:List V} {us:List Value} {i:Nat} {x:V},Vals xs us→xs[i]?=some x→∃ u,us[i]?=some u∧RelV x u
  | _,_,_,_,.nil,e=>by simp at e
  | _,_,0,_,.cons r _,e=>by simp at e;subst e;exact ⟨_,rfl,r⟩
  | _,_,i+1,x,.cons _ t,e=>by
    obtain ⟨u,h1,h2⟩:=Vals.get (i:=i) (x:=x) t (by simpa using e)
    exact ⟨u,by simpa using h1,h2⟩
theorem Vals.append:∀ {xs ys:List V} {us ws:List Value},Vals xs us→Vals ys ws→Vals (xs++ys) (us++ws)
  | _,_,_,_,.nil,s=>s
  | _,_,_,_,.cons r t,s=>.cons r (Vals.append t s)
theorem Vals.take:∀ {xs:List V} {us:List Value} (n:Nat),Vals xs us→Vals (xs.take n) (us.take n)
  | _,_,0,_=>.nil
  | _,_,_+1,.nil=>.nil
  | _,_,n+1,.cons r t=>.cons r (Vals.take n t)
theorem Vals.drop:∀ {xs:List V} {us:List Value} (n:Nat),Vals xs us→Vals (xs.drop n) (us.drop n)
  | _,_,0,r=>r
  | _,_,_+1,.nil=>.nil
  | _,_,n+1,.cons _ t=>Vals.drop n t
def RelO:Option V→Option Value→Prop
  | some v,some u=>RelV v u
  | none,none=>True
  | _,_=>False
def KV{κ:Type}:List (κ×V)→List (κ×Value)→Prop:=Paired fun (p:κ×V) (q:κ×Value)=>p.1=q.1∧RelV p.2 q.2
def kV:bn→V
  | .inl i=>.int i
  | .inr x=>.str x
inductive HO where

  | lst (xs:List V)

  | tup (xs:List V)

  | dK (kvs:List (bn×V)) | dT (kvs:List (List bn×V))

  | set (S:Int→Bool) (n:Nat)

  | ins (C dx:Addr) (fs:List (Str×V))

  | own (x:Addr)

  | xd (fs:List (Str×V))

  | met (f x:Addr)

  | rng (lo hi:Int)

  | frz (o:Obj) (u:HO)

  | tbl (ps:Array Value)

  | ext (φ:Heap→Prop)
abbrev Hp:=Addr→Option HO
def upd(H:Hp)(a:Addr)(o:HO):Hp:=fun b=>if b=a then some o else H b
theorem av{H:Hp}{a:Addr}{o:HO}:upd H a o a=some o:=by unfold upd;rw [if_pos rfl]
theorem bH{H:Hp}{a b:Addr}{o:HO}(h:b≠a):upd H a o b=H b:=by unfold upd;rw [if_neg h]
theorem mn{H:Hp}{a:Addr}{o u:HO}:upd (upd H a o) a u=upd H a u:=by
  funext b;unfold upd;split <;> rfl
theorem cr{H:Hp}{a b:Addr}{o u:HO}(h:H a=some o)(h':H b=some u)(d:o≠u):a≠b:=by
  intro e;subst e;rw [h] at h';exact d (lan h')
theorem bJ{H:Hp}{a b:Addr}{o:HO}(h:H a=some o)(h':H b=none):a≠b:=by
  intro e;subst e;rw [h] at h';cases h'
section
variable (P:Program)(w:World)
def ObjOk(H:Hp)(h:Heap)(a:Addr):HO→Prop
  | .lst xs=>xs.length≤sizeLine∧∃ (its:List Value) (n:Nat),Vals xs its∧h.get? a=some { cls:=.type "list",data:=.seq its.toArray n }
  | .tup xs=>xs.length≤sizeLine∧∃ its:List Value,Vals xs its∧IsTup h a its.toArray
  | .dK kvs=>kvs.length≤sizeLine∧(a==sysModules)=false∧∃ vs,KV kvs vs∧h.DictOf (cX P w) a vs
  | .dT kvs=>kvs.length≤sizeLine∧(a==sysModules)=false∧∃ xs:List (List bn×Addr×Value),
      Paired (fun (p:List bn×V) (q:List bn×Addr×Value)=>p.1=q.1∧H q.2.1=some (.tup (p.1.map kV))∧RelV p.2 q.2.2) kvs xs∧
      ∃ o es ep,h.get? a=some o∧o.ExactDict∧o.data=.dict es ep∧es.toList=xs.map (entryOfKey (tupleKind (cX P w)))∧(xs.map (·.1)).Nodup
  | .set S n=>h.SetOf (intKind P w) a S n
  | .ins C dx fs=>H dx=some (.own a)∧fs.length≤1000∧dx≠a∧h.get? a=some (PySem.W.instObj C dx)∧
      ∃ mA,h.Ns1 dx mA∧(∀ f,RelO (fs.lookup f) (mA f))∧PySem.Within mA (fs.map (·.1))
  | .own _=>∃ o,h.get? a=some o
  | .xd fs=>∃ mA,h.Ns1 a mA∧∀ f,RelO (fs.lookup f) (mA f)
  | .rng lo hi=>∃ t u v,h.get? a=some { cls:=.type "range",data:=.fields #[.int lo t,.int hi u,.int 1 v] }
  | .frz o u=>h.get? a=some o∧ObjOk H h a u
  | .tbl ps=>h.get? a=some { cls:=.none,data:=.fields ps }
  | .met f x=>h.get? a=some (PySem.W.methodObj (.ref f) (.ref x))
  | .ext φ=>φ h∧(∃ o,h.get? a=some o)∧∀ h1 h2:Heap,φ h1→(∀ o,h1.get? a=some o→h2.get? a=some o)→φ h2
def HOk(H:Hp)(h:Heap):Prop:=∀ a o,H a=some o→ObjOk P w H h a o
end
section
variable {P:Program}{w:World}{H H':Hp}{h h':Heap}{a:Addr}{o:HO}
theorem ObjOk.lt(x:ObjOk P w H h a o):a<h.objs.size:=by
  cases o with
  | lst xs=>obtain ⟨_,_,_,_,e⟩:=x;exact Heap.lt_size e
  | tup xs=>obtain ⟨_,_,_,p⟩:=x;exact p.lt
  | dK kvs=>obtain ⟨_,_,_,_,o,_,_,e,_⟩:=x;exact Heap.lt_size e
  | dT kvs=>obtain ⟨_,_,_,_,o,_,_,e,_⟩:=x;exact Heap.lt_size e
  | set S n=>obtain ⟨o,_,_,_,e,_⟩:=x;exact Heap.lt_size e
  | ins C dx fs=>obtain ⟨_,_,_,e,_⟩:=x;exact Heap.lt_size e
  | own y=>obtain ⟨_,e⟩:=x;exact Heap.lt_size e
  | xd fs=>obtain ⟨_,⟨_,_,_,e,_⟩,_⟩:=x;exact Heap.lt_size e
  | rng lo hi=>obtain ⟨_,_,_,e⟩:=x;exact Heap.lt_size e
  | frz ob u=>obtain ⟨e,_⟩:=x;exact Heap.lt_size e
  | tbl ps=>exact Heap.lt_size (show h.get? a=some _ from x)
  | met f y=>exact Heap.lt_size (show h.get? a=some _ from x)
  | ext φ=>obtain ⟨_,⟨_,e⟩,_⟩:=x;exact Heap.lt_size e
theorem Paired.mapP{α β:Type}{F G:α→β→Prop}:∀ {l₁:List α} {l₂:List β},Paired F l₁ l₂→(∀ a b,F a b→G a b)→Paired G l₁ l₂
  | _,_,.nil,_=>.nil
  | _,_,.cons r t,f=>.cons (f _ _ r) (Paired.mapP t f)
theorem ObjOk.stay(x:ObjOk P w H h a o)(k:∀ b u,(b=a∨H b=some (.own a))→h.get? b=some u→h'.get? b=some u)
    (ho:∀ b,H b=some (.own a)→H' b=some (.own a))(ht:∀ b xs,H b=some (.tup xs)→H' b=some (.tup xs)):ObjOk P w H' h' a o:=by
  induction o with
  | lst xs=>obtain ⟨z,its,n,r,e⟩:=x;exact ⟨z,its,n,r,k _ _ (.inl rfl) e⟩
  | tup xs=>obtain ⟨z,its,r,ob,e,c⟩:=x;exact ⟨z,its,r,ob,k _ _ (.inl rfl) e,c⟩
  | dK kvs=>obtain ⟨z,y,vs,r,ob,es,ep,e,c⟩:=x;exact ⟨z,y,vs,r,ob,es,ep,k _ _ (.inl rfl) e,c⟩
  | dT kvs=>
    obtain ⟨z,y,xs,r,ob,es,ep,e,c⟩:=x
    exact ⟨z,y,xs,Paired.mapP r fun p q z=>⟨z.1,ht _ _ z.2.1,z.2.2⟩,ob,es,ep,k _ _ (.inl rfl) e,c⟩
  | set S n=>obtain ⟨ob,es,ep,t,e,c⟩:=x;exact ⟨ob,es,ep,t,k _ _ (.inl rfl) e,c⟩
  | ins C dx fs=>
    obtain ⟨d,z,ne,e,mA,⟨od,es,ep,e2,c⟩,r⟩:=x
    exact ⟨ho _ d,z,ne,k _ _ (.inl rfl) e,mA,⟨od,es,ep,k _ _ (.inr d) e2,c⟩,r⟩
  | own y=>obtain ⟨ob,e⟩:=x;exact ⟨ob,k _ _ (.inl rfl) e⟩
  | xd fs=>obtain ⟨mA,⟨od,es,ep,e,c⟩,r⟩:=x;exact ⟨mA,⟨od,es,ep,k _ _ (.inl rfl) e,c⟩,r⟩
  | rng lo hi=>obtain ⟨t,u,v,e⟩:=x;exact ⟨t,u,v,k _ _ (.inl rfl) e⟩
  | frz ob u ih=>obtain ⟨e,q⟩:=x;exact ⟨k _ _ (.inl rfl) e,ih q⟩
  | tbl ps=>
    have e:h.get? a=some { cls:=.none,data:=.fields ps }:=x
    show h'.get? a=some { cls:=.none,data:=.fields ps }
    exact k a _ (.inl rfl) e
  | met f y=>
    have e:h.get? a=some (PySem.W.methodObj (.ref f) (.ref y)):=x
    show h'.get? a=some (PySem.W.methodObj (.ref f) (.ref y))
    exact k a _ (.inl rfl) e
  | ext φ=>obtain ⟨p,⟨o,e⟩,st⟩:=x;exact ⟨st _ _ p fun o q=>k _ _ (.inl rfl) q,⟨o,k _ _ (.inl rfl) e⟩,st⟩
theorem HOk.lt(x:HOk P w H h)(e:H a=some o):a<h.objs.size:=(x a o e).lt
theorem HOk.fresh(x:HOk P w H h)(e:h.objs.size≤a):H a=none:=by
  cases q:H a with
  | none=>rfl
  | some u=>exact absurd (lav (x.lt q) e) (Nat.lt_irrefl _)
theorem HOk.kept(x:HOk P w H h)(k:∀ b u,h.get? b=some u→h'.get? b=some u):HOk P w H h':=fun a o e=>
  (x a o e).stay (fun b u _ q=>k b u q) (fun _ q=>q) fun _ _ q=>q
theorem HOk.laid(x:HOk P w H h)(k:∀ b u,h.get? b=some u→h'.get? b=some u)(hp:h.objs.size≤a)(new:ObjOk P w (upd H a o) h' a o):HOk P w (upd H a o) h':=fun b u e=>by
  have hn:=x.fresh hp
  by_cases hb:b=a
  · subst hb;rw [av] at e;cases e;exact new
  · rw [bH hb] at e
    exact (x b u e).stay (fun c v _ q=>k c v q) (fun c q=>by rw [bH (bJ q hn)];exact q) fun c xs q=>by rw [bH (bJ q hn)];exact q
end
def Rd(H:Hp)(a:Addr)(u:HO):Prop:=H a=some u∨∃ o,H a=some (.frz o u)
theorem Rd.of{H:Hp}{a:Addr}{u:HO}(h:H a=some u):Rd H a u:=.inl h
theorem Rd.ok{P:Program}{w:World}{H:Hp}{h:Heap}{a:Addr}{u:HO}(r:Rd H a u)(x:HOk P w H h):ObjOk P w H h a u:=by
  rcases r with r | ⟨o,r⟩
  · exact x a u r
  · obtain ⟨_,q⟩:=x a _ r
    exact q
def rk:Option HO→Prop
  | some (.lst _)=>True
  | some (.dK _)=>True
  | some (.dT _)=>True
  | some (.set _ _)=>True
  | some (.ins _ _ _)=>True
  | some (.ext _)=>True
  | _=>False
section
variable {P:Program}{w:World}{H:Hp}{h h':Heap}{x e:Addr}{o':HO}
theorem HOk.write(ok:HOk P w H h)(mu:rk (H x))(he:e=x∨H e=some (.own x))(k:∀ b u,b≠e→h.get? b=some u→h'.get? b=some u)(heo:∃ u,h'.get? e=some u)
    (new:ObjOk P w (upd H x o') h' x o'):HOk P w (upd H x o') h':=fun b u q=>by
  have nown:∀ c y,H c=some (.own y)→c≠x:=fun c y r z=>by subst z;rw [r] at mu;exact mu
  have ntup:∀ c xs,H c=some (.tup xs)→c≠x:=fun c xs r z=>by subst z;rw [r] at mu;exact mu
  by_cases hb:b=x
  · subst hb;rw [av] at q;cases q;exact new
  · rw [bH hb] at q
    by_cases hbe:b=e
    · have q':H b=some (.own x):=by
        rcases he with z | z
        · exact absurd (hbe.trans z) hb
        · rw [hbe];exact z
      rw [q] at q';cases q'
      obtain ⟨v,hv⟩:=heo
      exact ⟨v,by rw [hbe];exact hv⟩
    · refine (ok b u q).stay (fun c v hc r=>k c v ?_ r) (fun c r=>by rw [bH (nown c b r)];exact r) fun c xs r=>by rw [bH (ntup c xs r)];exact r
      rcases hc with rfl | hc
      · exact hbe
      · rintro rfl
        rcases he with z | z
        · exact nown c b hc z
        · rw [hc] at z;cases z;exact hb rfl
end
structure Un(fs ex:List Addr)(H H':Hp)(h h':Heap):Prop where
  keep:∀ b o,h.get? b=some o→H b=none→b∉fs→b∉ex→h'.get? b=some o
  slot:∀ b o,h.get? b=some o→H b=none→b∈fs→b∉ex→∃ sl,h'.get? b=some { o with slots:=sl }
  free:∀ b o,h.get? b=some o→H b=none→b∉ex→H' b=none
  there:∀ b o,h.get? b=some o→b∉ex→∃ o',h'.get? b=some o'
  tups:∀ b xs,H b=some (.tup xs)→H' b=some (.tup xs)
  frzs:∀ b o u,H b=some (.frz o u)→H' b=some (.frz o u)
  tbls:∀ b ps,H b=some (.tbl ps)→∃ more,H' b=some (.tbl (ps++more))
section
variable {fs fs' ex ex':List Addr}{H H1 H2:Hp}{h h1 h2 h':Heap}{a x e:Addr}{o:HO}
theorem Un.any(u:Un fs ex H H1 h h1){b:Addr}{ob:Obj}(q:h.get? b=some ob)(n:H b=none)(hx:b∉ex):∃ sl,h1.get? b=some { ob with slots:=sl }:=by
  by_cases hb:b∈fs
  · exact u.slot b ob q n hb hx
  · exact ⟨ob.slots,u.keep b ob q n hb hx⟩
theorem Un.kept(k:∀ b u,h.get? b=some u→h'.get? b=some u):Un fs ex H H h h':=
  ⟨fun b ob q _ _ _=>k b ob q,fun b ob q _ _ _=>⟨ob.slots,k b ob q⟩,fun _ _ _ n _=>n,fun b ob q _=>⟨ob,k b ob q⟩,fun _ _ q=>q,fun _ _ _ q=>q,fun _ ps q=>⟨#[],by rw [q];simp⟩⟩
theorem Un.refl:Un fs ex H H h h:=Un.kept fun _ _ q=>q
theorem Un.laid(k:∀ b u,h.get? b=some u→h'.get? b=some u)(hp:h.objs.size≤a)(hn:H a=none):Un fs ex H (upd H a o) h h' where
  keep:=fun b u q _ _ _=>k b u q
  slot:=fun b u q _ _ _=>⟨u.slots,k b u q⟩
  free:=fun b u q n _=>by rw [bH (Nat.ne_of_lt (lav (Heap.lt_size q) hp))];exact n
  there:=fun b u q _=>⟨u,k b u q⟩
  tups:=fun b xs q=>by rw [bH (bJ q hn)];exact q
  frzs:=fun b u xs q=>by rw [bH (bJ q hn)];exact q
  tbls:=fun b ps q=>⟨#[],by rw [bH (bJ q hn),q];simp⟩
theorem Un.write(mu:rk (H x))(he:e=x∨H e=some (.own x))(k:∀ b u,b≠e→h.get? b=some u→h'.get? b=some u)(heo:∃ u,h'.get? e=some u):Un fs ex H (upd H x o) h h':=by
  have hx:∀ b,H b=none→b≠x:=fun b n z=>by subst z;rw [n] at mu;exact mu
  have hb:∀ b,H b=none→b≠e:=fun b n z=>by
    subst z
    rcases he with r | r
    · exact hx b n r
    · rw [n] at r;cases r
  have hm:∀ b u,H b=some u→¬ rk (some u)→b≠x:=fun b u q nm z=>by subst z;rw [q] at mu;exact nm mu
  refine ⟨fun b u q n _ _=>k b u (hb b n) q,fun b u q n _ _=>⟨u.slots,k b u (hb b n) q⟩,fun b u q n _=>by rw [bH (hx b n)];exact n,fun b u q _=>?_,
    fun b xs q=>by rw [bH (hm b _ q fun z=>z)];exact q,fun b u xs q=>by rw [bH (hm b _ q fun z=>z)];exact q,fun b ps q=>⟨#[],by rw [bH (hm b _ q fun z=>z),q];simp⟩⟩
  by_cases hbe:b=e
  · subst hbe;exact heo
  · exact ⟨u,k b u hbe q⟩
end
def trk(h:Heap)(H:Hp):List Addr:=(List.range h.objs.size).filter fun a=>(H a).isSome
def lq(h:Heap)(H:Hp):Heap:=PySem.W.hideAll h (trk h H)
theorem xy(h:Heap)(H:Hp):(lq h H).objs.size=h.objs.size:=PySem.W.hideAll_size _ _
theorem yM{h:Heap}{H:Hp}{b:Addr}{o:Obj}(e:h.get? b=some o)(n:H b=none):(lq h H).get? b=some o:=
  PySem.W.hideAll_get _ e fun hm=>by
    have q:(H b).isSome=true:=(laC.mp hm).2
    rw [n] at q;simp at q
theorem zR{h:Heap}{H:Hp}{b:Addr}{o:Obj}(e:(lq h H).get? b=some o):h.get? b=some o∧H b=none:=by
  have e':h.get? b=some o:=PySem.W.of_hideAll (trk h H) e
  refine ⟨e',?_⟩
  cases q:H b with
  | none=>rfl
  | some x=>
    have hm:b∈trk h H:=laC.mpr ⟨laB.mpr (Heap.lt_size e'),by simp [q]⟩
    have z:(lq h H).get? b=none:=PySem.W.hideAll_none (trk h H) hm
    rw [z] at e;cases e
end L2
namespace L2
open PySem PySem.Spec PyProof.Rows
structure Mod(K:PySem.W.Frag)(mg:Str→Option Value)(base:Heap):Prop where
  kin:K.In base
  glob:base.Ns mainGlobals mg
  blt:∃ mb,base.Ns builtinsNs mb∧∀ x:Str,x≠"__name__"→mb x=bootBuiltins x
  nolimit:base.NoLimit
structure Cx where
  prog:Program
  w:World
  K:PySem.W.Frag
  mg:Str→Option Value
  base:Heap
  A:Around
  N:List Str
  s₀:Shared
  H₀:Hp
  env:Env
  outer:List Env
  stack:List Env
  ex:List Addr
  fn:Str→Bool
  calm:Bool
  pn:List (Addr×Obj)
  xe:Value→Shared→Prop
def lF(l:List Env):List Addr:=l.filterMap (·.frame)
abbrev Cx.fs(X:Cx):List Addr:=lF X.outer
def xh(sc:Scope)(x:Str):Prop:=sc.names.lookup x=some .local∨sc.names.lookup x=some .cell∨sc.names.lookup x=some .free
def ub(sc:Scope)(x:Str):Prop:=sc.names.lookup x=some .local∨sc.names.lookup x=some .cell
def ID(env:Env)(h:Heap)(m:Str→Option Value)(x:Str)(u:Value):Prop:=
  (env.kindOf x=some .local∧m x=some u)∨((env.kindOf x=some .cell∨env.kindOf x=some .free)∧∃ c,env.cells.lookup x=some c∧h.IsCell c (some u))
structure Cx.Ok(X:Cx):Prop where
  mod:Mod X.K X.mg X.base
  kind:X.env.scope.kind=.function
  glob:X.env.globals=mainGlobals
  blt:X.env.builtins=builtinsNs
  above:X.s₀.heap.objs.size≤X.env.locals
  inj:∀ x y c,X.env.cells.lookup x=some c→X.env.cells.lookup y=some c→x=y
  has:∀ x,(X.env.kindOf x=some .cell∨X.env.kindOf x=some .free)→∃ c,X.env.cells.lookup x=some c
  cab:∀ x c,X.fn x=true→X.env.cells.lookup x=some c→X.s₀.heap.objs.size≤c
  hd:X.calm=true→X.A.handled=none
  frames:X.A.frames=some X.stack
  stk:X.stack=X.outer∨(X.stack=X.env::X.outer∧X.env.frame=some X.env.locals)
  exf:∀ b∈X.ex,b≠X.env.locals∧∀ x c,X.env.cells.lookup x=some c→c≠b
  bs:∀ b o,X.base.get? b=some o→X.s₀.heap.get? b=some o∧X.H₀ b=none
  bsz:X.base.objs.size≤X.s₀.heap.objs.size
  noex:∀ b o,X.base.get? b=some o→b∉X.ex
  exfs:∀ b∈X.ex,b∉X.fs
  funs:X.s₀.heap.FunFrames X.base X.outer
  frf:∀ b∈X.fs,X.H₀ b=none
structure Inv(X:Cx)(pins:List (Addr×Obj))(σ:List (Option V))(H:Hp)(s:Shared):Prop where
  ok:X.Ok
  os:s.os=X.s₀.os
  bare:AllBare s.gens
  base:Un X.fs X.ex X.H₀ H X.s₀.heap s.heap
  loc:∃ m,s.heap.Ns X.env.locals m∧∀ (i:Nat) (x:Str) (v:V),X.N[i]?=some x→σ[i]?=some (some v)→xh X.env.scope x→∃ u,RelV v u∧ID X.env s.heap m x u
  cell:∀ x c,X.env.cells.lookup x=some c→∃ v,s.heap.IsCell c v
  free:H X.env.locals=none
  freeC:∀ x c,X.env.cells.lookup x=some c→H c=none
  pin:∀ p∈X.pn++pins,s.heap.get? p.1=some p.2∧H p.1=none∧p.1≠X.env.locals∧p.1∉X.fs∧∀ v,p.2.data≠.cell v
  hok:HOk X.prog X.w H s.heap
  len:σ.length=X.N.length
section
variable {X:Cx}{pins:List (Addr×Obj)}{σ:List (Option V)}{H H':Hp}{s:Shared}{h':Heap}
theorem Cx.Ok.nofr(ok:X.Ok){b:Addr}{o:Obj}(e:X.base.get? b=some o):b∉X.fs:=fun hb=>by
  have:=(ok.funs.mem hb).1
  rw [e] at this;cases this
theorem Inv.bs(I:Inv X pins σ H s):∀ b o,X.base.get? b=some o→s.heap.get? b=some o∧H b=none:=fun b o e=>
  ⟨I.base.keep b o (I.ok.bs b o e).1 (I.ok.bs b o e).2 (I.ok.nofr e) (I.ok.noex b o e),I.base.free b o (I.ok.bs b o e).1 (I.ok.bs b o e).2 (I.ok.noex b o e)⟩
theorem Inv.bk(I:Inv X pins σ H s):∀ b o,X.base.get? b=some o→s.heap.get? b=some o:=fun b o e=>(I.bs b o e).1
theorem Inv.mod(I:Inv X pins σ H s):Mod X.K X.mg X.base:=I.ok.mod
theorem Inv.kIn(I:Inv X pins σ H s):X.K.In s.heap:=I.ok.mod.kin.keeps I.bk
theorem Inv.lt(I:Inv X pins σ H s):X.env.locals<s.heap.objs.size:=let ⟨_,hn,_⟩:=I.loc;hn.lt
theorem Inv.sz(I:Inv X pins σ H s):X.s₀.heap.objs.size≤s.heap.objs.size:=las I.ok.above (Nat.le_of_lt I.lt)
theorem Inv.nofs(I:Inv X pins σ H s){a:Addr}(h:s.heap.objs.size≤a):a∉X.fs:=fun hb=>by
  obtain ⟨_,o,ho,_⟩:=I.ok.funs.mem hb
  exact absurd (lav (Heap.lt_size ho) (las I.sz h)) (Nat.lt_irrefl _)
theorem Inv.cne(I:Inv X pins σ H s):∀ x c,X.env.cells.lookup x=some c→c≠X.env.locals:=fun x c e z=>by
  obtain ⟨v,o,ho,hd⟩:=I.cell x c e
  obtain ⟨m,⟨o',es,ep,ho',hd',_⟩,_⟩:=I.loc
  rw [z,ho'] at ho;cases ho;rw [hd'] at hd;cases hd
theorem Inv.funs(I:Inv X pins σ H s):s.heap.FunFrames X.base X.outer:=by
  have all:∀ (l:List Env),(∀ b∈lF l,b∈X.fs)→X.s₀.heap.FunFrames X.base l→s.heap.FunFrames X.base l:=by
    intro l
    induction l with
    | nil=>intro _ _;trivial
    | cons env r ih=>
      intro hs hl
      obtain ⟨hk,⟨L,o,hf,hn,ho,hd⟩,hr⟩:=hl
      have hL:L∈X.fs:=hs L (by unfold lF;rw [List.filterMap_cons,hf];exact List.mem_cons_self)
      obtain ⟨sl,e⟩:=I.base.slot L o ho (I.ok.frf L hL) hL fun z=>I.ok.exfs L z hL
      exact ⟨hk,⟨L,_,hf,hn,e,hd⟩,ih (fun b hb=>hs b (by unfold lF;rw [List.filterMap_cons,hf];exact lac _ hb)) hr⟩
  exact all X.outer (fun _ hb=>hb) I.ok.funs
theorem Inv.stack(I:Inv X pins σ H s):s.heap.FunFrames X.base X.stack:=by
  rcases I.ok.stk with e | ⟨e,hf⟩
  · rw [e];exact I.funs
  · rw [e]
    obtain ⟨m,hn,_⟩:=I.loc
    refine .cons (by rw [I.ok.kind];decide) hf hn ?_ I.funs
    exact Heap.get?_none_of_le (las I.ok.bsz I.ok.above)
theorem Inv.stkSub(I:Inv X pins σ H s):∀ b∈lF X.stack,b∈X.env.locals::X.fs:=fun b hb=>by
  rcases I.ok.stk with e | ⟨e,hf⟩
  · rw [e] at hb;exact lac _ hb
  · rw [e] at hb
    unfold lF at hb
    rw [List.filterMap_cons,hf] at hb
    exact hb
theorem Inv.stkFree(I:Inv X pins σ H s):∀ b∈lF X.stack,H b=none:=fun b hb=>by
  rcases List.mem_cons.mp (I.stkSub b hb) with e | hb
  · rw [e];exact I.free
  · obtain ⟨_,o,ho,_⟩:=I.ok.funs.mem hb
    exact I.base.free b o ho (I.ok.frf b hb) fun z=>I.ok.exfs b z hb
theorem Inv.step{g':Array GenState}{t':Nat}{d':Drawn}{ch:List Addr}(I:Inv X pins σ H s)
    (hch:∀ b∈ch,(b∈X.ex∨X.s₀.heap.objs.size≤b)∧b≠X.env.locals∧(∀ x c,X.env.cells.lookup x=some c→c≠b)∧∀ p∈X.pn++pins,p.1≠b)
    (keep:∀ b o,b≠X.env.locals→b∉X.fs→b∉ch→s.heap.get? b=some o→H b=none→h'.get? b=some o)
    (slot:∀ b o,b≠X.env.locals→b∈X.fs→b∉ch→s.heap.get? b=some o→H b=none→∃ sl,h'.get? b=some { o with slots:=sl })(free:∀ b o,b∉ch→s.heap.get? b=some o→H b=none→H' b=none)
    (there:∀ b o,b∉ch→s.heap.get? b=some o→∃ o',h'.get? b=some o')
    (tups:∀ b xs,H b=some (.tup xs)→H' b=some (.tup xs)) (frzs:∀ b o u,H b=some (.frz o u)→H' b=some (.frz o u)) (tbls:∀ b ps,H b=some (.tbl ps)→∃ more,H' b=some (.tbl (ps++more)))
    (ns:∀ m,s.heap.Ns X.env.locals m→h'.Ns X.env.locals m) (hok:HOk X.prog X.w H' h') (hg:AllBare g') :
    Inv X pins σ H' { s with heap:=h',gens:=g',drawn:=d',toks:=t' }:=by
  have neL:∀ b o,X.s₀.heap.get? b=some o→b≠X.env.locals:=fun b o e=>Nat.ne_of_lt (lav (Heap.lt_size e) I.ok.above)
  have neC:∀ b o,X.s₀.heap.get? b=some o→b∉X.ex→b∉ch:=fun b o e hx hb=>by
    rcases (hch b hb).1 with z | z
    · exact hx z
    · exact absurd (lav (Heap.lt_size e) z) (Nat.lt_irrefl _)
  have cellK:∀ x c,X.env.cells.lookup x=some c→∀ v,s.heap.IsCell c v→h'.IsCell c v:=fun x c e v ⟨o,ho,hd⟩=>by
    have nch:c∉ch:=fun z=>(hch c z).2.2.1 x c e rfl
    by_cases hc:c∈X.fs
    · obtain ⟨sl,q⟩:=slot c o (I.cne x c e) hc nch ho (I.freeC x c e)
      exact ⟨_,q,hd⟩
    · exact ⟨o,keep c o (I.cne x c e) hc nch ho (I.freeC x c e),hd⟩
  refine ⟨I.ok,I.os,hg,⟨fun b o e n hb hx=>?_,fun b o e n hb hx=>?_,fun b o e n hx=>?_,fun b o e hx=>?_,fun b xs e=>tups b xs (I.base.tups b xs e),fun b o xs e=>frzs b o xs (I.base.frzs b o xs e),fun b ps e=>?_⟩,?_,fun x c e=>?_,?_,fun x c e=>?_,fun p hp=>?_,hok,I.len⟩
  · exact keep b o (neL b o e) hb (neC b o e hx) (I.base.keep b o e n hb hx) (I.base.free b o e n hx)
  · obtain ⟨sl,e1⟩:=I.base.slot b o e n hb hx
    obtain ⟨sl',e2⟩:=slot b _ (neL b o e) hb (neC b o e hx) e1 (I.base.free b o e n hx)
    exact ⟨sl',e2⟩
  · obtain ⟨o',e1⟩:=I.base.there b o e hx
    exact free b o' (neC b o e hx) e1 (I.base.free b o e n hx)
  · obtain ⟨o',e1⟩:=I.base.there b o e hx
    exact there b o' (neC b o e hx) e1
  · obtain ⟨m1,e1⟩:=I.base.tbls b ps e
    obtain ⟨m2,e2⟩:=tbls b _ e1
    exact ⟨m1++m2,by rw [e2,Array.append_assoc]⟩
  · obtain ⟨m,hn,hl⟩:=I.loc
    refine ⟨m,ns m hn,fun i x v e1 e2 e3=>?_⟩
    obtain ⟨u,r,l⟩:=hl i x v e1 e2 e3
    refine ⟨u,r,?_⟩
    rcases l with l | ⟨k,c,e,z⟩
    · exact .inl l
    · exact .inr ⟨k,c,e,cellK x c e _ z⟩
  · obtain ⟨v,z⟩:=I.cell x c e
    exact ⟨v,cellK x c e v z⟩
  · obtain ⟨m,⟨o,_,_,ho,_⟩,_⟩:=I.loc
    exact free _ o (fun z=>(hch _ z).2.1 rfl) ho I.free
  · obtain ⟨v,o,ho,hd⟩:=I.cell x c e
    exact free c o (fun z=>(hch c z).2.2.1 x c e rfl) ho (I.freeC x c e)
  · obtain ⟨e,n,ne,nf,d⟩:=I.pin p hp
    have nch:p.1∉ch:=fun z=>(hch p.1 z).2.2.2 p hp rfl
    exact ⟨keep p.1 p.2 ne nf nch e n,free p.1 p.2 nch e n,ne,nf,d⟩
theorem Inv.un{t':Nat}(I:Inv X pins σ H s)(u:Un X.fs [] H H' s.heap h')(hok:HOk X.prog X.w H' h'):Inv X pins σ H' { s with heap:=h',toks:=t' }:=by
  obtain ⟨m,⟨o,es,ep,ho,r⟩,_⟩:=id I.loc
  obtain ⟨sl,hL⟩:=u.any ho I.free (by simp)
  exact I.step (g':=s.gens) (d':=s.drawn) (ch:=[]) (fun _ z=>nomatch z) (fun b o _ hb _ e n=>u.keep b o e n hb (by simp)) (fun b o _ hb _ e n=>u.slot b o e n hb (by simp)) (fun b o _ e n=>u.free b o e n (by simp)) (fun b o _ e=>u.there b o e (by simp)) u.tups u.frzs u.tbls (fun m' hm=>by
    obtain ⟨o',es',ep',ho',r'⟩:=hm
    rw [ho] at ho';cases ho'
    exact ⟨_,es',ep',hL,r'⟩) hok I.bare
theorem Inv.call{g':Array GenState}{t':Nat}{d':Drawn}{ch:List Addr}(I:Inv X pins σ H s)(u:Un (lF X.stack) ch H H' s.heap h')(hok:HOk X.prog X.w H' h')(hg:AllBare g')
    (hch:∀ b∈ch,(b∈X.ex∨X.s₀.heap.objs.size≤b)∧b≠X.env.locals∧(∀ x c,X.env.cells.lookup x=some c→c≠b)∧∀ p∈X.pn++pins,p.1≠b) :
    Inv X pins σ H' { s with heap:=h',gens:=g',drawn:=d',toks:=t' }:=by
  obtain ⟨m,⟨o,es,ep,ho,r⟩,_⟩:=id I.loc
  obtain ⟨sl,hL⟩:=u.any ho I.free fun z=>(hch _ z).2.1 rfl
  exact I.step (ch:=ch) hch (fun b o hL hb hc e n=>u.keep b o e n (fun z=>(List.mem_cons.mp (I.stkSub b z)).elim hL hb) hc) (fun b o _ _ hc e n=>u.any e n hc) (fun b o hc e n=>u.free b o e n hc) (fun b o hc e=>u.there b o e hc) u.tups u.frzs u.tbls (fun m' hm=>by
    obtain ⟨o',es',ep',ho',r'⟩:=hm
    rw [ho] at ho';cases ho'
    exact ⟨_,es',ep',hL,r'⟩) hok hg
theorem Inv.turned{t':Nat}{it:Addr}(I:Inv X pins σ H s)(k:∀ b o,b≠it→s.heap.get? b=some o→h'.get? b=some o)(hn:H it=none)(hL:it≠X.env.locals)
    (h1:it∈X.ex∨X.s₀.heap.objs.size≤it)(h2:∀ x c,X.env.cells.lookup x=some c→c≠it)(h3:∀ p∈X.pn++pins,p.1≠it):Inv X pins σ H { s with heap:=h',toks:=t' }:=by
  have nit:∀ b u,H b=some u→b≠it:=fun b u e z=>by rw [z,hn] at e;cases e
  refine I.step (g':=s.gens) (d':=s.drawn) (ch:=[it]) (fun b hb=>?_) (fun b o _ _ hc e _=>k b o (fun z=>hc (by simp [z])) e) (fun b o _ _ hc e _=>⟨o.slots,k b o (fun z=>hc (by simp [z])) e⟩) (fun _ _ _ _ n=>n)
    (fun b o hc e=>⟨o,k b o (fun z=>hc (by simp [z])) e⟩) (fun _ _ e=>e) (fun _ _ _ e=>e) (fun b ps e=>⟨#[],by rw [e];simp⟩) (fun m hm=>?_) (fun b u e=>?_) I.bare
  · have e:b=it:=by simpa using hb
    subst e
    exact ⟨h1,hL,h2,h3⟩
  · obtain ⟨o,es,ep,ho,r⟩:=hm
    exact ⟨o,es,ep,k _ o (Ne.symm hL) ho,r⟩
  · refine (I.hok b u e).stay (fun c v hc q=>k c v ?_ q) (fun _ q=>q) fun _ _ q=>q
    rcases hc with z | z
    · rw [z];exact nit b u e
    · exact nit c _ z
theorem Inv.tok(I:Inv X pins σ H s)(t:Nat):Inv X pins σ H { s with toks:=t }:=I.un (h':=s.heap) (t':=t) Un.refl I.hok
theorem Inv.kept{t':Nat}(I:Inv X pins σ H s)(k:∀ b u,s.heap.get? b=some u→h'.get? b=some u):Inv X pins σ H { s with heap:=h',toks:=t' }:=I.un (Un.kept k) (I.hok.kept k)
theorem Inv.laid{a:Addr}{o:HO}{t':Nat}(I:Inv X pins σ H s)(k:∀ b u,s.heap.get? b=some u→h'.get? b=some u)(hp:s.heap.objs.size≤a)(new:ObjOk X.prog X.w (upd H a o) h' a o) :
    Inv X pins σ (upd H a o) { s with heap:=h',toks:=t' }:=I.un (Un.laid k hp (I.hok.fresh hp)) (I.hok.laid k hp new)
theorem Inv.write{x e:Addr}{o:HO}{t':Nat}(I:Inv X pins σ H s)(mu:rk (H x))(he:e=x∨H e=some (.own x))(k:∀ b u,b≠e→s.heap.get? b=some u→h'.get? b=some u)(heo:∃ u,h'.get? e=some u)
    (new:ObjOk X.prog X.w (upd H x o) h' x o):Inv X pins σ (upd H x o) { s with heap:=h',toks:=t' }:=I.un (Un.write mu he k heo) (I.hok.write mu he k heo new)
theorem Inv.pins_of{pins':List (Addr×Obj)}(I:Inv X pins σ H s)(h:∀ p∈pins',s.heap.get? p.1=some p.2∧H p.1=none∧p.1≠X.env.locals∧p.1∉X.fs∧∀ v,p.2.data≠.cell v):Inv X pins' σ H s:=
  ⟨I.ok,I.os,I.bare,I.base,I.loc,I.cell,I.free,I.freeC,fun p hp=>(lap.mp hp).elim (fun z=>I.pin p (lal _ z)) (h p),I.hok,I.len⟩
theorem qI{N:List Str}(hN:N.Nodup){i j:Nat}{x:Str}(a:N[i]?=some x)(b:N[j]?=some x):i=j:=by
  obtain ⟨h1,e1⟩:=lab.mp a
  obtain ⟨h2,e2⟩:=lab.mp b
  exact (List.getElem_inj hN).mp (e1.trans e2.symm)
theorem pD{M:Model}{A:Around}{E:Value→Shared→Prop}{i:Nat}{x:Str}{v:V}{u:Value}{Q:Unit→Shared→Prop}(I:Inv X pins σ H s)(hN:X.N.Nodup)(hi:X.N[i]?=some x)(hx:ub X.env.scope x)(r:RelV v u)
    (h:∀ s',Inv X pins (σ.set i (some v)) H s'→(∃ a,Heap.SameBut a s.heap s'.heap∧(a=X.env.locals∨X.env.cells.lookup x=some a))→Q () s')(hf:X.fn x=true∨X.env.scope.names.lookup x=some .local:=by first | exact .inl rfl | exact .inr rfl | assumption):wpAny M A (storeName X.env x u) Q E s:=by
  obtain ⟨m,hn,hl⟩:=id I.loc
  have hcls:(X.env.scope.kind==.class||(X.env.scope.kind==.module&&X.env.locals != X.env.globals))=false:=by rw [I.ok.kind];rfl
  have hiσ:i<σ.length:=by rw [I.len];exact (lab.mp hi).1
  have cne:=I.cne
  have tracked:∀ {a:Addr} {h':Heap},(∃ o,s.heap.get? a=some o∧H a=none)→Heap.SameBut a s.heap h'→HOk X.prog X.w H h':=fun {a h'} ha hs b ob e=>by
    obtain ⟨_,_,hfree⟩:=ha
    refine (I.hok b ob e).stay (fun c w' hc q=>(hs.2 c ?_).trans q) (fun _ q=>q) fun _ _ q=>q
    rintro rfl
    rcases hc with rfl | hc
    · rw [hfree] at e;cases e
    · rw [hfree] at hc;cases hc
  rcases hx with hk | hk
  · refine wpAny_storeName_local hk hn (fun h' hn' hs=>?_) hcls
    obtain ⟨oL,_,_,hoL,_⟩:=id hn
    refine h _ ⟨I.ok,I.os,I.bare,⟨fun b o e n hb hx=>?_,fun b o e n hb hx=>?_,I.base.free,fun b o e hx=>?_,I.base.tups,I.base.frzs,I.base.tbls⟩,⟨_,hn',fun j y v' e1 e2 e3=>?_⟩,fun y c e=>?_,I.free,I.freeC,fun p hp=>?_,tracked ⟨oL,hoL,I.free⟩ hs,by simpa using I.len⟩ ⟨_,hs,.inl rfl⟩
    · exact (hs.2 b (Nat.ne_of_lt (lav (Heap.lt_size e) I.ok.above))).trans (I.base.keep b o e n hb hx)
    · obtain ⟨sl,e1⟩:=I.base.slot b o e n hb hx
      exact ⟨sl,(hs.2 b (Nat.ne_of_lt (lav (Heap.lt_size e) I.ok.above))).trans e1⟩
    · obtain ⟨o',e1⟩:=I.base.there b o e hx
      exact ⟨o',(hs.2 b (Nat.ne_of_lt (lav (Heap.lt_size e) I.ok.above))).trans e1⟩
    · by_cases hj:j=i
      · subst hj
        rw [hi] at e1;cases e1
        rw [lao hiσ] at e2
        cases e2
        exact ⟨u,r,.inl ⟨hk,by simp⟩⟩
      · rw [lar (Ne.symm hj)] at e2
        obtain ⟨u',r',q⟩:=hl j y v' e1 e2 e3
        refine ⟨u',r',?_⟩
        rcases q with ⟨k,e⟩ | ⟨k,c,e,z⟩
        · refine .inl ⟨k,?_⟩
          have:y≠x:=fun e=>hj (qI hN e1 (e▸hi))
          simp [this,e]
        · exact .inr ⟨k,c,e,z.sameBut hs (cne y c e)⟩
    · obtain ⟨w',z⟩:=I.cell y c e
      exact ⟨w',z.sameBut hs (cne y c e)⟩
    · obtain ⟨e,n,ne,nf,d⟩:=I.pin p hp
      exact ⟨(hs.2 p.1 ne).trans e,n,ne,nf,d⟩
  · have hfn:X.fn x=true:=by
      rcases hf with z | z
      · exact z
      · rw [z] at hk;cases hk
    obtain ⟨c,hc⟩:=I.ok.has x (.inl hk)
    obtain ⟨w',z⟩:=I.cell x c hc
    refine wpAny_storeName_cell I.ok.kind hk hc z (fun h' hc' hs=>?_)
    obtain ⟨oc,hoc,hocd⟩:=id z
    refine h { s with heap:=h' } ⟨I.ok,I.os,I.bare,⟨fun b o e n hb hx=>?_,fun b o e n hb hx=>?_,I.base.free,fun b o e hx=>?_,I.base.tups,I.base.frzs,I.base.tbls⟩,⟨m,hn.sameBut hs (Ne.symm (cne x c hc)),fun j y v' e1 e2 e3=>?_⟩,fun y c' e=>?_,I.free,I.freeC,fun p hp=>?_,tracked ⟨oc,hoc,I.freeC x c hc⟩ hs,by simpa using I.len⟩ ⟨c,hs,.inr hc⟩
    · exact (hs.2 b (Nat.ne_of_lt (lav (Heap.lt_size e) (I.ok.cab x c hfn hc)))).trans (I.base.keep b o e n hb hx)
    · obtain ⟨sl,e1⟩:=I.base.slot b o e n hb hx
      exact ⟨sl,(hs.2 b (Nat.ne_of_lt (lav (Heap.lt_size e) (I.ok.cab x c hfn hc)))).trans e1⟩
    · obtain ⟨o',e1⟩:=I.base.there b o e hx
      exact ⟨o',(hs.2 b (Nat.ne_of_lt (lav (Heap.lt_size e) (I.ok.cab x c hfn hc)))).trans e1⟩
    · by_cases hj:j=i
      · subst hj
        rw [hi] at e1;cases e1
        rw [lao hiσ] at e2
        cases e2
        exact ⟨u,r,.inr ⟨.inl hk,c,hc,hc'⟩⟩
      · rw [lar (Ne.symm hj)] at e2
        obtain ⟨u',r',q⟩:=hl j y v' e1 e2 e3
        refine ⟨u',r',?_⟩
        rcases q with q | ⟨k,c',e,z'⟩
        · exact .inl q
        · refine .inr ⟨k,c',e,z'.sameBut hs ?_⟩
          rintro rfl
          exact hj (qI hN e1 (I.ok.inj _ _ _ e hc▸hi))
    · by_cases hcc:c'=c
      · subst hcc;exact ⟨_,hc'⟩
      · obtain ⟨w2,z2⟩:=I.cell y c' e
        exact ⟨w2,z2.sameBut hs hcc⟩
    · obtain ⟨e,n,ne,nf,d⟩:=I.pin p hp
      refine ⟨(hs.2 p.1 ?_).trans e,n,ne,nf,d⟩
      intro q
      rw [q,hoc] at e
      have q':oc=p.2:=lan e
      exact d w' (by rw [← q'];exact hocd)
theorem mQ{M:Model}{A:Around}{E:Value→Shared→Prop}{i:Nat}{x:Str}{v:V}{u:Value}{Q:Unit→Shared→Prop}(I:Inv X pins σ H s)(hN:X.N.Nodup)(hi:X.N[i]?=some x)(hx:ub X.env.scope x)(r:RelV v u)
    (h:∀ s',Inv X pins (σ.set i (some v)) H s'→Q () s')(hf:X.fn x=true∨X.env.scope.names.lookup x=some .local:=by first | exact .inl rfl | exact .inr rfl | assumption):wpAny M A (storeName X.env x u) Q E s:=
  pD I hN hi hx r (fun s' I' _=>h s' I') hf
theorem Inv.call'{s':Shared}{ch:List Addr}(I:Inv X pins σ H s)(ho:s'.os=s.os)(u:Un (lF X.stack) ch H H' s.heap s'.heap)(hok:HOk X.prog X.w H' s'.heap)(hg:AllBare s'.gens)
    (hch:∀ b∈ch,(b∈X.ex∨X.s₀.heap.objs.size≤b)∧b≠X.env.locals∧(∀ x c,X.env.cells.lookup x=some c→c≠b)∧∀ p∈X.pn++pins,p.1≠b):Inv X pins σ H' s':=by
  obtain ⟨h',g',d',t',o'⟩:=s'
  have e:o'=s.os:=ho
  subst e
  exact I.call (g':=g') (t':=t') (d':=d') u hok hg hch
end
abbrev XK:=Value→Option Addr→Hp→Prop
abbrev St:=List (Option V)
abbrev VK:=V→Hp→Prop
abbrev TE:=St→Hp→VK→Prop
abbrev TT:=St→Hp→(Bool→Hp→Prop)→Prop
abbrev TA:=St→Hp→(List V→Hp→Prop)→Prop
structure iu where
  nx:St→Hp→Prop
  rt:VK
  bk:St→Hp→Prop:=fun _ _=>False
  ct:St→Hp→Prop:=fun _ _=>False
abbrev TS:=iu→St→Hp→Prop
def EP(X:Cx)(pins:List (Addr×Obj))(σ:St)(Q:VK)(u:Value)(s':Shared):Prop:=∃ v H',Inv X pins σ H' s'∧RelV v u∧Q v H'
def TP(X:Cx)(pins:List (Addr×Obj))(σ:St)(Q:Bool→Hp→Prop)(b:Bool)(s':Shared):Prop:=∃ H',Inv X pins σ H' s'∧Q b H'
def AP(X:Cx)(pins:List (Addr×Obj))(σ:St)(Q:List V→Hp→Prop)(us:List Value)(s':Shared):Prop:=∃ vs H',Inv X pins σ H' s'∧Vals vs us∧Q vs H'
def SP(X:Cx)(pins:List (Addr×Obj))(D:iu)(f:Flow)(s':Shared):Prop:=
  match f with
  | .next=>∃ σ' H',Inv X pins σ' H' s'∧D.nx σ' H'
  | .brk=>∃ σ' H',Inv X pins σ' H' s'∧D.bk σ' H'
  | .cont=>∃ σ' H',Inv X pins σ' H' s'∧D.ct σ' H'
  | .ret u=>∃ v σ' H',Inv X pins σ' H' s'∧RelV v u∧D.rt v H'
def PE(X:Cx)(e:Expr)(t:TE):Prop:=
  ∀ (pins:List (Addr×Obj)) (s:Shared) (σ:St) (H:Hp) (Q:VK),Inv X pins σ H s→t σ H Q→wpAny (model X.prog X.w) X.A (eval e X.env) (EP X pins σ Q) X.xe s
def PT(X:Cx)(e:Expr)(t:TT):Prop:=
  ∀ (pins:List (Addr×Obj)) (s:Shared) (σ:St) (H:Hp) (Q:Bool→Hp→Prop),Inv X pins σ H s→t σ H Q→wpAny (model X.prog X.w) X.A (isTrue e X.env (eval e X.env)) (TP X pins σ Q) X.xe s
def PW(X:Cx)(e:Expr)(t:TT):Prop:=
  ∀ (whole:Sem Value) (pins:List (Addr×Obj)) (s:Shared) (σ:St) (H:Hp) (Q:Bool→Hp→Prop),Inv X pins σ H s→t σ H Q→wpAny (model X.prog X.w) X.A (isTrue e X.env whole) (TP X pins σ Q) X.xe s
theorem PW.pt{X:Cx}{e:Expr}{t:TT}(h:PW X e t):PT X e t:=h _
def PA(X:Cx)(es:List Expr)(t:TA):Prop:=
  ∀ (pos:Pos) (pins:List (Addr×Obj)) (s:Shared) (σ:St) (H:Hp) (Q:List V→Hp→Prop),Inv X pins σ H s→t σ H Q→wpAny (model X.prog X.w) X.A (spliced (backTo pos (starEach es X.env))) (AP X pins σ Q) X.xe s
def PS(X:Cx)(st:Stmt)(t:TS):Prop:=
  ∀ (pins:List (Addr×Obj)) (s:Shared) (σ:St) (H:Hp) (D:iu),Inv X pins σ H s→t D σ H→wpAny (model X.prog X.w) X.A (exec st X.env) (SP X pins D) X.xe s
def PSs(X:Cx)(st:List Stmt)(t:TS):Prop:=
  ∀ (pins:List (Addr×Obj)) (s:Shared) (σ:St) (H:Hp) (D:iu),Inv X pins σ H s→t D σ H→wpAny (model X.prog X.w) X.A (execs st X.env) (SP X pins D) X.xe s
theorem bm{α:Type}{t:Sem α}{Q Q':α→Shared→Prop}{M:Model}{A:Around}{E:Value→Shared→Prop}{s:Shared}(h:wpAny M A t Q E s)(hQ:∀ a s,Q a s→Q' a s):wpAny M A t Q' E s:=wpAny_mono h hQ fun _ _ x=>x
end L2
namespace L2
open PySem PySem.Spec PyProof.Rows
section
variable {X:Cx}
theorem Ky{a b:Expr}{ta tb:TE}(ha:PE X a ta)(hb:PE X b tb){pins:List (Addr×Obj)}{s:Shared}{σ:St}{H:Hp}{R:V→V→Hp→Prop}(I:Inv X pins σ H s)(h:ta σ H fun x H1=>tb σ H1 fun y H2=>R x y H2)
    {α:Type}{Q:α→Shared→Prop}{f:Value→Value→Sem α}
    (hf:∀ v u s2 x y H2,Inv X pins σ H2 s2→RelV x v→RelV y u→R x y H2→wpAny (model X.prog X.w) X.A (f v u) Q X.xe s2) :
    wpAny (model X.prog X.w) X.A (eval a X.env) (fun v s₁=>wpAny (model X.prog X.w) X.A (eval b X.env) (fun u s₂=>wpAny (model X.prog X.w) X.A (f v u) Q X.xe s₂) X.xe s₁) X.xe s:=by
  refine bm (ha pins s σ H _ I h) fun v s1 ⟨x,H1,I1,r1,q1⟩=>?_
  refine bm (hb pins s1 σ H1 _ I1 q1) fun u s2 ⟨y,H2,I2,r2,q2⟩=>?_
  exact hf v u s2 x y H2 I2 r1 r2 q2
def ad(i:Nat):TE:=fun σ H Q=>∃ v,σ[i]?=some (some v)∧Q v H
def tC(v:V):TE:=fun _ H Q=>Q v H
theorem Cc{i:Nat}{x:Str}{pos:Pos}(hN:X.N[i]?=some x)(hv:xh X.env.scope x)(hd:(x==("__debug__":Str))=false:=by decide)(hcd:(x==("__classdict__":Str))=false:=by decide):PE X (.Name x pos) (ad i):=by
  intro pins s σ H Q I h
  obtain ⟨v,e,h⟩:=h
  obtain ⟨m,hn,hl⟩:=I.loc
  obtain ⟨u,r,l⟩:=hl i x v hN e hv
  have fin:EP X pins σ Q u s:=⟨v,H,I,r,h⟩
  rcases l with ⟨hk,hm⟩ | ⟨hk,c,hc,hcell⟩
  · exact wpAny_Name (wpAny_loadName_local I.ok.kind hk hn hm fin) hd
  · rcases hk with hk | hk
    · exact wpAny_Name (wpAny_loadName_cell I.ok.kind hk hc hcell fin) hd
    · exact wpAny_Name (wpAny_loadName_free I.ok.kind hk hc hcell fin hcd) hd
theorem am{i j pos}:PE X (.Constant (.int i) j pos) (tC (.int i)):=fun _ _ _ H _ I h=>wpAny_Constant_int ⟨.int i,H,I.tok _,⟨_,rfl⟩,h⟩
theorem bA{b j pos}:PE X (.Constant (.bool b) j pos) (tC (.bl b)):=fun _ _ _ H _ I h=>Constant_bool ⟨.bl b,H,I,rfl,h⟩
theorem fK{j pos}:PE X (.Constant .none j pos) (tC .non):=fun _ _ _ H _ I h=>Constant_none ⟨.non,H,I,rfl,h⟩
theorem aF{x j pos}:PE X (.Constant (.str x) j pos) (tC (.str x)):=fun _ _ _ H _ I h=>Calls.Constant_str ⟨.str x,H,I.tok _,⟨_,rfl⟩,h⟩
def Gl(X:Cx)(x:Str):Prop:=X.env.kindOf x=some .globalImplicit
theorem oI{E:Value→Shared→Prop}{pins:List (Addr×Obj)}{s:Shared}{σ:St}{H:Hp}{x:Str}{u:Value}{pos:Pos}{Q:Value→Shared→Prop}(I:Inv X pins σ H s)(hg:Gl X x)(hm:X.mg x=some u)(h:Q u s)
    (hd:(x==("__debug__":Str))=false:=by decide):wpAny (model X.prog X.w) X.A (eval (.Name x pos) X.env) Q E s:=
  Calls.Name_function_global I.ok.kind hg (Calls.loadGlobal_global (by rw [I.ok.glob];exact I.mod.glob.keeps I.bk) hm h) hd
theorem nZ{E:Value→Shared→Prop}{pins:List (Addr×Obj)}{s:Shared}{σ:St}{H:Hp}{x:Str}{u:Value}{pos:Pos}{Q:Value→Shared→Prop}(I:Inv X pins σ H s)(hg:Gl X x)(hm:X.mg x=none)(hv:bootBuiltins x=some u)(h:Q u s)
    (hn:x≠"__name__":=by decide)(hd:(x==("__debug__":Str))=false:=by decide):wpAny (model X.prog X.w) X.A (eval (.Name x pos) X.env) Q E s:=by
  obtain ⟨mb,h1,h2⟩:=I.mod.blt
  exact Calls.Name_function_global I.ok.kind hg (Calls.loadGlobal_builtin (by rw [I.ok.glob];exact I.mod.glob.keeps I.bk) hm (by rw [I.ok.blt];exact h1.keeps I.bk) ((h2 x hn).trans hv) h) hd
theorem bR{x:Str}{v:V}{u:Value}{pos:Pos}(hg:Gl X x)(hm:X.mg x=none)(hv:bootBuiltins x=some u)(r:RelV v u)(hn:x≠"__name__":=by decide)(hd:(x==("__debug__":Str))=false:=by decide):PE X (.Name x pos) (tC v):=
  fun _ _ _ H _ I h=>nZ I hg hm hv ⟨v,H,I,r,h⟩ hn hd
variable {a b:Expr}{ta tb:TE}{pos:Pos}
def PC(X:Cx)(op:CmpOp)(a b:Expr)(t:TE):Prop:=
  ∀ (pins:List (Addr×Obj)) (s:Shared) (σ:St) (H:Hp) (Q:VK),Inv X pins σ H s→t σ H Q→
    wpAny (model X.prog X.w) X.A (eval a X.env) (fun v s₁=>wpAny (model X.prog X.w) X.A (eval b X.env) (fun u s₂=>wpAny (model X.prog X.w) X.A (compareOp op v u) (EP X pins σ Q) X.xe s₂) X.xe s₁) X.xe s
theorem rF(b:Expr){op:CmpOp}(h:op≠.In)(h2:op≠.NotIn):behindInMarks op b=false:=by
  have e1:(op==CmpOp.In)=false:=by cases op <;> first | rfl | exact absurd rfl h
  have e2:(op==CmpOp.NotIn)=false:=by cases op <;> first | rfl | exact absurd rfl h2
  cases b <;> simp [behindInMarks,e1,e2]
def jt(ta:TE):TE:=fun σ H Q=>ta σ H fun x H1=>Q (.bl (decide (x=.non))) H1
def i_(ta:TE):TE:=fun σ H Q=>ta σ H fun x H1=>Q (.bl (!decide (x=.non))) H1
theorem RelV.none_iff{x:V}{v:Value}(r:RelV x v):(v==Value.none)=decide (x=.non):=by
  cases x with
  | non=>cases r;rfl
  | bl _=>cases r;rfl
  | int _=>obtain ⟨t,rfl⟩:=r;rfl
  | str _=>obtain ⟨t,rfl⟩:=r;rfl
  | byt _=>obtain ⟨t,rfl⟩:=r;rfl
  | flt _=>obtain ⟨t,rfl⟩:=r;rfl
  | ref _=>cases r;rfl
  | ty _=>cases r;rfl
theorem ii{j pos'}(ha:PE X a ta):PC X .Is a (.Constant .none j pos') (jt ta):=by
  intro pins s σ H Q I h
  refine bm (ha pins s σ H _ I h) fun v s1 ⟨x,H1,I1,r1,q1⟩=>?_
  exact Constant_none (is_none_gen ⟨.bl _,H1,I1,by rw [r1.none_iff];rfl,q1⟩)
theorem iH{j pos'}(ha:PE X a ta):PC X .IsNot a (.Constant .none j pos') (i_ ta):=by
  intro pins s σ H Q I h
  refine bm (ha pins s σ H _ I h) fun v s1 ⟨x,H1,I1,r1,q1⟩=>?_
  exact Constant_none (isnot_none_gen ⟨.bl _,H1,I1,by rw [r1.none_iff];rfl,q1⟩)
def tB(t:TE):TT:=fun σ H Q=>t σ H fun x H1=>∃ c,x=.bl c∧Q c H1
theorem lT{op:CmpOp}{t:TE}(h:PC X op a b t)(h1:behindInMarks op b=false:=by first | exact rF _ (by decide) (by decide) | rfl):PE X (.Compare a [op] [b] pos) t:=fun pins s σ H Q I hw=>wpAny_Compare1 (h pins s σ H Q I hw) h1
theorem fL{op:CmpOp}{t:TE}(h:PC X op a b t)(h1:behindInMarks op b=false:=by first | exact rF _ (by decide) (by decide) | rfl):PT X (.Compare a [op] [b] pos) (tB t):=by
  intro pins s σ H Q I hw
  refine wpAny_isTrue_Compare1 (bm (h pins s σ H _ I hw) fun v s1 h1=>bm h1 fun u s2 h2=>bm h2 fun c s3 ⟨x,H1,I1,r1,q1⟩=>?_) h1
  obtain ⟨d,rfl,q⟩:=q1
  cases r1
  exact wpAny_truthy_bool ⟨H1,I1,q⟩
theorem bj{e:Expr}{t:TE}(h:PE X e t)(he:∀ whole,isTrue e X.env whole=(do let v ← whole;standAt e.pos;holding [v] (truthy v)):=by intro _;rfl):PT X e (tB t):=by
  intro pins s σ H Q I hw
  refine isTrue_plain (bm (h pins s σ H _ I hw) fun v s1 ⟨x,H1,I1,r1,q1⟩=>?_) (he _)
  obtain ⟨d,rfl,q⟩:=q1
  cases r1
  exact wpAny_truthy_bool ⟨H1,I1,q⟩
variable {tA tB':TT}{rest:List Expr}
def iw(t u:TT):TT:=fun σ H Q=>t σ H fun c H1=>if c=true then u σ H1 Q else Q false H1
def im(t u:TT):TT:=fun σ H Q=>t σ H fun c H1=>if c=true then Q true H1 else u σ H1 Q
def cb(t:TT):TT:=fun σ H Q=>t σ H fun c H1=>Q (!c) H1
theorem eD(ha:PT X a tA):PW X (.BoolOp .And [a] pos) tA:=by
  intro wh pins s σ H Q I h
  refine isTrue_and (bm (ha pins s σ H Q I h) fun c s1 e=>?_)
  cases c with
  | true=>exact isTrue_and_nil e
  | false=>exact e
theorem dS(ha:PT X a tA):PW X (.BoolOp .Or [a] pos) tA:=by
  intro wh pins s σ H Q I h
  refine isTrue_or (bm (ha pins s σ H Q I h) fun c s1 e=>?_)
  cases c with
  | false=>exact isTrue_or_nil e
  | true=>exact e
theorem fh(ha:PT X a tA)(hb:PW X (.BoolOp .And (b::rest) pos) tB'):PW X (.BoolOp .And (a::b::rest) pos) (iw tA tB'):=by
  intro wh pins s σ H Q I h
  refine isTrue_and (bm (ha pins s σ H _ I h) fun c s1 ⟨H1,I1,q1⟩=>?_)
  cases c with
  | true=>exact hb wh pins s1 σ H1 Q I1 q1
  | false=>exact ⟨H1,I1,q1⟩
theorem ez(ha:PT X a tA)(hb:PW X (.BoolOp .Or (b::rest) pos) tB'):PW X (.BoolOp .Or (a::b::rest) pos) (im tA tB'):=by
  intro wh pins s σ H Q I h
  refine isTrue_or (bm (ha pins s σ H _ I h) fun c s1 ⟨H1,I1,q1⟩=>?_)
  cases c with
  | true=>exact ⟨H1,I1,q1⟩
  | false=>exact hb wh pins s1 σ H1 Q I1 q1
theorem bF(ha:PT X a tA):PT X (.UnaryOp .Not a pos) (cb tA):=by
  intro pins s σ H Q I h
  exact isTrue_not (ha pins s σ H (fun c H1=>Q (!c) H1) I h)
def eG(ta tb:TE):TE:=fun σ H Q=>ta σ H fun x H1=>∃ c,x=.bl c∧if c=true then tb σ H1 Q else Q (.bl false) H1
def xY(ta tb:TE):TE:=fun σ H Q=>ta σ H fun x H1=>∃ c,x=.bl c∧if c=true then Q (.bl true) H1 else tb σ H1 Q
def nv(ta:TE):TE:=fun σ H Q=>ta σ H fun x H1=>∃ c,x=.bl c∧Q (.bl (!c)) H1
theorem fe{op}{t:TE}(h:PE X a t):PE X (.BoolOp op [a] pos) t:=fun pins s σ H Q I hw=>BoolOp_one (h pins s σ H Q I hw)
theorem eA(ha:PE X a ta)(hb:PE X (.BoolOp .And (b::rest) pos) tb):PE X (.BoolOp .And (a::b::rest) pos) (eG ta tb):=by
  intro pins s σ H Q I h
  refine BoolOp_and (bm (ha pins s σ H _ I h) fun v s1 ⟨x,H1,I1,r1,q1⟩=>?_)
  obtain ⟨c,rfl,q1⟩:=q1
  cases r1
  refine wpAny_truthy_bool ?_
  cases c with
  | true=>exact hb pins s1 σ H1 Q I1 q1
  | false=>exact ⟨.bl false,H1,I1,rfl,q1⟩
theorem EA(ha:PE X a ta)(hb:PE X (.BoolOp .Or (b::rest) pos) tb):PE X (.BoolOp .Or (a::b::rest) pos) (xY ta tb):=by
  intro pins s σ H Q I h
  refine BoolOp_or (bm (ha pins s σ H _ I h) fun v s1 ⟨x,H1,I1,r1,q1⟩=>?_)
  obtain ⟨c,rfl,q1⟩:=q1
  cases r1
  refine wpAny_truthy_bool ?_
  cases c with
  | false=>exact hb pins s1 σ H1 Q I1 q1
  | true=>exact ⟨.bl true,H1,I1,rfl,q1⟩
theorem s0(ha:PE X a ta):PE X (.UnaryOp .Not a pos) (nv ta):=by
  intro pins s σ H Q I h
  refine UnaryOp_ (bm (ha pins s σ H _ I h) fun v s1 ⟨x,H1,I1,r1,q1⟩=>?_)
  obtain ⟨c,rfl,q1⟩:=q1
  cases r1
  exact not_of (wpAny_truthy_bool ⟨.bl (!c),H1,I1,rfl,q1⟩)
def zf(t:TT)(ta tb:TE):TE:=fun σ H Q=>t σ H fun c H1=>if c=true then ta σ H1 Q else tb σ H1 Q
theorem qS{c:Expr}(hc:PT X c tA)(ha:PE X a ta)(hb:PE X b tb):PE X (.IfExp c a b pos) (zf tA ta tb):=by
  intro pins s σ H Q I h
  refine wpAny_IfExp (bm (hc pins s σ H _ I h) fun d s1 ⟨H1,I1,q1⟩=>?_)
  cases d with
  | true=>exact ha pins s1 σ H1 Q I1 q1
  | false=>exact hb pins s1 σ H1 Q I1 q1
end
end L2
namespace L2
open PySem PySem.Spec PyProof.Rows
def SqL(K:PySem.W.Frag)(H:Hp)(a:Addr)(xs:List V):Prop:=
  Rd H a (.lst xs)∨
    ∃ (o:Obj) (its:Array Value) (n:Nat),K.lookup a=some o∧o.cls=.type "list"∧o.dict=none∧o.data=.seq its n∧its.size≤sizeLine∧Vals xs its.toList
def fE(K:PySem.W.Frag)(H:Hp)(a:Addr)(xs:List V):Prop:=
  Rd H a (.tup xs)∨
    ∃ (o:Obj) (its:Array Value) (n:Nat),K.lookup a=some o∧o.cls=.type "tuple"∧o.data=.seq its n∧its.size≤sizeLine∧Vals xs its.toList
def GR:Value→Option V
  | .none=>some .non
  | .bool b=>some (.bl b)
  | .int i _=>some (.int i)
  | .str x _=>some (.str x)
  | .bytes b _=>some (.byt b)
  | .float b _=>some (.flt b)
  | .ref a=>some (.ref a)
  | .type n=>some (.ty n)
  | _=>none
theorem RelV.abs{x:V}{u:Value}(r:RelV x u):GR u=some x:=by
  cases x with
  | non=>cases r;rfl
  | bl _=>cases r;rfl
  | int _=>obtain ⟨t,rfl⟩:=r;rfl
  | str _=>obtain ⟨t,rfl⟩:=r;rfl
  | byt _=>obtain ⟨t,rfl⟩:=r;rfl
  | flt _=>obtain ⟨t,rfl⟩:=r;rfl
  | ref _=>cases r;rfl
  | ty _=>cases r;rfl
theorem RelV.inj{x y:V}{u:Value}(r:RelV x u)(q:RelV y u):x=y:=lan (r.abs.symm.trans q.abs)
theorem Vals.inj:∀ {xs ys:List V} {us:List Value},Vals xs us→Vals ys us→xs=ys
  | _,_,_,.nil,.nil=>rfl
  | _,_,_,.cons r t,.cons r' t'=>by rw [r.inj r',Vals.inj t t']
section
variable {X:Cx}{pins:List (Addr×Obj)}{σ:St}{H:Hp}{s:Shared}{a:Addr}{xs ys:List V}
theorem Inv.list(I:Inv X pins σ H s)(h:SqL X.K H a xs):∃ its:List Value,Vals xs its∧PlainL s.heap a its.toArray∧xs.length≤sizeLine:=by
  rcases h with h | ⟨o,its,n,hk,hc,hd,hs,hz,r⟩
  · obtain ⟨z,its,n,r,e⟩:=h.ok I.hok
    exact ⟨its,r,⟨_,n,e,rfl,rfl,rfl⟩,z⟩
  · refine ⟨its.toList,r,⟨o,n,I.kIn a o hk,hc,hd,by simpa using hs⟩,?_⟩
    have e:=r.length
    simp only [Array.length_toList] at e
    omega
theorem Inv.tuple(I:Inv X pins σ H s)(h:fE X.K H a xs):∃ its:List Value,Vals xs its∧IsTup s.heap a its.toArray∧xs.length≤sizeLine:=by
  rcases h with h | ⟨o,its,n,hk,hc,hs,hz,r⟩
  · obtain ⟨z,its,r,p⟩:=h.ok I.hok
    exact ⟨its,r,p,z⟩
  · refine ⟨its.toList,r,⟨o,I.kIn a o hk,hc,n,by simpa using hs⟩,?_⟩
    have e:=r.length
    simp only [Array.length_toList] at e
    omega
theorem Inv.list_inj(I:Inv X pins σ H s)(h:SqL X.K H a xs)(h':SqL X.K H a ys):xs=ys:=by
  obtain ⟨its,r,⟨o,n,e,_,_,d⟩,_⟩:=I.list h
  obtain ⟨its',r',⟨o',n',e',_,_,d'⟩,_⟩:=I.list h'
  rw [e] at e';cases e'
  rw [d] at d'
  injection d' with d1 _
  have:its=its':=by simpa using congrArg Array.toList d1
  subst this
  exact r.inj r'
theorem Inv.tuple_inj(I:Inv X pins σ H s)(h:fE X.K H a xs)(h':fE X.K H a ys):xs=ys:=by
  obtain ⟨its,r,⟨o,e,_,n,d⟩,_⟩:=I.tuple h
  obtain ⟨its',r',⟨o',e',_,n',d'⟩,_⟩:=I.tuple h'
  rw [e] at e';cases e'
  rw [d] at d'
  injection d' with d1 _
  have:its=its':=by simpa using congrArg Array.toList d1
  subst this
  exact r.inj r'
end
abbrev Cx.wish(X:Cx)(E:Value→Shared→Prop):Cx:={ X with xe:=E }
abbrev Cx.nox(X:Cx):Cx:=X.wish fun _ _=>False
theorem Cx.Ok.wish{X:Cx}(ok:X.Ok)(E:Value→Shared→Prop):(X.wish E).Ok:=
  ⟨ok.mod,ok.kind,ok.glob,ok.blt,ok.above,ok.inj,ok.has,ok.cab,ok.hd,ok.frames,ok.stk,ok.exf,ok.bs,ok.bsz,ok.noex,ok.exfs,ok.funs,ok.frf⟩
theorem Cx.Ok.unwish{X:Cx}{E:Value→Shared→Prop}(ok:(X.wish E).Ok):X.Ok:=
  ⟨ok.mod,ok.kind,ok.glob,ok.blt,ok.above,ok.inj,ok.has,ok.cab,ok.hd,ok.frames,ok.stk,ok.exf,ok.bs,ok.bsz,ok.noex,ok.exfs,ok.funs,ok.frf⟩
section
variable {X:Cx}{pins:List (Addr×Obj)}{σ:St}{H:Hp}{s:Shared}{E:Value→Shared→Prop}
theorem Inv.wish(I:Inv X pins σ H s)(E:Value→Shared→Prop):Inv (X.wish E) pins σ H s:=⟨I.ok.wish E,I.os,I.bare,I.base,I.loc,I.cell,I.free,I.freeC,I.pin,I.hok,I.len⟩
theorem Inv.unwish(I:Inv (X.wish E) pins σ H s):Inv X pins σ H s:=⟨I.ok.unwish,I.os,I.bare,I.base,I.loc,I.cell,I.free,I.freeC,I.pin,I.hok,I.len⟩
theorem SP.unwish{D:iu}{f:Flow}{s':Shared}(h:SP (X.wish E) pins D f s'):SP X pins D f s':=by
  cases f with
  | next=>obtain ⟨σ',H',I,q⟩:=h;exact ⟨σ',H',I.unwish,q⟩
  | brk=>obtain ⟨σ',H',I,q⟩:=h;exact ⟨σ',H',I.unwish,q⟩
  | cont=>obtain ⟨σ',H',I,q⟩:=h;exact ⟨σ',H',I.unwish,q⟩
  | ret u=>obtain ⟨v,σ',H',I,r,q⟩:=h;exact ⟨v,σ',H',I.unwish,r,q⟩
theorem PSs.nox{st:List Stmt}{t:TS}(h:PSs X.nox st t):PSs X st t:=fun pins s σ H D I hw=>
  wpAny_mono (h pins s σ H D (I.wish _) hw) (fun _ _ q=>q.unwish) fun _ _ z=>False.elim z
end
section
variable {X:Cx}{st:Stmt}{rest:List Stmt}{t u:TS}{e:Expr}{te:TE}{pos:Pos}
def aM:TS:=fun D σ H=>D.nx σ H
def aq(t u:TS):TS:=fun D σ H=>t { D with nx:=u D } σ H
theorem aA:PSs X [] aM:=fun _ _ σ H _ I h=>wpAny_execs_nil ⟨σ,H,I,h⟩
theorem ai(h1:PS X st t)(h2:PSs X rest u):PSs X (st::rest) (aq t u):=by
  intro pins s σ H D I h
  refine wpAny_execs_cons (bm (h1 pins s σ H { D with nx:=u D } I h) fun f s1 q=>?_)
  cases f with
  | next=>
    obtain ⟨σ',H',I',q⟩:=q
    exact h2 pins s1 σ' H' D I' q
  | ret v=>exact q
  | brk=>exact q
  | cont=>exact q
theorem aj(h1:PS X st t):PSs X [st] t:=by
  intro pins s σ H D I h
  refine wpAny_execs_cons (bm (h1 pins s σ H D I h) fun f s1 q=>?_)
  cases f with
  | next=>exact wpAny_execs_nil q
  | ret v=>exact q
  | brk=>exact q
  | cont=>exact q
theorem Inv.quiet{pins:List (Addr×Obj)}{σ:St}{H:Hp}{s:Shared}(I:Inv X pins σ H s):interactive X.env=false:=by simp [interactive,I.ok.kind]
def b1(te:TE):TS:=fun D σ H=>te σ H fun _ H1=>D.nx σ H1
theorem bu(he:PE X e te)(hs:swapsWith e none pos.line X.env=pure false:=by rfl):PS X (.Expr e pos) (b1 te):=by
  intro pins s σ H D I h
  exact wpAny_Expr_any (bm (he pins s σ H _ I h) fun v s1 ⟨x,H1,I1,r1,q1⟩=>⟨σ,H1,I1,q1⟩) I.quiet hs
def aC(te:TE):TS:=fun D σ H=>te σ H D.rt
theorem ao(he:PE X e te):PS X (.Return (some e) pos) (aC te):=by
  intro pins s σ H D I h
  exact wpAny_Return_some (bm (he pins s σ H _ I h) fun v s1 ⟨x,H1,I1,r1,q1⟩=>⟨x,σ,H1,I1,r1,q1⟩)
def aX(c:TT)(t u:TS):TS:=fun D σ H=>c σ H fun b H1=>if b=true then t D σ H1 else u D σ H1
theorem aO{c:Expr}{a b:List Stmt}{tc:TT}(hc:PT X c tc)(ha:PSs X a t)(hb:PSs X b u):PS X (.If c a b pos) (aX tc t u):=by
  intro pins s σ H D I h
  refine wpAny_If (bm (hc pins s σ H _ I h) fun d s1 ⟨H1,I1,q1⟩=>?_)
  cases d with
  | true=>exact ha pins s1 σ H1 D I1 q1
  | false=>exact hb pins s1 σ H1 D I1 q1
def wX:TS:=fun _ _ _=>False
theorem yX:PS X st wX:=fun _ _ _ _ _ _ h=>h.elim
end
abbrev TG:=V→St→Hp→(St→Hp→Prop)→Prop
def PG(X:Cx)(target:Expr)(t:TG):Prop:=
  ∀ (pins:List (Addr×Obj)) (s:Shared) (σ:St) (H:Hp) (v:V) (u:Value) (Q:St→Hp→Prop),Inv X pins σ H s→RelV v u→t v σ H Q→
    wpAny (model X.prog X.w) X.A (assign target X.env u) (fun _ s'=>∃ σ' H',Inv X pins σ' H' s'∧Q σ' H') X.xe s
abbrev ze:=V→V→Hp→VK→Prop
def Gv(X:Cx)(op:Operator)(t:ze):Prop:=
  ∀ (pins:List (Addr×Obj)) (s:Shared) (σ:St) (H:Hp) (x y:V) (v u:Value) (Q:VK),Inv X pins σ H s→RelV x v→RelV y u→t x y H Q→
    wpAny (model X.prog X.w) X.A (inplaceOp op v u) (EP X pins σ Q) X.xe s
section
variable {X:Cx}{pos:Pos}
def az(i:Nat):TG:=fun v σ H Q=>Q (σ.set i (some v)) H
theorem bq{i:Nat}{x:Str}(hN:X.N.Nodup)(hi:X.N[i]?=some x)(hx:ub X.env.scope x)(hf:X.fn x=true∨X.env.scope.names.lookup x=some .local:=by first | exact .inl rfl | exact .inr rfl | assumption):PG X (.Name x pos) (az i):=by
  intro pins s σ H v u Q I r h
  exact wpAny_assign_Name (mQ I hN hi hx r (fun s' I'=>⟨_,H,I',h⟩) hf)
def bg(te:TE)(g:TG):TS:=fun D σ H=>te σ H fun x H1=>g x σ H1 D.nx
theorem aN{i:Nat}{x:Str}{e:Expr}{te:TE}{pos':Pos}(hN:X.N.Nodup)(hi:X.N[i]?=some x)(hx:ub X.env.scope x)(he:PE X e te)(hs:swapsWith e (some (.Name x pos')) pos.line X.env=pure false:=by rfl)(hf:X.fn x=true∨X.env.scope.names.lookup x=some .local:=by first | exact .inl rfl | exact .inr rfl | assumption) :
    PS X (.Assign [.Name x pos'] e pos) (bg te (az i)):=by
  intro pins s σ H D I h
  refine wpAny_Assign_Name (bm (he pins s σ H _ I h) fun v s1 ⟨y,H1,I1,r1,q1⟩=>?_) hs
  exact mQ I1 hN hi hx r1 (fun s2 I2=>⟨_,H1,I2,q1⟩) hf
def A3(i:Nat)(te:TE)(ti:ze):TS:=fun D σ H=>∃ x,σ[i]?=some (some x)∧te σ H fun y H1=>ti x y H1 fun z H2=>D.nx (σ.set i (some z)) H2
theorem A9{i:Nat}{x:Str}{e:Expr}{te:TE}{op:Operator}{ti:ze}{pos':Pos}(hN:X.N.Nodup)(hi:X.N[i]?=some x)(hx:ub X.env.scope x)(he:PE X e te)(ho:Gv X op ti)(hf:X.fn x=true∨X.env.scope.names.lookup x=some .local:=by first | exact .inl rfl | exact .inr rfl | assumption) :
    PS X (.AugAssign (.Name x pos') op e pos) (A3 i te ti):=by
  intro pins s σ H D I h
  obtain ⟨v,e1,h⟩:=h
  obtain ⟨m,hn,hl⟩:=I.loc
  have vis:xh X.env.scope x:=by rcases hx with k | k;exact .inl k;exact .inr (.inl k)
  obtain ⟨u,r,l⟩:=hl i x v hi e1 vis
  refine wpAny_AugAssign_Name ?_
  have go:wpAny (model X.prog X.w) X.A (eval e X.env) (fun w s₂=>wpAny (model X.prog X.w) X.A (inplaceOp op u w) (fun r s₃=>wpAny (model X.prog X.w) X.A (storeName X.env x r) (fun _=>SP X pins D .next) X.xe s₃) X.xe s₂) X.xe s:=by
    refine bm (he pins s σ H _ I h) fun w s1 ⟨y,H1,I1,r1,q1⟩=>?_
    refine bm (ho pins s1 σ H1 v y u w _ I1 r r1 q1) fun z s2 ⟨zv,H2,I2,r2,q2⟩=>?_
    exact mQ I2 hN hi hx r2 (fun s3 I3=>⟨_,H2,I3,q2⟩) hf
  rcases l with ⟨hk,hm⟩ | ⟨hk,c,hc,hcell⟩
  · exact wpAny_loadName_local I.ok.kind hk hn hm go
  · rcases hk with hk | hk
    · exact wpAny_loadName_cell I.ok.kind hk hc hcell go
    · rcases hx with k | k
      · have:X.env.scope.names.lookup x=some .free:=hk
        rw [k] at this;cases this
      · have:X.env.scope.names.lookup x=some .free:=hk
        rw [k] at this;cases this
def Gx(f:Int→Int→Int):ze:=fun x y H Q=>∃ i j,x=.int i∧y=.int j∧Q (.int (f i j)) H
theorem Bv:Gv X .Add (Gx fun i j=>i+j):=by
  intro pins s σ H x y v u Q I r1 r2 h
  obtain ⟨i,j,e1,e2,q⟩:=h
  subst e1;subst e2
  obtain ⟨t,rfl⟩:=r1
  obtain ⟨t',rfl⟩:=r2
  exact iadd_int ⟨.int _,H,I.tok _,⟨_,rfl⟩,q⟩
end
section
variable {X:Cx}{pos:Pos}
def r8(c:TT)(tb:TS):TS:=fun D σ H=>∃ W:Nat→St→Hp→Prop,(∃ m,W m σ H)∧∀ m σ H,W m σ H→
  c σ H fun b H1=>if b=true then ∃ N:St→Hp→Prop,(∀ σ' H',N σ' H'→∃ m',m'<m∧W m' σ' H')∧tb { D with nx:=N,ct:=N,bk:=D.nx } σ H1 else D.nx σ H1
theorem sZ{c:Expr}{body:List Stmt}{tc:TT}{tb:TS}(hp:PassesOwn (model X.prog X.w) X.A X.env X.xe)(hc:PT X c tc)(hb:PSs X body tb):PS X (.While c body [] pos) (r8 tc tb):=by
  intro pins s σ H D I h
  obtain ⟨W,⟨m0,w0⟩,turn⟩:=h
  refine wpAny_While (codeAny_whileLoop (fun n s'=>∃ σ' H',Inv X pins σ' H' s'∧W n σ' H') ?_ m0 ⟨σ,H,I,w0⟩)
  rintro n s1 ⟨σ1,H1,I1,w1⟩
  refine wpAny_passesOwn hp (bm (hc pins s1 σ1 H1 _ I1 (turn n σ1 H1 w1)) fun b s2 ⟨H2,I2,q2⟩=>?_)
  cases b with
  | true=>
    obtain ⟨N,hN,q2⟩:=q2
    rw [if_pos rfl]
    refine wpAny_passesOwn hp (bm (hb pins s2 σ1 H2 _ I2 q2) fun f s3 q3=>?_)
    cases f with
    | next=>
      obtain ⟨σ3,H3,I3,n3⟩:=q3
      obtain ⟨m',hm,w3⟩:=hN σ3 H3 n3
      exact ⟨m',hm,σ3,H3,I3,w3⟩
    | cont=>
      obtain ⟨σ3,H3,I3,n3⟩:=q3
      obtain ⟨m',hm,w3⟩:=hN σ3 H3 n3
      exact ⟨m',hm,σ3,H3,I3,w3⟩
    | brk=>exact q3
    | ret v=>exact q3
  | false=>
    rw [if_neg lau]
    exact wpAny_execs_nil ⟨σ1,H2,I2,q2⟩
end
structure It where
  go:Nat→Hp→Prop
  yld:Nat→Hp→V→Hp→Prop
  stop:Nat→Hp→Prop
def iQ(X:Cx)(pins:List (Addr×Obj))(H:Hp)(b:Addr):Prop:=
  H b=none∧b≠X.env.locals∧b∉X.fs∧(b∈X.ex∨X.s₀.heap.objs.size≤b)∧(∀ x c,X.env.cells.lookup x=some c→c≠b)∧∀ p∈X.pn++pins,p.1≠b
theorem Inv.fpOk{X:Cx}{pins:List (Addr×Obj)}{σ:St}{H H':Hp}{s:Shared}{b:Addr}(I:Inv X pins σ H s)(hb:s.heap.objs.size≤b)(hn:H' b=none):iQ X pins H' b:=by
  refine ⟨hn,Nat.ne_of_gt (lav I.lt hb),I.nofs hb,.inr (las I.sz hb),fun x c e z=>?_,fun p hp z=>?_⟩
  · obtain ⟨v,q⟩:=I.cell x c e
    exact absurd (lav q.lt (by rw [z];exact hb)) (Nat.lt_irrefl _)
  · exact absurd (lav (Heap.lt_size (I.pin p hp).1) (by rw [z];exact hb)) (Nat.lt_irrefl _)
structure qX(P:Program)(w:World)(K:PySem.W.Frag)(tg:Expr)(J:It)(fp:List Addr)(it:Addr)(tn:Nat→Heap→Prop):Prop where
  mem:it∈fp
  obj:∀ i h,tn i h→∀ b∈fp,∃ o,h.get? b=some o∧∀ v,o.data≠.cell v
  keep:∀ i h h',tn i h→(∀ b∈fp,∀ o,h.get? b=some o→h'.get? b=some o)→tn i h'
  item:∀ (X:Cx),X.prog=P→X.w=w→X.K=K→X.calm=true→∀ (i:Nat) (pins:List (Addr×Obj)) (s:Shared) (σ:St) (H:Hp) (E:Value→Shared→Prop),Inv X pins σ H s→(∀ b∈fp,iQ X pins H b)→tn i s.heap→J.go i H→
    wpAny (model P w) X.A (pyNext (.ref it)) (fun r s1=>∃ u,r=some u∧
      wpAny (model P w) X.A (letOwnedTupleGo tg (.ref it) u) (fun _ s2=>∃ x H',Inv X pins σ H' s2∧RelV x u∧J.yld i H x H'∧tn (i+1) s2.heap∧∀ b∈fp,H' b=none) E s1) E s
  done:∀ (X:Cx),X.prog=P→X.w=w→X.K=K→X.calm=true→∀ (i:Nat) (pins:List (Addr×Obj)) (s:Shared) (σ:St) (H:Hp) (E:Value→Shared→Prop),Inv X pins σ H s→(∀ b∈fp,iQ X pins H b)→tn i s.heap→J.stop i H→
    wpAny (model P w) X.A (pyNext (.ref it)) (fun r s1=>r=none∧Inv X pins σ H s1) E s
  self:∀ (A:Around) (i:Nat) (s:Shared) (Q:Value→Shared→Prop) (E:Value→Shared→Prop),tn i s.heap→Q (.ref it) s→wpAny (model P w) A (pyIter (.ref it)) Q E s
abbrev TI:=St→Hp→(It→Hp→Prop)→Prop
def Gs(X:Cx)(pins:List (Addr×Obj))(σ:St)(tg:Expr)(R:It→Hp→Prop)(itv:Value)(s2:Shared):Prop:=
  ∃ (it:Addr) (fp:List Addr) (tn:Nat→Heap→Prop) (J:It) (H':Hp),itv=.ref it∧Inv X pins σ H' s2∧qX X.prog X.w X.K tg J fp it tn∧tn 0 s2.heap∧(∀ b∈fp,iQ X pins H' b)∧R J H'
def PI(X:Cx)(tg iter:Expr)(wi:TI):Prop:=
  ∀ (pins:List (Addr×Obj)) (s:Shared) (σ:St) (H:Hp) (R:It→Hp→Prop),Inv X pins σ H s→wi σ H R→
    wpAny (model X.prog X.w) X.A (eval iter X.env) (fun v s1=>wpAny (model X.prog X.w) X.A (pyIter v) (Gs X pins σ tg R) X.xe s1) X.xe s
theorem wA{M:Model}{A:Around}{E:Value→Shared→Prop}{s:Shared}{tg:Expr}{it:Addr}{u:Value}{o:Obj}{n:String}{vs:Array Value}{Q:Unit→Shared→Prop}(ho:s.heap.get? it=some o)(hc:o.cls=.type n)(hd:o.data=.fields vs)
    (hn:["enumerate","zip","dict_itemiterator","dict_reverseitemiterator","odict_iterator","itertools.zip_longest","itertools.pairwise"].contains n=false)(hQ:Q () s):wpAny M A (letOwnedTupleGo tg (.ref it) u) Q E s:=by
  unfold letOwnedTupleGo
  cases tg <;> first
    | exact wpAny_pure hQ
    | (cases u <;> first
        | exact wpAny_pure hQ
        | (refine wpAny_bind (wpAny_load ho ?_)
           rw [hc,hd]
           show wpAny M A (if (["enumerate","zip","dict_itemiterator","dict_reverseitemiterator","odict_iterator","itertools.zip_longest","itertools.pairwise"].contains n&&vs[0]?==some (rawInt _))=true then _ else _) Q E s
           rw [if_neg (by intro h;rw [hn,Bool.false_and] at h;cases h)]
           exact wpAny_pure hQ))
def sn(K:PySem.W.Frag)(a:Addr):It:=
  ⟨fun i H=>∃ xs x,SqL K H a xs∧xs[i]?=some x,fun i H x H'=>H'=H∧∀ xs,SqL K H a xs→xs[i]?=some x,fun i H=>∃ xs,SqL K H a xs∧xs.length≤i⟩
def wO(K:PySem.W.Frag)(a:Addr):It:=
  ⟨fun i H=>∃ xs x,fE K H a xs∧xs[i]?=some x,fun i H x H'=>H'=H∧∀ xs,fE K H a xs→xs[i]?=some x,fun i H=>∃ xs,fE K H a xs∧xs.length≤i⟩
def pN(lo:Int)(n:Nat):It:=⟨fun i _=>i<n,fun i H x H'=>H'=H∧x=.int (lo+i),fun i _=>n≤i⟩
theorem wH{P:Program}{w:World}{K:PySem.W.Frag}{tg:Expr}(a it:Addr):qX P w K tg (sn K a) [it] it (fun i h=>h.IsListIter it a i) where
  mem:=by simp
  obj:=fun i h st b hb=>by
    have e:b=it:=by simpa using hb
    subst e
    obtain ⟨o,e,c,d⟩:=st
    exact ⟨o,e,fun v z=>by rw [d] at z;cases z⟩
  keep:=fun i h h' st k=>st.at fun o e=>k it (by simp) o e
  item:=by
    intro X hP hw hK hc i pins s σ H E I hf st hg
    subst hP hw hK
    obtain ⟨xs,x,hq,hx⟩:=hg
    obtain ⟨its,rv,p,hz⟩:=I.list hq
    obtain ⟨u,hu,ru⟩:=rv.get hx
    obtain ⟨f0,f1,f2,f3,f4,f5⟩:=hf it (by simp)
    refine wpAny_pyNext_list_item st p.isList (x:=u) (by simpa using hu) fun h' st' sb=>?_
    have I1:Inv X pins σ H { s with heap:=h' }:=I.turned (t':=s.toks) (fun b o hb e=>(sb.2 b hb).trans e) f0 f1 f3 f4 f5
    obtain ⟨o,e,c,d⟩:=id st'
    exact ⟨u,rfl,wA (s:={ s with heap:=h' }) e c d (by decide) ⟨x,H,I1,ru,⟨rfl,fun ys hy=>by rw [I.list_inj hy hq];exact hx⟩,st',fun b hb=>(hf b hb).1⟩⟩
  done:=by
    intro X hP hw hK hc i pins s σ H E I hf st hg
    subst hP hw hK
    obtain ⟨xs,hq,hx⟩:=hg
    obtain ⟨its,rv,p,hz⟩:=I.list hq
    obtain ⟨f0,f1,f2,f3,f4,f5⟩:=hf it (by simp)
    have hl:=rv.length
    exact wpAny_pyNext_list_end (I.ok.hd hc) st p.isList (by simp;omega) fun h' eb=>⟨rfl,I.turned (t':=s.toks) (fun b o hb e=>eb b o hb e) f0 f1 f3 f4 f5⟩
  self:=fun _ _ _ _ _ st h=>wpAny_pyIter_listiter st h
theorem v8{P:Program}{w:World}{K:PySem.W.Frag}{tg:Expr}(a it:Addr):qX P w K tg (wO K a) [it] it (fun i h=>h.IsTupleIter it a i) where
  mem:=by simp
  obj:=fun i h st b hb=>by
    have e:b=it:=by simpa using hb
    subst e
    obtain ⟨o,e,c,d⟩:=st
    exact ⟨o,e,fun v z=>by rw [d] at z;cases z⟩
  keep:=fun i h h' st k=>st.at fun o e=>k it (by simp) o e
  item:=by
    intro X hP hw hK hc i pins s σ H E I hf st hg
    subst hP hw hK
    obtain ⟨xs,x,hq,hx⟩:=hg
    obtain ⟨its,rv,p,hz⟩:=I.tuple hq
    obtain ⟨u,hu,ru⟩:=rv.get hx
    obtain ⟨f0,f1,f2,f3,f4,f5⟩:=hf it (by simp)
    refine wpAny_pyNext_tuple_item st (show s.heap.IsTuple a its.toArray from p) (x:=u) (by simpa using hu) fun h' st' sb=>?_
    have I1:Inv X pins σ H { s with heap:=h' }:=I.turned (t':=s.toks) (fun b o hb e=>(sb.2 b hb).trans e) f0 f1 f3 f4 f5
    obtain ⟨o,e,c,d⟩:=id st'
    exact ⟨u,rfl,wA (s:={ s with heap:=h' }) e c d (by decide) ⟨x,H,I1,ru,⟨rfl,fun ys hy=>by rw [I.tuple_inj hy hq];exact hx⟩,st',fun b hb=>(hf b hb).1⟩⟩
  done:=by
    intro X hP hw hK hc i pins s σ H E I hf st hg
    subst hP hw hK
    obtain ⟨xs,hq,hx⟩:=hg
    obtain ⟨its,rv,p,hz⟩:=I.tuple hq
    obtain ⟨f0,f1,f2,f3,f4,f5⟩:=hf it (by simp)
    have hl:=rv.length
    exact wpAny_pyNext_tuple_end (I.ok.hd hc) st (show s.heap.IsTuple a its.toArray from p) (by simp;omega) fun h' eb=>⟨rfl,I.turned (t':=s.toks) (fun b o hb e=>eb b o hb e) f0 f1 f3 f4 f5⟩
  self:=fun _ _ _ _ _ st h=>wpAny_pyIter_tupleiter st h
theorem wF{P:Program}{w:World}{K:PySem.W.Frag}{tg:Expr}(it:Addr)(lo:Int)(n:Nat):qX P w K tg (pN lo n) [it] it (fun i h=>IsRangeIter h it (lo+(i:Nat)*1) ((n:Int) - (i:Nat)) 1) where
  mem:=by simp
  obj:=fun i h st b hb=>by
    have e:b=it:=by simpa using hb
    subst e
    exact ⟨_,st,fun v z=>by
      have z':Data.fields _=Data.cell v:=z
      cases z'⟩
  keep:=fun i h h' st k=>k it (by simp) _ st
  item:=by
    intro X hP hw hK hc i pins s σ H E I hf st hg
    subst hP hw hK
    obtain ⟨f0,f1,f2,f3,f4,f5⟩:=hf it (by simp)
    have W:=Walks.range (prog:=X.prog) (w:=X.w) (I.ok.hd hc) it lo 1 n
    refine W.item i s _ _ hg st fun v h' tk hv st' kk=>?_
    obtain ⟨t,rfl⟩:=hv
    have I1:Inv X pins σ H { s with heap:=h',toks:=tk }:=I.turned (fun b o hb e=>kk b o (by simpa using hb) e) f0 f1 f3 f4 f5
    refine ⟨_,rfl,wA (s:={ s with heap:=h',toks:=tk }) (n:="range_iterator") st' rfl rfl (by decide) ⟨.int (lo+i),H,I1,⟨t,?_⟩,⟨rfl,rfl⟩,st',fun b hb=>(hf b hb).1⟩⟩
    rw [Int.mul_one]
  done:=by
    intro X hP hw hK hc i pins s σ H E I hf st hg
    subst hP hw hK
    obtain ⟨f0,f1,f2,f3,f4,f5⟩:=hf it (by simp)
    exact wpAny_pyNext_range_end (I.ok.hd hc) st (by have:n≤i:=hg;omega) fun h' eb=>⟨rfl,I.turned (t':=s.toks) (fun b o hb e=>eb b o hb e) f0 f1 f3 f4 f5⟩
  self:=fun _ _ _ _ _ st h=>wpAny_pyIter_rangeiter st h
end L2
namespace L2
open PySem PySem.Spec PyProof.Rows
section
variable {X:Cx}{tg:Expr}
def cP(K:PySem.W.Frag)(tl:TE):TI:=fun σ H R=>tl σ H fun x H1=>∃ a,x=.ref a∧(∃ xs,SqL K H1 a xs)∧R (sn K a) H1
def AL(K:PySem.W.Frag)(tl:TE):TI:=fun σ H R=>tl σ H fun x H1=>∃ a,x=.ref a∧(∃ xs,fE K H1 a xs)∧R (wO K a) H1
theorem b6{l:Expr}{tl:TE}(hl:PE X l tl):PI X tg l (cP X.K tl):=by
  intro pins s σ H R I h
  refine bm (hl pins s σ H _ I h) fun v s1 ⟨x,H1,I1,r1,q1⟩=>?_
  obtain ⟨a,e,⟨xs,hq⟩,q⟩:=q1
  subst e
  cases r1
  obtain ⟨its,rv,p,hz⟩:=I1.list hq
  refine wpAny_pyIter_list p.isList ?_
  refine ⟨s1.heap.objs.size,[s1.heap.objs.size],_,_,H1,rfl,I1.kept (t':=s1.toks) fun b o e=>Heap.get?_push_of_some _ e,wH a _,⟨_,Heap.get?_push_size _ rfl,rfl,rfl⟩,fun b hb=>?_,q⟩
  have e:b=s1.heap.objs.size:=by simpa using hb
  subst e
  exact I1.fpOk (lat _) (I1.hok.fresh (lat _))
theorem Au{l:Expr}{tl:TE}(hl:PE X l tl):PI X tg l (AL X.K tl):=by
  intro pins s σ H R I h
  refine bm (hl pins s σ H _ I h) fun v s1 ⟨x,H1,I1,r1,q1⟩=>?_
  obtain ⟨a,e,⟨xs,hq⟩,q⟩:=q1
  subst e
  cases r1
  obtain ⟨its,rv,p,hz⟩:=I1.tuple hq
  refine wpAny_pyIter_tuple (show s1.heap.IsTuple a its.toArray from p) ?_
  refine ⟨s1.heap.objs.size,[s1.heap.objs.size],_,_,H1,rfl,I1.kept (t':=s1.toks) fun b o e=>Heap.get?_push_of_some _ e,v8 a _,⟨_,Heap.get?_push_size _ rfl,rfl,rfl⟩,fun b hb=>?_,q⟩
  have e:b=s1.heap.objs.size:=by simpa using hb
  subst e
  exact I1.fpOk (lat _) (I1.hok.fresh (lat _))
theorem y0{pins:List (Addr×Obj)}{σ:St}{H:Hp}{s:Shared}{R:It→Hp→Prop}{E:Value→Shared→Prop}{lo hi:Int}{t u v:Tok}{tk:Nat}(I:Inv X pins σ H s)(h1:-(2 ^ 62)≤lo)(h2:lo<2 ^ 62)(h3:-(2 ^ 62)≤hi)(h4:hi<2 ^ 62)
    (q:R (pN lo (hi - lo).toNat) H):wpAny (model X.prog X.w) X.A (pyIter (.ref s.heap.objs.size)) (Gs X pins σ tg R) E { s with heap:=s.heap.push { cls:=.type "range",data:=.fields #[.int lo t,.int hi u,.int 1 v] },toks:=tk }:=by
  refine wpAny_pyIter_range (IsRange.new ..) (small_one h1 h2 h3 h4) ?_
  have I1:Inv X pins σ H { s with heap:=s.heap.push { cls:=.type "range",data:=.fields #[.int lo t,.int hi u,.int 1 v] },toks:=tk }:=I.kept fun b o e=>Heap.get?_push_of_some _ e
  refine ⟨(s.heap.push { cls:=.type "range",data:=.fields #[.int lo t,.int hi u,.int 1 v] }).objs.size,[(s.heap.push { cls:=.type "range",data:=.fields #[.int lo t,.int hi u,.int 1 v] }).objs.size],_,_,H,rfl,
    I1.kept (t':=tk) fun b o e=>Heap.get?_push_of_some _ e,wF _ lo (hi - lo).toNat,?_,fun b hb=>?_,q⟩
  · have e1:lo+((0:Nat):Int)*1=lo:=by simp
    have e2:(((hi - lo).toNat:Nat):Int) - ((0:Nat):Int)=Builtin.Range.rangeSize lo hi 1:=by rw [rangeSize_one];split <;> omega
    show IsRangeIter _ _ (lo+((0:Nat):Int)*1) ((((hi - lo).toNat:Nat):Int) - ((0:Nat):Int)) 1
    rw [e1,e2]
    exact Heap.get?_push_size _ rfl
  · have e:b=(s.heap.push { cls:=.type "range",data:=.fields #[.int lo t,.int hi u,.int 1 v] }).objs.size:=by simpa using hb
    subst e
    exact I1.fpOk (lat _) (I1.hok.fresh (lat _))
def en(ta:TA):TI:=fun σ H R=>ta σ H fun vs H1=>∃ j:Int,vs=[.int j]∧-(2 ^ 62)≤j∧j<2 ^ 62∧R (pN 0 j.toNat) H1
theorem cN{a:Expr}{ta:TA}{p pos:Pos}(hg:Gl X "range")(hm:X.mg "range"=none)(ha:PA X [a] ta)(hs:starEach [a] X.env=[(false,eval a X.env)]:=by rfl):PI X tg (.Call (.Name "range" p) [a] [] pos) (en ta):=by
  intro pins s σ H R I h
  refine Call_ (nZ I hg hm boot_range (PyProof.Rows.callWith_type1 (bm (ha pos pins s σ H _ I h) fun us s1 ⟨vs,H1,I1,r1,q1⟩=>?_) hs rfl))
  obtain ⟨j,e,q1,q2,q⟩:=q1
  subst e
  cases r1 with
  | cons r rr=>
    cases rr
    obtain ⟨t,rfl⟩:=r
    exact call_range_1 (y0 I1 (by omega) (by omega) q1 q2 (by simpa using q))
def ei(wi:TI)(g:TG)(tb:TS):TS:=fun D σ H=>wi σ H fun J H1=>∃ W:Nat→Nat→St→Hp→Prop,(∃ m,W 0 m σ H1)∧∀ i m σ H,W i m σ H→
  (J.stop i H∧D.nx σ H)∨(J.go i H∧∃ N:St→Hp→Prop,(∀ σ' H',N σ' H'→∃ m',m'<m∧W (i+1) m' σ' H')∧∀ x H',J.yld i H x H'→g x σ H' fun σ2 H2=>tb { D with nx:=N,ct:=N,bk:=D.nx } σ2 H2)
def lD(fp:List Addr)(h:Heap):List (Addr×Obj):=fp.filterMap fun b=>(h.get? b).map fun o=>(b,o)
theorem iC{fp:List Addr}{h:Heap}{b:Addr}{o:Obj}(hb:b∈fp)(e:h.get? b=some o):(b,o)∈lD fp h:=List.mem_filterMap.mpr ⟨b,hb,by rw [e];rfl⟩
theorem xD{fp:List Addr}{h:Heap}{p:Addr×Obj}(hp:p∈lD fp h):p.1∈fp∧h.get? p.1=some p.2:=by
  obtain ⟨b,hb,e⟩:=List.mem_filterMap.mp hp
  cases q:h.get? b with
  | none=>rw [q] at e;cases e
  | some o=>
    rw [q] at e
    have e':(b,o)=p:=lan e
    subst e'
    exact ⟨hb,q⟩
theorem Inv.pinned{pins:List (Addr×Obj)}{σ:St}{H:Hp}{s:Shared}{fp:List Addr}(I:Inv X pins σ H s)(hf:∀ b∈fp,iQ X pins H b)(ho:∀ b∈fp,∃ o,s.heap.get? b=some o∧∀ v,o.data≠.cell v):Inv X (pins++lD fp s.heap) σ H s:=
  I.pins_of fun p hp=>(lap.mp hp).elim (fun z=>I.pin p (lak _ z)) fun z=>by
    obtain ⟨hb,e⟩:=xD z
    obtain ⟨f0,f1,f2,_⟩:=hf p.1 hb
    obtain ⟨o,e',d⟩:=ho p.1 hb
    rw [e] at e';cases e'
    exact ⟨e,f0,f1,f2,d⟩
theorem Inv.unpinned{pins pl:List (Addr×Obj)}{σ:St}{H:Hp}{s:Shared}(I:Inv X (pins++pl) σ H s):Inv X pins σ H s:=I.pins_of fun p hp=>I.pin p (lak _ (lal _ hp))
theorem da{iter:Expr}{body:List Stmt}{wi:TI}{g:TG}{tb:TS}{pos:Pos}(hp:PassesOwn (model X.prog X.w) X.A X.env X.xe)(hc:X.calm=true)(hi:PI X tg iter wi)(hg:PG X tg g)(hb:PSs X body tb)
    (hs:∀ x,foldedSetIterable iter X.env x=pure x:=by intro _;rfl):PS X (.For tg iter body [] pos) (ei wi g tb):=by
  intro pins s σ H D I h
  refine wpAny_For (bm (hi pins s σ H _ I h) fun v s1 h1=>bm h1 fun itv s2 h2=>?_) hs
  obtain ⟨it,fp,tn,J,H2,e,I2,T,st2,f2,W,⟨m0,w0⟩,turn⟩:=h2
  subst e
  -- what stays true of the iterator's objects through the loop
  have stat:∀ {H':Hp},(∀ b∈fp,H' b=none)→∀ b∈fp,iQ X pins H' b:=fun hn b hb=>⟨hn b hb,(f2 b hb).2⟩
  refine codeAny_forLoop_any (fun n s'=>∃ i σ' H',Inv X pins σ' H' s'∧tn i s'.heap∧(∀ b∈fp,H' b=none)∧W i n σ' H') ?_ m0 ⟨0,σ,H2,I2,st2,fun b hb=>(f2 b hb).1,w0⟩
  rintro n s3 ⟨i,σ3,H3,I3,st3,fr3,w3⟩
  rcases turn i n σ3 H3 w3 with ⟨stop,qn⟩ | ⟨go,N,hN,step⟩
  · refine wpAny_passesOwn hp (bm (T.done X rfl rfl rfl hc i pins s3 σ3 H3 X.xe I3 (stat fr3) st3 stop) fun r s4 ⟨hr,I4⟩=>?_)
    subst hr
    exact wpAny_execs_nil ⟨σ3,H3,I4,qn⟩
  · refine wpAny_passesOwn hp (bm (T.item X rfl rfl rfl hc i pins s3 σ3 H3 X.xe I3 (stat fr3) st3 go) fun r s4 ⟨u,hr,h4⟩=>?_)
    subst hr
    refine wpAny_passesOwn hp (bm h4 fun _ s5 ⟨x,H5,I5,r5,y5,st5,fr5⟩=>?_)
    have I5':=I5.pinned (stat fr5) (T.obj _ _ st5)
    refine wpAny_passesOwn hp (bm (hg _ s5 σ3 H5 x u _ I5' r5 (step x H5 y5)) fun _ s6 ⟨σ6,H6,I6,q6⟩=>?_)
    refine wpAny_passesOwn hp (bm (hb _ s6 σ6 H6 _ I6 q6) fun f s7 q7=>?_)
    have again:∀ {σ7:St} {H7:Hp},Inv X (pins++lD fp s5.heap) σ7 H7 s7→N σ7 H7→∃ m,m<n∧∃ i σ' H',Inv X pins σ' H' s7∧tn i s7.heap∧(∀ b∈fp,H' b=none)∧W i m σ' H':=fun {σ7 H7} I7 n7=>by
      obtain ⟨m',hm,w7⟩:=hN σ7 H7 n7
      refine ⟨m',hm,i+1,σ7,H7,I7.unpinned,T.keep _ _ _ st5 fun b hb o e=>(I7.pin (b,o) (lak _ (lak _ (iC hb e)))).1,fun b hb=>?_,w7⟩
      obtain ⟨o,e,d⟩:=T.obj _ _ st5 b hb
      exact (I7.pin (b,o) (lak _ (lak _ (iC hb e)))).2.1
    cases f with
    | next=>obtain ⟨σ7,H7,I7,n7⟩:=q7;exact again I7 n7
    | cont=>obtain ⟨σ7,H7,I7,n7⟩:=q7;exact again I7 n7
    | brk=>obtain ⟨σ7,H7,I7,q7⟩:=q7;exact ⟨σ7,H7,I7.unpinned,q7⟩
    | ret v=>obtain ⟨x7,σ7,H7,I7,r7,q7⟩:=q7;exact ⟨x7,σ7,H7,I7.unpinned,r7,q7⟩
end
theorem d3{K:PySem.W.Frag}{a:Addr}{xs:List V}{g:TG}{tb:TS}{D:iu}{σ:St}{H:Hp}(Pv:Nat→St→Hp→Prop)(h0:Pv 0 σ H)(hl:∀ i σ H,i≤xs.length→Pv i σ H→SqL K H a xs)
    (hs:∀ i x σ H,xs[i]?=some x→Pv i σ H→g x σ H fun σ2 H2=>tb { D with nx:=Pv (i+1),ct:=Pv (i+1),bk:=D.nx } σ2 H2)(hd:∀ σ H,Pv xs.length σ H→D.nx σ H) :
    ∃ W:Nat→Nat→St→Hp→Prop,(∃ m,W 0 m σ H)∧∀ i m σ H,W i m σ H→
      ((sn K a).stop i H∧D.nx σ H)∨((sn K a).go i H∧∃ N:St→Hp→Prop,(∀ σ' H',N σ' H'→∃ m',m'<m∧W (i+1) m' σ' H')∧∀ x H',(sn K a).yld i H x H'→g x σ H' fun σ2 H2=>tb { D with nx:=N,ct:=N,bk:=D.nx } σ2 H2):=by
  refine ⟨fun i m σ H=>m=xs.length - i∧i≤xs.length∧Pv i σ H,⟨xs.length,by simp,laI _,h0⟩,?_⟩
  rintro i m σ H ⟨rfl,hi,p⟩
  have q:=hl i σ H hi p
  by_cases hlt:i<xs.length
  · refine .inr ⟨⟨xs,xs[i],q,by simp [hlt]⟩,Pv (i+1),fun σ' H' p'=>⟨xs.length - (i+1),by omega,rfl,hlt,p'⟩,fun x H' y=>?_⟩
    obtain ⟨e,y⟩:=y
    subst e
    exact hs i x σ _ (y xs q) p
  · have e:i=xs.length:=by omega
    subst e
    exact .inl ⟨⟨xs,q,lat _⟩,hd σ H p⟩
theorem zH{K:PySem.W.Frag}{a:Addr}{xs:List V}{g:TG}{tb:TS}{D:iu}{σ:St}{H:Hp}(Pv:Nat→St→Hp→Prop)(h0:Pv 0 σ H)(hl:∀ i σ H,i≤xs.length→Pv i σ H→fE K H a xs)
    (hs:∀ i x σ H,xs[i]?=some x→Pv i σ H→g x σ H fun σ2 H2=>tb { D with nx:=Pv (i+1),ct:=Pv (i+1),bk:=D.nx } σ2 H2)(hd:∀ σ H,Pv xs.length σ H→D.nx σ H) :
    ∃ W:Nat→Nat→St→Hp→Prop,(∃ m,W 0 m σ H)∧∀ i m σ H,W i m σ H→
      ((wO K a).stop i H∧D.nx σ H)∨((wO K a).go i H∧∃ N:St→Hp→Prop,(∀ σ' H',N σ' H'→∃ m',m'<m∧W (i+1) m' σ' H')∧∀ x H',(wO K a).yld i H x H'→g x σ H' fun σ2 H2=>tb { D with nx:=N,ct:=N,bk:=D.nx } σ2 H2):=by
  refine ⟨fun i m σ H=>m=xs.length - i∧i≤xs.length∧Pv i σ H,⟨xs.length,by simp,laI _,h0⟩,?_⟩
  rintro i m σ H ⟨rfl,hi,p⟩
  have q:=hl i σ H hi p
  by_cases hlt:i<xs.length
  · refine .inr ⟨⟨xs,xs[i],q,by simp [hlt]⟩,Pv (i+1),fun σ' H' p'=>⟨xs.length - (i+1),by omega,rfl,hlt,p'⟩,fun x H' y=>?_⟩
    obtain ⟨e,y⟩:=y
    subst e
    exact hs i x σ _ (y xs q) p
  · have e:i=xs.length:=by omega
    subst e
    exact .inl ⟨⟨xs,q,lat _⟩,hd σ H p⟩
theorem eQ{lo:Int}{n:Nat}{g:TG}{tb:TS}{D:iu}{σ:St}{H:Hp}(Pv:Nat→St→Hp→Prop)(h0:Pv 0 σ H)
    (hs:∀ i σ H,i<n→Pv i σ H→g (.int (lo+i)) σ H fun σ2 H2=>tb { D with nx:=Pv (i+1),ct:=Pv (i+1),bk:=D.nx } σ2 H2)(hd:∀ σ H,Pv n σ H→D.nx σ H) :
    ∃ W:Nat→Nat→St→Hp→Prop,(∃ m,W 0 m σ H)∧∀ i m σ H,W i m σ H→
      ((pN lo n).stop i H∧D.nx σ H)∨((pN lo n).go i H∧∃ N:St→Hp→Prop,(∀ σ' H',N σ' H'→∃ m',m'<m∧W (i+1) m' σ' H')∧∀ x H',(pN lo n).yld i H x H'→g x σ H' fun σ2 H2=>tb { D with nx:=N,ct:=N,bk:=D.nx } σ2 H2):=by
  refine ⟨fun i m σ H=>m=n - i∧i≤n∧Pv i σ H,⟨n,by simp,laI _,h0⟩,?_⟩
  rintro i m σ H ⟨rfl,hi,p⟩
  by_cases hlt:i<n
  · refine .inr ⟨hlt,Pv (i+1),fun σ' H' p'=>⟨n - (i+1),by omega,rfl,hlt,p'⟩,fun x H' y=>?_⟩
    obtain ⟨e,y⟩:=y
    subst e y
    exact hs i σ _ hlt p
  · have e:i=n:=by omega
    subst e
    exact .inl ⟨lat _,hd σ H p⟩
end L2
namespace L2
open PySem PySem.Spec PyProof.Rows
abbrev R2:=V→V→Hp→VK→Prop
def eU(X:Cx)(f:Value→Value→Sem Value)(r:R2):Prop:=
  ∀ (pins:List (Addr×Obj)) (s:Shared) (σ:St) (H:Hp) (x y:V) (v u:Value) (Q:VK),Inv X pins σ H s→RelV x v→RelV y u→r x y H Q→
    wpAny (model X.prog X.w) X.A (f v u) (EP X pins σ Q) X.xe s
def Bl(X:Cx)(f:Value→Sem Value)(r:V→Hp→VK→Prop):Prop:=
  ∀ (pins:List (Addr×Obj)) (s:Shared) (σ:St) (H:Hp) (x:V) (v:Value) (Q:VK),Inv X pins σ H s→RelV x v→r x H Q→
    wpAny (model X.prog X.w) X.A (f v) (EP X pins σ Q) X.xe s
def gG(X:Cx)(f:Value)(r:List V→Hp→VK→Prop):Prop:=
  ∀ (pins:List (Addr×Obj)) (s:Shared) (σ:St) (H:Hp) (xs:List V) (us:List Value) (Q:VK),Inv X pins σ H s→Vals xs us→r xs H Q→
    wpAny (model X.prog X.w) X.A (call f us) (EP X pins σ Q) X.xe s
def ap(r:R2)(ta tb:TE):TE:=fun σ H Q=>ta σ H fun x H1=>tb σ H1 fun y H2=>r x y H2 Q
def A8(r:V→Hp→VK→Prop)(ta:TE):TE:=fun σ H Q=>ta σ H fun x H1=>r x H1 Q
def rI(C:Int→Int→Prop)(g:Int→Int→V):R2:=fun x y H Q=>∃ i j,x=.int i∧y=.int j∧C i j∧Q (g i j) H
def iT(g:Int→Int→V):R2:=fun x y H Q=>∃ i j,x=.int i∧y=.int j∧Q (g i j) H
def rU(g:Int→V):V→Hp→VK→Prop:=fun x H Q=>∃ i,x=.int i∧Q (g i) H
section
variable {X:Cx}{a b c:Expr}{ta tb tc:TE}{pos:Pos}
theorem xS(ha:PE X a ta)(hb:PE X b tb){pins:List (Addr×Obj)}{s:Shared}{σ:St}{H:Hp}{R:V→V→Hp→Prop}(I:Inv X pins σ H s)
    (h:ta σ H fun x H1=>tb σ H1 fun y H2=>R x y H2){Q:Value→Shared→Prop}{f:Value→Value→Sem Value}
    (hf:∀ v u s2 x y H2,Inv X pins σ H2 s2→RelV x v→RelV y u→R x y H2→wpAny (model X.prog X.w) X.A (f v u) Q X.xe s2) :
    wpAny (model X.prog X.w) X.A (eval a X.env) (fun v s₁=>wpAny (model X.prog X.w) X.A (eval b X.env) (fun u s₂=>wpAny (model X.prog X.w) X.A (f v u) Q X.xe s₂) X.xe s₁) X.xe s:=by
  refine bm (ha pins s σ H _ I h) fun v s1 ⟨x,H1,I1,r1,q1⟩=>?_
  refine bm (hb pins s1 σ H1 _ I1 q1) fun u s2 ⟨y,H2,I2,r2,q2⟩=>?_
  exact hf v u s2 x y H2 I2 r1 r2 q2
theorem aW{op:Operator}{r:R2}(ho:eU X (binaryOp op) r)(ha:PE X a ta)(hb:PE X b tb):PE X (.BinOp a op b pos) (ap r ta tb):=by
  intro pins s σ H Q I h
  exact wpAny_BinOp (xS ha hb I h fun v u s2 x y H2 I2 rx ry q=>ho pins s2 σ H2 x y v u Q I2 rx ry q)
theorem E3{op:UnaryOp}{r:V→Hp→VK→Prop}(ho:Bl X (unaryOp op) r)(ha:PE X a ta):PE X (.UnaryOp op a pos) (A8 r ta):=by
  intro pins s σ H Q I h
  exact UnaryOp_ (bm (ha pins s σ H _ I h) fun v s1 ⟨x,H1,I1,r1,q1⟩=>ho pins s1 σ H1 x v Q I1 r1 q1)
theorem B'{f:Value→Value→Sem Value}{C:Int→Int→Prop}{g:Int→Int→Int}
    (rule:∀ (i j:Int) (t u:Tok) (s:Shared) (Q:Value→Shared→Prop) (E:Value→Shared→Prop),C i j→Q (.int (g i j) s.toks) { s with toks:=s.toks+1 }→wpAny (model X.prog X.w) X.A (f (.int i t) (.int j u)) Q E s) :
    eU X f (rI C fun i j=>.int (g i j)):=by
  intro pins s σ H x y v u Q I rx ry h
  obtain ⟨i,j,rfl,rfl,hc,q⟩:=h
  obtain ⟨t,rfl⟩:=rx
  obtain ⟨t',rfl⟩:=ry
  exact rule i j t t' s _ _ hc ⟨.int (g i j),H,I.tok _,⟨_,rfl⟩,q⟩
theorem A'{f:Value→Value→Sem Value}{g:Int→Int→Int}
    (rule:∀ (i j:Int) (t u:Tok) (s:Shared) (Q:Value→Shared→Prop) (E:Value→Shared→Prop),Q (.int (g i j) s.toks) { s with toks:=s.toks+1 }→wpAny (model X.prog X.w) X.A (f (.int i t) (.int j u)) Q E s) :
    eU X f (iT fun i j=>.int (g i j)):=by
  intro pins s σ H x y v u Q I rx ry h
  obtain ⟨i,j,rfl,rfl,q⟩:=h
  obtain ⟨t,rfl⟩:=rx
  obtain ⟨t',rfl⟩:=ry
  exact rule i j t t' s _ _ ⟨.int (g i j),H,I.tok _,⟨_,rfl⟩,q⟩
theorem uH{f:Value→Value→Sem Value}{g:Int→Int→Bool}
    (rule:∀ (i j:Int) (t u:Tok) (s:Shared) (Q:Value→Shared→Prop) (E:Value→Shared→Prop),Q (.bool (g i j)) s→wpAny (model X.prog X.w) X.A (f (.int i t) (.int j u)) Q E s) :
    eU X f (iT fun i j=>.bl (g i j)):=by
  intro pins s σ H x y v u Q I rx ry h
  obtain ⟨i,j,rfl,rfl,q⟩:=h
  obtain ⟨t,rfl⟩:=rx
  obtain ⟨t',rfl⟩:=ry
  exact rule i j t t' s _ _ ⟨.bl (g i j),H,I,rfl,q⟩
def yg(i j:Int):Prop:=0<j∧j<1073741824
def CMul(i j:Int):Prop:=(-(2 ^ 64)<i∧i<2 ^ 64)∨(-(2 ^ 64)<j∧j<2 ^ 64)
theorem CMul.ok{i j:Int}(h:CMul i j):IntMulOk i j:=by
  rcases h with ⟨h1,h2⟩ | ⟨h1,h2⟩
  · exact .of_left (intBits_le_64 h1 h2)
  · exact .of_right (intBits_le_64 h1 h2)
theorem ik:eU X (binaryOp .Add) (iT fun i j=>.int (i+j)):=A' fun _ _ _ _ _ _ _ q=>add_int q
theorem xE:eU X (binaryOp .Sub) (iT fun i j=>.int (i - j)):=A' fun _ _ _ _ _ _ _ q=>sub_int q
theorem cK:eU X (binaryOp .Mult) (rI CMul fun i j=>.int (i*j)):=B' fun _ _ _ _ _ _ _ hc q=>mul_int q hc.ok
theorem mo:eU X (binaryOp .FloorDiv) (rI yg fun i j=>.int (i / j)):=B' fun i j _ _ _ _ _ hc q=>by
  have h1:(0:Int)<j:=hc.1
  have h2:j<1073741824:=hc.2
  exact floordiv_int (by omega) (by rw [Int.fdiv_eq_ediv_of_nonneg i (by omega)];exact q) (.inl (PyProof.noPylong_small (by omega)))
theorem bT:eU X (binaryOp .Mod) (rI (fun _ j=>0<j) fun i j=>.int (i % j)):=B' fun i j _ _ _ _ _ hc q=>by
  have h1:(0:Int)<j:=hc
  exact mod_int' (by omega) (by rw [Int.fmod_eq_emod_of_nonneg i (by omega)];exact q)
theorem Jd{f:Value→Sem Value}{g:Int→Int}
    (rule:∀ (i:Int) (t:Tok) (s:Shared) (Q:Value→Shared→Prop) (E:Value→Shared→Prop),Q (.int (g i) s.toks) { s with toks:=s.toks+1 }→wpAny (model X.prog X.w) X.A (f (.int i t)) Q E s) :
    Bl X f (rU fun i=>.int (g i)):=by
  intro pins s σ H x v Q I rx h
  obtain ⟨i,rfl,q⟩:=h
  obtain ⟨t,rfl⟩:=rx
  exact rule i t s _ _ ⟨.int (g i),H,I.tok _,⟨_,rfl⟩,q⟩
theorem AH:Bl X (unaryOp .USub) (rU fun i=>.int (-i)):=Jd fun _ _ _ _ _ q=>neg_int q
end
def sW:V→V→Bool
  | .non,.non=>true | .non,.int _=>true | .int _,.non=>true | .non,.bl _=>true | .bl _,.non=>true | .non,.str _=>true | .str _,.non=>true
  | .int _,.int _=>true | .bl _,.bl _=>true | .str _,.str _=>true | .byt _,.byt _=>true
  | .int _,.str _=>true | .str _,.int _=>true | .bl _,.str _=>true | .str _,.bl _=>true
  | _,_=>false
def cY:R2:=fun x y H Q=>sW x y=true∧Q (.bl (decide (x=y))) H
def jA:R2:=fun x y H Q=>sW x y=true∧Q (.bl (!decide (x=y))) H
theorem tS{i j:Int}:decide (V.int i=V.int j)=(i==j):=by
  rw [Bool.eq_iff_iff]
  simp
theorem wU{i j:Bool}:decide (V.bl i=V.bl j)=(i==j):=by
  rw [Bool.eq_iff_iff]
  simp
theorem uc{i j:Str}:decide (V.str i=V.str j)=(i==j):=by
  rw [Bool.eq_iff_iff]
  simp
theorem t_{i j:Array UInt8}:decide (V.byt i=V.byt j)=(i.toList==j.toList):=by
  rw [Bool.eq_iff_iff]
  cases i
  cases j
  simp
section
variable {X:Cx}{a b c:Expr}{ta tb tc:TE}{pos:Pos}
theorem bQ{pins:List (Addr×Obj)}{σ:St}{H:Hp}{s:Shared}{Q:VK}{k k':Bool}(I:Inv X pins σ H s)(q:Q (.bl k) H)(e:k=k'):EP X pins σ Q (.bool k') s:=by
  subst e
  exact ⟨.bl k,H,I,rfl,q⟩
theorem bY:eU X (compareOp .Eq) cY:=by
  intro pins s σ H x y v u Q I rx ry h
  obtain ⟨hs,q⟩:=h
  cases x with
  | non=>
    cases rx
    cases y with
    | non=>cases ry;exact PySem.EqNone.eq_none_none (bQ I q (by simp))
    | bl j=>cases ry;exact PySem.EqNone.eq_none_bool (bQ I q (by simp))
    | int j=>obtain ⟨t',rfl⟩:=ry;exact PySem.EqNone.eq_none_int (bQ I q (by simp))
    | str j=>obtain ⟨t',rfl⟩:=ry;exact PySem.EqNone.eq_none_str (bQ I q (by simp))
    | _=>exact absurd (show false=true from hs) lau
  | bl i=>
    cases rx
    cases y with
    | non=>cases ry;exact PySem.EqNone.eq_bool_none (bQ I q (by simp))
    | bl j=>cases ry;exact eq_bool (bQ I q wU)
    | str j=>obtain ⟨t',rfl⟩:=ry;exact PySem.EqMixed.eq_bool_str (bQ I q (by simp))
    | _=>exact absurd (show false=true from hs) lau
  | int i=>
    obtain ⟨t,rfl⟩:=rx
    cases y with
    | non=>cases ry;exact PySem.EqNone.eq_int_none (bQ I q (by simp))
    | int j=>obtain ⟨t',rfl⟩:=ry;exact eq_int (bQ I q tS)
    | str j=>obtain ⟨t',rfl⟩:=ry;exact PySem.EqMixed.eq_int_str (bQ I q (by simp))
    | _=>exact absurd (show false=true from hs) lau
  | str i=>
    obtain ⟨t,rfl⟩:=rx
    cases y with
    | non=>cases ry;exact PySem.EqNone.eq_str_none (bQ I q (by simp))
    | bl j=>cases ry;exact PySem.EqMixed.eq_str_bool (bQ I q (by simp))
    | int j=>obtain ⟨t',rfl⟩:=ry;exact PySem.EqMixed.eq_str_int (bQ I q (by simp))
    | str j=>obtain ⟨t',rfl⟩:=ry;exact eq_str (bQ I q uc)
    | _=>exact absurd (show false=true from hs) lau
  | byt i=>
    obtain ⟨t,rfl⟩:=rx
    cases y with
    | byt j=>obtain ⟨t',rfl⟩:=ry;exact PySem.W.eq_bytes (bQ I q t_)
    | _=>exact absurd (show false=true from hs) lau
  | _=>cases y <;> exact absurd (show false=true from hs) lau
theorem fN:eU X (compareOp .NotEq) jA:=by
  intro pins s σ H x y v u Q I rx ry h
  obtain ⟨hs,q⟩:=h
  cases x with
  | non=>
    cases rx
    cases y with
    | non=>cases ry;exact PySem.EqNone.ne_none_none (bQ I q (by simp))
    | bl j=>cases ry;exact PySem.EqNone.ne_none_bool (bQ I q (by simp))
    | int j=>obtain ⟨t',rfl⟩:=ry;exact PySem.EqNone.ne_none_int (bQ I q (by simp))
    | str j=>obtain ⟨t',rfl⟩:=ry;exact PySem.EqNone.ne_none_str (bQ I q (by simp))
    | _=>exact absurd (show false=true from hs) lau
  | bl i=>
    cases rx
    cases y with
    | non=>cases ry;exact PySem.EqNone.ne_bool_none (bQ I q (by simp))
    | bl j=>cases ry;exact ne_bool (bQ I q (congrArg not wU))
    | str j=>obtain ⟨t',rfl⟩:=ry;exact PySem.EqMixed.ne_bool_str (bQ I q (by simp))
    | _=>exact absurd (show false=true from hs) lau
  | int i=>
    obtain ⟨t,rfl⟩:=rx
    cases y with
    | non=>cases ry;exact PySem.EqNone.ne_int_none (bQ I q (by simp))
    | int j=>obtain ⟨t',rfl⟩:=ry;exact ne_int (bQ I q (congrArg not tS))
    | str j=>obtain ⟨t',rfl⟩:=ry;exact PySem.EqMixed.ne_int_str (bQ I q (by simp))
    | _=>exact absurd (show false=true from hs) lau
  | str i=>
    obtain ⟨t,rfl⟩:=rx
    cases y with
    | non=>cases ry;exact PySem.EqNone.ne_str_none (bQ I q (by simp))
    | bl j=>cases ry;exact PySem.EqMixed.ne_str_bool (bQ I q (by simp))
    | int j=>obtain ⟨t',rfl⟩:=ry;exact PySem.EqMixed.ne_str_int (bQ I q (by simp))
    | str j=>obtain ⟨t',rfl⟩:=ry;exact ne_str (bQ I q (congrArg not uc))
    | _=>exact absurd (show false=true from hs) lau
  | byt i=>
    obtain ⟨t,rfl⟩:=rx
    cases y with
    | byt j=>obtain ⟨t',rfl⟩:=ry;exact PySem.W.ne_bytes (bQ I q (congrArg not t_))
    | _=>exact absurd (show false=true from hs) lau
  | _=>cases y <;> exact absurd (show false=true from hs) lau
theorem kT:eU X (compareOp .Lt) (iT fun i j=>.bl (decide (i<j))):=uH fun _ _ _ _ _ _ _ q=>lt_int q
theorem zb:eU X (compareOp .LtE) (iT fun i j=>.bl (decide (i≤j))):=uH fun _ _ _ _ _ _ _ q=>le_int q
theorem kD:eU X (compareOp .Gt) (iT fun i j=>.bl (decide (j<i))):=uH fun _ _ _ _ _ _ _ q=>gt_int q
theorem De:eU X (compareOp .GtE) (iT fun i j=>.bl (decide (j≤i))):=uH fun _ _ _ _ _ _ _ q=>ge_int q
theorem aR(b:Expr){op:CmpOp}(h:op≠.In:=by decide)(h2:op≠.NotIn:=by decide):behindInMarks op b=false:=by
  have e1:(op==CmpOp.In)=false:=by cases op <;> first | rfl | exact absurd rfl h
  have e2:(op==CmpOp.NotIn)=false:=by cases op <;> first | rfl | exact absurd rfl h2
  cases b <;> simp [behindInMarks,e1,e2]
theorem dB{op:CmpOp}{r:R2}(ho:eU X (compareOp op) r)(ha:PE X a ta)(hb:PE X b tb)(hm:behindInMarks op b=false):PE X (.Compare a [op] [b] pos) (ap r ta tb):=by
  intro pins s σ H Q I h
  exact wpAny_Compare1 (xS ha hb I h fun v u s2 x y H2 I2 rx ry q=>ho pins s2 σ H2 x y v u Q I2 rx ry q) hm
def aZ(t:TE):TT:=fun σ H Q=>t σ H fun x H'=>∃ k,x=.bl k∧Q k H'
theorem aK{op:CmpOp}{r:R2}(ho:eU X (compareOp op) r)(ha:PE X a ta)(hb:PE X b tb)(hm:behindInMarks op b=false):PT X (.Compare a [op] [b] pos) (aZ (ap r ta tb)):=by
  intro pins s σ H Q I h
  refine wpAny_isTrue_Compare1 (bm (ha pins s σ H _ I h) fun v s1 ⟨x,H1,I1,r1,q1⟩=>bm (hb pins s1 σ H1 _ I1 q1) fun u s2 ⟨y,H2,I2,r2,q2⟩=>
    bm (ho pins s2 σ H2 x y v u _ I2 r1 r2 q2) fun c s3 ⟨z,H3,I3,r3,k,e,q3⟩=>?_) hm
  subst e
  cases r3
  exact wpAny_truthy_bool ⟨H3,I3,q3⟩
def n5(r r':R2)(ta tb tc:TE):TE:=fun σ H Q=>ta σ H fun x H1=>tb σ H1 fun y H2=>r x y H2 fun z H3=>∃ k,z=.bl k∧
  (if k=true then tc σ H3 fun w' H4=>r' y w' H4 Q else Q (.bl false) H3)
theorem sj{op op':CmpOp}{r r':R2}(ho:eU X (compareOp op) r)(ho':eU X (compareOp op') r')(ha:PE X a ta)(hb:PE X b tb)(hc:PE X c tc)
    (hm:lastMarks [op,op'] [b,c]=false:=by with_unfolding_all rfl):PE X (.Compare a [op,op'] [b,c] pos) (n5 r r' ta tb tc):=by
  intro pins s σ H Q I h
  refine Compare_chain (bm (ha pins s σ H _ I h) fun v s1 ⟨x,H1,I1,r1,q1⟩=>chain_link (bm (hb pins s1 σ H1 _ I1 q1) fun u s2 ⟨y,H2,I2,r2,q2⟩=>
    bm (ho pins s2 σ H2 x y v u _ I2 r1 r2 q2) fun d s3 ⟨z,H3,I3,r3,k,e,q3⟩=>?_)) hm
  subst e
  cases r3
  refine wpAny_truthy_bool ?_
  cases k with
  | false=>exact ite_ff ⟨.bl false,H3,I3,rfl,q3⟩
  | true=>exact ite_tt (chain_last (bm (hc pins s3 σ H3 _ I3 q3) fun w' s4 ⟨z',H4,I4,r4,q4⟩=>ho' pins s4 σ H4 y z' u w' Q I4 r2 r4 q4))
theorem nB:(sizeLine:Nat)<2 ^ 63:=by rw [sizeLine_eq];decide
theorem n6{x:V}{us:List Value}(r:Vals [x] us):∃ u,us=[u]∧RelV x u:=by
  cases r with
  | cons r1 r2=>cases r2;exact ⟨_,rfl,r1⟩
end
end L2
namespace L2
open PySem PySem.Spec PyProof.Rows
structure ObjM(h:Heap)(x dx C:Addr)(mA:Str→Option Value):Prop where
  obj:h.get? x=some (PySem.W.instObj C dx)
  ns:h.Ns1 dx mA
  ne:dx≠x
theorem w8{h:Heap}{dx:Addr}{mA:Str→Option Value}(n:h.Ns1 dx mA):∃ od,h.get? dx=some od∧∀ name,PySem.W.lookIn name od=some (mA name):=by
  obtain ⟨o,es,ep,ho,hd,hk,_,hm⟩:=n
  refine ⟨o,ho,fun name=>?_⟩
  have e:=hm name
  unfold nsFind findBy at e
  rw [← Array.find?_toList] at e
  unfold PySem.W.lookIn
  rw [hd]
  dsimp only
  split
  · rename_i y q
    rw [q] at e
    exact congrArg some e
  · rename_i q
    rw [q] at e
    have a:es.toList.any (·.refKey)=false:=by
      rw [List.any_eq_false]
      intro y hy
      obtain ⟨z,t,hkey⟩:=hk y (Array.mem_toList_iff.mp hy)
      simp [DictEntry.refKey,hkey]
    have a':¬ es.toList.any (·.refKey)=true:=by rw [a];exact lau
    rw [if_neg a']
    exact congrArg some e
theorem ObjM.look{h:Heap}{x dx C:Addr}{mA:Str→Option Value}(I:ObjM h x dx C mA):∃ od,PySem.W.InstAt h x (PySem.W.instObj C dx) C (some od)∧∀ name,PySem.W.lookIn name od=some (mA name):=
  let ⟨od,ho,hl⟩:=w8 I.ns
  ⟨od,⟨I.obj,rfl,rfl,ho⟩,hl⟩
section
variable {prog:Program}{w:World}{A:Around}{E:Value→Shared→Prop}{s:Shared}{K:PySem.W.Frag}{x dx C f:Addr}{mA:Str→Option Value}{name:Str}{v:Value}
theorem Ak{expr:Bool}{Q:Value→Shared→Prop}(X:K.In s.heap)(I:ObjM s.heap x dx C mA)(hg:PySem.W.plainGet K C name=true)(hh:PySem.W.hasDictIn K C=true)
    (ha:PySem.W.findIn K (.ref C) name=some none)(hv:mA name=some v)(hv':PySem.W.handedIn v=true)(h:Q v { s with toks:=s.toks+1 }) :
    wpAny (model prog w) A (getAttr (.ref x) name expr) Q E s:=by
  obtain ⟨od,J,hl⟩:=I.look
  exact PySem.W.get_value X J (PySem.W.plainGet_of hg).1 (PySem.W.findObj_own hh ha rfl (by rw [hl,hv])) hv' h
theorem yj{pl:Sem Bool}{Q:Value×List Value→Shared→Prop}(X:K.In s.heap)(I:ObjM s.heap x dx C mA)(hg:PySem.W.plainGet K C name=true)
    (hf:PySem.W.findIn K (.ref C) name=some (some (.ref f)))(ht:PySem.W.isFn K (.ref f)=true)(hv:mA name=none)(h:Q (.ref f,[.ref x]) s) :
    wpAny (model prog w) A (getMethod (.ref x) name pl) Q E s:=by
  obtain ⟨od,J,hl⟩:=I.look
  exact PySem.W.method_fn X J (PySem.W.plainGet_of hg).1 (PySem.W.plainGet_of hg).2 hf (beq_iff_eq.mp ht) (by show (PySem.W.lookIn name od).map (·.isSome)=some false;rw [hl,hv];rfl) h
theorem Ah{ns:List Str}{Q:Unit→Shared→Prop}(X:K.In s.heap)(I:ObjM s.heap x dx C mA)
    (hs:PySem.W.findIn K (.ref C) "__setattr__"=some (some (.builtin "object.__setattr__")))(hp:PySem.W.plainOver K C=true)(ht:PySem.W.takerIn K C name=some none)(hh:PySem.W.hasDictIn K C=true)
    (hw:PySem.Within mA ns)(hsz:ns.length≤sizeLine)
    (h:∀ h',ObjM h' x dx C (fun y=>if y=name then some v else mA y)→Heap.SameBut dx s.heap h'→Q () { s with heap:=h',toks:=s.toks+2 }) :
    wpAny (model prog w) A (setAttr (.ref x) name v) Q E s:=by
  obtain ⟨od,J,hl⟩:=I.look
  refine PySem.W.set_plain X J hs (PySem.W.osa_open (s:={ s with toks:=s.toks+1 }) (r:=none) X J hp ht fun b=>?_)
  obtain ⟨cd,hc,hd'⟩:=PySem.W.any_some hh
  have hx:s.heap.get? x=some ⟨.ref C,some dx,.plain,#[]⟩:=I.obj
  refine wpAny_bind (wpAny_pure (wpAny_bind (wpAny_bind (wpAny_loadPart hx (wpAny_bind (PySem.W.Looks.here (s:={ s with toks:=s.toks+1 }) (PySem.W.looks_clsIn X hc) ?_))))))
  rw [hd']
  refine wpAny_pure (a:=some dx) (wpAny_bind (wpAny_pure (wpAny_bind ?_)))
  refine wpAny_nsSet1 (s:={ s with toks:=s.toks+1 }) I.ns fun h' hn2 hs2=>?_
  obtain ⟨oD,esD,epD,hoD,hdD,hcD⟩:=hn2.count (PySem.Within.cons name v hw)
  refine wpAny_bind (wpAny_lookBehind hoD (by rw [hdD];exact pastItsLine_dict (las hcD (by rw [laj];omega))) ?_)
  exact wpAny_pure (h _ ⟨(hs2.2 _ (Ne.symm I.ne)).trans I.obj,hn2,I.ne⟩ hs2)
theorem x4{R:Result→Shared→Prop}{vs:List Value}{kw:List (Str×Value)}(X:K.In s.heap)(hm:PySem.W.makesIn K C=true)
    (hi:PySem.W.findIn K (.ref C) "__init__"=some (some (.ref f)))(hf:PySem.W.typeIn K (.ref f)=some (.type "function"))
    (h:codeAny (model prog w) (A.under (.builtin "type.__call__" ⟨.ref C::vs,kw⟩)) (.call (.ref f) ⟨.ref (s.heap.objs.size+1)::vs,kw⟩) (PySem.W.InitBack (s.heap.objs.size+1) R)
      { s with heap:=(s.heap.push PySem.W.emptyDict).push (PySem.W.instObj C s.heap.objs.size) }) :
    codeAny (model prog w) A (.call (.ref C) ⟨vs,kw⟩) R s:=by
  obtain ⟨hh,g,d,t,os⟩:=s
  exact PySem.W.make_core (PySem.W.makes_of X hm) (PySem.W.looks_findIn X hi) (fun self=>PySem.W.bind_fn X self hf) (.inl rfl) h
end
def bX(f:Str)(v:V):List (Str×V)→List (Str×V)
  | []=>[(f,v)]
  | (g,x)::r=>if g=f then (g,v)::r else (g,x)::bX f v r
theorem mB(f g:Str)(v:V):∀ fs:List (Str×V),(bX f v fs).lookup g=if g=f then some v else fs.lookup g
  | []=>by
    show List.lookup g [(f,v)]=_
    by_cases h:g=f
    · have hb:(g==f)=true:=beq_iff_eq.mpr h
      simp only [List.lookup,hb,if_pos h]
    · have hb:(g==f)=false:=beq_eq_false_iff_ne.mpr h
      simp only [List.lookup,hb,if_neg h]
  | (k,x)::r=>by
    have ih:=mB f g v r
    rw [show bX f v ((k,x)::r)=(if k=f then (k,v)::r else (k,x)::bX f v r) from rfl]
    by_cases hk:k=f
    · rw [if_pos hk]
      by_cases h:g=k
      · have hb:(g==k)=true:=beq_iff_eq.mpr h
        simp only [List.lookup,hb,if_pos (h.trans hk)]
      · have hb:(g==k)=false:=beq_eq_false_iff_ne.mpr h
        simp only [List.lookup,hb,if_neg (fun e:g=f=>h (e.trans hk.symm))]
    · rw [if_neg hk]
      by_cases h:g=k
      · have hb:(g==k)=true:=beq_iff_eq.mpr h
        simp only [List.lookup,hb,if_neg (fun e:g=f=>hk (h.symm.trans e))]
      · have hb:(g==k)=false:=beq_eq_false_iff_ne.mpr h
        simp only [List.lookup,hb]
        exact ih
theorem lX(f:Str)(v:V):∀ fs:List (Str×V),f∈(bX f v fs).map (·.1)∧∀ g,g∈fs.map (·.1)→g∈(bX f v fs).map (·.1)
  | []=>⟨by simp [bX],fun g h=>by simp at h⟩
  | (k,x)::r=>by
    obtain ⟨i1,i2⟩:=lX f v r
    rw [show bX f v ((k,x)::r)=(if k=f then (k,v)::r else (k,x)::bX f v r) from rfl]
    by_cases hk:k=f
    · rw [if_pos hk]
      subst hk
      exact ⟨by simp,fun g h=>by simpa using h⟩
    · rw [if_neg hk]
      refine ⟨?_,fun g h=>?_⟩
      · rw [lah]
        exact lac _ i1
      · rw [lah] at h ⊢
        rcases List.mem_cons.mp h with e | e
        · exact List.mem_cons.mpr (.inl e)
        · exact lac _ (i2 g e)
theorem gy(f:Str)(v:V):∀ fs:List (Str×V),(bX f v fs).length≤fs.length+1
  | []=>by simp [bX]
  | (k,x)::r=>by
    have ih:=gy f v r
    rw [show bX f v ((k,x)::r)=(if k=f then (k,v)::r else (k,x)::bX f v r) from rfl]
    by_cases hk:k=f
    · rw [if_pos hk,laj,laj];omega
    · rw [if_neg hk,laj,laj];omega
theorem RelO.some_of{v:V}{o:Option Value}(r:RelO (some v) o):∃ u,o=some u∧RelV v u:=by
  cases o with
  | none=>exact (show False from r).elim
  | some u=>exact ⟨u,rfl,r⟩
theorem RelO.none_of{o:Option Value}(r:RelO none o):o=none:=by
  cases o with
  | none=>rfl
  | some u=>exact (show False from r).elim
theorem wP{v:V}{u:Value}(r:RelV v u):PySem.W.handedIn u=true:=by
  cases v with
  | non=>cases (show u=Value.none from r);rfl
  | bl b=>cases (show u=Value.bool b from r);rfl
  | int i=>obtain ⟨t,e⟩:=(show ∃ t,u=Value.int i t from r);cases e;rfl
  | str x=>obtain ⟨t,e⟩:=(show ∃ t,u=Value.str x t from r);cases e;rfl
  | byt b=>obtain ⟨t,e⟩:=(show ∃ t,u=Value.bytes b t from r);cases e;rfl
  | flt b=>obtain ⟨t,e⟩:=(show ∃ t,u=Value.float b t from r);cases e;rfl
  | ref a=>cases (show u=Value.ref a from r);rfl
  | ty n=>cases (show u=Value.type n from r);rfl
section
variable {P:Program}{w:World}{H H':Hp}{h h':Heap}{a C dx:Addr}{fs fs':List (Str×V)}
theorem mj(hok:HOk P w H h)(e:H a=some (.ins C dx fs)):∃ mA,ObjM h a dx C mA∧(∀ f,RelO (fs.lookup f) (mA f))∧PySem.Within mA (fs.map (·.1))∧fs.length≤1000∧H dx=some (.own a):=by
  obtain ⟨d,z,ne,ob,mA,n,r,q⟩:=(show ObjOk P w H h a (.ins C dx fs) from hok a _ e)
  exact ⟨mA,⟨ob,n,ne⟩,r,q,z,d⟩
end
structure Cls(K:PySem.W.Frag)(C:Addr):Prop where
  pg:PySem.W.plainGet K C Str.empty=true
  hd:PySem.W.hasDictIn K C=true
  po:PySem.W.plainOver K C=true
  sa:PySem.W.findIn K (.ref C) "__setattr__"=some (some (.builtin "object.__setattr__"))
theorem Cls.get{K:PySem.W.Frag}{C:Addr}(c:Cls K C)(f:Str):PySem.W.plainGet K C f=true:=c.pg
def NoAttr(K:PySem.W.Frag)(C:Addr)(f:Str):Prop:=PySem.W.findIn K (.ref C) f=some none
theorem NoAttr.taker{K:PySem.W.Frag}{C:Addr}{f:Str}(n:NoAttr K C f):PySem.W.takerIn K C f=some none:=by
  unfold PySem.W.takerIn
  rw [show PySem.W.findIn K (.ref C) f=some none from n]
  rfl
structure cH(K:PySem.W.Frag)(C:Addr)(m:Str)(f:Addr):Prop where
  at_:PySem.W.findIn K (.ref C) m=some (some (.ref f))
  fn:PySem.W.isFn K (.ref f)=true
  kp:PySem.W.keepIn K (.ref f)=true
section
variable {X:Cx}{pins:List (Addr×Obj)}{σ:St}{H:Hp}{s:Shared}{a C dx:Addr}{fs:List (Str×V)}{f:Str}{v:V}{A:Around}{E:Value→Shared→Prop}
theorem nQ{b:Bool}{Q:Value→Shared→Prop}(I:Inv X pins σ H s)(e:H a=some (.ins C dx fs))(c:Cls X.K C)(n:NoAttr X.K C f)(l:fs.lookup f=some v)
    (h:∀ u s',Inv X pins σ H s'→RelV v u→Q u s'):wpAny (model X.prog X.w) A (getAttr (.ref a) f b) Q E s:=by
  obtain ⟨mA,O,r,_,_,_⟩:=mj I.hok e
  obtain ⟨u,hu,ru⟩:=RelO.some_of (v:=v) (o:=mA f) (by rw [← l];exact r f)
  exact Ak I.kIn O (c.get f) c.hd n hu (wP ru) (h u _ (I.tok _) ru)
theorem jV{m:Str}{g:Addr}{pl:Sem Bool}{Q:Value×List Value→Shared→Prop}(I:Inv X pins σ H s)(e:H a=some (.ins C dx fs))(c:Cls X.K C)(k:cH X.K C m g)(l:fs.lookup m=none)
    (h:Q (.ref g,[.ref a]) s):wpAny (model X.prog X.w) A (getMethod (.ref a) m pl) Q E s:=by
  obtain ⟨mA,O,r,_,_,_⟩:=mj I.hok e
  have hn:mA m=none:=RelO.none_of (by rw [← l];exact r m)
  exact yj I.kIn O (c.get m) k.at_ k.fn hn h
theorem nH{y:V}{u:Value}{Q:Unit→Shared→Prop}(I:Inv X pins σ H s)(e:H a=some (.ins C dx fs))(c:Cls X.K C)(n:NoAttr X.K C f)(hl:fs.length<1000)(ry:RelV y u)
    (h:∀ s',Inv X pins σ (upd H a (.ins C dx (bX f y fs))) s'→Q () s'):wpAny (model X.prog X.w) A (setAttr (.ref a) f u) Q E s:=by
  obtain ⟨mA,O,r,wi,_,ho⟩:=mj I.hok e
  have hz:(fs.map (·.1)).length≤sizeLine:=by rw [laa,sizeLine_eq];omega
  refine Ah I.kIn O c.sa c.po n.taker c.hd wi hz fun h' O' sb=>h _ ?_
  have hd:∃ o,h'.get? dx=some o:=let ⟨o,_,_,e',_⟩:=O'.ns;⟨o,e'⟩
  refine I.write (x:=a) (e:=dx) (by rw [e];exact True.intro) (.inr ho) (fun b q hb z=>(sb.2 b hb).trans z) hd ?_
  refine ⟨by rw [bH O.ne];exact ho,?_,O.ne,O'.obj,_,O'.ns,fun g=>?_,fun g hg=>?_⟩
  · have:=gy f y fs;omega
  · show RelO ((bX f y fs).lookup g) (if g=f then some u else mA g)
    rw [mB]
    by_cases q:g=f
    · rw [if_pos q,if_pos q];exact ry
    · rw [if_neg q,if_neg q];exact r g
  · by_cases q:g=f
    · rw [q];exact (lX f y fs).1
    · refine (lX f y fs).2 g (wi g fun z=>hg ?_)
      show (if g=f then some u else mA g)=none
      rw [if_neg q];exact z
theorem Inv.made(I:Inv X pins σ H s):Inv X pins σ (upd (upd H s.heap.objs.size (.own (s.heap.objs.size+1))) (s.heap.objs.size+1) (.ins C s.heap.objs.size []))
    { s with heap:=(s.heap.push PySem.W.emptyDict).push (PySem.W.instObj C s.heap.objs.size) }:=by
  have e1:(s.heap.push PySem.W.emptyDict).get? s.heap.objs.size=some PySem.W.emptyDict:=Heap.get?_push_size s.heap rfl
  have e2:((s.heap.push PySem.W.emptyDict).push (PySem.W.instObj C s.heap.objs.size)).get? (s.heap.objs.size+1)=some (PySem.W.instObj C s.heap.objs.size):=by
    have:=Heap.get?_push_size (s.heap.push PySem.W.emptyDict) (o:=PySem.W.instObj C s.heap.objs.size) rfl
    rwa [Heap.size_push] at this
  have e3:(s.heap.push PySem.W.emptyDict).Ns s.heap.objs.size (fun _=>none):=⟨PySem.W.emptyDict,#[],_,e1,rfl,(fun e he=>absurd he (by simp)),fun _=>rfl⟩
  have I1:=I.laid (a:=s.heap.objs.size) (o:=.own (s.heap.objs.size+1)) (h':=s.heap.push PySem.W.emptyDict) (t':=s.toks) (fun b u q=>Heap.get?_push_of_some _ q) (lat _) ⟨_,e1⟩
  refine I1.laid (a:=s.heap.objs.size+1) (o:=.ins C s.heap.objs.size []) (t':=s.toks) (fun b u q=>Heap.get?_push_of_some _ q) (Nat.le_of_eq (Heap.size_push _ _)) ?_
  have ne:s.heap.objs.size≠s.heap.objs.size+1:=Nat.ne_of_lt (Nat.lt_succ_self _)
  refine ⟨by rw [bH ne,av],laI _,ne,e2,fun _=>none,(Heap.Ns1.of_empty e3).at fun o q=>Heap.get?_push_of_some _ q,fun _=>True.intro,fun y hy=>absurd rfl hy⟩
theorem z8{prog:Program}{w:World}{env:Env}{e:Expr}{f:Str}{pos:Pos}{s:Shared}{Q:Value→Shared→Prop}(hb:attributeBase e f env (eval e env)=eval e env)
    (h:wpAny (model prog w) A (eval e env) (fun o s₁=>wpAny (model prog w) A (getAttr o f true) Q E s₁) E s):wpAny (model prog w) A (eval (.Attribute e f pos) env) Q E s:=
  Attribute_any_ h (by rw [arm_eval_Attribute,hb])
end
def br(K:PySem.W.Frag)(ta:TE)(f:Str):TE:=fun σ H Q=>ta σ H fun x H1=>∃ a C dx fs v,x=.ref a∧H1 a=some (.ins C dx fs)∧Cls K C∧NoAttr K C f∧fs.lookup f=some v∧Q v H1
def fc(K:PySem.W.Frag)(ta tv:TE)(f:Str):TS:=fun D σ H=>tv σ H fun y H1=>ta σ H1 fun x H2=>∃ a C dx fs,x=.ref a∧H2 a=some (.ins C dx fs)∧Cls K C∧NoAttr K C f∧fs.length<1000∧
  D.nx σ (upd H2 a (.ins C dx (bX f y fs)))
def Az(X:Cx)(op:Operator)(rd:V→V→Hp→VK→Prop):Prop:=
  ∀ (pins:List (Addr×Obj)) (s:Shared) (σ:St) (H:Hp) (x y:V) (u v:Value) (Q:VK),Inv X pins σ H s→RelV x u→RelV y v→rd x y H Q→wpAny (model X.prog X.w) X.A (inplaceOp op u v) (EP X pins σ Q) X.xe s
def oQ(K:PySem.W.Frag)(ta tv:TE)(rd:V→V→Hp→VK→Prop)(f:Str):TS:=fun D σ H=>ta σ H fun x H1=>∃ a C dx fs v,x=.ref a∧H1 a=some (.ins C dx fs)∧Cls K C∧NoAttr K C f∧fs.lookup f=some v∧
  tv σ H1 fun y H2=>rd v y H2 fun z H3=>∃ dx' fs',H3 a=some (.ins C dx' fs')∧fs'.length<1000∧D.nx σ (upd H3 a (.ins C dx' (bX f z fs')))
section
variable {X:Cx}{o e value:Expr}{f:Str}{pos pos' tpos:Pos}{ta tv:TE}
theorem aS(he:PE X e ta)(hb:attributeBase e f X.env (eval e X.env)=eval e X.env):PE X (.Attribute e f pos) (br X.K ta f):=by
  intro pins s σ H Q I h
  refine z8 hb (bm (he pins s σ H _ I h) fun u s1 ⟨x,H1,I1,rx,a,C,dx,fs,v,ex,ea,c,n,l,q⟩=>?_)
  subst ex
  obtain rfl:u=Value.ref a:=rx
  exact nQ I1 ea c n l fun u' s2 I2 ru=>⟨v,H1,I2,ru,q⟩
theorem dX(ha:PE X o ta)(hv:PE X value tv)(hs:swapsWith value (some (.Attribute o f pos')) pos.line X.env=pure false):PS X (.Assign [.Attribute o f pos'] value pos) (fc X.K ta tv f):=by
  intro pins s σ H D I h
  refine plainObj_wpAny_Assign_Attribute (bm (hv pins s σ H _ I h) fun u s1 ⟨y,H1,I1,ry,q⟩=>bm (ha pins s1 σ H1 _ I1 q) fun ov s2 ⟨x,H2,I2,rx,a,C,dx,fs,ex,ea,c,n,l,q2⟩=>?_) hs
  subst ex
  obtain rfl:ov=Value.ref a:=rx
  exact nH I2 ea c n l ry fun s3 I3=>⟨σ,_,I3,q2⟩
theorem xg{op:Operator}{rd:V→V→Hp→VK→Prop}(ha:PE X o ta)(hv:PE X value tv)(hop:Az X op rd):PS X (.AugAssign (.Attribute o f tpos) op value pos) (oQ X.K ta tv rd f):=by
  intro pins s σ H D I h
  refine wpAny_AugAssign_AttributeAny (bm (ha pins s σ H _ I h) fun ov s1 ⟨x,H1,I1,rx,a,C,dx,fs,v,ex,ea,c,n,l,q⟩=>?_)
  subst ex
  obtain rfl:ov=Value.ref a:=rx
  refine nQ I1 ea c n l fun u s2 I2 ru=>bm (hv pins s2 σ H1 _ I2 q) fun w3 s3 ⟨y,H2,I3,ry,q3⟩=>bm (hop pins s3 σ H2 v y u w3 _ I3 ru ry q3) fun w4 s4 ⟨z,H3,I4,rz,dx',fs',ea',l',q4⟩=>?_
  exact nH I4 ea' c n l' rz fun s5 I5=>⟨σ,_,I5,q4⟩
def yP:V→V→Hp→VK→Prop:=fun x y H Q=>∃ i j,x=.int i∧y=.int j∧Q (.int (i+j)) H
theorem B7:Az X .Add yP:=by
  rintro pins s σ H x y u v Q I rx ry ⟨i,j,rfl,rfl,q⟩
  obtain ⟨t,rfl⟩:=(show ∃ t,u=Value.int i t from rx)
  obtain ⟨t',rfl⟩:=(show ∃ t',v=Value.int j t' from ry)
  exact PyProof.Rows.iadd_int ⟨.int (i+j),H,I.tok _,⟨_,rfl⟩,q⟩
theorem Cf{pl:Sem Bool}{m:Str}{apos:Pos}{args:List Expr}{pins:List (Addr×Obj)}{s:Shared}{σ:St}{H:Hp}{Q:Value→Shared→Prop}{te:TE}(he:PE X e te)(I:Inv X pins σ H s)
    (h:te σ H fun x H1=>∃ a C dx fs g,x=.ref a∧H1 a=some (.ins C dx fs)∧Cls X.K C∧cH X.K C m g∧fs.lookup m=none∧
      ∀ s1,Inv X pins σ H1 s1→wpAny (model X.prog X.w) X.A (callWith pos (.ref g) [.ref a] (backTo pos (starEach args X.env)) (backToKw pos (keywordEach [] X.env))) Q X.xe s1)
    (ht:eval (.Call (.Attribute e m apos) args [] pos) X.env=(do
      let ov ← eval e X.env
      standAt apos.atName
      let (f,first) ← holding [ov] (getMethod ov m pl)
      callWith pos f first (backTo pos (starEach args X.env)) (backToKw pos (keywordEach [] X.env)))) :
    wpAny (model X.prog X.w) X.A (eval (.Call (.Attribute e m apos) args [] pos) X.env) Q X.xe s:=by
  refine PySem.W.methodCall_KW (pl:=pl) (bm (he pins s σ H _ I h) fun u s1 ⟨x,H1,I1,rx,a,C,dx,fs,g,ex,ea,c,k,l,q⟩=>?_) ht
  subst ex
  obtain rfl:u=Value.ref a:=rx
  exact jV I1 ea c k l (q s1 I1)
end
section
variable {X:Cx}{pins:List (Addr×Obj)}{σ:St}{H:Hp}{s:Shared}{A:Around}{E:Value→Shared→Prop}{Q:Value→Shared→Prop}{c:Value}{b:Bool}
inductive ge(K:PySem.W.Frag)(H:Hp):V→Value→Prop where
  | non:ge K H .non (.type "NoneType")
  | bl (x:Bool):ge K H (.bl x) (.type "bool")
  | int (i:Int):ge K H (.int i) (.type "int")
  | str (x:Str):ge K H (.str x) (.type "str")
  | flt (x:UInt64):ge K H (.flt x) (.type "float")
  | lst {a:Addr} {xs:List V} (e:H a=some (.lst xs)):ge K H (.ref a) (.type "list")
  | frz {a:Addr} {o:Obj} {xs:List V} (e:H a=some (.frz o (.lst xs))):ge K H (.ref a) (.type "list")
  | tup {a:Addr} {xs:List V} (e:H a=some (.tup xs)):ge K H (.ref a) (.type "tuple")
  | dK {a:Addr} {kvs:List (bn×V)} (e:H a=some (.dK kvs)):ge K H (.ref a) (.type "dict")
  | dT {a:Addr} {kvs:List (List bn×V)} (e:H a=some (.dT kvs)):ge K H (.ref a) (.type "dict")
  | ins {a C dx:Addr} {fs:List (Str×V)} (e:H a=some (.ins C dx fs)) (cl:Cls K C) (ha:PySem.W.findIn K (.ref C) "__class__"=some (some (.builtin "object.__class__")))
      (hn:PySem.W.specialIn K (.builtin "object.__class__") "__get__"=some (some (.builtin "getset_descriptor.__get__"))) (htk:PySem.W.takesIn K (.builtin "object.__class__")=some true)
      (hm:PySem.W.mroIn K C (.type "object")=some true):ge K H (.ref a) (.ref C)
theorem xJ{x:V}{u t:Value}(I:Inv X pins σ H s)(rx:RelV x u)(ty:ge X.K H x t)(e:PySem.W.kitOne X.K t c=some b)(h:∀ tk,Q (.bool b) { s with toks:=tk }) :
    wpAny (model X.prog X.w) A (call (.builtin "isinstance") [u,c]) Q E s:=by
  cases ty with
  | non=>cases (show u=Value.none from rx);exact PySem.W.kia_one PySem.W.kitx_none I.kIn True.intro e (fun z=>nomatch z) h
  | bl y=>cases (show u=Value.bool y from rx);exact PySem.W.kia_one PySem.W.kitx_bool I.kIn True.intro e (fun z=>nomatch z) h
  | int i=>obtain ⟨t,q⟩:=(show ∃ t,u=Value.int i t from rx);cases q;exact PySem.W.kia_one PySem.W.kitx_int I.kIn True.intro e (fun z=>nomatch z) h
  | str y=>obtain ⟨t,q⟩:=(show ∃ t,u=Value.str y t from rx);cases q;exact PySem.W.kia_one PySem.W.kitx_str I.kIn True.intro e (fun z=>nomatch z) h
  | flt y=>obtain ⟨t,q⟩:=(show ∃ t,u=Value.float y t from rx);cases q;exact PySem.W.kia_one PySem.W.kitx_float I.kIn True.intro e (fun z=>nomatch z) h
  | @lst a xs ea=>
    cases (show u=Value.ref a from rx)
    obtain ⟨_,_,n,_,h1⟩:=(show ObjOk X.prog X.w H s.heap a (.lst xs) from I.hok a _ ea)
    exact PySem.W.kia_one PySem.W.kitx_list I.kIn ⟨_,h1,rfl⟩ e (fun z=>nomatch z) h
  | @frz a ob xs ea=>
    cases (show u=Value.ref a from rx)
    obtain ⟨_,_,_,n,_,h1⟩:=(show ObjOk X.prog X.w H s.heap a (.frz ob (.lst xs)) from I.hok a _ ea)
    exact PySem.W.kia_one PySem.W.kitx_list I.kIn ⟨_,h1,rfl⟩ e (fun z=>nomatch z) h
  | @tup a xs ea=>
    cases (show u=Value.ref a from rx)
    obtain ⟨_,_,_,p⟩:=(show ObjOk X.prog X.w H s.heap a (.tup xs) from I.hok a _ ea)
    obtain ⟨o,h1,h2,_⟩:=p
    exact PySem.W.kia_one PySem.W.kitx_tuple I.kIn ⟨o,h1,h2⟩ e (fun z=>nomatch z) h
  | @dK a kvs ea=>
    cases (show u=Value.ref a from rx)
    obtain ⟨_,_,vs,_,p⟩:=(show ObjOk X.prog X.w H s.heap a (.dK kvs) from I.hok a _ ea)
    obtain ⟨o,es,ep,h1,h2,_⟩:=p
    exact PySem.W.kia_one PySem.W.kitx_dict I.kIn ⟨o,h1,h2.1⟩ e (fun z=>nomatch z) h
  | @dT a kvs ea=>
    cases (show u=Value.ref a from rx)
    obtain ⟨_,_,xs,_,o,es,ep,h1,h2,_⟩:=(show ObjOk X.prog X.w H s.heap a (.dT kvs) from I.hok a _ ea)
    exact PySem.W.kia_one PySem.W.kitx_dict I.kIn ⟨o,h1,h2.1⟩ e (fun z=>nomatch z) h
  | @ins a C dx fs ea cl ha hn htk hm=>
    cases (show u=Value.ref a from rx)
    obtain ⟨mA,O,_⟩:=mj I.hok ea
    obtain ⟨od,J,_⟩:=O.look
    exact PySem.W.kia_one (PySem.W.kitx_own (cl.get _) cl.hd ha hn htk hm) I.kIn J e (fun z=>nomatch z) h
end
end L2
namespace L2
open PySem PySem.Spec PyProof.Rows
structure Room(k:Nat)(A:Around):Prop where
  hd:A.handled=none
  dp:A.depth+3*k+5<recursionLimit
  un:A.units+16*k+200<cLine
theorem Room.mono{j k:Nat}{A:Around}(r:Room k A)(h:j≤k):Room j A:=⟨r.hd,by have:=r.dp;omega,by have:=r.un;omega⟩
theorem Room.deeper{k:Nat}{A:Around}(r:Room (k+1) A)(env:Env):Room k (A.deeper env):=
  ⟨r.hd,by have:=r.dp;show A.depth+1+3*k+5<_;omega,by have:=r.un;show A.units+3+16*k+200<_;omega⟩
theorem vx{A:Around}{C:Addr}{us:List Value}{kw:List (Str×Value)}:(A.under (.builtin "type.__call__" ⟨.ref C::us,kw⟩)).depth=A.depth+1:=by
  first | rfl | simp [Around.under,Code.weight,Code.isCreation,Code.isGuard,Code.isCaller,Code.frames,Code.isFrame,guardIds]
theorem u8{A:Around}{C:Addr}{us:List Value}{kw:List (Str×Value)}:(A.under (.builtin "type.__call__" ⟨.ref C::us,kw⟩)).units=A.units+1:=by
  first | rfl | simp [Around.under,Code.cUnits,Code.frames,Code.isFrame]
theorem Room.make{k:Nat}{A:Around}(r:Room (k+1) A)(C:Addr)(us:List Value)(kw:List (Str×Value)):Room k (A.under (.builtin "type.__call__" ⟨.ref C::us,kw⟩)):=
  ⟨r.hd,by have:=r.dp;rw [vx];omega,by have:=r.un;rw [u8];omega⟩
theorem Room.depth{k:Nat}{A:Around}(r:Room k A):A.depth<recursionLimit:=by have:=r.dp;omega
theorem Room.units{k:Nat}{A:Around}(r:Room k A):A.units+64<cLine:=by have:=r.un;omega
def ak:TA:=fun _ H Q=>Q [] H
def ae(ta:TE)(tr:TA):TA:=fun σ H Q=>ta σ H fun x H1=>tr σ H1 fun xs H2=>Q (x::xs) H2
section
variable {X:Cx}{e:Expr}{es:List Expr}{te:TE}{t:TA}{pos:Pos}
theorem ah:PA X [] ak:=fun _ _ _ _ H Q I h=>Calls.spliced_nil ⟨[],H,I,.nil,h⟩
theorem ab(ha:PE X e te)(hr:PA X es t)(hs:starEach (e::es) X.env=(false,eval e X.env)::starEach es X.env:=by rfl):PA X (e::es) (ae te t):=by
  intro pos pins s σ H Q I h
  rw [hs]
  show wpAny _ _ (spliced ((false,eval e X.env)::backTo pos (starEach es X.env))) _ _ s
  refine Calls.spliced_cons (bm (ha pins s σ H _ I h) fun u s1 ⟨x,H1,I1,r1,q1⟩=>?_)
  exact bm (hr pos pins s1 σ H1 _ I1 q1) fun us s2 ⟨xs,H2,I2,r2,q2⟩=>⟨x::xs,H2,I2,.cons r1 r2,q2⟩
def cR(t:TA):TE:=fun σ H Q=>t σ H fun xs H1=>xs.length≤sizeLine∧∀ p,H1 p=none→Q (.ref p) (upd H1 p (.tup xs))
def cG(t:TA):TE:=fun σ H Q=>t σ H fun xs H1=>xs.length≤sizeLine∧∀ p,H1 p=none→Q (.ref p) (upd H1 p (.lst xs))
theorem b4{x1}(h:PA X es t):PE X (.Tuple es x1 pos) (cR t):=by
  intro pins s σ H Q I hq
  refine wpAny_Tuple_spliced (bm (h pos pins s σ H _ I hq) fun us s1 ⟨xs,H1,I1,r,z,q⟩=>⟨by rw [← r.length];exact z,?_⟩)
  have hf:H1 s1.heap.objs.size=none:=I1.hok.fresh (lat _)
  refine ⟨.ref s1.heap.objs.size,upd H1 s1.heap.objs.size (.tup xs),I1.laid (t':=s1.toks) (fun b u e=>Heap.get?_push_of_some _ e) (lat _) ?_,rfl,q _ hf⟩
  exact ⟨z,us,r,⟨_,Heap.get?_push_size _ rfl,rfl,_,rfl⟩⟩
theorem bZ(h:PA X es t):PE X (.List es pos) (cG t):=by
  intro pins s σ H Q I hq
  refine wpAny_List_spliced (bm (h pos pins s σ H _ I hq) fun us s1 ⟨xs,H1,I1,r,z,q⟩=>⟨by rw [← r.length];exact z,?_⟩)
  have hf:H1 s1.heap.objs.size=none:=I1.hok.fresh (lat _)
  refine ⟨.ref s1.heap.objs.size,upd H1 s1.heap.objs.size (.lst xs),I1.laid (t':=s1.toks) (fun b u e=>Heap.get?_push_of_some _ e) (lat _) ?_,rfl,q _ hf⟩
  exact ⟨z,us,0,r,Heap.get?_push_size _ rfl⟩
end
abbrev Sp:=List V→Hp→VK→XK→Prop
abbrev lI:=List Env→Hp→Shared→XK→Value→Shared→Prop
structure Env0(P:Program)(w:World)(K:PySem.W.Frag)(mg:Str→Option Value)(base:Heap)(A:Around)(outer:List Env)(s:Shared)(H:Hp):Prop where
  frames:A.frames=some outer
  mod:Mod K mg base
  bs:∀ b o,base.get? b=some o→s.heap.get? b=some o∧H b=none
  bsz:base.objs.size≤s.heap.objs.size
  funs:s.heap.FunFrames base outer
  frf:∀ b∈lF outer,H b=none
  hok:HOk P w H s.heap
  bare:AllBare s.gens
def CE(outer:List Env)(P:Program)(w:World)(H:Hp)(s:Shared)(Q:VK)(u:Value)(s':Shared):Prop:=
  ∃ v H',s'.os=s.os∧AllBare s'.gens∧Un (lF outer) [] H H' s.heap s'.heap∧HOk P w H' s'.heap∧RelV v u∧Q v H'
def CR(CX:lI)(outer:List Env)(P:Program)(w:World)(H:Hp)(s:Shared)(Q:VK)(E:XK)(r:Result)(s':Shared):Prop:=
  match r with
  | .ok (.ret u)=>CE outer P w H s Q u s'
  | .ok _=>False
  | .error e=>CX outer H s E e s'
structure eJ(P:Program)(w:World)(K:PySem.W.Frag)(mg:Str→Option Value)(base:Heap)(CX:lI)(k:Nat)(f:Addr)(fd:FuncData)(ps:List Str)(sp:Sp):Prop where
  len:∀ vs H Q E,sp vs H Q E→vs.length=ps.length
  run:∀ (A:Around) (outer:List Env) (s:Shared) (H:Hp) (args:Args) (us:List Value) (vs:List V) (Q:VK) (E:XK),Room k A→Env0 P w K mg base A outer s H→BindsTo s fd args (ps.zip us)→Vals vs us→sp vs H Q E→
    codeAny (model P w) A (.call (.ref f) args) (CR CX outer P w H s Q E) s
theorem Env0.make{P:Program}{w:World}{K:PySem.W.Frag}{mg:Str→Option Value}{base:Heap}{A:Around}{outer:List Env}{s:Shared}{H:Hp}(e:Env0 P w K mg base A outer s H)(C:Addr)(us:List Value)(kw:List (Str×Value)) :
    Env0 P w K mg base (A.under (.builtin "type.__call__" ⟨.ref C::us,kw⟩)) outer s H:=⟨by first | exact e.frames | (simpa [Around.under,Code.envs,Code.isFrame,pushEnvs] using e.frames),e.mod,e.bs,e.bsz,e.funs,e.frf,e.hok,e.bare⟩
section
variable {X:Cx}{pins:List (Addr×Obj)}{σ:St}{H:Hp}{s s':Shared}
theorem Inv.env0(I:Inv X pins σ H s):Env0 X.prog X.w X.K X.mg X.base X.A X.stack s H:=
  ⟨I.ok.frames,I.ok.mod,I.bs,las I.ok.bsz I.sz,I.stack,I.stkFree,I.hok,I.bare⟩
theorem Inv.after{Q:VK}{u:Value}(I:Inv X pins σ H s)(h:CE X.stack X.prog X.w H s Q u s'):EP X pins σ Q u s':=by
  obtain ⟨v,H',os,bare,un,hok,r,q⟩:=h
  obtain ⟨hh,g,d,t,os'⟩:=s'
  obtain rfl:os'=s.os:=os
  exact ⟨v,H',I.call (h':=hh) (g':=g) (d':=d) (t':=t) (ch:=[]) un hok bare (fun b z=>absurd z (by simp)),r,q⟩
end
def a_(sp:Sp)(dvs:List V)(E:XK)(t:TA):TE:=fun σ H Q=>t σ H fun vs H1=>sp (vs++dvs) H1 Q E
def bc(C:Addr)(m:Str)(sp:Sp)(dvs:List V)(E:XK)(ta:TE)(t:TA):TE:=fun σ H Q=>ta σ H fun x H1=>∃ a dx fs,x=.ref a∧H1 a=some (.ins C dx fs)∧fs.lookup m=none∧
  t σ H1 fun vs H2=>sp (x::(vs++dvs)) H2 Q E
def nF(C:Addr)(sp:Sp)(dvs:List V)(E:XK)(t:TA):TE:=fun σ H Q=>t σ H fun vs H1=>∀ x dx,H1 x=none→H1 dx=none→dx≠x→
  sp (.ref x::(vs++dvs)) (upd (upd H1 dx (.own x)) x (.ins C dx [])) (fun v H2=>v=.non∧Q (.ref x) H2) E
def Binds(K:PySem.W.Frag)(fd:FuncData)(ps:List Str)(ds:List Value):Prop:=
  ∀ (s:Shared) (us:List Value),K.In s.heap→(us++ds).length=ps.length→BindsTo s fd ⟨us,[]⟩ (ps.zip (us++ds))
theorem Binds.all{K:PySem.W.Frag}{fd:FuncData}{ps:List Str}(h:∀ us:List Value,us.length=ps.length→bindArgs fd ⟨us,[]⟩=pure (ps.zip us)):Binds K fd ps []:=fun s us _ hl=>by
  rw [laF] at hl ⊢
  exact .of_eq (h us hl)
def io(CX:lI)(X:Cx)(E:XK):Prop:=∀ (pins:List (Addr×Obj)) (σ:St) (H:Hp) (s:Shared) (e:Value) (s':Shared),Inv X pins σ H s→CX X.stack H s E e s'→X.xe e s'
section
variable {X:Cx}{CX:lI}{k:Nat}{f C:Addr}{fd:FuncData}{ps:List Str}{sp:Sp}{dvs:List V}{ds:List Value}{E:XK}{x m:Str}{p pos apos:Pos}{e o:Expr}{es:List Expr}{ta:TE}{t:TA}
theorem nM{pins:List (Addr×Obj)}{σ:St}{H:Hp}{s:Shared}{Q:VK}{us:List Value}{vs:List V}(F:eJ X.prog X.w X.K X.mg X.base CX k f fd ps sp)(hr:Room k X.A)(hb:Binds X.K fd ps ds)(hd:Vals dvs ds)(hx:io CX X E)
    (I:Inv X pins σ H s)(r:Vals vs us)(h:sp (vs++dvs) H Q E):wpAny (model X.prog X.w) X.A (call (.ref f) us) (EP X pins σ Q) X.xe s:=by
  have r2:Vals (vs++dvs) (us++ds):=r.append hd
  have hl:(us++ds).length=ps.length:=by rw [← r2.length];exact F.len _ _ _ _ h
  refine wpAny_call (codeAny_mono (F.run X.A X.stack s H ⟨us,[]⟩ (us++ds) (vs++dvs) Q E hr I.env0 (hb s us I.kIn hl) r2 h) fun r s' hq=>?_)
  cases r with
  | error e=>exact hx pins σ H s e s' I hq
  | ok fl=>
    cases fl with
    | ret u=>exact I.after hq
    | next=>exact False.elim hq
    | brk=>exact False.elim hq
    | cont=>exact False.elim hq
theorem aL(F:eJ X.prog X.w X.K X.mg X.base CX k f fd ps sp)(hr:Room k X.A)(hg:Gl X x)(hm:X.mg x=some (.ref f))(hk:PySem.W.keepIn X.K (.ref f)=true)(hb:Binds X.K fd ps ds)(hd:Vals dvs ds)(hx:io CX X E)
    (ha:PA X (e::es) t)(hdb:(x==("__debug__":Str))=false:=by decide)(he:starEach (e::es) X.env=(false,eval e X.env)::starEach es X.env:=by rfl)(hpl:(backTo pos (starEach es X.env)).any (·.1)=false:=by rfl) :
    PE X (.Call (.Name x p) (e::es) [] pos) (a_ sp dvs E t):=by
  intro pins s σ H Q I h
  refine wpAny_Call_Name_kw (oI I hg hm ?_ hdb)
  refine PySem.W.callWith_K (h₀:=X.base) I.ok.mod.kin hk (bm (ha pos pins s σ H _ I h) fun us s1 ⟨vs,H1,I1,r,q⟩=>⟨I1.kIn,?_⟩) he hpl
  exact nM F hr hb hd hx I1 r q
theorem sK(F:eJ X.prog X.w X.K X.mg X.base CX k f fd ps sp)(hr:Room k X.A)(hg:Gl X x)(hm:X.mg x=some (.ref f))(hk:PySem.W.keepIn X.K (.ref f)=true)(hb:Binds X.K fd ps ds)(hd:Vals dvs ds)(hx:io CX X E)
    (hdb:(x==("__debug__":Str))=false:=by decide):PE X (.Call (.Name x p) [] [] pos) (a_ sp dvs E ak):=by
  intro pins s σ H Q I h
  refine wpAny_Call_Name_kw (oI I hg hm ?_ hdb)
  exact PySem.W.callWith_K0 I.kIn hk (nM (us:=[]) F hr hb hd hx I .nil h)
theorem aV{pl:Sem Bool}(he:PE X o ta)(c:Cls X.K C)(hm:cH X.K C m f)(F:eJ X.prog X.w X.K X.mg X.base CX k f fd ps sp)(hr:Room k X.A)(hb:Binds X.K fd ps ds)(hd:Vals dvs ds)(hx:io CX X E)(ha:PA X (e::es) t)
    (hst:starEach (e::es) X.env=(false,eval e X.env)::starEach es X.env:=by rfl)(hpl:(backTo pos (starEach es X.env)).any (·.1)=false:=by rfl)
    (ht:eval (.Call (.Attribute o m apos) (e::es) [] pos) X.env=(do
      let ov ← eval o X.env
      standAt apos.atName
      let (f,first) ← holding [ov] (getMethod ov m pl)
      callWith pos f first (backTo pos (starEach (e::es) X.env)) (backToKw pos (keywordEach [] X.env))):=by rfl) :
    PE X (.Call (.Attribute o m apos) (e::es) [] pos) (bc C m sp dvs E ta t):=by
  intro pins s σ H Q I h
  refine PySem.W.methodCall_KW (pl:=pl) (bm (he pins s σ H _ I h) fun u s1 ⟨x,H1,I1,rx,a,dx,fs,ex,ea,l,q⟩=>?_) ht
  subst ex
  obtain rfl:u=Value.ref a:=rx
  refine jV I1 ea c hm l ?_
  refine PySem.W.callWith_K (first:=[.ref a]) (h₀:=X.base) I.ok.mod.kin hm.kp (bm (ha pos pins s1 σ H1 _ I1 q) fun us s2 ⟨vs,H2,I2,r,q2⟩=>⟨I2.kIn,?_⟩) hst hpl
  exact nM (us:=.ref a::us) (vs:=.ref a::vs) F hr hb hd hx I2 (.cons rfl r) q2
theorem fV{pl:Sem Bool}(he:PE X o ta)(c:Cls X.K C)(hm:cH X.K C m f)(F:eJ X.prog X.w X.K X.mg X.base CX k f fd ps sp)(hr:Room k X.A)(hb:Binds X.K fd ps ds)(hd:Vals dvs ds)(hx:io CX X E)
    (ht:eval (.Call (.Attribute o m apos) [] [] pos) X.env=(do
      let ov ← eval o X.env
      standAt apos.atName
      let (f,first) ← holding [ov] (getMethod ov m pl)
      callWith pos f first (backTo pos (starEach [] X.env)) (backToKw pos (keywordEach [] X.env))):=by rfl) :
    PE X (.Call (.Attribute o m apos) [] [] pos) (bc C m sp dvs E ta ak):=by
  intro pins s σ H Q I h
  refine PySem.W.methodCall_KW (pl:=pl) (bm (he pins s σ H _ I h) fun u s1 ⟨x,H1,I1,rx,a,dx,fs,ex,ea,l,q⟩=>?_) ht
  subst ex
  obtain rfl:u=Value.ref a:=rx
  refine jV I1 ea c hm l ?_
  exact PySem.W.callWith_K0 (first:=[.ref a]) I1.kIn hm.kp (nM (us:=[.ref a]) (vs:=[.ref a]) F hr hb hd hx I1 (.cons rfl .nil) q)
structure Mk(K:PySem.W.Frag)(C f:Addr):Prop where
  makes:PySem.W.makesIn K C=true
  init:PySem.W.findIn K (.ref C) "__init__"=some (some (.ref f))
  fn:PySem.W.isFn K (.ref f)=true
  kp:PySem.W.keepIn K (.ref C)=true
theorem yZ{pins:List (Addr×Obj)}{σ:St}{H:Hp}{s:Shared}{Q:VK}{us:List Value}{vs:List V}(M:Mk X.K C f)(F:eJ X.prog X.w X.K X.mg X.base CX k f fd ps sp)(hr:Room (k+1) X.A)(hb:Binds X.K fd ps ds)(hd:Vals dvs ds)
    (hx:io CX X E)(I:Inv X pins σ H s)(r:Vals vs us)
    (h:∀ x dx,H x=none→H dx=none→dx≠x→sp (.ref x::(vs++dvs)) (upd (upd H dx (.own x)) x (.ins C dx [])) (fun v H2=>v=.non∧Q (.ref x) H2) E) :
    wpAny (model X.prog X.w) X.A (call (.ref C) us) (EP X pins σ Q) X.xe s:=by
  have hq:=h (s.heap.objs.size+1) s.heap.objs.size (I.hok.fresh (Nat.le_succ _)) (I.hok.fresh (lat _)) (Nat.ne_of_lt (Nat.lt_succ_self _))
  have I2:=Inv.made (C:=C) I
  have r2:Vals (V.ref (s.heap.objs.size+1)::(vs++dvs)) (Value.ref (s.heap.objs.size+1)::(us++ds)):=.cons rfl (r.append hd)
  have hl:(Value.ref (s.heap.objs.size+1)::us++ds).length=ps.length:=by
    have e:=r2.length
    rw [F.len _ _ _ _ hq] at e
    exact e.symm
  refine wpAny_call (x4 (f:=f) I.kIn M.makes M.init (beq_iff_eq.mp M.fn) (codeAny_mono (F.run _ X.stack _ _ ⟨Value.ref (s.heap.objs.size+1)::us,[]⟩ (Value.ref (s.heap.objs.size+1)::(us++ds)) _ _ E (hr.make C us [])
    (I2.env0.make C us []) (hb _ (Value.ref (s.heap.objs.size+1)::us) I2.kIn hl) r2 hq) fun r s' hq'=>?_))
  cases r with
  | error e=>exact hx pins σ _ _ e s' I2 hq'
  | ok fl=>
    cases fl with
    | ret u=>
      obtain ⟨v,H',I3,rv,ev,q3⟩:=I2.after hq'
      subst ev
      exact ⟨rv,⟨V.ref (s.heap.objs.size+1),H',I3,rfl,q3⟩⟩
    | next=>exact False.elim hq'
    | brk=>exact False.elim hq'
    | cont=>exact False.elim hq'
theorem oA(M:Mk X.K C f)(F:eJ X.prog X.w X.K X.mg X.base CX k f fd ps sp)(hr:Room (k+1) X.A)(hg:Gl X x)(hm:X.mg x=some (.ref C))(hb:Binds X.K fd ps ds)(hd:Vals dvs ds)(hx:io CX X E)
    (ha:PA X (e::es) t)(hdb:(x==("__debug__":Str))=false:=by decide)(he:starEach (e::es) X.env=(false,eval e X.env)::starEach es X.env:=by rfl)(hpl:(backTo pos (starEach es X.env)).any (·.1)=false:=by rfl) :
    PE X (.Call (.Name x p) (e::es) [] pos) (nF C sp dvs E t):=by
  intro pins s σ H Q I h
  refine wpAny_Call_Name_kw (oI I hg hm ?_ hdb)
  refine PySem.W.callWith_K (h₀:=X.base) I.ok.mod.kin M.kp (bm (ha pos pins s σ H _ I h) fun us s1 ⟨vs,H1,I1,r,q⟩=>⟨I1.kIn,?_⟩) he hpl
  exact yZ M F hr hb hd hx I1 r q
end
section
variable {X:Cx}{CX:lI}{k:Nat}{f C:Addr}{fd:FuncData}{ps ks:List Str}{sp:Sp}{E:XK}{x m:Str}{p pos apos kpos:Pos}{e o:Expr}{es:List Expr}{kws:List Keyword}{te ta:TE}{t tk:TA}{nm:Option Str}
variable {g:List Value→List Value→List Value}{gV:List V→List V→List V}
end
structure aE(N P:List Str)(sc:Scope):Prop where
  kind:sc.kind=.function
  co:sc.isCoroutine=false
  gen:sc.isGenerator=false
  nd:N.Nodup
  pre:N.take P.length=P
  par:∀ x∈P,sc.names.lookup x=some .local∨sc.names.lookup x=some .cell
  nofree:∀ y∈sc.names,y.2≠.free
theorem o7{kindOf:Str→Option NameKind}{x:Str}:∀ {binds:List (Str×Value)} {m:Str→Option Value},(∀ v,(x,v)∉binds)→bindL kindOf binds m x=m x
  | [],_,_=>rfl
  | (n,v)::r,m,h=>by
    unfold bindL
    rw [o7 fun w hw=>h w (lac _ hw)]
    split
    · have:x≠n:=by rintro rfl;exact h v List.mem_cons_self
      simp [this]
    · rfl
theorem pP{kindOf:Str→Option NameKind}{x:Str}:∀ {binds:List (Str×Value)} {m:Str→Option Value},(∀ v,(x,v)∉binds)→bindC kindOf binds m x=m x
  | [],_,_=>rfl
  | (n,v)::r,m,h=>by
    unfold bindC
    rw [pP fun w hw=>h w (lac _ hw)]
    split
    · rfl
    · have:x≠n:=by rintro rfl;exact h v List.mem_cons_self
      simp [this]
theorem pF{kindOf:Str→Option NameKind}{x:Str}{v:Value}:∀ {P:List Str} {vs:List Value} {i:Nat} {m:Str→Option Value},P.Nodup→P[i]?=some x→vs[i]?=some v→kindOf x=some .local→
    bindL kindOf (P.zip vs) m x=some v
  | [],_,_,_,_,h,_,_=>by simp at h
  | _::_,[],_,_,_,_,h,_=>by simp at h
  | p::P,w::vs,0,m,nd,h1,h2,hk=>by
    simp at h1 h2;subst h1;subst h2
    show bindL kindOf ((p,w)::P.zip vs) m p=_
    unfold bindL
    rw [o7 fun v hv=>(List.nodup_cons.mp nd).1 (List.of_mem_zip hv).1,if_pos hk]
    simp
  | p::P,w::vs,i+1,m,nd,h1,h2,hk=>by
    show bindL kindOf ((p,w)::P.zip vs) m x=_
    unfold bindL
    exact pF (i:=i) (List.nodup_cons.mp nd).2 (by simpa using h1) (by simpa using h2) hk
theorem pQ{kindOf:Str→Option NameKind}{x:Str}{v:Value}:∀ {P:List Str} {vs:List Value} {i:Nat} {m:Str→Option Value},P.Nodup→P[i]?=some x→vs[i]?=some v→kindOf x≠some .local→
    bindC kindOf (P.zip vs) m x=some v
  | [],_,_,_,_,h,_,_=>by simp at h
  | _::_,[],_,_,_,_,h,_=>by simp at h
  | p::P,w::vs,0,m,nd,h1,h2,hk=>by
    simp at h1 h2;subst h1;subst h2
    show bindC kindOf ((p,w)::P.zip vs) m p=_
    unfold bindC
    rw [pP fun v hv=>(List.nodup_cons.mp nd).1 (List.of_mem_zip hv).1,if_neg hk]
    simp
  | p::P,w::vs,i+1,m,nd,h1,h2,hk=>by
    show bindC kindOf ((p,w)::P.zip vs) m x=_
    unfold bindC
    exact pQ (i:=i) (List.nodup_cons.mp nd).2 (by simpa using h1) (by simpa using h2) hk
def aT(N:List Str)(vs:List V):St:=vs.map some++List.replicate (N.length - vs.length) none
def bi(CX:lI)(P:Program)(w:World)(K:PySem.W.Frag)(mg:Str→Option Value)(base:Heap)(N:List Str)(qual:Str)(scope:Scope)(f:Addr)(cd:Value)(A:Around)(outer:List Env)(s:Shared)(H:Hp)(E:XK):Cx where
  prog:=P
  w:=w
  K:=K
  mg:=mg
  base:=base
  A:=A.deeper (envOfC qual scope s.heap.objs.size f cd)
  N:=N
  s₀:=s
  H₀:=H
  env:=envOfC qual scope s.heap.objs.size f cd
  outer:=outer
  stack:=envOfC qual scope s.heap.objs.size f cd::outer
  ex:=[]
  calm:=true
  fn:=fun _=>true
  pn:=[]
  xe:=fun e s'=>wpAny (model P w) (A.deeper (envOfC qual scope s.heap.objs.size f cd)) (leaving (envOfC qual scope s.heap.objs.size f cd) e) (fun _ s''=>CX outer H s E e s'') (fun e' s''=>CX outer H s E e' s'') s'
theorem q0{sc:Scope}{n:Nat}{x:Str}(h:sc.names.lookup x=some .cell):∃ c,(cellsFrom n sc.names []).lookup x=some c:=by
  have q:=PySem.W.cellsFrom_some sc.names n [] (.inl h)
  exact Option.isSome_iff_exists.mp q
theorem xo{CX:lI}{P:Program}{w:World}{K:PySem.W.Frag}{mg:Str→Option Value}{base:Heap}{N ps:List Str}{qual:Str}{scope:Scope}{f:Addr}{cd:Value}{A:Around}{outer:List Env}{s s1:Shared}{H:Hp}{E:XK}{us:List Value}{vs:List V}
    (S:aE N ps scope)(hd:A.handled=none)(e0:Env0 P w K mg base A outer s H)(hl:vs.length=ps.length)(r:Vals vs us)
    (x:InCallC s s.heap.objs.size (bindL (envOfC qual scope s.heap.objs.size f cd).kindOf (ps.zip us) fun _=>none) (cellsFrom (s.heap.objs.size+1) scope.names []) (bindC (envOfC qual scope s.heap.objs.size f cd).kindOf (ps.zip us) fun _=>none) s1) :
    Inv (bi CX P w K mg base N qual scope f cd A outer s H E) [] (aT N vs) H s1:=by
  have hpl:ps.length≤N.length:=by have:=congrArg List.length S.pre;rw [lax] at this;omega
  obtain ⟨h1,tk,rfl,hk⟩:=x.done
  have noA:∀ b:Addr,b∉(bi CX P w K mg base N qual scope f cd A outer s H E).ex:=fun b z=>absurd (show b∈([]:List Addr) from z) (by simp)
  refine ⟨⟨e0.mod,S.kind,rfl,rfl,lat _,fun y z c h1 h2=>?_,fun y hy=>?_,fun y c _ h=>?_,fun _=>hd,Around.frames_deeper e0.frames,.inr ⟨rfl,rfl⟩,fun b z=>absurd z (noA b),e0.bs,e0.bsz,fun b _ _=>noA b,fun b z=>absurd z (noA b),e0.funs,e0.frf⟩,
    rfl,e0.bare,Un.kept hk,⟨_,x.toInCall.ns,fun i y v h1 h2 h3=>?_⟩,fun y c h=>⟨_,x.cell y c h⟩,e0.hok.fresh (lat _),fun y c h=>?_,fun p hp=>absurd (show p∈([]:List (Addr×Obj)) from hp) (by simp),e0.hok.kept hk,?_⟩
  · exact name_of_addr x.apart (PySem.mem_of_lookup h1) (PySem.mem_of_lookup h2)
  · have hy:scope.names.lookup y=some .cell∨scope.names.lookup y=some .free:=hy
    rcases hy with hy | hy
    · exact q0 hy
    · exact absurd rfl (S.nofree _ (PySem.mem_of_lookup hy))
  · exact Nat.le_of_lt (x.above y c (PySem.mem_of_lookup h))
  · have hi:i<vs.length:=by
      unfold aT at h2
      by_cases hi:i<vs.length
      · exact hi
      · rw [List.getElem?_append_right (by simpa using hi)] at h2
        rw [List.getElem?_replicate] at h2
        split at h2 <;> cases h2
    have ha:vs[i]?=some v:=by
      unfold aT at h2
      rw [List.getElem?_append_left (by simpa using hi),lae] at h2
      cases e:vs[i]? with
      | none=>rw [e] at h2;cases h2
      | some a=>rw [e] at h2;cases h2;rfl
    obtain ⟨u,hu,rv⟩:=r.get ha
    have hp:ps[i]?=some y:=by
      rw [← S.pre,List.getElem?_take_of_lt (by omega)];exact h1
    have ndP:ps.Nodup:=by rw [← S.pre];exact S.nd.sublist (List.take_sublist _ _)
    refine ⟨u,rv,?_⟩
    rcases S.par y (lam hp) with k | k
    · exact .inl ⟨k,pF ndP hp hu k⟩
    · obtain ⟨c,e⟩:=q0 (n:=s.heap.objs.size+1) k
      refine .inr ⟨.inl k,c,e,?_⟩
      have q:=x.cell y c e
      rw [pQ ndP hp hu (by show scope.names.lookup y≠_;rw [k];decide)] at q
      exact q
  · exact e0.hok.fresh (Nat.le_of_lt (x.above y c (PySem.mem_of_lookup h)))
  · unfold aT
    show _=N.length
    rw [laf,laa,List.length_replicate]
    omega
theorem DZ{CX:lI}{P:Program}{w:World}{K:PySem.W.Frag}{mg:Str→Option Value}{base:Heap}{k:Nat}{f:Addr}{name qual:Str}{params:Arguments}{body:List Stmt}{scope:Scope}{dV kV doc pm cdv ct oc:Value}{an od:Option Addr}
    {osl:Array (Option Value)}{N ps:List Str}{sp:Sp}(lk:K.lookup f=some ⟨oc,od,.func (PySem.W.fnOf name qual params body scope dV kV doc pm an cdv ct),osl⟩)(hcd:PySem.W.codeIn K cdv qual=true)(S:aE N ps scope)
    (len:∀ vs H Q E,sp vs H Q E→vs.length=ps.length)
    (hbody:∀ (A:Around) (outer:List Env) (s:Shared) (H:Hp) (vs:List V) (Q:VK) (E:XK),Room k (A.deeper (envOfC qual scope s.heap.objs.size f cdv))→sp vs H Q E→
      ∃ t,PSs (bi CX P w K mg base N qual scope f cdv A outer s H E) body t∧t { nx:=fun _ H'=>Q .non H',rt:=Q } (aT N vs) H) :
    eJ P w K mg base CX (k+1) f (PySem.W.fnOf name qual params body scope dV kV doc pm an cdv ct) ps sp:=by
  refine ⟨len,fun A outer s H args us vs Q E hr e0 hb r hsp=>?_⟩
  have hl:=len _ _ _ _ hsp
  have KX:K.In s.heap:=e0.mod.kin.keeps fun b o e=>(e0.bs b o e).1
  have lim:s.heap.NoLimit:=e0.mod.nolimit.keeps fun b o e=>(e0.bs b o e).1
  have hkind:∀ y∈ps.zip us,scope.names.lookup y.1=some .local∨(scope.names.lookup y.1=some .cell∧((cellsFrom (s.heap.objs.size+1) scope.names []).lookup y.1).isSome=true):=fun ⟨n,v⟩ hy=>by
    rcases S.par n (List.of_mem_zip hy).1 with q | q
    · exact .inl q
    · exact .inr ⟨q,PySem.W.cellsFrom_some _ _ _ (.inl q)⟩
  refine codeAny_call_function hr.depth (KX _ _ lk) rfl S.co S.gen rfl (PySem.W.codeRec_of KX hcd) (hb _ _ _ _ ?_)
  refine wpAny_newFunctionEnv_cells S.kind hkind fun env he s1 x=>?_
  subst he
  refine ⟨lim.keeps x.toInCall.keep,codeAny_func ?_⟩
  obtain ⟨t,ht,hq⟩:=hbody A outer s H vs Q E (hr.deeper _) hsp
  have I:Inv (bi CX P w K mg base N qual scope f cdv A outer s H E) [] (aT N vs) H s1:=xo S hr.hd e0 hl r x
  refine wpAny_mono (ht [] s1 (aT N vs) H _ I hq) (fun fl s' hs=>?_) fun e s' hs=>hs
  have fin:∀ {σ':St} {H':Hp} {v:V} {u:Value},Inv (bi CX P w K mg base N qual scope f cdv A outer s H E) [] σ' H' s'→RelV v u→Q v H'→CE outer P w H s Q u s':=
    fun {σ' H' v u} J rv q=>⟨v,H',J.os,J.bare,J.base,J.hok,rv,q⟩
  cases fl with
  | ret u=>
    obtain ⟨v,σ',H',J,rv,q⟩:=hs
    exact fin J rv q
  | next=>
    obtain ⟨σ',H',J,q⟩:=hs
    exact fin (v:=V.non) (u:=Value.none) J rfl q
  | brk=>
    obtain ⟨_,_,_,q⟩:=hs
    exact False.elim q
  | cont=>
    obtain ⟨_,_,_,q⟩:=hs
    exact False.elim q
end L2
namespace L2
open PySem PySem.Spec PyProof.Rows
section
variable {X:Cx}{x:Str}{p pos:Pos}{e:Expr}{es:List Expr}{t:TA}{id T:String}{r:List V→Hp→VK→Prop}
def bv(r:List V→Hp→VK→Prop)(t:TA):TE:=fun σ H Q=>t σ H fun vs H1=>r vs H1 Q
theorem aG(hc:gG X (.builtin id) r)(hg:Gl X x)(hm:X.mg x=none)(hv:bootBuiltins x=some (.builtin id))(ha:PA X (e::es) t)(hn:x≠"__name__":=by decide)(hdb:(x==("__debug__":Str))=false:=by decide)
    (he:starEach (e::es) X.env=(false,eval e X.env)::starEach es X.env:=by rfl) (hpl:(backTo pos (starEach es X.env)).any (·.1)=false:=by rfl):PE X (.Call (.Name x p) (e::es) [] pos) (bv r t):=by
  intro pins s σ H Q I h
  refine wpAny_Call_Name_kw (nZ I hg hm hv ?_ hn hdb)
  exact PyProof.Rows.callWith_builtin1 (bm (ha pos pins s σ H _ I h) fun us s1 ⟨vs,H1,I1,r1,q1⟩=>hc pins s1 σ H1 vs us Q I1 r1 q1) he hpl
theorem cz(hc:gG X (.type T) r)(hg:Gl X x)(hm:X.mg x=none)(hv:bootBuiltins x=some (.type T))(ha:PA X (e::es) t)(hn:x≠"__name__":=by decide)(hdb:(x==("__debug__":Str))=false:=by decide)
    (he:starEach (e::es) X.env=(false,eval e X.env)::starEach es X.env:=by rfl) (hpl:(backTo pos (starEach es X.env)).any (·.1)=false:=by rfl):PE X (.Call (.Name x p) (e::es) [] pos) (bv r t):=by
  intro pins s σ H Q I h
  refine wpAny_Call_Name_kw (nZ I hg hm hv ?_ hn hdb)
  exact PyProof.Rows.callWith_type1 (bm (ha pos pins s σ H _ I h) fun us s1 ⟨vs,H1,I1,r1,q1⟩=>hc pins s1 σ H1 vs us Q I1 r1 q1) he hpl
end
end L2
namespace HT
open PySem PyProof.Rows
section
open PySem.SeqAt
open PySem.AutoSeq1 (wpAny_loadPart')
open PySem.MeetsSeq PySem.MeetsSeq2 PySem.MeetsSeq3
end
section
variable {prog:Program}{w:World}{A:Around}{E:Value→Shared→Prop}{s:Shared}
def sIx(n d:Nat):Option Int→Nat
  | none=>d
  | some v=>if v<0 then (v+(n:Int)).toNat else min v.toNat n
theorem Bu(n d:Nat)(hd:d≤n)(o:Option Int):sIx n d o≤n:=by
  cases o with
  | none=>exact hd
  | some v=>
    show (if v<0 then (v+(n:Int)).toNat else min v.toNat n)≤n
    by_cases hv:v<0
    · rw [if_pos hv];omega
    · rw [if_neg hv];exact Nat.min_le_right _ _
theorem tY(v:Int)(n d:Nat):(if v<0 then max (v+(n:Int)) 0 else min v (n:Int))=((sIx n d (some v):Nat):Int):=by
  show (if v<0 then max (v+(n:Int)) 0 else min v (n:Int))=(((if v<0 then (v+(n:Int)).toNat else min v.toNat n):Nat):Int)
  by_cases hv:v<0
  · simp only [if_pos hv];omega
  · simp only [if_neg hv];omega
theorem ut(lo hi:Option Int)(n:Nat):Builtin.Slice.sliceAdjust lo hi 1 (n:Int)=(((sIx n 0 lo:Nat):Int),((sIx n n hi:Nat):Int)):=by
  have h1:¬ ((1:Int)<0):=by omega
  unfold Builtin.Slice.sliceAdjust
  simp only [h1,if_false]
  refine Prod.ext ?_ ?_
  · cases lo with
    | none=>rfl
    | some v=>exact tY v n 0
  · cases hi with
    | none=>rfl
    | some v=>exact tY v n n
theorem vK(i j:Nat):Builtin.Slice.slicePlaces (i:Int) (j:Int) 1=j - i:=by
  unfold Builtin.Slice.slicePlaces
  have h1:(1:Int)>0:=by omega
  simp only [h1,if_true,Int.ediv_one]
  split <;> omega
theorem nz{v:Value}{o:Option Int}{Q:Option Int→Shared→Prop}(p:IsPart v o)(h:Q o s):wpAny (model prog w) A (Builtin.Slice.slicePartIndex v) Q E s:=by
  cases p with
  | none=>exact slicePart_none h
  | int i t=>exact slicePart_int h
theorem mX{sl:Addr}{vl vu:Value}{lo hi:Option Int}{n:Nat}{Q:Int×Int×Nat→Shared→Prop}(hs:s.heap.IsSliceOf sl vl vu .none)(pl:IsPart vl lo)(pu:IsPart vu hi)
    (h:Q (((sIx n 0 lo:Nat):Int),1,sIx n n hi - sIx n 0 lo) s):wpAny (model prog w) A (Builtin.Slice.sliceApplied (.ref sl) (pure (n:Int))) Q E s:=by
  obtain ⟨os,hos,hcs,hds⟩:=id hs
  unfold Builtin.Slice.sliceApplied Builtin.Slice.sliceFields
  refine wpAny_bind (wpAny_bind (wpAny_field hos hds (x:=vl) rfl (wpAny_bind (wpAny_field hos hds (x:=vu) rfl (wpAny_bind (wpAny_field hos hds (x:=.none) rfl (wpAny_pure ?_)))))))
  refine wpAny_bind (slicePart_none ?_)
  show wpAny _ _ (if ((1:Int)==0)=true then _ else _) _ _ s
  rw [if_neg (by decide)]
  refine wpAny_bind (nz pl (wpAny_bind (nz pu (wpAny_bind (wpAny_pure ?_)))))
  show wpAny _ _ (match Builtin.Slice.sliceAdjust lo hi 1 (n:Int) with | (lo,hi)=>pure (lo,(1:Int),Builtin.Slice.slicePlaces lo hi 1)) _ _ s
  rw [ut lo hi n]
  show wpAny _ _ (pure (((sIx n 0 lo:Nat):Int),(1:Int),Builtin.Slice.slicePlaces ((sIx n 0 lo:Nat):Int) ((sIx n n hi:Nat):Int) 1)) _ _ s
  rw [vK]
  exact wpAny_pure h
theorem x0(xs:Array Value)(i k:Nat):((List.range k).filterMap fun (m:Nat)=>xs[((i:Int)+(m:Int)*1).toNat]?).toArray=((xs.toList.drop i).take k).toArray:=by
  have e:(fun (m:Nat)=>xs[((i:Int)+(m:Int)*1).toNat]?)=fun m=>xs[i+m]?:=by
    funext m
    have:((i:Int)+(m:Int)*1).toNat=i+m:=by omega
    rw [this]
  rw [e]
  have:=pick_run xs i k
  rw [List.filterMap_map] at this
  have e2:((fun x=>xs[x]?) ∘ fun x=>i+x)=fun m=>xs[i+m]?:=rfl
  rw [e2] at this
  rw [this]
theorem getItem_tuple_cut{t sl:Addr}{items:Array Value}{vl vu:Value}{lo hi:Option Int}{Q:Value→Shared→Prop}(ht:IsTup s.heap t items)(hs:s.heap.IsSliceOf sl vl vu .none)(pl:IsPart vl lo)(pu:IsPart vu hi)
    (hw:¬ (sIx items.size 0 lo=0∧sIx items.size items.size hi=items.size))
    (h:Q (.ref s.heap.objs.size) { s with heap:=s.heap.push { cls:=.type "tuple",data:=.seq ((items.toList.drop (sIx items.size 0 lo)).take (sIx items.size items.size hi - sIx items.size 0 lo)).toArray } })
    (hsz:items.size≤sizeLine):wpAny (model prog w) A (getItem (.ref t) (.ref sl)) Q E s:=by
  have htake:sizeOk (.seq ((items.toList.drop (sIx items.size 0 lo)).take (sIx items.size items.size hi - sIx items.size 0 lo)).toArray):=by
    show ((items.toList.drop (sIx items.size 0 lo)).take (sIx items.size items.size hi - sIx items.size 0 lo)).toArray.size≤sizeLine
    rw [laH,lax,List.length_drop,Array.length_toList]
    omega
  have hj:sIx items.size items.size hi≤items.size:=Bu _ _ (lat _) hi
  obtain ⟨os,hos,hcs,hds⟩:=id hs
  have hTs:s.TypeIs (.ref sl) "slice":=⟨os,hos,hcs⟩
  unfold getItem
  try with_reducible refine wpAny_holding ?_
  first | refine wpAny_bind (wpAny_pure ?_) | skip
  refine wpAny_bind (wpAny_sequenceKey ht.typeIs (by decide) ?_)
  refine wpAny_bind (wpAny_callSpecial?_slot (name:=Str.ofString "__getitem__") ht.typeIs PyProof.Rows.slot_tuple_getitem
    (wpAny_call_entry PyProof.Rows.slot_tuple_getitem ht.typeIs entry_tuple_getitem ?_ (args_tuple_getitem _ _)))
  show wpAny _ _ (Builtin.Tuple.tupleItemsOf (.ref t) >>= _) _ _ s
  refine wpAny_bind (tupleItemsOf_ ht ?_)
  refine wpAny_bind (wpAny_typeOf hTs ?_)
  rw [if_pos (by decide)]
  refine wpAny_bind (mX hs pl pu ?_)
  have hno:¬ ((((sIx items.size 0 lo:Nat):Int)==0&&(1:Int)==1&&(sIx items.size items.size hi - sIx items.size 0 lo)==items.size)=true):=by
    intro q
    rw [Bool.and_eq_true,Bool.and_eq_true] at q
    have q1:((sIx items.size 0 lo:Nat):Int)=0:=eq_of_beq q.1.1
    have q2:sIx items.size items.size hi - sIx items.size 0 lo=items.size:=eq_of_beq q.2
    exact hw ⟨by omega,by omega⟩
  show wpAny _ _ (if (((sIx items.size 0 lo:Nat):Int)==0&&(1:Int)==1&&(sIx items.size items.size hi - sIx items.size 0 lo)==items.size)=true then _ else _) _ _ s
  rw [if_neg hno,x0]
  first
    | exact wpAny_bind (m:=Builtin.Tuple.tupleExact _) (wpAny_newObj_type (wpAny_pure ⟨_,rfl,wpAny_pure h⟩) htake)
    | exact wpAny_bind (m:=Builtin.Tuple.tupleExact _) (wpAny_newObj_type (wpAny_bind (wpAny_pure (wpAny_pure ⟨_,rfl,wpAny_pure h⟩))) htake)
    | exact wpAny_bind (wpAny_bind (m:=Builtin.Tuple.tupleExact _) (wpAny_newObj_type (wpAny_pure (wpAny_pure ⟨_,rfl,wpAny_pure h⟩)) htake))
    | exact wpAny_bind (wpAny_bind (m:=Builtin.Tuple.tupleExact _) (wpAny_newObj_type (wpAny_pure ⟨_,rfl,wpAny_pure h⟩) htake))
end
end HT
namespace L2
open PySem PySem.Spec PyProof.Rows
abbrev TO:=St→Hp→(Option Int→Hp→Prop)→Prop
def PO(X:Cx)(e:Option Expr)(t:TO):Prop:=
  ∀ (pins:List (Addr×Obj)) (s:Shared) (σ:St) (H:Hp) (Q:Option Int→Hp→Prop),Inv X pins σ H s→t σ H Q→
    wpAny (model X.prog X.w) X.A (evalPart e X.env) (fun u s'=>∃ o H',Inv X pins σ H' s'∧IsPart u o∧Q o H') X.xe s
def fY:TO:=fun _ H Q=>Q none H
def iD(t:TE):TO:=fun σ H Q=>t σ H fun x H1=>∃ i,x=.int i∧Q (some i) H1
section
variable {X:Cx}{e:Expr}{te:TE}{lo hi:Option Expr}{tl th:TO}{pos p2:Pos}
theorem jD:PO X none fY:=by
  intro pins s σ H Q I h
  rw [evalPart_none]
  exact wpAny_pure ⟨none,H,I,.none,h⟩
theorem f_(h:PE X e te):PO X (some e) (iD te):=by
  intro pins s σ H Q I hw
  rw [evalPart_some]
  refine bm (h pins s σ H _ I hw) fun u s1 ⟨x,H1,I1,r1,q1⟩=>?_
  obtain ⟨i,rfl,q⟩:=q1
  obtain ⟨t,rfl⟩:=r1
  exact ⟨some i,H1,I1,.int i t,q⟩
def BG(X:Cx)(r:V→Option Int→Option Int→Hp→VK→Prop):Prop:=
  ∀ (pins:List (Addr×Obj)) (s:Shared) (σ:St) (H:Hp) (x:V) (v vl vu:Value) (lo hi:Option Int) (sl:Addr) (Q:VK),Inv X pins σ H s→RelV x v→s.heap.IsSliceOf sl vl vu .none→IsPart vl lo→IsPart vu hi→r x lo hi H Q→
    ∃ T id,typeLookup (.type T) "__getitem__"=pure (some (.builtin id))∧s.TypeIs v T∧wpAny (model X.prog X.w) X.A (getItem v (.ref sl)) (EP X pins σ Q) X.xe s
def o4(r:V→Option Int→Option Int→Hp→VK→Prop)(te:TE)(tl th:TO):TE:=fun σ H Q=>te σ H fun x H1=>tl σ H1 fun l H2=>th σ H2 fun u H3=>r x l u H3 Q
theorem fZ{r:V→Option Int→Option Int→Hp→VK→Prop}(hr:BG X r)(he:PE X e te)(hl:PO X lo tl)(hu:PO X hi th):PE X (.Subscript e (.Slice lo hi none p2) pos) (o4 r te tl th):=by
  intro pins s σ H Q I h
  refine Subscript_ (bm (he pins s σ H _ I h) fun v s1 ⟨x,H1,I1,r1,q1⟩=>?_)
  refine wpAny_Slice (bm (hl pins s1 σ H1 _ I1 q1) fun vl s2 ⟨l,H2,I2,pl,q2⟩=>bm (hu pins s2 σ H2 _ I2 q2) fun vu s3 ⟨u,H3,I3,pu,q3⟩=>?_)
  rw [evalPart_none]
  refine wpAny_pure ?_
  have I4:Inv X pins σ H3 { s3 with heap:=s3.heap.push { cls:=.type "slice",data:=.fields #[vl,vu,.none] } }:=I3.kept (t':=s3.toks) fun b ob q=>Heap.get?_push_of_some _ q
  obtain ⟨T,id,hT,ht,hg⟩:=hr pins { s3 with heap:=s3.heap.push { cls:=.type "slice",data:=.fields #[vl,vu,.none] } } σ H3 x v vl vu l u s3.heap.objs.size Q I4 r1 (Heap.IsSliceOf.new ..) pl pu q3
  show wpAny (model X.prog X.w) X.A (subscriptTail e (.Slice lo hi none p2) v (.ref s3.heap.objs.size)) (EP X pins σ Q) X.xe { s3 with heap:=s3.heap.push { cls:=.type "slice",data:=.fields #[vl,vu,.none] } }
  exact tail_any (ops:=[.ref s3.heap.objs.size,v]) ht hT hg (by with_unfolding_all rfl)
def ir(xs:List V)(lo hi:Option Int):List V:=(xs.drop (HT.sIx xs.length 0 lo)).take (HT.sIx xs.length xs.length hi - HT.sIx xs.length 0 lo)
theorem mv(xs:List V)(lo hi:Option Int):(ir xs lo hi).length≤xs.length:=by
  unfold ir
  rw [lax,List.length_drop]
  omega
def BL(K:PySem.W.Frag):V→Option Int→Option Int→Hp→VK→Prop:=fun x lo hi H Q=>∃ a xs,x=.ref a∧fE K H a xs∧
  ¬ (HT.sIx xs.length 0 lo=0∧HT.sIx xs.length xs.length hi=xs.length)∧∀ p,H p=none→Q (.ref p) (upd H p (.tup (ir xs lo hi)))
theorem AX:BG X (BL X.K):=by
  intro pins s σ H x v vl vu lo hi sl Q I rx hs pl pu h
  obtain ⟨a,xs,rfl,hx,hw,q⟩:=h
  cases rx
  obtain ⟨its,r,ht,hz⟩:=I.tuple hx
  have hlen:its.toArray.size=xs.length:=by rw [laH];exact r.length.symm
  refine ⟨"tuple",_,PyProof.Rows.slot_tuple_getitem.lookup,ht.typeIs,?_⟩
  refine HT.getItem_tuple_cut ht hs pl pu (by rw [hlen];exact hw) ?_ (by rw [hlen];exact hz)
  rw [hlen]
  refine ⟨.ref s.heap.objs.size,_,I.laid (t':=s.toks) (o:=.tup (ir xs lo hi)) (fun b ob q=>Heap.get?_push_of_some _ q) (lat _) ?_,rfl,q _ (I.hok.fresh (lat _))⟩
  exact ⟨las (mv xs lo hi) hz,_,(r.drop (HT.sIx xs.length 0 lo)).take (HT.sIx xs.length xs.length hi - HT.sIx xs.length 0 lo),IsTup.new _ _⟩
end
end L2
namespace L2
open PySem PySem.Spec PyProof.Rows
def o_(n:Nat)(i:Int):Option Nat:=if 0≤i then (if i<n then some i.toNat else none) else if -(n:Int)≤i then some (i+n).toNat else none
def iW{α:Type}(xs:List α)(i:Int):Option α:=(o_ xs.length i).bind fun j=>xs[j]?
theorem zM{n:Nat}{i:Int}{j:Nat}(h:o_ n i=some j):seqIndex? i n=some j∧j<n∧-(n:Int)≤i∧i<n:=by
  unfold o_ at h
  by_cases h0:0≤i
  · rw [if_pos h0] at h
    by_cases h1:i<n
    · rw [if_pos h1] at h
      have e:i.toNat=j:=lan h
      exact ⟨by rw [seqIndex_of h0 h1,e],by omega,by omega,h1⟩
    · rw [if_neg h1] at h;cases h
  · rw [if_neg h0] at h
    by_cases h1:-(n:Int)≤i
    · rw [if_pos h1] at h
      have e:(i+n).toNat=j:=lan h
      exact ⟨by rw [seqIndex_neg (by omega) h1,e],by omega,h1,by omega⟩
    · rw [if_neg h1] at h;cases h
theorem oO{α:Type}{xs:List α}{i:Int}{v:α}(h:iW xs i=some v):∃ j,seqIndex? i xs.length=some j∧xs[j]?=some v∧j<xs.length∧-(xs.length:Int)≤i∧i<xs.length:=by
  unfold iW at h
  cases e:o_ xs.length i with
  | none=>rw [e] at h;cases h
  | some j=>
    rw [e] at h
    obtain ⟨h1,h2,h3,h4⟩:=zM e
    exact ⟨j,h1,h,h2,h3,h4⟩
theorem ce{α:Type}{xs:List α}{j:Nat}{v:α}(h:xs[j]?=some v):iW xs (j:Int)=some v:=by
  have hj:j<xs.length:=(lab.mp h).1
  have e:o_ xs.length (j:Int)=some j:=by
    unfold o_
    rw [if_pos (by omega),if_pos (by omega)];simp
  unfold iW;rw [e];exact h
theorem yc{α:Type}(xs:List α)(v:α):iW (xs++[v]) (-1)=some v:=by
  have hl:(xs++[v]).length=xs.length+1:=by simp
  have e:o_ (xs++[v]).length (-1)=some xs.length:=by
    unfold o_
    rw [hl,if_neg (by decide),if_pos (by omega)]
    congr 1
    omega
  unfold iW
  rw [e]
  show (xs++[v])[xs.length]?=some v
  simp
def zL(b:Expr):Prop:=∀ o i,subscripted b false o i=operate [o,i] (getItem o i)
def IxR(X:Cx)(r:R2):Prop:=
  ∀ (value slice:Expr) (pins:List (Addr×Obj)) (s:Shared) (σ:St) (H:Hp) (x y:V) (v u:Value) (Q:VK),Inv X pins σ H s→RelV x v→RelV y u→r x y H Q→
    subscripted slice false v u=operate [v,u] (getItem v u)→wpAny (model X.prog X.w) X.A (subscriptTail value slice v u) (EP X pins σ Q) X.xe s
def Je(X:Cx)(id:String)(r:V→List V→Hp→VK→Prop):Prop:=
  ∀ (pins:List (Addr×Obj)) (s:Shared) (σ:St) (H:Hp) (x:V) (xs:List V) (v:Value) (us:List Value) (Q:VK),Inv X pins σ H s→RelV x v→Vals xs us→r x xs H Q→
    wpAny (model X.prog X.w) X.A (call (.builtin id) (v::us)) (EP X pins σ Q) X.xe s
section
variable {X:Cx}{a b:Expr}{ta tb:TE}{pos:Pos}
theorem IxR.or{r r':R2}(h:IxR X r)(h':IxR X r'):IxR X (fun x y H Q=>r x y H Q∨r' x y H Q):=by
  intro value slice pins s σ H x y v u Q I rx ry q hs
  rcases q with q | q
  · exact h value slice pins s σ H x y v u Q I rx ry q hs
  · exact h' value slice pins s σ H x y v u Q I rx ry q hs
theorem aQ{r:R2}(hr:IxR X r)(ha:PE X a ta)(hb:PE X b tb)(hs:zL b):PE X (.Subscript a b pos) (ap r ta tb):=by
  intro pins s σ H Q I h
  exact Subscript_ (xS ha hb I h fun v u s2 x y H2 I2 rx ry q=>hr a b pins s2 σ H2 x y v u Q I2 rx ry q (hs _ _))
def cJ(K:PySem.W.Frag):R2:=fun x y H Q=>∃ p xs i v,x=.ref p∧y=.int i∧SqL K H p xs∧iW xs i=some v∧Q v H
def bK(K:PySem.W.Frag):R2:=fun x y H Q=>∃ p xs i v,x=.ref p∧y=.int i∧fE K H p xs∧iW xs i=some v∧Q v H
def Bt:R2:=fun x y H Q=>∃ z i c,x=.str z∧y=.int i∧z.length≤sizeLine∧iW z.cps.toList i=some c∧Q (.str ⟨#[c]⟩) H
theorem ix_list:IxR X (cJ X.K):=by
  intro value slice pins s σ H x y v u Q I rx ry h hs
  obtain ⟨p,xs,i,z,rfl,rfl,hq,he,q⟩:=h
  cases rx
  obtain ⟨t,rfl⟩:=ry
  obtain ⟨its,r,pl,hz⟩:=I.list hq
  obtain ⟨j,h1,h2,h3,h4,h5⟩:=oO he
  obtain ⟨w,ew,rw'⟩:=r.get h2
  have hl:=r.length
  have hn:=nB
  have fin:EP X pins σ Q w s:=⟨z,H,I,rw',q⟩
  by_cases h0:0≤i
  · have hj:i.toNat=j:=by
      rw [seqIndex_of h0 h5] at h1
      exact lan h1
    exact item_listR pl.isList h0 (by omega) (by rw [hj];simpa using ew) fin hs
  · have hj:(i+(its.toArray.size:Int)).toNat=j:=by
      rw [seqIndex_neg (by omega) h4] at h1
      rw [laH,← hl]
      exact lan h1
    exact subscriptTail_builtinR (x:=w) pl.isList.typeIs slot_list_getitem.lookup
      (wpAny_getItem_list_neg (Q:=fun r s'=>r=w∧EP X pins σ Q r s') pl.isList (by omega) (by rw [laH] <;> omega) (by omega) (by rw [hj];simpa using ew) ⟨rfl,fin⟩) hs
theorem ix_tup:IxR X (bK X.K):=by
  intro value slice pins s σ H x y v u Q I rx ry h hs
  obtain ⟨p,xs,i,z,rfl,rfl,hq,he,q⟩:=h
  cases rx
  obtain ⟨t,rfl⟩:=ry
  obtain ⟨its,r,pl,hz⟩:=I.tuple hq
  obtain ⟨j,h1,h2,h3,h4,h5⟩:=oO he
  obtain ⟨w,ew,rw'⟩:=r.get h2
  have hl:=r.length
  have hn:=nB
  have fin:EP X pins σ Q w s:=⟨z,H,I,rw',q⟩
  exact subscriptTail_builtinR (x:=w) pl.typeIs slot_tuple_getitem.lookup
    (getItem_tuple (j:=j) (Q:=fun r s'=>r=w∧EP X pins σ Q r s') pl (by omega) (by omega) (by rw [laH,← hl];exact h1) (by simpa using ew) ⟨rfl,fin⟩) hs
theorem AM:IxR X Bt:=by
  intro value slice pins s σ H x y v u Q I rx ry h hs
  obtain ⟨z,i,c,rfl,rfl,hz,he,q⟩:=h
  obtain ⟨t,rfl⟩:=rx
  obtain ⟨t',rfl⟩:=ry
  obtain ⟨j,h1,h2,h3,h4,h5⟩:=oO he
  have hl:z.cps.toList.length=z.length:=by simp [Str.length]
  rw [hl] at h1 h4 h5
  have hn:=nB
  exact tail_any (typeIs_str s z t) slot_str_getitem.lookup (getItem_str (c:=c) (by
    have e1:decide (i < -(2 ^ 63:Int))=false:=decide_eq_false (by omega)
    have e2:decide (i≥2 ^ 63)=false:=decide_eq_false (by omega)
    rw [e1,e2,Bool.or_false]) (by rw [h1];simpa using h2) ⟨.str ⟨#[c]⟩,H,I.tok _,⟨_,rfl⟩,q⟩) hs
def BF(K:PySem.W.Frag):R2:=fun x y H Q=>cJ K x y H Q∨bK K x y H Q∨Bt x y H Q
theorem xr:IxR X (BF X.K):=ix_list.or (ix_tup.or AM)
theorem qb(lo hi:Option Int)(n:Nat):(sliceBounds lo hi none n).1=((HT.sIx n 0 lo:Nat):Int)∧(sliceBounds lo hi none n).2.1=((HT.sIx n n hi:Nat):Int)∧(sliceBounds lo hi none n).2.2=1:=by
  refine ⟨?_,?_,rfl⟩
  · cases lo with
    | none=>simp [sliceBounds,HT.sIx]
    | some i=>
      simp only [sliceBounds,HT.sIx,Option.getD_none,show (1:Int)>0 by decide,if_true]
      by_cases h:i<0
      · simp only [h,if_true] <;> omega
      · simp only [h,if_false] <;> omega
  · cases hi with
    | none=>simp [sliceBounds,HT.sIx]
    | some i=>
      simp only [sliceBounds,HT.sIx,Option.getD_none,show (1:Int)>0 by decide,if_true]
      by_cases h:i<0
      · simp only [h,if_true] <;> omega
      · simp only [h,if_false] <;> omega
theorem pV(its:List Value)(lo hi:Option Int):slicePick its.toArray lo hi none=((its.drop (HT.sIx its.length 0 lo)).take (HT.sIx its.length its.length hi - HT.sIx its.length 0 lo)).toArray:=by
  obtain ⟨h1,h2,h3⟩:=qb lo hi its.toArray.size
  unfold slicePick
  rw [h1,h2,h3]
  simp only [sliceRange_one,pick_run,List.size_toArray] <;> rfl
def m9(K:PySem.W.Frag):V→Option Int→Option Int→Hp→VK→Prop:=fun x lo hi H Q=>∃ a xs,x=.ref a∧SqL K H a xs∧∀ p,H p=none→Q (.ref p) (upd H p (.lst (ir xs lo hi)))
theorem jF:BG X (m9 X.K):=by
  intro pins s σ H x v vl vu lo hi sl Q I rx hs pl pu h
  obtain ⟨a,xs,rfl,hx,q⟩:=h
  cases rx
  obtain ⟨its,r,ht,hz⟩:=I.list hx
  have hlen:=r.length
  refine ⟨"list",_,slot_list_getitem.lookup,ht.isList.typeIs,?_⟩
  refine wpAny_getItem_list_slice ht.isList hs pl pu .none (by simp) ?_ (by rw [laH] <;> omega)
  rw [pV,← hlen]
  refine ⟨.ref s.heap.objs.size,_,I.laid (t':=s.toks) (o:=.lst (ir xs lo hi)) (fun b ob q=>Heap.get?_push_of_some _ q) (lat _) ?_,rfl,q _ (I.hok.fresh (lat _))⟩
  exact ⟨las (mv xs lo hi) hz,_,0,(r.drop (HT.sIx xs.length 0 lo)).take (HT.sIx xs.length xs.length hi - HT.sIx xs.length 0 lo),Heap.get?_push_size _ rfl⟩
def eF:V→Bool
  | .non=>true
  | .bl _=>true
  | .int _=>true
  | .str _=>true
  | _=>false
def pI:V→V→Bool
  | .non,.non=>true
  | .bl a,.bl b=>a==b
  | .bl a,.int b=>(if a then 1 else 0)==b
  | .int a,.bl b=>a==(if b then 1 else 0)
  | .int a,.int b=>a==b
  | .str a,.str b=>a==b
  | _,_=>false
theorem Av{A:Around}{s:Shared}{y x:V}{u v:Value}(ry:RelV y u)(rx:RelV x v)(fy:eF y=true)(fx:eF x=true):SeqAt.EqAt A s u v (pI y x):=by
  cases y with
  | non=>
    cases ry
    cases x with
    | non=>cases rx;exact SeqAt.EqAt.same _
    | bl b=>cases rx;exact SeqAt.EqAt.none_bool b
    | int b=>obtain ⟨t,rfl⟩:=rx;exact SeqAt.EqAt.none_int b t
    | str b=>obtain ⟨t,rfl⟩:=rx;exact SeqAt.EqAt.none_str b t
    | _=>exact absurd (show false=true from fx) lau
  | bl a=>
    cases ry
    cases x with
    | non=>cases rx;exact SeqAt.EqAt.bool_none a
    | bl b=>cases rx;exact SeqAt.EqAt.bool_bool a b
    | int b=>obtain ⟨t,rfl⟩:=rx;exact SeqAt.EqAt.bool_int a b t
    | str b=>obtain ⟨t,rfl⟩:=rx;exact SeqAt.EqAt.bool_str a b t
    | _=>exact absurd (show false=true from fx) lau
  | int a=>
    obtain ⟨t',rfl⟩:=ry
    cases x with
    | non=>cases rx;exact SeqAt.EqAt.int_none a t'
    | bl b=>cases rx;exact SeqAt.EqAt.int_bool a t' b
    | int b=>obtain ⟨t,rfl⟩:=rx;exact SeqAt.EqAt.int_int a t' b t
    | str b=>obtain ⟨t,rfl⟩:=rx;exact SeqAt.EqAt.int_str a t' b t
    | _=>exact absurd (show false=true from fx) lau
  | str a=>
    obtain ⟨t',rfl⟩:=ry
    cases x with
    | non=>cases rx;exact SeqAt.EqAt.str_none a t'
    | bl b=>cases rx;exact SeqAt.EqAt.str_bool a t' b
    | int b=>obtain ⟨t,rfl⟩:=rx;exact SeqAt.EqAt.str_int a t' b t
    | str b=>obtain ⟨t,rfl⟩:=rx;exact SeqAt.EqAt.str_str a t' b t
    | _=>exact absurd (show false=true from fx) lau
  | _=>exact absurd (show false=true from fy) lau
def iP(x:V)(u:Value):Bool:=match u with
  | .none=>pI .non x
  | .bool b=>pI (.bl b) x
  | .int i _=>pI (.int i) x
  | .str z _=>pI (.str z) x
  | _=>false
theorem wV{x y:V}{u:Value}(r:RelV y u)(f:eF y=true):iP x u=pI y x:=by
  cases y with
  | non=>cases r;rfl
  | bl b=>cases r;rfl
  | int i=>obtain ⟨t,rfl⟩:=r;rfl
  | str z=>obtain ⟨t,rfl⟩:=r;rfl
  | _=>exact absurd (show false=true from f) lau
theorem jI{x:V}:∀ {xs:List V} {us:List Value},Vals xs us→xs.all eF=true→us.any (iP x)=xs.any fun y=>pI y x
  | _,_,.nil,_=>rfl
  | y::xs,u::us,.cons r t,f=>by
    rw [List.all_cons,Bool.and_eq_true] at f
    rw [List.any_cons,List.any_cons,wV r f.1,jI t f.2]
theorem iS{A:Around}{s:Shared}{x:V}{v:Value}(rx:RelV x v)(fx:eF x=true):∀ {xs:List V} {us:List Value},Vals xs us→xs.all eF=true→∀ u∈us,SeqAt.EqAt A s u v (iP x u)
  | _,_,.nil,_=>fun u hu=>by cases hu
  | y::xs,u::us,.cons r t,f=>fun u' hu=>by
    rw [List.all_cons,Bool.and_eq_true] at f
    rcases List.mem_cons.mp hu with rfl | hu
    · rw [wV r f.1];exact Av r rx f.1 fx
    · exact iS rx fx t f.2 u' hu
def dQ(x:V)(xs:List V):Bool:=xs.any fun y=>pI y x
def iy(K:PySem.W.Frag)(neg:Bool):R2:=fun x y H Q=>∃ p xs,y=.ref p∧(SqL K H p xs∨fE K H p xs)∧eF x=true∧xs.all eF=true∧Q (.bl (if neg then !dQ x xs else dQ x xs)) H
theorem dy:eU X (compareOp .In) (iy X.K false):=by
  intro pins s σ H x y v u Q I rx ry h
  obtain ⟨p,xs,rfl,hq,fx,fs,q⟩:=h
  cases ry
  rcases hq with hq | hq
  · obtain ⟨its,r,pl,hz⟩:=I.list hq
    refine SeqAt.in_listAt (iP x) pl.isList (fun w hw=>iS rx fx r fs w (by simpa using hw)) ⟨.bl _,H,I,rfl,?_⟩
    rw [show its.toArray.any (iP x)=its.any (iP x) by simp,jI r fs]
    exact q
  · obtain ⟨its,r,pl,hz⟩:=I.tuple hq
    refine SeqAt.in_tupleAt (iP x) pl (fun w hw=>iS rx fx r fs w (by simpa using hw)) ⟨.bl _,H,I,rfl,?_⟩
    rw [show its.toArray.any (iP x)=its.any (iP x) by simp,jI r fs]
    exact q
theorem lM:eU X (compareOp .NotIn) (iy X.K true):=by
  intro pins s σ H x y v u Q I rx ry h
  obtain ⟨p,xs,rfl,hq,fx,fs,q⟩:=h
  cases ry
  rcases hq with hq | hq
  · obtain ⟨its,r,pl,hz⟩:=I.list hq
    refine SeqAt.notIn_listAt (iP x) pl.isList (fun w hw=>iS rx fx r fs w (by simpa using hw)) ⟨.bl _,H,I,rfl,?_⟩
    rw [show its.toArray.any (iP x)=its.any (iP x) by simp,jI r fs]
    exact q
  · obtain ⟨its,r,pl,hz⟩:=I.tuple hq
    refine SeqAt.notIn_tupleAt (iP x) pl (fun w hw=>iS rx fx r fs w (by simpa using hw)) ⟨.bl _,H,I,rfl,?_⟩
    rw [show its.toArray.any (iP x)=its.any (iP x) by simp,jI r fs]
    exact q
theorem aU:gG X (.builtin "len") (fun xs H Q=>∃ p ys,xs=[.ref p]∧(SqL X.K H p ys∨fE X.K H p ys)∧Q (.int ys.length) H):=by
  intro pins s σ H xs us Q I r h
  obtain ⟨p,ys,rfl,hq,q⟩:=h
  obtain ⟨u,rfl,rx⟩:=n6 r
  cases rx
  have hn:=nB
  rcases hq with hq | hq
  · obtain ⟨its,r',pl,hz⟩:=I.list hq
    have hlen:=r'.length
    exact Calls.call_len_list pl.isList (by simp only [List.size_toArray] <;> omega) ⟨.int ys.length,H,I.tok _,⟨s.toks+1,by rw [laH,hlen]⟩,q⟩
  · obtain ⟨its,r',pl,hz⟩:=I.tuple hq
    have hlen:=r'.length
    exact len_tuple pl (by simp only [List.size_toArray] <;> omega) ⟨.int ys.length,H,I.tok _,⟨s.toks+1,by rw [laH,hlen]⟩,q⟩
theorem b7:gG X (.type "list") (fun xs H Q=>∃ p ys,xs=[.ref p]∧(SqL X.K H p ys∨fE X.K H p ys)∧∀ l,H l=none→Q (.ref l) (upd H l (.lst ys))):=by
  intro pins s σ H xs us Q I r h
  obtain ⟨p,ys,rfl,hq,q⟩:=h
  obtain ⟨u,rfl,rx⟩:=n6 r
  cases rx
  have fin:∀ (its:List Value),Vals ys its→ys.length≤sizeLine→∀ (h':Heap) (c':Nat),(∀ b o',s.heap.get? b=some o'→h'.get? b=some o')→
      h'.get? s.heap.objs.size=some { cls:=.type "list",dict:=none,data:=.seq its.toArray c',slots:=#[] }→EP X pins σ Q (.ref s.heap.objs.size) { s with heap:=h' }:=fun its r' hz h' c' kp e=>
    ⟨.ref s.heap.objs.size,_,I.laid (t':=s.toks) kp (lat _) (show ObjOk X.prog X.w _ h' _ (.lst ys) from ⟨hz,its,c',r',e⟩),rfl,q _ (I.hok.fresh (lat _))⟩
  rcases hq with hq | hq
  · obtain ⟨its,r',pl,hz⟩:=I.list hq
    have hlen:=r'.length
    obtain ⟨o,ho,hc,n,hd⟩:=pl.isList
    exact call_list_seq p (.inl rfl) ho hc hd (fun h' c' kp e=>fin its r' hz h' c' kp e) (by simp only [List.size_toArray] <;> omega)
  · obtain ⟨its,r',pl,hz⟩:=I.tuple hq
    have hlen:=r'.length
    obtain ⟨o,ho,hc,n,hd⟩:=pl
    exact call_list_seq p (.inr rfl) ho hc hd (fun h' c' kp e=>fin its r' hz h' c' kp e) (by simp only [List.size_toArray] <;> omega)
def y8(K:PySem.W.Frag)(T:String)(x:V)(H:Hp):Prop:=match x with
  | .str _=>T="str"
  | .int _=>T="int"
  | .ref p=>(T="list"∧∃ xs,SqL K H p xs)∨(T="tuple"∧∃ o,K.lookup p=some o∧o.cls=.type "tuple"∧o.dict=none)∨
      (T="dict"∧((∃ kvs,H p=some (.dK kvs))∨∃ kvs,H p=some (.dT kvs)))∨(T="set"∧∃ S n,H p=some (.set S n))
  | _=>False
theorem BC{pins:List (Addr×Obj)}{σ:St}{H:Hp}{s:Shared}{T:String}{x:V}{v:Value}(I:Inv X pins σ H s)(r:RelV x v)(ty:y8 X.K T x H) :
    s.TypeIs v T∧∀ a,v=.ref a→∃ ob,s.heap.get? a=some ob∧ob.dict=none:=by
  cases x with
  | str z=>
    obtain ⟨t,rfl⟩:=r
    cases (show T="str" from ty)
    exact ⟨typeIs_str s z t,fun _ e=>nomatch e⟩
  | int i=>
    obtain ⟨t,rfl⟩:=r
    cases (show T="int" from ty)
    exact ⟨typeIs_int s i t,fun _ e=>nomatch e⟩
  | ref p=>
    cases r
    rcases ty with ⟨rfl,xs,hq⟩ | ⟨rfl,o,hk,hc,hd⟩ | ⟨rfl,hk⟩ | ⟨rfl,S,n,hk⟩
    · obtain ⟨its,_,pl,_⟩:=I.list hq
      refine ⟨pl.isList.typeIs,fun a e=>?_⟩
      cases e
      obtain ⟨o,n,e,c,hd,_⟩:=pl
      exact ⟨o,e,hd⟩
    · refine ⟨⟨o,I.kIn p o hk,hc⟩,fun a e=>?_⟩
      cases e
      exact ⟨o,I.kIn _ o hk,hd⟩
    · have z:∃ o,s.heap.get? p=some o∧o.ExactDict:=by
        rcases hk with ⟨kvs,hk⟩ | ⟨kvs,hk⟩
        · obtain ⟨_,_,_,_,o,_,_,e,ex,_⟩:=I.hok p _ hk
          exact ⟨o,e,ex⟩
        · obtain ⟨_,_,_,_,o,_,_,e,ex,_⟩:=I.hok p _ hk
          exact ⟨o,e,ex⟩
      obtain ⟨o,e,ex⟩:=z
      refine ⟨⟨o,e,ex.1⟩,fun a e2=>?_⟩
      cases e2
      exact ⟨o,e,ex.2.1⟩
    · obtain ⟨o,_,_,_,e,ex,_⟩:=I.hok p _ hk
      refine ⟨⟨o,e,ex.1⟩,fun a e2=>?_⟩
      cases e2
      exact ⟨o,e,ex.2.1⟩
  | _=>exact False.elim ty
def fU(K:PySem.W.Frag)(T:String)(r:V→List V→Hp→VK→Prop)(to:TE)(t:TA):TE:=fun σ H Q=>to σ H fun x H1=>y8 K T x H1∧t σ H1 fun xs H2=>r x xs H2 Q
variable {o e:Expr}{es:List Expr}{to:TE}{t:TA}{name:Str}{apos cpos:Pos}{T id:String}{r:V→List V→Hp→VK→Prop}
theorem d7(pa:PlainAttrs T)(slot:Slot T name id)(hty:typeOf (.builtin id)=pure (.type "method_descriptor"))(hm:Je X id r)(ho:PE X o to)(ha:PA X (e::es) t)
    (hbase:attributeBase o name X.env (eval o X.env)=eval o X.env:=by rfl)
    (hfew:((backTo cpos (starEach (e::es) X.env)).all (fun x=>!x.1)&&(backToKw cpos (keywordEach [] X.env)).all (fun x=>x.1.isSome)
      && decide ((e::es).length+([]:List Keyword).length+(if ([]:List Keyword).isEmpty then 0 else 1)<30))=true:=by rfl)
    (hline:(apos.endLine==cpos.line)=true:=by rfl) (hs:starEach (e::es) X.env=(false,eval e X.env)::starEach es X.env:=by rfl) (hplain:(backTo cpos (starEach es X.env)).any (·.1)=false:=by rfl) :
    PE X (.Call (.Attribute o name apos) (e::es) [] cpos) (fU X.K T r to t):=by
  intro pins s σ H Q I h
  refine wpAny_Call_method_late hbase hfew hline rfl (bm (ho pins s σ H _ I h) fun v s1 ⟨x,H1,I1,r1,ty,q1⟩=>?_)
  obtain ⟨h1,h2⟩:=BC I1 r1 ty
  refine ⟨T,id,pa,slot,hty,h1,h2,?_⟩
  have hA:=ha cpos pins s1 σ H1 _ I1 q1
  rw [hs] at hA ⊢
  refine Calls.callWith_builtin (by show (false||(backTo cpos (starEach es X.env)).any (·.1))=false;rw [hplain] <;> rfl) (Calls.evalArgs_plain ?_)
  exact bm hA fun us s2 ⟨vs,H2,I2,r2,q2⟩=>hm pins s2 σ H2 x vs v us Q I2 r1 r2 q2
end
end L2
namespace L2
open PySem PySem.Spec PyProof.Rows
def Gu(X:Cx)(id:String)(r:V→List V→Hp→VK→Prop):Prop:=
  ∀ (pins:List (Addr×Obj)) (s:Shared) (σ:St) (H:Hp) (x:V) (xs:List V) (v:Value) (us:List Value) (Q:VK),Inv X pins σ H s→RelV x v→Vals xs us→r x xs H Q→
    wpAny (model X.prog X.w) X.A (call (.builtin id) (v::us)) (EP X pins σ Q) X.xe s
theorem Vals.one:∀ {x:V} {us:List Value},Vals [x] us→∃ u,us=[u]∧RelV x u
  | _,_,.cons r .nil=>⟨_,rfl,r⟩
theorem Vals.two:∀ {x y:V} {us:List Value},Vals [x,y] us→∃ u v,us=[u,v]∧RelV x u∧RelV y v
  | _,_,_,.cons r (.cons q .nil)=>⟨_,_,rfl,r,q⟩
section
variable {X:Cx}{pins:List (Addr×Obj)}{σ:St}{H:Hp}{s:Shared}{l b:Addr}{xs ys zs:List V}
theorem Inv.lset{its its':List Value}{n:Nat}{f:Array Value→Array Value}{t':Nat}(I:Inv X pins σ H s)(hH:H l=some (.lst xs))
    (e:s.heap.get? l=some { cls:=.type "list",data:=.seq its.toArray n })(hf:f its.toArray=its'.toArray)(hv:Vals ys its')(hz:ys.length≤sizeLine) :
    Inv X pins σ (upd H l (.lst ys)) { s with heap:=s.heap.update l (Obj.mapSeq f),toks:=t' }:=by
  have q:=PySem.IsL.update e f
  rw [hf] at q
  refine I.write (x:=l) (e:=l) (by rw [hH];exact trivial) (.inl rfl) (fun b' u hb hu=>(Heap.get?_update_other s.heap (Obj.mapSeq f) (Ne.symm hb)).trans hu) ⟨_,q⟩ ?_
  exact ⟨hz,its',_,hv,q⟩
theorem Inv.lnew{its:List Value}{t':Nat}(I:Inv X pins σ H s)(hv:Vals ys its)(hz:ys.length≤sizeLine) :
    Inv X pins σ (upd H s.heap.objs.size (.lst ys)) { s with heap:=s.heap.push { cls:=.type "list",data:=.seq its.toArray },toks:=t' }:=
  I.laid (fun _ _ q=>Heap.get?_push_of_some _ q) (lat _) ⟨hz,its,0,hv,Heap.get?_push_size _ rfl⟩
theorem Inv.fresh(I:Inv X pins σ H s):H s.heap.objs.size=none:=I.hok.fresh (lat _)
theorem Inv.lstM(I:Inv X pins σ H s)(hH:H l=some (.lst xs)):xs.length≤sizeLine∧∃ (its:List Value) (n:Nat),Vals xs its∧xs.length=its.length∧s.heap.get? l=some { cls:=.type "list",data:=.seq its.toArray n }:=by
  obtain ⟨z,its,n,r,e⟩:=I.hok l _ hH
  exact ⟨z,its,n,r,r.length,e⟩
theorem xZ{n:Nat}(h:n≤sizeLine):Builtin.List.listTooLong n=false:=by
  unfold Builtin.List.listTooLong
  exact decide_eq_false (by omega)
end
section
variable {X:Cx}
def dc:V→List V→Hp→VK→Prop:=fun x vs H Q=>∃ l xs y,x=.ref l∧vs=[y]∧H l=some (.lst xs)∧xs.length<sizeLine∧Q .non (upd H l (.lst (xs++[y])))
theorem cO:Gu X "list.append" dc:=by
  intro pins s σ H x vs v us Q I rx rv h
  obtain ⟨l,xs,y,rfl,rfl,hH,hz,q⟩:=h
  cases rx
  obtain ⟨u,rfl,ru⟩:=rv.one
  obtain ⟨z,its,n,r,hl,e⟩:=I.lstM hH
  refine call_meets F.slot_list_append ⟨_,e,rfl⟩ F.entry_list_append (F.args_list_append_2 _ _) (PySem.list_append l its.toArray n u (by rw [laH];omega)) ⟨e,?_⟩
  refine ⟨.non,_,I.lset (its':=its++[u]) hH e (by simp) (r.append (.cons ru .nil)) ?_,rfl,q⟩
  rw [laf,List.length_singleton]
  omega
def iM:V→List V→Hp→VK→Prop:=fun x vs H Q=>∃ l b xs zs,x=.ref l∧vs=[.ref b]∧H l=some (.lst xs)∧H b=some (.lst zs)∧xs.length+zs.length≤sizeLine∧Q .non (upd H l (.lst (xs++zs)))
theorem iY:Gu X "list.extend" iM:=by
  intro pins s σ H x vs v us Q I rx rv h
  obtain ⟨l,b,xs,zs,rfl,rfl,hH,hB,hz,q⟩:=h
  cases rx
  obtain ⟨u,rfl,ru⟩:=rv.one
  cases ru
  obtain ⟨z,its,n,r,hl,e⟩:=I.lstM hH
  obtain ⟨z2,its2,n2,r2,hl2,e2⟩:=I.lstM hB
  have hsz:its.toArray.size+its2.toArray.size≤sizeLine:=by rw [laH,laH];omega
  have hlong:¬ (!its.toArray.isEmpty&&Builtin.List.listTooLong (its.toArray.size+its2.toArray.size))=true:=by
    rw [xZ hsz,Bool.and_false]
    exact lau
  refine call_meets F.slot_list_extend ⟨_,e,rfl⟩ F.entry_list_extend (F.args_list_extend_2 _ _)
    (AutoSeq1.list_extend_list_list_0 l its.toArray n b its2.toArray n2 hlong (by rw [laH];omega) (by omega)) ⟨e,e2,?_⟩
  refine ⟨.non,_,I.lset (its':=its++its2) hH e (by simp) (r.append r2) ?_,rfl,q⟩
  rw [laf]
  omega
def lQ:R2:=fun x y H Q=>∃ l b xs zs,x=.ref l∧y=.ref b∧H l=some (.lst xs)∧H b=some (.lst zs)∧xs.length+zs.length≤sizeLine∧∀ p,H p=none→Q (.ref p) (upd H p (.lst (xs++zs)))
theorem jH:eU X (binaryOp .Add) lQ:=by
  intro pins s σ H x y v u Q I rx ry h
  obtain ⟨l,b,xs,zs,rfl,rfl,hH,hB,hz,q⟩:=h
  cases rx
  cases ry
  obtain ⟨z,its,n,r,hl,e⟩:=I.lstM hH
  obtain ⟨z2,its2,n2,r2,hl2,e2⟩:=I.lstM hB
  refine PySem.P.add_list e e2 ?_ (by rw [laH,laH];omega)
  have ea:its.toArray++its2.toArray=(its++its2).toArray:=by simp
  rw [ea]
  exact ⟨.ref _,_,I.lnew (t':=s.toks) (r.append r2) (by rw [laf];omega),rfl,q _ I.fresh⟩
end
section
variable {prog:Program}{w:World}{A:Around}{E:Value→Shared→Prop}{s:Shared}
end
section
variable {X:Cx}
end
end L2
namespace L2
open PySem PySem.Spec PyProof.Rows
section
variable {κ:Type}[DecidableEq κ]
def bW(kvs:List (κ×V))(k:κ):Option V:=(kvs.find? fun kv=>decide (kv.1=k)).map (·.2)
def db(kvs:List (κ×V))(k:κ)(v:V):List (κ×V):=
  if (kvs.any fun kv=>decide (kv.1=k))=true then kvs.map (fun kv=>if kv.1=k then (kv.1,v) else kv) else kvs++[(k,v)]
theorem dG{p:κ×V}{r:List (κ×V)}{k:κ}(e:p.1=k):bW (p::r) k=some p.2:=by simp [bW,List.find?_cons,e]
theorem dE{p:κ×V}{r:List (κ×V)}{k:κ}(e:¬ p.1=k):bW (p::r) k=bW r k:=by simp [bW,List.find?_cons,e]
theorem kC(k:κ):∀ kvs:List (κ×V),(kvs.any fun kv=>decide (kv.1=k))=(bW kvs k).isSome
  | []=>rfl
  | p::r=>by
    rw [List.any_cons]
    by_cases e:p.1=k
    · simp only [dG e,decide_eq_true e,Bool.true_or,Option.isSome_some]
    · rw [dE e,decide_eq_false e,Bool.false_or];exact kC k r
theorem sO(k j:κ)(y:V):∀ kvs:List (κ×V),bW (kvs.map fun kv=>if kv.1=k then (kv.1,y) else kv) j=(bW kvs j).map fun x=>if j=k then y else x
  | []=>rfl
  | p::r=>by
    have ih:=sO k j y r
    rw [lah]
    by_cases h:p.1=k
    · rw [if_pos h]
      by_cases e:p.1=j
      · rw [dG (p:=(p.1,y)) e,dG e,Option.map_some,if_pos (e.symm.trans h)]
      · rw [dE (p:=(p.1,y)) e,dE e,ih]
    · rw [if_neg h]
      by_cases e:p.1=j
      · rw [dG (p:=p) e,dG e,Option.map_some,if_neg (fun z=>h (e.trans z))]
      · rw [dE (p:=p) e,dE e,ih]
theorem o9(k j:κ)(y:V):∀ kvs:List (κ×V),bW kvs k=none→bW (kvs++[(k,y)]) j=if j=k then some y else bW kvs j
  | [],_=>by
    by_cases e:k=j
    · rw [if_pos e.symm];exact dG (p:=(k,y)) e
    · rw [if_neg (fun z=>e z.symm)];exact dE (p:=(k,y)) e
  | p::r,hn=>by
    rw [List.cons_append]
    have hk:¬ p.1=k:=fun z=>by rw [dG z] at hn;cases hn
    rw [dE hk] at hn
    have ih:=o9 k j y r hn
    by_cases e:p.1=j
    · rw [dG e,dG e,if_neg (fun z=>hk (e.trans z))]
    · rw [dE e,dE e,ih]
theorem qi(kvs:List (κ×V))(k j:κ)(y:V):bW (db kvs k y) j=if j=k then some y else bW kvs j:=by
  unfold db
  by_cases a:(kvs.any fun kv=>decide (kv.1=k))=true
  · rw [if_pos a,sO]
    rw [kC] at a
    by_cases e:j=k
    · obtain ⟨x,hx⟩:=Option.isSome_iff_exists.mp a
      rw [if_pos e,e,hx,Option.map_some,if_pos rfl]
    · rw [if_neg e]
      cases bW kvs j with
      | none=>rfl
      | some x=>rw [Option.map_some,if_neg e]
  · rw [if_neg a]
    refine o9 k j y kvs ?_
    rw [kC] at a
    cases q:bW kvs k with
    | none=>rfl
    | some x=>rw [q] at a;exact (a rfl).elim
theorem fg(kvs:List (κ×V))(k:κ)(v:V):(db kvs k v).length≤kvs.length+1:=by
  unfold db
  split
  · rw [laa];omega
  · rw [laf,laj,List.length_nil];omega
theorem RelO.isSome_eq{o:Option V}{u:Option Value}(r:RelO o u):o.isSome=u.isSome:=by
  cases o with
  | none=>cases u with
    | none=>rfl
    | some _=>exact (show False from r).elim
  | some _=>cases u with
    | none=>exact (show False from r).elim
    | some _=>rfl
theorem RelO.getD{o:Option V}{u:Option Value}{d:V}{d':Value}(r:RelO o u)(rd:RelV d d'):RelV (o.getD d) (u.getD d'):=by
  cases o with
  | none=>cases u with
    | none=>exact rd
    | some _=>exact (show False from r).elim
  | some _=>cases u with
    | none=>exact (show False from r).elim
    | some _=>exact r
theorem KV.val{kvs:List (κ×V)}{vs:List (κ×Value)}(r:KV kvs vs)(k:κ):RelO (bW kvs k) (valueAt vs k):=by
  unfold KV at r
  induction r with
  | nil=>exact True.intro
  | @cons p q ps qs h t ih=>
    obtain ⟨h1,h2⟩:=h
    by_cases e:p.1=k
    · have e':q.1=k:=h1.symm.trans e
      have b:valueAt (q::qs) k=some q.2:=by simp [valueAt,List.find?_cons,e']
      rw [dG e,b];exact h2
    · have e':¬ q.1=k:=fun z=>e (h1.trans z)
      have b:valueAt (q::qs) k=valueAt qs k:=by simp [valueAt,List.find?_cons,e']
      rw [dE e,b];exact ih
theorem KV.any{kvs:List (κ×V)}{vs:List (κ×Value)}(r:KV kvs vs)(k:κ):(kvs.any fun kv=>decide (kv.1=k))=vs.any fun kv=>decide (kv.1=k):=by
  unfold KV at r
  induction r with
  | nil=>rfl
  | cons h t ih=>rw [List.any_cons,List.any_cons,ih,h.1]
theorem KV.repl{kvs:List (κ×V)}{vs:List (κ×Value)}(r:KV kvs vs)(k:κ){y:V}{u:Value}(ry:RelV y u) :
    KV (kvs.map fun kv=>if kv.1=k then (kv.1,y) else kv) (vs.map fun kv=>if kv.1=k then (kv.1,u) else kv):=by
  unfold KV at r ⊢
  induction r with
  | nil=>exact .nil
  | @cons p q ps qs h t ih=>
    rw [lah,lah]
    refine .cons ?_ ih
    obtain ⟨h1,h2⟩:=h
    by_cases e:p.1=k
    · rw [if_pos e,if_pos (h1.symm.trans e)];exact ⟨h1,ry⟩
    · rw [if_neg e,if_neg (fun z=>e (h1.trans z))];exact ⟨h1,h2⟩
theorem KV.put{kvs:List (κ×V)}{vs:List (κ×Value)}(r:KV kvs vs)(k:κ){y:V}{u:Value}(ry:RelV y u):KV (db kvs k y) (stored vs k u):=by
  unfold db stored
  rw [r.any k]
  by_cases e:(vs.any fun kv=>decide (kv.1=k))=true
  · rw [if_pos e,if_pos e];exact r.repl k ry
  · rw [if_neg e,if_neg e];exact Paired.snoc r ⟨rfl,ry⟩
theorem KV.length{kvs:List (κ×V)}{vs:List (κ×Value)}(r:KV kvs vs):kvs.length=vs.length:=Paired.length r
end
theorem pZ{P:Program}{w:World}{k:bn}{u:Value}(r:RelV (kV k) u):(cX P w).is k u=true:=by
  cases k with
  | inl i=>obtain ⟨t,e⟩:=(show ∃ t,u=Value.int i t from r);subst e;exact tO P w i t
  | inr x=>obtain ⟨t,e⟩:=(show ∃ t,u=Value.str x t from r);subst e;exact tR P w x t
theorem pH{P:Program}{w:World}:∀ {ks:List bn} {us:List Value},Vals (ks.map kV) us→ItemsAre (cX P w) ks us
  | [],_,r=>by rw [laG] at r;cases r;exact .nil
  | k::ks,_,r=>by
    rw [lah] at r
    cases r with
    | cons h t=>exact .cons (pZ h) (pH t)
abbrev KT(H:Hp):List (List bn×V)→List (List bn×Addr×Value)→Prop:=Paired fun p q=>p.1=q.1∧H q.2.1=some (.tup (p.1.map kV))∧RelV p.2 q.2.2
theorem KT.val{H:Hp}{kvs:List (List bn×V)}{xs:List (List bn×Addr×Value)}(r:KT H kvs xs)(k:List bn):RelO (bW kvs k) ((atKey xs k).map (·.2)):=by
  induction r with
  | nil=>exact True.intro
  | @cons p q ps qs h t ih=>
    obtain ⟨h1,_,h2⟩:=h
    by_cases e:p.1=k
    · have e':q.1=k:=h1.symm.trans e
      have b:atKey (q::qs) k=some q.2:=by simp [atKey,List.find?_cons,e']
      rw [dG e,b];exact h2
    · have e':¬ q.1=k:=fun z=>e (h1.trans z)
      have b:atKey (q::qs) k=atKey qs k:=by simp [atKey,List.find?_cons,e']
      rw [dE e,b];exact ih
theorem KT.repl{H:Hp}{kvs:List (List bn×V)}{xs:List (List bn×Addr×Value)}(r:KT H kvs xs)(k:List bn){y:V}{u:Value}(ry:RelV y u) :
    KT H (kvs.map fun kv=>if kv.1=k then (kv.1,y) else kv) (xs.map (putAt k u)):=by
  induction r with
  | nil=>exact .nil
  | @cons p q ps qs h t ih=>
    rw [lah,lah]
    refine .cons ?_ ih
    obtain ⟨h1,h2,h3⟩:=h
    unfold putAt
    by_cases e:p.1=k
    · rw [if_pos e,if_pos (h1.symm.trans e)];exact ⟨h1,h2,ry⟩
    · rw [if_neg e,if_neg (fun z=>e (h1.trans z))];exact ⟨h1,h2,h3⟩
theorem KT.put{H:Hp}{kvs:List (List bn×V)}{xs:List (List bn×Addr×Value)}(r:KT H kvs xs)(k:List bn){b:Addr}{y:V}{u:Value}(hb:H b=some (.tup (k.map kV)))(ry:RelV y u) :
    KT H (db kvs k y) (storedH xs k b u):=by
  have e:(kvs.any fun kv=>decide (kv.1=k))=(atKey xs k).isSome:=by
    rw [kC,(r.val k).isSome_eq,Option.isSome_map]
  unfold db storedH
  rw [e]
  by_cases q:(atKey xs k).isSome=true
  · rw [if_pos q,if_pos q];exact r.repl k ry
  · rw [if_neg q,if_neg q];exact Paired.snoc r ⟨rfl,hb,ry⟩
theorem KT.keeps{H H':Hp}{kvs:List (List bn×V)}{xs:List (List bn×Addr×Value)}(r:KT H kvs xs)(ht:∀ b ys,H b=some (.tup ys)→H' b=some (.tup ys)):KT H' kvs xs:=
  Paired.mapP r fun _ _ z=>⟨z.1,ht _ _ z.2.1,z.2.2⟩
section
variable {P:Program}{w:World}{H:Hp}{h:Heap}{a:Addr}
theorem zm{u:HO}(ok:HOk P w H h)(e:Rd H a u):ObjOk P w H h a u:=e.ok ok
theorem p9{kvs:List (bn×V)}(ok:HOk P w H h)(e:Rd H a (.dK kvs)):kvs.length≤sizeLine∧(a==sysModules)=false∧∃ vs,KV kvs vs∧h.DictOf (cX P w) a vs:=
  show ObjOk P w H h a (.dK kvs) from zm ok e
theorem zt{kvs:List (bn×V)}(ok:HOk P w H h)(e:H a=some (.dK kvs)):kvs.length≤sizeLine∧(a==sysModules)=false∧∃ vs,KV kvs vs∧h.DictOf (cX P w) a vs:=p9 ok (.inl e)
theorem qZ{ks:List bn}(ok:HOk P w H h)(e:H a=some (.tup (ks.map kV))):(tupleKind (cX P w)).is h ks a:=by
  obtain ⟨_,its,r,o,h1,h2,n,h3⟩:=(show ObjOk P w H h a (.tup (ks.map kV)) from ok a _ e)
  exact ⟨o,its.toArray,n,h1,h2,h3,by simpa using pH r⟩
theorem vG{kvs:List (List bn×V)}(ok:HOk P w H h)(e:Rd H a (.dT kvs)):kvs.length≤sizeLine∧(a==sysModules)=false∧
    ∃ xs,KT H kvs xs∧h.DictOfH (tupleKind (cX P w)) a xs:=by
  obtain ⟨z,y,xs,r,o,es,ep,h1,h2,h3,h4,h5⟩:=(show ObjOk P w H h a (.dT kvs) from zm ok e)
  refine ⟨z,y,xs,r,o,es,ep,h1,h2,h3,h4,fun x hx=>?_,h5⟩
  have all:∀ {l:List (List bn×V)} {m:List (List bn×Addr×Value)},KT H l m→∀ x∈m,(tupleKind (cX P w)).is h x.1 x.2.1:=by
    intro l m q
    induction q with
    | nil=>intro x hx;exact nomatch hx
    | @cons p q ps qs hq t ih=>
      intro x hx
      rcases List.mem_cons.mp hx with e | hx
      · subst e
        exact qZ ok (by rw [← hq.1];exact hq.2.1)
      · exact ih x hx
  exact all r x hx
theorem Dd{kvs:List (List bn×V)}(ok:HOk P w H h)(e:H a=some (.dT kvs)):kvs.length≤sizeLine∧(a==sysModules)=false∧
    ∃ xs,KT H kvs xs∧h.DictOfH (tupleKind (cX P w)) a xs:=vG ok (.inl e)
end
def DGet(H:Hp)(a:Addr)(y:V)(r:Option V):Prop:=
  (∃ kvs k,Rd H a (.dK kvs)∧y=kV k∧r=bW kvs k)∨∃ kvs k b,Rd H a (.dT kvs)∧y=.ref b∧H b=some (.tup (k.map kV))∧r=bW kvs k
def DPut(H:Hp)(a:Addr)(y v:V)(H':Hp):Prop:=
  (∃ kvs k,H a=some (.dK kvs)∧y=kV k∧kvs.length<sizeLine∧H'=upd H a (.dK (db kvs k v)))∨
  ∃ kvs k b,H a=some (.dT kvs)∧y=.ref b∧H b=some (.tup (k.map kV))∧kvs.length<sizeLine∧H'=upd H a (.dT (db kvs k v))
theorem DGet.k{H:Hp}{a:Addr}{kvs:List (bn×V)}{k:bn}(e:H a=some (.dK kvs)):DGet H a (kV k) (bW kvs k):=.inl ⟨kvs,k,.inl e,rfl,rfl⟩
theorem DPut.k{H:Hp}{a:Addr}{kvs:List (bn×V)}{k:bn}{v:V}(e:H a=some (.dK kvs))(hl:kvs.length<sizeLine):DPut H a (kV k) v (upd H a (.dK (db kvs k v))):=.inl ⟨kvs,k,e,rfl,hl,rfl⟩
section
variable {X:Cx}{pins:List (Addr×Obj)}{σ:St}{H:Hp}{s:Shared}{a:Addr}{y v:V}{u r:Value}{o:Option V}{A:Around}{E:Value→Shared→Prop}
theorem Inv.big(I:Inv X pins σ H s):sysModules<s.heap.objs.size:=by
  have h:mainGlobals<s.heap.objs.size:=(I.mod.glob.keeps I.bk).lt
  exact Nat.lt_trans (by decide) h
theorem oS{h':Heap}{t':Nat}{ob:HO}(I:Inv X pins σ H s)(mu:rk (H a))(hs:Heap.SameBut a s.heap h')(he:∃ q,h'.get? a=some q)(new:ObjOk X.prog X.w (upd H a ob) h' a ob) :
    Inv X pins σ (upd H a ob) { s with heap:=h',toks:=t' }:=
  I.write (x:=a) (e:=a) mu (.inl rfl) (fun b q hb z=>(hs.2 b hb).trans z) he new
theorem xG{P:Program}{w:World}{H':Hp}{h':Heap}{kvs:List (bn×V)}{vs:List (bn×Value)}(z:kvs.length≤sizeLine)(hd:(a==sysModules)=false)(rel:KV kvs vs)(dd:h'.DictOf (cX P w) a vs) :
    ObjOk P w H' h' a (.dK kvs):=⟨z,hd,vs,rel,dd⟩
theorem xj{H':Hp}{Q:Unit→Shared→Prop}(hu:A.units+1<cLine)(I:Inv X pins σ H s)(g:DPut H a y v H')(ry:RelV y u)(rv:RelV v r)(h:∀ s',Inv X pins σ H' s'→Q () s') :
    wpAny (model X.prog X.w) A (setItem (.ref a) u r) Q E s:=by
  rcases g with ⟨kvs,k,e,ey,l,eH⟩ | ⟨kvs,k,b,e,ey,eb,l,eH⟩
  · subst ey eH
    obtain ⟨z,hd,vs,rel,dd⟩:=zt I.hok e
    have hz:vs.length≤sizeLine:=by rw [← rel.length];exact z
    have hl:(db kvs k v).length≤sizeLine:=by have:=fg kvs k v;omega
    refine wpAny_setItem_pairs (hsz:=hz) (pZ ry) dd fun h' dd' hs=>h _ ?_
    have he:∃ q,h'.get? a=some q:=let ⟨q,_,_,hq,_⟩:=dd';⟨q,hq⟩
    exact oS I (by rw [e];exact True.intro) hs he (xG hl hd (rel.put k rv) dd')
  · subst ey eH
    cases (show u=Value.ref b from ry)
    obtain ⟨z,hd,xs,rel,dd⟩:=Dd I.hok e
    have hz:xs.length≤sizeLine:=by rw [← Paired.length rel];exact z
    have hl:(db kvs k v).length≤sizeLine:=by have:=fg kvs k v;omega
    refine wpAny_setItem_heap (hsz:=hz) (tupleKind_room_in1 hu) (qZ I.hok eb) dd fun h' dd' hs=>h _ ?_
    obtain ⟨q,es,ep,hq,h2,h3,h4,_,h5⟩:=dd'
    refine oS I (by rw [e];exact True.intro) hs ⟨q,hq⟩ ⟨hl,hd,_,(rel.put k eb rv).keeps fun c ys ec=>?_,q,es,ep,hq,h2,h3,h4,h5⟩
    rw [bH (cr ec e (fun z=>nomatch z))]
    exact ec
end
section
variable {X:Cx}{pins:List (Addr×Obj)}{σ:St}{H:Hp}{s:Shared}{a:Addr}{kvs:List (bn×V)}{k:bn}{u:Value}{A:Around}{E:Value→Shared→Prop}
theorem EU{Q:Value→Shared→Prop}(I:Inv X pins σ H s)(e:Rd H a (.dK kvs))(h:∀ t s',Inv X pins σ H s'→Q (.int kvs.length t) s'):wpAny (model X.prog X.w) A (call (.builtin "len") [.ref a]) Q E s:=by
  obtain ⟨z,hd,vs,rel,dd⟩:=p9 I.hok e
  refine call_len_dict hd dd (by rw [← rel.length];rw [sizeLine_eq] at z;omega) ?_
  rw [← rel.length]
  exact h _ _ (I.tok _)
end
def p7(td ty tv:TE):TS:=fun D σ H=>tv σ H fun v H1=>td σ H1 fun x H2=>ty σ H2 fun y H3=>∃ a H4,x=.ref a∧DPut H3 a y v H4∧D.nx σ H4
section
variable {X:Cx}{o i e value:Expr}{pos pos' tpos:Pos}{td ty tv:TE}
theorem zD(hu:X.A.units+1<cLine)(ho:PE X o td)(hi:PE X i ty)(hv:PE X value tv)(hs:swapsWith value (some (.Subscript o i pos')) pos.line X.env=pure false) :
    PS X (.Assign [.Subscript o i pos'] value pos) (p7 td ty tv):=by
  intro pins s σ H D I h
  refine wpAny_Assign_Subscript (bm (hv pins s σ H _ I h) fun r s1 ⟨v,H1,I1,rv,q1⟩=>bm (ho pins s1 σ H1 _ I1 q1) fun u s2 ⟨x,H2,I2,rx,q2⟩=>bm (hi pins s2 σ H2 _ I2 q2) fun iv s3 ⟨y,H3,I3,ry,a,H4,ex,g,q3⟩=>?_) hs
  subst ex
  obtain rfl:u=Value.ref a:=rx
  exact xj hu I3 g ry rv fun s4 I4=>⟨σ,H4,I4,q3⟩
end
theorem x8{P:Program}{w:World}{H:Hp}(h:Heap)(hb:sysModules<h.objs.size):ObjOk P w H (h.push { cls:=.type "dict",data:=.dict #[] }) h.objs.size (.dK []):=
  ⟨laI _,beq_eq_false_iff_ne.mpr (Ne.symm (Nat.ne_of_lt hb)),[],.nil,Heap.DictOf.new h⟩
def lV:TE:=fun _ H Q=>∀ p,H p=none→Q (.ref p) (upd H p (.dK []))
section
variable {X:Cx}{pos:Pos}
theorem m7:PE X (.Dict [] [] pos) lV:=fun pins s σ H Q I h=>
  wpAny_Dict_empty ⟨.ref s.heap.objs.size,_,I.laid (a:=s.heap.objs.size) (o:=.dK []) (t':=s.toks) (fun _ _ q=>Heap.get?_push_of_some _ q) (lat _) (x8 s.heap I.big),rfl,h _ (I.hok.fresh (lat _))⟩
end
structure M2(X:Cx)(o:Expr)(m:Str)(apos:Pos)(e f:Expr)(cpos:Pos):Prop where
  base:attributeBase o m X.env (eval o X.env)=eval o X.env
  few:((backTo cpos (starEach [e,f] X.env)).all (fun x=>!x.1)&&(backToKw cpos (keywordEach [] X.env)).all (fun x=>x.1.isSome)
    && decide (([e,f]:List Expr).length+([]:List Keyword).length+(if ([]:List Keyword).isEmpty then 0 else 1)<30))=true
  line:(apos.endLine==cpos.line)=true
  trees:backTo cpos (starEach [e,f] X.env)=[(false,eval e X.env),(false,eval f X.env)]
def tW(H:Hp)(a:Addr):Prop:=(∃ kvs,Rd H a (.dK kvs))∨∃ kvs,Rd H a (.dT kvs)
theorem xc{X:Cx}{pins:List (Addr×Obj)}{σ:St}{H:Hp}{s:Shared}{a:Addr}(I:Inv X pins σ H s)(d:tW H a) :
    s.TypeIs (.ref a) "dict"∧(∀ b,Value.ref a=.ref b→∃ ob,s.heap.get? b=some ob∧ob.dict=none)∧(a==sysModules)=false:=by
  rcases d with ⟨kvs,e⟩ | ⟨kvs,e⟩
  · obtain ⟨_,hd,vs,_,dd⟩:=p9 I.hok e
    refine ⟨dd.typeIs,fun b q=>?_,hd⟩
    cases q
    obtain ⟨ob,_,_,h1,h2,_⟩:=dd
    exact ⟨ob,h1,h2.2.1⟩
  · obtain ⟨_,hd,xs,_,dd⟩:=vG I.hok e
    refine ⟨dd.typeIs,fun b q=>?_,hd⟩
    cases q
    obtain ⟨ob,_,_,h1,h2,_⟩:=dd
    exact ⟨ob,h1,h2.2.1⟩
section
variable {X:Cx}{pins:List (Addr×Obj)}{σ:St}{H:Hp}{s:Shared}{a:Addr}{y d:V}{u r:Value}{o:Option V}{A:Around}{E:Value→Shared→Prop}
theorem BH{Q:Value→Shared→Prop}(hu:A.units+1<cLine)(I:Inv X pins σ H s)(g:DGet H a y o)(ry:RelV y u)(rd:RelV d r)(h:∀ w' s',Inv X pins σ H s'→RelV (o.getD d) w'→Q w' s') :
    wpAny (model X.prog X.w) A (call (.builtin "dict.get") [.ref a,u,r]) Q E s:=by
  rcases g with ⟨kvs,k,e,ey,l⟩ | ⟨kvs,k,b,e,ey,eb,l⟩
  · subst ey
    obtain ⟨z,hd,vs,rel,dd⟩:=p9 I.hok e
    refine call_meetsIn PySem.F.slot_dict_get dd.typeIs PySem.F.entry_dict_get (PySem.F.args_dict_get_3 _ _ _) (meets_dict_get_default (cX X.prog X.w) a (pZ ry) hd r) ⟨_,dd.mapOf,h _ _ (I.tok _) ?_⟩
    rw [l]
    exact (rel.val k).getD rd
  · subst ey
    cases (show u=Value.ref b from ry)
    obtain ⟨z,hd,xs,rel,dd⟩:=vG I.hok e
    refine call_meetsIn PySem.F.slot_dict_get dd.typeIs PySem.F.entry_dict_get (PySem.F.args_dict_get_3 _ _ _) (meetsH_dict_get_default (tupleKind (cX X.prog X.w)) a b hd r) ⟨tupleKind_room_in1 hu,k,xs,qZ I.hok eb,dd,h _ _ (I.tok _) ?_⟩
    rw [l]
    exact (rel.val k).getD rd
end
def qq(td ty tx:TE):TE:=fun σ H Q=>td σ H fun x H1=>∃ a,x=.ref a∧tW H1 a∧ty σ H1 fun y H2=>tx σ H2 fun z H3=>∃ o,DGet H3 a y o∧Q (o.getD z) H3
section
variable {X:Cx}{o e f:Expr}{apos cpos:Pos}{td ty tx:TE}
theorem yJ(hu:X.A.units+1<cLine)(ho:PE X o td)(he:PE X e ty)(hf:PE X f tx)(m:M2 X o "get" apos e f cpos):PE X (.Call (.Attribute o "get" apos) [e,f] [] cpos) (qq td ty tx):=by
  intro pins s σ H Q I h
  refine wpAny_Call_method m.base m.few m.line PySem.F.plainAttrs_dict PySem.F.slot_dict_get PySem.F.type_dict_get (bm (ho pins s σ H _ I h) fun u s1 ⟨x,H1,I1,rx,a,ex,d,q1⟩=>?_)
  subst ex
  obtain rfl:u=Value.ref a:=rx
  obtain ⟨t1,t2,_⟩:=xc I1 d
  refine ⟨t1,t2,?_⟩
  rw [m.trees]
  refine Calls.callWith_builtin rfl (Calls.evalArgs_plain (Calls.spliced_cons (bm (he pins s1 σ H1 _ I1 q1) fun iv s2 ⟨y,H2,I2,ry,q2⟩=>
    Calls.spliced_cons (bm (hf pins s2 σ H2 _ I2 q2) fun fv s3 ⟨z,H3,I3,rz,ov,g,q3⟩=>Calls.spliced_nil ?_))))
  exact BH hu I3 g ry rz fun w' s4 I4 rw'=>⟨_,H3,I4,rw',q3⟩
end
section
variable {X:Cx}{pins:List (Addr×Obj)}{σ:St}{H:Hp}{s:Shared}{a:Addr}{kvs:List (bn×V)}{A:Around}{E:Value→Shared→Prop}
end
section
variable {X:Cx}{pins:List (Addr×Obj)}{σ:St}{H:Hp}{s:Shared}{a:Addr}{y:V}{u:Value}{A:Around}{E:Value→Shared→Prop}
end
end L2
namespace Att
open PySem PySem.W PySem.Calls PyProof.Rows
theorem nO{P:Params}{h:Heap}:∀ (ns:List Int) (vs:List Value),WellAll P h vs (ns.map WData.int)→IntsAre vs ns:=by
  intro ns
  induction ns with
  | nil=>
    intro vs w
    rw [laG] at w
    cases w
    exact .nil
  | cons n ns ih=>
    intro vs w
    rw [lah] at w
    cases w with
    | cons a b=>
      cases a
      exact .cons _ _ (ih _ b)
theorem wZ{l:OpenLaw}{n:Nat}(hn:l.most=some n){P:Params}{h:Heap}{args:List WData}{vals:List Value}
    (hpre:l.row.toRowW.claim.pre args=true)(hwl:WellAll P h vals args) :
    ∃ a vs ns,vals=[Value.ref a]∧args=[WData.list (ns.map WData.int)]∧h.get? a=some { cls:=.type "list",data:=.seq vs.toArray }∧IntsAre vs ns∧ns.length≤n:=by
  have hsh:WShape.hasAll [] args [.list .int]=true:=(pre_splitW hpre).1
  have hc:l.pre.holds [] { args:=args }=true:=(pre_splitW hpre).2
  obtain ⟨d,r,rfl,h1,h2⟩:=hasAllW_cons hsh
  obtain rfl:=hasAllW_nil h2
  obtain ⟨xs,rfl,h3⟩:=hasW_list h1
  obtain ⟨ns,rfl⟩:=items_int h3
  have hlen:ns.length≤n:=by
    unfold OpenLaw.pre at hc
    have h4:(WTm.not (.lt (.lit (.int (n:Int))) (.len (.arg 0)))).holds [] { args:=[.list (ns.map .int)] }=true:=by
      have h4:=(holds_andW hc).1
      rw [hn] at h4
      exact h4
    have h5:=condW_of h4 (w_not (w_lt w_lit (w_len_list (w_arg rfl))))
    rw [laa] at h5
    refine Nat.le_of_not_lt fun q=>?_
    have q':(n:Int)<((ns.length:Nat):Int):=by omega
    first
      | (rw [decide_eq_true q'] at h5;exact absurd h5 (by decide))
      | (simp at h5;omega)
  cases hwl with
  | cons w1 w2=>
    cases w2
    cases w1 with
    | list ho hall=>exact ⟨_,_,ns,rfl,rfl,ho,nO ns _ hall,hlen⟩
theorem xC(l:OpenLaw)(args:List WData):l.row.toRowW.claim.post args (.bool true) args=true:=
  postW_of (r:=l.row.toRowW) (X:=(true==true))
    (show WShape.has [] (.bool true) .bool=true by first | rfl | decide | simp [WShape.has,WShape.arms,WShape.armsAll])
    (show (WTm.eq .res (.lit (.bool true))).value [] { args:=args,res:=some (.bool true),after:=args }=some (.bool (true==true)) from w_eq_bool (w_res rfl) w_lit) rfl
theorem attach_call{l:OpenLaw}{n:Nat}{q:Program}{loose:List Str}{XP:(Str→Option Value)→Heap→Prop}{YP:World→Heap→Prop}{d:DefRec}
    (hn:l.most=some n)(hdf:d.params.defaults=[])
    (call:∀ (w:World) (s₀ s₁:Shared) (mg mb:Str→Option Value) (fa:Addr) (o:Obj) (pm cd doc:Value) (a:Addr) (vs:List Value) (ns:List Int),
      Ground q loose [] XP w s₀ mg mb s₁.heap→YP w s₁.heap→
      s₁.heap.get? fa=some o→o.data=.func (docDef d.name d.params d.body d.scope pm cd doc)→s₁.heap.CodeRec cd d.name→mg d.name=some (.ref fa)→
      s₁.heap.get? a=some { cls:=.type "list",data:=.seq vs.toArray }→IntsAre vs ns→ns.length≤n→s₁.gens=#[]→
      codeAny (model l.prog w) callerA (.call (.ref fa) ⟨[.ref a],[]⟩) (fun r s'=>r=.ok (.ret (.bool true))∧OldK s₁.heap s'.heap∧s'.os=s₁.os∧AllBare s'.gens) s₁) :
    WalkO q loose XP YP l.row.toRowW d [] (fun f vs=>PySem.call f vs):=by
  intro w s₀ s₁ mg mb G Y fa o pm cd doc dV kV ho hd hcd hD hmg hg args vals as hpre hlay hrd hwl hlo
  obtain rfl:dV=.none:=Dflts.none hD hdf
  obtain rfl:kV=.none:=Dflts.noKw hD
  obtain ⟨a,vs,ns,rfl,rfl,hobj,hints,hlen⟩:=wZ hn hpre hwl
  refine enter_call (codeAny_mono (call w s₀ s₁ mg mb fa o pm cd doc a vs ns G Y ho (fd_plain hd) hcd hmg hobj hints hlen hg) fun r s' hq=>?_)
  obtain ⟨rfl,h2,h3,h4⟩:=hq
  exact ⟨.inl ⟨.bool true,.bool true,[],rfl,fun _=>rfl,.bool true,xC l _,fun _=>⟨List.Pairwise.nil,fun _ hm=>(nomatch hm)⟩⟩,h2,h3,h4⟩
section
variable {prog:Program}{w:World}{A:Around}{E:Value→Shared→Prop}{s:Shared}{K:Frag}
end
end Att
namespace L2
open PySem PySem.Spec PyProof.Rows
theorem pC:∀ {vs:List Value} {ns:List Int},IntsAre vs ns→Vals (ns.map V.int) vs
  | _,_,.nil=>.nil
  | _,_,.cons n t h=>.cons ⟨t,rfl⟩ (pC h)
def yp(H:Hp):Prop:=∀ b,H b=none∨∃ o xs,H b=some (.frz o (.lst xs))
theorem yF{P:Program}{w:World}{K:PySem.W.Frag}{mg mb:Str→Option Value}{CX:lI}{k:Nat}{fa a:Addr}{fd:FuncData}{x:Str}{sp:Sp}{s₁:Shared}{vs:List Value}{ns:List Int}
    (KX:K.In s₁.heap)(hns:s₁.heap.Ns mainGlobals mg)(hb:s₁.heap.Ns builtinsNs mb)(hbb:∀ x:Str,x≠"__name__"→mb x=bootBuiltins x)(hlim:s₁.heap.NoLimit)(hg:s₁.gens=#[])
    (ha:s₁.heap.get? a=some { cls:=.type "list",data:=.seq vs.toArray })(hi:IntsAre vs ns)(hl:ns.length≤sizeLine)(hr:Room k callerA)
    (F:∀ base:Heap,K.In base→base.Ns mainGlobals mg→eJ P w K mg base CX k fa fd [x] sp) (hbind:∀ (s:Shared) (u:Value),BindsTo s fd ⟨[u],[]⟩ [(x,u)])
    (hsp:∀ H:Hp,yp H→SqL K H a (ns.map V.int)→sp [.ref a] H (fun v _=>v=.bl true) fun _ _ _=>False)
    (hCX:∀ H e s',CX [] H s₁ (fun _ _ _=>False) e s'→False) :
    codeAny (model P w) callerA (.call (.ref fa) ⟨[.ref a],[]⟩) (fun r s'=>r=.ok (.ret (.bool true))∧OldK s₁.heap s'.heap∧s'.os=s₁.os∧AllBare s'.gens) s₁:=by
  have rv:=pC hi
  have lenV:=hi.length
  -- from an abstract heap in which nothing but the script may be tracked
  have core:∀ H:Hp,yp H→SqL K H a (ns.map V.int)→HOk P w H s₁.heap→(∀ b,H b≠none→b=a)→(H a≠none→K.lookup a=none)→
      codeAny (model P w) callerA (.call (.ref fa) ⟨[.ref a],[]⟩) (fun r s'=>r=.ok (.ret (.bool true))∧OldK s₁.heap s'.heap∧s'.os=s₁.os∧AllBare s'.gens) s₁:=by
    intro H hO hS hok hA hK
    have base_of:∀ {b:Addr} {o:Obj},s₁.heap.get? b=some o→H b=none→(lq s₁.heap H).get? b=some o:=fun e n=>yM e n
    have noA:∀ {b:Addr} {o:Obj} {es:Array DictEntry} {ep:Nat},s₁.heap.get? b=some o→o.data=.dict es ep→H b=none:=fun {b o es ep} e d=>by
      cases q:H b with
      | none=>rfl
      | some u=>
        have e':b=a:=hA b (by rw [q];simp)
        subst e'
        rw [ha] at e;cases e
        have d':Data.seq vs.toArray _=Data.dict es ep:=d
        cases d'
    have nsK:∀ {b:Addr} {m:Str→Option Value},s₁.heap.Ns b m→(lq s₁.heap H).Ns b m:=fun {b m} ⟨o,es,ep,e,d,r⟩=>⟨o,es,ep,base_of e (noA e d),d,r⟩
    have hKb:K.In (lq s₁.heap H):=fun b o e=>base_of (KX b o e) (by
      cases q:H b with
      | none=>rfl
      | some u=>
        have e':b=a:=hA b (by rw [q];simp)
        subst e'
        rw [hK (by rw [q];simp)] at e;cases e)
    have hM:Mod K mg (lq s₁.heap H):=⟨hKb,nsK hns,⟨mb,nsK hb,hbb⟩,let ⟨mc,h1,h2⟩:=hlim;⟨mc,nsK h1,h2⟩⟩
    have e0:Env0 P w K mg (lq s₁.heap H) callerA [] s₁ H:=⟨rfl,hM,fun b o e=>zR e,Nat.le_of_eq (xy _ _),trivial,fun b hb=>absurd (show b∈([]:List Addr) from hb) (by simp),hok,.of_eq hg⟩
    refine codeAny_mono ((F _ hKb (nsK hns)).run callerA [] s₁ H ⟨[.ref a],[]⟩ [.ref a] [.ref a] _ _ hr e0 (hbind s₁ (.ref a)) (.cons rfl .nil) (hsp H hO hS)) fun r s' h=>?_
    cases r with
    | error e=>exact (hCX H e s' h).elim
    | ok fl=>
      cases fl with
      | next=>exact False.elim h
      | brk=>exact False.elim h
      | cont=>exact False.elim h
      | ret u=>
        obtain ⟨v,H',os,bare,un,hok',r',q⟩:=h
        have q':v=.bl true:=q
        subst q'
        obtain rfl:u=Value.bool true:=r'
        refine ⟨rfl,OldK.of_keep fun b o e=>?_,os,bare⟩
        cases q:H b with
        | none=>exact un.keep b o e q (by intro z;exact absurd (show b∈([]:List Addr) from z) (by simp)) (by simp)
        | some u=>
          rcases hO b with z | ⟨ob,xs,z⟩
          · rw [q] at z;cases z
          · have z2:=un.frzs b ob _ z
            obtain ⟨e1,_⟩:=hok b _ z
            obtain ⟨e2,_⟩:=hok' b _ z2
            rw [e] at e1;cases e1
            exact e2
  cases hk:K.lookup a with
  | some o=>
    -- the script is one of the module's own objects
    have e:=KX a o hk
    rw [ha] at e
    cases e
    refine core (fun _=>none) (fun _=>.inl rfl) (.inr ⟨_,vs.toArray,_,hk,rfl,rfl,rfl,by rw [laH,lenV];exact hl,by simpa using rv⟩) (fun b u z=>by have z':(none:Option HO)=some u:=z;cases z') (fun b z=>absurd rfl z) fun z=>absurd rfl z
  | none=>
    refine core (fun b=>if b=a then some (.frz { cls:=.type "list",data:=.seq vs.toArray } (.lst (ns.map V.int))) else none) (fun b=>?_) (.inl (.inr ⟨{ cls:=.type "list",data:=.seq vs.toArray },if_pos rfl⟩)) (fun b u z=>?_) (fun b z=>?_) fun _=>hk
    · by_cases hb:b=a
      · exact .inr ⟨_,_,if_pos hb⟩
      · exact .inl (if_neg hb)
    · by_cases hb:b=a
      · have z':=(if_pos hb).symm.trans z
        cases z'
        subst hb
        exact ⟨ha,by rw [laa];exact hl,vs,_,rv,ha⟩
      · have z':=(if_neg hb).symm.trans z
        cases z'
    · by_cases hb:b=a
      · exact hb
      · exact absurd (if_neg hb) z
end L2
namespace L2
open PySem PySem.Spec PyProof.Rows
theorem walk_of{l:PySem.W.OpenLaw}{n k:Nat}{q:Program}{loose:List Str}{XP:(Str→Option Value)→Heap→Prop}{YP:World→Heap→Prop}{d:DefRec}{K:Params→PySem.W.Frag}{CX:World→lI}{sp:World→Sp}{x:Str}
    (hn:l.most=some n)(hn2:n≤sizeLine)(hdf:d.params.defaults=[])(hr:Room k callerA)
    (hY:∀ (w:World) (h:Heap),YP w h→(K w.params).In h)
    (F:∀ (w:World) (mg:Str→Option Value) (fa:Addr) (h:Heap),(K w.params).In h→h.Ns mainGlobals mg→mg d.name=some (.ref fa)→
      ∃ fd:FuncData,(∀ (s:Shared) (u:Value),BindsTo s fd ⟨[u],[]⟩ [(x,u)])∧
        ∀ base:Heap,(K w.params).In base→base.Ns mainGlobals mg→eJ l.prog w (K w.params) mg base (CX w) k fa fd [x] (sp w))
    (hsp:∀ (w:World) (H:Hp) (a:Addr) (ns:List Int),ns.length≤n→yp H→SqL (K w.params) H a (ns.map V.int)→sp w [.ref a] H (fun v _=>v=.bl true) fun _ _ _=>False)
    (hCX:∀ (w:World) (H:Hp) (s:Shared) (e:Value) (s':Shared),CX w [] H s (fun _ _ _=>False) e s'→False) :
    PySem.W.WalkO q loose XP YP l.row.toRowW d [] (fun f vs=>PySem.call f vs):=by
  refine Att.attach_call hn hdf fun w s₀ s₁ mg mb fa o pm cd doc a vs ns G Y ho hd hcd hmg hobj hints hlen hg=>?_
  have KX:=hY w _ Y
  obtain ⟨fd,hb,hF⟩:=F w mg fa _ KX G.T.g hmg
  exact yF KX G.T.g G.T.b G.T.builtins G.T.nolimit hg hobj hints (las hlen hn2) hr hF hb (fun H hO hS=>hsp w H a ns hlen hO hS) fun H e s'=>hCX w H s₁ e s'
end L2
namespace L2
open PySem PySem.Spec PyProof.Rows
def bE(s:Stmt)(j:Nat):Stmt:=match s with
  | .ClassDef _ _ _ body _ _ _ _ _ _ _=>body.getD j (.Pass ⟨0,0,0,0⟩)
  | _=>.Pass ⟨0,0,0,0⟩
def aD(s:Stmt):Arguments:=match s with
  | .FunctionDef _ a _ _ _ _ _ _ _ _=>a
  | _=>{ posonlyargs:=[],args:=[],vararg:=none,kwonlyargs:=[],kw_defaults:=[],kwarg:=none,defaults:=[] }
def al(s:Stmt):List Stmt:=match s with
  | .FunctionDef _ _ b _ _ _ _ _ _ _=>b
  | _=>[]
def af(s:Stmt):Scope:=match s with
  | .FunctionDef _ _ _ _ _ _ sc _ _ _=>sc
  | _=>{ kind:=.function,names:=[],isGenerator:=false,isCoroutine:=false }
abbrev bw:lI:=fun _ _ _ _ _ _=>False
abbrev E0:XK:=fun _ _ _=>False
theorem aw{X:Cx}:io bw X E0:=fun _ _ _ _ _ _ _ h=>h.elim
structure Fun(K:PySem.W.Frag)(x qual:Str)(st:Stmt)(f:Addr)(fd:FuncData):Prop where
  ex:∃ (oc:Value) (od:Option Addr) (kV doc pm:Value) (an:Option Addr) (cdv ct:Value) (osl:Array (Option Value)),
    fd=PySem.W.fnOf x qual (aD st) (al st) (af st) .none kV doc pm an cdv ct∧K.lookup f=some ⟨oc,od,.func fd,osl⟩∧PySem.W.codeIn K cdv qual=true
  kp:PySem.W.keepIn K (.ref f)=true
section
variable {P:Program}{w:World}{K:PySem.W.Frag}{mg:Str→Option Value}{base:Heap}
theorem Fun.ok{x qual:Str}{st:Stmt}{f:Addr}{fd:FuncData}{N ps:List Str}{k:Nat}{sp:Sp}(F:Fun K x qual st f fd)(S:aE N ps (af st))(len:∀ vs H Q E,sp vs H Q E→vs.length=ps.length)
    (hbody:∀ (cdv:Value) (A:Around) (outer:List Env) (s:Shared) (H:Hp) (vs:List V) (Q:VK) (E:XK),Room k (A.deeper (envOfC qual (af st) s.heap.objs.size f cdv))→sp vs H Q E→
      ∃ t,PSs (bi bw P w K mg base N qual (af st) f cdv A outer s H E).nox (al st) t∧t { nx:=fun _ H'=>Q .non H',rt:=Q } (aT N vs) H):eJ P w K mg base bw (k+1) f fd ps sp:=by
  obtain ⟨oc,od,kV,doc,pm,an,cdv,ct,osl,rfl,lk,hcd⟩:=F.ex
  refine DZ lk hcd S len fun A outer s H vs Q E hr hsp=>?_
  obtain ⟨t,h,q⟩:=hbody cdv A outer s H vs Q E hr hsp
  exact ⟨t,h.nox,q⟩
theorem Fun.binds{x qual:Str}{st:Stmt}{f:Addr}{fd:FuncData}{ps:List Str}(F:Fun K x qual st f fd)
    (h:∀ (kV doc pm:Value) (an:Option Addr) (cdv ct:Value) (us:List Value),us.length=ps.length→bindArgs (PySem.W.fnOf x qual (aD st) (al st) (af st) .none kV doc pm an cdv ct) ⟨us,[]⟩=pure (ps.zip us)):Binds K fd ps []:=by
  obtain ⟨oc,od,kV,doc,pm,an,cdv,ct,osl,rfl,lk,hcd⟩:=F.ex
  exact .all (h kV doc pm an cdv ct)
theorem aP{x qual:Str}{st:Stmt}{f:Addr}{oc:Value}{od an:Option Addr}{osl:Array (Option Value)}{kV doc pm cdv ct:Value}(l:K.lookup f=some ⟨oc,od,.func (PySem.W.fnOf x qual (aD st) (al st) (af st) .none kV doc pm an cdv ct),osl⟩)
    (c:PySem.W.codeIn K cdv qual=true)(k:PySem.W.keepIn K (.ref f)=true):Fun K x qual st f (PySem.W.fnOf x qual (aD st) (al st) (af st) .none kV doc pm an cdv ct):=⟨⟨oc,od,kV,doc,pm,an,cdv,ct,osl,rfl,l,c⟩,k⟩
end
theorem aY{A:Around}{k:Nat}(hr:Room k A):A.units+1<cLine:=Nat.lt_of_le_of_lt (Nat.add_le_add_left (by decide:1≤64) _) hr.units
theorem xB{n:Nat}(h:n≤1000):n<sizeLine:=Nat.lt_of_le_of_lt h (by decide)
section
variable {X:Cx}
theorem pv(i:Nat){x:Str}{pos:Pos}(hN:X.N[i]?=some x:=by rfl)(hv:xh X.env.scope x:=by first | exact Or.inl rfl | exact Or.inr (Or.inl rfl) | exact Or.inr (Or.inr rfl))(hd:(x==("__debug__":Str))=false:=by decide)
    (hcd:(x==("__classdict__":Str))=false:=by decide):PE X (.Name x pos) (ad i):=Cc hN hv hd hcd
end
theorem cS{A B:Prop}(h:B):if false=true then A else B:=by
  rw [if_neg lau]
  exact h
theorem oo{A B:Prop}(h:A):if true=true then A else B:=by
  rw [if_pos rfl]
  exact h
def Same(H H':Hp):Prop:=∀ b o,H b=some o→H' b=some o
theorem Same.refl(H:Hp):Same H H:=fun _ _ h=>h
theorem Same.trans{H H1 H2:Hp}(a:Same H H1)(b:Same H1 H2):Same H H2:=fun c o h=>b c o (a c o h)
theorem Same.free{H H':Hp}(e:Same H H'){l:Addr}(h:H' l=Option.none):H l=Option.none:=by
  cases q:H l with
  | none=>rfl
  | some o=>
    rw [e l o q] at h
    cases h
theorem Same.seq{K:PySem.W.Frag}{H H':Hp}{a:Addr}{xs:List V}(e:Same H H')(h:SqL K H a xs):SqL K H' a xs:=by
  rcases h with (h | ⟨o,h⟩) | h
  · exact .inl (.inl (e _ _ h))
  · exact .inl (.inr ⟨o,e _ _ h⟩)
  · exact .inr h
end L2
namespace L2
open PySem PySem.Spec PyProof.Rows
section
variable {X:Cx}
theorem xx:gG X (.builtin "len") (fun xs H Q=>∃ a kvs,xs=[V.ref a]∧H a=some (.dK kvs)∧Q (.int kvs.length) H):=by
  intro pins s σ H xs us Q I r h
  obtain ⟨a,kvs,rfl,ha,q⟩:=h
  obtain ⟨u,rfl,ru⟩:=n6 r
  cases ru
  exact EU I (.inl ha) fun t s' I'=>⟨.int kvs.length,H,I',⟨t,rfl⟩,q⟩
end
section
variable {κ:Type}[DecidableEq κ]
end
end L2
set_option Elab.async false
set_option linter.all false
set_option maxRecDepth 100000
set_option maxHeartbeats 4000000
namespace L2
open PySem PySem.Spec PyProof.Rows
mutual
inductive Rep(H:Hp)(S:List Addr):V→PyData→Prop
  | non:Rep H S .non .none
  | bl (b:Bool):Rep H S (.bl b) (.bool b)
  | int (i:Int):Rep H S (.int i) (.int i)
  | str (x:Str):Rep H S (.str x) (.str x)
  | lst {a:Addr} {xs:List V} {ds:List PyData}:Rd H a (.lst xs)→¬ a∈S→Reps H S xs ds→Rep H S (.ref a) (.list ds)
  | tup {a:Addr} {xs:List V} {ds:List PyData}:Rd H a (.tup xs)→Reps H S xs ds→Rep H S (.ref a) (.tuple ds)
inductive Reps(H:Hp)(S:List Addr):List V→List PyData→Prop
  | nil:Reps H S [] []
  | cons {x:V} {xs:List V} {d:PyData} {ds:List PyData}:Rep H S x d→Reps H S xs ds→Reps H S (x::xs) (d::ds)
end
structure Chg(S:List Addr)(H H':Hp):Prop where
  keep:∀ b o,H b=some o→¬ b∈S→H' b=some o
  tups:∀ b xs,H b=some (.tup xs)→H' b=some (.tup xs)
  frzs:∀ b o u,H b=some (.frz o u)→H' b=some (.frz o u)
section
variable {H H' H1 H2:Hp}{S T:List Addr}{a p:Addr}{o:HO}
theorem Chg.refl(S:List Addr)(H:Hp):Chg S H H:=⟨fun _ _ e _=>e,fun _ _ e=>e,fun _ _ _ e=>e⟩
theorem Chg.trans(x:Chg S H H1)(y:Chg S H1 H2):Chg S H H2:=⟨fun b o e n=>y.keep b o (x.keep b o e n) n,fun b xs e=>y.tups b xs (x.tups b xs e),fun b o u e=>y.frzs b o u (x.frzs b o u e)⟩
theorem Chg.mono(x:Chg S H H')(h:∀ b∈S,b∈T):Chg T H H':=⟨fun b o e n=>x.keep b o e fun m=>n (h b m),x.tups,x.frzs⟩
theorem Chg.of_same(s:Same H H'):Chg S H H':=⟨fun b o e _=>s b o e,fun b xs e=>s b _ e,fun b o u e=>s b _ e⟩
theorem Same.new(hp:H p=none):Same H (upd H p o):=fun b u e=>by rw [bH (bJ e hp)];exact e
theorem Chg.set(mu:rk (H a))(ha:a∈S):Chg S H (upd H a o):=by
  refine ⟨fun b u e n=>?_,fun b xs e=>?_,fun b u w e=>?_⟩
  · rw [bH (by rintro rfl;exact n ha)];exact e
  · rw [bH (by rintro rfl;rw [e] at mu;exact mu)];exact e
  · rw [bH (by rintro rfl;rw [e] at mu;exact mu)];exact e
theorem Rd.chgT{xs:List V}(c:Chg S H H')(r:Rd H a (.tup xs)):Rd H' a (.tup xs):=r.elim (fun e=>.inl (c.tups _ _ e)) fun ⟨o,e⟩=>.inr ⟨o,c.frzs _ _ _ e⟩
theorem Rd.chgL{xs:List V}(c:Chg S H H')(ha:¬ a∈S)(r:Rd H a (.lst xs)):Rd H' a (.lst xs):=r.elim (fun e=>.inl (c.keep _ _ e ha)) fun ⟨o,e⟩=>.inr ⟨o,c.frzs _ _ _ e⟩
theorem Rd.some{u:HO}(r:Rd H a u):∃ o,H a=some o:=r.elim (fun e=>⟨_,e⟩) fun ⟨_,e⟩=>⟨_,e⟩
mutual
theorem Rep.chg(c:Chg S H H'):∀ {v:V} {d:PyData},Rep H S v d→Rep H' S v d
  | _,_,.non=>.non
  | _,_,.bl b=>.bl b
  | _,_,.int i=>.int i
  | _,_,.str x=>.str x
  | _,_,.lst r n rs=>.lst (r.chgL c n) n (Reps.chg c rs)
  | _,_,.tup r rs=>.tup (r.chgT c) (Reps.chg c rs)
theorem Reps.chg(c:Chg S H H'):∀ {vs:List V} {ds:List PyData},Reps H S vs ds→Reps H' S vs ds
  | _,_,.nil=>.nil
  | _,_,.cons h t=>.cons (Rep.chg c h) (Reps.chg c t)
end
mutual
theorem Rep.mono(c:∀ b∈T,b∈S):∀ {v:V} {d:PyData},Rep H S v d→Rep H T v d
  | _,_,.non=>.non
  | _,_,.bl b=>.bl b
  | _,_,.int i=>.int i
  | _,_,.str x=>.str x
  | _,_,.lst r n rs=>.lst r (fun m=>n (c _ m)) (Reps.mono c rs)
  | _,_,.tup r rs=>.tup r (Reps.mono c rs)
theorem Reps.mono(c:∀ b∈T,b∈S):∀ {vs:List V} {ds:List PyData},Reps H S vs ds→Reps H T vs ds
  | _,_,.nil=>.nil
  | _,_,.cons h t=>.cons (Rep.mono c h) (Reps.mono c t)
end
mutual
theorem Rep.fresh(hp:H p=none):∀ {v:V} {d:PyData},Rep H S v d→Rep H (p::S) v d
  | _,_,.non=>.non
  | _,_,.bl b=>.bl b
  | _,_,.int i=>.int i
  | _,_,.str x=>.str x
  | _,_,.lst r n rs=>.lst r (fun m=>(List.mem_cons.mp m).elim (fun z=>by obtain ⟨o,e⟩:=r.some;rw [z,hp] at e;cases e) n) (Reps.fresh hp rs)
  | _,_,.tup r rs=>.tup r (Reps.fresh hp rs)
theorem Reps.fresh(hp:H p=none):∀ {vs:List V} {ds:List PyData},Reps H S vs ds→Reps H (p::S) vs ds
  | _,_,.nil=>.nil
  | _,_,.cons h t=>.cons (Rep.fresh hp h) (Reps.fresh hp t)
end
theorem Reps.plain{v:List V}{d:List PyData}(r:Reps H S v d):Reps H [] v d:=r.mono (by simp)
theorem Rep.same{v:V}{d:PyData}(s:Same H H')(r:Rep H S v d):Rep H' S v d:=r.chg (.of_same s)
theorem Reps.same{v:List V}{d:List PyData}(s:Same H H')(r:Reps H S v d):Reps H' S v d:=r.chg (.of_same s)
theorem Reps.length:∀ {vs:List V} {ds:List PyData},Reps H S vs ds→vs.length=ds.length
  | _,_,.nil=>rfl
  | _,_,.cons _ t=>by rw [laj,laj,Reps.length t]
theorem Reps.get:∀ {vs:List V} {ds:List PyData} {i:Nat} {v:V},Reps H S vs ds→vs[i]?=some v→∃ d,ds[i]?=some d∧Rep H S v d
  | _,_,i,v,.nil,h=>by simp at h
  | _,_,0,v,.cons h t,e=>by simp at e;subst e;exact ⟨_,rfl,h⟩
  | _,_,i+1,v,.cons h t,e=>by
    simp at e
    obtain ⟨d,h1,h2⟩:=Reps.get t e
    exact ⟨d,by simpa using h1,h2⟩
theorem Reps.getD:∀ {vs:List V} {ds:List PyData} {i:Nat} {d:PyData},Reps H S vs ds→ds[i]?=some d→∃ v,vs[i]?=some v∧Rep H S v d
  | _,_,i,v,.nil,h=>by simp at h
  | _,_,0,v,.cons h t,e=>by simp at e;subst e;exact ⟨_,rfl,h⟩
  | _,_,i+1,v,.cons h t,e=>by
    simp at e
    obtain ⟨d,h1,h2⟩:=Reps.getD t e
    exact ⟨d,by simpa using h1,h2⟩
theorem Reps.append:∀ {vs ws:List V} {ds es:List PyData},Reps H S vs ds→Reps H S ws es→Reps H S (vs++ws) (ds++es)
  | _,_,_,_,.nil,h=>h
  | _,_,_,_,.cons x t,h=>.cons x (Reps.append t h)
theorem Reps.one{v:V}{d:PyData}(h:Rep H S v d):Reps H S [v] [d]:=.cons h .nil
theorem Reps.snoc{vs:List V}{ds:List PyData}{v:V}{d:PyData}(h:Reps H S vs ds)(q:Rep H S v d):Reps H S (vs++[v]) (ds++[d]):=h.append (.one q)
theorem Reps.take:∀ {vs:List V} {ds:List PyData} (n:Nat),Reps H S vs ds→Reps H S (vs.take n) (ds.take n)
  | _,_,0,_=>by simpa using Reps.nil
  | _,_,n+1,.nil=>by simpa using Reps.nil
  | _,_,n+1,.cons h t=>by simpa using Reps.cons h (Reps.take n t)
theorem Reps.drop:∀ {vs:List V} {ds:List PyData} (n:Nat),Reps H S vs ds→Reps H S (vs.drop n) (ds.drop n)
  | _,_,0,h=>by simpa using h
  | _,_,n+1,.nil=>by simpa using Reps.nil
  | _,_,n+1,.cons h t=>by simpa using Reps.drop n t
theorem Rep.non_inv{v:V}(r:Rep H S v .none):v=.non:=by cases r;rfl
theorem Rep.bl_inv{v:V}{b:Bool}(r:Rep H S v (.bool b)):v=.bl b:=by cases r;rfl
theorem Rep.int_inv{v:V}{i:Int}(r:Rep H S v (.int i)):v=.int i:=by cases r;rfl
theorem Rep.str_inv{v:V}{x:Str}(r:Rep H S v (.str x)):v=.str x:=by cases r;rfl
theorem Rep.lst_inv{v:V}{ds:List PyData}(r:Rep H S v (.list ds)):∃ a xs,v=.ref a∧Rd H a (.lst xs)∧¬ a∈S∧Reps H S xs ds:=by cases r with | lst h n t=>exact ⟨_,_,rfl,h,n,t⟩
theorem Rep.tup_inv{v:V}{ds:List PyData}(r:Rep H S v (.tuple ds)):∃ a xs,v=.ref a∧Rd H a (.tup xs)∧Reps H S xs ds:=by cases r with | tup h t=>exact ⟨_,_,rfl,h,t⟩
theorem Reps.nil_inv{vs:List V}(r:Reps H S vs []):vs=[]:=by cases r;rfl
theorem Reps.cons_inv{vs:List V}{d:PyData}{ds:List PyData}(r:Reps H S vs (d::ds)):∃ x xs,vs=x::xs∧Rep H S x d∧Reps H S xs ds:=by cases r with | cons h t=>exact ⟨_,_,rfl,h,t⟩
theorem pU:∀ (xs:List Str),Reps H S (xs.map .str) (xs.map .str)
  | []=>.nil
  | x::xs=>.cons (.str x) (pU xs)
theorem lG:∀ (xs:List Int),Reps H S (xs.map .int) (xs.map .int)
  | []=>.nil
  | x::xs=>.cons (.int x) (lG xs)
end
section
variable {X:Cx}{pins:List (Addr×Obj)}{σ:St}{H:Hp}{s:Shared}{S:List Addr}
mutual
theorem Rep.reads(I:Inv X pins σ H s):∀ {v:V} {d:PyData} {u:Value},Rep H S v d→RelV v u→∃ as,Reads s.heap u d as
  | _,_,_,.non,r=>by cases (show _=Value.none from r);exact ⟨_,.none⟩
  | _,_,_,.bl b,r=>by cases (show _=Value.bool b from r);exact ⟨_,.bool b⟩
  | _,_,_,.int i,r=>by obtain ⟨t,e⟩:=(show ∃ t,_=Value.int i t from r);subst e;exact ⟨_,.int i t⟩
  | _,_,_,.str x,r=>by obtain ⟨t,e⟩:=(show ∃ t,_=Value.str x t from r);subst e;exact ⟨_,.str x t⟩
  | _,_,_,.lst (a:=a) h _ rs,r=>by
    cases (show _=Value.ref a from r)
    obtain ⟨its,rv,⟨o,n,e,c,_,d⟩,_⟩:=I.list (Or.inl h)
    obtain ⟨as,q⟩:=Reps.reads I rs rv
    exact ⟨_,.list e c d (by simpa using q)⟩
  | _,_,_,.tup (a:=a) h rs,r=>by
    cases (show _=Value.ref a from r)
    obtain ⟨its,rv,⟨o,e,c,n,d⟩,_⟩:=I.tuple (Or.inl h)
    obtain ⟨as,q⟩:=Reps.reads I rs rv
    exact ⟨_,.tuple e c d (by simpa using q)⟩
theorem Reps.reads(I:Inv X pins σ H s):∀ {vs:List V} {ds:List PyData} {us:List Value},Reps H S vs ds→Vals vs us→∃ as,ReadsAll s.heap us ds as
  | _,_,_,.nil,r=>by cases r;exact ⟨_,.nil⟩
  | _,_,_,.cons h t,r=>by
    cases r with
    | cons r1 r2=>
      obtain ⟨as,q⟩:=Rep.reads I h r1
      obtain ⟨bs,p⟩:=Reps.reads I t r2
      exact ⟨_,.cons q p⟩
end
end
def wd:R2:=fun x y H Q=>∃ d e,Rep H [] x d∧Rep H [] y e∧SeqAt.shaped d=true∧SeqAt.shaped e=true∧Q (.bl (PyData.eqv d e)) H
section
variable {X:Cx}
theorem xt(hu:X.A.units+64<cLine):eU X (compareOp .Eq) wd:=by
  intro pins s σ H x y v u Q I rx ry h
  obtain ⟨d,e,rd,re,sd,se,q⟩:=h
  obtain ⟨as,ra⟩:=rd.reads I rx
  obtain ⟨bs,rb⟩:=re.reads I ry
  exact SeqAt.compareEq_shaped ra rb sd se hu ⟨.bl _,H,I,rfl,q⟩
def TyO(K:PySem.W.Frag)(H:Hp)(x:V)(t:Value):Prop:=ge K H x t∨∃ a ys,x=.ref a∧Rd H a (.tup ys)∧t=.type "tuple"
theorem bp:gG X (.builtin "isinstance") (fun xs H Q=>∃ x T t b,xs=[x,.ty T]∧TyO X.K H x t∧PySem.W.kitOne X.K t (.type T)=some b∧Q (.bl b) H):=by
  intro pins s σ H xs us Q I r h
  obtain ⟨x,T,t,b,rfl,ty,e,q⟩:=h
  obtain ⟨u,v,rfl,ru,rv⟩:=Vals.two r
  cases (show v=Value.type T from rv)
  rcases ty with ty | ⟨a,ys,rfl,rd,rfl⟩
  · exact xJ I ru ty e fun tk=>⟨.bl b,H,I.tok tk,rfl,q⟩
  · cases (show u=Value.ref a from ru)
    obtain ⟨its,_,⟨o,h1,h2,_⟩,_⟩:=I.tuple (Or.inl rd)
    exact PySem.W.kia_one PySem.W.kitx_tuple I.kIn ⟨o,h1,h2⟩ e (fun z=>nomatch z) fun tk=>⟨.bl b,H,I.tok tk,rfl,q⟩
end
theorem cW(K:PySem.W.Frag)(T:String):PySem.W.kitOne K (.type T) (.type T)=some true:=by unfold PySem.W.kitOne;rw [if_pos (by simp)]
def nT(td ty tx:TE):TE:=fun σ H Q=>td σ H fun x H1=>∃ a,x=.ref a∧tW H1 a∧ty σ H1 fun y H2=>tx σ H2 fun z H3=>∃ kvs k,H3 a=some (.dK kvs)∧y=kV k∧kvs.length<sizeLine∧
  (∀ v,bW kvs k=some v→Q v H3)∧(bW kvs k=none→Q z (upd H3 a (.dK (db kvs k z))))
section
variable {X:Cx}{o e f:Expr}{apos cpos:Pos}{td ty tx:TE}
theorem ql(ho:PE X o td)(he:PE X e ty)(hf:PE X f tx)(m:M2 X o "setdefault" apos e f cpos):PE X (.Call (.Attribute o "setdefault" apos) [e,f] [] cpos) (nT td ty tx):=by
  intro pins s σ H Q I h
  refine wpAny_Call_method m.base m.few m.line PySem.F.plainAttrs_dict PySem.F.slot_dict_setdefault PySem.F.type_dict_setdefault (bm (ho pins s σ H _ I h) fun u s1 ⟨x,H1,I1,rx,a,ex,d,q1⟩=>?_)
  subst ex
  obtain rfl:u=Value.ref a:=rx
  obtain ⟨t1,t2,_⟩:=xc I1 d
  refine ⟨t1,t2,?_⟩
  rw [m.trees]
  refine Calls.callWith_builtin rfl (Calls.evalArgs_plain (Calls.spliced_cons (bm (he pins s1 σ H1 _ I1 q1) fun iv s2 ⟨y,H2,I2,ry,q2⟩=>
    Calls.spliced_cons (bm (hf pins s2 σ H2 _ I2 q2) fun fv s3 ⟨z,H3,I3,rz,kvs,k,ea,ey,lz,q3,q4⟩=>Calls.spliced_nil ?_))))
  subst ey
  obtain ⟨z',hd,vs,rel,dd⟩:=zt I3.hok ea
  refine call_meetsIn PySem.F.slot_dict_setdefault dd.typeIs PySem.F.entry_dict_setdefault (PySem.F.args_dict_setdefault_3 _ _ _) (kt_meets_setdefault (cX X.prog X.w) a (pZ ry) hd fv)
    ⟨vs,dd,by rw [← rel.length];exact z',fun v hv=>?_,fun hn h' dd' hs=>?_⟩
  · have rl:=rel.val k
    rw [hv] at rl
    cases e:bW kvs k with
    | none=>rw [e] at rl;exact (show False from rl).elim
    | some x=>
      rw [e] at rl
      exact ⟨x,H3,I3.tok _,rl,q3 x e⟩
  · have rl:=rel.val k
    rw [hn] at rl
    cases e:bW kvs k with
    | some x=>rw [e] at rl;exact (show False from rl).elim
    | none=>
      have hl:(db kvs k z).length≤sizeLine:=by have:=fg kvs k z;omega
      have he:∃ q,h'.get? a=some q:=let ⟨q,_,_,hq,_⟩:=dd';⟨q,hq⟩
      exact ⟨z,_,oS I3 (by rw [ea];exact True.intro) hs he (xG hl hd (rel.put k rz) dd'),rz,q4 e⟩
end
abbrev gQ:R2:=iT fun i j=>.int (i+j)
abbrev zo:R2:=iT fun i j=>.int (i - j)
abbrev cQ:R2:=rI CMul fun i j=>.int (i*j)
abbrev b3:R2:=rI (fun _ j=>0<j) fun i j=>.int (i % j)
abbrev p8:R2:=rI yg fun i j=>.int (i / j)
abbrev lU:R2:=iT fun i j=>.bl (decide (i<j))
abbrev A6:R2:=iT fun i j=>.bl (decide (i≤j))
abbrev mS:R2:=iT fun i j=>.bl (decide (j<i))
abbrev II:R2:=iT fun i j=>.bl (decide (j≤i))
abbrev Dn:V→Hp→VK→Prop:=rU fun i=>.int (-i)
abbrev b5(K:PySem.W.Frag):List V→Hp→VK→Prop:=fun xs H Q=>∃ p ys,xs=[.ref p]∧(SqL K H p ys∨fE K H p ys)∧Q (.int ys.length) H
abbrev uN:List V→Hp→VK→Prop:=fun xs H Q=>∃ a kvs,xs=[V.ref a]∧H a=some (.dK kvs)∧Q (.int kvs.length) H
abbrev ef(K:PySem.W.Frag):List V→Hp→VK→Prop:=fun xs H Q=>∃ p ys,xs=[.ref p]∧(SqL K H p ys∨fE K H p ys)∧∀ l,H l=none→Q (.ref l) (upd H l (.lst ys))
abbrev dF(K:PySem.W.Frag):List V→Hp→VK→Prop:=fun xs H Q=>∃ x T t b,xs=[x,.ty T]∧TyO K H x t∧PySem.W.kitOne K t (.type T)=some b∧Q (.bl b) H
theorem aH{A:Around}{k:Nat}(hr:Room k A):A.units+65<cLine:=by have:=hr.un;omega
def aJ(P:Program)(w:World)(K:PySem.W.Frag)(mg:Str→Option Value)(base:Heap)(k:Nat)(x:Str)(ps:List Str)(sp:Sp):Prop:=
  ∃ f fd,eJ P w K mg base bw k f fd ps sp∧mg x=some (.ref f)∧PySem.W.keepIn K (.ref f)=true∧Binds K fd ps []
def aB(P:Program)(w:World)(K:PySem.W.Frag)(mg:Str→Option Value)(base:Heap)(C:Addr)(k:Nat)(x:Str)(ps:List Str)(sp:Sp):Prop:=
  ∃ f fd,eJ P w K mg base bw k f fd ps sp∧cH K C x f∧Binds K fd ps []
def lR(P:Program)(w:World)(K:PySem.W.Frag)(mg:Str→Option Value)(base:Heap)(C:Addr)(k:Nat)(ps:List Str)(sp:Sp):Prop:=
  ∃ f fd,eJ P w K mg base bw k f fd ps sp∧Mk K C f∧Binds K fd ps []
def Grow(R:List Addr)(H:Hp)(R':List Addr):Prop:=∀ a∈R',a∈R∨H a=none
theorem Grow.refl(R:List Addr)(H:Hp):Grow R H R:=fun _ h=>.inl h
theorem Grow.trans{R R1 R2:List Addr}{H H1:Hp}(g1:Grow R H R1)(c:Chg R H H1)(g2:Grow R1 H1 R2):Grow R H R2:=fun a ha=>by
  rcases g2 a ha with z | z
  · exact g1 a z
  · by_cases m:a∈R
    · exact .inl m
    · cases e:H a with
      | none=>exact .inr rfl
      | some o=>rw [c.keep a o e m] at z;cases z
theorem Chg.grow{R R1:List Addr}{H H1 H2:Hp}(c:Chg R H H1)(g:Grow R H R1)(c2:Chg R1 H1 H2):Chg R H H2:=
  ⟨fun b o e n=>c2.keep b o (c.keep b o e n) fun m=>(g b m).elim n fun z=>(by rw [e] at z;cases z),fun b xs e=>c2.tups b xs (c.tups b xs e),fun b o u e=>c2.frzs b o u (c.frzs b o u e)⟩
mutual
theorem Rep.grow{H:Hp}{S T:List Addr}(g:Grow S H T):∀ {v:V} {d:PyData},Rep H S v d→Rep H T v d
  | _,_,.non=>.non
  | _,_,.bl b=>.bl b
  | _,_,.int i=>.int i
  | _,_,.str x=>.str x
  | _,_,.lst r n rs=>.lst r (fun m=>(g _ m).elim n fun z=>by obtain ⟨o,e⟩:=r.some;rw [z] at e;cases e) (Reps.grow g rs)
  | _,_,.tup r rs=>.tup r (Reps.grow g rs)
theorem Reps.grow{H:Hp}{S T:List Addr}(g:Grow S H T):∀ {v:List V} {d:List PyData},Reps H S v d→Reps H T v d
  | _,_,.nil=>.nil
  | _,_,.cons h t=>.cons (Rep.grow g h) (Reps.grow g t)
end
theorem Chg.put{S:List Addr}{H H':Hp}{p:Addr}{o:HO}(c:Chg S H H')(hp:H p=none):Chg S H (upd H' p o):=
  ⟨fun b u e n=>by rw [bH (bJ e hp)];exact c.keep b u e n,fun b xs e=>by rw [bH (bJ e hp)];exact c.tups b xs e,fun b u w e=>by rw [bH (bJ e hp)];exact c.frzs b u w e⟩
theorem TyO.int{K:PySem.W.Frag}{H:Hp}(i:Int):TyO K H (.int i) (.type "int"):=.inl (.int i)
theorem TyO.str{K:PySem.W.Frag}{H:Hp}(i:Str):TyO K H (.str i) (.type "str"):=.inl (.str i)
theorem TyO.lst{K:PySem.W.Frag}{H:Hp}{a:Addr}{xs:List V}(r:H a=some (.lst xs)):TyO K H (.ref a) (.type "list"):=.inl (.lst r)
theorem TyO.list{K:PySem.W.Frag}{H:Hp}{a:Addr}{xs:List V}(r:Rd H a (.lst xs)):TyO K H (.ref a) (.type "list"):=r.elim (fun e=>.inl (.lst e)) fun ⟨_,e⟩=>.inl (.frz e)
theorem TyO.tup{K:PySem.W.Frag}{H:Hp}{a:Addr}{xs:List V}(r:Rd H a (.tup xs)):TyO K H (.ref a) (.type "tuple"):=.inr ⟨a,xs,rfl,r,rfl⟩
end L2
set_option Elab.async false
set_option linter.all false
set_option maxRecDepth 100000
set_option maxHeartbeats 4000000
namespace L2
open PySem PySem.Spec PyProof.Rows
abbrev fI(X:Cx)(N:List Str)(scope:Scope)(cl:List (Str×Addr))(C:Addr)(s:Shared)(H:Hp)(fp:List Addr):Cx:=
  { X with N:=N,s₀:=s,H₀:=H,env:=compEnvC scope cl C X.env,outer:=X.stack,ex:=fp,fn:=fun _=>false,pn:=[],xe:=fun _ _=>False }
def ij(pick:List (Option Nat))(σ:St):St:=pick.map fun o=>o.bind fun i=>(σ[i]?).bind id
def Picks(X:Cx)(scope:Scope)(cl:List (Str×Addr)):List Str→List (Option Nat)→Prop
  | [],[]=>True
  | _::xs,none::ps=>Picks X scope cl xs ps
  | x::xs,some i::ps=>(X.N[i]?=some x∧(X.env.kindOf x=some .cell∨X.env.kindOf x=some .free)∧
      ((relabel scope X.env).names.lookup x=some .cell∨(relabel scope X.env).names.lookup x=some .free)∧∃ c,X.env.cells.lookup x=some c∧cl.lookup x=some c)∧Picks X scope cl xs ps
  | _,_=>False
def ClosOk(X:Cx):List (Str×Addr)→Prop
  | []=>True
  | p::r=>X.env.cells.lookup p.1=some p.2∧ClosOk X r
structure cj(X:Cx)(N:List Str)(scope:Scope)(cl:List (Str×Addr))(pick:List (Option Nat)):Prop where
  clos:closureFor scope X.env=pure cl
  kind:scope.kind=.function
  nocell:(scope.names.all fun y=>y.2 != .cell)=true
  loc:(scope.names.all fun y=>y.2 != .local||scope.names.lookup y.1==some .local)=true
  free:(scope.names.all fun y=>y.2 != .free||(cl.lookup y.1).isSome)=true
  cells:ClosOk X cl
  picks:Picks X scope cl N pick
theorem ClosOk.look{X:Cx}:∀ {cl:List (Str×Addr)} {x:Str} {c:Addr},ClosOk X cl→cl.lookup x=some c→X.env.cells.lookup x=some c
  | [],_,_,_,h=>by simp at h
  | (n,a)::r,x,c,⟨h1,h2⟩,h=>by
    rw [List.lookup_cons] at h
    cases e:x==n with
    | true=>
      rw [e] at h
      have e':x=n:=by simpa using e
      subst e'
      cases h
      exact h1
    | false=>
      rw [e] at h
      exact h2.look h
theorem Picks.length{X:Cx}{scope:Scope}{cl:List (Str×Addr)}:∀ {N:List Str} {ps:List (Option Nat)},Picks X scope cl N ps→ps.length=N.length
  | [],[],_=>rfl
  | [],_::_,h=>(show False from h).elim
  | _::_,[],h=>(show False from h).elim
  | _::xs,none::ps,h=>by
    have h':Picks X scope cl xs ps:=h
    rw [laj,laj,h'.length]
  | _::xs,some i::ps,h=>by
    have h':Picks X scope cl xs ps:=h.2
    rw [laj,laj,h'.length]
theorem Picks.at{X:Cx}{scope:Scope}{cl:List (Str×Addr)}:∀ {N:List Str} {ps:List (Option Nat)} {j i:Nat} {x:Str},Picks X scope cl N ps→N[j]?=some x→ps[j]?=some (some i)→
    X.N[i]?=some x∧(X.env.kindOf x=some .cell∨X.env.kindOf x=some .free)∧
      ((relabel scope X.env).names.lookup x=some .cell∨(relabel scope X.env).names.lookup x=some .free)∧∃ c,X.env.cells.lookup x=some c∧cl.lookup x=some c
  | [],_,j,_,_,_,h,_=>by simp at h
  | _::_,[],j,_,_,_,_,h=>by simp at h
  | y::xs,none::ps,0,_,_,_,_,h=>by simp at h
  | y::xs,some k::ps,0,i,x,p,h1,h2=>by
    simp at h1 h2
    subst h1 h2
    exact p.1
  | y::xs,none::ps,j+1,i,x,p,h1,h2=>Picks.at (N:=xs) (ps:=ps) p (by simpa using h1) (by simpa using h2)
  | y::xs,some k::ps,j+1,i,x,p,h1,h2=>Picks.at (N:=xs) (ps:=ps) p.2 (by simpa using h1) (by simpa using h2)
theorem sv{prog:Program}{w:World}{A:Around}{R:Result→Shared→Prop}{s:Shared}{elt target iter:Expr}{ifs:List Expr}{scope:Scope}{pos:Pos}{it acc:Value}{env:Env}(I:Nat→Shared→Prop)
    (turn:∀ n s,I n s→wpAny (model prog w) A (pyNext it) (fun r s₁=>match r with
      | none=>R (.ok .next) s₁
      | some v=>wpAny (model prog w) A (letOwnedTupleGo target it v) (fun _ s'=>wpAny (model prog w) A (assign target env v) (fun _ s₂=>
          wpAny (model prog w) A (forIn ifs true fun c r=>if r=true then do let ok ← isTrue c env (eval c env);pure (ForInStep.yield ok) else pure (ForInStep.yield r)) (fun ok s₃=>
            if ok=true then wpAny (model prog w) A (eval elt env) (fun x s₄=>
              wpAny (model prog w) A (call (.builtin "list.append") [acc,x]) (fun _ s₅=>∃ m,m<n∧I m s₅) (fun _ _=>False) s₄) (fun _ _=>False) s₃
            else ∃ m,m<n∧I m s₃) (fun _ _=>False) s₂) (fun _ _=>False) s') (fun _ _=>False) s₁) (fun _ _=>False) s)
    (n:Nat)(h:I n s) :
    codeAny (model prog w) A (.compLoop (.ListComp elt [⟨target,iter,ifs,0⟩] scope pos) 0 it acc env) R s:=by
  refine codeAny_loop rfl I (fun n s hI=>?_) n h
  show wpAny _ A ((compTurn (.ListComp elt [⟨target,iter,ifs,0⟩] scope pos) 0 it acc env).onRaise (fun x=>do noteFrame x env;theTreesLotGoes x)) _ _ s
  refine wpAny_noted ?_
  rw [compTurn_list]
  refine wpAny_bind (wpAny_standAt (wpAny_bind (wpAny_mono (turn n s hI) (fun r s₁ h₁=>?_) fun _ _ h'=>h'.elim)))
  cases r with
  | none=>exact wpAny_pure h₁
  | some v=>
    refine wpAny_bind (wpAny_mono h₁ (fun _ s' h'=>wpAny_bind (wpAny_mono h' (fun _ s₂ h₂=>wpAny_bind (wpAny_mono h₂ (fun ok s₃ h₃=>?_) fun _ _ h'=>h'.elim)) fun _ _ h'=>h'.elim)) fun _ _ h'=>h'.elim)
    cases ok with
    | false=>exact wpAny_pure ⟨rfl,h₃⟩
    | true=>
      exact wpAny_bind (wpAny_bind (wpAny_mono h₃ (fun x s₄ h₄=>wpAny_bind (wpAny_mono h₄ (fun _ s₅ h₅=>wpAny_pure (wpAny_pure ⟨rfl,h₅⟩)) fun _ _ h'=>h'.elim)) fun _ _ h'=>h'.elim))
def tz(X:Cx)(ifs:List Expr)(t:TT):Prop:=
  ∀ (pins:List (Addr×Obj)) (s:Shared) (σ:St) (H:Hp) (Q:Bool→Hp→Prop),Inv X pins σ H s→t σ H Q→
    wpAny (model X.prog X.w) X.A (forIn ifs true fun c r=>if r=true then do let ok ← isTrue c X.env (eval c X.env);pure (ForInStep.yield ok) else pure (ForInStep.yield r)) (TP X pins σ Q) X.xe s
def fm:TT:=fun _ H Q=>Q true H
theorem dY{X:Cx}:tz X [] fm:=fun _ _ _ H _ I h=>wpAny_tests_nil ⟨H,I,h⟩
theorem eP{X:Cx}{c:Expr}{t:TT}(h:PT X c t):tz X [c] t:=fun pins s σ H Q I q=>wpAny_tests_one (h pins s σ H Q I q)
def Gm(X:Cx)(pins:List (Addr×Obj))(H:Hp)(C:Addr):Prop:=
  H C=none∧C≠X.env.locals∧X.s₀.heap.objs.size≤C∧(∀ x c,X.env.cells.lookup x=some c→c≠C)∧∀ q∈X.pn++pins,q.1≠C
def nK(J:It)(g:TG)(ti:TT)(te:TE)(σ0:St)(H1:Hp)(Q:VK)(p:Addr):Prop:=
  ∃ W:Nat→Nat→St→Hp→Prop,(∃ m,W 0 m σ0 (upd H1 p (.lst [])))∧∀ i m σ H,W i m σ H→
    (J.stop i H∧Q (.ref p) H)∨(J.go i H∧∃ N:St→Hp→Prop,(∀ σ' H',N σ' H'→∃ m',m'<m∧W (i+1) m' σ' H')∧
      ∀ x H',J.yld i H x H'→g x σ H' fun σ2 H2=>ti σ2 H2 fun b H3=>if b=true then te σ2 H3 fun v H4=>∃ xs,H4 p=some (.lst xs)∧xs.length<sizeLine∧N σ2 (upd H4 p (.lst (xs++[v]))) else N σ2 H3)
section
variable {X:Cx}{pins:List (Addr×Obj)}{σ:St}{H2:Hp}{s2:Shared}{N:List Str}{scope:Scope}{cl:List (Str×Addr)}{pick:List (Option Nat)}{elt tg iter:Expr}{ifs:List Expr}{pos:Pos}
  {g:TG} {ti:TT} {te:TE} {it:Addr} {fp:List Addr} {tn:Nat→Heap→Prop} {J:It} {Q:VK}
theorem DX{C:Addr}{s3:Shared}{H3:Hp}(S:cj X N scope cl pick)(I3:Inv X pins σ H3 s3)(hC:s3.heap.objs.size≤C)(f3:∀ b∈fp,iQ X pins H3 b)(hlt:∀ b∈fp,b<s3.heap.objs.size) :
    (fI X N scope cl C s3 H3 fp).Ok where
  mod:=I3.mod
  kind:=S.kind
  glob:=I3.ok.glob
  blt:=I3.ok.blt
  above:=hC
  inj:=fun x y c a b=>I3.ok.inj x y c (S.cells.look a) (S.cells.look b)
  has:=fun x h=>by
    have key:∀ (names:List (Str×NameKind)),(names.all fun y=>y.2 != .cell)=true→(names.all fun y=>y.2 != .free||(cl.lookup y.1).isSome)=true→
        ((names.map fun (n,k)=>if (k==NameKind.free&&X.env.scope.kind==.function&&X.env.kindOf n==some .cell) then (n,NameKind.cell) else (n,k)).lookup x=some .cell∨
         (names.map fun (n,k)=>if (k==NameKind.free&&X.env.scope.kind==.function&&X.env.kindOf n==some .cell) then (n,NameKind.cell) else (n,k)).lookup x=some .free)→∃ c,cl.lookup x=some c:=by
      intro names
      induction names with
      | nil=>intro _ _ h;simp at h
      | cons y r ih=>
        obtain ⟨n,k⟩:=y
        intro h1 h2 h3
        rw [List.all_cons,Bool.and_eq_true] at h1 h2
        rw [lah] at h3
        cases hx:x==n with
        | true=>
          have hx':x=n:=by simpa using hx
          subst hx'
          cases k with
          | free=>
            have q:=h2.1
            rw [Bool.or_eq_true] at q
            exact Option.isSome_iff_exists.mp (q.resolve_left (by simp))
          | cell=>exact absurd h1.1 (by simp)
          | _=>simp [List.lookup_cons] at h3
        | false=>
          refine ih h1.2 h2.2 ?_
          have e:∀ (k':NameKind),List.lookup x ((n,k')::(r.map fun (n,k)=>if (k==NameKind.free&&X.env.scope.kind==.function&&X.env.kindOf n==some .cell) then (n,NameKind.cell) else (n,k))) =
              List.lookup x (r.map fun (n,k)=>if (k==NameKind.free&&X.env.scope.kind==.function&&X.env.kindOf n==some .cell) then (n,NameKind.cell) else (n,k)):=fun k'=>by rw [List.lookup_cons,hx]
          by_cases hc:(k==NameKind.free&&X.env.scope.kind==.function&&X.env.kindOf n==some .cell)=true
          · simp only [if_pos hc] at h3;rw [e] at h3;exact h3
          · simp only [if_neg hc] at h3;rw [e] at h3;exact h3
    exact key scope.names S.nocell S.free h
  cab:=fun x c h=>by cases h
  hd:=I3.ok.hd
  frames:=I3.ok.frames
  stk:=.inl rfl
  exf:=fun b hb=>⟨fun e=>absurd (hlt b hb) (Nat.not_lt.mpr (by rw [show b=C from e];exact hC)),fun x c e=>(f3 b hb).2.2.2.2.1 x c (S.cells.look e)⟩
  bs:=I3.bs
  bsz:=las I3.ok.bsz I3.sz
  noex:=fun b o e hb=>by
    rcases (f3 b hb).2.2.2.1 with z | z
    · exact I3.ok.noex b o e z
    · exact absurd (lav (Heap.lt_size (I3.ok.bs b o e).1) z) (Nat.lt_irrefl _)
  exfs:=fun b hb m=>by
    rcases List.mem_cons.mp (I3.stkSub b m) with z | z
    · exact (f3 b hb).2.1 z
    · exact (f3 b hb).2.2.1 z
  funs:=I3.stack
  frf:=I3.stkFree
theorem AA{C:Addr}{s3:Shared}{H3:Hp}{h4:Heap}{t4:Nat}{m:Str→Option Value}(S:cj X N scope cl pick)(I3:Inv X pins σ H3 s3)(hC:s3.heap.objs.size≤C)(f3:∀ b∈fp,iQ X pins H3 b)(hlt:∀ b∈fp,b<s3.heap.objs.size)
    (hn:h4.Ns C m)(hk:∀ b o,s3.heap.get? b=some o→h4.get? b=some o):Inv (fI X N scope cl C s3 H3 fp) [] (ij pick σ) H3 { s3 with heap:=h4,toks:=t4 } where
  ok:=DX S I3 hC f3 hlt
  os:=rfl
  bare:=I3.bare
  base:=Un.kept hk
  loc:=by
    refine ⟨m,hn,fun j x v hj hσ hv=>?_⟩
    have hj':N[j]?=some x:=hj
    unfold ij at hσ
    rw [lae] at hσ
    cases hp:pick[j]? with
    | none=>rw [hp] at hσ;cases hσ
    | some o=>
      rw [hp] at hσ
      cases o with
      | none=>cases hσ
      | some i=>
        obtain ⟨a1,a2,a3,c,a4,a5⟩:=S.picks.at hj' hp
        have hσ':σ[i]?=some (some v):=by
          have:(σ[i]?).bind id=some v:=by simpa using hσ
          cases q:σ[i]? with
          | none=>rw [q] at this;cases this
          | some z=>rw [q] at this;have e:z=some v:=this;rw [e]
        obtain ⟨m0,_,hl⟩:=I3.loc
        have vis:xh X.env.scope x:=a2.elim (fun e=>.inr (.inl e)) fun e=>.inr (.inr e)
        obtain ⟨u,ru,lk⟩:=hl i x v a1 hσ' vis
        refine ⟨u,ru,.inr ⟨a3,c,a5,?_⟩⟩
        rcases lk with ⟨z,_⟩ | ⟨_,c',e',ic⟩
        · rcases a2 with y | y <;> (rw [y] at z;cases z)
        · rw [a4] at e';cases e'
          obtain ⟨o,e,d⟩:=ic
          exact ⟨o,hk _ _ e,d⟩
  cell:=fun x c e=>by
    obtain ⟨v,o,q,d⟩:=I3.cell x c (S.cells.look e)
    exact ⟨v,o,hk _ _ q,d⟩
  free:=I3.hok.fresh hC
  freeC:=fun x c e=>I3.freeC x c (S.cells.look e)
  pin:=fun p hp=>nomatch hp
  hok:=I3.hok.kept hk
  len:=by
    show (ij pick σ).length=N.length
    unfold ij
    rw [laa,S.picks.length]
theorem sT{E:Value→Shared→Prop}{RR:Value→Addr→Result→Shared→Prop}(hc:X.calm=true)(S:cj X N scope cl pick)
    (hg:∀ C s H fp,PG (fI X N scope cl C s H fp) tg g)(ht:∀ C s H fp,tz (fI X N scope cl C s H fp) ifs ti)(he:∀ C s H fp,PE (fI X N scope cl C s H fp) elt te)
    (I2:Inv X pins σ H2 s2)(T:qX X.prog X.w X.K tg J fp it tn)(st2:tn 0 s2.heap)(f2:∀ b∈fp,iQ X pins H2 b)
    (hq:∀ p,H2 p=none→nK J g ti te (ij pick σ) H2 Q p)
    (hRR:∀ C p H' s1 m,Inv X pins σ H' s1→Gm X pins H' C→s1.heap.Ns C m→Q (.ref p) H'→RR (.ref p) C (.ok .next) s1) :
    wpAny (model X.prog X.w) X.A (newList []) (fun acc s₃=>wpAny (model X.prog X.w) X.A (newFunctionEnv scope X.env.globals cl [] X.env.qual none .none (some X.env)) (fun cenv s₄=>
      codeAny (model X.prog X.w) X.A (.compStart (.ListComp elt [⟨tg,iter,ifs,0⟩] scope pos) 0 (.ref it) acc { cenv with scope:=relabel scope X.env }) (RR acc cenv.locals) s₄) E s₃) E s2:=by
  have hcell:∀ y∈scope.names,y.2≠.cell:=fun y hy=>by simpa using List.all_eq_true.mp S.nocell y hy
  refine wpAny_newObj_type (wpAny_newFunctionEnv hcell (by intro y hy;simp at hy) (fun h₁ hns₁ hsb₁=>?_) S.kind)
  dsimp only at hns₁ hsb₁ ⊢
  have I3:Inv X pins σ (upd H2 s2.heap.objs.size (.lst [])) { s2 with heap:=s2.heap.push { cls:=.type "list",data:=.seq ([]:List Value).toArray } }:=
    I2.lnew (ys:=[]) (its:=[]) (t':=s2.toks) .nil (laI _)
  have hp:H2 s2.heap.objs.size=none:=I2.fresh
  obtain ⟨W,⟨m0,w0⟩,turn⟩:=hq _ hp
  generalize hA:s2.heap.objs.size=acc at *
  generalize hS3:({ s2 with heap:=s2.heap.push { cls:=.type "list",data:=.seq ([]:List Value).toArray } }:Shared)=s3 at *
  have hh3:s3.heap=s2.heap.push { cls:=.type "list",data:=.seq ([]:List Value).toArray }:=by rw [← hS3]
  have hsz:s3.heap.objs.size=acc+1:=by rw [hh3,Heap.size_push,hA]
  have hlt2:∀ b∈fp,b<acc:=fun b hb=>by
    obtain ⟨o,e,_⟩:=T.obj 0 _ st2 b hb
    rw [← hA];exact Heap.lt_size e
  have hlt:∀ b∈fp,b<s3.heap.objs.size:=fun b hb=>by rw [hsz];exact Nat.lt_succ_of_lt (hlt2 b hb)
  have f3:∀ b∈fp,iQ X pins (upd H2 acc (.lst [])) b:=fun b hb=>⟨by rw [bH (Nat.ne_of_lt (hlt2 b hb))];exact (f2 b hb).1,(f2 b hb).2⟩
  have hk:∀ b o,s3.heap.get? b=some o→h₁.get? b=some o:=fun b o e=>by
    refine hsb₁.extBut b o (Nat.ne_of_lt ?_) (Heap.get?_push_of_some _ ?_)
    · have:=Heap.lt_size e
      rw [hh3] at this
      exact this
    · rw [hh3] at e;exact e
  have hCe:(s2.heap.push { cls:=.type "list",data:=.seq ([]:List Value).toArray }).objs.size=acc+1:=by rw [Heap.size_push,hA]
  have e4:({ s2 with heap:=h₁,toks:=s2.toks+([]:List (Str×Value)).length }:Shared)={ s3 with heap:=h₁,toks:=s2.toks }:=by rw [← hS3];rfl
  have hns:h₁.Ns (acc+1) (fun x=>([]:List (Str×Value)).reverse.lookup x):=by rw [← hCe];exact hns₁
  have I4:Inv (fI X N scope cl (acc+1) s3 (upd H2 acc (.lst [])) fp) [] (ij pick σ) (upd H2 acc (.lst [])) { s3 with heap:=h₁,toks:=s2.toks }:=
    AA S I3 (by rw [hsz];exact lat _) f3 hlt hns hk
  have st4:tn 0 h₁:=T.keep _ _ _ st2 fun b hb o e=>hk b o (by rw [hh3];exact Heap.get?_push_of_some _ e)
  have stat:∀ {H':Hp},(∀ b∈fp,H' b=none)→∀ b∈fp,iQ (fI X N scope cl (acc+1) s3 (upd H2 acc (.lst [])) fp) [] H' b:=fun {H'} hn b hb=>by
    have ok:=I4.ok
    exact ⟨hn b hb,(ok.exf b hb).1,ok.exfs b hb,.inl hb,(ok.exf b hb).2,fun p hp=>nomatch hp⟩
  -- behind the loop: the outer frame again
  have out:∀ {σ':St} {H':Hp} {s1:Shared},Inv (fI X N scope cl (acc+1) s3 (upd H2 acc (.lst [])) fp) [] σ' H' s1→Q (.ref acc) H'→RR (.ref acc) (acc+1) (.ok .next) s1:=fun {σ' H' s1} I' q'=>by
    obtain ⟨m',hn',_⟩:=I'.loc
    refine hRR (acc+1) acc H' s1 m' ?_ ?_ hn' q'
    · exact I3.call' I'.os I'.base I'.hok I'.bare fun b hb=>⟨(f3 b hb).2.2.2.1,(f3 b hb).2.1,(f3 b hb).2.2.2.2.1,(f3 b hb).2.2.2.2.2⟩
    · have big:s3.heap.objs.size≤acc+1:=by rw [hsz];exact lat _
      refine ⟨I'.free,Nat.ne_of_gt (lav I3.lt big),las I3.sz big,fun x c e z=>?_,fun p hp z=>?_⟩
      · obtain ⟨v,ic⟩:=I3.cell x c e
        exact absurd (lav ic.lt (by rw [z];exact big)) (Nat.lt_irrefl _)
      · exact absurd (lav (Heap.lt_size (I3.pin p hp).1) (by rw [z];exact big)) (Nat.lt_irrefl _)
  have loop:codeAny (model X.prog X.w) X.A (.compLoop (.ListComp elt [⟨tg,iter,ifs,0⟩] scope pos) 0 (.ref it) (.ref acc) (compEnvC scope cl (acc+1) X.env)) (RR (.ref acc) (acc+1)) { s3 with heap:=h₁,toks:=s2.toks }:=by
    refine sv (fun n s'=>∃ i σ' H',Inv (fI X N scope cl (acc+1) s3 (upd H2 acc (.lst [])) fp) [] σ' H' s'∧tn i s'.heap∧(∀ b∈fp,H' b=none)∧W i n σ' H') ?_ m0
      ⟨0,_,_,I4,st4,fun b hb=>(f3 b hb).1,w0⟩
    rintro n s5 ⟨i,σ5,H5,I5,st5,fr5,w5⟩
    rcases turn i n σ5 H5 w5 with ⟨stop,qn⟩ | ⟨go,Nx,hN,step⟩
    · refine bm (T.done (fI X N scope cl (acc+1) s3 (upd H2 acc (.lst [])) fp) rfl rfl rfl hc i [] s5 σ5 H5 _ I5 (stat fr5) st5 stop) fun r s6 ⟨hr,I6⟩=>?_
      subst hr
      exact out I6 qn
    · refine bm (T.item (fI X N scope cl (acc+1) s3 (upd H2 acc (.lst [])) fp) rfl rfl rfl hc i [] s5 σ5 H5 _ I5 (stat fr5) st5 go) fun r s6 ⟨u,hr,h6⟩=>?_
      subst hr
      refine bm h6 fun _ s7 ⟨x,H7,I7,r7,y7,st7,fr7⟩=>?_
      have I7':=I7.pinned (stat fr7) (T.obj _ _ st7)
      refine bm (hg _ _ _ _ _ s7 σ5 H7 x u _ I7' r7 (step x H7 y7)) fun _ s8 ⟨σ8,H8,I8,q8⟩=>?_
      have again:∀ {s9:Shared} {σ9:St} {H9:Hp},Inv (fI X N scope cl (acc+1) s3 (upd H2 acc (.lst [])) fp) ([]++lD fp s7.heap) σ9 H9 s9→Nx σ9 H9→∃ m,m<n∧∃ i σ' H',Inv (fI X N scope cl (acc+1) s3 (upd H2 acc (.lst [])) fp) [] σ' H' s9∧tn i s9.heap∧(∀ b∈fp,H' b=none)∧W i m σ' H':=fun {s9 σ9 H9} I9 n9=>by
        obtain ⟨m',hm,w9⟩:=hN σ9 H9 n9
        refine ⟨m',hm,i+1,σ9,H9,I9.unpinned,T.keep _ _ _ st7 fun b hb o e=>(I9.pin (b,o) (lak _ (lak _ (iC hb e)))).1,fun b hb=>?_,w9⟩
        obtain ⟨o,e,d⟩:=T.obj _ _ st7 b hb
        exact (I9.pin (b,o) (lak _ (lak _ (iC hb e)))).2.1
      refine bm (ht _ _ _ _ _ s8 σ8 H8 _ I8 q8) fun ok s9 ⟨H9,I9,q9⟩=>?_
      cases ok with
      | false=>exact again I9 q9
      | true=>
        refine bm (he _ _ _ _ _ s9 σ8 H9 _ I9 q9) fun y s10 ⟨v,H10,I10,r10,xs,hx,hl,n10⟩=>?_
        refine bm (cO _ s10 σ8 H10 (.ref acc) [v] (.ref acc) [y] (fun _ H'=>Nx σ8 H') I10 rfl (.cons r10 .nil) ⟨acc,xs,v,rfl,rfl,hx,hl,n10⟩) fun _ s11 ⟨_,H11,I11,_,n11⟩=>again I11 n11
  rw [e4]
  have e5:({ newEnv scope (s2.heap.push { cls:=.type "list",data:=.seq ([]:List Value).toArray }).objs.size X.env.globals cl X.env.qual none .none (some X.env) builtinsNs with scope:=relabel scope X.env }:Env)=compEnvC scope cl (acc+1) X.env:=by
    rw [hCe];rfl
  have e6:(newEnv scope (s2.heap.push { cls:=.type "list",data:=.seq ([]:List Value).toArray }).objs.size X.env.globals cl X.env.qual none .none (some X.env) builtinsNs).locals=acc+1:=by
    rw [hCe];rfl
  rw [e5,e6]
  exact codeAny_compStart_list loop (T.self _ 0 _ _ _ st4 loop)
end
def ff(wi:TI)(g:TG)(ti:TT)(te:TE)(pick:List (Option Nat)):TE:=fun σ H Q=>wi σ H fun J H1=>∀ p,H1 p=none→nK J g ti te (ij pick σ) H1 Q p
section
variable {X:Cx}{N:List Str}{scope:Scope}{cl:List (Str×Addr)}{pick:List (Option Nat)}{elt tg iter:Expr}{ifs:List Expr}{pos pos' spos:Pos}{wi:TI}{g:TG}{ti:TT}{te:TE}
theorem dU(hc:X.calm=true)(S:cj X N scope cl pick)(hi:PI X tg iter wi)
    (hg:∀ C s H fp,PG (fI X N scope cl C s H fp) tg g)(ht:∀ C s H fp,tz (fI X N scope cl C s H fp) ifs ti)(he:∀ C s H fp,PE (fI X N scope cl C s H fp) elt te)
    (hs:∀ x,foldedSetIterable iter X.env x=pure x:=by intro _;rfl):PE X (.ListComp elt [⟨tg,iter,ifs,0⟩] scope pos) (ff wi g ti te pick):=by
  intro pins s σ H Q I h
  have hloc:∀ y∈scope.names,y.2=.local→scope.names.lookup y.1=some .local:=fun y hy e=>by
    have:=List.all_eq_true.mp S.loc y hy
    rw [e] at this
    simpa using this
  rw [eval_ListComp]
  refine wpAny_comprehension_free (use:=none) rfl hs S.clos S.kind hloc (bm (hi pins s σ H _ I h) fun xv s₁ h₁=>bm h₁ fun itv s₂ h₂=>?_)
  obtain ⟨it,fp,tn,J,H2,e,I2,T,st2,f2,hq⟩:=h₂
  subst e
  refine sT (RR:=fun acc C=>compPost (model X.prog X.w) X.A X.xe none (EP X pins σ Q) acc C) hc S hg ht he I2 T st2 f2 hq ?_
  intro C p H' s1 m I1 L hn q
  refine ⟨m,hn,fun h' hs'=>⟨.ref p,H',I1.turned (t':=s1.toks) (fun b o hb e=>(hs'.2 b hb).trans e) L.1 L.2.1 (.inr L.2.2.1) L.2.2.2.1 L.2.2.2.2,rfl,q⟩⟩
theorem yd{i:Nat}{y:Str}(hsw:swapsWith (.ListComp elt [⟨tg,iter,ifs,0⟩] scope pos) (some (.Name y pos')) spos.line X.env=pure true)(hN:X.N.Nodup)(hi':X.N[i]?=some y)(hx:ub X.env.scope y)
    (hc:X.calm=true)(S:cj X N scope cl pick)(hi:PI X tg iter wi)
    (hg:∀ C s H fp,PG (fI X N scope cl C s H fp) tg g)(ht:∀ C s H fp,tz (fI X N scope cl C s H fp) ifs ti)(he:∀ C s H fp,PE (fI X N scope cl C s H fp) elt te)
    (hs:∀ x,foldedSetIterable iter X.env x=pure x:=by intro _;rfl)(hf:X.fn y=true∨X.env.scope.names.lookup y=some .local:=by first | exact .inl rfl | exact .inr rfl | assumption) :
    PS X (.Assign [.Name y pos'] (.ListComp elt [⟨tg,iter,ifs,0⟩] scope pos) spos) (bg (ff wi g ti te pick) (az i)):=by
  intro pins s σ H D I h
  have hloc:∀ y∈scope.names,y.2=.local→scope.names.lookup y.1=some .local:=fun y hy e=>by
    have:=List.all_eq_true.mp S.loc y hy
    rw [e] at this
    simpa using this
  rw [exec_Assign_Name_used _ _ _ _ hsw]
  refine wpAny_bind (wpAny_standAt (wpAny_bind ?_))
  show wpAny _ X.A (do let _ ← comprehension (.ListComp elt [⟨tg,iter,ifs,0⟩] scope pos) scope X.env _ (newList []) false (eval iter X.env) (some (assign (.Name y pos') X.env))) _ _ s
  refine wpAny_bind (wpAny_mono (wpAny_comprehension_free (use:=some (assign (.Name y pos') X.env)) (Q:=fun _ s'=>SP X pins D .next s') rfl hs S.clos S.kind hloc
    (bm (hi pins s σ H _ I h) fun xv s₁ h₁=>bm h₁ fun itv s₂ h₂=>?_)) (fun _ s' hq=>wpAny_pure (wpAny_pure hq)) fun _ _ e=>e)
  obtain ⟨it,fp,tn,J,H2,e,I2,T,st2,f2,hq⟩:=h₂
  subst e
  refine sT (RR:=fun acc C=>compPost (model X.prog X.w) X.A X.xe (some (assign (.Name y pos') X.env)) (fun _ s'=>SP X pins D .next s') acc C) hc S hg ht he I2 T st2 f2 hq ?_
  intro C p H' s1 m I1 L hn q
  show wpAny _ X.A (assign (.Name y pos') X.env (.ref p)) _ _ _
  refine wpAny_assign_Name (pD I1 hN hi' hx (v:=.ref p) rfl (fun s2 I2 hch=>?_) hf)
  obtain ⟨a,sb,ha⟩:=hch
  have hCa:C≠a:=by
    rcases ha with rfl | e
    · exact L.2.1
    · exact (L.2.2.2.1 y a e).symm
  refine ⟨m,hn.sameBut sb hCa,fun h' hs'=>⟨_,H',I2.turned (t':=s2.toks) (fun b o hb e=>(hs'.2 b hb).trans e) L.1 L.2.1 (.inr L.2.2.1) L.2.2.2.1 L.2.2.2.2,q⟩⟩
end
def iE(p:Addr)(Pv:Nat→List V→St→Hp→Prop)(i:Nat)(σ:St)(H:Hp):Prop:=∃ ys,H p=some (.lst ys)∧Pv i ys σ H
theorem d9{K:PySem.W.Frag}{a p:Addr}{xs:List V}{g:TG}{ti:TT}{te:TE}{σ0:St}{H1:Hp}{Q:VK}(Pv:Nat→List V→St→Hp→Prop)(h0:Pv 0 [] σ0 (upd H1 p (.lst [])))
    (hl:∀ i ys σ H,i≤xs.length→H p=some (.lst ys)→Pv i ys σ H→SqL K H a xs)
    (hs:∀ i x ys σ H,xs[i]?=some x→H p=some (.lst ys)→Pv i ys σ H→g x σ H fun σ2 H2=>ti σ2 H2 fun b H3=>if b=true then te σ2 H3 fun v H4=>∃ zs,H4 p=some (.lst zs)∧zs.length<sizeLine∧iE p Pv (i+1) σ2 (upd H4 p (.lst (zs++[v])))
      else iE p Pv (i+1) σ2 H3)
    (hd:∀ ys σ H,H p=some (.lst ys)→Pv xs.length ys σ H→Q (.ref p) H) :
    nK (sn K a) g ti te σ0 H1 Q p:=by
  refine ⟨fun i m σ H=>m=xs.length - i∧i≤xs.length∧iE p Pv i σ H,⟨xs.length,by simp,laI _,[],av,h0⟩,?_⟩
  rintro i m σ H ⟨rfl,hi,ys,hp,pv⟩
  have q:=hl i ys σ H hi hp pv
  by_cases hlt:i<xs.length
  · refine .inr ⟨⟨xs,xs[i],q,by simp [hlt]⟩,iE p Pv (i+1),fun σ' H' z=>⟨xs.length - (i+1),by omega,rfl,hlt,z⟩,fun x H' y=>?_⟩
    obtain ⟨e,y⟩:=y
    subst e
    exact hs i x ys σ H' (y xs q) hp pv
  · have e:i=xs.length:=by omega
    subst e
    exact .inl ⟨⟨xs,q,lat _⟩,hd ys σ H hp pv⟩
theorem f'{lo:Int}{n:Nat}{p:Addr}{g:TG}{ti:TT}{te:TE}{σ0:St}{H1:Hp}{Q:VK}(Pv:Nat→List V→St→Hp→Prop)(h0:Pv 0 [] σ0 (upd H1 p (.lst [])))
    (hs:∀ i ys σ H,i<n→H p=some (.lst ys)→Pv i ys σ H→g (.int (lo+i)) σ H fun σ2 H2=>ti σ2 H2 fun b H3=>if b=true then te σ2 H3 fun v H4=>∃ zs,H4 p=some (.lst zs)∧zs.length<sizeLine∧iE p Pv (i+1) σ2 (upd H4 p (.lst (zs++[v])))
      else iE p Pv (i+1) σ2 H3)
    (hd:∀ ys σ H,H p=some (.lst ys)→Pv n ys σ H→Q (.ref p) H) :
    nK (pN lo n) g ti te σ0 H1 Q p:=by
  refine ⟨fun i m σ H=>m=n - i∧i≤n∧iE p Pv i σ H,⟨n,by simp,laI _,[],av,h0⟩,?_⟩
  rintro i m σ H ⟨rfl,hi,ys,hp,pv⟩
  by_cases hlt:i<n
  · refine .inr ⟨hlt,iE p Pv (i+1),fun σ' H' z=>⟨n - (i+1),by omega,rfl,hlt,z⟩,fun x H' y=>?_⟩
    obtain ⟨e,y⟩:=y
    subst e
    subst y
    exact hs i ys σ H' hlt hp pv
  · have e:i=n:=by omega
    subst e
    exact .inl ⟨lat _,hd ys σ H hp pv⟩
def iU(t u:TS):TS:=fun D σ H=>∃ P:St→Hp→Prop,t { D with nx:=P } σ H∧∀ σ' H',P σ' H'→u D σ' H'
theorem fF{X:Cx}{st:Stmt}{rest:List Stmt}{t u:TS}(h1:PS X st t)(h2:PSs X rest u):PSs X (st::rest) (iU t u):=by
  intro pins s σ H D I ⟨P,h,hu⟩
  refine wpAny_execs_cons (bm (h1 pins s σ H _ I h) fun f s1 q=>?_)
  cases f with
  | next=>
    obtain ⟨σ1,H1,I1,q1⟩:=q
    exact h2 pins s1 σ1 H1 D I1 (hu σ1 H1 q1)
  | brk=>exact q
  | cont=>exact q
  | ret v=>exact q
theorem ib{t u:TS}{D:iu}{σ:St}{H:Hp}(P:St→Hp→Prop)(h:t { D with nx:=P } σ H)(hu:∀ σ' H',P σ' H'→u D σ' H'):iU t u D σ H:=⟨P,h,hu⟩
end L2
set_option Elab.async false
set_option linter.all false
set_option maxRecDepth 100000
set_option maxHeartbeats 4000000
namespace L2
open PySem PySem.Spec PyProof.Rows
section
variable {σ:St}{H:Hp}{Q:VK}{D:iu}{ta tb tc te:TE}{t u:TS}{c d:TT}{K:PySem.W.Frag}{QB:Bool→Hp→Prop}{x y v:V}{i j:Int}{a p:Addr}{xs ys:List V}{r:R2}{QL:List V→Hp→Prop}
theorem jy{n:Nat}(h:σ[n]?=some (some v))(q:Q v H):ad n σ H Q:=⟨v,h,q⟩
theorem yi(q:Q v H):tC v σ H Q:=q
theorem md(q:ta σ H fun x H1=>tb σ H1 fun y H2=>r x y H2 Q):ap r ta tb σ H Q:=q
theorem ww{r:V→Hp→VK→Prop}(q:ta σ H fun x H1=>r x H1 Q):A8 r ta σ H Q:=q
theorem d5{C:Int→Int→Prop}{g:Int→Int→V}(hc:C i j)(q:Q (g i j) H):rI C g (.int i) (.int j) H Q:=⟨i,j,rfl,rfl,hc,q⟩
theorem rZ{g:Int→Int→V}(q:Q (g i j) H):iT g (.int i) (.int j) H Q:=⟨i,j,rfl,rfl,q⟩
theorem uz{g:Int→V}(q:Q (g i) H):rU g (.int i) H Q:=⟨i,rfl,q⟩
theorem lO(h:sW x y=true)(q:Q (.bl (decide (x=y))) H):cY x y H Q:=⟨h,q⟩
theorem qK(h:sW x y=true)(q:Q (.bl (!decide (x=y))) H):jA x y H Q:=⟨h,q⟩
theorem qf(q:ta σ H fun x H1=>Q (.bl (decide (x=.non))) H1):jt ta σ H Q:=q
theorem oE(q:ta σ H fun x H1=>Q (.bl (!decide (x=.non))) H1):i_ ta σ H Q:=q
theorem yx(q:ta σ H fun x H1=>∃ c,x=.bl c∧QB c H1):tB ta σ H QB:=q
theorem iJ(q:ta σ H fun x H1=>∃ c,x=.bl c∧QB c H1):aZ ta σ H QB:=q
theorem wn{P:Bool→Prop}{b:Bool}(q:P b):∃ c,V.bl b=.bl c∧P c:=⟨b,rfl,q⟩
theorem sI(q:c σ H fun b H1=>if b=true then d σ H1 QB else QB false H1):iw c d σ H QB:=q
theorem p3(q:c σ H fun b H1=>if b=true then QB true H1 else d σ H1 QB):im c d σ H QB:=q
theorem rD(q:c σ H fun b H1=>QB (!b) H1):cb c σ H QB:=q
theorem oT(q:ta σ H fun x H1=>∃ c,x=.bl c∧if c=true then tb σ H1 Q else Q (.bl false) H1):eG ta tb σ H Q:=q
theorem tw(q:ta σ H fun x H1=>∃ c,x=.bl c∧if c=true then Q (.bl true) H1 else tb σ H1 Q):xY ta tb σ H Q:=q
theorem oK(q:ta σ H fun x H1=>∃ c,x=.bl c∧Q (.bl (!c)) H1):nv ta σ H Q:=q
theorem sf(q:c σ H fun b H1=>if b=true then ta σ H1 Q else tb σ H1 Q):zf c ta tb σ H Q:=q
theorem mN{r':R2}(q:ta σ H fun x H1=>tb σ H1 fun y H2=>r x y H2 fun z H3=>∃ k,z=.bl k∧(if k=true then tc σ H3 fun w' H4=>r' y w' H4 Q else Q (.bl false) H3)):n5 r r' ta tb tc σ H Q:=q
theorem jG(q:QL [] H):ak σ H QL:=q
theorem iL{tr:TA}(q:ta σ H fun x H1=>tr σ H1 fun xs H2=>QL (x::xs) H2):ae ta tr σ H QL:=q
theorem sN{t:TA}(q:t σ H fun xs H1=>xs.length≤sizeLine∧∀ p,H1 p=none→Q (.ref p) (upd H1 p (.tup xs))):cR t σ H Q:=q
theorem qE{t:TA}(q:t σ H fun xs H1=>xs.length≤sizeLine∧∀ p,H1 p=none→Q (.ref p) (upd H1 p (.lst xs))):cG t σ H Q:=q
theorem oq(q:∀ p,H p=none→Q (.ref p) (upd H p (.dK []))):lV σ H Q:=q
theorem ow{sp:Sp}{dvs:List V}{E:XK}{t:TA}(q:t σ H fun vs H1=>sp (vs++dvs) H1 Q E):a_ sp dvs E t σ H Q:=q
theorem mf{r:List V→Hp→VK→Prop}{t:TA}(q:t σ H fun vs H1=>r vs H1 Q):bv r t σ H Q:=q
theorem mh(h:SqL K H a ys)(q:Q (.int ys.length) H):b5 K [.ref a] H Q:=⟨a,ys,rfl,.inl h,q⟩
theorem jx(h:fE K H a ys)(q:Q (.int ys.length) H):b5 K [.ref a] H Q:=⟨a,ys,rfl,.inr h,q⟩
theorem oW{kvs:List (bn×V)}(h:H a=some (.dK kvs))(q:Q (.int kvs.length) H):uN [.ref a] H Q:=⟨a,kvs,rfl,h,q⟩
theorem mI(h:SqL K H a ys)(q:∀ l,H l=none→Q (.ref l) (upd H l (.lst ys))):ef K [.ref a] H Q:=⟨a,ys,rfl,.inl h,q⟩
theorem b2(h:SqL K H a xs)(e:iW xs i=some v)(q:Q v H):cJ K (.ref a) (.int i) H Q:=⟨a,xs,i,v,rfl,rfl,h,e,q⟩
theorem tH(h:fE K H a xs)(e:iW xs i=some v)(q:Q v H):bK K (.ref a) (.int i) H Q:=⟨a,xs,i,v,rfl,rfl,h,e,q⟩
theorem vn{r:V→Option Int→Option Int→Hp→VK→Prop}{tl th:TO}(q:te σ H fun x H1=>tl σ H1 fun l H2=>th σ H2 fun u H3=>r x l u H3 Q):o4 r te tl th σ H Q:=q
theorem lL{QO:Option Int→Hp→Prop}(q:QO none H):fY σ H QO:=q
theorem ox{QO:Option Int→Hp→Prop}(q:te σ H fun x H1=>∃ i,x=.int i∧QO (some i) H1):iD te σ H QO:=q
theorem rT{P:Int→Prop}(q:P i):∃ k,V.int i=.int k∧P k:=⟨i,rfl,q⟩
theorem qY{lo hi:Option Int}(h:SqL K H a xs)(q:∀ p,H p=none→Q (.ref p) (upd H p (.lst (ir xs lo hi)))):m9 K (.ref a) lo hi H Q:=⟨a,xs,rfl,h,q⟩
theorem sX{n:Bool}(h:SqL K H a xs)(f:eF x=true)(g:xs.all eF=true)(q:Q (.bl (if n then !dQ x xs else dQ x xs)) H):iy K n x (.ref a) H Q:=⟨a,xs,rfl,.inl h,f,g,q⟩
theorem qL{n:Bool}(h:fE K H a xs)(f:eF x=true)(g:xs.all eF=true)(q:Q (.bl (if n then !dQ x xs else dQ x xs)) H):iy K n x (.ref a) H Q:=⟨a,xs,rfl,.inr h,f,g,q⟩
theorem uF{T:String}{r:V→List V→Hp→VK→Prop}{t:TA}(q:te σ H fun x H1=>y8 K T x H1∧t σ H1 fun xs H2=>r x xs H2 Q):fU K T r te t σ H Q:=q
theorem cL(h:H a=some (.lst xs))(l:xs.length<sizeLine)(q:Q .non (upd H a (.lst (xs++[v])))):dc (.ref a) [v] H Q:=⟨a,xs,v,rfl,rfl,h,l,q⟩
theorem i3{b:Addr}(h:H a=some (.lst xs))(h':H b=some (.lst ys))(l:xs.length+ys.length≤sizeLine)(q:Q .non (upd H a (.lst (xs++ys)))):iM (.ref a) [.ref b] H Q:=⟨a,b,xs,ys,rfl,rfl,h,h',l,q⟩
theorem jC{b:Addr}(h:H a=some (.lst xs))(h':H b=some (.lst ys))(l:xs.length+ys.length≤sizeLine)(q:∀ p,H p=none→Q (.ref p) (upd H p (.lst (xs++ys)))):lQ (.ref a) (.ref b) H Q:=⟨a,b,xs,ys,rfl,rfl,h,h',l,q⟩
theorem qy{f:Str}(q:ta σ H fun x H1=>∃ a C dx fs v,x=.ref a∧H1 a=some (.ins C dx fs)∧Cls K C∧NoAttr K C f∧fs.lookup f=some v∧Q v H1):br K ta f σ H Q:=q
theorem sy{f:Str}{C dx:Addr}{fs:List (Str×V)}{P:V→Prop}(h:H a=some (.ins C dx fs))(hc:Cls K C)(hn:NoAttr K C f)(hl:fs.lookup f=some v)(q:P v) :
    ∃ a' C dx fs v,V.ref a=.ref a'∧H a'=some (.ins C dx fs)∧Cls K C∧NoAttr K C f∧fs.lookup f=some v∧P v:=⟨a,C,dx,fs,v,rfl,h,hc,hn,hl,q⟩
theorem nN(q:t { D with nx:=u D } σ H):aq t u D σ H:=q
theorem oG(q:D.nx σ H):aM D σ H:=q
theorem sJ(q:te σ H D.rt):aC te D σ H:=q
theorem oz(q:te σ H fun _ H1=>D.nx σ H1):b1 te D σ H:=q
theorem uy(q:c σ H fun b H1=>if b=true then t D σ H1 else u D σ H1):aX c t u D σ H:=q
theorem rJ{g:TG}(q:te σ H fun x H1=>g x σ H1 D.nx):bg te g D σ H:=q
theorem mJ{n:Nat}{QS:St→Hp→Prop}(q:QS (σ.set n (some v)) H):az n v σ H QS:=q
theorem on{td ty tv:TE}(q:tv σ H fun v H1=>td σ H1 fun x H2=>ty σ H2 fun y H3=>∃ a H4,x=.ref a∧DPut H3 a y v H4∧D.nx σ H4):p7 td ty tv D σ H:=q
theorem yr{kvs:List (bn×V)}{k:Int}{P:Hp→Prop}(h:H a=some (.dK kvs))(l:kvs.length<sizeLine)(q:P (upd H a (.dK (db kvs (Sum.inl k) v)))) :
    ∃ a' H4,V.ref a=.ref a'∧DPut H a' (.int k) v H4∧P H4:=⟨a,_,rfl,DPut.k (k:=Sum.inl k) h l,q⟩
theorem mL{td ty tx:TE}(q:td σ H fun x H1=>∃ a,x=.ref a∧tW H1 a∧ty σ H1 fun y H2=>tx σ H2 fun z H3=>∃ o,DGet H3 a y o∧Q (o.getD z) H3):qq td ty tx σ H Q:=q
theorem qM{kvs:List (bn×V)}{P:Addr→Prop}(h:H a=some (.dK kvs))(q:P a):∃ a',V.ref a=.ref a'∧tW H a'∧P a':=⟨a,rfl,.inl ⟨kvs,.inl h⟩,q⟩
theorem ng{kvs:List (bn×V)}{k:Int}{P:Option V→Prop}(h:H a=some (.dK kvs))(q:P (bW kvs (Sum.inl k))):∃ o,DGet H a (.int k) o∧P o:=⟨_,DGet.k (k:=Sum.inl k) h,q⟩
theorem nh{td ty tx:TE}(q:td σ H fun x H1=>∃ a,x=.ref a∧tW H1 a∧ty σ H1 fun y H2=>tx σ H2 fun z H3=>∃ kvs k,H3 a=some (.dK kvs)∧y=kV k∧kvs.length<sizeLine∧
  (∀ v,bW kvs k=some v→Q v H3)∧(bW kvs k=none→Q z (upd H3 a (.dK (db kvs k z))))):nT td ty tx σ H Q:=q
theorem uA{n:Nat}{P:Prop}(h:Nat.ble n 1000=true)(q:P):n≤sizeLine∧P:=⟨Nat.le_of_lt (xB (Nat.le_of_ble_eq_true h)),q⟩
theorem tq{P:Addr→Prop}(q:∀ p,H p=none→P p):∀ p,H p=none→P p:=q
theorem qF{wi:TI}{g:TG}{tb:TS}(q:wi σ H fun J H1=>∃ W:Nat→Nat→St→Hp→Prop,(∃ m,W 0 m σ H1)∧∀ i m σ H,W i m σ H→
  (J.stop i H∧D.nx σ H)∨(J.go i H∧∃ N:St→Hp→Prop,(∀ σ' H',N σ' H'→∃ m',m'<m∧W (i+1) m' σ' H')∧∀ x H',J.yld i H x H'→g x σ H' fun σ2 H2=>tb { D with nx:=N,ct:=N,bk:=D.nx } σ2 H2)):ei wi g tb D σ H:=q
theorem mY{R:It→Hp→Prop}(q:te σ H fun x H1=>∃ a,x=.ref a∧(∃ xs,SqL K H1 a xs)∧R (sn K a) H1):cP K te σ H R:=q
theorem rA{P:Addr→Prop}(h:SqL K H a xs)(q:P a):∃ a',V.ref a=.ref a'∧(∃ xs,SqL K H a' xs)∧P a':=⟨a,rfl,⟨xs,h⟩,q⟩
theorem oY{R:It→Hp→Prop}{t:TA}(q:t σ H fun vs H1=>∃ j:Int,vs=[.int j]∧-(2 ^ 62)≤j∧j<2 ^ 62∧R (pN 0 j.toNat) H1):en t σ H R:=q
theorem d_{P:Int→Prop}{n:Nat}(h:n≤1000000)(q:P (n:Int)):∃ j:Int,[V.int (n:Int)]=[.int j]∧-(2 ^ 62)≤j∧j<2 ^ 62∧P j:=⟨n,rfl,by omega,by omega,q⟩
theorem wb{wi:TI}{g:TG}{ti:TT}{pick:List (Option Nat)}(q:wi σ H fun J H1=>∀ p,H1 p=none→nK J g ti te (ij pick σ) H1 Q p):ff wi g ti te pick σ H Q:=q
theorem oF(q:QB true H):fm σ H QB:=q
theorem oy{C:Addr}{m:Str}{sp:Sp}{dvs:List V}{E:XK}{t:TA}(q:ta σ H fun x H1=>∃ a dx fs,x=.ref a∧H1 a=some (.ins C dx fs)∧fs.lookup m=none∧t σ H1 fun vs H2=>sp (x::(vs++dvs)) H2 Q E):bc C m sp dvs E ta t σ H Q:=q
theorem oX{C dx:Addr}{fs:List (Str×V)}{m:Str}{P:Prop}(h:H a=some (.ins C dx fs))(hl:fs.lookup m=none)(q:P):∃ a' dx fs,V.ref a=.ref a'∧H a'=some (.ins C dx fs)∧fs.lookup m=none∧P:=⟨a,dx,fs,rfl,h,hl,q⟩
theorem oZ{tv:TE}{f:Str}(q:tv σ H fun y H1=>ta σ H1 fun x H2=>∃ a C dx fs,x=.ref a∧H2 a=some (.ins C dx fs)∧Cls K C∧NoAttr K C f∧fs.length<1000∧D.nx σ (upd H2 a (.ins C dx (bX f y fs)))):fc K ta tv f D σ H:=q
theorem oR{C:Addr}{sp:Sp}{dvs:List V}{E:XK}{t:TA}(q:t σ H fun vs H1=>∀ x dx,H1 x=none→H1 dx=none→dx≠x→sp (.ref x::(vs++dvs)) (upd (upd H1 dx (.own x)) x (.ins C dx [])) (fun v H2=>v=.non∧Q (.ref x) H2) E):nF C sp dvs E t σ H Q:=q
theorem bo{H:Hp}{a b:Addr}{o u:HO}(h:b≠a)(e:H b=some u):upd H a o b=some u:=by rw [bH h];exact e
theorem Same.at{H H':Hp}{b:Addr}{u:HO}(s:Same H H')(e:H b=some u):H' b=some u:=s b u e
theorem ca{H:Hp}(h:H a=some (.lst xs)):SqL K H a xs:=.inl (.inl h)
theorem dR{H:Hp}(h:Rd H a (.lst xs)):SqL K H a xs:=.inl h
theorem Gw{H:Hp}(h:H a=some (.tup xs)):fE K H a xs:=.inl (.inl h)
theorem oH{H:Hp}(h:Rd H a (.tup xs)):fE K H a xs:=.inl h
theorem Rd.upd{H:Hp}{a b:Addr}{o u:HO}(h:b≠a)(r:Rd H b u):Rd (L2.upd H a o) b u:=r.elim (fun e=>.inl (bo h e)) fun ⟨q,e⟩=>.inr ⟨q,bo h e⟩
theorem Rd.same{H H':Hp}{b:Addr}{u:HO}(s:Same H H')(r:Rd H b u):Rd H' b u:=r.elim (fun e=>.inl (s _ _ e)) fun ⟨q,e⟩=>.inr ⟨q,s _ _ e⟩
theorem Rd.ne_none{H:Hp}{a b:Addr}{u:HO}(r:Rd H a u)(h:H b=none):a≠b:=by obtain ⟨o,e⟩:=r.some;exact bJ e h
theorem b8{H:Hp}{a b:Addr}{o:HO}(h':H b=none)(h:H a=some o):a≠b:=bJ h h'
theorem iK{H:Hp}{a b:Addr}{u:HO}(h':H b=none)(r:Rd H a u):a≠b:=r.ne_none h'
theorem Same.put{H0 H:Hp}{o:HO}(s:Same H0 H)(hp:H0 p=none):Same H0 (L2.upd H p o):=fun b u e=>bo (bJ e hp) (s b u e)
theorem om{H H':Hp}{o:HO}(hp:H p=none)(e:L2.upd H p o=H'):Same H H':=e▸Same.new hp
theorem ui{H H':Hp}{o:HO}(e:L2.upd H p o=H'):H' p=some o:=e▸av
theorem i'{i j:Int}(h:-(2 ^ 64)<j∧j<2 ^ 64):CMul i j:=.inr h
theorem vE{i j:Int}(h:0<j∧j<1073741824):yg i j:=h
theorem lP(xs:List Str):(xs.map V.str).all eF=true:=by rw [List.all_map];exact List.all_eq_true.mpr fun _ _=>rfl
theorem lY(xs:List Int):(xs.map V.int).all eF=true:=by rw [List.all_map];exact List.all_eq_true.mpr fun _ _=>rfl
end
end L2
set_option Elab.async false
set_option linter.all false
set_option maxRecDepth 100000
set_option maxHeartbeats 4000000
namespace Oh
open PySem L2
abbrev bh:=Str×Int
def ar(b:List bh)(n:Int):List Str:=(b.filter fun l=>decide (l.2=n)).map (·.1)
def ie(b:List bh)(n:Int):Option Str:=(ar b n).find? fun w=>decide (w="open"∨w="yes"∨w="no")
def ax(b:List bh)(n:Int):Option Str:=if ("bound":Str)∈ar b n then some ("bound":Str) else if ("off":Str)∈ar b n∨("no":Str)∈ar b n then some ("off":Str) else none
def bI(b:List bh)(n:Int):Bool:=decide (ie b n=some ("yes":Str))&&decide (ax b n=none)
def bG(b:List bh):List Int:=(b.filter fun l=>decide (l.1=("open":Str))&&decide (ax b l.2=none)).map (·.2)
def c_(l:bh):PyData:=.tuple [.str l.1,.int l.2]
def cU(b:List bh):PyData:=.list (b.map c_)
def eR:Option Str→V
 | none=>.non
 | some x=>.str x
def Jc(b:List bh):Prop:=∀ l∈b,PyData.strOk l.1=true
theorem cI(b:List bh)(l:bh)(n:Int):ar (b++[l]) n=if l.2=n then ar b n++[l.1] else ar b n:=by
 unfold ar
 rw [lay,lai,laz,List.filter_nil]
 by_cases e:l.2=n
 ·simp [e]
 ·simp [e]
theorem bC{α:Type}{b:List α}{i:Nat}{l:α}(h:b[i]?=some l):b.take (i+1)=b.take i++[l]:=by rw [List.take_add_one,h];rfl
theorem tJ(b:List bh)(n:Int):(ar b n).length≤b.length:=by
 unfold ar;rw [laa];exact laJ _ _
theorem ms{H:Hp}{S:List Addr}{b:List bh}{xs:List V}{i:Nat}{x:V}(rs:Reps H S xs (b.map c_))(hx:xs[i]?=some x) :
  ∃ l t,b[i]?=some l∧x=.ref t∧Rd H t (.tup [.str l.1,.int l.2]):=by
 obtain ⟨d,hd,rx⟩:=rs.get hx
 rw [lae] at hd
 cases hb:b[i]? with
 | none=>rw [hb] at hd;cases hd
 | some l=>
  rw [hb] at hd
  have e:c_ l=d:=lan hd
  subst e
  obtain ⟨t,ys,rfl,rt,rs'⟩:=rx.tup_inv
  obtain ⟨y1,r1,rfl,h1,t1⟩:=rs'.cons_inv
  obtain ⟨y2,r2,rfl,h2,t2⟩:=t1.cons_inv
  cases t2.nil_inv
  rw [h1.str_inv,h2.int_inv] at rt
  exact ⟨l,t,rfl,rfl,rt⟩
theorem bb{n:Nat}(h:n≤1000000):n<sizeLine:=Nat.lt_of_le_of_lt h (by decide)
theorem eW(x:Str)(ws:List Str):dQ (.str x) (ws.map .str)=decide (x∈ws):=by
 unfold dQ
 rw [List.any_map]
 induction ws with
 | nil=>rfl
 | cons w r ih=>
  rw [List.any_cons,ih]
  show ((w==x)||decide (x∈r))=decide (x∈w::r)
  by_cases e:x=w
  ·subst e;simp
  ·have e':¬ w=x:=fun z=>e z.symm
   simp [e,e']
def xU(K:PySem.W.Frag):TS:=
  (aC (ff (cP K (ad 0)) (az 0) (aZ (ap cY (ap (bK K) (ad 0) (tC (.int 1))) (ad 1))) (ap (bK K) (ad 0) (tC (.int 0))) [none,some 1]))
def v5(K:PySem.W.Frag)(cg:Sp):TS:=
  (aC (ap mS (bv (b5 K) (ae (a_ cg [] E0 (ae (ad 0) (ae (ad 1) ak))) ak)) (tC (.int 0))))
def uT(K:PySem.W.Frag)(cg:Sp):TS:=
  (aq (ei (cP K (a_ cg [] E0 (ae (ad 0) (ae (ad 1) ak)))) (az 2)
  (aX (aZ (ap (iy K false) (ad 2) (cR (ae (tC (.str "open")) (ae (tC (.str "yes")) (ae (tC (.str "no")) ak))))))
  (aC (ad 2))
  aM))
  (aC (tC .non)))
def wc(K:PySem.W.Frag)(cg:Sp):TS:=
  (aq (bg (a_ cg [] E0 (ae (ad 0) (ae (ad 1) ak))) (az 2))
  (aq (aX (aZ (ap (iy K false) (tC (.str "bound")) (ad 2)))
  (aC (tC (.str "bound")))
  aM)
  (aq (aX (im (aZ (ap (iy K false) (tC (.str "off")) (ad 2))) (aZ (ap (iy K false) (tC (.str "no")) (ad 2))))
  (aC (tC (.str "off")))
  aM)
  (aC (tC .non)))))
def wm(K:PySem.W.Frag)(gU:Sp)(cy:Sp):TS:=
  (aC (eG (ap cY (a_ gU [] E0 (ae (ad 0) (ae (ad 1) ak))) (tC (.str "yes"))) (jt (a_ cy [] E0 (ae (ad 0) (ae (ad 1) ak))))))
def yT(K:PySem.W.Frag)(cy:Sp):TS:=
  (aC (ff (cP K (ad 0)) (az 0) (iw (aZ (ap cY (ap (bK K) (ad 0) (tC (.int 0))) (tC (.str "open")))) (tB (jt (a_ cy [] E0 (ae (ad 1) (ae (ap (bK K) (ad 0) (tC (.int 1))) ak)))))) (ap (bK K) (ad 0) (tC (.int 1))) [none,some 0]))
local macro_rules | `(tactic| walk_at "ne")=>`(tactic| first | assumption | (refine' Ne.symm ?k1;(case k1=>assumption)) | (refine' b8 ?k1 ?k2;(case k1=>assumption);(case k2=>walk_at "hl")) | (refine' iK ?k1 ?k2;(case k1=>assumption);(case k2=>walk_at "rd")) | (refine' Ne.symm (b8 ?k1 ?k2);(case k1=>assumption);(case k2=>walk_at "hl")) | (refine' Ne.symm (iK ?k1 ?k2);(case k1=>assumption);(case k2=>walk_at "rd")))
local macro_rules | `(tactic| walk_at "hl")=>`(tactic| with_reducible first | assumption | exact av | (refine' bo ?k1 ?k2;(case k1=>walk_at "ne");(case k2=>walk_at "hl")) | (refine' Same.at ?k1 ?k2;(case k1=>assumption);(case k2=>walk_at "hl")))
local macro_rules | `(tactic| walk_at "rd")=>`(tactic| with_reducible first | assumption | (refine' Rd.of ?k1;(case k1=>walk_at "hl")) | (refine' Rd.upd ?k1 ?k2;(case k1=>walk_at "ne");(case k2=>walk_at "rd")) | (refine' Rd.same ?k1 ?k2;(case k1=>assumption);(case k2=>walk_at "rd")))
local macro_rules | `(tactic| walk_at "sq")=>`(tactic| with_reducible first | assumption | (refine' dR ?k1;(case k1=>walk_at "rd")) | (refine' oH ?k1;(case k1=>walk_at "rd")) | (refine' SqL.new ?k1 ?k2;(case k1=>assumption);(case k2=>walk_at "sq")) | (refine' Same.seq ?k1 ?k2;(case k1=>assumption);(case k2=>walk_at "sq")))
local macro_rules | `(tactic| walk_at "rf")=>`(tactic| first | with_unfolding_all rfl | assumption)
local macro_rules | `(tactic| walk_at "fl")=>`(tactic| first | with_unfolding_all rfl | exact lP _ | exact lY _)
local macro_rules | `(tactic| walk_at "s")=>`(tactic| with_reducible first
 | refine nN ?_ | refine rJ ?_ | refine mJ ?_ | refine uy ?_ | refine sJ ?_ | refine st_retN ?_
 | refine oz ?_ | refine oG ?_ | refine iJ ?_ | refine yx ?_ | refine wn ?_ | refine rT ?_
 | refine sI ?_ | refine p3 ?_ | refine rD ?_ | refine oT ?_ | refine tw ?_ | refine oK ?_ | refine sf ?_
 | refine mN ?_ | refine md ?_ | refine ww ?_ | refine qf ?_ | refine oE ?_
 | refine jG ?_ | refine iL ?_ | refine sN ?_ | refine qE ?_ | refine oq ?_ | refine ow ?_ | refine mf ?_
 | (refine' jy ?k1 ?_;(case k1=>walk_at "rf")) | refine yi ?_
 | refine rZ ?_ | refine uz ?_ | (refine' d5 ?k1 ?_;(case k1=>first | exact i' (by decide) | exact vE (by decide) | decide | (show (0:Int)<_;decide)))
 | (refine' lO ?k1 ?_;(case k1=>walk_at "rf")) | (refine' qK ?k1 ?_;(case k1=>walk_at "rf"))
 | (refine' b2 ?k1 ?k2 ?_;(case k1=>walk_at "sq");(case k2=>walk_at "rf")) | (refine' tH ?k1 ?k2 ?_;(case k1=>walk_at "sq");(case k2=>walk_at "rf"))
 | (refine' mh ?k1 ?_;(case k1=>walk_at "sq")) | (refine' jx ?k1 ?_;(case k1=>walk_at "sq"))
 | (refine' sX ?k1 ?k2 ?k3 ?_;(case k1=>walk_at "sq");(case k2=>walk_at "rf");(case k3=>walk_at "fl"))
 | (refine' qL ?k1 ?k2 ?k3 ?_;(case k1=>walk_at "sq");(case k2=>walk_at "rf");(case k3=>walk_at "fl"))
 | (refine' mI ?k1 ?_;(case k1=>walk_at "sq")) | refine st_min ?_ | refine st_intB ?_
 | refine vn ?_ | refine lL ?_ | refine ox ?_ | (refine' qY ?k1 ?_;(case k1=>walk_at "sq"))
 | refine oy ?_ | (refine' oX ?k1 ?k2 ?_;(case k1=>walk_at "hl");(case k2=>walk_at "rf")) | refine oZ ?_
 | (refine' sy ?k1 ?k2 ?k3 ?k4 ?_;(case k1=>walk_at "hl");(case k2=>assumption);(case k3=>assumption);(case k4=>walk_at "rf")) | (refine' oW ?k1 ?_;(case k1=>walk_at "hl"))
 | refine uF ?_ | refine qy ?_ | refine on ?_ | refine mL ?_ | refine st_dget ?_ | refine nh ?_
 | refine qF ?_ | refine mY ?_ | (refine' rA ?k1 ?_;(case k1=>walk_at "sq")) | refine oY ?_ | refine wb ?_ | refine oF ?_
 | (refine' uA ?k1 ?_;(case k1=>with_unfolding_all rfl))
 | (refine' qM ?k1 ?_;(case k1=>walk_at "hl")) | (refine' ng ?k1 ?_;(case k1=>walk_at "hl")))
local macro_rules | `(tactic| walk_at "g")=>`(tactic| repeat walk_at "s")
local macro_rules | `(tactic| walk_at "w")=>`(tactic| ((with_reducible refine tq ?_);intro p hp;generalize hH:upd _ p _=H';have hs:=om hp hH;have hg:=ui hH;clear hH))
local macro_rules | `(tactic| walk_at "sm")=>`(tactic| with_reducible first | assumption | exact Same.refl _ | (refine' Same.trans ?k1 ?k2;(case k2=>assumption);(case k1=>walk_at "sm")))
local macro_rules | `(tactic| walk_at "A")=>`(tactic| repeat (first | walk_at "s" | walk_at "w"))
def cg:Sp:=fun vs H Q _=>∃ a b n,vs=[.ref a,.int n]∧Rep H [] (.ref a) (cU b)∧b.length≤1000000∧∀ p H',H p=none→Same H H'→H' p=some (.lst ((ar b n).map .str))→Q (.ref p) H'
theorem zi{K:PySem.W.Frag}{vs:List V}{H:Hp}{Q:VK}{E:XK}(h:cg vs H Q E):xU K { nx:=fun _ H'=>Q .non H',rt:=Q } (aT ["book","bargain"] vs) H:=by
 obtain ⟨a,b,n,rfl,hb,hl,k⟩:=h
 obtain ⟨_,xs,e,rd,_,rs⟩:=hb.lst_inv
 cases e
 refine ⟨_,rfl,a,rfl,⟨xs,dR rd⟩,fun p hp=>?_⟩
 have hxl:xs.length=b.length:=by rw [rs.length,laa]
 refine d9 (K:=K) (a:=a) (xs:=xs) (fun i ys σ H'=>∃ v,σ=[v,some (.int n)]∧H'=upd H p (.lst ys)∧ys=(ar (b.take i) n).map .str) ⟨none,rfl,rfl,rfl⟩ ?_ ?_ ?_
 ·rintro i ys σ H' hi hp' ⟨v,rfl,rfl,rfl⟩
  walk_at "sq"
 ·rintro i x ys σ H' hx hp' ⟨v,rfl,rfl,rfl⟩
  obtain ⟨l,t,hb',rfl,rt⟩:=ms rs hx
  walk_at "g"
  by_cases e:l.2=n
  ·rw [if_pos (by simp [e])]
   walk_at "g"
   refine ⟨_,av,?_,_,av,_,rfl,mn,?_⟩
   ·rw [laa]
    exact bb (las (tJ _ _) (las (by rw [lax];omega) hl))
   ·rw [bC hb',cI,if_pos e,lai];rfl
  ·rw [if_neg (by simp [e])]
   exact ⟨_,av,_,rfl,rfl,by rw [bC hb',cI,if_neg e]⟩
 ·rintro ys σ H' hp' ⟨v,rfl,rfl,rfl⟩
  refine k p _ hp (Same.new hp) ?_
  rw [av,List.take_of_length_le (by omega)]
def cC:Sp:=fun vs H Q _=>∃ a b n,vs=[.ref a,.int n]∧Rep H [] (.ref a) (cU b)∧b.length≤1000000∧∀ H',Same H H'→Q (.bl (!decide (ar b n=[]))) H'
theorem Es{K:PySem.W.Frag}{vs:List V}{H:Hp}{Q:VK}{E:XK}(h:cC vs H Q E):v5 K cg { nx:=fun _ H'=>Q .non H',rt:=Q } (aT ["book","bargain"] vs) H:=by
 obtain ⟨a,b,n,rfl,hb,hl,k⟩:=h
 unfold v5
 walk_at "g"
 refine ⟨a,b,n,rfl,hb,hl,fun p H' hp s hp'=>?_⟩
 walk_at "g"
 have e:decide ((0:Int)<(((ar b n).map V.str).length:Int))=!decide (ar b n=[]):=by
  rw [laa]
  cases ar b n with
  | nil=>rfl
  | cons x r=>simp
 show Q (.bl (decide ((0:Int)<(((ar b n).map V.str).length:Int)))) H'
 rw [e]
 exact k H' s
def lC(w:Str):Bool:=decide (w="open"∨w="yes"∨w="no")
theorem xT(w:Str):dQ (.str w) [.str "open",.str "yes",.str "no"]=lC w:=by
 have:=eW w ["open","yes","no"]
 simp only [List.map_cons,List.map_nil] at this
 rw [this]
 unfold lC
 simp [List.mem_cons]
theorem z6{α:Type}{p:α→Bool}{l:List α}{i:Nat}{x:α}(hx:l[i]?=some x)(hp:p x=true)(hn:∀ y∈l.take i,p y=false):l.find? p=some x:=by
 have e:l=l.take i++x::l.drop (i+1):=by
  have hi:i<l.length:=(lab.mp hx).1
  have he:l[i]=x:=(lab.mp hx).2
  rw [← he,← List.drop_eq_getElem_cons hi,List.take_append_drop]
 rw [e,List.find?_append,List.find?_eq_none.mpr (by intro y hy;rw [hn y hy];simp),List.find?_cons,hp]
 rfl
def gU:Sp:=fun vs H Q _=>∃ a b n,vs=[.ref a,.int n]∧Rep H [] (.ref a) (cU b)∧b.length≤1000000∧∀ H',Same H H'→Q (eR (ie b n)) H'
theorem CP{K:PySem.W.Frag}{vs:List V}{H:Hp}{Q:VK}{E:XK}(h:gU vs H Q E):uT K cg { nx:=fun _ H'=>Q .non H',rt:=Q } (aT ["book","bargain","word"] vs) H:=by
 obtain ⟨a,b,n,rfl,hb,hl,k⟩:=h
 unfold uT
 walk_at "g"
 refine ⟨a,b,n,rfl,hb,hl,fun p H' hp s hp'=>?_⟩
 walk_at "g"
 refine d3 (K:=K) (a:=p) (xs:=(ar b n).map .str) (fun i σ H2=>∃ v,σ=[some (.ref a),some (.int n),v]∧Same H' H2∧∀ w∈(ar b n).take i,lC w=false) ⟨none,rfl,Same.refl _,by simp⟩ ?_ ?_ ?_
 ·rintro i σ H2 hi ⟨v,rfl,s2,hn⟩
  exact ca (s2 _ _ hp')
 ·rintro i x σ H2 hx ⟨v,rfl,s2,hn⟩
  rw [lae] at hx
  cases hw:(ar b n)[i]? with
  | none=>rw [hw] at hx;cases hx
  | some w=>
   rw [hw] at hx
   have e:V.str w=x:=lan hx
   subst e
   walk_at "A"
   rename_i q hq H3 s3 g3
   show if (if false=true then !dQ (.str w) _ else dQ (.str w) _)=true then _ else _
   rw [if_neg (by decide:¬ (false=true)),xT]
   cases hv:lC w with
   | true=>
    refine oo ?_
    walk_at "g"
    have e:ie b n=some w:=z6 hw hv hn
    have:=k H3 ((s.trans s2).trans s3)
    rw [e] at this
    exact this
   | false=>
    refine cS ?_
    refine ⟨some (.str w),rfl,s2.trans s3,fun y hy=>?_⟩
    rw [bC hw] at hy
    rcases lap.mp hy with z | z
    ·exact hn y z
    ·rw [lag.mp z];exact hv
 ·rintro σ H2 ⟨v,rfl,s2,hn⟩
  walk_at "g"
  have e:ie b n=none:=List.find?_eq_none.mpr (by
   intro y hy
   have:=hn y (by rw [laa,laE];exact hy)
   unfold lC at this
   rw [this];simp)
  have:=k H2 (s.trans s2)
  rw [e] at this
  exact this
def cy:Sp:=fun vs H Q _=>∃ a b n,vs=[.ref a,.int n]∧Rep H [] (.ref a) (cU b)∧b.length≤1000000∧∀ H',Same H H'→Q (eR (ax b n)) H'
theorem FG{K:PySem.W.Frag}{vs:List V}{H:Hp}{Q:VK}{E:XK}(h:cy vs H Q E):wc K cg { nx:=fun _ H'=>Q .non H',rt:=Q } (aT ["book","bargain","words"] vs) H:=by
 obtain ⟨a,b,n,rfl,hb,hl,k⟩:=h
 unfold wc
 walk_at "g"
 refine ⟨a,b,n,rfl,hb,hl,fun p H' hp s hp'=>?_⟩
 have kk:=k H' s
 unfold ax at kk
 walk_at "g"
 show if (if false=true then !dQ (.str "bound") _ else dQ (.str "bound") _)=true then _ else _
 rw [if_neg (by decide:¬ (false=true)),eW]
 by_cases e1:("bound":Str)∈ar b n
 ·rw [if_pos (by simp [e1])]
  rw [if_pos e1] at kk
  walk_at "g"
  exact kk
 rw [if_neg (by simp [e1])]
 rw [if_neg e1] at kk
 walk_at "g"
 show if (if false=true then !dQ (.str "off") _ else dQ (.str "off") _)=true then _ else _
 rw [if_neg (by decide:¬ (false=true)),eW]
 by_cases e2:("off":Str)∈ar b n
 ·rw [if_pos (by simp [e2])]
  rw [if_pos (.inl e2)] at kk
  refine oo ?_
  walk_at "g"
  exact kk
 rw [if_neg (by simp [e2])]
 walk_at "g"
 show if (if false=true then !dQ (.str "no") _ else dQ (.str "no") _)=true then _ else _
 rw [if_neg (by decide:¬ (false=true)),eW]
 by_cases e3:("no":Str)∈ar b n
 ·rw [if_pos (by simp [e3])]
  rw [if_pos (.inr e3)] at kk
  walk_at "g"
  exact kk
 rw [if_neg (by simp [e3])]
 rw [if_neg (by simp [e2,e3])] at kk
 walk_at "g"
 exact kk
def b0:Sp:=fun vs H Q _=>∃ a b n,vs=[.ref a,.int n]∧Rep H [] (.ref a) (cU b)∧b.length≤1000000∧∀ H',Same H H'→Q (.bl (bI b n)) H'
theorem o5(o:Option Str)(x:Str):sW (eR o) (.str x)=true:=by cases o <;> rfl
theorem ud(o:Option Str)(x:Str):decide (eR o=.str x)=decide (o=some x):=by
 cases o with
 | none=>simp [eR]
 | some y=>simp [eR]
theorem iO(o:Option Str):decide (eR o=.non)=decide (o=none):=by cases o <;> simp [eR]
theorem FN{K:PySem.W.Frag}{vs:List V}{H:Hp}{Q:VK}{E:XK}(h:b0 vs H Q E):wm K gU cy { nx:=fun _ H'=>Q .non H',rt:=Q } (aT ["book","bargain"] vs) H:=by
 obtain ⟨a,b,n,rfl,hb,hl,k⟩:=h
 unfold wm
 walk_at "g"
 refine ⟨a,b,n,rfl,hb,hl,fun H' s=>?_⟩
 walk_at "g"
 refine lO (o5 _ _) ?_
 walk_at "g"
 rw [ud]
 by_cases e:ie b n=some ("yes":Str)
 ·rw [if_pos (by simp [e])]
  walk_at "g"
  refine ⟨a,b,n,rfl,hb.same s,hl,fun H2 s2=>?_⟩
  have:=k H2 (s.trans s2)
  unfold bI at this
  rw [decide_eq_true e,Bool.true_and,← iO] at this
  exact this
 ·rw [if_neg (by simp [e])]
  have:=k H' s
  unfold bI at this
  rw [decide_eq_false e,Bool.false_and] at this
  exact this
def gO:Sp:=fun vs H Q _=>∃ a b,vs=[.ref a]∧Rep H [] (.ref a) (cU b)∧b.length≤1000000∧∀ p H',H p=none→Same H H'→H' p=some (.lst ((bG b).map .int))→Q (.ref p) H'
def fO(b:List bh)(l:bh):Bool:=decide (l.1=("open":Str))&&decide (ax b l.2=none)
theorem DN{K:PySem.W.Frag}{vs:List V}{H:Hp}{Q:VK}{E:XK}(h:gO vs H Q E):yT K cy { nx:=fun _ H'=>Q .non H',rt:=Q } (aT ["book"] vs) H:=by
 obtain ⟨a,b,rfl,hb,hl,k⟩:=h
 obtain ⟨_,xs,e,rd,_,rs⟩:=id hb.lst_inv
 cases e
 have hxl:xs.length=b.length:=by rw [rs.length,laa]
 refine ⟨_,rfl,a,rfl,⟨xs,dR rd⟩,fun p hp=>?_⟩
 refine d9 (K:=K) (a:=a) (xs:=xs) (fun i ys σ H'=>∃ v,σ=[v,some (.ref a)]∧Same H H'∧ys=(((b.take i).filter (fO b)).map (·.2)).map .int) ⟨none,rfl,Same.new hp,rfl⟩ ?_ ?_ ?_
 ·rintro i ys σ H' hi hp' ⟨v,rfl,s,rfl⟩
  exact s.seq (dR rd)
 ·rintro i x ys σ H' hx hp' ⟨v,rfl,s,rfl⟩
  obtain ⟨l,t,hb',rfl,rt⟩:=ms rs hx
  walk_at "g"
  have fin:∀ (c:Bool),fO b l=c→(if c=true then ((((b.take i).filter (fO b)).map (·.2)).map V.int)++[V.int l.2] else (((b.take i).filter (fO b)).map (·.2)).map V.int)=(((b.take (i+1)).filter (fO b)).map (·.2)).map V.int:=by
   intro c hc
   rw [bC hb',lay,laz,hc]
   cases c <;> simp
  by_cases e:l.1=("open":Str)
  ·rw [if_pos (by simp [e])]
   walk_at "g"
   refine ⟨a,b,l.2,rfl,hb.same s,hl,fun H2 s2=>?_⟩
   walk_at "g"
   rw [iO]
   have hc:fO b l=decide (ax b l.2=none):=by unfold fO;rw [decide_eq_true e,Bool.true_and]
   have f:=fin _ hc
   by_cases e2:ax b l.2=none
   ·rw [if_pos (by simp [e2])]
    rw [if_pos (by simp [e2])] at f
    walk_at "g"
    refine ⟨_,s2 _ _ hp',?_,_,av,_,rfl,(s.trans s2).put hp,f⟩
    rw [laa,laa]
    exact bb (las (laJ _ _) (las (by rw [lax];omega) hl))
   ·rw [if_neg (by simp [e2])]
    rw [if_neg (by simp [e2])] at f
    exact ⟨_,s2 _ _ hp',_,rfl,s.trans s2,f⟩
  ·rw [if_neg (by simp [e])]
   have hc:fO b l=false:=by unfold fO;rw [decide_eq_false e,Bool.false_and]
   have f:=fin _ hc
   rw [if_neg (by decide)] at f
   refine cS ?_
   exact ⟨_,hp',_,rfl,s,f⟩
 ·rintro ys σ H' hp' ⟨v,rfl,s,rfl⟩
  refine k p _ hp s ?_
  rw [List.take_of_length_le (by omega)] at hp'
  exact hp'
def ug(ws:List Str):Prop:=∀ w∈ws,PyData.strOk w=true
def i0(ws:List Str):PyData:=.list (ws.map .str)
theorem tN{ws:List Str}(ok:ug ws):PyData.canLayAll0 (ws.map .str)=true:=by
 induction ws with
 | nil=>rfl
 | cons w r ih=>
  rw [lah,PyData.canLayAll0,PyData.canLay0,ok w (by simp),Bool.true_and]
  exact ih fun x hx=>ok x (lac _ hx)
theorem vO(ws:List Str):PyData.depthAll (ws.map .str)≤1:=by
 induction ws with
 | nil=>simp [PyData.depthAll]
 | cons w r ih=>rw [lah,PyData.depthAll,PyData.depth];omega
theorem mz{ws:List Str}(ok:ug ws):SeqAt.shaped (i0 ws)=true:=by
 unfold SeqAt.shaped i0
 rw [PyData.canLay0,tN ok,Bool.true_and,PyData.depth]
 have:=vO ws
 exact decide_eq_true (by omega)
theorem xV:∀ (xs ys:List Str),PyData.eqv (i0 xs) (i0 ys)=decide (xs=ys):=by
 intro xs ys
 unfold i0
 rw [PyData.eqv]
 induction xs generalizing ys with
 | nil=>cases ys <;> simp [PyData.eqvAll]
 | cons x r ih=>
  cases ys with
  | nil=>simp [PyData.eqvAll]
  | cons y s=>
   rw [lah,lah,PyData.eqvAll,PyData.eqv,ih s]
   by_cases e:x=y
   ·subst e;simp
   ·simp [e]
theorem qT{H:Hp}{a:Addr}{ws:List Str}(h:Rd H a (.lst (ws.map .str))):Rep H [] (.ref a) (i0 ws):=.lst h (by simp) (pU ws)
theorem Bp{H:Hp}{Q:VK}{a b:Addr}{xs ys:List Str}(h1:Rd H a (.lst (xs.map .str)))(h2:Rd H b (.lst (ys.map .str)))(o1:ug xs)(o2:ug ys)(q:Q (.bl (decide (xs=ys))) H):wd (.ref a) (.ref b) H Q:=
 ⟨i0 xs,i0 ys,qT h1,qT h2,mz o1,mz o2,by rw [xV];exact q⟩
theorem oU{xs:List V}{r:Int}(h0:0≤r)(h1:r<xs.length):∃ v,v∈xs∧iW xs r=some v:=by
 have hlt:r.toNat<xs.length:=by omega
 refine ⟨xs[r.toNat],List.getElem_mem hlt,?_⟩
 have:=ce (xs:=xs) (j:=r.toNat) (v:=xs[r.toNat]) (by simp [hlt])
 rwa [Int.toNat_of_nonneg h0] at this
theorem lN(w:Str):dQ (.str w) [.str "bound",.str "off"]=decide (w="bound"∨w="off"):=by
 have:=eW w ["bound","off"]
 simp only [List.map_cons,List.map_nil] at this
 rw [this];simp [List.mem_cons]
def vd(K:PySem.W.Frag)(dO:Sp)(aa:Addr):TS:=
  (aq (fc K (ad 0) (ad 1) "number")
  (aq (fc K (ad 0) (ff (en (ae (ad 2) ak)) (az 0) (aZ (ap jA (ad 0) (ad 1))) (ad 0) [none,some 1]) "others")
  (aq (fc K (ad 0) (bv (ef K) (ae (ad 3) ak)) "against")
  (aq (fc K (ad 0) (cG ak) "book")
  (aq (fc K (ad 0) (tC (.bl true)) "awake")
  (b1 (bc aa "forget" dO [] E0 (ad 0) ak)))))))
def v6(K:PySem.W.Frag):TS:=
  (aq (fc K (ad 0) lV "counted")
  (aq (fc K (ad 0) lV "pages")
  (fc K (ad 0) (tC (.int 0)) "lines_read")))
def uQ(K:PySem.W.Frag)(bz:Sp)(cu:Sp)(aa:Addr):TS:=
  (aq (aX (aZ (ap (iy K false) (ad 1) (br K (ad 0) "against")))
  (aq (b1 (bc aa "write" bz [] E0 (ad 0) (ae (tC (.str "no")) (ae (ad 1) ak))))
  (aC (cG ak)))
  aM)
  (aq (b1 (bc aa "write" bz [] E0 (ad 0) (ae (tC (.str "open")) (ae (ad 1) ak))))
  (aC (bc aa "to_others" cu [] E0 (ad 0) (ae (ad 1) (ae (tC (.str "ask")) ak))))))
def uE(K:PySem.W.Frag)(gM:Sp)(hR:Sp)(hV:Sp)(gI:Sp)(aa:Addr):TS:=
  (aq (bg (ap (bK K) (ad 1) (tC (.int 0))) (az 2))
  (aq (bg (ap (bK K) (ad 1) (tC (.int 2))) (az 3))
  (aq (bg (ap (bK K) (ad 1) (tC (.int 3))) (az 4))
  (aq (aX (aZ (ap cY (ad 4) (tC (.str "ask"))))
  (aC (bc aa "got_ask" gM [] E0 (ad 0) (ae (ad 2) (ae (ad 3) ak))))
  aM)
  (aq (aX (aZ (ap cY (ad 4) (tC (.str "query"))))
  (aC (bc aa "got_query" hR [] E0 (ad 0) (ae (ad 2) (ae (ad 3) ak))))
  aM)
  (aq (aX (aZ (ap (iy K false) (ad 4) (cR (ae (tC (.str "yes")) (ae (tC (.str "no")) ak)))))
  (aC (bc aa "got_vote" hV [] E0 (ad 0) (ae (ad 2) (ae (ad 3) (ae (ad 4) ak)))))
  aM)
  (aC (bc aa "got_decision" gI [] E0 (ad 0) (ae (ad 3) (ae (ad 4) ak))))))))))
def vz(K:PySem.W.Frag)(b0:Sp)(bV:Sp)(cu:Sp)(aa:Addr):TS:=
  (aq (aX (im (cb (tB (br K (ad 0) "awake"))) (cb (tB (a_ b0 [] E0 (ae (bc aa "page" bV [] E0 (ad 0) (ae (ad 1) ak)) (ae (ad 1) ak))))))
  (aC (cG ak))
  aM)
  (aC (bc aa "to_others" cu [] E0 (ad 0) (ae (ad 1) (ae (tC (.str "query")) ak)))))
def uv(K:PySem.W.Frag)(dO:Sp)(aa:Addr):TS:=
  (aq (fc K (ad 0) (tC (.bl false)) "awake")
  (b1 (bc aa "forget" dO [] E0 (ad 0) ak)))
def vM(K:PySem.W.Frag)(gO:Sp)(cf:Sp)(aa:Addr):TS:=
  (aq (fc K (ad 0) (tC (.bl true)) "awake")
  (aq (bg (a_ gO [] E0 (ae (br K (ad 0) "book") ak)) (az 1))
  (aq (bg (cG ak) (az 2))
  (aq (ei (cP K (ad 1)) (az 3)
  (b1 (fU K "list" iM (ad 2) (ae (bc aa "decide" cf [] E0 (ad 0) (ae (ad 3) (ae (tC (.str "off")) ak))) ak))))
  (aC (ad 2))))))
def wz(K:PySem.W.Frag)(bD:Sp)(aa:Addr):TS:=
  (aq (aX (aZ (ap (iy K true) (ap (bK K) (ad 1) (tC (.int 3))) (cR (ae (tC (.str "no")) (ae (tC (.str "bound")) (ae (tC (.str "off")) ak))))))
  (aC (tC (.bl false)))
  aM)
  (aC (i_ (bc aa "decision" bD [] E0 (ad 0) (ae (ap (bK K) (ad 1) (tC (.int 2))) ak)))))
def vg(K:PySem.W.Frag)(cC:Sp)(bV:Sp)(bz:Sp)(bD:Sp)(ci:Sp)(aa:Addr):TS:=
  (iU (aX (cb (tB (a_ cC [] E0 (ae (bc aa "page" bV [] E0 (ad 0) (ae (ad 2) ak)) (ae (ad 2) ak)))))
  (b1 (bc aa "write" bz [] E0 (ad 0) (ae (zf (aZ (ap (iy K false) (ad 2) (br K (ad 0) "against"))) (tC (.str "no")) (tC (.str "yes"))) (ae (ad 2) ak))))
  aM)
  (aq (aX (aZ (ap cY (bc aa "decision" bD [] E0 (ad 0) (ae (ad 2) ak)) (tC (.str "off"))))
  (aC (bc aa "to_one" ci [] E0 (ad 0) (ae (ad 1) (ae (ad 2) (ae (tC (.str "no")) ak)))))
  aM)
  (aC (bc aa "to_one" ci [] E0 (ad 0) (ae (ad 1) (ae (ad 2) (ae (tC (.str "yes")) ak)))))))
def vm(K:PySem.W.Frag)(bD:Sp)(ci:Sp)(cf:Sp)(aa:Addr):TS:=
  (aq (bg (bc aa "decision" bD [] E0 (ad 0) (ae (ad 2) ak)) (az 4))
  (aq (aX (tB (i_ (ad 4)))
  (aC (zf (aZ (ap cY (ad 3) (tC (.str "yes")))) (bc aa "to_one" ci [] E0 (ad 0) (ae (ad 1) (ae (ad 2) (ae (ad 4) ak)))) (cG ak)))
  aM)
  (aq (aX (aZ (ap cY (ad 3) (tC (.str "no"))))
  (aC (bc aa "decide" cf [] E0 (ad 0) (ae (ad 2) (ae (tC (.str "off")) ak))))
  aM)
  (aq (bg (nT (br K (ad 0) "counted") (ad 2) lV) (az 5))
  (aq (p7 (ad 5) (ad 1) (tC (.bl true)))
  (aq (aX (aZ (ap lU (bv uN (ae (ad 5) ak)) (bv (b5 K) (ae (br K (ad 0) "others") ak))))
  (aC (cG ak))
  aM)
  (aC (bc aa "decide" cf [] E0 (ad 0) (ae (ad 2) (ae (tC (.str "bound")) ak))))))))))
def u7(K:PySem.W.Frag)(bD:Sp)(bz:Sp)(aa:Addr):TS:=
  (iU (aX (tB (jt (bc aa "decision" bD [] E0 (ad 0) (ae (ad 1) ak))))
  (b1 (bc aa "write" bz [] E0 (ad 0) (ae (ad 2) (ae (ad 1) ak))))
  aM)
  (aC (cG ak)))
def vr(K:PySem.W.Frag)(b0:Sp)(cC:Sp)(bV:Sp)(bD:Sp)(ci:Sp)(cf:Sp)(bz:Sp)(aa:Addr):TS:=
  (aq (aX (tB (a_ b0 [] E0 (ae (bc aa "page" bV [] E0 (ad 0) (ae (ad 2) ak)) (ae (ad 2) ak))))
  (aC (cG ak))
  aM)
  (aq (bg (bc aa "decision" bD [] E0 (ad 0) (ae (ad 2) ak)) (az 3))
  (aq (aX (tB (i_ (ad 3)))
  (aC (bc aa "to_one" ci [] E0 (ad 0) (ae (ad 1) (ae (ad 2) (ae (ad 3) ak)))))
  aM)
  (aq (aX (tB (a_ cC [] E0 (ae (bc aa "page" bV [] E0 (ad 0) (ae (ad 2) ak)) (ae (ad 2) ak))))
  (aC (bc aa "decide" cf [] E0 (ad 0) (ae (ad 2) (ae (tC (.str "off")) ak))))
  aM)
  (aq (b1 (bc aa "write" bz [] E0 (ad 0) (ae (tC (.str "no")) (ae (ad 2) ak))))
  (aC (bc aa "to_one" ci [] E0 (ad 0) (ae (ad 1) (ae (ad 2) (ae (tC (.str "off")) ak))))))))))
def vT(K:PySem.W.Frag)(bz:Sp)(cu:Sp)(aa:Addr):TS:=
  (aq (b1 (bc aa "write" bz [] E0 (ad 0) (ae (ad 2) (ae (ad 1) ak))))
  (aC (bc aa "to_others" cu [] E0 (ad 0) (ae (ad 1) (ae (ad 2) ak)))))
def wq(K:PySem.W.Frag)(cy:Sp)(bV:Sp)(aa:Addr):TS:=
  (aC (a_ cy [] E0 (ae (bc aa "page" bV [] E0 (ad 0) (ae (ad 1) ak)) (ae (ad 1) ak))))
def wC(K:PySem.W.Frag):TS:=
  (aq (r8 (aZ (ap lU (br K (ad 0) "lines_read") (bv (b5 K) (ae (br K (ad 0) "book") ak))))
  (aq (bg (ap (cJ K) (br K (ad 0) "book") (br K (ad 0) "lines_read")) (az 2))
  (aq (b1 (fU K "list" dc (nT (br K (ad 0) "pages") (ap (bK K) (ad 2) (tC (.int 1))) (cG ak)) (ae (ad 2) ak)))
  (oQ K (ad 0) (tC (.int 1)) yP "lines_read"))))
  (aC (qq (br K (ad 0) "pages") (ad 1) (cG ak))))
def uX(K:PySem.W.Frag):TS:=
  (b1 (fU K "list" dc (br K (ad 0) "book") (ae (cR (ae (ad 1) (ae (ad 2) ak))) ak)))
def wa(K:PySem.W.Frag):TS:=
  (aC (cG (ae (cR (ae (br K (ad 0) "number") (ae (ad 1) (ae (ad 2) (ae (ad 3) ak))))) ak)))
def vP(K:PySem.W.Frag):TS:=
  (aC (ff (cP K (br K (ad 0) "others")) (az 0) fm (cR (ae (br K (ad 3) "number") (ae (ad 0) (ae (ad 1) (ae (ad 2) ak))))) [none,some 1,some 2,some 0]))
structure bt(K:PySem.W.Frag)(C:Addr):Prop where
 cl:Cls K C
 f1:NoAttr K C "number"
 f2:NoAttr K C "others"
 f3:NoAttr K C "against"
 f4:NoAttr K C "book"
 f5:NoAttr K C "awake"
 f6:NoAttr K C "counted"
 f7:NoAttr K C "pages"
 f8:NoAttr K C "lines_read"
structure HS where
 num:Int
 oth:List Int
 agn:List Int
 book:List bh
 up:Bool
 cnt:Int→List Int
abbrev au:=Int×Int×Int×Str
def b9(l:au):PyData:=.tuple [.int l.1,.int l.2.1,.int l.2.2.1,.str l.2.2.2]
def m_(ls:List au):PyData:=.list (ls.map b9)
def HS.wr(h:HS)(w:Str)(n:Int):HS:={ h with book:=h.book++[(w,n)] }
def HS.toOthers(h:HS)(n:Int)(w:Str):List au:=h.oth.map fun k=>(h.num,k,n,w)
def HS.begin(h:HS)(n:Int):HS×List au:=if n∈h.agn then (h.wr "no" n,[]) else (h.wr "open" n,h.toOthers n "ask")
def HS.decide(h:HS)(n:Int)(w:Str):HS×List au:=(h.wr w n,h.toOthers n w)
def HS.asked(h:HS)(n:Int):HS:=if ar h.book n=[] then h.wr (if n∈h.agn then "no" else "yes") n else h
def HS.gotAsk(h:HS)(g n:Int):HS×List au:=(h.asked n,[(h.num,g,n,if ax (h.asked n).book n=some ("off":Str) then "no" else "yes")])
def dt(g:Int)(gs:List Int):List Int:=if g∈gs then gs else gs++[g]
def HS.count(h:HS)(g n:Int):HS:={ h with cnt:=fun m=>if m=n then dt g (h.cnt n) else h.cnt m }
def HS.gotVote(h:HS)(g n:Int)(w:Str):HS×List au:=
 match ax h.book n with
 | some d=>(h,if w="yes" then [(h.num,g,n,d)] else [])
 | none=>if w="no" then h.decide n "off" else if (dt g (h.cnt n)).length<h.oth.length then (h.count g n,[]) else (h.count g n).decide n "bound"
def HS.gotDecision(h:HS)(n:Int)(w:Str):HS×List au:=(if ax h.book n=none then h.wr w n else h,[])
def HS.gotQuery(h:HS)(g n:Int):HS×List au:=
 if bI h.book n=true then (h,[]) else match ax h.book n with
 | some d=>(h,[(h.num,g,n,d)])
 | none=>if ar h.book n=[] then (h.wr "no" n,[(h.num,g,n,"off")]) else h.decide n "off"
def HS.got(h:HS)(l:au):HS×List au:=
 if l.2.2.2="ask" then h.gotAsk l.1 l.2.2.1 else if l.2.2.2="query" then h.gotQuery l.1 l.2.2.1 else if l.2.2.2="yes"∨l.2.2.2="no" then h.gotVote l.1 l.2.2.1 l.2.2.2 else h.gotDecision l.2.2.1 l.2.2.2
def HS.stop(h:HS):HS:={ h with up:=false,cnt:=fun _=>[] }
def HS.offAll(h:HS):List Int→HS×List au
 | []=>(h,[])
 | n::r=>let q:=(h.decide n "off").1.offAll r;(q.1,(h.decide n "off").2++q.2)
def HS.wake(h:HS):HS×List au:={ h with up:=true:HS }.offAll (bG h.book)
def gv(g:Int):bn×V:=(Sum.inl g,V.bl true)
structure EL(H:Hp)(kvs:List (bn×V))(cnt:Int→List Int)(R:List Addr)(pc pp:Addr):Prop where
 no:∀ n,bW kvs (Sum.inl n:bn)=none→cnt n=[]
 yes:∀ n v,bW kvs (Sum.inl n:bn)=some v→∃ q,v=.ref q∧H q=some (.dK ((cnt n).map gv))∧q∈R∧q≠pc∧q≠pp
 inj:∀ n m q,bW kvs (Sum.inl n:bn)=some (.ref q)→bW kvs (Sum.inl m:bn)=some (.ref q)→n=m
def cV(b:List bh)(n:Int):List bh:=b.filter fun l=>decide (l.2=n)
theorem fS(b:List bh)(n:Int):ar (cV b n) n=ar b n:=by
 unfold ar cV
 rw [List.filter_filter]
 simp
theorem oe(b:List bh)(n:Int):ax (cV b n) n=ax b n:=by unfold ax;rw [fS]
theorem lx(b:List bh)(n:Int):bI (cV b n) n=bI b n:=by unfold bI ie;rw [oe,fS]
theorem mD(b:List bh)(l:bh)(n:Int):cV (b++[l]) n=if l.2=n then cV b n++[l] else cV b n:=by
 unfold cV
 rw [lay]
 by_cases e:l.2=n <;> simp [e]
theorem fR(b:List bh)(n:Int):(cV b n).length≤b.length:=laJ _ _
structure PagAt(H:Hp)(pvs:List (bn×V))(b:List bh)(R:List Addr)(po pa pk:Addr):Prop where
 no:∀ n,bW pvs (Sum.inl n:bn)=none→cV b n=[]
 yes:∀ n v,bW pvs (Sum.inl n:bn)=some v→∃ q xs,v=.ref q∧H q=some (.lst xs)∧Reps H [] xs ((cV b n).map c_)∧q∈R∧q≠po∧q≠pa∧q≠pk
 inj:∀ n m q,bW pvs (Sum.inl n:bn)=some (.ref q)→bW pvs (Sum.inl m:bn)=some (.ref q)→n=m
theorem PagAt.keep{H H':Hp}{pvs:List (bn×V)}{b:List bh}{R R':List Addr}{po pa pk:Addr}(P:PagAt H pvs b R po pa pk)(sub:∀ a∈R,a∈R')(kp:∀ q xs,H q=some (.lst xs)→q∈R→q≠po→q≠pa→q≠pk→H' q=some (.lst xs))
  (ch:∀ (b:List bh) xs,Reps H [] xs (b.map c_)→Reps H' [] xs (b.map c_)):PagAt H' pvs b R' po pa pk:=
 ⟨P.no,fun n v hv=>by obtain ⟨q,xs,e,h1,h2,h3,h4,h5,h6⟩:=P.yes n v hv;exact ⟨q,xs,e,kp _ _ h1 h3 h4 h5 h6,ch _ _ h2,sub _ h3,h4,h5,h6⟩,P.inj⟩
structure Pg where
 kvs:List (bn×V)
 pp:Addr
 nr:Nat
 pvs:List (bn×V)
def e_(num:Int)(po pa pk:Addr)(up:Bool)(pc pp:Addr)(nr:Nat):List (Str×V):=[("number",.int num),("others",.ref po),("against",.ref pa),("book",.ref pk),("awake",.bl up),("counted",.ref pc),("pages",.ref pp),("lines_read",.int nr)]
structure HouseI0(C:Addr)(H:Hp)(p:Addr)(h:HS)(R:List Addr)(N:Nat)(dx po pa pk pc:Addr)(xs:List V)(z:Pg):Prop where
 ob:H p=some (.ins C dx (e_ h.num po pa pk h.up pc z.pp z.nr))
 ot:H po=some (.lst (h.oth.map .int))
 ag:H pa=some (.lst (h.agn.map .int))
 bk:H pk=some (.lst xs)
 bs:Reps H [] xs (h.book.map c_)
 cn:H pc=some (.dK z.kvs)
 ct:EL H z.kvs h.cnt R pc z.pp
 pg:H z.pp=some (.dK z.pvs)
 pt:PagAt H z.pvs (h.book.take z.nr) R po pa pk
 n1:po≠pk
 n2:pa≠pk
 n3:pc≠z.pp
 m1:p∈R
 m2:po∈R
 m3:pa∈R
 m4:pk∈R
 m5:pc∈R
 m6:z.pp∈R
 trk:∀ a∈R,∃ o,H a=some o
 l1:h.book.length≤N
 l2:z.kvs.length≤N
 l3:∀ n,(h.cnt n).length≤N
 l5:z.nr≤h.book.length
 okb:Jc h.book
structure HouseIn(C:Addr)(H:Hp)(p:Addr)(h:HS)(R:List Addr)(N:Nat)(dx po pa pk pc:Addr)(xs:List V)(z:Pg):Prop extends HouseI0 C H p h R N dx po pa pk pc xs z where
 l4:z.pvs.length≤z.nr
def HouseAt(C:Addr)(H:Hp)(p:Addr)(h:HS)(R:List Addr)(N:Nat):Prop:=∃ dx po pa pk pc xs z,HouseIn C H p h R N dx po pa pk pc xs z
structure Move(C p:Addr)(H:Hp)(R:List Addr)(H':Hp)(h':HS)(R':List Addr)(N':Nat):Prop where
 at_:HouseAt C H' p h' R' N'
 chg:Chg R H H'
 gr:Grow R H R'
 sb:∀ a∈R,a∈R'
theorem fH{H:Hp}{S T:List Addr}:∀ {b:List bh} {xs:List V},Reps H S xs (b.map c_)→Reps H T xs (b.map c_)
 | [],xs,r=>by rw [laG] at r ⊢;rw [r.nil_inv];exact .nil
 | l::b,xs,r=>by
  rw [lah] at r ⊢
  obtain ⟨x,ys,rfl,h,t⟩:=r.cons_inv
  obtain ⟨a,zs,rfl,rt,rs⟩:=h.tup_inv
  obtain ⟨y1,r1,rfl,h1,t1⟩:=rs.cons_inv
  obtain ⟨y2,r2,rfl,h2,t2⟩:=t1.cons_inv
  cases t2.nil_inv
  rw [h1.str_inv,h2.int_inv] at rt
  exact .cons (.tup rt (.cons (.str _) (.cons (.int _) .nil))) (fH t)
theorem b_{H H':Hp}{S T:List Addr}{b:List bh}{xs:List V}(r:Reps H S xs (b.map c_))(c:Chg T H H'):Reps H' S xs (b.map c_):=fH ((fH (T:=T) r).chg c)
theorem Move.trans{C p:Addr}{H H1 H2:Hp}{R R1 R2:List Addr}{h1 h2:HS}{N1 N2:Nat}(a:Move C p H R H1 h1 R1 N1)(b:Move C p H1 R1 H2 h2 R2 N2):Move C p H R H2 h2 R2 N2:=
 ⟨b.at_,a.chg.grow a.gr b.chg,a.gr.trans a.chg b.gr,fun x hx=>b.sb x (a.sb x hx)⟩
theorem HouseIn.same{C:Addr}{H H':Hp}{p:Addr}{h:HS}{R:List Addr}{N:Nat}{dx po pa pk pc:Addr}{xs:List V}{z:Pg}(I:HouseIn C H p h R N dx po pa pk pc xs z)(s:Same H H'):HouseIn C H' p h R N dx po pa pk pc xs z:=
  { I with ob:=s _ _ I.ob,ot:=s _ _ I.ot,ag:=s _ _ I.ag,bk:=s _ _ I.bk,bs:=I.bs.same s,cn:=s _ _ I.cn,pg:=s _ _ I.pg,
           ct:=⟨I.ct.no,fun n v hv=>(by obtain ⟨q,e,h1,h2⟩:=I.ct.yes n v hv;exact ⟨q,e,s _ _ h1,h2⟩),I.ct.inj⟩,
           pt:=I.pt.keep (fun _ h=>h) (fun q xs h _ _ _ _=>s _ _ h) fun b xs r=>r.same s,
           trk:=fun a ha=>(by obtain ⟨o,e⟩:=I.trk a ha;exact ⟨o,s _ _ e⟩) }
theorem HouseAt.same{C:Addr}{H H':Hp}{p:Addr}{h:HS}{R:List Addr}{N:Nat}(I:HouseAt C H p h R N)(s:Same H H'):HouseAt C H' p h R N:=by
 obtain ⟨dx,po,pa,pk,pc,xs,kvs,I⟩:=I
 exact ⟨dx,po,pa,pk,pc,xs,kvs,I.same s⟩
theorem HouseAt.move{C:Addr}{H H':Hp}{p:Addr}{h:HS}{R:List Addr}{N:Nat}(I:HouseAt C H p h R N)(s:Same H H'):Move C p H R H' h R N:=⟨I.same s,.of_same s,.refl _ _,fun _ h=>h⟩
theorem HouseIn.more{C:Addr}{H:Hp}{p:Addr}{h:HS}{R:List Addr}{N M:Nat}{dx po pa pk pc:Addr}{xs:List V}{z:Pg}(I:HouseIn C H p h R N dx po pa pk pc xs z)(hN:N≤M):HouseIn C H p h R M dx po pa pk pc xs z:=
 { I with l1:=las I.l1 hN,l2:=las I.l2 hN,l3:=fun n=>las (I.l3 n) hN }
theorem HouseAt.more{C:Addr}{H:Hp}{p:Addr}{h:HS}{R:List Addr}{N M:Nat}(I:HouseAt C H p h R N)(hN:N≤M):HouseAt C H p h R M:=by
 obtain ⟨dx,po,pa,pk,pc,xs,kvs,I⟩:=I
 exact ⟨dx,po,pa,pk,pc,xs,kvs,I.more hN⟩
theorem Move.more{C p:Addr}{H H':Hp}{R R':List Addr}{h':HS}{N' M:Nat}(m:Move C p H R H' h' R' N')(hN:N'≤M):Move C p H R H' h' R' M:=⟨m.at_.more hN,m.chg,m.gr,m.sb⟩
theorem HouseAt.chg{C:Addr}{H H':Hp}{p:Addr}{h:HS}{R T:List Addr}{N:Nat}(I:HouseAt C H p h R N)(c:Chg T H H')(d:∀ a∈R,¬ a∈T):HouseAt C H' p h R N:=by
 obtain ⟨dx,po,pa,pk,pc,xs,kvs,I⟩:=I
 have kp:∀ a o,a∈R→H a=some o→H' a=some o:=fun a o ha e=>c.keep a o e (d a ha)
 refine ⟨dx,po,pa,pk,pc,xs,kvs,{ I with ob:=kp _ _ I.m1 I.ob,ot:=kp _ _ I.m2 I.ot,ag:=kp _ _ I.m3 I.ag,bk:=kp _ _ I.m4 I.bk,bs:=(b_ I.bs c),cn:=kp _ _ I.m5 I.cn,pg:=kp _ _ I.m6 I.pg,ct:=⟨I.ct.no,fun n v hv=>(by obtain ⟨q,e,h1,h2,h3⟩:=I.ct.yes n v hv;exact ⟨q,e,kp _ _ h2 h1,h2,h3⟩),I.ct.inj⟩,pt:=(I.pt.keep (fun _ h=>h) (fun q xs h m _ _ _=>kp _ _ m h) (fun b xs r=>b_ r c)),trk:=(fun a ha=>(by obtain ⟨o,e⟩:=I.trk a ha;exact ⟨o,kp _ _ ha e⟩)) }⟩
theorem eY{H:Hp}{R:List Addr}{a:Addr}{o:HO}(t:∀ a∈R,∃ o,H a=some o):∀ b∈R,∃ u,upd H a o b=some u:=fun b hb=>by
 by_cases e:b=a
 ·subst e;exact ⟨o,av⟩
 ·rw [bH e];exact t b hb
def bz(C:Addr):Sp:=fun vs H Q _=>∃ p w n h R N,vs=[.ref p,.str w,.int n]∧HouseAt C H p h R N∧N≤900000∧PyData.strOk w=true∧∀ H',Move C p H R H' (h.wr w n) R (N+1)→Q .non H'
theorem EX{K:PySem.W.Frag}{C:Addr}{vs:List V}{H:Hp}{Q:VK}{E:XK}(T:bt K C)(h:bz C vs H Q E):uX K { nx:=fun _ H'=>Q .non H',rt:=Q } (aT ["self","word","bargain"] vs) H:=by
  obtain ⟨p,w,n,h,R,N,rfl,⟨dx,po,pa,pk,pc,xs,kvs,I⟩,hN,okw,k⟩:=h
  obtain ⟨cl,f1,f2,f3,f4,f5,f6,f7,f8⟩:=T
  obtain ⟨⟨ob,ot,ag,bk,bs,cn,ct,pg,pt,n1,n2,n3,m1,m2,m3,m4,m5,m6,trk,l1,l2,l3,l5,okb⟩,l4⟩:=id I
  have hxl:xs.length=h.book.length:=by rw [bs.length,laa]
  unfold uX
  walk_at "g"
  refine ⟨.inl ⟨rfl,_,ca bk⟩,?_⟩
  walk_at "A"
  rename_i t ht H1 s1 g1
  have bk1:=s1 _ _ bk
  refine cL bk1 (bb (by omega)) ?_
  have ntk:t≠pk:=cr g1 bk1 (by intro z;cases z)
  have kp:∀ a o,a≠pk→H1 a=some o→upd H1 pk (.lst (xs++[.ref t])) a=some o:=fun a o e z=>bo e z
  have cB:Chg R H1 (upd H1 pk (.lst (xs++[.ref t]))):=.set (by rw [bk1];exact True.intro) m4
  refine k _ ⟨⟨dx,po,pa,pk,pc,xs++[.ref t],kvs,?_⟩,(Chg.of_same s1).trans cB,.refl _ _,fun _ h=>h⟩
  exact { ob:=kp _ _ (cr (s1 _ _ ob) bk1 (by intro z;cases z)) (s1 _ _ ob),ot:=kp _ _ n1 (s1 _ _ ot),ag:=kp _ _ n2 (s1 _ _ ag),bk:=av,
          bs:=(by
            show Reps _ [] _ ((h.book++[(w,n)]).map c_)
            rw [lai]
            exact (b_ (bs.same s1) cB).snoc (.tup (.inl (kp _ _ ntk g1)) (.cons (.str _) (.cons (.int _) .nil)))),
          cn:=kp _ _ (cr (s1 _ _ cn) bk1 (by intro z;cases z)) (s1 _ _ cn),pg:=kp _ _ (cr (s1 _ _ pg) bk1 (by intro z;cases z)) (s1 _ _ pg),
          ct:=⟨ct.no,fun n v hv=>(by obtain ⟨q,e,h1,h2⟩:=ct.yes n v hv;exact ⟨q,e,kp _ _ (cr (s1 _ _ h1) bk1 (by intro z;cases z)) (s1 _ _ h1),h2⟩),ct.inj⟩,
          pt:=(by
            show PagAt _ _ ((h.book++[(w,n)]).take kvs.nr) _ _ _ _
            rw [List.take_append_of_le_length l5]
            exact pt.keep (fun _ h=>h) (fun q xs hq _ _ _ nk=>kp _ _ nk (s1 _ _ hq)) fun b xs r=>b_ (r.same s1) cB),
          n1:=n1,n2:=n2,n3:=n3,m1:=m1,m2:=m2,m3:=m3,m4:=m4,m5:=m5,m6:=m6,
          trk:=eY fun a ha=>(by obtain ⟨o,e⟩:=trk a ha;exact ⟨o,s1 _ _ e⟩),
          l1:=(by show (h.book++[(w,n)]).length≤N+1;rw [laf];show h.book.length+1≤N+1;omega),l2:=(by omega),l3:=fun n=>Nat.le_succ_of_le (l3 n),
          l4:=l4,l5:=(by show kvs.nr≤(h.book++[(w,n)]).length;rw [laf];omega),
          okb:=by
            intro l hl
            rcases lap.mp hl with z | z
            · exact okb l z
            · rw [lag.mp z];exact okw }
theorem di{H:Hp}{R:List Addr}{l:Addr}(t:∀ a∈R,∃ o,H a=some o)(hl:H l=none):¬ l∈R:=fun m=>by obtain ⟨o,e⟩:=t l m;rw [hl] at e;cases e
theorem dA{H:Hp}{S T:List Addr}:∀ {b:List au} {xs:List V},Reps H S xs (b.map b9)→Reps H T xs (b.map b9)
 | [],xs,r=>by rw [laG] at r ⊢;rw [r.nil_inv];exact .nil
 | l::b,xs,r=>by
  rw [lah] at r ⊢
  obtain ⟨x,ys,rfl,h,t⟩:=r.cons_inv
  obtain ⟨a,zs,rfl,rt,rs⟩:=h.tup_inv
  obtain ⟨y1,r1,rfl,h1,t1⟩:=rs.cons_inv
  obtain ⟨y2,r2,rfl,h2,t2⟩:=t1.cons_inv
  obtain ⟨y3,r3,rfl,h3,t3⟩:=t2.cons_inv
  obtain ⟨y4,r4,rfl,h4,t4⟩:=t3.cons_inv
  cases t4.nil_inv
  rw [h1.int_inv,h2.int_inv,h3.int_inv,h4.str_inv] at rt
  exact .cons (.tup rt (.cons (.int _) (.cons (.int _) (.cons (.int _) (.cons (.str _) .nil))))) (dA t)
theorem cT{H H':Hp}{S T:List Addr}{b:List au}{xs:List V}(r:Reps H S xs (b.map b9))(c:Chg T H H'):Reps H' S xs (b.map b9):=dA ((dA (T:=T) r).chg c)
theorem nA{H:Hp}{S:List Addr}{t:Addr}{a b c:Int}{w:Str}(g:Rd H t (.tup [.int a,.int b,.int c,.str w])):Rep H S (.ref t) (b9 (a,b,c,w)):=.tup g (.cons (.int _) (.cons (.int _) (.cons (.int _) (.cons (.str _) .nil))))
def fi(H:Hp)(v:V):Prop:=∀ l,v=.ref l→H l=none
theorem Move.free{C p:Addr}{H H':Hp}{R R':List Addr}{h':HS}{N':Nat}(m:Move C p H R H' h' R' N'){b:Addr}(hb:H' b=none):H b=none:=by
 cases e:H b with
 | none=>rfl
 | some o=>
  by_cases y:b∈R
  ·obtain ⟨dx,po,pa,pk,pc,xs,kvs,I⟩:=m.at_
   obtain ⟨o',e'⟩:=I.trk b (m.sb b y)
   rw [hb] at e';cases e'
  ·rw [m.chg.keep b o e y] at hb;cases hb
def LL(H:Hp)(R:List Addr)(v:V)(ls:List au):Prop:=∃ l ys,v=.ref l∧H l=some (.lst ys)∧¬ l∈R∧Reps H R ys (ls.map b9)
def ci(C:Addr):Sp:=fun vs H Q _=>∃ p o n w h R N,vs=[.ref p,.int o,.int n,.str w]∧HouseAt C H p h R N∧∀ v H',Same H H'→LL H' R v [(h.num,o,n,w)]→fi H v→Q v H'
theorem Fe{K:PySem.W.Frag}{C:Addr}{vs:List V}{H:Hp}{Q:VK}{E:XK}(T:bt K C)(h:ci C vs H Q E):wa K { nx:=fun _ H'=>Q .non H',rt:=Q } (aT ["self","other","bargain","word"] vs) H:=by
 obtain ⟨p,o,n,w,h,R,N,rfl,⟨dx,po,pa,pk,pc,xs,kvs,I⟩,k⟩:=h
 obtain ⟨cl,f1,f2,f3,f4,f5,f6,f7,f8⟩:=T
 have ob:=I.ob
 unfold wa
 walk_at "A"
 rename_i t ht H1 s1 g1 l hl H2 s2 g2
 refine k _ _ (s1.trans s2) ⟨_,_,rfl,g2,di (fun a ha=>?_) hl,.cons (nA (.inl (s2 _ _ g1))) .nil⟩ (by rintro _ ⟨⟩;exact s1.free hl)
 obtain ⟨o,e⟩:=I.trk a ha
 exact ⟨o,s1 _ _ e⟩
def cu(C:Addr):Sp:=fun vs H Q _=>∃ p n w h R N,vs=[.ref p,.int n,.str w]∧HouseAt C H p h R N∧h.oth.length≤900000∧∀ v H',Same H H'→LL H' R v (h.toOthers n w)→fi H v→Q v H'
theorem EQ{K:PySem.W.Frag}{C:Addr}{vs:List V}{H:Hp}{Q:VK}{E:XK}(T:bt K C)(h:cu C vs H Q E):vP K { nx:=fun _ H'=>Q .non H',rt:=Q } (aT ["self","bargain","word"] vs) H:=by
 obtain ⟨p,n,w,h,R,N,rfl,⟨dx,po,pa,pk,pc,xs,kvs,I⟩,hol,k⟩:=h
 obtain ⟨cl,f1,f2,f3,f4,f5,f6,f7,f8⟩:=T
 have ob:=I.ob
 have ot:=I.ot
 unfold vP
 walk_at "g"
 intro q hq
 refine d9 (K:=K) (a:=po) (xs:=h.oth.map .int) (fun i ys σ H'=>∃ v,σ=[v,some (.int n),some (.str w),some (.ref p)]∧Same H H'∧Reps H' [] ys ((((h.oth.take i).map fun k=>(h.num,k,n,w)):List au).map b9)) ⟨none,rfl,Same.new hq,.nil⟩ ?_ ?_ ?_
 ·rintro i ys σ H' hi hq' ⟨v,rfl,s,rs⟩
  exact ca (s _ _ ot)
 ·rintro i x ys σ H1 hx hq' ⟨v,rfl,s,rs⟩
  rw [lae] at hx
  cases hk:h.oth[i]? with
  | none=>rw [hk] at hx;cases hx
  | some z=>
   rw [hk] at hx
   have e:V.int z=x:=lan hx
   subst e
   have hi:i<h.oth.length:=(lab.mp hk).1
   have ob1:=s _ _ ob
   walk_at "g"
   rw [if_pos rfl]
   walk_at "A"
   rename_i t ht H2 s2 g2
   have hyl:ys.length=i:=by rw [rs.length,laa,laa,lax];omega
   refine ⟨ys,s2 _ _ hq',bb (by omega),ys++[.ref t],av,_,rfl,(s.trans s2).put hq,?_⟩
   rw [bC hk,lai,lai]
   have c:Chg [q] H2 (upd H2 q (.lst (ys++[.ref t]))):=.set (by rw [s2 _ _ hq'];exact True.intro) (by simp)
   have ntq:t≠q:=cr g2 (s2 _ _ hq') (by intro z;cases z)
   exact (cT (rs.same s2) c).snoc (nA (.inl (bo ntq g2)))
 ·rintro ys σ H1 hq' ⟨v,rfl,s,rs⟩
  refine k _ _ s ⟨_,_,rfl,hq',di I.trk hq,?_⟩ (by rintro _ ⟨⟩;exact hq)
  rw [laa,laE] at rs
  exact dA rs
def Ret(C p:Addr)(H:Hp)(R:List Addr)(N:Nat)(r:HS×List au)(Q:VK):Prop:=∀ v H' R',Move C p H R H' r.1 R' N→LL H' R' v r.2→fi H v→Q v H'
theorem Ret.after{C p:Addr}{H H1:Hp}{R R1:List Addr}{N N1:Nat}{h1:HS}{r:HS×List au}{Q:VK}(k:Ret C p H R N r Q)(m:Move C p H R H1 h1 R1 N1):Ret C p H1 R1 N r Q:=fun v H' R' m' l f=>k v H' R' (m.trans m') l fun a e=>m.free (f a e)
theorem Ret.same{C p:Addr}{H H1:Hp}{R:List Addr}{N:Nat}{r:HS×List au}{Q:VK}{h:HS}{M:Nat}(k:Ret C p H R N r Q)(I:HouseAt C H p h R M)(s:Same H H1):Ret C p H1 R N r Q:=k.after (I.move s)
theorem Ret.done{C p:Addr}{H H':Hp}{R:List Addr}{N M:Nat}{h:HS}{ls:List au}{Q:VK}{v:V}(k:Ret C p H R N (h,ls) Q)(I:HouseAt C H p h R M)(hM:M≤N)(s:Same H H')(r:LL H' R v ls)(f:fi H v):Q v H':=k v H' R ((I.move s).more hM) r f
theorem Ret.nil{C p:Addr}{H H':Hp}{R:List Addr}{N M:Nat}{h:HS}{Q:VK}{l:Addr}(k:Ret C p H R N (h,[]) Q)(I:HouseAt C H p h R M)(hM:M≤N)(s:Same H H')(hl:H l=none)(g:H' l=some (.lst [])):Q (.ref l) H':=
 k.done I hM s ⟨_,_,rfl,g,di (by obtain ⟨dx,po,pa,pk,pc,xs,kvs,I⟩:=I;exact I.trk) hl,.nil⟩ (by rintro _ ⟨⟩;exact hl)
def cf(C:Addr):Sp:=fun vs H Q _=>∃ p n w h R N,vs=[.ref p,.int n,.str w]∧HouseAt C H p h R N∧N≤800000∧h.oth.length≤900000∧PyData.strOk w=true∧Ret C p H R (N+1) (h.decide n w) Q
theorem Ea{K:PySem.W.Frag}{C:Addr}{vs:List V}{H:Hp}{Q:VK}{E:XK}(T:bt K C)(h:cf C vs H Q E):vT K (bz C) (cu C) C { nx:=fun _ H'=>Q .non H',rt:=Q } (aT ["self","bargain","word"] vs) H:=by
 obtain ⟨p,n,w,h,R,N,rfl,I,hN,hol,okw,k⟩:=h
 obtain ⟨dx,po,pa,pk,pc,xs,kvs,I0⟩:=id I
 have ob:=I0.ob
 unfold vT
 walk_at "g"
 refine ⟨p,w,n,h,R,N,rfl,I,by omega,okw,fun H1 m=>?_⟩
 obtain ⟨dx1,po1,pa1,pk1,pc1,xs1,kvs1,I1⟩:=id m.at_
 have ob1:=I1.ob
 walk_at "g"
 refine ⟨p,n,w,h.wr w n,R,N+1,rfl,m.at_,hol,fun v H2 s2 r f=>?_⟩
 exact (k.after m).done m.at_ (lat _) s2 r f
theorem ix{w:Str}(h:w∈([("ask":Str),"yes","no","bound","off","query","open"]:List Str)):PyData.strOk w=true:=by
 simp only [List.mem_cons,List.not_mem_nil,or_false] at h
 rcases h with rfl | rfl | rfl | rfl | rfl | rfl | rfl <;> decide +kernel
theorem tX(x:Int)(ws:List Int):dQ (.int x) (ws.map .int)=decide (x∈ws):=by
 unfold dQ
 rw [List.any_map]
 induction ws with
 | nil=>rfl
 | cons w r ih=>
  rw [List.any_cons,ih]
  show ((w==x)||decide (x∈r))=decide (x∈w::r)
  by_cases e:x=w
  ·subst e;simp
  ·have e':¬ w=x:=fun z=>e z.symm
   simp [e,e']
def gR(C:Addr):Sp:=fun vs H Q _=>∃ p n h R N,vs=[.ref p,.int n]∧HouseAt C H p h R N∧N≤800000∧h.oth.length≤900000∧Ret C p H R (N+1) (h.begin n) Q
theorem FE{K:PySem.W.Frag}{C:Addr}{vs:List V}{H:Hp}{Q:VK}{E:XK}(T:bt K C)(h:gR C vs H Q E):uQ K (bz C) (cu C) C { nx:=fun _ H'=>Q .non H',rt:=Q } (aT ["self","bargain"] vs) H:=by
 obtain ⟨p,n,h,R,N,rfl,I,hN,hol,k⟩:=h
 obtain ⟨cl,f1,f2,f3,f4,f5,f6,f7,f8⟩:=T
 obtain ⟨dx,po,pa,pk,pc,xs,kvs,I0⟩:=id I
 have ob:=I0.ob
 have ag:=I0.ag
 unfold uQ
 walk_at "g"
 show if (if false=true then _ else dQ (.int n) _)=true then _ else _
 rw [if_neg (by decide:¬ (false=true)),tX]
 unfold HS.begin at k
 by_cases e:n∈h.agn
 ·rw [if_pos (decide_eq_true e)]
  rw [if_pos e] at k
  walk_at "g"
  refine ⟨p,"no",n,h,R,N,rfl,I,by omega,ix (by simp),fun H1 m=>?_⟩
  walk_at "A"
  rename_i l hl H2 s2 g2
  exact (k.after m).nil m.at_ (lat _) s2 hl g2
 ·rw [if_neg (by simpa using e)]
  rw [if_neg e] at k
  walk_at "g"
  refine ⟨p,"open",n,h,R,N,rfl,I,by omega,ix (by simp),fun H1 m=>?_⟩
  obtain ⟨dx1,po1,pa1,pk1,pc1,xs1,kvs1,I1⟩:=id m.at_
  have ob1:=I1.ob
  walk_at "g"
  refine ⟨p,n,"ask",h.wr "open" n,R,N+1,rfl,m.at_,hol,fun v H2 s2 r f=>?_⟩
  exact (k.after m).done m.at_ (lat _) s2 r f
theorem HouseIn.rep{C:Addr}{H:Hp}{p:Addr}{h:HS}{R:List Addr}{N:Nat}{dx po pa pk pc:Addr}{xs:List V}{kvs:Pg}(I:HouseIn C H p h R N dx po pa pk pc xs kvs):Rep H [] (.ref pk) (cU h.book):=.lst (.inl I.bk) (by simp) I.bs
theorem xX(num:Int)(po pa pk:Addr)(u:Bool)(pc pp:Addr)(nr m:Nat):bX "lines_read" (.int m) (e_ num po pa pk u pc pp nr)=e_ num po pa pk u pc pp m:=by with_unfolding_all rfl
def bV(C:Addr):Sp:=fun vs H Q _=>∃ p n h R N,vs=[.ref p,.int n]∧HouseAt C H p h R N∧N≤900000∧∀ q H' R',Move C p H R H' h R' N→Rep H' [] (.ref q) (cU (cV h.book n))→Q (.ref q) H'
theorem Fv{K:PySem.W.Frag}{C:Addr}{vs:List V}{H:Hp}{Q:VK}{E:XK}(T:bt K C)(h:bV C vs H Q E):wC K { nx:=fun _ H'=>Q .non H',rt:=Q } (aT ["self","bargain","line"] vs) H:=by
  obtain ⟨p,n,h,R,N,rfl,⟨dx,po,pa,pk,pc,xs,z,I⟩,hN,k⟩:=h
  obtain ⟨cl,f1,f2,f3,f4,f5,f6,f7,f8⟩:=T
  unfold wC
  refine nN ?_
  refine ⟨fun m σ H'=>∃ v R' z',σ=[some (.ref p),some (.int n),v]∧m=h.book.length - z'.nr∧HouseIn C H' p h R' N dx po pa pk pc xs z'∧Chg R H H'∧Grow R H R'∧∀ a∈R,a∈R',
    ⟨_,none,R,z,rfl,rfl,I,.refl _ _,.refl _ _,fun _ h=>h⟩,?_⟩
  rintro m σ H1 ⟨v,R1,z1,rfl,rfl,I1,c1,g1,sb1⟩
  have ob1:=I1.ob
  have bk1:=I1.bk
  have hxl:xs.length=h.book.length:=by rw [I1.bs.length,laa]
  have hbl:=I1.l1
  have hnr:=I1.l5
  walk_at "g"
  by_cases lt:z1.nr<h.book.length
  · rw [if_pos (by simp only [decide_eq_true_eq];show (z1.nr:Int)<(xs.length:Int);omega)]
    refine ⟨fun σ' H'=>∃ m',m'<h.book.length - z1.nr∧∃ v R' z',σ'=[some (.ref p),some (.int n),v]∧m'=h.book.length - z'.nr∧HouseIn C H' p h R' N dx po pa pk pc xs z'∧Chg R H H'∧Grow R H R'∧∀ a∈R,a∈R',fun σ' H' q=>q,?_⟩
    have hget:∃ l,h.book[z1.nr]?=some l:=⟨_,lad lt⟩
    obtain ⟨l,hl⟩:=hget
    obtain ⟨x,hx,rx⟩:=I1.bs.getD (i:=z1.nr) (d:=c_ l) (by rw [lae,hl];rfl)
    obtain ⟨t,ys,rfl,rt,rs⟩:=rx.tup_inv
    obtain ⟨y1,r1,rfl,h1,t1⟩:=rs.cons_inv
    obtain ⟨y2,r2,rfl,h2,t2⟩:=t1.cons_inv
    cases t2.nil_inv
    rw [h1.str_inv,h2.int_inv] at rt
    have htk:h.book.take (z1.nr+1)=h.book.take z1.nr++[l]:=bC hl
    walk_at "g"
    refine b2 (ca bk1) (ce hx) ?_
    have after:∀ (q:Addr) (H5:Hp) (R5:List Addr) (z5:Pg) (D:iu),z5.nr=z1.nr→D.nx=(fun σ' H'=>∃ m',m'<h.book.length - z1.nr∧∃ v R' z',σ'=[some (.ref p),some (.int n),v]∧m'=h.book.length - z'.nr∧HouseIn C H' p h R' N dx po pa pk pc xs z'∧Chg R H H'∧Grow R H R'∧∀ a∈R,a∈R')→
        HouseI0 C H5 p h R5 N dx po pa pk pc xs z5→z5.pvs.length≤z1.nr+1→Chg R H H5→Grow R H R5→(∀ a∈R,a∈R5)→bW z5.pvs (Sum.inl l.2:bn)=some (.ref q)→Rd H5 t (.tup [.str l.1,.int l.2])→
        y8 K "list" (.ref q) H5∧(ae (ad 2) ak) [some (.ref p),some (.int n),some (.ref t)] H5 (fun ys H6=>dc (.ref q) ys H6 fun _ H7=>oQ K (ad 0) (tC (.int 1)) yP "lines_read" D [some (.ref p),some (.int n),some (.ref t)] H7):=by
      intro q H5 R5 z5 D hnr5 hD I5 hl5 c5 g5 sb5 hv rt5
      have P5:=I5.pt
      rw [hnr5] at P5
      obtain ⟨q',ws,eq,gq,rq,mq,no,na,nk⟩:=P5.yes _ _ hv
      cases eq
      refine ⟨.inl ⟨rfl,_,ca gq⟩,?_⟩
      have hwl:ws.length≤h.book.length:=by
        rw [rq.length,laa]
        exact las (fR _ _) (by rw [lax];omega)
      walk_at "g"
      refine cL gq (bb (by omega)) ?_
      have c6:Chg R5 H5 (upd H5 q (.lst (ws++[.ref t]))):=.set (by rw [gq];exact True.intro) mq
      have kp:∀ a o,a≠q→H5 a=some o→upd H5 q (.lst (ws++[.ref t])) a=some o:=fun a o e z=>bo e z
      have nq:∀ {a:Addr} {o:HO},H5 a=some o→o≠.lst ws→a≠q:=fun z1 z2=>cr z1 gq z2
      have npq:p≠q:=nq I5.ob (by intro z;cases z)
      have ob6:=kp _ _ npq I5.ob
      have gq6:upd H5 q (.lst (ws++[.ref t])) q=some (.lst (ws++[.ref t])):=av
      generalize upd H5 q (.lst (ws++[.ref t]))=H6 at *
      refine ⟨_,rfl,p,C,dx,_,_,rfl,ob6,cl,f8,by with_unfolding_all rfl,_,_,rfl,rfl,dx,_,ob6,(by show 8<1000;decide),?_⟩
      rw [hnr5,(by omega:((z1.nr:Int)+1)=((z1.nr+1:Nat):Int)),xX,hD]
      have c7:Chg R5 H6 (upd H6 p (.ins C dx (e_ h.num po pa pk h.up pc z5.pp (z1.nr+1)))):=.set (by rw [ob6];exact True.intro) I5.m1
      have c57:=c6.trans c7
      have kq:∀ a o,a≠q→a≠p→H5 a=some o→upd H6 p (.ins C dx (e_ h.num po pa pk h.up pc z5.pp (z1.nr+1))) a=some o:=fun a o e e' z=>bo e' (kp _ _ e z)
      have np:∀ {a:Addr} {o:HO},H5 a=some o→o≠.ins C dx (e_ h.num po pa pk h.up pc z5.pp z5.nr)→a≠p:=fun z1 z2=>cr z1 I5.ob z2
      have gq7:upd H6 p (.ins C dx (e_ h.num po pa pk h.up pc z5.pp (z1.nr+1))) q=some (.lst (ws++[.ref t])):=bo npq.symm gq6
      have tr7:∀ a∈R5,∃ o,upd H6 p (.ins C dx (e_ h.num po pa pk h.up pc z5.pp (z1.nr+1))) a=some o:=eY fun a ha=>by
        by_cases e:a=q
        · subst e;exact ⟨_,gq6⟩
        · obtain ⟨o,eo⟩:=I5.trk a ha;exact ⟨o,kp _ _ e eo⟩
      have rt7:Rd (upd H6 p (.ins C dx (e_ h.num po pa pk h.up pc z5.pp (z1.nr+1)))) t (.tup [.str l.1,.int l.2]):=by
        rcases rt5 with e | ⟨o,e⟩
        · exact .inl (c57.tups _ _ e)
        · exact .inr ⟨o,c57.frzs _ _ _ e⟩
      refine ⟨h.book.length - (z1.nr+1),by omega,_,R5,{ z5 with nr:=z1.nr+1 },rfl,rfl,?_,c5.grow g5 c57,g5,sb5⟩
      exact { ob:=av,ot:=kq _ _ no.symm (np I5.ot (by intro z;cases z)) I5.ot,ag:=kq _ _ na.symm (np I5.ag (by intro z;cases z)) I5.ag,bk:=kq _ _ nk.symm (np I5.bk (by intro z;cases z)) I5.bk,
              bs:=b_ I5.bs c57,cn:=kq _ _ (nq I5.cn (by intro z;cases z)) (np I5.cn (by intro z;cases z)) I5.cn,pg:=kq _ _ (nq I5.pg (by intro z;cases z)) (np I5.pg (by intro z;cases z)) I5.pg,
              ct:=⟨I5.ct.no,fun m v hm=>(by obtain ⟨q2,e2,h2,h3⟩:=I5.ct.yes m v hm;exact ⟨q2,e2,kq _ _ (nq h2 (by intro z;cases z)) (np h2 (by intro z;cases z)) h2,h3⟩),I5.ct.inj⟩,
              pt:=(by
                show PagAt _ z5.pvs (h.book.take (z1.nr+1)) _ _ _ _
                rw [htk]
                refine ⟨fun m hm=>?_,fun m v hm=>?_,P5.inj⟩
                · rw [mD,if_neg (by rintro rfl;rw [hv] at hm;cases hm)]
                  exact P5.no m hm
                · rw [mD]
                  by_cases e:l.2=m
                  · subst e
                    rw [hv] at hm
                    cases hm
                    rw [if_pos rfl,lai]
                    exact ⟨q,_,rfl,gq7,(b_ rq c57).snoc (.tup rt7 (.cons (.str _) (.cons (.int _) .nil))),mq,no,na,nk⟩
                  · rw [if_neg e]
                    obtain ⟨q2,w2,e2,h2,h3,h4,h5⟩:=P5.yes m v hm
                    subst e2
                    exact ⟨q2,w2,rfl,kq _ _ (by rintro rfl;exact e (P5.inj _ _ _ hv hm)) (np h2 (by intro z;cases z)) h2,b_ h3 c57,h4,h5⟩),
              n1:=I5.n1,n2:=I5.n2,n3:=I5.n3,m1:=I5.m1,m2:=I5.m2,m3:=I5.m3,m4:=I5.m4,m5:=I5.m5,m6:=I5.m6,trk:=tr7,l1:=I5.l1,l2:=I5.l2,l3:=I5.l3,l5:=lt,okb:=I5.okb,l4:=hl5 }
    have pg1:=I1.pg
    have n1l:H1=H1:=rfl
    walk_at "g"
    walk_at "w"
    rename_i p1 hp1 H2 s2 g2
    have I2:=I1.same s2
    refine ⟨z1.pvs,Sum.inl l.2,I2.pg,rfl,bb (by have:=I2.l4;omega),fun v hv=>?_,fun hn=>?_⟩
    · obtain ⟨q,ws,rfl,_⟩:=I2.pt.yes _ _ hv
      exact after q H2 R1 z1 _ rfl rfl I2.toHouseI0 (Nat.le_succ_of_le I2.l4) (c1.trans (.of_same s2)) g1 sb1 hv (rt.same s2)
    · have hval:∀ m:Int,bW (db z1.pvs (Sum.inl l.2:bn) (V.ref p1)) (Sum.inl m:bn)=if m=l.2 then some (.ref p1) else bW z1.pvs (Sum.inl m:bn):=fun m=>by
        rw [qi]
        by_cases e:m=l.2
        · subst e;simp
        · rw [if_neg e,if_neg (by intro y;exact e (Sum.inl.inj y))]
      have c3:Chg R1 H2 (upd H2 z1.pp (.dK (db z1.pvs (Sum.inl l.2:bn) (V.ref p1)))):=.set (by rw [I2.pg];exact True.intro) I2.m6
      have kp:∀ a o,a≠z1.pp→H2 a=some o→upd H2 z1.pp (.dK (db z1.pvs (Sum.inl l.2:bn) (V.ref p1))) a=some o:=fun a o e z=>bo e z
      have nq:∀ {a:Addr} {o:HO},H2 a=some o→o≠.dK z1.pvs→a≠z1.pp:=fun z1 z2=>cr z1 I2.pg z2
      have gr:Grow R H (p1::R1):=fun a ha=>by
        rcases List.mem_cons.mp ha with rfl | y
        · refine .inr ?_
          cases e:H a with
          | none=>rfl
          | some o=>
            by_cases m:a∈R
            · obtain ⟨o',e'⟩:=I1.trk a (sb1 a m)
              rw [hp1] at e';cases e'
            · rw [c1.keep a o e m] at hp1;cases hp1
        · exact g1 a y
      refine after p1 _ (p1::R1) { z1 with pvs:=db z1.pvs (Sum.inl l.2:bn) (V.ref p1) } _ rfl rfl ?_ (las (fg _ _ _) (Nat.succ_le_succ I2.l4)) ((c1.trans (.of_same s2)).grow g1 c3) gr (fun a ha=>lac _ (sb1 a ha)) (by rw [hval,if_pos rfl]) ?_
      · exact { ob:=kp _ _ (nq I2.ob (by intro z;cases z)) I2.ob,ot:=kp _ _ (nq I2.ot (by intro z;cases z)) I2.ot,ag:=kp _ _ (nq I2.ag (by intro z;cases z)) I2.ag,bk:=kp _ _ (nq I2.bk (by intro z;cases z)) I2.bk,
                bs:=b_ I2.bs c3,cn:=kp _ _ I2.n3 I2.cn,pg:=av,
                ct:=⟨I2.ct.no,fun m v hm=>(by obtain ⟨q2,e2,h2,h3,h4,h5⟩:=I2.ct.yes m v hm;exact ⟨q2,e2,kp _ _ h5 h2,lac _ h3,h4,h5⟩),I2.ct.inj⟩,
                pt:=⟨fun m hm=>(by
                        rw [hval] at hm
                        by_cases e:m=l.2
                        · rw [if_pos e] at hm;cases hm
                        · rw [if_neg e] at hm;exact I2.pt.no m hm),
                      fun m v hm=>(by
                        rw [hval] at hm
                        by_cases e:m=l.2
                        · rw [if_pos e] at hm
                          cases hm
                          subst e
                          refine ⟨p1,[],rfl,kp _ _ (nq g2 (by intro z;cases z)) g2,?_,by simp,?_,?_,?_⟩
                          · show Reps _ _ _ ((cV (h.book.take z1.nr) l.2).map c_)
                            rw [I2.pt.no _ hn];exact .nil
                          · exact (b8 hp1 I1.ot).symm
                          · exact (b8 hp1 I1.ag).symm
                          · exact (b8 hp1 I1.bk).symm
                        · rw [if_neg e] at hm
                          obtain ⟨q2,w2,e2,h2,h3,h4,h5⟩:=I2.pt.yes m v hm
                          exact ⟨q2,w2,e2,kp _ _ (nq h2 (by intro z;cases z)) h2,b_ h3 c3,lac _ h4,h5⟩),
                      fun m m2 q h1 h2=>(by
                        rw [hval] at h1 h2
                        have fresh:∀ r,bW z1.pvs (Sum.inl r:bn)=some (.ref p1)→False:=fun r hr=>by
                          obtain ⟨q2,w2,e2,h3,_⟩:=I1.pt.yes r _ hr
                          cases e2
                          rw [hp1] at h3
                          cases h3
                        by_cases e1:m=l.2
                        · by_cases e2:m2=l.2
                          · rw [e1,e2]
                          · rw [if_pos e1] at h1;rw [if_neg e2] at h2
                            cases h1
                            exact (fresh _ h2).elim
                        · by_cases e2:m2=l.2
                          · rw [if_neg e1] at h1;rw [if_pos e2] at h2
                            cases h2
                            exact (fresh _ h1).elim
                          · rw [if_neg e1] at h1;rw [if_neg e2] at h2
                            exact I2.pt.inj m m2 q h1 h2)⟩,
                n1:=I2.n1,n2:=I2.n2,n3:=I2.n3,m1:=lac _ I2.m1,m2:=lac _ I2.m2,m3:=lac _ I2.m3,m4:=lac _ I2.m4,m5:=lac _ I2.m5,m6:=lac _ I2.m6,
                trk:=eY fun a ha=>(by
                  rcases List.mem_cons.mp ha with rfl | y
                  · exact ⟨_,g2⟩
                  · exact I2.trk a y),
                l1:=I2.l1,l2:=I2.l2,l3:=I2.l3,l5:=I2.l5,okb:=I2.okb }
      · rcases rt.same s2 with e | ⟨o,e⟩
        · exact .inl (c3.tups _ _ e)
        · exact .inr ⟨o,c3.frzs _ _ _ e⟩
  · rw [if_neg (by simp only [decide_eq_true_eq];show ¬ (z1.nr:Int)<(xs.length:Int);omega)]
    have pg1:=I1.pg
    walk_at "A"
    rename_i p1 hp1 H2 s2 g2
    have I2:=I1.same s2
    have m2:Move C p H R H2 h R1 N:=⟨⟨_,_,_,_,_,_,_,I2⟩,c1.trans (.of_same s2),g1,sb1⟩
    have hall:h.book.take z1.nr=h.book:=List.take_of_length_le (by omega)
    have P2:=I2.pt
    rw [hall] at P2
    cases hv:bW z1.pvs (Sum.inl n:bn) with
    | none=>exact k p1 _ _ m2 (by rw [P2.no _ hv];exact .lst (.inl g2) (by simp) .nil)
    | some v=>
      obtain ⟨q,ws,rfl,gq,rq,_⟩:=P2.yes _ _ hv
      exact k q _ _ m2 (.lst (.inl gq) (by simp) rq)
def bD(C:Addr):Sp:=fun vs H Q _=>∃ p n h R N,vs=[.ref p,.int n]∧HouseAt C H p h R N∧N≤900000∧∀ H' R',Move C p H R H' h R' N→Q (eR (ax h.book n)) H'
theorem DW{K:PySem.W.Frag}{C:Addr}{vs:List V}{H:Hp}{Q:VK}{E:XK}(T:bt K C)(h:bD C vs H Q E):wq K cy (bV C) C { nx:=fun _ H'=>Q .non H',rt:=Q } (aT ["self","bargain"] vs) H:=by
 obtain ⟨p,n,h,R,N,rfl,I,hN,k⟩:=h
 obtain ⟨dx,po,pa,pk,pc,xs,kvs,I0⟩:=id I
 have ob:=I0.ob
 have hl1:=I0.l1
 unfold wq
 walk_at "g"
 refine ⟨p,n,h,R,N,rfl,I,hN,fun q H1 R1 m1 r1=>?_⟩
 walk_at "g"
 refine ⟨q,cV h.book n,n,rfl,r1,las (fR _ _) (by omega),fun H2 s2=>?_⟩
 rw [oe]
 exact k _ _ (m1.trans (m1.at_.move s2))
def gM(C:Addr):Sp:=fun vs H Q _=>∃ p g n h R N,vs=[.ref p,.int g,.int n]∧HouseAt C H p h R N∧N≤800000∧Ret C p H R (N+1) (h.gotAsk g n) Q
theorem C4{K:PySem.W.Frag}{C:Addr}{vs:List V}{H:Hp}{Q:VK}{E:XK}(T:bt K C)(h:gM C vs H Q E):vg K cC (bV C) (bz C) (bD C) (ci C) C { nx:=fun _ H'=>Q .non H',rt:=Q } (aT ["self","giver","bargain"] vs) H:=by
 obtain ⟨p,g,n,h,R,N,rfl,I,hN,k⟩:=h
 obtain ⟨cl,f1,f2,f3,f4,f5,f6,f7,f8⟩:=T
 obtain ⟨dx,po,pa,pk,pc,xs,kvs,I0⟩:=id I
 have ob:=I0.ob
 have hl1:=I0.l1
 unfold vg
 refine ib (fun σ' H'=>σ'=[some (.ref p),some (.int g),some (.int n)]∧∃ R',Move C p H R H' (h.asked n) R' (N+1)) ?_ ?_
 ·walk_at "g"
  refine ⟨p,n,h,R,N,rfl,I,by omega,fun q H0 R0 m0 r0=>?_⟩
  walk_at "g"
  refine ⟨q,cV h.book n,n,rfl,r0,las (fR _ _) (by omega),fun H1 s1=>?_⟩
  rw [fS]
  have m1:=m0.trans (m0.at_.move s1)
  obtain ⟨dx1,po1,pa1,pk1,pc1,xs1,kvs1,I1⟩:=id m1.at_
  have ob1:=I1.ob
  have ag1:=I1.ag
  walk_at "g"
  unfold HS.asked
  by_cases e:ar h.book n=[]
  ·rw [if_pos (by simp [e]),if_pos e]
   walk_at "g"
   show if (if false=true then _ else dQ (.int n) _)=true then _ else _
   rw [if_neg (by decide:¬ (false=true)),tX]
   by_cases e2:n∈h.agn
   ·rw [if_pos (decide_eq_true e2),if_pos e2]
    walk_at "g"
    exact ⟨p,"no",n,h,R0,N,rfl,m1.at_,by omega,ix (by simp),fun H2 m=>⟨rfl,_,m1.trans m⟩⟩
   ·rw [if_neg (by simpa using e2),if_neg e2]
    walk_at "g"
    exact ⟨p,"yes",n,h,R0,N,rfl,m1.at_,by omega,ix (by simp),fun H2 m=>⟨rfl,_,m1.trans m⟩⟩
  ·rw [if_neg (by simp [e]),if_neg e]
   walk_at "g"
   exact ⟨rfl,_,m1.more (by omega)⟩
 rintro σ' H1 ⟨rfl,R1,m⟩
 obtain ⟨dx1,po1,pa1,pk1,pc1,xs1,kvs1,I1⟩:=id m.at_
 have ob1:=I1.ob
 walk_at "g"
 refine ⟨p,n,h.asked n,R1,N+1,rfl,m.at_,by omega,fun H2 R2 m2=>?_⟩
 obtain ⟨dx2,po2,pa2,pk2,pc2,xs2,kvs2,I2⟩:=id m2.at_
 have ob2:=I2.ob
 walk_at "g"
 refine lO (o5 _ _) ?_
 walk_at "g"
 rw [ud]
 have hnum:(h.asked n).num=h.num:=by unfold HS.asked HS.wr;split <;> rfl
 have kk:=(k.after m).after m2
 unfold HS.gotAsk at kk
 by_cases e:ax (h.asked n).book n=some ("off":Str)
 ·rw [if_pos (decide_eq_true e)]
  rw [if_pos e] at kk
  walk_at "g"
  refine ⟨p,g,n,"no",h.asked n,R2,N+1,rfl,m2.at_,fun v H3 s3 r f=>?_⟩
  rw [hnum] at r
  exact kk.done m2.at_ (lat _) s3 r f
 ·rw [if_neg (by simpa using e)]
  rw [if_neg e] at kk
  walk_at "g"
  refine ⟨p,g,n,"yes",h.asked n,R2,N+1,rfl,m2.at_,fun v H3 s3 r f=>?_⟩
  rw [hnum] at r
  exact kk.done m2.at_ (lat _) s3 r f
def gI(C:Addr):Sp:=fun vs H Q _=>∃ p n w h R N,vs=[.ref p,.int n,.str w]∧HouseAt C H p h R N∧N≤800000∧PyData.strOk w=true∧Ret C p H R (N+1) (h.gotDecision n w) Q
theorem DG{K:PySem.W.Frag}{C:Addr}{vs:List V}{H:Hp}{Q:VK}{E:XK}(T:bt K C)(h:gI C vs H Q E):u7 K (bD C) (bz C) C { nx:=fun _ H'=>Q .non H',rt:=Q } (aT ["self","bargain","word"] vs) H:=by
 obtain ⟨p,n,w,h,R,N,rfl,I,hN,okw,k⟩:=h
 obtain ⟨cl,f1,f2,f3,f4,f5,f6,f7,f8⟩:=T
 obtain ⟨dx,po,pa,pk,pc,xs,kvs,I0⟩:=id I
 have ob:=I0.ob
 unfold u7
 refine ib (fun σ' H'=>∃ R',Move C p H R H' (h.gotDecision n w).1 R' (N+1)) ?_ ?_
 ·walk_at "g"
  refine ⟨p,n,h,R,N,rfl,I,by omega,fun H1 R1 m1=>?_⟩
  obtain ⟨dx1,po1,pa1,pk1,pc1,xs1,kvs1,I1⟩:=id m1.at_
  have ob1:=I1.ob
  walk_at "g"
  rw [iO]
  unfold HS.gotDecision
  by_cases e:ax h.book n=none
  ·rw [if_pos (decide_eq_true e),if_pos e]
   walk_at "g"
   exact ⟨p,w,n,h,R1,N,rfl,m1.at_,by omega,okw,fun H2 m=>⟨_,m1.trans m⟩⟩
  ·rw [if_neg (by simpa using e),if_neg e]
   walk_at "g"
   exact ⟨_,m1.more (by omega)⟩
 rintro σ' H1 ⟨R1,m⟩
 walk_at "A"
 rename_i l hl H2 s2 g2
 exact (k.after m).nil m.at_ (lat _) s2 hl g2
def hR(C:Addr):Sp:=fun vs H Q _=>∃ p g n h R N,vs=[.ref p,.int g,.int n]∧HouseAt C H p h R N∧N≤800000∧h.oth.length≤900000∧Ret C p H R (N+1) (h.gotQuery g n) Q
theorem Fr{K:PySem.W.Frag}{C:Addr}{vs:List V}{H:Hp}{Q:VK}{E:XK}(T:bt K C)(h:hR C vs H Q E) :
  vr K b0 cC (bV C) (bD C) (ci C) (cf C) (bz C) C { nx:=fun _ H'=>Q .non H',rt:=Q } (aT ["self","giver","bargain","decided"] vs) H:=by
 obtain ⟨p,g,n,h,R,N,rfl,I,hN,hol,k⟩:=h
 obtain ⟨cl,f1,f2,f3,f4,f5,f6,f7,f8⟩:=T
 obtain ⟨dx,po,pa,pk,pc,xs,kvs,I0⟩:=id I
 have ob:=I0.ob
 have hl1:h.book.length≤1000000:=las I0.l1 (by omega)
 have hlp:(cV h.book n).length≤1000000:=las (fR _ _) hl1
 unfold vr
 unfold HS.gotQuery at k
 walk_at "g"
 refine ⟨p,n,h,R,N,rfl,I,by omega,fun q H0 R0 m0 r0=>?_⟩
 walk_at "g"
 refine ⟨q,cV h.book n,n,rfl,r0,hlp,fun H1 s1=>?_⟩
 rw [lx]
 have m1:=m0.trans (m0.at_.move s1)
 obtain ⟨dx1,po1,pa1,pk1,pc1,xs1,kvs1,I1⟩:=id m1.at_
 have ob1:=I1.ob
 have k1:=k.after m1
 walk_at "g"
 by_cases e:bI h.book n=true
 ·rw [if_pos e]
  rw [if_pos e] at k1
  walk_at "A"
  rename_i l hl H2 s2 g2
  exact k1.nil m1.at_ (by omega) s2 hl g2
 rw [if_neg e]
 rw [if_neg e] at k1
 walk_at "g"
 refine ⟨p,n,h,R0,N,rfl,m1.at_,by omega,fun H2 R2 m2=>?_⟩
 obtain ⟨dx2,po2,pa2,pk2,pc2,xs2,kvs2,I2⟩:=id m2.at_
 have ob2:=I2.ob
 have k2:=k1.after m2
 have J2:=m2.at_
 cases ed:ax h.book n with
 | some d=>
  rw [ed] at k2
  walk_at "g"
  rw [if_pos (by simp [eR])]
  walk_at "g"
  exact ⟨p,g,n,d,h,R2,N,rfl,J2,fun v H3 s3 r f=>k2.done J2 (by omega) s3 r f⟩
 | none=>
  rw [ed] at k2
  walk_at "g"
  rw [if_neg (by simp [eR])]
  walk_at "g"
  refine ⟨p,n,h,R2,N,rfl,J2,by omega,fun q3 H3 R3 m3 r3=>?_⟩
  walk_at "g"
  refine ⟨q3,cV h.book n,n,rfl,r3,hlp,fun H4 s4=>?_⟩
  rw [fS]
  have m4:=m3.trans (m3.at_.move s4)
  obtain ⟨dx4,po4,pa4,pk4,pc4,xs4,kvs4,I4⟩:=id m4.at_
  have ob4:=I4.ob
  have k4:=k2.after m4
  have J4:=m4.at_
  walk_at "g"
  by_cases e3:ar h.book n=[]
  ·rw [if_neg (by simp [e3])]
   simp only [if_pos e3] at k4
   walk_at "g"
   refine ⟨p,"no",n,h,R3,N,rfl,J4,by omega,ix (by simp),fun H5 m=>?_⟩
   obtain ⟨dx5,po5,pa5,pk5,pc5,xs5,kvs5,I5⟩:=id m.at_
   have ob5:=I5.ob
   walk_at "g"
   exact ⟨p,g,n,"off",h.wr "no" n,R3,N+1,rfl,m.at_,fun v H5 s5 r f=>(k4.after m).done m.at_ (lat _) s5 r f⟩
  ·rw [if_pos (by simp [e3])]
   simp only [if_neg e3] at k4
   walk_at "g"
   exact ⟨p,n,"off",h,R3,N,rfl,J4,hN,hol,ix (by simp),k4⟩
theorem Bf(g:Int)(gs:List Int):db (gs.map gv) (Sum.inl g:bn) (V.bl true)=(dt g gs).map gv:=by
 unfold db dt
 have e:((gs.map gv).any fun kv=>decide (kv.1=(Sum.inl g:bn)))=decide (g∈gs):=by
  rw [List.any_map]
  induction gs with
  | nil=>rfl
  | cons x r ih=>
   rw [List.any_cons,ih]
   show (decide ((Sum.inl x:bn)=Sum.inl g)||decide (g∈r))=decide (g∈x::r)
   by_cases z:g=x
   ·subst z;simp
   ·have z':¬ x=g:=fun y=>z y.symm
    simp [z,z']
 rw [e]
 by_cases m:g∈gs
 ·rw [if_pos (decide_eq_true m),if_pos m,List.map_map]
  refine List.map_congr_left fun x _=>?_
  show (if (Sum.inl x:bn)=Sum.inl g then ((Sum.inl x:bn),V.bl true) else (Sum.inl x,V.bl true))=_
  split <;> rfl
 ·rw [if_neg (by simpa using m),if_neg m,lai];rfl
theorem xR(g:Int)(gs:List Int):(dt g gs).length≤gs.length+1:=by unfold dt;split <;> simp
def hV(C:Addr):Sp:=fun vs H Q _=>∃ p g n w h R N,vs=[.ref p,.int g,.int n,.str w]∧HouseAt C H p h R N∧N≤790000∧h.oth.length≤900000∧Ret C p H R (N+3) (h.gotVote g n w) Q
theorem CA{K:PySem.W.Frag}{C:Addr}{vs:List V}{H:Hp}{Q:VK}{E:XK}(T:bt K C)(h:hV C vs H Q E) :
    vm K (bD C) (ci C) (cf C) C { nx:=fun _ H'=>Q .non H',rt:=Q } (aT ["self","giver","bargain","word","decided","givers"] vs) H:=by
  obtain ⟨p,g,n,w,h,R,N,rfl,I,hN,hol,k⟩:=h
  obtain ⟨cl,f1,f2,f3,f4,f5,f6,f7,f8⟩:=T
  obtain ⟨dx0,po0,pa0,pk0,pc0,xs0,kvs0,I0⟩:=id I
  have ob:=I0.ob
  have hl1:h.book.length≤1000000:=las I0.l1 (by omega)
  unfold vm
  unfold HS.gotVote at k
  walk_at "g"
  refine ⟨p,n,h,R,N,rfl,I,by omega,fun H1 R1 m1=>?_⟩
  obtain ⟨dx,po,pa,pk,pc,xs,kvs,I1⟩:=id m1.at_
  have J1:=m1.at_
  have ob1:=I1.ob
  have k1:=k.after m1
  cases ed:ax h.book n with
  | some d=>
    rw [ed] at k1
    walk_at "g"
    rw [if_pos (by simp [eR])]
    walk_at "g"
    by_cases e:w="yes"
    · rw [if_pos (by simp [e])]
      simp only [if_pos e] at k1
      walk_at "g"
      exact ⟨p,g,n,d,h,R1,N,rfl,J1,fun v H3 s3 r f=>k1.done J1 (by omega) s3 r f⟩
    · rw [if_neg (by simp [e])]
      simp only [if_neg e] at k1
      walk_at "A"
      rename_i l hl H2 s2 g2
      exact k1.nil J1 (by omega) s2 hl g2
  | none=>
    rw [ed] at k1
    walk_at "g"
    rw [if_neg (by simp [eR])]
    walk_at "g"
    by_cases e:w="no"
    · rw [if_pos (by simp [e])]
      simp only [if_pos e] at k1
      walk_at "g"
      exact ⟨p,n,"off",h,R1,N,rfl,J1,by omega,hol,ix (by simp),fun v H' R' m=>k1 v H' R' (m.more (by omega))⟩
    rw [if_neg (by simp [e])]
    simp only [if_neg e] at k1
    have after:∀ (q:Addr) (H5:Hp) (R5:List Addr) (kvs5:Pg) (D:iu),D.rt=Q→HouseIn C H5 p h R5 (N+1) dx po pa pk pc xs kvs5→Chg R1 H1 H5→Grow R1 H1 R5→(∀ a∈R1,a∈R5)→bW kvs5.kvs (Sum.inl n:bn)=some (.ref q)→
        aq (p7 (ad 5) (ad 1) (tC (.bl true)))
          (aq (aX (aZ (ap lU (bv uN (ae (ad 5) ak)) (bv (b5 K) (ae (br K (ad 0) "others") ak)))) (aC (cG ak)) aM)
            (aC (bc C "decide" (cf C) [] E0 (ad 0) (ae (ad 2) (ae (tC (.str "bound")) ak))))) D
          [some (.ref p),some (.int g),some (.int n),some (.str w),some (eR none),some (.ref q)] H5:=by
      intro q H5 R5 kvs5 D hrt I5 c5 g5 sb5 hv5
      obtain ⟨q',eq,gq,hqR,hqc,hqp⟩:=I5.ct.yes _ _ hv5
      cases eq
      walk_at "g"
      refine yr gq (bb (by rw [laa];have:=I5.l3 n;omega)) ?_
      rw [Bf]
      have nq:∀ {a:Addr} {o:HO},H5 a=some o→o≠.dK ((h.cnt n).map gv)→a≠q:=fun z1 z2=>cr z1 gq z2
      have kp:∀ a o,a≠q→H5 a=some o→upd H5 q (.dK ((dt g (h.cnt n)).map gv)) a=some o:=fun a o e z=>bo e z
      have c6:Chg R5 H5 (upd H5 q (.dK ((dt g (h.cnt n)).map gv))):=.set (by rw [gq];exact True.intro) hqR
      have I6:HouseIn C (upd H5 q (.dK ((dt g (h.cnt n)).map gv))) p (h.count g n) R5 (N+2) dx po pa pk pc xs kvs5:=
        { ob:=kp _ _ (nq I5.ob (by intro z;cases z)) I5.ob,ot:=kp _ _ (nq I5.ot (by intro z;cases z)) I5.ot,ag:=kp _ _ (nq I5.ag (by intro z;cases z)) I5.ag,bk:=kp _ _ (nq I5.bk (by intro z;cases z)) I5.bk,
          bs:=b_ I5.bs c6,cn:=kp _ _ hqc.symm I5.cn,pg:=kp _ _ hqp.symm I5.pg,
          pt:=I5.pt.keep (fun _ h=>h) (fun q2 w2 h2 _ _ _ _=>kp _ _ (nq h2 (by intro z;cases z)) h2) (fun b w2 r=>b_ r c6),n3:=I5.n3,m6:=I5.m6,l4:=I5.l4,l5:=I5.l5,
          ct:=⟨fun m hm=>(by
                  have hne:¬ m=n:=by rintro rfl;rw [hv5] at hm;cases hm
                  show (if m=n then _ else h.cnt m)=[]
                  rw [if_neg hne];exact I5.ct.no m hm),
                fun m v hm=>(by
                  obtain ⟨q2,e2,h2,h3,h4⟩:=I5.ct.yes m v hm
                  refine ⟨q2,e2,?_,h3,h4⟩
                  show _=some (HO.dK ((if m=n then dt g (h.cnt n) else h.cnt m).map gv))
                  by_cases z:m=n
                  · subst z
                    rw [hv5] at hm
                    cases hm
                    cases e2
                    rw [if_pos rfl,av]
                  · rw [if_neg z]
                    exact kp _ _ (by rintro rfl;rw [e2] at hm;exact z (I5.ct.inj _ _ _ hm hv5)) h2),I5.ct.inj⟩,
          n1:=I5.n1,n2:=I5.n2,m1:=I5.m1,m2:=I5.m2,m3:=I5.m3,m4:=I5.m4,m5:=I5.m5,trk:=eY I5.trk,l1:=Nat.le_succ_of_le I5.l1,l2:=Nat.le_succ_of_le I5.l2,
          l3:=fun m=>(by
            show (if m=n then dt g (h.cnt n) else h.cnt m).length≤N+2
            have h1:=I5.l3 m
            have h2:=I5.l3 n
            have h3:=xR g (h.cnt n)
            split <;> omega),
          okb:=I5.okb }
      have m6:Move C p H1 R1 (upd H5 q (.dK ((dt g (h.cnt n)).map gv))) (h.count g n) R5 (N+2):=⟨⟨_,_,_,_,_,_,_,I6⟩,c5.grow g5 c6,g5,sb5⟩
      have gq6:upd H5 q (.dK ((dt g (h.cnt n)).map gv)) q=some (.dK ((dt g (h.cnt n)).map gv)):=av
      have ob6:=I6.ob
      have ot6:=I6.ot
      have k6:=k1.after m6
      generalize upd H5 q (.dK ((dt g (h.cnt n)).map gv))=H6 at *
      walk_at "g"
      by_cases e2:(dt g (h.cnt n)).length<h.oth.length
      · rw [if_pos (by simp only [List.length_map,decide_eq_true_eq];show ((dt g (h.cnt n)).length:Int)<(h.oth.length:Int);omega)]
        simp only [if_pos e2] at k6
        walk_at "A"
        rename_i l hl H7 s7 g7
        rw [hrt]
        exact k6.nil m6.at_ (by omega) s7 hl g7
      · rw [if_neg (by simp only [List.length_map,decide_eq_true_eq];show ¬ ((dt g (h.cnt n)).length:Int)<(h.oth.length:Int);omega)]
        simp only [if_neg e2] at k6
        walk_at "g"
        rw [hrt]
        exact ⟨p,n,"bound",h.count g n,R5,N+2,rfl,m6.at_,by omega,hol,ix (by simp),k6⟩
    have cn1:=I1.cn
    walk_at "g"
    walk_at "w"
    rename_i p1 hp1 H2 s2 g2
    have I2:=I1.same s2
    refine ⟨kvs.kvs,Sum.inl n,I2.cn,rfl,bb (by have:=I2.l2;omega),fun v hv=>?_,fun hn=>?_⟩
    · obtain ⟨q,rfl,_⟩:=I2.ct.yes _ _ hv
      walk_at "s"
      exact after q H2 R1 kvs _ rfl (I2.more (by omega)) (.of_same s2) (.refl _ _) (fun _ h=>h) hv
    · walk_at "s"
      have n1c:p1≠pc:=(b8 hp1 cn1).symm
      have hval:∀ m:Int,bW (db kvs.kvs (Sum.inl n:bn) (V.ref p1)) (Sum.inl m:bn)=if m=n then some (.ref p1) else bW kvs.kvs (Sum.inl m:bn):=fun m=>by
        rw [qi]
        by_cases z:m=n
        · subst z;simp
        · rw [if_neg z,if_neg (by intro y;exact z (Sum.inl.inj y))]
      have c3:Chg R1 H2 (upd H2 pc (.dK (db kvs.kvs (Sum.inl n:bn) (V.ref p1)))):=.set (by rw [I2.cn];exact True.intro) I2.m5
      have kp:∀ a o,a≠pc→H2 a=some o→upd H2 pc (.dK (db kvs.kvs (Sum.inl n:bn) (V.ref p1))) a=some o:=fun a o e z=>bo e z
      have nq:∀ {a:Addr} {o:HO},H2 a=some o→o≠.dK kvs.kvs→a≠pc:=fun z1 z2=>cr z1 I2.cn z2
      refine after p1 _ (p1::R1) { kvs with kvs:=db kvs.kvs (Sum.inl n:bn) (V.ref p1) } _ rfl ?_ ((Chg.of_same s2).trans c3) (fun a ha=>?_) (fun _ h=>lac _ h) (by rw [hval,if_pos rfl])
      · exact { ob:=kp _ _ (nq I2.ob (by intro z;cases z)) I2.ob,ot:=kp _ _ (nq I2.ot (by intro z;cases z)) I2.ot,ag:=kp _ _ (nq I2.ag (by intro z;cases z)) I2.ag,bk:=kp _ _ (nq I2.bk (by intro z;cases z)) I2.bk,
                bs:=b_ I2.bs c3,cn:=av,pg:=kp _ _ I2.n3.symm I2.pg,
                pt:=I2.pt.keep (fun _ h=>lac _ h) (fun q2 w2 h2 _ _ _ _=>kp _ _ (nq h2 (by intro z;cases z)) h2) (fun b w2 r=>b_ r c3),n3:=I2.n3,m6:=lac _ I2.m6,l4:=I2.l4,l5:=I2.l5,
                ct:=⟨fun m hm=>(by
                        rw [hval] at hm
                        by_cases z:m=n
                        · rw [if_pos z] at hm;cases hm
                        · rw [if_neg z] at hm;exact I2.ct.no m hm),
                      fun m v hm=>(by
                        rw [hval] at hm
                        by_cases z:m=n
                        · rw [if_pos z] at hm
                          cases hm
                          subst z
                          exact ⟨p1,rfl,by rw [bH n1c,g2,I2.ct.no _ hn];rfl,by simp,n1c,(b8 hp1 I1.pg).symm⟩
                        · rw [if_neg z] at hm
                          obtain ⟨q2,e2,h2,h3,h4⟩:=I2.ct.yes m v hm
                          exact ⟨q2,e2,kp _ _ h4.1 h2,by simp [h3],h4⟩),
                      fun m m2 q h1 h2=>(by
                        rw [hval] at h1 h2
                        have fresh:∀ r,bW kvs.kvs (Sum.inl r:bn)=some (.ref p1)→False:=fun r hr=>by
                          obtain ⟨q2,e2,h3,_⟩:=I1.ct.yes r _ hr
                          cases e2
                          rw [hp1] at h3
                          cases h3
                        by_cases e1:m=n
                        · by_cases e2:m2=n
                          · rw [e1,e2]
                          · rw [if_pos e1] at h1;rw [if_neg e2] at h2
                            cases h1
                            exact (fresh _ h2).elim
                        · by_cases e2:m2=n
                          · rw [if_neg e1] at h1;rw [if_pos e2] at h2
                            cases h2
                            exact (fresh _ h1).elim
                          · rw [if_neg e1] at h1;rw [if_neg e2] at h2
                            exact I2.ct.inj m m2 q h1 h2)⟩,
                n1:=I2.n1,n2:=I2.n2,m1:=by simp [I2.m1],m2:=by simp [I2.m2],m3:=by simp [I2.m3],m4:=by simp [I2.m4],m5:=by simp [I2.m5],
                trk:=eY fun a ha=>(by
                  rcases List.mem_cons.mp ha with rfl | z
                  · exact ⟨_,g2⟩
                  · exact I2.trk a z),
                l1:=Nat.le_succ_of_le I2.l1,l2:=las (fg _ _ _) (by have:=I2.l2;omega),l3:=fun m=>Nat.le_succ_of_le (I2.l3 m),okb:=I2.okb }
      · rcases List.mem_cons.mp ha with rfl | z
        · exact .inr hp1
        · exact .inl z
def gX(C:Addr):Sp:=fun vs H Q _=>∃ p t l h R N,vs=[.ref p,.ref t]∧HouseAt C H p h R N∧Rd H t (.tup [.int l.1,.int l.2.1,.int l.2.2.1,.str l.2.2.2])∧N≤790000∧h.oth.length≤900000∧PyData.strOk l.2.2.2=true∧Ret C p H R (N+3) (h.got l) Q
theorem wK(w:Str):dQ (.str w) [.str "yes",.str "no"]=decide (w="yes"∨w="no"):=by
 have:=eW w ["yes","no"]
 simp only [List.map_cons,List.map_nil] at this
 rw [this];simp [List.mem_cons]
theorem Ret.less{C p:Addr}{H:Hp}{R:List Addr}{N M:Nat}{r:HS×List au}{Q:VK}(k:Ret C p H R N r Q)(h:M≤N):Ret C p H R M r Q:=fun v H' R' m=>k v H' R' (m.more h)
theorem Ft{K:PySem.W.Frag}{C:Addr}{vs:List V}{H:Hp}{Q:VK}{E:XK}(T:bt K C)(h:gX C vs H Q E) :
  uE K (gM C) (hR C) (hV C) (gI C) C { nx:=fun _ H'=>Q .non H',rt:=Q } (aT ["self","letter","giver","bargain","word"] vs) H:=by
 obtain ⟨p,t,⟨g,to,n,w⟩,h,R,N,rfl,I,gt,hN,hol,okw,k⟩:=h
 obtain ⟨dx,po,pa,pk,pc,xs,kvs,I0⟩:=id I
 have ob:=I0.ob
 unfold uE
 unfold HS.got at k
 dsimp only at gt okw k
 walk_at "g"
 by_cases e1:w="ask"
 ·rw [if_pos (by simp [e1])]
  rw [if_pos e1] at k
  walk_at "g"
  exact ⟨p,g,n,h,R,N,rfl,I,by omega,k.less (by omega)⟩
 rw [if_neg (by simp [e1])]
 rw [if_neg e1] at k
 walk_at "g"
 by_cases e2:w="query"
 ·rw [if_pos (by simp [e2])]
  rw [if_pos e2] at k
  walk_at "g"
  exact ⟨p,g,n,h,R,N,rfl,I,by omega,hol,k.less (by omega)⟩
 rw [if_neg (by simp [e2])]
 rw [if_neg e2] at k
 walk_at "A"
 rename_i q hq H1 s1 g1
 show if (if false=true then _ else dQ (.str w) _)=true then _ else _
 rw [if_neg (by decide:¬ (false=true)),wK]
 have k1:=k.same I s1
 have ob1:=s1 _ _ ob
 by_cases e3:w="yes"∨w="no"
 ·rw [if_pos (decide_eq_true e3)]
  rw [if_pos e3] at k1
  walk_at "g"
  exact ⟨p,g,n,w,h,R,N,rfl,I.same s1,hN,hol,k1⟩
 ·rw [if_neg (by simpa using e3)]
  rw [if_neg e3] at k1
  walk_at "g"
  exact ⟨p,n,w,h,R,N,rfl,I.same s1,by omega,okw,k1.less (by omega)⟩
structure Made(C:Addr)(H:Hp)(p dx:Addr)(fs:List (Str×V))(H':Hp):Prop where
 ob:H' p=some (.ins C dx fs)
 chg:Chg [p] H H'
 free:∀ b,H' b=none→H b=none
theorem Made.same{C:Addr}{H:Hp}{p dx:Addr}{fs:List (Str×V)}{H' H2:Hp}(m:Made C H p dx fs H')(s:Same H' H2):Made C H p dx fs H2:=⟨s _ _ m.ob,m.chg.trans (.of_same s),fun b hb=>m.free b (s.free hb)⟩
theorem Made.put{C:Addr}{H:Hp}{p dx:Addr}{fs:List (Str×V)}{H':Hp}(m:Made C H p dx fs H')(gs:List (Str×V)):Made C H p dx gs (upd H' p (.ins C dx gs)):=
 ⟨av,m.chg.trans (.set (by rw [m.ob];exact True.intro) (by simp)),fun b hb=>by
  by_cases e:b=p
  ·rw [e,av] at hb;cases hb
  ·rw [bH e] at hb;exact m.free b hb⟩
theorem Made.keep{C:Addr}{H:Hp}{p dx:Addr}{fs gs:List (Str×V)}{H':Hp}(m:Made C H p dx fs H'){b:Addr}{o:HO}(e:H' b=some o)(n:o≠.ins C dx fs):upd H' p (.ins C dx gs) b=some o:=bo (cr e m.ob n) e
def tZ(pc pp:Addr)(fs:List (Str×V)):List (Str×V):=bX "lines_read" (.int 0) (bX "pages" (.ref pp) (bX "counted" (.ref pc) fs))
def dO(C:Addr):Sp:=fun vs H Q _=>∃ p dx fs,vs=[.ref p]∧H p=some (.ins C dx fs)∧fs.length<900∧
 ∀ pc pp H',H pc=none→H pp=none→pc≠pp→H' pc=some (.dK [])→H' pp=some (.dK [])→Made C H p dx (tZ pc pp fs) H'→Q .non H'
theorem FA{K:PySem.W.Frag}{C:Addr}{vs:List V}{H:Hp}{Q:VK}{E:XK}(T:bt K C)(h:dO C vs H Q E):v6 K { nx:=fun _ H'=>Q .non H',rt:=Q } (aT ["self"] vs) H:=by
 obtain ⟨p,dx,fs,rfl,ob,hl,k⟩:=h
 unfold v6
 have M0:Made C H p dx fs H:=⟨ob,.refl _ _,fun _ h=>h⟩
 have l1:=gy "counted"
 have l2:=gy "pages"
 walk_at "g"
 walk_at "w"
 rename_i pc hpc H1 s1 g1
 have M1:=M0.same s1
 walk_at "g"
 refine ⟨p,C,dx,_,rfl,M1.ob,T.cl,T.f6,by omega,?_⟩
 have M2:=M1.put (bX "counted" (.ref pc) fs)
 have g2:=M1.keep (gs:=bX "counted" (.ref pc) fs) g1 (by intro z;cases z)
 generalize upd H1 p (.ins C dx (bX "counted" (.ref pc) fs))=H2 at *
 walk_at "g"
 walk_at "w"
 rename_i pp hpp H3 s3 g3
 have M3:=M2.same s3
 have g3c:=s3 _ _ g2
 have nn:pc≠pp:=b8 hpp g2
 walk_at "g"
 refine ⟨p,C,dx,_,rfl,M3.ob,T.cl,T.f7,by have:=l1 (.ref pc) fs;omega,?_⟩
 have M4:=M3.put (bX "pages" (.ref pp) (bX "counted" (.ref pc) fs))
 have g4c:=M3.keep (gs:=bX "pages" (.ref pp) (bX "counted" (.ref pc) fs)) g3c (by intro z;cases z)
 have g4p:=M3.keep (gs:=bX "pages" (.ref pp) (bX "counted" (.ref pc) fs)) g3 (by intro z;cases z)
 generalize upd H3 p (.ins C dx (bX "pages" (.ref pp) (bX "counted" (.ref pc) fs)))=H4 at *
 walk_at "g"
 refine ⟨p,C,dx,_,rfl,M4.ob,T.cl,T.f8,by have h1:=l1 (.ref pc) fs;have h2:=l2 (.ref pp) (bX "counted" (.ref pc) fs);omega,?_⟩
 exact k pc pp _ hpc (M2.free _ hpp) nn (M4.keep (gs:=tZ pc pp fs) g4c (by intro z;cases z)) (M4.keep (gs:=tZ pc pp fs) g4p (by intro z;cases z)) (M4.put (tZ pc pp fs))
theorem o0(num:Int)(po pa pk:Addr)(u v:Bool)(pc pp:Addr)(nr:Nat):bX "awake" (.bl v) (e_ num po pa pk u pc pp nr)=e_ num po pa pk v pc pp nr:=by with_unfolding_all rfl
theorem zz(num:Int)(po pa pk:Addr)(u:Bool)(pc pp:Addr)(nr:Nat)(qc qp:Addr):tZ qc qp (e_ num po pa pk u pc pp nr)=e_ num po pa pk u qc qp 0:=by with_unfolding_all rfl
theorem HouseIn.put{C:Addr}{H:Hp}{p:Addr}{h:HS}{R:List Addr}{N:Nat}{dx po pa pk pc:Addr}{xs:List V}{z:Pg}(I:HouseIn C H p h R N dx po pa pk pc xs z)(u:Bool) :
    HouseIn C (upd H p (.ins C dx (e_ h.num po pa pk u pc z.pp z.nr))) p { h with up:=u } R N dx po pa pk pc xs z:=by
  have kp:∀ a o,a≠p→H a=some o→upd H p (.ins C dx (e_ h.num po pa pk u pc z.pp z.nr)) a=some o:=fun a o e z=>bo e z
  have nq:∀ {a:Addr} {o:HO},H a=some o→o≠.ins C dx (e_ h.num po pa pk h.up pc z.pp z.nr)→a≠p:=fun z1 z2=>cr z1 I.ob z2
  have c:Chg R H (upd H p (.ins C dx (e_ h.num po pa pk u pc z.pp z.nr))):=.set (by rw [I.ob];exact True.intro) I.m1
  exact { ob:=av,ot:=kp _ _ (nq I.ot (by intro z;cases z)) I.ot,ag:=kp _ _ (nq I.ag (by intro z;cases z)) I.ag,bk:=kp _ _ (nq I.bk (by intro z;cases z)) I.bk,bs:=b_ I.bs c,cn:=kp _ _ (nq I.cn (by intro z;cases z)) I.cn,pg:=kp _ _ (nq I.pg (by intro z;cases z)) I.pg,
          ct:=⟨I.ct.no,fun n v hv=>(by obtain ⟨q,e,h1,h2⟩:=I.ct.yes n v hv;exact ⟨q,e,kp _ _ (nq h1 (by intro z;cases z)) h1,h2⟩),I.ct.inj⟩,
          pt:=I.pt.keep (fun _ h=>h) (fun q2 w2 h2 _ _ _ _=>kp _ _ (nq h2 (by intro z;cases z)) h2) (fun b w2 r=>b_ r c),
          n1:=I.n1,n2:=I.n2,n3:=I.n3,m1:=I.m1,m2:=I.m2,m3:=I.m3,m4:=I.m4,m5:=I.m5,m6:=I.m6,trk:=eY I.trk,l1:=I.l1,l2:=I.l2,l3:=I.l3,l4:=I.l4,l5:=I.l5,okb:=I.okb }
def dN(C:Addr):Sp:=fun vs H Q _=>∃ p h R N,vs=[.ref p]∧HouseAt C H p h R N∧∀ H' R',Move C p H R H' h.stop R' N→Q .non H'
theorem Cw{K:PySem.W.Frag}{C:Addr}{vs:List V}{H:Hp}{Q:VK}{E:XK}(T:bt K C)(h:dN C vs H Q E):uv K (dO C) C { nx:=fun _ H'=>Q .non H',rt:=Q } (aT ["self"] vs) H:=by
  obtain ⟨p,h,R,N,rfl,⟨dx,po,pa,pk,pc,xs,z,I⟩,k⟩:=h
  unfold uv
  walk_at "g"
  refine ⟨p,C,dx,_,rfl,I.ob,T.cl,T.f5,(by show 8<1000;decide),?_⟩
  rw [o0]
  have I1:=I.put false
  have c1:Chg R H (upd H p (.ins C dx (e_ h.num po pa pk false pc z.pp z.nr))):=.set (by rw [I.ob];exact True.intro) I.m1
  generalize upd H p (.ins C dx (e_ h.num po pa pk false pc z.pp z.nr))=H1 at *
  have ob1:=I1.ob
  walk_at "g"
  refine ⟨p,dx,_,rfl,ob1,(by show 8<900;decide),fun qc qp H2 hqc hqp nn gc gp M=>?_⟩
  have ob2:=M.ob
  rw [zz] at ob2
  have np:∀ {a:Addr} {o:HO},H1 a=some o→(∀ D fs,o≠.ins C D fs)→¬ a∈[p]:=fun z1 z2 y=>by rw [lag.mp y,ob1] at z1;cases z1;exact z2 _ _ rfl
  have kp:∀ {a:Addr} {o:HO},H1 a=some o→(∀ D fs,o≠.ins C D fs)→H2 a=some o:=fun z1 z2=>M.chg.keep _ _ z1 (np z1 z2)
  have trk2:∀ a∈R,∃ o,H2 a=some o:=fun a ha=>by
    cases e:H2 a with
    | some o=>exact ⟨o,rfl⟩
    | none=>obtain ⟨o,e'⟩:=I1.trk a ha;rw [M.free a e] at e';cases e'
  have fr:∀ {a:Addr},H1 a=none→H a=none:=fun {a} hq=>by
    cases e:H a with
    | none=>rfl
    | some o=>
      by_cases m:a∈R
      · obtain ⟨o',e'⟩:=I1.trk a m
        rw [hq] at e';cases e'
      · rw [c1.keep a o e m] at hq;cases hq
  refine k _ (qc::qp::R) ⟨⟨dx,po,pa,pk,qc,xs,⟨[],qp,0,[]⟩,?_⟩,c1.trans (M.chg.mono fun b hb=>by rw [lag.mp hb];exact I.m1),fun a ha=>?_,fun _ h=>lac _ (lac _ h)⟩
  · exact { ob:=ob2,ot:=kp I1.ot (by intro _ _ z;cases z),ag:=kp I1.ag (by intro _ _ z;cases z),bk:=kp I1.bk (by intro _ _ z;cases z),bs:=b_ I1.bs M.chg,cn:=gc,pg:=gp,
            ct:=⟨fun _ _=>rfl,fun _ _ z=>(by cases z),fun _ _ _ z=>(by cases z)⟩,pt:=⟨fun _ _=>rfl,fun _ _ z=>(by cases z),fun _ _ _ z=>(by cases z)⟩,n1:=I1.n1,n2:=I1.n2,n3:=nn,m1:=by simp [I1.m1],m2:=by simp [I1.m2],m3:=by simp [I1.m3],m4:=by simp [I1.m4],m5:=by simp,m6:=by simp,
            trk:=fun a ha=>(by
              rcases List.mem_cons.mp ha with rfl | y
              · exact ⟨_,gc⟩
              rcases List.mem_cons.mp y with rfl | y
              · exact ⟨_,gp⟩
              · exact trk2 a y),
            l1:=I1.l1,l2:=laI _,l3:=fun _=>laI _,l4:=lat _,l5:=laI _,okb:=I1.okb }
  · rcases List.mem_cons.mp ha with rfl | y
    · exact .inr (fr hqc)
    rcases List.mem_cons.mp y with rfl | y
    · exact .inr (fr hqp)
    · exact .inl y
def gJ(C:Addr):Sp:=fun vs H Q _=>∃ p h R N,vs=[.ref p]∧HouseAt C H p h R N∧N≤780000∧(bG h.book).length≤10000∧h.oth.length≤20∧Ret C p H R (N+(bG h.book).length) h.wake Q
theorem mw(h:HS)(ns:List Int)(n:Int):h.offAll (ns++[n])=(((h.offAll ns).1.decide n "off").1,(h.offAll ns).2++((h.offAll ns).1.decide n "off").2):=by
 induction ns generalizing h with
 | nil=>simp [HS.offAll]
 | cons x r ih=>simp [HS.offAll,ih]
theorem kJ(h:HS)(ns:List Int):(h.offAll ns).1.oth=h.oth:=by
 induction ns generalizing h with
 | nil=>rfl
 | cons x r ih=>exact ih _
theorem nP(h:HS)(ns:List Int):(h.offAll ns).2.length=ns.length*h.oth.length:=by
 induction ns generalizing h with
 | nil=>simp [HS.offAll]
 | cons x r ih=>
  show ((h.decide x "off").2++((h.decide x "off").1.offAll r).2).length=_
  rw [laf,ih]
  show (h.oth.map _).length+r.length*h.oth.length=_
  rw [laa,laj,Nat.succ_mul,Nat.add_comm]
theorem tI{H:Hp}{S:List Addr}{xs ys:List V}{a b:List au}(r:Reps H S xs (a.map b9))(q:Reps H S ys (b.map b9)):Reps H S (xs++ys) ((a++b).map b9):=by rw [lai];exact r.append q
theorem D7{K:PySem.W.Frag}{C:Addr}{vs:List V}{H:Hp}{Q:VK}{E:XK}(T:bt K C)(h:gJ C vs H Q E):vM K gO (cf C) C { nx:=fun _ H'=>Q .non H',rt:=Q } (aT ["self","undecided","sent","bargain"] vs) H:=by
 obtain ⟨p,h,R,N,rfl,⟨dx,po,pa,pk,pc,xs,kvs,I⟩,hN,hlt,hol,k⟩:=h
 obtain ⟨cl,f1,f2,f3,f4,f5,f6,f7,f8⟩:=T
 unfold vM
 walk_at "g"
 refine ⟨p,C,dx,_,rfl,I.ob,cl,f5,(by show 8<1000;decide),?_⟩
 rw [o0]
 have I1:=I.put true
 have c1:Chg R H (upd H p (.ins C dx (e_ h.num po pa pk true pc kvs.pp kvs.nr))):=.set (by rw [I.ob];exact True.intro) I.m1
 generalize upd H p (.ins C dx (e_ h.num po pa pk true pc kvs.pp kvs.nr))=H1 at *
 have ob1:=I1.ob
 walk_at "g"
 refine ⟨pk,h.book,rfl,I1.rep,las I1.l1 (by omega),fun pl H2 hpl s2 g2=>?_⟩
 have I2:=I1.same s2
 have m2:Move C p H R H2 { h with up:=true } R N:=⟨⟨_,_,_,_,_,_,_,I2⟩,c1.trans (.of_same s2),.refl _ _,fun _ h=>h⟩
 walk_at "g"
 walk_at "w"
 rename_i ps hps H3 s3 g3
 have g3l:=s3 _ _ g2
 have npl:pl≠ps:=b8 hps g2
 have k2:=k.after m2
 have hlo:(bG h.book).length≤N:=by
  unfold bG
  rw [laa]
  exact las (laJ _ _) I.l1
 walk_at "g"
 refine d3 (K:=K) (a:=pl) (xs:=(bG h.book).map .int) (fun i σ H'=>∃ v ys R',σ=[some (.ref p),some (.ref pl),some (.ref ps),v]∧HouseAt C H' p (({ h with up:=true }:HS).offAll ((bG h.book).take i)).1 R' (N+i)∧Chg R H2 H'∧(Grow R H2 R'∧∀ a∈R,a∈R')∧
   H' ps=some (.lst ys)∧¬ ps∈R'∧Reps H' [] ys ((({ h with up:=true }:HS).offAll ((bG h.book).take i)).2.map b9)∧H' pl=some (.lst ((bG h.book).map .int)))
  ⟨none,[],R,rfl,⟨_,_,_,_,_,_,_,I2.same s3⟩,.of_same s3,⟨.refl _ _,fun _ h=>h⟩,g3,di I2.trk hps,.nil,g3l⟩ ?_ ?_ ?_
 ·rintro i σ H' hi ⟨v,ys,R',rfl,J,c,⟨g,sb⟩,gs,ns,rs,gl⟩
  exact ca gl
 ·rintro i x σ H4 hx ⟨v,ys,R',rfl,J,c,⟨g,sb⟩,gs,ns,rs,gl⟩
  rw [lae] at hx
  cases hk:(bG h.book)[i]? with
  | none=>rw [hk] at hx;cases hx
  | some z=>
   rw [hk] at hx
   have e:V.int z=x:=lan hx
   subst e
   have hi:i<(bG h.book).length:=(lab.mp hk).1
   obtain ⟨dx4,po4,pa4,pk4,pc4,xs4,kvs4,I4⟩:=id J
   have ob4:=I4.ob
   walk_at "g"
   refine ⟨.inl ⟨rfl,_,ca gs⟩,?_⟩
   walk_at "g"
   refine ⟨p,z,"off",_,R',N+i,rfl,J,by omega,by rw [kJ];show h.oth.length≤900000;omega,ix (by simp),?_⟩
   intro v' H5 R5 m5 rep5 _
   obtain ⟨a5,zs,rfl,g5,ni5,rs5⟩:=rep5
   have gs5:=m5.chg.keep _ _ gs ns
   have ns5:¬ ps∈R5:=fun y=>(m5.gr _ y).elim ns fun q=>by rw [gs] at q;cases q
   have npl5:¬ pl∈R':=fun y=>(g _ y).elim (di I1.trk hpl) fun q=>by rw [g2] at q;cases q
   have gl5:=m5.chg.keep _ _ gl npl5
   have ly:ys.length=i*h.oth.length:=by
    rw [rs.length,laa,nP,lax,Nat.min_eq_left (Nat.le_of_lt hi)]
   have lz:zs.length=h.oth.length:=by
    rw [rs5.length,laa]
    show (List.map _ _).length=_
    rw [laa,kJ]
   have hsz:ys.length+zs.length≤sizeLine:=by
    have h1:i*h.oth.length≤10000*20:=Nat.mul_le_mul (by omega) hol
    rw [sizeLine_eq]
    omega
   walk_at "g"
   refine i3 gs5 g5 hsz ?_
   have cp:Chg [ps] H5 (upd H5 ps (.lst (ys++zs))):=.set (by rw [gs5];exact True.intro) (by simp)
   refine ⟨_,_,R5,rfl,?_,(c.grow g m5.chg).put hps,⟨g.trans c m5.gr,fun x hx=>m5.sb x (sb x hx)⟩,av,ns5,?_,bo npl gl5⟩
   ·rw [bC hk,mw]
    exact m5.at_.chg cp fun a ha y=>by rw [lag.mp y] at ha;exact ns5 ha
   ·rw [bC hk,mw]
    exact tI (cT (cT rs m5.chg) cp) (dA (cT rs5 cp))
 ·rintro σ H4 ⟨v,ys,R',rfl,J,c,⟨g,sb⟩,gs,ns,rs,gl⟩
  walk_at "g"
  rw [laa,laE] at J rs
  exact k2 _ _ _ ⟨J.more (by omega),c,g,sb⟩ ⟨_,_,rfl,gs,ns,dA rs⟩ (by rintro _ ⟨⟩;exact hps)
def bN(num:Int)(count:Nat):List Int:=((List.range count).map fun (k:Nat)=>(k:Int)).filter fun k=>!decide (k=num)
def i5(num:Int)(count:Nat)(agn:List Int):HS:=⟨num,bN num count,agn,[],true,fun _=>[]⟩
theorem mG(num:Int)(count:Nat):(bN num count).length≤count:=by
 unfold bN
 refine las (laJ _ _) ?_
 rw [laa,laq];exact lat _
theorem my(num:Int)(i:Nat):bN num (i+1)=if (i:Int)=num then bN num i else bN num i++[(i:Int)]:=by
 unfold bN
 rw [List.range_succ,lai,lay]
 by_cases e:(i:Int)=num
 ·simp [e]
 ·simp [e]
def gL(C:Addr):Sp:=fun vs H Q _=>∃ (p dx a:Addr) (num:Int) (count:Nat) (agn:List Int),vs=[.ref p,.int num,.int count,.ref a]∧H p=some (.ins C dx [])∧count≤900000∧Rd H a (.lst (agn.map .int))∧
 ∀ H' R',HouseAt C H' p (i5 num count agn) R' 0→Chg [p] H H'→(∀ b∈R',b=p∨H b=none)→Q .non H'
def xz(a:V):List (Str×V):=[("number",a)]
def uh(a b:V):List (Str×V):=[("number",a),("others",b)]
def rL(a b c:V):List (Str×V):=[("number",a),("others",b),("against",c)]
def sY(a b c d:V):List (Str×V):=[("number",a),("others",b),("against",c),("book",d)]
def sx(a b c d e:V):List (Str×V):=[("number",a),("others",b),("against",c),("book",d),("awake",e)]
theorem Fw(v:V):bX "number" v []=xz v:=rfl
theorem FZ(a v:V):bX "others" v (xz a)=uh a v:=by with_unfolding_all rfl
theorem Eo(a b v:V):bX "against" v (uh a b)=rL a b v:=by with_unfolding_all rfl
theorem Gf(a b c v:V):bX "book" v (rL a b c)=sY a b c v:=by with_unfolding_all rfl
theorem DM(a b c d v:V):bX "awake" v (sY a b c d)=sx a b c d v:=by with_unfolding_all rfl
theorem zC(num:Int)(po pa pk:Addr)(u:Bool)(pc pp:Addr):tZ pc pp (sx (.int num) (.ref po) (.ref pa) (.ref pk) (.bl u))=e_ num po pa pk u pc pp 0:=by with_unfolding_all rfl
theorem Ds{K:PySem.W.Frag}{C:Addr}{vs:List V}{H:Hp}{Q:VK}{E:XK}(T:bt K C)(h:gL C vs H Q E):vd K (dO C) C { nx:=fun _ H'=>Q .non H',rt:=Q } (aT ["self","number","count","against"] vs) H:=by
  obtain ⟨p,dx,a,num,count,agn,rfl,ob,hc,ha,k⟩:=h
  have nap:a≠p:=by
    rintro rfl
    rcases ha with z | ⟨o,z⟩ <;> (rw [ob] at z;cases z)
  unfold vd
  have M0:Made C H p dx [] H:=⟨ob,.refl _ _,fun _ h=>h⟩
  walk_at "g"
  refine ⟨p,C,dx,_,rfl,ob,T.cl,T.f1,(by show 0<1000;decide),?_⟩
  rw [Fw]
  have M1:=M0.put (xz (.int num))
  have ha1:Rd (upd H p (.ins C dx (xz (.int num)))) a (.lst (agn.map .int)):=ha.upd nap
  generalize upd H p (.ins C dx (xz (.int num)))=H1 at *
  walk_at "g"
  refine d_ (by omega) ?_
  intro po hpo
  refine f' (n:=count) (fun i ys σ H'=>∃ v,σ=[v,some (.int num)]∧H'=upd H1 po (.lst ys)∧ys=(bN num i).map .int) ⟨none,rfl,rfl,rfl⟩ ?_ ?_
  · rintro i ys σ H' hi hp' ⟨v,rfl,rfl,rfl⟩
    walk_at "g"
    have e0:((0:Int)+(i:Int))=(i:Int):=Int.zero_add _
    by_cases e:(i:Int)=num
    · rw [if_neg (by simp [e0,e])]
      exact ⟨_,av,_,rfl,rfl,by rw [my,if_pos e]⟩
    · rw [if_pos (by simp [e0,e])]
      walk_at "g"
      refine ⟨_,av,bb (by rw [laa];exact las (mG _ _) (by omega)),_,av,_,rfl,mn,?_⟩
      rw [my,if_neg e,lai,e0];rfl
  rintro ys σ H2 g2 ⟨v,rfl,hH2,rfl⟩
  have s2:Same H1 H2:=by rw [hH2];exact Same.new hpo
  clear hH2
  have M2:=M1.same s2
  have ha2:=ha1.same s2
  have po0:H po=none:=M1.free _ hpo
  walk_at "g"
  refine ⟨p,C,dx,_,rfl,M2.ob,T.cl,T.f2,(by show 1<1000;decide),?_⟩
  rw [FZ]
  have M3:=M2.put (uh (.int num) (.ref po))
  have g3:=M2.keep (gs:=(uh (.int num) (.ref po))) g2 (by intro z;cases z)
  have ha3:Rd (upd H2 p (.ins C dx (uh (.int num) (.ref po)))) a (.lst (agn.map .int)):=ha2.upd nap
  generalize upd H2 p (.ins C dx (uh (.int num) (.ref po)))=H3 at *
  walk_at "g"
  walk_at "w"
  rename_i pa hpa H4 s4 g4
  have M4:=M3.same s4
  have g4o:=s4 _ _ g3
  have pa0:H pa=none:=M3.free _ hpa
  walk_at "g"
  refine ⟨p,C,dx,_,rfl,M4.ob,T.cl,T.f3,(by show 2<1000;decide),?_⟩
  rw [Eo]
  have M5:=M4.put (rL (.int num) (.ref po) (.ref pa))
  have g5o:=M4.keep (gs:=(rL (.int num) (.ref po) (.ref pa))) g4o (by intro z;cases z)
  have g5a:=M4.keep (gs:=(rL (.int num) (.ref po) (.ref pa))) g4 (by intro z;cases z)
  generalize upd H4 p (.ins C dx (rL (.int num) (.ref po) (.ref pa)))=H5 at *
  walk_at "g"
  walk_at "w"
  rename_i pk hpk H6 s6 g6
  have M6:=M5.same s6
  have pk0:H pk=none:=M5.free _ hpk
  have n1:po≠pk:=b8 hpk g5o
  have n2:pa≠pk:=b8 hpk g5a
  walk_at "g"
  refine ⟨p,C,dx,_,rfl,M6.ob,T.cl,T.f4,(by show 3<1000;decide),?_⟩
  rw [Gf]
  have M7:=M6.put (sY (.int num) (.ref po) (.ref pa) (.ref pk))
  have g7o:=M6.keep (gs:=(sY (.int num) (.ref po) (.ref pa) (.ref pk))) (s6 _ _ g5o) (by intro z;cases z)
  have g7a:=M6.keep (gs:=(sY (.int num) (.ref po) (.ref pa) (.ref pk))) (s6 _ _ g5a) (by intro z;cases z)
  have g7k:=M6.keep (gs:=(sY (.int num) (.ref po) (.ref pa) (.ref pk))) g6 (by intro z;cases z)
  generalize upd H6 p (.ins C dx (sY (.int num) (.ref po) (.ref pa) (.ref pk)))=H7 at *
  walk_at "g"
  refine ⟨p,C,dx,_,rfl,M7.ob,T.cl,T.f5,(by show 4<1000;decide),?_⟩
  rw [DM]
  have M8:=M7.put (sx (.int num) (.ref po) (.ref pa) (.ref pk) (.bl true))
  have g8o:=M7.keep (gs:=(sx (.int num) (.ref po) (.ref pa) (.ref pk) (.bl true))) g7o (by intro z;cases z)
  have g8a:=M7.keep (gs:=(sx (.int num) (.ref po) (.ref pa) (.ref pk) (.bl true))) g7a (by intro z;cases z)
  have g8k:=M7.keep (gs:=(sx (.int num) (.ref po) (.ref pa) (.ref pk) (.bl true))) g7k (by intro z;cases z)
  generalize upd H7 p (.ins C dx (sx (.int num) (.ref po) (.ref pa) (.ref pk) (.bl true)))=H8 at *
  have ob8:=M8.ob
  walk_at "g"
  refine ⟨p,dx,_,rfl,ob8,(by show 5<900;decide),fun pc pp H9 hpc hpp nn gc gp M=>?_⟩
  have ob9:=M.ob
  rw [zC] at ob9
  have pc0:H pc=none:=M8.free _ hpc
  have pp0:H pp=none:=M8.free _ hpp
  have np:∀ {a:Addr} {o:HO},H8 a=some o→(∀ D fs,o≠.ins C D fs)→¬ a∈[p]:=fun z1 z2 y=>by rw [lag.mp y,ob8] at z1;cases z1;exact z2 _ _ rfl
  have kp:∀ {a:Addr} {o:HO},H8 a=some o→(∀ D fs,o≠.ins C D fs)→H9 a=some o:=fun z1 z2=>M.chg.keep _ _ z1 (np z1 z2)
  have gAo:=kp g8o (by intro _ _ z;cases z)
  have gAa:=kp g8a (by intro _ _ z;cases z)
  have gAk:=kp g8k (by intro _ _ z;cases z)
  refine k _ [p,po,pa,pk,pc,pp] ⟨dx,po,pa,pk,pc,[],⟨[],pp,0,[]⟩,?_⟩ (M8.chg.trans M.chg) (fun b hb=>?_)
  · exact { ob:=ob9,ot:=gAo,ag:=gAa,bk:=gAk,bs:=.nil,cn:=gc,pg:=gp,ct:=⟨fun _ _=>rfl,fun _ _ z=>(by cases z),fun _ _ _ z=>(by cases z)⟩,pt:=⟨fun _ _=>rfl,fun _ _ z=>(by cases z),fun _ _ _ z=>(by cases z)⟩,n1:=n1,n2:=n2,n3:=nn,
            m1:=by simp,m2:=by simp,m3:=by simp,m4:=by simp,m5:=by simp,m6:=by simp,
            trk:=fun b hb=>(by
              simp only [List.mem_cons,List.not_mem_nil,or_false] at hb
              rcases hb with rfl | rfl | rfl | rfl | rfl | rfl
              · exact ⟨_,ob9⟩
              · exact ⟨_,gAo⟩
              · exact ⟨_,gAa⟩
              · exact ⟨_,gAk⟩
              · exact ⟨_,gc⟩
              · exact ⟨_,gp⟩),
            l1:=lat _,l2:=lat _,l3:=fun _=>lat _,l4:=lat _,l5:=lat _,okb:=(by intro l hl;cases hl) }
  · simp only [List.mem_cons,List.not_mem_nil,or_false] at hb
    rcases hb with rfl | rfl | rfl | rfl | rfl | rfl
    · exact .inl rfl
    · exact .inr po0
    · exact .inr pa0
    · exact .inr pk0
    · exact .inr pc0
    · exact .inr pp0
theorem zF(h:HS)(l:au):(h.got l).1.oth=h.oth:=by
 unfold HS.got HS.gotAsk HS.asked HS.gotQuery HS.gotVote HS.gotDecision HS.decide HS.count HS.wr
 repeat' split
 all_goals rfl
theorem fG{H:Hp}{S:List Addr}{b:List au}{xs:List V}{i:Nat}{x:V}(rs:Reps H S xs (b.map b9))(hx:xs[i]?=some x) :
  ∃ l t,b[i]?=some l∧x=.ref t∧Rd H t (.tup [.int l.1,.int l.2.1,.int l.2.2.1,.str l.2.2.2]):=by
 obtain ⟨d,hd,rx⟩:=rs.get hx
 rw [lae] at hd
 cases hb:b[i]? with
 | none=>rw [hb] at hd;cases hd
 | some l=>
  rw [hb] at hd
  have e:b9 l=d:=lan hd
  subst e
  obtain ⟨t,ys,rfl,rt,rs'⟩:=rx.tup_inv
  obtain ⟨y1,r1,rfl,h1,t1⟩:=rs'.cons_inv
  obtain ⟨y2,r2,rfl,h2,t2⟩:=t1.cons_inv
  obtain ⟨y3,r3,rfl,h3,t3⟩:=t2.cons_inv
  obtain ⟨y4,r4,rfl,h4,t4⟩:=t3.cons_inv
  cases t4.nil_inv
  rw [h1.int_inv,h2.int_inv,h3.int_inv,h4.str_inv] at rt
  exact ⟨l,t,rfl,rfl,rt⟩
def HS.query(h:HS)(n:Int):List au:=if h.up=true∧bI h.book n=true then h.toOthers n "query" else []
def hE(C:Addr):Sp:=fun vs H Q _=>∃ p n h R N,vs=[.ref p,.int n]∧HouseAt C H p h R N∧N≤800000∧h.oth.length≤900000∧Ret C p H R N (h,h.query n) Q
theorem DC{K:PySem.W.Frag}{C:Addr}{vs:List V}{H:Hp}{Q:VK}{E:XK}(T:bt K C)(h:hE C vs H Q E) :
  vz K b0 (bV C) (cu C) C { nx:=fun _ H'=>Q .non H',rt:=Q } (aT ["self","bargain"] vs) H:=by
 obtain ⟨p,n,h,R,N,rfl,I,hN,hol,k⟩:=h
 obtain ⟨cl,f1,f2,f3,f4,f5,f6,f7,f8⟩:=T
 obtain ⟨dx,po,pa,pk,pc,xs,kvs,I0⟩:=id I
 have ob:=I0.ob
 have hl1:=I0.l1
 unfold vz
 unfold HS.query at k
 walk_at "g"
 cases hu:h.up with
 | false=>
  rw [hu] at k
  rw [if_neg (by simp)] at k
  rw [if_pos (by rfl),if_pos (by rfl)]
  walk_at "A"
  rename_i l hl H2 s2 g2
  exact k.nil I (lat _) s2 hl g2
 | true=>
  rw [hu] at k
  rw [if_neg (by decide)]
  walk_at "g"
  refine ⟨p,n,h,R,N,rfl,I,by omega,fun q H0 R0 m0 r0=>?_⟩
  walk_at "g"
  refine ⟨q,cV h.book n,n,rfl,r0,las (fR _ _) (by omega),fun H1 s1=>?_⟩
  rw [lx]
  have m1:=m0.trans (m0.at_.move s1)
  obtain ⟨dx1,po1,pa1,pk1,pc1,xs1,kvs1,I1⟩:=id m1.at_
  have ob1:=I1.ob
  have k1:=k.after m1
  walk_at "g"
  cases e:bI h.book n with
  | true=>
   rw [if_pos (by simp [e])] at k1
   rw [if_neg (by simp)]
   walk_at "g"
   exact ⟨p,n,"query",h,R0,N,rfl,m1.at_,hol,fun v H2 s2 r f=>k1.done m1.at_ (lat _) s2 r f⟩
  | false=>
   rw [if_neg (by simp [e])] at k1
   rw [if_pos (by simp)]
   walk_at "A"
   rename_i l hl H2 s2 g2
   exact k1.nil m1.at_ (lat _) s2 hl g2
def HS.spent(h:HS)(l:au):Bool:=Decidable.decide (l.2.2.2="no"∨l.2.2.2="bound"∨l.2.2.2="off")&&!Decidable.decide (ax h.book l.2.2.1=none)
theorem ym(w:Str):dQ (.str w) [.str "no",.str "bound",.str "off"]=decide (w="no"∨w="bound"∨w="off"):=by
 have:=eW w ["no","bound","off"]
 simp only [List.map_cons,List.map_nil] at this
 rw [this];simp [List.mem_cons]
def gj(C:Addr):Sp:=fun vs H Q _=>∃ p t l h R N,vs=[.ref p,.ref t]∧HouseAt C H p h R N∧Rd H t (.tup [.int l.1,.int l.2.1,.int l.2.2.1,.str l.2.2.2])∧N≤800000∧∀ H' R',Move C p H R H' h R' N→Q (.bl (h.spent l)) H'
theorem CG{K:PySem.W.Frag}{C:Addr}{vs:List V}{H:Hp}{Q:VK}{E:XK}(T:bt K C)(h:gj C vs H Q E) :
  wz K (bD C) C { nx:=fun _ H'=>Q .non H',rt:=Q } (aT ["self","letter"] vs) H:=by
 obtain ⟨p,t,⟨g,to,n,w⟩,h,R,N,rfl,I,gt,hN,k⟩:=h
 obtain ⟨dx,po,pa,pk,pc,xs,kvs,I0⟩:=id I
 have ob:=I0.ob
 unfold wz
 unfold HS.spent at k
 dsimp only at gt k
 walk_at "A"
 rename_i q hq H1 s1 g1
 show if (if true=true then !(dQ (.str w) _) else _)=true then _ else _
 rw [if_pos rfl,ym]
 have ob1:=s1 _ _ ob
 by_cases e:w="no"∨w="bound"∨w="off"
 ·rw [if_neg (by simp [e])]
  rw [decide_eq_true e,Bool.true_and] at k
  have gt1:=gt.same s1
  walk_at "g"
  refine ⟨p,n,h,R,N,rfl,I.same s1,by omega,fun H2 R2 m2=>?_⟩
  walk_at "g"
  have kk:=k _ _ ((I.move s1).trans m2)
  cases ed:ax h.book n with
  | none=>rw [ed] at kk;exact kk
  | some d=>rw [ed] at kk;exact kk
 ·rw [if_pos (by simp [e])]
  rw [decide_eq_false e,Bool.false_and] at k
  walk_at "g"
  exact k _ _ (I.move s1)
def v7(K:PySem.W.Frag):TS:=
  (aC (eG (bv (dF K) (ae (ad 0) (ae (tC (.ty "int")) ak))) (nv (bv (dF K) (ae (ad 0) (ae (tC (.ty "bool")) ak))))))
def vy(K:PySem.W.Frag):TS:=
  (aq (aX (aZ (ap lU (ad 1) (bv (b5 K) (ae (ad 0) ak))))
  (aC (ap (cJ K) (ad 0) (ad 1)))
  aM)
  (aC (tC (.int 0))))
def uq(K:PySem.W.Frag)(cx:Sp):TS:=
  (aq (aX (im (cb (tB (bv (dF K) (ae (ad 0) (ae (tC (.ty "tuple")) ak))))) (aZ (ap jA (bv (b5 K) (ae (ad 0) ak)) (tC (.int 2)))))
  (aC (tC (.bl false)))
  aM)
  (aq (aX (im (cb (tB (bv (dF K) (ae (ap (bK K) (ad 0) (tC (.int 0))) (ae (tC (.ty "str")) ak))))) (cb (tB (a_ cx [] E0 (ae (ap (bK K) (ad 0) (tC (.int 1))) ak)))))
  (aC (tC (.bl false)))
  aM)
  (aC (ap (iy K false) (ap (bK K) (ad 0) (tC (.int 0))) (cG (ae (tC (.str "open")) (ae (tC (.str "yes")) (ae (tC (.str "no")) (ae (tC (.str "bound")) (ae (tC (.str "off")) ak))))))))))
def vo(K:PySem.W.Frag)(h9:Sp):TS:=
  (aq (aX (cb (tB (bv (dF K) (ae (ad 0) (ae (tC (.ty "list")) ak)))))
  (aC (tC (.bl false)))
  aM)
  (aq (ei (cP K (ad 0)) (az 1)
  (aX (cb (tB (a_ h9 [] E0 (ae (ad 1) ak))))
  (aC (tC (.bl false)))
  aM))
  (aC (tC (.bl true)))))
def wg(K:PySem.W.Frag)(cx:Sp):TS:=
  (aq (aX (im (cb (tB (bv (dF K) (ae (ad 0) (ae (tC (.ty "tuple")) ak))))) (im (aZ (ap jA (bv (b5 K) (ae (ad 0) ak)) (tC (.int 4)))) (cb (tB (bv (dF K) (ae (ap (bK K) (ad 0) (tC (.int 3))) (ae (tC (.ty "str")) ak)))))))
  (aC (tC (.bl false)))
  aM)
  (aq (ei (AL K (o4 (BL K) (ad 0) fY (iD (tC (.int 3))))) (az 2)
  (aX (cb (tB (a_ cx [] E0 (ae (ad 2) ak))))
  (aC (tC (.bl false)))
  aM))
  (aq (aX (aZ (ap (iy K true) (ap (bK K) (ad 0) (tC (.int 3))) (cG (ae (tC (.str "ask")) (ae (tC (.str "yes")) (ae (tC (.str "no")) (ae (tC (.str "bound")) (ae (tC (.str "off")) (ae (tC (.str "query")) ak)))))))))
  (aC (tC (.bl false)))
  aM)
  (aC (eG (n5 A6 lU (tC (.int 0)) (ap (bK K) (ad 0) (tC (.int 0))) (ad 1)) (eG (n5 A6 lU (tC (.int 0)) (ap (bK K) (ad 0) (tC (.int 1))) (ad 1)) (ap jA (ap (bK K) (ad 0) (tC (.int 0))) (ap (bK K) (ad 0) (tC (.int 1))))))))))
def vw(K:PySem.W.Frag)(gS:Sp):TS:=
  (aq (aX (cb (tB (bv (dF K) (ae (ad 0) (ae (tC (.ty "list")) ak)))))
  (aC (tC (.bl false)))
  aM)
  (aq (ei (cP K (ad 0)) (az 2)
  (aX (cb (tB (a_ gS [] E0 (ae (ad 2) (ae (ad 1) ak)))))
  (aC (tC (.bl false)))
  aM))
  (aC (tC (.bl true)))))
theorem iX(K:PySem.W.Frag):PySem.W.kitOne K (.type "int") (.type "bool")=some false:=by with_unfolding_all rfl
def cx:Sp:=fun vs H Q _=>∃ i:Int,vs=[.int i]∧Q (.bl true) H
theorem Go{K:PySem.W.Frag}{vs:List V}{H:Hp}{Q:VK}{E:XK}(h:cx vs H Q E):v7 K { nx:=fun _ H'=>Q .non H',rt:=Q } (aT ["_law_found"] vs) H:=by
 obtain ⟨i,rfl,k⟩:=h
 unfold v7
 walk_at "g"
 refine ⟨_,_,_,true,rfl,TyO.int _,cW _ _,?_⟩
 walk_at "g"
 refine oo ?_
 walk_at "g"
 refine ⟨_,_,_,false,rfl,TyO.int _,iX _,?_⟩
 walk_at "g"
 exact k
def dm(K:PySem.W.Frag):Sp:=fun vs H Q _=>∃ (a:Addr) (ns:List Int) (k:Nat),vs=[.ref a,.int k]∧SqL K H a (ns.map .int)∧∀ z:Int,Q (.int z) H
theorem Gk{K:PySem.W.Frag}{vs:List V}{H:Hp}{Q:VK}{E:XK}(h:dm K vs H Q E):vy K { nx:=fun _ H'=>Q .non H',rt:=Q } (aT ["_law_script","_law_k"] vs) H:=by
 obtain ⟨a,ns,k,rfl,hS,q⟩:=h
 unfold vy
 walk_at "g"
 by_cases e:k<ns.length
 ·rw [if_pos (by simp only [List.length_map,decide_eq_true_eq];show (k:Int)<(ns.length:Int);omega)]
  have hat:iW (ns.map V.int) (k:Int)=some (.int ns[k]):=ce (by simp [e])
  walk_at "g"
  exact q _
 ·rw [if_neg (by simp only [List.length_map,decide_eq_true_eq];show ¬ (k:Int)<(ns.length:Int);omega)]
  walk_at "g"
  exact q _
def jE(w:Str):Prop:=w="open"∨w="yes"∨w="no"∨w="bound"∨w="off"
theorem xO{w:Str}(h:jE w):dQ (.str w) [.str "open",.str "yes",.str "no",.str "bound",.str "off"]=true:=by
 have:=eW w ["open","yes","no","bound","off"]
 simp only [List.map_cons,List.map_nil] at this
 rw [this]
 exact decide_eq_true (by simp only [List.mem_cons,List.not_mem_nil,or_false];exact h)
def h9:Sp:=fun vs H Q _=>∃ t w n,vs=[.ref t]∧Rd H t (.tup [.str w,.int n])∧jE w∧∀ H',Same H H'→Q (.bl true) H'
theorem Fu{K:PySem.W.Frag}{vs:List V}{H:Hp}{Q:VK}{E:XK}(h:h9 vs H Q E):uq K cx { nx:=fun _ H'=>Q .non H',rt:=Q } (aT ["_law_found"] vs) H:=by
 obtain ⟨t,w,n,rfl,rt,hw,k⟩:=h
 unfold uq
 walk_at "g"
 refine ⟨_,_,_,true,rfl,TyO.tup rt,cW _ _,?_⟩
 walk_at "g"
 refine cS ?_
 refine iJ (md (mf (iL (jy (by rfl) (jG (jx (oH rt) ?_))))))
 walk_at "g"
 rw [if_neg (by simp)]
 walk_at "g"
 refine ⟨_,_,_,true,rfl,TyO.str _,cW _ _,?_⟩
 walk_at "g"
 refine cS ?_
 walk_at "g"
 refine ⟨n,rfl,?_⟩
 walk_at "g"
 refine cS ?_
 walk_at "A"
 rename_i q hq H1 s1 g1
 show Q (.bl (if false=true then _ else dQ (.str w) _)) H1
 rw [if_neg (by decide:¬ (false=true)),xO hw]
 exact k H1 s1
def l_(b:List bh):Prop:=∀ l∈b,jE l.1
def dM:Sp:=fun vs H Q _=>∃ a b,vs=[.ref a]∧Rep H [] (.ref a) (cU b)∧l_ b∧∀ H',Same H H'→Q (.bl true) H'
theorem C3{K:PySem.W.Frag}{vs:List V}{H:Hp}{Q:VK}{E:XK}(h:dM vs H Q E):vo K h9 { nx:=fun _ H'=>Q .non H',rt:=Q } (aT ["_law_found","_law_line"] vs) H:=by
 obtain ⟨a,b,rfl,hb,hw,k⟩:=h
 obtain ⟨_,xs,e,rd,_,rs⟩:=id hb.lst_inv
 cases e
 unfold vo
 walk_at "g"
 refine ⟨_,_,_,true,rfl,TyO.list rd,cW _ _,?_⟩
 walk_at "g"
 refine cS ?_
 walk_at "g"
 refine d3 (K:=K) (a:=a) (xs:=xs) (fun i σ H'=>∃ v,σ=[some (.ref a),v]∧Same H H') ⟨none,rfl,Same.refl _⟩ ?_ ?_ ?_
 ·rintro i σ H' hi ⟨v,rfl,s⟩
  exact s.seq (dR rd)
 ·rintro i x σ H' hx ⟨v,rfl,s⟩
  obtain ⟨l,t,hb',rfl,rt⟩:=ms rs hx
  walk_at "g"
  refine ⟨t,l.1,l.2,rfl,rt.same s,hw l (lam hb'),fun H2 s2=>?_⟩
  walk_at "g"
  refine cS ?_
  walk_at "g"
  exact ⟨_,rfl,s.trans s2⟩
 ·rintro σ H' ⟨v,rfl,s⟩
  walk_at "g"
  exact k H' s
def wQ(w:Str):Prop:=w="ask"∨w="yes"∨w="no"∨w="bound"∨w="off"∨w="query"
theorem zN{w:Str}(h:wQ w):dQ (.str w) [.str "ask",.str "yes",.str "no",.str "bound",.str "off",.str "query"]=true:=by
 have:=eW w ["ask","yes","no","bound","off","query"]
 simp only [List.map_cons,List.map_nil] at this
 rw [this]
 exact decide_eq_true (by simp only [List.mem_cons,List.not_mem_nil,or_false];exact h)
def uU(c:Int)(l:au):Prop:=0≤l.1∧l.1<c∧0≤l.2.1∧l.2.1<c∧l.1≠l.2.1∧wQ l.2.2.2
def gS:Sp:=fun vs H Q _=>∃ t c l,vs=[.ref t,.int c]∧Rd H t (.tup [.int l.1,.int l.2.1,.int l.2.2.1,.str l.2.2.2])∧uU c l∧∀ H',Same H H'→Q (.bl true) H'
theorem Ck{K:PySem.W.Frag}{vs:List V}{H:Hp}{Q:VK}{E:XK}(h:gS vs H Q E):wg K cx { nx:=fun _ H'=>Q .non H',rt:=Q } (aT ["_law_found","_law_count","_law_number"] vs) H:=by
 obtain ⟨t,c,⟨g,to,n,w⟩,rfl,rt,⟨h1,h2,h3,h4,h5,hw⟩,k⟩:=h
 dsimp only at rt h1 h2 h3 h4 h5 hw
 unfold wg
 walk_at "g"
 refine ⟨_,_,_,true,rfl,TyO.tup rt,cW _ _,?_⟩
 walk_at "g"
 refine cS ?_
 refine p3 (iJ (md (mf (iL (jy (by rfl) (jG (jx (oH rt) ?_)))))))
 walk_at "g"
 rw [if_neg (by simp)]
 walk_at "g"
 refine ⟨_,_,_,true,rfl,TyO.str _,cW _ _,?_⟩
 walk_at "g"
 refine cS ?_
 walk_at "g"
 refine ⟨_,rfl,3,rfl,t,_,rfl,oH rt,by simp [HT.sIx],fun p hp=>?_⟩
 refine ⟨p,rfl,⟨_,Gw av⟩,?_⟩
 have s1:Same H (upd H p (.tup [.int g,.int to,.int n])):=Same.new hp
 have g1:upd H p (.tup [.int g,.int to,.int n]) p=some (.tup [.int g,.int to,.int n]):=av
 show ∃ W:Nat→Nat→St→Hp→Prop,(∃ m,W 0 m _ (upd H p (.tup [.int g,.int to,.int n])))∧_
 generalize upd H p (.tup [.int g,.int to,.int n])=H1 at *
 refine zH (K:=K) (a:=p) (xs:=[.int g,.int to,.int n]) (fun i σ H'=>∃ v,σ=[some (.ref t),some (.int c),v]∧H'=H1) ⟨none,rfl,rfl⟩ ?_ ?_ ?_
 ·rintro i σ H' hi ⟨v,rfl,rfl⟩
  exact Gw g1
 ·rintro i x σ H' hx ⟨v,rfl,rfl⟩
  obtain ⟨z,rfl⟩:∃ z,x=V.int z:=by
   have:=lam hx
   simp only [List.mem_cons,List.not_mem_nil,or_false] at this
   rcases this with rfl | rfl | rfl <;> exact ⟨_,rfl⟩
  walk_at "g"
  refine ⟨z,rfl,?_⟩
  walk_at "g"
  refine cS ?_
  walk_at "g"
  exact ⟨_,rfl,rfl⟩
 ·rintro σ H' ⟨v,rfl,rfl⟩
  have rt1:=rt.same s1
  walk_at "A"
  rename_i q hq H2 s2 g2
  show if (if true=true then !dQ (.str w) _ else _)=true then _ else _
  rw [if_pos (rfl:true=true),zN hw]
  refine cS ?_
  have rt2:=rt1.same s2
  walk_at "g"
  rw [if_pos (decide_eq_true h1)]
  walk_at "g"
  rw [if_pos (decide_eq_true h2)]
  walk_at "g"
  rw [if_pos (decide_eq_true h3)]
  walk_at "g"
  rw [if_pos (decide_eq_true h4)]
  walk_at "g"
  rw [show (!decide (V.int g=V.int to))=true by simp [h5]]
  exact k H2 (s1.trans s2)
def Aw(c:Int)(ls:List au):Prop:=∀ l∈ls,uU c l
def gF:Sp:=fun vs H Q _=>∃ a c ls,vs=[.ref a,.int c]∧Rep H [] (.ref a) (m_ ls)∧Aw c ls∧∀ H',Same H H'→Q (.bl true) H'
theorem Fs{K:PySem.W.Frag}{vs:List V}{H:Hp}{Q:VK}{E:XK}(h:gF vs H Q E):vw K gS { nx:=fun _ H'=>Q .non H',rt:=Q } (aT ["_law_found","_law_count","_law_letter"] vs) H:=by
 obtain ⟨a,c,ls,rfl,hb,hw,k⟩:=h
 obtain ⟨_,xs,e,rd,_,rs⟩:=id hb.lst_inv
 cases e
 unfold vw
 walk_at "g"
 refine ⟨_,_,_,true,rfl,TyO.list rd,cW _ _,?_⟩
 walk_at "g"
 refine cS ?_
 walk_at "g"
 refine d3 (K:=K) (a:=a) (xs:=xs) (fun i σ H'=>∃ v,σ=[some (.ref a),some (.int c),v]∧Same H H') ⟨none,rfl,Same.refl _⟩ ?_ ?_ ?_
 ·rintro i σ H' hi ⟨v,rfl,s⟩
  exact s.seq (dR rd)
 ·rintro i x σ H' hx ⟨v,rfl,s⟩
  obtain ⟨l,t,hb',rfl,rt⟩:=fG rs hx
  walk_at "g"
  refine ⟨t,c,l,rfl,rt.same s,hw l (lam hb'),fun H2 s2=>?_⟩
  walk_at "g"
  refine cS ?_
  walk_at "g"
  exact ⟨_,rfl,s.trans s2⟩
 ·rintro σ H' ⟨v,rfl,s⟩
  walk_at "g"
  exact k H' s
end Oh
set_option Elab.async false
set_option linter.all false
namespace L2
open PySem PySem.Spec PyProof.Rows
end L2
set_option Elab.async false
set_option linter.all false
set_option maxRecDepth 100000
namespace L2
open PySem PySem.Spec PyProof.Rows
variable {X:Cx}
def zc(K:PySem.W.Frag):List V→Hp→VK→Prop:=fun xs H Q=>∃ x a T1 T2 t b,xs=[.ref x,.ref a]∧((∃ ys,Rd H x (.lst ys)∧t=Value.type "list")∨∃ ys,Rd H x (.tup ys)∧t=Value.type "tuple")∧H a=some (.tup [.ty T1,.ty T2])∧
 PySem.W.kitAny K t [.type T1,.type T2]=some b∧Q (.bl b) H
theorem qP:gG X (.builtin "isinstance") (zc X.K):=by
 intro pins s σ H xs us Q I r h
 obtain ⟨x,a,T1,T2,t,b,rfl,hx,ga,e,q⟩:=h
 obtain ⟨u,v,rfl,ru,rv⟩:=Vals.two r
 cases (show u=Value.ref x from ru)
 cases (show v=Value.ref a from rv)
 obtain ⟨its,vi,⟨o,h1,h2,n,h3⟩,_⟩:=I.tuple (a:=a) (Or.inl (.inl ga))
 obtain ⟨i1,i2,rfl,r1,r2⟩:=Vals.two vi
 cases (show i1=Value.type T1 from r1)
 cases (show i2=Value.type T2 from r2)
 obtain ⟨oc,od,odt,osl⟩:=o
 dsimp only at h2 h3
 subst h2
 subst h3
 rcases hx with ⟨ys,rd,rfl⟩ | ⟨ys,rd,rfl⟩
 ·rcases rd with ea | ⟨ob,ea⟩
  ·obtain ⟨_,_,n,_,h1'⟩:=(show ObjOk X.prog X.w H s.heap x (.lst ys) from I.hok x _ ea)
   exact PySem.W.kia_tup PySem.W.kitx_list I.kIn ⟨_,h1',rfl⟩ h1 e (fun z=>nomatch z) fun tk=>⟨.bl b,H,I.tok tk,rfl,q⟩
  ·obtain ⟨_,_,_,n,_,h1'⟩:=(show ObjOk X.prog X.w H s.heap x (.frz ob (.lst ys)) from I.hok x _ ea)
   exact PySem.W.kia_tup PySem.W.kitx_list I.kIn ⟨_,h1',rfl⟩ h1 e (fun z=>nomatch z) fun tk=>⟨.bl b,H,I.tok tk,rfl,q⟩
 ·obtain ⟨its',_,⟨o',h1',h2',_⟩,_⟩:=I.tuple (Or.inl rd)
  exact PySem.W.kia_tup PySem.W.kitx_tuple I.kIn ⟨o',h1',h2'⟩ h1 e (fun z=>nomatch z) fun tk=>⟨.bl b,H,I.tok tk,rfl,q⟩
theorem xM(K:PySem.W.Frag):PySem.W.kitAny K (.type "list") [.type "list",.type "tuple"]=some true:=by with_unfolding_all rfl
end L2
set_option Elab.async false
set_option linter.all false
set_option maxRecDepth 100000
set_option maxHeartbeats 4000000
namespace L2
open PySem PySem.Spec PyProof.Rows
def zh:List V→Hp→VK→Prop:=fun xs H Q=>∃ i j:Int,xs=[.int i,.int j]∧∀ r,H r=none→Q (.ref r) (upd H r (.rng i j))
def jz(i j:Int):List V:=(List.range (j - i).toNat).map fun (k:Nat)=>V.int (i+k)
def rp:List V→Hp→VK→Prop:=fun xs H Q=>∃ p,∃ i j:Int,xs=[.ref p]∧H p=some (.rng i j)∧(-(2 ^ 62)≤i∧i<2 ^ 62∧-(2 ^ 62)≤j∧j<2 ^ 62)∧(j - i).toNat≤2 ^ 24∧∀ l,H l=none→Q (.ref l) (upd H l (.lst (jz i j)))
section
variable {X:Cx}
theorem xi:gG X (.type "range") zh:=by
 intro pins s σ H xs us Q I r h
 obtain ⟨i,j,rfl,q⟩:=h
 cases r with
 | cons r rr=>
  cases rr with
  | cons r' rr=>
   cases rr
   obtain ⟨t,rfl⟩:=r
   obtain ⟨t',rfl⟩:=r'
   refine call_range_2 ?_
   exact ⟨.ref s.heap.objs.size,_,I.laid (fun b o e=>Heap.get?_push_of_some _ e) (lat _) (show ObjOk X.prog X.w _ _ _ (.rng i j) from ⟨_,_,_,Heap.get?_push_size _ rfl⟩),rfl,q _ (I.hok.fresh (lat _))⟩
theorem pE:∀ (l:List Value) (f:Nat→V) (o:Nat),(∀ j v,l[j]?=some v→RelV (f (o+j)) v)→Vals ((List.range' o l.length).map f) l
 | [],f,o,h=>.nil
 | x::r,f,o,h=>by
  rw [laj,List.range'_succ,lah]
  refine .cons (h 0 x rfl) (pE r f (o+1) fun j v e=>?_)
  have:=h (j+1) v (by simpa using e)
  rwa [show o+(j+1)=o+1+j from by omega] at this
theorem vA{a:Int}{acc:Array Value}{n:Nat}(h:ItemsOf (fun i v=>∃ t,v=Value.int (a+i*1) t) acc n):Vals ((List.range n).map fun (k:Nat)=>V.int (a+k)) acc.toList:=by
 obtain ⟨hs,hv⟩:=h
 have:=pE acc.toList (fun k=>V.int (a+(k:Int))) 0 fun j v e=>by
  obtain ⟨t,rfl⟩:=hv j v (by simpa using e)
  exact ⟨t,by simp⟩
 rw [← hs,List.range_eq_range']
 simpa using this
theorem rY(hc:X.calm=true):gG X (.type "list") rp:=by
 intro pins s σ H xs us Q I r h
 obtain ⟨p,i,j,rfl,hp,⟨h1,h2,h3,h4⟩,hl,q⟩:=h
 obtain ⟨u,rfl,rx⟩:=n6 r
 cases rx
 obtain ⟨t,u,v,e⟩:=I.hok p _ hp
 have hsz:Builtin.Range.rangeSize i j 1=(((j - i).toNat:Nat):Int):=by rw [rangeSize_one];split <;> omega
 refine call_list_range (n:=(j - i).toNat) (I.ok.hd hc) e (small_one h1 h2 h3 h4) hsz hl fun h' tk acc' c' kp hS hacc=>?_
 have rv:=vA hacc
 have hlen:(jz i j).length=(j - i).toNat:=by unfold jz;simp
 exact ⟨.ref s.heap.objs.size,_,I.laid (t':=tk) kp (lat _) (show ObjOk X.prog X.w _ h' _ (.lst (jz i j)) from ⟨by rw [hlen];exact hl,acc'.toList,c',rv,by simpa using hS⟩),rfl,q _ (I.hok.fresh (lat _))⟩
end
end L2
set_option Elab.async false
set_option linter.all false
set_option maxRecDepth 100000
set_option maxHeartbeats 4000000
namespace Oh
open PySem L2
def uS(K:PySem.W.Frag):TS:=
  (aC (ff (cP K (ad 0)) (az 0) (aZ (ap cY (ap (bK K) (ad 0) (tC (.int 0))) (ad 1))) (ap (bK K) (ad 0) (tC (.int 1))) [none,some 1]))
def wB(K:PySem.W.Frag)(gK:Sp)(gL:Sp)(aa:Addr):TS:=
  (aq (fc K (ad 0) (ff (en (ae (ad 1) ak)) (az 0) fm (nF aa gL [] E0 (ae (ad 0) (ae (ad 1) (ae (a_ gK [] E0 (ae (ad 2) (ae (ad 0) ak))) ak)))) [none,some 1,some 2]) "houses")
  (aq (fc K (ad 0) (cG ak) "letters")
  (fc K (ad 0) (cG ak) "unspent")))
def vk(K:PySem.W.Frag)(hZ:Sp)(dI:Sp)(gz:Sp)(gi:Sp)(h7:Sp)(gh:Sp)(ac:Addr):TS:=
  (aq (bg (ap (bK K) (ad 1) (tC (.int 0))) (az 2))
  (aq (aX (aZ (ap cY (ad 2) (tC (.str "begin"))))
  (aC (bc ac "begin" hZ [] E0 (ad 0) (ae (ap (bK K) (ad 1) (tC (.int 1))) (ae (ap (bK K) (ad 1) (tC (.int 2))) ak))))
  aM)
  (aq (aX (aZ (ap cY (ad 2) (tC (.str "carry"))))
  (aC (bc ac "carry" dI [] E0 (ad 0) (ae (ap (bK K) (ad 1) (tC (.int 1))) (ae (ap (bK K) (ad 1) (tC (.int 2))) ak))))
  aM)
  (aq (aX (aZ (ap cY (ad 2) (tC (.str "query"))))
  (aC (bc ac "query" gz [] E0 (ad 0) (ae (ap (bK K) (ad 1) (tC (.int 1))) (ae (ap (bK K) (ad 1) (tC (.int 2))) ak))))
  aM)
  (aq (aX (aZ (ap cY (ad 2) (tC (.str "stop"))))
  (aC (bc ac "stop" gi [] E0 (ad 0) (ae (ap (bK K) (ad 1) (tC (.int 1))) ak)))
  aM)
  (aq (aX (aZ (ap cY (ad 2) (tC (.str "wake"))))
  (aC (bc ac "wake" h7 [] E0 (ad 0) (ae (ap (bK K) (ad 1) (tC (.int 1))) ak)))
  aM)
  (aC (bc ac "sweep" gh [] E0 (ad 0) ak))))))))
def vY(K:PySem.W.Frag)(cC:Sp)(gR:Sp)(dH:Sp)(aa:Addr)(ac:Addr):TS:=
  (aq (bg (ap (cJ K) (br K (ad 0) "houses") (ap b3 (ad 1) (bv (b5 K) (ae (br K (ad 0) "houses") ak)))) (az 3))
  (aq (aX (im (cb (tB (br K (ad 3) "awake"))) (tB (a_ cC [] E0 (ae (br K (ad 3) "book") (ae (ad 1) ak)))))
  (aC (tC .non))
  aM)
  (aq (bg (bv (b5 K) (ae (br K (ad 3) "book") ak)) (az 4))
  (aq (b1 (bc ac "send_or_stop" dH [] E0 (ad 0) (ae (ad 3) (ae (bc aa "begin" gR [] E0 (ad 3) (ae (ad 1) ak)) (ae (ad 2) ak)))))
  (aC (o4 (m9 K) (br K (ad 3) "book") (iD (ad 4)) fY))))))
def vX(K:PySem.W.Frag)(gX:Sp)(dH:Sp)(aa:Addr)(ac:Addr):TS:=
  (aq (aX (aZ (ap II (ad 1) (bv (b5 K) (ae (br K (ad 0) "letters") ak))))
  (aC (tC .non))
  aM)
  (aq (bg (ap (cJ K) (br K (ad 0) "letters") (ad 1)) (az 3))
  (aq (bg (ap (cJ K) (br K (ad 0) "houses") (ap (bK K) (ad 3) (tC (.int 1)))) (az 4))
  (aq (aX (cb (tB (br K (ad 4) "awake")))
  (aC (tC .non))
  aM)
  (aq (bg (bv (b5 K) (ae (br K (ad 4) "book") ak)) (az 5))
  (aq (b1 (bc ac "send_or_stop" dH [] E0 (ad 0) (ae (ad 4) (ae (bc aa "got" gX [] E0 (ad 4) (ae (ad 3) ak)) (ae (ad 2) ak)))))
  (aC (o4 (m9 K) (br K (ad 4) "book") (iD (ad 5)) fY))))))))
def ux(K:PySem.W.Frag)(hE:Sp)(cw:Sp)(aa:Addr)(ac:Addr):TS:=
  (aq (bg (bc aa "query" hE [] E0 (ap (cJ K) (br K (ad 0) "houses") (ad 1)) (ae (ad 2) ak)) (az 3))
  (aq (b1 (bc ac "send" cw [] E0 (ad 0) (ae (ad 3) ak)))
  (aC (ap mS (bv (b5 K) (ae (ad 3) ak)) (tC (.int 0))))))
def uK(K:PySem.W.Frag)(dN:Sp)(aa:Addr):TS:=
  (aq (bg (ap (cJ K) (br K (ad 0) "houses") (ad 1)) (az 2))
  (aq (aX (cb (tB (br K (ad 2) "awake")))
  (aC (tC (.bl false)))
  aM)
  (aq (b1 (bc aa "stop" dN [] E0 (ad 2) ak))
  (aC (tC (.bl true))))))
def vf(K:PySem.W.Frag)(gJ:Sp)(cw:Sp)(aa:Addr)(ac:Addr):TS:=
  (aq (bg (ap (cJ K) (br K (ad 0) "houses") (ad 1)) (az 2))
  (aq (aX (tB (br K (ad 2) "awake"))
  (aC (tC .non))
  aM)
  (aq (bg (bv (b5 K) (ae (br K (ad 2) "book") ak)) (az 3))
  (aq (b1 (bc ac "send" cw [] E0 (ad 0) (ae (bc aa "wake" gJ [] E0 (ad 2) ak) ak)))
  (aC (o4 (m9 K) (br K (ad 2) "book") (iD (ad 3)) fY))))))
def uY(K:PySem.W.Frag)(dI:Sp)(g_:Sp)(ac:Addr):TS:=
  (aq (bg (cG ak) (az 1))
  (aq (bg (tC (.int 0)) (az 2))
  (aq (r8 (aZ (ap lU (ad 2) (bv (b5 K) (ae (br K (ad 0) "unspent") ak))))
  (aq (bg (ap (cJ K) (br K (ad 0) "unspent") (ad 2)) (az 3))
  (aq (bg (bc ac "carry" dI [] E0 (ad 0) (ae (ad 3) (ae (tC (.bl true)) ak))) (az 4))
  (iU (aX (tB (i_ (ad 4)))
  (aq (bg (ap (bK K) (ap (cJ K) (br K (ad 0) "letters") (ad 3)) (tC (.int 1))) (az 5))
  (b1 (fU K "list" iM (ad 1) (ae (ff (cP K (ad 4)) (az 0) fm (cR (ae (ad 1) (ae (ad 0) ak))) [none,some 5]) ak))))
  aM)
  (A3 2 (tC (.int 1)) (Gx fun i j=>i+j))))))
  (aq (fc K (ad 0) (ff (cP K (br K (ad 0) "unspent")) (az 0) (cb (tB (bc ac "is_spent_letter" g_ [] E0 (ad 1) (ae (ad 0) ak)))) (ad 0) [none,some 0]) "unspent")
  (aC (ad 1))))))
def vH(K:PySem.W.Frag)(gj:Sp)(aa:Addr):TS:=
  (aq (bg (ap (cJ K) (br K (ad 0) "letters") (ad 1)) (az 2))
  (aC (bc aa "is_spent" gj [] E0 (ap (cJ K) (br K (ad 0) "houses") (ap (bK K) (ad 2) (tC (.int 1)))) (ae (ad 2) ak))))
def vp(K:PySem.W.Frag)(cw:Sp)(dN:Sp)(ac:Addr)(aa:Addr):TS:=
  (aX (tB (ad 3))
  (b1 (bc ac "send" cw [] E0 (ad 0) (ae (ad 2) ak)))
  (b1 (bc aa "stop" dN [] E0 (ad 1) ak)))
def wx(K:PySem.W.Frag):TS:=
  (aq (bg (bv (b5 K) (ae (br K (ad 0) "letters") ak)) (az 2))
  (aq (b1 (fU K "list" iM (br K (ad 0) "letters") (ae (ad 1) ak)))
  (b1 (fU K "list" iM (br K (ad 0) "unspent") (ae (bv rp (ae (bv zh (ae (ad 2) (ae (bv (b5 K) (ae (br K (ad 0) "letters") ak)) ak))) ak)) ak)))))
def vc(K:PySem.W.Frag)(dP:Sp)(dJ:Sp)(ac:Addr):TS:=
  (aq (bg (nF ac dP [] E0 (ae (ad 0) (ae (ad 1) ak))) (az 3))
  (aq (ei (cP K (ad 2)) (az 4)
  (b1 (bc ac "do" dJ [] E0 (ad 3) (ae (ad 4) ak))))
  (aC (ad 3))))
def v9(K:PySem.W.Frag)(dP:Sp)(dJ:Sp)(ac:Addr):TS:=
  (aq (bg (nF ac dP [] E0 (ae (ad 0) (ae (ad 1) ak))) (az 3))
  (aC (ff (cP K (ad 2)) (az 0) fm (bc ac "do" dJ [] E0 (ad 1) (ae (ad 0) ak)) [none,some 3])))
def uu(K:PySem.W.Frag)(cm:Sp):TS:=
  (aC (ff (cP K (br K (a_ cm [] E0 (ae (ad 0) (ae (ad 1) (ae (ad 2) ak)))) "houses")) (az 0) fm (br K (ad 0) "book") [none]))
def uL(K:PySem.W.Frag)(cm:Sp):TS:=
  (aC (br K (a_ cm [] E0 (ae (ad 0) (ae (ad 1) (ae (ad 2) ak)))) "letters"))
structure cM(K:PySem.W.Frag)(C:Addr):Prop where
 cl:Cls K C
 f1:NoAttr K C "houses"
 f2:NoAttr K C "letters"
 f3:NoAttr K C "unspent"
local macro_rules | `(tactic| walk_at "ne")=>`(tactic| first | assumption | (refine' Ne.symm ?k1;(case k1=>assumption)) | (refine' b8 ?k1 ?k2;(case k1=>assumption);(case k2=>walk_at "hl")) | (refine' iK ?k1 ?k2;(case k1=>assumption);(case k2=>walk_at "rd")) | (refine' Ne.symm (b8 ?k1 ?k2);(case k1=>assumption);(case k2=>walk_at "hl")) | (refine' Ne.symm (iK ?k1 ?k2);(case k1=>assumption);(case k2=>walk_at "rd")))
local macro_rules | `(tactic| walk_at "hl")=>`(tactic| with_reducible first | assumption | exact av | (refine' bo ?k1 ?k2;(case k1=>walk_at "ne");(case k2=>walk_at "hl")) | (refine' Same.at ?k1 ?k2;(case k1=>assumption);(case k2=>walk_at "hl")))
local macro_rules | `(tactic| walk_at "rd")=>`(tactic| with_reducible first | assumption | (refine' Rd.of ?k1;(case k1=>walk_at "hl")) | (refine' Rd.upd ?k1 ?k2;(case k1=>walk_at "ne");(case k2=>walk_at "rd")) | (refine' Rd.same ?k1 ?k2;(case k1=>assumption);(case k2=>walk_at "rd")))
local macro_rules | `(tactic| walk_at "sq")=>`(tactic| with_reducible first | assumption | (refine' dR ?k1;(case k1=>walk_at "rd")) | (refine' oH ?k1;(case k1=>walk_at "rd")) | (refine' SqL.new ?k1 ?k2;(case k1=>assumption);(case k2=>walk_at "sq")) | (refine' Same.seq ?k1 ?k2;(case k1=>assumption);(case k2=>walk_at "sq")))
local macro_rules | `(tactic| walk_at "rf")=>`(tactic| first | with_unfolding_all rfl | assumption)
local macro_rules | `(tactic| walk_at "fl")=>`(tactic| first | with_unfolding_all rfl | exact lP _ | exact lY _)
local macro_rules | `(tactic| walk_at "s")=>`(tactic| with_reducible first
 | refine nN ?_ | refine rJ ?_ | refine mJ ?_ | refine uy ?_ | refine sJ ?_ | refine st_retN ?_
 | refine oz ?_ | refine oG ?_ | refine iJ ?_ | refine yx ?_ | refine wn ?_ | refine rT ?_
 | refine sI ?_ | refine p3 ?_ | refine rD ?_ | refine oT ?_ | refine tw ?_ | refine oK ?_ | refine sf ?_
 | refine mN ?_ | refine md ?_ | refine ww ?_ | refine qf ?_ | refine oE ?_
 | refine jG ?_ | refine iL ?_ | refine sN ?_ | refine qE ?_ | refine oq ?_ | refine ow ?_ | refine mf ?_
 | (refine' jy ?k1 ?_;(case k1=>walk_at "rf")) | refine yi ?_
 | refine rZ ?_ | refine uz ?_ | (refine' d5 ?k1 ?_;(case k1=>first | exact i' (by decide) | exact vE (by decide) | decide | (show (0:Int)<_;decide)))
 | (refine' lO ?k1 ?_;(case k1=>walk_at "rf")) | (refine' qK ?k1 ?_;(case k1=>walk_at "rf"))
 | (refine' b2 ?k1 ?k2 ?_;(case k1=>walk_at "sq");(case k2=>walk_at "rf")) | (refine' tH ?k1 ?k2 ?_;(case k1=>walk_at "sq");(case k2=>walk_at "rf"))
 | (refine' mh ?k1 ?_;(case k1=>walk_at "sq")) | (refine' jx ?k1 ?_;(case k1=>walk_at "sq"))
 | (refine' sX ?k1 ?k2 ?k3 ?_;(case k1=>walk_at "sq");(case k2=>walk_at "rf");(case k3=>walk_at "fl"))
 | (refine' qL ?k1 ?k2 ?k3 ?_;(case k1=>walk_at "sq");(case k2=>walk_at "rf");(case k3=>walk_at "fl"))
 | (refine' mI ?k1 ?_;(case k1=>walk_at "sq")) | refine st_min ?_ | refine st_intB ?_
 | refine vn ?_ | refine lL ?_ | refine ox ?_ | (refine' qY ?k1 ?_;(case k1=>walk_at "sq"))
 | refine oy ?_ | (refine' oX ?k1 ?k2 ?_;(case k1=>walk_at "hl");(case k2=>walk_at "rf")) | refine oZ ?_
 | (refine' sy ?k1 ?k2 ?k3 ?k4 ?_;(case k1=>walk_at "hl");(case k2=>assumption);(case k3=>assumption);(case k4=>walk_at "rf")) | (refine' oW ?k1 ?_;(case k1=>walk_at "hl"))
 | refine uF ?_ | refine qy ?_ | refine on ?_ | refine mL ?_ | refine st_dget ?_ | refine nh ?_
 | refine qF ?_ | refine mY ?_ | (refine' rA ?k1 ?_;(case k1=>walk_at "sq")) | refine oY ?_ | refine wb ?_ | refine oF ?_
 | (refine' uA ?k1 ?_;(case k1=>with_unfolding_all rfl))
 | (refine' qM ?k1 ?_;(case k1=>walk_at "hl")) | (refine' ng ?k1 ?_;(case k1=>walk_at "hl")))
local macro_rules | `(tactic| walk_at "g")=>`(tactic| repeat walk_at "s")
local macro_rules | `(tactic| walk_at "w")=>`(tactic| ((with_reducible refine tq ?_);intro p hp;generalize hH:upd _ p _=H';have hs:=om hp hH;have hg:=ui hH;clear hH))
local macro_rules | `(tactic| walk_at "sm")=>`(tactic| with_reducible first | assumption | exact Same.refl _ | (refine' Same.trans ?k1 ?k2;(case k2=>assumption);(case k1=>walk_at "sm")))
local macro_rules | `(tactic| walk_at "A")=>`(tactic| repeat (first | walk_at "s" | walk_at "w"))
structure HallS where
 hs:List HS
 ls:List au
 un:List Nat
inductive Ans where
 | non | bl (b:Bool) | lines (ls:List bh) | pairs (ps:List (Int×bh))
def fk(x:Int×bh):PyData:=.tuple [.int x.1,c_ x.2]
def Ans.D:Ans→PyData
 | .non=>.none | .bl b=>.bool b | .lines ls=>cU ls | .pairs ps=>.list (ps.map fk)
def HallS.send(S:HallS)(sent:List au):HallS:={ S with ls:=S.ls++sent,un:=S.un++(List.range sent.length).map (S.ls.length+·) }
def HallS.put(S:HallS)(i:Nat)(h:HS):HallS:={ S with hs:=S.hs.set i h }
def HallS.post(S:HallS)(i:Nat)(r:HS×List au)(st:Bool):HallS:=if st=true then (S.put i r.1).send r.2 else S.put i r.1.stop
def HallS.lead(S:HallS)(n:Int):Nat:=(n % (S.hs.length:Int)).toNat
def HallS.begin(S:HallS)(n:Int)(st:Bool):HallS×Ans:=
 match S.hs[S.lead n]? with
 | none=>(S,.non)
 | some h=>if h.up=true∧ar h.book n=[] then (S.post (S.lead n) (h.begin n) st,.lines ((h.begin n).1.book.drop h.book.length)) else (S,.non)
def HallS.carryL(S:HallS)(l:au)(st:Bool):HallS×Ans:=
 match S.hs[l.2.1.toNat]? with
 | none=>(S,.non)
 | some h=>if h.up=true then (S.post l.2.1.toNat (h.got l) st,.lines ((h.got l).1.book.drop h.book.length)) else (S,.non)
def HallS.carry(S:HallS)(k:Int)(st:Bool):HallS×Ans:=
 match S.ls[k.toNat]? with
 | none=>(S,.non)
 | some l=>S.carryL l st
def HallS.query(S:HallS)(i:Nat)(n:Int):HallS×Ans:=
 match S.hs[i]? with
 | none=>(S,.non)
 | some h=>(S.send (h.query n),.bl (decide (0<(h.query n).length)))
def HallS.stop(S:HallS)(i:Nat):HallS×Ans:=
 match S.hs[i]? with
 | none=>(S,.non)
 | some h=>if h.up=true then (S.put i h.stop,.bl true) else (S,.bl false)
def HallS.wake(S:HallS)(i:Nat):HallS×Ans:=
 match S.hs[i]? with
 | none=>(S,.non)
 | some h=>if h.up=true then (S,.non) else ((S.put i h.wake.1).send h.wake.2,.lines (h.wake.1.book.drop h.book.length))
def mO(l:au):Ans→List (Int×bh)
 | .lines ls=>ls.map fun x=>(l.2.1,x)
 | _=>[]
def HallS.turn(S:HallS)(k:Nat):HallS×List (Int×bh):=
 match S.ls[k]? with
 | none=>(S,[])
 | some l=>((S.carryL l true).1,mO l (S.carryL l true).2)
def HallS.sweepGo:Nat→HallS→Nat→List (Int×bh)→Option (HallS×List (Int×bh))
 | 0,S,pl,w=>if pl<S.un.length then none else some (S,w)
 | f+1,S,pl,w=>if h:pl<S.un.length then (S.turn S.un[pl]).1.sweepGo f (pl+1) (w++(S.turn S.un[pl]).2) else some (S,w)
def HallS.spentAt(S:HallS)(k:Nat):Bool:=
 match S.ls[k]? with
 | none=>false
 | some l=>match S.hs[l.2.1.toNat]? with
  | none=>false
  | some h=>h.spent l
def HallS.trim(S:HallS):HallS:={ S with un:=S.un.filter fun k=>!S.spentAt k }
structure LetOk(c:Nat)(l:au):Prop where
 g0:0≤l.1
 g1:l.1<c
 t0:0≤l.2.1
 t1:l.2.1<c
 w:l.2.2.2∈([("ask":Str),"yes","no","bound","off","query"]:List Str)
structure HallOk(c:Nat)(S:HallS):Prop where
 len:S.hs.length=c
 c1:2≤c
 c2:c≤20
 num:∀ (i:Nat) (h:HS),S.hs[i]?=some h→h.num=i∧h.oth=bN i c
 let_:∀ l∈S.ls,LetOk c l
 un:∀ k∈S.un,k<S.ls.length
theorem dz{H:Hp}{a b:Addr}{o:HO}(h:H a=none)(h':H b=some o):a≠b:=fun e=>by rw [e,h'] at h;cases h
def iR(ph pl pu:Addr):List (Str×V):=[("houses",.ref ph),("letters",.ref pl),("unspent",.ref pu)]
structure HallIn(CH CX:Addr)(H:Hp)(q:Addr)(ps:Nat→Addr)(S:HallS)(R:List Addr)(N:Nat)(dx ph pl pu:Addr)(Rs:Nat→List Addr)(ys:List V):Prop where
 ob:H q=some (.ins CX dx (iR ph pl pu))
 oh:H ph=some (.lst ((List.range S.hs.length).map fun i=>.ref (ps i)))
 ol:H pl=some (.lst ys)
 ls:Reps H [] ys (S.ls.map b9)
 ou:H pu=some (.lst (S.un.map fun (k:Nat)=>.int k))
 hs:∀ i h,S.hs[i]?=some h→HouseAt CH H (ps i) h (Rs i) N
 dj:∀ i j a,i≠j→i<S.hs.length→j<S.hs.length→a∈Rs i→a∈Rs j→False
 nq:∀ i a,i<S.hs.length→a∈Rs i→a≠q∧a≠ph∧a≠pl∧a≠pu
 n1:ph≠pl
 n2:ph≠pu
 n3:pl≠pu
 m1:q∈R
 m2:ph∈R
 m3:pl∈R
 m4:pu∈R
 m5:∀ i a,i<S.hs.length→a∈Rs i→a∈R
 trk:∀ a∈R,∃ o,H a=some o
def HallAt(CH CX:Addr)(H:Hp)(q:Addr)(ps:Nat→Addr)(S:HallS)(R:List Addr)(N:Nat):Prop:=∃ dx ph pl pu Rs ys,HallIn CH CX H q ps S R N dx ph pl pu Rs ys
structure HMove(CH CX q:Addr)(ps:Nat→Addr)(H:Hp)(R:List Addr)(H':Hp)(S':HallS)(R':List Addr)(N':Nat):Prop where
 at_:HallAt CH CX H' q ps S' R' N'
 chg:Chg R H H'
 gr:Grow R H R'
 sb:∀ a∈R,a∈R'
theorem HMove.trans{CH CX q:Addr}{ps:Nat→Addr}{H H1 H2:Hp}{R R1 R2:List Addr}{S1 S2:HallS}{N1 N2:Nat}(a:HMove CH CX q ps H R H1 S1 R1 N1)(b:HMove CH CX q ps H1 R1 H2 S2 R2 N2):HMove CH CX q ps H R H2 S2 R2 N2:=
 ⟨b.at_,a.chg.grow a.gr b.chg,a.gr.trans a.chg b.gr,fun x hx=>b.sb x (a.sb x hx)⟩
theorem HallIn.same{CH CX:Addr}{H H':Hp}{q:Addr}{ps:Nat→Addr}{S:HallS}{R:List Addr}{N:Nat}{dx ph pl pu:Addr}{Rs:Nat→List Addr}{ys:List V}(I:HallIn CH CX H q ps S R N dx ph pl pu Rs ys)(s:Same H H'):HallIn CH CX H' q ps S R N dx ph pl pu Rs ys:=
 { I with ob:=s _ _ I.ob,oh:=s _ _ I.oh,ol:=s _ _ I.ol,ls:=I.ls.same s,ou:=s _ _ I.ou,hs:=fun i h e=>(I.hs i h e).same s,trk:=fun a ha=>(by obtain ⟨o,e⟩:=I.trk a ha;exact ⟨o,s _ _ e⟩) }
theorem HallAt.same{CH CX:Addr}{H H':Hp}{q:Addr}{ps:Nat→Addr}{S:HallS}{R:List Addr}{N:Nat}(I:HallAt CH CX H q ps S R N)(s:Same H H'):HallAt CH CX H' q ps S R N:=by
 obtain ⟨dx,ph,pl,pu,Rs,ys,I⟩:=I
 exact ⟨dx,ph,pl,pu,Rs,ys,I.same s⟩
theorem HallAt.move{CH CX:Addr}{H H':Hp}{q:Addr}{ps:Nat→Addr}{S:HallS}{R:List Addr}{N:Nat}(I:HallAt CH CX H q ps S R N)(s:Same H H'):HMove CH CX q ps H R H' S R N:=⟨I.same s,.of_same s,.refl _ _,fun _ h=>h⟩
theorem HallIn.more{CH CX:Addr}{H:Hp}{q:Addr}{ps:Nat→Addr}{S:HallS}{R:List Addr}{N M:Nat}{dx ph pl pu:Addr}{Rs:Nat→List Addr}{ys:List V}(I:HallIn CH CX H q ps S R N dx ph pl pu Rs ys)(hN:N≤M):HallIn CH CX H q ps S R M dx ph pl pu Rs ys:=
 { I with hs:=fun i h e=>(I.hs i h e).more hN }
theorem HallAt.more{CH CX:Addr}{H:Hp}{q:Addr}{ps:Nat→Addr}{S:HallS}{R:List Addr}{N M:Nat}(I:HallAt CH CX H q ps S R N)(hN:N≤M):HallAt CH CX H q ps S R M:=by
 obtain ⟨dx,ph,pl,pu,Rs,ys,I⟩:=I
 exact ⟨dx,ph,pl,pu,Rs,ys,I.more hN⟩
theorem HMove.more{CH CX q:Addr}{ps:Nat→Addr}{H H':Hp}{R R':List Addr}{S':HallS}{N' M:Nat}(m:HMove CH CX q ps H R H' S' R' N')(hN:N'≤M):HMove CH CX q ps H R H' S' R' M:=⟨m.at_.more hN,m.chg,m.gr,m.sb⟩
theorem HallAt.trk{CH CX:Addr}{H:Hp}{q:Addr}{ps:Nat→Addr}{S:HallS}{R:List Addr}{N:Nat}(I:HallAt CH CX H q ps S R N):∀ a∈R,∃ o,H a=some o:=by
 obtain ⟨dx,ph,pl,pu,Rs,ys,I⟩:=I
 exact I.trk
theorem HMove.free{CH CX q:Addr}{ps:Nat→Addr}{H H':Hp}{R R':List Addr}{S':HallS}{N':Nat}(m:HMove CH CX q ps H R H' S' R' N'){b:Addr}(hb:H' b=none):H b=none:=by
 cases e:H b with
 | none=>rfl
 | some o=>
  by_cases y:b∈R
  ·obtain ⟨o',e'⟩:=m.at_.trk b (m.sb b y)
   rw [hb] at e';cases e'
  ·rw [m.chg.keep b o e y] at hb;cases hb
theorem HallIn.step{CH CX:Addr}{H H1:Hp}{q:Addr}{ps:Nat→Addr}{S:HallS}{R:List Addr}{N N1:Nat}{dx ph pl pu:Addr}{Rs:Nat→List Addr}{ys:List V}{i:Nat}{h h1:HS}{Ri:List Addr}
    (I:HallIn CH CX H q ps S R N dx ph pl pu Rs ys)(hi:S.hs[i]?=some h)(m:Move CH (ps i) H (Rs i) H1 h1 Ri N1)(hN:N≤N1) :
    HallIn CH CX H1 q ps (S.put i h1) (Ri++R) N1 dx ph pl pu (fun j=>if j=i then Ri else Rs j) ys∧Chg R H H1∧Grow R H (Ri++R):=by
  have il:i<S.hs.length:=(lab.mp hi).1
  have hlen:(S.put i h1).hs.length=S.hs.length:=by show (S.hs.set i h1).length=_;rw [List.length_set]
  have kp:∀ a o,¬ a∈Rs i→H a=some o→H1 a=some o:=fun a o n e=>m.chg.keep a o e n
  have nqi:∀ a,(a=q∨a=ph∨a=pl∨a=pu)→¬ a∈Rs i:=fun a ha y=>by
    obtain ⟨e1,e2,e3,e4⟩:=I.nq i a il y
    rcases ha with z | z | z | z
    · exact e1 z
    · exact e2 z
    · exact e3 z
    · exact e4 z
  have new:∀ a,a∈Ri→a∈Rs i∨H a=none:=m.gr
  obtain ⟨dx1,po1,pa1,pk1,pc1,xs1,kvs1,J1⟩:=id m.at_
  refine ⟨{ ob:=kp _ _ (nqi _ (.inl rfl)) I.ob,oh:=?_,ol:=kp _ _ (nqi _ (.inr (.inr (.inl rfl)))) I.ol,ls:=cT I.ls m.chg,ou:=kp _ _ (nqi _ (.inr (.inr (.inr rfl)))) I.ou,hs:=?_,dj:=?_,nq:=?_,n1:=I.n1,n2:=I.n2,n3:=I.n3,
            m1:=lak _ I.m1,m2:=lak _ I.m2,m3:=lak _ I.m3,m4:=lak _ I.m4,m5:=?_,trk:=?_ },m.chg.mono (fun b hb=>I.m5 i b il hb),fun a ha=>?_⟩
  · rw [hlen];exact kp _ _ (nqi _ (.inr (.inl rfl))) I.oh
  · intro j g hj
    change (S.hs.set i h1)[j]?=some g at hj
    by_cases e:j=i
    · subst e
      rw [lao il] at hj
      cases hj
      show HouseAt CH H1 (ps j) h1 (if j=j then Ri else Rs j) N1
      rw [if_pos rfl];exact m.at_
    · rw [lar (Ne.symm e)] at hj
      have jl:j<S.hs.length:=(lab.mp hj).1
      show HouseAt CH H1 (ps j) g (if j=i then Ri else Rs j) N1
      rw [if_neg e]
      exact ((I.hs j g hj).chg m.chg fun a ha y=>I.dj j i a e jl il ha y).more hN
  · intro j k a e jl kl ja ka
    rw [hlen] at jl kl
    have old:∀ k,k≠i→k<S.hs.length→a∈Rs k→a∈Ri→False:=fun k e kl y y'=>by
      rcases new a y' with z | z
      · exact I.dj k i a e kl il y z
      · obtain ⟨o,eo⟩:=I.trk a (I.m5 k a kl y)
        rw [z] at eo;cases eo
    by_cases e1:j=i
    · have e2:¬ k=i:=fun z=>e (e1.trans z.symm)
      rw [if_pos e1] at ja;rw [if_neg e2] at ka
      exact old k e2 kl ka ja
    · rw [if_neg e1] at ja
      by_cases e2:k=i
      · rw [if_pos e2] at ka
        exact old j e1 jl ja ka
      · rw [if_neg e2] at ka
        exact I.dj j k a e jl kl ja ka
  · intro j a jl ja
    rw [hlen] at jl
    by_cases e:j=i
    · rw [if_pos e] at ja
      rcases new a ja with z | z
      · exact I.nq i a il z
      · exact ⟨dz z I.ob,dz z I.oh,dz z I.ol,dz z I.ou⟩
    · rw [if_neg e] at ja
      exact I.nq j a jl ja
  · intro j a jl ja
    rw [hlen] at jl
    by_cases e:j=i
    · rw [if_pos e] at ja;exact lal _ ja
    · rw [if_neg e] at ja;exact lak _ (I.m5 j a jl ja)
  · intro a ha
    rcases lap.mp ha with z | z
    · exact J1.trk a z
    · by_cases y:a∈Rs i
      · exact J1.trk a (m.sb a y)
      · obtain ⟨o,e⟩:=I.trk a z
        exact ⟨o,kp _ _ y e⟩
  · rcases lap.mp ha with z | z
    · exact (new a z).imp (fun y=>I.m5 i a il y) id
    · exact .inl z
theorem u0(a b:Nat):jz (a:Int) ((a+b:Nat):Int)=((List.range b).map (a+·)).map fun k=>V.int (k:Nat):=by
 unfold jz
 rw [show (((a+b:Nat):Int) - (a:Int)).toNat=b from by omega,List.map_map]
 refine List.map_congr_left fun k _=>?_
 show V.int ((a:Int)+(k:Int))=V.int ((a+k:Nat):Int)
 rw [Int.natCast_add]
def cw(CH CX:Addr):Sp:=fun vs H Q _=>∃ q a ps S R N sent,vs=[.ref q,.ref a]∧HallAt CH CX H q ps S R N∧LL H R (.ref a) sent∧S.ls.length+sent.length≤900000∧S.un.length+sent.length≤900000∧
 ∀ H',HMove CH CX q ps H R H' (S.send sent) R N→Q .non H'
theorem Do{K:PySem.W.Frag}{CH CX:Addr}{vs:List V}{H:Hp}{Q:VK}{E:XK}(T:cM K CX)(h:cw CH CX vs H Q E):wx K { nx:=fun _ H'=>Q .non H',rt:=Q } (aT ["self","sent","first"] vs) H:=by
  obtain ⟨q,a,ps,S,R,N,sent,rfl,⟨dx,ph,pl,pu,Rs,ys,I⟩,⟨a',zs,ea,ga,na,rz⟩,hl,hu,k⟩:=h
  cases ea
  obtain ⟨cl,f1,f2,f3⟩:=T
  have ob:=I.ob
  have ol:=I.ol
  have ou:=I.ou
  have hyl:ys.length=S.ls.length:=by rw [I.ls.length,laa]
  have hzl:zs.length=sent.length:=by rw [rz.length,laa]
  unfold wx
  walk_at "g"
  refine ⟨.inl ⟨rfl,_,ca ol⟩,?_⟩
  walk_at "g"
  refine i3 ol ga (by rw [sizeLine_eq];omega) ?_
  have npa:a≠pl:=fun e=>na (e▸I.m3)
  have c1:Chg [pl] H (upd H pl (.lst (ys++zs))):=.set (by rw [ol];exact True.intro) (by simp)
  have ob1:upd H pl (.lst (ys++zs)) q=_:=bo (cr ob ol (by intro z;cases z)) ob
  have ou1:upd H pl (.lst (ys++zs)) pu=_:=bo I.n3.symm ou
  have oh1:upd H pl (.lst (ys++zs)) ph=_:=bo I.n1 I.oh
  have ol1:upd H pl (.lst (ys++zs)) pl=some (.lst (ys++zs)):=av
  have t1:=eY (a:=pl) (o:=.lst (ys++zs)) I.trk
  generalize upd H pl (.lst (ys++zs))=H1 at *
  walk_at "g"
  refine ⟨.inl ⟨rfl,_,ca ou1⟩,?_⟩
  walk_at "g"
  refine ⟨_,_,rfl,fun r hr=>?_⟩
  have s2:Same H1 (upd H1 r (.rng (ys.length:Int) ((ys++zs).length:Nat))):=Same.new hr
  have gr:upd H1 r (.rng (ys.length:Int) ((ys++zs).length:Nat)) r=some (.rng (ys.length:Int) ((ys++zs).length:Nat)):=av
  generalize upd H1 r (.rng (ys.length:Int) ((ys++zs).length:Nat))=H2 at *
  walk_at "g"
  refine ⟨r,_,_,rfl,gr,⟨by omega,by omega,by omega,by rw [laf];omega⟩,by rw [laf];omega,fun l hl'=>?_⟩
  rw [laf,u0,hyl,hzl]
  have s3:Same H2 (upd H2 l (.lst (((List.range sent.length).map (S.ls.length+·)).map fun k=>V.int (k:Nat)))):=Same.new hl'
  have g3:upd H2 l (.lst (((List.range sent.length).map (S.ls.length+·)).map fun k=>V.int (k:Nat))) l=some (.lst (((List.range sent.length).map (S.ls.length+·)).map fun k=>V.int (k:Nat))):=av
  generalize upd H2 l (.lst (((List.range sent.length).map (S.ls.length+·)).map fun k=>V.int (k:Nat)))=H3 at *
  have s13:=s2.trans s3
  have ou3:=s13 _ _ ou1
  walk_at "g"
  refine i3 ou3 g3 (by simp only [List.length_map,List.length_range];rw [sizeLine_eq];omega) ?_
  have eun:(S.un.map fun k=>V.int (k:Nat))++(((List.range sent.length).map (S.ls.length+·)).map fun k=>V.int (k:Nat))=(S.send sent).un.map fun k=>V.int (k:Nat):=by
    show _=(S.un++(List.range sent.length).map (S.ls.length+·)).map _
    rw [lai]
  rw [eun]
  have c4:Chg [pu] H3 (upd H3 pu (.lst ((S.send sent).un.map fun k=>V.int (k:Nat)))):=.set (by rw [ou3];exact True.intro) (by simp)
  have cA:Chg [pl,pu] H (upd H3 pu (.lst ((S.send sent).un.map fun k=>V.int (k:Nat)))):=((c1.mono (by simp)).trans (.of_same s13)).trans (c4.mono (by simp))
  have kp:∀ {a:Addr} {o:HO},H1 a=some o→a≠pu→upd H3 pu (.lst ((S.send sent).un.map fun k=>V.int (k:Nat))) a=some o:=fun z1 z2=>bo z2 (s13 _ _ z1)
  refine k _ ⟨⟨dx,ph,pl,pu,Rs,ys++zs,?_⟩,cA.mono (fun b hb=>?_),.refl _ _,fun _ h=>h⟩
  · exact { ob:=kp ob1 (cr ob ou (by intro z;cases z)),oh:=kp oh1 I.n2,ol:=kp ol1 I.n3,
            ls:=(by
              show Reps _ _ _ ((S.ls++sent).map b9)
              rw [lai]
              exact (cT I.ls cA).append (dA (cT rz cA))),
            ou:=av,hs:=fun i h e=>(I.hs i h e).chg cA (fun b hb y=>(by
              have il:i<S.hs.length:=(lab.mp (show S.hs[i]?=some h from e)).1
              obtain ⟨_,_,e3,e4⟩:=I.nq i b il hb
              simp only [List.mem_cons,List.not_mem_nil,or_false] at y
              rcases y with z | z
              · exact e3 z
              · exact e4 z)),
            dj:=I.dj,nq:=I.nq,n1:=I.n1,n2:=I.n2,n3:=I.n3,m1:=I.m1,m2:=I.m2,m3:=I.m3,m4:=I.m4,m5:=I.m5,
            trk:=eY fun a ha=>(by obtain ⟨o,e⟩:=t1 a ha;exact ⟨o,s13 _ _ e⟩) }
  · simp only [List.mem_cons,List.not_mem_nil,or_false] at hb
    rcases hb with rfl | rfl
    · exact I.m3
    · exact I.m4
theorem HallAt.step{CH CX:Addr}{H H1:Hp}{q:Addr}{ps:Nat→Addr}{S:HallS}{R:List Addr}{N N1:Nat}{dx ph pl pu:Addr}{Rs:Nat→List Addr}{ys:List V}{i:Nat}{h h1:HS}{Ri:List Addr}
  (I:HallIn CH CX H q ps S R N dx ph pl pu Rs ys)(hi:S.hs[i]?=some h)(m:Move CH (ps i) H (Rs i) H1 h1 Ri N1)(hN:N≤N1):HMove CH CX q ps H R H1 (S.put i h1) (Ri++R) N1:=by
 obtain ⟨J,c,g⟩:=I.step hi m hN
 exact ⟨⟨_,_,_,_,_,_,J⟩,c,g,fun a ha=>lak _ ha⟩
theorem LL.wide{H0 H:Hp}{R R':List Addr}{v:V}{ls:List au}(h:LL H R v ls)(f:fi H0 v)(t:∀ a∈R',∃ o,H0 a=some o):LL H (R++R') v ls:=by
 obtain ⟨l,ys,rfl,g,n,r⟩:=h
 refine ⟨l,ys,rfl,g,fun y=>?_,dA r⟩
 rcases lap.mp y with z | z
 ·exact n z
 ·exact di t (f l rfl) z
def dH(CH CX:Addr):Sp:=fun vs H Q _=>∃ q a ps S R N i h st sent,vs=[.ref q,.ref (ps i),.ref a,.bl st]∧HallAt CH CX H q ps S R N∧S.hs[i]?=some h∧LL H R (.ref a) sent∧S.ls.length+sent.length≤900000∧S.un.length+sent.length≤900000∧
 ∀ H' R',HMove CH CX q ps H R H' (if st=true then S.send sent else S.put i h.stop) R' N→Q .non H'
theorem CV{K:PySem.W.Frag}{CH CX:Addr}{vs:List V}{H:Hp}{Q:VK}{E:XK}(T:cM K CX)(TH:bt K CH)(h:dH CH CX vs H Q E) :
  vp K (cw CH CX) (dN CH) CX CH { nx:=fun _ H'=>Q .non H',rt:=Q } (aT ["self","house","sent","stays"] vs) H:=by
 obtain ⟨q,a,ps,S,R,N,i,h,st,sent,rfl,I,hi,ll,hl,hu,k⟩:=h
 obtain ⟨dx,ph,pl,pu,Rs,ys,I0⟩:=id I
 have ob:=I0.ob
 have il:i<S.hs.length:=(lab.mp hi).1
 obtain ⟨dx1,po1,pa1,pk1,pc1,xs1,kvs1,J1⟩:=id (I0.hs i h hi)
 have obh:=J1.ob
 unfold vp
 walk_at "g"
 cases st with
 | true=>
  rw [if_pos rfl]
  walk_at "g"
  exact ⟨q,a,ps,S,R,N,sent,rfl,I,ll,hl,hu,fun H' m=>k H' R m⟩
 | false=>
  rw [if_neg (by decide)]
  walk_at "g"
  exact ⟨ps i,h,Rs i,N,rfl,I0.hs i h hi,fun H' Ri m=>k H' _ (HallAt.step I0 hi m (lat _))⟩
theorem kt{xs:List V}{i:Nat}(h:i≤xs.length):ir xs (some (i:Int)) none=xs.drop i:=by
 unfold ir
 have e1:HT.sIx xs.length 0 (some (i:Int))=i:=by
  unfold HT.sIx
  simp only
  rw [if_neg (by omega)]
  simp;omega
 have e2:HT.sIx xs.length xs.length none=xs.length:=rfl
 rw [e1,e2,List.take_of_length_le (by rw [List.length_drop];exact lat _)]
theorem eK{ps:Nat→Addr}{n:Nat}{i:Nat}(h:i<n):iW ((List.range n).map fun i=>V.ref (ps i)) (i:Int)=some (.ref (ps i)):=ce (by rw [lae,laD h];rfl)
theorem lA{CH:Addr}{H:Hp}{p:Addr}{h:HS}{R T:List Addr}{N:Nat}{dx po pa pk pc:Addr}{xs:List V}{z:Pg}(I:HouseIn CH H p h R N dx po pa pk pc xs z)(i:Nat):Reps H T (xs.drop i) ((h.book.drop i).map c_):=by
 have:=(I.bs).drop i
 rw [← List.map_drop] at this
 exact fH this
def HRet(CH CX q:Addr)(ps:Nat→Addr)(H:Hp)(R:List Addr)(N:Nat)(r:HallS×Ans)(Q:VK):Prop:=∀ v H' R',HMove CH CX q ps H R H' r.1 R' N→Rep H' R' v r.2.D→fi H v→Q v H'
theorem HRet.after{CH CX q:Addr}{ps:Nat→Addr}{H H1:Hp}{R R1:List Addr}{N N1:Nat}{S1:HallS}{r:HallS×Ans}{Q:VK}(k:HRet CH CX q ps H R N r Q)(m:HMove CH CX q ps H R H1 S1 R1 N1):HRet CH CX q ps H1 R1 N r Q:=
 fun v H' R' m' l f=>k v H' R' (m.trans m') l fun a e=>m.free (f a e)
theorem HRet.less{CH CX q:Addr}{ps:Nat→Addr}{H:Hp}{R:List Addr}{N M:Nat}{r:HallS×Ans}{Q:VK}(k:HRet CH CX q ps H R N r Q)(h:M≤N):HRet CH CX q ps H R M r Q:=fun v H' R' m=>k v H' R' (m.more h)
theorem HRet.plain{CH CX q:Addr}{ps:Nat→Addr}{H:Hp}{R:List Addr}{N M:Nat}{S:HallS}{a:Ans}{Q:VK}{v:V}(k:HRet CH CX q ps H R N (S,a) Q)(I:HallAt CH CX H q ps S R M)(hM:M≤N)(r:Rep H R v a.D)(f:fi H v):Q v H:=
 k v H R ((I.move (Same.refl _)).more hM) r f
theorem ig(H:Hp):fi H .non:=fun _ e=>by cases e
theorem nc(H:Hp)(b:Bool):fi H (.bl b):=fun _ e=>by cases e
theorem HRet.rest{CH CX q:Addr}{ps:Nat→Addr}{H H2:Hp}{R:List Addr}{N M:Nat}{S:HallS}{ls:List bh}{Q:VK}{p:Addr}{zs:List V}(k:HRet CH CX q ps H R N (S,.lines ls) Q)(I:HallAt CH CX H q ps S R M)(hM:M≤N)(s:Same H H2)(hp:H p=none)(g:H2 p=some (.lst zs))(rz:Reps H2 R zs (ls.map c_)):Q (.ref p) H2:=
 k _ _ R ((I.move s).more hM) (.lst (.inl g) (di I.trk hp) rz) (by rintro _ ⟨⟩;exact hp)
structure iB(S:HallS)(N:Nat):Prop where
 n:N≤700000
 l:S.ls.length≤800000
 u:S.un.length≤800000
theorem HallOk.lead{c:Nat}{S:HallS}(ok:HallOk c S)(n:Int):∃ h,S.hs[S.lead n]?=some h∧S.lead n<S.hs.length∧((S.lead n:Nat):Int)=n % (S.hs.length:Int):=by
 have h0:(0:Int)<(S.hs.length:Int):=by have:=ok.len;have:=ok.c1;omega
 have h1:=Int.emod_nonneg n (Int.ne_of_gt h0)
 have h2:=Int.emod_lt_of_pos n h0
 have h3:S.lead n<S.hs.length:=by unfold HallS.lead;omega
 exact ⟨_,lad h3,h3,by unfold HallS.lead;omega⟩
theorem lB(h:HS)(n:Int):(h.begin n).2.length≤h.oth.length:=by
 unfold HS.begin
 split
 ·exact laI _
 ·show (h.oth.map _).length≤_;rw [laa];exact lat _
theorem HallOk.oth{c:Nat}{S:HallS}(ok:HallOk c S){i:Nat}{h:HS}(hi:S.hs[i]?=some h):h.oth.length≤20:=by
 rw [(ok.num i h hi).2];exact las (mG _ _) ok.c2
theorem eX{S:HallS}{i:Nat}{h g:HS}(hi:S.hs[i]?=some h):(S.put i g).hs[i]?=some g:=by
 show (S.hs.set i g)[i]?=some g
 exact lao (lab.mp hi).1
theorem iI(S:HallS)(i:Nat)(g g':HS):(S.put i g).put i g'=S.put i g':=by
 show HallS.mk ((S.hs.set i g).set i g') S.ls S.un=HallS.mk (S.hs.set i g') S.ls S.un
 rw [List.set_set]
theorem qB{S:HallS}{i:Nat}{h:HS}{r:HS×List au}{st:Bool}(hi:S.hs[i]?=some h):∃ g,(S.post i r st).hs[i]?=some g∧g.book=r.1.book:=by
 unfold HallS.post
 cases st with
 | true=>exact ⟨r.1,eX hi,rfl⟩
 | false=>exact ⟨r.1.stop,eX hi,rfl⟩
def hZ(CH CX:Addr):Sp:=fun vs H Q _=>∃ q ps S R N c n st,vs=[.ref q,.int n,.bl st]∧HallAt CH CX H q ps S R N∧HallOk c S∧iB S N∧HRet CH CX q ps H R (N+3) (S.begin n st) Q
theorem Gg{K:PySem.W.Frag}{CH CX:Addr}{vs:List V}{H:Hp}{Q:VK}{E:XK}(T:cM K CX)(TH:bt K CH)(h:hZ CH CX vs H Q E) :
  vY K cC (gR CH) (dH CH CX) CH CX { nx:=fun _ H'=>Q .non H',rt:=Q } (aT ["self","bargain","stays","house","ahead"] vs) H:=by
 obtain ⟨q,ps,S,R,N,c,n,st,rfl,I,ok,sm,k⟩:=h
 obtain ⟨cl,f1,f2,f3⟩:=T
 obtain ⟨clh,g1,g2,g3,g4,g5,g6,g7,g8⟩:=TH
 obtain ⟨dx,ph,pl,pu,Rs,ys,I0⟩:=id I
 have ob:=I0.ob
 have oh:=I0.oh
 obtain ⟨h,hi,il,hlead⟩:=ok.lead n
 obtain ⟨dx1,po1,pa1,pk1,pc1,xs1,z1,J⟩:=id (I0.hs _ h hi)
 have obh:=J.ob
 have bkh:=J.bk
 have hN:=sm.n
 have hl:=sm.l
 have hu:=sm.u
 have hol:=ok.oth hi
 have hc:(S.hs.length:Int)=(c:Int):=by rw [ok.len]
 have hc1:=ok.c1
 have hc2:=ok.c2
 have hxl:xs1.length=h.book.length:=by rw [J.bs.length,laa]
 have hb1:=J.l1
 unfold vY
 unfold HallS.begin at k
 rw [hi] at k
 dsimp only at k
 generalize hI:S.lead n=i at *
 walk_at "g"
 refine d5 (show (0:Int)<(((List.range S.hs.length).map fun i=>V.ref (ps i)).length:Int) by rw [laa,laq];omega) ?_
 refine b2 (ca oh) (by simp only [List.length_map,List.length_range];rw [← hlead];exact eK il) ?_
 walk_at "g"
 cases hup:h.up with
 | false=>
  rw [hup] at k
  rw [if_neg (by simp)] at k
  rw [if_pos (by rfl),if_pos (by rfl)]
  walk_at "g"
  exact k.plain I (by omega) .non (ig _)
 | true=>
  rw [hup] at k
  rw [if_neg (by decide)]
  walk_at "g"
  refine ⟨pk1,h.book,n,rfl,J.rep,by omega,fun H1 s1=>?_⟩
  have J1:=J.same s1
  have obh1:=J1.ob
  have bkh1:=J1.bk
  have ob1:=s1 _ _ ob
  have k1:=k.after (I.move s1)
  walk_at "g"
  by_cases e:ar h.book n=[]
  ·rw [if_neg (by simp [e])]
   rw [if_pos ⟨rfl,e⟩] at k1
   walk_at "g"
   refine ⟨ps i,n,h,Rs i,N,rfl,(I0.hs _ h hi).same s1,by omega,by omega,fun v H2 Ri m2 ll f=>?_⟩
   have I1:=I0.same s1
   have M2:=HallAt.step I1 hi m2 (by omega)
   obtain ⟨l,zs,rfl,gl,nl,rl⟩:=id ll
   walk_at "g"
   refine ⟨q,l,ps,_,_,N+1,i,(h.begin n).1,st,(h.begin n).2,rfl,M2.at_,eX hi,ll.wide f I1.trk,?_,?_,fun H3 R3 M3=>?_⟩
   ·have:=lB h n;show S.ls.length+_≤_;omega
   ·have:=lB h n;show S.un.length+_≤_;omega
   have hpost:(if st=true then (S.put i (h.begin n).1).send (h.begin n).2 else (S.put i (h.begin n).1).put i (h.begin n).1.stop)=S.post i (h.begin n) st:=by unfold HallS.post;rw [iI]
   rw [hpost] at M3
   obtain ⟨g,hg,hgb⟩:=qB (r:=h.begin n) (st:=st) hi
   obtain ⟨dx3,ph3,pl3,pu3,Rs3,ys3,I3⟩:=id M3.at_
   obtain ⟨dx4,po4,pa4,pk4,pc4,xs4,z4,J4⟩:=id (I3.hs i g hg)
   have obh4:=J4.ob
   have bkh4:=J4.bk
   walk_at "A"
   rename_i pz hpz H5 s5 g5'
   refine ((k1.after M2).after M3).rest M3.at_ (by omega) s5 hpz g5' ?_
   rw [hxl,kt ?_]
   ·rw [← hgb];exact (lA J4 _).same s5
   ·have:xs4.length=g.book.length:=by rw [J4.bs.length,laa]
    rw [this,hgb]
    unfold HS.begin HS.wr
    split <;> simp
  ·rw [if_pos (by simp [e])]
   rw [if_neg (fun z=>e z.2)] at k1
   walk_at "g"
   exact k1.plain (I.same s1) (by omega) .non (ig _)
theorem oM(h:HS)(l:au):(h.got l).2.length≤h.oth.length+1:=by
 unfold HS.got HS.gotAsk HS.gotQuery HS.gotVote HS.gotDecision HS.decide HS.toOthers HS.count
 repeat' split
 all_goals simp
theorem ye(h:HS)(l:au):h.book.length≤(h.got l).1.book.length:=by
 unfold HS.got HS.gotAsk HS.asked HS.gotQuery HS.gotVote HS.gotDecision HS.decide HS.wr HS.count
 repeat' split
 all_goals simp
theorem LetOk.str{c:Nat}{l:au}(h:LetOk c l):PyData.strOk l.2.2.2=true:=ix (by
 have:=h.w
 simp only [List.mem_cons,List.not_mem_nil,or_false] at this ⊢
 rcases this with z | z | z | z | z | z <;> simp [z])
theorem LetOk.to{c:Nat}{l:au}{S:HallS}(h:LetOk c l)(hl:S.hs.length=c):∃ g,S.hs[l.2.1.toNat]?=some g∧l.2.1.toNat<S.hs.length∧((l.2.1.toNat:Nat):Int)=l.2.1:=by
 have h0:=h.t0
 have h1:=h.t1
 have h3:l.2.1.toNat<S.hs.length:=by omega
 exact ⟨_,lad h3,h3,by omega⟩
def dI(CH CX:Addr):Sp:=fun vs H Q _=>∃ q ps S R N c k st,vs=[.ref q,.int k,.bl st]∧0≤k∧HallAt CH CX H q ps S R N∧HallOk c S∧iB S N∧HRet CH CX q ps H R (N+3) (S.carry k st) Q
theorem E_{K:PySem.W.Frag}{CH CX:Addr}{vs:List V}{H:Hp}{Q:VK}{E:XK}(T:cM K CX)(TH:bt K CH)(h:dI CH CX vs H Q E) :
  vX K (gX CH) (dH CH CX) CH CX { nx:=fun _ H'=>Q .non H',rt:=Q } (aT ["self","which","stays","letter","house","ahead"] vs) H:=by
 obtain ⟨q,ps,S,R,N,c,w,st,rfl,hw,I,ok,sm,k⟩:=h
 obtain ⟨cl,f1,f2,f3⟩:=T
 obtain ⟨clh,g1,g2,g3,g4,g5,g6,g7,g8⟩:=TH
 obtain ⟨dx,ph,pl,pu,Rs,ys,I0⟩:=id I
 have ob:=I0.ob
 have oh:=I0.oh
 have ol:=I0.ol
 have hyl:ys.length=S.ls.length:=by rw [I0.ls.length,laa]
 have hN:=sm.n
 have hl:=sm.l
 have hu:=sm.u
 unfold vX
 unfold HallS.carry at k
 walk_at "g"
 by_cases lt:(S.ls.length:Int)≤w
 ·rw [if_pos (by simp only [decide_eq_true_eq];show (ys.length:Int)≤w;omega)]
  rw [List.getElem?_eq_none (by omega)] at k
  walk_at "g"
  exact k.plain I (by omega) .non (ig _)
 rw [if_neg (by simp only [decide_eq_true_eq];show ¬ (ys.length:Int)≤w;omega)]
 have wl:w.toNat<S.ls.length:=by omega
 have hw':((w.toNat:Nat):Int)=w:=by omega
 obtain ⟨l,hl'⟩:∃ l,S.ls[w.toNat]?=some l:=⟨_,lad wl⟩
 rw [hl'] at k
 dsimp only at k
 have lok:=ok.let_ l (lam hl')
 obtain ⟨h,hi,il,hto⟩:=lok.to ok.len
 obtain ⟨x,hx,rx⟩:=I0.ls.getD (i:=w.toNat) (d:=b9 l) (by rw [lae,hl'];rfl)
 obtain ⟨l0,t,e0,rfl,rt⟩:=fG I0.ls hx
 rw [hl'] at e0
 cases e0
 unfold HallS.carryL at k
 rw [hi] at k
 dsimp only at k
 obtain ⟨dx1,po1,pa1,pk1,pc1,xs1,z1,J⟩:=id (I0.hs _ h hi)
 have obh:=J.ob
 have bkh:=J.bk
 have hol:=ok.oth hi
 have hxl:xs1.length=h.book.length:=by rw [J.bs.length,laa]
 have hb1:=J.l1
 generalize hI:l.2.1.toNat=i at *
 walk_at "g"
 refine b2 (ca ol) (by rw [← hw'];exact ce hx) ?_
 walk_at "g"
 refine b2 (ca oh) (by rw [← hto];exact eK il) ?_
 walk_at "g"
 cases hup:h.up with
 | false=>
  rw [hup] at k
  rw [if_neg (by simp)] at k
  rw [if_pos (by rfl)]
  walk_at "g"
  exact k.plain I (by omega) .non (ig _)
 | true=>
  rw [hup] at k
  rw [if_pos rfl] at k
  rw [if_neg (by decide)]
  walk_at "g"
  refine ⟨ps i,t,l,h,Rs i,N,rfl,I0.hs _ h hi,rt,by omega,by omega,lok.str,fun v H2 Ri m2 ll f=>?_⟩
  have M2:=HallAt.step I0 hi m2 (by omega)
  obtain ⟨l2,zs,rfl,gl,nl,rl⟩:=id ll
  walk_at "g"
  refine ⟨q,l2,ps,_,_,N+3,i,(h.got l).1,st,(h.got l).2,rfl,M2.at_,eX hi,ll.wide f I0.trk,?_,?_,fun H3 R3 M3=>?_⟩
  ·have:=oM h l;show S.ls.length+_≤_;omega
  ·have:=oM h l;show S.un.length+_≤_;omega
  have hpost:(if st=true then (S.put i (h.got l).1).send (h.got l).2 else (S.put i (h.got l).1).put i (h.got l).1.stop)=S.post i (h.got l) st:=by unfold HallS.post;rw [iI]
  rw [hpost] at M3
  obtain ⟨g,hg,hgb⟩:=qB (r:=h.got l) (st:=st) hi
  obtain ⟨dx3,ph3,pl3,pu3,Rs3,ys3,I3⟩:=id M3.at_
  obtain ⟨dx4,po4,pa4,pk4,pc4,xs4,z4,J4⟩:=id (I3.hs i g hg)
  have obh4:=J4.ob
  have bkh4:=J4.bk
  walk_at "A"
  rename_i pz hpz H5 s5 g5'
  refine ((k.after M2).after M3).rest M3.at_ (by omega) s5 hpz g5' ?_
  rw [hxl,kt ?_]
  ·rw [← hgb];exact (lA J4 _).same s5
  ·have:xs4.length=g.book.length:=by rw [J4.bs.length,laa]
   rw [this,hgb]
   exact ye h l
theorem i8(h:HS)(n:Int):(h.query n).length≤h.oth.length:=by
 unfold HS.query HS.toOthers
 split <;> simp
def gz(CH CX:Addr):Sp:=fun vs H Q _=>∃ q ps S R N c,∃ i:Nat,∃ n:Int,vs=[.ref q,.int i,.int n]∧i<S.hs.length∧HallAt CH CX H q ps S R N∧HallOk c S∧iB S N∧HRet CH CX q ps H R N (S.query i n) Q
theorem ky{S:HallS}{i:Nat}{h:HS}(hi:S.hs[i]?=some h):S.put i h=S:=by
 show HallS.mk (S.hs.set i h) S.ls S.un=S
 have:S.hs.set i h=S.hs:=by
  refine List.ext_getElem? fun j=>?_
  by_cases e:i=j
  ·subst e
   rw [lao (lab.mp hi).1,hi]
  ·rw [lar e]
 rw [this]
theorem Fz{K:PySem.W.Frag}{CH CX:Addr}{vs:List V}{H:Hp}{Q:VK}{E:XK}(T:cM K CX)(TH:bt K CH)(h:gz CH CX vs H Q E) :
  ux K (hE CH) (cw CH CX) CH CX { nx:=fun _ H'=>Q .non H',rt:=Q } (aT ["self","number","bargain","sent"] vs) H:=by
 obtain ⟨q,ps,S,R,N,c,i,n,rfl,il,I,ok,sm,k⟩:=h
 obtain ⟨cl,f1,f2,f3⟩:=T
 obtain ⟨dx,ph,pl,pu,Rs,ys,I0⟩:=id I
 have ob:=I0.ob
 have oh:=I0.oh
 have hN:=sm.n
 have hl:=sm.l
 have hu:=sm.u
 obtain ⟨h,hi⟩:∃ h,S.hs[i]?=some h:=⟨_,lad il⟩
 have hol:=ok.oth hi
 obtain ⟨dx1,po1,pa1,pk1,pc1,xs1,z1,J⟩:=id (I0.hs _ h hi)
 have obh:=J.ob
 unfold ux
 unfold HallS.query at k
 rw [hi] at k
 dsimp only at k
 walk_at "g"
 refine b2 (ca oh) (eK il) ?_
 walk_at "g"
 refine ⟨ps i,n,h,Rs i,N,rfl,I0.hs _ h hi,by omega,by omega,fun v H2 Ri m2 ll f=>?_⟩
 have M2:=HallAt.step I0 hi m2 (lat _)
 rw [ky hi] at M2
 obtain ⟨dx2,ph2,pl2,pu2,Rs2,ys2,I2⟩:=id M2.at_
 have ob2:=I2.ob
 have lw:=ll.wide f I0.trk
 obtain ⟨l2,zs,rfl,gl,nl,rl⟩:=id lw
 have hzl:zs.length=(h.query n).length:=by rw [rl.length,laa]
 walk_at "g"
 refine ⟨q,l2,ps,S,_,N,h.query n,rfl,M2.at_,lw,?_,?_,fun H3 M3=>?_⟩
 ·have:=i8 h n;omega
 ·have:=i8 h n;omega
 have gl3:=M3.chg.keep _ _ gl nl
 walk_at "g"
 have kk:=((k.after M2).after M3).plain (v:=.bl (decide (0<(h.query n).length))) M3.at_ (lat _) (.bl _) (nc _ _)
 rw [hzl]
 have e:decide ((0:Int)<((h.query n).length:Int))=decide (0<(h.query n).length):=by
  by_cases z:0<(h.query n).length
  ·rw [decide_eq_true z,decide_eq_true (by omega)]
  ·rw [decide_eq_false z,decide_eq_false (by omega)]
 rw [← e] at kk
 exact kk
def gi(CH CX:Addr):Sp:=fun vs H Q _=>∃ q ps S R N,∃ i:Nat,vs=[.ref q,.int i]∧i<S.hs.length∧HallAt CH CX H q ps S R N∧HRet CH CX q ps H R N (S.stop i) Q
theorem Dy{K:PySem.W.Frag}{CH CX:Addr}{vs:List V}{H:Hp}{Q:VK}{E:XK}(T:cM K CX)(TH:bt K CH)(h:gi CH CX vs H Q E) :
  uK K (dN CH) CH { nx:=fun _ H'=>Q .non H',rt:=Q } (aT ["self","number","house"] vs) H:=by
 obtain ⟨q,ps,S,R,N,i,rfl,il,I,k⟩:=h
 obtain ⟨cl,f1,f2,f3⟩:=T
 obtain ⟨clh,g1,g2,g3,g4,g5,g6,g7,g8⟩:=TH
 obtain ⟨dx,ph,pl,pu,Rs,ys,I0⟩:=id I
 have ob:=I0.ob
 have oh:=I0.oh
 obtain ⟨h,hi⟩:∃ h,S.hs[i]?=some h:=⟨_,lad il⟩
 obtain ⟨dx1,po1,pa1,pk1,pc1,xs1,z1,J⟩:=id (I0.hs _ h hi)
 have obh:=J.ob
 unfold uK
 unfold HallS.stop at k
 rw [hi] at k
 dsimp only at k
 walk_at "g"
 refine b2 (ca oh) (eK il) ?_
 walk_at "g"
 cases hup:h.up with
 | false=>
  rw [hup] at k
  rw [if_neg (by simp)] at k
  rw [if_pos (by rfl)]
  walk_at "g"
  exact k.plain I (lat _) (.bl _) (nc _ _)
 | true=>
  rw [hup] at k
  rw [if_pos rfl] at k
  rw [if_neg (by decide)]
  walk_at "g"
  refine ⟨ps i,h,Rs i,N,rfl,I0.hs _ h hi,fun H2 Ri m2=>?_⟩
  have M2:=HallAt.step I0 hi m2 (lat _)
  walk_at "g"
  exact (k.after M2).plain M2.at_ (lat _) (.bl _) (nc _ _)
theorem qN(h:HS):h.wake.2.length=(bG h.book).length*h.oth.length:=by unfold HS.wake;rw [nP]
theorem mH(h:HS)(ns:List Int):(h.offAll ns).1.book=h.book++ns.map fun n=>(("off":Str),n):=by
 induction ns generalizing h with
 | nil=>simp [HS.offAll]
 | cons x r ih=>
  show (((h.decide x "off").1).offAll r).1.book=_
  rw [ih]
  show (h.book++[((("off":Str)),x)])++_=_
  simp
theorem pG(h:HS):h.wake.1.book=h.book++(bG h.book).map fun n=>(("off":Str),n):=by unfold HS.wake;rw [mH]
def h7(CH CX:Addr):Sp:=fun vs H Q _=>∃ q ps S R N c,∃ i:Nat,vs=[.ref q,.int i]∧i<S.hs.length∧HallAt CH CX H q ps S R N∧HallOk c S∧iB S N∧(∀ h,S.hs[i]?=some h→(bG h.book).length≤1000)∧HRet CH CX q ps H R (N+1000) (S.wake i) Q
theorem C5{K:PySem.W.Frag}{CH CX:Addr}{vs:List V}{H:Hp}{Q:VK}{E:XK}(T:cM K CX)(TH:bt K CH)(h:h7 CH CX vs H Q E) :
  vf K (gJ CH) (cw CH CX) CH CX { nx:=fun _ H'=>Q .non H',rt:=Q } (aT ["self","number","house","ahead"] vs) H:=by
 obtain ⟨q,ps,S,R,N,c,i,rfl,il,I,ok,sm,hlo,k⟩:=h
 obtain ⟨cl,f1,f2,f3⟩:=T
 obtain ⟨clh,g1,g2,g3,g4,g5,g6,g7,g8⟩:=TH
 obtain ⟨dx,ph,pl,pu,Rs,ys,I0⟩:=id I
 have ob:=I0.ob
 have oh:=I0.oh
 have hN:=sm.n
 have hl:=sm.l
 have hu:=sm.u
 obtain ⟨h,hi⟩:∃ h,S.hs[i]?=some h:=⟨_,lad il⟩
 have hlo':=hlo h hi
 have hol:=ok.oth hi
 obtain ⟨dx1,po1,pa1,pk1,pc1,xs1,z1,J⟩:=id (I0.hs _ h hi)
 have obh:=J.ob
 have bkh:=J.bk
 have hxl:xs1.length=h.book.length:=by rw [J.bs.length,laa]
 unfold vf
 unfold HallS.wake at k
 rw [hi] at k
 dsimp only at k
 walk_at "g"
 refine b2 (ca oh) (eK il) ?_
 walk_at "g"
 cases hup:h.up with
 | true=>
  rw [hup] at k
  rw [if_pos rfl] at k
  rw [if_pos (by rfl)]
  walk_at "g"
  exact k.plain I (by omega) .non (ig _)
 | false=>
  rw [hup] at k
  rw [if_neg (by simp)] at k
  rw [if_neg (by decide)]
  walk_at "g"
  refine ⟨ps i,h,Rs i,N,rfl,I0.hs _ h hi,by omega,by omega,hol,fun v H2 Ri m2 ll f=>?_⟩
  have M2:=HallAt.step I0 hi m2 (by omega)
  have lw:=ll.wide f I0.trk
  obtain ⟨l2,zs,rfl,gl,nl,rl⟩:=id lw
  have hsl:h.wake.2.length≤20000:=by
   rw [qN]
   exact las (Nat.mul_le_mul hlo' hol) (by decide)
  walk_at "g"
  refine ⟨q,l2,ps,S.put i h.wake.1,_,_,h.wake.2,rfl,M2.at_,lw,by show S.ls.length+_≤_;omega,by show S.un.length+_≤_;omega,fun H3 M3=>?_⟩
  obtain ⟨dx3,ph3,pl3,pu3,Rs3,ys3,I3⟩:=id M3.at_
  obtain ⟨dx4,po4,pa4,pk4,pc4,xs4,z4,J4⟩:=id (I3.hs i h.wake.1 (eX hi))
  have obh4:=J4.ob
  have bkh4:=J4.bk
  walk_at "A"
  rename_i pz hpz H5 s5 g5'
  refine ((k.after M2).after M3).rest M3.at_ (by omega) s5 hpz g5' ?_
  rw [hxl,kt ?_]
  ·exact (lA J4 _).same s5
  ·have:xs4.length=h.wake.1.book.length:=by rw [J4.bs.length,laa]
   rw [this,pG,laf];omega
def g_(CH CX:Addr):Sp:=fun vs H Q _=>∃ q ps S R N c dx ph pl pu Rs ys,∃ k:Nat,vs=[.ref q,.int k]∧k<S.ls.length∧HallIn CH CX H q ps S R N dx ph pl pu Rs ys∧HallOk c S∧N≤800000∧
 ∀ H' R' Rs',HallIn CH CX H' q ps S R' N dx ph pl pu Rs' ys→Chg R H H'→Grow R H R'→(∀ a∈R,a∈R')→Q (.bl (S.spentAt k)) H'
theorem CL{K:PySem.W.Frag}{CH CX:Addr}{vs:List V}{H:Hp}{Q:VK}{E:XK}(T:cM K CX)(h:g_ CH CX vs H Q E) :
  vH K (gj CH) CH { nx:=fun _ H'=>Q .non H',rt:=Q } (aT ["self","which","letter"] vs) H:=by
 obtain ⟨q,ps,S,R,N,c,dx,ph,pl,pu,Rs,ys,w,rfl,wl,I0,ok,hN,k⟩:=h
 obtain ⟨cl,f1,f2,f3⟩:=T
 have ob:=I0.ob
 have oh:=I0.oh
 have ol:=I0.ol
 obtain ⟨l,hl'⟩:∃ l,S.ls[w]?=some l:=⟨_,lad wl⟩
 have lok:=ok.let_ l (lam hl')
 obtain ⟨h,hi,il,hto⟩:=lok.to ok.len
 obtain ⟨x,hx,rx⟩:=I0.ls.getD (i:=w) (d:=b9 l) (by rw [lae,hl'];rfl)
 obtain ⟨l0,t,e0,rfl,rt⟩:=fG I0.ls hx
 rw [hl'] at e0
 cases e0
 have hsp:S.spentAt w=h.spent l:=by unfold HallS.spentAt;rw [hl'];dsimp only;rw [hi]
 rw [hsp] at k
 obtain ⟨dx1,po1,pa1,pk1,pc1,xs1,z1,J⟩:=id (I0.hs _ h hi)
 have obh:=J.ob
 generalize hI:l.2.1.toNat=i at *
 unfold vH
 walk_at "g"
 refine b2 (ca ol) (ce hx) ?_
 walk_at "g"
 refine b2 (ca oh) (by rw [← hto];exact eK il) ?_
 walk_at "g"
 refine ⟨ps i,t,l,h,Rs i,N,rfl,I0.hs _ h hi,rt,hN,fun H2 Ri m2=>?_⟩
 obtain ⟨J2,c2,g2⟩:=I0.step hi m2 (lat _)
 rw [ky hi] at J2
 exact k _ _ _ J2 c2 g2 fun a ha=>lak _ ha
theorem zO(h:HS)(l:au):(h.got l).1.num=h.num:=by
 unfold HS.got HS.gotAsk HS.asked HS.gotQuery HS.gotVote HS.gotDecision HS.decide HS.count HS.wr
 repeat' split
 all_goals rfl
theorem w_(h:HS)(l:au):(h.got l).1.book.length≤h.book.length+1:=by
 unfold HS.got HS.gotAsk HS.asked HS.gotQuery HS.gotVote HS.gotDecision HS.decide HS.wr HS.count
 repeat' split
 all_goals simp
theorem eZ{i c:Nat}{k:Int}(h:k∈bN (i:Int) c):0≤k∧k<c∧k≠i:=by
 unfold bN at h
 rw [laC,laA] at h
 obtain ⟨⟨j,hj,rfl⟩,h2⟩:=h
 rw [laB] at hj
 refine ⟨by omega,by omega,?_⟩
 simpa using h2
theorem el{b:List bh}{n:Int}{d:Str}(h:ax b n=some d):d="bound"∨d="off":=by
 unfold ax at h
 split at h
 ·cases h;exact .inl rfl
 ·split at h
  ·cases h;exact .inr rfl
  ·cases h
theorem d0{c i:Nat}{h:HS}{n:Int}{w:Str}(hn:h.num=i)(ho:h.oth=bN i c)(il:i<c)(hw:w∈([("ask":Str),"yes","no","bound","off","query"]:List Str)):∀ l∈h.toOthers n w,LetOk c l:=by
 intro l hl
 unfold HS.toOthers at hl
 obtain ⟨k,hk,rfl⟩:=laA.mp hl
 rw [ho] at hk
 obtain ⟨h1,h2,h3⟩:=eZ hk
 rw [hn]
 exact ⟨by show (0:Int)≤i;omega,by show (i:Int)<c;omega,h1,h2,hw⟩
theorem yC{c i:Nat}{g n:Int}{w:Str}(il:i<c)(g0:0≤g)(g1:g<c)(hw:w∈([("ask":Str),"yes","no","bound","off","query"]:List Str)):LetOk c ((i:Int),g,n,w):=
 ⟨by show (0:Int)≤i;omega,by show (i:Int)<c;omega,g0,g1,hw⟩
theorem xn{c i:Nat}{h:HS}{l:au}(hn:h.num=i)(ho:h.oth=bN i c)(il:i<c)(lo:LetOk c l):∀ x∈(h.got l).2,LetOk c x:=by
 intro x hx
 have one:∀ w,w∈([("ask":Str),"yes","no","bound","off","query"]:List Str)→x∈[(h.num,l.1,l.2.2.1,w)]→LetOk c x:=fun w hw z=>by
  rw [lag.mp z,hn];exact yC il lo.g0 lo.g1 hw
 have all:∀ w,w∈([("ask":Str),"yes","no","bound","off","query"]:List Str)→x∈h.toOthers l.2.2.1 w→LetOk c x:=fun w hw z=>d0 hn ho il hw x z
 unfold HS.got HS.gotAsk HS.gotQuery HS.gotVote HS.gotDecision HS.decide at hx
 split at hx
 ·dsimp only at hx
  refine one _ ?_ hx
  split <;> simp
 split at hx
 ·split at hx
  ·cases hx
  ·split at hx
   ·rename_i d hd
    refine one _ ?_ hx
    rcases el hd with rfl | rfl <;> simp
   ·split at hx
    ·exact one _ (by simp) hx
    ·exact all _ (by simp) hx
 split at hx
 ·split at hx
  ·rename_i d hd
   dsimp only at hx
   split at hx
   ·refine one _ ?_ hx
    rcases el hd with rfl | rfl <;> simp
   ·cases hx
  ·split at hx
   ·exact all _ (by simp) hx
   ·split at hx
    ·cases hx
    ·exact all _ (by simp) hx
 ·cases hx
theorem HallOk.put{c:Nat}{S:HallS}{i:Nat}{h g:HS}(ok:HallOk c S)(hi:S.hs[i]?=some h)(hn:g.num=h.num)(ho:g.oth=h.oth):HallOk c (S.put i g) where
 len:=by show (S.hs.set i g).length=c;rw [List.length_set];exact ok.len
 c1:=ok.c1
 c2:=ok.c2
 num:=fun j x hx=>by
  change (S.hs.set i g)[j]?=some x at hx
  by_cases e:i=j
  ·subst e
   rw [lao (lab.mp hi).1] at hx
   cases hx
   rw [hn,ho];exact ok.num i h hi
  ·rw [lar e] at hx
   exact ok.num j x hx
 let_:=ok.let_
 un:=ok.un
theorem HallOk.send{c:Nat}{S:HallS}{sent:List au}(ok:HallOk c S)(h:∀ x∈sent,LetOk c x):HallOk c (S.send sent) where
 len:=ok.len
 c1:=ok.c1
 c2:=ok.c2
 num:=ok.num
 let_:=fun l hl=>(lap.mp hl).elim (ok.let_ l) (h l)
 un:=fun k hk=>by
  show k<(S.ls++sent).length
  rw [laf]
  rcases lap.mp hk with z | z
  ·have:=ok.un k z;omega
  ·obtain ⟨j,hj,rfl⟩:=laA.mp z
   rw [laB] at hj
   show S.ls.length+j<_;omega
theorem HallOk.post{c:Nat}{S:HallS}{i:Nat}{h:HS}{r:HS×List au}{st:Bool}(ok:HallOk c S)(hi:S.hs[i]?=some h)(hn:r.1.num=h.num)(ho:r.1.oth=h.oth)(hl:∀ x∈r.2,LetOk c x):HallOk c (S.post i r st):=by
 unfold HallS.post
 cases st with
 | true=>exact (ok.put hi hn ho).send hl
 | false=>exact ok.put hi hn ho
theorem HallOk.il{c:Nat}{S:HallS}{i:Nat}{h:HS}(ok:HallOk c S)(hi:S.hs[i]?=some h):i<c:=by rw [← ok.len];exact (lab.mp hi).1
theorem HallOk.carryL{c:Nat}{S:HallS}{l:au}{st:Bool}(ok:HallOk c S)(lo:LetOk c l):HallOk c (S.carryL l st).1:=by
 unfold HallS.carryL
 split
 ·exact ok
 ·rename_i h hi
  split
  ·obtain ⟨e1,e2⟩:=ok.num _ h hi
   exact ok.post hi (zO h l) (zF h l) (xn e1 e2 (ok.il hi) lo)
  ·exact ok
theorem HallOk.carry{c:Nat}{S:HallS}{k:Int}{st:Bool}(ok:HallOk c S):HallOk c (S.carry k st).1:=by
 unfold HallS.carry
 split
 ·exact ok
 ·rename_i l hl
  exact ok.carryL (ok.let_ l (lam hl))
theorem HallOk.turn{c:Nat}{S:HallS}{k:Nat}(ok:HallOk c S):HallOk c (S.turn k).1:=by
 unfold HallS.turn
 split
 ·exact ok
 ·rename_i l hl
  exact ok.carryL (ok.let_ l (lam hl))
theorem o3(h:HS)(n:Int):(h.begin n).1.num=h.num∧(h.begin n).1.oth=h.oth:=by unfold HS.begin HS.wr;split <;> exact ⟨rfl,rfl⟩
theorem HallOk.begin{c:Nat}{S:HallS}{n:Int}{st:Bool}(ok:HallOk c S):HallOk c (S.begin n st).1:=by
 unfold HallS.begin
 split
 ·exact ok
 ·rename_i h hi
  split
  ·obtain ⟨e1,e2⟩:=ok.num _ h hi
   refine ok.post hi (o3 h n).1 (o3 h n).2 fun x hx=>?_
   unfold HS.begin at hx
   split at hx
   ·cases hx
   ·exact d0 e1 e2 (ok.il hi) (by simp) x hx
  ·exact ok
theorem HallOk.query{c:Nat}{S:HallS}{i:Nat}{n:Int}(ok:HallOk c S):HallOk c (S.query i n).1:=by
 unfold HallS.query
 split
 ·exact ok
 ·rename_i h hi
  obtain ⟨e1,e2⟩:=ok.num _ h hi
  refine ok.send fun x hx=>?_
  unfold HS.query at hx
  split at hx
  ·exact d0 e1 e2 (ok.il hi) (by simp) x hx
  ·cases hx
theorem HallOk.stop{c:Nat}{S:HallS}{i:Nat}(ok:HallOk c S):HallOk c (S.stop i).1:=by
 unfold HallS.stop
 split
 ·exact ok
 ·rename_i h hi
  split
  ·exact ok.put hi rfl rfl
  ·exact ok
theorem vV(h:HS)(ns:List Int):(h.offAll ns).1.num=h.num:=by
 induction ns generalizing h with
 | nil=>rfl
 | cons x r ih=>exact ih _
theorem nL(h:HS)(ns:List Int):∀ x∈(h.offAll ns).2,∃ n∈ns,x∈h.toOthers n "off":=by
 induction ns generalizing h with
 | nil=>intro x hx;cases hx
 | cons y r ih=>
  intro x hx
  rcases lap.mp (show x∈(h.decide y "off").2++((h.decide y "off").1.offAll r).2 from hx) with z | z
  ·exact ⟨y,by simp,z⟩
  ·obtain ⟨n,hn,hx⟩:=ih _ x z
   exact ⟨n,lac _ hn,hx⟩
theorem HallOk.wake{c:Nat}{S:HallS}{i:Nat}(ok:HallOk c S):HallOk c (S.wake i).1:=by
 unfold HallS.wake
 split
 ·exact ok
 ·rename_i h hi
  split
  ·exact ok
  ·obtain ⟨e1,e2⟩:=ok.num _ h hi
   refine (ok.put hi (by unfold HS.wake;rw [vV]) (by unfold HS.wake;rw [kJ])).send fun x hx=>?_
   obtain ⟨n,hn,hx⟩:=nL _ _ x hx
   exact d0 (h:=h) e1 e2 (ok.il hi) (by simp) x hx
theorem HallOk.trim{c:Nat}{S:HallS}(ok:HallOk c S):HallOk c S.trim:=⟨ok.len,ok.c1,ok.c2,ok.num,ok.let_,fun k hk=>ok.un k (laC.mp hk).1⟩
theorem tM(S:HallS)(l:au)(st:Bool):(∃ a,(S.carryL l st).1.ls=S.ls++a)∧∃ a,(S.carryL l st).1.un=S.un++a:=by
 unfold HallS.carryL
 split
 ·exact ⟨⟨[],by simp⟩,[],by simp⟩
 ·split
  ·unfold HallS.post
   cases st with
   | true=>exact ⟨⟨_,rfl⟩,_,rfl⟩
   | false=>exact ⟨⟨[],by simp [HallS.put]⟩,[],by simp [HallS.put]⟩
  ·exact ⟨⟨[],by simp⟩,[],by simp⟩
theorem lK(S:HallS)(k:Nat):(∃ a,(S.turn k).1.ls=S.ls++a)∧∃ a,(S.turn k).1.un=S.un++a:=by
 unfold HallS.turn
 split
 ·exact ⟨⟨[],by simp⟩,[],by simp⟩
 ·exact tM _ _ _
theorem wM(S:HallS)(k:Nat):(S.turn k).2.length≤1:=by
 unfold HallS.turn
 split
 ·simp
 ·unfold HallS.carryL
  split
  ·simp [mO]
  ·rename_i h hi
   split
   ·have:=w_ h ‹au›
    simp only [mO,List.length_map,List.length_drop]
    omega
   ·simp [mO]
theorem oi:∀ (f:Nat) (S:HallS) (pl:Nat) (w:List (Int×bh)) (r:HallS×List (Int×bh)),S.sweepGo f pl w=some r→S.ls.length≤r.1.ls.length∧S.un.length≤r.1.un.length
 | 0,S,pl,w,r,h=>by
  unfold HallS.sweepGo at h
  split at h
  ·cases h
  ·cases h;exact ⟨lat _,lat _⟩
 | f+1,S,pl,w,r,h=>by
  unfold HallS.sweepGo at h
  split at h
  ·have:=oi f _ _ _ _ h
   obtain ⟨⟨a,ha⟩,b,hb⟩:=lK S S.un[pl]
   rw [ha,hb,laf,laf] at this
   omega
  ·cases h;exact ⟨lat _,lat _⟩
theorem dW{H:Hp}{S T:List Addr}:∀ {b:List (Int×bh)} {xs:List V},Reps H S xs (b.map fk)→Reps H T xs (b.map fk)
 | [],xs,r=>by rw [laG] at r ⊢;rw [r.nil_inv];exact .nil
 | l::b,xs,r=>by
  rw [lah] at r ⊢
  obtain ⟨x,ys,rfl,h,t⟩:=r.cons_inv
  obtain ⟨a,zs,rfl,rt,rs⟩:=h.tup_inv
  obtain ⟨y1,r1,rfl,h1,t1⟩:=rs.cons_inv
  obtain ⟨y2,r2,rfl,h2,t2⟩:=t1.cons_inv
  cases t2.nil_inv
  have h2':Reps H T [y2] ([l.2].map c_):=fH (b:=[l.2]) (.cons h2 .nil)
  obtain ⟨_,_,e,h2'',_⟩:=h2'.cons_inv
  cases e
  rw [h1.int_inv] at rt
  exact .cons (.tup rt (.cons (.int _) (.cons h2'' .nil))) (dW t)
theorem ip{H H':Hp}{S T:List Addr}{b:List (Int×bh)}{xs:List V}(r:Reps H S xs (b.map fk))(c:Chg T H H'):Reps H' S xs (b.map fk):=dW ((dW (T:=T) r).chg c)
theorem HallAt.chg{CH CX:Addr}{H H':Hp}{q:Addr}{ps:Nat→Addr}{S:HallS}{R T:List Addr}{N:Nat}(I:HallAt CH CX H q ps S R N)(c:Chg T H H')(d:∀ a∈R,¬ a∈T):HallAt CH CX H' q ps S R N:=by
 obtain ⟨dx,ph,pl,pu,Rs,ys,I⟩:=I
 have kp:∀ a o,a∈R→H a=some o→H' a=some o:=fun a o ha e=>c.keep a o e (d a ha)
 exact ⟨dx,ph,pl,pu,Rs,ys,{ I with ob:=kp _ _ I.m1 I.ob,oh:=kp _ _ I.m2 I.oh,ol:=kp _ _ I.m3 I.ol,ls:=cT I.ls c,ou:=kp _ _ I.m4 I.ou,hs:=fun i h e=>(I.hs i h e).chg c fun a ha=>d a (I.m5 i a (lab.mp e).1 ha),trk:=fun a ha=>(by obtain ⟨o,e⟩:=I.trk a ha;exact ⟨o,kp _ _ ha e⟩) }⟩
theorem HMove.put{CH CX q:Addr}{ps:Nat→Addr}{H H':Hp}{R R':List Addr}{S':HallS}{N':Nat}{p:Addr}{o:HO}(m:HMove CH CX q ps H R H' S' R' N')(hp:H p=none)(np:¬ p∈R')(mu:rk (H' p)):HMove CH CX q ps H R (upd H' p o) S' R' N':=
 ⟨m.at_.chg (.set (S:=[p]) mu (by simp)) (fun a ha y=>by rw [lag.mp y] at ha;exact np ha),m.chg.put hp,m.gr,m.sb⟩
def zl(CH CX q:Addr)(ps:Nat→Addr)(H:Hp)(R:List Addr)(N c:Nat)(pw:Addr)(r:HallS×List (Int×bh))(m:Nat)(σ:St)(H':Hp):Prop:=
 ∃ (S':HallS) (pl:Nat) (w:List (Int×bh)) (R':List Addr) (ws:List V) (a b d:Option V),σ=[some (.ref q),some (.ref pw),some (.int (pl:Int)),a,b,d]∧S'.sweepGo m pl w=some r∧HallOk c S'∧HMove CH CX q ps H R H' S' R' (N+3*pl)∧
  H' pw=some (.lst ws)∧¬ pw∈R'∧Reps H' R' ws (w.map fk)∧w.length≤pl∧pl≤S'.un.length
def gh(CH CX:Addr):Sp:=fun vs H Q _=>∃ q ps S R N c f r,vs=[.ref q]∧HallAt CH CX H q ps S R N∧HallOk c S∧S.sweepGo f 0 []=some r∧N+3*r.1.un.length≤700000∧r.1.ls.length≤800000∧
 HRet CH CX q ps H R (N+3*r.1.un.length) (r.1.trim,.pairs r.2) Q
theorem uR(S:HallS)(l:au)(st:Bool):(S.carryL l st).2=.non∨∃ ls,(S.carryL l st).2=.lines ls:=by
 unfold HallS.carryL
 split
 ·exact .inl rfl
 ·split
  ·exact .inr ⟨_,rfl⟩
  ·exact .inl rfl
theorem AW(ph pl pu pv:Addr):bX "unspent" (.ref pv) (iR ph pl pu)=iR ph pl pv:=by with_unfolding_all rfl
theorem FB{K:PySem.W.Frag}{CH CX:Addr}{vs:List V}{H:Hp}{Q:VK}{E:XK}(T:cM K CX)(h:gh CH CX vs H Q E) :
    uY K (dI CH CX) (g_ CH CX) CX { nx:=fun _ H'=>Q .non H',rt:=Q } (aT ["self","written","place","which","lines","number"] vs) H:=by
  obtain ⟨q,ps,S,R,N,c,f,r,rfl,I,ok,hgo,hN,hls,k⟩:=h
  obtain ⟨cl,f1,f2,f3⟩:=T
  unfold uY
  walk_at "g"
  walk_at "w"
  rename_i pw hpw H1 s1 g1
  walk_at "g"
  refine ⟨zl CH CX q ps H R N c pw r,⟨f,S,0,[],R,[],none,none,none,rfl,hgo,ok,(I.move s1),g1,di I.trk hpw,.nil,lat _,laI _⟩,?_⟩
  rintro m σ H2 ⟨S2,pl,w,R2,ws,a,b,d,rfl,hg2,ok2,M2,gw,nw,rw2,hwl,hpl⟩
  have sizes:=oi _ _ _ _ _ hg2
  obtain ⟨dx,ph,pl',pu,Rs,ys,I2⟩:=id M2.at_
  have ob2:=I2.ob
  have ou2:=I2.ou
  walk_at "g"
  by_cases lt:pl<S2.un.length
  · rw [if_pos (by simp only [decide_eq_true_eq,List.length_map];omega)]
    cases m with
    | zero=>unfold HallS.sweepGo at hg2;rw [if_pos lt] at hg2;cases hg2
    | succ m=>
      unfold HallS.sweepGo at hg2
      rw [dif_pos lt] at hg2
      refine ⟨zl CH CX q ps H R N c pw r m,fun σ' H' z=>⟨m,Nat.lt_succ_self _,z⟩,?_⟩
      have hget:(S2.un.map fun k=>V.int (k:Nat))[pl]?=some (.int (S2.un[pl]:Nat)):=by rw [lae,lad lt];rfl
      have hkm:S2.un[pl]∈S2.un:=List.getElem_mem lt
      generalize S2.un[pl]=k' at hg2 hget hkm
      have hkl:=ok2.un k' hkm
      obtain ⟨l,hl⟩:∃ l,S2.ls[k']?=some l:=⟨_,lad hkl⟩
      have lok:=ok2.let_ l (lam hl)
      walk_at "g"
      refine b2 (ca ou2) (ce hget) ?_
      walk_at "g"
      have hsm:iB S2 (N+3*pl):=⟨by omega,by omega,by omega⟩
      refine ⟨q,ps,S2,R2,N+3*pl,c,(k':Int),true,rfl,by omega,M2.at_,ok2,hsm,fun v H3 R3 M3 r3 fr3=>?_⟩
      have ec:S2.carry (k':Int) true=S2.carryL l true:=by unfold HallS.carry;rw [Int.toNat_natCast,hl]
      rw [ec] at M3 r3
      have et:S2.turn k'=((S2.carryL l true).1,mO l (S2.carryL l true).2):=by unfold HallS.turn;rw [hl]
      have ht1:=wM S2 k'
      obtain ⟨⟨la,hla⟩,ua,hua⟩:=lK S2 k'
      have ok3:=ok2.turn (k:=k')
      rw [et] at hg2 ht1 hla hua ok3
      dsimp only at hg2 ht1 hla hua ok3
      have gw3:=M3.chg.keep _ _ gw nw
      have nw3:¬ pw∈R3:=fun y=>(M3.gr _ y).elim nw fun z=>by rw [gw] at z;cases z
      have rw3:=(rw2.grow M3.gr).chg (M3.chg.mono M3.sb)
      have MA:=M2.trans M3
      have eN:N+3*pl+3=N+3*(pl+1):=by omega
      rw [eN] at MA
      obtain ⟨dx3,ph3,pl3,pu3,Rs3,ys3,I3⟩:=id M3.at_
      have ob3:=I3.ob
      have ol3:=I3.ol
      refine ib (fun σ' H'=>∃ R' ws' d',σ'=[some (.ref q),some (.ref pw),some (.int (pl:Int)),some (.int (k':Int)),some v,d']∧HMove CH CX q ps H R H' (S2.carryL l true).1 R' (N+3*(pl+1))∧H' pw=some (.lst ws')∧¬ pw∈R'∧Reps H' R' ws' ((w++mO l (S2.carryL l true).2).map fk)) ?_ ?_
      · rcases uR S2 l true with e | ⟨lns,e⟩
        · rw [e] at r3 ⊢
          cases r3.non_inv
          walk_at "g"
          rw [if_neg (by decide)]
          walk_at "g"
          refine ⟨R3,ws,d,rfl,MA,gw3,nw3,?_⟩
          show Reps H3 R3 ws ((w++[]).map fk)
          rw [laF];exact rw3
        · rw [e] at r3 ⊢ ht1
          obtain ⟨a3,xs3,rfl,ra,na3,rs3⟩:=r3.lst_inv
          have hl3:(S2.carryL l true).1.ls[k']?=some l:=by rw [hla,List.getElem?_append_left hkl];exact hl
          obtain ⟨x,hx,rx⟩:=I3.ls.getD (i:=k') (d:=b9 l) (by rw [lae,hl3];rfl)
          obtain ⟨l0,t,e0,rfl,rt⟩:=fG I3.ls hx
          rw [hl3] at e0
          cases e0
          have hl1:lns.length≤1:=by have:=ht1;unfold mO at this;rwa [laa] at this
          have hxl3:xs3.length=lns.length:=by rw [rs3.length,laa]
          have hwsl:ws.length=w.length:=by rw [rw3.length,laa]
          walk_at "g"
          rw [if_pos (by simp)]
          walk_at "g"
          refine b2 (ca ol3) (ce hx) ?_
          walk_at "g"
          refine ⟨.inl ⟨rfl,_,ca gw3⟩,?_⟩
          walk_at "g"
          intro pn hpn
          refine d9 (K:=K) (a:=a3) (xs:=xs3) (fun i zs σ H'=>∃ x,σ=[x,some (.int l.2.1)]∧Same H3 H'∧Reps H' R3 zs (((lns.take i).map fun x=>(l.2.1,x)).map fk)) ⟨none,rfl,Same.new hpn,.nil⟩ ?_ ?_ ?_
          · rintro i zs σ H' hi hq' ⟨x,rfl,s,rs⟩
            exact dR (ra.same s)
          · rintro i x zs σ H4 hx' hq' ⟨x',rfl,s4,rs4⟩
            obtain ⟨dd,hd,rx'⟩:=rs3.get hx'
            rw [lae] at hd
            cases hln:lns[i]? with
            | none=>rw [hln] at hd;cases hd
            | some ln=>
              rw [hln] at hd
              cases hd
              walk_at "g"
              rw [if_pos rfl]
              walk_at "A"
              rename_i tt htt H5 s5 g5
              have hil:i<lns.length:=(lab.mp hln).1
              have hzl:zs.length=i:=by rw [rs4.length,laa,laa,lax];omega
              have npt:tt≠pn:=(b8 htt hq').symm
              refine ⟨zs,s5 _ _ hq',bb (by omega),zs++[.ref tt],av,_,rfl,(s4.trans s5).put hpn,?_⟩
              have cc:Chg [pn] H5 (upd H5 pn (.lst (zs++[.ref tt]))):=.set (by rw [s5 _ _ hq'];exact True.intro) (by simp)
              have npR:¬ pn∈R3:=di I3.trk hpn
              have keepR:∀ {vs:List V} {ds:List PyData},Reps H3 R3 vs ds→Reps (upd H5 pn (.lst (zs++[.ref tt]))) R3 vs ds:=fun r=>r.same ((s4.trans s5).put hpn)
              rw [bC hln,lai,lai]
              have rz:Reps (upd H5 pn (.lst (zs++[.ref tt]))) R3 zs (((lns.take i).map fun x=>(l.2.1,x)).map fk):=dW (ip (rs4.same s5) cc)
              exact rz.snoc (.tup (.inl (bo npt g5)) (.cons (.int _) (.cons (Rep.same ((s4.trans s5).put hpn) rx') .nil)))
          · rintro zs σ H4 hq' ⟨x',rfl,s4,rs4⟩
            rw [hxl3,laE] at rs4
            have hzl:zs.length=lns.length:=by rw [rs4.length,laa,laa]
            have gw4:=s4 _ _ gw3
            walk_at "g"
            refine i3 gw4 hq' (by rw [sizeLine_eq];omega) ?_
            have cc:Chg [pw] H4 (upd H4 pw (.lst (ws++zs))):=.set (by rw [gw4];exact True.intro) (by simp)
            refine ⟨R3,ws++zs,_,rfl,((MA.trans (MA.at_.move s4)).put hpw nw3 (by rw [gw4];exact True.intro)),av,nw3,?_⟩
            rw [lai]
            exact (dW (ip (rw3.same s4) cc)).append (dW (ip rs4 cc))
      · rintro σ' H4 ⟨R4,ws4,d4,rfl,M4,gw4,nw4,rw4⟩
        refine ⟨_,rfl,_,_,rfl,rfl,?_⟩
        refine ⟨(S2.carryL l true).1,pl+1,_,R4,ws4,some (.int (k':Int)),some v,d4,?_,hg2,ok3,M4,gw4,nw4,rw4,?_,?_⟩
        · show [some (V.ref q),some (.ref pw),some (.int ((pl:Int)+1)),some (.int (k':Int)),some v,d4]=_
          rw [Int.natCast_add];rfl
        · rw [laf];omega
        · rw [hua,laf];omega
  · rw [if_neg (by simp only [decide_eq_true_eq,List.length_map];omega)]
    have er:r=(S2,w):=by
      cases m with
      | zero=>unfold HallS.sweepGo at hg2;rw [if_neg lt] at hg2;exact (lan hg2).symm
      | succ m=>unfold HallS.sweepGo at hg2;rw [dif_neg lt] at hg2;exact (lan hg2).symm
    subst er
    have epl:pl=S2.un.length:=by omega
    subst epl
    dsimp only at hN hls k
    walk_at "g"
    intro pn hpn
    have hpn0:H pn=none:=M2.free hpn
    have npw:pn≠pw:=(b8 hpn gw).symm
    refine d9 (K:=K) (a:=pu) (xs:=S2.un.map fun k=>V.int (k:Nat)) (fun i zs σ H'=>∃ x R' Rs',σ=[x,some (.ref q)]∧HallIn CH CX H' q ps S2 R' (N+3*S2.un.length) dx ph pl' pu Rs' ys∧Chg R H H'∧Grow R H R'∧(∀ a,a∈R→a∈R')∧¬ pn∈R'∧¬ pw∈R'∧H' pw=some (.lst ws)∧Reps H' R' ws (w.map fk)∧zs=((S2.un.take i).filter fun k=>!S2.spentAt k).map fun k=>V.int (k:Nat))
      ⟨none,R2,Rs,rfl,I2.same (Same.new hpn),M2.chg.trans (.of_same (Same.new hpn)),M2.gr,M2.sb,di I2.trk hpn,nw,bo npw.symm gw,rw2.same (Same.new hpn),rfl⟩ ?_ ?_ ?_
    · rintro i zs σ H' hi hq' ⟨x,R',Rs',rfl,I3,c3,g3,sb3,np3,nw3,gw3,rw3,rfl⟩
      exact ca I3.ou
    · rintro i x zs σ H3 hx hq' ⟨x',R3,Rs3,rfl,I3,c3,g3,sb3,np3,nw3,gw3,rw3,rfl⟩
      rw [lae] at hx
      cases hk:S2.un[i]? with
      | none=>rw [hk] at hx;cases hx
      | some k1=>
        rw [hk] at hx
        have e:V.int (k1:Nat)=x:=lan hx
        subst e
        have hi:i<S2.un.length:=(lab.mp hk).1
        have ob3:=I3.ob
        walk_at "g"
        refine ⟨q,ps,S2,R3,_,c,dx,ph,pl',pu,Rs3,ys,k1,rfl,ok2.un k1 (lam hk),I3,ok2,by omega,fun H4 R4 Rs4 I4 c4 g4 sb4=>?_⟩
        have gp4:=c4.keep _ _ hq' np3
        have gw4:=c4.keep _ _ gw3 nw3
        have np4:¬ pn∈R4:=fun y=>(g4 _ y).elim np3 fun z=>by rw [hq'] at z;cases z
        have nw4:¬ pw∈R4:=fun y=>(g4 _ y).elim nw3 fun z=>by rw [gw3] at z;cases z
        have rw4:=(rw3.grow g4).chg (c4.mono sb4)
        have c04:=c3.grow g3 c4
        have g04:=g3.trans c3 g4
        have hz:(((S2.un.take i).filter fun k=>!S2.spentAt k).map fun k=>V.int (k:Nat)).length≤i:=by
          rw [laa]
          exact las (laJ _ _) (by rw [lax];omega)
        walk_at "g"
        cases hs:S2.spentAt k1 with
        | true=>
          rw [if_neg (by simp)]
          refine ⟨_,gp4,_,R4,Rs4,rfl,I4,c04,g04,fun a ha=>sb4 a (sb3 a ha),np4,nw4,gw4,rw4,?_⟩
          rw [bC hk,lay]
          simp [hs]
        | false=>
          rw [if_pos (by simp)]
          walk_at "g"
          have cc:Chg [pn] H4 (upd H4 pn (.lst ((((S2.un.take i).filter fun k=>!S2.spentAt k).map fun k=>V.int (k:Nat))++[.int (k1:Nat)]))):=.set (by rw [gp4];exact True.intro) (by simp)
          have dis:∀ a∈R4,¬ a∈[pn]:=fun a ha y=>by rw [lag.mp y] at ha;exact np4 ha
          refine ⟨_,gp4,bb (by omega),_,av,_,R4,Rs4,rfl,?_,c04.put hpn0,g04,fun a ha=>sb4 a (sb3 a ha),np4,nw4,bo npw.symm gw4,dW (ip rw4 cc),?_⟩
          · have kp:∀ a o,a∈R4→H4 a=some o→upd H4 pn (.lst ((((S2.un.take i).filter fun k=>!S2.spentAt k).map fun k=>V.int (k:Nat))++[.int (k1:Nat)])) a=some o:=fun a o ha e=>cc.keep a o e (dis a ha)
            exact { I4 with ob:=kp _ _ I4.m1 I4.ob,oh:=kp _ _ I4.m2 I4.oh,ol:=kp _ _ I4.m3 I4.ol,ls:=cT I4.ls cc,ou:=kp _ _ I4.m4 I4.ou,
                            hs:=fun i h e=>(I4.hs i h e).chg cc fun a ha=>dis a (I4.m5 i a (lab.mp e).1 ha),trk:=fun a ha=>(by obtain ⟨o,e⟩:=I4.trk a ha;exact ⟨o,kp _ _ ha e⟩) }
          · rw [bC hk,lay,lai]
            simp [hs]
    · rintro zs σ H3 hq' ⟨x',R3,Rs3,rfl,I3,c3,g3,sb3,np3,nw3,gw3,rw3,rfl⟩
      rw [laa,laE] at hq'
      have ob3:=I3.ob
      walk_at "g"
      refine ⟨q,CX,dx,_,rfl,ob3,cl,f3,(by show 3<1000;decide),?_⟩
      rw [AW]
      have cc:Chg (pn::R3) H3 (upd H3 q (.ins CX dx (iR ph pl' pn))):=.set (by rw [ob3];exact True.intro) (lac _ I3.m1)
      have cq:Chg [q] H3 (upd H3 q (.ins CX dx (iR ph pl' pn))):=.set (by rw [ob3];exact True.intro) (by simp)
      have nwq:pw≠q:=fun e=>nw3 (e▸I3.m1)
      have kp:∀ {a:Addr} {o:HO},H3 a=some o→(∀ D fs,o≠.ins CX D fs)→upd H3 q (.ins CX dx (iR ph pl' pn)) a=some o:=fun z1 z2=>bo (cr z1 ob3 (z2 _ _)) z1
      have J:HallIn CH CX (upd H3 q (.ins CX dx (iR ph pl' pn))) q ps S2.trim (pn::R3) (N+3*S2.un.length) dx ph pl' pn Rs3 ys:=
        { ob:=av,oh:=kp I3.oh (by intro _ _ z;cases z),ol:=kp I3.ol (by intro _ _ z;cases z),ls:=cT I3.ls cq,ou:=kp hq' (by intro _ _ z;cases z),
          hs:=fun i h e=>(I3.hs i h e).chg cq (fun a ha y=>(I3.nq i a (lab.mp e).1 ha).1 (lag.mp y)),
          dj:=I3.dj,nq:=fun i a il ha=>(by
            obtain ⟨e1,e2,e3,e4⟩:=I3.nq i a il ha
            exact ⟨e1,e2,e3,fun z=>np3 (z▸I3.m5 i a il ha)⟩),
          n1:=I3.n1,n2:=fun z=>np3 (z▸I3.m2),n3:=fun z=>np3 (z▸I3.m3),m1:=lac _ I3.m1,m2:=lac _ I3.m2,m3:=lac _ I3.m3,m4:=List.mem_cons_self ..,m5:=fun i a il ha=>lac _ (I3.m5 i a il ha),
          trk:=eY fun a ha=>(by
            rcases List.mem_cons.mp ha with rfl | y
            · exact ⟨_,hq'⟩
            · exact I3.trk a y) }
      have nwn:¬ pw∈pn::R3:=fun y=>by
        rcases List.mem_cons.mp y with z | z
        · exact npw z.symm
        · exact nw3 z
      have gg:Grow R H (pn::R3):=fun a ha=>by
        rcases List.mem_cons.mp ha with rfl | y
        · exact .inr hpn0
        · exact g3 a y
      walk_at "g"
      exact k _ _ _ ⟨⟨_,_,_,_,_,_,J⟩,c3.grow g3 (cq.mono fun b hb=>by rw [lag.mp hb];exact I3.m1),gg,fun a ha=>lac _ (sb3 a ha)⟩ (.lst (.inl (bo nwq gw3)) nwn (dW (ip rw3 cq))) (by rintro _ ⟨⟩;exact hpw)
def wt(l:au):Nat:=if l.2.2.2="ask" then 22 else if l.2.2.2="bound"∨l.2.2.2="off" then 1 else 21
def jn(ls:List au)(k:Nat):Nat:=(ls[k]?).elim 0 wt
def fQ(S:HallS)(ks:List Nat):Nat:=(ks.map (jn S.ls)).sum
theorem pT{α:Type}(f:α→Nat)(b:Nat):∀ (xs:List α),(∀ x∈xs,f x≤b)→(xs.map f).sum≤xs.length*b
 | [],_=>by simp
 | x::r,h=>by
  have h1:=h x (by simp)
  have h2:=pT f b r fun y hy=>h y (lac _ hy)
  simp only [List.map_cons,List.sum_cons,List.length_cons,Nat.succ_mul]
  omega
theorem Ev(l:au):wt l≤22:=by
 unfold wt
 split
 ·omega
 ·split <;> omega
theorem Al(ls:List au)(k:Nat):jn ls k≤22:=by
 unfold jn
 cases ls[k]? with
 | none=>exact laI _
 | some l=>exact Ev l
theorem xA(l:au):1≤wt l:=by
 unfold wt
 split
 ·omega
 ·split <;> omega
theorem nE(a b n:Int){w:Str}(h:w="bound"∨w="off"):wt (a,b,n,w)=1:=by
 unfold wt
 dsimp only
 rw [if_neg (by rcases h with rfl | rfl <;> decide),if_pos h]
theorem jr(h:HS)(n:Int){w:Str}(hw:w="bound"∨w="off"):((h.toOthers n w).map wt).sum=h.oth.length:=by
 unfold HS.toOthers
 rw [List.map_map]
 generalize h.oth=o
 induction o with
 | nil=>rfl
 | cons x r ih=>
  rw [lah,List.sum_cons,ih,laj]
  show wt (h.num,x,n,w)+_=_
  rw [nE _ _ _ hw];omega
theorem Bj{c:Nat}(h:HS)(l:au)(lo:LetOk c l)(ho:h.oth.length≤20):(((h.got l).2).map wt).sum+1≤wt l:=by
 have w21:l.2.2.2="query"∨l.2.2.2="yes"∨l.2.2.2="no"→wt l=21:=fun z=>by
  unfold wt
  rw [if_neg (by rcases z with e | e | e <;> rw [e] <;> decide),if_neg (by rcases z with e | e | e <;> rw [e] <;> decide)]
 unfold HS.got
 split
 ·rename_i e
  have:wt l=22:=by unfold wt;rw [if_pos e]
  rw [this]
  unfold HS.gotAsk
  show (wt _+0)+1≤22
  have:wt (h.num,l.1,l.2.2.1,if ax (h.asked l.2.2.1).book l.2.2.1=some ("off":Str) then ("no":Str) else "yes")≤21:=by
   unfold wt
   dsimp only
   split
   ·rw [if_neg (by decide)];split <;> omega
   ·rw [if_neg (by decide)];split <;> omega
  omega
 split
 ·rename_i e
  rw [w21 (.inl e)]
  unfold HS.gotQuery
  split
  ·simp
  ·split
   ·rename_i d hd
    show (wt _+0)+1≤21
    rw [nE _ _ _ (el hd)];omega
   ·split
    ·show (wt (h.num,l.1,l.2.2.1,"off")+0)+1≤21
     rw [nE _ _ _ (.inr rfl)];omega
    ·unfold HS.decide
     show ((h.toOthers _ _).map wt).sum+1≤21
     rw [jr _ _ (.inr rfl)];omega
 split
 ·rename_i e
  rw [w21 (.inr e)]
  unfold HS.gotVote
  split
  ·rename_i d hd
   dsimp only
   split
   ·show (wt _+0)+1≤21
    rw [nE _ _ _ (el hd)];omega
   ·simp
  ·split
   ·unfold HS.decide
    show ((h.toOthers _ _).map wt).sum+1≤21
    rw [jr _ _ (.inr rfl)];omega
   ·split
    ·simp
    ·unfold HS.decide
     show (((h.count _ _).toOthers _ _).map wt).sum+1≤21
     rw [jr _ _ (.inl rfl)]
     show h.oth.length+1≤21;omega
 ·unfold HS.gotDecision
  have:=xA l
  simpa using this
theorem uD(S:HallS)(a b:List Nat):fQ S (a++b)=fQ S a+fQ S b:=by unfold fQ;rw [lai,List.sum_append_nat]
theorem zK{S S':HallS}{a:List au}(h:S'.ls=S.ls++a)(ks:List Nat)(hk:∀ k∈ks,k<S.ls.length):fQ S' ks=fQ S ks:=by
 unfold fQ
 congr 1
 refine List.map_congr_left fun k hm=>?_
 unfold jn
 rw [h,List.getElem?_append_left (hk k hm)]
theorem Aa(S:HallS)(sent:List au):fQ (S.send sent) ((List.range sent.length).map (S.ls.length+·))=(sent.map wt).sum:=by
 unfold fQ
 rw [List.map_map]
 congr 1
 refine List.ext_getElem? fun j=>?_
 rw [lae,lae]
 by_cases hj:j<sent.length
 ·rw [laD hj,lad hj]
  show some (jn (S.ls++sent) (S.ls.length+j))=_
  unfold jn
  rw [List.getElem?_append_right (Nat.le_add_right _ _),Nat.add_sub_cancel_left,lad hj]
  rfl
 ·rw [List.getElem?_eq_none (by rw [laq];omega),List.getElem?_eq_none (by omega)]
  rfl
theorem qD{c:Nat}{S:HallS}(ok:HallOk c S){pl:Nat}(lt:pl<S.un.length):fQ (S.turn S.un[pl]).1 ((S.turn S.un[pl]).1.un.drop (pl+1))+1≤fQ S (S.un.drop pl):=by
 have hkl:=ok.un _ (List.getElem_mem lt)
 have e0:S.un.drop pl=S.un[pl]::S.un.drop (pl+1):=List.drop_eq_getElem_cons lt
 have hp:fQ S (S.un.drop pl)=jn S.ls S.un[pl]+fQ S (S.un.drop (pl+1)):=by rw [e0];rfl
 have hold:∀ k∈S.un.drop (pl+1),k<S.ls.length:=fun k hk=>ok.un k (List.mem_of_mem_drop hk)
 rw [hp]
 generalize S.un[pl]=k at *
 obtain ⟨l,hl⟩:∃ l,S.ls[k]?=some l:=⟨_,lad hkl⟩
 have lok:=ok.let_ l (lam hl)
 have hw:jn S.ls k=wt l:=by unfold jn;rw [hl];rfl
 have hpos:=xA l
 rw [hw]
 unfold HallS.turn
 rw [hl]
 dsimp only
 unfold HallS.carryL
 split
 ·dsimp only;omega
 ·rename_i h hi
  split
  ·unfold HallS.post
   rw [if_pos rfl]
   dsimp only
   have hd:((S.put l.2.1.toNat (h.got l).1).send (h.got l).2).un.drop (pl+1)=S.un.drop (pl+1)++(List.range (h.got l).2.length).map (S.ls.length+·):=by
    show (S.un++_).drop (pl+1)=_
    rw [List.drop_append_of_le_length (by omega)];rfl
   rw [hd,uD]
   have h1:fQ ((S.put l.2.1.toNat (h.got l).1).send (h.got l).2) (S.un.drop (pl+1))=fQ S (S.un.drop (pl+1)):=zK (a:=(h.got l).2) rfl _ hold
   have h2:=Aa (S.put l.2.1.toNat (h.got l).1) (h.got l).2
   rw [h1]
   have h3:fQ ((S.put l.2.1.toNat (h.got l).1).send (h.got l).2) ((List.range (h.got l).2.length).map (S.ls.length+·))=((h.got l).2.map wt).sum:=h2
   rw [h3]
   have:=Bj (c:=c) h l lok (ok.oth hi)
   omega
  ·dsimp only;omega
theorem nW{c:Nat}:∀ (f:Nat) (S:HallS) (pl:Nat) (w:List (Int×bh)),HallOk c S→pl≤S.un.length→fQ S (S.un.drop pl)≤f→∃ r,S.sweepGo f pl w=some r∧r.1.un.length≤pl+f∧HallOk c r.1
 | 0,S,pl,w,ok,hpl,hf=>by
  unfold HallS.sweepGo
  by_cases lt:pl<S.un.length
  ·have:=qD ok lt;omega
  ·rw [if_neg lt];exact ⟨_,rfl,by dsimp only;omega,ok⟩
 | f+1,S,pl,w,ok,hpl,hf=>by
  unfold HallS.sweepGo
  by_cases lt:pl<S.un.length
  ·rw [dif_pos lt]
   have h1:=qD ok lt
   obtain ⟨_,a,ha⟩:=lK S S.un[pl]
   obtain ⟨r,hr,hl,hk⟩:=nW f (S.turn S.un[pl]).1 (pl+1) (w++(S.turn S.un[pl]).2) ok.turn (by rw [ha,laf];omega) (by omega)
   exact ⟨r,hr,by omega,hk⟩
  ·rw [dif_neg lt];exact ⟨_,rfl,by dsimp only;omega,ok⟩
def HallS.fuel(S:HallS):Nat:=22*S.un.length
def HallS.sweepR(S:HallS):HallS×List (Int×bh):=(S.sweepGo S.fuel 0 []).getD (S,[])
theorem xW(S:HallS):fQ S (S.un.drop 0)≤S.fuel:=by
 unfold fQ HallS.fuel
 have:=pT (jn S.ls) 22 S.un fun k _=>Al _ _
 rw [List.drop_zero];omega
theorem ia{c:Nat}{S:HallS}(ok:HallOk c S):S.sweepGo S.fuel 0 []=some S.sweepR∧S.sweepR.1.un.length≤22*S.un.length∧HallOk c S.sweepR.1:=by
 obtain ⟨r,hr,hl,hk⟩:=nW S.fuel S 0 [] ok (laI _) (xW S)
 have e:S.sweepR=r:=by unfold HallS.sweepR;rw [hr];rfl
 rw [e]
 exact ⟨hr,by unfold HallS.fuel at hl;omega,hk⟩
inductive Deed where
 | begin (n:Int) (st:Bool) | carry (k:Int) (st:Bool) | query (i:Nat) (n:Int) | stop (i:Nat) | wake (i:Nat) | sweep
def Deed.D:Deed→PyData
 | .begin n st=>.tuple [.str "begin",.int n,.bool st]
 | .carry k st=>.tuple [.str "carry",.int k,.bool st]
 | .query i n=>.tuple [.str "query",.int i,.int n]
 | .stop i=>.tuple [.str "stop",.int i]
 | .wake i=>.tuple [.str "wake",.int i]
 | .sweep=>.tuple [.str "sweep"]
def HallS.do(S:HallS):Deed→HallS×Ans
 | .begin n st=>S.begin n st
 | .carry k st=>S.carry k st
 | .query i n=>S.query i n
 | .stop i=>S.stop i
 | .wake i=>S.wake i
 | .sweep=>(S.sweepR.1.trim,.pairs S.sweepR.2)
def fJ(c:Nat):Deed→Prop
 | .carry k _=>0≤k
 | .query i _=>i<c
 | .stop i=>i<c
 | .wake i=>i<c
 | _=>True
def HallS.cost(S:HallS):Deed→Nat
 | .sweep=>3*S.sweepR.1.un.length
 | .wake _=>1000
 | _=>3
def HallS.roomy(S:HallS)(N:Nat):Deed→Prop
 | .wake i=>iB S N∧∀ h,S.hs[i]?=some h→(bG h.book).length≤1000
 | .sweep=>N+3*S.sweepR.1.un.length≤700000∧S.sweepR.1.ls.length≤800000
 | _=>iB S N
theorem HallOk.do{c:Nat}{S:HallS}(ok:HallOk c S)(d:Deed):HallOk c (S.do d).1:=by
 cases d with
 | begin n st=>exact ok.begin
 | carry k st=>exact ok.carry
 | query i n=>exact ok.query
 | stop i=>exact ok.stop
 | wake i=>exact ok.wake
 | sweep=>exact (ia ok).2.2.trim
def HallS.run(S:HallS):List Deed→HallS×List Ans
 | []=>(S,[])
 | d::r=>(((S.do d).1.run r).1,(S.do d).2::((S.do d).1.run r).2)
def HallS.roomyAll(S:HallS)(N:Nat):List Deed→Prop
 | []=>True
 | d::r=>S.roomy N d∧(S.do d).1.roomyAll (N+S.cost d) r
def HallS.costAll(S:HallS):List Deed→Nat
 | []=>0
 | d::r=>S.cost d+(S.do d).1.costAll r
theorem HallOk.run{c:Nat}{S:HallS}(ok:HallOk c S):∀ (ds:List Deed),HallOk c (S.run ds).1:=by
 intro ds
 induction ds generalizing S with
 | nil=>exact ok
 | cons d r ih=>exact ih (ok.do d)
theorem eL(S:HallS)(ds:List Deed)(d:Deed):S.run (ds++[d])=(((S.run ds).1.do d).1,(S.run ds).2++[((S.run ds).1.do d).2]):=by
 induction ds generalizing S with
 | nil=>rfl
 | cons x r ih=>show (((S.do x).1.run (r++[d])).1,(S.do x).2::((S.do x).1.run (r++[d])).2)=_;rw [ih];rfl
theorem pK(S:HallS)(ds:List Deed)(d:Deed):S.costAll (ds++[d])=S.costAll ds+(S.run ds).1.cost d:=by
 induction ds generalizing S with
 | nil=>show S.cost d+0=0+S.cost d;omega
 | cons x r ih=>show S.cost x+(S.do x).1.costAll (r++[d])=S.cost x+(S.do x).1.costAll r+_;rw [ih,Nat.add_assoc];rfl
theorem mW:∀ (ds:List Deed) (S:HallS) (N:Nat),S.roomyAll N ds→∀ i d,ds[i]?=some d→(S.run (ds.take i)).1.roomy (N+S.costAll (ds.take i)) d
 | [],S,N,h,i,d,hi=>by cases hi
 | x::r,S,N,h,0,d,hi=>by cases hi;exact h.1
 | x::r,S,N,h,i+1,d,hi=>by
  have:=mW r (S.do x).1 (N+S.cost x) h.2 i d (by simpa using hi)
  rw [Nat.add_assoc] at this
  exact this
theorem oB(S:HallS)(ds:List Deed):(S.run ds).2.length=ds.length:=by
 induction ds generalizing S with
 | nil=>rfl
 | cons x r ih=>show ((S.do x).1.run r).2.length+1=r.length+1;rw [ih]
def dJ(CH CX:Addr):Sp:=fun vs H Q _=>∃ q t ps S R N c d,vs=[.ref q,.ref t]∧Rep H [] (.ref t) d.D∧HallAt CH CX H q ps S R N∧HallOk c S∧fJ c d∧S.roomy N d∧HRet CH CX q ps H R (N+S.cost d) (S.do d) Q
theorem jB{H:Hp}{t:Addr}{ds:List PyData}(r:Rep H [] (.ref t) (.tuple ds)):∃ xs,Rd H t (.tup xs)∧Reps H [] xs ds:=by
 obtain ⟨a,xs,e,h,rs⟩:=r.tup_inv
 cases e
 exact ⟨xs,h,rs⟩
theorem Cl{K:PySem.W.Frag}{CH CX:Addr}{vs:List V}{H:Hp}{Q:VK}{E:XK}(T:cM K CX)(h:dJ CH CX vs H Q E) :
  vk K (hZ CH CX) (dI CH CX) (gz CH CX) (gi CH CX) (h7 CH CX) (gh CH CX) CX { nx:=fun _ H'=>Q .non H',rt:=Q } (aT ["self","deed","word"] vs) H:=by
 obtain ⟨q,t,ps,S,R,N,c,d,rfl,rt,I,ok,dok,rm,k⟩:=h
 obtain ⟨dx,ph,pl,pu,Rs,ys,I0⟩:=id I
 have ob:=I0.ob
 unfold vk
 cases d with
 | begin n st=>
  obtain ⟨xs,g,rs⟩:=jB rt
  obtain ⟨y1,r1,rfl,h1,t1⟩:=rs.cons_inv
  obtain ⟨y2,r2,rfl,h2,t2⟩:=t1.cons_inv
  obtain ⟨y3,r3,rfl,h3,t3⟩:=t2.cons_inv
  cases t3.nil_inv
  rw [h1.str_inv,h2.int_inv,h3.bl_inv] at g
  walk_at "g"
  rw [if_pos (by decide)]
  walk_at "g"
  exact ⟨q,ps,S,R,N,c,n,st,rfl,I,ok,rm,k⟩
 | carry w st=>
  obtain ⟨xs,g,rs⟩:=jB rt
  obtain ⟨y1,r1,rfl,h1,t1⟩:=rs.cons_inv
  obtain ⟨y2,r2,rfl,h2,t2⟩:=t1.cons_inv
  obtain ⟨y3,r3,rfl,h3,t3⟩:=t2.cons_inv
  cases t3.nil_inv
  rw [h1.str_inv,h2.int_inv,h3.bl_inv] at g
  walk_at "g"
  rw [if_neg (by decide)]
  walk_at "g"
  rw [if_pos (by decide)]
  walk_at "g"
  exact ⟨q,ps,S,R,N,c,w,st,rfl,dok,I,ok,rm,k⟩
 | query i n=>
  obtain ⟨xs,g,rs⟩:=jB rt
  obtain ⟨y1,r1,rfl,h1,t1⟩:=rs.cons_inv
  obtain ⟨y2,r2,rfl,h2,t2⟩:=t1.cons_inv
  obtain ⟨y3,r3,rfl,h3,t3⟩:=t2.cons_inv
  cases t3.nil_inv
  rw [h1.str_inv,h2.int_inv,h3.int_inv] at g
  walk_at "g"
  rw [if_neg (by decide)]
  walk_at "g"
  rw [if_neg (by decide)]
  walk_at "g"
  rw [if_pos (by decide)]
  walk_at "g"
  exact ⟨q,ps,S,R,N,c,i,n,rfl,by rw [ok.len];exact dok,I,ok,rm,k.less (by omega)⟩
 | stop i=>
  obtain ⟨xs,g,rs⟩:=jB rt
  obtain ⟨y1,r1,rfl,h1,t1⟩:=rs.cons_inv
  obtain ⟨y2,r2,rfl,h2,t2⟩:=t1.cons_inv
  cases t2.nil_inv
  rw [h1.str_inv,h2.int_inv] at g
  walk_at "g"
  rw [if_neg (by decide)]
  walk_at "g"
  rw [if_neg (by decide)]
  walk_at "g"
  rw [if_neg (by decide)]
  walk_at "g"
  rw [if_pos (by decide)]
  walk_at "g"
  exact ⟨q,ps,S,R,N,i,rfl,by rw [ok.len];exact dok,I,k.less (by omega)⟩
 | wake i=>
  obtain ⟨xs,g,rs⟩:=jB rt
  obtain ⟨y1,r1,rfl,h1,t1⟩:=rs.cons_inv
  obtain ⟨y2,r2,rfl,h2,t2⟩:=t1.cons_inv
  cases t2.nil_inv
  rw [h1.str_inv,h2.int_inv] at g
  walk_at "g"
  rw [if_neg (by decide)]
  walk_at "g"
  rw [if_neg (by decide)]
  walk_at "g"
  rw [if_neg (by decide)]
  walk_at "g"
  rw [if_neg (by decide)]
  walk_at "g"
  rw [if_pos (by decide)]
  walk_at "g"
  exact ⟨q,ps,S,R,N,c,i,rfl,by rw [ok.len];exact dok,I,ok,rm.1,rm.2,k⟩
 | sweep=>
  obtain ⟨xs,g,rs⟩:=jB rt
  obtain ⟨y1,r1,rfl,h1,t1⟩:=rs.cons_inv
  cases t1.nil_inv
  rw [h1.str_inv] at g
  walk_at "g"
  rw [if_neg (by decide)]
  walk_at "g"
  rw [if_neg (by decide)]
  walk_at "g"
  rw [if_neg (by decide)]
  walk_at "g"
  rw [if_neg (by decide)]
  walk_at "g"
  rw [if_neg (by decide)]
  walk_at "g"
  exact ⟨q,ps,S,R,N,c,_,_,rfl,I,ok,(ia ok).1,rm.1,rm.2,k⟩
def fb(x:Int×Int):PyData:=.tuple [.int x.1,.int x.2]
def dZ(ag:List (Int×Int))(k:Int):List Int:=(ag.filter fun x=>decide (x.1=k)).map (·.2)
def aI(c:Nat)(ag:List (Int×Int)):HallS:=⟨(List.range c).map fun (i:Nat)=>i5 (i:Int) c (dZ ag (i:Int)),[],[]⟩
theorem pS(ag:List (Int×Int))(x:Int×Int)(k:Int):dZ (ag++[x]) k=if x.1=k then dZ ag k++[x.2] else dZ ag k:=by
 unfold dZ
 rw [lay]
 by_cases e:x.1=k <;> simp [e]
def gK:Sp:=fun vs H Q _=>∃ a ag k,vs=[.ref a,.int k]∧Rep H [] (.ref a) (.list (ag.map fb))∧ag.length≤900000∧∀ p H',H p=none→Same H H'→H' p=some (.lst ((dZ ag k).map .int))→Q (.ref p) H'
theorem E8{K:PySem.W.Frag}{vs:List V}{H:Hp}{Q:VK}{E:XK}(h:gK vs H Q E):uS K { nx:=fun _ H'=>Q .non H',rt:=Q } (aT ["against","number"] vs) H:=by
 obtain ⟨a,ag,k,rfl,ra,hal,kk⟩:=h
 obtain ⟨a',xs,e,ga,_,rs⟩:=ra.lst_inv
 cases e
 unfold uS
 walk_at "g"
 intro p hp
 have hxl:xs.length=ag.length:=by rw [rs.length,laa]
 refine d9 (K:=K) (a:=a) (xs:=xs) (fun i ys σ H'=>∃ v,σ=[v,some (.int k)]∧H'=upd H p (.lst ys)∧ys=(dZ (ag.take i) k).map .int) ⟨none,rfl,rfl,rfl⟩ ?_ ?_ ?_
 ·rintro i ys σ H' hi hp' ⟨v,rfl,rfl,rfl⟩
  exact dR (ga.same (Same.new hp))
 ·rintro i x ys σ H' hx hp' ⟨v,rfl,rfl,rfl⟩
  obtain ⟨d,hd,rx⟩:=rs.get hx
  rw [lae] at hd
  cases hb:ag[i]? with
  | none=>rw [hb] at hd;cases hd
  | some y=>
   rw [hb] at hd
   cases hd
   obtain ⟨t,zs,rfl,rt,rz⟩:=rx.tup_inv
   obtain ⟨y1,r1,rfl,h1,t1⟩:=rz.cons_inv
   obtain ⟨y2,r2,rfl,h2,t2⟩:=t1.cons_inv
   cases t2.nil_inv
   rw [h1.int_inv,h2.int_inv] at rt
   have rt':=rt.same (Same.new (p:=p) (o:=.lst ((dZ (ag.take i) k).map .int)) hp)
   have hil:i<ag.length:=(lab.mp hb).1
   have hz:(dZ (ag.take i) k).length≤i:=by
    unfold dZ
    rw [laa]
    exact las (laJ _ _) (by rw [lax];omega)
   walk_at "g"
   by_cases e:y.1=k
   ·rw [if_pos (by simp [e])]
    walk_at "g"
    refine ⟨_,av,bb (by rw [laa];omega),_,av,_,rfl,mn,?_⟩
    rw [bC hb,pS,if_pos e,lai];rfl
   ·rw [if_neg (by simp [e])]
    exact ⟨_,av,_,rfl,rfl,by rw [bC hb,pS,if_neg e]⟩
 ·rintro ys σ H' hp' ⟨v,rfl,hH,rfl⟩
  rw [hxl,laE] at hp'
  exact kk p _ hp (by rw [hH];exact Same.new hp) hp'
def tT(p:Addr):List (Str×V):=[("houses",.ref p)]
def rV(p pl:Addr):List (Str×V):=[("houses",.ref p),("letters",.ref pl)]
structure Hg(CH:Addr)(H H':Hp)(c i:Nat)(ag:List (Int×Int))(p:Addr)(ps:Nat→Addr)(Rs:Nat→List Addr):Prop where
 same:Same H H'
 hs:∀ j,j<i→HouseAt CH H' (ps j) (i5 j c (dZ ag j)) (Rs j) 0
 dj:∀ j k a,j≠k→j<i→k<i→a∈Rs j→a∈Rs k→False
 fr:∀ j a,j<i→a∈Rs j→H a=none∧a≠p
def dP(CH CX:Addr):Sp:=fun vs H Q _=>∃ (q dx a:Addr) (c:Nat) (ag:List (Int×Int)),vs=[.ref q,.int c,.ref a]∧H q=some (.ins CX dx [])∧2≤c∧c≤20∧Rep H [] (.ref a) (.list (ag.map fb))∧ag.length≤900000∧
 ∀ H' R' ps,HallAt CH CX H' q ps (aI c ag) R' 0→Chg [q] H H'→(∀ b∈R',b=q∨H b=none)→Q .non H'
theorem ET{K:PySem.W.Frag}{CH CX:Addr}{vs:List V}{H:Hp}{Q:VK}{E:XK}(T:cM K CX)(h:dP CH CX vs H Q E) :
    wB K gK (gL CH) CH { nx:=fun _ H'=>Q .non H',rt:=Q } (aT ["self","count","against"] vs) H:=by
  obtain ⟨q,dx,a,c,ag,rfl,ob,hc1,hc2,ra,hal,k⟩:=h
  unfold wB
  have M0:Made CX H q dx [] H:=⟨ob,.refl _ _,fun _ h=>h⟩
  walk_at "g"
  refine d_ (by omega) ?_
  intro p hp
  have npq:p≠q:=(b8 hp ob).symm
  refine f' (n:=c) (fun i ys σ H'=>∃ v ps Rs,σ=[v,some (.int (c:Int)),some (.ref a)]∧ys=(List.range i).map (fun j=>V.ref (ps j))∧H' p=some (.lst ys)∧Hg CH H H' c i ag p ps Rs)
    ⟨none,fun _=>0,fun _=>[],rfl,rfl,av,Same.new hp,fun j hj=>absurd hj (Nat.not_lt_zero _),fun j k a e hj=>absurd hj (Nat.not_lt_zero _),fun j a hj=>absurd hj (Nat.not_lt_zero _)⟩ ?_ ?_
  · rintro i ys σ H1 hi hp1 ⟨v,ps,Rs,rfl,rfl,_,I⟩
    have e0:((0:Int)+(i:Int))=(i:Int):=Int.zero_add _
    rw [e0]
    walk_at "g"
    rw [if_pos rfl]
    refine oR ?_
    walk_at "g"
    refine ⟨a,ag,(i:Int),rfl,ra.same I.same,hal,fun pb H2 hpb s2 gb=>?_⟩
    walk_at "g"
    intro x dx' hx hdx nxd
    have hp2:=s2 _ _ hp1
    generalize hH3:upd (upd H2 dx' (.own x)) x (.ins CH dx' [])=H3
    have s3:Same H2 H3:=by
      rw [← hH3]
      intro b o e
      rw [bH (bJ e hx),bH (bJ e hdx)];exact e
    have ob3:H3 x=some (.ins CH dx' []):=by rw [← hH3];exact av
    have s03:=(I.same.trans s2).trans s3
    refine ⟨x,dx',pb,(i:Int),c,dZ ag i,rfl,ob3,by omega,.inl (s3 _ _ gb),fun H4 R4 J4 c4 fr4=>?_⟩
    have k34:∀ b o,b≠x→H3 b=some o→H4 b=some o:=fun b o n e=>c4.keep b o e (by simpa using n)
    have hx0:H x=none:=(I.same.trans s2).free hx
    have s04:Same H H4:=fun b o e=>k34 b o (bJ e hx0) (s03 b o e)
    have npx:p≠x:=b8 hx hp2
    have hp4:H4 p=some (.lst ((List.range i).map fun j=>V.ref (ps j))):=k34 _ _ npx (s3 _ _ hp2)
    have fr4':∀ b∈R4,H b=none∧b≠p∧∀ j,j<i→¬ b∈Rs j:=fun b hb=>by
      rcases fr4 b hb with z | z
      · subst z
        refine ⟨hx0,npx.symm,fun j hj y=>?_⟩
        obtain ⟨dx1,po1,pa1,pk1,pc1,xs1,z1,J⟩:=id (I.hs j hj)
        obtain ⟨o,e⟩:=J.trk _ y
        rw [s2 _ _ e] at hx;cases hx
      · have z2:=s3.free z
        have z1:=s2.free z2
        refine ⟨I.same.free z1,(b8 z1 hp1).symm,fun j hj y=>?_⟩
        obtain ⟨dx1,po1,pa1,pk1,pc1,xs1,z1',J⟩:=id (I.hs j hj)
        obtain ⟨o,e⟩:=J.trk _ y
        rw [e] at z1;cases z1
    have cc:Chg [p] H4 (upd H4 p (.lst ((List.range i).map (fun j=>V.ref (ps j))++[.ref x]))):=.set (by rw [hp4];exact True.intro) (by simp)
    refine ⟨rfl,_,hp4,bb (by rw [laa,laq];omega),_,av,_,(fun j=>if j=i then x else ps j),(fun j=>if j=i then R4 else Rs j),rfl,?_,av,s04.put hp,fun j hj=>?_,fun j k b e hj hk jb kb=>?_,fun j b hj hb=>?_⟩
    · rw [List.range_succ,lai]
      congr 1
      · refine List.map_congr_left fun j hj=>?_
        rw [laB] at hj
        show V.ref (ps j)=V.ref (if j=i then x else ps j)
        rw [if_neg (by omega)]
      · show _=[V.ref (if i=i then x else ps i)]
        rw [if_pos rfl]
    · by_cases e:j=i
      · subst e
        rw [if_pos rfl,if_pos rfl]
        exact J4.chg cc fun b hb y=>(fr4' b hb).2.1 (lag.mp y)
      · have hj':j<i:=by omega
        rw [if_neg e,if_neg e]
        refine HouseAt.chg (T:=[p]) (HouseAt.chg (T:=[x]) (((I.hs j hj').same s2).same s3) c4 fun b hb y=>?_) cc fun b hb y=>(I.fr j b hj' hb).2 (lag.mp y)
        rw [lag.mp y] at hb
        obtain ⟨dx1,po1,pa1,pk1,pc1,xs1,z1',J⟩:=id (I.hs j hj')
        obtain ⟨o,eo⟩:=J.trk _ hb
        rw [s2 _ _ eo] at hx;cases hx
    · by_cases e1:j=i
      · have e2:¬ k=i:=fun z=>e (e1.trans z.symm)
        rw [if_pos e1] at jb;rw [if_neg e2] at kb
        exact (fr4' b jb).2.2 k (by omega) kb
      · rw [if_neg e1] at jb
        by_cases e2:k=i
        · rw [if_pos e2] at kb
          exact (fr4' b kb).2.2 j (by omega) jb
        · rw [if_neg e2] at kb
          exact I.dj j k b e (by omega) (by omega) jb kb
    · by_cases e:j=i
      · rw [if_pos e] at hb
        exact ⟨(fr4' b hb).1,(fr4' b hb).2.1⟩
      · rw [if_neg e] at hb
        exact I.fr j b (by omega) hb
  · rintro ys σ H1 hp1 ⟨v,ps,Rs,rfl,rfl,_,I⟩
    have M1:=M0.same I.same
    walk_at "g"
    refine ⟨q,CX,dx,_,rfl,M1.ob,T.cl,T.f1,(by show 0<1000;decide),?_⟩
    have M2:=M1.put (tT p)
    have g2:=M1.keep (gs:=(tT p)) hp1 (by intro z;cases z)
    have c2:Chg [q] H1 (upd H1 q (.ins CX dx (tT p))):=.set (by rw [M1.ob];exact True.intro) (by simp)
    have e2:bX "houses" (.ref p) ([]:List (Str×V))=(tT p):=by with_unfolding_all rfl
    rw [e2]
    generalize upd H1 q (.ins CX dx (tT p))=H2 at *
    walk_at "g"
    walk_at "w"
    rename_i pl hpl H3 s3 g3
    have M3:=M2.same s3
    walk_at "g"
    refine ⟨q,CX,dx,_,rfl,M3.ob,T.cl,T.f2,(by show 1<1000;decide),?_⟩
    have M4:=M3.put (rV p pl)
    have g4p:=M3.keep (gs:=(rV p pl)) (s3 _ _ g2) (by intro z;cases z)
    have g4l:=M3.keep (gs:=(rV p pl)) g3 (by intro z;cases z)
    have c4:Chg [q] H3 (upd H3 q (.ins CX dx (rV p pl))):=.set (by rw [M3.ob];exact True.intro) (by simp)
    have e4:bX "letters" (.ref pl) (tT p)=(rV p pl):=by with_unfolding_all rfl
    rw [e4]
    generalize upd H3 q (.ins CX dx (rV p pl))=H4 at *
    walk_at "g"
    walk_at "w"
    rename_i pu hpu H5 s5 g5
    have M5:=M4.same s5
    walk_at "g"
    refine ⟨q,CX,dx,_,rfl,M5.ob,T.cl,T.f3,(by show 2<1000;decide),?_⟩
    have e6:bX "unspent" (.ref pu) (rV p pl)=iR p pl pu:=by with_unfolding_all rfl
    rw [e6]
    have M6:=M5.put (iR p pl pu)
    have g6p:=M5.keep (gs:=iR p pl pu) (s5 _ _ g4p) (by intro z;cases z)
    have g6l:=M5.keep (gs:=iR p pl pu) (s5 _ _ g4l) (by intro z;cases z)
    have g6u:=M5.keep (gs:=iR p pl pu) g5 (by intro z;cases z)
    have c6:Chg [q] H5 (upd H5 q (.ins CX dx (iR p pl pu))):=.set (by rw [M5.ob];exact True.intro) (by simp)
    have cA:Chg [q] H1 (upd H5 q (.ins CX dx (iR p pl pu))):=(((c2.trans (.of_same s3)).trans c4).trans (.of_same s5)).trans c6
    generalize upd H5 q (.ins CX dx (iR p pl pu))=H6 at *
    have hpl0:H pl=none:=M2.free _ hpl
    have hpu0:H pu=none:=M4.free _ hpu
    have n1:p≠pl:=b8 hpl g2
    have n2:p≠pu:=b8 hpu g4p
    have n3:pl≠pu:=b8 hpu g4l
    have hlen:(aI c ag).hs.length=c:=by show ((List.range c).map _).length=c;rw [laa,laq]
    have hsAt:∀ i h,(aI c ag).hs[i]?=some h→i<c∧h=i5 i c (dZ ag i):=fun i h e=>by
      have il:i<c:=by rw [← hlen];exact (lab.mp e).1
      change ((List.range c).map fun (i:Nat)=>i5 (i:Int) c (dZ ag (i:Int)))[i]?=some h at e
      rw [lae,laD il] at e
      exact ⟨il,(lan e).symm⟩
    have trkH:∀ i b,i<c→b∈Rs i→∃ o,H1 b=some o:=fun i b il hb=>by
      obtain ⟨dx1,po1,pa1,pk1,pc1,xs1,z1,J⟩:=id (I.hs i il)
      exact J.trk b hb
    have nqi:∀ i b,i<c→b∈Rs i→b≠q∧b≠p∧b≠pl∧b≠pu:=fun i b il hb=>by
      obtain ⟨f0,fp⟩:=I.fr i b il hb
      obtain ⟨o,eo⟩:=trkH i b il hb
      refine ⟨fun z=>?_,fp,fun z=>?_,fun z=>?_⟩
      · rw [z,ob] at f0;cases f0
      · subst z
        cases e:H2 b with
        | none=>
          have:=cA
          have h2:H1 b=none:=by
            cases e':H1 b with
            | none=>rfl
            | some o'=>rw [c2.keep b o' e' (by simpa using fun z=>by rw [z,ob] at f0;cases f0)] at e;cases e
          rw [h2] at eo;cases eo
        | some o'=>rw [hpl] at e;cases e
      · subst z
        have nbq:b≠q:=fun z=>by rw [z,ob] at f0;cases f0
        have e2:H4 b=some o:=c4.keep _ _ (s3 _ _ (c2.keep b o eo (by simpa using nbq))) (by simpa using nbq)
        rw [hpu] at e2;cases e2
    refine k _ ([q,p,pl,pu]++((List.range c).map Rs).flatten) ps ⟨dx,p,pl,pu,Rs,[],?_⟩ M6.chg (fun b hb=>?_)
    · exact { ob:=M6.ob,oh:=by rw [hlen];exact g6p,ol:=g6l,ls:=.nil,ou:=g6u,
              hs:=fun i h e=>(by
                obtain ⟨il,rfl⟩:=hsAt i h e
                exact (I.hs i il).chg cA fun b hb y=>(nqi i b il hb).1 (lag.mp y)),
              dj:=fun i j b e hi hj=>I.dj i j b e (by rw [hlen] at hi;exact hi) (by rw [hlen] at hj;exact hj),
              nq:=fun i b hi hb=>nqi i b (by rw [hlen] at hi;exact hi) hb,
              n1:=n1,n2:=n2,n3:=n3,m1:=by simp,m2:=by simp,m3:=by simp,m4:=by simp,
              m5:=fun i b hi hb=>(by
                rw [hlen] at hi
                exact lak _ (List.mem_flatten.mpr ⟨Rs i,laA.mpr ⟨i,laB.mpr hi,rfl⟩,hb⟩)),
              trk:=fun b hb=>(by
                rcases lap.mp hb with z | z
                · simp only [List.mem_cons,List.not_mem_nil,or_false] at z
                  rcases z with rfl | rfl | rfl | rfl
                  · exact ⟨_,M6.ob⟩
                  · exact ⟨_,g6p⟩
                  · exact ⟨_,g6l⟩
                  · exact ⟨_,g6u⟩
                · obtain ⟨L,hL,hb⟩:=List.mem_flatten.mp z
                  obtain ⟨i,hi,rfl⟩:=laA.mp hL
                  rw [laB] at hi
                  obtain ⟨o,eo⟩:=trkH i b hi hb
                  exact ⟨o,cA.keep b o eo (by simpa using (nqi i b hi hb).1)⟩) }
    · rcases lap.mp hb with z | z
      · simp only [List.mem_cons,List.not_mem_nil,or_false] at z
        rcases z with rfl | rfl | rfl | rfl
        · exact .inl rfl
        · exact .inr hp
        · exact .inr hpl0
        · exact .inr hpu0
      · obtain ⟨L,hL,hb⟩:=List.mem_flatten.mp z
        obtain ⟨i,hi,rfl⟩:=laA.mp hL
        rw [laB] at hi
        exact .inr (I.fr i b hi hb).1
theorem e9{c:Nat}(ag:List (Int×Int))(h1:2≤c)(h2:c≤20):HallOk c (aI c ag) where
 len:=by show ((List.range c).map _).length=c;rw [laa,laq]
 c1:=h1
 c2:=h2
 num:=fun i h e=>by
  change ((List.range c).map fun (i:Nat)=>i5 (i:Int) c (dZ ag (i:Int)))[i]?=some h at e
  have il:i<c:=by have:=(lab.mp e).1;rwa [laa,laq] at this
  rw [lae,laD il] at e
  have:=lan e
  rw [← this];exact ⟨rfl,rfl⟩
 let_:=fun l hl=>by cases hl
 un:=fun k hk=>by cases hk
theorem tu{CH CX q:Addr}{ps:Nat→Addr}{H H1 H2:Hp}{R R2:List Addr}{S2:HallS}{N2:Nat}(s:Same H H1)(f:∀ x∈R,H x=none)(m:HMove CH CX q ps H1 R H2 S2 R2 N2):Same H H2∧∀ x∈R2,H x=none:=
 ⟨fun b o e=>m.chg.keep b o (s b o e) (fun y=>by rw [f b y] at e;cases e),fun x hx=>(m.gr x hx).elim (f x) fun z=>s.free z⟩
def mi(H:Hp)(vs:List V)(c:Nat)(ag:List (Int×Int))(ds:List Deed)(rest:List V):Prop:=
 ∃ a b,vs=.int (c:Int)::.ref a::.ref b::rest∧2≤c∧c≤20∧Rep H [] (.ref a) (.list (ag.map fb))∧ag.length≤900000∧Rep H [] (.ref b) (.list (ds.map Deed.D))∧ds.length≤900000∧(∀ d∈ds,fJ c d)∧(aI c ag).roomyAll 0 ds
theorem tp{H:Hp}{S:List Addr}{ds:List Deed}{xs:List V}{i:Nat}{x:V}(rs:Reps H S xs (ds.map Deed.D))(hx:xs[i]?=some x):∃ d t,ds[i]?=some d∧x=.ref t∧Rep H S (.ref t) d.D:=by
 obtain ⟨dd,hd,rx⟩:=rs.get hx
 rw [lae] at hd
 cases hb:ds[i]? with
 | none=>rw [hb] at hd;cases hd
 | some d=>
  rw [hb] at hd
  cases hd
  have:∃ es,d.D=.tuple es:=by cases d <;> exact ⟨_,rfl⟩
  obtain ⟨es,e⟩:=this
  rw [e] at rx
  obtain ⟨t,ys,rfl,rt,rs'⟩:=rx.tup_inv
  exact ⟨d,t,rfl,rfl,by rw [e];exact .tup rt rs'⟩
def cm(CH CX:Addr):Sp:=fun vs H Q _=>∃ c ag ds,mi H vs c ag ds []∧∀ q H' R' ps,HallAt CH CX H' q ps ((aI c ag).run ds).1 R' ((aI c ag).costAll ds)→Same H H'→(∀ x∈R',H x=none)→Q (.ref q) H'
theorem px{CX q dx:Addr}{H:Hp}(hq:H q=none)(hdx:H dx=none)(nd:dx≠q):Same H (upd (upd H dx (.own q)) q (.ins CX dx []))∧upd (upd H dx (.own q)) q (.ins CX dx []) q=some (.ins CX dx []):=
 ⟨fun b o e=>by rw [bH (bJ e hq),bH (bJ e hdx)];exact e,av⟩
theorem DA{K:PySem.W.Frag}{CH CX:Addr}{vs:List V}{H:Hp}{Q:VK}{E:XK}(h:cm CH CX vs H Q E) :
  vc K (dP CH CX) (dJ CH CX) CX { nx:=fun _ H'=>Q .non H',rt:=Q } (aT ["count","against","deeds","hall","deed"] vs) H:=by
 obtain ⟨c,ag,ds,⟨a,b,rfl,hc1,hc2,ra,hal,rb,hdl,dok,rm⟩,k⟩:=h
 obtain ⟨b',xs,e,gb,_,rs⟩:=rb.lst_inv
 cases e
 have hxl:xs.length=ds.length:=by rw [rs.length,laa]
 unfold vc
 walk_at "g"
 refine oR ?_
 walk_at "g"
 intro q dx hq hdx nd
 obtain ⟨s1,ob1⟩:=px (CX:=CX) hq hdx nd
 generalize upd (upd H dx (.own q)) q (.ins CX dx [])=H1 at *
 refine ⟨q,dx,a,c,ag,rfl,ob1,hc1,hc2,ra.same s1,hal,fun H2 R2 ps I2 c2 f2=>⟨rfl,?_⟩⟩
 have s2:Same H H2:=fun x o e=>c2.keep x o (s1 x o e) (by simpa using bJ e hq)
 have fr2:∀ x∈R2,H x=none:=fun x hx=>(f2 x hx).elim (fun z=>z▸hq) fun z=>s1.free z
 walk_at "g"
 refine d3 (K:=K) (a:=b) (xs:=xs) (fun i σ H'=>∃ v R',σ=[some (.int (c:Int)),some (.ref a),some (.ref b),some (.ref q),v]∧HallAt CH CX H' q ps ((aI c ag).run (ds.take i)).1 R' ((aI c ag).costAll (ds.take i))∧Same H H'∧∀ x∈R',H x=none)
  ⟨none,R2,rfl,I2,s2,fr2⟩ ?_ ?_ ?_
 ·rintro i σ H' hi ⟨v,R',rfl,J,s,f⟩
  exact dR (gb.same s)
 ·rintro i x σ H3 hx ⟨v,R',rfl,J,s,f⟩
  obtain ⟨d,t,hd,rfl,rt⟩:=tp (rs.same s) hx
  obtain ⟨dx3,ph3,pl3,pu3,Rs3,ys3,J0⟩:=id J
  have ob3:=J0.ob
  walk_at "g"
  refine ⟨q,t,ps,_,R',_,c,d,rfl,rt,J,(e9 ag hc1 hc2).run _,dok d (lam hd),?_,fun w H4 R4 M4 _ _=>?_⟩
  ·have:=mW ds (aI c ag) 0 rm i d hd
   rwa [Nat.zero_add] at this
  ·obtain ⟨s4,f4⟩:=tu s f M4
   refine ⟨_,R4,rfl,?_,s4,f4⟩
   rw [bC hd,eL,pK]
   exact M4.at_
 ·rintro σ H3 ⟨v,R',rfl,J,s,f⟩
  rw [hxl,laE] at J
  walk_at "g"
  exact k q _ _ ps J s f
theorem Ae{H:Hp}{R:List Addr}{p:Addr}{w:V}{a:Ans}(r:Rep H R w a.D)(f:∀ l,w=.ref l→l≠p):Rep H (p::R) w a.D:=by
 have out:∀ {x:Addr},w=.ref x→¬ x∈R→¬ x∈p::R:=fun e n y=>by
  rcases List.mem_cons.mp y with z | z
  ·exact f _ e z
  ·exact n z
 cases a with
 | non=>cases r.non_inv;exact .non
 | bl b=>cases r.bl_inv;exact .bl _
 | lines ls=>
  obtain ⟨x,xs,rfl,g,n,rs⟩:=Rep.lst_inv (ds:=ls.map c_) r
  exact .lst g (out rfl n) (fH rs)
 | pairs ps=>
  obtain ⟨x,xs,rfl,g,n,rs⟩:=Rep.lst_inv (ds:=ps.map fk) r
  exact .lst g (out rfl n) (dW rs)
def IL(as:List Ans):PyData:=.list (as.map Ans.D)
def gT(CH CX:Addr):Sp:=fun vs H Q _=>∃ c ag ds,mi H vs c ag ds []∧∀ v H',Same H H'→Rep H' [] v (IL ((aI c ag).run ds).2)→fi H v→Q v H'
theorem Dr{K:PySem.W.Frag}{CH CX:Addr}{vs:List V}{H:Hp}{Q:VK}{E:XK}(h:gT CH CX vs H Q E) :
  v9 K (dP CH CX) (dJ CH CX) CX { nx:=fun _ H'=>Q .non H',rt:=Q } (aT ["count","against","deeds","hall"] vs) H:=by
 obtain ⟨c,ag,ds,⟨a,b,rfl,hc1,hc2,ra,hal,rb,hdl,dok,rm⟩,k⟩:=h
 obtain ⟨b',xs,e,gb,_,rs⟩:=rb.lst_inv
 cases e
 have hxl:xs.length=ds.length:=by rw [rs.length,laa]
 unfold v9
 walk_at "g"
 refine oR ?_
 walk_at "g"
 intro q dx hq hdx nd
 obtain ⟨s1,ob1⟩:=px (CX:=CX) hq hdx nd
 generalize upd (upd H dx (.own q)) q (.ins CX dx [])=H1 at *
 refine ⟨q,dx,a,c,ag,rfl,ob1,hc1,hc2,ra.same s1,hal,fun H2 R2 ps I2 c2 f2=>⟨rfl,?_⟩⟩
 have s2:Same H H2:=fun x o e=>c2.keep x o (s1 x o e) (by simpa using bJ e hq)
 have fr2:∀ x∈R2,H x=none:=fun x hx=>(f2 x hx).elim (fun z=>z▸hq) fun z=>s1.free z
 have gb2:=gb.same s2
 walk_at "g"
 intro p hp
 have hp0:H p=none:=s2.free hp
 refine d9 (K:=K) (a:=b) (xs:=xs) (fun i ys σ H'=>∃ v R',σ=[v,some (.ref q)]∧HallAt CH CX H' q ps ((aI c ag).run (ds.take i)).1 R' ((aI c ag).costAll (ds.take i))∧Same H H'∧(∀ x∈R',H x=none)∧¬ p∈R'∧Reps H' (p::R') ys (((aI c ag).run (ds.take i)).2.map Ans.D))
  ⟨none,R2,rfl,I2.same (Same.new hp),s2.trans (Same.new hp),fr2,di I2.trk hp,.nil⟩ ?_ ?_ ?_
 ·rintro i ys σ H' hi hp' ⟨v,R',rfl,J,s,f,np,rr⟩
  exact dR (gb.same s)
 ·rintro i x ys σ H3 hx hp3 ⟨v,R',rfl,J,s,f,np,rr⟩
  obtain ⟨d,t,hd,rfl,rt⟩:=tp (rs.same s) hx
  have hi:i<ds.length:=(lab.mp hd).1
  obtain ⟨dx3,ph3,pl3,pu3,Rs3,ys3,J0⟩:=id J
  have ob3:=J0.ob
  walk_at "g"
  rw [if_pos rfl]
  walk_at "g"
  refine ⟨q,t,ps,_,R',_,c,d,rfl,rt,J,(e9 ag hc1 hc2).run _,dok d (lam hd),?_,fun w H4 R4 M4 rw4 fw4=>?_⟩
  ·have:=mW ds (aI c ag) 0 rm i d hd
   rwa [Nat.zero_add] at this
  ·obtain ⟨s4,f4⟩:=tu s f M4
   have gp4:=M4.chg.keep _ _ hp3 np
   have np4:¬ p∈R4:=fun y=>(M4.gr _ y).elim np fun z=>by rw [hp3] at z;cases z
   have hyl:ys.length=i:=by rw [rr.length,laa,oB,lax];omega
   have cq:Chg [p] H4 (upd H4 p (.lst (ys++[w]))):=.set (by rw [gp4];exact True.intro) (by simp)
   have fwp:∀ l,w=.ref l→l≠p:=fun l e z=>by
    have:=fw4 l e
    rw [z,hp3] at this;cases this
   refine ⟨ys,gp4,bb (by omega),ys++[w],av,_,R4,rfl,?_,s4.put hp0,f4,np4,?_⟩
   ·rw [bC hd,eL,pK]
    exact M4.at_.chg cq fun b hb y=>by rw [lag.mp y] at hb;exact np4 hb
   ·rw [bC hd,eL,lai]
    have gr2:Grow (p::R') H3 (p::R4):=fun b hb=>by
     rcases List.mem_cons.mp hb with z | z
     ·exact .inl (by simp [z])
     ·exact (M4.gr b z).imp (fun y=>lac _ y) id
    have r1:=((rr.grow gr2).chg (M4.chg.mono fun b hb=>lac _ (M4.sb b hb))).chg (cq.mono fun b hb=>by rw [lag.mp hb];simp)
    exact r1.snoc ((Ae rw4 fwp).chg (cq.mono fun b hb=>by rw [lag.mp hb];simp))
 ·rintro ys σ H3 hp3 ⟨v,R',rfl,J,s,f,np,rr⟩
  rw [hxl,laE] at rr
  exact k _ _ s (.lst (.inl hp3) (by simp) rr.plain) (by rintro _ ⟨⟩;exact hp0)
def lH(S:HallS):PyData:=.list (S.hs.map fun h=>cU h.book)
def dw(CH CX:Addr):Sp:=fun vs H Q _=>∃ c ag ds,mi H vs c ag ds []∧∀ v H',Same H H'→Rep H' [] v (lH ((aI c ag).run ds).1)→fi H v→Q v H'
theorem Ed{K:PySem.W.Frag}{CH CX:Addr}{vs:List V}{H:Hp}{Q:VK}{E:XK}(T:cM K CX)(TH:bt K CH)(h:dw CH CX vs H Q E) :
  uu K (cm CH CX) { nx:=fun _ H'=>Q .non H',rt:=Q } (aT ["count","against","deeds"] vs) H:=by
 obtain ⟨c,ag,ds,G,k⟩:=h
 obtain ⟨a,b,rfl,hc1,hc2,_⟩:=id G
 obtain ⟨cl,f1,f2,f3⟩:=T
 obtain ⟨clh,g1,g2,g3,g4,g5,g6,g7,g8⟩:=TH
 have ok:=(e9 ag hc1 hc2).run ds
 unfold uu
 walk_at "g"
 refine ⟨c,ag,ds,G,fun q H1 R1 ps I s f=>?_⟩
 generalize ((aI c ag).run ds).1=S at *
 obtain ⟨dx,ph,pl,pu,Rs,ys,I0⟩:=id I
 have ob:=I0.ob
 have oh:=I0.oh
 have hl:=ok.len
 walk_at "g"
 intro p hp
 refine d9 (K:=K) (a:=ph) (xs:=(List.range S.hs.length).map fun i=>V.ref (ps i)) (fun i zs σ H'=>∃ v,σ=[v]∧H'=upd H1 p (.lst zs)∧Reps H1 [] zs ((S.hs.take i).map fun h=>cU h.book)) ⟨none,rfl,rfl,.nil⟩ ?_ ?_ ?_
 ·rintro i zs σ H' hi hp' ⟨v,rfl,rfl,rr⟩
  exact ca (bo (b8 hp oh) oh)
 ·rintro i x zs σ H2 hx hp2 ⟨v,rfl,rfl,rr⟩
  have hi:i<S.hs.length:=by have:=(lab.mp hx).1;rwa [laa,laq] at this
  rw [lae,laD hi] at hx
  cases hx
  have hh:S.hs[i]?=some S.hs[i]:=lad hi
  obtain ⟨dx1,po1,pa1,pk1,pc1,xs1,z1,J⟩:=id (I0.hs i _ hh)
  have obh:upd H1 p (.lst zs) (ps i)=_:=bo (b8 hp J.ob) J.ob
  walk_at "g"
  rw [if_pos rfl]
  walk_at "g"
  have hzl:zs.length=i:=by rw [rr.length,laa,lax];omega
  have hc20:=ok.c2
  refine ⟨zs,av,bb (by omega),zs++[.ref pk1],av,_,rfl,mn,?_⟩
  rw [bC hh,lai]
  exact rr.snoc J.rep
 ·rintro zs σ H2 hp2 ⟨v,rfl,rfl,rr⟩
  rw [laa,laq,laE] at rr
  exact k _ _ (s.trans (Same.new hp)) (.lst (.inl av) (by simp) (rr.same (Same.new hp))) (by rintro _ ⟨⟩;exact s.free hp)
def hJ(CH CX:Addr):Sp:=fun vs H Q _=>∃ c ag ds,mi H vs c ag ds []∧∀ v H',Same H H'→Rep H' [] v (m_ ((aI c ag).run ds).1.ls)→fi H v→Q v H'
theorem Co{K:PySem.W.Frag}{CH CX:Addr}{vs:List V}{H:Hp}{Q:VK}{E:XK}(T:cM K CX)(h:hJ CH CX vs H Q E) :
  uL K (cm CH CX) { nx:=fun _ H'=>Q .non H',rt:=Q } (aT ["count","against","deeds"] vs) H:=by
 obtain ⟨c,ag,ds,G,k⟩:=h
 obtain ⟨a,b,rfl,hc1,hc2,_⟩:=id G
 obtain ⟨cl,f1,f2,f3⟩:=T
 unfold uL
 walk_at "g"
 refine ⟨c,ag,ds,G,fun q H1 R1 ps I s f=>?_⟩
 obtain ⟨dx,ph,pl,pu,Rs,ys,I0⟩:=id I
 have ob:=I0.ob
 walk_at "g"
 exact k _ _ s (.lst (.inl I0.ol) (by simp) I0.ls) (by rintro _ ⟨⟩;exact f _ I0.m3)
structure WI1(c L:Nat)(A:Nat→Prop)(v:Nat→List Str):Prop where
 sl:v L=[]∨v L=[("no":Str)]∨v L=[("open":Str)]∨v L=[("open":Str),"bound"]∨v L=[("open":Str),"off"]
 so:∀ i,i<c→i≠L→v i=[]∨v i=[("yes":Str)]∨v i=[("no":Str)]∨v i=[("off":Str)]∨v i=[("yes":Str),"bound"]∨v i=[("yes":Str),"off"]
 ag:∀ i,i<c→A i→¬ ("open":Str)∈v i∧¬ ("yes":Str)∈v i
 ys:∀ i,i<c→i≠L→("yes":Str)∈v i→("open":Str)∈v L
 bd:∀ i,i<c→("bound":Str)∈v i→v L=[("open":Str),"bound"]∧∀ j,j<c→j≠L→v j=[("yes":Str)]∨v j=[("yes":Str),"bound"]
 of:∀ i,i<c→(("off":Str)∈v i∨("no":Str)∈v i)→v L=[("no":Str)]∨v L=[("open":Str),"off"]∨∃ k,k<c∧k≠L∧(v k=[("no":Str)]∨v k=[("off":Str)])
def Of(ws:List Str):Prop:=("off":Str)∈ws∨("no":Str)∈ws
inductive iN(c L:Nat)(A:Nat→Prop)(v:Nat→List Str)(i:Nat):Str→Prop
 | opn:i=L→v i=[]→¬ A i→iN c L A v i "open"
 | noL:i=L→v i=[]→iN c L A v i "no"
 | yes:i≠L→v i=[]→¬ A i→("open":Str)∈v L→iN c L A v i "yes"
 | no:i≠L→v i=[]→iN c L A v i "no"
 | offL:i=L→v i=[("open":Str)]→iN c L A v i "off"
 | bndL:i=L→v i=[("open":Str)]→(∀ j,j<c→j≠L→("yes":Str)∈v j)→iN c L A v i "bound"
 | bnd:i≠L→v i=[("yes":Str)]→(∃ j,j<c∧("bound":Str)∈v j)→iN c L A v i "bound"
 | off:i≠L→(v i=[]∨v i=[("yes":Str)])→(∃ j,j<c∧Of (v j))→iN c L A v i "off"
def j0(v:Nat→List Str)(i:Nat)(x:Str):Nat→List Str:=fun j=>if j=i then v i++[x] else v j
theorem bP(v:Nat→List Str)(i:Nat)(x:Str):j0 v i x i=v i++[x]:=if_pos rfl
theorem bx{v:Nat→List Str}{i j:Nat}{x:Str}(h:j≠i):j0 v i x j=v j:=if_neg h
theorem qw{v:Nat→List Str}{i j:Nat}{x y:Str}(h:y∈v j):y∈j0 v i x j:=by
 unfold j0
 split
 ·rename_i e;subst e;exact lal _ h
 ·exact h
theorem cE{v:Nat→List Str}{i j:Nat}{x y:Str}(h:y∈j0 v i x j):y∈v j∨(j=i∧y=x):=by
 unfold j0 at h
 split at h
 ·rename_i e
  subst e
  rcases lap.mp h with z | z
  ·exact .inl z
  ·exact .inr ⟨rfl,lag.mp z⟩
 ·exact .inl h
theorem WI1.nobound{c L:Nat}{A:Nat→Prop}{v:Nat→List Str}(I:WI1 c L A v){i j:Nat}(hi:i<c)(hb:("bound":Str)∈v i)(hj:j<c)(hL:L<c):¬ Of (v j):=by
 obtain ⟨h1,h2⟩:=I.bd i hi hb
 intro ho
 by_cases e:j=L
 ·subst e;rw [h1] at ho;revert ho;unfold Of;decide
 ·rcases h2 j hj e with z | z <;> (rw [z] at ho;revert ho;unfold Of;decide)
theorem WI1.step{c L:Nat}{A:Nat→Prop}{v:Nat→List Str}(I:WI1 c L A v){i:Nat}{x:Str}(hi:i<c)(hL:L<c)(s:iN c L A v i x):WI1 c L A (j0 v i x):=by
 have old:∀ {j y},y∈v j→y∈j0 v i x j:=fun h=>qw h
 cases s with
 | opn e ev na=>
  subst e
  have nb:∀ j,j<c→¬ ("bound":Str)∈v j:=fun j hj z=>by
   have:=(I.bd j hj z).1;rw [ev] at this;cases this
  refine ⟨?_,?_,?_,?_,?_,?_⟩
  ·rw [bP,ev];exact .inr (.inr (.inl rfl))
  ·intro j hj n;rw [bx n];exact I.so j hj n
  ·intro j hj a
   by_cases n:j=i
   ·subst n;exact absurd a na
   ·rw [bx n];exact I.ag j hj a
  ·intro j hj n z;rw [bP];exact lak _ (by simp)
  ·intro j hj z
   rcases cE z with z | ⟨_,z⟩
   ·exact absurd z (nb j hj)
   ·exact absurd z (by decide)
  ·intro j hj z
   have z':("off":Str)∈v j∨("no":Str)∈v j:=by
    rcases z with z | z
    ·rcases cE z with z | ⟨_,z⟩
     ·exact .inl z
     ·exact absurd z (by decide)
    ·rcases cE z with z | ⟨_,z⟩
     ·exact .inr z
     ·exact absurd z (by decide)
   rcases I.of j hj z' with h | h | ⟨k,hk,nk,h⟩
   ·rw [ev] at h;cases h
   ·rw [ev] at h;cases h
   ·exact .inr (.inr ⟨k,hk,nk,by rw [bx nk];exact h⟩)
 | noL e ev=>
  subst e
  have nb:∀ j,j<c→¬ ("bound":Str)∈v j:=fun j hj z=>by
   have:=(I.bd j hj z).1;rw [ev] at this;cases this
  refine ⟨?_,?_,?_,?_,?_,?_⟩
  ·rw [bP,ev];exact .inr (.inl rfl)
  ·intro j hj n;rw [bx n];exact I.so j hj n
  ·intro j hj a
   by_cases n:j=i
   ·subst n;rw [bP,ev];decide
   ·rw [bx n];exact I.ag j hj a
  ·intro j hj n z
   rw [bx n] at z
   have:=I.ys j hj n z;rw [ev] at this;cases this
  ·intro j hj z
   rcases cE z with z | ⟨_,z⟩
   ·exact absurd z (nb j hj)
   ·exact absurd z (by decide)
  ·intro j hj z;rw [bP,ev];exact .inl rfl
 | yes e ev na ho=>
  have nb:∀ j,j<c→¬ ("bound":Str)∈v j:=fun j hj z=>by
   rcases (I.bd j hj z).2 i hi e with h | h <;> (rw [ev] at h;cases h)
  refine ⟨?_,?_,?_,?_,?_,?_⟩
  ·rw [bx (Ne.symm e)];exact I.sl
  ·intro j hj n
   by_cases m:j=i
   ·subst m;rw [bP,ev];exact .inr (.inl rfl)
   ·rw [bx m];exact I.so j hj n
  ·intro j hj a
   by_cases n:j=i
   ·subst n;exact absurd a na
   ·rw [bx n];exact I.ag j hj a
  ·intro j hj n z;exact old ho
  ·intro j hj z
   rcases cE z with z | ⟨_,z⟩
   ·exact absurd z (nb j hj)
   ·exact absurd z (by decide)
  ·intro j hj z
   have z':("off":Str)∈v j∨("no":Str)∈v j:=by
    rcases z with z | z
    ·rcases cE z with z | ⟨_,z⟩
     ·exact .inl z
     ·exact absurd z (by decide)
    ·rcases cE z with z | ⟨_,z⟩
     ·exact .inr z
     ·exact absurd z (by decide)
   rw [bx (Ne.symm e)]
   rcases I.of j hj z' with h | h | ⟨k,hk,nk,h⟩
   ·exact .inl h
   ·exact .inr (.inl h)
   ·refine .inr (.inr ⟨k,hk,nk,?_⟩)
    rw [bx (by rintro rfl;rw [ev] at h;rcases h with h | h <;> cases h)];exact h
 | no e ev=>
  have nb:∀ j,j<c→¬ ("bound":Str)∈v j:=fun j hj z=>by
   rcases (I.bd j hj z).2 i hi e with h | h <;> (rw [ev] at h;cases h)
  refine ⟨?_,?_,?_,?_,?_,?_⟩
  ·rw [bx (Ne.symm e)];exact I.sl
  ·intro j hj n
   by_cases m:j=i
   ·subst m;rw [bP,ev];exact .inr (.inr (.inl rfl))
   ·rw [bx m];exact I.so j hj n
  ·intro j hj a
   by_cases n:j=i
   ·subst n;rw [bP,ev];decide
   ·rw [bx n];exact I.ag j hj a
  ·intro j hj n z
   rcases cE z with z | ⟨_,z⟩
   ·exact old (I.ys j hj n z)
   ·exact absurd z (by decide)
  ·intro j hj z
   rcases cE z with z | ⟨_,z⟩
   ·exact absurd z (nb j hj)
   ·exact absurd z (by decide)
  ·intro j hj z;exact .inr (.inr ⟨i,hi,e,by rw [bP,ev];exact .inl rfl⟩)
 | offL e ev=>
  subst e
  have nb:∀ j,j<c→¬ ("bound":Str)∈v j:=fun j hj z=>by
   have:=(I.bd j hj z).1;rw [ev] at this;cases this
  refine ⟨?_,?_,?_,?_,?_,?_⟩
  ·rw [bP,ev];exact .inr (.inr (.inr (.inr rfl)))
  ·intro j hj n;rw [bx n];exact I.so j hj n
  ·intro j hj a
   by_cases n:j=i
   ·subst n
    have:=(I.ag j hj a).1;rw [ev] at this;exact absurd (by decide) this
   ·rw [bx n];exact I.ag j hj a
  ·intro j hj n z
   rw [bP,ev];decide
  ·intro j hj z
   rcases cE z with z | ⟨_,z⟩
   ·exact absurd z (nb j hj)
   ·exact absurd z (by decide)
  ·intro j hj z;rw [bP,ev];exact .inr (.inl rfl)
 | bndL e ev ay=>
  subst e
  have nof:∀ j,j<c→¬ Of (v j):=fun j hj z=>by
   rcases I.of j hj z with h | h | ⟨k,hk,nk,h⟩
   ·rw [ev] at h;cases h
   ·rw [ev] at h;cases h
   ·have:=ay k hk nk
    rcases h with h | h <;> (rw [h] at this;revert this;decide)
  have hy:∀ j,j<c→j≠i→v j=[("yes":Str)]∨v j=[("yes":Str),"bound"]:=fun j hj n=>by
   have h1:=ay j hj n
   have h2:=nof j hj
   rcases I.so j hj n with h | h | h | h | h | h
   ·rw [h] at h1;cases h1
   ·exact .inl h
   ·rw [h] at h1;exact absurd h1 (by decide)
   ·rw [h] at h1;exact absurd h1 (by decide)
   ·exact .inr h
   ·rw [h] at h2;exact absurd (by unfold Of;decide) h2
  refine ⟨?_,?_,?_,?_,?_,?_⟩
  ·rw [bP,ev];exact .inr (.inr (.inr (.inl rfl)))
  ·intro j hj n;rw [bx n];exact I.so j hj n
  ·intro j hj a
   by_cases n:j=i
   ·subst n
    have:=(I.ag j hj a).1;rw [ev] at this;exact absurd (by decide) this
   ·rw [bx n];exact I.ag j hj a
  ·intro j hj n z
   rw [bP,ev];decide
  ·intro j hj z
   refine ⟨by rw [bP,ev];rfl,fun k hk n=>?_⟩
   rw [bx n];exact hy k hk n
  ·intro j hj z
   have z':Of (v j):=by
    rcases z with z | z
    ·rcases cE z with z | ⟨_,z⟩
     ·exact .inl z
     ·exact absurd z (by decide)
    ·rcases cE z with z | ⟨_,z⟩
     ·exact .inr z
     ·exact absurd z (by decide)
   exact absurd z' (nof j hj)
 | bnd e ev hb=>
  obtain ⟨k,hk,hb⟩:=hb
  obtain ⟨bL,bO⟩:=I.bd k hk hb
  have nof:∀ j,j<c→¬ Of (v j):=fun j hj=>I.nobound hk hb hj hL
  refine ⟨?_,?_,?_,?_,?_,?_⟩
  ·rw [bx (Ne.symm e)];exact I.sl
  ·intro j hj n
   by_cases m:j=i
   ·subst m;rw [bP,ev];exact .inr (.inr (.inr (.inr (.inl rfl))))
   ·rw [bx m];exact I.so j hj n
  ·intro j hj a
   by_cases n:j=i
   ·subst n
    have:=(I.ag j hj a).2;rw [ev] at this;exact absurd (by decide) this
   ·rw [bx n];exact I.ag j hj a
  ·intro j hj n z
   rw [bx (Ne.symm e),bL];decide
  ·intro j hj z
   refine ⟨by rw [bx (Ne.symm e)];exact bL,fun l hl n=>?_⟩
   by_cases m:l=i
   ·subst m;rw [bP,ev];exact .inr rfl
   ·rw [bx m];exact bO l hl n
  ·intro j hj z
   have z':Of (v j):=by
    rcases z with z | z
    ·rcases cE z with z | ⟨_,z⟩
     ·exact .inl z
     ·exact absurd z (by decide)
    ·rcases cE z with z | ⟨_,z⟩
     ·exact .inr z
     ·exact absurd z (by decide)
   exact absurd z' (nof j hj)
 | off e ev ho=>
  obtain ⟨k,hk,ho⟩:=ho
  have nb:∀ j,j<c→¬ ("bound":Str)∈v j:=fun j hj z=>I.nobound hj z hk hL ho
  refine ⟨?_,?_,?_,?_,?_,?_⟩
  ·rw [bx (Ne.symm e)];exact I.sl
  ·intro j hj n
   by_cases m:j=i
   ·subst m
    rw [bP]
    rcases ev with ev | ev <;> rw [ev]
    ·exact .inr (.inr (.inr (.inl rfl)))
    ·exact .inr (.inr (.inr (.inr (.inr rfl))))
   ·rw [bx m];exact I.so j hj n
  ·intro j hj a
   by_cases n:j=i
   ·subst n
    rw [bP]
    have:=I.ag j hj a
    rcases ev with ev | ev <;> rw [ev] at this ⊢
    ·decide
    ·exact absurd (by decide) this.2
   ·rw [bx n];exact I.ag j hj a
  ·intro j hj n z
   rcases cE z with z | ⟨_,z⟩
   ·exact old (I.ys j hj n z)
   ·exact absurd z (by decide)
  ·intro j hj z
   rcases cE z with z | ⟨_,z⟩
   ·exact absurd z (nb j hj)
   ·exact absurd z (by decide)
  ·intro j hj z
   rw [bx (Ne.symm e)]
   rcases I.of k hk ho with h | h | ⟨m,hm,nm,h⟩
   ·exact .inl h
   ·exact .inr (.inl h)
   ·refine .inr (.inr ?_)
    by_cases z:m=i
    ·subst z
     rcases ev with ev | ev <;> (rw [ev] at h;rcases h with h | h <;> cases h)
    ·exact ⟨m,hm,nm,by rw [bx z];exact h⟩
def ld(c:Nat)(n:Int):Nat:=(n % (c:Int)).toNat
theorem n_{c:Nat}(h:2≤c)(n:Int):ld c n<c:=by
 have h1:=Int.emod_nonneg n (show (c:Int)≠0 by omega)
 have h2:=Int.emod_lt_of_pos n (show (0:Int)<c by omega)
 unfold ld;omega
theorem AG{c:Nat}(h:2≤c)(n:Int):((ld c n:Nat):Int)=n % (c:Int):=by
 have h1:=Int.emod_nonneg n (show (c:Int)≠0 by omega)
 unfold ld;omega
def bf(S:HallS)(i:Nat)(n:Int):List Str:=(S.hs[i]?).elim [] fun h=>ar h.book n
theorem bS{S:HallS}{i:Nat}{h:HS}(hi:S.hs[i]?=some h)(n:Int):bf S i n=ar h.book n:=by unfold bf;rw [hi];rfl
def LI(c:Nat)(w:Nat→Int→List Str)(l:au):Prop:=
 (l.2.2.2="ask"∧l.1=ld c l.2.2.1∧l.2.1≠ld c l.2.2.1∧("open":Str)∈w (ld c l.2.2.1) l.2.2.1)∨
 (l.2.2.2="yes"∧l.2.1=ld c l.2.2.1∧l.1≠ld c l.2.2.1∧("yes":Str)∈w l.1.toNat l.2.2.1)∨
 (l.2.2.2="no"∧l.2.1=ld c l.2.2.1∧l.1≠ld c l.2.2.1∧Of (w l.1.toNat l.2.2.1)∧("open":Str)∈w (ld c l.2.2.1) l.2.2.1)∨
 (l.2.2.2="query"∧l.1≠ld c l.2.2.1∧("yes":Str)∈w l.1.toNat l.2.2.1∧l.2.1≠l.1)∨
 (l.2.2.2="bound"∧l.2.1≠ld c l.2.2.1∧("bound":Str)∈w l.1.toNat l.2.2.1∧l.2.1≠l.1)∨
 (l.2.2.2="off"∧l.2.1≠ld c l.2.2.1∧Of (w l.1.toNat l.2.2.1)∧l.2.1≠l.1)
def qV(w w':Nat→Int→List Str):Prop:=∀ i n x,x∈w i n→x∈w' i n
theorem Of.ext{w w':Nat→Int→List Str}(e:qV w w'){i:Nat}{n:Int}(h:Of (w i n)):Of (w' i n):=h.imp (e i n _) (e i n _)
theorem LI.ext{c:Nat}{w w':Nat→Int→List Str}(e:qV w w'){l:au}(h:LI c w l):LI c w' l:=by
 rcases h with ⟨a,b,d,f⟩ | ⟨a,b,d,f⟩ | ⟨a,b,d,f,g⟩ | ⟨a,b,d,f⟩ | ⟨a,b,d,f⟩ | ⟨a,b,d,f⟩
 ·exact .inl ⟨a,b,d,e _ _ _ f⟩
 ·exact .inr (.inl ⟨a,b,d,e _ _ _ f⟩)
 ·exact .inr (.inr (.inl ⟨a,b,d,f.ext e,e _ _ _ g⟩))
 ·exact .inr (.inr (.inr (.inl ⟨a,b,e _ _ _ d,f⟩)))
 ·exact .inr (.inr (.inr (.inr (.inl ⟨a,b,e _ _ _ d,f⟩))))
 ·exact .inr (.inr (.inr (.inr (.inr ⟨a,b,d.ext e,f⟩))))
def CI(c:Nat)(w:Nat→Int→List Str)(i:Nat)(n:Int)(gs:List Int):Prop:=gs.Nodup∧∀ g∈gs,∃ j:Nat,g=j∧j<c∧j≠i∧("yes":Str)∈w j n
theorem CI.ext{c:Nat}{w w':Nat→Int→List Str}(e:qV w w'){i:Nat}{n:Int}{gs:List Int}(h:CI c w i n gs):CI c w' i n gs:=⟨h.1,fun g hg=>by obtain ⟨j,a,b,d,f⟩:=h.2 g hg;exact ⟨j,a,b,d,e _ _ _ f⟩⟩
structure Inv(c:Nat)(ag:List (Int×Int))(Bs:Int→Prop)(S:HallS):Prop where
 ok:HallOk c S
 agn:∀ (i:Nat) (h:HS),S.hs[i]?=some h→h.agn=dZ ag i
 wi:∀ n,WI1 c (ld c n) (fun i=>n∈dZ ag i) (fun i=>bf S i n)
 cn:∀ (i:Nat) (h:HS) (n:Int),S.hs[i]?=some h→i=ld c n→CI c (bf S) i n (h.cnt n)
 li:∀ l∈S.ls,LI c (bf S) l
 ya:∀ (i:Nat) (n:Int),i<c→i≠ld c n→("yes":Str)∈bf S i n→(((ld c n:Nat):Int),(i:Int),n,("ask":Str))∈S.ls
 ba:∀ (i:Nat) (n:Int),i<c→i≠ld c n→("bound":Str)∈bf S i n→∃ g:Int,(g,(i:Int),n,("bound":Str))∈S.ls
 bs:∀ (i:Nat) (n:Int),bf S i n≠[]→Bs n
theorem eB{S:HallS}{i:Nat}{h g:HS}(hi:S.hs[i]?=some h)(j:Nat)(n:Int):bf (S.put i g) j n=if j=i then ar g.book n else bf S j n:=by
 unfold bf
 show ((S.hs.set i g)[j]?).elim _ _=_
 by_cases e:j=i
 ·subst e
  rw [lao (lab.mp hi).1,if_pos rfl];rfl
 ·rw [lar (Ne.symm e),if_neg e]
theorem ki{S:HallS}{i:Nat}{h g:HS}(hi:S.hs[i]?=some h)(hb:g.book=h.book):bf (S.put i g)=bf S:=by
 funext j n
 rw [eB hi]
 split
 ·rename_i e;subst e;rw [hb,bS hi]
 ·rfl
theorem fX{S:HallS}{i:Nat}{h g:HS}{x:Str}{m:Int}(hi:S.hs[i]?=some h)(hb:g.book=h.book++[(x,m)])(n:Int):(fun j=>bf (S.put i g) j n)=if n=m then j0 (fun j=>bf S j n) i x else fun j=>bf S j n:=by
 funext j
 rw [eB hi]
 by_cases e:j=i
 ·subst e
  rw [if_pos rfl,hb,cI]
  by_cases z:n=m
  ·subst z;rw [if_pos rfl,if_pos rfl,bP,bS hi]
  ·rw [if_neg (fun y=>z y.symm),if_neg z,bS hi]
 ·rw [if_neg e]
  by_cases z:n=m
  ·rw [if_pos z,bx e]
  ·rw [if_neg z]
theorem mT{S:HallS}{i:Nat}{h g:HS}{x:Str}{m:Int}(hi:S.hs[i]?=some h)(hb:g.book=h.book++[(x,m)]):qV (bf S) (bf (S.put i g)):=fun j n y hy=>by
 have:=congrFun (fX hi hb n) j
 rw [this]
 split
 ·exact qw (v:=fun j=>bf S j n) hy
 ·exact hy
theorem Inv.put0{c:Nat}{ag:List (Int×Int)}{Bs:Int→Prop}{S:HallS}(I:Inv c ag Bs S){i:Nat}{h g:HS}(hi:S.hs[i]?=some h)(hn:g.num=h.num)(ho:g.oth=h.oth)(ha:g.agn=h.agn)(hb:g.book=h.book)
  (hc:∀ n,i=ld c n→CI c (bf S) i n (g.cnt n)):Inv c ag Bs (S.put i g):=by
 have ew:bf (S.put i g)=bf S:=ki hi hb
 refine ⟨I.ok.put hi hn ho,?_,?_,?_,?_,?_,?_,?_⟩
 ·intro j x hx
  change (S.hs.set i g)[j]?=some x at hx
  by_cases e:i=j
  ·subst e
   rw [lao (lab.mp hi).1] at hx
   cases hx
   rw [ha];exact I.agn i h hi
  ·rw [lar e] at hx;exact I.agn j x hx
 ·rw [ew];exact I.wi
 ·intro j x n hx e
  rw [ew]
  change (S.hs.set i g)[j]?=some x at hx
  by_cases z:i=j
  ·subst z
   rw [lao (lab.mp hi).1] at hx
   cases hx
   exact hc n e
  ·rw [lar z] at hx;exact I.cn j x n hx e
 ·rw [ew];exact I.li
 ·rw [ew];exact I.ya
 ·rw [ew];exact I.ba
 ·rw [ew];exact I.bs
theorem Inv.put1{c:Nat}{ag:List (Int×Int)}{Bs:Int→Prop}{S:HallS}(I:Inv c ag Bs S){i:Nat}{h g:HS}{x:Str}{m:Int}(hi:S.hs[i]?=some h)(hn:g.num=h.num)(ho:g.oth=h.oth)(ha:g.agn=h.agn)(hb:g.book=h.book++[(x,m)])
  (hc:∀ n,i=ld c n→CI c (bf S) i n (g.cnt n))(st:iN c (ld c m) (fun i=>m∈dZ ag i) (fun i=>bf S i m) i x)(hB:Bs m)
  (hy:x="yes"→i≠ld c m→(((ld c m:Nat):Int),(i:Int),m,("ask":Str))∈S.ls)(hbd:x="bound"→i≠ld c m→∃ g:Int,(g,(i:Int),m,("bound":Str))∈S.ls):Inv c ag Bs (S.put i g):=by
 have il:=I.ok.il hi
 have ex:=mT hi hb
 refine ⟨I.ok.put hi hn ho,?_,?_,?_,?_,?_,?_,?_⟩
 ·intro j y hx
  change (S.hs.set i g)[j]?=some y at hx
  by_cases e:i=j
  ·subst e
   rw [lao (lab.mp hi).1] at hx
   cases hx
   rw [ha];exact I.agn i h hi
  ·rw [lar e] at hx;exact I.agn j y hx
 ·intro n
  rw [fX hi hb n]
  split
  ·rename_i e;subst e;exact (I.wi n).step il (n_ I.ok.c1 n) st
  ·exact I.wi n
 ·intro j y n hx e
  change (S.hs.set i g)[j]?=some y at hx
  by_cases z:i=j
  ·subst z
   rw [lao (lab.mp hi).1] at hx
   cases hx
   exact (hc n e).ext ex
  ·rw [lar z] at hx;exact (I.cn j y n hx e).ext ex
 ·intro l hl;exact (I.li l hl).ext ex
 ·intro j n hj e z
  have:=congrFun (fX hi hb n) j
  rw [this] at z
  split at z
  ·rename_i em
   subst em
   rcases cE z with z | ⟨e1,e2⟩
   ·exact I.ya j n hj e z
   ·subst e1;exact hy e2.symm e
  ·exact I.ya j n hj e z
 ·intro j n hj e z
  have:=congrFun (fX hi hb n) j
  rw [this] at z
  split at z
  ·rename_i em
   subst em
   rcases cE z with z | ⟨e1,e2⟩
   ·exact I.ba j n hj e z
   ·subst e1;exact hbd e2.symm e
  ·exact I.ba j n hj e z
 ·intro j n z
  by_cases em:n=m
  ·subst em;exact hB
  ·have:=congrFun (fX hi hb n) j
   rw [this,if_neg em] at z
   exact I.bs j n z
theorem Inv.send{c:Nat}{ag:List (Int×Int)}{Bs:Int→Prop}{S:HallS}(I:Inv c ag Bs S){sent:List au}(h:∀ l∈sent,LetOk c l∧LI c (bf S) l):Inv c ag Bs (S.send sent):=
 ⟨I.ok.send fun l hl=>(h l hl).1,I.agn,I.wi,I.cn,fun l hl=>(lap.mp hl).elim (I.li l) fun z=>(h l z).2,fun i n hi e z=>lal _ (I.ya i n hi e z),fun i n hi e z=>by obtain ⟨g,hg⟩:=I.ba i n hi e z;exact ⟨g,lal _ hg⟩,I.bs⟩
theorem Inv.halt{c:Nat}{ag:List (Int×Int)}{Bs:Int→Prop}{S:HallS}(I:Inv c ag Bs S){i:Nat}{h:HS}(hi:S.hs[i]?=some h):Inv c ag Bs (S.put i h.stop):=
 I.put0 hi rfl rfl rfl rfl fun n _=>⟨List.nodup_nil,fun g hg=>by cases hg⟩
theorem Inv.post{c:Nat}{ag:List (Int×Int)}{Bs:Int→Prop}{S:HallS}{i:Nat}{h:HS}{r:HS×List au}{st:Bool}(hi:S.hs[i]?=some h)(I:Inv c ag Bs (S.put i r.1))(hl:∀ l∈r.2,LetOk c l∧LI c (bf (S.put i r.1)) l):Inv c ag Bs (S.post i r st):=by
 unfold HallS.post
 cases st with
 | true=>exact I.send hl
 | false=>
  rw [if_neg (by decide)]
  have:=I.halt (eX (g:=r.1) hi)
  rw [iI] at this
  exact this
theorem Inv.trim{c:Nat}{ag:List (Int×Int)}{Bs:Int→Prop}{S:HallS}(I:Inv c ag Bs S):Inv c ag Bs S.trim:=⟨I.ok.trim,I.agn,I.wi,I.cn,I.li,I.ya,I.ba,I.bs⟩
theorem lv:∀ (l m:List Int),l.Nodup→(∀ x∈l,x∈m)→l.length≤m.length
 | [],m,_,_=>laI _
 | x::r,m,hn,hs=>by
  have hx:=hs x (by simp)
  rw [List.nodup_cons] at hn
  have h1:=lv r (m.erase x) hn.2 fun y hy=>(List.mem_erase_of_ne (by rintro rfl;exact hn.1 hy)).mpr (hs y (lac _ hy))
  rw [List.length_erase_of_mem hx] at h1
  have h2:=List.length_pos_of_mem hx
  rw [laj];omega
theorem lE{i c j:Nat}(hj:j<c)(n:j≠i):(j:Int)∈bN (i:Int) c:=by
 unfold bN
 rw [laC,laA]
 refine ⟨⟨j,laB.mpr hj,rfl⟩,?_⟩
 simp;omega
theorem BA{c i:Nat}{gs:List Int}(hn:gs.Nodup)(hs:∀ g∈gs,∃ j:Nat,g=j∧j<c∧j≠i)(hl:(bN (i:Int) c).length≤gs.length):∀ j,j<c→j≠i→(j:Int)∈gs:=by
 intro j hj n
 by_cases m:(j:Int)∈gs
 ·exact m
 ·have:=lv ((j:Int)::gs) (bN (i:Int) c) (List.nodup_cons.mpr ⟨m,hn⟩) fun x hx=>by
   rcases List.mem_cons.mp hx with rfl | z
   ·exact lE hj n
   ·obtain ⟨k,rfl,hk,nk⟩:=hs x z;exact lE hk nk
  rw [laj] at this
  omega
theorem oV{b:List bh}{n:Int}(h:ax b n=some ("off":Str)):Of (ar b n):=by
 unfold ax at h
 split at h
 ·exact absurd (lan h) (by decide)
 ·split at h
  ·rename_i z;exact z
  ·cases h
theorem pj{b:List bh}{n:Int}(h:ax b n=some ("bound":Str)):("bound":Str)∈ar b n:=by
 unfold ax at h
 split at h
 ·rename_i z;exact z
 ·split at h
  ·exact absurd (lan h) (by decide)
  ·cases h
theorem ck{b:List bh}{n:Int}{ws:List Str}(e:ar b n=ws):ax b n=if ("bound":Str)∈ws then some ("bound":Str) else if ("off":Str)∈ws∨("no":Str)∈ws then some ("off":Str) else none:=by
 unfold ax;rw [e]
theorem eV{b:List bh}{n:Int}(e:ar b n=[("yes":Str)]):bI b n=true:=by
 unfold bI ie
 rw [ck e,e]
 decide
theorem mZ{c L:Nat}{A:Nat→Prop}{v:Nat→List Str}(I:WI1 c L A v){b:List bh}{n:Int}(e:ar b n=v L)(h:ax b n=none):v L=[]∨v L=[("open":Str)]:=by
 rcases I.sl with z | z | z | z | z
 ·exact .inl z
 ·rw [ck (e.trans z)] at h;exact absurd h (by decide)
 ·exact .inr z
 ·rw [ck (e.trans z)] at h;exact absurd h (by decide)
 ·rw [ck (e.trans z)] at h;exact absurd h (by decide)
theorem o8{c L:Nat}{A:Nat→Prop}{v:Nat→List Str}(I:WI1 c L A v){i:Nat}(hi:i<c)(n':i≠L){b:List bh}{n:Int}(e:ar b n=v i)(h:ax b n=none):v i=[]∨v i=[("yes":Str)]:=by
 rcases I.so i hi n' with z | z | z | z | z | z
 ·exact .inl z
 ·exact .inr z
 ·rw [ck (e.trans z)] at h;exact absurd h (by decide)
 ·rw [ck (e.trans z)] at h;exact absurd h (by decide)
 ·rw [ck (e.trans z)] at h;exact absurd h (by decide)
 ·rw [ck (e.trans z)] at h;exact absurd h (by decide)
theorem vB{g:Int}{gs:List Int}(h:gs.Nodup):(dt g gs).Nodup:=by
 unfold dt
 split
 ·exact h
 ·rename_i n
  rw [List.nodup_append]
  refine ⟨h,by simp,fun a ha b hb=>?_⟩
  rw [lag.mp hb]
  rintro rfl
  exact n ha
theorem yG{g x:Int}{gs:List Int}(h:x∈dt g gs):x=g∨x∈gs:=by
 unfold dt at h
 split at h
 ·exact .inr h
 ·rcases lap.mp h with z | z
  ·exact .inr z
  ·exact .inl (lag.mp z)
def pJ(c:Nat)(ag:List (Int×Int))(Bs:Int→Prop)(S:HallS)(i:Nat)(r:HS×List au):Prop:=Inv c ag Bs (S.put i r.1)∧∀ x∈r.2,LI c (bf (S.put i r.1)) x
theorem eC{c:Nat}{ag:List (Int×Int)}{Bs:Int→Prop}{S:HallS}(I:Inv c ag Bs S){i:Nat}{h:HS}(hi:S.hs[i]?=some h)(ls:List au)(hl:∀ x∈ls,LI c (bf S) x):pJ c ag Bs S i (h,ls):=by
 unfold pJ
 dsimp only
 rw [ky hi]
 exact ⟨I,hl⟩
theorem eO{c:Nat}{ag:List (Int×Int)}{Bs:Int→Prop}{S:HallS}(I:Inv c ag Bs S){i:Nat}{h:HS}(hi:S.hs[i]?=some h){x:Str}{m:Int}(ls:List au)(st:iN c (ld c m) (fun i=>m∈dZ ag i) (fun i=>bf S i m) i x)(hB:Bs m)
  (hy:x="yes"→i≠ld c m→(((ld c m:Nat):Int),(i:Int),m,("ask":Str))∈S.ls)(hbd:x="bound"→i≠ld c m→∃ g:Int,(g,(i:Int),m,("bound":Str))∈S.ls)
  (hl:x∈bf (S.put i (h.wr x m)) i m→qV (bf S) (bf (S.put i (h.wr x m)))→∀ y∈ls,LI c (bf (S.put i (h.wr x m))) y):pJ c ag Bs S i (h.wr x m,ls):=by
 refine ⟨I.put1 hi rfl rfl rfl rfl (fun n e=>I.cn i h n hi e) st hB hy hbd,hl ?_ (mT hi rfl)⟩
 rw [eB hi,if_pos rfl]
 show x∈ar (h.book++[(x,m)]) m
 rw [cI,if_pos rfl]
 exact lak _ (by simp)
theorem Inv.bsL{c:Nat}{ag:List (Int×Int)}{Bs:Int→Prop}{S:HallS}(I:Inv c ag Bs S){i:Nat}{n:Int}{x:Str}(h:x∈bf S i n):Bs n:=I.bs i n fun e=>by rw [e] at h;cases h
theorem zZ{c:Nat}{ag:List (Int×Int)}{Bs:Int→Prop}{S:HallS}(I:Inv c ag Bs S){i:Nat}{h:HS}(hi:S.hs[i]?=some h){l:au}(hl:l∈S.ls)(ht:l.2.1=(i:Int)):pJ c ag Bs S i (h.got l):=by
 obtain ⟨g,t,n,w⟩:=l
 dsimp only at ht
 subst ht
 have il:=I.ok.il hi
 have lo:=I.ok.let_ _ hl
 have hg0:0≤g:=lo.g0
 have hg1:g<c:=lo.g1
 obtain ⟨hnum,hoth⟩:=I.ok.num i h hi
 have hagn:=I.agn i h hi
 have hL:=n_ I.ok.c1 n
 have W:=I.wi n
 have ewi:ar h.book n=bf S i n:=(bS hi n).symm
 have gn:((g.toNat:Nat):Int)=g:=by omega
 have gl:g.toNat<c:=by omega
 have li:=I.li _ hl
 unfold HS.got
 dsimp only
 unfold LI at li
 dsimp only at li
 -- what is sent to the giver
 have reply:∀ (w':Nat→Int→List Str) (d:Str),g≠ld c n→g≠i→(d="bound"→("bound":Str)∈w' i n)→(d="off"→Of (w' i n))→(d="bound"∨d="off")→LI c w' (h.num,g,n,d):=fun w' d e1 e0 e2 e3 e4=>by
  unfold LI
  dsimp only
  rw [hnum]
  rcases e4 with rfl | rfl
  ·exact .inr (.inr (.inr (.inr (.inl ⟨rfl,e1,e2 rfl,e0⟩))))
  ·exact .inr (.inr (.inr (.inr (.inr ⟨rfl,e1,e3 rfl,e0⟩))))
 have toall:∀ (w':Nat→Int→List Str) (d:Str),i=ld c n→(d="bound"→("bound":Str)∈w' i n)→(d="off"→Of (w' i n))→(d="bound"∨d="off")→∀ y∈h.toOthers n d,LI c w' y:=fun w' d e1 e2 e3 e4 y hy=>by
  unfold HS.toOthers at hy
  obtain ⟨k,hk,rfl⟩:=laA.mp hy
  rw [hoth] at hk
  obtain ⟨h1,h2,h3⟩:=eZ hk
  unfold LI
  dsimp only
  rw [hnum]
  rcases e4 with rfl | rfl
  ·exact .inr (.inr (.inr (.inr (.inl ⟨rfl,by rw [← e1];exact h3,e2 rfl,h3⟩))))
  ·exact .inr (.inr (.inr (.inr (.inr ⟨rfl,by rw [← e1];exact h3,e3 rfl,h3⟩))))
 split
 ·-- ask
  rename_i e
  subst e
  rcases li with ⟨_,a2,a3,a4⟩ | ⟨a1,_⟩ | ⟨a1,_⟩ | ⟨a1,_⟩ | ⟨a1,_⟩ | ⟨a1,_⟩
  all_goals first | exact absurd a1 (by decide) | skip
  have ne:i≠ld c n:=fun z=>a3 (by rw [z])
  unfold HS.gotAsk
  have key:pJ c ag Bs S i (h.asked n,[])∧bf (S.put i (h.asked n)) i n≠[]:=by
   unfold HS.asked
   by_cases em:ar h.book n=[]
   ·rw [if_pos em]
    have ev:bf S i n=[]:=ewi▸em
    by_cases ea:n∈h.agn
    ·rw [if_pos ea]
     refine ⟨eO I hi [] (.no ne ev) (I.bsL a4) (fun z=>absurd z (by decide)) (fun z=>absurd z (by decide)) (fun _ _ y hy=>(nomatch hy)),?_⟩
     rw [eB hi,if_pos rfl]
     show ar (h.book++[_]) n≠[]
     rw [cI,if_pos rfl];simp
    ·rw [if_neg ea]
     refine ⟨eO I hi [] (.yes ne ev (by rw [← hagn];exact ea) a4) (I.bsL a4) (fun _ _=>by rw [← a2];exact hl) (fun z=>absurd z (by decide)) (fun _ _ y hy=>(nomatch hy)),?_⟩
     rw [eB hi,if_pos rfl]
     show ar (h.book++[_]) n≠[]
     rw [cI,if_pos rfl];simp
   ·rw [if_neg em]
    refine ⟨eC I hi [] (fun y hy=>(nomatch hy)),?_⟩
    rw [ky hi,← ewi];exact em
  obtain ⟨⟨K,_⟩,kn⟩:=key
  refine ⟨K,fun y hy=>?_⟩
  rw [lag.mp hy,hnum]
  have ek:bf (S.put i (h.asked n)) i n=ar (h.asked n).book n:=by rw [eB hi,if_pos rfl]
  have ope:("open":Str)∈bf (S.put i (h.asked n)) (ld c n) n:=by rw [eB hi,if_neg (Ne.symm ne)];exact a4
  unfold LI
  dsimp only
  by_cases ed:ax (h.asked n).book n=some ("off":Str)
  ·rw [if_pos ed]
   refine .inr (.inr (.inl ⟨rfl,a2,fun z=>ne (by omega),?_,ope⟩))
   rw [Int.toNat_natCast,ek];exact oV ed
  ·rw [if_neg ed]
   refine .inr (.inl ⟨rfl,a2,fun z=>ne (by omega),?_⟩)
   rw [Int.toNat_natCast]
   rcases (K.wi n).so i il ne with z | z | z | z | z | z
   ·exact absurd z kn
   ·rw [z];decide
   ·rw [ck (ek.symm.trans z)] at ed;exact absurd (by decide) ed
   ·rw [ck (ek.symm.trans z)] at ed;exact absurd (by decide) ed
   ·rw [z];decide
   ·rw [ck (ek.symm.trans z)] at ed;exact absurd (by decide) ed
 split
 ·-- query
  rename_i e0 e
  subst e
  rcases li with ⟨a1,_⟩ | ⟨a1,_⟩ | ⟨a1,_⟩ | ⟨_,a2,a3,a4⟩ | ⟨a1,_⟩ | ⟨a1,_⟩
  all_goals first | exact absurd a1 (by decide) | skip
  have gne:g.toNat≠ld c n:=fun z=>a2 (by omega)
  have ope:("open":Str)∈bf S (ld c n) n:=W.ys g.toNat gl gne a3
  have hB:Bs n:=I.bsL a3
  unfold HS.gotQuery
  split
  ·exact eC I hi [] fun y hy=>by cases hy
  ·rename_i eu
   split
   ·rename_i d hd
    refine eC I hi _ fun y hy=>?_
    rw [lag.mp hy]
    refine reply _ d a2 (Ne.symm a4) (fun z=>?_) (fun z=>?_) (el hd)
    ·subst z;rw [← ewi];exact pj hd
    ·subst z;rw [← ewi];exact oV hd
   ·rename_i hd
    split
    ·rename_i em
     have ev:bf S i n=[]:=ewi▸em
     have ne:i≠ld c n:=fun z=>by rw [← z,ev] at ope;cases ope
     refine eO I hi _ (.no ne ev) hB (fun z=>absurd z (by decide)) (fun z=>absurd z (by decide)) fun m _ y hy=>?_
     rw [lag.mp hy]
     exact reply _ "off" a2 (Ne.symm a4) (fun z=>absurd z (by decide)) (fun _=>.inr m) (.inr rfl)
    ·rename_i em
     by_cases ne:i=ld c n
     ·have ev:bf S i n=[("open":Str)]:=by
       rcases mZ W (b:=h.book) (n:=n) (by rw [ewi,ne]) hd with z | z
       ·rw [← ne] at z;exact absurd (ewi.trans z) em
       ·rw [← ne] at z;exact z
      unfold HS.decide
      exact eO I hi _ (.offL ne ev) hB (fun z=>absurd z (by decide)) (fun z=>absurd z (by decide)) fun m _=>toall _ "off" ne (fun z=>absurd z (by decide)) (fun _=>.inl m) (.inr rfl)
     ·rcases o8 W il ne (b:=h.book) (n:=n) ewi hd with z | z
      ·exact absurd (ewi.trans z) em
      ·exact absurd (eV (ewi.trans z)) eu
 split
 ·-- yes,no
  rename_i e0 e1 e
  have tL:i=ld c n∧g≠ld c n∧(("open":Str)∈bf S (ld c n) n)∧(w="yes"→("yes":Str)∈bf S g.toNat n):=by
   rcases li with ⟨a1,_⟩ | ⟨a1,a2,a3,a4⟩ | ⟨a1,a2,a3,a4,a5⟩ | ⟨a1,_⟩ | ⟨a1,_⟩ | ⟨a1,_⟩
   ·exact absurd a1 e0
   ·exact ⟨by omega,a3,W.ys g.toNat gl (fun z=>a3 (by omega)) a4,fun _=>a4⟩
   ·exact ⟨by omega,a3,a5,fun z=>by rw [a1] at z;exact absurd z (by decide)⟩
   ·exact absurd a1 e1
   ·rw [a1] at e;rcases e with z | z <;> exact absurd z (by decide)
   ·rw [a1] at e;rcases e with z | z <;> exact absurd z (by decide)
  obtain ⟨ne,gne,ope,hye⟩:=tL
  have hB:Bs n:=I.bsL ope
  unfold HS.gotVote
  split
  ·rename_i d hd
   refine eC I hi _ fun y hy=>?_
   split at hy
   ·rw [lag.mp hy]
    refine reply _ d gne (by rw [ne];exact gne) (fun z=>?_) (fun z=>?_) (el hd)
    ·subst z;rw [← ewi];exact pj hd
    ·subst z;rw [← ewi];exact oV hd
   ·cases hy
  ·rename_i hd
   have ev:bf S i n=[("open":Str)]:=by
    rcases mZ W (b:=h.book) (n:=n) (by rw [ewi,ne]) hd with z | z
    ·rw [z] at ope;cases ope
    ·rw [← ne] at z;exact z
   split
   ·unfold HS.decide
    exact eO I hi _ (.offL ne ev) hB (fun z=>absurd z (by decide)) (fun z=>absurd z (by decide)) fun m _=>toall _ "off" ne (fun z=>absurd z (by decide)) (fun _=>.inl m) (.inr rfl)
   ·rename_i enw
    have ew:w="yes":=e.resolve_right enw
    have hyg:=hye ew
    have C0:=I.cn i h n hi ne
    have cnt':∀ m,i=ld c m→CI c (bf S) i m ((h.count g n).cnt m):=fun m em=>by
     show CI c (bf S) i m (if m=n then dt g (h.cnt n) else h.cnt m)
     split
     ·rename_i z
      subst z
      refine ⟨vB C0.1,fun x hx=>?_⟩
      rcases yG hx with rfl | z
      ·exact ⟨x.toNat,gn.symm,gl,fun z=>gne (by omega),hyg⟩
      ·exact C0.2 x z
     ·exact I.cn i h m hi em
    have I2:Inv c ag Bs (S.put i (h.count g n)):=I.put0 hi rfl rfl rfl rfl cnt'
    split
    ·exact ⟨I2,fun y hy=>by cases hy⟩
    ·rename_i hlen
     have C1:CI c (bf S) i n (dt g (h.cnt n)):=by
      have:=cnt' n ne
      change CI c (bf S) i n (if n=n then dt g (h.cnt n) else h.cnt n) at this
      rwa [if_pos rfl] at this
     have all:∀ j,j<c→j≠ld c n→("yes":Str)∈bf S j n:=fun j hj nj=>by
      have:=BA C1.1 (fun x hx=>by obtain ⟨k,a,b,d,_⟩:=C1.2 x hx;exact ⟨k,a,b,d⟩) (by rw [← hoth];omega) j hj (fun z=>nj (z.trans ne))
      obtain ⟨k,a,b,d,e⟩:=C1.2 _ this
      rwa [show k=j by omega] at e
     have hi2:(S.put i (h.count g n)).hs[i]?=some (h.count g n):=eX hi
     have ew2:bf (S.put i (h.count g n))=bf S:=ki hi rfl
     have D:=eO I2 hi2 (x:="bound") (m:=n) (h.toOthers n "bound") (by rw [ew2];exact .bndL ne ev all) hB (fun z=>absurd z (by decide)) (fun _ z=>absurd ne z) fun m _=>toall _ "bound" ne (fun _=>m) (fun z=>absurd z (by decide)) (.inl rfl)
     unfold pJ at D ⊢
     rw [iI] at D
     exact D
 ·-- bound,off
  rename_i e0 e1 e2
  have tL:i≠ld c n∧((w="bound"∧("bound":Str)∈bf S g.toNat n)∨(w="off"∧Of (bf S g.toNat n))):=by
   rcases li with ⟨a1,_⟩ | ⟨a1,_⟩ | ⟨a1,_⟩ | ⟨a1,_⟩ | ⟨a1,a2,a3,_⟩ | ⟨a1,a2,a3,_⟩
   ·exact absurd a1 e0
   ·exact absurd (.inl a1) e2
   ·exact absurd (.inr a1) e2
   ·exact absurd a1 e1
   ·exact ⟨fun z=>a2 (by rw [z]),.inl ⟨a1,a3⟩⟩
   ·exact ⟨fun z=>a2 (by rw [z]),.inr ⟨a1,a3⟩⟩
  obtain ⟨ne,hw⟩:=tL
  have hB:Bs n:=by
   rcases hw with ⟨_,z⟩ | ⟨_,z | z⟩ <;> exact I.bsL z
  unfold HS.gotDecision
  by_cases hd:ax h.book n=none
  ·rw [if_pos hd]
   have ev:=o8 W il ne (b:=h.book) (n:=n) ewi hd
   rcases hw with ⟨rfl,hb⟩ | ⟨rfl,ho⟩
   ·have ev':bf S i n=[("yes":Str)]:=by
     rcases (W.bd g.toNat gl hb).2 i il ne with z | z
     ·exact z
     ·rcases ev with y | y <;> (rw [y] at z;cases z)
    exact eO I hi [] (.bnd ne ev' ⟨g.toNat,gl,hb⟩) hB (fun z=>absurd z (by decide)) (fun _ _=>⟨g,hl⟩) fun _ _ y hy=>by cases hy
   ·exact eO I hi [] (.off ne ev ⟨g.toNat,gl,ho⟩) hB (fun z=>absurd z (by decide)) (fun z=>absurd z (by decide)) fun _ _ y hy=>by cases hy
  ·rw [if_neg hd]
   exact eC I hi [] fun y hy=>by cases hy
theorem Inv.carryL{c:Nat}{ag:List (Int×Int)}{Bs:Int→Prop}{S:HallS}(I:Inv c ag Bs S){l:au}(hl:l∈S.ls)(st:Bool):Inv c ag Bs (S.carryL l st).1:=by
 have lo:=I.ok.let_ _ hl
 unfold HallS.carryL
 split
 ·exact I
 ·rename_i h hi
  split
  ·have ht:l.2.1=((l.2.1.toNat:Nat):Int):=by have:=lo.t0;omega
   obtain ⟨D1,D2⟩:=zZ I hi hl ht
   obtain ⟨e1,e2⟩:=I.ok.num _ h hi
   exact Inv.post hi D1 fun x hx=>⟨xn e1 e2 (I.ok.il hi) lo x hx,D2 x hx⟩
  ·exact I
theorem Inv.carry{c:Nat}{ag:List (Int×Int)}{Bs:Int→Prop}{S:HallS}(I:Inv c ag Bs S)(k:Int)(st:Bool):Inv c ag Bs (S.carry k st).1:=by
 unfold HallS.carry
 split
 ·exact I
 ·rename_i l hl
  exact I.carryL (lam hl) st
theorem Inv.turn{c:Nat}{ag:List (Int×Int)}{Bs:Int→Prop}{S:HallS}(I:Inv c ag Bs S)(k:Nat):Inv c ag Bs (S.turn k).1:=by
 unfold HallS.turn
 split
 ·exact I
 ·rename_i l hl
  exact I.carryL (lam hl) true
theorem Inv.sweepGo{c:Nat}{ag:List (Int×Int)}{Bs:Int→Prop}:∀ (f:Nat) (S:HallS) (pl:Nat) (w:List (Int×bh)) (r:HallS×List (Int×bh)),Inv c ag Bs S→S.sweepGo f pl w=some r→Inv c ag Bs r.1
 | 0,S,pl,w,r,I,h=>by
  unfold HallS.sweepGo at h
  split at h
  ·cases h
  ·cases h;exact I
 | f+1,S,pl,w,r,I,h=>by
  unfold HallS.sweepGo at h
  split at h
  ·exact Inv.sweepGo f _ _ _ _ (I.turn _) h
  ·cases h;exact I
theorem xm{c:Nat}{ag:List (Int×Int)}{Bs:Int→Prop}{S:HallS}(I:Inv c ag Bs S){i:Nat}{h:HS}(hi:S.hs[i]?=some h){n:Int}(ne:i=ld c n)(em:ar h.book n=[])(hB:Bs n):pJ c ag Bs S i (h.begin n):=by
 have ev:bf S i n=[]:=(bS hi n).trans em
 obtain ⟨hnum,hoth⟩:=I.ok.num i h hi
 unfold HS.begin
 split
 ·exact eO I hi [] (.noL ne ev) hB (fun z=>absurd z (by decide)) (fun z=>absurd z (by decide)) fun _ _ y hy=>nomatch hy
 ·rename_i na
  rw [I.agn i h hi] at na
  refine eO I hi _ (.opn ne ev na) hB (fun z=>absurd z (by decide)) (fun z=>absurd z (by decide)) fun m _ y hy=>?_
  unfold HS.toOthers at hy
  obtain ⟨k,hk,rfl⟩:=laA.mp hy
  rw [hoth] at hk
  obtain ⟨h1,h2,h3⟩:=eZ hk
  unfold LI
  dsimp only
  rw [hnum,← ne]
  exact .inl ⟨rfl,rfl,h3,m⟩
theorem zT{c:Nat}{S:HallS}(ok:HallOk c S)(n:Int):S.lead n=ld c n:=by unfold HallS.lead ld;rw [ok.len]
theorem Inv.begin{c:Nat}{ag:List (Int×Int)}{Bs:Int→Prop}{S:HallS}(I:Inv c ag Bs S){n:Int}(st:Bool)(hB:Bs n):Inv c ag Bs (S.begin n st).1:=by
 unfold HallS.begin
 split
 ·exact I
 ·rename_i h hi
  split
  ·rename_i z
   obtain ⟨D1,D2⟩:=xm I hi (zT I.ok n) z.2 hB
   obtain ⟨e1,e2⟩:=I.ok.num _ h hi
   refine Inv.post hi D1 fun x hx=>⟨?_,D2 x hx⟩
   unfold HS.begin at hx
   split at hx
   ·cases hx
   ·exact d0 e1 e2 (I.ok.il hi) (by simp) x hx
  ·exact I
theorem Inv.stop{c:Nat}{ag:List (Int×Int)}{Bs:Int→Prop}{S:HallS}(I:Inv c ag Bs S)(i:Nat):Inv c ag Bs (S.stop i).1:=by
 unfold HallS.stop
 split
 ·exact I
 ·rename_i h hi
  split
  ·exact I.halt hi
  ·exact I
theorem oJ{b:List bh}{n:Int}(h:bI b n=true):("yes":Str)∈ar b n:=by
 unfold bI ie at h
 rw [Bool.and_eq_true] at h
 have:=of_decide_eq_true h.1
 exact List.mem_of_find?_eq_some this
theorem Inv.query{c:Nat}{ag:List (Int×Int)}{Bs:Int→Prop}{S:HallS}(I:Inv c ag Bs S)(i:Nat)(n:Int):Inv c ag Bs (S.query i n).1:=by
 unfold HallS.query
 split
 ·exact I
 ·rename_i h hi
  obtain ⟨e1,e2⟩:=I.ok.num _ h hi
  refine I.send fun x hx=>?_
  unfold HS.query at hx
  split at hx
  ·rename_i z
   refine ⟨d0 e1 e2 (I.ok.il hi) (by simp) x hx,?_⟩
   unfold HS.toOthers at hx
   obtain ⟨k,hk,rfl⟩:=laA.mp hx
   rw [e2] at hk
   obtain ⟨h1,h2,h3⟩:=eZ hk
   have hy:("yes":Str)∈bf S i n:=by rw [bS hi];exact oJ z.2
   have ne:i≠ld c n:=fun z=>by
    rcases (I.wi n).sl with y | y | y | y | y <;> (rw [← z] at y;rw [y] at hy;revert hy;decide)
   unfold LI
   dsimp only
   rw [e1]
   exact .inr (.inr (.inr (.inl ⟨rfl,fun z=>ne (by omega),by rw [Int.toNat_natCast];exact hy,h3⟩)))
  ·cases hx
theorem j1{c:Nat}{ag:List (Int×Int)}{Bs:Int→Prop}{S:HallS}(I:Inv c ag Bs S){i:Nat}{h:HS}(hi:S.hs[i]?=some h){n:Int}(hn:n∈bG h.book):i=ld c n∧bf S i n=[("open":Str)]:=by
 unfold bG at hn
 obtain ⟨l,hl,rfl⟩:=laA.mp hn
 obtain ⟨hm,hf⟩:=laC.mp hl
 rw [Bool.and_eq_true] at hf
 have h1:=of_decide_eq_true hf.1
 have h2:=of_decide_eq_true hf.2
 have ho:("open":Str)∈bf S i l.2:=by
  rw [bS hi]
  unfold ar
  exact laA.mpr ⟨l,laC.mpr ⟨hm,by simp⟩,h1⟩
 have ne:i=ld c l.2:=by
  by_cases z:i=ld c l.2
  ·exact z
  ·rcases (I.wi l.2).so i (I.ok.il hi) z with y | y | y | y | y | y <;> (rw [y] at ho;exact absurd ho (by decide))
 refine ⟨ne,?_⟩
 rcases mZ (I.wi l.2) (b:=h.book) (n:=l.2) (by rw [← ne,bS hi]) h2 with z | z
 ·rw [← ne] at z;rw [z] at ho;cases ho
 ·rw [← ne] at z;exact z
theorem tU{c:Nat}{ag:List (Int×Int)}{Bs:Int→Prop}{i:Nat}:∀ (ns:List Int) (S:HallS) (h:HS),Inv c ag Bs S→S.hs[i]?=some h→ns.Nodup→(∀ n∈ns,i=ld c n∧bf S i n=[("open":Str)])→pJ c ag Bs S i (h.offAll ns)
 | [],S,h,I,hi,_,_=>eC I hi [] fun y hy=>nomatch hy
 | n::r,S,h,I,hi,hd,hs=>by
  obtain ⟨ne,ev⟩:=hs n (by simp)
  rw [List.nodup_cons] at hd
  obtain ⟨hnum,hoth⟩:=I.ok.num i h hi
  have hB:Bs n:=I.bs i n (by rw [ev];simp)
  have toall:∀ (w':Nat→Int→List Str),Of (w' i n)→∀ y∈h.toOthers n "off",LI c w' y:=fun w' e3 y hy=>by
   unfold HS.toOthers at hy
   obtain ⟨k,hk,rfl⟩:=laA.mp hy
   rw [hoth] at hk
   obtain ⟨h1,h2,h3⟩:=eZ hk
   unfold LI
   dsimp only
   rw [hnum]
   exact .inr (.inr (.inr (.inr (.inr ⟨rfl,by rw [← ne];exact h3,e3,h3⟩))))
  obtain ⟨D1,D2⟩:=eO I hi (h.toOthers n "off") (.offL ne ev) hB (fun z=>absurd z (by decide)) (fun z=>absurd z (by decide)) fun m _=>toall _ (.inl m)
  dsimp only at D1 D2
  have hi2:(S.put i (h.wr "off" n)).hs[i]?=some (h.wr "off" n):=eX hi
  obtain ⟨E1,E2⟩:=tU r (S.put i (h.wr "off" n)) (h.wr "off" n) D1 hi2 hd.2 fun m hm=>by
   obtain ⟨a,b⟩:=hs m (lac _ hm)
   refine ⟨a,?_⟩
   have:=congrFun (fX (g:=h.wr "off" n) hi rfl m) i
   rw [if_neg (by rintro rfl;exact hd.1 hm)] at this
   exact this.trans b
  rw [iI] at E1 E2
  refine ⟨E1,fun y hy=>?_⟩
  rcases lap.mp (show y∈h.toOthers n "off"++((h.wr "off" n).offAll r).2 from hy) with z | z
  ·refine toall _ ?_ y z
   refine .inl ?_
   show ("off":Str)∈bf (S.put i ((h.wr "off" n).offAll r).1) i n
   rw [eB hi,if_pos rfl,mH]
   unfold ar
   exact laA.mpr ⟨(("off":Str),n),laC.mpr ⟨lal _ (lak _ (by simp)),by simp⟩,rfl⟩
  ·exact E2 y z
theorem n0{c:Nat}{ag:List (Int×Int)}{Bs:Int→Prop}{S:HallS}(I:Inv c ag Bs S){i:Nat}{h:HS}(hi:S.hs[i]?=some h):(bG h.book).Nodup:=by
 have key:∀ (b:List bh),(∀ n,n∈bG h.book→(b.filter fun l=>decide (l.2=n)).length≤1)→((b.filter fun l=>decide (l.1=("open":Str))&&decide (ax h.book l.2=none)).map (·.2)).Nodup∨∃ n,n∈((b.filter fun l=>decide (l.1=("open":Str))&&decide (ax h.book l.2=none)).map (·.2))∧n∉bG h.book:=by
  intro b hb
  induction b with
  | nil=>exact .inl (by simp)
  | cons x r ih=>
   have hb':∀ n,n∈bG h.book→(r.filter fun l=>decide (l.2=n)).length≤1:=fun n hn=>by
    have:=hb n hn
    rw [laz] at this
    split at this
    ·rw [laj] at this;omega
    ·exact this
   rw [laz]
   split
   ·rename_i hx
    rcases ih hb' with z | ⟨n,h1,h2⟩
    ·by_cases mm:x.2∈bG h.book
     ·refine .inl ?_
      rw [lah,List.nodup_cons]
      refine ⟨fun hin=>?_,z⟩
      obtain ⟨y,hy,e⟩:=laA.mp hin
      have hyr:=(laC.mp hy).1
      have:=hb x.2 mm
      rw [laz,if_pos (by simp),laj] at this
      have hp:0<(r.filter fun l=>decide (l.2=x.2)).length:=List.length_pos_of_mem (laC.mpr ⟨hyr,by simpa using e⟩)
      omega
     ·exact .inr ⟨x.2,by simp,mm⟩
    ·exact .inr ⟨n,by rw [lah];exact lac _ h1,h2⟩
   ·exact ih hb'
 rcases key h.book (fun n hn=>by
  have:=(j1 I hi hn).2
  rw [bS hi] at this
  unfold ar at this
  have:=congrArg List.length this
  rw [laa] at this
  rw [this];exact lat _) with z | ⟨n,h1,h2⟩
 ·exact z
 ·exact absurd h1 h2
theorem Inv.wake{c:Nat}{ag:List (Int×Int)}{Bs:Int→Prop}{S:HallS}(I:Inv c ag Bs S)(i:Nat):Inv c ag Bs (S.wake i).1:=by
 unfold HallS.wake
 split
 ·exact I
 ·rename_i h hi
  split
  ·exact I
  ·obtain ⟨e1,e2⟩:=I.ok.num _ h hi
   have I1:Inv c ag Bs (S.put i { h with up:=true }):=I.put0 hi rfl rfl rfl rfl fun n e=>I.cn i h n hi e
   have hi1:(S.put i { h with up:=true }).hs[i]?=some { h with up:=true }:=eX hi
   obtain ⟨D1,D2⟩:=tU (bG h.book) _ _ I1 hi1 (n0 I hi) fun n hn=>by
    obtain ⟨a,b⟩:=j1 I hi hn
    refine ⟨a,?_⟩
    rw [ki (g:={ h with up:=true }) hi rfl];exact b
   rw [iI] at D1 D2
   unfold HS.wake
   refine D1.send fun x hx=>⟨?_,D2 x hx⟩
   obtain ⟨n,hn,hx⟩:=nL _ _ x hx
   exact d0 (h:=h) e1 e2 (I.ok.il hi) (by simp) x hx
def eM(Bs:Int→Prop):Deed→Prop
 | .begin n _=>Bs n
 | _=>True
theorem Inv.do{c:Nat}{ag:List (Int×Int)}{Bs:Int→Prop}{S:HallS}(I:Inv c ag Bs S)(d:Deed)(hd:eM Bs d):Inv c ag Bs (S.do d).1:=by
 cases d with
 | begin n st=>exact I.begin st hd
 | carry k st=>exact I.carry k st
 | query i n=>exact I.query i n
 | stop i=>exact I.stop i
 | wake i=>exact I.wake i
 | sweep=>exact (Inv.sweepGo _ _ _ _ _ I (ia I.ok).1).trim
theorem Inv.run{c:Nat}{ag:List (Int×Int)}{Bs:Int→Prop}{S:HallS}(I:Inv c ag Bs S):∀ (ds:List Deed),(∀ d∈ds,eM Bs d)→Inv c ag Bs (S.run ds).1:=by
 intro ds hd
 induction ds generalizing S with
 | nil=>exact I
 | cons d r ih=>exact ih (I.do d (hd d (by simp))) fun x hx=>hd x (lac _ hx)
theorem Inv.new{c:Nat}(ag:List (Int×Int))(Bs:Int→Prop)(h1:2≤c)(h2:c≤20):Inv c ag Bs (aI c ag):=by
 have hs:∀ (i:Nat) (h:HS),(aI c ag).hs[i]?=some h→h=i5 (i:Int) c (dZ ag (i:Int)):=fun i h e=>by
  change ((List.range c).map fun (i:Nat)=>i5 (i:Int) c (dZ ag (i:Int)))[i]?=some h at e
  have il:i<c:=by have:=(lab.mp e).1;rwa [laa,laq] at this
  rw [lae,laD il] at e
  exact (lan e).symm
 have w0:∀ i n,bf (aI c ag) i n=[]:=fun i n=>by
  unfold bf
  cases e:(aI c ag).hs[i]? with
  | none=>rfl
  | some h=>rw [hs i h e];rfl
 refine ⟨e9 ag h1 h2,fun i h e=>by rw [hs i h e];rfl,fun n=>?_,fun i h n e _=>by rw [hs i h e];exact ⟨List.nodup_nil,fun g hg=>(nomatch hg)⟩,fun l hl=>(nomatch hl),fun i n _ _ z=>(by rw [w0] at z;cases z),fun i n _ _ z=>(by rw [w0] at z;cases z),fun i n z=>absurd (w0 i n) z⟩
 have e:(fun i=>bf (aI c ag) i n)=fun _=>[]:=by funext i;exact w0 i n
 rw [e]
 exact ⟨.inl rfl,fun _ _ _=>.inl rfl,fun _ _ _=>⟨fun z=>(nomatch z),fun z=>(nomatch z)⟩,fun _ _ _ z=>(nomatch z),fun _ _ z=>(nomatch z),fun _ _ z=>z.elim (fun z=>(nomatch z)) fun z=>(nomatch z)⟩
def vC(K:PySem.W.Frag)(dM:Sp):TS:=
  (aq (aX (im (cb (tB (bv (dF K) (ae (ad 0) (ae (tC (.ty "list")) ak))))) (aZ (ap jA (bv (b5 K) (ae (ad 0) ak)) (ad 1))))
  (aC (tC (.bl false)))
  aM)
  (aq (ei (cP K (ad 0)) (az 2)
  (aX (cb (tB (a_ dM [] E0 (ae (ad 2) ak))))
  (aC (tC (.bl false)))
  aM))
  (aC (tC (.bl true)))))
def vI(K:PySem.W.Frag):TS:=
  (aC (cG (ae (tC (.int 0)) (ae (tC (.int 1)) (ae (tC (.int 2)) (ae (tC (.int 1000000000000)) ak))))))
def vF(K:PySem.W.Frag)(dL:Sp):TS:=
  (aC (ap (cJ K) (a_ dL [] E0 ak) (ap b3 (ap b3 (ap cQ (ad 0) (tC (.int 48271))) (tC (.int 1009))) (tC (.int 4)))))
def vt(K:PySem.W.Frag)(dv:Sp):TS:=
  (aq (bg (ap b3 (ap b3 (ap cQ (ad 0) (tC (.int 48271))) (tC (.int 1013))) (tC (.int 16))) (az 4))
  (aq (bg (ap b3 (ap b3 (ap cQ (ap gQ (ad 0) (ad 1)) (tC (.int 48271))) (tC (.int 1019))) (ad 2)) (az 5))
  (aq (bg (ap jA (ap b3 (ap b3 (ap cQ (ad 0) (tC (.int 48271))) (tC (.int 1021))) (tC (.int 8))) (tC (.int 3))) (az 6))
  (aq (aX (aZ (ap lU (ad 4) (tC (.int 3))))
  (aC (cR (ae (tC (.str "begin")) (ae (a_ dv [] E0 (ae (ap p8 (ad 0) (tC (.int 16))) ak)) (ae (ad 6) ak)))))
  aM)
  (aq (aX (aZ (ap cY (ad 4) (tC (.int 11))))
  (aC (cR (ae (tC (.str "query")) (ae (ad 5) (ae (a_ dv [] E0 (ae (ap p8 (ad 0) (tC (.int 64))) ak)) ak)))))
  aM)
  (aq (aX (aZ (ap cY (ad 4) (tC (.int 12))))
  (aC (cR (ae (tC (.str "stop")) (ae (ad 5) ak))))
  aM)
  (aq (aX (im (aZ (ap cY (ad 4) (tC (.int 13)))) (aZ (ap cY (ad 4) (tC (.int 14)))))
  (aC (cR (ae (tC (.str "wake")) (ae (ad 5) ak))))
  aM)
  (aq (aX (iw (aZ (ap cY (ad 4) (tC (.int 15)))) (cb (tB (ad 3))))
  (aC (cR (ae (tC (.str "sweep")) ak)))
  aM)
  (aq (bg (ap b3 (ap b3 (ap cQ (ap gQ (ad 0) (ap cQ (tC (.int 5)) (ad 1))) (tC (.int 48271))) (tC (.int 1031))) (ap gQ (ap cQ (tC (.int 2)) (ad 1)) (tC (.int 1)))) (az 7))
  (iU (aX (aZ (ap cY (ap b3 (ap b3 (ap cQ (ad 0) (tC (.int 48271))) (tC (.int 1087))) (tC (.int 24))) (tC (.int 1))))
  (bg (tC (.int 100000000000000000000)) (az 7))
  aM)
  (aC (cR (ae (tC (.str "carry")) (ae (ad 7) (ae (ad 6) ak)))))))))))))))
def um(K:PySem.W.Frag)(h8:Sp):TS:=
  (aq (bg (cG ak) (az 2))
  (aq (bg (tC (.bl false)) (az 3))
  (aq (ei (en (ae (bv (b5 K) (ae (ad 0) ak)) ak)) (az 4)
  (aq (b1 (fU K "list" dc (ad 2) (ae (a_ h8 [] E0 (ae (ap gQ (ap (cJ K) (ad 0) (ad 4)) (ap cQ (tC (.int 7)) (ad 4))) (ae (ad 4) (ae (ad 1) (ae (ad 3) ak))))) ak)))
  (bg (xY (ad 3) (ap wd (ap (cJ K) (ad 2) (A8 Dn (tC (.int 1)))) (cR (ae (tC (.str "sweep")) ak)))) (az 3))))
  (aC (ad 2)))))
def u6(K:PySem.W.Frag)(dL:Sp):TS:=
  (aq (bg (cG ak) (az 2))
  (aq (ei (en (ae (ad 1) ak)) (az 3)
  (ei (en (ae (tC (.int 4)) ak)) (az 4)
  (aX (iw (aZ (ap cY (ap b3 (ap b3 (ap cQ (ap p8 (ad 0) (ap gQ (ap gQ (ap cQ (tC (.int 3)) (ad 3)) (ad 4)) (tC (.int 2)))) (tC (.int 48271))) (tC (.int 1033))) (tC (.int 5))) (tC (.int 1)))) (aZ (ap mS (ap b3 (ap b3 (ap cQ (ad 0) (tC (.int 48271))) (tC (.int 1039))) (tC (.int 3))) (tC (.int 0)))))
  (b1 (fU K "list" dc (ad 2) (ae (cR (ae (ad 3) (ae (ap (cJ K) (a_ dL [] E0 ak) (ad 4)) ak))) ak)))
  aM)))
  (aC (ad 2))))
def ul(K:PySem.W.Frag):TS:=
  (aq (bg (tC .non) (az 2))
  (aq (ei (cP K (ad 0)) (az 3)
  (iU (aX (iw (aZ (ap cY (ap (bK K) (ad 3) (tC (.int 1))) (ad 1))) (aZ (ap cY (ap (bK K) (ad 3) (tC (.int 0))) (tC (.str "bound")))))
  (bg (tC (.str "bound")) (az 2))
  aM)
  (aX (iw (aZ (ap cY (ap (bK K) (ad 3) (tC (.int 1))) (ad 1))) (im (aZ (ap cY (ap (bK K) (ad 3) (tC (.int 0))) (tC (.str "no")))) (aZ (ap cY (ap (bK K) (ad 3) (tC (.int 0))) (tC (.str "off"))))))
  (bg (tC (.str "off")) (az 2))
  aM)))
  (aC (ad 2))))
def yA(K:PySem.W.Frag):TS:=
  (aC (ff (cP K (ad 0)) (az 0) (aZ (ap cY (ap (bK K) (ad 0) (tC (.int 1))) (ad 1))) (ap (bK K) (ad 0) (tC (.int 0))) [none,some 1]))
def lW(bs:List (List bh)):PyData:=.list (bs.map cU)
theorem mt{H:Hp}{S:List Addr}{bs:List (List bh)}{xs:List V}{i:Nat}{x:V}(rs:Reps H S xs (bs.map cU))(hx:xs[i]?=some x):∃ b t,bs[i]?=some b∧x=.ref t∧Rep H S (.ref t) (cU b):=by
 obtain ⟨dd,hd,rx⟩:=rs.get hx
 rw [lae] at hd
 cases hb:bs[i]? with
 | none=>rw [hb] at hd;cases hd
 | some b=>
  rw [hb] at hd
  cases hd
  obtain ⟨t,ys,rfl,rt,nt,rs'⟩:=Rep.lst_inv (ds:=b.map c_) rx
  exact ⟨b,t,rfl,rfl,.lst rt nt rs'⟩
def du:Sp:=fun vs H Q _=>∃ a bs,∃ c:Nat,vs=[.ref a,.int (c:Int)]∧Rep H [] (.ref a) (lW bs)∧bs.length=c∧(∀ b∈bs,l_ b)∧∀ H',Same H H'→Q (.bl true) H'
theorem FF{K:PySem.W.Frag}{vs:List V}{H:Hp}{Q:VK}{E:XK}(h:du vs H Q E):vC K dM { nx:=fun _ H'=>Q .non H',rt:=Q } (aT ["_law_found","_law_count","_law_book"] vs) H:=by
 obtain ⟨a,bs,c,rfl,ra,hc,hw,k⟩:=h
 obtain ⟨_,xs,e,rd,_,rs⟩:=id (Rep.lst_inv (ds:=bs.map cU) ra)
 cases e
 have hxl:xs.length=bs.length:=by rw [rs.length,laa]
 unfold vC
 walk_at "g"
 refine ⟨_,_,_,true,rfl,TyO.list rd,cW _ _,?_⟩
 walk_at "g"
 refine cS ?_
 refine iJ (md (mf (iL (jy (by rfl) (jG (mh (dR rd) ?_))))))
 walk_at "g"
 rw [if_neg (by simp;omega)]
 walk_at "g"
 refine d3 (K:=K) (a:=a) (xs:=xs) (fun i σ H'=>∃ v,σ=[some (.ref a),some (.int (c:Int)),v]∧Same H H') ⟨none,rfl,Same.refl _⟩ ?_ ?_ ?_
 ·rintro i σ H' hi ⟨v,rfl,s⟩
  exact s.seq (dR rd)
 ·rintro i x σ H' hx ⟨v,rfl,s⟩
  obtain ⟨b,t,hb,rfl,rt⟩:=mt rs hx
  walk_at "g"
  refine ⟨t,b,rfl,rt.same s,hw b (lam hb),fun H2 s2=>?_⟩
  walk_at "g"
  refine cS ?_
  walk_at "g"
  exact ⟨_,rfl,s.trans s2⟩
 ·rintro σ H' ⟨v,rfl,s⟩
  walk_at "g"
  exact k H' s
def allB:List Int:=[0,1,2,1000000000000]
def dL:Sp:=fun vs H Q _=>vs=[]∧∀ p H',H p=none→Same H H'→H' p=some (.lst (allB.map .int))→Q (.ref p) H'
theorem EK{K:PySem.W.Frag}{vs:List V}{H:Hp}{Q:VK}{E:XK}(h:dL vs H Q E):vI K { nx:=fun _ H'=>Q .non H',rt:=Q } (aT [] vs) H:=by
 obtain ⟨rfl,k⟩:=h
 unfold vI
 walk_at "A"
 rename_i p hp H1 s1 g1
 exact k p H1 hp s1 g1
def dv(Bs:Int→Prop):Sp:=fun vs H Q _=>∃ z:Int,vs=[.int z]∧∀ n H',Bs n→Same H H'→Q (.int n) H'
theorem FL{K:PySem.W.Frag}{vs:List V}{H:Hp}{Q:VK}{E:XK}(h:dv (·∈allB) vs H Q E):vF K dL { nx:=fun _ H'=>Q .non H',rt:=Q } (aT ["_law_cell"] vs) H:=by
 obtain ⟨z,rfl,k⟩:=h
 unfold vF
 walk_at "g"
 refine ⟨rfl,fun p H1 hp s1 g1=>?_⟩
 obtain ⟨v,hv,hat⟩:=oU (xs:=allB.map V.int) (r:=z*48271 % 1009 % 4) (by omega) (by show _<(4:Int);omega)
 obtain ⟨n,hn,rfl⟩:=laA.mp hv
 walk_at "g"
 exact k n H1 hn s1
def Drawn(Bs:Int→Prop)(c:Nat)(sw:Bool)(d:Deed):Prop:=fJ c d∧eM Bs d∧(d=.sweep→sw=false)
def h8(Bs:Int→Prop):Sp:=fun vs H Q _=>∃ (z:Int) (k c:Nat) (sw:Bool),vs=[.int z,.int (k:Int),.int (c:Int),.bl sw]∧2≤c∧k≤1000000∧∀ d t H',Drawn Bs c sw d→Same H H'→Rep H' [] (.ref t) d.D→Q (.ref t) H'
theorem Fb{Bs:Int→Prop}{K:PySem.W.Frag}{vs:List V}{H:Hp}{Q:VK}{E:XK}(h:h8 Bs vs H Q E) :
  vt K (dv Bs) { nx:=fun _ H'=>Q .non H',rt:=Q } (aT ["_law_cell","_law_k","_law_count","_law_swept","_law_way","_law_who","_law_stays","_law_which"] vs) H:=by
 obtain ⟨z,k,c,sw,rfl,hc,hkl,kk⟩:=h
 unfold vt
 walk_at "g"
 refine d5 (show (0:Int)<(c:Int) by omega) ?_
 have hw0:(0:Int)≤(z+k)*48271 % 1019 % (c:Int):=Int.emod_nonneg _ (by omega)
 have hw1:(z+k)*48271 % 1019 % (c:Int)<c:=Int.emod_lt_of_pos _ (by omega)
 obtain ⟨who,ewho⟩:∃ who:Nat,(z+k)*48271 % 1019 % (c:Int)=(who:Int):=⟨((z+k)*48271 % 1019 % (c:Int)).toNat,by omega⟩
 have hwl:who<c:=by omega
 rw [ewho]
 walk_at "g"
 by_cases e1:z*48271 % 1013 % 16<3
 ·rw [if_pos (decide_eq_true e1)]
  walk_at "g"
  refine ⟨_,rfl,fun n H1 hn s1=>?_⟩
  walk_at "A"
  rename_i t ht H2 s2 g2
  exact kk (.begin n _) t H2 ⟨True.intro,hn,fun e=>by cases e⟩ (s1.trans s2) (.tup (.inl g2) (.cons (.str _) (.cons (.int _) (.cons (.bl _) .nil))))
 rw [if_neg (by simpa using e1)]
 walk_at "g"
 by_cases e2:z*48271 % 1013 % 16=11
 ·rw [if_pos (by simp [e2])]
  walk_at "g"
  refine ⟨_,rfl,fun n H1 hn s1=>?_⟩
  walk_at "A"
  rename_i t ht H2 s2 g2
  exact kk (.query who n) t H2 ⟨hwl,True.intro,fun e=>by cases e⟩ (s1.trans s2) (.tup (.inl g2) (.cons (.str _) (.cons (.int _) (.cons (.int _) .nil))))
 rw [if_neg (by simp [e2])]
 walk_at "g"
 by_cases e3:z*48271 % 1013 % 16=12
 ·rw [if_pos (by simp [e3])]
  walk_at "A"
  rename_i t ht H2 s2 g2
  exact kk (.stop who) t H2 ⟨hwl,True.intro,fun e=>by cases e⟩ s2 (.tup (.inl g2) (.cons (.str _) (.cons (.int _) .nil)))
 rw [if_neg (by simp [e3])]
 walk_at "g"
 have wake:∀ (p:Addr) (H2:Hp),Same H H2→H2 p=some (.tup [.str "wake",.int (who:Int)])→Q (.ref p) H2:=fun p H2 s2 g2=>
  kk (.wake who) p H2 ⟨hwl,True.intro,fun e=>by cases e⟩ s2 (.tup (.inl g2) (.cons (.str _) (.cons (.int _) .nil)))
 by_cases e4:z*48271 % 1013 % 16=13
 ·rw [if_pos (by simp [e4])]
  rw [if_pos (by rfl)]
  walk_at "A"
  rename_i t ht H2 s2 g2
  exact wake t H2 s2 g2
 rw [if_neg (by simp [e4])]
 walk_at "g"
 by_cases e5:z*48271 % 1013 % 16=14
 ·rw [if_pos (by simp [e5])]
  walk_at "A"
  rename_i t ht H2 s2 g2
  exact wake t H2 s2 g2
 rw [if_neg (by simp [e5])]
 have rest:(aq (bg (ap b3 (ap b3 (ap cQ (ap gQ (ad 0) (ap cQ (tC (.int 5)) (ad 1))) (tC (.int 48271))) (tC (.int 1031))) (ap gQ (ap cQ (tC (.int 2)) (ad 1)) (tC (.int 1)))) (az 7))
  (iU (aX (aZ (ap cY (ap b3 (ap b3 (ap cQ (ad 0) (tC (.int 48271))) (tC (.int 1087))) (tC (.int 24))) (tC (.int 1))))
  (bg (tC (.int 100000000000000000000)) (az 7))
  aM)
  (aC (cR (ae (tC (.str "carry")) (ae (ad 7) (ae (ad 6) ak))))))) { nx:=fun _ H'=>Q .non H',rt:=Q }
   [some (.int z),some (.int (k:Int)),some (.int (c:Int)),some (.bl sw),some (.int (z*48271 % 1013 % 16)),some (.int (who:Int)),some (.bl (!decide (V.int (z*48271 % 1021 % 8)=V.int 3))),none] H:=by
  walk_at "g"
  refine d5 (i' (by omega)) ?_
  walk_at "g"
  refine d5 (i' (by omega)) ?_
  walk_at "g"
  refine d5 (show (0:Int)<2*(k:Int)+1 by omega) ?_
  walk_at "g"
  have hq0:(0:Int)≤(z+5*k)*48271 % 1031 % (2*(k:Int)+1):=Int.emod_nonneg _ (by omega)
  refine ib (fun σ' H'=>H'=H∧∃ w:Int,0≤w∧σ'=[some (.int z),some (.int (k:Int)),some (.int (c:Int)),some (.bl sw),some (.int (z*48271 % 1013 % 16)),some (.int (who:Int)),some (.bl (!decide (V.int (z*48271 % 1021 % 8)=V.int 3))),some (.int w)]) ?_ ?_
  ·walk_at "g"
   by_cases e7:z*48271 % 1087 % 24=1
   ·rw [if_pos (by simp [e7])]
    walk_at "g"
    exact ⟨rfl,100000000000000000000,by decide,rfl⟩
   ·rw [if_neg (by simp [e7])]
    walk_at "g"
    exact ⟨rfl,_,hq0,rfl⟩
  ·rintro σ' H' ⟨rfl,w,hw,rfl⟩
   walk_at "A"
   rename_i t ht H2 s2 g2
   exact kk (.carry w _) t H2 ⟨hw,True.intro,fun e=>by cases e⟩ s2 (.tup (.inl g2) (.cons (.str _) (.cons (.int _) (.cons (.bl _) .nil))))
 walk_at "g"
 by_cases e6:z*48271 % 1013 % 16=15
 ·rw [if_pos (by simp [e6])]
  walk_at "g"
  cases sw with
  | false=>
   rw [if_pos (by rfl)]
   walk_at "A"
   rename_i t ht H2 s2 g2
   exact kk .sweep t H2 ⟨True.intro,True.intro,fun _=>rfl⟩ s2 (.tup (.inl g2) (.cons (.str _) .nil))
  | true=>
   rw [if_neg (by decide)]
   walk_at "s"
   exact rest
 ·rw [if_neg (by simp [e6])]
  rw [if_neg (by decide)]
  walk_at "s"
  exact rest
theorem lS{H:Hp}{S T:List Addr}:∀ {ds:List Deed} {xs:List V},Reps H S xs (ds.map Deed.D)→Reps H T xs (ds.map Deed.D)
 | [],xs,r=>by rw [laG] at r ⊢;rw [r.nil_inv];exact .nil
 | d::ds,xs,r=>by
  rw [lah] at r ⊢
  obtain ⟨x,ys,rfl,h,t⟩:=r.cons_inv
  refine .cons ?_ (lS t)
  cases d with
  | begin n st=>
   obtain ⟨a,zs,rfl,rt,rs⟩:=h.tup_inv
   obtain ⟨y1,r1,rfl,h1,t1⟩:=rs.cons_inv
   obtain ⟨y2,r2,rfl,h2,t2⟩:=t1.cons_inv
   obtain ⟨y3,r3,rfl,h3,t3⟩:=t2.cons_inv
   cases t3.nil_inv
   rw [h1.str_inv,h2.int_inv,h3.bl_inv] at rt
   exact .tup rt (.cons (.str _) (.cons (.int _) (.cons (.bl _) .nil)))
  | carry n st=>
   obtain ⟨a,zs,rfl,rt,rs⟩:=h.tup_inv
   obtain ⟨y1,r1,rfl,h1,t1⟩:=rs.cons_inv
   obtain ⟨y2,r2,rfl,h2,t2⟩:=t1.cons_inv
   obtain ⟨y3,r3,rfl,h3,t3⟩:=t2.cons_inv
   cases t3.nil_inv
   rw [h1.str_inv,h2.int_inv,h3.bl_inv] at rt
   exact .tup rt (.cons (.str _) (.cons (.int _) (.cons (.bl _) .nil)))
  | query i n=>
   obtain ⟨a,zs,rfl,rt,rs⟩:=h.tup_inv
   obtain ⟨y1,r1,rfl,h1,t1⟩:=rs.cons_inv
   obtain ⟨y2,r2,rfl,h2,t2⟩:=t1.cons_inv
   obtain ⟨y3,r3,rfl,h3,t3⟩:=t2.cons_inv
   cases t3.nil_inv
   rw [h1.str_inv,h2.int_inv,h3.int_inv] at rt
   exact .tup rt (.cons (.str _) (.cons (.int _) (.cons (.int _) .nil)))
  | stop i=>
   obtain ⟨a,zs,rfl,rt,rs⟩:=h.tup_inv
   obtain ⟨y1,r1,rfl,h1,t1⟩:=rs.cons_inv
   obtain ⟨y2,r2,rfl,h2,t2⟩:=t1.cons_inv
   cases t2.nil_inv
   rw [h1.str_inv,h2.int_inv] at rt
   exact .tup rt (.cons (.str _) (.cons (.int _) .nil))
  | wake i=>
   obtain ⟨a,zs,rfl,rt,rs⟩:=h.tup_inv
   obtain ⟨y1,r1,rfl,h1,t1⟩:=rs.cons_inv
   obtain ⟨y2,r2,rfl,h2,t2⟩:=t1.cons_inv
   cases t2.nil_inv
   rw [h1.str_inv,h2.int_inv] at rt
   exact .tup rt (.cons (.str _) (.cons (.int _) .nil))
  | sweep=>
   obtain ⟨a,zs,rfl,rt,rs⟩:=h.tup_inv
   obtain ⟨y1,r1,rfl,h1,t1⟩:=rs.cons_inv
   cases t1.nil_inv
   rw [h1.str_inv] at rt
   exact .tup rt (.cons (.str _) .nil)
theorem dg{H H':Hp}{S T:List Addr}{ds:List Deed}{xs:List V}(r:Reps H S xs (ds.map Deed.D))(c:Chg T H H'):Reps H' S xs (ds.map Deed.D):=lS ((lS (T:=T) r).chg c)
def cF:Deed→Bool
 | .sweep=>true
 | _=>false
def dh(ds:List Deed):Nat:=(ds.filter cF).length
theorem xF(d:Deed):PyData.eqv d.D (.tuple [.str "sweep"])=cF d:=by
 cases d <;> simp [Deed.D,PyData.eqv,PyData.eqvAll,cF] <;> decide
theorem mF(d:Deed):SeqAt.shaped d.D=true:=by
 cases d <;> simp [Deed.D,SeqAt.shaped,PyData.canLay0,PyData.canLayAll0,PyData.depth,PyData.depthAll] <;> decide +kernel
structure DrawnAll(Bs:Int→Prop)(c:Nat)(ds:List Deed):Prop where
 ok:∀ d∈ds,fJ c d
 inn:∀ d∈ds,eM Bs d
 one:dh ds≤1
def gk(Bs:Int→Prop):Sp:=fun vs H Q _=>∃ (a:Addr) (zs:List Int) (c:Nat),vs=[.ref a,.int (c:Int)]∧Rd H a (.lst (zs.map .int))∧zs.length≤900000∧2≤c∧
 ∀ ds p H',ds.length=zs.length→DrawnAll Bs c ds→H p=none→Same H H'→Rep H' [] (.ref p) (.list (ds.map Deed.D))→(∃ xs,H' p=some (.lst xs)∧Reps H' [] xs (ds.map Deed.D))→Q (.ref p) H'
theorem Fa{Bs:Int→Prop}{K:PySem.W.Frag}{vs:List V}{H:Hp}{Q:VK}{E:XK}(h:gk Bs vs H Q E) :
  um K (h8 Bs) { nx:=fun _ H'=>Q .non H',rt:=Q } (aT ["_law_cells","_law_count","_law_deeds","_law_swept","_law_k"] vs) H:=by
 obtain ⟨a,zs,c,rfl,ra,hzl,hc,kk⟩:=h
 unfold um
 walk_at "g"
 walk_at "w"
 rename_i pd hpd H1 s1 g1
 have ra1:=ra.same s1
 walk_at "g"
 rw [laa]
 refine d_ (by omega) ?_
 refine eQ (n:=zs.length) (fun i σ H'=>∃ v ds xs,σ=[some (.ref a),some (.int (c:Int)),some (.ref pd),some (.bl (ds.any cF)),v]∧Same H H'∧H' pd=some (.lst xs)∧Reps H' [] xs (ds.map Deed.D)∧ds.length=i∧DrawnAll Bs c ds)
  ⟨none,[],[],rfl,s1,g1,.nil,rfl,⟨fun d hd=>(nomatch hd),fun d hd=>(nomatch hd),laI _⟩⟩ ?_ ?_
 ·rintro i σ H2 hi ⟨v,ds,xs,rfl,s2,g2,rs,hl,D⟩
  have e0:((0:Int)+(i:Int))=(i:Int):=Int.zero_add _
  rw [e0]
  have ra2:=ra.same s2
  have hxl:xs.length=ds.length:=by rw [rs.length,laa]
  have hget:iW (zs.map V.int) (i:Int)=some (.int zs[i]):=ce (by simp [hi])
  walk_at "g"
  refine ⟨.inl ⟨rfl,_,ca g2⟩,?_⟩
  walk_at "g"
  refine d5 (i' (by omega)) ?_
  walk_at "g"
  refine ⟨_,i,c,_,rfl,hc,by omega,fun d t H3 dr s3 r3=>?_⟩
  have g3:=s3 _ _ g2
  walk_at "g"
  refine cL g3 (bb (by omega)) ?_
  have cc:Chg [pd] H3 (upd H3 pd (.lst (xs++[.ref t]))):=.set (by rw [g3];exact True.intro) (by simp)
  have s4:Same H (upd H3 pd (.lst (xs++[.ref t]))):=(s2.trans s3).put hpd
  have g4:upd H3 pd (.lst (xs++[.ref t])) pd=some (.lst (xs++[.ref t])):=av
  have r4:Reps (upd H3 pd (.lst (xs++[.ref t]))) [] (xs++[.ref t]) ((ds++[d]).map Deed.D):=by
   rw [lai]
   exact (dg (rs.same s3) cc).append (dg (ds:=[d]) (.cons r3 .nil) cc)
  have rd4:Rep (upd H3 pd (.lst (xs++[.ref t]))) [] (.ref t) d.D:=by
   obtain ⟨_,_,e,z,_⟩:=(dg (ds:=[d]) (.cons r3 .nil) cc).cons_inv
   cases e;exact z
  generalize upd H3 pd (.lst (xs++[.ref t]))=H4 at *
  have hlen:(ds++[d]).length=i+1:=by rw [laf,hl];rfl
  have D':DrawnAll Bs c (ds++[d]):=by
   refine ⟨fun y hy=>?_,fun y hy=>?_,?_⟩
   ·rcases lap.mp hy with z | z
    ·exact D.ok y z
    ·rw [lag.mp z];exact dr.1
   ·rcases lap.mp hy with z | z
    ·exact D.inn y z
    ·rw [lag.mp z];exact dr.2.1
   ·unfold dh
    rw [lay,laf]
    cases hs:cF d with
    | false=>simp [hs];exact D.one
    | true=>
     have e:d=.sweep:=by cases d <;> first | rfl | cases hs
     have h0:=dr.2.2 e
     have:ds.filter cF=[]:=by
      rw [List.filter_eq_nil_iff]
      intro y hy z
      have:=List.any_eq_true.mpr ⟨y,hy,z⟩
      rw [h0] at this;cases this
     rw [this];simp [hs]
  walk_at "g"
  have ee:(ds++[d]).any cF=(ds.any cF||cF d):=by rw [List.any_append];simp
  cases hsw:ds.any cF with
  | true=>
   rw [if_pos rfl]
   walk_at "g"
   rw [hsw,Bool.true_or] at ee
   exact ⟨_,ds++[d],_,by rw [ee];rfl,s4,g4,r4,hlen,D'⟩
  | false=>
   rw [if_neg (by decide)]
   rw [hsw,Bool.false_or] at ee
   walk_at "g"
   refine b2 (ca g4) (yc _ _) ?_
   walk_at "A"
   rename_i t5 ht5 H5 s5 g5
   refine ⟨d.D,.tuple [.str "sweep"],rd4.same s5,.tup (.inl g5) (.cons (.str _) .nil),mF d,mF .sweep,?_⟩
   rw [xF]
   walk_at "g"
   exact ⟨_,ds++[d],_,by rw [ee];rfl,s4.trans s5,s5 _ _ g4,r4.same s5,hlen,D'⟩
 ·rintro σ H2 ⟨v,ds,xs,rfl,s2,g2,rs,hl,D⟩
  walk_at "g"
  exact kk ds pd H2 hl D hpd s2 (.lst (.inl g2) (by simp) rs) ⟨_,g2,rs⟩
def gY:Sp:=fun vs H Q _=>∃ (z:Int) (c:Nat),vs=[.int z,.int (c:Int)]∧c≤20∧∀ (ag:List (Int×Int)) (p:Addr) (H':Hp),ag.length≤80→H p=none→Same H H'→Rep H' [] (.ref p) (.list (ag.map fb))→Q (.ref p) H'
theorem oC{H:Hp}{S T:List Addr}:∀ {ag:List (Int×Int)} {xs:List V},Reps H S xs (ag.map fb)→Reps H T xs (ag.map fb)
 | [],xs,r=>by rw [laG] at r ⊢;rw [r.nil_inv];exact .nil
 | x::ag,xs,r=>by
  rw [lah] at r ⊢
  obtain ⟨x,ys,rfl,h,t⟩:=r.cons_inv
  obtain ⟨a,zs,rfl,rt,rs⟩:=h.tup_inv
  obtain ⟨y1,r1,rfl,h1,t1⟩:=rs.cons_inv
  obtain ⟨y2,r2,rfl,h2,t2⟩:=t1.cons_inv
  cases t2.nil_inv
  rw [h1.int_inv,h2.int_inv] at rt
  exact .cons (.tup rt (.cons (.int _) (.cons (.int _) .nil))) (oC t)
theorem zQ{H H':Hp}{S T:List Addr}{ag:List (Int×Int)}{xs:List V}(r:Reps H S xs (ag.map fb))(c:Chg T H H'):Reps H' S xs (ag.map fb):=oC ((oC (T:=T) r).chg c)
theorem Ef{K:PySem.W.Frag}{vs:List V}{H:Hp}{Q:VK}{E:XK}(h:gY vs H Q E) :
  u6 K dL { nx:=fun _ H'=>Q .non H',rt:=Q } (aT ["_law_cell","_law_count","_law_pairs","_law_k","_law_j"] vs) H:=by
 obtain ⟨z,c,rfl,hc,kk⟩:=h
 unfold u6
 walk_at "g"
 walk_at "w"
 rename_i pp hpp H1 s1 g1
 walk_at "g"
 refine d_ (by omega) ?_
 refine eQ (n:=c) (fun i σ H'=>∃ (v w:Option V) (ag:List (Int×Int)) (xs:List V),σ=[some (.int z),some (.int (c:Int)),some (.ref pp),v,w]∧Same H H'∧H' pp=some (.lst xs)∧Reps H' [] xs (ag.map fb)∧ag.length≤4*i)
  ⟨none,none,[],[],rfl,s1,g1,.nil,lat _⟩ ?_ ?_
 ·rintro i σ H2 hi ⟨v,w,ag,xs,rfl,s2,g2,rs,hl⟩
  have e0:((0:Int)+(i:Int))=(i:Int):=Int.zero_add _
  rw [e0]
  walk_at "g"
  refine d_ (n:=4) (by decide) ?_
  refine eQ (n:=4) (fun j σ H'=>∃ (w:Option V) (ag:List (Int×Int)) (xs:List V),σ=[some (.int z),some (.int (c:Int)),some (.ref pp),some (.int (i:Int)),w]∧Same H H'∧H' pp=some (.lst xs)∧Reps H' [] xs (ag.map fb)∧ag.length≤4*i+j)
   ⟨w,ag,xs,rfl,s2,g2,rs,hl⟩ ?_ ?_
  ·rintro j σ H3 hj ⟨w,ag,xs,rfl,s3,g3,rs,hl⟩
   have e0:((0:Int)+(j:Int))=(j:Int):=Int.zero_add _
   rw [e0]
   have hxl:xs.length=ag.length:=by rw [rs.length,laa]
   walk_at "g"
   refine d5 (i' (by omega)) ?_
   walk_at "g"
   refine d5 (vE (by omega)) ?_
   walk_at "g"
   have skip:∀ w',∃ (w:Option V) (ag:List (Int×Int)) (xs:List V),[some (V.int z),some (.int (c:Int)),some (.ref pp),some (.int (i:Int)),w']=[some (.int z),some (.int (c:Int)),some (.ref pp),some (.int (i:Int)),w]∧Same H H3∧H3 pp=some (.lst xs)∧Reps H3 [] xs (ag.map fb)∧ag.length≤4*i+(j+1):=
    fun w'=>⟨w',ag,xs,rfl,s3,g3,rs,by omega⟩
   split
   ·walk_at "g"
    split
    ·walk_at "g"
     refine ⟨.inl ⟨rfl,_,ca g3⟩,?_⟩
     walk_at "g"
     refine ⟨rfl,fun p H4 hp s4 g4=>?_⟩
     obtain ⟨v,hv,hat⟩:=oU (xs:=allB.map V.int) (r:=(j:Int)) (by omega) (by show _<(4:Int);omega)
     obtain ⟨n,hn,rfl⟩:=laA.mp hv
     walk_at "A"
     rename_i t ht H5 s5 g5
     have gp5:=s5 _ _ (s4 _ _ g3)
     refine cL gp5 (bb (by omega)) ?_
     have cc:Chg [pp] H5 (upd H5 pp (.lst (xs++[.ref t]))):=.set (by rw [gp5];exact True.intro) (by simp)
     have ntp:t≠pp:=cr g5 gp5 (by intro z;cases z)
     refine ⟨_,ag++[((i:Int),n)],_,rfl,((s3.trans s4).trans s5).put hpp,av,?_,by rw [laf];show ag.length+1≤_;omega⟩
     rw [lai]
     exact (zQ ((rs.same s4).same s5) cc).snoc (.tup (.inl (bo ntp g5)) (.cons (.int _) (.cons (.int _) .nil)))
    ·walk_at "g"
     exact skip _
   ·rw [if_neg (by decide)]
    walk_at "g"
    exact skip _
  ·rintro σ H3 ⟨w,ag,xs,rfl,s3,g3,rs,hl⟩
   exact ⟨_,w,ag,xs,rfl,s3,g3,rs,by omega⟩
 ·rintro σ H2 ⟨v,w,ag,xs,rfl,s2,g2,rs,hl⟩
  walk_at "g"
  exact kk ag pp H2 (by omega) hpp s2 (.lst (.inl g2) (by simp) rs)
theorem EN{K:PySem.W.Frag}{vs:List V}{H:Hp}{Q:VK}{E:XK}(h:cg vs H Q E):yA K { nx:=fun _ H'=>Q .non H',rt:=Q } (aT ["_law_book","_law_bargain"] vs) H:=zi h
abbrev iA:Sp:=cg
def fP:Sp:=fun vs H Q _=>∃ a b n,vs=[.ref a,.int n]∧Rep H [] (.ref a) (cU b)∧¬ (("bound":Str)∈ar b n∧Of (ar b n))∧Q (eR (ax b n)) H
theorem lb{b:List bh}{n:Int}{x:Str}(i:Nat)(h:x∈ar (b.take i) n):x∈ar b n:=by
 unfold ar at h ⊢
 obtain ⟨l,hl,e⟩:=laA.mp h
 obtain ⟨h1,h2⟩:=laC.mp hl
 exact laA.mpr ⟨l,laC.mpr ⟨List.mem_of_mem_take h1,h2⟩,e⟩
theorem DE{K:PySem.W.Frag}{vs:List V}{H:Hp}{Q:VK}{E:XK}(h:fP vs H Q E):ul K { nx:=fun _ H'=>Q .non H',rt:=Q } (aT ["_law_book","_law_bargain","_law_found","_law_line"] vs) H:=by
 obtain ⟨a,b,n,rfl,rb,nb,k⟩:=h
 obtain ⟨_,xs,e,rd,_,rs⟩:=id (Rep.lst_inv (ds:=b.map c_) rb)
 cases e
 have hxl:xs.length=b.length:=by rw [rs.length,laa]
 unfold ul
 walk_at "g"
 refine d3 (K:=K) (a:=a) (xs:=xs) (fun i σ H'=>∃ v,σ=[some (.ref a),some (.int n),some (eR (ax (b.take i) n)),v]∧H=H') ⟨none,rfl,rfl⟩ ?_ ?_ ?_
 ·rintro i σ H' hi ⟨v,rfl,rfl⟩
  exact dR rd
 ·rintro i x σ H' hx ⟨v,rfl,rfl⟩
  obtain ⟨l,t,hb,rfl,rt⟩:=ms rs hx
  have hw:=cI (b.take i) l n
  rw [← bC hb] at hw
  have both:¬ (("bound":Str)∈ar (b.take (i+1)) n∧Of (ar (b.take (i+1)) n)):=fun z=>nb ⟨lb (i+1) z.1,z.2.imp (lb (i+1)) (lb (i+1))⟩
  walk_at "g"
  refine ib (fun σ' H'=>∃ d1,d1=(if l.2=n∧l.1=("bound":Str) then some ("bound":Str) else ax (b.take i) n)∧σ'=[some (.ref a),some (.int n),some (eR d1),some (.ref t)]∧H=H') ?_ ?_
  ·walk_at "g"
   by_cases e1:l.2=n
   ·rw [if_pos (by simp [e1])]
    walk_at "g"
    by_cases e2:l.1=("bound":Str)
    ·rw [if_pos (by simp [e2])]
     walk_at "g"
     exact ⟨_,(if_pos ⟨e1,e2⟩).symm,rfl,rfl⟩
    ·rw [if_neg (by simp [e2])]
     walk_at "g"
     exact ⟨_,(if_neg (fun z=>e2 z.2)).symm,rfl,rfl⟩
   ·rw [if_neg (by simp [e1])]
    rw [if_neg (by decide)]
    walk_at "g"
    exact ⟨_,(if_neg (fun z=>e1 z.1)).symm,rfl,rfl⟩
  ·rintro σ' H' ⟨d1,hd1,rfl,rfl⟩
   walk_at "g"
   by_cases e1:l.2=n
   ·rw [if_pos e1] at hw
    rw [if_pos (by simp [e1])]
    walk_at "g"
    have off:l.1=("no":Str)∨l.1=("off":Str)→ax (b.take (i+1)) n=some ("off":Str):=fun z=>by
     have ho:Of (ar (b.take (i+1)) n):=by
      rw [hw]
      rcases z with z | z
      ·exact .inr (lak _ (by simp [z]))
      ·exact .inl (lak _ (by simp [z]))
     unfold ax
     rw [if_neg (fun y=>both ⟨y,ho⟩),if_pos (show ("off":Str)∈_∨("no":Str)∈_ from ho)]
    have same:l.1≠("no":Str)→l.1≠("off":Str)→ax (b.take (i+1)) n=if l.2=n∧l.1=("bound":Str) then some ("bound":Str) else ax (b.take i) n:=fun z1 z2=>by
     unfold ax
     rw [hw]
     by_cases e2:l.1=("bound":Str)
     ·rw [if_pos (lak _ (by simp [e2])),if_pos (And.intro e1 e2)]
     ·rw [if_neg (fun (z:l.2=n∧l.1=("bound":Str))=>e2 z.2)]
      have m:∀ x:Str,l.1≠x→(x∈ar (b.take i) n++[l.1]↔x∈ar (b.take i) n):=fun x hx=>by
       rw [lap,lag]
       exact ⟨fun z=>z.elim id fun y=>absurd y.symm hx,.inl⟩
      simp only [m _ e2,m _ z1,m _ z2]
    by_cases e2:l.1=("no":Str)
    ·rw [if_pos (by simp [e2])]
     rw [if_pos (by rfl)]
     walk_at "g"
     exact ⟨_,by rw [off (.inl e2)];rfl,rfl⟩
    ·rw [if_neg (by simp [e2])]
     walk_at "g"
     by_cases e3:l.1=("off":Str)
     ·rw [if_pos (by simp [e3])]
      walk_at "g"
      exact ⟨_,by rw [off (.inr e3)];rfl,rfl⟩
     ·rw [if_neg (by simp [e3])]
      walk_at "g"
      exact ⟨_,by rw [same e2 e3,← hd1],rfl⟩
   ·rw [if_neg e1] at hw
    rw [if_neg (by simp [e1])]
    rw [if_neg (by decide)]
    walk_at "g"
    refine ⟨some (.ref t),?_,rfl⟩
    rw [if_neg (fun z=>e1 z.1)] at hd1
    have:ax (b.take (i+1)) n=ax (b.take i) n:=by unfold ax;rw [hw]
    rw [this,← hd1]
 ·rintro σ H' ⟨v,rfl,rfl⟩
  rw [hxl,laE]
  walk_at "g"
  exact k
theorem uf{c:Nat}{ag:List (Int×Int)}{bl:List Int}{S:HallS}(I:Inv c ag (·∈bl) S){i:Nat}{h:HS}(hi:S.hs[i]?=some h):(bG h.book).length≤bl.length:=
 lv _ _ (n0 I hi) fun n hn=>I.bs i n (by rw [(j1 I hi hn).2];simp)
structure Cap(S:HallS)(L U:Nat):Prop where
 l:S.ls.length≤L
 u:S.un.length≤U
theorem m8{S:HallS}{sent:List au}{L U G:Nat}(h:Cap S L U)(hs:sent.length≤G):Cap (S.send sent) (L+G) (U+G):=by
 refine ⟨?_,?_⟩
 ·show (S.ls++sent).length≤_;rw [laf];have:=h.l;omega
 ·show (S.un++_).length≤_;rw [laf,laa,laq];have:=h.u;omega
theorem Cap.more{S:HallS}{L U L' U':Nat}(h:Cap S L U)(hl:L≤L')(hu:U≤U'):Cap S L' U':=⟨las h.l hl,las h.u hu⟩
theorem ss{S:HallS}{i:Nat}{r:HS×List au}{st:Bool}{L U G:Nat}(h:Cap S L U)(hs:r.2.length≤G):Cap (S.post i r st) (L+G) (U+G):=by
 unfold HallS.post
 cases st with
 | true=>exact m8 (S:=S.put i r.1) ⟨h.l,h.u⟩ hs
 | false=>exact Cap.more (S:=S.put i r.1.stop) ⟨h.l,h.u⟩ (by omega) (by omega)
theorem tQ{i c:Nat}(hi:i<c):(bN (i:Int) c).length+1≤c:=by
 have:=lv ((i:Int)::bN (i:Int) c) ((List.range c).map fun (k:Nat)=>(k:Int)) (List.nodup_cons.mpr ⟨fun z=>(eZ z).2.2 rfl,by
  unfold bN
  exact (List.Pairwise.filter _ (List.Pairwise.map _ (fun a b h z=>h (by omega)) List.nodup_range))⟩) fun x hx=>by
   rcases List.mem_cons.mp hx with rfl | z
   ·exact laA.mpr ⟨i,laB.mpr hi,rfl⟩
   ·unfold bN at z;exact (laC.mp z).1
 rw [laj,laa,laq] at this
 exact this
theorem HallOk.oth1{c:Nat}{S:HallS}(ok:HallOk c S){i:Nat}{h:HS}(hi:S.hs[i]?=some h):h.oth.length+1≤c:=by
 rw [(ok.num i h hi).2];exact tQ (ok.il hi)
theorem xq{c:Nat}{ag:List (Int×Int)}{bl:List Int}{S:HallS}(I:Inv c ag (·∈bl) S){L U G:Nat}(h:Cap S L U)(hG:c≤G)(hB:bl.length*(c - 1)≤G)(d:Deed)(hd:cF d=false):Cap (S.do d).1 (L+G) (U+G):=by
 have stay:Cap S (L+G) (U+G):=h.more (by omega) (by omega)
 cases d with
 | begin n st=>
  show Cap (S.begin n st).1 _ _
  unfold HallS.begin
  split
  ·exact stay
  ·rename_i g hi
   split
   ·refine ss h (las (lB g n) ?_)
    have:=I.ok.oth1 hi;omega
   ·exact stay
 | carry k st=>
  show Cap (S.carry k st).1 _ _
  unfold HallS.carry
  split
  ·exact stay
  ·unfold HallS.carryL
   split
   ·exact stay
   ·rename_i g hi
    split
    ·refine ss h (las (oM g _) ?_)
     have:=I.ok.oth1 hi;omega
    ·exact stay
 | query i n=>
  show Cap (S.query i n).1 _ _
  unfold HallS.query
  split
  ·exact stay
  ·rename_i g hi
   refine m8 h (las (i8 g n) ?_)
   have:=I.ok.oth1 hi;omega
 | stop i=>
  show Cap (S.stop i).1 _ _
  unfold HallS.stop
  split
  ·exact stay
  ·split
   ·exact Cap.more (S:=S.put _ _) ⟨h.l,h.u⟩ (by omega) (by omega)
   ·exact stay
 | wake i=>
  show Cap (S.wake i).1 _ _
  unfold HallS.wake
  split
  ·exact stay
  ·rename_i g hi
   split
   ·exact stay
   ·refine m8 (S:=S.put i g.wake.1) ⟨h.l,h.u⟩ ?_
    rw [qN]
    refine las (Nat.mul_le_mul (uf I hi) (lat _)) (las (Nat.mul_le_mul (lat _) ?_) hB)
    have:=I.ok.oth1 hi;omega
 | sweep=>cases hd
theorem xk(S:HallS)(k:Nat):(S.turn k).1.ls.length+S.un.length=S.ls.length+(S.turn k).1.un.length:=by
 unfold HallS.turn
 split
 ·rfl
 ·unfold HallS.carryL
  split
  ·rfl
  ·split
   ·unfold HallS.post
    rw [if_pos rfl]
    show (S.ls++_).length+S.un.length=S.ls.length+(S.un++_).length
    rw [laf,laf,laa,laq];omega
   ·rfl
theorem nU:∀ (f:Nat) (S:HallS) (pl:Nat) (w:List (Int×bh)) (r:HallS×List (Int×bh)),S.sweepGo f pl w=some r→r.1.ls.length+S.un.length=S.ls.length+r.1.un.length
 | 0,S,pl,w,r,h=>by
  unfold HallS.sweepGo at h
  split at h
  ·cases h
  ·cases h;rfl
 | f+1,S,pl,w,r,h=>by
  unfold HallS.sweepGo at h
  split at h
  ·rename_i lt
   have h1:=nU f _ _ _ _ h
   have h2:=xk S S.un[pl]
   omega
  ·cases h;rfl
theorem pi{c:Nat}{S:HallS}(ok:HallOk c S){L U:Nat}(h:Cap S L U):S.sweepR.1.un.length≤22*U∧S.sweepR.1.ls.length≤L+22*U∧Cap (S.do .sweep).1 (L+22*U) (22*U):=by
 obtain ⟨h1,h2,h3⟩:=ia ok
 have h4:=nU _ _ _ _ _ h1
 have hl:=h.l
 have hu:=h.u
 refine ⟨by omega,by omega,by show S.sweepR.1.ls.length≤_;omega,?_⟩
 show (S.sweepR.1.un.filter _).length≤_
 exact las (laJ _ _) (by omega)
theorem mC{c:Nat}{ag:List (Int×Int)}{bl:List Int}{S:HallS}(I:Inv c ag (·∈bl) S)(hb:bl.length≤1000){L U N:Nat}(h:Cap S L U)(hN:N≤700000)(hL:L≤800000)(hU:U≤800000)(d:Deed)(hd:cF d=false):S.roomy N d∧S.cost d≤1000:=by
 have sm:iB S N:=⟨hN,las h.l hL,las h.u hU⟩
 cases d with
 | begin n st=>exact ⟨sm,by show 3≤1000;omega⟩
 | carry k st=>exact ⟨sm,by show 3≤1000;omega⟩
 | query i n=>exact ⟨sm,by show 3≤1000;omega⟩
 | stop i=>exact ⟨sm,by show 3≤1000;omega⟩
 | wake i=>exact ⟨⟨sm,fun g hi=>las (uf I hi) hb⟩,lat _⟩
 | sweep=>cases hd
theorem pW{c:Nat}{ag:List (Int×Int)}{bl:List Int}{G:Nat}(hG:c≤G)(hB:bl.length*(c - 1)≤G)(hb:bl.length≤1000):∀ (ds:List Deed) (S:HallS) (L U N:Nat),Inv c ag (·∈bl) S→(∀ d∈ds,eM (·∈bl) d)→dh ds=0→Cap S L U→
  N+1000*ds.length≤700000→L+G*ds.length≤800000→U+G*ds.length≤800000→S.roomyAll N ds∧Cap (S.run ds).1 (L+G*ds.length) (U+G*ds.length)∧S.costAll ds≤1000*ds.length
 | [],S,L,U,N,I,_,_,h,_,_,_=>⟨True.intro,h.more (Nat.le_add_right _ _) (Nat.le_add_right _ _),lat _⟩
 | d::r,S,L,U,N,I,hin,hsw,h,hN,hL,hU=>by
  have hd:cF d=false:=by
   cases e:cF d with
   | false=>rfl
   | true=>unfold dh at hsw;rw [laz,if_pos e] at hsw;cases hsw
  have hsw':dh r=0:=by unfold dh at hsw ⊢;rwa [laz,if_neg (by rw [hd];decide)] at hsw
  rw [laj,Nat.mul_succ] at hN hL hU
  obtain ⟨r1,r2⟩:=mC I hb h (by omega) (by omega) (by omega) d hd (N:=N)
  have h':=xq I h hG hB d hd
  obtain ⟨a,b,e⟩:=pW hG hB hb r (S.do d).1 (L+G) (U+G) (N+S.cost d) (I.do d (hin d (by simp))) (fun x hx=>hin x (lac _ hx)) hsw' h' (by omega) (by omega) (by omega)
  refine ⟨⟨r1,a⟩,?_,?_⟩
  ·rw [laj,Nat.mul_succ]
   exact Cap.more (S:=((S.do d).1.run r).1) b (by omega) (by omega)
  ·show S.cost d+(S.do d).1.costAll r≤_
   rw [laj,Nat.mul_succ];omega
theorem y_{c:Nat}{ag:List (Int×Int)}{bl:List Int}{G:Nat}(hG:c≤G)(hB:bl.length*(c - 1)≤G)(hb:bl.length≤1000):∀ (ds:List Deed) (S:HallS) (L U N:Nat),Inv c ag (·∈bl) S→(∀ d∈ds,eM (·∈bl) d)→dh ds≤1→Cap S L U→
  N+1000*ds.length+66*(U+G*ds.length)≤700000→L+G*ds.length+22*(U+G*ds.length)≤800000→
  S.roomyAll N ds∧Cap (S.run ds).1 (L+G*ds.length+22*(U+G*ds.length)) (22*(U+G*ds.length))∧S.costAll ds≤1000*ds.length+66*(U+G*ds.length)
 | [],S,L,U,N,I,_,_,h,_,_=>⟨True.intro,h.more (by omega) (by omega),laI _⟩
 | d::r,S,L,U,N,I,hin,hsw,h,hN,hL=>by
  rw [laj,Nat.mul_succ,Nat.mul_succ] at hN
  rw [laj,Nat.mul_succ] at hL
  cases hd:cF d with
  | false=>
   have hsw':dh r≤1:=by unfold dh at hsw ⊢;rwa [laz,if_neg (by rw [hd];decide)] at hsw
   obtain ⟨r1,r2⟩:=mC I hb h (by omega) (by omega) (by omega) d hd (N:=N)
   have h':=xq I h hG hB d hd
   obtain ⟨a,b,e⟩:=y_ hG hB hb r (S.do d).1 (L+G) (U+G) (N+S.cost d) (I.do d (hin d (by simp))) (fun x hx=>hin x (lac _ hx)) hsw' h' (by omega) (by omega)
   refine ⟨⟨r1,a⟩,?_,?_⟩
   ·rw [laj,Nat.mul_succ]
    exact Cap.more (S:=((S.do d).1.run r).1) b (by omega) (by omega)
   ·show S.cost d+(S.do d).1.costAll r≤_
    rw [laj,Nat.mul_succ,Nat.mul_succ];omega
  | true=>
   have ed:d=.sweep:=by cases d <;> first | rfl | cases hd
   subst ed
   have hsw':dh r=0:=by unfold dh at hsw ⊢;rw [laz,if_pos hd,laj] at hsw;omega
   obtain ⟨s1,s2,s3⟩:=pi I.ok h
   obtain ⟨a,b,e⟩:=pW hG hB hb r (S.do .sweep).1 (L+22*U) (22*U) (N+S.cost .sweep) (I.do .sweep (hin .sweep (by simp))) (fun x hx=>hin x (lac _ hx)) hsw' s3 (by show N+3*_+_≤_;omega) (by omega) (by omega)
   refine ⟨⟨⟨by omega,by omega⟩,a⟩,?_,?_⟩
   ·rw [laj,Nat.mul_succ]
    exact Cap.more (S:=((S.do .sweep).1.run r).1) b (by omega) (by omega)
   ·show 3*S.sweepR.1.un.length+(S.do .sweep).1.costAll r≤_
    rw [laj,Nat.mul_succ,Nat.mul_succ];omega
theorem zY(c:Nat)(ag:List (Int×Int)):Cap (aI c ag) 0 0:=⟨lat _,lat _⟩
def i7(c i:Nat)(n:Int):Str:=if i=ld c n then "open" else "yes"
def fM(s:Str):List (List Str):=[[],[s],[s,"bound"],[s,"off"],["no"],["off"]]
theorem WI1.forms{c:Nat}{n:Int}{A:Nat→Prop}{v:Nat→List Str}(I:WI1 c (ld c n) A v){i:Nat}(hi:i<c):v i∈fM (i7 c i n):=by
 unfold i7
 split
 ·rename_i e
  rcases I.sl with z | z | z | z | z <;> rw [e,z] <;> simp [fM]
 ·rename_i e
  rcases I.so i hi e with z | z | z | z | z | z <;> rw [z] <;> simp [fM]
theorem x6{s:Str}(hs:PyData.strOk s=true):∀ x∈fM s,ug x:=by
 intro x hx w hw
 unfold fM at hx
 simp only [List.mem_cons,List.not_mem_nil,or_false] at hx
 rcases hx with rfl | rfl | rfl | rfl | rfl | rfl <;> simp only [List.mem_cons,List.not_mem_nil,or_false] at hw
 ·subst hw;exact hs
 ·rcases hw with rfl | rfl
  ·exact hs
  ·exact ix (by simp)
 ·rcases hw with rfl | rfl
  ·exact hs
  ·exact ix (by simp)
 ·subst hw;exact ix (by simp)
 ·subst hw;exact ix (by simp)
theorem zA(c i:Nat)(n:Int):PyData.strOk (i7 c i n)=true:=by unfold i7;split <;> exact ix (by simp)
theorem WI1.notboth{c L:Nat}{A:Nat→Prop}{v:Nat→List Str}(I:WI1 c L A v)(hL:L<c){i:Nat}(hi:i<c):¬ (("bound":Str)∈v i∧Of (v i)):=fun z=>I.nobound hi z.1 hi hL z.2
def nI(K:PySem.W.Frag):Sp:=fun vs H Q _=>∃ (a:Addr) (ns:List Int),vs=[.ref a]∧SqL K H a (ns.map V.int)∧ns.length≤63∧∀ H',Q (.bl true) H'
theorem x9(ns:List Int)(lo hi:Nat):∃ cs:List Int,ir (ns.map V.int) (some (lo:Int)) (some (hi:Int))=cs.map V.int∧cs.length≤hi - lo:=by
 refine ⟨(ns.drop (HT.sIx (ns.map V.int).length 0 (some (lo:Int)))).take (HT.sIx (ns.map V.int).length (ns.map V.int).length (some (hi:Int)) - HT.sIx (ns.map V.int).length 0 (some (lo:Int))),?_,?_⟩
 ·unfold ir
  rw [List.map_take,List.map_drop]
 ·rw [lax]
  have e1:HT.sIx (ns.map V.int).length 0 (some (lo:Int))=min lo (ns.map V.int).length:=by unfold HT.sIx;simp;omega
  have e2:HT.sIx (ns.map V.int).length (ns.map V.int).length (some (hi:Int))=min hi (ns.map V.int).length:=by unfold HT.sIx;simp;omega
  rw [e1,e2,List.length_drop,laa]
  omega
theorem iZ{c:Nat}{ag:List (Int×Int)}{Bs:Int→Prop}{S:HallS}(I:Inv c ag Bs S){b:List bh}(hb:b∈S.hs.map fun h=>h.book):l_ b∧∀ l∈b,Bs l.2:=by
 obtain ⟨h,hm,rfl⟩:=laA.mp hb
 obtain ⟨i,hi,e⟩:=List.getElem_of_mem hm
 have hg:S.hs[i]?=some h:=by rw [lad hi,e]
 have il:=I.ok.il hg
 have inw:∀ l∈h.book,l.1∈bf S i l.2:=fun l hl=>by
  rw [bS hg]
  exact laA.mpr ⟨l,laC.mpr ⟨hl,by simp⟩,rfl⟩
 refine ⟨fun l hl=>?_,fun l hl=>I.bsL (inw l hl)⟩
 have h1:=inw l hl
 have h2:=(I.wi l.2).forms il
 unfold fM at h2
 have hs:jE (i7 c i l.2):=by unfold i7 jE;split <;> simp
 simp only [List.mem_cons,List.not_mem_nil,or_false] at h2
 rcases h2 with z | z | z | z | z | z <;> rw [z] at h1 <;> simp only [List.mem_cons,List.not_mem_nil,or_false] at h1
 ·rw [h1];exact hs
 ·rcases h1 with h1 | h1
  ·rw [h1];exact hs
  ·rw [h1];exact .inr (.inr (.inr (.inl rfl)))
 ·rcases h1 with h1 | h1
  ·rw [h1];exact hs
  ·rw [h1];exact .inr (.inr (.inr (.inr rfl)))
 ·rw [h1];exact .inr (.inr (.inl rfl))
 ·rw [h1];exact .inr (.inr (.inr (.inr rfl)))
theorem tK{α:Type}(p q:α→Bool)(b:List α):(b.filter q).filter p=(b.filter p).filter q:=by
 rw [List.filter_filter,List.filter_filter]
 congr 1
 funext x
 exact Bool.and_comm _ _
theorem wI{α:Type}(b:List α)(p:α→Bool):(b.filter p).length+(b.filter fun x=>!p x).length=b.length:=by
 induction b with
 | nil=>rfl
 | cons x r ih=>
  rw [laz,laz]
  cases p x <;> simp <;> omega
theorem uZ{c:Nat}{ag:List (Int×Int)}{bl:List Int}{S:HallS}(I:Inv c ag (·∈bl) S){b:List bh}(hb:b∈S.hs.map fun h=>h.book):b.length≤2*bl.length:=by
 obtain ⟨h,hm,rfl⟩:=laA.mp hb
 obtain ⟨i,hi,e⟩:=List.getElem_of_mem hm
 have hg:S.hs[i]?=some h:=by rw [lad hi,e]
 have il:=I.ok.il hg
 have two:∀ n,(ar h.book n).length≤2:=fun n=>by
  have h2:=(I.wi n).forms il
  rw [bS hg] at h2
  unfold fM at h2
  simp only [List.mem_cons,List.not_mem_nil,or_false] at h2
  rcases h2 with z | z | z | z | z | z <;> rw [z] <;> simp
 have hin:∀ l∈h.book,l.2∈bl:=fun l hl=>(iZ I (laA.mpr ⟨h,hm,rfl⟩)).2 l hl
 have key:∀ (bl:List Int) (b:List bh),(∀ l∈b,l.2∈bl)→(∀ n,(ar b n).length≤2)→b.length≤2*bl.length:=by
  intro bl
  induction bl with
  | nil=>
   intro b hb _
   cases b with
   | nil=>exact lat _
   | cons l r=>exact absurd (hb l (by simp)) (by simp)
  | cons m r ih=>
   intro b hb h2
   have h3:=ih (b.filter fun l=>!decide (l.2=m)) (fun l hl=>by
    obtain ⟨h4,h5⟩:=laC.mp hl
    rcases List.mem_cons.mp (hb l h4) with z | z
    ·simp [z] at h5
    ·exact z) (fun n=>by
     refine las ?_ (h2 n)
     unfold ar
     rw [laa,laa,tK]
     exact laJ _ _)
   have h4:=h2 m
   unfold ar at h4
   rw [laa] at h4
   have h5:=wI b fun l=>decide (l.2=m)
   rw [laj]
   omega
 exact key bl h.book hin two
def Dec(ws:List Str):Prop:=("bound":Str)∈ws∨Of ws
theorem dec_none{b:List bh}{n:Int}:ax b n=none↔¬ Dec (ar b n):=by
 unfold ax Dec Of
 constructor
 ·intro h z
  split at h
  ·cases h
  ·split at h
   ·cases h
   ·rename_i a b;rcases z with z | z
    ·exact a z
    ·exact b z
 ·intro h
  rw [if_neg (fun z=>h (.inl z)),if_neg (fun z=>h (.inr z))]
theorem Dec.mono{a b:List Str}(h:∀ x∈a,x∈b)(d:Dec a):Dec b:=d.imp (h _) fun z=>z.imp (h _) (h _)
theorem Ag{S:HallS}{i:Nat}{h:HS}(hi:S.hs[i]?=some h)(l:au):qV (bf S) (bf (S.put i (h.got l).1)):=by
 have:(h.got l).1.book=h.book∨∃ x m,(h.got l).1.book=h.book++[(x,m)]:=by
  unfold HS.got HS.gotAsk HS.asked HS.gotQuery HS.gotVote HS.gotDecision HS.decide HS.wr HS.count
  repeat' split
  all_goals first | exact .inl rfl | exact .inr ⟨_,_,rfl⟩
 rcases this with e | ⟨x,m,e⟩
 ·rw [ki hi e];exact fun _ _ _ h=>h
 ·exact mT hi e
theorem xp(h:HS)(l:au):(h.got l).1.up=h.up:=by
 unfold HS.got HS.gotAsk HS.asked HS.gotQuery HS.gotVote HS.gotDecision HS.decide HS.wr HS.count
 repeat' split
 all_goals rfl
theorem mE{c i j:Nat}{h:HS}{n:Int}{d:Str}(hn:h.num=i)(ho:h.oth=bN i c)(hj:j<c)(ne:j≠i):((i:Int),(j:Int),n,d)∈h.toOthers n d:=by
 unfold HS.toOthers
 rw [ho,hn]
 exact laA.mpr ⟨(j:Int),lE hj ne,rfl⟩
theorem df(S:HallS)(a b:List Deed):(S.run (a++b)).1=((S.run a).1.run b).1∧(S.run (a++b)).2=(S.run a).2++((S.run a).1.run b).2:=by
 induction a generalizing S with
 | nil=>exact ⟨rfl,rfl⟩
 | cons d r ih=>
  refine ⟨(ih (S.do d).1).1,?_⟩
  show (S.do d).2::((S.do d).1.run (r++b)).2=_
  rw [(ih (S.do d).1).2];rfl
theorem eS:∀ (a b:List Deed) (S:HallS) (N:Nat),S.roomyAll N a→(S.run a).1.roomyAll (N+S.costAll a) b→S.roomyAll N (a++b)
 | [],b,S,N,_,h=>h
 | d::r,b,S,N,h1,h2=>⟨h1.1,eS r b (S.do d).1 (N+S.cost d) h1.2 (by rw [Nat.add_assoc];exact h2)⟩
def bU(c:Nat):List Deed:=(List.range c).map Deed.wake
end Oh
set_option Elab.async false
set_option linter.all false
set_option maxRecDepth 100000
namespace L2
open PySem PySem.Spec PyProof.Rows
variable {X:Cx}
def wf(K:PySem.W.Frag):List V→Hp→VK→Prop:=fun xs H Q=>∃ (p:Addr) (bs:List Bool),xs=[.ref p]∧SqL K H p (bs.map V.bl)∧Q (.bl (bs.any id)) H
theorem pR:∀ (zs:List Bool) (its:List Value),Vals (zs.map V.bl) its→its=zs.map Value.bool
 | [],its,r=>by cases its with
  | nil=>rfl
  | cons _ _=>exact absurd r.length (by simp)
 | z::zs,its,r=>by
  cases r with
  | cons h t=>
   cases h
   rw [pR zs _ t];rfl
theorem wT(zs:List Bool):(List.range zs.length).any (fun i=>zs.getD i false)=zs.any id:=by
 have:(List.range zs.length).map (fun i=>zs.getD i false)=zs:=by
  apply List.ext_getElem
  ·simp
  ·intro i h1 h2
   simp [List.getElem_map,List.getElem_range,List.getD_eq_getElem?_getD,List.getElem?_eq_getElem h2]
 calc (List.range zs.length).any (fun i=>zs.getD i false)=((List.range zs.length).map (fun i=>zs.getD i false)).any id:=by rw [List.any_map];rfl
  _=zs.any id:=by rw [this]
theorem sq(hc:X.calm=true):gG X (.builtin "any") (wf X.K):=by
 intro pins s σ H xs us Q I r h
 obtain ⟨p,zs,rfl,hq,q⟩:=h
 obtain ⟨u,rfl,rx⟩:=n6 r
 cases rx
 obtain ⟨its,r',pl,hz⟩:=I.list hq
 cases pR zs _ r'
 have hl:=pl.isList
 have hlt:p<s.heap.objs.size:=by obtain ⟨_,e,_⟩:=hl;exact Heap.lt_size e
 refine call_any_walk (wpAny_pyIter_list hl ?_)
 refine ⟨_,_,_,_,_,_,fun i=>zs.getD i false,rfl,Walks.list (prog:=X.prog) (w:=X.w) (A:=X.A.in1) (I.ok.hd hc) _ p (Nat.ne_of_lt hlt) (zs.map Value.bool).toArray,⟨⟨_,Heap.get?_push_size _ rfl,rfl,rfl⟩,hl.push _⟩,?_,fun h' tk hk=>?_⟩
 ·intro i v s1 Q1 E1 hP hQ
  have hP':(zs.map Value.bool)[i]?=some v:=by simpa using hP
  rw [lae] at hP'
  cases hb:zs[i]? with
  | none=>rw [hb] at hP';cases hP'
  | some b=>
   rw [hb] at hP'
   cases hP'
   refine wpAny_truthy_bool ?_
   dsimp only at hQ
   rw [List.getD_eq_getElem?_getD,hb] at hQ
   exact hQ
 ·refine ⟨.bl (zs.any id),H,I.kept (old_kept hk),?_,q⟩
  have e:(List.range (zs.map Value.bool).toArray.size).any (fun i=>zs.getD i false)=zs.any id:=by
   rw [← wT zs];simp
  rw [e]
  rfl
theorem wY{K:PySem.W.Frag}{H:Hp}{a:Addr}{bs:List Bool}{Q:VK}(h:SqL K H a (bs.map V.bl))(q:Q (.bl (bs.any id)) H):wf K [.ref a] H Q:=⟨a,bs,rfl,h,q⟩
end L2
set_option Elab.async false
set_option linter.all false
set_option maxRecDepth 100000
set_option maxHeartbeats 4000000
namespace Oh
open PySem L2
def wo(K:PySem.W.Frag)(b0:Sp):TS:=
  (aC (eG (br K (ad 0) "awake") (a_ b0 [] E0 (ae (br K (ad 0) "book") (ae (ad 1) ak)))))
def uP(K:PySem.W.Frag):TS:=
  (aC (eG (ap cY (ap (bK K) (ad 1) (tC (.int 2))) (ad 2)) (eG (ap (iy K false) (ap (bK K) (ad 1) (tC (.int 3))) (cR (ae (tC (.str "bound")) (ae (tC (.str "off")) ak)))) (br K (ap (cJ K) (br K (ad 0) "houses") (ap (bK K) (ad 1) (tC (.int 1)))) "awake"))))
def vQ(K:PySem.W.Frag)(b0:Sp)(gm:Sp):TS:=
  (aq (aX (tB (bv (wf K) (ae (ff (cP K (br K (ad 0) "houses")) (az 0) fm (eG (br K (ad 0) "awake") (nv (a_ b0 [] E0 (ae (br K (ad 0) "book") (ae (ad 1) ak))))) [none,some 1]) ak)))
  (aC (tC (.bl true)))
  aM)
  (aC (bv (wf K) (ae (ff (cP K (br K (ad 0) "letters")) (az 0) fm (a_ gm [] E0 (ae (ad 1) (ae (ad 0) (ae (ad 2) ak)))) [none,some 0,some 1]) ak))))
def v_(K:PySem.W.Frag)(cm:Sp)(hX:Sp)(hW:Sp):TS:=
  (aq (bg (a_ cm [] E0 (ae (ad 0) (ae (ad 1) (ae (ad 2) ak)))) (az 5))
  (aq (aX (im (cb (tB (a_ hX [] E0 (ae (ap (cJ K) (br K (ad 5) "houses") (ad 3)) (ae (ad 4) ak))))) (tB (a_ hW [] E0 (ae (ad 5) (ae (ad 4) ak)))))
  (aC (cG ak))
  aM)
  (aC (ff (cP K (br K (ad 5) "houses")) (az 0) (cb (tB (br K (ad 0) "awake"))) (br K (ad 0) "number") [none]))))
def wv(K:PySem.W.Frag)(d6:Sp):TS:=
  (aq (aX (tB (jt (ad 1)))
  (aC (jt (ad 0)))
  aM)
  (aq (aX (tB (bv (dF K) (ae (ad 1) (ae (tC (.ty "bool")) ak))))
  (aC (eG (bv (dF K) (ae (ad 0) (ae (tC (.ty "bool")) ak))) (ap cY (ad 0) (ad 1))))
  aM)
  (aq (aX (tB (bv (dF K) (ae (ad 1) (ae (tC (.ty "int")) ak))))
  (aC (eG (bv (dF K) (ae (ad 0) (ae (tC (.ty "int")) ak))) (eG (nv (bv (dF K) (ae (ad 0) (ae (tC (.ty "bool")) ak)))) (ap cY (ad 0) (ad 1)))))
  aM)
  (aq (aX (tB (bv (dF K) (ae (ad 1) (ae (tC (.ty "str")) ak))))
  (aC (eG (bv (dF K) (ae (ad 0) (ae (tC (.ty "str")) ak))) (ap cY (ad 0) (ad 1))))
  aM)
  (aq (aX (tB (bv (dF K) (ae (ad 1) (ae (tC (.ty "dict")) ak))))
  wX
  aM)
  (aq (aX (aZ (ap jA (bv (dF K) (ae (ad 1) (ae (tC (.ty "tuple")) ak))) (bv (dF K) (ae (ad 0) (ae (tC (.ty "tuple")) ak)))))
  (aC (tC (.bl false)))
  aM)
  (aq (aX (im (aZ (ap jA (bv (dF K) (ae (ad 1) (ae (tC (.ty "list")) ak))) (bv (dF K) (ae (ad 0) (ae (tC (.ty "list")) ak))))) (cb (tB (bv (zc K) (ae (ad 1) (ae (cR (ae (tC (.ty "list")) (ae (tC (.ty "tuple")) ak))) ak))))))
  (aC (tC (.bl false)))
  aM)
  (aq (aX (aZ (ap jA (bv (b5 K) (ae (ad 0) ak)) (bv (b5 K) (ae (ad 1) ak))))
  (aC (tC (.bl false)))
  aM)
  (aq (ei (en (ae (bv (b5 K) (ae (ad 1) ak)) ak)) (az 2)
  (aX (cb (tB (a_ d6 [] E0 (ae (ap (BF K) (ad 0) (ad 2)) (ae (ap (BF K) (ad 1) (ad 2)) ak)))))
  (aC (tC (.bl false)))
  aM))
  (aC (tC (.bl true))))))))))))
def wu(K:PySem.W.Frag)(gT:Sp)(dM:Sp):TS:=
  (aq (bg (ap lQ (ad 2) (ff (en (ae (ad 0) ak)) (az 0) fm (cR (ae (tC (.str "wake")) (ae (ad 0) ak))) [none])) (az 3))
  (aq (bg (a_ gT [] E0 (ae (ad 0) (ae (bv (ef K) (ae (ad 1) ak)) (ae (bv (ef K) (ae (ad 3) ak)) ak)))) (az 4))
  (aq (aX (im (cb (tB (bv (dF K) (ae (ad 4) (ae (tC (.ty "list")) ak))))) (aZ (ap jA (bv (b5 K) (ae (ad 4) ak)) (bv (b5 K) (ae (ad 3) ak)))))
  (aC (tC .non))
  aM)
  (aq (bg (cG ak) (az 5))
  (aq (ei (cP K (o4 (m9 K) (ad 4) (iD (bv (b5 K) (ae (ad 2) ak))) fY)) (az 6)
  (aq (aX (iw (tB (i_ (ad 6))) (cb (tB (a_ dM [] E0 (ae (ad 6) ak)))))
  (aC (tC .non))
  aM)
  (b1 (fU K "list" dc (ad 5) (ae (jt (ad 6)) ak)))))
  (aC (ad 5)))))))
def vv(K:PySem.W.Frag):TS:=
  (aq (bg (cG ak) (az 3))
  (aq (ei (en (ae (bv (b5 K) (ae (ad 0) ak)) ak)) (az 4)
  (aX (iw (aZ (ap cY (ap (bK K) (ap (cJ K) (ad 0) (ad 4)) (tC (.int 2))) (ad 2))) (aZ (ap (iy K false) (ap (bK K) (ap (cJ K) (ad 0) (ad 4)) (tC (.int 3))) (cG (ae (tC (.str "bound")) (ae (tC (.str "off")) ak))))))
  (b1 (fU K "list" dc (ad 3) (ae (cR (ae (tC (.str "carry")) (ae (ad 4) (ae (tC (.bl true)) ak)))) ak)))
  aM))
  (aq (bg (ap lQ (ad 3) (ff (en (ae (ad 1) ak)) (az 0) fm (cR (ae (tC (.str "query")) (ae (ad 0) (ae (ad 1) ak)))) [none,some 2])) (az 3))
  (aC (ap lQ (ad 3) (ff (en (ae (ap cQ (ap cQ (tC (.int 4)) (ad 1)) (ad 1)) ak)) (az 0) fm (cR (ae (tC (.str "carry")) (ae (ap gQ (bv (b5 K) (ae (ad 1) ak)) (ad 0)) (ae (tC (.bl true)) ak)))) [none,some 0]))))))
def uG(K:PySem.W.Frag)(hJ:Sp)(gF:Sp)(gE:Sp)(dw:Sp)(du:Sp)(fP:Sp):TS:=
  (aq (bg (a_ hJ [] E0 (ae (ad 0) (ae (bv (ef K) (ae (ad 1) ak)) (ae (bv (ef K) (ae (ad 2) ak)) ak)))) (az 6))
  (aq (aX (cb (tB (a_ gF [] E0 (ae (ad 6) (ae (ad 0) ak)))))
  (aC (tC (.bl false)))
  aM)
  (aq (bg (ap lQ (ad 2) (a_ gE [] E0 (ae (ad 6) (ae (ad 0) (ae (ad 3) ak))))) (az 7))
  (aq (bg (a_ dw [] E0 (ae (ad 0) (ae (bv (ef K) (ae (ad 1) ak)) (ae (bv (ef K) (ae (ad 7) ak)) ak)))) (az 8))
  (aq (bg (a_ dw [] E0 (ae (ad 0) (ae (bv (ef K) (ae (ad 1) ak)) (ae (ap lQ (ad 7) (cG (ae (cR (ae (tC (.str "sweep")) ak)) ak))) ak)))) (az 9))
  (aq (aX (im (cb (tB (a_ du [] E0 (ae (ad 8) (ae (ad 0) ak))))) (cb (tB (a_ du [] E0 (ae (ad 9) (ae (ad 0) ak))))))
  (aC (tC (.bl false)))
  aM)
  (aq (ei (cP K (ad 4)) (az 10)
  (aq (bg (a_ fP [] E0 (ae (ap (cJ K) (ad 8) (ad 10)) (ae (ad 3) ak))) (az 11))
  (aq (aX (aZ (ap jA (jt (ad 11)) (ap mS (bv (b5 K) (ae (ap (cJ K) (ad 5) (ad 10)) ak)) (tC (.int 0)))))
  (aC (tC (.bl false)))
  aM)
  (aX (iw (aZ (ap mS (bv (b5 K) (ae (ap (cJ K) (ad 5) (ad 10)) ak)) (tC (.int 0)))) (tB (i_ (a_ fP [] E0 (ae (ap (cJ K) (ad 9) (ad 10)) (ae (ad 3) ak))))))
  (aC (tC (.bl false)))
  aM))))
  (aC (tC (.bl true))))))))))
def vS(K:PySem.W.Frag)(dm:Sp)(gk:Sp):TS:=
  (aq (bg (ap p8 (a_ dm [] E0 (ae (ad 0) (ae (tC (.int 2)) ak))) (tC (.int 4))) (az 3))
  (aq (bg (ap b3 (ad 2) (ad 1)) (az 4))
  (aq (bg (cG (ae (cR (ae (tC (.str "begin")) (ae (ad 2) (ae (tC (.bl true)) ak)))) ak)) (az 5))
  (aq (aX (aZ (ap cY (ap b3 (ap b3 (ap cQ (ad 3) (tC (.int 48271))) (tC (.int 1049))) (tC (.int 3))) (tC (.int 1))))
  (aq (ei (en (ae (ap zo (ap cQ (tC (.int 2)) (ap zo (ad 1) (tC (.int 1)))) (ap b3 (ap b3 (ap cQ (ad 3) (tC (.int 48271))) (tC (.int 1061))) (tC (.int 3)))) ak)) (az 6)
  (b1 (fU K "list" dc (ad 5) (ae (cR (ae (tC (.str "carry")) (ae (ad 6) (ae (tC (.bl true)) ak)))) ak))))
  (aq (b1 (fU K "list" dc (ad 5) (ae (cR (ae (tC (.str "stop")) (ae (ad 4) ak))) ak)))
  (iU (aX (aZ (ap cY (ap b3 (ap b3 (ap cQ (ad 3) (tC (.int 48271))) (tC (.int 1051))) (tC (.int 2))) (tC (.int 1))))
  (b1 (fU K "list" dc (ad 5) (ae (cR (ae (tC (.str "stop")) (ae (ap b3 (ap gQ (ad 4) (tC (.int 1))) (ad 1)) ak))) ak)))
  aM)
  (aC (ad 5)))))
  aM)
  (aq (bg (ap lQ (ad 5) (a_ gk [] E0 (ae (o4 (m9 K) (ad 0) (iD (tC (.int 3))) (iD (tC (.int 13)))) (ae (ad 1) ak)))) (az 5))
  (iU (aX (aZ (ap cY (ap b3 (ap b3 (ap cQ (ad 3) (tC (.int 48271))) (tC (.int 1049))) (tC (.int 3))) (tC (.int 2))))
  (b1 (fU K "list" dc (ad 5) (ae (cR (ae (tC (.str "stop")) (ae (ad 4) ak))) ak)))
  aM)
  (aC (ad 5))))))))
def wj(K:PySem.W.Frag)(dm:Sp)(gY:Sp)(dv:Sp)(gW:Sp)(dw:Sp)(gH:Sp)(du:Sp)(h_:Sp)(iA:Sp)(d6:Sp)(cx:Sp)(gP:Sp):TS:=
  (aq (bg (ap (cJ K) (cG (ae (tC (.int 2)) (ae (tC (.int 3)) (ae (tC (.int 4)) (ae (tC (.int 2)) (ae (tC (.int 3)) (ae (tC (.int 4)) (ae (tC (.int 2)) (ae (tC (.int 5)) ak))))))))) (ap b3 (ap b3 (ap cQ (a_ dm [] E0 (ae (ad 0) (ae (tC (.int 0)) ak))) (tC (.int 48271))) (tC (.int 1063))) (tC (.int 8)))) (az 1))
  (aq (bg (a_ gY [] E0 (ae (a_ dm [] E0 (ae (ad 0) (ae (tC (.int 1)) ak))) (ae (ad 1) ak))) (az 2))
  (aq (bg (a_ dv [] E0 (ae (a_ dm [] E0 (ae (ad 0) (ae (tC (.int 2)) ak))) ak)) (az 3))
  (aq (bg (a_ gW [] E0 (ae (ad 0) (ae (ad 1) (ae (ad 3) ak)))) (az 4))
  (aq (bg (a_ dw [] E0 (ae (ad 1) (ae (bv (ef K) (ae (ad 2) ak)) (ae (bv (ef K) (ae (ad 4) ak)) ak)))) (az 5))
  (aq (bg (a_ gH [] E0 (ae (ad 1) (ae (ad 2) (ae (ad 4) ak)))) (az 6))
  (aq (aX (im (tB (jt (ad 6))) (cb (tB (a_ du [] E0 (ae (ad 5) (ae (ad 1) ak))))))
  (aC (tC (.bl false)))
  aM)
  (aq (bg (cG ak) (az 7))
  (aq (bg (cG ak) (az 8))
  (aq (ei (en (ae (ad 1) ak)) (az 9)
  (aq (bg (a_ h_ [] E0 (ae (ad 1) (ae (bv (ef K) (ae (ad 2) ak)) (ae (bv (ef K) (ae (ad 4) ak)) (ae (ad 9) (ae (ad 3) ak)))))) (az 10))
  (aq (aX (cb (tB (bv (dF K) (ae (ad 10) (ae (tC (.ty "list")) ak)))))
  (aC (tC (.bl false)))
  aM)
  (iU (aX (iw (aZ (ap wd (a_ iA [] E0 (ae (ap (cJ K) (ad 5) (ad 9)) (ae (ad 3) ak))) (cG (ae (tC (.str "yes")) ak)))) (tB (ap (cJ K) (ad 6) (ad 9))))
  (b1 (fU K "list" dc (ad 7) (ae (ad 9) ak)))
  (aX (aZ (ap mS (bv (b5 K) (ae (ad 10) ak)) (tC (.int 0))))
  (aC (tC (.bl false)))
  aM))
  (aq (bg (ff (en (ae (ad 1) ak)) (az 0) (cb (tB (ap (cJ K) (ad 1) (ad 0)))) (ad 0) [none,some 6]) (az 11))
  (aq (aX (iw (aZ (ap mS (bv (b5 K) (ae (ad 10) ak)) (tC (.int 0)))) (cb (tB (a_ d6 [] E0 (ae (ad 10) (ae (ad 11) ak))))))
  (aC (tC (.bl false)))
  aM)
  (aq (ei (cP K (ad 10)) (az 12)
  (aX (cb (tB (a_ cx [] E0 (ae (ad 12) ak))))
  (aC (tC (.bl false)))
  aM))
  (b1 (fU K "list" dc (ad 8) (ae (ad 10) ak))))))))))
  (aC (a_ gP [] E0 (ae (ad 1) (ae (ad 2) (ae (ad 4) (ae (ad 3) (ae (ad 7) (ae (ad 8) ak))))))))))))))))))
local macro_rules | `(tactic| walk_at "ne")=>`(tactic| first | assumption | (refine' Ne.symm ?k1;(case k1=>assumption)) | (refine' b8 ?k1 ?k2;(case k1=>assumption);(case k2=>walk_at "hl")) | (refine' iK ?k1 ?k2;(case k1=>assumption);(case k2=>walk_at "rd")) | (refine' Ne.symm (b8 ?k1 ?k2);(case k1=>assumption);(case k2=>walk_at "hl")) | (refine' Ne.symm (iK ?k1 ?k2);(case k1=>assumption);(case k2=>walk_at "rd")))
local macro_rules | `(tactic| walk_at "hl")=>`(tactic| with_reducible first | assumption | exact av | (refine' bo ?k1 ?k2;(case k1=>walk_at "ne");(case k2=>walk_at "hl")) | (refine' Same.at ?k1 ?k2;(case k1=>assumption);(case k2=>walk_at "hl")))
local macro_rules | `(tactic| walk_at "rd")=>`(tactic| with_reducible first | assumption | (refine' Rd.of ?k1;(case k1=>walk_at "hl")) | (refine' Rd.upd ?k1 ?k2;(case k1=>walk_at "ne");(case k2=>walk_at "rd")) | (refine' Rd.same ?k1 ?k2;(case k1=>assumption);(case k2=>walk_at "rd")))
local macro_rules | `(tactic| walk_at "sq")=>`(tactic| with_reducible first | assumption | (refine' dR ?k1;(case k1=>walk_at "rd")) | (refine' oH ?k1;(case k1=>walk_at "rd")) | (refine' SqL.new ?k1 ?k2;(case k1=>assumption);(case k2=>walk_at "sq")) | (refine' Same.seq ?k1 ?k2;(case k1=>assumption);(case k2=>walk_at "sq")))
local macro_rules | `(tactic| walk_at "rf")=>`(tactic| first | with_unfolding_all rfl | assumption)
local macro_rules | `(tactic| walk_at "fl")=>`(tactic| first | with_unfolding_all rfl | exact lP _ | exact lY _)
local macro_rules | `(tactic| walk_at "s")=>`(tactic| with_reducible first
 | refine nN ?_ | refine rJ ?_ | refine mJ ?_ | refine uy ?_ | refine sJ ?_ | refine st_retN ?_
 | refine oz ?_ | refine oG ?_ | refine iJ ?_ | refine yx ?_ | refine wn ?_ | refine rT ?_
 | refine sI ?_ | refine p3 ?_ | refine rD ?_ | refine oT ?_ | refine tw ?_ | refine oK ?_ | refine sf ?_
 | refine mN ?_ | refine md ?_ | refine ww ?_ | refine qf ?_ | refine oE ?_
 | refine jG ?_ | refine iL ?_ | refine sN ?_ | refine qE ?_ | refine oq ?_ | refine ow ?_ | refine mf ?_
 | (refine' jy ?k1 ?_;(case k1=>walk_at "rf")) | refine yi ?_
 | refine rZ ?_ | refine uz ?_ | (refine' d5 ?k1 ?_;(case k1=>first | exact i' (by decide) | exact vE (by decide) | decide | (show (0:Int)<_;decide)))
 | (refine' lO ?k1 ?_;(case k1=>walk_at "rf")) | (refine' qK ?k1 ?_;(case k1=>walk_at "rf"))
 | (refine' b2 ?k1 ?k2 ?_;(case k1=>walk_at "sq");(case k2=>walk_at "rf")) | (refine' tH ?k1 ?k2 ?_;(case k1=>walk_at "sq");(case k2=>walk_at "rf"))
 | (refine' mh ?k1 ?_;(case k1=>walk_at "sq")) | (refine' jx ?k1 ?_;(case k1=>walk_at "sq"))
 | (refine' sX ?k1 ?k2 ?k3 ?_;(case k1=>walk_at "sq");(case k2=>walk_at "rf");(case k3=>walk_at "fl"))
 | (refine' qL ?k1 ?k2 ?k3 ?_;(case k1=>walk_at "sq");(case k2=>walk_at "rf");(case k3=>walk_at "fl"))
 | (refine' mI ?k1 ?_;(case k1=>walk_at "sq")) | refine st_min ?_ | refine st_intB ?_
 | refine vn ?_ | refine lL ?_ | refine ox ?_ | (refine' qY ?k1 ?_;(case k1=>walk_at "sq"))
 | refine oy ?_ | (refine' oX ?k1 ?k2 ?_;(case k1=>walk_at "hl");(case k2=>walk_at "rf")) | refine oZ ?_
 | (refine' sy ?k1 ?k2 ?k3 ?k4 ?_;(case k1=>walk_at "hl");(case k2=>assumption);(case k3=>assumption);(case k4=>walk_at "rf")) | (refine' oW ?k1 ?_;(case k1=>walk_at "hl"))
 | refine uF ?_ | refine qy ?_ | refine on ?_ | refine mL ?_ | refine st_dget ?_ | refine nh ?_
 | refine qF ?_ | refine mY ?_ | (refine' rA ?k1 ?_;(case k1=>walk_at "sq")) | refine oY ?_ | refine wb ?_ | refine oF ?_
 | (refine' uA ?k1 ?_;(case k1=>with_unfolding_all rfl))
 | (refine' qM ?k1 ?_;(case k1=>walk_at "hl")) | (refine' ng ?k1 ?_;(case k1=>walk_at "hl")))
local macro_rules | `(tactic| walk_at "g")=>`(tactic| repeat walk_at "s")
local macro_rules | `(tactic| walk_at "w")=>`(tactic| ((with_reducible refine tq ?_);intro p hp;generalize hH:upd _ p _=H';have hs:=om hp hH;have hg:=ui hH;clear hH))
local macro_rules | `(tactic| walk_at "sm")=>`(tactic| with_reducible first | assumption | exact Same.refl _ | (refine' Same.trans ?k1 ?k2;(case k2=>assumption);(case k1=>walk_at "sm")))
local macro_rules | `(tactic| walk_at "A")=>`(tactic| repeat (first | walk_at "s" | walk_at "w"))
theorem iz(h:HS)(n:Int)(w:Str):∀ y∈h.toOthers n w,y.2.2.1=n∧y.2.2.2=w:=fun y hy=>by
 unfold HS.toOthers at hy
 obtain ⟨k,_,rfl⟩:=laA.mp hy
 exact ⟨rfl,rfl⟩
theorem yW(h:HS)(l:au):(h.got l).1.book=h.book∨∃ x,(h.got l).1.book=h.book++[(x,l.2.2.1)]:=by
 unfold HS.got HS.gotAsk HS.asked HS.gotQuery HS.gotVote HS.gotDecision HS.decide HS.wr HS.count
 repeat' split
 all_goals first | exact .inl rfl | exact .inr ⟨_,rfl⟩
theorem rS(h:HS)(l:au):∀ y∈(h.got l).2,y.2.2.1=l.2.2.1:=by
 have one:∀ (x:au) (n:Int),x.2.2.1=n→∀ y∈[x],y.2.2.1=n:=fun x n e y hy=>by rw [lag.mp hy];exact e
 have non:∀ (n:Int),∀ y∈([]:List au),y.2.2.1=n:=fun n y hy=>by cases hy
 unfold HS.got HS.gotAsk HS.gotQuery HS.gotVote HS.gotDecision HS.decide
 repeat' split
 all_goals first | exact non _ | exact one _ _ rfl | exact fun y hy=>(iz _ _ _ y hy).1
theorem eT(S:HallS)(l:au):((S.carryL l true).1=S∧∀ h,S.hs[l.2.1.toNat]?=some h→h.up=false)∨∃ h,S.hs[l.2.1.toNat]?=some h∧h.up=true∧(S.carryL l true).1=(S.put l.2.1.toNat (h.got l).1).send (h.got l).2:=by
 unfold HallS.carryL
 cases hh:S.hs[l.2.1.toNat]? with
 | none=>exact .inl ⟨rfl,fun h z=>by cases z⟩
 | some h=>
  dsimp only
  cases hu:h.up with
  | true=>exact .inr ⟨h,rfl,hu,by rw [if_pos rfl];rfl⟩
  | false=>exact .inl ⟨by rw [if_neg (by decide)],fun g z=>by cases z;exact hu⟩
theorem xw{S:HallS}{i j:Nat}{g h x:HS}{sent:List au}(hi:S.hs[i]?=some h)(hx:((S.put i g).send sent).hs[j]?=some x):(j=i∧x=g)∨(j≠i∧S.hs[j]?=some x):=by
 change (S.hs.set i g)[j]?=some x at hx
 by_cases e:j=i
 ·subst e
  rw [lao (lab.mp hi).1] at hx
  exact .inl ⟨rfl,(lan hx).symm⟩
 ·rw [lar (Ne.symm e)] at hx
  exact .inr ⟨e,hx⟩
theorem xL{S:HallS}{i j:Nat}{g h x:HS}{sent:List au}(hi:S.hs[i]?=some h)(hx:S.hs[j]?=some x):((S.put i g).send sent).hs[j]?=some (if j=i then g else x):=by
 show (S.hs.set i g)[j]?=_
 by_cases e:j=i
 ·subst e
  rw [lao (lab.mp hi).1,if_pos rfl]
 ·rw [lar (Ne.symm e),if_neg e];exact hx
structure Stuck(n:Int)(k:Nat)(S:HallS):Prop where
 me:∃ h,S.hs[k]?=some h∧h.up=true
 yes:∀ (i:Nat) (h:HS),S.hs[i]?=some h→h.up=true→ar h.book n=[("yes":Str)]
 let_:∀ l∈S.ls,l.2.2.1=n→l.2.2.2="bound"∨l.2.2.2="off"→∀ h,S.hs[l.2.1.toNat]?=some h→h.up=false
theorem Stuck.carryL{c:Nat}{ag:List (Int×Int)}{Bs:Int→Prop}{S:HallS}{n:Int}{k:Nat}(I:Inv c ag Bs S)(J:Stuck n k S){l:au}(hl:l∈S.ls):Stuck n k (S.carryL l true).1:=by
 rcases eT S l with ⟨e,_⟩ | ⟨h,hi,hu,e⟩
 ·rw [e];exact J
 ·have hw:=J.yes _ h hi hu
  have key:ar (h.got l).1.book n=[("yes":Str)]∧∀ y∈(h.got l).2,y.2.2.1=n→¬ (y.2.2.2="bound"∨y.2.2.2="off"):=by
   by_cases m:l.2.2.1=n
   ·have lead:l.2.1=ld c n→False:=fun z=>by
     have e2:l.2.1.toNat=ld c n:=by omega
     have h3:=(I.wi n).sl
     rw [← e2,bS hi,hw] at h3
     revert h3;decide
    rcases I.li l hl with ⟨a,_⟩ | ⟨a,b,_⟩ | ⟨a,b,_⟩ | ⟨a,_⟩ | ⟨a,_⟩ | ⟨a,_⟩
    ·unfold HS.got HS.gotAsk HS.asked
     rw [if_pos a,m,if_neg (by rw [hw];decide)]
     refine ⟨hw,fun y hy _=>?_⟩
     rw [lag.mp hy]
     dsimp only
     split <;> decide
    ·rw [m] at b;exact (lead b).elim
    ·rw [m] at b;exact (lead b).elim
    ·unfold HS.got HS.gotQuery
     rw [if_neg (by rw [a];decide),if_pos a,m,if_pos (eV hw)]
     exact ⟨hw,fun y hy=>by cases hy⟩
    ·have:=J.let_ l hl m (.inl a) h hi;rw [hu] at this;cases this
    ·have:=J.let_ l hl m (.inr a) h hi;rw [hu] at this;cases this
   ·refine ⟨?_,fun y hy z=>absurd ((rS h l y hy).symm.trans z) m⟩
    rcases yW h l with e | ⟨x,e⟩
    ·rw [e];exact hw
    ·rw [e,cI,if_neg m];exact hw
  rw [e]
  refine ⟨?_,fun i g hg gu=>?_,fun y hy yn yw g hg=>?_⟩
  ·obtain ⟨g,hg,gu⟩:=J.me
   refine ⟨_,xL hi hg,?_⟩
   split
   ·rw [xp];exact hu
   ·exact gu
  ·rcases xw hi hg with ⟨_,rfl⟩ | ⟨_,z⟩
   ·exact key.1
   ·exact J.yes i g z gu
  ·have hy':y∈S.ls++(h.got l).2:=hy
   rcases lap.mp hy' with z | z
   ·rcases xw hi hg with ⟨e1,rfl⟩ | ⟨_,e1⟩
    ·have:=J.let_ y z yn yw h (by rw [e1];exact hi);rw [hu] at this;cases this
    ·exact J.let_ y z yn yw g e1
   ·exact absurd yw (key.2 y z yn)
theorem Stuck.query{S:HallS}{n:Int}{k:Nat}(J:Stuck n k S)(i:Nat)(m:Int):Stuck n k (S.query i m).1:=by
 unfold HallS.query
 split
 ·exact J
 ·rename_i h hi
  refine ⟨J.me,J.yes,fun y hy yn yw g hg=>?_⟩
  have hy':y∈S.ls++h.query m:=hy
  rcases lap.mp hy' with z | z
  ·exact J.let_ y z yn yw g hg
  ·unfold HS.query at z
   split at z
   ·have:=(iz h m "query" y z).2
    rw [this] at yw
    exact absurd yw (by decide)
   ·cases z
theorem Stuck.turn{c:Nat}{ag:List (Int×Int)}{Bs:Int→Prop}{S:HallS}{n:Int}{k:Nat}(I:Inv c ag Bs S)(J:Stuck n k S)(a:Nat):Stuck n k (S.turn a).1:=by
 unfold HallS.turn
 split
 ·exact J
 ·rename_i l hl
  exact J.carryL I (lam hl)
theorem Stuck.sweepGo{c:Nat}{ag:List (Int×Int)}{Bs:Int→Prop}{n:Int}{k:Nat}:∀ (f:Nat) (S:HallS) (pl:Nat) (w:List (Int×bh)) (r:HallS×List (Int×bh)),Inv c ag Bs S→Stuck n k S→S.sweepGo f pl w=some r→Stuck n k r.1
 | 0,S,pl,w,r,I,J,h=>by
  unfold HallS.sweepGo at h
  split at h
  ·cases h
  ·cases lan h;exact J
 | f+1,S,pl,w,r,I,J,h=>by
  unfold HallS.sweepGo at h
  split at h
  ·exact Stuck.sweepGo f _ _ _ r (I.turn _) (J.turn I _) h
  ·cases lan h;exact J
def Calm:Deed→Prop
 | .carry _ st=>st=true
 | .query _ _=>True
 | .sweep=>True
 | _=>False
theorem Calm.inn{Bs:Int→Prop}{d:Deed}(h:Calm d):eM Bs d:=by cases d <;> first | exact True.intro | exact h.elim
theorem Stuck.do{c:Nat}{ag:List (Int×Int)}{Bs:Int→Prop}{S:HallS}{n:Int}{k:Nat}(I:Inv c ag Bs S)(J:Stuck n k S){d:Deed}(hd:Calm d):Stuck n k (S.do d).1:=by
 cases d with
 | begin n st=>exact hd.elim
 | stop i=>exact hd.elim
 | wake i=>exact hd.elim
 | query i m=>exact J.query i m
 | carry a st=>
  cases hd
  show Stuck n k (S.carry a true).1
  unfold HallS.carry
  split
  ·exact J
  ·rename_i l hl
   exact J.carryL I (lam hl)
 | sweep=>
  have:=Stuck.sweepGo _ _ _ _ _ I J (ia I.ok).1
  exact ⟨this.me,this.yes,this.let_⟩
theorem Stuck.run{c:Nat}{ag:List (Int×Int)}{Bs:Int→Prop}{n:Int}{k:Nat}:∀ (ds:List Deed) (S:HallS),Inv c ag Bs S→Stuck n k S→(∀ d∈ds,Calm d)→Stuck n k (S.run ds).1
 | [],S,I,J,_=>J
 | d::r,S,I,J,h=>Stuck.run r (S.do d).1 (I.do d (h d List.mem_cons_self).inn) (J.do I (h d List.mem_cons_self)) fun x hx=>h x (lac _ hx)
structure Quiet(S S':HallS):Prop where
 ext:qV (bf S) (bf S')
 up:∀ (j:Nat) (h:HS),S.hs[j]?=some h→∃ h',S'.hs[j]?=some h'∧h'.up=h.up
 pre:∃ a,S'.ls=S.ls++a
theorem Quiet.refl(S:HallS):Quiet S S:=⟨fun _ _ _ h=>h,fun j h hj=>⟨h,hj,rfl⟩,[],(laF _).symm⟩
theorem Quiet.trans{S S1 S2:HallS}(a:Quiet S S1)(b:Quiet S1 S2):Quiet S S2:=
 ⟨fun i n x h=>b.ext i n x (a.ext i n x h),fun j h hj=>by
  obtain ⟨h1,e1,u1⟩:=a.up j h hj
  obtain ⟨h2,e2,u2⟩:=b.up j h1 e1
  exact ⟨h2,e2,u2.trans u1⟩,by
  obtain ⟨x,hx⟩:=a.pre
  obtain ⟨y,hy⟩:=b.pre
  exact ⟨x++y,by rw [hy,hx,List.append_assoc]⟩⟩
theorem Quiet.at{S S':HallS}(q:Quiet S S'){a:Nat}{l:au}(h:S.ls[a]?=some l):S'.ls[a]?=some l:=by
 obtain ⟨x,hx⟩:=q.pre
 rw [hx,List.getElem?_append_left (lab.mp h).1];exact h
theorem Quiet.isUp{S S':HallS}(q:Quiet S S'){j:Nat}(h:∃ h,S.hs[j]?=some h∧h.up=true):∃ h,S'.hs[j]?=some h∧h.up=true:=by
 obtain ⟨h,e,u⟩:=h
 obtain ⟨h',e',u'⟩:=q.up j h e
 exact ⟨h',e',u'.trans u⟩
theorem Quiet.dec{S S':HallS}(q:Quiet S S'){j:Nat}{n:Int}(h:Dec (bf S j n)):Dec (bf S' j n):=h.mono fun x hx=>q.ext j n x hx
theorem Quiet.carryL(S:HallS)(l:au):Quiet S (S.carryL l true).1:=by
 rcases eT S l with ⟨e,_⟩ | ⟨h,hi,hu,e⟩
 ·rw [e];exact Quiet.refl S
 ·rw [e]
  refine ⟨Ag hi l,fun j g hg=>⟨_,xL hi hg,?_⟩,_,rfl⟩
  split
  ·rename_i z
   subst z
   rw [hi] at hg
   cases hg
   exact xp h l
  ·rfl
theorem Quiet.carry(S:HallS)(a:Int):Quiet S (S.carry a true).1:=by
 unfold HallS.carry
 split
 ·exact Quiet.refl S
 ·exact Quiet.carryL S _
def NU(ws:List Str):Prop:=Dec ws∨¬ ("yes":Str)∈ws
theorem zI{b:List bh}{n:Int}(h:NU (ar b n)):bI b n=false:=by
 cases hu:bI b n with
 | false=>rfl
 | true=>
  rcases h with z | z
  ·unfold bI at hu
   rw [Bool.and_eq_true] at hu
   exact absurd z (dec_none.mp (of_decide_eq_true hu.2))
  ·exact absurd (oJ hu) z
def rB(l:au):Prop:=l.2.2.2="query"∨l.2.2.2="bound"∨l.2.2.2="off"
theorem lj(h:HS){l:au}(ht:rB l):(∀ y∈(h.got l).2,y.2.2.2="bound"∨y.2.2.2="off")∧(h.got l).2.length≤max 1 h.oth.length∧∀ m,("yes":Str)∈ar (h.got l).1.book m→("yes":Str)∈ar h.book m:=by
 have keep:∀ (b:List bh) (x:Str) (m' m:Int),x≠("yes":Str)→("yes":Str)∈ar (b++[(x,m')]) m→("yes":Str)∈ar b m:=fun b x m' m nx hy=>by
  rw [cI] at hy
  split at hy
  ·rcases lap.mp hy with z | z
   ·exact z
   ·exact absurd (lag.mp z).symm nx
  ·exact hy
 have ol:∀ w:Str,(h.toOthers l.2.2.1 w).length=h.oth.length:=fun w=>by unfold HS.toOthers;rw [laa]
 rcases ht with a | a
 ·unfold HS.got HS.gotQuery
  rw [if_neg (by rw [a];decide),if_pos a]
  split
  ·exact ⟨fun y hy=>(nomatch hy),laI _,fun m hm=>hm⟩
  ·split
   ·rename_i d hd
    refine ⟨fun y hy=>?_,by show 1≤_;omega,fun m hm=>hm⟩
    rw [lag.mp hy]
    exact el hd
   ·split
    ·refine ⟨fun y hy=>?_,by show 1≤_;omega,fun m hm=>keep _ _ _ _ (by decide) hm⟩
     rw [lag.mp hy];exact .inr rfl
    ·exact ⟨fun y hy=>.inr (iz h _ _ y hy).2,by show (h.toOthers _ _).length≤_;rw [ol];omega,fun m hm=>keep _ _ _ _ (by decide) hm⟩
 ·have n1:¬ l.2.2.2="ask":=by rcases a with a | a <;> rw [a] <;> decide
  have n2:¬ l.2.2.2="query":=by rcases a with a | a <;> rw [a] <;> decide
  have n3:¬ (l.2.2.2="yes"∨l.2.2.2="no"):=by rcases a with a | a <;> rw [a] <;> decide
  have n4:l.2.2.2≠("yes":Str):=by rcases a with a | a <;> rw [a] <;> decide
  unfold HS.got HS.gotDecision
  rw [if_neg n1,if_neg n2,if_neg n3]
  refine ⟨fun y hy=>(nomatch hy),laI _,fun m hm=>?_⟩
  dsimp only at hm
  split at hm
  ·exact keep _ _ _ _ n4 hm
  ·exact hm
theorem zW(h:HS){l:au}(a:l.2.2.2="bound"∨l.2.2.2="off"):(h.got l).2=[]∧Dec (ar (h.got l).1.book l.2.2.1):=by
 have n1:¬ l.2.2.2="ask":=by rcases a with a | a <;> rw [a] <;> decide
 have n2:¬ l.2.2.2="query":=by rcases a with a | a <;> rw [a] <;> decide
 have n3:¬ (l.2.2.2="yes"∨l.2.2.2="no"):=by rcases a with a | a <;> rw [a] <;> decide
 unfold HS.got HS.gotDecision
 rw [if_neg n1,if_neg n2,if_neg n3]
 refine ⟨rfl,?_⟩
 dsimp only
 by_cases z:ax h.book l.2.2.1=none
 ·rw [if_pos z]
  unfold HS.wr
  rw [cI,if_pos rfl]
  rcases a with a | a
  ·exact .inl (by rw [a];simp)
  ·exact .inr (.inl (by rw [a];simp))
 ·rw [if_neg z]
  exact Classical.not_not.mp fun y=>z (dec_none.mpr y)
theorem wp{c i k:Nat}{h:HS}{n:Int}(hn:h.num=i)(ho:h.oth=bN i c)(hk:k<c)(ne:k≠i)(nu:NU (ar h.book n)):∃ d:Str,(d="bound"∨d="off")∧((i:Int),(k:Int),n,d)∈(h.got ((k:Int),(i:Int),n,("query":Str))).2:=by
 unfold HS.got HS.gotQuery
 rw [if_neg (show ¬ ("query":Str)="ask" by decide),if_pos rfl]
 dsimp only
 rw [if_neg (by rw [zI nu];decide)]
 split
 ·rename_i d hd
  exact ⟨d,el hd,by rw [hn];simp⟩
 ·split
  ·exact ⟨_,.inr rfl,by rw [hn];simp⟩
  ·exact ⟨_,.inr rfl,mE hn ho hk ne⟩
structure Tl(n:Int)(j L0:Nat)(S:HallS):Prop where
 up:∃ h,S.hs[j]?=some h∧h.up=true
 nu:NU (bf S j n)
 new:∀ (a:Nat) (l:au),L0≤a→S.ls[a]?=some l→l.2.2.1=n∧rB l
theorem Tl.carryL{n:Int}{j L0:Nat}{S:HallS}(T:Tl n j L0 S){l:au}(hn:l.2.2.1=n)(ht:rB l)(hL:L0≤S.ls.length):Tl n j L0 (S.carryL l true).1:=by
 have q:=Quiet.carryL S l
 refine ⟨q.isUp T.up,?_,?_⟩
 ·rcases T.nu with z | z
  ·exact .inl (q.dec z)
  ·refine .inr fun y=>z ?_
   rcases eT S l with ⟨e,_⟩ | ⟨h,hi,hu,e⟩
   ·rw [e] at y;exact y
   ·rw [e] at y
    change ("yes":Str)∈bf (S.put _ _) j n at y
    rw [eB hi] at y
    split at y
    ·rename_i e2
     subst e2
     rw [bS hi]
     exact (lj h ht).2.2 n y
    ·exact y
 ·intro a x ha hx
  rcases eT S l with ⟨e,_⟩ | ⟨h,hi,hu,e⟩
  ·rw [e] at hx;exact T.new a x ha hx
  ·rw [e] at hx
   change (S.ls++(h.got l).2)[a]?=some x at hx
   by_cases lt:a<S.ls.length
   ·rw [List.getElem?_append_left lt] at hx;exact T.new a x ha hx
   ·rw [List.getElem?_append_right (by omega)] at hx
    have hm:=lam hx
    exact ⟨(rS h l x hm).trans hn,.inr ((lj h ht).1 x hm)⟩
theorem yy{c:Nat}{S:HallS}(ok:HallOk c S){l:au}(ht:rB l):(S.carryL l true).1.ls.length≤S.ls.length+(c - 1):=by
 rcases eT S l with ⟨e,_⟩ | ⟨h,hi,hu,e⟩
 ·rw [e];omega
 ·rw [e]
  show (S.ls++(h.got l).2).length≤_
  rw [laf]
  have h1:=(lj h ht).2.1
  have h2:=ok.oth1 hi
  have h3:=ok.c1
  omega
def cs(s m:Nat):List Deed:=(List.range m).map fun i=>Deed.carry ((s+i:Nat):Int) true
theorem fW(s m:Nat):cs s (m+1)=cs s m++[Deed.carry ((s+m:Nat):Int) true]:=by unfold cs;rw [List.range_succ,lai];rfl
theorem tF(s x y:Nat):cs s (x+y)=cs s x++cs (s+x) y:=by
 induction y with
 | zero=>rw [Nat.add_zero];unfold cs;simp
 | succ y ih=>rw [← Nat.add_assoc,fW,ih,fW,List.append_assoc,Nat.add_assoc]
theorem B2(s:Nat):cs s 1=[Deed.carry (s:Int) true]:=by unfold cs;simp
theorem iV{c:Nat}{ag:List (Int×Int)}{Bs:Int→Prop}{n:Int}{j L0:Nat}{S:HallS}(I:Inv c ag Bs S)(T:Tl n j L0 S){s:Nat}(hs:L0≤s)(hL:L0≤S.ls.length):∀ m,Tl n j L0 (S.run (cs s m)).1∧Quiet S (S.run (cs s m)).1∧(S.run (cs s m)).1.ls.length≤S.ls.length+(c - 1)*m∧Inv c ag Bs (S.run (cs s m)).1
 | 0=>⟨T,Quiet.refl S,lat _,I⟩
 | m+1=>by
  obtain ⟨t,q,l,i⟩:=iV I T hs hL m
  rw [fW,eL]
  generalize (S.run (cs s m)).1=S1 at *
  show Tl n j L0 (S1.carry _ true).1∧Quiet S (S1.carry _ true).1∧(S1.carry _ true).1.ls.length≤_∧Inv c ag Bs (S1.carry _ true).1
  have hL1:L0≤S1.ls.length:=by obtain ⟨a,ha⟩:=q.pre;rw [ha,laf];omega
  refine ⟨?_,q.trans (Quiet.carry S1 _),?_,i.carry _ true⟩
  ·unfold HallS.carry
   split
   ·exact t
   ·rename_i x hx
    rw [Int.toNat_natCast] at hx
    obtain ⟨h1,h2⟩:=t.new _ x (by omega) hx
    exact t.carryL h1 h2 hL1
  ·rw [Nat.mul_succ]
   unfold HallS.carry
   split
   ·dsimp only;omega
   ·rename_i x hx
    rw [Int.toNat_natCast] at hx
    have:=yy i.ok (t.new _ x (by omega) hx).2
    omega
def cZ(n:Int)(is:List Nat):List Deed:=is.map fun i=>Deed.query i n
def dC(S:HallS)(n:Int)(i:Nat):List au:=(S.hs[i]?).elim [] fun h=>h.query n
theorem wS(n:Int):∀ (is:List Nat) (S:HallS),(S.run (cZ n is)).1.hs=S.hs∧(S.run (cZ n is)).1.ls=S.ls++is.flatMap (dC S n)
 | [],S=>⟨rfl,(laF _).symm⟩
 | i::r,S=>by
  obtain ⟨h1,h2⟩:=wS n r (S.query i n).1
  have e:(S.query i n).1.hs=S.hs∧(S.query i n).1.ls=S.ls++dC S n i:=by
   unfold HallS.query dC
   cases hh:S.hs[i]? with
   | none=>exact ⟨rfl,(laF _).symm⟩
   | some h=>exact ⟨rfl,rfl⟩
  have e2:dC (S.query i n).1 n=dC S n:=by unfold dC;rw [e.1]
  show ((S.query i n).1.run (cZ n r)).1.hs=_∧((S.query i n).1.run (cZ n r)).1.ls=_
  rw [h1,h2,e.1,e.2,e2,List.append_assoc]
  exact ⟨rfl,rfl⟩
theorem xI{S:HallS}{n:Int}{i:Nat}{y:au}(h:y∈dC S n i):y.2.2.1=n∧y.2.2.2="query":=by
 unfold dC at h
 cases hh:S.hs[i]? with
 | none=>rw [hh] at h;cases h
 | some g=>
  rw [hh] at h
  change y∈g.query n at h
  unfold HS.query at h
  split at h
  ·exact iz g n _ y h
  ·cases h
theorem tP{c:Nat}{S:HallS}(ok:HallOk c S)(n:Int)(i:Nat):(dC S n i).length≤c - 1:=by
 unfold dC
 cases hh:S.hs[i]? with
 | none=>exact laI _
 | some g=>
  show (g.query n).length≤_
  have:=i8 g n
  have:=ok.oth1 hh
  omega
theorem tV{f:Nat→List au}{b:Nat}(h:∀ i,(f i).length≤b):∀ is:List Nat,(is.flatMap f).length≤is.length*b
 | []=>laI _
 | i::r=>by
  rw [List.flatMap_cons,laf,laj,Nat.succ_mul]
  have:=tV h r
  have:=h i
  omega
def p1(ks:List Nat):List Deed:=ks.map fun (k:Nat)=>Deed.carry (k:Int) true
def p4(n:Int)(S:HallS)(k:Nat):Prop:=∃ l,S.ls[k]?=some l∧l.2.2.1=n∧(l.2.2.2="bound"∨l.2.2.2="off")
theorem gZ{S:HallS}{n:Int}{k:Nat}{l:au}(hl:S.ls[k]?=some l)(w:l.2.2.2="bound"∨l.2.2.2="off"):(S.carry (k:Int) true).1.ls=S.ls∧(S.carry (k:Int) true).1.un=S.un∧(∀ h,S.hs[l.2.1.toNat]?=some h→h.up=true→Dec (bf (S.carry (k:Int) true).1 l.2.1.toNat l.2.2.1)):=by
 unfold HallS.carry
 rw [Int.toNat_natCast,hl]
 dsimp only
 rcases eT S l with ⟨e,z⟩ | ⟨h,hi,hu,e⟩
 ·rw [e];exact ⟨rfl,rfl,fun h hh up=>by rw [z h hh] at up;cases up⟩
 ·rw [e]
  obtain ⟨g1,g2⟩:=zW h w
  rw [g1]
  refine ⟨laF _,by show S.un++_=_;simp,fun g hg gu=>?_⟩
  show Dec (bf (S.put _ _) _ _)
  rw [eB hi,if_pos rfl]
  exact g2
theorem rR{c:Nat}{ag:List (Int×Int)}{Bs:Int→Prop}{n:Int}:∀ (ks:List Nat) (S:HallS),Inv c ag Bs S→(∀ k∈ks,p4 n S k)→(S.run (p1 ks)).1.ls=S.ls∧(S.run (p1 ks)).1.un=S.un∧Quiet S (S.run (p1 ks)).1∧Inv c ag Bs (S.run (p1 ks)).1∧
  ∀ k∈ks,∀ l,S.ls[k]?=some l→∀ h,S.hs[l.2.1.toNat]?=some h→h.up=true→Dec (bf (S.run (p1 ks)).1 l.2.1.toNat n)
 | [],S,I,_=>⟨rfl,rfl,Quiet.refl S,I,fun k hk=>by cases hk⟩
 | k::r,S,I,hk=>by
  obtain ⟨l,hl,ln,lw⟩:=hk k List.mem_cons_self
  obtain ⟨e1,e2,e3⟩:=gZ (n:=n) hl lw
  have q:=Quiet.carry S (k:Int)
  have I1:=I.carry (k:Int) true
  obtain ⟨h1,h2,h3,h4,h5⟩:=rR r (S.carry (k:Int) true).1 I1 (fun x hx=>by
   obtain ⟨y,hy,z⟩:=hk x (lac _ hx)
   exact ⟨y,by rw [e1];exact hy,z⟩)
  show ((S.carry (k:Int) true).1.run (p1 r)).1.ls=_∧((S.carry (k:Int) true).1.run (p1 r)).1.un=_∧Quiet S ((S.carry (k:Int) true).1.run (p1 r)).1∧Inv c ag Bs ((S.carry (k:Int) true).1.run (p1 r)).1∧_
  refine ⟨h1.trans e1,h2.trans e2,q.trans h3,h4,fun x hx y hy h hh hu=>?_⟩
  rcases List.mem_cons.mp hx with rfl | z
  ·rw [hl] at hy
   cases hy
   rw [← ln]
   exact h3.dec (e3 h hh hu)
  ·obtain ⟨h',e',u'⟩:=q.up _ h hh
   exact h5 x z y (by rw [e1];exact hy) h' e' (u'.trans hu)
theorem ri{c:Nat}{ag:List (Int×Int)}{Bs:Int→Prop}{S1:HallS}(I:Inv c ag Bs S1)(c5:c≤5){n:Int}{j k:Nat}(hj:∃ h,S1.hs[j]?=some h∧h.up=true)(nu:NU (bf S1 j n))(hk:∃ h,S1.hs[k]?=some h∧h.up=true)(hy:("yes":Str)∈bf S1 k n) :
  Dec (bf ((S1.run (cZ n (List.range c))).1.run (cs S1.ls.length (4*c*c))).1 k n):=by
 obtain ⟨hk0,hkk,hku⟩:=hk
 have c2:=I.ok.c1
 have kc:k<c:=I.ok.il hkk
 obtain ⟨q1,q2⟩:=wS n (List.range c) S1
 have I2:=I.run (cZ n (List.range c)) fun d hd=>by
  unfold cZ at hd
  obtain ⟨i,_,rfl⟩:=laA.mp hd
  exact True.intro
 have hQl:=tV (fun i=>tP I.ok n i) (List.range c)
 rw [laq] at hQl
 have hQn:∀ y∈(List.range c).flatMap (dC S1 n),y.2.2.1=n∧y.2.2.2="query":=fun y hy=>by
  obtain ⟨i,_,z⟩:=List.mem_flatMap.mp hy
  exact xI z
 have ew:bf (S1.run (cZ n (List.range c))).1=bf S1:=by funext a b;unfold bf;rw [q1]
 generalize hS2:(S1.run (cZ n (List.range c))).1=S2 at *
 generalize hQ:(List.range c).flatMap (dC S1 n)=Q at *
 have T2:Tl n j S1.ls.length S2:=⟨by rw [q1];exact hj,by rw [ew];exact nu,fun a l ha hl=>by
  rw [q2,List.getElem?_append_right ha] at hl
  obtain ⟨z1,z2⟩:=hQn l (lam hl)
  exact ⟨z1,.inl z2⟩⟩
 have hL2:S1.ls.length≤S2.ls.length:=by rw [q2,laf];omega
 by_cases dk:Dec (bf S1 k n)
 ·have:=(iV I2 T2 (lat _) hL2 (4*c*c)).2.1
  exact this.dec (by rw [ew];exact dk)
 have nejk:k≠j:=fun e=>by
  subst e
  rcases nu with z | z
  ·exact dk z
  ·exact z hy
 -- k asks j
 have wy:bf S1 k n=[("yes":Str)]:=by
  have hf:=(I.wi n).forms kc
  unfold fM i7 at hf
  generalize bf S1 k n=ws at *
  split at hf
  ·simp only [List.mem_cons,List.not_mem_nil,or_false] at hf
   rcases hf with rfl | rfl | rfl | rfl | rfl | rfl <;> revert hy <;> decide
  ·simp only [List.mem_cons,List.not_mem_nil,or_false] at hf
   rcases hf with rfl | rfl | rfl | rfl | rfl | rfl
   ·revert hy;decide
   ·rfl
   ·exact absurd (.inl (by decide)) dk
   ·exact absurd (.inr (.inl (by decide))) dk
   ·revert hy;decide
   ·revert hy;decide
 have jc:j<c:=by obtain ⟨h,e,_⟩:=hj;exact I.ok.il e
 obtain ⟨nk,ok'⟩:=I.ok.num k hk0 hkk
 have hin:((k:Int),(j:Int),n,("query":Str))∈Q:=by
  rw [← hQ]
  refine List.mem_flatMap.mpr ⟨k,laB.mpr kc,?_⟩
  unfold dC
  rw [hkk]
  show _∈hk0.query n
  unfold HS.query
  rw [if_pos ⟨hku,eV (by rw [← bS hkk];exact wy)⟩]
  exact mE nk ok' jc (Ne.symm nejk)
 obtain ⟨x,hx,ex⟩:=List.getElem_of_mem hin
 have hat:S2.ls[S1.ls.length+x]?=some ((k:Int),(j:Int),n,("query":Str)):=by
  rw [q2,List.getElem?_append_right (Nat.le_add_right _ _),Nat.add_sub_cancel_left,lad hx,ex]
 -- the letters ahead of it
 obtain ⟨t3,q3,l3,I3⟩:=iV I2 T2 (lat _) hL2 x
 have hat3:=q3.at hat
 have hmul:(c - 1)*(x+1)≤(c - 1)*(c*(c - 1)):=Nat.mul_le_mul (lat _) (by omega)
 have hbig:c*(c - 1)+(c - 1)*(c*(c - 1))≤4*c*c:=by
  have:c=2∨c=3∨c=4∨c=5:=by omega
  rcases this with e | e | e | e <;> subst e <;> decide
 rw [Nat.mul_succ] at hmul
 have hl2:S2.ls.length=S1.ls.length+Q.length:=by rw [q2,laf]
 generalize hS3:(S2.run (cs S1.ls.length x)).1=S3 at *
 -- j answers
 obtain ⟨hj3,ej3,uj3⟩:=t3.up
 obtain ⟨nj,oj⟩:=I3.ok.num j hj3 ej3
 have nu3:=t3.nu
 rw [bS ej3] at nu3
 obtain ⟨d,hd,hans⟩:=wp nj oj kc nejk nu3
 have ec:(S3.carry ((S1.ls.length+x:Nat):Int) true).1=(S3.put j (hj3.got ((k:Int),(j:Int),n,("query":Str))).1).send (hj3.got ((k:Int),(j:Int),n,("query":Str))).2:=by
  unfold HallS.carry
  rw [Int.toNat_natCast,hat3]
  dsimp only
  rcases eT S3 ((k:Int),(j:Int),n,("query":Str)) with ⟨_,z⟩ | ⟨h,hi,hu,e⟩
  ·have:=z hj3 ej3
   rw [uj3] at this;cases this
  ·dsimp only at hi e
   rw [Int.toNat_natCast] at hi e
   rw [ej3] at hi
   cases hi
   exact e
 have tl:rB ((k:Int),(j:Int),n,("query":Str)):=.inl rfl
 have slen:=(lj hj3 tl).2.1
 have ol:=I3.ok.oth1 ej3
 obtain ⟨y,hy',ey⟩:=List.getElem_of_mem hans
 have I4:=I3.carry ((S1.ls.length+x:Nat):Int) true
 have q4:=Quiet.carry S3 ((S1.ls.length+x:Nat):Int)
 have t4:Tl n j S1.ls.length (S3.carry ((S1.ls.length+x:Nat):Int) true).1:=by
  have:=(iV I2 T2 (lat _) hL2 (x+1)).1
  rw [fW,eL,hS3] at this
  exact this
 have hat4:(S3.carry ((S1.ls.length+x:Nat):Int) true).1.ls[S3.ls.length+y]?=some ((j:Int),(k:Int),n,d):=by
  rw [ec]
  show (S3.ls++_)[_]?=_
  rw [List.getElem?_append_right (Nat.le_add_right _ _),Nat.add_sub_cancel_left,lad hy',ey]
 have lt3:S1.ls.length+x<S3.ls.length:=(lab.mp hat3).1
 have e4:(S2.run (cs S1.ls.length (x+1))).1=(S3.carry ((S1.ls.length+x:Nat):Int) true).1:=by rw [fW,eL,hS3];rfl
 generalize hS4:(S3.carry ((S1.ls.length+x:Nat):Int) true).1=S4 at *
 -- and it is carried
 obtain ⟨u,hu⟩:∃ u,S3.ls.length+y=S1.ls.length+x+1+u:=⟨S3.ls.length+y - (S1.ls.length+x+1),by omega⟩
 have hL4:S1.ls.length≤S4.ls.length:=by have:=(lab.mp hat4).1;omega
 obtain ⟨t5,q5,_,I5⟩:=iV I4 t4 (s:=S1.ls.length+x+1) (by omega) hL4 u
 have hat5:=q5.at hat4
 rw [hu] at hat5
 obtain ⟨v,hv⟩:∃ v,4*c*c=(x+1)+(u+(1+v)):=⟨4*c*c - ((x+1)+(u+1)),by
  have h1:x+1≤c*(c - 1):=by omega
  omega⟩
 rw [hv,tF,(df _ _ _).1,e4,show S1.ls.length+(x+1)=S1.ls.length+x+1 from rfl,tF,(df _ _ _).1,tF,(df _ _ _).1,B2]
 generalize hS5:(S4.run (cs (S1.ls.length+x+1) u)).1=S5 at *
 have I6:=I5.carry ((S1.ls.length+x+1+u:Nat):Int) true
 have dec6:Dec (bf (S5.carry ((S1.ls.length+x+1+u:Nat):Int) true).1 k n):=by
  have:=(gZ (n:=n) hat5 hd).2.2
  dsimp only at this
  rw [Int.toNat_natCast] at this
  have q05:=(q3.trans q4).trans q5
  obtain ⟨h5,e5,u5⟩:=q05.isUp (j:=k) (by rw [q1];exact ⟨hk0,hkk,hku⟩)
  exact this h5 e5 u5
 have t6:Tl n j S1.ls.length (S5.carry ((S1.ls.length+x+1+u:Nat):Int) true).1:=by
  have:=(iV I4 t4 (s:=S1.ls.length+x+1) (by omega) hL4 (u+1)).1
  rw [fW,eL,hS5] at this
  exact this
 have hL6:S1.ls.length≤(S5.carry ((S1.ls.length+x+1+u:Nat):Int) true).1.ls.length:=by
  obtain ⟨a,ha⟩:=(q5.trans (Quiet.carry S5 ((S1.ls.length+x+1+u:Nat):Int))).pre
  rw [ha,laf];omega
 exact (iV I6 t6 (s:=S1.ls.length+x+1+u+1) (by omega) hL6 v).2.1.dec dec6
def fB(S:HallS)(i:Nat):Bool:=(S.hs[i]?).elim false fun h=>h.up
def dl(n:Int)(l:au):Bool:=decide (l.2.2.1=n)&&(decide (l.2.2.2=("bound":Str))||decide (l.2.2.2=("off":Str)))
def dD(S:HallS)(n:Int):Bool:=(S.hs.any fun h=>h.up&&!bI h.book n)||S.ls.any fun l=>dl n l&&fB S l.2.1.toNat
def eE(n:Int)(ls:List au):List Nat:=(List.range ls.length).filter fun k=>(ls[k]?).elim false (dl n)
def bB(c:Nat)(n:Int)(ls:List au):List Deed:=p1 (eE n ls)++(cZ n (List.range c)++cs ls.length (4*c*c))
theorem tellsB_iff{n:Int}{l:au}:dl n l=true↔l.2.2.1=n∧(l.2.2.2="bound"∨l.2.2.2="off"):=by
 unfold dl;simp
theorem jM{n:Int}{S:HallS}:∀ k∈eE n S.ls,p4 n S k:=fun k hk=>by
 unfold eE at hk
 obtain ⟨h1,h2⟩:=laC.mp hk
 cases hl:S.ls[k]? with
 | none=>rw [hl] at h2;cases h2
 | some l=>rw [hl] at h2;exact ⟨l,hl,tellsB_iff.mp h2⟩
theorem Dp{n:Int}{ls:List au}{k:Nat}{l:au}(hl:ls[k]?=some l)(ht:dl n l=true):k∈eE n ls:=by
 unfold eE
 exact laC.mpr ⟨laB.mpr (lab.mp hl).1,by rw [hl];exact ht⟩
theorem rE{c:Nat}{ag:List (Int×Int)}{Bs:Int→Prop}{S:HallS}(I:Inv c ag Bs S){i:Nat}(hi:i<c){n:Int}(hy:("yes":Str)∈bf S i n)(nd:¬ Dec (bf S i n)):bf S i n=[("yes":Str)]:=by
 have hf:=(I.wi n).forms hi
 unfold fM i7 at hf
 generalize bf S i n=ws at *
 split at hf
 ·simp only [List.mem_cons,List.not_mem_nil,or_false] at hf
  rcases hf with rfl | rfl | rfl | rfl | rfl | rfl <;> revert hy <;> decide
 ·simp only [List.mem_cons,List.not_mem_nil,or_false] at hf
  rcases hf with rfl | rfl | rfl | rfl | rfl | rfl
  ·revert hy;decide
  ·rfl
  ·exact absurd (.inl (by decide)) nd
  ·exact absurd (.inr (.inl (by decide))) nd
  ·revert hy;decide
  ·revert hy;decide
theorem nD{c:Nat}{ag:List (Int×Int)}{Bs:Int→Prop}{S:HallS}(I:Inv c ag Bs S){i:Nat}{h:HS}(hi:S.hs[i]?=some h)(n:Int):bI h.book n=true↔ar h.book n=[("yes":Str)]:=by
 constructor
 ·intro hu
  rw [← bS hi]
  refine rE I (I.ok.il hi) (by rw [bS hi];exact oJ hu) ?_
  rw [bS hi]
  unfold bI at hu
  rw [Bool.and_eq_true] at hu
  exact dec_none.mp (of_decide_eq_true hu.2)
 ·exact eV
theorem Ai{c:Nat}{ag:List (Int×Int)}{Bs:Int→Prop}{S:HallS}(I:Inv c ag Bs S){i:Nat}{h:HS}(hi:S.hs[i]?=some h){n:Int}(hu:bI h.book n=false):NU (bf S i n):=by
 by_cases d:Dec (bf S i n)
 ·exact .inl d
 ·refine .inr fun y=>?_
  have:=rE I (I.ok.il hi) y d
  rw [bS hi] at this
  rw [eV this] at hu;cases hu
theorem zq{n:Int}{j L0:Nat}:∀ (ks:List Nat) (S:HallS),Tl n j L0 S→L0≤S.ls.length→(∀ k∈ks,p4 n S k)→Tl n j L0 (S.run (p1 ks)).1
 | [],S,T,_,_=>T
 | k::r,S,T,hL,hk=>by
  obtain ⟨l,hl,ln,lw⟩:=hk k List.mem_cons_self
  obtain ⟨e1,_,_⟩:=gZ (n:=n) hl lw
  refine zq r (S.carry (k:Int) true).1 ?_ (by rw [e1];exact hL) (fun x hx=>by
   obtain ⟨y,hy,z⟩:=hk x (lac _ hx)
   exact ⟨y,by rw [e1];exact hy,z⟩)
  unfold HallS.carry
  rw [Int.toNat_natCast,hl]
  exact T.carryL ln (.inr lw) hL
theorem rX{c:Nat}{ag:List (Int×Int)}{Bs:Int→Prop}{S:HallS}(I:Inv c ag Bs S){n:Int}{k:Nat}(hk:∃ h,S.hs[k]?=some h∧h.up=true)(hc:dD S n=false):Stuck n k S:=by
 unfold dD at hc
 rw [Bool.or_eq_false_iff,List.any_eq_false,List.any_eq_false] at hc
 refine ⟨hk,fun i h hi hu=>?_,fun l hl ln lw h hh=>?_⟩
 ·have:=hc.1 h (lam hi)
  rw [hu] at this
  refine (nD I hi n).mp ?_
  cases z:bI h.book n with
  | true=>rfl
  | false=>rw [z] at this;exact absurd rfl this
 ·have:=hc.2 l hl
  rw [tellsB_iff.mpr ⟨ln,lw⟩] at this
  unfold fB at this
  rw [hh] at this
  cases z:h.up with
  | false=>rfl
  | true=>change ¬ (true&&h.up)=true at this;rw [z] at this;exact absurd rfl this
theorem wG(c:Nat)(n:Int)(ls:List au):∀ d∈bB c n ls,Calm d:=fun d hd=>by
 unfold bB p1 cZ cs at hd
 rcases lap.mp hd with z | z
 ·obtain ⟨_,_,rfl⟩:=laA.mp z;exact rfl
 ·rcases lap.mp z with z | z
  ·obtain ⟨_,_,rfl⟩:=laA.mp z;exact True.intro
  ·obtain ⟨_,_,rfl⟩:=laA.mp z;exact rfl
theorem wL{c:Nat}{ag:List (Int×Int)}{Bs:Int→Prop}{S:HallS}(I:Inv c ag Bs S)(c5:c≤5){n:Int}{k:Nat}{hk:HS}(ek:S.hs[k]?=some hk)(uk:hk.up=true)(wk:ar hk.book n=[("yes":Str)])(hc:dD S n=true):Dec (bf (S.run (bB c n S.ls)).1 k n):=by
 obtain ⟨e1,e2,q,I1,hd⟩:=rR (n:=n) (eE n S.ls) S I jM
 have key:∃ j,(∃ h,(S.run (p1 (eE n S.ls))).1.hs[j]?=some h∧h.up=true)∧NU (bf (S.run (p1 (eE n S.ls))).1 j n):=by
  unfold dD at hc
  rw [Bool.or_eq_true,List.any_eq_true,List.any_eq_true] at hc
  rcases hc with ⟨h,hm,z⟩ | ⟨l,hm,z⟩
  ·obtain ⟨j,hj,e⟩:=List.getElem_of_mem hm
   have hg:S.hs[j]?=some h:=by rw [lad hj,e]
   rw [Bool.and_eq_true,Bool.not_eq_true'] at z
   have T:Tl n j S.ls.length S:=⟨⟨h,hg,z.1⟩,Ai I hg z.2,fun a l ha hl=>by
    have:=(lab.mp hl).1;omega⟩
   have:=zq (eE n S.ls) S T (lat _) jM
   exact ⟨j,this.up,this.nu⟩
  ·obtain ⟨a,ha,e⟩:=List.getElem_of_mem hm
   have hg:S.ls[a]?=some l:=by rw [lad ha,e]
   rw [Bool.and_eq_true] at z
   have zu:=z.2
   unfold fB at zu
   cases hh:S.hs[l.2.1.toNat]? with
   | none=>rw [hh] at zu;cases zu
   | some h=>
    rw [hh] at zu
    exact ⟨l.2.1.toNat,q.isUp ⟨h,hh,zu⟩,.inl (hd a (Dp hg z.1) l hg h hh zu)⟩
 obtain ⟨j,hj,nu⟩:=key
 unfold bB
 rw [(df _ _ _).1,(df _ _ _).1]
 have:=ri I1 c5 hj nu (q.isUp ⟨hk,ek,uk⟩) (q.ext k n _ (by rw [bS ek,wk];simp))
 rw [e1] at this
 exact this
theorem wR{c:Nat}{ag:List (Int×Int)}{Bs:Int→Prop}{S:HallS}(I:Inv c ag Bs S){n:Int}{k:Nat}(J:Stuck n k S):∃ h,S.hs[ld c n]?=some h∧h.up=false:=by
 obtain ⟨h,hh⟩:∃ h,S.hs[ld c n]?=some h:=⟨_,lad (by rw [I.ok.len];exact n_ I.ok.c1 n)⟩
 refine ⟨h,hh,?_⟩
 cases z:h.up with
 | false=>rfl
 | true=>
  have h1:=J.yes _ h hh z
  have h3:=(I.wi n).sl
  rw [bS hh,h1] at h3
  revert h3;decide
theorem yB{S:HallS}{L U N:Nat}(h:Cap S L U)(hN:N≤700000)(hL:L≤800000)(hU:U≤800000):iB S N:=⟨hN,las h.l hL,las h.u hU⟩
theorem ue{n:Int}:∀ (ks:List Nat) (S:HallS) (N L U:Nat),(∀ k∈ks,p4 n S k)→Cap S L U→N+3*ks.length≤700000→L≤800000→U≤800000→S.roomyAll N (p1 ks)∧S.costAll (p1 ks)=3*ks.length
 | [],S,N,L,U,_,_,_,_,_=>⟨True.intro,rfl⟩
 | k::r,S,N,L,U,hk,h,hN,hL,hU=>by
  rw [laj,Nat.mul_succ] at hN
  obtain ⟨l,hl,ln,lw⟩:=hk k List.mem_cons_self
  obtain ⟨e1,e2,_⟩:=gZ (n:=n) hl lw
  obtain ⟨a,b⟩:=ue r (S.carry (k:Int) true).1 (N+3) L U (fun x hx=>by
   obtain ⟨y,hy,z⟩:=hk x (lac _ hx)
   exact ⟨y,by rw [e1];exact hy,z⟩) ⟨by rw [e1];exact h.l,by rw [e2];exact h.u⟩ (by omega) hL hU
  refine ⟨⟨yB h (by omega) hL hU,a⟩,?_⟩
  show 3+(S.carry (k:Int) true).1.costAll (p1 r)=_
  rw [b,laj,Nat.mul_succ];omega
theorem jm:∀ (a b:List Deed) (S:HallS),S.costAll (a++b)=S.costAll a+(S.run a).1.costAll b
 | [],b,S=>by show S.costAll b=0+S.costAll b;omega
 | d::r,b,S=>by show S.cost d+(S.do d).1.costAll (r++b)=S.cost d+(S.do d).1.costAll r+_;rw [jm r b,Nat.add_assoc];rfl
theorem o6{c:Nat}(ag:List (Int×Int)){ds:List Deed}(h1:2≤c)(h2:c≤5)(hl:ds.length≤12)(D:DrawnAll (·∈allB) c ds)(n:Int) :
  (aI c ag).roomyAll 0 ds∧(aI c ag).roomyAll 0 (ds++bU c)∧(aI c ag).roomyAll 0 (ds++bB c n ((aI c ag).run ds).1.ls)∧(aI c ag).roomyAll 0 (ds++bB c n ((aI c ag).run ds).1.ls++[Deed.sweep])∧((aI c ag).run ds).1.ls.length≤4416:=by
 have I0:=Inv.new (c:=c) ag (·∈allB) h1 (by omega)
 have hB:allB.length*(c - 1)≤16:=by show 4*(c - 1)≤16;omega
 obtain ⟨r1,c1,k1⟩:=y_ (G:=16) (by omega) hB (by decide) ds _ 0 0 0 I0 D.inn D.one (zY c ag) (by omega) (by omega)
 have c1':Cap ((aI c ag).run ds).1 4416 4224:=c1.more (by omega) (by omega)
 have k1':(aI c ag).costAll ds≤24672:=by omega
 have I1:=I0.run ds D.inn
 have hwl:(bU c).length=c:=by unfold bU;simp
 have hws:dh (bU c)=0:=by
  unfold dh bU
  rw [List.filter_eq_nil_iff.mpr (fun d hd=>by obtain ⟨i,_,rfl⟩:=laA.mp hd;intro z;cases z)];rfl
 have hwi:∀ d∈bU c,eM (·∈allB) d:=fun d hd=>by
  unfold bU at hd
  obtain ⟨i,_,rfl⟩:=laA.mp hd;exact True.intro
 obtain ⟨rw1,_,_⟩:=pW (G:=16) (by omega) hB (by decide) (bU c) _ 4416 4224 (0+(aI c ag).costAll ds) I1 hwi hws c1' (by omega) (by omega) (by omega)
 have ra:=eS ds (bU c) (aI c ag) 0 r1 rw1
 generalize hS:((aI c ag).run ds).1=S at *
 have hks:(eE n S.ls).length≤4416:=by
  unfold eE
  exact las (laJ _ _) (by rw [laq];exact c1'.l)
 obtain ⟨p1a,p1b⟩:=ue (n:=n) (eE n S.ls) S (0+(aI c ag).costAll ds) 4416 4224 jM c1' (by omega) (by omega) (by omega)
 obtain ⟨e1,e2,q,I2,_⟩:=rR (n:=n) (eE n S.ls) S I1 jM
 have c2:Cap (S.run (p1 (eE n S.ls))).1 4416 4224:=⟨by rw [e1];exact c1'.l,by rw [e2];exact c1'.u⟩
 have hfl:(cZ n (List.range c)++cs S.ls.length (4*c*c)).length≤105:=by
  unfold cZ cs
  rw [laf,laa,laa,laq,laq]
  have:c=2∨c=3∨c=4∨c=5:=by omega
  rcases this with e | e | e | e <;> subst e <;> decide
 have hcalm:∀ d∈cZ n (List.range c)++cs S.ls.length (4*c*c),Calm d∧cF d=false:=fun d hd=>by
  unfold cZ cs at hd
  rcases lap.mp hd with z | z
  ·obtain ⟨_,_,rfl⟩:=laA.mp z;exact ⟨True.intro,rfl⟩
  ·obtain ⟨_,_,rfl⟩:=laA.mp z;exact ⟨rfl,rfl⟩
 have hin:∀ d∈cZ n (List.range c)++cs S.ls.length (4*c*c),eM (·∈allB) d:=fun d hd=>(hcalm d hd).1.inn
 have hsw:dh (cZ n (List.range c)++cs S.ls.length (4*c*c))=0:=by
  unfold dh
  rw [List.filter_eq_nil_iff.mpr (fun d hd=>by rw [(hcalm d hd).2];decide)];rfl
 obtain ⟨r3,c3,k3⟩:=pW (G:=16) (by omega) hB (by decide) (cZ n (List.range c)++cs S.ls.length (4*c*c)) _ 4416 4224 (0+(aI c ag).costAll ds+S.costAll (p1 (eE n S.ls))) I2 hin hsw c2 (by omega) (by omega) (by omega)
 have rf:S.roomyAll (0+(aI c ag).costAll ds) (bB c n S.ls):=eS _ _ _ _ p1a r3
 have rd:=eS ds (bB c n S.ls) (aI c ag) 0 r1 (by rw [hS];exact rf)
 refine ⟨r1,ra,rd,?_,c1'.l⟩
 refine eS (ds++bB c n S.ls) [Deed.sweep] (aI c ag) 0 rd ?_
 have I3:=I2.run _ hin
 have c3':Cap ((S.run (p1 (eE n S.ls))).1.run (cZ n (List.range c)++cs S.ls.length (4*c*c))).1 6096 5904:=c3.more (by omega) (by omega)
 obtain ⟨s1,s2,s3⟩:=pi I3.ok c3'
 have er:((aI c ag).run (ds++bB c n S.ls)).1=((S.run (p1 (eE n S.ls))).1.run (cZ n (List.range c)++cs S.ls.length (4*c*c))).1:=by
  rw [(df _ _ _).1,hS];unfold bB;rw [(df _ _ _).1]
 have ek:(aI c ag).costAll (ds++bB c n S.ls)≤24672+3*4416+105000:=by
  rw [jm,hS];unfold bB;rw [jm];omega
 rw [er]
 exact ⟨⟨by omega,by omega⟩,True.intro⟩
theorem zU{S:HallS}{i j:Nat}(h:j≠i):(S.wake i).1.hs[j]?=S.hs[j]?:=by
 unfold HallS.wake
 split
 ·rfl
 ·split
  ·rfl
  ·show (S.hs.set i _)[j]?=_
   rw [lar (Ne.symm h)]
theorem nV(k:Nat):bU (k+1)=bU k++[Deed.wake k]:=by unfold bU;rw [List.range_succ,lai];rfl
theorem nG(S:HallS):∀ k j,k≤j→(S.run (bU k)).1.hs[j]?=S.hs[j]?
 | 0,j,_=>rfl
 | k+1,j,h=>by
  rw [nV,eL]
  show ((S.run (bU k)).1.wake k).1.hs[j]?=_
  rw [zU (by omega),nG S k j (by omega)]
theorem wD{c i:Nat}(h:i≤c):(bU c).take i=bU i:=by
 unfold bU
 rw [← List.map_take,List.take_range,Nat.min_eq_left h]
theorem xN{S:HallS}{i:Nat}{h:HS}(hi:S.hs[i]?=some h):(h.up=true∧(S.wake i).2=.non)∨(h.up=false∧∃ ls,(S.wake i).2=.lines ls∧l_ ls):=by
 unfold HallS.wake
 rw [hi]
 dsimp only
 cases hu:h.up with
 | true=>exact .inl ⟨rfl,by rw [if_pos rfl]⟩
 | false=>
  refine .inr ⟨rfl,_,by rw [if_neg (by decide)],?_⟩
  rw [pG,List.drop_left]
  intro l hl
  obtain ⟨m,_,rfl⟩:=laA.mp hl
  exact .inr (.inr (.inr (.inr rfl)))
theorem t9:∀ (ds:List Deed) (S:HallS) (i:Nat) (d:Deed),ds[i]?=some d→(S.run ds).2[i]?=some ((S.run (ds.take i)).1.do d).2
 | [],S,i,d,h=>by cases h
 | x::r,S,0,d,h=>by cases h;rfl
 | x::r,S,i+1,d,h=>t9 r (S.do x).1 i d (by simpa using h)
theorem wW{S:HallS}{c i:Nat}{h:HS}(hc:i<c)(hi:S.hs[i]?=some h):∃ a,(S.run (bU c)).2[i]?=some a∧((h.up=true∧a=.non)∨(h.up=false∧∃ ls,a=.lines ls∧l_ ls)):=by
 have hd:(bU c)[i]?=some (Deed.wake i):=by unfold bU;rw [lae,laD hc];rfl
 refine ⟨_,t9 _ S i _ hd,?_⟩
 rw [wD (by omega)]
 exact xN (by rw [nG S i i (lat _)];exact hi)
theorem DrawnAll.snoc{Bs:Int→Prop}{c:Nat}{ds:List Deed}(D:DrawnAll Bs c ds){d:Deed}(h1:fJ c d)(h2:eM Bs d)(h3:cF d=false):DrawnAll Bs c (ds++[d]):=by
 refine ⟨fun x hx=>?_,fun x hx=>?_,?_⟩
 ·rcases lap.mp hx with z | z
  ·exact D.ok x z
  ·rw [lag.mp z];exact h1
 ·rcases lap.mp hx with z | z
  ·exact D.inn x z
  ·rw [lag.mp z];exact h2
 ·have:=D.one
  unfold dh at this ⊢
  rw [lay,laz,if_neg (by rw [h3];decide),List.filter_nil,laF]
  exact this
theorem DrawnAll.cons{Bs:Int→Prop}{c:Nat}{ds:List Deed}(D:DrawnAll Bs c ds){d:Deed}(h1:fJ c d)(h2:eM Bs d)(h3:cF d=false):DrawnAll Bs c (d::ds):=by
 refine ⟨fun x hx=>?_,fun x hx=>?_,?_⟩
 ·rcases List.mem_cons.mp hx with rfl | z
  ·exact h1
  ·exact D.ok x z
 ·rcases List.mem_cons.mp hx with rfl | z
  ·exact h2
  ·exact D.inn x z
 ·have:=D.one
  unfold dh at this ⊢
  rw [laz,if_neg (by rw [h3];decide)]
  exact this
def fj(hs:List HS):List Int:=(hs.filter fun h=>!h.up).map (·.num)
def cD(S:HallS)(h:HS)(n:Int):List Int:=if h.up=true∧bI h.book n=true∧dD S n=false then fj S.hs else []
def fT(S:HallS)(i:Nat):List Int:=((List.range i).filter fun j=>!fB S j).map fun (j:Nat)=>(j:Int)
theorem rC{c:Nat}{S:HallS}(ok:HallOk c S):∀ i,i≤c→fj (S.hs.take i)=fT S i
 | 0,_=>rfl
 | i+1,h=>by
  obtain ⟨g,hg⟩:∃ g,S.hs[i]?=some g:=⟨_,lad (by rw [ok.len];omega)⟩
  have ih:=rC ok i (by omega)
  have hn:=(ok.num i g hg).1
  have e:fB S i=g.up:=by unfold fB;rw [hg];rfl
  unfold fj fT at *
  rw [List.take_add_one,hg,lay,lai,ih,List.range_succ,lay,lai]
  congr 1
  cases hu:g.up <;> simp [List.filter_cons,e,hu,hn]
theorem wJ{c:Nat}{S:HallS}(ok:HallOk c S):fj S.hs=fT S c:=by
 rw [← rC ok c (lat _),← ok.len,laE]
theorem xH{c:Nat}{ag:List (Int×Int)}{Bs:Int→Prop}{S:HallS}(I:Inv c ag Bs S){n:Int}{k:Nat}(J:Stuck n k S):0<(fj S.hs).length:=by
 obtain ⟨h,hh,hu⟩:=wR I J
 unfold fj
 rw [laa]
 exact List.length_pos_of_mem (laC.mpr ⟨lam hh,by rw [hu];rfl⟩)
def Ax:Nat→PyData→Prop
 | _,.int _=>True
 | d+1,.list ds=>ds.length≤1000∧∀ e∈ds,Ax d e
 | _,_=>False
def d6(d:Nat):Sp:=fun vs H Q _=>∃ x y D,vs=[x,y]∧Rep H [] x D∧Rep H [] y D∧Ax d D∧∀ H',Same H H'→Q (.bl true) H'
def p0:Nat→Sp
 | 0=>fun _ _ _ _=>False
 | d+1=>d6 d
section
variable (K:PySem.W.Frag)
theorem A0:PySem.W.kitOne K (.type "list") (.type "bool")=some false:=by with_unfolding_all rfl
theorem B6:PySem.W.kitOne K (.type "list") (.type "int")=some false:=by with_unfolding_all rfl
theorem BW:PySem.W.kitOne K (.type "list") (.type "str")=some false:=by with_unfolding_all rfl
theorem BP:PySem.W.kitOne K (.type "list") (.type "dict")=some false:=by with_unfolding_all rfl
theorem wN:PySem.W.kitOne K (.type "list") (.type "tuple")=some false:=by with_unfolding_all rfl
end
theorem CU{K:PySem.W.Frag}(d:Nat){vs:List V}{H:Hp}{Q:VK}{E:XK}(h:d6 d vs H Q E):wv K (p0 d) { nx:=fun _ H'=>Q .non H',rt:=Q } (aT ["_law_found","_law_meant","_law_k"] vs) H:=by
 obtain ⟨x,y,D,rfl,rx,ry,ok,k⟩:=h
 unfold wv
 cases D with
 | int i=>
  cases rx.int_inv
  cases ry.int_inv
  walk_at "g"
  refine cS ?_
  walk_at "g"
  refine ⟨_,_,_,false,rfl,TyO.int _,iX _,?_⟩
  walk_at "g"
  refine cS ?_
  walk_at "g"
  refine ⟨_,_,_,true,rfl,TyO.int _,cW _ _,?_⟩
  walk_at "g"
  refine oo ?_
  walk_at "g"
  refine ⟨_,_,_,true,rfl,TyO.int _,cW _ _,?_⟩
  walk_at "g"
  refine oo ?_
  walk_at "g"
  refine ⟨_,_,_,false,rfl,TyO.int _,iX _,?_⟩
  walk_at "g"
  refine oo ?_
  walk_at "g"
  rw [decide_eq_true rfl]
  exact k H (Same.refl _)
 | list ds=>
  cases d with
  | zero=>exact ok.elim
  | succ d=>
   obtain ⟨hl,hd⟩:=ok
   obtain ⟨a1,xs,rfl,g1,_,r1⟩:=rx.lst_inv
   obtain ⟨a2,ys,rfl,g2,_,r2⟩:=ry.lst_inv
   have l1:xs.length=ds.length:=r1.length
   have l2:ys.length=ds.length:=r2.length
   walk_at "g"
   refine cS ?_
   walk_at "g"
   refine ⟨_,_,_,false,rfl,TyO.list g2,A0 _,?_⟩
   walk_at "g"
   refine cS ?_
   walk_at "g"
   refine ⟨_,_,_,false,rfl,TyO.list g2,B6 _,?_⟩
   walk_at "g"
   refine cS ?_
   walk_at "g"
   refine ⟨_,_,_,false,rfl,TyO.list g2,BW _,?_⟩
   walk_at "g"
   refine cS ?_
   walk_at "g"
   refine ⟨_,_,_,false,rfl,TyO.list g2,BP _,?_⟩
   walk_at "g"
   refine cS ?_
   walk_at "g"
   refine ⟨_,_,_,false,rfl,TyO.list g2,wN _,?_⟩
   walk_at "g"
   refine ⟨_,_,_,false,rfl,TyO.list g1,wN _,?_⟩
   walk_at "g"
   refine cS ?_
   walk_at "g"
   refine ⟨_,_,_,true,rfl,TyO.list g2,cW _ _,?_⟩
   walk_at "g"
   refine ⟨_,_,_,true,rfl,TyO.list g1,cW _ _,?_⟩
   walk_at "g"
   refine cS ?_
   walk_at "A"
   rename_i pt hpt H1 s1 gt
   have g1':=g1.same s1
   have g2':=g2.same s1
   refine ⟨_,_,_,_,_,true,rfl,.inl ⟨_,g2',rfl⟩,gt,xM K,?_⟩
   walk_at "g"
   refine cS ?_
   walk_at "g"
   rw [if_neg (by simp [l1,l2])]
   walk_at "g"
   refine d_ (n:=ys.length) (by omega) ?_
   refine eQ (n:=ys.length) (fun i σ H'=>∃ v,σ=[some (.ref a1),some (.ref a2),v]∧Same H H') ⟨none,rfl,s1⟩ ?_ ?_
   ·rintro i σ H2 hi ⟨v,rfl,s2⟩
    obtain ⟨e1,he1⟩:∃ e,xs[i]?=some e:=⟨xs[i]'(by omega),lad _⟩
    obtain ⟨e2,he2⟩:∃ e,ys[i]?=some e:=⟨ys[i],lad _⟩
    obtain ⟨d1,hd1,q1⟩:=r1.get he1
    obtain ⟨d2,hd2,q2⟩:=r2.get he2
    rw [hd1] at hd2
    cases lan hd2
    have e0:((0:Int)+(i:Int))=(i:Int):=Int.zero_add _
    walk_at "g"
    refine .inl (b2 (dR (g1.same s2)) (by rw [e0];exact ce he1) ?_)
    walk_at "g"
    refine .inl (b2 (dR (g2.same s2)) (by rw [e0];exact ce he2) ?_)
    walk_at "g"
    refine ⟨e1,e2,d1,rfl,q1.same s2,q2.same s2,hd d1 (lam hd1),fun H3 s3=>?_⟩
    walk_at "g"
    refine cS ?_
    walk_at "g"
    exact ⟨_,rfl,s2.trans s3⟩
   ·rintro σ H2 ⟨v,rfl,s2⟩
    walk_at "g"
    exact k H2 s2
 | str i=>cases d <;> exact ok.elim
 | tuple ds=>cases d <;> exact ok.elim
 | none=>cases d <;> exact ok.elim
 | bool b=>cases d <;> exact ok.elim
 | dict b=>cases d <;> exact ok.elim
def hX(CH:Addr):Sp:=fun vs H Q _=>∃ p n h R N,vs=[.ref p,.int n]∧HouseAt CH H p h R N∧h.book.length≤1000000∧∀ H',Same H H'→Q (.bl (h.up&&bI h.book n)) H'
theorem EM{K:PySem.W.Frag}{CH:Addr}{vs:List V}{H:Hp}{Q:VK}{E:XK}(TH:bt K CH)(h:hX CH vs H Q E):wo K b0 { nx:=fun _ H'=>Q .non H',rt:=Q } (aT ["house","bargain"] vs) H:=by
 obtain ⟨p,n,h,R,N,rfl,I,hl,k⟩:=h
 obtain ⟨clh,g1,g2,g3,g4,g5,g6,g7,g8⟩:=TH
 obtain ⟨dx,po,pa,pk,pc,xs,z,J⟩:=id I
 have ob:=J.ob
 unfold wo
 walk_at "g"
 cases hu:h.up with
 | false=>
  rw [if_neg (by decide)]
  have:=k H (Same.refl _)
  rw [hu,Bool.false_and] at this
  exact this
 | true=>
  rw [if_pos rfl]
  walk_at "g"
  refine ⟨pk,h.book,n,rfl,J.rep,hl,fun H' s=>?_⟩
  have:=k H' s
  rw [hu,Bool.true_and] at this
  exact this
def gm(CH CX:Addr):Sp:=fun vs H Q _=>∃ q t n ps S R N c l,vs=[.ref q,.ref t,.int n]∧HallAt CH CX H q ps S R N∧HallOk c S∧LetOk c l∧Rd H t (.tup [.int l.1,.int l.2.1,.int l.2.2.1,.str l.2.2.2])∧∀ H',Same H H'→Q (.bl (dl n l&&fB S l.2.1.toNat)) H'
theorem Di{K:PySem.W.Frag}{CH CX:Addr}{vs:List V}{H:Hp}{Q:VK}{E:XK}(T:cM K CX)(TH:bt K CH)(h:gm CH CX vs H Q E):uP K { nx:=fun _ H'=>Q .non H',rt:=Q } (aT ["hall","letter","bargain"] vs) H:=by
 obtain ⟨q,t,n,ps,S,R,N,c,l,rfl,I,ok,lo,rt,k⟩:=h
 obtain ⟨cl,f1,f2,f3⟩:=T
 obtain ⟨clh,g1,g2,g3,g4,g5,g6,g7,g8⟩:=TH
 obtain ⟨g,hg,hgl,het⟩:=lo.to ok.len
 unfold uP
 walk_at "g"
 by_cases e:l.2.2.1=n
 ·rw [if_pos (by simp [e])]
  walk_at "A"
  rename_i pt hpt H1 s1 k1
  rw [if_neg (by decide:¬ (false=true)),lN]
  walk_at "g"
  by_cases e2:l.2.2.2=("bound":Str)∨l.2.2.2=("off":Str)
  ·rw [if_pos (decide_eq_true e2)]
   obtain ⟨dx,ph,pl,pu,Rs,ys,I0⟩:=id (I.same s1)
   have ob:=I0.ob
   have oh:=I0.oh
   have rt1:=rt.same s1
   obtain ⟨dx1,po1,pa1,pk1,pc1,xs1,z1,J⟩:=id (I0.hs _ _ hg)
   have obh:=J.ob
   walk_at "g"
   refine b2 (ca oh) (by rw [← het];exact eK hgl) ?_
   walk_at "g"
   have:=k H1 s1
   rw [tellsB_iff.mpr ⟨e,e2⟩] at this
   unfold fB at this
   rw [hg] at this
   exact this
  ·rw [if_neg (by simp only [decide_eq_true_eq];exact e2)]
   have:=k H1 s1
   rw [show dl n l=false from Bool.eq_false_iff.mpr fun z=>e2 (tellsB_iff.mp z).2] at this
   exact this
 ·rw [if_neg (by simp [e])]
  have:=k H (Same.refl _)
  rw [show dl n l=false from Bool.eq_false_iff.mpr fun z=>e (tellsB_iff.mp z).1] at this
  exact this
def hW(CH CX:Addr):Sp:=fun vs H Q _=>∃ q n ps S R N c,vs=[.ref q,.int n]∧HallAt CH CX H q ps S R N∧HallOk c S∧(∀ h∈S.hs,h.book.length≤1000000)∧S.ls.length≤900000∧∀ H',Same H H'→Q (.bl (dD S n)) H'
theorem DI{K:PySem.W.Frag}{CH CX:Addr}{vs:List V}{H:Hp}{Q:VK}{E:XK}(T:cM K CX)(TH:bt K CH)(h:hW CH CX vs H Q E):vQ K b0 (gm CH CX) { nx:=fun _ H'=>Q .non H',rt:=Q } (aT ["hall","bargain"] vs) H:=by
 obtain ⟨q,n,ps,S,R,N,c,rfl,I,ok,hbl,hll,k⟩:=h
 obtain ⟨cl,f1,f2,f3⟩:=T
 obtain ⟨clh,g1,g2,g3,g4,g5,g6,g7,g8⟩:=TH
 obtain ⟨dx,ph,pl,pu,Rs,ys,I0⟩:=id I
 have ob:=I0.ob
 have oh:=I0.oh
 have ol:=I0.ol
 have hl:=ok.len
 have hc20:=ok.c2
 unfold vQ
 walk_at "g"
 intro p hp
 refine d9 (K:=K) (a:=ph) (xs:=(List.range S.hs.length).map fun i=>V.ref (ps i)) (fun i zs σ H'=>∃ v,σ=[v,some (.int n)]∧Same H H'∧zs=((S.hs.take i).map fun h=>h.up&&!bI h.book n).map V.bl) ⟨none,rfl,Same.new hp,rfl⟩ ?_ ?_ ?_
 ·rintro i zs σ H' hi hp' ⟨v,rfl,s',rfl⟩
  exact ca (s' _ _ oh)
 ·rintro i x zs σ H2 hx hp2 ⟨v,rfl,s',rfl⟩
  have hi:i<S.hs.length:=by have:=(lab.mp hx).1;rwa [laa,laq] at this
  rw [lae,laD hi] at hx
  cases hx
  have hh:S.hs[i]?=some S.hs[i]:=lad hi
  obtain ⟨dx1,po1,pa1,pk1,pc1,xs1,z1,J⟩:=id ((I0.hs i _ hh).same s')
  have obh:=J.ob
  have fin:∀ H3,Same H2 H3→∃ zs,H3 p=some (.lst zs)∧zs.length<sizeLine∧iE p (fun i zs σ H'=>∃ v,σ=[v,some (V.int n)]∧Same H H'∧zs=((S.hs.take i).map fun h=>h.up&&!bI h.book n).map V.bl) (i+1) [some (.ref (ps i)),some (.int n)] (upd H3 p (.lst (zs++[.bl (S.hs[i].up&&!bI S.hs[i].book n)]))):=fun H3 s3=>by
   refine ⟨_,s3 _ _ hp2,bb (by rw [laa,laa,lax];omega),_,av,_,rfl,(s'.trans s3).put hp,?_⟩
   rw [bC hh,lai,lai];rfl
  walk_at "g"
  rw [if_pos rfl]
  walk_at "g"
  cases hu:S.hs[i].up with
  | false=>
   rw [if_neg (by decide)]
   have:=fin H2 (Same.refl _)
   rw [hu,Bool.false_and] at this
   exact this
  | true=>
   rw [if_pos rfl]
   walk_at "g"
   refine ⟨pk1,_,n,rfl,J.rep,hbl _ (List.getElem_mem hi),fun H3 s3=>?_⟩
   walk_at "g"
   have:=fin H3 s3
   rw [hu,Bool.true_and] at this
   exact this
 ·rintro zs σ H2 hp2 ⟨v,rfl,s',rfl⟩
  rw [laa,laq,laE] at hp2
  walk_at "g"
  refine wY (bs:=S.hs.map fun h=>h.up&&!bI h.book n) (ca hp2) ?_
  walk_at "g"
  have e1:(S.hs.map fun h=>h.up&&!bI h.book n).any id=S.hs.any fun h=>h.up&&!bI h.book n:=by rw [List.any_map];rfl
  rw [e1]
  have kk:∀ b,(S.hs.any fun h=>h.up&&!bI h.book n)=b→∀ H',Same H H'→Q (.bl (b||S.ls.any fun l=>dl n l&&fB S l.2.1.toNat)) H':=fun b e H' s=>by
   have:=k H' s
   unfold dD at this
   rw [e] at this
   exact this
  cases hb:S.hs.any fun h=>h.up&&!bI h.book n with
  | true=>
   rw [if_pos rfl]
   walk_at "g"
   exact kk true hb H2 s'
  | false=>
   rw [if_neg (by decide)]
   have kk:=kk false hb
   have ob2:=s' _ _ ob
   have ol2:=s' _ _ ol
   have rls:=I0.ls
   have hyl:ys.length=S.ls.length:=by rw [rls.length,laa]
   walk_at "g"
   intro p2 hp2'
   refine d9 (K:=K) (a:=pl) (xs:=ys) (fun i zs σ H'=>∃ v,σ=[v,some (.ref q),some (.int n)]∧Same H2 H'∧zs=((S.ls.take i).map fun l=>dl n l&&fB S l.2.1.toNat).map V.bl) ⟨none,rfl,Same.new hp2',rfl⟩ ?_ ?_ ?_
   ·rintro i zs σ H' hi hp' ⟨v,rfl,s3,rfl⟩
    exact ca (s3 _ _ ol2)
   ·rintro i x zs σ H3 hx hp3 ⟨v,rfl,s3,rfl⟩
    have s03:=s'.trans s3
    obtain ⟨l,t,hb',rfl,rt⟩:=fG (rls.same s03) hx
    walk_at "g"
    rw [if_pos rfl]
    walk_at "g"
    refine ⟨q,t,n,ps,S,R,N,c,l,rfl,I.same s03,ok,ok.let_ l (lam hb'),rt,fun H4 s4=>?_⟩
    have hi:i<ys.length:=(lab.mp hx).1
    refine ⟨_,s4 _ _ hp3,bb (by rw [laa,laa,lax];omega),_,av,_,rfl,(s3.trans s4).put hp2',?_⟩
    rw [bC hb',lai,lai];rfl
   ·rintro zs σ H3 hp3 ⟨v,rfl,s3,rfl⟩
    rw [hyl,laE] at hp3
    walk_at "g"
    refine wY (bs:=S.ls.map fun l=>dl n l&&fB S l.2.1.toNat) (ca hp3) ?_
    rw [show (S.ls.map fun l=>dl n l&&fB S l.2.1.toNat).any id=S.ls.any fun l=>dl n l&&fB S l.2.1.toNat by rw [List.any_map];rfl]
    have:=kk H3 (s'.trans s3)
    rw [Bool.false_or] at this
    exact this
def h_(CH CX:Addr):Sp:=fun vs H Q _=>∃ (c:Nat) (ag:List (Int×Int)) (ds:List Deed) (n:Int) (h:HS) (k:Nat),mi H vs c ag ds [.int (k:Int),.int n]∧((aI c ag).run ds).1.hs[k]?=some h∧(∀ h∈((aI c ag).run ds).1.hs,h.book.length≤1000000)∧((aI c ag).run ds).1.ls.length≤900000∧
 ∀ p H',Same H H'→H p=none→H' p=some (.lst ((cD ((aI c ag).run ds).1 h n).map .int))→Q (.ref p) H'
theorem D4{K:PySem.W.Frag}{CH CX:Addr}{vs:List V}{H:Hp}{Q:VK}{E:XK}(T:cM K CX)(TH:bt K CH)(h:h_ CH CX vs H Q E) :
  v_ K (cm CH CX) (hX CH) (hW CH CX) { nx:=fun _ H'=>Q .non H',rt:=Q } (aT ["count","against","deeds","number","bargain","hall"] vs) H:=by
 obtain ⟨c,ag,ds,n,h,k,G,hh,hbl,hll,kk⟩:=h
 obtain ⟨a,b,rfl,hc1,hc2,G'⟩:=id G
 have G0:mi H [.int (c:Int),.ref a,.ref b] c ag ds []:=⟨a,b,rfl,hc1,hc2,G'⟩
 obtain ⟨cl,f1,f2,f3⟩:=T
 obtain ⟨clh,g1,g2,g3,g4,g5,g6,g7,g8⟩:=TH
 have ok:=(e9 ag hc1 hc2).run ds
 unfold v_
 walk_at "g"
 refine ⟨c,ag,ds,G0,fun q H1 R1 ps I s f=>?_⟩
 generalize ((aI c ag).run ds).1=S at *
 obtain ⟨dx,ph,pl,pu,Rs,ys,I0⟩:=id I
 have ob:=I0.ob
 have oh:=I0.oh
 have hl:=ok.len
 have hkl:k<S.hs.length:=(lab.mp hh).1
 walk_at "g"
 refine b2 (ca oh) (eK hkl) ?_
 walk_at "g"
 refine ⟨ps k,n,h,_,_,rfl,I0.hs k h hh,hbl h (lam hh),fun H2 s2=>?_⟩
 have s02:=s.trans s2
 walk_at "g"
 cases hb:h.up&&bI h.book n with
 | false=>
  rw [if_pos (by decide)]
  rw [if_pos rfl]
  walk_at "A"
  rename_i p hp H3 s3 k3
  refine kk p H3 (s02.trans s3) (s02.free hp) ?_
  unfold cD
  rw [if_neg (fun z=>by rw [z.1,z.2.1] at hb;cases hb)]
  exact k3
 | true=>
  rw [Bool.and_eq_true] at hb
  rw [if_neg (by decide)]
  have ob2:=s2 _ _ ob
  walk_at "g"
  refine ⟨q,n,ps,S,R1,_,c,rfl,I.same s2,ok,hbl,hll,fun H3 s3=>?_⟩
  have s03:=s02.trans s3
  walk_at "g"
  cases hc:dD S n with
  | true=>
   rw [if_pos rfl]
   walk_at "A"
   rename_i p hp H4 s4 k4
   refine kk p H4 (s03.trans s4) (s03.free hp) ?_
   unfold cD
   rw [if_neg (fun z=>by rw [z.2.2] at hc;cases hc)]
   exact k4
  | false=>
   rw [if_neg (by decide)]
   have ob3:=s3 _ _ ob2
   have oh3:=s3 _ _ (s2 _ _ oh)
   have hc20:=ok.c2
   walk_at "g"
   intro p hp
   refine d9 (K:=K) (a:=ph) (xs:=(List.range S.hs.length).map fun i=>V.ref (ps i)) (fun i zs σ H'=>∃ v,σ=[v]∧Same H3 H'∧zs=(fj (S.hs.take i)).map V.int) ⟨none,rfl,Same.new hp,rfl⟩ ?_ ?_ ?_
   ·rintro i zs σ H' hi hp' ⟨v,rfl,s',rfl⟩
    exact ca (s' _ _ oh3)
   ·rintro i x zs σ H4 hx hp4 ⟨v,rfl,s',rfl⟩
    have hi:i<S.hs.length:=by have:=(lab.mp hx).1;rwa [laa,laq] at this
    rw [lae,laD hi] at hx
    cases hx
    have hg:S.hs[i]?=some S.hs[i]:=lad hi
    obtain ⟨dx1,po1,pa1,pk1,pc1,xs1,z1,J⟩:=id ((I0.hs i _ hg).same ((s2.trans s3).trans s'))
    have obh:=J.ob
    have hdl:(fj (S.hs.take i)).length≤i:=by
     unfold fj
     rw [laa]
     exact las (laJ _ _) (by rw [lax];omega)
    walk_at "g"
    cases hu:S.hs[i].up with
    | true=>
     rw [if_neg (by decide)]
     refine ⟨_,hp4,_,rfl,s',?_⟩
     unfold fj
     rw [bC hg,lay,laz,hu]
     simp
    | false=>
     rw [if_pos (by decide)]
     walk_at "g"
     refine ⟨_,hp4,bb (by rw [laa];omega),_,av,_,rfl,s'.put hp,?_⟩
     unfold fj
     rw [bC hg,lay,laz,hu]
     simp
   ·rintro zs σ H4 hp4 ⟨v,rfl,s',rfl⟩
    rw [laa,laq,laE] at hp4
    refine kk p H4 (s03.trans s') (s03.free hp) ?_
    unfold cD
    rw [if_pos ⟨hb.1,hb.2,hc⟩]
    exact hp4
def gH(CH CX:Addr):Sp:=fun vs H Q _=>∃ (c:Nat) (ag:List (Int×Int)) (ds:List Deed) (pg pd:Addr) (xs:List V),vs=[.int (c:Int),.ref pg,.ref pd]∧2≤c∧c≤5∧Rep H [] (.ref pg) (.list (ag.map fb))∧ag.length≤900∧H pd=some (.lst xs)∧Reps H [] xs (ds.map Deed.D)∧ds.length≤12∧(∀ d∈ds,fJ c d)∧(aI c ag).roomyAll 0 (ds++bU c)∧
 ∀ p H',Same H H'→H p=none→H' p=some (.lst (((aI c ag).run ds).1.hs.map fun h=>V.bl h.up))→Q (.ref p) H'
theorem CQ{K:PySem.W.Frag}{CH CX:Addr}{vs:List V}{H:Hp}{Q:VK}{E:XK}(h:gH CH CX vs H Q E) :
  wu K (gT CH CX) dM { nx:=fun _ H'=>Q .non H',rt:=Q } (aT ["_law_count","_law_against","_law_deeds","_law_ends","_law_told","_law_up","_law_found"] vs) H:=by
 obtain ⟨c,ag,ds,pg,pd,xs,rfl,c2,c5,rg,hag,gd,rds,hdl,dok,room,k⟩:=h
 have hxl:xs.length=ds.length:=by rw [rds.length,laa]
 have ok:=(e9 ag c2 (by omega)).run ds
 unfold wu
 walk_at "g"
 refine d_ (by omega) ?_
 intro pw hpw
 refine f' (n:=c) (fun i ys σ H'=>∃ v,σ=[v]∧Same H H'∧Reps H' [] ys ((bU i).map Deed.D)) ⟨none,rfl,Same.new hpw,.nil⟩ ?_ ?_
 ·rintro i ys σ H8 hi hp8 ⟨v,rfl,s8,rr⟩
  have e0:((0:Int)+(i:Int))=(i:Int):=Int.zero_add _
  rw [e0]
  have hyl:ys.length=i:=by rw [rr.length,laa];unfold bU;simp
  walk_at "g"
  rw [if_pos rfl]
  walk_at "A"
  rename_i t ht H9 s9 g9
  have gp9:=s9 _ _ hp8
  have cc:Chg [pw] H9 (upd H9 pw (.lst (ys++[.ref t]))):=.set (by rw [gp9];exact True.intro) (by simp)
  have ntp:t≠pw:=cr g9 gp9 (by intro z;cases z)
  refine ⟨ys,gp9,bb (by omega),_,av,_,rfl,(s8.trans s9).put hpw,?_⟩
  rw [nV,lai]
  exact (dg (rr.same s9) cc).append (.cons (.tup (.inl (bo ntp g9)) (.cons (.str _) (.cons (.int _) .nil))) .nil)
 rintro ys σ H1 hp1 ⟨v,rfl,s1,rr⟩
 have hyl:ys.length=c:=by rw [rr.length,laa];unfold bU;simp
 walk_at "g"
 refine jC (s1 _ _ gd) hp1 (by rw [sizeLine_eq];omega) fun pA hpA=>?_
 have s2:Same H1 (upd H1 pA (.lst (xs++ys))):=Same.new hpA
 have g2:upd H1 pA (.lst (xs++ys)) pA=some (.lst (xs++ys)):=av
 generalize upd H1 pA (.lst (xs++ys))=H2 at *
 have s02:=s1.trans s2
 have rsL:Reps H2 [] (xs++ys) ((ds++bU c).map Deed.D):=by
  rw [lai]
  exact (rds.same s02).append (rr.same s2)
 obtain ⟨_,gs,eg,gg,_,rgs⟩:=id (Rep.lst_inv (ds:=ag.map fb) (rg.same s02))
 cases eg
 have hwl:(ds++bU c).length=ds.length+c:=by unfold bU;simp
 walk_at "A"
 rename_i q1 hq1 H3 s3 g3 q2 hq2 H4 s4 g4
 have rga:Rep H4 [] (.ref q1) (.list (ag.map fb)):=.lst (.inl (s4 _ _ g3)) (by simp) ((rgs.same s3).same s4)
 have rdd:Rep H4 [] (.ref q2) (.list ((ds++bU c).map Deed.D)):=.lst (.inl g4) (by simp) ((rsL.same s3).same s4)
 have okW:∀ d∈ds++bU c,fJ c d:=fun d hd=>by
  rcases lap.mp hd with z | z
  ·exact dok d z
  ·unfold bU at z
   obtain ⟨i,hi,rfl⟩:=laA.mp z
   exact laB.mp hi
 refine ⟨c,ag,ds++bU c,⟨q1,q2,rfl,c2,by omega,rga,by omega,rdd,by omega,okW,room⟩,fun va H5 s5 ra5 fa5=>?_⟩
 have hans:=(df (aI c ag) ds (bU c)).2
 have hansl:=oB (aI c ag) (ds++bU c)
 have hl1:=oB (aI c ag) ds
 obtain ⟨pa,xa,rfl,ga,_,rsa⟩:=id (Rep.lst_inv (ds:=((aI c ag).run (ds++bU c)).2.map Ans.D) ra5)
 have hal:xa.length=ds.length+c:=by rw [rsa.length,laa,hansl,hwl]
 generalize hS:((aI c ag).run ds).1=S at *
 have s25:=(s3.trans s4).trans s5
 have s05:=s02.trans s25
 have gA5:=s25 _ _ g2
 have gd5:=s05 _ _ gd
 walk_at "g"
 refine ⟨_,_,_,true,rfl,TyO.list ga,cW _ _,?_⟩
 walk_at "g"
 refine cS ?_
 walk_at "g"
 rw [if_neg (by simp [hal,hxl,hyl])]
 walk_at "A"
 rename_i pu hpu H6 s6 g6 ps hps H7 s7 g7
 rw [kt (by omega)] at g7
 have hpu0:H pu=none:=s05.free hpu
 have nps:ps≠pu:=dz hps g6
 have rsl:Reps H5 [] (xa.drop xs.length) ((S.run (bU c)).2.map Ans.D):=by
  have:=rsa.drop xs.length
  rw [hans,lai,hxl,List.drop_left' (by rw [laa,hl1])] at this
  rw [hxl];exact this
 have hsl:(xa.drop xs.length).length=c:=by rw [List.length_drop];omega
 refine d3 (K:=K) (a:=ps) (xs:=xa.drop xs.length) (fun i σ H'=>∃ v,σ=[some (.int (c:Int)),some (.ref pg),some (.ref pd),some (.ref pA),some (.ref pa),some (.ref pu),v]∧Same H5 H'∧H' ps=some (.lst (xa.drop xs.length))∧H' pu=some (.lst ((S.hs.take i).map fun h=>V.bl h.up))) ⟨none,rfl,s6.trans s7,g7,s7 _ _ g6⟩ ?_ ?_ ?_
 ·rintro i σ H' hi ⟨v,rfl,s,gp,gu⟩
  exact ca gp
 ·rintro i x σ H' hx ⟨v,rfl,s,gp,gu⟩
  have hi:i<c:=by rw [← hsl];exact (lab.mp hx).1
  obtain ⟨h,hh⟩:∃ h,S.hs[i]?=some h:=⟨_,lad (by rw [ok.len];exact hi)⟩
  obtain ⟨an,han,hor⟩:=wW hi hh
  obtain ⟨dd,hdd,rx⟩:=rsl.get hx
  rw [lae,han] at hdd
  cases hdd
  have fin:∀ H2,Same H' H2→∀ b,h.up=b→∃ v,[some (V.int (c:Int)),some (.ref pg),some (.ref pd),some (.ref pA),some (.ref pa),some (.ref pu),some x]=[some (.int (c:Int)),some (.ref pg),some (.ref pd),some (.ref pA),some (.ref pa),some (.ref pu),v]∧Same H5 (upd H2 pu (.lst (((S.hs.take i).map fun h=>V.bl h.up)++[.bl b])))∧upd H2 pu (.lst (((S.hs.take i).map fun h=>V.bl h.up)++[.bl b])) ps=some (.lst (xa.drop xs.length))∧upd H2 pu (.lst (((S.hs.take i).map fun h=>V.bl h.up)++[.bl b])) pu=some (.lst ((S.hs.take (i+1)).map fun h=>V.bl h.up)):=fun H2 s2' b hb=>by
   refine ⟨_,rfl,(s.trans s2').put hpu,bo nps (s2' _ _ gp),?_⟩
   rw [av,bC hh,lai,← hb];rfl
  rcases hor with ⟨hu,rfl⟩ | ⟨hu,ls,rfl,lw⟩
  ·cases rx.non_inv
   walk_at "g"
   rw [if_neg (by decide)]
   rw [if_neg (by decide)]
   walk_at "g"
   refine ⟨.inl ⟨rfl,_,ca gu⟩,?_⟩
   walk_at "g"
   refine cL gu (bb (by rw [laa,lax];omega)) ?_
   exact fin H' (Same.refl _) true hu
  ·obtain ⟨t,ys',rfl,gt,_,_⟩:=id (Rep.lst_inv (ds:=ls.map c_) rx)
   walk_at "g"
   rw [if_pos (by simp)]
   walk_at "g"
   refine ⟨t,ls,rfl,rx.same s,lw,fun H2 s2'=>?_⟩
   walk_at "g"
   rw [if_neg (by decide)]
   have gu2:=s2' _ _ gu
   walk_at "g"
   refine ⟨.inl ⟨rfl,_,ca gu2⟩,?_⟩
   walk_at "g"
   refine cL gu2 (bb (by rw [laa,lax];omega)) ?_
   rw [show decide (V.ref t=V.non)=false from decide_eq_false (by intro z;cases z)]
   exact fin H2 s2' false hu
 ·rintro σ H' ⟨v,rfl,s,gp,gu⟩
  rw [hsl,← ok.len,laE] at gu
  walk_at "g"
  exact k pu H' (s05.trans s) hpu0 gu
def pO(n:Int)(ls:List au)(i:Nat):List Nat:=(List.range i).filter fun k=>(ls[k]?).elim false (dl n)
theorem yt{n:Int}{ls:List au}{i:Nat}{l:au}(h:ls[i]?=some l):pO n ls (i+1)=pO n ls i++if dl n l=true then [i] else []:=by
 unfold pO
 rw [List.range_succ,lay,laz,List.filter_nil,h]
 show _++(if dl n l=true then [i] else [])=_
 rfl
def gE:Sp:=fun vs H Q _=>∃ (pl:Addr) (c:Nat) (n:Int) (ls:List au),vs=[.ref pl,.int (c:Int),.int n]∧Rep H [] (.ref pl) (m_ ls)∧ls.length≤5000∧c≤5∧∀ p xs H',Same H H'→H p=none→H' p=some (.lst xs)→Reps H' [] xs ((bB c n ls).map Deed.D)→Q (.ref p) H'
theorem EE{K:PySem.W.Frag}{vs:List V}{H:Hp}{Q:VK}{E:XK}(h:gE vs H Q E) :
  vv K { nx:=fun _ H'=>Q .non H',rt:=Q } (aT ["_law_letters","_law_count","_law_bargain","_law_deeds","_law_k"] vs) H:=by
 obtain ⟨pl,c,n,ls,rfl,rl,hll,c5,k⟩:=h
 obtain ⟨_,yl,e,gl,_,rls⟩:=id (Rep.lst_inv (ds:=ls.map b9) rl)
 cases e
 have hyl:yl.length=ls.length:=by rw [rls.length,laa]
 unfold vv
 walk_at "A"
 rename_i pd hpd H1 s1 g1
 refine d_ (by omega) ?_
 refine eQ (n:=yl.length) (fun i σ H'=>∃ v xs,σ=[some (.ref pl),some (.int (c:Int)),some (.int n),some (.ref pd),v]∧Same H H'∧H' pd=some (.lst xs)∧Reps H' [] xs ((p1 (pO n ls i)).map Deed.D)) ⟨none,[],rfl,s1,g1,.nil⟩ ?_ ?_
 ·rintro i σ H2 hi ⟨v,xs,rfl,s2,g2,rs⟩
  have e0:((0:Int)+(i:Int))=(i:Int):=Int.zero_add _
  rw [e0]
  obtain ⟨x,hx⟩:∃ x,yl[i]?=some x:=⟨_,lad hi⟩
  obtain ⟨l,t,hb,rfl,rt⟩:=fG (rls.same s2) hx
  have hks:=yt (n:=n) hb
  have hxs:xs.length≤i:=by
   rw [rs.length,laa]
   unfold p1 pO
   rw [laa]
   exact las (laJ _ _) (by rw [laq];exact lat _)
  walk_at "g"
  refine b2 (dR (gl.same s2)) (ce hx) ?_
  walk_at "g"
  by_cases e1:l.2.2.1=n
  ·rw [if_pos (by simp [e1])]
   walk_at "g"
   refine b2 (dR (gl.same s2)) (ce hx) ?_
   walk_at "A"
   rename_i pq hpq H3 s3 g3
   rw [if_neg (by decide:¬ (false=true)),lN]
   walk_at "g"
   have g23:=s3 _ _ g2
   by_cases e2:l.2.2.2=("bound":Str)∨l.2.2.2=("off":Str)
   ·rw [if_pos (decide_eq_true e2)]
    rw [if_pos (tellsB_iff.mpr ⟨e1,e2⟩)] at hks
    walk_at "g"
    refine ⟨.inl ⟨rfl,_,ca g23⟩,?_⟩
    walk_at "A"
    rename_i t4 ht4 H4 s4 g4
    have g24:=s4 _ _ g23
    refine cL g24 (bb (by omega)) ?_
    have cc:Chg [pd] H4 (upd H4 pd (.lst (xs++[.ref t4]))):=.set (by rw [g24];exact True.intro) (by simp)
    have ntp:t4≠pd:=cr g4 g24 (by intro z;cases z)
    refine ⟨_,_,rfl,((s2.trans s3).trans s4).put hpd,av,?_⟩
    rw [hks]
    unfold p1
    rw [lai,lai]
    exact (dg (ds:=p1 (pO n ls i)) ((rs.same s3).same s4) cc).append (.cons (.tup (.inl (bo ntp g4)) (.cons (.str _) (.cons (.int _) (.cons (.bl _) .nil)))) .nil)
   ·rw [if_neg (by simp only [decide_eq_true_eq];exact e2)]
    rw [if_neg (fun z=>e2 (tellsB_iff.mp z).2),laF] at hks
    walk_at "g"
    exact ⟨_,xs,rfl,s2.trans s3,g23,by rw [hks];exact rs.same s3⟩
  ·rw [if_neg (by simp [e1])]
   rw [if_neg (by decide)]
   rw [if_neg (fun z=>e1 (tellsB_iff.mp z).1),laF] at hks
   walk_at "g"
   exact ⟨_,xs,rfl,s2,g2,by rw [hks];exact rs⟩
 rintro σ H2 ⟨v,xs,rfl,s2,g2,rs⟩
 rw [hyl] at rs
 have hxs:xs.length≤5000:=by
  rw [rs.length,laa]
  unfold p1 pO
  rw [laa]
  exact las (laJ _ _) (by rw [laq];exact hll)
 walk_at "g"
 refine d_ (by omega) ?_
 intro pw hpw
 refine f' (n:=c) (fun i ys σ H'=>∃ v,σ=[v,some (.int n)]∧Same H2 H'∧Reps H' [] ys ((cZ n (List.range i)).map Deed.D)) ⟨none,rfl,Same.new hpw,.nil⟩ ?_ ?_
 ·rintro i ys σ H8 hi hp8 ⟨v,rfl,s8,rr⟩
  have e0:((0:Int)+(i:Int))=(i:Int):=Int.zero_add _
  rw [e0]
  have hyl:ys.length=i:=by rw [rr.length,laa];unfold cZ;simp
  walk_at "g"
  rw [if_pos rfl]
  walk_at "A"
  rename_i t ht H9 s9 g9
  have gp9:=s9 _ _ hp8
  have cc:Chg [pw] H9 (upd H9 pw (.lst (ys++[.ref t]))):=.set (by rw [gp9];exact True.intro) (by simp)
  have ntp:t≠pw:=cr g9 gp9 (by intro z;cases z)
  refine ⟨ys,gp9,bb (by omega),_,av,_,rfl,(s8.trans s9).put hpw,?_⟩
  unfold cZ
  rw [List.range_succ,lai,lai]
  exact (dg (ds:=cZ n (List.range i)) (rr.same s9) cc).append (.cons (.tup (.inl (bo ntp g9)) (.cons (.str _) (.cons (.int _) (.cons (.int _) .nil)))) .nil)
 rintro ys σ H3 hp3 ⟨v,rfl,s3,rr⟩
 have hyl3:ys.length=c:=by rw [rr.length,laa];unfold cZ;simp
 walk_at "g"
 refine jC (s3 _ _ g2) hp3 (by rw [sizeLine_eq];omega) fun pA hpA=>?_
 have s4:Same H3 (upd H3 pA (.lst (xs++ys))):=Same.new hpA
 have g4:upd H3 pA (.lst (xs++ys)) pA=some (.lst (xs++ys)):=av
 generalize upd H3 pA (.lst (xs++ys))=H4 at *
 have r4:Reps H4 [] (xs++ys) ((p1 (pO n ls ls.length)++cZ n (List.range c)).map Deed.D):=by
  rw [lai]
  exact ((rs.same s3).same s4).append (rr.same s4)
 have s24:=s3.trans s4
 have gl4:=gl.same (s2.trans s24)
 walk_at "g"
 refine d5 (i' (by omega)) ?_
 walk_at "g"
 refine d5 (i' (by omega)) ?_
 rw [show (4*(c:Int)*(c:Int))=((4*c*c:Nat):Int) by rw [Int.natCast_mul,Int.natCast_mul];rfl]
 have hcc:4*c*c≤100:=by
  have:c=0∨c=1∨c=2∨c=3∨c=4∨c=5:=by omega
  rcases this with e | e | e | e | e | e <;> subst e <;> decide
 generalize hM:4*c*c=M at *
 walk_at "g"
 refine d_ (by omega) ?_
 intro pw2 hpw2
 refine f' (n:=M) (fun i zs σ H'=>∃ v,σ=[v,some (.ref pl)]∧Same H4 H'∧Reps H' [] zs ((cs ls.length i).map Deed.D)) ⟨none,rfl,Same.new hpw2,.nil⟩ ?_ ?_
 ·rintro i zs σ H8 hi hp8 ⟨v,rfl,s8,rr⟩
  have e0:((0:Int)+(i:Int))=(i:Int):=Int.zero_add _
  rw [e0]
  have hzl:zs.length=i:=by rw [rr.length,laa];unfold cs;simp
  have gl8:=gl4.same s8
  walk_at "g"
  rw [if_pos rfl]
  walk_at "A"
  rename_i t ht H9 s9 g9
  have gp9:=s9 _ _ hp8
  have cc:Chg [pw2] H9 (upd H9 pw2 (.lst (zs++[.ref t]))):=.set (by rw [gp9];exact True.intro) (by simp)
  have ntp:t≠pw2:=cr g9 gp9 (by intro z;cases z)
  refine ⟨zs,gp9,bb (by omega),_,av,_,rfl,(s8.trans s9).put hpw2,?_⟩
  rw [fW,lai]
  have eI:((yl.length:Int)+(i:Int))=((ls.length+i:Nat):Int):=by rw [hyl];omega
  rw [eI] at g9
  exact (dg (rr.same s9) cc).append (.cons (.tup (.inl (bo ntp g9)) (.cons (.str _) (.cons (.int _) (.cons (.bl _) .nil)))) .nil)
 rintro zs σ H5 hp5 ⟨v,rfl,s5,rz⟩
 have hzl:zs.length=M:=by rw [rz.length,laa];unfold cs;simp
 walk_at "g"
 refine jC (s5 _ _ g4) hp5 (by rw [sizeLine_eq,laf];omega) fun pB hpB=>?_
 have s6:Same H5 (upd H5 pB (.lst (xs++ys++zs))):=Same.new hpB
 refine k pB _ _ ((s2.trans s24).trans (s5.trans s6)) ((s2.trans (s24.trans s5)).free hpB) av ?_
 unfold bB
 rw [hM,← List.append_assoc,lai]
 exact ((r4.same s5).same s6).append (rz.same s6)
def gP(CH CX:Addr):Sp:=fun vs H Q _=>∃ (c:Nat) (ag:List (Int×Int)) (ds:List Deed) (n:Int) (pg pd pu pr:Addr) (xs rs:List V) (us:List Nat),vs=[.int (c:Int),.ref pg,.ref pd,.int n,.ref pu,.ref pr]∧2≤c∧c≤5∧Rep H [] (.ref pg) (.list (ag.map fb))∧ag.length≤900∧H pd=some (.lst xs)∧Reps H [] xs (ds.map Deed.D)∧ds.length≤12∧DrawnAll (·∈allB) c ds∧
 H pu=some (.lst (us.map fun (k:Nat)=>V.int (k:Int)))∧H pr=some (.lst rs)∧
 (∀ k∈us,∃ h t zs,((aI c ag).run ds).1.hs[k]?=some h∧h.up=true∧ar h.book n=[("yes":Str)]∧rs[k]?=some (.ref t)∧H t=some (.lst zs)∧(0<zs.length↔dD ((aI c ag).run ds).1 n=false))∧
 ∀ H',Q (.bl true) H'
theorem Ad{c:Nat}{w:Nat→Int→List Str}{l:au}(lo:LetOk c l)(li:LI c w l):uU (c:Int) l:=by
 refine ⟨lo.g0,lo.g1,lo.t0,lo.t1,?_,?_⟩
 ·rcases li with ⟨_,a2,a3,_⟩ | ⟨_,a2,a3,_⟩ | ⟨_,a2,a3,_⟩ | ⟨_,_,_,a4⟩ | ⟨_,_,_,a4⟩ | ⟨_,_,_,a4⟩
  ·rw [a2];exact Ne.symm a3
  ·rw [a2];exact a3
  ·rw [a2];exact a3
  ·exact Ne.symm a4
  ·exact Ne.symm a4
  ·exact Ne.symm a4
 ·have:=lo.w
  simp only [List.mem_cons,List.not_mem_nil,or_false] at this
  exact this
theorem CW{K:PySem.W.Frag}{CH CX:Addr}{vs:List V}{H:Hp}{Q:VK}{E:XK}(h:gP CH CX vs H Q E) :
  uG K (hJ CH CX) gF gE (dw CH CX) du fP { nx:=fun _ H'=>Q .non H',rt:=Q }
   (aT ["_law_count","_law_against","_law_deeds","_law_bargain","_law_unsure","_law_rows","_law_letters","_law_longer","_law_books","_law_swept","_law_k","_law_told"] vs) H:=by
 obtain ⟨c,ag,ds,n,pg,pd,pu,pr,xs,rs,us,rfl,c2,c5,rg,hag,gd,rds,hdl,D,gu,gr,hus,k⟩:=h
 have hxl:xs.length=ds.length:=by rw [rds.length,laa]
 obtain ⟨room0',_,room2,room3,hL0⟩:=o6 ag c2 c5 hdl D n
 have I0:=Inv.new (c:=c) ag (·∈allB) c2 (by omega)
 have I1:=I0.run ds D.inn
 obtain ⟨_,gs,eg,gg,_,rgs⟩:=id (Rep.lst_inv (ds:=ag.map fb) rg)
 cases eg
 unfold uG
 walk_at "A"
 rename_i q1 hq1 H1 s1 g1 q2 hq2 H2 s2 g2
 have s02:=s1.trans s2
 have ga2:Rep H2 [] (.ref q1) (.list (ag.map fb)):=.lst (.inl (s2 _ _ g1)) (by simp) (rgs.same s02)
 have rd2:Rep H2 [] (.ref q2) (.list (ds.map Deed.D)):=.lst (.inl g2) (by simp) (rds.same s02)
 refine ⟨c,ag,ds,⟨q1,q2,rfl,c2,by omega,ga2,by omega,rd2,by omega,D.ok,room0'⟩,fun vl H3 s3 rl3 rL=>?_⟩
 generalize hS:((aI c ag).run ds).1=S at *
 obtain ⟨pl,xl,rfl,gl,_,rls⟩:=id (Rep.lst_inv (ds:=S.ls.map b9) rl3)
 walk_at "g"
 refine ⟨pl,(c:Int),S.ls,rfl,rl3,fun l hl=>Ad (I1.ok.let_ l hl) (I1.li l hl),fun H4 s4=>?_⟩
 walk_at "g"
 rw [if_neg (by decide)]
 walk_at "g"
 refine ⟨pl,c,n,S.ls,rfl,rl3.same s4,by omega,c5,fun pf xf H5 s5 hpf gf rf=>?_⟩
 have s05:=((s02.trans s3).trans s4).trans s5
 have hfl:(bB c n S.ls).length≤5000:=by
  unfold bB p1 cZ cs eE
  simp only [List.length_append,List.length_map,List.length_range]
  have h1:=laJ (fun k=>(S.ls[k]?).elim false (dl n)) (List.range S.ls.length)
  rw [laq] at h1
  have hcc:4*c*c≤100:=by
   have:c=2∨c=3∨c=4∨c=5:=by omega
   rcases this with e | e | e | e <;> subst e <;> decide
  omega
 have hxf:xf.length=(bB c n S.ls).length:=by rw [rf.length,laa]
 refine jC (s05 _ _ gd) gf (by rw [sizeLine_eq];omega) fun pL hpL=>?_
 have s6:Same H5 (upd H5 pL (.lst (xs++xf))):=Same.new hpL
 have g6:upd H5 pL (.lst (xs++xf)) pL=some (.lst (xs++xf)):=av
 generalize upd H5 pL (.lst (xs++xf))=H6 at *
 have s06:=s05.trans s6
 have r6:Reps H6 [] (xs++xf) ((ds++bB c n S.ls).map Deed.D):=by
  rw [lai]
  exact (rds.same s06).append (rf.same s6)
 have gg6:=gg.same s06
 have okF:∀ d∈ds++bB c n S.ls,fJ c d:=fun d hd=>by
  rcases lap.mp hd with z | z
  ·exact D.ok d z
  ·unfold bB p1 cZ cs at z
   rcases lap.mp z with z | z
   ·obtain ⟨i,_,rfl⟩:=laA.mp z;show (0:Int)≤(i:Int);omega
   ·rcases lap.mp z with z | z
    ·obtain ⟨i,hi,rfl⟩:=laA.mp z;exact laB.mp hi
    ·obtain ⟨i,_,rfl⟩:=laA.mp z;show (0:Int)≤((S.ls.length+i:Nat):Int);omega
 walk_at "A"
 rename_i q3 hq3 H7 s7 g7 q4 hq4 H8 s8 g8
 have s68:=s7.trans s8
 have ga8:Rep H8 [] (.ref q3) (.list (ag.map fb)):=.lst (.inl (s8 _ _ g7)) (by simp) (rgs.same (s06.trans s68))
 have rd8:Rep H8 [] (.ref q4) (.list ((ds++bB c n S.ls).map Deed.D)):=.lst (.inl g8) (by simp) (r6.same s68)
 refine ⟨c,ag,ds++bB c n S.ls,⟨q3,q4,rfl,c2,by omega,ga8,by omega,rd8,by rw [laf];omega,okF,room2⟩,fun vb1 H9 s9 rb9 fb9=>?_⟩
 have s69:=s68.trans s9
 have g69:=s69 _ _ g6
 have gg9:=gg6.same s69
 walk_at "A"
 rename_i q5 hq5 HA sA gA pt hpt HB sB gB pv hpv HC sC gC
 have s9C:=(sA.trans sB).trans sC
 refine jC (s9C _ _ g69) gC (by rw [sizeLine_eq,laf];show _+1≤_;omega) fun pM hpM=>?_
 have sD:Same HC (upd HC pM (.lst (xs++xf++[.ref pt]))):=Same.new hpM
 have gD:upd HC pM (.lst (xs++xf++[.ref pt])) pM=some (.lst (xs++xf++[.ref pt])):=av
 generalize upd HC pM (.lst (xs++xf++[.ref pt]))=HD at *
 have s6D:=(s69.trans s9C).trans sD
 have gaD:Rep HD [] (.ref q5) (.list (ag.map fb)):=.lst (.inl (((sB.trans sC).trans sD) _ _ gA)) (by simp) (rgs.same (s06.trans s6D))
 have rdD:Rep HD [] (.ref pM) (.list ((ds++bB c n S.ls++[Deed.sweep]).map Deed.D)):=.lst (.inl gD) (by simp) (by
  rw [lai]
  exact (r6.same s6D).append (.cons (.tup (.inl ((sC.trans sD) _ _ gB)) (.cons (.str _) .nil)) .nil))
 walk_at "g"
 refine ⟨c,ag,ds++bB c n S.ls++[Deed.sweep],⟨q5,pM,rfl,c2,by omega,gaD,by omega,rdD,by rw [laf,laf];show _+1≤_;omega,?_,room3⟩,fun vb2 HE sE rbE fbE=>?_⟩
 ·intro d hd
  rcases lap.mp hd with z | z
  ·exact okF d z
  ·rw [lag.mp z];exact True.intro
 have hcalm:=wG c n S.ls
 have I2:=I1.run (bB c n S.ls) fun d hd=>(hcalm d hd).inn
 have e2:((aI c ag).run (ds++bB c n S.ls)).1=(S.run (bB c n S.ls)).1:=by rw [(df _ _ _).1,hS]
 have e3:((aI c ag).run (ds++bB c n S.ls++[Deed.sweep])).1=((S.run (bB c n S.ls)).1.run [Deed.sweep]).1:=by rw [(df _ _ _).1,e2]
 have I3:=I2.run [Deed.sweep] (fun d hd=>by rw [lag.mp hd];exact True.intro)
 rw [e2] at rb9
 rw [e3] at rbE
 have tl:∀ (kk:Nat) (h:HS),S.hs[kk]?=some h→h.up=true→ar h.book n=[("yes":Str)]→dD S n=true→Dec (bf (S.run (bB c n S.ls)).1 kk n):=fun kk h e u w z=>wL I1 c5 e u w z
 have st:∀ (kk:Nat) (h:HS),S.hs[kk]?=some h→h.up=true→dD S n=false→bf (S.run (bB c n S.ls)).1 kk n=[("yes":Str)]∧bf ((S.run (bB c n S.ls)).1.run [Deed.sweep]).1 kk n=[("yes":Str)]:=fun kk h e u z=>by
  have J:=rX I1 (n:=n) (k:=kk) ⟨h,e,u⟩ z
  have J2:=Stuck.run (bB c n S.ls) S I1 J hcalm
  have J3:=Stuck.run [Deed.sweep] _ I2 J2 (fun d hd=>by rw [lag.mp hd];exact True.intro)
  obtain ⟨h2,e2,u2⟩:=J2.me
  obtain ⟨h3,e3,u3⟩:=J3.me
  exact ⟨by rw [bS e2];exact J2.yes _ _ e2 u2,by rw [bS e3];exact J3.yes _ _ e3 u3⟩
 generalize (S.run (bB c n S.ls)).1=S2 at *
 generalize (S2.run [Deed.sweep]).1=S3 at *
 have hlen2:(S2.hs.map fun h=>h.book).length=c:=by rw [laa];exact I2.ok.len
 have hlen3:(S3.hs.map fun h=>h.book).length=c:=by rw [laa];exact I3.ok.len
 have erb:∀ S:HallS,lH S=lW (S.hs.map fun h=>h.book):=fun S=>by unfold lH lW;rw [List.map_map];rfl
 rw [erb] at rb9 rbE
 have rb1:=rb9.same ((s9C.trans sD).trans sE)
 obtain ⟨pb1,xb1,rfl,gb1,_,rbs1⟩:=id (Rep.lst_inv (ds:=(S2.hs.map fun h=>h.book).map cU) rb1)
 obtain ⟨pb2,xb2,rfl,gb2,_,rbs2⟩:=id (Rep.lst_inv (ds:=(S3.hs.map fun h=>h.book).map cU) rbE)
 walk_at "g"
 refine ⟨pb1,_,c,rfl,rb1,hlen2,fun b hb=>(iZ I2 hb).1,fun HF sF=>?_⟩
 walk_at "g"
 rw [if_neg (by decide)]
 walk_at "g"
 refine ⟨pb2,_,c,rfl,rbE.same sF,hlen3,fun b hb=>(iZ I3 hb).1,fun HG sG=>?_⟩
 walk_at "g"
 rw [if_neg (by decide)]
 have sEG:=sF.trans sG
 have s0G:=(s06.trans s6D).trans (sE.trans sEG)
 have gb1':=gb1.same sEG
 have gb2':=gb2.same sEG
 have rbs1':=rbs1.same sEG
 have rbs2':=rbs2.same sEG
 have guG:=s0G _ _ gu
 walk_at "g"
 refine d3 (K:=K) (a:=pu) (xs:=us.map fun (k:Nat)=>V.int (k:Int)) (fun i σ H'=>∃ v1 v2,σ=[some (.int (c:Int)),some (.ref pg),some (.ref pd),some (.int n),some (.ref pu),some (.ref pr),some (.ref pl),some (.ref pL),some (.ref pb1),some (.ref pb2),v1,v2]∧H'=HG) ⟨none,none,rfl,rfl⟩ ?_ ?_ ?_
 ·rintro i σ H' hi ⟨v1,v2,rfl,rfl⟩
  exact ca guG
 ·rintro i x σ H' hx ⟨v1,v2,rfl,rfl⟩
  rw [lae] at hx
  cases hk:us[i]? with
  | none=>rw [hk] at hx;cases hx
  | some kk=>
   rw [hk] at hx
   cases hx
   obtain ⟨h,t,zs,eh,hu,hw,ert,gt,hiff⟩:=hus kk (lam hk)
   have hkc:kk<c:=I1.ok.il eh
   have hL:=n_ c2 n
   obtain ⟨h2,hh2⟩:∃ h,S2.hs[kk]?=some h:=⟨_,lad (by rw [I2.ok.len];exact hkc)⟩
   obtain ⟨h3,hh3⟩:∃ h,S3.hs[kk]?=some h:=⟨_,lad (by rw [I3.ok.len];exact hkc)⟩
   have hb2:(S2.hs.map fun h=>h.book)[kk]?=some h2.book:=by rw [lae,hh2];rfl
   have hb3:(S3.hs.map fun h=>h.book)[kk]?=some h3.book:=by rw [lae,hh3];rfl
   obtain ⟨x2,hx2,_⟩:=rbs1'.getD (i:=kk) (d:=cU h2.book) (by rw [lae,hb2];rfl)
   obtain ⟨x3,hx3,_⟩:=rbs2'.getD (i:=kk) (d:=cU h3.book) (by rw [lae,hb3];rfl)
   obtain ⟨b2',tb2,hb2',rfl,rtb2⟩:=mt rbs1' hx2
   obtain ⟨b3',tb3,hb3',rfl,rtb3⟩:=mt rbs2' hx3
   rw [hb2] at hb2'
   cases hb2'
   rw [hb3] at hb3'
   cases hb3'
   have nb2:¬ (("bound":Str)∈ar h2.book n∧Of (ar h2.book n)):=by have:=(I2.wi n).notboth hL hkc;rwa [bS hh2] at this
   have nb3:¬ (("bound":Str)∈ar h3.book n∧Of (ar h3.book n)):=by have:=(I3.wi n).notboth hL hkc;rwa [bS hh3] at this
   have grG:=s0G _ _ gr
   have gtG:=s0G _ _ gt
   have undec:∀ {b:List bh},ar b n=[("yes":Str)]→ax b n=none:=fun e=>dec_none.mpr (by rw [e];rintro (z | z | z) <;> revert z <;> decide)
   have d2:decide (ax h2.book n=none)=decide ((zs.length:Int)>0):=by
    cases hc:dD S n with
    | true=>
     have hn:¬ ax h2.book n=none:=fun z=>dec_none.mp z (by rw [← bS hh2];exact tl kk h eh hu hw hc)
     have hz:¬ 0<zs.length:=fun z=>by have:=hiff.mp z;rw [hc] at this;cases this
     rw [decide_eq_false hn,decide_eq_false (by omega)]
    | false=>
     have hn:ax h2.book n=none:=undec (by rw [← bS hh2];exact (st kk h eh hu hc).1)
     have hz:=hiff.mpr hc
     rw [decide_eq_true hn,decide_eq_true (by omega)]
   walk_at "g"
   refine b2 (dR gb1') (ce hx2) ?_
   walk_at "g"
   refine ⟨tb2,h2.book,n,rfl,rtb2,nb2,?_⟩
   walk_at "g"
   refine b2 (ca grG) (ce ert) ?_
   walk_at "g"
   rw [iO,d2]
   walk_at "g"
   rw [if_neg (by simp)]
   walk_at "g"
   refine b2 (ca grG) (ce ert) ?_
   walk_at "g"
   by_cases hz:(zs.length:Int)>0
   ·rw [if_pos (decide_eq_true hz)]
    have hc:=hiff.mp (by omega)
    have hn:ax h3.book n=none:=undec (by rw [← bS hh3];exact (st kk h eh hu hc).2)
    walk_at "g"
    refine b2 (dR gb2') (ce hx3) ?_
    walk_at "g"
    refine ⟨tb3,h3.book,n,rfl,rtb3,nb3,?_⟩
    walk_at "g"
    rw [iO,decide_eq_true hn]
    rw [if_neg (by decide)]
    walk_at "g"
    exact ⟨_,_,rfl,rfl⟩
   ·rw [if_neg (by simpa using hz)]
    rw [if_neg (by decide)]
    walk_at "g"
    exact ⟨_,_,rfl,rfl⟩
 ·rintro σ H' ⟨v1,v2,rfl,rfl⟩
  walk_at "g"
  exact k _
def gW(K:PySem.W.Frag):Sp:=fun vs H Q _=>∃ (a:Addr) (ns:List Int) (c:Nat) (n:Int),vs=[.ref a,.int (c:Int),.int n]∧SqL K H a (ns.map V.int)∧2≤c∧c≤5∧n∈allB∧∀ ds p xs H',ds.length≤12→DrawnAll (·∈allB) c ds→Same H H'→H p=none→H' p=some (.lst xs)→Reps H' [] xs (ds.map Deed.D)→Q (.ref p) H'
theorem DK{K:PySem.W.Frag}{vs:List V}{H:Hp}{Q:VK}{E:XK}(h:gW K vs H Q E) :
  vS K (dm K) (gk (·∈allB)) { nx:=fun _ H'=>Q .non H',rt:=Q } (aT ["_law_script","_law_count","_law_bargain","_law_cell","_law_lead","_law_deeds","_law_k"] vs) H:=by
 obtain ⟨a,ns,c,n,rfl,hS,c2,c5,hn,k⟩:=h
 have hld:=AG c2 n
 have hL:=n_ c2 n
 unfold vS
 walk_at "g"
 refine ⟨a,ns,2,rfl,hS,fun z=>?_⟩
 walk_at "g"
 refine d5 (show (0:Int)<(c:Int) by omega) ?_
 rw [← hld]
 walk_at "A"
 rename_i t ht H1 s1 g1 pd hpd H2 s2 g2
 have s02:=s1.trans s2
 have hpd0:H pd=none:=s1.free hpd
 have D0:DrawnAll (·∈allB) c [Deed.begin n true]:=DrawnAll.cons (ds:=[]) ⟨fun d hd=>(by cases hd),fun d hd=>(by cases hd),laI _⟩ True.intro hn rfl
 have r2:Reps H2 [] [.ref t] ([Deed.begin n true].map Deed.D):=.cons (.tup (.inl (s2 _ _ g1)) (.cons (.str _) (.cons (.int _) (.cons (.bl _) .nil)))) .nil
 by_cases e1:z / 4*48271 % 1049 % 3=1
 ·rw [if_pos (by simp [e1])]
  walk_at "g"
  obtain ⟨m,hm,hm8⟩:∃ m:Nat,(2*((c:Int) - 1) - z / 4*48271 % 1061 % 3)=(m:Int)∧m≤8:=by
   have h1:=Int.emod_nonneg (z / 4*48271 % 1061) (show (3:Int)≠0 by decide)
   have h2:=Int.emod_lt_of_pos (z / 4*48271 % 1061) (show (0:Int)<3 by decide)
   exact ⟨(2*((c:Int) - 1) - z / 4*48271 % 1061 % 3).toNat,by omega,by omega⟩
  refine d5 (i' (by omega)) ?_
  walk_at "g"
  rw [hm]
  refine d_ (by omega) ?_
  refine eQ (n:=m) (fun i σ H'=>∃ v ds xs,σ=[some (.ref a),some (.int (c:Int)),some (.int n),some (.int (z / 4)),some (.int ((ld c n:Nat):Int)),some (.ref pd),v]∧Same H H'∧H' pd=some (.lst xs)∧Reps H' [] xs (ds.map Deed.D)∧ds.length=i+1∧DrawnAll (·∈allB) c ds) ⟨none,_,_,rfl,s02,g2,r2,rfl,D0⟩ ?_ ?_
  ·rintro i σ H3 hi ⟨v,ds,xs,rfl,s3,g3,r3,hl3,D3⟩
   have e0:((0:Int)+(i:Int))=(i:Int):=Int.zero_add _
   rw [e0]
   have hxl:xs.length=ds.length:=by rw [r3.length,laa]
   walk_at "g"
   refine ⟨.inl ⟨rfl,_,ca g3⟩,?_⟩
   walk_at "A"
   rename_i t4 ht4 H4 s4 g4
   have g34:=s4 _ _ g3
   refine cL g34 (bb (by omega)) ?_
   have cc:Chg [pd] H4 (upd H4 pd (.lst (xs++[.ref t4]))):=.set (by rw [g34];exact True.intro) (by simp)
   have ntp:t4≠pd:=cr g4 g34 (by intro z;cases z)
   refine ⟨_,ds++[Deed.carry (i:Int) true],_,rfl,(s3.trans s4).put hpd0,av,?_,by rw [laf,hl3];rfl,D3.snoc (show (0:Int)≤(i:Int) by omega) True.intro rfl⟩
   rw [lai]
   exact (dg (r3.same s4) cc).append (.cons (.tup (.inl (bo ntp g4)) (.cons (.str _) (.cons (.int _) (.cons (.bl _) .nil)))) .nil)
  ·rintro σ H3 ⟨v,ds,xs,rfl,s3,g3,r3,hl3,D3⟩
   have hxl:xs.length=ds.length:=by rw [r3.length,laa]
   walk_at "g"
   refine ⟨.inl ⟨rfl,_,ca g3⟩,?_⟩
   walk_at "A"
   rename_i t4 ht4 H4 s4 g4
   have g34:=s4 _ _ g3
   refine cL g34 (bb (by omega)) ?_
   have cc:Chg [pd] H4 (upd H4 pd (.lst (xs++[.ref t4]))):=.set (by rw [g34];exact True.intro) (by simp)
   have ntp:t4≠pd:=cr g4 g34 (by intro z;cases z)
   have s5:Same H (upd H4 pd (.lst (xs++[.ref t4]))):=(s3.trans s4).put hpd0
   have g5:upd H4 pd (.lst (xs++[.ref t4])) pd=some (.lst (xs++[.ref t4])):=av
   have r5:Reps (upd H4 pd (.lst (xs++[.ref t4]))) [] (xs++[.ref t4]) ((ds++[Deed.stop (ld c n)]).map Deed.D):=by
    rw [lai]
    exact (dg (r3.same s4) cc).append (.cons (.tup (.inl (bo ntp g4)) (.cons (.str _) (.cons (.int _) .nil))) .nil)
   have D5:=D3.snoc (d:=Deed.stop (ld c n)) hL True.intro rfl
   generalize upd H4 pd (.lst (xs++[.ref t4]))=H5 at *
   generalize hxs5:xs++[V.ref t4]=xs5 at *
   have hl5:(ds++[Deed.stop (ld c n)]).length≤10:=by rw [laf];show _+1≤_;omega
   have hx5:xs5.length=(ds++[Deed.stop (ld c n)]).length:=by rw [r5.length,laa]
   generalize ds++[Deed.stop (ld c n)]=ds5 at *
   refine ib (fun σ' H'=>∃ ds xs,σ'=[some (.ref a),some (.int (c:Int)),some (.int n),some (.int (z / 4)),some (.int ((ld c n:Nat):Int)),some (.ref pd),v]∧Same H H'∧H' pd=some (.lst xs)∧Reps H' [] xs (ds.map Deed.D)∧ds.length≤12∧DrawnAll (·∈allB) c ds) ?_ ?_
   ·walk_at "g"
    by_cases e2:z / 4*48271 % 1051 % 2=1
    ·rw [if_pos (by simp [e2])]
     walk_at "g"
     refine ⟨.inl ⟨rfl,_,ca g5⟩,?_⟩
     walk_at "g"
     refine d5 (show (0:Int)<(c:Int) by omega) ?_
     obtain ⟨w,hw,hwc⟩:∃ w:Nat,(((ld c n:Nat):Int)+1) % (c:Int)=(w:Int)∧w<c:=by
      have h1:=Int.emod_nonneg (((ld c n:Nat):Int)+1) (show (c:Int)≠0 by omega)
      have h2:=Int.emod_lt_of_pos (((ld c n:Nat):Int)+1) (show (0:Int)<c by omega)
      exact ⟨((((ld c n:Nat):Int)+1) % (c:Int)).toNat,by omega,by omega⟩
     rw [hw]
     walk_at "A"
     rename_i t6 ht6 H6 s6 g6
     have g56:=s6 _ _ g5
     refine cL g56 (bb (by omega)) ?_
     have cc:Chg [pd] H6 (upd H6 pd (.lst (xs5++[.ref t6]))):=.set (by rw [g56];exact True.intro) (by simp)
     have ntp:t6≠pd:=cr g6 g56 (by intro z;cases z)
     refine ⟨ds5++[Deed.stop w],_,rfl,(s5.trans s6).put hpd0,av,?_,by rw [laf];show _+1≤_;omega,D5.snoc (d:=Deed.stop w) hwc True.intro rfl⟩
     rw [lai]
     exact (dg (r5.same s6) cc).append (.cons (.tup (.inl (bo ntp g6)) (.cons (.str _) (.cons (.int _) .nil))) .nil)
    ·rw [if_neg (by simp [e2])]
     walk_at "g"
     exact ⟨_,_,rfl,s5,g5,r5,by omega,D5⟩
   ·rintro σ' H' ⟨ds',xs',rfl,s',g',r',hl',D'⟩
    walk_at "g"
    exact k _ _ _ _ hl' D' s' hpd0 g' r'
 ·rw [if_neg (by simp [e1])]
  have hS2:=s02.seq hS
  walk_at "A"
  rename_i pz hpz H3 s3 g3
  obtain ⟨cs',ecs,hcs⟩:=x9 ns 3 13
  rw [show ir (ns.map V.int) (some 3) (some 13)=cs'.map V.int from ecs] at g3
  refine ⟨pz,cs',c,rfl,.inl g3,by omega,c2,fun ds pe H4 hdl D hpe s4 rd4 ⟨xs4,ge4,re4⟩=>?_⟩
  have s24:=s3.trans s4
  have hx4:xs4.length=ds.length:=by rw [re4.length,laa]
  refine jC (s24 _ _ g2) ge4 (by rw [sizeLine_eq];show 1+_≤_;omega) fun pA hpA=>?_
  have s5:Same H4 (upd H4 pA (.lst ([.ref t]++xs4))):=Same.new hpA
  have g5:upd H4 pA (.lst ([.ref t]++xs4)) pA=some (.lst ([.ref t]++xs4)):=av
  generalize upd H4 pA (.lst ([.ref t]++xs4))=H5 at *
  have s05:=(s02.trans s24).trans s5
  have hpA0:H pA=none:=(s02.trans s24).free hpA
  have r5:Reps H5 [] ([.ref t]++xs4) ((Deed.begin n true::ds).map Deed.D):=by
   have:=((r2.same s24).same s5).append (re4.same s5)
   rw [← lai] at this
   exact this
  have D5:DrawnAll (·∈allB) c (Deed.begin n true::ds):=D.cons True.intro hn rfl
  have hl5:(Deed.begin n true::ds).length≤11:=by rw [laj];omega
  have hx5:([V.ref t]++xs4).length=(Deed.begin n true::ds).length:=by rw [r5.length,laa]
  generalize Deed.begin n true::ds=ds5 at *
  generalize [V.ref t]++xs4=xs5 at *
  walk_at "g"
  refine ib (fun σ' H'=>∃ ds xs,σ'=[some (.ref a),some (.int (c:Int)),some (.int n),some (.int (z / 4)),some (.int ((ld c n:Nat):Int)),some (.ref pA),none]∧Same H H'∧H' pA=some (.lst xs)∧Reps H' [] xs (ds.map Deed.D)∧ds.length≤12∧DrawnAll (·∈allB) c ds) ?_ ?_
  ·walk_at "g"
   by_cases e2:z / 4*48271 % 1049 % 3=2
   ·rw [if_pos (by simp [e2])]
    walk_at "g"
    refine ⟨.inl ⟨rfl,_,ca g5⟩,?_⟩
    walk_at "A"
    rename_i t6 ht6 H6 s6 g6
    have g56:=s6 _ _ g5
    refine cL g56 (bb (by omega)) ?_
    have cc:Chg [pA] H6 (upd H6 pA (.lst (xs5++[.ref t6]))):=.set (by rw [g56];exact True.intro) (by simp)
    have ntp:t6≠pA:=cr g6 g56 (by intro z;cases z)
    refine ⟨ds5++[Deed.stop (ld c n)],_,rfl,(s05.trans s6).put hpA0,av,?_,by rw [laf];show _+1≤_;omega,D5.snoc (d:=Deed.stop (ld c n)) hL True.intro rfl⟩
    rw [lai]
    exact (dg (r5.same s6) cc).append (.cons (.tup (.inl (bo ntp g6)) (.cons (.str _) (.cons (.int _) .nil))) .nil)
   ·rw [if_neg (by simp [e2])]
    walk_at "g"
    exact ⟨_,_,rfl,s05,g5,r5,by omega,D5⟩
  ·rintro σ' H' ⟨ds',xs',rfl,s',g',r',hl',D'⟩
   walk_at "g"
   exact k _ _ _ _ hl' D' s' hpA0 g' r'
def mx(S:HallS)(n:Int)(k:Nat):Bool:=(S.hs[k]?).elim false fun h=>h.up&&decide (ar h.book n=[("yes":Str)])
def ny(S:HallS)(n:Int)(i:Nat):List Nat:=(List.range i).filter (mx S n)
theorem yo(S:HallS)(n:Int)(i:Nat):ny S n (i+1)=ny S n i++if mx S n i=true then [i] else []:=by
 unfold ny
 rw [List.range_succ,lay,laz,List.filter_nil]
theorem FQ{K:PySem.W.Frag}{CH CX:Addr}{vs:List V}{H:Hp}{Q:VK}{E:XK}(h:nI K vs H Q E) :
  wj K (dm K) gY (dv (·∈allB)) (gW K) (dw CH CX) (gH CH CX) du (h_ CH CX) iA (d6 1) cx (gP CH CX) { nx:=fun _ H'=>Q .non H',rt:=Q }
   (aT ["_law_script","_law_count","_law_against","_law_bargain","_law_deeds","_law_books","_law_up","_law_unsure","_law_rows","_law_k","_law_row","_law_down","_law_j"] vs) H:=by
 obtain ⟨a,ns,rfl,hS,hl,k⟩:=h
 unfold wj
 walk_at "A"
 rename_i pc hpc H1 s1 g1
 have hS1:=s1.seq hS
 refine ⟨a,ns,0,rfl,hS1,fun z0=>?_⟩
 obtain ⟨cv,hcv,ec⟩:=oU (xs:=[V.int 2,V.int 3,V.int 4,V.int 2,V.int 3,V.int 4,V.int 2,V.int 5]) (r:=z0*48271 % 1063 % 8) (by omega) (by show _<(8:Int);omega)
 obtain ⟨c,rfl,c2,c5⟩:∃ c:Nat,cv=.int c∧2≤c∧c≤5:=by
  simp only [List.mem_cons,List.not_mem_nil,or_false] at hcv
  rcases hcv with rfl | rfl | rfl | rfl | rfl | rfl | rfl | rfl
  ·exact ⟨2,rfl,by omega,by omega⟩
  ·exact ⟨3,rfl,by omega,by omega⟩
  ·exact ⟨4,rfl,by omega,by omega⟩
  ·exact ⟨2,rfl,by omega,by omega⟩
  ·exact ⟨3,rfl,by omega,by omega⟩
  ·exact ⟨4,rfl,by omega,by omega⟩
  ·exact ⟨2,rfl,by omega,by omega⟩
  ·exact ⟨5,rfl,by omega,by omega⟩
 have g1':SqL K H1 pc _:=ca g1
 walk_at "g"
 refine ⟨a,ns,1,rfl,hS1,fun z1=>?_⟩
 walk_at "g"
 refine ⟨z1,c,rfl,by omega,fun ag pg H2 hag hpg s2 rg=>?_⟩
 have hS2:=s2.seq hS1
 walk_at "g"
 refine ⟨a,ns,2,rfl,hS2,fun z2=>?_⟩
 walk_at "g"
 refine ⟨z2,rfl,fun n H3 hn s3=>?_⟩
 have hS3:=s3.seq hS2
 walk_at "g"
 refine ⟨a,ns,c,n,rfl,hS3,c2,c5,hn,fun ds pd xs H4 hdl D s4 hpd gd4 rds4=>?_⟩
 have rg4:=(rg.same s3).same s4
 obtain ⟨_,gs,eg,gg,_,rgs⟩:=id (Rep.lst_inv (ds:=ag.map fb) rg4)
 cases eg
 obtain ⟨roomA,roomW,_,_,hL0⟩:=o6 ag c2 c5 hdl D n
 have hxl:xs.length=ds.length:=by rw [rds4.length,laa]
 walk_at "A"
 rename_i q1 hq1 H5 s5 g5 q2 hq2 H6 s6 g6
 have s46:=s5.trans s6
 have ga6:Rep H6 [] (.ref q1) (.list (ag.map fb)):=.lst (.inl (s6 _ _ g5)) (by simp) (rgs.same s46)
 have rd6:Rep H6 [] (.ref q2) (.list (ds.map Deed.D)):=.lst (.inl g6) (by simp) (rds4.same s46)
 refine ⟨c,ag,ds,⟨q1,q2,rfl,c2,by omega,ga6,by omega,rd6,by omega,D.ok,roomA⟩,fun vb H7 s7 rb7 fb7=>?_⟩
 have I:=(Inv.new (c:=c) ag (·∈allB) c2 (by omega)).run ds D.inn
 have s47:=s46.trans s7
 walk_at "g"
 refine ⟨c,ag,ds,pg,pd,xs,rfl,c2,c5,rg4.same s47,by omega,s47 _ _ gd4,rds4.same s47,hdl,D.ok,roomW,fun pu H8 s8 hpu gu8=>?_⟩
 have s48:=s47.trans s8
 generalize hSS:((aI c ag).run ds).1=S at *
 have hlen:(S.hs.map fun h=>h.book).length=c:=by rw [laa];exact I.ok.len
 have erb:lH S=lW (S.hs.map fun h=>h.book):=by unfold lH lW;rw [List.map_map];rfl
 rw [erb] at rb7
 have rb8:=rb7.same s8
 obtain ⟨pb,xb,rfl,gb,_,rbs⟩:=id (Rep.lst_inv (ds:=(S.hs.map fun h=>h.book).map cU) rb8)
 walk_at "g"
 rw [if_neg (by simp)]
 walk_at "g"
 refine ⟨pb,_,c,rfl,rb8,hlen,fun b hb=>(iZ I hb).1,fun H9 s9=>?_⟩
 walk_at "g"
 rw [if_neg (by decide)]
 have s49:=s48.trans s9
 walk_at "A"
 rename_i pn hpn HA sA gA pr hpr HB sB gB
 have hnr:pn≠pr:=Ne.symm (dz hpr gA)
 have s9B:=sA.trans sB
 have hpr0:H9 pr=none:=sA.free hpr
 have sm:∀ h∈S.hs,h.book.length≤1000000:=fun h hh=>las (uZ (bl:=allB) I (laA.mpr ⟨h,hh,rfl⟩)) (by decide)
 have guN:=s9 _ _ gu8
 have gbN:=gb.same s9
 have rbsN:=rbs.same s9
 have ggN:=gg.same s49
 have gdN:=s49 _ _ gd4
 refine d_ (by omega) ?_
 refine eQ (n:=c) (fun i σ H'=>∃ v1 v2 v3 v4 rs,σ=[some (.ref a),some (.int (c:Int)),some (.ref pg),some (.int n),some (.ref pd),some (.ref pb),some (.ref pu),some (.ref pn),some (.ref pr),v1,v2,v3,v4]∧Same H9 H'∧H' pn=some (.lst ((ny S n i).map fun (k:Nat)=>V.int (k:Int)))∧H' pr=some (.lst rs)∧rs.length=i∧∀ j h,j<i→S.hs[j]?=some h→∃ t,rs[j]?=some (.ref t)∧t≠pn∧t≠pr∧H' t=some (.lst ((cD S h n).map V.int)))
  ⟨none,none,none,none,[],rfl,s9B,sB _ _ gA,gB,rfl,fun j h hj=>absurd hj (by omega)⟩ ?_ ?_
 ·rintro i σ J0 hi ⟨v1,v2,v3,v4,rs,rfl,t0,kn0,kr0,hrl,hrow⟩
  have e0:((0:Int)+(i:Int))=(i:Int):=Int.zero_add _
  rw [e0]
  obtain ⟨h,hh⟩:∃ h,S.hs[i]?=some h:=⟨_,lad (by rw [I.ok.len];exact hi)⟩
  have hunl:(ny S n i).length≤i:=by
   unfold ny
   exact las (laJ _ _) (by rw [laq];exact lat _)
  have ggJ:=ggN.same t0
  have gdJ:=t0 _ _ gdN
  walk_at "A"
  rename_i q3 hq3 J1 t1 k1 q4 hq4 J2 t2 k2
  have t02:=t1.trans t2
  have t92:=t0.trans t02
  have ga2:Rep J2 [] (.ref q3) (.list (ag.map fb)):=.lst (.inl (t2 _ _ k1)) (by simp) (rgs.same (s49.trans t92))
  have rd2:Rep J2 [] (.ref q4) (.list (ds.map Deed.D)):=.lst (.inl k2) (by simp) (rds4.same (s49.trans t92))
  refine ⟨c,ag,ds,n,h,i,⟨q3,q4,rfl,c2,by omega,ga2,by omega,rd2,by omega,D.ok,roomA⟩,by rw [hSS];exact hh,by rw [hSS];exact sm,by rw [hSS];omega,fun pw J3 t3 hpw kw=>?_⟩
  rw [hSS] at kw
  have t03:=t02.trans t3
  have t93:=t0.trans t03
  have kn3:=t03 _ _ kn0
  have kr3:=t03 _ _ kr0
  have npn:pw≠pn:=dz hpw (t02 _ _ kn0)
  have npr:pw≠pr:=dz hpw (t02 _ _ kr0)
  have hb:(S.hs.map fun h=>h.book)[i]?=some h.book:=by rw [lae,hh];rfl
  obtain ⟨x,hx,_⟩:=rbsN.getD (i:=i) (d:=cU h.book) (by rw [lae,hb];rfl)
  obtain ⟨b',tb,hb',rfl,rtb⟩:=mt (rbsN.same t93) hx
  rw [hb] at hb'
  cases hb'
  have hokw:ug (ar h.book n):=by rw [← bS hh];exact x6 (zA _ _ _) _ ((I.wi n).forms hi)
  have hup:(S.hs.map fun h=>V.bl h.up)[i]?=some (.bl h.up):=by rw [lae,hh];rfl
  have hus:=yo S n i
  have hisU:mx S n i=(h.up&&decide (ar h.book n=[("yes":Str)])):=by unfold mx;rw [hh];rfl
  have hwt:mx S n i=false→cD S h n=[]:=fun z=>by
   unfold cD
   refine if_neg fun y=>?_
   rw [hisU,y.1,Bool.true_and,decide_eq_true ((nD I hh n).mp y.2.1)] at z
   cases z
  have hdn:=wJ I.ok
  have hwl:(cD S h n).length≤c:=by
   unfold cD
   split
   ·unfold fj
    rw [laa,← I.ok.len]
    exact laJ _ _
   ·exact laI _
  walk_at "g"
  refine ⟨_,_,_,true,rfl,TyO.lst kw,cW _ _,?_⟩
  walk_at "g"
  refine cS ?_
  walk_at "g"
  refine ib (fun σ' H'=>σ'=[some (.ref a),some (.int (c:Int)),some (.ref pg),some (.int n),some (.ref pd),some (.ref pb),some (.ref pu),some (.ref pn),some (.ref pr),some (.int (i:Int)),some (.ref pw),v3,v4]∧Same H9 H'∧H' pn=some (.lst ((ny S n (i+1)).map fun (k:Nat)=>V.int (k:Int)))∧H' pr=some (.lst rs)∧H' pw=some (.lst ((cD S h n).map V.int))∧∀ t o,t≠pn→J3 t=some o→H' t=some o) ?_ ?_
  ·have gb3:=gbN.same t93
   walk_at "g"
   refine b2 (dR gb3) (ce hx) ?_
   walk_at "g"
   refine ⟨tb,h.book,n,rfl,rtb,sm h (lam hh),fun pq J4 hpq t4 k4=>?_⟩
   walk_at "A"
   rename_i py hpy J5 t5 k5
   have t35:=t4.trans t5
   have t95:=t93.trans t35
   refine Bp (xs:=ar h.book n) (ys:=[("yes":Str)]) (.inl (t5 _ _ k4)) (.inl k5) hokw (by intro w hw;rw [lag.mp hw];exact ix (by simp)) ?_
   walk_at "g"
   have kn5:=t35 _ _ kn3
   have no:mx S n i=false→∀ σ',σ'=[some (.ref a),some (.int (c:Int)),some (.ref pg),some (.int n),some (.ref pd),some (.ref pb),some (.ref pu),some (.ref pn),some (.ref pr),some (.int (i:Int)),some (.ref pw),v3,v4]→σ'=[some (.ref a),some (.int (c:Int)),some (.ref pg),some (.int n),some (.ref pd),some (.ref pb),some (.ref pu),some (.ref pn),some (.ref pr),some (.int (i:Int)),some (.ref pw),v3,v4]∧Same H9 J5∧J5 pn=some (.lst ((ny S n (i+1)).map fun (k:Nat)=>V.int (k:Int)))∧J5 pr=some (.lst rs)∧J5 pw=some (.lst ((cD S h n).map V.int))∧∀ t o,t≠pn→J3 t=some o→J5 t=some o:=fun z σ' e=>by
    rw [if_neg (by rw [z];decide),laF] at hus
    exact ⟨e,t95,by rw [hus];exact kn5,t35 _ _ kr3,t35 _ _ kw,fun t o _ ho=>t35 _ _ ho⟩
   by_cases ew:ar h.book n=[("yes":Str)]
   ·rw [if_pos (decide_eq_true ew)]
    walk_at "g"
    refine b2 (ca (t95 _ _ guN)) (ce hup) ?_
    walk_at "g"
    cases hu:h.up with
    | true=>
     have z:mx S n i=true:=by rw [hisU,hu,decide_eq_true ew];rfl
     rw [if_pos rfl]
     walk_at "g"
     refine ⟨.inl ⟨rfl,_,ca kn5⟩,?_⟩
     walk_at "g"
     refine cL kn5 (bb (by rw [laa];omega)) ?_
     refine ⟨rfl,t95.put hpn,?_,bo (Ne.symm hnr) (t35 _ _ kr3),bo npn (t35 _ _ kw),fun t o nt ho=>bo nt (t35 _ _ ho)⟩
     rw [av,hus,if_pos z,lai];rfl
    | false=>
     have z:mx S n i=false:=by rw [hisU,hu];rfl
     have kw5:=t35 _ _ kw
     rw [if_neg (by decide)]
     walk_at "g"
     rw [if_neg (by rw [hwt z];decide)]
     walk_at "g"
     exact no z _ rfl
   ·have z:mx S n i=false:=by rw [hisU,decide_eq_false ew,Bool.and_false]
    have kw5:=t35 _ _ kw
    rw [if_neg (by simpa using ew)]
    rw [if_neg (by decide)]
    walk_at "g"
    rw [if_neg (by rw [hwt z];decide)]
    walk_at "g"
    exact no z _ rfl
  rintro σ' J6 ⟨rfl,t96,kn6,kr6,kw6,keep6⟩
  have gu6:=t96 _ _ guN
  walk_at "g"
  refine d_ (by omega) ?_
  intro pz hpz
  refine f' (n:=c) (fun j ys σ H'=>∃ v,σ=[v,some (.ref pu)]∧Same J6 H'∧ys=(fT S j).map V.int) ⟨none,rfl,Same.new hpz,rfl⟩ ?_ ?_
  ·rintro j ys σ J7 hj hp7 ⟨v,rfl,t7,rfl⟩
   have e0:((0:Int)+(j:Int))=(j:Int):=Int.zero_add _
   rw [e0]
   obtain ⟨g,hg⟩:∃ g,S.hs[j]?=some g:=⟨_,lad (by rw [I.ok.len];exact hj)⟩
   have hgu:(S.hs.map fun h=>V.bl h.up)[j]?=some (.bl g.up):=by rw [lae,hg];rfl
   have hdl:(fT S j).length≤j:=by
    unfold fT
    rw [laa]
    exact las (laJ _ _) (by rw [laq];exact lat _)
   have hds:fT S (j+1)=fT S j++if g.up=true then [] else [(j:Int)]:=by
    unfold fT
    rw [List.range_succ,lay,lai]
    congr 1
    have e:fB S j=g.up:=by unfold fB;rw [hg];rfl
    cases hu:g.up <;> simp [List.filter_cons,e,hu]
   walk_at "g"
   refine b2 (ca (t7 _ _ gu6)) (ce hgu) ?_
   walk_at "g"
   cases hu:g.up with
   | true=>
    rw [if_neg (by decide)]
    exact ⟨_,hp7,_,rfl,t7,by rw [hds,if_pos hu,laF]⟩
   | false=>
    rw [if_pos (by decide)]
    walk_at "g"
    refine ⟨_,hp7,bb (by rw [laa];omega),_,av,_,rfl,t7.put hpz,?_⟩
    rw [hds,if_neg (by rw [hu];decide),lai];rfl
  rintro ys σ J7 hp7 ⟨v,rfl,t7,rfl⟩
  have kw7:=t7 _ _ kw6
  walk_at "g"
  by_cases hz:cD S h n=[]
  rw [if_neg (by rw [hz];decide)]
  rw [if_neg (by decide)]
  generalize e8:J7=J8
  have t8:Same J7 J8:=e8▸Same.refl _
  rotate_left
  have hpos:0<(cD S h n).length:=List.length_pos_iff.mpr hz
  have hwd:cD S h n=fT S c:=by
   unfold cD at hz ⊢
   split
   ·exact hdn
   ·rename_i y;exact absurd (if_neg y) hz
  rw [if_pos (decide_eq_true (by rw [laa];show (0:Int)<_;omega))]
  walk_at "g"
  refine ⟨.ref pw,.ref pz,.list ((fT S c).map .int),rfl,.lst (.inl (by rw [← hwd];exact kw7)) (by simp) (lG _),.lst (.inl hp7) (by simp) (lG _),⟨by rw [laa,← hwd];omega,fun e he=>by obtain ⟨w,_,rfl⟩:=laA.mp he;exact True.intro⟩,fun J8 t8=>?_⟩
  walk_at "g"
  refine cS ?_
  all_goals
   have kw8:=t8 _ _ kw7
   walk_at "g"
   refine d3 (K:=K) (a:=pw) (xs:=(cD S h n).map V.int) (fun j σ H'=>∃ v4,σ=[some (.ref a),some (.int (c:Int)),some (.ref pg),some (.int n),some (.ref pd),some (.ref pb),some (.ref pu),some (.ref pn),some (.ref pr),some (.int (i:Int)),some (.ref pw),some (.ref pz),v4]∧H'=J8) ⟨v4,rfl,rfl⟩ ?_ ?_ ?_
   ·rintro j σ H' hj ⟨v4,rfl,rfl⟩
    exact ca kw8
   ·rintro j x σ H' hx ⟨v4,rfl,rfl⟩
    rw [lae] at hx
    cases hw':(cD S h n)[j]? with
    | none=>rw [hw'] at hx;cases hx
    | some w=>
     rw [hw'] at hx
     cases hx
     walk_at "g"
     refine ⟨w,rfl,?_⟩
     walk_at "g"
     refine cS ?_
     walk_at "g"
     exact ⟨_,rfl,rfl⟩
   ·rintro σ H' ⟨v4,rfl,rfl⟩
    have kr8:=t8 _ _ (t7 _ _ kr6)
    have kn8:=t8 _ _ (t7 _ _ kn6)
    walk_at "g"
    refine ⟨.inl ⟨rfl,_,ca kr8⟩,?_⟩
    walk_at "g"
    refine cL kr8 (bb (by omega)) ?_
    refine ⟨_,_,_,_,rs++[.ref pw],rfl,((t96.trans t7).trans t8).put hpr0,bo hnr kn8,av,by rw [laf,hrl];rfl,fun j g hj hg=>?_⟩
    by_cases e:j=i
    ·subst e
     rw [hh] at hg
     cases hg
     exact ⟨pw,by rw [List.getElem?_append_right (by omega),hrl,Nat.sub_self];rfl,npn,npr,bo npr kw8⟩
    ·obtain ⟨t,et,n1,n2,gt⟩:=hrow j g (by omega) hg
     exact ⟨t,by rw [List.getElem?_append_left (by omega)];exact et,n1,n2,bo n2 (t8 _ _ (t7 _ _ (keep6 t _ n1 (t03 _ _ gt))))⟩
 ·rintro σ H' ⟨v1,v2,v3,v4,rs,rfl,t0,kn0,kr0,hrl,hrow⟩
  walk_at "g"
  refine ⟨c,ag,ds,n,pg,pd,pn,pr,xs,rs,ny S n c,rfl,c2,c5,rg4.same (s49.trans t0),by omega,t0 _ _ gdN,rds4.same (s49.trans t0),hdl,D,kn0,kr0,fun kk hk=>?_,k⟩
  rw [hSS]
  obtain ⟨hk1,hk2⟩:=laC.mp hk
  have hkc:=laB.mp hk1
  obtain ⟨h,hh⟩:∃ h,S.hs[kk]?=some h:=⟨_,lad (by rw [I.ok.len];exact hkc)⟩
  unfold mx at hk2
  rw [hh] at hk2
  change (h.up&&decide (ar h.book n=[("yes":Str)]))=true at hk2
  rw [Bool.and_eq_true] at hk2
  have hw:=of_decide_eq_true hk2.2
  obtain ⟨t,et,_,_,gt⟩:=hrow kk h hkc hh
  refine ⟨h,t,_,hh,hk2.1,hw,et,gt,?_⟩
  rw [laa]
  unfold cD
  cases hc:dD S n with
  | true=>
   rw [if_neg (fun z=>by cases z.2.2)]
   exact ⟨fun z=>absurd z (by decide),fun z=>by cases z⟩
  | false=>
   rw [if_pos ⟨hk2.1,eV hw,rfl⟩]
   exact ⟨fun _=>rfl,fun _=>xH I (rX I ⟨h,hh,hk2.1⟩ hc)⟩
def bM(i:Nat):Stmt:=PySem.Challenge.pw_oathhall_k10_whole_whom_it_waits_for.main.body.getD i (.Pass ⟨0,0,0,0⟩)
abbrev kY:Stmt:=bM 1
abbrev k_:Stmt:=bM 2
abbrev j_:Stmt:=bM 3
abbrev lc:Stmt:=bM 4
abbrev kf:Stmt:=bM 5
abbrev kF:Stmt:=bM 6
abbrev jP:Stmt:=bE (bM 8) 0
abbrev kU:Stmt:=bE (bM 8) 1
abbrev j':Stmt:=bE (bM 8) 2
abbrev j8:Stmt:=bE (bM 8) 3
abbrev jL:Stmt:=bE (bM 8) 4
abbrev lf:Stmt:=bE (bM 8) 5
abbrev kh:Stmt:=bE (bM 8) 6
abbrev kz:Stmt:=bE (bM 8) 7
abbrev jW:Stmt:=bE (bM 8) 8
abbrev j5:Stmt:=bE (bM 8) 9
abbrev lr:Stmt:=bE (bM 8) 10
abbrev lm:Stmt:=bE (bM 8) 11
abbrev kx:Stmt:=bE (bM 8) 12
abbrev jS:Stmt:=bE (bM 8) 13
abbrev kN:Stmt:=bE (bM 8) 14
abbrev lu:Stmt:=bE (bM 8) 15
abbrev jN:Stmt:=bE (bM 8) 16
abbrev kd:Stmt:=bE (bM 8) 17
abbrev jT:Stmt:=bM 10
abbrev jO:Stmt:=bE (bM 11) 0
abbrev jR:Stmt:=bE (bM 11) 1
abbrev lp:Stmt:=bE (bM 11) 2
abbrev kH:Stmt:=bE (bM 11) 3
abbrev kI:Stmt:=bE (bM 11) 4
abbrev j3:Stmt:=bE (bM 11) 5
abbrev kQ:Stmt:=bE (bM 11) 6
abbrev lg:Stmt:=bE (bM 11) 7
abbrev j2:Stmt:=bE (bM 11) 8
abbrev kG:Stmt:=bE (bM 11) 9
abbrev ku:Stmt:=bE (bM 11) 10
abbrev kK:Stmt:=bM 13
abbrev jK:Stmt:=bM 14
abbrev jJ:Stmt:=bM 15
abbrev kB:Stmt:=bM 16
abbrev ke:Stmt:=bM 17
abbrev kA:Stmt:=bM 18
abbrev j9:Stmt:=bM 19
abbrev kM:Stmt:=bM 20
abbrev jp:Stmt:=bM 22
abbrev kP:Stmt:=bM 23
abbrev kO:Stmt:=bM 24
abbrev jU:Stmt:=bM 25
abbrev kj:Stmt:=bM 26
abbrev lh:Stmt:=bM 27
abbrev kE:Stmt:=bM 28
abbrev jY:Stmt:=bM 29
abbrev jQ:Stmt:=bM 30
abbrev le:Stmt:=bM 31
abbrev kR:Stmt:=bM 32
abbrev ko:Stmt:=bM 33
abbrev kr:Stmt:=bM 34
abbrev jZ:Stmt:=bM 35
abbrev j6:Stmt:=bM 36
abbrev kZ:Stmt:=bM 37
abbrev kg:Stmt:=bM 38
abbrev kL:Stmt:=bM 39
abbrev kX:Stmt:=bM 40
abbrev iq:Stmt:=bM 41
structure Txt(K:PySem.W.Frag)(mg:Str→Option Value)(aa:Addr)(ac:Addr):Prop where
 ok:True
 n_any:mg "any"=none
 n_bool:mg "bool"=none
 n_dict:mg "dict"=none
 n_int:mg "int"=none
 n_isinstance:mg "isinstance"=none
 n_len:mg "len"=none
 n_list:mg "list"=none
 n_range:mg "range"=none
 n_str:mg "str"=none
 n_tuple:mg "tuple"=none
 cl_House:Cls K aa
 m_House:mg "House"=some (.ref aa)
 f_House_against:NoAttr K aa "against"
 f_House_awake:NoAttr K aa "awake"
 f_House_book:NoAttr K aa "book"
 f_House_counted:NoAttr K aa "counted"
 f_House_lines_read:NoAttr K aa "lines_read"
 f_House_number:NoAttr K aa "number"
 f_House_others:NoAttr K aa "others"
 f_House_pages:NoAttr K aa "pages"
 cl_Hall:Cls K ac
 m_Hall:mg "Hall"=some (.ref ac)
 f_Hall_houses:NoAttr K ac "houses"
 f_Hall_letters:NoAttr K ac "letters"
 f_Hall_unspent:NoAttr K ac "unspent"
theorem DP:aE ["book","bargain"] ["book","bargain"] (af kY):=⟨rfl,rfl,rfl,by decide +kernel,rfl,by decide +kernel,by decide +kernel⟩
theorem zB:List.Nodup (["line","bargain"]:List Str):=by decide +kernel
theorem DR:aE ["book","bargain"] ["book","bargain"] (af k_):=⟨rfl,rfl,rfl,by decide +kernel,rfl,by decide +kernel,by decide +kernel⟩
theorem zsc1l:aE ["book","bargain","word"] ["book","bargain"] (af j_):=⟨rfl,rfl,rfl,by decide +kernel,rfl,by decide +kernel,by decide +kernel⟩
theorem zsc0q:aE ["book","bargain","words"] ["book","bargain"] (af lc):=⟨rfl,rfl,rfl,by decide +kernel,rfl,by decide +kernel,by decide +kernel⟩
theorem Ee:aE ["book","bargain"] ["book","bargain"] (af kf):=⟨rfl,rfl,rfl,by decide +kernel,rfl,by decide +kernel,by decide +kernel⟩
theorem Cs:aE ["book"] ["book"] (af kF):=⟨rfl,rfl,rfl,by decide +kernel,rfl,by decide +kernel,by decide +kernel⟩
theorem zx:List.Nodup (["line","book"]:List Str):=by decide +kernel
theorem FP:aE ["self","number","count","against"] ["self","number","count","against"] (af jP):=⟨rfl,rfl,rfl,by decide +kernel,rfl,by decide +kernel,by decide +kernel⟩
theorem zP:List.Nodup (["other","number"]:List Str):=by decide +kernel
theorem Fo:aE ["self"] ["self"] (af kU):=⟨rfl,rfl,rfl,by decide +kernel,rfl,by decide +kernel,by decide +kernel⟩
theorem Gq:aE ["self","bargain"] ["self","bargain"] (af j'):=⟨rfl,rfl,rfl,by decide +kernel,rfl,by decide +kernel,by decide +kernel⟩
theorem zsc1c:aE ["self","letter","giver","bargain","word"] ["self","letter"] (af j8):=⟨rfl,rfl,rfl,by decide +kernel,rfl,by decide +kernel,by decide +kernel⟩
theorem Cj:aE ["self","bargain"] ["self","bargain"] (af jL):=⟨rfl,rfl,rfl,by decide +kernel,rfl,by decide +kernel,by decide +kernel⟩
theorem Fg:aE ["self"] ["self"] (af lf):=⟨rfl,rfl,rfl,by decide +kernel,rfl,by decide +kernel,by decide +kernel⟩
theorem zsc10:aE ["self","undecided","sent","bargain"] ["self"] (af kh):=⟨rfl,rfl,rfl,by decide +kernel,rfl,by decide +kernel,by decide +kernel⟩
theorem ES:aE ["self","letter"] ["self","letter"] (af kz):=⟨rfl,rfl,rfl,by decide +kernel,rfl,by decide +kernel,by decide +kernel⟩
theorem E7:aE ["self","giver","bargain"] ["self","giver","bargain"] (af jW):=⟨rfl,rfl,rfl,by decide +kernel,rfl,by decide +kernel,by decide +kernel⟩
theorem zsc0d:aE ["self","giver","bargain","word","decided","givers"] ["self","giver","bargain","word"] (af j5):=⟨rfl,rfl,rfl,by decide +kernel,rfl,by decide +kernel,by decide +kernel⟩
theorem Df:aE ["self","bargain","word"] ["self","bargain","word"] (af lr):=⟨rfl,rfl,rfl,by decide +kernel,rfl,by decide +kernel,by decide +kernel⟩
theorem zsc07:aE ["self","giver","bargain","decided"] ["self","giver","bargain"] (af lm):=⟨rfl,rfl,rfl,by decide +kernel,rfl,by decide +kernel,by decide +kernel⟩
theorem E':aE ["self","bargain","word"] ["self","bargain","word"] (af kx):=⟨rfl,rfl,rfl,by decide +kernel,rfl,by decide +kernel,by decide +kernel⟩
theorem Fj:aE ["self","bargain"] ["self","bargain"] (af jS):=⟨rfl,rfl,rfl,by decide +kernel,rfl,by decide +kernel,by decide +kernel⟩
theorem zsc12:aE ["self","bargain","line"] ["self","bargain"] (af kN):=⟨rfl,rfl,rfl,by decide +kernel,rfl,by decide +kernel,by decide +kernel⟩
theorem Ep:aE ["self","word","bargain"] ["self","word","bargain"] (af lu):=⟨rfl,rfl,rfl,by decide +kernel,rfl,by decide +kernel,by decide +kernel⟩
theorem DO:aE ["self","other","bargain","word"] ["self","other","bargain","word"] (af jN):=⟨rfl,rfl,rfl,by decide +kernel,rfl,by decide +kernel,by decide +kernel⟩
theorem Ga:aE ["self","bargain","word"] ["self","bargain","word"] (af kd):=⟨rfl,rfl,rfl,by decide +kernel,rfl,by decide +kernel,by decide +kernel⟩
theorem zE:List.Nodup (["other","bargain","word","self"]:List Str):=by decide +kernel
theorem Dv:aE ["against","number"] ["against","number"] (af jT):=⟨rfl,rfl,rfl,by decide +kernel,rfl,by decide +kernel,by decide +kernel⟩
theorem z3:List.Nodup (["pair","number"]:List Str):=by decide +kernel
theorem EB:aE ["self","count","against"] ["self","count","against"] (af jO):=⟨rfl,rfl,rfl,by decide +kernel,rfl,by decide +kernel,by decide +kernel⟩
theorem Ac:List.Nodup (["number","count","against"]:List Str):=by decide +kernel
theorem zsc1m:aE ["self","deed","word"] ["self","deed"] (af jR):=⟨rfl,rfl,rfl,by decide +kernel,rfl,by decide +kernel,by decide +kernel⟩
theorem zsc13:aE ["self","bargain","stays","house","ahead"] ["self","bargain","stays"] (af lp):=⟨rfl,rfl,rfl,by decide +kernel,rfl,by decide +kernel,by decide +kernel⟩
theorem zsc11:aE ["self","which","stays","letter","house","ahead"] ["self","which","stays"] (af kH):=⟨rfl,rfl,rfl,by decide +kernel,rfl,by decide +kernel,by decide +kernel⟩
theorem zsc16:aE ["self","number","bargain","sent"] ["self","number","bargain"] (af kI):=⟨rfl,rfl,rfl,by decide +kernel,rfl,by decide +kernel,by decide +kernel⟩
theorem zsc19:aE ["self","number","house"] ["self","number"] (af j3):=⟨rfl,rfl,rfl,by decide +kernel,rfl,by decide +kernel,by decide +kernel⟩
theorem zsc1i:aE ["self","number","house","ahead"] ["self","number"] (af kQ):=⟨rfl,rfl,rfl,by decide +kernel,rfl,by decide +kernel,by decide +kernel⟩
theorem zsc14:aE ["self","written","place","which","lines","number"] ["self"] (af lg):=⟨rfl,rfl,rfl,by decide +kernel,rfl,by decide +kernel,by decide +kernel⟩
theorem z_:List.Nodup (["line","number"]:List Str):=by decide +kernel
theorem z7:List.Nodup (["which","self"]:List Str):=by decide +kernel
theorem zsc00:aE ["self","which","letter"] ["self","which"] (af j2):=⟨rfl,rfl,rfl,by decide +kernel,rfl,by decide +kernel,by decide +kernel⟩
theorem D_:aE ["self","house","sent","stays"] ["self","house","sent","stays"] (af kG):=⟨rfl,rfl,rfl,by decide +kernel,rfl,by decide +kernel,by decide +kernel⟩
theorem zsc1f:aE ["self","sent","first"] ["self","sent"] (af ku):=⟨rfl,rfl,rfl,by decide +kernel,rfl,by decide +kernel,by decide +kernel⟩
theorem zsc0z:aE ["count","against","deeds","hall","deed"] ["count","against","deeds"] (af kK):=⟨rfl,rfl,rfl,by decide +kernel,rfl,by decide +kernel,by decide +kernel⟩
theorem zsc1k:aE ["count","against","deeds","hall"] ["count","against","deeds"] (af jK):=⟨rfl,rfl,rfl,by decide +kernel,rfl,by decide +kernel,by decide +kernel⟩
theorem zJ:List.Nodup (["deed","hall"]:List Str):=by decide +kernel
theorem Ci:aE ["count","against","deeds"] ["count","against","deeds"] (af jJ):=⟨rfl,rfl,rfl,by decide +kernel,rfl,by decide +kernel,by decide +kernel⟩
theorem Aj:List.Nodup (["house"]:List Str):=by decide +kernel
theorem Cg:aE ["count","against","deeds"] ["count","against","deeds"] (af kB):=⟨rfl,rfl,rfl,by decide +kernel,rfl,by decide +kernel,by decide +kernel⟩
theorem FV:aE ["house","bargain"] ["house","bargain"] (af ke):=⟨rfl,rfl,rfl,by decide +kernel,rfl,by decide +kernel,by decide +kernel⟩
theorem FO:aE ["hall","letter","bargain"] ["hall","letter","bargain"] (af kA):=⟨rfl,rfl,rfl,by decide +kernel,rfl,by decide +kernel,by decide +kernel⟩
theorem Db:aE ["hall","bargain"] ["hall","bargain"] (af j9):=⟨rfl,rfl,rfl,by decide +kernel,rfl,by decide +kernel,by decide +kernel⟩
theorem Ab:List.Nodup (["house","bargain"]:List Str):=by decide +kernel
theorem zX:List.Nodup (["letter","hall","bargain"]:List Str):=by decide +kernel
theorem zsc1p:aE ["count","against","deeds","number","bargain","hall"] ["count","against","deeds","number","bargain"] (af kM):=⟨rfl,rfl,rfl,by decide +kernel,rfl,by decide +kernel,by decide +kernel⟩
theorem Af:List.Nodup (["house"]:List Str):=by decide +kernel
theorem zsc1n:aE ["_law_found","_law_meant","_law_k"] ["_law_found","_law_meant"] (af jp):=⟨rfl,rfl,rfl,by decide +kernel,rfl,by decide +kernel,by decide +kernel⟩
theorem CY:aE ["_law_found"] ["_law_found"] (af kP):=⟨rfl,rfl,rfl,by decide +kernel,rfl,by decide +kernel,by decide +kernel⟩
theorem DY:aE ["_law_script","_law_k"] ["_law_script","_law_k"] (af kO):=⟨rfl,rfl,rfl,by decide +kernel,rfl,by decide +kernel,by decide +kernel⟩
theorem Cv:aE ["_law_found"] ["_law_found"] (af jU):=⟨rfl,rfl,rfl,by decide +kernel,rfl,by decide +kernel,by decide +kernel⟩
theorem zsc0g:aE ["_law_found","_law_line"] ["_law_found"] (af kj):=⟨rfl,rfl,rfl,by decide +kernel,rfl,by decide +kernel,by decide +kernel⟩
theorem zsc0j:aE ["_law_found","_law_count","_law_book"] ["_law_found","_law_count"] (af lh):=⟨rfl,rfl,rfl,by decide +kernel,rfl,by decide +kernel,by decide +kernel⟩
theorem zsc0h:aE ["_law_found","_law_count","_law_number"] ["_law_found","_law_count"] (af kE):=⟨rfl,rfl,rfl,by decide +kernel,rfl,by decide +kernel,by decide +kernel⟩
theorem zsc08:aE ["_law_found","_law_count","_law_letter"] ["_law_found","_law_count"] (af jY):=⟨rfl,rfl,rfl,by decide +kernel,rfl,by decide +kernel,by decide +kernel⟩
theorem Da:aE [] [] (af jQ):=⟨rfl,rfl,rfl,by decide +kernel,rfl,by decide +kernel,by decide +kernel⟩
theorem CK:aE ["_law_cell"] ["_law_cell"] (af le):=⟨rfl,rfl,rfl,by decide +kernel,rfl,by decide +kernel,by decide +kernel⟩
theorem zsc0t:aE ["_law_cell","_law_k","_law_count","_law_swept","_law_way","_law_who","_law_stays","_law_which"] ["_law_cell","_law_k","_law_count","_law_swept"] (af kR):=⟨rfl,rfl,rfl,by decide +kernel,rfl,by decide +kernel,by decide +kernel⟩
theorem zsc1a:aE ["_law_cells","_law_count","_law_deeds","_law_swept","_law_k"] ["_law_cells","_law_count"] (af ko):=⟨rfl,rfl,rfl,by decide +kernel,rfl,by decide +kernel,by decide +kernel⟩
theorem zsc03:aE ["_law_cell","_law_count","_law_pairs","_law_k","_law_j"] ["_law_cell","_law_count"] (af kr):=⟨rfl,rfl,rfl,by decide +kernel,rfl,by decide +kernel,by decide +kernel⟩
theorem zsc0v:aE ["_law_book","_law_bargain","_law_found","_law_line"] ["_law_book","_law_bargain"] (af jZ):=⟨rfl,rfl,rfl,by decide +kernel,rfl,by decide +kernel,by decide +kernel⟩
theorem Ei:aE ["_law_book","_law_bargain"] ["_law_book","_law_bargain"] (af j6):=⟨rfl,rfl,rfl,by decide +kernel,rfl,by decide +kernel,by decide +kernel⟩
theorem zS:List.Nodup (["_law_line","_law_bargain"]:List Str):=by decide +kernel
theorem zsc0i:aE ["_law_count","_law_against","_law_deeds","_law_ends","_law_told","_law_up","_law_found"] ["_law_count","_law_against","_law_deeds"] (af kZ):=⟨rfl,rfl,rfl,by decide +kernel,rfl,by decide +kernel,by decide +kernel⟩
theorem z9:List.Nodup (["_law_k"]:List Str):=by decide +kernel
theorem zsc1g:aE ["_law_letters","_law_count","_law_bargain","_law_deeds","_law_k"] ["_law_letters","_law_count","_law_bargain"] (af kg):=⟨rfl,rfl,rfl,by decide +kernel,rfl,by decide +kernel,by decide +kernel⟩
theorem zG:List.Nodup (["_law_k","_law_bargain"]:List Str):=by decide +kernel
theorem zV:List.Nodup (["_law_k","_law_letters"]:List Str):=by decide +kernel
theorem zsc0x:aE ["_law_count","_law_against","_law_deeds","_law_bargain","_law_unsure","_law_rows","_law_letters","_law_longer","_law_books","_law_swept","_law_k","_law_told"] ["_law_count","_law_against","_law_deeds","_law_bargain","_law_unsure","_law_rows"] (af kL):=⟨rfl,rfl,rfl,by decide +kernel,rfl,by decide +kernel,by decide +kernel⟩
theorem zsc1h:aE ["_law_script","_law_count","_law_bargain","_law_cell","_law_lead","_law_deeds","_law_k"] ["_law_script","_law_count","_law_bargain"] (af kX):=⟨rfl,rfl,rfl,by decide +kernel,rfl,by decide +kernel,by decide +kernel⟩
theorem zsc1r:aE ["_law_script","_law_count","_law_against","_law_bargain","_law_deeds","_law_books","_law_up","_law_unsure","_law_rows","_law_k","_law_row","_law_down","_law_j"] ["_law_script"] (af iq):=⟨rfl,rfl,rfl,by decide +kernel,rfl,by decide +kernel,by decide +kernel⟩
theorem zy:List.Nodup (["_law_j","_law_up"]:List Str):=by decide +kernel
theorem Txt.hs{K:PySem.W.Frag}{mg:Str→Option Value}{aa:Addr}{ac:Addr}(T:Txt K mg aa ac):bt K aa:=⟨T.cl_House,T.f_House_number,T.f_House_others,T.f_House_against,T.f_House_book,T.f_House_awake,T.f_House_counted,T.f_House_pages,T.f_House_lines_read⟩
theorem Txt.hx{K:PySem.W.Frag}{mg:Str→Option Value}{aa:Addr}{ac:Addr}(T:Txt K mg aa ac):cM K ac:=⟨T.cl_Hall,T.f_Hall_houses,T.f_Hall_letters,T.f_Hall_unspent⟩
section
variable {P:Program}{w:World}{K:PySem.W.Frag}{mg:Str→Option Value}{base:Heap}{f:Addr}{cdv:Value}{A:Around}{outer:List Env}{s:Shared}{H:Hp}{E:XK}
theorem Bq{aa:Addr}{ac:Addr}(T:Txt K mg aa ac)

  (hr:Room 0 (A.deeper (PyProof.Rows.envOfC "words_of" (af kY) s.heap.objs.size f cdv))) :
  PSs (bi bw P w K mg base ["book","bargain"] "words_of" (af kY) f cdv A outer s H E).nox (al kY) (xU K ):=by
 have hu:=aY hr
 have hu64:=hr.units
 have hu65:=aH hr
 unfold xU
 exact (aj (ao (dU rfl (show cj _ (["line","bargain"]:List Str) _ ([("bargain",s.heap.objs.size+1+0)]:List (Str×Addr)) ([none,some 1]:List (Option Nat)) from ⟨by with_unfolding_all rfl,rfl,rfl,rfl,rfl,⟨rfl,trivial⟩,⟨⟨rfl,Or.inl rfl,Or.inl rfl,_,rfl,rfl⟩,trivial⟩⟩) (b6 (pv 0)) (fun _ _ _ _=>(bq (i:=0) zB rfl (Or.inl rfl))) (fun _ _ _ _=>(eP (aK bY (aQ ix_tup (pv 0) am (fun _ _=>rfl)) (pv 1) (aR _)))) (fun _ _ _ _=>(aQ ix_tup (pv 0) am (fun _ _=>rfl))))))
theorem By{aa:Addr}{ac:Addr}(cg:Sp)(T:Txt K mg aa ac)
  (fA:aJ P w K mg base 1 "words_of" ["book","bargain"] cg)
  (hr:Room 1 (A.deeper (PyProof.Rows.envOfC "knows" (af k_) s.heap.objs.size f cdv))) :
  PSs (bi bw P w K mg base ["book","bargain"] "knows" (af k_) f cdv A outer s H E).nox (al k_) (v5 K cg):=by
 have hu:=aY hr
 have hu64:=hr.units
 have hu65:=aH hr
 obtain ⟨An,zg,tD,qx,qu,rO⟩:=fA
 have nY:=hr.mono (j:=1) (by decide)
 unfold v5
 exact (aj (ao (dB kD (aG aU (by rfl) T.n_len PySem.boot_len (ab (aL tD nY rfl qx qu rO .nil aw (ab (pv 0) (ab (pv 1) ah))) ah)) am (aR _))))
theorem AD{aa:Addr}{ac:Addr}(cg:Sp)(T:Txt K mg aa ac)
  (fA:aJ P w K mg base 1 "words_of" ["book","bargain"] cg)
  (hr:Room 1 (A.deeper (PyProof.Rows.envOfC "vote_in" (af j_) s.heap.objs.size f cdv))) :
  PSs (bi bw P w K mg base ["book","bargain","word"] "vote_in" (af j_) f cdv A outer s H E).nox (al j_) (uT K cg):=by
 have hu:=aY hr
 have hu64:=hr.units
 have hu65:=aH hr
 obtain ⟨An,zg,tD,qx,qu,rO⟩:=fA
 have nY:=hr.mono (j:=1) (by decide)
 unfold uT
 exact (ai (da PassesOwn.never rfl (b6 (aL tD nY rfl qx qu rO .nil aw (ab (pv 0) (ab (pv 1) ah)))) (bq (i:=2) zsc1l.nd rfl (Or.inl rfl))
   (aj (aO (aK dy (pv 2) (b4 (ab aF (ab aF (ab aF ah)))) (by with_unfolding_all rfl))
   (aj (ao (pv 2)))
   aA)))
   (aj (ao fK)))
theorem BM{aa:Addr}{ac:Addr}(cg:Sp)(T:Txt K mg aa ac)
  (fA:aJ P w K mg base 1 "words_of" ["book","bargain"] cg)
  (hr:Room 1 (A.deeper (PyProof.Rows.envOfC "decision_in" (af lc) s.heap.objs.size f cdv))) :
  PSs (bi bw P w K mg base ["book","bargain","words"] "decision_in" (af lc) f cdv A outer s H E).nox (al lc) (wc K cg):=by
 have hu:=aY hr
 have hu64:=hr.units
 have hu65:=aH hr
 obtain ⟨An,zg,tD,qx,qu,rO⟩:=fA
 have nY:=hr.mono (j:=1) (by decide)
 unfold wc
 exact (ai (aN (i:=2) zsc0q.nd rfl (Or.inl rfl) (aL tD nY rfl qx qu rO .nil aw (ab (pv 0) (ab (pv 1) ah))))
   (ai (aO (aK dy aF (pv 2) (by with_unfolding_all rfl))
   (aj (ao aF))
   aA)
   (ai (aO (PW.pt (ez (aK dy aF (pv 2) (by with_unfolding_all rfl)) (dS (aK dy aF (pv 2) (by with_unfolding_all rfl)))))
   (aj (ao aF))
   aA)
   (aj (ao fK)))))
theorem BS{aa:Addr}{ac:Addr}(gU:Sp)(cy:Sp)(T:Txt K mg aa ac)
  (qW:aJ P w K mg base 2 "vote_in" ["book","bargain"] gU)(fq:aJ P w K mg base 2 "decision_in" ["book","bargain"] cy)
  (hr:Room 2 (A.deeper (PyProof.Rows.envOfC "is_unsure" (af kf) s.heap.objs.size f cdv))) :
  PSs (bi bw P w K mg base ["book","bargain"] "is_unsure" (af kf) f cdv A outer s H E).nox (al kf) (wm K gU cy):=by
 have hu:=aY hr
 have hu64:=hr.units
 have hu65:=aH hr
 obtain ⟨Kk,Jq,IG,GD,IY,GX⟩:=qW
 have EY:=hr.mono (j:=2) (by decide)
 obtain ⟨AN,y9,qt,rK,qz,sk⟩:=fq
 have n8:=hr.mono (j:=2) (by decide)
 unfold wm
 exact (aj (ao (eA (dB bY (aL IG EY rfl GD IY GX .nil aw (ab (pv 0) (ab (pv 1) ah))) aF (aR _)) (fe (lT (ii (aL qt n8 rfl rK qz sk .nil aw (ab (pv 0) (ab (pv 1) ah)))))))))
theorem AE{aa:Addr}{ac:Addr}(cy:Sp)(T:Txt K mg aa ac)
  (fq:aJ P w K mg base 2 "decision_in" ["book","bargain"] cy)
  (hr:Room 2 (A.deeper (PyProof.Rows.envOfC "left_open" (af kF) s.heap.objs.size f cdv))) :
  PSs (bi bw P w K mg base ["book"] "left_open" (af kF) f cdv A outer s H E).nox (al kF) (yT K cy):=by
 have hu:=aY hr
 have hu64:=hr.units
 have hu65:=aH hr
 obtain ⟨AN,y9,qt,rK,qz,sk⟩:=fq
 have n8:=hr.mono (j:=2) (by decide)
 unfold yT
 exact (aj (ao (dU rfl (show cj _ (["line","book"]:List Str) _ ([("book",s.heap.objs.size+1+0)]:List (Str×Addr)) ([none,some 0]:List (Option Nat)) from ⟨by with_unfolding_all rfl,rfl,rfl,rfl,rfl,⟨rfl,trivial⟩,⟨⟨rfl,Or.inl rfl,Or.inl rfl,_,rfl,rfl⟩,trivial⟩⟩) (b6 (pv 0)) (fun _ _ _ _=>(bq (i:=0) zx rfl (Or.inl rfl))) (fun _ _ _ _=>(eP (PW.pt (fh (aK bY (aQ ix_tup (pv 0) am (fun _ _=>rfl)) aF (aR _)) (eD (fL (ii (aL qt n8 rfl rK qz sk .nil aw (ab (pv 1) (ab (aQ ix_tup (pv 0) am (fun _ _=>rfl)) ah)))))))))) (fun _ _ _ _=>(aQ ix_tup (pv 0) am (fun _ _=>rfl))))))
theorem BE{ac:Addr}(dO:Sp)(aa:Addr)(T:Txt K mg aa ac)
  (ji:aB P w K mg base aa 1 "forget" ["self"] dO)
  (hr:Room 1 (A.deeper (PyProof.Rows.envOfC "House.__init__" (af jP) s.heap.objs.size f cdv))) :
  PSs (bi bw P w K mg base ["self","number","count","against"] "House.__init__" (af jP) f cdv A outer s H E).nox (al jP) (vd K dO aa):=by
 have hu:=aY hr
 have hu64:=hr.units
 have hu65:=aH hr
 obtain ⟨Iq,CF,yN,uB,yu⟩:=ji
 have vZ:=hr.mono (j:=1) (by decide)
 unfold vd
 exact (ai (dX (pv 0) (pv 1) rfl)
   (ai (dX (pv 0) (dU rfl (show cj _ (["other","number"]:List Str) _ ([("number",s.heap.objs.size+1+0)]:List (Str×Addr)) ([none,some 1]:List (Option Nat)) from ⟨by with_unfolding_all rfl,rfl,rfl,rfl,rfl,⟨rfl,trivial⟩,⟨⟨rfl,Or.inl rfl,Or.inl rfl,_,rfl,rfl⟩,trivial⟩⟩) (cN rfl T.n_range (ab (pv 2) ah)) (fun _ _ _ _=>(bq (i:=0) zP rfl (Or.inl rfl))) (fun _ _ _ _=>(eP (aK fN (pv 0) (pv 1) (aR _)))) (fun _ _ _ _=>(pv 0))) rfl)
   (ai (dX (pv 0) (cz b7 (by rfl) T.n_list PySem.Pv.boot_list (ab (pv 3) ah)) rfl)
   (ai (dX (pv 0) (bZ ah) rfl)
   (ai (dX (pv 0) bA rfl)
   (aj (bu (fV (pv 0) T.cl_House uB yN vZ yu .nil aw))))))))
theorem B5{aa:Addr}{ac:Addr}(T:Txt K mg aa ac)

  (hr:Room 0 (A.deeper (PyProof.Rows.envOfC "House.forget" (af kU) s.heap.objs.size f cdv))) :
  PSs (bi bw P w K mg base ["self"] "House.forget" (af kU) f cdv A outer s H E).nox (al kU) (v6 K ):=by
 have hu:=aY hr
 have hu64:=hr.units
 have hu65:=aH hr
 unfold v6
 exact (ai (dX (pv 0) m7 rfl)
   (ai (dX (pv 0) m7 rfl)
   (aj (dX (pv 0) am rfl))))
theorem B9{ac:Addr}(bz:Sp)(cu:Sp)(aa:Addr)(T:Txt K mg aa ac)
  (dn:aB P w K mg base aa 1 "write" ["self","word","bargain"] bz)(fD:aB P w K mg base aa 1 "to_others" ["self","bargain","word"] cu)
  (hr:Room 1 (A.deeper (PyProof.Rows.envOfC "House.begin" (af j') s.heap.objs.size f cdv))) :
  PSs (bi bw P w K mg base ["self","bargain"] "House.begin" (af j') f cdv A outer s H E).nox (al j') (uQ K bz cu aa):=by
 have hu:=aY hr
 have hu64:=hr.units
 have hu65:=aH hr
 obtain ⟨uV,pY,jj,gx,jo⟩:=dn
 have gN:=hr.mono (j:=1) (by decide)
 obtain ⟨Bk,zn,tG,ni,r_⟩:=fD
 have nS:=hr.mono (j:=1) (by decide)
 unfold uQ
 exact (ai (aO (aK dy (pv 1) (aS (pv 0) rfl) (by with_unfolding_all rfl))
   (ai (bu (aV (pv 0) T.cl_House gx jj gN jo .nil aw (ab aF (ab (pv 1) ah))))
   (aj (ao (bZ ah))))
   aA)
   (ai (bu (aV (pv 0) T.cl_House gx jj gN jo .nil aw (ab aF (ab (pv 1) ah))))
   (aj (ao (aV (pv 0) T.cl_House ni tG nS r_ .nil aw (ab (pv 1) (ab aF ah)))))))
theorem A2{ac:Addr}(gM:Sp)(hR:Sp)(hV:Sp)(gI:Sp)(aa:Addr)(T:Txt K mg aa ac)
  (rP:aB P w K mg base aa 4 "got_ask" ["self","giver","bargain"] gM)(sH:aB P w K mg base aa 4 "got_query" ["self","giver","bargain"] hR)(rQ:aB P w K mg base aa 4 "got_vote" ["self","giver","bargain","word"] hV)(rH:aB P w K mg base aa 4 "got_decision" ["self","bargain","word"] gI)
  (hr:Room 4 (A.deeper (PyProof.Rows.envOfC "House.got" (af j8) s.heap.objs.size f cdv))) :
  PSs (bi bw P w K mg base ["self","letter","giver","bargain","word"] "House.got" (af j8) f cdv A outer s H E).nox (al j8) (uE K gM hR hV gI aa):=by
 have hu:=aY hr
 have hu64:=hr.units
 have hu65:=aH hr
 obtain ⟨Kg,Jn,Iu,CS,Ig⟩:=rP
 have Fl:=hr.mono (j:=4) (by decide)
 obtain ⟨Kw,JL,GV,DL,GJ⟩:=sH
 have CZ:=hr.mono (j:=4) (by decide)
 obtain ⟨JS,Jw,G3,FS,Hl⟩:=rQ
 have En:=hr.mono (j:=4) (by decide)
 obtain ⟨Kh,JP,HQ,Et,Ix⟩:=rH
 have Du:=hr.mono (j:=4) (by decide)
 unfold uE
 exact (ai (aN (i:=2) zsc1c.nd rfl (Or.inl rfl) (aQ ix_tup (pv 1) am (fun _ _=>rfl)))
   (ai (aN (i:=3) zsc1c.nd rfl (Or.inl rfl) (aQ ix_tup (pv 1) am (fun _ _=>rfl)))
   (ai (aN (i:=4) zsc1c.nd rfl (Or.inl rfl) (aQ ix_tup (pv 1) am (fun _ _=>rfl)))
   (ai (aO (aK bY (pv 4) aF (aR _))
   (aj (ao (aV (pv 0) T.cl_House CS Iu Fl Ig .nil aw (ab (pv 2) (ab (pv 3) ah)))))
   aA)
   (ai (aO (aK bY (pv 4) aF (aR _))
   (aj (ao (aV (pv 0) T.cl_House DL GV CZ GJ .nil aw (ab (pv 2) (ab (pv 3) ah)))))
   aA)
   (ai (aO (aK dy (pv 4) (b4 (ab aF (ab aF ah))) (by with_unfolding_all rfl))
   (aj (ao (aV (pv 0) T.cl_House FS G3 En Hl .nil aw (ab (pv 2) (ab (pv 3) (ab (pv 4) ah))))))
   aA)
   (aj (ao (aV (pv 0) T.cl_House Et HQ Du Ix .nil aw (ab (pv 3) (ab (pv 4) ah)))))))))))
theorem B0{ac:Addr}(b0:Sp)(bV:Sp)(cu:Sp)(aa:Addr)(T:Txt K mg aa ac)
  (ej:aJ P w K mg base 3 "is_unsure" ["book","bargain"] b0)(d8:aB P w K mg base aa 1 "page" ["self","bargain"] bV)(fD:aB P w K mg base aa 1 "to_others" ["self","bargain","word"] cu)
  (hr:Room 3 (A.deeper (PyProof.Rows.envOfC "House.query" (af jL) s.heap.objs.size f cdv))) :
  PSs (bi bw P w K mg base ["self","bargain"] "House.query" (af jL) f cdv A outer s H E).nox (al jL) (vz K b0 bV cu aa):=by
 have hu:=aY hr
 have hu64:=hr.units
 have hu65:=aH hr
 obtain ⟨yQ,uW,mR,mM,mV,mU⟩:=ej
 have j4:=hr.mono (j:=3) (by decide)
 obtain ⟨yz,vh,lZ,i4,lJ⟩:=d8
 have i6:=hr.mono (j:=1) (by decide)
 obtain ⟨Bk,zn,tG,ni,r_⟩:=fD
 have nS:=hr.mono (j:=1) (by decide)
 unfold vz
 exact (ai (aO (PW.pt (ez (bF (bj (aS (pv 0) rfl))) (dS (bF (bj (aL mR j4 rfl mM mV mU .nil aw (ab (aV (pv 0) T.cl_House i4 lZ i6 lJ .nil aw (ab (pv 1) ah)) (ab (pv 1) ah))))))))
   (aj (ao (bZ ah)))
   aA)
   (aj (ao (aV (pv 0) T.cl_House ni tG nS r_ .nil aw (ab (pv 1) (ab aF ah))))))
theorem BZ{ac:Addr}(dO:Sp)(aa:Addr)(T:Txt K mg aa ac)
  (ji:aB P w K mg base aa 1 "forget" ["self"] dO)
  (hr:Room 1 (A.deeper (PyProof.Rows.envOfC "House.stop" (af lf) s.heap.objs.size f cdv))) :
  PSs (bi bw P w K mg base ["self"] "House.stop" (af lf) f cdv A outer s H E).nox (al lf) (uv K dO aa):=by
 have hu:=aY hr
 have hu64:=hr.units
 have hu65:=aH hr
 obtain ⟨Iq,CF,yN,uB,yu⟩:=ji
 have vZ:=hr.mono (j:=1) (by decide)
 unfold uv
 exact (ai (dX (pv 0) bA rfl)
   (aj (bu (fV (pv 0) T.cl_House uB yN vZ yu .nil aw))))
theorem BJ{ac:Addr}(gO:Sp)(cf:Sp)(aa:Addr)(T:Txt K mg aa ac)
  (rj:aJ P w K mg base 3 "left_open" ["book"] gO)(fu:aB P w K mg base aa 2 "decide" ["self","bargain","word"] cf)
  (hr:Room 3 (A.deeper (PyProof.Rows.envOfC "House.wake" (af kh) s.heap.objs.size f cdv))) :
  PSs (bi bw P w K mg base ["self","undecided","sent","bargain"] "House.wake" (af kh) f cdv A outer s H E).nox (al kh) (vM K gO cf aa):=by
 have hu:=aY hr
 have hu64:=hr.units
 have hu65:=aH hr
 obtain ⟨Kx,Jz,IM,Hq,Hj,Ip⟩:=rj
 have E4:=hr.mono (j:=3) (by decide)
 obtain ⟨B4,za,oN,mr,oP⟩:=fu
 have ml:=hr.mono (j:=2) (by decide)
 unfold vM
 exact (ai (dX (pv 0) bA rfl)
   (ai (aN (i:=1) zsc10.nd rfl (Or.inl rfl) (aL IM E4 rfl Hq Hj Ip .nil aw (ab (aS (pv 0) rfl) ah)))
   (ai (aN (i:=2) zsc10.nd rfl (Or.inl rfl) (bZ ah))
   (ai (da PassesOwn.never rfl (b6 (pv 1)) (bq (i:=3) zsc10.nd rfl (Or.inl rfl))
   (aj (bu (d7 PySem.F.plainAttrs_list PySem.F.slot_list_extend PySem.F.type_list_extend iY (pv 2) (ab (aV (pv 0) T.cl_House mr oN ml oP .nil aw (ab (pv 3) (ab aF ah))) ah)))))
   (aj (ao (pv 2)))))))
theorem AQ{ac:Addr}(bD:Sp)(aa:Addr)(T:Txt K mg aa ac)
  (dq:aB P w K mg base aa 3 "decision" ["self","bargain"] bD)
  (hr:Room 3 (A.deeper (PyProof.Rows.envOfC "House.is_spent" (af kz) s.heap.objs.size f cdv))) :
  PSs (bi bw P w K mg base ["self","letter"] "House.is_spent" (af kz) f cdv A outer s H E).nox (al kz) (wz K bD aa):=by
 have hu:=aY hr
 have hu64:=hr.units
 have hu65:=aH hr
 obtain ⟨uj,p_,kS,iF,jX⟩:=dq
 have iG:=hr.mono (j:=3) (by decide)
 unfold wz
 exact (ai (aO (aK lM (aQ ix_tup (pv 1) am (fun _ _=>rfl)) (b4 (ab aF (ab aF (ab aF ah)))) (by with_unfolding_all rfl))
   (aj (ao bA))
   aA)
   (aj (ao (lT (iH (aV (pv 0) T.cl_House iF kS iG jX .nil aw (ab (aQ ix_tup (pv 1) am (fun _ _=>rfl)) ah)))))))
theorem Bg{ac:Addr}(cC:Sp)(bV:Sp)(bz:Sp)(bD:Sp)(ci:Sp)(aa:Addr)(T:Txt K mg aa ac)
  (fo:aJ P w K mg base 2 "knows" ["book","bargain"] cC)(d8:aB P w K mg base aa 1 "page" ["self","bargain"] bV)(dn:aB P w K mg base aa 1 "write" ["self","word","bargain"] bz)(dq:aB P w K mg base aa 3 "decision" ["self","bargain"] bD)(fz:aB P w K mg base aa 1 "to_one" ["self","other","bargain","word"] ci)
  (hr:Room 3 (A.deeper (PyProof.Rows.envOfC "House.got_ask" (af jW) s.heap.objs.size f cdv))) :
  PSs (bi bw P w K mg base ["self","giver","bargain"] "House.got_ask" (af jW) f cdv A outer s H E).nox (al jW) (vg K cC bV bz bD ci aa):=by
 have hu:=aY hr
 have hu64:=hr.units
 have hu65:=aH hr
 obtain ⟨AO,y6,ts,si,tf,r9⟩:=fo
 have nC:=hr.mono (j:=2) (by decide)
 obtain ⟨yz,vh,lZ,i4,lJ⟩:=d8
 have i6:=hr.mono (j:=1) (by decide)
 obtain ⟨uV,pY,jj,gx,jo⟩:=dn
 have gN:=hr.mono (j:=1) (by decide)
 obtain ⟨uj,p_,kS,iF,jX⟩:=dq
 have iG:=hr.mono (j:=3) (by decide)
 obtain ⟨BD,zw,mK,j7,mP⟩:=fz
 have km:=hr.mono (j:=1) (by decide)
 unfold vg
 exact (fF (aO (bF (bj (aL ts nC rfl si tf r9 .nil aw (ab (aV (pv 0) T.cl_House i4 lZ i6 lJ .nil aw (ab (pv 2) ah)) (ab (pv 2) ah)))))
   (aj (bu (aV (pv 0) T.cl_House gx jj gN jo .nil aw (ab (qS (aK dy (pv 2) (aS (pv 0) rfl) (by with_unfolding_all rfl)) aF aF) (ab (pv 2) ah)))))
   aA)
   (ai (aO (aK bY (aV (pv 0) T.cl_House iF kS iG jX .nil aw (ab (pv 2) ah)) aF (aR _))
   (aj (ao (aV (pv 0) T.cl_House j7 mK km mP .nil aw (ab (pv 1) (ab (pv 2) (ab aF ah))))))
   aA)
   (aj (ao (aV (pv 0) T.cl_House j7 mK km mP .nil aw (ab (pv 1) (ab (pv 2) (ab aF ah))))))))
theorem Ca{ac:Addr}(bD:Sp)(ci:Sp)(cf:Sp)(aa:Addr)(T:Txt K mg aa ac)
  (dq:aB P w K mg base aa 3 "decision" ["self","bargain"] bD)(fz:aB P w K mg base aa 1 "to_one" ["self","other","bargain","word"] ci)(fu:aB P w K mg base aa 2 "decide" ["self","bargain","word"] cf)
  (hr:Room 3 (A.deeper (PyProof.Rows.envOfC "House.got_vote" (af j5) s.heap.objs.size f cdv))) :
  PSs (bi bw P w K mg base ["self","giver","bargain","word","decided","givers"] "House.got_vote" (af j5) f cdv A outer s H E).nox (al j5) (vm K bD ci cf aa):=by
 have hu:=aY hr
 have hu64:=hr.units
 have hu65:=aH hr
 obtain ⟨uj,p_,kS,iF,jX⟩:=dq
 have iG:=hr.mono (j:=3) (by decide)
 obtain ⟨BD,zw,mK,j7,mP⟩:=fz
 have km:=hr.mono (j:=1) (by decide)
 obtain ⟨B4,za,oN,mr,oP⟩:=fu
 have ml:=hr.mono (j:=2) (by decide)
 unfold vm
 exact (ai (aN (i:=4) zsc0d.nd rfl (Or.inl rfl) (aV (pv 0) T.cl_House iF kS iG jX .nil aw (ab (pv 2) ah)))
   (ai (aO (fL (iH (pv 4)))
   (aj (ao (qS (aK bY (pv 3) aF (aR _)) (aV (pv 0) T.cl_House j7 mK km mP .nil aw (ab (pv 1) (ab (pv 2) (ab (pv 4) ah)))) (bZ ah))))
   aA)
   (ai (aO (aK bY (pv 3) aF (aR _))
   (aj (ao (aV (pv 0) T.cl_House mr oN ml oP .nil aw (ab (pv 2) (ab aF ah)))))
   aA)
   (ai (aN (i:=5) zsc0d.nd rfl (Or.inl rfl) (ql (aS (pv 0) rfl) (pv 2) m7 ⟨rfl,rfl,rfl,rfl⟩))
   (ai (zD hu (pv 5) (pv 1) bA rfl)
   (ai (aO (aK kT (aG xx (by rfl) T.n_len PySem.boot_len (ab (pv 5) ah)) (aG aU (by rfl) T.n_len PySem.boot_len (ab (aS (pv 0) rfl) ah)) (aR _))
   (aj (ao (bZ ah)))
   aA)
   (aj (ao (aV (pv 0) T.cl_House mr oN ml oP .nil aw (ab (pv 2) (ab aF ah)))))))))))
theorem B1{ac:Addr}(bD:Sp)(bz:Sp)(aa:Addr)(T:Txt K mg aa ac)
  (dq:aB P w K mg base aa 3 "decision" ["self","bargain"] bD)(dn:aB P w K mg base aa 1 "write" ["self","word","bargain"] bz)
  (hr:Room 3 (A.deeper (PyProof.Rows.envOfC "House.got_decision" (af lr) s.heap.objs.size f cdv))) :
  PSs (bi bw P w K mg base ["self","bargain","word"] "House.got_decision" (af lr) f cdv A outer s H E).nox (al lr) (u7 K bD bz aa):=by
 have hu:=aY hr
 have hu64:=hr.units
 have hu65:=aH hr
 obtain ⟨uj,p_,kS,iF,jX⟩:=dq
 have iG:=hr.mono (j:=3) (by decide)
 obtain ⟨uV,pY,jj,gx,jo⟩:=dn
 have gN:=hr.mono (j:=1) (by decide)
 unfold u7
 exact (fF (aO (fL (ii (aV (pv 0) T.cl_House iF kS iG jX .nil aw (ab (pv 1) ah))))
   (aj (bu (aV (pv 0) T.cl_House gx jj gN jo .nil aw (ab (pv 2) (ab (pv 1) ah)))))
   aA)
   (aj (ao (bZ ah))))
theorem AZ{ac:Addr}(b0:Sp)(cC:Sp)(bV:Sp)(bD:Sp)(ci:Sp)(cf:Sp)(bz:Sp)(aa:Addr)(T:Txt K mg aa ac)
  (ej:aJ P w K mg base 3 "is_unsure" ["book","bargain"] b0)(fo:aJ P w K mg base 2 "knows" ["book","bargain"] cC)(d8:aB P w K mg base aa 1 "page" ["self","bargain"] bV)(dq:aB P w K mg base aa 3 "decision" ["self","bargain"] bD)(fz:aB P w K mg base aa 1 "to_one" ["self","other","bargain","word"] ci)(fu:aB P w K mg base aa 2 "decide" ["self","bargain","word"] cf)(dn:aB P w K mg base aa 1 "write" ["self","word","bargain"] bz)
  (hr:Room 3 (A.deeper (PyProof.Rows.envOfC "House.got_query" (af lm) s.heap.objs.size f cdv))) :
  PSs (bi bw P w K mg base ["self","giver","bargain","decided"] "House.got_query" (af lm) f cdv A outer s H E).nox (al lm) (vr K b0 cC bV bD ci cf bz aa):=by
 have hu:=aY hr
 have hu64:=hr.units
 have hu65:=aH hr
 obtain ⟨yQ,uW,mR,mM,mV,mU⟩:=ej
 have j4:=hr.mono (j:=3) (by decide)
 obtain ⟨AO,y6,ts,si,tf,r9⟩:=fo
 have nC:=hr.mono (j:=2) (by decide)
 obtain ⟨yz,vh,lZ,i4,lJ⟩:=d8
 have i6:=hr.mono (j:=1) (by decide)
 obtain ⟨uj,p_,kS,iF,jX⟩:=dq
 have iG:=hr.mono (j:=3) (by decide)
 obtain ⟨BD,zw,mK,j7,mP⟩:=fz
 have km:=hr.mono (j:=1) (by decide)
 obtain ⟨B4,za,oN,mr,oP⟩:=fu
 have ml:=hr.mono (j:=2) (by decide)
 obtain ⟨uV,pY,jj,gx,jo⟩:=dn
 have gN:=hr.mono (j:=1) (by decide)
 unfold vr
 exact (ai (aO (bj (aL mR j4 rfl mM mV mU .nil aw (ab (aV (pv 0) T.cl_House i4 lZ i6 lJ .nil aw (ab (pv 2) ah)) (ab (pv 2) ah))))
   (aj (ao (bZ ah)))
   aA)
   (ai (aN (i:=3) zsc07.nd rfl (Or.inl rfl) (aV (pv 0) T.cl_House iF kS iG jX .nil aw (ab (pv 2) ah)))
   (ai (aO (fL (iH (pv 3)))
   (aj (ao (aV (pv 0) T.cl_House j7 mK km mP .nil aw (ab (pv 1) (ab (pv 2) (ab (pv 3) ah))))))
   aA)
   (ai (aO (bj (aL ts nC rfl si tf r9 .nil aw (ab (aV (pv 0) T.cl_House i4 lZ i6 lJ .nil aw (ab (pv 2) ah)) (ab (pv 2) ah))))
   (aj (ao (aV (pv 0) T.cl_House mr oN ml oP .nil aw (ab (pv 2) (ab aF ah)))))
   aA)
   (ai (bu (aV (pv 0) T.cl_House gx jj gN jo .nil aw (ab aF (ab (pv 2) ah))))
   (aj (ao (aV (pv 0) T.cl_House j7 mK km mP .nil aw (ab (pv 1) (ab (pv 2) (ab aF ah)))))))))))
theorem B8{ac:Addr}(bz:Sp)(cu:Sp)(aa:Addr)(T:Txt K mg aa ac)
  (dn:aB P w K mg base aa 1 "write" ["self","word","bargain"] bz)(fD:aB P w K mg base aa 1 "to_others" ["self","bargain","word"] cu)
  (hr:Room 1 (A.deeper (PyProof.Rows.envOfC "House.decide" (af kx) s.heap.objs.size f cdv))) :
  PSs (bi bw P w K mg base ["self","bargain","word"] "House.decide" (af kx) f cdv A outer s H E).nox (al kx) (vT K bz cu aa):=by
 have hu:=aY hr
 have hu64:=hr.units
 have hu65:=aH hr
 obtain ⟨uV,pY,jj,gx,jo⟩:=dn
 have gN:=hr.mono (j:=1) (by decide)
 obtain ⟨Bk,zn,tG,ni,r_⟩:=fD
 have nS:=hr.mono (j:=1) (by decide)
 unfold vT
 exact (ai (bu (aV (pv 0) T.cl_House gx jj gN jo .nil aw (ab (pv 2) (ab (pv 1) ah))))
   (aj (ao (aV (pv 0) T.cl_House ni tG nS r_ .nil aw (ab (pv 1) (ab (pv 2) ah))))))
theorem Bb{ac:Addr}(cy:Sp)(bV:Sp)(aa:Addr)(T:Txt K mg aa ac)
  (fq:aJ P w K mg base 2 "decision_in" ["book","bargain"] cy)(d8:aB P w K mg base aa 1 "page" ["self","bargain"] bV)
  (hr:Room 2 (A.deeper (PyProof.Rows.envOfC "House.decision" (af jS) s.heap.objs.size f cdv))) :
  PSs (bi bw P w K mg base ["self","bargain"] "House.decision" (af jS) f cdv A outer s H E).nox (al jS) (wq K cy bV aa):=by
 have hu:=aY hr
 have hu64:=hr.units
 have hu65:=aH hr
 obtain ⟨AN,y9,qt,rK,qz,sk⟩:=fq
 have n8:=hr.mono (j:=2) (by decide)
 obtain ⟨yz,vh,lZ,i4,lJ⟩:=d8
 have i6:=hr.mono (j:=1) (by decide)
 unfold wq
 exact (aj (ao (aL qt n8 rfl rK qz sk .nil aw (ab (aV (pv 0) T.cl_House i4 lZ i6 lJ .nil aw (ab (pv 1) ah)) (ab (pv 1) ah)))))
theorem Bx{aa:Addr}{ac:Addr}(T:Txt K mg aa ac)

  (hr:Room 0 (A.deeper (PyProof.Rows.envOfC "House.page" (af kN) s.heap.objs.size f cdv))) :
  PSs (bi bw P w K mg base ["self","bargain","line"] "House.page" (af kN) f cdv A outer s H E).nox (al kN) (wC K ):=by
 have hu:=aY hr
 have hu64:=hr.units
 have hu65:=aH hr
 unfold wC
 exact (ai (sZ PassesOwn.never (aK kT (aS (pv 0) rfl) (aG aU (by rfl) T.n_len PySem.boot_len (ab (aS (pv 0) rfl) ah)) (aR _))
   (ai (aN (i:=2) zsc12.nd rfl (Or.inl rfl) (aQ ix_list (aS (pv 0) rfl) (aS (pv 0) rfl) (fun _ _=>rfl)))
   (ai (bu (d7 PySem.F.plainAttrs_list PySem.F.slot_list_append PySem.F.type_list_append cO (ql (aS (pv 0) rfl) (aQ ix_tup (pv 2) am (fun _ _=>rfl)) (bZ ah) ⟨rfl,rfl,rfl,rfl⟩) (ab (pv 2) ah)))
   (aj (xg (pv 0) am B7)))))
   (aj (ao (yJ hu (aS (pv 0) rfl) (pv 1) (bZ ah) ⟨rfl,rfl,rfl,rfl⟩))))
theorem AR{aa:Addr}{ac:Addr}(T:Txt K mg aa ac)

  (hr:Room 0 (A.deeper (PyProof.Rows.envOfC "House.write" (af lu) s.heap.objs.size f cdv))) :
  PSs (bi bw P w K mg base ["self","word","bargain"] "House.write" (af lu) f cdv A outer s H E).nox (al lu) (uX K ):=by
 have hu:=aY hr
 have hu64:=hr.units
 have hu65:=aH hr
 unfold uX
 exact (aj (bu (d7 PySem.F.plainAttrs_list PySem.F.slot_list_append PySem.F.type_list_append cO (aS (pv 0) rfl) (ab (b4 (ab (pv 1) (ab (pv 2) ah))) ah))))
theorem Bw{aa:Addr}{ac:Addr}(T:Txt K mg aa ac)

  (hr:Room 0 (A.deeper (PyProof.Rows.envOfC "House.to_one" (af jN) s.heap.objs.size f cdv))) :
  PSs (bi bw P w K mg base ["self","other","bargain","word"] "House.to_one" (af jN) f cdv A outer s H E).nox (al jN) (wa K ):=by
 have hu:=aY hr
 have hu64:=hr.units
 have hu65:=aH hr
 unfold wa
 exact (aj (ao (bZ (ab (b4 (ab (aS (pv 0) rfl) (ab (pv 1) (ab (pv 2) (ab (pv 3) ah))))) ah))))
theorem BU{aa:Addr}{ac:Addr}(T:Txt K mg aa ac)

  (hr:Room 0 (A.deeper (PyProof.Rows.envOfC "House.to_others" (af kd) s.heap.objs.size f cdv))) :
  PSs (bi bw P w K mg base ["self","bargain","word"] "House.to_others" (af kd) f cdv A outer s H E).nox (al kd) (vP K ):=by
 have hu:=aY hr
 have hu64:=hr.units
 have hu65:=aH hr
 unfold vP
 exact (aj (ao (dU rfl (show cj _ (["other","bargain","word","self"]:List Str) _ ([("word",s.heap.objs.size+1+2),("self",s.heap.objs.size+1+0),("bargain",s.heap.objs.size+1+1)]:List (Str×Addr)) ([none,some 1,some 2,some 0]:List (Option Nat)) from ⟨by with_unfolding_all rfl,rfl,rfl,rfl,rfl,⟨rfl,⟨rfl,⟨rfl,trivial⟩⟩⟩,⟨⟨rfl,Or.inl rfl,Or.inl rfl,_,rfl,rfl⟩,⟨⟨rfl,Or.inl rfl,Or.inl rfl,_,rfl,rfl⟩,⟨⟨rfl,Or.inl rfl,Or.inl rfl,_,rfl,rfl⟩,trivial⟩⟩⟩⟩) (b6 (aS (pv 0) rfl)) (fun _ _ _ _=>(bq (i:=0) zE rfl (Or.inl rfl))) (fun _ _ _ _=>dY) (fun _ _ _ _=>(b4 (ab (aS (pv 3) rfl) (ab (pv 0) (ab (pv 1) (ab (pv 2) ah)))))))))
theorem Ao{aa:Addr}{ac:Addr}(T:Txt K mg aa ac)

  (hr:Room 0 (A.deeper (PyProof.Rows.envOfC "bargains_against" (af jT) s.heap.objs.size f cdv))) :
  PSs (bi bw P w K mg base ["against","number"] "bargains_against" (af jT) f cdv A outer s H E).nox (al jT) (uS K ):=by
 have hu:=aY hr
 have hu64:=hr.units
 have hu65:=aH hr
 unfold uS
 exact (aj (ao (dU rfl (show cj _ (["pair","number"]:List Str) _ ([("number",s.heap.objs.size+1+0)]:List (Str×Addr)) ([none,some 1]:List (Option Nat)) from ⟨by with_unfolding_all rfl,rfl,rfl,rfl,rfl,⟨rfl,trivial⟩,⟨⟨rfl,Or.inl rfl,Or.inl rfl,_,rfl,rfl⟩,trivial⟩⟩) (b6 (pv 0)) (fun _ _ _ _=>(bq (i:=0) z3 rfl (Or.inl rfl))) (fun _ _ _ _=>(eP (aK bY (aQ ix_tup (pv 0) am (fun _ _=>rfl)) (pv 1) (aR _)))) (fun _ _ _ _=>(aQ ix_tup (pv 0) am (fun _ _=>rfl))))))
theorem AF{ac:Addr}(gK:Sp)(gL:Sp)(aa:Addr)(T:Txt K mg aa ac)
  (qU:aJ P w K mg base 1 "bargains_against" ["against","number"] gK)(qd:lR P w K mg base aa 2 ["self","number","count","against"] gL)
  (hr:Room 3 (A.deeper (PyProof.Rows.envOfC "Hall.__init__" (af jO) s.heap.objs.size f cdv))) :
  PSs (bi bw P w K mg base ["self","count","against"] "Hall.__init__" (af jO) f cdv A outer s H E).nox (al jO) (wB K gK gL aa):=by
 have hu:=aY hr
 have hu64:=hr.units
 have hu65:=aH hr
 obtain ⟨Kn,JD,I_,IT,IC,GA⟩:=qU
 have D6:=hr.mono (j:=1) (by decide)
 obtain ⟨J_,JG,GQ,mk_House,G1⟩:=qd
 have Dz:=hr.mono (j:=3) (by decide)
 unfold wB
 exact (ai (dX (pv 0) (dU rfl (show cj _ (["number","count","against"]:List Str) _ ([("count",s.heap.objs.size+1+0),("against",s.heap.objs.size+1+1)]:List (Str×Addr)) ([none,some 1,some 2]:List (Option Nat)) from ⟨by with_unfolding_all rfl,rfl,rfl,rfl,rfl,⟨rfl,⟨rfl,trivial⟩⟩,⟨⟨rfl,Or.inl rfl,Or.inl rfl,_,rfl,rfl⟩,⟨⟨rfl,Or.inl rfl,Or.inl rfl,_,rfl,rfl⟩,trivial⟩⟩⟩) (cN rfl T.n_range (ab (pv 1) ah)) (fun _ _ _ _=>(bq (i:=0) Ac rfl (Or.inl rfl))) (fun _ _ _ _=>dY) (fun _ _ _ _=>(oA mk_House GQ Dz rfl T.m_House G1 .nil aw (ab (pv 0) (ab (pv 1) (ab (aL I_ D6 rfl IT IC GA .nil aw (ab (pv 2) (ab (pv 0) ah))) ah)))))) rfl)
   (ai (dX (pv 0) (bZ ah) rfl)
   (aj (dX (pv 0) (bZ ah) rfl))))
theorem Bz{aa:Addr}(hZ:Sp)(dI:Sp)(gz:Sp)(gi:Sp)(h7:Sp)(gh:Sp)(ac:Addr)(T:Txt K mg aa ac)
  (sR:aB P w K mg base ac 4 "begin" ["self","bargain","stays"] hZ)(jf:aB P w K mg base ac 6 "carry" ["self","which","stays"] dI)(tj:aB P w K mg base ac 5 "query" ["self","number","bargain"] gz)(sS:aB P w K mg base ac 3 "stop" ["self","number"] gi)(rW:aB P w K mg base ac 5 "wake" ["self","number"] h7)(qO:aB P w K mg base ac 7 "sweep" ["self"] gh)
  (hr:Room 7 (A.deeper (PyProof.Rows.envOfC "Hall.do" (af jR) s.heap.objs.size f cdv))) :
  PSs (bi bw P w K mg base ["self","deed","word"] "Hall.do" (af jR) f cdv A outer s H E).nox (al jR) (vk K hZ dI gz gi h7 gh ac):=by
 have hu:=aY hr
 have hu64:=hr.units
 have hu65:=aH hr
 obtain ⟨Kp,Js,HX,Gn,IB⟩:=sR
 have C':=hr.mono (j:=4) (by decide)
 obtain ⟨Jb,Em,yK,wE,yS⟩:=jf
 have uJ:=hr.mono (j:=6) (by decide)
 obtain ⟨Kj,Jv,IA,Fn,GK⟩:=tj
 have EJ:=hr.mono (j:=5) (by decide)
 obtain ⟨Ku,Jg,IQ,CO,HN⟩:=sS
 have Cp:=hr.mono (j:=3) (by decide)
 obtain ⟨Kl,Jl,Hn,FC,GT⟩:=rW
 have Fk:=hr.mono (j:=5) (by decide)
 obtain ⟨Kt,JK,GM,Dh,Hs⟩:=qO
 have FX:=hr.mono (j:=7) (by decide)
 unfold vk
 exact (ai (aN (i:=2) zsc1m.nd rfl (Or.inl rfl) (aQ ix_tup (pv 1) am (fun _ _=>rfl)))
   (ai (aO (aK bY (pv 2) aF (aR _))
   (aj (ao (aV (pv 0) T.cl_Hall Gn HX C' IB .nil aw (ab (aQ ix_tup (pv 1) am (fun _ _=>rfl)) (ab (aQ ix_tup (pv 1) am (fun _ _=>rfl)) ah)))))
   aA)
   (ai (aO (aK bY (pv 2) aF (aR _))
   (aj (ao (aV (pv 0) T.cl_Hall wE yK uJ yS .nil aw (ab (aQ ix_tup (pv 1) am (fun _ _=>rfl)) (ab (aQ ix_tup (pv 1) am (fun _ _=>rfl)) ah)))))
   aA)
   (ai (aO (aK bY (pv 2) aF (aR _))
   (aj (ao (aV (pv 0) T.cl_Hall Fn IA EJ GK .nil aw (ab (aQ ix_tup (pv 1) am (fun _ _=>rfl)) (ab (aQ ix_tup (pv 1) am (fun _ _=>rfl)) ah)))))
   aA)
   (ai (aO (aK bY (pv 2) aF (aR _))
   (aj (ao (aV (pv 0) T.cl_Hall CO IQ Cp HN .nil aw (ab (aQ ix_tup (pv 1) am (fun _ _=>rfl)) ah))))
   aA)
   (ai (aO (aK bY (pv 2) aF (aR _))
   (aj (ao (aV (pv 0) T.cl_Hall FC Hn Fk GT .nil aw (ab (aQ ix_tup (pv 1) am (fun _ _=>rfl)) ah))))
   aA)
   (aj (ao (fV (pv 0) T.cl_Hall Dh GM FX Hs .nil aw)))))))))
theorem BO(cC:Sp)(gR:Sp)(dH:Sp)(aa:Addr)(ac:Addr)(T:Txt K mg aa ac)
  (fo:aJ P w K mg base 2 "knows" ["book","bargain"] cC)(tE:aB P w K mg base aa 2 "begin" ["self","bargain"] gR)(jg:aB P w K mg base ac 3 "send_or_stop" ["self","house","sent","stays"] dH)
  (hr:Room 3 (A.deeper (PyProof.Rows.envOfC "Hall.begin" (af lp) s.heap.objs.size f cdv))) :
  PSs (bi bw P w K mg base ["self","bargain","stays","house","ahead"] "Hall.begin" (af lp) f cdv A outer s H E).nox (al lp) (vY K cC gR dH aa ac):=by
 have hu:=aY hr
 have hu64:=hr.units
 have hu65:=aH hr
 obtain ⟨AO,y6,ts,si,tf,r9⟩:=fo
 have nC:=hr.mono (j:=2) (by decide)
 obtain ⟨Kc,Jy,IZ,FU,HJ⟩:=tE
 have Eh:=hr.mono (j:=2) (by decide)
 obtain ⟨IE,Eu,yL,vq,yb⟩:=jg
 have vW:=hr.mono (j:=3) (by decide)
 unfold vY
 exact (ai (aN (i:=3) zsc13.nd rfl (Or.inl rfl) (aQ ix_list (aS (pv 0) rfl) (aW bT (pv 1) (aG aU (by rfl) T.n_len PySem.boot_len (ab (aS (pv 0) rfl) ah))) (fun _ _=>rfl)))
   (ai (aO (PW.pt (ez (bF (bj (aS (pv 3) rfl))) (dS (bj (aL ts nC rfl si tf r9 .nil aw (ab (aS (pv 3) rfl) (ab (pv 1) ah)))))))
   (aj (ao fK))
   aA)
   (ai (aN (i:=4) zsc13.nd rfl (Or.inl rfl) (aG aU (by rfl) T.n_len PySem.boot_len (ab (aS (pv 3) rfl) ah)))
   (ai (bu (aV (pv 0) T.cl_Hall vq yL vW yb .nil aw (ab (pv 3) (ab (aV (pv 3) T.cl_House FU IZ Eh HJ .nil aw (ab (pv 1) ah)) (ab (pv 2) ah)))))
   (aj (ao (fZ jF (aS (pv 3) rfl) (f_ (pv 4)) jD)))))))
theorem AT(gX:Sp)(dH:Sp)(aa:Addr)(ac:Addr)(T:Txt K mg aa ac)
  (rn:aB P w K mg base aa 5 "got" ["self","letter"] gX)(jg:aB P w K mg base ac 3 "send_or_stop" ["self","house","sent","stays"] dH)
  (hr:Room 5 (A.deeper (PyProof.Rows.envOfC "Hall.carry" (af kH) s.heap.objs.size f cdv))) :
  PSs (bi bw P w K mg base ["self","which","stays","letter","house","ahead"] "Hall.carry" (af kH) f cdv A outer s H E).nox (al kH) (vX K gX dH aa ac):=by
 have hu:=aY hr
 have hu64:=hr.units
 have hu65:=aH hr
 obtain ⟨JW,Ji,Hy,DV,Hb⟩:=rn
 have Cq:=hr.mono (j:=5) (by decide)
 obtain ⟨IE,Eu,yL,vq,yb⟩:=jg
 have vW:=hr.mono (j:=3) (by decide)
 unfold vX
 exact (ai (aO (aK De (pv 1) (aG aU (by rfl) T.n_len PySem.boot_len (ab (aS (pv 0) rfl) ah)) (aR _))
   (aj (ao fK))
   aA)
   (ai (aN (i:=3) zsc11.nd rfl (Or.inl rfl) (aQ ix_list (aS (pv 0) rfl) (pv 1) (fun _ _=>rfl)))
   (ai (aN (i:=4) zsc11.nd rfl (Or.inl rfl) (aQ ix_list (aS (pv 0) rfl) (aQ ix_tup (pv 3) am (fun _ _=>rfl)) (fun _ _=>rfl)))
   (ai (aO (bF (bj (aS (pv 4) rfl)))
   (aj (ao fK))
   aA)
   (ai (aN (i:=5) zsc11.nd rfl (Or.inl rfl) (aG aU (by rfl) T.n_len PySem.boot_len (ab (aS (pv 4) rfl) ah)))
   (ai (bu (aV (pv 0) T.cl_Hall vq yL vW yb .nil aw (ab (pv 4) (ab (aV (pv 4) T.cl_House DV Hy Cq Hb .nil aw (ab (pv 3) ah)) (ab (pv 2) ah)))))
   (aj (ao (fZ jF (aS (pv 4) rfl) (f_ (pv 5)) jD)))))))))
theorem A7(hE:Sp)(cw:Sp)(aa:Addr)(ac:Addr)(T:Txt K mg aa ac)
  (qg:aB P w K mg base aa 4 "query" ["self","bargain"] hE)(fw:aB P w K mg base ac 1 "send" ["self","sent"] cw)
  (hr:Room 4 (A.deeper (PyProof.Rows.envOfC "Hall.query" (af kI) s.heap.objs.size f cdv))) :
  PSs (bi bw P w K mg base ["self","number","bargain","sent"] "Hall.query" (af kI) f cdv A outer s H E).nox (al kI) (ux K hE cw aa ac):=by
 have hu:=aY hr
 have hu64:=hr.units
 have hu65:=aH hr
 obtain ⟨Kr,Ju,Ic,E9,GS⟩:=qg
 have EC:=hr.mono (j:=4) (by decide)
 obtain ⟨Ar,zp,sg,nX,qa⟩:=fw
 have nJ:=hr.mono (j:=1) (by decide)
 unfold ux
 exact (ai (aN (i:=3) zsc16.nd rfl (Or.inl rfl) (aV (aQ ix_list (aS (pv 0) rfl) (pv 1) (fun _ _=>rfl)) T.cl_House E9 Ic EC GS .nil aw (ab (pv 2) ah)))
   (ai (bu (aV (pv 0) T.cl_Hall nX sg nJ qa .nil aw (ab (pv 3) ah)))
   (aj (ao (dB kD (aG aU (by rfl) T.n_len PySem.boot_len (ab (pv 3) ah)) am (aR _))))))
theorem BI{ac:Addr}(dN:Sp)(aa:Addr)(T:Txt K mg aa ac)
  (jq:aB P w K mg base aa 2 "stop" ["self"] dN)
  (hr:Room 2 (A.deeper (PyProof.Rows.envOfC "Hall.stop" (af j3) s.heap.objs.size f cdv))) :
  PSs (bi bw P w K mg base ["self","number","house"] "Hall.stop" (af j3) f cdv A outer s H E).nox (al j3) (uK K dN aa):=by
 have hu:=aY hr
 have hu64:=hr.units
 have hu65:=aH hr
 obtain ⟨G9,Fx,yR,uC,yH⟩:=jq
 have uO:=hr.mono (j:=2) (by decide)
 unfold uK
 exact (ai (aN (i:=2) zsc19.nd rfl (Or.inl rfl) (aQ ix_list (aS (pv 0) rfl) (pv 1) (fun _ _=>rfl)))
   (ai (aO (bF (bj (aS (pv 2) rfl)))
   (aj (ao bA))
   aA)
   (ai (bu (fV (pv 2) T.cl_House uC yR uO yH .nil aw))
   (aj (ao bA)))))
theorem Ce(gJ:Sp)(cw:Sp)(aa:Addr)(ac:Addr)(T:Txt K mg aa ac)
  (rh:aB P w K mg base aa 4 "wake" ["self"] gJ)(fw:aB P w K mg base ac 1 "send" ["self","sent"] cw)
  (hr:Room 4 (A.deeper (PyProof.Rows.envOfC "Hall.wake" (af kQ) s.heap.objs.size f cdv))) :
  PSs (bi bw P w K mg base ["self","number","house","ahead"] "Hall.wake" (af kQ) f cdv A outer s H E).nox (al kQ) (vf K gJ cw aa ac):=by
 have hu:=aY hr
 have hu64:=hr.units
 have hu65:=aH hr
 obtain ⟨Ks,Jh,HK,Gp,IU⟩:=rh
 have Dq:=hr.mono (j:=4) (by decide)
 obtain ⟨Ar,zp,sg,nX,qa⟩:=fw
 have nJ:=hr.mono (j:=1) (by decide)
 unfold vf
 exact (ai (aN (i:=2) zsc1i.nd rfl (Or.inl rfl) (aQ ix_list (aS (pv 0) rfl) (pv 1) (fun _ _=>rfl)))
   (ai (aO (bj (aS (pv 2) rfl))
   (aj (ao fK))
   aA)
   (ai (aN (i:=3) zsc1i.nd rfl (Or.inl rfl) (aG aU (by rfl) T.n_len PySem.boot_len (ab (aS (pv 2) rfl) ah)))
   (ai (bu (aV (pv 0) T.cl_Hall nX sg nJ qa .nil aw (ab (fV (pv 2) T.cl_House Gp HK Dq IU .nil aw) ah)))
   (aj (ao (fZ jF (aS (pv 2) rfl) (f_ (pv 3)) jD)))))))
theorem AI{aa:Addr}(dI:Sp)(g_:Sp)(ac:Addr)(T:Txt K mg aa ac)
  (jf:aB P w K mg base ac 6 "carry" ["self","which","stays"] dI)(sV:aB P w K mg base ac 5 "is_spent_letter" ["self","which"] g_)
  (hr:Room 6 (A.deeper (PyProof.Rows.envOfC "Hall.sweep" (af lg) s.heap.objs.size f cdv))) :
  PSs (bi bw P w K mg base ["self","written","place","which","lines","number"] "Hall.sweep" (af lg) f cdv A outer s H E).nox (al lg) (uY K dI g_ ac):=by
 have hu:=aY hr
 have hu64:=hr.units
 have hu65:=aH hr
 obtain ⟨Jb,Em,yK,wE,yS⟩:=jf
 have uJ:=hr.mono (j:=6) (by decide)
 obtain ⟨JT,JF,GN,Fq,Gy⟩:=sV
 have C6:=hr.mono (j:=5) (by decide)
 unfold uY
 exact (ai (aN (i:=1) zsc14.nd rfl (Or.inl rfl) (bZ ah))
   (ai (aN (i:=2) zsc14.nd rfl (Or.inl rfl) am)
   (ai (sZ PassesOwn.never (aK kT (pv 2) (aG aU (by rfl) T.n_len PySem.boot_len (ab (aS (pv 0) rfl) ah)) (aR _))
   (ai (aN (i:=3) zsc14.nd rfl (Or.inl rfl) (aQ ix_list (aS (pv 0) rfl) (pv 2) (fun _ _=>rfl)))
   (ai (aN (i:=4) zsc14.nd rfl (Or.inl rfl) (aV (pv 0) T.cl_Hall wE yK uJ yS .nil aw (ab (pv 3) (ab bA ah))))
   (fF (aO (fL (iH (pv 4)))
   (ai (aN (i:=5) zsc14.nd rfl (Or.inr rfl) (aQ ix_tup (aQ ix_list (aS (pv 0) rfl) (pv 3) (fun _ _=>rfl)) am (fun _ _=>rfl)))
   (aj (bu (d7 PySem.F.plainAttrs_list PySem.F.slot_list_extend PySem.F.type_list_extend iY (pv 1) (ab (dU rfl (show cj _ (["line","number"]:List Str) _ ([("number",s.heap.objs.size+1+1)]:List (Str×Addr)) ([none,some 5]:List (Option Nat)) from ⟨by with_unfolding_all rfl,rfl,rfl,rfl,rfl,⟨rfl,trivial⟩,⟨⟨rfl,Or.inl rfl,Or.inl rfl,_,rfl,rfl⟩,trivial⟩⟩) (b6 (pv 4)) (fun _ _ _ _=>(bq (i:=0) z_ rfl (Or.inl rfl))) (fun _ _ _ _=>dY) (fun _ _ _ _=>(b4 (ab (pv 1) (ab (pv 0) ah))))) ah)))))
   aA)
   (aj (A9 (i:=2) zsc14.nd rfl (Or.inl rfl) am Bv))))))
   (ai (dX (pv 0) (dU rfl (show cj _ (["which","self"]:List Str) _ ([("self",s.heap.objs.size+1+0)]:List (Str×Addr)) ([none,some 0]:List (Option Nat)) from ⟨by with_unfolding_all rfl,rfl,rfl,rfl,rfl,⟨rfl,trivial⟩,⟨⟨rfl,Or.inl rfl,Or.inl rfl,_,rfl,rfl⟩,trivial⟩⟩) (b6 (aS (pv 0) rfl)) (fun _ _ _ _=>(bq (i:=0) z7 rfl (Or.inl rfl))) (fun _ _ _ _=>(eP (bF (bj (aV (pv 1) T.cl_Hall Fq GN C6 Gy .nil aw (ab (pv 0) ah)))))) (fun _ _ _ _=>(pv 0))) rfl)
   (aj (ao (pv 1)))))))
theorem BK{ac:Addr}(gj:Sp)(aa:Addr)(T:Txt K mg aa ac)
  (qH:aB P w K mg base aa 4 "is_spent" ["self","letter"] gj)
  (hr:Room 4 (A.deeper (PyProof.Rows.envOfC "Hall.is_spent_letter" (af j2) s.heap.objs.size f cdv))) :
  PSs (bi bw P w K mg base ["self","which","letter"] "Hall.is_spent_letter" (af j2) f cdv A outer s H E).nox (al j2) (vH K gj aa):=by
 have hu:=aY hr
 have hu64:=hr.units
 have hu65:=aH hr
 obtain ⟨JU,Jk,IW,Dl,GG⟩:=qH
 have FK:=hr.mono (j:=4) (by decide)
 unfold vH
 exact (ai (aN (i:=2) zsc00.nd rfl (Or.inl rfl) (aQ ix_list (aS (pv 0) rfl) (pv 1) (fun _ _=>rfl)))
   (aj (ao (aV (aQ ix_list (aS (pv 0) rfl) (aQ ix_tup (pv 2) am (fun _ _=>rfl)) (fun _ _=>rfl)) T.cl_House Dl IW FK GG .nil aw (ab (pv 2) ah)))))
theorem BX(cw:Sp)(dN:Sp)(ac:Addr)(aa:Addr)(T:Txt K mg aa ac)
  (fw:aB P w K mg base ac 1 "send" ["self","sent"] cw)(jq:aB P w K mg base aa 2 "stop" ["self"] dN)
  (hr:Room 2 (A.deeper (PyProof.Rows.envOfC "Hall.send_or_stop" (af kG) s.heap.objs.size f cdv))) :
  PSs (bi bw P w K mg base ["self","house","sent","stays"] "Hall.send_or_stop" (af kG) f cdv A outer s H E).nox (al kG) (vp K cw dN ac aa):=by
 have hu:=aY hr
 have hu64:=hr.units
 have hu65:=aH hr
 obtain ⟨Ar,zp,sg,nX,qa⟩:=fw
 have nJ:=hr.mono (j:=1) (by decide)
 obtain ⟨G9,Fx,yR,uC,yH⟩:=jq
 have uO:=hr.mono (j:=2) (by decide)
 unfold vp
 exact (aj (aO (bj (pv 3))
   (aj (bu (aV (pv 0) T.cl_Hall nX sg nJ qa .nil aw (ab (pv 2) ah))))
   (aj (bu (fV (pv 1) T.cl_House uC yR uO yH .nil aw)))))
theorem Cd{aa:Addr}{ac:Addr}(T:Txt K mg aa ac)

  (hr:Room 0 (A.deeper (PyProof.Rows.envOfC "Hall.send" (af ku) s.heap.objs.size f cdv))) :
  PSs (bi bw P w K mg base ["self","sent","first"] "Hall.send" (af ku) f cdv A outer s H E).nox (al ku) (wx K ):=by
 have hu:=aY hr
 have hu64:=hr.units
 have hu65:=aH hr
 unfold wx
 exact (ai (aN (i:=2) zsc1f.nd rfl (Or.inl rfl) (aG aU (by rfl) T.n_len PySem.boot_len (ab (aS (pv 0) rfl) ah)))
   (ai (bu (d7 PySem.F.plainAttrs_list PySem.F.slot_list_extend PySem.F.type_list_extend iY (aS (pv 0) rfl) (ab (pv 1) ah)))
   (aj (bu (d7 PySem.F.plainAttrs_list PySem.F.slot_list_extend PySem.F.type_list_extend iY (aS (pv 0) rfl) (ab (cz (rY rfl) (by rfl) T.n_list PySem.Pv.boot_list (ab (cz xi (by rfl) T.n_range PyProof.Rows.boot_range (ab (pv 2) (ab (aG aU (by rfl) T.n_len PySem.boot_len (ab (aS (pv 0) rfl) ah)) ah))) ah)) ah))))))
theorem Bc{aa:Addr}(dP:Sp)(dJ:Sp)(ac:Addr)(T:Txt K mg aa ac)
  (jv:aB P w K mg base ac 8 "do" ["self","deed"] dJ)(ju:lR P w K mg base ac 4 ["self","count","against"] dP)
  (hr:Room 8 (A.deeper (PyProof.Rows.envOfC "hall_after" (af kK) s.heap.objs.size f cdv))) :
  PSs (bi bw P w K mg base ["count","against","deeds","hall","deed"] "hall_after" (af kK) f cdv A outer s H E).nox (al kK) (vc K dP dJ ac):=by
 have hu:=aY hr
 have hu64:=hr.units
 have hu65:=aH hr
 obtain ⟨Gz,C_,yI,vJ,yU⟩:=jv
 have vU:=hr.mono (j:=8) (by decide)
 obtain ⟨Ha,DT,yO,mk_Hall,yY⟩:=ju
 have ur:=hr.mono (j:=5) (by decide)
 unfold vc
 exact (ai (aN (i:=3) zsc0z.nd rfl (Or.inl rfl) (oA mk_Hall yO ur rfl T.m_Hall yY .nil aw (ab (pv 0) (ab (pv 1) ah))))
   (ai (da PassesOwn.never rfl (b6 (pv 2)) (bq (i:=4) zsc0z.nd rfl (Or.inl rfl))
   (aj (bu (aV (pv 3) T.cl_Hall vJ yI vU yU .nil aw (ab (pv 4) ah)))))
   (aj (ao (pv 3)))))
theorem BN{aa:Addr}(dP:Sp)(dJ:Sp)(ac:Addr)(T:Txt K mg aa ac)
  (jv:aB P w K mg base ac 8 "do" ["self","deed"] dJ)(ju:lR P w K mg base ac 4 ["self","count","against"] dP)
  (hr:Room 8 (A.deeper (PyProof.Rows.envOfC "answers" (af jK) s.heap.objs.size f cdv))) :
  PSs (bi bw P w K mg base ["count","against","deeds","hall"] "answers" (af jK) f cdv A outer s H E).nox (al jK) (v9 K dP dJ ac):=by
 have hu:=aY hr
 have hu64:=hr.units
 have hu65:=aH hr
 obtain ⟨Gz,C_,yI,vJ,yU⟩:=jv
 have vU:=hr.mono (j:=8) (by decide)
 obtain ⟨Ha,DT,yO,mk_Hall,yY⟩:=ju
 have ur:=hr.mono (j:=5) (by decide)
 unfold v9
 exact (ai (aN (i:=3) zsc1k.nd rfl (Or.inr rfl) (oA mk_Hall yO ur rfl T.m_Hall yY .nil aw (ab (pv 0) (ab (pv 1) ah))))
   (aj (ao (dU rfl (show cj _ (["deed","hall"]:List Str) _ ([("hall",s.heap.objs.size+1+0)]:List (Str×Addr)) ([none,some 3]:List (Option Nat)) from ⟨by with_unfolding_all rfl,rfl,rfl,rfl,rfl,⟨rfl,trivial⟩,⟨⟨rfl,Or.inl rfl,Or.inl rfl,_,rfl,rfl⟩,trivial⟩⟩) (b6 (pv 2)) (fun _ _ _ _=>(bq (i:=0) zJ rfl (Or.inl rfl))) (fun _ _ _ _=>dY) (fun _ _ _ _=>(aV (pv 1) T.cl_Hall vJ yI vU yU .nil aw (ab (pv 0) ah)))))))
theorem At{aa:Addr}{ac:Addr}(cm:Sp)(T:Txt K mg aa ac)
  (fC:aJ P w K mg base 9 "hall_after" ["count","against","deeds"] cm)
  (hr:Room 9 (A.deeper (PyProof.Rows.envOfC "books_after" (af jJ) s.heap.objs.size f cdv))) :
  PSs (bi bw P w K mg base ["count","against","deeds"] "books_after" (af jJ) f cdv A outer s H E).nox (al jJ) (uu K cm):=by
 have hu:=aY hr
 have hu64:=hr.units
 have hu65:=aH hr
 obtain ⟨Bo,zr,qk,qr,ro,qe⟩:=fC
 have og:=hr.mono (j:=9) (by decide)
 unfold uu
 exact (aj (ao (dU rfl (show cj _ (["house"]:List Str) _ ([]:List (Str×Addr)) ([none]:List (Option Nat)) from ⟨by with_unfolding_all rfl,rfl,rfl,rfl,rfl,trivial,trivial⟩) (b6 (aS (aL qk og rfl qr ro qe .nil aw (ab (pv 0) (ab (pv 1) (ab (pv 2) ah)))) rfl)) (fun _ _ _ _=>(bq (i:=0) Aj rfl (Or.inl rfl))) (fun _ _ _ _=>dY) (fun _ _ _ _=>(aS (pv 0) rfl)))))
theorem Bh{aa:Addr}{ac:Addr}(cm:Sp)(T:Txt K mg aa ac)
  (fC:aJ P w K mg base 9 "hall_after" ["count","against","deeds"] cm)
  (hr:Room 9 (A.deeper (PyProof.Rows.envOfC "letters_after" (af kB) s.heap.objs.size f cdv))) :
  PSs (bi bw P w K mg base ["count","against","deeds"] "letters_after" (af kB) f cdv A outer s H E).nox (al kB) (uL K cm):=by
 have hu:=aY hr
 have hu64:=hr.units
 have hu65:=aH hr
 obtain ⟨Bo,zr,qk,qr,ro,qe⟩:=fC
 have og:=hr.mono (j:=9) (by decide)
 unfold uL
 exact (aj (ao (aS (aL qk og rfl qr ro qe .nil aw (ab (pv 0) (ab (pv 1) (ab (pv 2) ah)))) rfl)))
theorem A5{aa:Addr}{ac:Addr}(b0:Sp)(T:Txt K mg aa ac)
  (ej:aJ P w K mg base 3 "is_unsure" ["book","bargain"] b0)
  (hr:Room 3 (A.deeper (PyProof.Rows.envOfC "is_up_and_unsure" (af ke) s.heap.objs.size f cdv))) :
  PSs (bi bw P w K mg base ["house","bargain"] "is_up_and_unsure" (af ke) f cdv A outer s H E).nox (al ke) (wo K b0):=by
 have hu:=aY hr
 have hu64:=hr.units
 have hu65:=aH hr
 obtain ⟨yQ,uW,mR,mM,mV,mU⟩:=ej
 have j4:=hr.mono (j:=3) (by decide)
 unfold wo
 exact (aj (ao (eA (aS (pv 0) rfl) (fe (aL mR j4 rfl mM mV mU .nil aw (ab (aS (pv 0) rfl) (ab (pv 1) ah)))))))
theorem BQ{aa:Addr}{ac:Addr}(T:Txt K mg aa ac)

  (hr:Room 0 (A.deeper (PyProof.Rows.envOfC "tells_one_up" (af kA) s.heap.objs.size f cdv))) :
  PSs (bi bw P w K mg base ["hall","letter","bargain"] "tells_one_up" (af kA) f cdv A outer s H E).nox (al kA) (uP K ):=by
 have hu:=aY hr
 have hu64:=hr.units
 have hu65:=aH hr
 unfold uP
 exact (aj (ao (eA (dB bY (aQ ix_tup (pv 1) am (fun _ _=>rfl)) (pv 2) (aR _)) (eA (dB dy (aQ ix_tup (pv 1) am (fun _ _=>rfl)) (b4 (ab aF (ab aF ah))) (by with_unfolding_all rfl)) (fe (aS (aQ ix_list (aS (pv 0) rfl) (aQ ix_tup (pv 1) am (fun _ _=>rfl)) (fun _ _=>rfl)) rfl))))))
theorem Bi{aa:Addr}{ac:Addr}(b0:Sp)(gm:Sp)(T:Txt K mg aa ac)
  (ej:aJ P w K mg base 3 "is_unsure" ["book","bargain"] b0)(sr:aJ P w K mg base 1 "tells_one_up" ["hall","letter","bargain"] gm)
  (hr:Room 3 (A.deeper (PyProof.Rows.envOfC "can_be_told" (af j9) s.heap.objs.size f cdv))) :
  PSs (bi bw P w K mg base ["hall","bargain"] "can_be_told" (af j9) f cdv A outer s H E).nox (al j9) (vQ K b0 gm):=by
 have hu:=aY hr
 have hu64:=hr.units
 have hu65:=aH hr
 obtain ⟨yQ,uW,mR,mM,mV,mU⟩:=ej
 have j4:=hr.mono (j:=3) (by decide)
 obtain ⟨Ko,Jm,IJ,GI,Ik,G8⟩:=sr
 have Ec:=hr.mono (j:=1) (by decide)
 unfold vQ
 exact (ai (aO (bj (aG (sq rfl) (by rfl) T.n_any PyProof.Rows.boot_any (ab (dU rfl (show cj _ (["house","bargain"]:List Str) _ ([("bargain",s.heap.objs.size+1+1)]:List (Str×Addr)) ([none,some 1]:List (Option Nat)) from ⟨by with_unfolding_all rfl,rfl,rfl,rfl,rfl,⟨rfl,trivial⟩,⟨⟨rfl,Or.inl rfl,Or.inl rfl,_,rfl,rfl⟩,trivial⟩⟩) (b6 (aS (pv 0) rfl)) (fun _ _ _ _=>(bq (i:=0) Ab rfl (Or.inl rfl))) (fun _ _ _ _=>dY) (fun _ _ _ _=>(eA (aS (pv 0) rfl) (fe (s0 (aL mR j4 rfl mM mV mU .nil aw (ab (aS (pv 0) rfl) (ab (pv 1) ah)))))))) ah)))
   (aj (ao bA))
   aA)
   (aj (ao (aG (sq rfl) (by rfl) T.n_any PyProof.Rows.boot_any (ab (dU rfl (show cj _ (["letter","hall","bargain"]:List Str) _ ([("hall",s.heap.objs.size+1+0),("bargain",s.heap.objs.size+1+1)]:List (Str×Addr)) ([none,some 0,some 1]:List (Option Nat)) from ⟨by with_unfolding_all rfl,rfl,rfl,rfl,rfl,⟨rfl,⟨rfl,trivial⟩⟩,⟨⟨rfl,Or.inl rfl,Or.inl rfl,_,rfl,rfl⟩,⟨⟨rfl,Or.inl rfl,Or.inl rfl,_,rfl,rfl⟩,trivial⟩⟩⟩) (b6 (aS (pv 0) rfl)) (fun _ _ _ _=>(bq (i:=0) zX rfl (Or.inl rfl))) (fun _ _ _ _=>dY) (fun _ _ _ _=>(aL IJ Ec rfl GI Ik G8 .nil aw (ab (pv 1) (ab (pv 0) (ab (pv 2) ah)))))) ah)))))
theorem AV{aa:Addr}{ac:Addr}(cm:Sp)(hX:Sp)(hW:Sp)(T:Txt K mg aa ac)
  (fC:aJ P w K mg base 9 "hall_after" ["count","against","deeds"] cm)(qj:aJ P w K mg base 4 "is_up_and_unsure" ["house","bargain"] hX)(su:aJ P w K mg base 4 "can_be_told" ["hall","bargain"] hW)
  (hr:Room 9 (A.deeper (PyProof.Rows.envOfC "waits" (af kM) s.heap.objs.size f cdv))) :
  PSs (bi bw P w K mg base ["count","against","deeds","number","bargain","hall"] "waits" (af kM) f cdv A outer s H E).nox (al kM) (v_ K cm hX hW):=by
 have hu:=aY hr
 have hu64:=hr.units
 have hu65:=aH hr
 obtain ⟨Bo,zr,qk,qr,ro,qe⟩:=fC
 have og:=hr.mono (j:=9) (by decide)
 obtain ⟨J',Jt,IF,IP,Hx,IN⟩:=qj
 have CJ:=hr.mono (j:=4) (by decide)
 obtain ⟨Kq,JH,Iv,GZ,Ir,IR⟩:=su
 have EZ:=hr.mono (j:=4) (by decide)
 unfold v_
 exact (ai (aN (i:=5) zsc1p.nd rfl (Or.inl rfl) (aL qk og rfl qr ro qe .nil aw (ab (pv 0) (ab (pv 1) (ab (pv 2) ah)))))
   (ai (aO (PW.pt (ez (bF (bj (aL IF CJ rfl IP Hx IN .nil aw (ab (aQ ix_list (aS (pv 5) rfl) (pv 3) (fun _ _=>rfl)) (ab (pv 4) ah))))) (dS (bj (aL Iv EZ rfl GZ Ir IR .nil aw (ab (pv 5) (ab (pv 4) ah)))))))
   (aj (ao (bZ ah)))
   aA)
   (aj (ao (dU rfl (show cj _ (["house"]:List Str) _ ([]:List (Str×Addr)) ([none]:List (Option Nat)) from ⟨by with_unfolding_all rfl,rfl,rfl,rfl,rfl,trivial,trivial⟩) (b6 (aS (pv 5) rfl)) (fun _ _ _ _=>(bq (i:=0) Af rfl (Or.inl rfl))) (fun _ _ _ _=>(eP (bF (bj (aS (pv 0) rfl))))) (fun _ _ _ _=>(aS (pv 0) rfl)))))))
theorem Bd{aa:Addr}{ac:Addr}(d6:Sp)(T:Txt K mg aa ac)
  {lev:Nat}(kW:aJ P w K mg base lev "_law_so" ["_law_found","_law_meant"] d6)
  (hr:Room lev (A.deeper (PyProof.Rows.envOfC "_law_so" (af jp) s.heap.objs.size f cdv))) :
  PSs (bi bw P w K mg base ["_law_found","_law_meant","_law_k"] "_law_so" (af jp) f cdv A outer s H E).nox (al jp) (wv K d6):=by
 have hu:=aY hr
 have hu64:=hr.units
 have hu65:=aH hr
 obtain ⟨GW,C7,yf,yE,xP,x5⟩:=kW
 have vj:=hr
 unfold wv
 exact (ai (aO (fL (ii (pv 1)))
   (aj (ao (lT (ii (pv 0)))))
   aA)
   (ai (aO (bj (aG bp (by rfl) T.n_isinstance PyProof.Rows.boot_isinstance (ab (pv 1) (ab (bR (by rfl) T.n_bool PySem.Pv.boot_bool (v:=.ty "bool") rfl) ah))))
   (aj (ao (eA (aG bp (by rfl) T.n_isinstance PyProof.Rows.boot_isinstance (ab (pv 0) (ab (bR (by rfl) T.n_bool PySem.Pv.boot_bool (v:=.ty "bool") rfl) ah))) (fe (dB bY (pv 0) (pv 1) (aR _))))))
   aA)
   (ai (aO (bj (aG bp (by rfl) T.n_isinstance PyProof.Rows.boot_isinstance (ab (pv 1) (ab (bR (by rfl) T.n_int PySem.Pv.boot_int (v:=.ty "int") rfl) ah))))
   (aj (ao (eA (aG bp (by rfl) T.n_isinstance PyProof.Rows.boot_isinstance (ab (pv 0) (ab (bR (by rfl) T.n_int PySem.Pv.boot_int (v:=.ty "int") rfl) ah))) (eA (s0 (aG bp (by rfl) T.n_isinstance PyProof.Rows.boot_isinstance (ab (pv 0) (ab (bR (by rfl) T.n_bool PySem.Pv.boot_bool (v:=.ty "bool") rfl) ah)))) (fe (dB bY (pv 0) (pv 1) (aR _)))))))
   aA)
   (ai (aO (bj (aG bp (by rfl) T.n_isinstance PyProof.Rows.boot_isinstance (ab (pv 1) (ab (bR (by rfl) T.n_str PySem.Pv.boot_str (v:=.ty "str") rfl) ah))))
   (aj (ao (eA (aG bp (by rfl) T.n_isinstance PyProof.Rows.boot_isinstance (ab (pv 0) (ab (bR (by rfl) T.n_str PySem.Pv.boot_str (v:=.ty "str") rfl) ah))) (fe (dB bY (pv 0) (pv 1) (aR _))))))
   aA)
   (ai (aO (bj (aG bp (by rfl) T.n_isinstance PyProof.Rows.boot_isinstance (ab (pv 1) (ab (bR (by rfl) T.n_dict PySem.Pv.boot_dict (v:=.ty "dict") rfl) ah))))
   (aj yX)
   aA)
   (ai (aO (aK fN (aG bp (by rfl) T.n_isinstance PyProof.Rows.boot_isinstance (ab (pv 1) (ab (bR (by rfl) T.n_tuple PySem.Pv.boot_tuple (v:=.ty "tuple") rfl) ah))) (aG bp (by rfl) T.n_isinstance PyProof.Rows.boot_isinstance (ab (pv 0) (ab (bR (by rfl) T.n_tuple PySem.Pv.boot_tuple (v:=.ty "tuple") rfl) ah))) (aR _))
   (aj (ao bA))
   aA)
   (ai (aO (PW.pt (ez (aK fN (aG bp (by rfl) T.n_isinstance PyProof.Rows.boot_isinstance (ab (pv 1) (ab (bR (by rfl) T.n_list PySem.Pv.boot_list (v:=.ty "list") rfl) ah))) (aG bp (by rfl) T.n_isinstance PyProof.Rows.boot_isinstance (ab (pv 0) (ab (bR (by rfl) T.n_list PySem.Pv.boot_list (v:=.ty "list") rfl) ah))) (aR _)) (dS (bF (bj (aG qP (by rfl) T.n_isinstance PyProof.Rows.boot_isinstance (ab (pv 1) (ab (b4 (ab (bR (by rfl) T.n_list PySem.Pv.boot_list (v:=.ty "list") rfl) (ab (bR (by rfl) T.n_tuple PySem.Pv.boot_tuple (v:=.ty "tuple") rfl) ah))) ah))))))))
   (aj (ao bA))
   aA)
   (ai (aO (aK fN (aG aU (by rfl) T.n_len PySem.boot_len (ab (pv 0) ah)) (aG aU (by rfl) T.n_len PySem.boot_len (ab (pv 1) ah)) (aR _))
   (aj (ao bA))
   aA)
   (ai (da PassesOwn.never rfl (cN rfl T.n_range (ab (aG aU (by rfl) T.n_len PySem.boot_len (ab (pv 1) ah)) ah)) (bq (i:=2) zsc1n.nd rfl (Or.inl rfl))
   (aj (aO (bF (bj (aL yf vj rfl yE xP x5 .nil aw (ab (aQ xr (pv 0) (pv 2) (fun _ _=>rfl)) (ab (aQ xr (pv 1) (pv 2) (fun _ _=>rfl)) ah)))))
   (aj (ao bA))
   aA)))
   (aj (ao bA)))))))))))
theorem AJ{aa:Addr}{ac:Addr}(T:Txt K mg aa ac)

  (hr:Room 0 (A.deeper (PyProof.Rows.envOfC "_law_whole" (af kP) s.heap.objs.size f cdv))) :
  PSs (bi bw P w K mg base ["_law_found"] "_law_whole" (af kP) f cdv A outer s H E).nox (al kP) (v7 K ):=by
 have hu:=aY hr
 have hu64:=hr.units
 have hu65:=aH hr
 unfold v7
 exact (aj (ao (eA (aG bp (by rfl) T.n_isinstance PyProof.Rows.boot_isinstance (ab (pv 0) (ab (bR (by rfl) T.n_int PySem.Pv.boot_int (v:=.ty "int") rfl) ah))) (fe (s0 (aG bp (by rfl) T.n_isinstance PyProof.Rows.boot_isinstance (ab (pv 0) (ab (bR (by rfl) T.n_bool PySem.Pv.boot_bool (v:=.ty "bool") rfl) ah))))))))
theorem BR{aa:Addr}{ac:Addr}(T:Txt K mg aa ac)

  (hr:Room 0 (A.deeper (PyProof.Rows.envOfC "_law_at" (af kO) s.heap.objs.size f cdv))) :
  PSs (bi bw P w K mg base ["_law_script","_law_k"] "_law_at" (af kO) f cdv A outer s H E).nox (al kO) (vy K ):=by
 have hu:=aY hr
 have hu64:=hr.units
 have hu65:=aH hr
 unfold vy
 exact (ai (aO (aK kT (pv 1) (aG aU (by rfl) T.n_len PySem.boot_len (ab (pv 0) ah)) (aR _))
   (aj (ao (aQ ix_list (pv 0) (pv 1) (fun _ _=>rfl))))
   aA)
   (aj (ao am)))
theorem AY{aa:Addr}{ac:Addr}(cx:Sp)(T:Txt K mg aa ac)
  (ft:aJ P w K mg base 1 "_law_whole" ["_law_found"] cx)
  (hr:Room 1 (A.deeper (PyProof.Rows.envOfC "_law_is_line" (af jU) s.heap.objs.size f cdv))) :
  PSs (bi bw P w K mg base ["_law_found"] "_law_is_line" (af jU) f cdv A outer s H E).nox (al jU) (uq K cx):=by
 have hu:=aY hr
 have hu64:=hr.units
 have hu65:=aH hr
 obtain ⟨Bn,zd,s_,sh,qv,rG⟩:=ft
 have oa:=hr.mono (j:=1) (by decide)
 unfold uq
 exact (ai (aO (PW.pt (ez (bF (bj (aG bp (by rfl) T.n_isinstance PyProof.Rows.boot_isinstance (ab (pv 0) (ab (bR (by rfl) T.n_tuple PySem.Pv.boot_tuple (v:=.ty "tuple") rfl) ah))))) (dS (aK fN (aG aU (by rfl) T.n_len PySem.boot_len (ab (pv 0) ah)) am (aR _)))))
   (aj (ao bA))
   aA)
   (ai (aO (PW.pt (ez (bF (bj (aG bp (by rfl) T.n_isinstance PyProof.Rows.boot_isinstance (ab (aQ ix_tup (pv 0) am (fun _ _=>rfl)) (ab (bR (by rfl) T.n_str PySem.Pv.boot_str (v:=.ty "str") rfl) ah))))) (dS (bF (bj (aL s_ oa rfl sh qv rG .nil aw (ab (aQ ix_tup (pv 0) am (fun _ _=>rfl)) ah)))))))
   (aj (ao bA))
   aA)
   (aj (ao (dB dy (aQ ix_tup (pv 0) am (fun _ _=>rfl)) (bZ (ab aF (ab aF (ab aF (ab aF (ab aF ah)))))) (by with_unfolding_all rfl))))))
theorem Br{aa:Addr}{ac:Addr}(h9:Sp)(T:Txt K mg aa ac)
  (qm:aJ P w K mg base 2 "_law_is_line" ["_law_found"] h9)
  (hr:Room 2 (A.deeper (PyProof.Rows.envOfC "_law_are_lines" (af kj) s.heap.objs.size f cdv))) :
  PSs (bi bw P w K mg base ["_law_found","_law_line"] "_law_are_lines" (af kj) f cdv A outer s H E).nox (al kj) (vo K h9):=by
 have hu:=aY hr
 have hu64:=hr.units
 have hu65:=aH hr
 obtain ⟨J9,JN,H_,HI,Iy,Im⟩:=qm
 have EG:=hr.mono (j:=2) (by decide)
 unfold vo
 exact (ai (aO (bF (bj (aG bp (by rfl) T.n_isinstance PyProof.Rows.boot_isinstance (ab (pv 0) (ab (bR (by rfl) T.n_list PySem.Pv.boot_list (v:=.ty "list") rfl) ah)))))
   (aj (ao bA))
   aA)
   (ai (da PassesOwn.never rfl (b6 (pv 0)) (bq (i:=1) zsc0g.nd rfl (Or.inl rfl))
   (aj (aO (bF (bj (aL H_ EG rfl HI Iy Im .nil aw (ab (pv 1) ah))))
   (aj (ao bA))
   aA)))
   (aj (ao bA))))
theorem BV{aa:Addr}{ac:Addr}(dM:Sp)(T:Txt K mg aa ac)
  (js:aJ P w K mg base 3 "_law_are_lines" ["_law_found"] dM)
  (hr:Room 3 (A.deeper (PyProof.Rows.envOfC "_law_are_books" (af lh) s.heap.objs.size f cdv))) :
  PSs (bi bw P w K mg base ["_law_found","_law_count","_law_book"] "_law_are_books" (af lh) f cdv A outer s H E).nox (al lh) (vC K dM):=by
 have hu:=aY hr
 have hu64:=hr.units
 have hu65:=aH hr
 obtain ⟨HM,EI,yk,yD,yh,yV⟩:=js
 have u4:=hr.mono (j:=3) (by decide)
 unfold vC
 exact (ai (aO (PW.pt (ez (bF (bj (aG bp (by rfl) T.n_isinstance PyProof.Rows.boot_isinstance (ab (pv 0) (ab (bR (by rfl) T.n_list PySem.Pv.boot_list (v:=.ty "list") rfl) ah))))) (dS (aK fN (aG aU (by rfl) T.n_len PySem.boot_len (ab (pv 0) ah)) (pv 1) (aR _)))))
   (aj (ao bA))
   aA)
   (ai (da PassesOwn.never rfl (b6 (pv 0)) (bq (i:=2) zsc0j.nd rfl (Or.inl rfl))
   (aj (aO (bF (bj (aL yk u4 rfl yD yh yV .nil aw (ab (pv 2) ah))))
   (aj (ao bA))
   aA)))
   (aj (ao bA))))
theorem Aq{aa:Addr}{ac:Addr}(cx:Sp)(T:Txt K mg aa ac)
  (ft:aJ P w K mg base 1 "_law_whole" ["_law_found"] cx)
  (hr:Room 1 (A.deeper (PyProof.Rows.envOfC "_law_is_letter" (af kE) s.heap.objs.size f cdv))) :
  PSs (bi bw P w K mg base ["_law_found","_law_count","_law_number"] "_law_is_letter" (af kE) f cdv A outer s H E).nox (al kE) (wg K cx):=by
 have hu:=aY hr
 have hu64:=hr.units
 have hu65:=aH hr
 obtain ⟨Bn,zd,s_,sh,qv,rG⟩:=ft
 have oa:=hr.mono (j:=1) (by decide)
 unfold wg
 exact (ai (aO (PW.pt (ez (bF (bj (aG bp (by rfl) T.n_isinstance PyProof.Rows.boot_isinstance (ab (pv 0) (ab (bR (by rfl) T.n_tuple PySem.Pv.boot_tuple (v:=.ty "tuple") rfl) ah))))) (ez (aK fN (aG aU (by rfl) T.n_len PySem.boot_len (ab (pv 0) ah)) am (aR _)) (dS (bF (bj (aG bp (by rfl) T.n_isinstance PyProof.Rows.boot_isinstance (ab (aQ ix_tup (pv 0) am (fun _ _=>rfl)) (ab (bR (by rfl) T.n_str PySem.Pv.boot_str (v:=.ty "str") rfl) ah)))))))))
   (aj (ao bA))
   aA)
   (ai (da PassesOwn.never rfl (Au (fZ AX (pv 0) jD (f_ am))) (bq (i:=2) zsc0h.nd rfl (Or.inl rfl))
   (aj (aO (bF (bj (aL s_ oa rfl sh qv rG .nil aw (ab (pv 2) ah))))
   (aj (ao bA))
   aA)))
   (ai (aO (aK lM (aQ ix_tup (pv 0) am (fun _ _=>rfl)) (bZ (ab aF (ab aF (ab aF (ab aF (ab aF (ab aF ah))))))) (by with_unfolding_all rfl))
   (aj (ao bA))
   aA)
   (aj (ao (eA (sj zb kT am (aQ ix_tup (pv 0) am (fun _ _=>rfl)) (pv 1)) (eA (sj zb kT am (aQ ix_tup (pv 0) am (fun _ _=>rfl)) (pv 1)) (fe (dB fN (aQ ix_tup (pv 0) am (fun _ _=>rfl)) (aQ ix_tup (pv 0) am (fun _ _=>rfl)) (aR _))))))))))
theorem B3{aa:Addr}{ac:Addr}(gS:Sp)(T:Txt K mg aa ac)
  (q_:aJ P w K mg base 2 "_law_is_letter" ["_law_found","_law_count"] gS)
  (hr:Room 2 (A.deeper (PyProof.Rows.envOfC "_law_are_letters" (af jY) s.heap.objs.size f cdv))) :
  PSs (bi bw P w K mg base ["_law_found","_law_count","_law_letter"] "_law_are_letters" (af jY) f cdv A outer s H E).nox (al jY) (vw K gS):=by
 have hu:=aY hr
 have hu64:=hr.units
 have hu65:=aH hr
 obtain ⟨JV,JB,Ib,G2,Ia,GE⟩:=q_
 have Dk:=hr.mono (j:=2) (by decide)
 unfold vw
 exact (ai (aO (bF (bj (aG bp (by rfl) T.n_isinstance PyProof.Rows.boot_isinstance (ab (pv 0) (ab (bR (by rfl) T.n_list PySem.Pv.boot_list (v:=.ty "list") rfl) ah)))))
   (aj (ao bA))
   aA)
   (ai (da PassesOwn.never rfl (b6 (pv 0)) (bq (i:=2) zsc08.nd rfl (Or.inl rfl))
   (aj (aO (bF (bj (aL Ib Dk rfl G2 Ia GE .nil aw (ab (pv 2) (ab (pv 1) ah)))))
   (aj (ao bA))
   aA)))
   (aj (ao bA))))
theorem A1{aa:Addr}{ac:Addr}(T:Txt K mg aa ac)

  (hr:Room 0 (A.deeper (PyProof.Rows.envOfC "_law_all_bargains" (af jQ) s.heap.objs.size f cdv))) :
  PSs (bi bw P w K mg base [] "_law_all_bargains" (af jQ) f cdv A outer s H E).nox (al jQ) (vI K ):=by
 have hu:=aY hr
 have hu64:=hr.units
 have hu65:=aH hr
 unfold vI
 exact (aj (ao (bZ (ab am (ab am (ab am (ab am ah)))))))
theorem Ay{aa:Addr}{ac:Addr}(dL:Sp)(T:Txt K mg aa ac)
  (jh:aJ P w K mg base 1 "_law_all_bargains" [] dL)
  (hr:Room 1 (A.deeper (PyProof.Rows.envOfC "_law_bargain_of" (af le) s.heap.objs.size f cdv))) :
  PSs (bi bw P w K mg base ["_law_cell"] "_law_bargain_of" (af le) f cdv A outer s H E).nox (al le) (vF K dL):=by
 have hu:=aY hr
 have hu64:=hr.units
 have hu65:=aH hr
 obtain ⟨Io,DQ,yv,x_,yq,xQ⟩:=jh
 have vL:=hr.mono (j:=1) (by decide)
 unfold vF
 exact (aj (ao (aQ ix_list (sK yv vL rfl x_ yq xQ .nil aw) (aW bT (aW bT (aW cK (pv 0) am) am) am) (fun _ _=>rfl))))
theorem A4{aa:Addr}{ac:Addr}(dv:Sp)(T:Txt K mg aa ac)
  (je:aJ P w K mg base 2 "_law_bargain_of" ["_law_cell"] dv)
  (hr:Room 2 (A.deeper (PyProof.Rows.envOfC "_law_deed_of" (af kR) s.heap.objs.size f cdv))) :
  PSs (bi bw P w K mg base ["_law_cell","_law_k","_law_count","_law_swept","_law_way","_law_who","_law_stays","_law_which"] "_law_deed_of" (af kR) f cdv A outer s H E).nox (al kR) (vt K dv):=by
 have hu:=aY hr
 have hu64:=hr.units
 have hu65:=aH hr
 obtain ⟨Hf,DS,ve,u_,vN,uw⟩:=je
 have p6:=hr.mono (j:=2) (by decide)
 unfold vt
 exact (ai (aN (i:=4) zsc0t.nd rfl (Or.inl rfl) (aW bT (aW bT (aW cK (pv 0) am) am) am))
   (ai (aN (i:=5) zsc0t.nd rfl (Or.inl rfl) (aW bT (aW bT (aW cK (aW ik (pv 0) (pv 1)) am) am) (pv 2)))
   (ai (aN (i:=6) zsc0t.nd rfl (Or.inl rfl) (dB fN (aW bT (aW bT (aW cK (pv 0) am) am) am) am (aR _)))
   (ai (aO (aK kT (pv 4) am (aR _))
   (aj (ao (b4 (ab aF (ab (aL ve p6 rfl u_ vN uw .nil aw (ab (aW mo (pv 0) am) ah)) (ab (pv 6) ah))))))
   aA)
   (ai (aO (aK bY (pv 4) am (aR _))
   (aj (ao (b4 (ab aF (ab (pv 5) (ab (aL ve p6 rfl u_ vN uw .nil aw (ab (aW mo (pv 0) am) ah)) ah))))))
   aA)
   (ai (aO (aK bY (pv 4) am (aR _))
   (aj (ao (b4 (ab aF (ab (pv 5) ah)))))
   aA)
   (ai (aO (PW.pt (ez (aK bY (pv 4) am (aR _)) (dS (aK bY (pv 4) am (aR _)))))
   (aj (ao (b4 (ab aF (ab (pv 5) ah)))))
   aA)
   (ai (aO (PW.pt (fh (aK bY (pv 4) am (aR _)) (eD (bF (bj (pv 3))))))
   (aj (ao (b4 (ab aF ah))))
   aA)
   (ai (aN (i:=7) zsc0t.nd rfl (Or.inl rfl) (aW bT (aW bT (aW cK (aW ik (pv 0) (aW cK am (pv 1))) am) am) (aW ik (aW cK am (pv 1)) am)))
   (fF (aO (aK bY (aW bT (aW bT (aW cK (pv 0) am) am) am) am (aR _))
   (aj (aN (i:=7) zsc0t.nd rfl (Or.inl rfl) am))
   aA)
   (aj (ao (b4 (ab aF (ab (pv 7) (ab (pv 6) ah))))))))))))))))
theorem AU{aa:Addr}{ac:Addr}(h8:Sp)(T:Txt K mg aa ac)
  (tm:aJ P w K mg base 3 "_law_deed_of" ["_law_cell","_law_k","_law_count","_law_swept"] h8)
  (hr:Room 3 (A.deeper (PyProof.Rows.envOfC "_law_drawn" (af ko) s.heap.objs.size f cdv))) :
  PSs (bi bw P w K mg base ["_law_cells","_law_count","_law_deeds","_law_swept","_law_k"] "_law_drawn" (af ko) f cdv A outer s H E).nox (al ko) (um K h8):=by
 have hu:=aY hr
 have hu64:=hr.units
 have hu65:=aH hr
 obtain ⟨Kf,JI,G4,HP,G_,Ij⟩:=tm
 have FD:=hr.mono (j:=3) (by decide)
 unfold um
 exact (ai (aN (i:=2) zsc1a.nd rfl (Or.inl rfl) (bZ ah))
   (ai (aN (i:=3) zsc1a.nd rfl (Or.inl rfl) bA)
   (ai (da PassesOwn.never rfl (cN rfl T.n_range (ab (aG aU (by rfl) T.n_len PySem.boot_len (ab (pv 0) ah)) ah)) (bq (i:=4) zsc1a.nd rfl (Or.inl rfl))
   (ai (bu (d7 PySem.F.plainAttrs_list PySem.F.slot_list_append PySem.F.type_list_append cO (pv 2) (ab (aL G4 FD rfl HP G_ Ij .nil aw (ab (aW ik (aQ ix_list (pv 0) (pv 4) (fun _ _=>rfl)) (aW cK am (pv 4))) (ab (pv 4) (ab (pv 1) (ab (pv 3) ah))))) ah)))
   (aj (aN (i:=3) zsc1a.nd rfl (Or.inl rfl) (EA (pv 3) (fe (dB (xt hu64) (aQ ix_list (pv 2) (E3 AH am) (fun _ _=>rfl)) (b4 (ab aF ah)) (aR _))))))))
   (aj (ao (pv 2))))))
theorem Am{aa:Addr}{ac:Addr}(dL:Sp)(T:Txt K mg aa ac)
  (jh:aJ P w K mg base 1 "_law_all_bargains" [] dL)
  (hr:Room 1 (A.deeper (PyProof.Rows.envOfC "_law_pairs_against" (af kr) s.heap.objs.size f cdv))) :
  PSs (bi bw P w K mg base ["_law_cell","_law_count","_law_pairs","_law_k","_law_j"] "_law_pairs_against" (af kr) f cdv A outer s H E).nox (al kr) (u6 K dL):=by
 have hu:=aY hr
 have hu64:=hr.units
 have hu65:=aH hr
 obtain ⟨Io,DQ,yv,x_,yq,xQ⟩:=jh
 have vL:=hr.mono (j:=1) (by decide)
 unfold u6
 exact (ai (aN (i:=2) zsc03.nd rfl (Or.inl rfl) (bZ ah))
   (ai (da PassesOwn.never rfl (cN rfl T.n_range (ab (pv 1) ah)) (bq (i:=3) zsc03.nd rfl (Or.inl rfl))
   (aj (da PassesOwn.never rfl (cN rfl T.n_range (ab am ah)) (bq (i:=4) zsc03.nd rfl (Or.inl rfl))
   (aj (aO (PW.pt (fh (aK bY (aW bT (aW bT (aW cK (aW mo (pv 0) (aW ik (aW ik (aW cK am (pv 3)) (pv 4)) am)) am) am) am) am (aR _)) (eD (aK kD (aW bT (aW bT (aW cK (pv 0) am) am) am) am (aR _)))))
   (aj (bu (d7 PySem.F.plainAttrs_list PySem.F.slot_list_append PySem.F.type_list_append cO (pv 2) (ab (b4 (ab (pv 3) (ab (aQ ix_list (sK yv vL rfl x_ yq xQ .nil aw) (pv 4) (fun _ _=>rfl)) ah))) ah))))
   aA)))))
   (aj (ao (pv 2)))))
theorem AC{aa:Addr}{ac:Addr}(T:Txt K mg aa ac)

  (hr:Room 0 (A.deeper (PyProof.Rows.envOfC "_law_decided" (af jZ) s.heap.objs.size f cdv))) :
  PSs (bi bw P w K mg base ["_law_book","_law_bargain","_law_found","_law_line"] "_law_decided" (af jZ) f cdv A outer s H E).nox (al jZ) (ul K ):=by
 have hu:=aY hr
 have hu64:=hr.units
 have hu65:=aH hr
 unfold ul
 exact (ai (aN (i:=2) zsc0v.nd rfl (Or.inl rfl) fK)
   (ai (da PassesOwn.never rfl (b6 (pv 0)) (bq (i:=3) zsc0v.nd rfl (Or.inl rfl))
   (fF (aO (PW.pt (fh (aK bY (aQ ix_tup (pv 3) am (fun _ _=>rfl)) (pv 1) (aR _)) (eD (aK bY (aQ ix_tup (pv 3) am (fun _ _=>rfl)) aF (aR _)))))
   (aj (aN (i:=2) zsc0v.nd rfl (Or.inl rfl) aF))
   aA)
   (aj (aO (PW.pt (fh (aK bY (aQ ix_tup (pv 3) am (fun _ _=>rfl)) (pv 1) (aR _)) (eD (PW.pt (ez (aK bY (aQ ix_tup (pv 3) am (fun _ _=>rfl)) aF (aR _)) (dS (aK bY (aQ ix_tup (pv 3) am (fun _ _=>rfl)) aF (aR _))))))))
   (aj (aN (i:=2) zsc0v.nd rfl (Or.inl rfl) aF))
   aA))))
   (aj (ao (pv 2)))))
theorem AK{aa:Addr}{ac:Addr}(T:Txt K mg aa ac)

  (hr:Room 0 (A.deeper (PyProof.Rows.envOfC "_law_words_of" (af j6) s.heap.objs.size f cdv))) :
  PSs (bi bw P w K mg base ["_law_book","_law_bargain"] "_law_words_of" (af j6) f cdv A outer s H E).nox (al j6) (yA K ):=by
 have hu:=aY hr
 have hu64:=hr.units
 have hu65:=aH hr
 unfold yA
 exact (aj (ao (dU rfl (show cj _ (["_law_line","_law_bargain"]:List Str) _ ([("_law_bargain",s.heap.objs.size+1+0)]:List (Str×Addr)) ([none,some 1]:List (Option Nat)) from ⟨by with_unfolding_all rfl,rfl,rfl,rfl,rfl,⟨rfl,trivial⟩,⟨⟨rfl,Or.inl rfl,Or.inl rfl,_,rfl,rfl⟩,trivial⟩⟩) (b6 (pv 0)) (fun _ _ _ _=>(bq (i:=0) zS rfl (Or.inl rfl))) (fun _ _ _ _=>(eP (aK bY (aQ ix_tup (pv 0) am (fun _ _=>rfl)) (pv 1) (aR _)))) (fun _ _ _ _=>(aQ ix_tup (pv 0) am (fun _ _=>rfl))))))
theorem BT{aa:Addr}{ac:Addr}(gT:Sp)(dM:Sp)(T:Txt K mg aa ac)
  (qG:aJ P w K mg base 9 "answers" ["count","against","deeds"] gT)(js:aJ P w K mg base 3 "_law_are_lines" ["_law_found"] dM)
  (hr:Room 9 (A.deeper (PyProof.Rows.envOfC "_law_who_is_up" (af kZ) s.heap.objs.size f cdv))) :
  PSs (bi bw P w K mg base ["_law_count","_law_against","_law_deeds","_law_ends","_law_told","_law_up","_law_found"] "_law_who_is_up" (af kZ) f cdv A outer s H E).nox (al kZ) (wu K gT dM):=by
 have hu:=aY hr
 have hu64:=hr.units
 have hu65:=aH hr
 obtain ⟨JY,Jp,Ih,IK,Hi,GO⟩:=qG
 have Cy:=hr.mono (j:=9) (by decide)
 obtain ⟨HM,EI,yk,yD,yh,yV⟩:=js
 have u4:=hr.mono (j:=3) (by decide)
 unfold wu
 exact (ai (aN (i:=3) zsc0i.nd rfl (Or.inl rfl) (aW jH (pv 2) (dU rfl (show cj _ (["_law_k"]:List Str) _ ([]:List (Str×Addr)) ([none]:List (Option Nat)) from ⟨by with_unfolding_all rfl,rfl,rfl,rfl,rfl,trivial,trivial⟩) (cN rfl T.n_range (ab (pv 0) ah)) (fun _ _ _ _=>(bq (i:=0) z9 rfl (Or.inl rfl))) (fun _ _ _ _=>dY) (fun _ _ _ _=>(b4 (ab aF (ab (pv 0) ah)))))))
   (ai (aN (i:=4) zsc0i.nd rfl (Or.inl rfl) (aL Ih Cy rfl IK Hi GO .nil aw (ab (pv 0) (ab (cz b7 (by rfl) T.n_list PySem.Pv.boot_list (ab (pv 1) ah)) (ab (cz b7 (by rfl) T.n_list PySem.Pv.boot_list (ab (pv 3) ah)) ah)))))
   (ai (aO (PW.pt (ez (bF (bj (aG bp (by rfl) T.n_isinstance PyProof.Rows.boot_isinstance (ab (pv 4) (ab (bR (by rfl) T.n_list PySem.Pv.boot_list (v:=.ty "list") rfl) ah))))) (dS (aK fN (aG aU (by rfl) T.n_len PySem.boot_len (ab (pv 4) ah)) (aG aU (by rfl) T.n_len PySem.boot_len (ab (pv 3) ah)) (aR _)))))
   (aj (ao fK))
   aA)
   (ai (aN (i:=5) zsc0i.nd rfl (Or.inl rfl) (bZ ah))
   (ai (da PassesOwn.never rfl (b6 (fZ jF (pv 4) (f_ (aG aU (by rfl) T.n_len PySem.boot_len (ab (pv 2) ah))) jD)) (bq (i:=6) zsc0i.nd rfl (Or.inl rfl))
   (ai (aO (PW.pt (fh (fL (iH (pv 6))) (eD (bF (bj (aL yk u4 rfl yD yh yV .nil aw (ab (pv 6) ah)))))))
   (aj (ao fK))
   aA)
   (aj (bu (d7 PySem.F.plainAttrs_list PySem.F.slot_list_append PySem.F.type_list_append cO (pv 5) (ab (lT (ii (pv 6))) ah))))))
   (aj (ao (pv 5))))))))
theorem Ap{aa:Addr}{ac:Addr}(T:Txt K mg aa ac)

  (hr:Room 0 (A.deeper (PyProof.Rows.envOfC "_law_freed" (af kg) s.heap.objs.size f cdv))) :
  PSs (bi bw P w K mg base ["_law_letters","_law_count","_law_bargain","_law_deeds","_law_k"] "_law_freed" (af kg) f cdv A outer s H E).nox (al kg) (vv K ):=by
 have hu:=aY hr
 have hu64:=hr.units
 have hu65:=aH hr
 unfold vv
 exact (ai (aN (i:=3) zsc1g.nd rfl (Or.inl rfl) (bZ ah))
   (ai (da PassesOwn.never rfl (cN rfl T.n_range (ab (aG aU (by rfl) T.n_len PySem.boot_len (ab (pv 0) ah)) ah)) (bq (i:=4) zsc1g.nd rfl (Or.inl rfl))
   (aj (aO (PW.pt (fh (aK bY (aQ ix_tup (aQ ix_list (pv 0) (pv 4) (fun _ _=>rfl)) am (fun _ _=>rfl)) (pv 2) (aR _)) (eD (aK dy (aQ ix_tup (aQ ix_list (pv 0) (pv 4) (fun _ _=>rfl)) am (fun _ _=>rfl)) (bZ (ab aF (ab aF ah))) (by with_unfolding_all rfl)))))
   (aj (bu (d7 PySem.F.plainAttrs_list PySem.F.slot_list_append PySem.F.type_list_append cO (pv 3) (ab (b4 (ab aF (ab (pv 4) (ab bA ah)))) ah))))
   aA)))
   (ai (aN (i:=3) zsc1g.nd rfl (Or.inl rfl) (aW jH (pv 3) (dU rfl (show cj _ (["_law_k","_law_bargain"]:List Str) _ ([("_law_bargain",s.heap.objs.size+1+1)]:List (Str×Addr)) ([none,some 2]:List (Option Nat)) from ⟨by with_unfolding_all rfl,rfl,rfl,rfl,rfl,⟨rfl,trivial⟩,⟨⟨rfl,Or.inl rfl,Or.inl rfl,_,rfl,rfl⟩,trivial⟩⟩) (cN rfl T.n_range (ab (pv 1) ah)) (fun _ _ _ _=>(bq (i:=0) zG rfl (Or.inl rfl))) (fun _ _ _ _=>dY) (fun _ _ _ _=>(b4 (ab aF (ab (pv 0) (ab (pv 1) ah))))))))
   (aj (ao (aW jH (pv 3) (dU rfl (show cj _ (["_law_k","_law_letters"]:List Str) _ ([("_law_letters",s.heap.objs.size+1+0)]:List (Str×Addr)) ([none,some 0]:List (Option Nat)) from ⟨by with_unfolding_all rfl,rfl,rfl,rfl,rfl,⟨rfl,trivial⟩,⟨⟨rfl,Or.inl rfl,Or.inl rfl,_,rfl,rfl⟩,trivial⟩⟩) (cN rfl T.n_range (ab (aW cK (aW cK am (pv 1)) (pv 1)) ah)) (fun _ _ _ _=>(bq (i:=0) zV rfl (Or.inl rfl))) (fun _ _ _ _=>dY) (fun _ _ _ _=>(b4 (ab aF (ab (aW ik (aG aU (by rfl) T.n_len PySem.boot_len (ab (pv 1) ah)) (pv 0)) (ab bA ah))))))))))))
theorem A_{aa:Addr}{ac:Addr}(hJ:Sp)(gF:Sp)(gE:Sp)(dw:Sp)(du:Sp)(fP:Sp)(T:Txt K mg aa ac)
  (sM:aJ P w K mg base 10 "letters_after" ["count","against","deeds"] hJ)(rc:aJ P w K mg base 3 "_law_are_letters" ["_law_found","_law_count"] gF)(qR:aJ P w K mg base 1 "_law_freed" ["_law_letters","_law_count","_law_bargain"] gE)(jk:aJ P w K mg base 10 "books_after" ["count","against","deeds"] dw)(jw:aJ P w K mg base 4 "_law_are_books" ["_law_found","_law_count"] du)(qJ:aJ P w K mg base 1 "_law_decided" ["_law_book","_law_bargain"] fP)
  (hr:Room 10 (A.deeper (PyProof.Rows.envOfC "_law_in_time" (af kL) s.heap.objs.size f cdv))) :
  PSs (bi bw P w K mg base ["_law_count","_law_against","_law_deeds","_law_bargain","_law_unsure","_law_rows","_law_letters","_law_longer","_law_books","_law_swept","_law_k","_law_told"] "_law_in_time" (af kL) f cdv A outer s H E).nox (al kL) (uG K hJ gF gE dw du fP):=by
 have hu:=aY hr
 have hu64:=hr.units
 have hu65:=aH hr
 obtain ⟨Km,JJ,IO,Hu,G6,HR⟩:=sM
 have CC:=hr.mono (j:=10) (by decide)
 obtain ⟨Kv,JA,GU,HV,Il,GY⟩:=rc
 have Cu:=hr.mono (j:=3) (by decide)
 obtain ⟨Kd,Jo,Hm,Ja,GP,GL⟩:=qR
 have Ey:=hr.mono (j:=1) (by decide)
 obtain ⟨G7,Dw,vR,we,u9,v0⟩:=jk
 have p5:=hr.mono (j:=10) (by decide)
 obtain ⟨Id,Fi,uo,uI,vD,uM⟩:=jw
 have pX:=hr.mono (j:=4) (by decide)
 obtain ⟨JZ,Jj,AB,Bm,Cb,AS⟩:=qJ
 have zj:=hr.mono (j:=1) (by decide)
 unfold uG
 exact (ai (aN (i:=6) zsc0x.nd rfl (Or.inl rfl) (aL IO CC rfl Hu G6 HR .nil aw (ab (pv 0) (ab (cz b7 (by rfl) T.n_list PySem.Pv.boot_list (ab (pv 1) ah)) (ab (cz b7 (by rfl) T.n_list PySem.Pv.boot_list (ab (pv 2) ah)) ah)))))
   (ai (aO (bF (bj (aL GU Cu rfl HV Il GY .nil aw (ab (pv 6) (ab (pv 0) ah)))))
   (aj (ao bA))
   aA)
   (ai (aN (i:=7) zsc0x.nd rfl (Or.inl rfl) (aW jH (pv 2) (aL Hm Ey rfl Ja GP GL .nil aw (ab (pv 6) (ab (pv 0) (ab (pv 3) ah))))))
   (ai (aN (i:=8) zsc0x.nd rfl (Or.inl rfl) (aL vR p5 rfl we u9 v0 .nil aw (ab (pv 0) (ab (cz b7 (by rfl) T.n_list PySem.Pv.boot_list (ab (pv 1) ah)) (ab (cz b7 (by rfl) T.n_list PySem.Pv.boot_list (ab (pv 7) ah)) ah)))))
   (ai (aN (i:=9) zsc0x.nd rfl (Or.inl rfl) (aL vR p5 rfl we u9 v0 .nil aw (ab (pv 0) (ab (cz b7 (by rfl) T.n_list PySem.Pv.boot_list (ab (pv 1) ah)) (ab (aW jH (pv 7) (bZ (ab (b4 (ab aF ah)) ah))) ah)))))
   (ai (aO (PW.pt (ez (bF (bj (aL uo pX rfl uI vD uM .nil aw (ab (pv 8) (ab (pv 0) ah))))) (dS (bF (bj (aL uo pX rfl uI vD uM .nil aw (ab (pv 9) (ab (pv 0) ah))))))))
   (aj (ao bA))
   aA)
   (ai (da PassesOwn.never rfl (b6 (pv 4)) (bq (i:=10) zsc0x.nd rfl (Or.inl rfl))
   (ai (aN (i:=11) zsc0x.nd rfl (Or.inl rfl) (aL AB zj rfl Bm Cb AS .nil aw (ab (aQ ix_list (pv 8) (pv 10) (fun _ _=>rfl)) (ab (pv 3) ah))))
   (ai (aO (aK fN (lT (ii (pv 11))) (dB kD (aG aU (by rfl) T.n_len PySem.boot_len (ab (aQ ix_list (pv 5) (pv 10) (fun _ _=>rfl)) ah)) am (aR _)) (aR _))
   (aj (ao bA))
   aA)
   (aj (aO (PW.pt (fh (aK kD (aG aU (by rfl) T.n_len PySem.boot_len (ab (aQ ix_list (pv 5) (pv 10) (fun _ _=>rfl)) ah)) am (aR _)) (eD (fL (iH (aL AB zj rfl Bm Cb AS .nil aw (ab (aQ ix_list (pv 9) (pv 10) (fun _ _=>rfl)) (ab (pv 3) ah))))))))
   (aj (ao bA))
   aA)))))
   (aj (ao bA)))))))))
theorem B_{aa:Addr}{ac:Addr}(dm:Sp)(gk:Sp)(T:Txt K mg aa ac)
  (jd:aJ P w K mg base 1 "_law_at" ["_law_script","_law_k"] dm)(qQ:aJ P w K mg base 4 "_law_drawn" ["_law_cells","_law_count"] gk)
  (hr:Room 4 (A.deeper (PyProof.Rows.envOfC "_law_ahead" (af kX) s.heap.objs.size f cdv))) :
  PSs (bi bw P w K mg base ["_law_script","_law_count","_law_bargain","_law_cell","_law_lead","_law_deeds","_law_k"] "_law_ahead" (af kX) f cdv A outer s H E).nox (al kX) (vS K dm gk):=by
 have hu:=aY hr
 have hu64:=hr.units
 have hu65:=aH hr
 obtain ⟨HZ,Ch,sL,sP,sU,rN⟩:=jd
 have nR:=hr.mono (j:=1) (by decide)
 obtain ⟨Ka,JO,IX,Hz,HH,IH⟩:=qQ
 have Ez:=hr.mono (j:=4) (by decide)
 unfold vS
 exact (ai (aN (i:=3) zsc1h.nd rfl (Or.inl rfl) (aW mo (aL sL nR rfl sP sU rN .nil aw (ab (pv 0) (ab am ah))) am))
   (ai (aN (i:=4) zsc1h.nd rfl (Or.inl rfl) (aW bT (pv 2) (pv 1)))
   (ai (aN (i:=5) zsc1h.nd rfl (Or.inl rfl) (bZ (ab (b4 (ab aF (ab (pv 2) (ab bA ah)))) ah)))
   (ai (aO (aK bY (aW bT (aW bT (aW cK (pv 3) am) am) am) am (aR _))
   (ai (da PassesOwn.never rfl (cN rfl T.n_range (ab (aW xE (aW cK am (aW xE (pv 1) am)) (aW bT (aW bT (aW cK (pv 3) am) am) am)) ah)) (bq (i:=6) zsc1h.nd rfl (Or.inl rfl))
   (aj (bu (d7 PySem.F.plainAttrs_list PySem.F.slot_list_append PySem.F.type_list_append cO (pv 5) (ab (b4 (ab aF (ab (pv 6) (ab bA ah)))) ah)))))
   (ai (bu (d7 PySem.F.plainAttrs_list PySem.F.slot_list_append PySem.F.type_list_append cO (pv 5) (ab (b4 (ab aF (ab (pv 4) ah))) ah)))
   (fF (aO (aK bY (aW bT (aW bT (aW cK (pv 3) am) am) am) am (aR _))
   (aj (bu (d7 PySem.F.plainAttrs_list PySem.F.slot_list_append PySem.F.type_list_append cO (pv 5) (ab (b4 (ab aF (ab (aW bT (aW ik (pv 4) am) (pv 1)) ah))) ah))))
   aA)
   (aj (ao (pv 5))))))
   aA)
   (ai (aN (i:=5) zsc1h.nd rfl (Or.inl rfl) (aW jH (pv 5) (aL IX Ez rfl Hz HH IH .nil aw (ab (fZ jF (pv 0) (f_ am) (f_ am)) (ab (pv 1) ah)))))
   (fF (aO (aK bY (aW bT (aW bT (aW cK (pv 3) am) am) am) am (aR _))
   (aj (bu (d7 PySem.F.plainAttrs_list PySem.F.slot_list_append PySem.F.type_list_append cO (pv 5) (ab (b4 (ab aF (ab (pv 4) ah))) ah))))
   aA)
   (aj (ao (pv 5)))))))))
theorem As{aa:Addr}{ac:Addr}(dm:Sp)(gY:Sp)(dv:Sp)(gW:Sp)(dw:Sp)(gH:Sp)(du:Sp)(h_:Sp)(iA:Sp)(d6:Sp)(cx:Sp)(gP:Sp)(T:Txt K mg aa ac)
  (jd:aJ P w K mg base 1 "_law_at" ["_law_script","_law_k"] dm)(qh:aJ P w K mg base 2 "_law_pairs_against" ["_law_cell","_law_count"] gY)(je:aJ P w K mg base 2 "_law_bargain_of" ["_law_cell"] dv)(qA:aJ P w K mg base 5 "_law_ahead" ["_law_script","_law_count","_law_bargain"] gW)(jk:aJ P w K mg base 10 "books_after" ["count","against","deeds"] dw)(qC:aJ P w K mg base 10 "_law_who_is_up" ["_law_count","_law_against","_law_deeds"] gH)(jw:aJ P w K mg base 4 "_law_are_books" ["_law_found","_law_count"] du)(rM:aJ P w K mg base 10 "waits" ["count","against","deeds","number","bargain"] h_)(sQ:aJ P w K mg base 1 "_law_words_of" ["_law_book","_law_bargain"] iA)(kW:aJ P w K mg base 3 "_law_so" ["_law_found","_law_meant"] d6)(ft:aJ P w K mg base 1 "_law_whole" ["_law_found"] cx)(qo:aJ P w K mg base 11 "_law_in_time" ["_law_count","_law_against","_law_deeds","_law_bargain","_law_unsure","_law_rows"] gP)
  (hr:Room 11 (A.deeper (PyProof.Rows.envOfC "law" (af iq) s.heap.objs.size f cdv))) :
  PSs (bi bw P w K mg base ["_law_script","_law_count","_law_against","_law_bargain","_law_deeds","_law_books","_law_up","_law_unsure","_law_rows","_law_k","_law_row","_law_down","_law_j"] "law" (af iq) f cdv A outer s H E).nox (al iq) (wj K dm gY dv gW dw gH du h_ iA d6 cx gP):=by
 have hu:=aY hr
 have hu64:=hr.units
 have hu65:=aH hr
 obtain ⟨HZ,Ch,sL,sP,sU,rN⟩:=jd
 have nR:=hr.mono (j:=1) (by decide)
 obtain ⟨Kb,Jf,HU,Hv,Ie,Ii⟩:=qh
 have Dt:=hr.mono (j:=2) (by decide)
 obtain ⟨Hf,DS,ve,u_,vN,uw⟩:=je
 have p6:=hr.mono (j:=2) (by decide)
 obtain ⟨Ke,JM,GC,Hk,G5,He⟩:=qA
 have Gh:=hr.mono (j:=5) (by decide)
 obtain ⟨G7,Dw,vR,we,u9,v0⟩:=jk
 have p5:=hr.mono (j:=10) (by decide)
 obtain ⟨JQ,Jr,Hc,GH,HY,Ht⟩:=qC
 have FI:=hr.mono (j:=10) (by decide)
 obtain ⟨Id,Fi,uo,uI,vD,uM⟩:=jw
 have pX:=hr.mono (j:=4) (by decide)
 obtain ⟨Ki,Jx,Iw,Hr,IV,Hh⟩:=rM
 have Gd:=hr.mono (j:=10) (by decide)
 obtain ⟨JR,JE,GF,IS,GB,Hw⟩:=sQ
 have DU:=hr.mono (j:=1) (by decide)
 obtain ⟨GW,C7,yf,yE,xP,x5⟩:=kW
 have vj:=hr.mono (j:=3) (by decide)
 obtain ⟨Bn,zd,s_,sh,qv,rG⟩:=ft
 have oa:=hr.mono (j:=1) (by decide)
 obtain ⟨JX,JC,Hd,Ho,Iz,HL⟩:=qo
 have Ff:=hr.mono (j:=11) (by decide)
 unfold wj
 exact (ai (aN (i:=1) zsc1r.nd rfl (Or.inl rfl) (aQ ix_list (bZ (ab am (ab am (ab am (ab am (ab am (ab am (ab am (ab am ah))))))))) (aW bT (aW bT (aW cK (aL sL nR rfl sP sU rN .nil aw (ab (pv 0) (ab am ah))) am) am) am) (fun _ _=>rfl)))
   (ai (aN (i:=2) zsc1r.nd rfl (Or.inl rfl) (aL HU Dt rfl Hv Ie Ii .nil aw (ab (aL sL nR rfl sP sU rN .nil aw (ab (pv 0) (ab am ah))) (ab (pv 1) ah))))
   (ai (aN (i:=3) zsc1r.nd rfl (Or.inl rfl) (aL ve p6 rfl u_ vN uw .nil aw (ab (aL sL nR rfl sP sU rN .nil aw (ab (pv 0) (ab am ah))) ah)))
   (ai (aN (i:=4) zsc1r.nd rfl (Or.inl rfl) (aL GC Gh rfl Hk G5 He .nil aw (ab (pv 0) (ab (pv 1) (ab (pv 3) ah)))))
   (ai (aN (i:=5) zsc1r.nd rfl (Or.inl rfl) (aL vR p5 rfl we u9 v0 .nil aw (ab (pv 1) (ab (cz b7 (by rfl) T.n_list PySem.Pv.boot_list (ab (pv 2) ah)) (ab (cz b7 (by rfl) T.n_list PySem.Pv.boot_list (ab (pv 4) ah)) ah)))))
   (ai (aN (i:=6) zsc1r.nd rfl (Or.inr rfl) (aL Hc FI rfl GH HY Ht .nil aw (ab (pv 1) (ab (pv 2) (ab (pv 4) ah)))))
   (ai (aO (PW.pt (ez (fL (ii (pv 6))) (dS (bF (bj (aL uo pX rfl uI vD uM .nil aw (ab (pv 5) (ab (pv 1) ah))))))))
   (aj (ao bA))
   aA)
   (ai (aN (i:=7) zsc1r.nd rfl (Or.inl rfl) (bZ ah))
   (ai (aN (i:=8) zsc1r.nd rfl (Or.inl rfl) (bZ ah))
   (ai (da PassesOwn.never rfl (cN rfl T.n_range (ab (pv 1) ah)) (bq (i:=9) zsc1r.nd rfl (Or.inl rfl))
   (ai (aN (i:=10) zsc1r.nd rfl (Or.inl rfl) (aL Iw Gd rfl Hr IV Hh .nil aw (ab (pv 1) (ab (cz b7 (by rfl) T.n_list PySem.Pv.boot_list (ab (pv 2) ah)) (ab (cz b7 (by rfl) T.n_list PySem.Pv.boot_list (ab (pv 4) ah)) (ab (pv 9) (ab (pv 3) ah)))))))
   (ai (aO (bF (bj (aG bp (by rfl) T.n_isinstance PyProof.Rows.boot_isinstance (ab (pv 10) (ab (bR (by rfl) T.n_list PySem.Pv.boot_list (v:=.ty "list") rfl) ah)))))
   (aj (ao bA))
   aA)
   (fF (aO (PW.pt (fh (aK (xt hu64) (aL GF DU rfl IS GB Hw .nil aw (ab (aQ ix_list (pv 5) (pv 9) (fun _ _=>rfl)) (ab (pv 3) ah))) (bZ (ab aF ah)) (aR _)) (eD (bj (aQ ix_list (pv 6) (pv 9) (fun _ _=>rfl))))))
   (aj (bu (d7 PySem.F.plainAttrs_list PySem.F.slot_list_append PySem.F.type_list_append cO (pv 7) (ab (pv 9) ah))))
   (aj (aO (aK kD (aG aU (by rfl) T.n_len PySem.boot_len (ab (pv 10) ah)) am (aR _))
   (aj (ao bA))
   aA)))
   (ai (yd (i:=11) rfl zsc1r.nd rfl (Or.inl rfl) rfl (show cj _ (["_law_j","_law_up"]:List Str) _ ([("_law_up",s.heap.objs.size+1+0)]:List (Str×Addr)) ([none,some 6]:List (Option Nat)) from ⟨by with_unfolding_all rfl,rfl,rfl,rfl,rfl,⟨rfl,trivial⟩,⟨⟨rfl,Or.inl rfl,Or.inl rfl,_,rfl,rfl⟩,trivial⟩⟩) (cN rfl T.n_range (ab (pv 1) ah)) (fun _ _ _ _=>(bq (i:=0) zy rfl (Or.inl rfl))) (fun _ _ _ _=>(eP (bF (bj (aQ ix_list (pv 1) (pv 0) (fun _ _=>rfl)))))) (fun _ _ _ _=>(pv 0)))
   (ai (aO (PW.pt (fh (aK kD (aG aU (by rfl) T.n_len PySem.boot_len (ab (pv 10) ah)) am (aR _)) (eD (bF (bj (aL yf vj rfl yE xP x5 .nil aw (ab (pv 10) (ab (pv 11) ah))))))))
   (aj (ao bA))
   aA)
   (ai (da PassesOwn.never rfl (b6 (pv 10)) (bq (i:=12) zsc1r.nd rfl (Or.inl rfl))
   (aj (aO (bF (bj (aL s_ oa rfl sh qv rG .nil aw (ab (pv 12) ah))))
   (aj (ao bA))
   aA)))
   (aj (bu (d7 PySem.F.plainAttrs_list PySem.F.slot_list_append PySem.F.type_list_append cO (pv 8) (ab (pv 10) ah)))))))))))
   (aj (ao (aL Hd Ff rfl Ho Iz HL .nil aw (ab (pv 1) (ab (pv 2) (ab (pv 4) (ab (pv 3) (ab (pv 7) (ab (pv 8) ah)))))))))))))))))))
end
local macro_rules | `(tactic| walk_at "q")=>`(tactic| (intro vs H Q E h;have q:=h;repeat (first | (obtain ⟨e,_⟩:=q;subst e;rfl) | (obtain ⟨⟨_,_,e,_⟩,_⟩:=q;subst e;rfl) | (obtain ⟨_,q⟩:=q))))
section
variable {P:Program}{w:World}{K:PySem.W.Frag}{mg:Str→Option Value}{base:Heap}
theorem Gi{aa:Addr}{ac:Addr}{f:Addr}{fd:FuncData}(F:Fun K "_law_at" "_law_at" kO f fd)(T:Txt K mg aa ac)(hm:mg "_law_at"=some (.ref f)):aJ P w K mg base 1 "_law_at" ["_law_script","_law_k"] (dm K):=
 ⟨f,fd,F.ok DY (by walk_at "q") (fun cdv A outer s H vs Q E hr h=>⟨_,BR T hr,Gk h⟩),hm,F.kp,F.binds fun _ _ _ _ _ _ us hl=>match us,hl with | [_,_],_=>rfl⟩
theorem Ge{aa:Addr}{ac:Addr}{f:Addr}{fd:FuncData}(F:Fun K "_law_all_bargains" "_law_all_bargains" jQ f fd)(T:Txt K mg aa ac)(hm:mg "_law_all_bargains"=some (.ref f)):aJ P w K mg base 1 "_law_all_bargains" [] dL:=
 ⟨f,fd,F.ok Da (by walk_at "q") (fun cdv A outer s H vs Q E hr h=>⟨_,A1 T hr,EK h⟩),hm,F.kp,F.binds fun _ _ _ _ _ _ us hl=>match us,hl with | [],_=>rfl⟩
theorem C2{aa:Addr}{ac:Addr}{f:Addr}{fd:FuncData}(F:Fun K "_law_pairs_against" "_law_pairs_against" kr f fd)(T:Txt K mg aa ac)(jh:aJ P w K mg base 1 "_law_all_bargains" [] dL)(hm:mg "_law_pairs_against"=some (.ref f)):aJ P w K mg base 2 "_law_pairs_against" ["_law_cell","_law_count"] gY:=
 ⟨f,fd,F.ok zsc03 (by walk_at "q") (fun cdv A outer s H vs Q E hr h=>⟨_,Am dL T jh hr,Ef h⟩),hm,F.kp,F.binds fun _ _ _ _ _ _ us hl=>match us,hl with | [_,_],_=>rfl⟩
theorem C8{aa:Addr}{ac:Addr}{f:Addr}{fd:FuncData}(F:Fun K "_law_bargain_of" "_law_bargain_of" le f fd)(T:Txt K mg aa ac)(jh:aJ P w K mg base 1 "_law_all_bargains" [] dL)(hm:mg "_law_bargain_of"=some (.ref f)):aJ P w K mg base 2 "_law_bargain_of" ["_law_cell"] (dv (·∈allB)):=
 ⟨f,fd,F.ok CK (by walk_at "q") (fun cdv A outer s H vs Q E hr h=>⟨_,Ay dL T jh hr,FL h⟩),hm,F.kp,F.binds fun _ _ _ _ _ _ us hl=>match us,hl with | [_],_=>rfl⟩
theorem Cn{aa:Addr}{ac:Addr}{f:Addr}{fd:FuncData}(F:Fun K "_law_deed_of" "_law_deed_of" kR f fd)(T:Txt K mg aa ac)(je:aJ P w K mg base 2 "_law_bargain_of" ["_law_cell"] (dv (·∈allB)))(hm:mg "_law_deed_of"=some (.ref f)):aJ P w K mg base 3 "_law_deed_of" ["_law_cell","_law_k","_law_count","_law_swept"] (h8 (·∈allB)):=
 ⟨f,fd,F.ok zsc0t (by walk_at "q") (fun cdv A outer s H vs Q E hr h=>⟨_,A4 (dv (·∈allB)) T je hr,Fb h⟩),hm,F.kp,F.binds fun _ _ _ _ _ _ us hl=>match us,hl with | [_,_,_,_],_=>rfl⟩
theorem C9{aa:Addr}{ac:Addr}{f:Addr}{fd:FuncData}(F:Fun K "_law_drawn" "_law_drawn" ko f fd)(T:Txt K mg aa ac)(tm:aJ P w K mg base 3 "_law_deed_of" ["_law_cell","_law_k","_law_count","_law_swept"] (h8 (·∈allB)))(hm:mg "_law_drawn"=some (.ref f)):aJ P w K mg base 4 "_law_drawn" ["_law_cells","_law_count"] (gk (·∈allB)):=
 ⟨f,fd,F.ok zsc1a (by walk_at "q") (fun cdv A outer s H vs Q E hr h=>⟨_,AU (h8 (·∈allB)) T tm hr,Fa h⟩),hm,F.kp,F.binds fun _ _ _ _ _ _ us hl=>match us,hl with | [_,_],_=>rfl⟩
theorem ED{aa:Addr}{ac:Addr}{f:Addr}{fd:FuncData}(F:Fun K "_law_ahead" "_law_ahead" kX f fd)(T:Txt K mg aa ac)(jd:aJ P w K mg base 1 "_law_at" ["_law_script","_law_k"] (dm K))(qQ:aJ P w K mg base 4 "_law_drawn" ["_law_cells","_law_count"] (gk (·∈allB)))(hm:mg "_law_ahead"=some (.ref f)):aJ P w K mg base 5 "_law_ahead" ["_law_script","_law_count","_law_bargain"] (gW K):=
 ⟨f,fd,F.ok zsc1h (by walk_at "q") (fun cdv A outer s H vs Q E hr h=>⟨_,B_ (dm K) (gk (·∈allB)) T jd qQ hr,DK h⟩),hm,F.kp,F.binds fun _ _ _ _ _ _ us hl=>match us,hl with | [_,_,_],_=>rfl⟩
theorem F'{aa:Addr}{ac:Addr}{f:Addr}{fd:FuncData}(F:Fun K "words_of" "words_of" kY f fd)(T:Txt K mg aa ac)(hm:mg "words_of"=some (.ref f)):aJ P w K mg base 1 "words_of" ["book","bargain"] cg:=
 ⟨f,fd,F.ok DP (by walk_at "q") (fun cdv A outer s H vs Q E hr h=>⟨_,Bq T hr,zi h⟩),hm,F.kp,F.binds fun _ _ _ _ _ _ us hl=>match us,hl with | [_,_],_=>rfl⟩
theorem DD{aa:Addr}{ac:Addr}{f:Addr}{fd:FuncData}(F:Fun K "knows" "knows" k_ f fd)(T:Txt K mg aa ac)(fA:aJ P w K mg base 1 "words_of" ["book","bargain"] cg)(hm:mg "knows"=some (.ref f)):aJ P w K mg base 2 "knows" ["book","bargain"] cC:=
 ⟨f,fd,F.ok DR (by walk_at "q") (fun cdv A outer s H vs Q E hr h=>⟨_,By cg T fA hr,Es h⟩),hm,F.kp,F.binds fun _ _ _ _ _ _ us hl=>match us,hl with | [_,_],_=>rfl⟩
theorem E5{aa:Addr}{ac:Addr}{f:Addr}{fd:FuncData}(F:Fun K "write" "House.write" lu f fd)(T:Txt K mg aa ac)(hm:cH K aa "write" f):aB P w K mg base aa 1 "write" ["self","word","bargain"] (bz aa):=
 ⟨f,fd,F.ok Ep (by walk_at "q") (fun cdv A outer s H vs Q E hr h=>⟨_,AR T hr,EX T.hs h⟩),hm,F.binds fun _ _ _ _ _ _ us hl=>match us,hl with | [_,_,_],_=>rfl⟩
theorem DF{aa:Addr}{ac:Addr}{f:Addr}{fd:FuncData}(F:Fun K "to_others" "House.to_others" kd f fd)(T:Txt K mg aa ac)(hm:cH K aa "to_others" f):aB P w K mg base aa 1 "to_others" ["self","bargain","word"] (cu aa):=
 ⟨f,fd,F.ok Ga (by walk_at "q") (fun cdv A outer s H vs Q E hr h=>⟨_,BU T hr,EQ T.hs h⟩),hm,F.binds fun _ _ _ _ _ _ us hl=>match us,hl with | [_,_,_],_=>rfl⟩
theorem EH{aa:Addr}{ac:Addr}{f:Addr}{fd:FuncData}(F:Fun K "begin" "House.begin" j' f fd)(T:Txt K mg aa ac)(dn:aB P w K mg base aa 1 "write" ["self","word","bargain"] (bz aa))(fD:aB P w K mg base aa 1 "to_others" ["self","bargain","word"] (cu aa))(hm:cH K aa "begin" f):aB P w K mg base aa 2 "begin" ["self","bargain"] (gR aa):=
 ⟨f,fd,F.ok Gq (by walk_at "q") (fun cdv A outer s H vs Q E hr h=>⟨_,B9 (bz aa) (cu aa) aa T dn fD hr,FE T.hs h⟩),hm,F.binds fun _ _ _ _ _ _ us hl=>match us,hl with | [_,_],_=>rfl⟩
theorem Gr{aa:Addr}{ac:Addr}{f:Addr}{fd:FuncData}(F:Fun K "send" "Hall.send" ku f fd)(T:Txt K mg aa ac)(hm:cH K ac "send" f):aB P w K mg base ac 1 "send" ["self","sent"] (cw aa ac):=
 ⟨f,fd,F.ok zsc1f (by walk_at "q") (fun cdv A outer s H vs Q E hr h=>⟨_,Cd T hr,Do T.hx h⟩),hm,F.binds fun _ _ _ _ _ _ us hl=>match us,hl with | [_,_],_=>rfl⟩
theorem Ek{aa:Addr}{ac:Addr}{f:Addr}{fd:FuncData}(F:Fun K "forget" "House.forget" kU f fd)(T:Txt K mg aa ac)(hm:cH K aa "forget" f):aB P w K mg base aa 1 "forget" ["self"] (dO aa):=
 ⟨f,fd,F.ok Fo (by walk_at "q") (fun cdv A outer s H vs Q E hr h=>⟨_,B5 T hr,FA T.hs h⟩),hm,F.binds fun _ _ _ _ _ _ us hl=>match us,hl with | [_],_=>rfl⟩
theorem CT{aa:Addr}{ac:Addr}{f:Addr}{fd:FuncData}(F:Fun K "stop" "House.stop" lf f fd)(T:Txt K mg aa ac)(ji:aB P w K mg base aa 1 "forget" ["self"] (dO aa))(hm:cH K aa "stop" f):aB P w K mg base aa 2 "stop" ["self"] (dN aa):=
 ⟨f,fd,F.ok Fg (by walk_at "q") (fun cdv A outer s H vs Q E hr h=>⟨_,BZ (dO aa) aa T ji hr,Cw T.hs h⟩),hm,F.binds fun _ _ _ _ _ _ us hl=>match us,hl with | [_],_=>rfl⟩
theorem Fh{aa:Addr}{ac:Addr}{f:Addr}{fd:FuncData}(F:Fun K "send_or_stop" "Hall.send_or_stop" kG f fd)(T:Txt K mg aa ac)(fw:aB P w K mg base ac 1 "send" ["self","sent"] (cw aa ac))(jq:aB P w K mg base aa 2 "stop" ["self"] (dN aa))(hm:cH K ac "send_or_stop" f):aB P w K mg base ac 3 "send_or_stop" ["self","house","sent","stays"] (dH aa ac):=
 ⟨f,fd,F.ok D_ (by walk_at "q") (fun cdv A outer s H vs Q E hr h=>⟨_,BX (cw aa ac) (dN aa) ac aa T fw jq hr,CV T.hx T.hs h⟩),hm,F.binds fun _ _ _ _ _ _ us hl=>match us,hl with | [_,_,_,_],_=>rfl⟩
theorem Eb{aa:Addr}{ac:Addr}{f:Addr}{fd:FuncData}(F:Fun K "begin" "Hall.begin" lp f fd)(T:Txt K mg aa ac)(fo:aJ P w K mg base 2 "knows" ["book","bargain"] cC)(tE:aB P w K mg base aa 2 "begin" ["self","bargain"] (gR aa))(jg:aB P w K mg base ac 3 "send_or_stop" ["self","house","sent","stays"] (dH aa ac))(hm:cH K ac "begin" f):aB P w K mg base ac 4 "begin" ["self","bargain","stays"] (hZ aa ac):=
 ⟨f,fd,F.ok zsc13 (by walk_at "q") (fun cdv A outer s H vs Q E hr h=>⟨_,BO cC (gR aa) (dH aa ac) aa ac T fo tE jg hr,Gg T.hx T.hs h⟩),hm,F.binds fun _ _ _ _ _ _ us hl=>match us,hl with | [_,_,_],_=>rfl⟩
theorem FY{aa:Addr}{ac:Addr}{f:Addr}{fd:FuncData}(F:Fun K "page" "House.page" kN f fd)(T:Txt K mg aa ac)(hm:cH K aa "page" f):aB P w K mg base aa 1 "page" ["self","bargain"] (bV aa):=
 ⟨f,fd,F.ok zsc12 (by walk_at "q") (fun cdv A outer s H vs Q E hr h=>⟨_,Bx T hr,Fv T.hs h⟩),hm,F.binds fun _ _ _ _ _ _ us hl=>match us,hl with | [_,_],_=>rfl⟩
theorem DB{aa:Addr}{ac:Addr}{f:Addr}{fd:FuncData}(F:Fun K "decision_in" "decision_in" lc f fd)(T:Txt K mg aa ac)(fA:aJ P w K mg base 1 "words_of" ["book","bargain"] cg)(hm:mg "decision_in"=some (.ref f)):aJ P w K mg base 2 "decision_in" ["book","bargain"] cy:=
 ⟨f,fd,F.ok zsc0q (by walk_at "q") (fun cdv A outer s H vs Q E hr h=>⟨_,BM cg T fA hr,FG h⟩),hm,F.kp,F.binds fun _ _ _ _ _ _ us hl=>match us,hl with | [_,_],_=>rfl⟩
theorem Fm{aa:Addr}{ac:Addr}{f:Addr}{fd:FuncData}(F:Fun K "decision" "House.decision" jS f fd)(T:Txt K mg aa ac)(fq:aJ P w K mg base 2 "decision_in" ["book","bargain"] cy)(d8:aB P w K mg base aa 1 "page" ["self","bargain"] (bV aa))(hm:cH K aa "decision" f):aB P w K mg base aa 3 "decision" ["self","bargain"] (bD aa):=
 ⟨f,fd,F.ok Fj (by walk_at "q") (fun cdv A outer s H vs Q E hr h=>⟨_,Bb cy (bV aa) aa T fq d8 hr,DW T.hs h⟩),hm,F.binds fun _ _ _ _ _ _ us hl=>match us,hl with | [_,_],_=>rfl⟩
theorem FR{aa:Addr}{ac:Addr}{f:Addr}{fd:FuncData}(F:Fun K "to_one" "House.to_one" jN f fd)(T:Txt K mg aa ac)(hm:cH K aa "to_one" f):aB P w K mg base aa 1 "to_one" ["self","other","bargain","word"] (ci aa):=
 ⟨f,fd,F.ok DO (by walk_at "q") (fun cdv A outer s H vs Q E hr h=>⟨_,Bw T hr,Fe T.hs h⟩),hm,F.binds fun _ _ _ _ _ _ us hl=>match us,hl with | [_,_,_,_],_=>rfl⟩
theorem Ej{aa:Addr}{ac:Addr}{f:Addr}{fd:FuncData}(F:Fun K "got_ask" "House.got_ask" jW f fd)(T:Txt K mg aa ac)(fo:aJ P w K mg base 2 "knows" ["book","bargain"] cC)(d8:aB P w K mg base aa 1 "page" ["self","bargain"] (bV aa))(dn:aB P w K mg base aa 1 "write" ["self","word","bargain"] (bz aa))(dq:aB P w K mg base aa 3 "decision" ["self","bargain"] (bD aa))(fz:aB P w K mg base aa 1 "to_one" ["self","other","bargain","word"] (ci aa))(hm:cH K aa "got_ask" f):aB P w K mg base aa 4 "got_ask" ["self","giver","bargain"] (gM aa):=
 ⟨f,fd,F.ok E7 (by walk_at "q") (fun cdv A outer s H vs Q E hr h=>⟨_,Bg cC (bV aa) (bz aa) (bD aa) (ci aa) aa T fo d8 dn dq fz hr,C4 T.hs h⟩),hm,F.binds fun _ _ _ _ _ _ us hl=>match us,hl with | [_,_,_],_=>rfl⟩
theorem EV{aa:Addr}{ac:Addr}{f:Addr}{fd:FuncData}(F:Fun K "vote_in" "vote_in" j_ f fd)(T:Txt K mg aa ac)(fA:aJ P w K mg base 1 "words_of" ["book","bargain"] cg)(hm:mg "vote_in"=some (.ref f)):aJ P w K mg base 2 "vote_in" ["book","bargain"] gU:=
 ⟨f,fd,F.ok zsc1l (by walk_at "q") (fun cdv A outer s H vs Q E hr h=>⟨_,AD cg T fA hr,CP h⟩),hm,F.kp,F.binds fun _ _ _ _ _ _ us hl=>match us,hl with | [_,_],_=>rfl⟩
theorem Dx{aa:Addr}{ac:Addr}{f:Addr}{fd:FuncData}(F:Fun K "is_unsure" "is_unsure" kf f fd)(T:Txt K mg aa ac)(qW:aJ P w K mg base 2 "vote_in" ["book","bargain"] gU)(fq:aJ P w K mg base 2 "decision_in" ["book","bargain"] cy)(hm:mg "is_unsure"=some (.ref f)):aJ P w K mg base 3 "is_unsure" ["book","bargain"] b0:=
 ⟨f,fd,F.ok Ee (by walk_at "q") (fun cdv A outer s H vs Q E hr h=>⟨_,BS gU cy T qW fq hr,FN h⟩),hm,F.kp,F.binds fun _ _ _ _ _ _ us hl=>match us,hl with | [_,_],_=>rfl⟩
theorem Fp{aa:Addr}{ac:Addr}{f:Addr}{fd:FuncData}(F:Fun K "decide" "House.decide" kx f fd)(T:Txt K mg aa ac)(dn:aB P w K mg base aa 1 "write" ["self","word","bargain"] (bz aa))(fD:aB P w K mg base aa 1 "to_others" ["self","bargain","word"] (cu aa))(hm:cH K aa "decide" f):aB P w K mg base aa 2 "decide" ["self","bargain","word"] (cf aa):=
 ⟨f,fd,F.ok E' (by walk_at "q") (fun cdv A outer s H vs Q E hr h=>⟨_,B8 (bz aa) (cu aa) aa T dn fD hr,Ea T.hs h⟩),hm,F.binds fun _ _ _ _ _ _ us hl=>match us,hl with | [_,_,_],_=>rfl⟩
theorem Ew{aa:Addr}{ac:Addr}{f:Addr}{fd:FuncData}(F:Fun K "got_query" "House.got_query" lm f fd)(T:Txt K mg aa ac)(ej:aJ P w K mg base 3 "is_unsure" ["book","bargain"] b0)(fo:aJ P w K mg base 2 "knows" ["book","bargain"] cC)(d8:aB P w K mg base aa 1 "page" ["self","bargain"] (bV aa))(dq:aB P w K mg base aa 3 "decision" ["self","bargain"] (bD aa))(fz:aB P w K mg base aa 1 "to_one" ["self","other","bargain","word"] (ci aa))(fu:aB P w K mg base aa 2 "decide" ["self","bargain","word"] (cf aa))(dn:aB P w K mg base aa 1 "write" ["self","word","bargain"] (bz aa))(hm:cH K aa "got_query" f):aB P w K mg base aa 4 "got_query" ["self","giver","bargain"] (hR aa):=
 ⟨f,fd,F.ok zsc07 (by walk_at "q") (fun cdv A outer s H vs Q E hr h=>⟨_,AZ b0 cC (bV aa) (bD aa) (ci aa) (cf aa) (bz aa) aa T ej fo d8 dq fz fu dn hr,Fr T.hs h⟩),hm,F.binds fun _ _ _ _ _ _ us hl=>match us,hl with | [_,_,_],_=>rfl⟩
theorem FT{aa:Addr}{ac:Addr}{f:Addr}{fd:FuncData}(F:Fun K "got_vote" "House.got_vote" j5 f fd)(T:Txt K mg aa ac)(dq:aB P w K mg base aa 3 "decision" ["self","bargain"] (bD aa))(fz:aB P w K mg base aa 1 "to_one" ["self","other","bargain","word"] (ci aa))(fu:aB P w K mg base aa 2 "decide" ["self","bargain","word"] (cf aa))(hm:cH K aa "got_vote" f):aB P w K mg base aa 4 "got_vote" ["self","giver","bargain","word"] (hV aa):=
 ⟨f,fd,F.ok zsc0d (by walk_at "q") (fun cdv A outer s H vs Q E hr h=>⟨_,Ca (bD aa) (ci aa) (cf aa) aa T dq fz fu hr,CA T.hs h⟩),hm,F.binds fun _ _ _ _ _ _ us hl=>match us,hl with | [_,_,_,_],_=>rfl⟩
theorem FJ{aa:Addr}{ac:Addr}{f:Addr}{fd:FuncData}(F:Fun K "got_decision" "House.got_decision" lr f fd)(T:Txt K mg aa ac)(dq:aB P w K mg base aa 3 "decision" ["self","bargain"] (bD aa))(dn:aB P w K mg base aa 1 "write" ["self","word","bargain"] (bz aa))(hm:cH K aa "got_decision" f):aB P w K mg base aa 4 "got_decision" ["self","bargain","word"] (gI aa):=
 ⟨f,fd,F.ok Df (by walk_at "q") (fun cdv A outer s H vs Q E hr h=>⟨_,B1 (bD aa) (bz aa) aa T dq dn hr,DG T.hs h⟩),hm,F.binds fun _ _ _ _ _ _ us hl=>match us,hl with | [_,_,_],_=>rfl⟩
theorem Fd{aa:Addr}{ac:Addr}{f:Addr}{fd:FuncData}(F:Fun K "got" "House.got" j8 f fd)(T:Txt K mg aa ac)(rP:aB P w K mg base aa 4 "got_ask" ["self","giver","bargain"] (gM aa))(sH:aB P w K mg base aa 4 "got_query" ["self","giver","bargain"] (hR aa))(rQ:aB P w K mg base aa 4 "got_vote" ["self","giver","bargain","word"] (hV aa))(rH:aB P w K mg base aa 4 "got_decision" ["self","bargain","word"] (gI aa))(hm:cH K aa "got" f):aB P w K mg base aa 5 "got" ["self","letter"] (gX aa):=
 ⟨f,fd,F.ok zsc1c (by walk_at "q") (fun cdv A outer s H vs Q E hr h=>⟨_,A2 (gM aa) (hR aa) (hV aa) (gI aa) aa T rP sH rQ rH hr,Ft T.hs h⟩),hm,F.binds fun _ _ _ _ _ _ us hl=>match us,hl with | [_,_],_=>rfl⟩
theorem Gj{aa:Addr}{ac:Addr}{f:Addr}{fd:FuncData}(F:Fun K "carry" "Hall.carry" kH f fd)(T:Txt K mg aa ac)(rn:aB P w K mg base aa 5 "got" ["self","letter"] (gX aa))(jg:aB P w K mg base ac 3 "send_or_stop" ["self","house","sent","stays"] (dH aa ac))(hm:cH K ac "carry" f):aB P w K mg base ac 6 "carry" ["self","which","stays"] (dI aa ac):=
 ⟨f,fd,F.ok zsc11 (by walk_at "q") (fun cdv A outer s H vs Q E hr h=>⟨_,AT (gX aa) (dH aa ac) aa ac T rn jg hr,E_ T.hx T.hs h⟩),hm,F.binds fun _ _ _ _ _ _ us hl=>match us,hl with | [_,_,_],_=>rfl⟩
theorem FM{aa:Addr}{ac:Addr}{f:Addr}{fd:FuncData}(F:Fun K "query" "House.query" jL f fd)(T:Txt K mg aa ac)(ej:aJ P w K mg base 3 "is_unsure" ["book","bargain"] b0)(d8:aB P w K mg base aa 1 "page" ["self","bargain"] (bV aa))(fD:aB P w K mg base aa 1 "to_others" ["self","bargain","word"] (cu aa))(hm:cH K aa "query" f):aB P w K mg base aa 4 "query" ["self","bargain"] (hE aa):=
 ⟨f,fd,F.ok Cj (by walk_at "q") (fun cdv A outer s H vs Q E hr h=>⟨_,B0 b0 (bV aa) (cu aa) aa T ej d8 fD hr,DC T.hs h⟩),hm,F.binds fun _ _ _ _ _ _ us hl=>match us,hl with | [_,_],_=>rfl⟩
theorem Dm{aa:Addr}{ac:Addr}{f:Addr}{fd:FuncData}(F:Fun K "query" "Hall.query" kI f fd)(T:Txt K mg aa ac)(qg:aB P w K mg base aa 4 "query" ["self","bargain"] (hE aa))(fw:aB P w K mg base ac 1 "send" ["self","sent"] (cw aa ac))(hm:cH K ac "query" f):aB P w K mg base ac 5 "query" ["self","number","bargain"] (gz aa ac):=
 ⟨f,fd,F.ok zsc16 (by walk_at "q") (fun cdv A outer s H vs Q E hr h=>⟨_,A7 (hE aa) (cw aa ac) aa ac T qg fw hr,Fz T.hx T.hs h⟩),hm,F.binds fun _ _ _ _ _ _ us hl=>match us,hl with | [_,_,_],_=>rfl⟩
theorem El{aa:Addr}{ac:Addr}{f:Addr}{fd:FuncData}(F:Fun K "stop" "Hall.stop" j3 f fd)(T:Txt K mg aa ac)(jq:aB P w K mg base aa 2 "stop" ["self"] (dN aa))(hm:cH K ac "stop" f):aB P w K mg base ac 3 "stop" ["self","number"] (gi aa ac):=
 ⟨f,fd,F.ok zsc19 (by walk_at "q") (fun cdv A outer s H vs Q E hr h=>⟨_,BI (dN aa) aa T jq hr,Dy T.hx T.hs h⟩),hm,F.binds fun _ _ _ _ _ _ us hl=>match us,hl with | [_,_],_=>rfl⟩
theorem EF{aa:Addr}{ac:Addr}{f:Addr}{fd:FuncData}(F:Fun K "left_open" "left_open" kF f fd)(T:Txt K mg aa ac)(fq:aJ P w K mg base 2 "decision_in" ["book","bargain"] cy)(hm:mg "left_open"=some (.ref f)):aJ P w K mg base 3 "left_open" ["book"] gO:=
 ⟨f,fd,F.ok Cs (by walk_at "q") (fun cdv A outer s H vs Q E hr h=>⟨_,AE cy T fq hr,DN h⟩),hm,F.kp,F.binds fun _ _ _ _ _ _ us hl=>match us,hl with | [_],_=>rfl⟩
theorem D9{aa:Addr}{ac:Addr}{f:Addr}{fd:FuncData}(F:Fun K "wake" "House.wake" kh f fd)(T:Txt K mg aa ac)(rj:aJ P w K mg base 3 "left_open" ["book"] gO)(fu:aB P w K mg base aa 2 "decide" ["self","bargain","word"] (cf aa))(hm:cH K aa "wake" f):aB P w K mg base aa 4 "wake" ["self"] (gJ aa):=
 ⟨f,fd,F.ok zsc10 (by walk_at "q") (fun cdv A outer s H vs Q E hr h=>⟨_,BJ gO (cf aa) aa T rj fu hr,D7 T.hs h⟩),hm,F.binds fun _ _ _ _ _ _ us hl=>match us,hl with | [_],_=>rfl⟩
theorem Cz{aa:Addr}{ac:Addr}{f:Addr}{fd:FuncData}(F:Fun K "wake" "Hall.wake" kQ f fd)(T:Txt K mg aa ac)(rh:aB P w K mg base aa 4 "wake" ["self"] (gJ aa))(fw:aB P w K mg base ac 1 "send" ["self","sent"] (cw aa ac))(hm:cH K ac "wake" f):aB P w K mg base ac 5 "wake" ["self","number"] (h7 aa ac):=
 ⟨f,fd,F.ok zsc1i (by walk_at "q") (fun cdv A outer s H vs Q E hr h=>⟨_,Ce (gJ aa) (cw aa ac) aa ac T rh fw hr,C5 T.hx T.hs h⟩),hm,F.binds fun _ _ _ _ _ _ us hl=>match us,hl with | [_,_],_=>rfl⟩
theorem Dg{aa:Addr}{ac:Addr}{f:Addr}{fd:FuncData}(F:Fun K "is_spent" "House.is_spent" kz f fd)(T:Txt K mg aa ac)(dq:aB P w K mg base aa 3 "decision" ["self","bargain"] (bD aa))(hm:cH K aa "is_spent" f):aB P w K mg base aa 4 "is_spent" ["self","letter"] (gj aa):=
 ⟨f,fd,F.ok ES (by walk_at "q") (fun cdv A outer s H vs Q E hr h=>⟨_,AQ (bD aa) aa T dq hr,CG T.hs h⟩),hm,F.binds fun _ _ _ _ _ _ us hl=>match us,hl with | [_,_],_=>rfl⟩
theorem CB{aa:Addr}{ac:Addr}{f:Addr}{fd:FuncData}(F:Fun K "is_spent_letter" "Hall.is_spent_letter" j2 f fd)(T:Txt K mg aa ac)(qH:aB P w K mg base aa 4 "is_spent" ["self","letter"] (gj aa))(hm:cH K ac "is_spent_letter" f):aB P w K mg base ac 5 "is_spent_letter" ["self","which"] (g_ aa ac):=
 ⟨f,fd,F.ok zsc00 (by walk_at "q") (fun cdv A outer s H vs Q E hr h=>⟨_,BK (gj aa) aa T qH hr,CL T.hx h⟩),hm,F.binds fun _ _ _ _ _ _ us hl=>match us,hl with | [_,_],_=>rfl⟩
theorem E6{aa:Addr}{ac:Addr}{f:Addr}{fd:FuncData}(F:Fun K "sweep" "Hall.sweep" lg f fd)(T:Txt K mg aa ac)(jf:aB P w K mg base ac 6 "carry" ["self","which","stays"] (dI aa ac))(sV:aB P w K mg base ac 5 "is_spent_letter" ["self","which"] (g_ aa ac))(hm:cH K ac "sweep" f):aB P w K mg base ac 7 "sweep" ["self"] (gh aa ac):=
 ⟨f,fd,F.ok zsc14 (by walk_at "q") (fun cdv A outer s H vs Q E hr h=>⟨_,AI (dI aa ac) (g_ aa ac) ac T jf sV hr,FB T.hx h⟩),hm,F.binds fun _ _ _ _ _ _ us hl=>match us,hl with | [_],_=>rfl⟩
theorem CD{aa:Addr}{ac:Addr}{f:Addr}{fd:FuncData}(F:Fun K "do" "Hall.do" jR f fd)(T:Txt K mg aa ac)(sR:aB P w K mg base ac 4 "begin" ["self","bargain","stays"] (hZ aa ac))(jf:aB P w K mg base ac 6 "carry" ["self","which","stays"] (dI aa ac))(tj:aB P w K mg base ac 5 "query" ["self","number","bargain"] (gz aa ac))(sS:aB P w K mg base ac 3 "stop" ["self","number"] (gi aa ac))(rW:aB P w K mg base ac 5 "wake" ["self","number"] (h7 aa ac))(qO:aB P w K mg base ac 7 "sweep" ["self"] (gh aa ac))(hm:cH K ac "do" f):aB P w K mg base ac 8 "do" ["self","deed"] (dJ aa ac):=
 ⟨f,fd,F.ok zsc1m (by walk_at "q") (fun cdv A outer s H vs Q E hr h=>⟨_,Bz (hZ aa ac) (dI aa ac) (gz aa ac) (gi aa ac) (h7 aa ac) (gh aa ac) ac T sR jf tj sS rW qO hr,Cl T.hx h⟩),hm,F.binds fun _ _ _ _ _ _ us hl=>match us,hl with | [_,_],_=>rfl⟩
theorem EO{aa:Addr}{ac:Addr}{f:Addr}{fd:FuncData}(F:Fun K "bargains_against" "bargains_against" jT f fd)(T:Txt K mg aa ac)(hm:mg "bargains_against"=some (.ref f)):aJ P w K mg base 1 "bargains_against" ["against","number"] gK:=
 ⟨f,fd,F.ok Dv (by walk_at "q") (fun cdv A outer s H vs Q E hr h=>⟨_,Ao T hr,E8 h⟩),hm,F.kp,F.binds fun _ _ _ _ _ _ us hl=>match us,hl with | [_,_],_=>rfl⟩
theorem F_{aa:Addr}{ac:Addr}{f:Addr}{fd:FuncData}(F:Fun K "__init__" "House.__init__" jP f fd)(T:Txt K mg aa ac)(ji:aB P w K mg base aa 1 "forget" ["self"] (dO aa))(hm:Mk K aa f):lR P w K mg base aa 2 ["self","number","count","against"] (gL aa):=
 ⟨f,fd,F.ok FP (by walk_at "q") (fun cdv A outer s H vs Q E hr h=>⟨_,BE (dO aa) aa T ji hr,Ds T.hs h⟩),hm,F.binds fun _ _ _ _ _ _ us hl=>match us,hl with | [_,_,_,_],_=>rfl⟩
theorem EW{aa:Addr}{ac:Addr}{f:Addr}{fd:FuncData}(F:Fun K "__init__" "Hall.__init__" jO f fd)(T:Txt K mg aa ac)(qU:aJ P w K mg base 1 "bargains_against" ["against","number"] gK)(qd:lR P w K mg base aa 2 ["self","number","count","against"] (gL aa))(hm:Mk K ac f):lR P w K mg base ac 4 ["self","count","against"] (dP aa ac):=
 ⟨f,fd,F.ok EB (by walk_at "q") (fun cdv A outer s H vs Q E hr h=>⟨_,AF gK (gL aa) aa T qU qd hr,ET T.hx h⟩),hm,F.binds fun _ _ _ _ _ _ us hl=>match us,hl with | [_,_,_],_=>rfl⟩
theorem Dj{aa:Addr}{ac:Addr}{f:Addr}{fd:FuncData}(F:Fun K "hall_after" "hall_after" kK f fd)(T:Txt K mg aa ac)(jv:aB P w K mg base ac 8 "do" ["self","deed"] (dJ aa ac))(ju:lR P w K mg base ac 4 ["self","count","against"] (dP aa ac))(hm:mg "hall_after"=some (.ref f)):aJ P w K mg base 9 "hall_after" ["count","against","deeds"] (cm aa ac):=
 ⟨f,fd,F.ok zsc0z (by walk_at "q") (fun cdv A outer s H vs Q E hr h=>⟨_,Bc (dP aa ac) (dJ aa ac) ac T jv ju hr,DA h⟩),hm,F.kp,F.binds fun _ _ _ _ _ _ us hl=>match us,hl with | [_,_,_],_=>rfl⟩
theorem Fc{aa:Addr}{ac:Addr}{f:Addr}{fd:FuncData}(F:Fun K "books_after" "books_after" jJ f fd)(T:Txt K mg aa ac)(fC:aJ P w K mg base 9 "hall_after" ["count","against","deeds"] (cm aa ac))(hm:mg "books_after"=some (.ref f)):aJ P w K mg base 10 "books_after" ["count","against","deeds"] (dw aa ac):=
 ⟨f,fd,F.ok Ci (by walk_at "q") (fun cdv A outer s H vs Q E hr h=>⟨_,At (cm aa ac) T fC hr,Ed T.hx T.hs h⟩),hm,F.kp,F.binds fun _ _ _ _ _ _ us hl=>match us,hl with | [_,_,_],_=>rfl⟩
theorem ER{aa:Addr}{ac:Addr}{f:Addr}{fd:FuncData}(F:Fun K "answers" "answers" jK f fd)(T:Txt K mg aa ac)(jv:aB P w K mg base ac 8 "do" ["self","deed"] (dJ aa ac))(ju:lR P w K mg base ac 4 ["self","count","against"] (dP aa ac))(hm:mg "answers"=some (.ref f)):aJ P w K mg base 9 "answers" ["count","against","deeds"] (gT aa ac):=
 ⟨f,fd,F.ok zsc1k (by walk_at "q") (fun cdv A outer s H vs Q E hr h=>⟨_,BN (dP aa ac) (dJ aa ac) ac T jv ju hr,Dr h⟩),hm,F.kp,F.binds fun _ _ _ _ _ _ us hl=>match us,hl with | [_,_,_],_=>rfl⟩
theorem DH{aa:Addr}{ac:Addr}{f:Addr}{fd:FuncData}(F:Fun K "_law_whole" "_law_whole" kP f fd)(T:Txt K mg aa ac)(hm:mg "_law_whole"=some (.ref f)):aJ P w K mg base 1 "_law_whole" ["_law_found"] cx:=
 ⟨f,fd,F.ok CY (by walk_at "q") (fun cdv A outer s H vs Q E hr h=>⟨_,AJ T hr,Go h⟩),hm,F.kp,F.binds fun _ _ _ _ _ _ us hl=>match us,hl with | [_],_=>rfl⟩
theorem FW{aa:Addr}{ac:Addr}{f:Addr}{fd:FuncData}(F:Fun K "_law_is_line" "_law_is_line" jU f fd)(T:Txt K mg aa ac)(ft:aJ P w K mg base 1 "_law_whole" ["_law_found"] cx)(hm:mg "_law_is_line"=some (.ref f)):aJ P w K mg base 2 "_law_is_line" ["_law_found"] h9:=
 ⟨f,fd,F.ok Cv (by walk_at "q") (fun cdv A outer s H vs Q E hr h=>⟨_,AY cx T ft hr,Fu h⟩),hm,F.kp,F.binds fun _ _ _ _ _ _ us hl=>match us,hl with | [_],_=>rfl⟩
theorem Cm{aa:Addr}{ac:Addr}{f:Addr}{fd:FuncData}(F:Fun K "_law_are_lines" "_law_are_lines" kj f fd)(T:Txt K mg aa ac)(qm:aJ P w K mg base 2 "_law_is_line" ["_law_found"] h9)(hm:mg "_law_are_lines"=some (.ref f)):aJ P w K mg base 3 "_law_are_lines" ["_law_found"] dM:=
 ⟨f,fd,F.ok zsc0g (by walk_at "q") (fun cdv A outer s H vs Q E hr h=>⟨_,Br h9 T qm hr,C3 h⟩),hm,F.kp,F.binds fun _ _ _ _ _ _ us hl=>match us,hl with | [_],_=>rfl⟩
theorem CN{aa:Addr}{ac:Addr}{f:Addr}{fd:FuncData}(F:Fun K "_law_who_is_up" "_law_who_is_up" kZ f fd)(T:Txt K mg aa ac)(qG:aJ P w K mg base 9 "answers" ["count","against","deeds"] (gT aa ac))(js:aJ P w K mg base 3 "_law_are_lines" ["_law_found"] dM)(hm:mg "_law_who_is_up"=some (.ref f)):aJ P w K mg base 10 "_law_who_is_up" ["_law_count","_law_against","_law_deeds"] (gH aa ac):=
 ⟨f,fd,F.ok zsc0i (by walk_at "q") (fun cdv A outer s H vs Q E hr h=>⟨_,BT (gT aa ac) dM T qG js hr,CQ h⟩),hm,F.kp,F.binds fun _ _ _ _ _ _ us hl=>match us,hl with | [_,_,_],_=>rfl⟩
theorem Dc{aa:Addr}{ac:Addr}{f:Addr}{fd:FuncData}(F:Fun K "_law_are_books" "_law_are_books" lh f fd)(T:Txt K mg aa ac)(js:aJ P w K mg base 3 "_law_are_lines" ["_law_found"] dM)(hm:mg "_law_are_books"=some (.ref f)):aJ P w K mg base 4 "_law_are_books" ["_law_found","_law_count"] du:=
 ⟨f,fd,F.ok zsc0j (by walk_at "q") (fun cdv A outer s H vs Q E hr h=>⟨_,BV dM T js hr,FF h⟩),hm,F.kp,F.binds fun _ _ _ _ _ _ us hl=>match us,hl with | [_,_],_=>rfl⟩
theorem CM{aa:Addr}{ac:Addr}{f:Addr}{fd:FuncData}(F:Fun K "is_up_and_unsure" "is_up_and_unsure" ke f fd)(T:Txt K mg aa ac)(ej:aJ P w K mg base 3 "is_unsure" ["book","bargain"] b0)(hm:mg "is_up_and_unsure"=some (.ref f)):aJ P w K mg base 4 "is_up_and_unsure" ["house","bargain"] (hX aa):=
 ⟨f,fd,F.ok FV (by walk_at "q") (fun cdv A outer s H vs Q E hr h=>⟨_,A5 b0 T ej hr,EM T.hs h⟩),hm,F.kp,F.binds fun _ _ _ _ _ _ us hl=>match us,hl with | [_,_],_=>rfl⟩
theorem DJ{aa:Addr}{ac:Addr}{f:Addr}{fd:FuncData}(F:Fun K "tells_one_up" "tells_one_up" kA f fd)(T:Txt K mg aa ac)(hm:mg "tells_one_up"=some (.ref f)):aJ P w K mg base 1 "tells_one_up" ["hall","letter","bargain"] (gm aa ac):=
 ⟨f,fd,F.ok FO (by walk_at "q") (fun cdv A outer s H vs Q E hr h=>⟨_,BQ T hr,Di T.hx T.hs h⟩),hm,F.kp,F.binds fun _ _ _ _ _ _ us hl=>match us,hl with | [_,_,_],_=>rfl⟩
theorem Eg{aa:Addr}{ac:Addr}{f:Addr}{fd:FuncData}(F:Fun K "can_be_told" "can_be_told" j9 f fd)(T:Txt K mg aa ac)(ej:aJ P w K mg base 3 "is_unsure" ["book","bargain"] b0)(sr:aJ P w K mg base 1 "tells_one_up" ["hall","letter","bargain"] (gm aa ac))(hm:mg "can_be_told"=some (.ref f)):aJ P w K mg base 4 "can_be_told" ["hall","bargain"] (hW aa ac):=
 ⟨f,fd,F.ok Db (by walk_at "q") (fun cdv A outer s H vs Q E hr h=>⟨_,Bi b0 (gm aa ac) T ej sr hr,DI T.hx T.hs h⟩),hm,F.kp,F.binds fun _ _ _ _ _ _ us hl=>match us,hl with | [_,_],_=>rfl⟩
theorem Fy{aa:Addr}{ac:Addr}{f:Addr}{fd:FuncData}(F:Fun K "waits" "waits" kM f fd)(T:Txt K mg aa ac)(fC:aJ P w K mg base 9 "hall_after" ["count","against","deeds"] (cm aa ac))(qj:aJ P w K mg base 4 "is_up_and_unsure" ["house","bargain"] (hX aa))(su:aJ P w K mg base 4 "can_be_told" ["hall","bargain"] (hW aa ac))(hm:mg "waits"=some (.ref f)):aJ P w K mg base 10 "waits" ["count","against","deeds","number","bargain"] (h_ aa ac):=
 ⟨f,fd,F.ok zsc1p (by walk_at "q") (fun cdv A outer s H vs Q E hr h=>⟨_,AV (cm aa ac) (hX aa) (hW aa ac) T fC qj su hr,D4 T.hx T.hs h⟩),hm,F.kp,F.binds fun _ _ _ _ _ _ us hl=>match us,hl with | [_,_,_,_,_],_=>rfl⟩
theorem Er{aa:Addr}{ac:Addr}{f:Addr}{fd:FuncData}(F:Fun K "_law_words_of" "_law_words_of" j6 f fd)(T:Txt K mg aa ac)(hm:mg "_law_words_of"=some (.ref f)):aJ P w K mg base 1 "_law_words_of" ["_law_book","_law_bargain"] iA:=
 ⟨f,fd,F.ok Ei (by walk_at "q") (fun cdv A outer s H vs Q E hr h=>⟨_,AK T hr,EN h⟩),hm,F.kp,F.binds fun _ _ _ _ _ _ us hl=>match us,hl with | [_,_],_=>rfl⟩
theorem w6{f:Addr}{fd:FuncData}(F:Fun K "_law_so" "_law_so" jp f fd)(hm:mg "_law_so"=some (.ref f)):aJ P w K mg base 1 "_law_so" ["_law_found","_law_meant"] (p0 0):=
 ⟨f,fd,⟨fun _ _ _ _ h=>h.elim,fun _ _ _ _ _ _ _ _ _ _ _ _ _ h=>h.elim⟩,hm,F.kp,F.binds fun _ _ _ _ _ _ us hl=>match us,hl with | [_,_],_=>rfl⟩
theorem zk{aa:Addr}{ac:Addr}{f:Addr}{fd:FuncData}(F:Fun K "_law_so" "_law_so" jp f fd)(T:Txt K mg aa ac)(d lev:Nat)(kW:aJ P w K mg base lev "_law_so" ["_law_found","_law_meant"] (p0 d))(hm:mg "_law_so"=some (.ref f)):aJ P w K mg base (lev+1) "_law_so" ["_law_found","_law_meant"] (d6 d):=
 ⟨f,fd,F.ok zsc1n (by walk_at "q") (fun cdv A outer s H vs Q E hr h=>⟨_,Bd (p0 d) T kW hr,CU d h⟩),hm,F.kp,F.binds fun _ _ _ _ _ _ us hl=>match us,hl with | [_,_],_=>rfl⟩
theorem Gb{aa:Addr}{ac:Addr}{f:Addr}{fd:FuncData}(F:Fun K "letters_after" "letters_after" kB f fd)(T:Txt K mg aa ac)(fC:aJ P w K mg base 9 "hall_after" ["count","against","deeds"] (cm aa ac))(hm:mg "letters_after"=some (.ref f)):aJ P w K mg base 10 "letters_after" ["count","against","deeds"] (hJ aa ac):=
 ⟨f,fd,F.ok Cg (by walk_at "q") (fun cdv A outer s H vs Q E hr h=>⟨_,Bh (cm aa ac) T fC hr,Co T.hx h⟩),hm,F.kp,F.binds fun _ _ _ _ _ _ us hl=>match us,hl with | [_,_,_],_=>rfl⟩
theorem Cr{aa:Addr}{ac:Addr}{f:Addr}{fd:FuncData}(F:Fun K "_law_is_letter" "_law_is_letter" kE f fd)(T:Txt K mg aa ac)(ft:aJ P w K mg base 1 "_law_whole" ["_law_found"] cx)(hm:mg "_law_is_letter"=some (.ref f)):aJ P w K mg base 2 "_law_is_letter" ["_law_found","_law_count"] gS:=
 ⟨f,fd,F.ok zsc0h (by walk_at "q") (fun cdv A outer s H vs Q E hr h=>⟨_,Aq cx T ft hr,Ck h⟩),hm,F.kp,F.binds fun _ _ _ _ _ _ us hl=>match us,hl with | [_,_],_=>rfl⟩
theorem Ex{aa:Addr}{ac:Addr}{f:Addr}{fd:FuncData}(F:Fun K "_law_are_letters" "_law_are_letters" jY f fd)(T:Txt K mg aa ac)(q_:aJ P w K mg base 2 "_law_is_letter" ["_law_found","_law_count"] gS)(hm:mg "_law_are_letters"=some (.ref f)):aJ P w K mg base 3 "_law_are_letters" ["_law_found","_law_count"] gF:=
 ⟨f,fd,F.ok zsc08 (by walk_at "q") (fun cdv A outer s H vs Q E hr h=>⟨_,B3 gS T q_ hr,Fs h⟩),hm,F.kp,F.binds fun _ _ _ _ _ _ us hl=>match us,hl with | [_,_],_=>rfl⟩
theorem D8{aa:Addr}{ac:Addr}{f:Addr}{fd:FuncData}(F:Fun K "_law_freed" "_law_freed" kg f fd)(T:Txt K mg aa ac)(hm:mg "_law_freed"=some (.ref f)):aJ P w K mg base 1 "_law_freed" ["_law_letters","_law_count","_law_bargain"] gE:=
 ⟨f,fd,F.ok zsc1g (by walk_at "q") (fun cdv A outer s H vs Q E hr h=>⟨_,Ap T hr,EE h⟩),hm,F.kp,F.binds fun _ _ _ _ _ _ us hl=>match us,hl with | [_,_,_],_=>rfl⟩
theorem Ct{aa:Addr}{ac:Addr}{f:Addr}{fd:FuncData}(F:Fun K "_law_decided" "_law_decided" jZ f fd)(T:Txt K mg aa ac)(hm:mg "_law_decided"=some (.ref f)):aJ P w K mg base 1 "_law_decided" ["_law_book","_law_bargain"] fP:=
 ⟨f,fd,F.ok zsc0v (by walk_at "q") (fun cdv A outer s H vs Q E hr h=>⟨_,AC T hr,DE h⟩),hm,F.kp,F.binds fun _ _ _ _ _ _ us hl=>match us,hl with | [_,_],_=>rfl⟩
theorem Gc{aa:Addr}{ac:Addr}{f:Addr}{fd:FuncData}(F:Fun K "_law_in_time" "_law_in_time" kL f fd)(T:Txt K mg aa ac)(sM:aJ P w K mg base 10 "letters_after" ["count","against","deeds"] (hJ aa ac))(rc:aJ P w K mg base 3 "_law_are_letters" ["_law_found","_law_count"] gF)(qR:aJ P w K mg base 1 "_law_freed" ["_law_letters","_law_count","_law_bargain"] gE)(jk:aJ P w K mg base 10 "books_after" ["count","against","deeds"] (dw aa ac))(jw:aJ P w K mg base 4 "_law_are_books" ["_law_found","_law_count"] du)(qJ:aJ P w K mg base 1 "_law_decided" ["_law_book","_law_bargain"] fP)(hm:mg "_law_in_time"=some (.ref f)):aJ P w K mg base 11 "_law_in_time" ["_law_count","_law_against","_law_deeds","_law_bargain","_law_unsure","_law_rows"] (gP aa ac):=
 ⟨f,fd,F.ok zsc0x (by walk_at "q") (fun cdv A outer s H vs Q E hr h=>⟨_,A_ (hJ aa ac) gF gE (dw aa ac) du fP T sM rc qR jk jw qJ hr,CW h⟩),hm,F.kp,F.binds fun _ _ _ _ _ _ us hl=>match us,hl with | [_,_,_,_,_,_],_=>rfl⟩
theorem FH{aa:Addr}{ac:Addr}{f:Addr}{fd:FuncData}(F:Fun K "law" "law" iq f fd)(T:Txt K mg aa ac)(jd:aJ P w K mg base 1 "_law_at" ["_law_script","_law_k"] (dm K))(qh:aJ P w K mg base 2 "_law_pairs_against" ["_law_cell","_law_count"] gY)(je:aJ P w K mg base 2 "_law_bargain_of" ["_law_cell"] (dv (·∈allB)))(qA:aJ P w K mg base 5 "_law_ahead" ["_law_script","_law_count","_law_bargain"] (gW K))(jk:aJ P w K mg base 10 "books_after" ["count","against","deeds"] (dw aa ac))(qC:aJ P w K mg base 10 "_law_who_is_up" ["_law_count","_law_against","_law_deeds"] (gH aa ac))(jw:aJ P w K mg base 4 "_law_are_books" ["_law_found","_law_count"] du)(rM:aJ P w K mg base 10 "waits" ["count","against","deeds","number","bargain"] (h_ aa ac))(sQ:aJ P w K mg base 1 "_law_words_of" ["_law_book","_law_bargain"] iA)(kW:aJ P w K mg base 3 "_law_so" ["_law_found","_law_meant"] (d6 1))(ft:aJ P w K mg base 1 "_law_whole" ["_law_found"] cx)(qo:aJ P w K mg base 11 "_law_in_time" ["_law_count","_law_against","_law_deeds","_law_bargain","_law_unsure","_law_rows"] (gP aa ac)):eJ P w K mg base bw 12 f fd ["_law_script"] (nI K):=
 F.ok zsc1r (by walk_at "q") (fun cdv A outer s H vs Q E hr h=>⟨_,As (dm K) gY (dv (·∈allB)) (gW K) (dw aa ac) (gH aa ac) du (h_ aa ac) iA (d6 1) cx (gP aa ac) T jd qh je qA jk qC jw rM sQ kW ft qo hr,FQ h⟩)
end
theorem all_mk{l:PySem.W.OpenLaw}{w:World}{K:PySem.W.Frag}{h:Heap}{mg:Str→Option Value}{fa:Addr}{aa:Addr}{ac:Addr}(X:K.In h)(G:h.Ns mainGlobals mg)(hfa:mg "law"=some (.ref fa))
  {f0:Addr}{od0 an0:Option Addr}{sl0:Array (Option Value)}{oc0 kV0 dc0 pm0 cd0 ct0:Value}
  {f1:Addr}{od1 an1:Option Addr}{sl1:Array (Option Value)}{oc1 kV1 dc1 pm1 cd1 ct1:Value}
  {f2:Addr}{od2 an2:Option Addr}{sl2:Array (Option Value)}{oc2 kV2 dc2 pm2 cd2 ct2:Value}
  {f3:Addr}{od3 an3:Option Addr}{sl3:Array (Option Value)}{oc3 kV3 dc3 pm3 cd3 ct3:Value}
  {f4:Addr}{od4 an4:Option Addr}{sl4:Array (Option Value)}{oc4 kV4 dc4 pm4 cd4 ct4:Value}
  {f5:Addr}{od5 an5:Option Addr}{sl5:Array (Option Value)}{oc5 kV5 dc5 pm5 cd5 ct5:Value}
  {f6:Addr}{od6 an6:Option Addr}{sl6:Array (Option Value)}{oc6 kV6 dc6 pm6 cd6 ct6:Value}
  {f7:Addr}{od7 an7:Option Addr}{sl7:Array (Option Value)}{oc7 kV7 dc7 pm7 cd7 ct7:Value}
  {f8:Addr}{od8 an8:Option Addr}{sl8:Array (Option Value)}{oc8 kV8 dc8 pm8 cd8 ct8:Value}
  {f9:Addr}{od9 an9:Option Addr}{sl9:Array (Option Value)}{oc9 kV9 dc9 pm9 cd9 ct9:Value}
  {f10:Addr}{od10 an10:Option Addr}{sl10:Array (Option Value)}{oc10 kV10 dc10 pm10 cd10 ct10:Value}
  {f11:Addr}{od11 an11:Option Addr}{sl11:Array (Option Value)}{oc11 kV11 dc11 pm11 cd11 ct11:Value}
  {f12:Addr}{od12 an12:Option Addr}{sl12:Array (Option Value)}{oc12 kV12 dc12 pm12 cd12 ct12:Value}
  {f13:Addr}{od13 an13:Option Addr}{sl13:Array (Option Value)}{oc13 kV13 dc13 pm13 cd13 ct13:Value}
  {f14:Addr}{od14 an14:Option Addr}{sl14:Array (Option Value)}{oc14 kV14 dc14 pm14 cd14 ct14:Value}
  {f15:Addr}{od15 an15:Option Addr}{sl15:Array (Option Value)}{oc15 kV15 dc15 pm15 cd15 ct15:Value}
  {f16:Addr}{od16 an16:Option Addr}{sl16:Array (Option Value)}{oc16 kV16 dc16 pm16 cd16 ct16:Value}
  {f17:Addr}{od17 an17:Option Addr}{sl17:Array (Option Value)}{oc17 kV17 dc17 pm17 cd17 ct17:Value}
  {f18:Addr}{od18 an18:Option Addr}{sl18:Array (Option Value)}{oc18 kV18 dc18 pm18 cd18 ct18:Value}
  {f19:Addr}{od19 an19:Option Addr}{sl19:Array (Option Value)}{oc19 kV19 dc19 pm19 cd19 ct19:Value}
  {f20:Addr}{od20 an20:Option Addr}{sl20:Array (Option Value)}{oc20 kV20 dc20 pm20 cd20 ct20:Value}
  {f21:Addr}{od21 an21:Option Addr}{sl21:Array (Option Value)}{oc21 kV21 dc21 pm21 cd21 ct21:Value}
  {f22:Addr}{od22 an22:Option Addr}{sl22:Array (Option Value)}{oc22 kV22 dc22 pm22 cd22 ct22:Value}
  {f23:Addr}{od23 an23:Option Addr}{sl23:Array (Option Value)}{oc23 kV23 dc23 pm23 cd23 ct23:Value}
  {f24:Addr}{od24 an24:Option Addr}{sl24:Array (Option Value)}{oc24 kV24 dc24 pm24 cd24 ct24:Value}
  {f25:Addr}{od25 an25:Option Addr}{sl25:Array (Option Value)}{oc25 kV25 dc25 pm25 cd25 ct25:Value}
  {f26:Addr}{od26 an26:Option Addr}{sl26:Array (Option Value)}{oc26 kV26 dc26 pm26 cd26 ct26:Value}
  {f27:Addr}{od27 an27:Option Addr}{sl27:Array (Option Value)}{oc27 kV27 dc27 pm27 cd27 ct27:Value}
  {f28:Addr}{od28 an28:Option Addr}{sl28:Array (Option Value)}{oc28 kV28 dc28 pm28 cd28 ct28:Value}
  {f29:Addr}{od29 an29:Option Addr}{sl29:Array (Option Value)}{oc29 kV29 dc29 pm29 cd29 ct29:Value}
  {f30:Addr}{od30 an30:Option Addr}{sl30:Array (Option Value)}{oc30 kV30 dc30 pm30 cd30 ct30:Value}
  {f31:Addr}{od31 an31:Option Addr}{sl31:Array (Option Value)}{oc31 kV31 dc31 pm31 cd31 ct31:Value}
  {f32:Addr}{od32 an32:Option Addr}{sl32:Array (Option Value)}{oc32 kV32 dc32 pm32 cd32 ct32:Value}
  {f33:Addr}{od33 an33:Option Addr}{sl33:Array (Option Value)}{oc33 kV33 dc33 pm33 cd33 ct33:Value}
  {f34:Addr}{od34 an34:Option Addr}{sl34:Array (Option Value)}{oc34 kV34 dc34 pm34 cd34 ct34:Value}
  {f35:Addr}{od35 an35:Option Addr}{sl35:Array (Option Value)}{oc35 kV35 dc35 pm35 cd35 ct35:Value}
  {f36:Addr}{od36 an36:Option Addr}{sl36:Array (Option Value)}{oc36 kV36 dc36 pm36 cd36 ct36:Value}
  {f37:Addr}{od37 an37:Option Addr}{sl37:Array (Option Value)}{oc37 kV37 dc37 pm37 cd37 ct37:Value}
  {f38:Addr}{od38 an38:Option Addr}{sl38:Array (Option Value)}{oc38 kV38 dc38 pm38 cd38 ct38:Value}
  {f39:Addr}{od39 an39:Option Addr}{sl39:Array (Option Value)}{oc39 kV39 dc39 pm39 cd39 ct39:Value}
  {f40:Addr}{od40 an40:Option Addr}{sl40:Array (Option Value)}{oc40 kV40 dc40 pm40 cd40 ct40:Value}
  {f41:Addr}{od41 an41:Option Addr}{sl41:Array (Option Value)}{oc41 kV41 dc41 pm41 cd41 ct41:Value}
  {f42:Addr}{od42 an42:Option Addr}{sl42:Array (Option Value)}{oc42 kV42 dc42 pm42 cd42 ct42:Value}
  {f43:Addr}{od43 an43:Option Addr}{sl43:Array (Option Value)}{oc43 kV43 dc43 pm43 cd43 ct43:Value}
  {f44:Addr}{od44 an44:Option Addr}{sl44:Array (Option Value)}{oc44 kV44 dc44 pm44 cd44 ct44:Value}
  {f45:Addr}{od45 an45:Option Addr}{sl45:Array (Option Value)}{oc45 kV45 dc45 pm45 cd45 ct45:Value}
  {f46:Addr}{od46 an46:Option Addr}{sl46:Array (Option Value)}{oc46 kV46 dc46 pm46 cd46 ct46:Value}
  {f47:Addr}{od47 an47:Option Addr}{sl47:Array (Option Value)}{oc47 kV47 dc47 pm47 cd47 ct47:Value}
  {f48:Addr}{od48 an48:Option Addr}{sl48:Array (Option Value)}{oc48 kV48 dc48 pm48 cd48 ct48:Value}
  {f49:Addr}{od49 an49:Option Addr}{sl49:Array (Option Value)}{oc49 kV49 dc49 pm49 cd49 ct49:Value}
  {f50:Addr}{od50 an50:Option Addr}{sl50:Array (Option Value)}{oc50 kV50 dc50 pm50 cd50 ct50:Value}
  {f51:Addr}{od51 an51:Option Addr}{sl51:Array (Option Value)}{oc51 kV51 dc51 pm51 cd51 ct51:Value}
  {f52:Addr}{od52 an52:Option Addr}{sl52:Array (Option Value)}{oc52 kV52 dc52 pm52 cd52 ct52:Value}
  {f53:Addr}{od53 an53:Option Addr}{sl53:Array (Option Value)}{oc53 kV53 dc53 pm53 cd53 ct53:Value}
  {f54:Addr}{od54 an54:Option Addr}{sl54:Array (Option Value)}{oc54 kV54 dc54 pm54 cd54 ct54:Value}
  {f55:Addr}{od55 an55:Option Addr}{sl55:Array (Option Value)}{oc55 kV55 dc55 pm55 cd55 ct55:Value}
  {f56:Addr}{od56 an56:Option Addr}{sl56:Array (Option Value)}{oc56 kV56 dc56 pm56 cd56 ct56:Value}
  {f57:Addr}{od57 an57:Option Addr}{sl57:Array (Option Value)}{oc57 kV57 dc57 pm57 cd57 ct57:Value}
  {f58:Addr}{od58 an58:Option Addr}{sl58:Array (Option Value)}{oc58 kV58 dc58 pm58 cd58 ct58:Value}
  {f59:Addr}{od59 an59:Option Addr}{sl59:Array (Option Value)}{oc59 kV59 dc59 pm59 cd59 ct59:Value}
  {f60:Addr}{od60 an60:Option Addr}{sl60:Array (Option Value)}{oc60 kV60 dc60 pm60 cd60 ct60:Value}
  {f61:Addr}{od61 an61:Option Addr}{sl61:Array (Option Value)}{oc61 kV61 dc61 pm61 cd61 ct61:Value}
  {f62:Addr}{od62 an62:Option Addr}{sl62:Array (Option Value)}{oc62 kV62 dc62 pm62 cd62 ct62:Value}
  {f63:Addr}{od63 an63:Option Addr}{sl63:Array (Option Value)}{oc63 kV63 dc63 pm63 cd63 ct63:Value}
  (aC_House:PySem.W.nsIn K mainGlobals "House"=some (some (.ref aa)))
  (aC_Hall:PySem.W.nsIn K mainGlobals "Hall"=some (some (.ref ac)))
  (a0:PySem.W.nsIn K mainGlobals "_law_at"=some (some (.ref f0)))
  (l0:K.lookup f0=some ⟨oc0,od0,.func (PySem.W.fnOf "_law_at" "_law_at" (aD kO) (al kO) (af kO) .none kV0 dc0 pm0 an0 cd0 ct0),sl0⟩)(c0:PySem.W.codeIn K cd0 "_law_at"=true)(k0:PySem.W.keepIn K (.ref f0)=true)
  (a1:PySem.W.nsIn K mainGlobals "_law_all_bargains"=some (some (.ref f1)))
  (l1:K.lookup f1=some ⟨oc1,od1,.func (PySem.W.fnOf "_law_all_bargains" "_law_all_bargains" (aD jQ) (al jQ) (af jQ) .none kV1 dc1 pm1 an1 cd1 ct1),sl1⟩)(c1:PySem.W.codeIn K cd1 "_law_all_bargains"=true)(k1:PySem.W.keepIn K (.ref f1)=true)
  (a2:PySem.W.nsIn K mainGlobals "_law_pairs_against"=some (some (.ref f2)))
  (l2:K.lookup f2=some ⟨oc2,od2,.func (PySem.W.fnOf "_law_pairs_against" "_law_pairs_against" (aD kr) (al kr) (af kr) .none kV2 dc2 pm2 an2 cd2 ct2),sl2⟩)(c2:PySem.W.codeIn K cd2 "_law_pairs_against"=true)(k2:PySem.W.keepIn K (.ref f2)=true)
  (a3:PySem.W.nsIn K mainGlobals "_law_bargain_of"=some (some (.ref f3)))
  (l3:K.lookup f3=some ⟨oc3,od3,.func (PySem.W.fnOf "_law_bargain_of" "_law_bargain_of" (aD le) (al le) (af le) .none kV3 dc3 pm3 an3 cd3 ct3),sl3⟩)(c3:PySem.W.codeIn K cd3 "_law_bargain_of"=true)(k3:PySem.W.keepIn K (.ref f3)=true)
  (a4:PySem.W.nsIn K mainGlobals "_law_deed_of"=some (some (.ref f4)))
  (l4:K.lookup f4=some ⟨oc4,od4,.func (PySem.W.fnOf "_law_deed_of" "_law_deed_of" (aD kR) (al kR) (af kR) .none kV4 dc4 pm4 an4 cd4 ct4),sl4⟩)(c4:PySem.W.codeIn K cd4 "_law_deed_of"=true)(k4:PySem.W.keepIn K (.ref f4)=true)
  (a5:PySem.W.nsIn K mainGlobals "_law_drawn"=some (some (.ref f5)))
  (l5:K.lookup f5=some ⟨oc5,od5,.func (PySem.W.fnOf "_law_drawn" "_law_drawn" (aD ko) (al ko) (af ko) .none kV5 dc5 pm5 an5 cd5 ct5),sl5⟩)(c5:PySem.W.codeIn K cd5 "_law_drawn"=true)(k5:PySem.W.keepIn K (.ref f5)=true)
  (a6:PySem.W.nsIn K mainGlobals "_law_ahead"=some (some (.ref f6)))
  (l6:K.lookup f6=some ⟨oc6,od6,.func (PySem.W.fnOf "_law_ahead" "_law_ahead" (aD kX) (al kX) (af kX) .none kV6 dc6 pm6 an6 cd6 ct6),sl6⟩)(c6:PySem.W.codeIn K cd6 "_law_ahead"=true)(k6:PySem.W.keepIn K (.ref f6)=true)
  (a7:PySem.W.nsIn K mainGlobals "words_of"=some (some (.ref f7)))
  (l7:K.lookup f7=some ⟨oc7,od7,.func (PySem.W.fnOf "words_of" "words_of" (aD kY) (al kY) (af kY) .none kV7 dc7 pm7 an7 cd7 ct7),sl7⟩)(c7:PySem.W.codeIn K cd7 "words_of"=true)(k7:PySem.W.keepIn K (.ref f7)=true)
  (a8:PySem.W.nsIn K mainGlobals "knows"=some (some (.ref f8)))
  (l8:K.lookup f8=some ⟨oc8,od8,.func (PySem.W.fnOf "knows" "knows" (aD k_) (al k_) (af k_) .none kV8 dc8 pm8 an8 cd8 ct8),sl8⟩)(c8:PySem.W.codeIn K cd8 "knows"=true)(k8:PySem.W.keepIn K (.ref f8)=true)
  (a9:PySem.W.findIn K (.ref aa) "write"=some (some (.ref f9)))(i9:PySem.W.isFn K (.ref f9)=true)
  (l9:K.lookup f9=some ⟨oc9,od9,.func (PySem.W.fnOf "write" "House.write" (aD lu) (al lu) (af lu) .none kV9 dc9 pm9 an9 cd9 ct9),sl9⟩)(c9:PySem.W.codeIn K cd9 "House.write"=true)(k9:PySem.W.keepIn K (.ref f9)=true)
  (a10:PySem.W.findIn K (.ref aa) "to_others"=some (some (.ref f10)))(i10:PySem.W.isFn K (.ref f10)=true)
  (l10:K.lookup f10=some ⟨oc10,od10,.func (PySem.W.fnOf "to_others" "House.to_others" (aD kd) (al kd) (af kd) .none kV10 dc10 pm10 an10 cd10 ct10),sl10⟩)(c10:PySem.W.codeIn K cd10 "House.to_others"=true)(k10:PySem.W.keepIn K (.ref f10)=true)
  (a11:PySem.W.findIn K (.ref aa) "begin"=some (some (.ref f11)))(i11:PySem.W.isFn K (.ref f11)=true)
  (l11:K.lookup f11=some ⟨oc11,od11,.func (PySem.W.fnOf "begin" "House.begin" (aD j') (al j') (af j') .none kV11 dc11 pm11 an11 cd11 ct11),sl11⟩)(c11:PySem.W.codeIn K cd11 "House.begin"=true)(k11:PySem.W.keepIn K (.ref f11)=true)
  (a12:PySem.W.findIn K (.ref ac) "send"=some (some (.ref f12)))(i12:PySem.W.isFn K (.ref f12)=true)
  (l12:K.lookup f12=some ⟨oc12,od12,.func (PySem.W.fnOf "send" "Hall.send" (aD ku) (al ku) (af ku) .none kV12 dc12 pm12 an12 cd12 ct12),sl12⟩)(c12:PySem.W.codeIn K cd12 "Hall.send"=true)(k12:PySem.W.keepIn K (.ref f12)=true)
  (a13:PySem.W.findIn K (.ref aa) "forget"=some (some (.ref f13)))(i13:PySem.W.isFn K (.ref f13)=true)
  (l13:K.lookup f13=some ⟨oc13,od13,.func (PySem.W.fnOf "forget" "House.forget" (aD kU) (al kU) (af kU) .none kV13 dc13 pm13 an13 cd13 ct13),sl13⟩)(c13:PySem.W.codeIn K cd13 "House.forget"=true)(k13:PySem.W.keepIn K (.ref f13)=true)
  (a14:PySem.W.findIn K (.ref aa) "stop"=some (some (.ref f14)))(i14:PySem.W.isFn K (.ref f14)=true)
  (l14:K.lookup f14=some ⟨oc14,od14,.func (PySem.W.fnOf "stop" "House.stop" (aD lf) (al lf) (af lf) .none kV14 dc14 pm14 an14 cd14 ct14),sl14⟩)(c14:PySem.W.codeIn K cd14 "House.stop"=true)(k14:PySem.W.keepIn K (.ref f14)=true)
  (a15:PySem.W.findIn K (.ref ac) "send_or_stop"=some (some (.ref f15)))(i15:PySem.W.isFn K (.ref f15)=true)
  (l15:K.lookup f15=some ⟨oc15,od15,.func (PySem.W.fnOf "send_or_stop" "Hall.send_or_stop" (aD kG) (al kG) (af kG) .none kV15 dc15 pm15 an15 cd15 ct15),sl15⟩)(c15:PySem.W.codeIn K cd15 "Hall.send_or_stop"=true)(k15:PySem.W.keepIn K (.ref f15)=true)
  (a16:PySem.W.findIn K (.ref ac) "begin"=some (some (.ref f16)))(i16:PySem.W.isFn K (.ref f16)=true)
  (l16:K.lookup f16=some ⟨oc16,od16,.func (PySem.W.fnOf "begin" "Hall.begin" (aD lp) (al lp) (af lp) .none kV16 dc16 pm16 an16 cd16 ct16),sl16⟩)(c16:PySem.W.codeIn K cd16 "Hall.begin"=true)(k16:PySem.W.keepIn K (.ref f16)=true)
  (a17:PySem.W.findIn K (.ref aa) "page"=some (some (.ref f17)))(i17:PySem.W.isFn K (.ref f17)=true)
  (l17:K.lookup f17=some ⟨oc17,od17,.func (PySem.W.fnOf "page" "House.page" (aD kN) (al kN) (af kN) .none kV17 dc17 pm17 an17 cd17 ct17),sl17⟩)(c17:PySem.W.codeIn K cd17 "House.page"=true)(k17:PySem.W.keepIn K (.ref f17)=true)
  (a18:PySem.W.nsIn K mainGlobals "decision_in"=some (some (.ref f18)))
  (l18:K.lookup f18=some ⟨oc18,od18,.func (PySem.W.fnOf "decision_in" "decision_in" (aD lc) (al lc) (af lc) .none kV18 dc18 pm18 an18 cd18 ct18),sl18⟩)(c18:PySem.W.codeIn K cd18 "decision_in"=true)(k18:PySem.W.keepIn K (.ref f18)=true)
  (a19:PySem.W.findIn K (.ref aa) "decision"=some (some (.ref f19)))(i19:PySem.W.isFn K (.ref f19)=true)
  (l19:K.lookup f19=some ⟨oc19,od19,.func (PySem.W.fnOf "decision" "House.decision" (aD jS) (al jS) (af jS) .none kV19 dc19 pm19 an19 cd19 ct19),sl19⟩)(c19:PySem.W.codeIn K cd19 "House.decision"=true)(k19:PySem.W.keepIn K (.ref f19)=true)
  (a20:PySem.W.findIn K (.ref aa) "to_one"=some (some (.ref f20)))(i20:PySem.W.isFn K (.ref f20)=true)
  (l20:K.lookup f20=some ⟨oc20,od20,.func (PySem.W.fnOf "to_one" "House.to_one" (aD jN) (al jN) (af jN) .none kV20 dc20 pm20 an20 cd20 ct20),sl20⟩)(c20:PySem.W.codeIn K cd20 "House.to_one"=true)(k20:PySem.W.keepIn K (.ref f20)=true)
  (a21:PySem.W.findIn K (.ref aa) "got_ask"=some (some (.ref f21)))(i21:PySem.W.isFn K (.ref f21)=true)
  (l21:K.lookup f21=some ⟨oc21,od21,.func (PySem.W.fnOf "got_ask" "House.got_ask" (aD jW) (al jW) (af jW) .none kV21 dc21 pm21 an21 cd21 ct21),sl21⟩)(c21:PySem.W.codeIn K cd21 "House.got_ask"=true)(k21:PySem.W.keepIn K (.ref f21)=true)
  (a22:PySem.W.nsIn K mainGlobals "vote_in"=some (some (.ref f22)))
  (l22:K.lookup f22=some ⟨oc22,od22,.func (PySem.W.fnOf "vote_in" "vote_in" (aD j_) (al j_) (af j_) .none kV22 dc22 pm22 an22 cd22 ct22),sl22⟩)(c22:PySem.W.codeIn K cd22 "vote_in"=true)(k22:PySem.W.keepIn K (.ref f22)=true)
  (a23:PySem.W.nsIn K mainGlobals "is_unsure"=some (some (.ref f23)))
  (l23:K.lookup f23=some ⟨oc23,od23,.func (PySem.W.fnOf "is_unsure" "is_unsure" (aD kf) (al kf) (af kf) .none kV23 dc23 pm23 an23 cd23 ct23),sl23⟩)(c23:PySem.W.codeIn K cd23 "is_unsure"=true)(k23:PySem.W.keepIn K (.ref f23)=true)
  (a24:PySem.W.findIn K (.ref aa) "decide"=some (some (.ref f24)))(i24:PySem.W.isFn K (.ref f24)=true)
  (l24:K.lookup f24=some ⟨oc24,od24,.func (PySem.W.fnOf "decide" "House.decide" (aD kx) (al kx) (af kx) .none kV24 dc24 pm24 an24 cd24 ct24),sl24⟩)(c24:PySem.W.codeIn K cd24 "House.decide"=true)(k24:PySem.W.keepIn K (.ref f24)=true)
  (a25:PySem.W.findIn K (.ref aa) "got_query"=some (some (.ref f25)))(i25:PySem.W.isFn K (.ref f25)=true)
  (l25:K.lookup f25=some ⟨oc25,od25,.func (PySem.W.fnOf "got_query" "House.got_query" (aD lm) (al lm) (af lm) .none kV25 dc25 pm25 an25 cd25 ct25),sl25⟩)(c25:PySem.W.codeIn K cd25 "House.got_query"=true)(k25:PySem.W.keepIn K (.ref f25)=true)
  (a26:PySem.W.findIn K (.ref aa) "got_vote"=some (some (.ref f26)))(i26:PySem.W.isFn K (.ref f26)=true)
  (l26:K.lookup f26=some ⟨oc26,od26,.func (PySem.W.fnOf "got_vote" "House.got_vote" (aD j5) (al j5) (af j5) .none kV26 dc26 pm26 an26 cd26 ct26),sl26⟩)(c26:PySem.W.codeIn K cd26 "House.got_vote"=true)(k26:PySem.W.keepIn K (.ref f26)=true)
  (a27:PySem.W.findIn K (.ref aa) "got_decision"=some (some (.ref f27)))(i27:PySem.W.isFn K (.ref f27)=true)
  (l27:K.lookup f27=some ⟨oc27,od27,.func (PySem.W.fnOf "got_decision" "House.got_decision" (aD lr) (al lr) (af lr) .none kV27 dc27 pm27 an27 cd27 ct27),sl27⟩)(c27:PySem.W.codeIn K cd27 "House.got_decision"=true)(k27:PySem.W.keepIn K (.ref f27)=true)
  (a28:PySem.W.findIn K (.ref aa) "got"=some (some (.ref f28)))(i28:PySem.W.isFn K (.ref f28)=true)
  (l28:K.lookup f28=some ⟨oc28,od28,.func (PySem.W.fnOf "got" "House.got" (aD j8) (al j8) (af j8) .none kV28 dc28 pm28 an28 cd28 ct28),sl28⟩)(c28:PySem.W.codeIn K cd28 "House.got"=true)(k28:PySem.W.keepIn K (.ref f28)=true)
  (a29:PySem.W.findIn K (.ref ac) "carry"=some (some (.ref f29)))(i29:PySem.W.isFn K (.ref f29)=true)
  (l29:K.lookup f29=some ⟨oc29,od29,.func (PySem.W.fnOf "carry" "Hall.carry" (aD kH) (al kH) (af kH) .none kV29 dc29 pm29 an29 cd29 ct29),sl29⟩)(c29:PySem.W.codeIn K cd29 "Hall.carry"=true)(k29:PySem.W.keepIn K (.ref f29)=true)
  (a30:PySem.W.findIn K (.ref aa) "query"=some (some (.ref f30)))(i30:PySem.W.isFn K (.ref f30)=true)
  (l30:K.lookup f30=some ⟨oc30,od30,.func (PySem.W.fnOf "query" "House.query" (aD jL) (al jL) (af jL) .none kV30 dc30 pm30 an30 cd30 ct30),sl30⟩)(c30:PySem.W.codeIn K cd30 "House.query"=true)(k30:PySem.W.keepIn K (.ref f30)=true)
  (a31:PySem.W.findIn K (.ref ac) "query"=some (some (.ref f31)))(i31:PySem.W.isFn K (.ref f31)=true)
  (l31:K.lookup f31=some ⟨oc31,od31,.func (PySem.W.fnOf "query" "Hall.query" (aD kI) (al kI) (af kI) .none kV31 dc31 pm31 an31 cd31 ct31),sl31⟩)(c31:PySem.W.codeIn K cd31 "Hall.query"=true)(k31:PySem.W.keepIn K (.ref f31)=true)
  (a32:PySem.W.findIn K (.ref ac) "stop"=some (some (.ref f32)))(i32:PySem.W.isFn K (.ref f32)=true)
  (l32:K.lookup f32=some ⟨oc32,od32,.func (PySem.W.fnOf "stop" "Hall.stop" (aD j3) (al j3) (af j3) .none kV32 dc32 pm32 an32 cd32 ct32),sl32⟩)(c32:PySem.W.codeIn K cd32 "Hall.stop"=true)(k32:PySem.W.keepIn K (.ref f32)=true)
  (a33:PySem.W.nsIn K mainGlobals "left_open"=some (some (.ref f33)))
  (l33:K.lookup f33=some ⟨oc33,od33,.func (PySem.W.fnOf "left_open" "left_open" (aD kF) (al kF) (af kF) .none kV33 dc33 pm33 an33 cd33 ct33),sl33⟩)(c33:PySem.W.codeIn K cd33 "left_open"=true)(k33:PySem.W.keepIn K (.ref f33)=true)
  (a34:PySem.W.findIn K (.ref aa) "wake"=some (some (.ref f34)))(i34:PySem.W.isFn K (.ref f34)=true)
  (l34:K.lookup f34=some ⟨oc34,od34,.func (PySem.W.fnOf "wake" "House.wake" (aD kh) (al kh) (af kh) .none kV34 dc34 pm34 an34 cd34 ct34),sl34⟩)(c34:PySem.W.codeIn K cd34 "House.wake"=true)(k34:PySem.W.keepIn K (.ref f34)=true)
  (a35:PySem.W.findIn K (.ref ac) "wake"=some (some (.ref f35)))(i35:PySem.W.isFn K (.ref f35)=true)
  (l35:K.lookup f35=some ⟨oc35,od35,.func (PySem.W.fnOf "wake" "Hall.wake" (aD kQ) (al kQ) (af kQ) .none kV35 dc35 pm35 an35 cd35 ct35),sl35⟩)(c35:PySem.W.codeIn K cd35 "Hall.wake"=true)(k35:PySem.W.keepIn K (.ref f35)=true)
  (a36:PySem.W.findIn K (.ref aa) "is_spent"=some (some (.ref f36)))(i36:PySem.W.isFn K (.ref f36)=true)
  (l36:K.lookup f36=some ⟨oc36,od36,.func (PySem.W.fnOf "is_spent" "House.is_spent" (aD kz) (al kz) (af kz) .none kV36 dc36 pm36 an36 cd36 ct36),sl36⟩)(c36:PySem.W.codeIn K cd36 "House.is_spent"=true)(k36:PySem.W.keepIn K (.ref f36)=true)
  (a37:PySem.W.findIn K (.ref ac) "is_spent_letter"=some (some (.ref f37)))(i37:PySem.W.isFn K (.ref f37)=true)
  (l37:K.lookup f37=some ⟨oc37,od37,.func (PySem.W.fnOf "is_spent_letter" "Hall.is_spent_letter" (aD j2) (al j2) (af j2) .none kV37 dc37 pm37 an37 cd37 ct37),sl37⟩)(c37:PySem.W.codeIn K cd37 "Hall.is_spent_letter"=true)(k37:PySem.W.keepIn K (.ref f37)=true)
  (a38:PySem.W.findIn K (.ref ac) "sweep"=some (some (.ref f38)))(i38:PySem.W.isFn K (.ref f38)=true)
  (l38:K.lookup f38=some ⟨oc38,od38,.func (PySem.W.fnOf "sweep" "Hall.sweep" (aD lg) (al lg) (af lg) .none kV38 dc38 pm38 an38 cd38 ct38),sl38⟩)(c38:PySem.W.codeIn K cd38 "Hall.sweep"=true)(k38:PySem.W.keepIn K (.ref f38)=true)
  (a39:PySem.W.findIn K (.ref ac) "do"=some (some (.ref f39)))(i39:PySem.W.isFn K (.ref f39)=true)
  (l39:K.lookup f39=some ⟨oc39,od39,.func (PySem.W.fnOf "do" "Hall.do" (aD jR) (al jR) (af jR) .none kV39 dc39 pm39 an39 cd39 ct39),sl39⟩)(c39:PySem.W.codeIn K cd39 "Hall.do"=true)(k39:PySem.W.keepIn K (.ref f39)=true)
  (a40:PySem.W.nsIn K mainGlobals "bargains_against"=some (some (.ref f40)))
  (l40:K.lookup f40=some ⟨oc40,od40,.func (PySem.W.fnOf "bargains_against" "bargains_against" (aD jT) (al jT) (af jT) .none kV40 dc40 pm40 an40 cd40 ct40),sl40⟩)(c40:PySem.W.codeIn K cd40 "bargains_against"=true)(k40:PySem.W.keepIn K (.ref f40)=true)
  (a41:PySem.W.findIn K (.ref aa) "__init__"=some (some (.ref f41)))(i41:PySem.W.isFn K (.ref f41)=true)
  (l41:K.lookup f41=some ⟨oc41,od41,.func (PySem.W.fnOf "__init__" "House.__init__" (aD jP) (al jP) (af jP) .none kV41 dc41 pm41 an41 cd41 ct41),sl41⟩)(c41:PySem.W.codeIn K cd41 "House.__init__"=true)(k41:PySem.W.keepIn K (.ref f41)=true)
  (a42:PySem.W.findIn K (.ref ac) "__init__"=some (some (.ref f42)))(i42:PySem.W.isFn K (.ref f42)=true)
  (l42:K.lookup f42=some ⟨oc42,od42,.func (PySem.W.fnOf "__init__" "Hall.__init__" (aD jO) (al jO) (af jO) .none kV42 dc42 pm42 an42 cd42 ct42),sl42⟩)(c42:PySem.W.codeIn K cd42 "Hall.__init__"=true)(k42:PySem.W.keepIn K (.ref f42)=true)
  (a43:PySem.W.nsIn K mainGlobals "hall_after"=some (some (.ref f43)))
  (l43:K.lookup f43=some ⟨oc43,od43,.func (PySem.W.fnOf "hall_after" "hall_after" (aD kK) (al kK) (af kK) .none kV43 dc43 pm43 an43 cd43 ct43),sl43⟩)(c43:PySem.W.codeIn K cd43 "hall_after"=true)(k43:PySem.W.keepIn K (.ref f43)=true)
  (a44:PySem.W.nsIn K mainGlobals "books_after"=some (some (.ref f44)))
  (l44:K.lookup f44=some ⟨oc44,od44,.func (PySem.W.fnOf "books_after" "books_after" (aD jJ) (al jJ) (af jJ) .none kV44 dc44 pm44 an44 cd44 ct44),sl44⟩)(c44:PySem.W.codeIn K cd44 "books_after"=true)(k44:PySem.W.keepIn K (.ref f44)=true)
  (a45:PySem.W.nsIn K mainGlobals "answers"=some (some (.ref f45)))
  (l45:K.lookup f45=some ⟨oc45,od45,.func (PySem.W.fnOf "answers" "answers" (aD jK) (al jK) (af jK) .none kV45 dc45 pm45 an45 cd45 ct45),sl45⟩)(c45:PySem.W.codeIn K cd45 "answers"=true)(k45:PySem.W.keepIn K (.ref f45)=true)
  (a46:PySem.W.nsIn K mainGlobals "_law_whole"=some (some (.ref f46)))
  (l46:K.lookup f46=some ⟨oc46,od46,.func (PySem.W.fnOf "_law_whole" "_law_whole" (aD kP) (al kP) (af kP) .none kV46 dc46 pm46 an46 cd46 ct46),sl46⟩)(c46:PySem.W.codeIn K cd46 "_law_whole"=true)(k46:PySem.W.keepIn K (.ref f46)=true)
  (a47:PySem.W.nsIn K mainGlobals "_law_is_line"=some (some (.ref f47)))
  (l47:K.lookup f47=some ⟨oc47,od47,.func (PySem.W.fnOf "_law_is_line" "_law_is_line" (aD jU) (al jU) (af jU) .none kV47 dc47 pm47 an47 cd47 ct47),sl47⟩)(c47:PySem.W.codeIn K cd47 "_law_is_line"=true)(k47:PySem.W.keepIn K (.ref f47)=true)
  (a48:PySem.W.nsIn K mainGlobals "_law_are_lines"=some (some (.ref f48)))
  (l48:K.lookup f48=some ⟨oc48,od48,.func (PySem.W.fnOf "_law_are_lines" "_law_are_lines" (aD kj) (al kj) (af kj) .none kV48 dc48 pm48 an48 cd48 ct48),sl48⟩)(c48:PySem.W.codeIn K cd48 "_law_are_lines"=true)(k48:PySem.W.keepIn K (.ref f48)=true)
  (a49:PySem.W.nsIn K mainGlobals "_law_who_is_up"=some (some (.ref f49)))
  (l49:K.lookup f49=some ⟨oc49,od49,.func (PySem.W.fnOf "_law_who_is_up" "_law_who_is_up" (aD kZ) (al kZ) (af kZ) .none kV49 dc49 pm49 an49 cd49 ct49),sl49⟩)(c49:PySem.W.codeIn K cd49 "_law_who_is_up"=true)(k49:PySem.W.keepIn K (.ref f49)=true)
  (a50:PySem.W.nsIn K mainGlobals "_law_are_books"=some (some (.ref f50)))
  (l50:K.lookup f50=some ⟨oc50,od50,.func (PySem.W.fnOf "_law_are_books" "_law_are_books" (aD lh) (al lh) (af lh) .none kV50 dc50 pm50 an50 cd50 ct50),sl50⟩)(c50:PySem.W.codeIn K cd50 "_law_are_books"=true)(k50:PySem.W.keepIn K (.ref f50)=true)
  (a51:PySem.W.nsIn K mainGlobals "is_up_and_unsure"=some (some (.ref f51)))
  (l51:K.lookup f51=some ⟨oc51,od51,.func (PySem.W.fnOf "is_up_and_unsure" "is_up_and_unsure" (aD ke) (al ke) (af ke) .none kV51 dc51 pm51 an51 cd51 ct51),sl51⟩)(c51:PySem.W.codeIn K cd51 "is_up_and_unsure"=true)(k51:PySem.W.keepIn K (.ref f51)=true)
  (a52:PySem.W.nsIn K mainGlobals "tells_one_up"=some (some (.ref f52)))
  (l52:K.lookup f52=some ⟨oc52,od52,.func (PySem.W.fnOf "tells_one_up" "tells_one_up" (aD kA) (al kA) (af kA) .none kV52 dc52 pm52 an52 cd52 ct52),sl52⟩)(c52:PySem.W.codeIn K cd52 "tells_one_up"=true)(k52:PySem.W.keepIn K (.ref f52)=true)
  (a53:PySem.W.nsIn K mainGlobals "can_be_told"=some (some (.ref f53)))
  (l53:K.lookup f53=some ⟨oc53,od53,.func (PySem.W.fnOf "can_be_told" "can_be_told" (aD j9) (al j9) (af j9) .none kV53 dc53 pm53 an53 cd53 ct53),sl53⟩)(c53:PySem.W.codeIn K cd53 "can_be_told"=true)(k53:PySem.W.keepIn K (.ref f53)=true)
  (a54:PySem.W.nsIn K mainGlobals "waits"=some (some (.ref f54)))
  (l54:K.lookup f54=some ⟨oc54,od54,.func (PySem.W.fnOf "waits" "waits" (aD kM) (al kM) (af kM) .none kV54 dc54 pm54 an54 cd54 ct54),sl54⟩)(c54:PySem.W.codeIn K cd54 "waits"=true)(k54:PySem.W.keepIn K (.ref f54)=true)
  (a55:PySem.W.nsIn K mainGlobals "_law_words_of"=some (some (.ref f55)))
  (l55:K.lookup f55=some ⟨oc55,od55,.func (PySem.W.fnOf "_law_words_of" "_law_words_of" (aD j6) (al j6) (af j6) .none kV55 dc55 pm55 an55 cd55 ct55),sl55⟩)(c55:PySem.W.codeIn K cd55 "_law_words_of"=true)(k55:PySem.W.keepIn K (.ref f55)=true)
  (a56:PySem.W.nsIn K mainGlobals "_law_so"=some (some (.ref f56)))
  (l56:K.lookup f56=some ⟨oc56,od56,.func (PySem.W.fnOf "_law_so" "_law_so" (aD jp) (al jp) (af jp) .none kV56 dc56 pm56 an56 cd56 ct56),sl56⟩)(c56:PySem.W.codeIn K cd56 "_law_so"=true)(k56:PySem.W.keepIn K (.ref f56)=true)
  (a57:PySem.W.nsIn K mainGlobals "letters_after"=some (some (.ref f57)))
  (l57:K.lookup f57=some ⟨oc57,od57,.func (PySem.W.fnOf "letters_after" "letters_after" (aD kB) (al kB) (af kB) .none kV57 dc57 pm57 an57 cd57 ct57),sl57⟩)(c57:PySem.W.codeIn K cd57 "letters_after"=true)(k57:PySem.W.keepIn K (.ref f57)=true)
  (a58:PySem.W.nsIn K mainGlobals "_law_is_letter"=some (some (.ref f58)))
  (l58:K.lookup f58=some ⟨oc58,od58,.func (PySem.W.fnOf "_law_is_letter" "_law_is_letter" (aD kE) (al kE) (af kE) .none kV58 dc58 pm58 an58 cd58 ct58),sl58⟩)(c58:PySem.W.codeIn K cd58 "_law_is_letter"=true)(k58:PySem.W.keepIn K (.ref f58)=true)
  (a59:PySem.W.nsIn K mainGlobals "_law_are_letters"=some (some (.ref f59)))
  (l59:K.lookup f59=some ⟨oc59,od59,.func (PySem.W.fnOf "_law_are_letters" "_law_are_letters" (aD jY) (al jY) (af jY) .none kV59 dc59 pm59 an59 cd59 ct59),sl59⟩)(c59:PySem.W.codeIn K cd59 "_law_are_letters"=true)(k59:PySem.W.keepIn K (.ref f59)=true)
  (a60:PySem.W.nsIn K mainGlobals "_law_freed"=some (some (.ref f60)))
  (l60:K.lookup f60=some ⟨oc60,od60,.func (PySem.W.fnOf "_law_freed" "_law_freed" (aD kg) (al kg) (af kg) .none kV60 dc60 pm60 an60 cd60 ct60),sl60⟩)(c60:PySem.W.codeIn K cd60 "_law_freed"=true)(k60:PySem.W.keepIn K (.ref f60)=true)
  (a61:PySem.W.nsIn K mainGlobals "_law_decided"=some (some (.ref f61)))
  (l61:K.lookup f61=some ⟨oc61,od61,.func (PySem.W.fnOf "_law_decided" "_law_decided" (aD jZ) (al jZ) (af jZ) .none kV61 dc61 pm61 an61 cd61 ct61),sl61⟩)(c61:PySem.W.codeIn K cd61 "_law_decided"=true)(k61:PySem.W.keepIn K (.ref f61)=true)
  (a62:PySem.W.nsIn K mainGlobals "_law_in_time"=some (some (.ref f62)))
  (l62:K.lookup f62=some ⟨oc62,od62,.func (PySem.W.fnOf "_law_in_time" "_law_in_time" (aD kL) (al kL) (af kL) .none kV62 dc62 pm62 an62 cd62 ct62),sl62⟩)(c62:PySem.W.codeIn K cd62 "_law_in_time"=true)(k62:PySem.W.keepIn K (.ref f62)=true)
  (a63:PySem.W.nsIn K mainGlobals "law"=some (some (.ref f63)))
  (l63:K.lookup f63=some ⟨oc63,od63,.func (PySem.W.fnOf "law" "law" (aD iq) (al iq) (af iq) .none kV63 dc63 pm63 an63 cd63 ct63),sl63⟩)(c63:PySem.W.codeIn K cd63 "law"=true)(k63:PySem.W.keepIn K (.ref f63)=true)
  (z_any:PySem.W.nsIn K mainGlobals "any"=some none)
  (z_bool:PySem.W.nsIn K mainGlobals "bool"=some none)
  (z_dict:PySem.W.nsIn K mainGlobals "dict"=some none)
  (z_int:PySem.W.nsIn K mainGlobals "int"=some none)
  (z_isinstance:PySem.W.nsIn K mainGlobals "isinstance"=some none)
  (z_len:PySem.W.nsIn K mainGlobals "len"=some none)
  (z_list:PySem.W.nsIn K mainGlobals "list"=some none)
  (z_range:PySem.W.nsIn K mainGlobals "range"=some none)
  (z_str:PySem.W.nsIn K mainGlobals "str"=some none)
  (z_tuple:PySem.W.nsIn K mainGlobals "tuple"=some none)
  (pg_House:PySem.W.plainGet K aa Str.empty=true)(hd_House:PySem.W.hasDictIn K aa=true)(po_House:PySem.W.plainOver K aa=true)(sa_House:PySem.W.findIn K (.ref aa) "__setattr__"=some (some (.builtin "object.__setattr__")))(mk_House:PySem.W.makesIn K aa=true)(kc_House:PySem.W.keepIn K (.ref aa)=true)
  (n_House_against:PySem.W.findIn K (.ref aa) "against"=some none)
  (n_House_awake:PySem.W.findIn K (.ref aa) "awake"=some none)
  (n_House_book:PySem.W.findIn K (.ref aa) "book"=some none)
  (n_House_counted:PySem.W.findIn K (.ref aa) "counted"=some none)
  (n_House_lines_read:PySem.W.findIn K (.ref aa) "lines_read"=some none)
  (n_House_number:PySem.W.findIn K (.ref aa) "number"=some none)
  (n_House_others:PySem.W.findIn K (.ref aa) "others"=some none)
  (n_House_pages:PySem.W.findIn K (.ref aa) "pages"=some none)
  (pg_Hall:PySem.W.plainGet K ac Str.empty=true)(hd_Hall:PySem.W.hasDictIn K ac=true)(po_Hall:PySem.W.plainOver K ac=true)(sa_Hall:PySem.W.findIn K (.ref ac) "__setattr__"=some (some (.builtin "object.__setattr__")))(mk_Hall:PySem.W.makesIn K ac=true)(kc_Hall:PySem.W.keepIn K (.ref ac)=true)
  (n_Hall_houses:PySem.W.findIn K (.ref ac) "houses"=some none)
  (n_Hall_letters:PySem.W.findIn K (.ref ac) "letters"=some none)
  (n_Hall_unspent:PySem.W.findIn K (.ref ac) "unspent"=some none) :
  ∃ fd:FuncData,(∀ (s:Shared) (v:Value),BindsTo s fd ⟨[v],[]⟩ [("_law_script",v)])∧∀ base:Heap,K.In base→base.Ns mainGlobals mg→eJ l.prog w K mg base bw 12 fa fd ["_law_script"] (nI K):=by
 have e:=hfa.symm.trans (PySem.W.mg_of X G a63)
 cases e
 have T:Txt K mg aa ac:=⟨trivial,PySem.W.mg_none_of X G z_any,PySem.W.mg_none_of X G z_bool,PySem.W.mg_none_of X G z_dict,PySem.W.mg_none_of X G z_int,PySem.W.mg_none_of X G z_isinstance,PySem.W.mg_none_of X G z_len,PySem.W.mg_none_of X G z_list,PySem.W.mg_none_of X G z_range,PySem.W.mg_none_of X G z_str,PySem.W.mg_none_of X G z_tuple,⟨pg_House,hd_House,po_House,sa_House⟩,PySem.W.mg_of X G aC_House,n_House_against,n_House_awake,n_House_book,n_House_counted,n_House_lines_read,n_House_number,n_House_others,n_House_pages,⟨pg_Hall,hd_Hall,po_Hall,sa_Hall⟩,PySem.W.mg_of X G aC_Hall,n_Hall_houses,n_Hall_letters,n_Hall_unspent⟩
 have F0:=aP (st:=kO) l0 c0 k0
 have F1:=aP (st:=jQ) l1 c1 k1
 have F2:=aP (st:=kr) l2 c2 k2
 have F3:=aP (st:=le) l3 c3 k3
 have F4:=aP (st:=kR) l4 c4 k4
 have F5:=aP (st:=ko) l5 c5 k5
 have F6:=aP (st:=kX) l6 c6 k6
 have F7:=aP (st:=kY) l7 c7 k7
 have F8:=aP (st:=k_) l8 c8 k8
 have F9:=aP (st:=lu) l9 c9 k9
 have F10:=aP (st:=kd) l10 c10 k10
 have F11:=aP (st:=j') l11 c11 k11
 have F12:=aP (st:=ku) l12 c12 k12
 have F13:=aP (st:=kU) l13 c13 k13
 have F14:=aP (st:=lf) l14 c14 k14
 have F15:=aP (st:=kG) l15 c15 k15
 have F16:=aP (st:=lp) l16 c16 k16
 have F17:=aP (st:=kN) l17 c17 k17
 have F18:=aP (st:=lc) l18 c18 k18
 have F19:=aP (st:=jS) l19 c19 k19
 have F20:=aP (st:=jN) l20 c20 k20
 have F21:=aP (st:=jW) l21 c21 k21
 have F22:=aP (st:=j_) l22 c22 k22
 have F23:=aP (st:=kf) l23 c23 k23
 have F24:=aP (st:=kx) l24 c24 k24
 have F25:=aP (st:=lm) l25 c25 k25
 have F26:=aP (st:=j5) l26 c26 k26
 have F27:=aP (st:=lr) l27 c27 k27
 have F28:=aP (st:=j8) l28 c28 k28
 have F29:=aP (st:=kH) l29 c29 k29
 have F30:=aP (st:=jL) l30 c30 k30
 have F31:=aP (st:=kI) l31 c31 k31
 have F32:=aP (st:=j3) l32 c32 k32
 have F33:=aP (st:=kF) l33 c33 k33
 have F34:=aP (st:=kh) l34 c34 k34
 have F35:=aP (st:=kQ) l35 c35 k35
 have F36:=aP (st:=kz) l36 c36 k36
 have F37:=aP (st:=j2) l37 c37 k37
 have F38:=aP (st:=lg) l38 c38 k38
 have F39:=aP (st:=jR) l39 c39 k39
 have F40:=aP (st:=jT) l40 c40 k40
 have F41:=aP (st:=jP) l41 c41 k41
 have F42:=aP (st:=jO) l42 c42 k42
 have F43:=aP (st:=kK) l43 c43 k43
 have F44:=aP (st:=jJ) l44 c44 k44
 have F45:=aP (st:=jK) l45 c45 k45
 have F46:=aP (st:=kP) l46 c46 k46
 have F47:=aP (st:=jU) l47 c47 k47
 have F48:=aP (st:=kj) l48 c48 k48
 have F49:=aP (st:=kZ) l49 c49 k49
 have F50:=aP (st:=lh) l50 c50 k50
 have F51:=aP (st:=ke) l51 c51 k51
 have F52:=aP (st:=kA) l52 c52 k52
 have F53:=aP (st:=j9) l53 c53 k53
 have F54:=aP (st:=kM) l54 c54 k54
 have F55:=aP (st:=j6) l55 c55 k55
 have F56:=aP (st:=jp) l56 c56 k56
 have F57:=aP (st:=kB) l57 c57 k57
 have F58:=aP (st:=kE) l58 c58 k58
 have F59:=aP (st:=jY) l59 c59 k59
 have F60:=aP (st:=kg) l60 c60 k60
 have F61:=aP (st:=jZ) l61 c61 k61
 have F62:=aP (st:=kL) l62 c62 k62
 have F63:=aP (st:=iq) l63 c63 k63
 refine ⟨PySem.W.fnOf "law" "law" (aD iq) (al iq) (af iq) .none kV63 dc63 pm63 an63 cd63 ct63,fun s v=>.of_eq rfl,fun base _ _=>?_⟩
 have jd:=Gi (P:=l.prog) (w:=w) (base:=base) F0 T (PySem.W.mg_of X G a0)
 have jh:=Ge (P:=l.prog) (w:=w) (base:=base) F1 T (PySem.W.mg_of X G a1)
 have qh:=C2 (P:=l.prog) (w:=w) (base:=base) F2 T jh (PySem.W.mg_of X G a2)
 have je:=C8 (P:=l.prog) (w:=w) (base:=base) F3 T jh (PySem.W.mg_of X G a3)
 have tm:=Cn (P:=l.prog) (w:=w) (base:=base) F4 T je (PySem.W.mg_of X G a4)
 have qQ:=C9 (P:=l.prog) (w:=w) (base:=base) F5 T tm (PySem.W.mg_of X G a5)
 have qA:=ED (P:=l.prog) (w:=w) (base:=base) F6 T jd qQ (PySem.W.mg_of X G a6)
 have fA:=F' (P:=l.prog) (w:=w) (base:=base) F7 T (PySem.W.mg_of X G a7)
 have fo:=DD (P:=l.prog) (w:=w) (base:=base) F8 T fA (PySem.W.mg_of X G a8)
 have dn:=E5 (P:=l.prog) (w:=w) (base:=base) F9 T ⟨a9,i9,k9⟩
 have fD:=DF (P:=l.prog) (w:=w) (base:=base) F10 T ⟨a10,i10,k10⟩
 have tE:=EH (P:=l.prog) (w:=w) (base:=base) F11 T dn fD ⟨a11,i11,k11⟩
 have fw:=Gr (P:=l.prog) (w:=w) (base:=base) F12 T ⟨a12,i12,k12⟩
 have ji:=Ek (P:=l.prog) (w:=w) (base:=base) F13 T ⟨a13,i13,k13⟩
 have jq:=CT (P:=l.prog) (w:=w) (base:=base) F14 T ji ⟨a14,i14,k14⟩
 have jg:=Fh (P:=l.prog) (w:=w) (base:=base) F15 T fw jq ⟨a15,i15,k15⟩
 have sR:=Eb (P:=l.prog) (w:=w) (base:=base) F16 T fo tE jg ⟨a16,i16,k16⟩
 have d8:=FY (P:=l.prog) (w:=w) (base:=base) F17 T ⟨a17,i17,k17⟩
 have fq:=DB (P:=l.prog) (w:=w) (base:=base) F18 T fA (PySem.W.mg_of X G a18)
 have dq:=Fm (P:=l.prog) (w:=w) (base:=base) F19 T fq d8 ⟨a19,i19,k19⟩
 have fz:=FR (P:=l.prog) (w:=w) (base:=base) F20 T ⟨a20,i20,k20⟩
 have rP:=Ej (P:=l.prog) (w:=w) (base:=base) F21 T fo d8 dn dq fz ⟨a21,i21,k21⟩
 have qW:=EV (P:=l.prog) (w:=w) (base:=base) F22 T fA (PySem.W.mg_of X G a22)
 have ej:=Dx (P:=l.prog) (w:=w) (base:=base) F23 T qW fq (PySem.W.mg_of X G a23)
 have fu:=Fp (P:=l.prog) (w:=w) (base:=base) F24 T dn fD ⟨a24,i24,k24⟩
 have sH:=Ew (P:=l.prog) (w:=w) (base:=base) F25 T ej fo d8 dq fz fu dn ⟨a25,i25,k25⟩
 have rQ:=FT (P:=l.prog) (w:=w) (base:=base) F26 T dq fz fu ⟨a26,i26,k26⟩
 have rH:=FJ (P:=l.prog) (w:=w) (base:=base) F27 T dq dn ⟨a27,i27,k27⟩
 have rn:=Fd (P:=l.prog) (w:=w) (base:=base) F28 T rP sH rQ rH ⟨a28,i28,k28⟩
 have jf:=Gj (P:=l.prog) (w:=w) (base:=base) F29 T rn jg ⟨a29,i29,k29⟩
 have qg:=FM (P:=l.prog) (w:=w) (base:=base) F30 T ej d8 fD ⟨a30,i30,k30⟩
 have tj:=Dm (P:=l.prog) (w:=w) (base:=base) F31 T qg fw ⟨a31,i31,k31⟩
 have sS:=El (P:=l.prog) (w:=w) (base:=base) F32 T jq ⟨a32,i32,k32⟩
 have rj:=EF (P:=l.prog) (w:=w) (base:=base) F33 T fq (PySem.W.mg_of X G a33)
 have rh:=D9 (P:=l.prog) (w:=w) (base:=base) F34 T rj fu ⟨a34,i34,k34⟩
 have rW:=Cz (P:=l.prog) (w:=w) (base:=base) F35 T rh fw ⟨a35,i35,k35⟩
 have qH:=Dg (P:=l.prog) (w:=w) (base:=base) F36 T dq ⟨a36,i36,k36⟩
 have sV:=CB (P:=l.prog) (w:=w) (base:=base) F37 T qH ⟨a37,i37,k37⟩
 have qO:=E6 (P:=l.prog) (w:=w) (base:=base) F38 T jf sV ⟨a38,i38,k38⟩
 have jv:=CD (P:=l.prog) (w:=w) (base:=base) F39 T sR jf tj sS rW qO ⟨a39,i39,k39⟩
 have qU:=EO (P:=l.prog) (w:=w) (base:=base) F40 T (PySem.W.mg_of X G a40)
 have qd:=F_ (P:=l.prog) (w:=w) (base:=base) F41 T ji ⟨mk_House,a41,i41,kc_House⟩
 have ju:=EW (P:=l.prog) (w:=w) (base:=base) F42 T qU qd ⟨mk_Hall,a42,i42,kc_Hall⟩
 have fC:=Dj (P:=l.prog) (w:=w) (base:=base) F43 T jv ju (PySem.W.mg_of X G a43)
 have jk:=Fc (P:=l.prog) (w:=w) (base:=base) F44 T fC (PySem.W.mg_of X G a44)
 have qG:=ER (P:=l.prog) (w:=w) (base:=base) F45 T jv ju (PySem.W.mg_of X G a45)
 have ft:=DH (P:=l.prog) (w:=w) (base:=base) F46 T (PySem.W.mg_of X G a46)
 have qm:=FW (P:=l.prog) (w:=w) (base:=base) F47 T ft (PySem.W.mg_of X G a47)
 have js:=Cm (P:=l.prog) (w:=w) (base:=base) F48 T qm (PySem.W.mg_of X G a48)
 have qC:=CN (P:=l.prog) (w:=w) (base:=base) F49 T qG js (PySem.W.mg_of X G a49)
 have jw:=Dc (P:=l.prog) (w:=w) (base:=base) F50 T js (PySem.W.mg_of X G a50)
 have qj:=CM (P:=l.prog) (w:=w) (base:=base) F51 T ej (PySem.W.mg_of X G a51)
 have sr:=DJ (P:=l.prog) (w:=w) (base:=base) F52 T (PySem.W.mg_of X G a52)
 have su:=Eg (P:=l.prog) (w:=w) (base:=base) F53 T ej sr (PySem.W.mg_of X G a53)
 have rM:=Fy (P:=l.prog) (w:=w) (base:=base) F54 T fC qj su (PySem.W.mg_of X G a54)
 have sQ:=Er (P:=l.prog) (w:=w) (base:=base) F55 T (PySem.W.mg_of X G a55)
 have kW:=zk F56 T 1 2 (zk F56 T 0 1 (w6 (P:=l.prog) (w:=w) (base:=base) F56 (PySem.W.mg_of X G a56)) (PySem.W.mg_of X G a56)) (PySem.W.mg_of X G a56)
 have sM:=Gb (P:=l.prog) (w:=w) (base:=base) F57 T fC (PySem.W.mg_of X G a57)
 have q_:=Cr (P:=l.prog) (w:=w) (base:=base) F58 T ft (PySem.W.mg_of X G a58)
 have rc:=Ex (P:=l.prog) (w:=w) (base:=base) F59 T q_ (PySem.W.mg_of X G a59)
 have qR:=D8 (P:=l.prog) (w:=w) (base:=base) F60 T (PySem.W.mg_of X G a60)
 have qJ:=Ct (P:=l.prog) (w:=w) (base:=base) F61 T (PySem.W.mg_of X G a61)
 have qo:=Gc (P:=l.prog) (w:=w) (base:=base) F62 T sM rc qR jk jw qJ (PySem.W.mg_of X G a62)
 exact FH F63 T jd qh je qA jk qC jw rM sQ kW ft qo
theorem walk{l:PySem.W.OpenLaw}{q:Program}{loose:List Str}{XP:(Str→Option Value)→Heap→Prop}{YP:World→Heap→Prop}{d:DefRec}{K:Params→PySem.W.Frag}(hn:l.most=some 63)(hdf:d.params.defaults=[])
  (hY:∀ (w:World) (h:Heap),YP w h→(K w.params).In h)
  (F:∀ (w:World) (mg:Str→Option Value) (fa:Addr) (h:Heap),(K w.params).In h→h.Ns mainGlobals mg→mg d.name=some (.ref fa)→
   ∃ fd:FuncData,(∀ (s:Shared) (u:Value),BindsTo s fd ⟨[u],[]⟩ [("_law_script",u)])∧∀ base:Heap,(K w.params).In base→base.Ns mainGlobals mg→eJ l.prog w (K w.params) mg base bw 12 fa fd ["_law_script"] (nI (K w.params))) :
  PySem.W.WalkO q loose XP YP l.row.toRowW d [] (fun f vs=>PySem.call f vs):=
 L2.walk_of (n:=63) (k:=12) (x:="_law_script") (CX:=fun _=>bw) (sp:=fun w=>nI (K w.params)) hn (by decide) hdf ⟨rfl,by decide,by decide⟩ hY F (fun _ _ a ns hl _ hS=>⟨a,ns,rfl,hS,hl,fun _=>rfl⟩) fun _ _ _ _ _ z=>z
end Oh
def PySem.W.Fast.tw9545511365444003036:Nat:=0
def PySem.W.Fast.tw343796042580688357:Nat:=0
def PySem.W.Fast.tw826477184547781042:Nat:=0
def PySem.W.Fast.tw730837420535900893:Nat:=0
def PySem.W.Fast.tw3559746551541561661:Nat:=0
def PySem.W.Fast.tw8342137252698042155:Nat:=0
def PySem.W.Fast.tw6917104946629826052:Nat:=0
def PySem.W.Fast.tw3996499376373471788:Nat:=0
def PySem.W.Fast.tw10704850906453524137:Nat:=0
def PySem.W.Fast.tw5765400914800630342:Nat:=0
def PySem.W.Fast.tw3244395173370997027:Nat:=0
open PySem PySem.W PyProof.Rows
set_option maxRecDepth 100000 in
set_option maxHeartbeats 0 in
theorem PySem.Challenge.cw_oathhall_k10_whole_whom_it_waits_for_holds : PySem.Challenge.rw_oathhall_k10_whole_whom_it_waits_for.Holds := by
 w_on;o_law;k_head;(case hw=>w_witness2)
 k_fill
 refine Oh.walk (l:=PySem.Challenge.rw_oathhall_k10_whole_whom_it_waits_for) rfl rfl (fun w h Y=>PySem.W.kIn_of Y) ?F
 case F=>
  intro w mg fa h KX G hmg
  refine' Oh.all_mk KX G hmg ?_ ?_ ?_ ?_ ?_ ?_ ?_ ?_ ?_ ?_ ?_ ?_ ?_ ?_ ?_ ?_ ?_ ?_ ?_ ?_ ?_ ?_ ?_ ?_ ?_ ?_ ?_ ?_ ?_ ?_ ?_ ?_ ?_ ?_ ?_ ?_ ?_ ?_ ?_ ?_ ?_ ?_ ?_ ?_ ?_ ?_ ?_ ?_ ?_ ?_ ?_ ?_ ?_ ?_ ?_ ?_ ?_ ?_ ?_ ?_ ?_ ?_ ?_ ?_ ?_ ?_ ?_ ?_ ?_ ?_ ?_ ?_ ?_ ?_ ?_ ?_ ?_ ?_ ?_ ?_ ?_ ?_ ?_ ?_ ?_ ?_ ?_ ?_ ?_ ?_ ?_ ?_ ?_ ?_ ?_ ?_ ?_ ?_ ?_ ?_ ?_ ?_ ?_ ?_ ?_ ?_ ?_ ?_ ?_ ?_ ?_ ?_ ?_ ?_ ?_ ?_ ?_ ?_ ?_ ?_ ?_ ?_ ?_ ?_ ?_ ?_ ?_ ?_ ?_ ?_ ?_ ?_ ?_ ?_ ?_ ?_ ?_ ?_ ?_ ?_ ?_ ?_ ?_ ?_ ?_ ?_ ?_ ?_ ?_ ?_ ?_ ?_ ?_ ?_ ?_ ?_ ?_ ?_ ?_ ?_ ?_ ?_ ?_ ?_ ?_ ?_ ?_ ?_ ?_ ?_ ?_ ?_ ?_ ?_ ?_ ?_ ?_ ?_ ?_ ?_ ?_ ?_ ?_ ?_ ?_ ?_ ?_ ?_ ?_ ?_ ?_ ?_ ?_ ?_ ?_ ?_ ?_ ?_ ?_ ?_ ?_ ?_ ?_ ?_ ?_ ?_ ?_ ?_ ?_ ?_ ?_ ?_ ?_ ?_ ?_ ?_ ?_ ?_ ?_ ?_ ?_ ?_ ?_ ?_ ?_ ?_ ?_ ?_ ?_ ?_ ?_ ?_ ?_ ?_ ?_ ?_ ?_ ?_ ?_ ?_ ?_ ?_ ?_ ?_ ?_ ?_ ?_ ?_ ?_ ?_ ?_ ?_ ?_ ?_ ?_ ?_ ?_ ?_ ?_ ?_ ?_ ?_ ?_ ?_ ?_ ?_ ?_ ?_ ?_ ?_ ?_ ?_ ?_ ?_ ?_ ?_ ?_ ?_ ?_ ?_ ?_ ?_ ?_ ?_ ?_ ?_ ?_ ?_ ?_ ?_ ?_ ?_ ?_ ?_ ?_ ?_ ?_ ?_ ?_ ?_ ?_ ?_ ?_ ?_ ?_ ?_ ?_ ?_ ?_ ?_ ?_ ?_ ?_ ?_ ?_ ?_ ?_ ?_ ?_ ?_
  all_goals (try k_is)

