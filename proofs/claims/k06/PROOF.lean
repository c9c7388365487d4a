import PyProof.Rows.All
import Wide.All
import OpenK.AllK
import Wide.FinOn
import Lean
import PyProof.EqAt
import PyProof.EqKinds
import PyProof.TupleCall
import KE.KIntText
import PySem.Challenge.RW_oathhall_k06_plain_story
abbrev laa:=@List.length_map
abbrev lab:=@List.getElem?_eq_some_iff
abbrev lac:=@List.mem_cons_of_mem
abbrev lad:=@List.getElem?_eq_getElem
abbrev lae:=@List.getElem?_map
abbrev laf:=@List.length_append
abbrev lag:=@List.mem_singleton
abbrev lah:=@List.map_cons
abbrev lai:=@List.map_append
abbrev laj:=@List.length_cons
abbrev lak:=@List.mem_append_right
abbrev lal:=@List.mem_append_left
abbrev lam:=@List.mem_of_getElem?
abbrev lan:=@Option.some.inj
abbrev lao:=@List.getElem?_set_self
abbrev lap:=@List.mem_append
abbrev laq:=@List.length_range
abbrev lar:=@List.getElem?_set_ne
abbrev las:=@Nat.le_trans
abbrev lat:=@Nat.le_refl
abbrev lau:=@Bool.false_ne_true
abbrev lav:=@Nat.lt_of_lt_of_le
abbrev lax:=@List.length_take
abbrev lay:=@List.filter_append
abbrev laz:=@List.filter_cons
abbrev laA:=@List.mem_map
abbrev laB:=@List.mem_range
abbrev laC:=@List.mem_filter
abbrev laD:=@List.getElem?_range
abbrev laE:=@List.take_length
abbrev laF:=@List.append_nil
abbrev laG:=@List.map_nil
abbrev laH:=@List.size_toArray
abbrev laI:=@Nat.zero_le
abbrev laJ:=@List.length_filter_le
set_option Elab.async false
set_option linter.all false
set_option maxRecDepth 100000
namespace L2
open PySem PySem.Spec PyProof.Rows
abbrev aN:=Sum Int Str
def nF:aN→Value→Bool
 | .inl k,v=>Value.isInt k v
 | .inr x,v=>Value.isStrOf x v
def Ld(w:World):aN→Int
 | .inl k=>hashInt k
 | .inr x=>hashStr w x
theorem dq:∀ {k:aN} {v:Value},nF k v=true→(∃ i t,k=Sum.inl i∧v=Value.int i t)∨(∃ x t,k=Sum.inr x∧v=Value.str x t)
 | .inl i,v,h=>by
  obtain ⟨t,e⟩:=Value.isInt_shape (k:=i) (v:=v) h
  exact .inl ⟨i,t,rfl,e⟩
 | .inr x,v,h=>by
  obtain ⟨t,e⟩:=Value.isStrOf_shape (x:=x) (v:=v) h
  exact .inr ⟨x,t,rfl,e⟩
theorem yo(i:Int)(t:Tok):nF (.inl i) (.int i t)=true:=by simp [nF,Value.isInt]
theorem yS(x:Str)(t:Tok):nF (.inr x) (.str x t)=true:=by simp [nF,Value.isStrOf]
theorem Dk(a b:Int):decide ((Sum.inl a:aN)=Sum.inl b)=(a==b):=by
 by_cases e:a=b
 ·subst e;simp
 ·have h:¬ (Sum.inl a:aN)=Sum.inl b:=fun q=>e (Sum.inl.inj q)
  rw [decide_eq_false h]
  exact (beq_eq_false_iff_ne.mpr e).symm
theorem DN(a b:Str):decide ((Sum.inr a:aN)=Sum.inr b)=decide (a=b):=by
 by_cases e:a=b
 ·subst e;simp
 ·have h:¬ (Sum.inr a:aN)=Sum.inr b:=fun q=>e (Sum.inr.inj q)
  rw [decide_eq_false h,decide_eq_false e]
theorem Cl(a:Int)(b:Str):decide ((Sum.inl a:aN)=Sum.inr b)=false:=decide_eq_false (fun q=>nomatch q)
theorem CU(a:Str)(b:Int):decide ((Sum.inr a:aN)=Sum.inl b)=false:=decide_eq_false (fun q=>nomatch q)
def cU(prog:Program)(w:World):PySem.KeyKind prog w aN where
 is:=nF
 hash:=Ld w
 inj:=fun v a b ha hb=>by
  rcases dq ha with ⟨i,t,rfl,rfl⟩ | ⟨x,t,rfl,rfl⟩
  ·rcases dq hb with ⟨j,u,rfl,e⟩ | ⟨y,u,rfl,e⟩
   ·injection e with e1 _;rw [e1]
   ·exact nomatch e
  ·rcases dq hb with ⟨j,u,rfl,e⟩ | ⟨y,u,rfl,e⟩
   ·exact nomatch e
   ·injection e with e1 _;rw [e1]
 byValue:=fun k v h=>by
  rcases dq h with ⟨i,t,rfl,rfl⟩ | ⟨x,t,rfl,rfl⟩ <;> rfl
 pyHash:=fun hv h=>by
  rcases dq hv with ⟨i,t,rfl,rfl⟩ | ⟨x,t,rfl,rfl⟩
  ·exact wpAny_pyHash_int h
  ·exact wpAny_pyHash_str h
 eqBool:=fun hu hv h=>by
  rcases dq hu with ⟨i,t,rfl,rfl⟩ | ⟨x,t,rfl,rfl⟩
  ·rcases dq hv with ⟨j,u,rfl,rfl⟩ | ⟨y,u,rfl,rfl⟩
   ·rw [Dk] at h;exact wpAny_eqBool_int h
   ·rw [Cl] at h;exact SeqAt.EqAt.int_str i t y u _ _ _ _ h
  ·rcases dq hv with ⟨j,u,rfl,rfl⟩ | ⟨y,u,rfl,rfl⟩
   ·rw [CU] at h;exact SeqAt.EqAt.str_int x t j u _ _ _ _ h
   ·rw [DN] at h;exact wpAny_eqBool_str h
 «strs»:=fun k x t v h=>by
  rcases dq h with ⟨i,u,rfl,e⟩ | ⟨y,u,rfl,e⟩
  ·exact nomatch e
  ·injection e with e1 _
   subst e1
   cases v <;> rfl
theorem uO(prog:Program)(w:World)(i:Int)(t:Tok):(cU prog w).is (.inl i) (.int i t)=true:=yo i t
theorem uS(prog:Program)(w:World)(x:Str)(t:Tok):(cU prog w).is (.inr x) (.str x t)=true:=yS x t
end L2
namespace L2
open PySem PySem.Spec PyProof.Rows
inductive V where
 | non | bl (b:Bool) | int (i:Int) | str (x:Str) | byt (b:Array UInt8) | flt (b:UInt64) | ref (a:Addr) | ty (n:String)
 deriving DecidableEq
def RelV:V→Value→Prop
 | .non,u=>u=Value.none
 | .bl b,u=>u=Value.bool b
 | .int i,u=>∃ t,u=Value.int i t
 | .str x,u=>∃ t,u=Value.str x t
 | .byt b,u=>∃ t,u=Value.bytes b t
 | .flt b,u=>∃ t,u=Value.float b t
 | .ref a,u=>u=Value.ref a
 | .ty n,u=>u=Value.type n
abbrev Vals:List V→List Value→Prop:=Paired RelV
theorem Vals.length{xs:List V}{us:List Value}(r:Vals xs us):xs.length=us.length:=Paired.length r
theorem Vals.get:∀ {xs:List V} {us:List Value} {i:Nat} {x:V},Vals xs us→xs[i]?=some x→∃ u,us[i]?=some u∧RelV x u
 | _,_,_,_,.nil,e=>by simp at e
 | _,_,0,_,.cons r _,e=>by simp at e;subst e;exact ⟨_,rfl,r⟩
 | _,_,i+1,x,.cons _ t,e=>by
  obtain ⟨u,h1,h2⟩:=Vals.get (i:=i) (x:=x) t (by simpa using e)
  exact ⟨u,by simpa using h1,h2⟩
theorem Vals.set{x:V}{u:Value}(r:RelV x u):∀ {xs:List V} {us:List Value} (i:Nat),Vals xs us→Vals (xs.set i x) (us.set i u)
 | _,_,_,.nil=>.nil
 | _,_,0,.cons _ t=>.cons r t
 | _,_,i+1,.cons q t=>.cons q (Vals.set r i t)
theorem Vals.append:∀ {xs ys:List V} {us ws:List Value},Vals xs us→Vals ys ws→Vals (xs++ys) (us++ws)
 | _,_,_,_,.nil,s=>s
 | _,_,_,_,.cons r t,s=>.cons r (Vals.append t s)
theorem Vals.take:∀ {xs:List V} {us:List Value} (n:Nat),Vals xs us→Vals (xs.take n) (us.take n)
 | _,_,0,_=>.nil
 | _,_,_+1,.nil=>.nil
 | _,_,n+1,.cons r t=>.cons r (Vals.take n t)
theorem Vals.drop:∀ {xs:List V} {us:List Value} (n:Nat),Vals xs us→Vals (xs.drop n) (us.drop n)
 | _,_,0,r=>r
 | _,_,_+1,.nil=>.nil
 | _,_,n+1,.cons _ t=>Vals.drop n t
def RelO:Option V→Option Value→Prop
 | some v,some u=>RelV v u
 | none,none=>True
 | _,_=>False
def KV{κ:Type}:List (κ×V)→List (κ×Value)→Prop:=Paired fun (p:κ×V) (q:κ×Value)=>p.1=q.1∧RelV p.2 q.2
def kV:aN→V
 | .inl i=>.int i
 | .inr x=>.str x
inductive HO where

 | lst (xs:List V)

 | tup (xs:List V)

 | dK (kvs:List (aN×V)) | dT (kvs:List (List aN×V))

 | set (S:Int→Bool) (n:Nat)

 | ins (C dx:Addr) (fs:List (Str×V))

 | own (x:Addr)

 | xd (fs:List (Str×V))

 | met (f x:Addr)

 | rng (lo hi:Int)

 | frz (o:Obj) (u:HO)

 | tbl (ps:Array Value)

 | ext (φ:Heap→Prop)
abbrev Hp:=Addr→Option HO
def upd(H:Hp)(a:Addr)(o:HO):Hp:=fun b=>if b=a then some o else H b
theorem ax{H:Hp}{a:Addr}{o:HO}:upd H a o a=some o:=by unfold upd;rw [if_pos rfl]
theorem bB{H:Hp}{a b:Addr}{o:HO}(h:b≠a):upd H a o b=H b:=by unfold upd;rw [if_neg h]
theorem j7{H:Hp}{a:Addr}{o u:HO}:upd (upd H a o) a u=upd H a u:=by
 funext b;unfold upd;split <;> rfl
theorem dJ{H:Hp}{a b:Addr}{o u:HO}(h:H a=some o)(h':H b=some u)(d:o≠u):a≠b:=by
 intro e;subst e;rw [h] at h';exact d (lan h')
theorem bF{H:Hp}{a b:Addr}{o:HO}(h:H a=some o)(h':H b=none):a≠b:=by
 intro e;subst e;rw [h] at h';cases h'
section
variable (P:Program)(w:World)
def ObjOk(H:Hp)(h:Heap)(a:Addr):HO→Prop
 | .lst xs=>xs.length≤sizeLine∧∃ (its:List Value) (n:Nat),Vals xs its∧h.get? a=some { cls:=.type "list",data:=.seq its.toArray n }
 | .tup xs=>xs.length≤sizeLine∧∃ its:List Value,Vals xs its∧IsTup h a its.toArray
 | .dK kvs=>kvs.length≤sizeLine∧(a==sysModules)=false∧∃ vs,KV kvs vs∧h.DictOf (cU P w) a vs
 | .dT kvs=>kvs.length≤sizeLine∧(a==sysModules)=false∧∃ xs:List (List aN×Addr×Value),
   Paired (fun (p:List aN×V) (q:List aN×Addr×Value)=>p.1=q.1∧H q.2.1=some (.tup (p.1.map kV))∧RelV p.2 q.2.2) kvs xs∧
   ∃ o es ep,h.get? a=some o∧o.ExactDict∧o.data=.dict es ep∧es.toList=xs.map (entryOfKey (tupleKind (cU P w)))∧(xs.map (·.1)).Nodup
 | .set S n=>h.SetOf (intKind P w) a S n
 | .ins C dx fs=>H dx=some (.own a)∧fs.length≤1000∧dx≠a∧h.get? a=some (PySem.W.instObj C dx)∧
   ∃ mA,h.Ns1 dx mA∧(∀ f,RelO (fs.lookup f) (mA f))∧PySem.Within mA (fs.map (·.1))
 | .own _=>∃ o,h.get? a=some o
 | .xd fs=>∃ mA,h.Ns1 a mA∧∀ f,RelO (fs.lookup f) (mA f)
 | .rng lo hi=>∃ t u v,h.get? a=some { cls:=.type "range",data:=.fields #[.int lo t,.int hi u,.int 1 v] }
 | .frz o u=>h.get? a=some o∧ObjOk H h a u
 | .tbl ps=>h.get? a=some { cls:=.none,data:=.fields ps }
 | .met f x=>h.get? a=some (PySem.W.methodObj (.ref f) (.ref x))
 | .ext φ=>φ h∧(∃ o,h.get? a=some o)∧∀ h1 h2:Heap,φ h1→(∀ o,h1.get? a=some o→h2.get? a=some o)→φ h2
def HOk(H:Hp)(h:Heap):Prop:=∀ a o,H a=some o→ObjOk P w H h a o
end
section
variable {P:Program}{w:World}{H H':Hp}{h h':Heap}{a:Addr}{o:HO}
theorem ObjOk.lt(x:ObjOk P w H h a o):a<h.objs.size:=by
 cases o with
 | lst xs=>obtain ⟨_,_,_,_,e⟩:=x;exact Heap.lt_size e
 | tup xs=>obtain ⟨_,_,_,p⟩:=x;exact p.lt
 | dK kvs=>obtain ⟨_,_,_,_,o,_,_,e,_⟩:=x;exact Heap.lt_size e
 | dT kvs=>obtain ⟨_,_,_,_,o,_,_,e,_⟩:=x;exact Heap.lt_size e
 | set S n=>obtain ⟨o,_,_,_,e,_⟩:=x;exact Heap.lt_size e
 | ins C dx fs=>obtain ⟨_,_,_,e,_⟩:=x;exact Heap.lt_size e
 | own y=>obtain ⟨_,e⟩:=x;exact Heap.lt_size e
 | xd fs=>obtain ⟨_,⟨_,_,_,e,_⟩,_⟩:=x;exact Heap.lt_size e
 | rng lo hi=>obtain ⟨_,_,_,e⟩:=x;exact Heap.lt_size e
 | frz ob u=>obtain ⟨e,_⟩:=x;exact Heap.lt_size e
 | tbl ps=>exact Heap.lt_size (show h.get? a=some _ from x)
 | met f y=>exact Heap.lt_size (show h.get? a=some _ from x)
 | ext φ=>obtain ⟨_,⟨_,e⟩,_⟩:=x;exact Heap.lt_size e
theorem Paired.mapP{α β:Type}{F G:α→β→Prop}:∀ {l₁:List α} {l₂:List β},Paired F l₁ l₂→(∀ a b,F a b→G a b)→Paired G l₁ l₂
 | _,_,.nil,_=>.nil
 | _,_,.cons r t,f=>.cons (f _ _ r) (Paired.mapP t f)
theorem ObjOk.stay(x:ObjOk P w H h a o)(k:∀ b u,(b=a∨H b=some (.own a))→h.get? b=some u→h'.get? b=some u)
  (ho:∀ b,H b=some (.own a)→H' b=some (.own a))(ht:∀ b xs,H b=some (.tup xs)→H' b=some (.tup xs)):ObjOk P w H' h' a o:=by
 induction o with
 | lst xs=>obtain ⟨z,its,n,r,e⟩:=x;exact ⟨z,its,n,r,k _ _ (.inl rfl) e⟩
 | tup xs=>obtain ⟨z,its,r,ob,e,c⟩:=x;exact ⟨z,its,r,ob,k _ _ (.inl rfl) e,c⟩
 | dK kvs=>obtain ⟨z,y,vs,r,ob,es,ep,e,c⟩:=x;exact ⟨z,y,vs,r,ob,es,ep,k _ _ (.inl rfl) e,c⟩
 | dT kvs=>
  obtain ⟨z,y,xs,r,ob,es,ep,e,c⟩:=x
  exact ⟨z,y,xs,Paired.mapP r fun p q z=>⟨z.1,ht _ _ z.2.1,z.2.2⟩,ob,es,ep,k _ _ (.inl rfl) e,c⟩
 | set S n=>obtain ⟨ob,es,ep,t,e,c⟩:=x;exact ⟨ob,es,ep,t,k _ _ (.inl rfl) e,c⟩
 | ins C dx fs=>
  obtain ⟨d,z,ne,e,mA,⟨od,es,ep,e2,c⟩,r⟩:=x
  exact ⟨ho _ d,z,ne,k _ _ (.inl rfl) e,mA,⟨od,es,ep,k _ _ (.inr d) e2,c⟩,r⟩
 | own y=>obtain ⟨ob,e⟩:=x;exact ⟨ob,k _ _ (.inl rfl) e⟩
 | xd fs=>obtain ⟨mA,⟨od,es,ep,e,c⟩,r⟩:=x;exact ⟨mA,⟨od,es,ep,k _ _ (.inl rfl) e,c⟩,r⟩
 | rng lo hi=>obtain ⟨t,u,v,e⟩:=x;exact ⟨t,u,v,k _ _ (.inl rfl) e⟩
 | frz ob u ih=>obtain ⟨e,q⟩:=x;exact ⟨k _ _ (.inl rfl) e,ih q⟩
 | tbl ps=>
  have e:h.get? a=some { cls:=.none,data:=.fields ps }:=x
  show h'.get? a=some { cls:=.none,data:=.fields ps }
  exact k a _ (.inl rfl) e
 | met f y=>
  have e:h.get? a=some (PySem.W.methodObj (.ref f) (.ref y)):=x
  show h'.get? a=some (PySem.W.methodObj (.ref f) (.ref y))
  exact k a _ (.inl rfl) e
 | ext φ=>obtain ⟨p,⟨o,e⟩,st⟩:=x;exact ⟨st _ _ p fun o q=>k _ _ (.inl rfl) q,⟨o,k _ _ (.inl rfl) e⟩,st⟩
theorem HOk.lt(x:HOk P w H h)(e:H a=some o):a<h.objs.size:=(x a o e).lt
theorem HOk.fresh(x:HOk P w H h)(e:h.objs.size≤a):H a=none:=by
 cases q:H a with
 | none=>rfl
 | some u=>exact absurd (lav (x.lt q) e) (Nat.lt_irrefl _)
theorem HOk.kept(x:HOk P w H h)(k:∀ b u,h.get? b=some u→h'.get? b=some u):HOk P w H h':=fun a o e=>
 (x a o e).stay (fun b u _ q=>k b u q) (fun _ q=>q) fun _ _ q=>q
theorem HOk.laid(x:HOk P w H h)(k:∀ b u,h.get? b=some u→h'.get? b=some u)(hp:h.objs.size≤a)(new:ObjOk P w (upd H a o) h' a o):HOk P w (upd H a o) h':=fun b u e=>by
 have hn:=x.fresh hp
 by_cases hb:b=a
 ·subst hb;rw [ax] at e;cases e;exact new
 ·rw [bB hb] at e
  exact (x b u e).stay (fun c v _ q=>k c v q) (fun c q=>by rw [bB (bF q hn)];exact q) fun c xs q=>by rw [bB (bF q hn)];exact q
end
def Rd(H:Hp)(a:Addr)(u:HO):Prop:=H a=some u∨∃ o,H a=some (.frz o u)
theorem Rd.of{H:Hp}{a:Addr}{u:HO}(h:H a=some u):Rd H a u:=.inl h
theorem Rd.ok{P:Program}{w:World}{H:Hp}{h:Heap}{a:Addr}{u:HO}(r:Rd H a u)(x:HOk P w H h):ObjOk P w H h a u:=by
 rcases r with r | ⟨o,r⟩
 ·exact x a u r
 ·obtain ⟨_,q⟩:=x a _ r
  exact q
def ke:Option HO→Prop
 | some (.lst _)=>True
 | some (.dK _)=>True
 | some (.dT _)=>True
 | some (.set _ _)=>True
 | some (.ins _ _ _)=>True
 | some (.ext _)=>True
 | _=>False
section
variable {P:Program}{w:World}{H:Hp}{h h':Heap}{x e:Addr}{o':HO}
theorem HOk.write(ok:HOk P w H h)(mu:ke (H x))(he:e=x∨H e=some (.own x))(k:∀ b u,b≠e→h.get? b=some u→h'.get? b=some u)(heo:∃ u,h'.get? e=some u)
  (new:ObjOk P w (upd H x o') h' x o'):HOk P w (upd H x o') h':=fun b u q=>by
 have nown:∀ c y,H c=some (.own y)→c≠x:=fun c y r z=>by subst z;rw [r] at mu;exact mu
 have ntup:∀ c xs,H c=some (.tup xs)→c≠x:=fun c xs r z=>by subst z;rw [r] at mu;exact mu
 by_cases hb:b=x
 ·subst hb;rw [ax] at q;cases q;exact new
 ·rw [bB hb] at q
  by_cases hbe:b=e
  ·have q':H b=some (.own x):=by
    rcases he with z | z
    ·exact absurd (hbe.trans z) hb
    ·rw [hbe];exact z
   rw [q] at q';cases q'
   obtain ⟨v,hv⟩:=heo
   exact ⟨v,by rw [hbe];exact hv⟩
  ·refine (ok b u q).stay (fun c v hc r=>k c v ?_ r) (fun c r=>by rw [bB (nown c b r)];exact r) fun c xs r=>by rw [bB (ntup c xs r)];exact r
   rcases hc with rfl | hc
   ·exact hbe
   ·rintro rfl
    rcases he with z | z
    ·exact nown c b hc z
    ·rw [hc] at z;cases z;exact hb rfl
end
structure Un(fs ex:List Addr)(H H':Hp)(h h':Heap):Prop where
 keep:∀ b o,h.get? b=some o→H b=none→b∉fs→b∉ex→h'.get? b=some o
 slot:∀ b o,h.get? b=some o→H b=none→b∈fs→b∉ex→∃ sl,h'.get? b=some { o with slots:=sl }
 free:∀ b o,h.get? b=some o→H b=none→b∉ex→H' b=none
 there:∀ b o,h.get? b=some o→b∉ex→∃ o',h'.get? b=some o'
 tups:∀ b xs,H b=some (.tup xs)→H' b=some (.tup xs)
 frzs:∀ b o u,H b=some (.frz o u)→H' b=some (.frz o u)
 tbls:∀ b ps,H b=some (.tbl ps)→∃ more,H' b=some (.tbl (ps++more))
section
variable {fs fs' ex ex':List Addr}{H H1 H2:Hp}{h h1 h2 h':Heap}{a x e:Addr}{o:HO}
theorem Un.any(u:Un fs ex H H1 h h1){b:Addr}{ob:Obj}(q:h.get? b=some ob)(n:H b=none)(hx:b∉ex):∃ sl,h1.get? b=some { ob with slots:=sl }:=by
 by_cases hb:b∈fs
 ·exact u.slot b ob q n hb hx
 ·exact ⟨ob.slots,u.keep b ob q n hb hx⟩
theorem Un.kept(k:∀ b u,h.get? b=some u→h'.get? b=some u):Un fs ex H H h h':=
 ⟨fun b ob q _ _ _=>k b ob q,fun b ob q _ _ _=>⟨ob.slots,k b ob q⟩,fun _ _ _ n _=>n,fun b ob q _=>⟨ob,k b ob q⟩,fun _ _ q=>q,fun _ _ _ q=>q,fun _ ps q=>⟨#[],by rw [q];simp⟩⟩
theorem Un.refl:Un fs ex H H h h:=Un.kept fun _ _ q=>q
theorem Un.laid(k:∀ b u,h.get? b=some u→h'.get? b=some u)(hp:h.objs.size≤a)(hn:H a=none):Un fs ex H (upd H a o) h h' where
 keep:=fun b u q _ _ _=>k b u q
 slot:=fun b u q _ _ _=>⟨u.slots,k b u q⟩
 free:=fun b u q n _=>by rw [bB (Nat.ne_of_lt (lav (Heap.lt_size q) hp))];exact n
 there:=fun b u q _=>⟨u,k b u q⟩
 tups:=fun b xs q=>by rw [bB (bF q hn)];exact q
 frzs:=fun b u xs q=>by rw [bB (bF q hn)];exact q
 tbls:=fun b ps q=>⟨#[],by rw [bB (bF q hn),q];simp⟩
theorem Un.write(mu:ke (H x))(he:e=x∨H e=some (.own x))(k:∀ b u,b≠e→h.get? b=some u→h'.get? b=some u)(heo:∃ u,h'.get? e=some u):Un fs ex H (upd H x o) h h':=by
 have hx:∀ b,H b=none→b≠x:=fun b n z=>by subst z;rw [n] at mu;exact mu
 have hb:∀ b,H b=none→b≠e:=fun b n z=>by
  subst z
  rcases he with r | r
  ·exact hx b n r
  ·rw [n] at r;cases r
 have hm:∀ b u,H b=some u→¬ ke (some u)→b≠x:=fun b u q nm z=>by subst z;rw [q] at mu;exact nm mu
 refine ⟨fun b u q n _ _=>k b u (hb b n) q,fun b u q n _ _=>⟨u.slots,k b u (hb b n) q⟩,fun b u q n _=>by rw [bB (hx b n)];exact n,fun b u q _=>?_,
  fun b xs q=>by rw [bB (hm b _ q fun z=>z)];exact q,fun b u xs q=>by rw [bB (hm b _ q fun z=>z)];exact q,fun b ps q=>⟨#[],by rw [bB (hm b _ q fun z=>z),q];simp⟩⟩
 by_cases hbe:b=e
 ·subst hbe;exact heo
 ·exact ⟨u,k b u hbe q⟩
end
def trk(h:Heap)(H:Hp):List Addr:=(List.range h.objs.size).filter fun a=>(H a).isSome
def lQ(h:Heap)(H:Hp):Heap:=PySem.W.hideAll h (trk h H)
theorem yV(h:Heap)(H:Hp):(lQ h H).objs.size=h.objs.size:=PySem.W.hideAll_size _ _
theorem zj{h:Heap}{H:Hp}{b:Addr}{o:Obj}(e:h.get? b=some o)(n:H b=none):(lQ h H).get? b=some o:=
 PySem.W.hideAll_get _ e fun hm=>by
  have q:(H b).isSome=true:=(laC.mp hm).2
  rw [n] at q;simp at q
theorem BP{h:Heap}{H:Hp}{b:Addr}{o:Obj}(e:(lQ h H).get? b=some o):h.get? b=some o∧H b=none:=by
 have e':h.get? b=some o:=PySem.W.of_hideAll (trk h H) e
 refine ⟨e',?_⟩
 cases q:H b with
 | none=>rfl
 | some x=>
  have hm:b∈trk h H:=laC.mpr ⟨laB.mpr (Heap.lt_size e'),by simp [q]⟩
  have z:(lQ h H).get? b=none:=PySem.W.hideAll_none (trk h H) hm
  rw [z] at e;cases e
end L2
namespace L2
open PySem PySem.Spec PyProof.Rows
structure Mod(K:PySem.W.Frag)(mg:Str→Option Value)(base:Heap):Prop where
 kin:K.In base
 glob:base.Ns mainGlobals mg
 blt:∃ mb,base.Ns builtinsNs mb∧∀ x:Str,x≠"__name__"→mb x=bootBuiltins x
 nolimit:base.NoLimit
structure Cx where
 prog:Program
 w:World
 K:PySem.W.Frag
 mg:Str→Option Value
 base:Heap
 A:Around
 N:List Str
 s₀:Shared
 H₀:Hp
 env:Env
 outer:List Env
 stack:List Env
 ex:List Addr
 fn:Str→Bool
 calm:Bool
 pn:List (Addr×Obj)
 xe:Value→Shared→Prop
def nD(l:List Env):List Addr:=l.filterMap (·.frame)
abbrev Cx.fs(X:Cx):List Addr:=nD X.outer
def y8(sc:Scope)(x:Str):Prop:=sc.names.lookup x=some .local∨sc.names.lookup x=some .cell∨sc.names.lookup x=some .free
def xW(sc:Scope)(x:Str):Prop:=sc.names.lookup x=some .local∨sc.names.lookup x=some .cell
def IX(env:Env)(h:Heap)(m:Str→Option Value)(x:Str)(u:Value):Prop:=
 (env.kindOf x=some .local∧m x=some u)∨((env.kindOf x=some .cell∨env.kindOf x=some .free)∧∃ c,env.cells.lookup x=some c∧h.IsCell c (some u))
structure Cx.Ok(X:Cx):Prop where
 mod:Mod X.K X.mg X.base
 kind:X.env.scope.kind=.function
 glob:X.env.globals=mainGlobals
 blt:X.env.builtins=builtinsNs
 above:X.s₀.heap.objs.size≤X.env.locals
 inj:∀ x y c,X.env.cells.lookup x=some c→X.env.cells.lookup y=some c→x=y
 has:∀ x,(X.env.kindOf x=some .cell∨X.env.kindOf x=some .free)→∃ c,X.env.cells.lookup x=some c
 cab:∀ x c,X.fn x=true→X.env.cells.lookup x=some c→X.s₀.heap.objs.size≤c
 hd:X.calm=true→X.A.handled=none
 frames:X.A.frames=some X.stack
 stk:X.stack=X.outer∨(X.stack=X.env::X.outer∧X.env.frame=some X.env.locals)
 exf:∀ b∈X.ex,b≠X.env.locals∧∀ x c,X.env.cells.lookup x=some c→c≠b
 bs:∀ b o,X.base.get? b=some o→X.s₀.heap.get? b=some o∧X.H₀ b=none
 bsz:X.base.objs.size≤X.s₀.heap.objs.size
 noex:∀ b o,X.base.get? b=some o→b∉X.ex
 exfs:∀ b∈X.ex,b∉X.fs
 funs:X.s₀.heap.FunFrames X.base X.outer
 frf:∀ b∈X.fs,X.H₀ b=none
structure Inv(X:Cx)(pins:List (Addr×Obj))(σ:List (Option V))(H:Hp)(s:Shared):Prop where
 ok:X.Ok
 os:s.os=X.s₀.os
 bare:AllBare s.gens
 base:Un X.fs X.ex X.H₀ H X.s₀.heap s.heap
 loc:∃ m,s.heap.Ns X.env.locals m∧∀ (i:Nat) (x:Str) (v:V),X.N[i]?=some x→σ[i]?=some (some v)→y8 X.env.scope x→∃ u,RelV v u∧IX X.env s.heap m x u
 cell:∀ x c,X.env.cells.lookup x=some c→∃ v,s.heap.IsCell c v
 free:H X.env.locals=none
 freeC:∀ x c,X.env.cells.lookup x=some c→H c=none
 pin:∀ p∈X.pn++pins,s.heap.get? p.1=some p.2∧H p.1=none∧p.1≠X.env.locals∧p.1∉X.fs∧∀ v,p.2.data≠.cell v
 hok:HOk X.prog X.w H s.heap
 len:σ.length=X.N.length
section
variable {X:Cx}{pins:List (Addr×Obj)}{σ:List (Option V)}{H H':Hp}{s:Shared}{h':Heap}
theorem Cx.Ok.nofr(ok:X.Ok){b:Addr}{o:Obj}(e:X.base.get? b=some o):b∉X.fs:=fun hb=>by
 have:=(ok.funs.mem hb).1
 rw [e] at this;cases this
theorem Inv.bs(I:Inv X pins σ H s):∀ b o,X.base.get? b=some o→s.heap.get? b=some o∧H b=none:=fun b o e=>
 ⟨I.base.keep b o (I.ok.bs b o e).1 (I.ok.bs b o e).2 (I.ok.nofr e) (I.ok.noex b o e),I.base.free b o (I.ok.bs b o e).1 (I.ok.bs b o e).2 (I.ok.noex b o e)⟩
theorem Inv.bk(I:Inv X pins σ H s):∀ b o,X.base.get? b=some o→s.heap.get? b=some o:=fun b o e=>(I.bs b o e).1
theorem Inv.mod(I:Inv X pins σ H s):Mod X.K X.mg X.base:=I.ok.mod
theorem Inv.kIn(I:Inv X pins σ H s):X.K.In s.heap:=I.ok.mod.kin.keeps I.bk
theorem Inv.lt(I:Inv X pins σ H s):X.env.locals<s.heap.objs.size:=let ⟨_,hn,_⟩:=I.loc;hn.lt
theorem Inv.sz(I:Inv X pins σ H s):X.s₀.heap.objs.size≤s.heap.objs.size:=las I.ok.above (Nat.le_of_lt I.lt)
theorem Inv.nofs(I:Inv X pins σ H s){a:Addr}(h:s.heap.objs.size≤a):a∉X.fs:=fun hb=>by
 obtain ⟨_,o,ho,_⟩:=I.ok.funs.mem hb
 exact absurd (lav (Heap.lt_size ho) (las I.sz h)) (Nat.lt_irrefl _)
theorem Inv.cne(I:Inv X pins σ H s):∀ x c,X.env.cells.lookup x=some c→c≠X.env.locals:=fun x c e z=>by
 obtain ⟨v,o,ho,hd⟩:=I.cell x c e
 obtain ⟨m,⟨o',es,ep,ho',hd',_⟩,_⟩:=I.loc
 rw [z,ho'] at ho;cases ho;rw [hd'] at hd;cases hd
theorem Inv.funs(I:Inv X pins σ H s):s.heap.FunFrames X.base X.outer:=by
 have all:∀ (l:List Env),(∀ b∈nD l,b∈X.fs)→X.s₀.heap.FunFrames X.base l→s.heap.FunFrames X.base l:=by
  intro l
  induction l with
  | nil=>intro _ _;trivial
  | cons env r ih=>
   intro hs hl
   obtain ⟨hk,⟨L,o,hf,hn,ho,hd⟩,hr⟩:=hl
   have hL:L∈X.fs:=hs L (by unfold nD;rw [List.filterMap_cons,hf];exact List.mem_cons_self)
   obtain ⟨sl,e⟩:=I.base.slot L o ho (I.ok.frf L hL) hL fun z=>I.ok.exfs L z hL
   exact ⟨hk,⟨L,_,hf,hn,e,hd⟩,ih (fun b hb=>hs b (by unfold nD;rw [List.filterMap_cons,hf];exact lac _ hb)) hr⟩
 exact all X.outer (fun _ hb=>hb) I.ok.funs
theorem Inv.stack(I:Inv X pins σ H s):s.heap.FunFrames X.base X.stack:=by
 rcases I.ok.stk with e | ⟨e,hf⟩
 ·rw [e];exact I.funs
 ·rw [e]
  obtain ⟨m,hn,_⟩:=I.loc
  refine .cons (by rw [I.ok.kind];decide) hf hn ?_ I.funs
  exact Heap.get?_none_of_le (las I.ok.bsz I.ok.above)
theorem Inv.stkSub(I:Inv X pins σ H s):∀ b∈nD X.stack,b∈X.env.locals::X.fs:=fun b hb=>by
 rcases I.ok.stk with e | ⟨e,hf⟩
 ·rw [e] at hb;exact lac _ hb
 ·rw [e] at hb
  unfold nD at hb
  rw [List.filterMap_cons,hf] at hb
  exact hb
theorem Inv.stkFree(I:Inv X pins σ H s):∀ b∈nD X.stack,H b=none:=fun b hb=>by
 rcases List.mem_cons.mp (I.stkSub b hb) with e | hb
 ·rw [e];exact I.free
 ·obtain ⟨_,o,ho,_⟩:=I.ok.funs.mem hb
  exact I.base.free b o ho (I.ok.frf b hb) fun z=>I.ok.exfs b z hb
theorem Inv.step{g':Array GenState}{t':Nat}{d':Drawn}{ch:List Addr}(I:Inv X pins σ H s)
  (hch:∀ b∈ch,(b∈X.ex∨X.s₀.heap.objs.size≤b)∧b≠X.env.locals∧(∀ x c,X.env.cells.lookup x=some c→c≠b)∧∀ p∈X.pn++pins,p.1≠b)
  (keep:∀ b o,b≠X.env.locals→b∉X.fs→b∉ch→s.heap.get? b=some o→H b=none→h'.get? b=some o)
  (slot:∀ b o,b≠X.env.locals→b∈X.fs→b∉ch→s.heap.get? b=some o→H b=none→∃ sl,h'.get? b=some { o with slots:=sl })(free:∀ b o,b∉ch→s.heap.get? b=some o→H b=none→H' b=none)
  (there:∀ b o,b∉ch→s.heap.get? b=some o→∃ o',h'.get? b=some o')
  (tups:∀ b xs,H b=some (.tup xs)→H' b=some (.tup xs)) (frzs:∀ b o u,H b=some (.frz o u)→H' b=some (.frz o u)) (tbls:∀ b ps,H b=some (.tbl ps)→∃ more,H' b=some (.tbl (ps++more)))
  (ns:∀ m,s.heap.Ns X.env.locals m→h'.Ns X.env.locals m) (hok:HOk X.prog X.w H' h') (hg:AllBare g') :
  Inv X pins σ H' { s with heap:=h',gens:=g',drawn:=d',toks:=t' }:=by
 have neL:∀ b o,X.s₀.heap.get? b=some o→b≠X.env.locals:=fun b o e=>Nat.ne_of_lt (lav (Heap.lt_size e) I.ok.above)
 have neC:∀ b o,X.s₀.heap.get? b=some o→b∉X.ex→b∉ch:=fun b o e hx hb=>by
  rcases (hch b hb).1 with z | z
  ·exact hx z
  ·exact absurd (lav (Heap.lt_size e) z) (Nat.lt_irrefl _)
 have cellK:∀ x c,X.env.cells.lookup x=some c→∀ v,s.heap.IsCell c v→h'.IsCell c v:=fun x c e v ⟨o,ho,hd⟩=>by
  have nch:c∉ch:=fun z=>(hch c z).2.2.1 x c e rfl
  by_cases hc:c∈X.fs
  ·obtain ⟨sl,q⟩:=slot c o (I.cne x c e) hc nch ho (I.freeC x c e)
   exact ⟨_,q,hd⟩
  ·exact ⟨o,keep c o (I.cne x c e) hc nch ho (I.freeC x c e),hd⟩
 refine ⟨I.ok,I.os,hg,⟨fun b o e n hb hx=>?_,fun b o e n hb hx=>?_,fun b o e n hx=>?_,fun b o e hx=>?_,fun b xs e=>tups b xs (I.base.tups b xs e),fun b o xs e=>frzs b o xs (I.base.frzs b o xs e),fun b ps e=>?_⟩,?_,fun x c e=>?_,?_,fun x c e=>?_,fun p hp=>?_,hok,I.len⟩
 ·exact keep b o (neL b o e) hb (neC b o e hx) (I.base.keep b o e n hb hx) (I.base.free b o e n hx)
 ·obtain ⟨sl,e1⟩:=I.base.slot b o e n hb hx
  obtain ⟨sl',e2⟩:=slot b _ (neL b o e) hb (neC b o e hx) e1 (I.base.free b o e n hx)
  exact ⟨sl',e2⟩
 ·obtain ⟨o',e1⟩:=I.base.there b o e hx
  exact free b o' (neC b o e hx) e1 (I.base.free b o e n hx)
 ·obtain ⟨o',e1⟩:=I.base.there b o e hx
  exact there b o' (neC b o e hx) e1
 ·obtain ⟨m1,e1⟩:=I.base.tbls b ps e
  obtain ⟨m2,e2⟩:=tbls b _ e1
  exact ⟨m1++m2,by rw [e2,Array.append_assoc]⟩
 ·obtain ⟨m,hn,hl⟩:=I.loc
  refine ⟨m,ns m hn,fun i x v e1 e2 e3=>?_⟩
  obtain ⟨u,r,l⟩:=hl i x v e1 e2 e3
  refine ⟨u,r,?_⟩
  rcases l with l | ⟨k,c,e,z⟩
  ·exact .inl l
  ·exact .inr ⟨k,c,e,cellK x c e _ z⟩
 ·obtain ⟨v,z⟩:=I.cell x c e
  exact ⟨v,cellK x c e v z⟩
 ·obtain ⟨m,⟨o,_,_,ho,_⟩,_⟩:=I.loc
  exact free _ o (fun z=>(hch _ z).2.1 rfl) ho I.free
 ·obtain ⟨v,o,ho,hd⟩:=I.cell x c e
  exact free c o (fun z=>(hch c z).2.2.1 x c e rfl) ho (I.freeC x c e)
 ·obtain ⟨e,n,ne,nf,d⟩:=I.pin p hp
  have nch:p.1∉ch:=fun z=>(hch p.1 z).2.2.2 p hp rfl
  exact ⟨keep p.1 p.2 ne nf nch e n,free p.1 p.2 nch e n,ne,nf,d⟩
theorem Inv.un{t':Nat}(I:Inv X pins σ H s)(u:Un X.fs [] H H' s.heap h')(hok:HOk X.prog X.w H' h'):Inv X pins σ H' { s with heap:=h',toks:=t' }:=by
 obtain ⟨m,⟨o,es,ep,ho,r⟩,_⟩:=id I.loc
 obtain ⟨sl,hL⟩:=u.any ho I.free (by simp)
 exact I.step (g':=s.gens) (d':=s.drawn) (ch:=[]) (fun _ z=>nomatch z) (fun b o _ hb _ e n=>u.keep b o e n hb (by simp)) (fun b o _ hb _ e n=>u.slot b o e n hb (by simp)) (fun b o _ e n=>u.free b o e n (by simp)) (fun b o _ e=>u.there b o e (by simp)) u.tups u.frzs u.tbls (fun m' hm=>by
  obtain ⟨o',es',ep',ho',r'⟩:=hm
  rw [ho] at ho';cases ho'
  exact ⟨_,es',ep',hL,r'⟩) hok I.bare
theorem Inv.call{g':Array GenState}{t':Nat}{d':Drawn}{ch:List Addr}(I:Inv X pins σ H s)(u:Un (nD X.stack) ch H H' s.heap h')(hok:HOk X.prog X.w H' h')(hg:AllBare g')
  (hch:∀ b∈ch,(b∈X.ex∨X.s₀.heap.objs.size≤b)∧b≠X.env.locals∧(∀ x c,X.env.cells.lookup x=some c→c≠b)∧∀ p∈X.pn++pins,p.1≠b) :
  Inv X pins σ H' { s with heap:=h',gens:=g',drawn:=d',toks:=t' }:=by
 obtain ⟨m,⟨o,es,ep,ho,r⟩,_⟩:=id I.loc
 obtain ⟨sl,hL⟩:=u.any ho I.free fun z=>(hch _ z).2.1 rfl
 exact I.step (ch:=ch) hch (fun b o hL hb hc e n=>u.keep b o e n (fun z=>(List.mem_cons.mp (I.stkSub b z)).elim hL hb) hc) (fun b o _ _ hc e n=>u.any e n hc) (fun b o hc e n=>u.free b o e n hc) (fun b o hc e=>u.there b o e hc) u.tups u.frzs u.tbls (fun m' hm=>by
  obtain ⟨o',es',ep',ho',r'⟩:=hm
  rw [ho] at ho';cases ho'
  exact ⟨_,es',ep',hL,r'⟩) hok hg
theorem Inv.turned{t':Nat}{it:Addr}(I:Inv X pins σ H s)(k:∀ b o,b≠it→s.heap.get? b=some o→h'.get? b=some o)(hn:H it=none)(hL:it≠X.env.locals)
  (h1:it∈X.ex∨X.s₀.heap.objs.size≤it)(h2:∀ x c,X.env.cells.lookup x=some c→c≠it)(h3:∀ p∈X.pn++pins,p.1≠it):Inv X pins σ H { s with heap:=h',toks:=t' }:=by
 have nit:∀ b u,H b=some u→b≠it:=fun b u e z=>by rw [z,hn] at e;cases e
 refine I.step (g':=s.gens) (d':=s.drawn) (ch:=[it]) (fun b hb=>?_) (fun b o _ _ hc e _=>k b o (fun z=>hc (by simp [z])) e) (fun b o _ _ hc e _=>⟨o.slots,k b o (fun z=>hc (by simp [z])) e⟩) (fun _ _ _ _ n=>n)
  (fun b o hc e=>⟨o,k b o (fun z=>hc (by simp [z])) e⟩) (fun _ _ e=>e) (fun _ _ _ e=>e) (fun b ps e=>⟨#[],by rw [e];simp⟩) (fun m hm=>?_) (fun b u e=>?_) I.bare
 ·have e:b=it:=by simpa using hb
  subst e
  exact ⟨h1,hL,h2,h3⟩
 ·obtain ⟨o,es,ep,ho,r⟩:=hm
  exact ⟨o,es,ep,k _ o (Ne.symm hL) ho,r⟩
 ·refine (I.hok b u e).stay (fun c v hc q=>k c v ?_ q) (fun _ q=>q) fun _ _ q=>q
  rcases hc with z | z
  ·rw [z];exact nit b u e
  ·exact nit c _ z
theorem Inv.tok(I:Inv X pins σ H s)(t:Nat):Inv X pins σ H { s with toks:=t }:=I.un (h':=s.heap) (t':=t) Un.refl I.hok
theorem Inv.kept{t':Nat}(I:Inv X pins σ H s)(k:∀ b u,s.heap.get? b=some u→h'.get? b=some u):Inv X pins σ H { s with heap:=h',toks:=t' }:=I.un (Un.kept k) (I.hok.kept k)
theorem Inv.laid{a:Addr}{o:HO}{t':Nat}(I:Inv X pins σ H s)(k:∀ b u,s.heap.get? b=some u→h'.get? b=some u)(hp:s.heap.objs.size≤a)(new:ObjOk X.prog X.w (upd H a o) h' a o) :
  Inv X pins σ (upd H a o) { s with heap:=h',toks:=t' }:=I.un (Un.laid k hp (I.hok.fresh hp)) (I.hok.laid k hp new)
theorem Inv.write{x e:Addr}{o:HO}{t':Nat}(I:Inv X pins σ H s)(mu:ke (H x))(he:e=x∨H e=some (.own x))(k:∀ b u,b≠e→s.heap.get? b=some u→h'.get? b=some u)(heo:∃ u,h'.get? e=some u)
  (new:ObjOk X.prog X.w (upd H x o) h' x o):Inv X pins σ (upd H x o) { s with heap:=h',toks:=t' }:=I.un (Un.write mu he k heo) (I.hok.write mu he k heo new)
theorem Inv.pins_of{pins':List (Addr×Obj)}(I:Inv X pins σ H s)(h:∀ p∈pins',s.heap.get? p.1=some p.2∧H p.1=none∧p.1≠X.env.locals∧p.1∉X.fs∧∀ v,p.2.data≠.cell v):Inv X pins' σ H s:=
 ⟨I.ok,I.os,I.bare,I.base,I.loc,I.cell,I.free,I.freeC,fun p hp=>(lap.mp hp).elim (fun z=>I.pin p (lal _ z)) (h p),I.hok,I.len⟩
theorem ur{N:List Str}(hN:N.Nodup){i j:Nat}{x:Str}(a:N[i]?=some x)(b:N[j]?=some x):i=j:=by
 obtain ⟨h1,e1⟩:=lab.mp a
 obtain ⟨h2,e2⟩:=lab.mp b
 exact (List.getElem_inj hN).mp (e1.trans e2.symm)
theorem yT{M:Model}{A:Around}{E:Value→Shared→Prop}{i:Nat}{x:Str}{v:V}{u:Value}{Q:Unit→Shared→Prop}(I:Inv X pins σ H s)(hN:X.N.Nodup)(hi:X.N[i]?=some x)(hx:xW X.env.scope x)(r:RelV v u)
  (h:∀ s',Inv X pins (σ.set i (some v)) H s'→(∃ a,Heap.SameBut a s.heap s'.heap∧(a=X.env.locals∨X.env.cells.lookup x=some a))→Q () s')(hf:X.fn x=true∨X.env.scope.names.lookup x=some .local:=by first | exact .inl rfl | exact .inr rfl | assumption):wpAny M A (storeName X.env x u) Q E s:=by
 obtain ⟨m,hn,hl⟩:=id I.loc
 have hcls:(X.env.scope.kind==.class||(X.env.scope.kind==.module&&X.env.locals != X.env.globals))=false:=by rw [I.ok.kind];rfl
 have hiσ:i<σ.length:=by rw [I.len];exact (lab.mp hi).1
 have cne:=I.cne
 have tracked:∀ {a:Addr} {h':Heap},(∃ o,s.heap.get? a=some o∧H a=none)→Heap.SameBut a s.heap h'→HOk X.prog X.w H h':=fun {a h'} ha hs b ob e=>by
  obtain ⟨_,_,hfree⟩:=ha
  refine (I.hok b ob e).stay (fun c w' hc q=>(hs.2 c ?_).trans q) (fun _ q=>q) fun _ _ q=>q
  rintro rfl
  rcases hc with rfl | hc
  ·rw [hfree] at e;cases e
  ·rw [hfree] at hc;cases hc
 rcases hx with hk | hk
 ·refine wpAny_storeName_local hk hn (fun h' hn' hs=>?_) hcls
  obtain ⟨oL,_,_,hoL,_⟩:=id hn
  refine h _ ⟨I.ok,I.os,I.bare,⟨fun b o e n hb hx=>?_,fun b o e n hb hx=>?_,I.base.free,fun b o e hx=>?_,I.base.tups,I.base.frzs,I.base.tbls⟩,⟨_,hn',fun j y v' e1 e2 e3=>?_⟩,fun y c e=>?_,I.free,I.freeC,fun p hp=>?_,tracked ⟨oL,hoL,I.free⟩ hs,by simpa using I.len⟩ ⟨_,hs,.inl rfl⟩
  ·exact (hs.2 b (Nat.ne_of_lt (lav (Heap.lt_size e) I.ok.above))).trans (I.base.keep b o e n hb hx)
  ·obtain ⟨sl,e1⟩:=I.base.slot b o e n hb hx
   exact ⟨sl,(hs.2 b (Nat.ne_of_lt (lav (Heap.lt_size e) I.ok.above))).trans e1⟩
  ·obtain ⟨o',e1⟩:=I.base.there b o e hx
   exact ⟨o',(hs.2 b (Nat.ne_of_lt (lav (Heap.lt_size e) I.ok.above))).trans e1⟩
  ·by_cases hj:j=i
   ·subst hj
    rw [hi] at e1;cases e1
    rw [lao hiσ] at e2
    cases e2
    exact ⟨u,r,.inl ⟨hk,by simp⟩⟩
   ·rw [lar (Ne.symm hj)] at e2
    obtain ⟨u',r',q⟩:=hl j y v' e1 e2 e3
    refine ⟨u',r',?_⟩
    rcases q with ⟨k,e⟩ | ⟨k,c,e,z⟩
    ·refine .inl ⟨k,?_⟩
     have:y≠x:=fun e=>hj (ur hN e1 (e▸hi))
     simp [this,e]
    ·exact .inr ⟨k,c,e,z.sameBut hs (cne y c e)⟩
  ·obtain ⟨w',z⟩:=I.cell y c e
   exact ⟨w',z.sameBut hs (cne y c e)⟩
  ·obtain ⟨e,n,ne,nf,d⟩:=I.pin p hp
   exact ⟨(hs.2 p.1 ne).trans e,n,ne,nf,d⟩
 ·have hfn:X.fn x=true:=by
   rcases hf with z | z
   ·exact z
   ·rw [z] at hk;cases hk
  obtain ⟨c,hc⟩:=I.ok.has x (.inl hk)
  obtain ⟨w',z⟩:=I.cell x c hc
  refine wpAny_storeName_cell I.ok.kind hk hc z (fun h' hc' hs=>?_)
  obtain ⟨oc,hoc,hocd⟩:=id z
  refine h { s with heap:=h' } ⟨I.ok,I.os,I.bare,⟨fun b o e n hb hx=>?_,fun b o e n hb hx=>?_,I.base.free,fun b o e hx=>?_,I.base.tups,I.base.frzs,I.base.tbls⟩,⟨m,hn.sameBut hs (Ne.symm (cne x c hc)),fun j y v' e1 e2 e3=>?_⟩,fun y c' e=>?_,I.free,I.freeC,fun p hp=>?_,tracked ⟨oc,hoc,I.freeC x c hc⟩ hs,by simpa using I.len⟩ ⟨c,hs,.inr hc⟩
  ·exact (hs.2 b (Nat.ne_of_lt (lav (Heap.lt_size e) (I.ok.cab x c hfn hc)))).trans (I.base.keep b o e n hb hx)
  ·obtain ⟨sl,e1⟩:=I.base.slot b o e n hb hx
   exact ⟨sl,(hs.2 b (Nat.ne_of_lt (lav (Heap.lt_size e) (I.ok.cab x c hfn hc)))).trans e1⟩
  ·obtain ⟨o',e1⟩:=I.base.there b o e hx
   exact ⟨o',(hs.2 b (Nat.ne_of_lt (lav (Heap.lt_size e) (I.ok.cab x c hfn hc)))).trans e1⟩
  ·by_cases hj:j=i
   ·subst hj
    rw [hi] at e1;cases e1
    rw [lao hiσ] at e2
    cases e2
    exact ⟨u,r,.inr ⟨.inl hk,c,hc,hc'⟩⟩
   ·rw [lar (Ne.symm hj)] at e2
    obtain ⟨u',r',q⟩:=hl j y v' e1 e2 e3
    refine ⟨u',r',?_⟩
    rcases q with q | ⟨k,c',e,z'⟩
    ·exact .inl q
    ·refine .inr ⟨k,c',e,z'.sameBut hs ?_⟩
     rintro rfl
     exact hj (ur hN e1 (I.ok.inj _ _ _ e hc▸hi))
  ·by_cases hcc:c'=c
   ·subst hcc;exact ⟨_,hc'⟩
   ·obtain ⟨w2,z2⟩:=I.cell y c' e
    exact ⟨w2,z2.sameBut hs hcc⟩
  ·obtain ⟨e,n,ne,nf,d⟩:=I.pin p hp
   refine ⟨(hs.2 p.1 ?_).trans e,n,ne,nf,d⟩
   intro q
   rw [q,hoc] at e
   have q':oc=p.2:=lan e
   exact d w' (by rw [← q'];exact hocd)
theorem oM{M:Model}{A:Around}{E:Value→Shared→Prop}{i:Nat}{x:Str}{v:V}{u:Value}{Q:Unit→Shared→Prop}(I:Inv X pins σ H s)(hN:X.N.Nodup)(hi:X.N[i]?=some x)(hx:xW X.env.scope x)(r:RelV v u)
  (h:∀ s',Inv X pins (σ.set i (some v)) H s'→Q () s')(hf:X.fn x=true∨X.env.scope.names.lookup x=some .local:=by first | exact .inl rfl | exact .inr rfl | assumption):wpAny M A (storeName X.env x u) Q E s:=
 yT I hN hi hx r (fun s' I' _=>h s' I') hf
theorem Inv.call'{s':Shared}{ch:List Addr}(I:Inv X pins σ H s)(ho:s'.os=s.os)(u:Un (nD X.stack) ch H H' s.heap s'.heap)(hok:HOk X.prog X.w H' s'.heap)(hg:AllBare s'.gens)
  (hch:∀ b∈ch,(b∈X.ex∨X.s₀.heap.objs.size≤b)∧b≠X.env.locals∧(∀ x c,X.env.cells.lookup x=some c→c≠b)∧∀ p∈X.pn++pins,p.1≠b):Inv X pins σ H' s':=by
 obtain ⟨h',g',d',t',o'⟩:=s'
 have e:o'=s.os:=ho
 subst e
 exact I.call (g':=g') (t':=t') (d':=d') u hok hg hch
end
abbrev XK:=Value→Option Addr→Hp→Prop
abbrev St:=List (Option V)
abbrev VK:=V→Hp→Prop
abbrev TE:=St→Hp→VK→Prop
abbrev TT:=St→Hp→(Bool→Hp→Prop)→Prop
abbrev TA:=St→Hp→(List V→Hp→Prop)→Prop
structure iW where
 nx:St→Hp→Prop
 rt:VK
 bk:St→Hp→Prop:=fun _ _=>False
 ct:St→Hp→Prop:=fun _ _=>False
abbrev TS:=iW→St→Hp→Prop
def EP(X:Cx)(pins:List (Addr×Obj))(σ:St)(Q:VK)(u:Value)(s':Shared):Prop:=∃ v H',Inv X pins σ H' s'∧RelV v u∧Q v H'
def TP(X:Cx)(pins:List (Addr×Obj))(σ:St)(Q:Bool→Hp→Prop)(b:Bool)(s':Shared):Prop:=∃ H',Inv X pins σ H' s'∧Q b H'
def AP(X:Cx)(pins:List (Addr×Obj))(σ:St)(Q:List V→Hp→Prop)(us:List Value)(s':Shared):Prop:=∃ vs H',Inv X pins σ H' s'∧Vals vs us∧Q vs H'
def SP(X:Cx)(pins:List (Addr×Obj))(D:iW)(f:Flow)(s':Shared):Prop:=
 match f with
 | .next=>∃ σ' H',Inv X pins σ' H' s'∧D.nx σ' H'
 | .brk=>∃ σ' H',Inv X pins σ' H' s'∧D.bk σ' H'
 | .cont=>∃ σ' H',Inv X pins σ' H' s'∧D.ct σ' H'
 | .ret u=>∃ v σ' H',Inv X pins σ' H' s'∧RelV v u∧D.rt v H'
def PE(X:Cx)(e:Expr)(t:TE):Prop:=
 ∀ (pins:List (Addr×Obj)) (s:Shared) (σ:St) (H:Hp) (Q:VK),Inv X pins σ H s→t σ H Q→wpAny (model X.prog X.w) X.A (eval e X.env) (EP X pins σ Q) X.xe s
def PT(X:Cx)(e:Expr)(t:TT):Prop:=
 ∀ (pins:List (Addr×Obj)) (s:Shared) (σ:St) (H:Hp) (Q:Bool→Hp→Prop),Inv X pins σ H s→t σ H Q→wpAny (model X.prog X.w) X.A (isTrue e X.env (eval e X.env)) (TP X pins σ Q) X.xe s
def PW(X:Cx)(e:Expr)(t:TT):Prop:=
 ∀ (whole:Sem Value) (pins:List (Addr×Obj)) (s:Shared) (σ:St) (H:Hp) (Q:Bool→Hp→Prop),Inv X pins σ H s→t σ H Q→wpAny (model X.prog X.w) X.A (isTrue e X.env whole) (TP X pins σ Q) X.xe s
theorem PW.pt{X:Cx}{e:Expr}{t:TT}(h:PW X e t):PT X e t:=h _
def PA(X:Cx)(es:List Expr)(t:TA):Prop:=
 ∀ (pos:Pos) (pins:List (Addr×Obj)) (s:Shared) (σ:St) (H:Hp) (Q:List V→Hp→Prop),Inv X pins σ H s→t σ H Q→wpAny (model X.prog X.w) X.A (spliced (backTo pos (starEach es X.env))) (AP X pins σ Q) X.xe s
def PS(X:Cx)(st:Stmt)(t:TS):Prop:=
 ∀ (pins:List (Addr×Obj)) (s:Shared) (σ:St) (H:Hp) (D:iW),Inv X pins σ H s→t D σ H→wpAny (model X.prog X.w) X.A (exec st X.env) (SP X pins D) X.xe s
def PSs(X:Cx)(st:List Stmt)(t:TS):Prop:=
 ∀ (pins:List (Addr×Obj)) (s:Shared) (σ:St) (H:Hp) (D:iW),Inv X pins σ H s→t D σ H→wpAny (model X.prog X.w) X.A (execs st X.env) (SP X pins D) X.xe s
theorem bh{α:Type}{t:Sem α}{Q Q':α→Shared→Prop}{M:Model}{A:Around}{E:Value→Shared→Prop}{s:Shared}(h:wpAny M A t Q E s)(hQ:∀ a s,Q a s→Q' a s):wpAny M A t Q' E s:=wpAny_mono h hQ fun _ _ x=>x
end L2
namespace L2
open PySem PySem.Spec PyProof.Rows
section
variable {X:Cx}
theorem MH{a b:Expr}{ta tb:TE}(ha:PE X a ta)(hb:PE X b tb){pins:List (Addr×Obj)}{s:Shared}{σ:St}{H:Hp}{R:V→V→Hp→Prop}(I:Inv X pins σ H s)(h:ta σ H fun x H1=>tb σ H1 fun y H2=>R x y H2)
  {α:Type}{Q:α→Shared→Prop}{f:Value→Value→Sem α}
  (hf:∀ v u s2 x y H2,Inv X pins σ H2 s2→RelV x v→RelV y u→R x y H2→wpAny (model X.prog X.w) X.A (f v u) Q X.xe s2) :
  wpAny (model X.prog X.w) X.A (eval a X.env) (fun v s₁=>wpAny (model X.prog X.w) X.A (eval b X.env) (fun u s₂=>wpAny (model X.prog X.w) X.A (f v u) Q X.xe s₂) X.xe s₁) X.xe s:=by
 refine bh (ha pins s σ H _ I h) fun v s1 ⟨x,H1,I1,r1,q1⟩=>?_
 refine bh (hb pins s1 σ H1 _ I1 q1) fun u s2 ⟨y,H2,I2,r2,q2⟩=>?_
 exact hf v u s2 x y H2 I2 r1 r2 q2
def ae(i:Nat):TE:=fun σ H Q=>∃ v,σ[i]?=some (some v)∧Q v H
def tC(v:V):TE:=fun _ H Q=>Q v H
theorem Di{i:Nat}{x:Str}{pos:Pos}(hN:X.N[i]?=some x)(hv:y8 X.env.scope x)(hd:(x==("__debug__":Str))=false:=by decide)(hcd:(x==("__classdict__":Str))=false:=by decide):PE X (.Name x pos) (ae i):=by
 intro pins s σ H Q I h
 obtain ⟨v,e,h⟩:=h
 obtain ⟨m,hn,hl⟩:=I.loc
 obtain ⟨u,r,l⟩:=hl i x v hN e hv
 have fin:EP X pins σ Q u s:=⟨v,H,I,r,h⟩
 rcases l with ⟨hk,hm⟩ | ⟨hk,c,hc,hcell⟩
 ·exact wpAny_Name (wpAny_loadName_local I.ok.kind hk hn hm fin) hd
 ·rcases hk with hk | hk
  ·exact wpAny_Name (wpAny_loadName_cell I.ok.kind hk hc hcell fin) hd
  ·exact wpAny_Name (wpAny_loadName_free I.ok.kind hk hc hcell fin hcd) hd
theorem ap{i j pos}:PE X (.Constant (.int i) j pos) (tC (.int i)):=fun _ _ _ H _ I h=>wpAny_Constant_int ⟨.int i,H,I.tok _,⟨_,rfl⟩,h⟩
theorem bS{b j pos}:PE X (.Constant (.bool b) j pos) (tC (.bl b)):=fun _ _ _ H _ I h=>Constant_bool ⟨.bl b,H,I,rfl,h⟩
theorem fF{j pos}:PE X (.Constant .none j pos) (tC .non):=fun _ _ _ H _ I h=>Constant_none ⟨.non,H,I,rfl,h⟩
theorem au{x j pos}:PE X (.Constant (.str x) j pos) (tC (.str x)):=fun _ _ _ H _ I h=>Calls.Constant_str ⟨.str x,H,I.tok _,⟨_,rfl⟩,h⟩
def Gl(X:Cx)(x:Str):Prop:=X.env.kindOf x=some .globalImplicit
theorem p_{E:Value→Shared→Prop}{pins:List (Addr×Obj)}{s:Shared}{σ:St}{H:Hp}{x:Str}{u:Value}{pos:Pos}{Q:Value→Shared→Prop}(I:Inv X pins σ H s)(hg:Gl X x)(hm:X.mg x=some u)(h:Q u s)
  (hd:(x==("__debug__":Str))=false:=by decide):wpAny (model X.prog X.w) X.A (eval (.Name x pos) X.env) Q E s:=
 Calls.Name_function_global I.ok.kind hg (Calls.loadGlobal_global (by rw [I.ok.glob];exact I.mod.glob.keeps I.bk) hm h) hd
theorem oZ{E:Value→Shared→Prop}{pins:List (Addr×Obj)}{s:Shared}{σ:St}{H:Hp}{x:Str}{u:Value}{pos:Pos}{Q:Value→Shared→Prop}(I:Inv X pins σ H s)(hg:Gl X x)(hm:X.mg x=none)(hv:bootBuiltins x=some u)(h:Q u s)
  (hn:x≠"__name__":=by decide)(hd:(x==("__debug__":Str))=false:=by decide):wpAny (model X.prog X.w) X.A (eval (.Name x pos) X.env) Q E s:=by
 obtain ⟨mb,h1,h2⟩:=I.mod.blt
 exact Calls.Name_function_global I.ok.kind hg (Calls.loadGlobal_builtin (by rw [I.ok.glob];exact I.mod.glob.keeps I.bk) hm (by rw [I.ok.blt];exact h1.keeps I.bk) ((h2 x hn).trans hv) h) hd
theorem c_{x:Str}{v:V}{u:Value}{pos:Pos}(hg:Gl X x)(hm:X.mg x=none)(hv:bootBuiltins x=some u)(r:RelV v u)(hn:x≠"__name__":=by decide)(hd:(x==("__debug__":Str))=false:=by decide):PE X (.Name x pos) (tC v):=
 fun _ _ _ H _ I h=>oZ I hg hm hv ⟨v,H,I,r,h⟩ hn hd
variable {a b:Expr}{ta tb:TE}{pos:Pos}
def PC(X:Cx)(op:CmpOp)(a b:Expr)(t:TE):Prop:=
 ∀ (pins:List (Addr×Obj)) (s:Shared) (σ:St) (H:Hp) (Q:VK),Inv X pins σ H s→t σ H Q→
  wpAny (model X.prog X.w) X.A (eval a X.env) (fun v s₁=>wpAny (model X.prog X.w) X.A (eval b X.env) (fun u s₂=>wpAny (model X.prog X.w) X.A (compareOp op v u) (EP X pins σ Q) X.xe s₂) X.xe s₁) X.xe s
theorem sN(b:Expr){op:CmpOp}(h:op≠.In)(h2:op≠.NotIn):behindInMarks op b=false:=by
 have e1:(op==CmpOp.In)=false:=by cases op <;> first | rfl | exact absurd rfl h
 have e2:(op==CmpOp.NotIn)=false:=by cases op <;> first | rfl | exact absurd rfl h2
 cases b <;> simp [behindInMarks,e1,e2]
def oC(ta:TE):TE:=fun σ H Q=>ta σ H fun x H1=>Q (.bl (decide (x=.non))) H1
def mF(ta:TE):TE:=fun σ H Q=>ta σ H fun x H1=>Q (.bl (!decide (x=.non))) H1
theorem RelV.none_iff{x:V}{v:Value}(r:RelV x v):(v==Value.none)=decide (x=.non):=by
 cases x with
 | non=>cases r;rfl
 | bl _=>cases r;rfl
 | int _=>obtain ⟨t,rfl⟩:=r;rfl
 | str _=>obtain ⟨t,rfl⟩:=r;rfl
 | byt _=>obtain ⟨t,rfl⟩:=r;rfl
 | flt _=>obtain ⟨t,rfl⟩:=r;rfl
 | ref _=>cases r;rfl
 | ty _=>cases r;rfl
theorem mO{j pos'}(ha:PE X a ta):PC X .Is a (.Constant .none j pos') (oC ta):=by
 intro pins s σ H Q I h
 refine bh (ha pins s σ H _ I h) fun v s1 ⟨x,H1,I1,r1,q1⟩=>?_
 exact Constant_none (is_none_gen ⟨.bl _,H1,I1,by rw [r1.none_iff];rfl,q1⟩)
theorem j_{j pos'}(ha:PE X a ta):PC X .IsNot a (.Constant .none j pos') (mF ta):=by
 intro pins s σ H Q I h
 refine bh (ha pins s σ H _ I h) fun v s1 ⟨x,H1,I1,r1,q1⟩=>?_
 exact Constant_none (isnot_none_gen ⟨.bl _,H1,I1,by rw [r1.none_iff];rfl,q1⟩)
def tB(t:TE):TT:=fun σ H Q=>t σ H fun x H1=>∃ c,x=.bl c∧Q c H1
theorem tQ{op:CmpOp}{t:TE}(h:PC X op a b t)(h1:behindInMarks op b=false:=by first | exact sN _ (by decide) (by decide) | rfl):PE X (.Compare a [op] [b] pos) t:=fun pins s σ H Q I hw=>wpAny_Compare1 (h pins s σ H Q I hw) h1
theorem iN{op:CmpOp}{t:TE}(h:PC X op a b t)(h1:behindInMarks op b=false:=by first | exact sN _ (by decide) (by decide) | rfl):PT X (.Compare a [op] [b] pos) (tB t):=by
 intro pins s σ H Q I hw
 refine wpAny_isTrue_Compare1 (bh (h pins s σ H _ I hw) fun v s1 h1=>bh h1 fun u s2 h2=>bh h2 fun c s3 ⟨x,H1,I1,r1,q1⟩=>?_) h1
 obtain ⟨d,rfl,q⟩:=q1
 cases r1
 exact wpAny_truthy_bool ⟨H1,I1,q⟩
theorem bw{e:Expr}{t:TE}(h:PE X e t)(he:∀ whole,isTrue e X.env whole=(do let v ← whole;standAt e.pos;holding [v] (truthy v)):=by intro _;rfl):PT X e (tB t):=by
 intro pins s σ H Q I hw
 refine isTrue_plain (bh (h pins s σ H _ I hw) fun v s1 ⟨x,H1,I1,r1,q1⟩=>?_) (he _)
 obtain ⟨d,rfl,q⟩:=q1
 cases r1
 exact wpAny_truthy_bool ⟨H1,I1,q⟩
variable {tA tB':TT}{rest:List Expr}
def tS(t u:TT):TT:=fun σ H Q=>t σ H fun c H1=>if c=true then u σ H1 Q else Q false H1
def fH(t u:TT):TT:=fun σ H Q=>t σ H fun c H1=>if c=true then Q true H1 else u σ H1 Q
def cH(t:TT):TT:=fun σ H Q=>t σ H fun c H1=>Q (!c) H1
theorem pQ(ha:PT X a tA):PW X (.BoolOp .And [a] pos) tA:=by
 intro wh pins s σ H Q I h
 refine isTrue_and (bh (ha pins s σ H Q I h) fun c s1 e=>?_)
 cases c with
 | true=>exact isTrue_and_nil e
 | false=>exact e
theorem di(ha:PT X a tA):PW X (.BoolOp .Or [a] pos) tA:=by
 intro wh pins s σ H Q I h
 refine isTrue_or (bh (ha pins s σ H Q I h) fun c s1 e=>?_)
 cases c with
 | false=>exact isTrue_or_nil e
 | true=>exact e
theorem rM(ha:PT X a tA)(hb:PW X (.BoolOp .And (b::rest) pos) tB'):PW X (.BoolOp .And (a::b::rest) pos) (tS tA tB'):=by
 intro wh pins s σ H Q I h
 refine isTrue_and (bh (ha pins s σ H _ I h) fun c s1 ⟨H1,I1,q1⟩=>?_)
 cases c with
 | true=>exact hb wh pins s1 σ H1 Q I1 q1
 | false=>exact ⟨H1,I1,q1⟩
theorem dM(ha:PT X a tA)(hb:PW X (.BoolOp .Or (b::rest) pos) tB'):PW X (.BoolOp .Or (a::b::rest) pos) (fH tA tB'):=by
 intro wh pins s σ H Q I h
 refine isTrue_or (bh (ha pins s σ H _ I h) fun c s1 ⟨H1,I1,q1⟩=>?_)
 cases c with
 | true=>exact ⟨H1,I1,q1⟩
 | false=>exact hb wh pins s1 σ H1 Q I1 q1
theorem b3(ha:PT X a tA):PT X (.UnaryOp .Not a pos) (cH tA):=by
 intro pins s σ H Q I h
 exact isTrue_not (ha pins s σ H (fun c H1=>Q (!c) H1) I h)
def jC(ta tb:TE):TE:=fun σ H Q=>ta σ H fun x H1=>∃ c,x=.bl c∧if c=true then tb σ H1 Q else Q (.bl false) H1
def zP(ta tb:TE):TE:=fun σ H Q=>ta σ H fun x H1=>∃ c,x=.bl c∧if c=true then Q (.bl true) H1 else tb σ H1 Q
def v8(ta:TE):TE:=fun σ H Q=>ta σ H fun x H1=>∃ c,x=.bl c∧Q (.bl (!c)) H1
theorem j0{op}{t:TE}(h:PE X a t):PE X (.BoolOp op [a] pos) t:=fun pins s σ H Q I hw=>BoolOp_one (h pins s σ H Q I hw)
theorem j3(ha:PE X a ta)(hb:PE X (.BoolOp .And (b::rest) pos) tb):PE X (.BoolOp .And (a::b::rest) pos) (jC ta tb):=by
 intro pins s σ H Q I h
 refine BoolOp_and (bh (ha pins s σ H _ I h) fun v s1 ⟨x,H1,I1,r1,q1⟩=>?_)
 obtain ⟨c,rfl,q1⟩:=q1
 cases r1
 refine wpAny_truthy_bool ?_
 cases c with
 | true=>exact hb pins s1 σ H1 Q I1 q1
 | false=>exact ⟨.bl false,H1,I1,rfl,q1⟩
theorem D_(ha:PE X a ta)(hb:PE X (.BoolOp .Or (b::rest) pos) tb):PE X (.BoolOp .Or (a::b::rest) pos) (zP ta tb):=by
 intro pins s σ H Q I h
 refine BoolOp_or (bh (ha pins s σ H _ I h) fun v s1 ⟨x,H1,I1,r1,q1⟩=>?_)
 obtain ⟨c,rfl,q1⟩:=q1
 cases r1
 refine wpAny_truthy_bool ?_
 cases c with
 | false=>exact hb pins s1 σ H1 Q I1 q1
 | true=>exact ⟨.bl true,H1,I1,rfl,q1⟩
theorem Dz(ha:PE X a ta):PE X (.UnaryOp .Not a pos) (v8 ta):=by
 intro pins s σ H Q I h
 refine UnaryOp_ (bh (ha pins s σ H _ I h) fun v s1 ⟨x,H1,I1,r1,q1⟩=>?_)
 obtain ⟨c,rfl,q1⟩:=q1
 cases r1
 exact not_of (wpAny_truthy_bool ⟨.bl (!c),H1,I1,rfl,q1⟩)
def Aw(t:TT)(ta tb:TE):TE:=fun σ H Q=>t σ H fun c H1=>if c=true then ta σ H1 Q else tb σ H1 Q
theorem r9{c:Expr}(hc:PT X c tA)(ha:PE X a ta)(hb:PE X b tb):PE X (.IfExp c a b pos) (Aw tA ta tb):=by
 intro pins s σ H Q I h
 refine wpAny_IfExp (bh (hc pins s σ H _ I h) fun d s1 ⟨H1,I1,q1⟩=>?_)
 cases d with
 | true=>exact ha pins s1 σ H1 Q I1 q1
 | false=>exact hb pins s1 σ H1 Q I1 q1
end
end L2
namespace L2
open PySem PySem.Spec PyProof.Rows
def SqL(K:PySem.W.Frag)(H:Hp)(a:Addr)(xs:List V):Prop:=
 Rd H a (.lst xs)∨
  ∃ (o:Obj) (its:Array Value) (n:Nat),K.lookup a=some o∧o.cls=.type "list"∧o.dict=none∧o.data=.seq its n∧its.size≤sizeLine∧Vals xs its.toList
def fD(K:PySem.W.Frag)(H:Hp)(a:Addr)(xs:List V):Prop:=
 Rd H a (.tup xs)∨
  ∃ (o:Obj) (its:Array Value) (n:Nat),K.lookup a=some o∧o.cls=.type "tuple"∧o.data=.seq its n∧its.size≤sizeLine∧Vals xs its.toList
def Ki:Value→Option V
 | .none=>some .non
 | .bool b=>some (.bl b)
 | .int i _=>some (.int i)
 | .str x _=>some (.str x)
 | .bytes b _=>some (.byt b)
 | .float b _=>some (.flt b)
 | .ref a=>some (.ref a)
 | .type n=>some (.ty n)
 | _=>none
theorem RelV.abs{x:V}{u:Value}(r:RelV x u):Ki u=some x:=by
 cases x with
 | non=>cases r;rfl
 | bl _=>cases r;rfl
 | int _=>obtain ⟨t,rfl⟩:=r;rfl
 | str _=>obtain ⟨t,rfl⟩:=r;rfl
 | byt _=>obtain ⟨t,rfl⟩:=r;rfl
 | flt _=>obtain ⟨t,rfl⟩:=r;rfl
 | ref _=>cases r;rfl
 | ty _=>cases r;rfl
theorem RelV.inj{x y:V}{u:Value}(r:RelV x u)(q:RelV y u):x=y:=lan (r.abs.symm.trans q.abs)
theorem Vals.inj:∀ {xs ys:List V} {us:List Value},Vals xs us→Vals ys us→xs=ys
 | _,_,_,.nil,.nil=>rfl
 | _,_,_,.cons r t,.cons r' t'=>by rw [r.inj r',Vals.inj t t']
section
variable {X:Cx}{pins:List (Addr×Obj)}{σ:St}{H:Hp}{s:Shared}{a:Addr}{xs ys:List V}
theorem Inv.list(I:Inv X pins σ H s)(h:SqL X.K H a xs):∃ its:List Value,Vals xs its∧PlainL s.heap a its.toArray∧xs.length≤sizeLine:=by
 rcases h with h | ⟨o,its,n,hk,hc,hd,hs,hz,r⟩
 ·obtain ⟨z,its,n,r,e⟩:=h.ok I.hok
  exact ⟨its,r,⟨_,n,e,rfl,rfl,rfl⟩,z⟩
 ·refine ⟨its.toList,r,⟨o,n,I.kIn a o hk,hc,hd,by simpa using hs⟩,?_⟩
  have e:=r.length
  simp only [Array.length_toList] at e
  omega
theorem Inv.tuple(I:Inv X pins σ H s)(h:fD X.K H a xs):∃ its:List Value,Vals xs its∧IsTup s.heap a its.toArray∧xs.length≤sizeLine:=by
 rcases h with h | ⟨o,its,n,hk,hc,hs,hz,r⟩
 ·obtain ⟨z,its,r,p⟩:=h.ok I.hok
  exact ⟨its,r,p,z⟩
 ·refine ⟨its.toList,r,⟨o,I.kIn a o hk,hc,n,by simpa using hs⟩,?_⟩
  have e:=r.length
  simp only [Array.length_toList] at e
  omega
theorem Inv.list_inj(I:Inv X pins σ H s)(h:SqL X.K H a xs)(h':SqL X.K H a ys):xs=ys:=by
 obtain ⟨its,r,⟨o,n,e,_,_,d⟩,_⟩:=I.list h
 obtain ⟨its',r',⟨o',n',e',_,_,d'⟩,_⟩:=I.list h'
 rw [e] at e';cases e'
 rw [d] at d'
 injection d' with d1 _
 have:its=its':=by simpa using congrArg Array.toList d1
 subst this
 exact r.inj r'
theorem Inv.tuple_inj(I:Inv X pins σ H s)(h:fD X.K H a xs)(h':fD X.K H a ys):xs=ys:=by
 obtain ⟨its,r,⟨o,e,_,n,d⟩,_⟩:=I.tuple h
 obtain ⟨its',r',⟨o',e',_,n',d'⟩,_⟩:=I.tuple h'
 rw [e] at e';cases e'
 rw [d] at d'
 injection d' with d1 _
 have:its=its':=by simpa using congrArg Array.toList d1
 subst this
 exact r.inj r'
end
abbrev Cx.wish(X:Cx)(E:Value→Shared→Prop):Cx:={ X with xe:=E }
abbrev Cx.nox(X:Cx):Cx:=X.wish fun _ _=>False
theorem Cx.Ok.wish{X:Cx}(ok:X.Ok)(E:Value→Shared→Prop):(X.wish E).Ok:=
 ⟨ok.mod,ok.kind,ok.glob,ok.blt,ok.above,ok.inj,ok.has,ok.cab,ok.hd,ok.frames,ok.stk,ok.exf,ok.bs,ok.bsz,ok.noex,ok.exfs,ok.funs,ok.frf⟩
theorem Cx.Ok.unwish{X:Cx}{E:Value→Shared→Prop}(ok:(X.wish E).Ok):X.Ok:=
 ⟨ok.mod,ok.kind,ok.glob,ok.blt,ok.above,ok.inj,ok.has,ok.cab,ok.hd,ok.frames,ok.stk,ok.exf,ok.bs,ok.bsz,ok.noex,ok.exfs,ok.funs,ok.frf⟩
section
variable {X:Cx}{pins:List (Addr×Obj)}{σ:St}{H:Hp}{s:Shared}{E:Value→Shared→Prop}
theorem Inv.wish(I:Inv X pins σ H s)(E:Value→Shared→Prop):Inv (X.wish E) pins σ H s:=⟨I.ok.wish E,I.os,I.bare,I.base,I.loc,I.cell,I.free,I.freeC,I.pin,I.hok,I.len⟩
theorem Inv.unwish(I:Inv (X.wish E) pins σ H s):Inv X pins σ H s:=⟨I.ok.unwish,I.os,I.bare,I.base,I.loc,I.cell,I.free,I.freeC,I.pin,I.hok,I.len⟩
theorem SP.unwish{D:iW}{f:Flow}{s':Shared}(h:SP (X.wish E) pins D f s'):SP X pins D f s':=by
 cases f with
 | next=>obtain ⟨σ',H',I,q⟩:=h;exact ⟨σ',H',I.unwish,q⟩
 | brk=>obtain ⟨σ',H',I,q⟩:=h;exact ⟨σ',H',I.unwish,q⟩
 | cont=>obtain ⟨σ',H',I,q⟩:=h;exact ⟨σ',H',I.unwish,q⟩
 | ret u=>obtain ⟨v,σ',H',I,r,q⟩:=h;exact ⟨v,σ',H',I.unwish,r,q⟩
theorem PSs.nox{st:List Stmt}{t:TS}(h:PSs X.nox st t):PSs X st t:=fun pins s σ H D I hw=>
 wpAny_mono (h pins s σ H D (I.wish _) hw) (fun _ _ q=>q.unwish) fun _ _ z=>False.elim z
end
section
variable {X:Cx}{st:Stmt}{rest:List Stmt}{t u:TS}{e:Expr}{te:TE}{pos:Pos}
def aL:TS:=fun D σ H=>D.nx σ H
def aw(t u:TS):TS:=fun D σ H=>t { D with nx:=u D } σ H
theorem aA:PSs X [] aL:=fun _ _ σ H _ I h=>wpAny_execs_nil ⟨σ,H,I,h⟩
theorem ak(h1:PS X st t)(h2:PSs X rest u):PSs X (st::rest) (aw t u):=by
 intro pins s σ H D I h
 refine wpAny_execs_cons (bh (h1 pins s σ H { D with nx:=u D } I h) fun f s1 q=>?_)
 cases f with
 | next=>
  obtain ⟨σ',H',I',q⟩:=q
  exact h2 pins s1 σ' H' D I' q
 | ret v=>exact q
 | brk=>exact q
 | cont=>exact q
theorem am(h1:PS X st t):PSs X [st] t:=by
 intro pins s σ H D I h
 refine wpAny_execs_cons (bh (h1 pins s σ H D I h) fun f s1 q=>?_)
 cases f with
 | next=>exact wpAny_execs_nil q
 | ret v=>exact q
 | brk=>exact q
 | cont=>exact q
theorem Inv.quiet{pins:List (Addr×Obj)}{σ:St}{H:Hp}{s:Shared}(I:Inv X pins σ H s):interactive X.env=false:=by simp [interactive,I.ok.kind]
def bX(te:TE):TS:=fun D σ H=>te σ H fun _ H1=>D.nx σ H1
theorem br(he:PE X e te)(hs:swapsWith e none pos.line X.env=pure false:=by rfl):PS X (.Expr e pos) (bX te):=by
 intro pins s σ H D I h
 exact wpAny_Expr_any (bh (he pins s σ H _ I h) fun v s1 ⟨x,H1,I1,r1,q1⟩=>⟨σ,H1,I1,q1⟩) I.quiet hs
def aD(te:TE):TS:=fun D σ H=>te σ H D.rt
theorem ar(he:PE X e te):PS X (.Return (some e) pos) (aD te):=by
 intro pins s σ H D I h
 exact wpAny_Return_some (bh (he pins s σ H _ I h) fun v s1 ⟨x,H1,I1,r1,q1⟩=>⟨x,σ,H1,I1,r1,q1⟩)
def aV(c:TT)(t u:TS):TS:=fun D σ H=>c σ H fun b H1=>if b=true then t D σ H1 else u D σ H1
theorem aM{c:Expr}{a b:List Stmt}{tc:TT}(hc:PT X c tc)(ha:PSs X a t)(hb:PSs X b u):PS X (.If c a b pos) (aV tc t u):=by
 intro pins s σ H D I h
 refine wpAny_If (bh (hc pins s σ H _ I h) fun d s1 ⟨H1,I1,q1⟩=>?_)
 cases d with
 | true=>exact ha pins s1 σ H1 D I1 q1
 | false=>exact hb pins s1 σ H1 D I1 q1
end
abbrev TG:=V→St→Hp→(St→Hp→Prop)→Prop
abbrev rE:=List V→St→Hp→(St→Hp→Prop)→Prop
def PG(X:Cx)(target:Expr)(t:TG):Prop:=
 ∀ (pins:List (Addr×Obj)) (s:Shared) (σ:St) (H:Hp) (v:V) (u:Value) (Q:St→Hp→Prop),Inv X pins σ H s→RelV v u→t v σ H Q→
  wpAny (model X.prog X.w) X.A (assign target X.env u) (fun _ s'=>∃ σ' H',Inv X pins σ' H' s'∧Q σ' H') X.xe s
def AF(X:Cx)(ts:List Expr)(t:rE):Prop:=
 ∀ (pins:List (Addr×Obj)) (s:Shared) (σ:St) (H:Hp) (vs:List V) (us:List Value) (Q:St→Hp→Prop),Inv X pins σ H s→Vals vs us→t vs σ H Q→
  wpAny (model X.prog X.w) X.A (assignInOrder ((assignEach ts X.env).map (·.2)) us) (fun _ s'=>∃ σ' H',Inv X pins σ' H' s'∧Q σ' H') X.xe s
abbrev xB:=V→V→V→Hp→(Hp→Prop)→Prop
def Cg(X:Cx)(t:xB):Prop:=
 ∀ (pins:List (Addr×Obj)) (s:Shared) (σ:St) (H:Hp) (o i v:V) (ov iv u:Value) (Q:Hp→Prop),Inv X pins σ H s→RelV o ov→RelV i iv→RelV v u→t o i v H Q→
  wpAny (model X.prog X.w) X.A (setItem ov iv u) (fun _ s'=>∃ H',Inv X pins σ H' s'∧Q H') X.xe s
abbrev At:=V→V→Hp→VK→Prop
def IH(X:Cx)(op:Operator)(t:At):Prop:=
 ∀ (pins:List (Addr×Obj)) (s:Shared) (σ:St) (H:Hp) (x y:V) (v u:Value) (Q:VK),Inv X pins σ H s→RelV x v→RelV y u→t x y H Q→
  wpAny (model X.prog X.w) X.A (inplaceOp op v u) (EP X pins σ Q) X.xe s
section
variable {X:Cx}{pos:Pos}
def az(i:Nat):TG:=fun v σ H Q=>Q (σ.set i (some v)) H
theorem bm{i:Nat}{x:Str}(hN:X.N.Nodup)(hi:X.N[i]?=some x)(hx:xW X.env.scope x)(hf:X.fn x=true∨X.env.scope.names.lookup x=some .local:=by first | exact .inl rfl | exact .inr rfl | assumption):PG X (.Name x pos) (az i):=by
 intro pins s σ H v u Q I r h
 exact wpAny_assign_Name (oM I hN hi hx r (fun s' I'=>⟨_,H,I',h⟩) hf)
def rO:rE:=fun vs σ H Q=>vs=[]∧Q σ H
def ej(t:TG)(u:rE):rE:=fun vs σ H Q=>∃ v r,vs=v::r∧t v σ H fun σ' H'=>u r σ' H' Q
theorem qk:AF X [] rO:=by
 intro pins s σ H vs us Q I r h
 obtain ⟨e,h⟩:=h
 subst e
 cases r
 exact assignInOrder_nil ⟨σ,H,I,h⟩
theorem dD{e:Expr}{es:List Expr}{t:TG}{u:rE}(h1:PG X e t)(h2:AF X es u)
  (hs:(assignEach (e::es) X.env).map (·.2)=assign e X.env::(assignEach es X.env).map (·.2):=by rfl):AF X (e::es) (ej t u):=by
 intro pins s σ H vs us Q I r h
 obtain ⟨v,vr,e1,h⟩:=h
 subst e1
 cases r with
 | cons r rr=>
  rw [hs]
  refine assignInOrder_cons (bh (h1 pins s σ H _ _ _ I r h) fun _ s1 ⟨σ1,H1,I1,q1⟩=>?_)
  exact h2 pins s1 σ1 H1 _ _ Q I1 rr q1
def sZ(K:PySem.W.Frag)(n:Nat)(t:rE):TG:=fun v σ H Q=>∃ a xs,v=.ref a∧fD K H a xs∧xs.length=n∧t xs σ H Q
theorem tO{es:List Expr}{k:Nat}{t:rE}{n:Nat}(hc:X.calm=true)(h:AF X es t)
  (hn:(assignEach es X.env).length=n:=by rfl)(hst:(assignEach es X.env).findIdx? (·.1)=none:=by rfl):PG X (.Tuple es k pos) (sZ X.K n t):=by
 intro pins s σ H v u Q I r hw
 obtain ⟨a,xs,e1,hq,hl,hw⟩:=hw
 subst e1
 cases r
 obtain ⟨its,rv,ht,hz⟩:=I.tuple hq
 refine assign_Tuple_tuple (I.ok.hd hc) ht (by simp [hn,← hl,rv.length]) hst fun h' hx=>?_
 have I1:Inv X pins σ H { s with heap:=h' }:=I.kept (t':=s.toks) fun b o e=>hx b o (Nat.ne_of_lt (Heap.lt_size e)) e
 exact h pins _ σ H xs _ Q I1 (by simpa using rv) hw
def on(to ti:TE)(t:xB):TG:=fun v σ H Q=>to σ H fun o H1=>ti σ H1 fun i H2=>t o i v H2 fun H3=>Q σ H3
theorem nE{o i:Expr}{to ti:TE}{t:xB}(ho:PE X o to)(hi:PE X i ti)(hs:Cg X t)
  (ha:∀ v,assign (.Subscript o i pos) X.env v=(do
   let ov ← holding [v] (eval o X.env)
   let iv ← holding [v,ov] (eval i X.env)
   standAt pos
   holding [v,ov,iv] (setItem ov iv v)
   release [v,ov,iv] []):=by intro _;rfl):PG X (.Subscript o i pos) (on to ti t):=by
 intro pins s σ H v u Q I r h
 rw [ha]
 refine wpAny_bind (wpAny_holding (bh (ho pins s σ H _ I h) fun ov s1 ⟨x,H1,I1,r1,q1⟩=>?_))
 refine wpAny_bind (wpAny_holding (bh (hi pins s1 σ H1 _ I1 q1) fun iv s2 ⟨y,H2,I2,r2,q2⟩=>?_))
 refine wpAny_bind (wpAny_standAt (wpAny_bind (wpAny_holding (bh (hs pins s2 σ H2 x y v ov iv u _ I2 r1 r2 r q2) fun _ s3 ⟨H3,I3,q3⟩=>?_))))
 exact wpAny_release ⟨σ,H3,I3,q3⟩
def a_(te:TE)(g:TG):TS:=fun D σ H=>te σ H fun x H1=>g x σ H1 D.nx
theorem iM{tg e:Expr}{te:TE}{g:TG}(he:PE X e te)(hg:PG X tg g)(hs:swapsWithSole [tg] e pos.line X.env=pure false:=by rfl)(hw:swappedStores [tg] e X.env=pure none:=by rfl)
  (h1:(assignEach [tg] X.env).map (·.2)=[assign tg X.env]:=by rfl):PS X (.Assign [tg] e pos) (a_ te g):=by
 intro pins s σ H D I h
 refine wpAny_Assign_stores (bh (he pins s σ H _ I h) fun v s1 ⟨x,H1,I1,r1,q1⟩=>?_) hs hw
 rw [h1]
 exact bh (hg pins s1 σ H1 x v _ I1 r1 q1) fun _ s2 q=>q
theorem aO{i:Nat}{x:Str}{e:Expr}{te:TE}{pos':Pos}(hN:X.N.Nodup)(hi:X.N[i]?=some x)(hx:xW X.env.scope x)(he:PE X e te)(hs:swapsWith e (some (.Name x pos')) pos.line X.env=pure false:=by rfl)(hf:X.fn x=true∨X.env.scope.names.lookup x=some .local:=by first | exact .inl rfl | exact .inr rfl | assumption) :
  PS X (.Assign [.Name x pos'] e pos) (a_ te (az i)):=by
 intro pins s σ H D I h
 refine wpAny_Assign_Name (bh (he pins s σ H _ I h) fun v s1 ⟨y,H1,I1,r1,q1⟩=>?_) hs
 exact oM I1 hN hi hx r1 (fun s2 I2=>⟨_,H1,I2,q1⟩) hf
def DF(i:Nat)(te:TE)(ti:At):TS:=fun D σ H=>∃ x,σ[i]?=some (some x)∧te σ H fun y H1=>ti x y H1 fun z H2=>D.nx (σ.set i (some z)) H2
theorem DL{i:Nat}{x:Str}{e:Expr}{te:TE}{op:Operator}{ti:At}{pos':Pos}(hN:X.N.Nodup)(hi:X.N[i]?=some x)(hx:xW X.env.scope x)(he:PE X e te)(ho:IH X op ti)(hf:X.fn x=true∨X.env.scope.names.lookup x=some .local:=by first | exact .inl rfl | exact .inr rfl | assumption) :
  PS X (.AugAssign (.Name x pos') op e pos) (DF i te ti):=by
 intro pins s σ H D I h
 obtain ⟨v,e1,h⟩:=h
 obtain ⟨m,hn,hl⟩:=I.loc
 have vis:y8 X.env.scope x:=by rcases hx with k | k;exact .inl k;exact .inr (.inl k)
 obtain ⟨u,r,l⟩:=hl i x v hi e1 vis
 refine wpAny_AugAssign_Name ?_
 have go:wpAny (model X.prog X.w) X.A (eval e X.env) (fun w s₂=>wpAny (model X.prog X.w) X.A (inplaceOp op u w) (fun r s₃=>wpAny (model X.prog X.w) X.A (storeName X.env x r) (fun _=>SP X pins D .next) X.xe s₃) X.xe s₂) X.xe s:=by
  refine bh (he pins s σ H _ I h) fun w s1 ⟨y,H1,I1,r1,q1⟩=>?_
  refine bh (ho pins s1 σ H1 v y u w _ I1 r r1 q1) fun z s2 ⟨zv,H2,I2,r2,q2⟩=>?_
  exact oM I2 hN hi hx r2 (fun s3 I3=>⟨_,H2,I3,q2⟩) hf
 rcases l with ⟨hk,hm⟩ | ⟨hk,c,hc,hcell⟩
 ·exact wpAny_loadName_local I.ok.kind hk hn hm go
 ·rcases hk with hk | hk
  ·exact wpAny_loadName_cell I.ok.kind hk hc hcell go
  ·rcases hx with k | k
   ·have:X.env.scope.names.lookup x=some .free:=hk
    rw [k] at this;cases this
   ·have:X.env.scope.names.lookup x=some .free:=hk
    rw [k] at this;cases this
def IF(f:Int→Int→Int):At:=fun x y H Q=>∃ i j,x=.int i∧y=.int j∧Q (.int (f i j)) H
theorem Cd:IH X .Add (IF fun i j=>i+j):=by
 intro pins s σ H x y v u Q I r1 r2 h
 obtain ⟨i,j,e1,e2,q⟩:=h
 subst e1;subst e2
 obtain ⟨t,rfl⟩:=r1
 obtain ⟨t',rfl⟩:=r2
 exact iadd_int ⟨.int _,H,I.tok _,⟨_,rfl⟩,q⟩
end
section
variable {X:Cx}{pos:Pos}
def pI(c:TT)(tb:TS):TS:=fun D σ H=>∃ W:Nat→St→Hp→Prop,(∃ m,W m σ H)∧∀ m σ H,W m σ H→
 c σ H fun b H1=>if b=true then ∃ N:St→Hp→Prop,(∀ σ' H',N σ' H'→∃ m',m'<m∧W m' σ' H')∧tb { D with nx:=N,ct:=N,bk:=D.nx } σ H1 else D.nx σ H1
theorem oK{c:Expr}{body:List Stmt}{tc:TT}{tb:TS}(hp:PassesOwn (model X.prog X.w) X.A X.env X.xe)(hc:PT X c tc)(hb:PSs X body tb):PS X (.While c body [] pos) (pI tc tb):=by
 intro pins s σ H D I h
 obtain ⟨W,⟨m0,w0⟩,turn⟩:=h
 refine wpAny_While (codeAny_whileLoop (fun n s'=>∃ σ' H',Inv X pins σ' H' s'∧W n σ' H') ?_ m0 ⟨σ,H,I,w0⟩)
 rintro n s1 ⟨σ1,H1,I1,w1⟩
 refine wpAny_passesOwn hp (bh (hc pins s1 σ1 H1 _ I1 (turn n σ1 H1 w1)) fun b s2 ⟨H2,I2,q2⟩=>?_)
 cases b with
 | true=>
  obtain ⟨N,hN,q2⟩:=q2
  rw [if_pos rfl]
  refine wpAny_passesOwn hp (bh (hb pins s2 σ1 H2 _ I2 q2) fun f s3 q3=>?_)
  cases f with
  | next=>
   obtain ⟨σ3,H3,I3,n3⟩:=q3
   obtain ⟨m',hm,w3⟩:=hN σ3 H3 n3
   exact ⟨m',hm,σ3,H3,I3,w3⟩
  | cont=>
   obtain ⟨σ3,H3,I3,n3⟩:=q3
   obtain ⟨m',hm,w3⟩:=hN σ3 H3 n3
   exact ⟨m',hm,σ3,H3,I3,w3⟩
  | brk=>exact q3
  | ret v=>exact q3
 | false=>
  rw [if_neg lau]
  exact wpAny_execs_nil ⟨σ1,H2,I2,q2⟩
end
structure It where
 go:Nat→Hp→Prop
 yld:Nat→Hp→V→Hp→Prop
 stop:Nat→Hp→Prop
def jj(X:Cx)(pins:List (Addr×Obj))(H:Hp)(b:Addr):Prop:=
 H b=none∧b≠X.env.locals∧b∉X.fs∧(b∈X.ex∨X.s₀.heap.objs.size≤b)∧(∀ x c,X.env.cells.lookup x=some c→c≠b)∧∀ p∈X.pn++pins,p.1≠b
theorem Inv.fpOk{X:Cx}{pins:List (Addr×Obj)}{σ:St}{H H':Hp}{s:Shared}{b:Addr}(I:Inv X pins σ H s)(hb:s.heap.objs.size≤b)(hn:H' b=none):jj X pins H' b:=by
 refine ⟨hn,Nat.ne_of_gt (lav I.lt hb),I.nofs hb,.inr (las I.sz hb),fun x c e z=>?_,fun p hp z=>?_⟩
 ·obtain ⟨v,q⟩:=I.cell x c e
  exact absurd (lav q.lt (by rw [z];exact hb)) (Nat.lt_irrefl _)
 ·exact absurd (lav (Heap.lt_size (I.pin p hp).1) (by rw [z];exact hb)) (Nat.lt_irrefl _)
structure r8(P:Program)(w:World)(K:PySem.W.Frag)(tg:Expr)(J:It)(fp:List Addr)(it:Addr)(tn:Nat→Heap→Prop):Prop where
 mem:it∈fp
 obj:∀ i h,tn i h→∀ b∈fp,∃ o,h.get? b=some o∧∀ v,o.data≠.cell v
 keep:∀ i h h',tn i h→(∀ b∈fp,∀ o,h.get? b=some o→h'.get? b=some o)→tn i h'
 item:∀ (X:Cx),X.prog=P→X.w=w→X.K=K→X.calm=true→∀ (i:Nat) (pins:List (Addr×Obj)) (s:Shared) (σ:St) (H:Hp) (E:Value→Shared→Prop),Inv X pins σ H s→(∀ b∈fp,jj X pins H b)→tn i s.heap→J.go i H→
  wpAny (model P w) X.A (pyNext (.ref it)) (fun r s1=>∃ u,r=some u∧
   wpAny (model P w) X.A (letOwnedTupleGo tg (.ref it) u) (fun _ s2=>∃ x H',Inv X pins σ H' s2∧RelV x u∧J.yld i H x H'∧tn (i+1) s2.heap∧∀ b∈fp,H' b=none) E s1) E s
 done:∀ (X:Cx),X.prog=P→X.w=w→X.K=K→X.calm=true→∀ (i:Nat) (pins:List (Addr×Obj)) (s:Shared) (σ:St) (H:Hp) (E:Value→Shared→Prop),Inv X pins σ H s→(∀ b∈fp,jj X pins H b)→tn i s.heap→J.stop i H→
  wpAny (model P w) X.A (pyNext (.ref it)) (fun r s1=>r=none∧Inv X pins σ H s1) E s
 self:∀ (A:Around) (i:Nat) (s:Shared) (Q:Value→Shared→Prop) (E:Value→Shared→Prop),tn i s.heap→Q (.ref it) s→wpAny (model P w) A (pyIter (.ref it)) Q E s
abbrev TI:=St→Hp→(It→Hp→Prop)→Prop
def IB(X:Cx)(pins:List (Addr×Obj))(σ:St)(tg:Expr)(R:It→Hp→Prop)(itv:Value)(s2:Shared):Prop:=
 ∃ (it:Addr) (fp:List Addr) (tn:Nat→Heap→Prop) (J:It) (H':Hp),itv=.ref it∧Inv X pins σ H' s2∧r8 X.prog X.w X.K tg J fp it tn∧tn 0 s2.heap∧(∀ b∈fp,jj X pins H' b)∧R J H'
def PI(X:Cx)(tg iter:Expr)(wi:TI):Prop:=
 ∀ (pins:List (Addr×Obj)) (s:Shared) (σ:St) (H:Hp) (R:It→Hp→Prop),Inv X pins σ H s→wi σ H R→
  wpAny (model X.prog X.w) X.A (eval iter X.env) (fun v s1=>wpAny (model X.prog X.w) X.A (pyIter v) (IB X pins σ tg R) X.xe s1) X.xe s
theorem wK{M:Model}{A:Around}{E:Value→Shared→Prop}{s:Shared}{tg:Expr}{it:Addr}{u:Value}{o:Obj}{n:String}{vs:Array Value}{Q:Unit→Shared→Prop}(ho:s.heap.get? it=some o)(hc:o.cls=.type n)(hd:o.data=.fields vs)
    (hn:["enumerate","zip","dict_itemiterator","dict_reverseitemiterator","odict_iterator","itertools.zip_longest","itertools.pairwise"].contains n=false)(hQ:Q () s):wpAny M A (letOwnedTupleGo tg (.ref it) u) Q E s:=by
  unfold letOwnedTupleGo
  cases tg <;> first
    | exact wpAny_pure hQ
    | (cases u <;> first
        | exact wpAny_pure hQ
        | (refine wpAny_bind (wpAny_load ho ?_)
           rw [hc,hd]
           show wpAny M A (if (["enumerate","zip","dict_itemiterator","dict_reverseitemiterator","odict_iterator","itertools.zip_longest","itertools.pairwise"].contains n&&vs[0]?==some (rawInt _))=true then _ else _) Q E s
           rw [if_neg (by intro h;rw [hn,Bool.false_and] at h;cases h)]
           exact wpAny_pure hQ))
def tG(K:PySem.W.Frag)(a:Addr):It:=
 ⟨fun i H=>∃ xs x,SqL K H a xs∧xs[i]?=some x,fun i H x H'=>H'=H∧∀ xs,SqL K H a xs→xs[i]?=some x,fun i H=>∃ xs,SqL K H a xs∧xs.length≤i⟩
def yj(K:PySem.W.Frag)(a:Addr):It:=
 ⟨fun i H=>∃ xs x,fD K H a xs∧xs[i]?=some x,fun i H x H'=>H'=H∧∀ xs,fD K H a xs→xs[i]?=some x,fun i H=>∃ xs,fD K H a xs∧xs.length≤i⟩
def pL(lo:Int)(n:Nat):It:=⟨fun i _=>i<n,fun i H x H'=>H'=H∧x=.int (lo+i),fun i _=>n≤i⟩
theorem yU{P:Program}{w:World}{K:PySem.W.Frag}{tg:Expr}(a it:Addr):r8 P w K tg (tG K a) [it] it (fun i h=>h.IsListIter it a i) where
 mem:=by simp
 obj:=fun i h st b hb=>by
  have e:b=it:=by simpa using hb
  subst e
  obtain ⟨o,e,c,d⟩:=st
  exact ⟨o,e,fun v z=>by rw [d] at z;cases z⟩
 keep:=fun i h h' st k=>st.at fun o e=>k it (by simp) o e
 item:=by
  intro X hP hw hK hc i pins s σ H E I hf st hg
  subst hP hw hK
  obtain ⟨xs,x,hq,hx⟩:=hg
  obtain ⟨its,rv,p,hz⟩:=I.list hq
  obtain ⟨u,hu,ru⟩:=rv.get hx
  obtain ⟨f0,f1,f2,f3,f4,f5⟩:=hf it (by simp)
  refine wpAny_pyNext_list_item st p.isList (x:=u) (by simpa using hu) fun h' st' sb=>?_
  have I1:Inv X pins σ H { s with heap:=h' }:=I.turned (t':=s.toks) (fun b o hb e=>(sb.2 b hb).trans e) f0 f1 f3 f4 f5
  obtain ⟨o,e,c,d⟩:=id st'
  exact ⟨u,rfl,wK (s:={ s with heap:=h' }) e c d (by decide) ⟨x,H,I1,ru,⟨rfl,fun ys hy=>by rw [I.list_inj hy hq];exact hx⟩,st',fun b hb=>(hf b hb).1⟩⟩
 done:=by
  intro X hP hw hK hc i pins s σ H E I hf st hg
  subst hP hw hK
  obtain ⟨xs,hq,hx⟩:=hg
  obtain ⟨its,rv,p,hz⟩:=I.list hq
  obtain ⟨f0,f1,f2,f3,f4,f5⟩:=hf it (by simp)
  have hl:=rv.length
  exact wpAny_pyNext_list_end (I.ok.hd hc) st p.isList (by simp;omega) fun h' eb=>⟨rfl,I.turned (t':=s.toks) (fun b o hb e=>eb b o hb e) f0 f1 f3 f4 f5⟩
 self:=fun _ _ _ _ _ st h=>wpAny_pyIter_listiter st h
theorem wA{P:Program}{w:World}{K:PySem.W.Frag}{tg:Expr}(a it:Addr):r8 P w K tg (yj K a) [it] it (fun i h=>h.IsTupleIter it a i) where
 mem:=by simp
 obj:=fun i h st b hb=>by
  have e:b=it:=by simpa using hb
  subst e
  obtain ⟨o,e,c,d⟩:=st
  exact ⟨o,e,fun v z=>by rw [d] at z;cases z⟩
 keep:=fun i h h' st k=>st.at fun o e=>k it (by simp) o e
 item:=by
  intro X hP hw hK hc i pins s σ H E I hf st hg
  subst hP hw hK
  obtain ⟨xs,x,hq,hx⟩:=hg
  obtain ⟨its,rv,p,hz⟩:=I.tuple hq
  obtain ⟨u,hu,ru⟩:=rv.get hx
  obtain ⟨f0,f1,f2,f3,f4,f5⟩:=hf it (by simp)
  refine wpAny_pyNext_tuple_item st (show s.heap.IsTuple a its.toArray from p) (x:=u) (by simpa using hu) fun h' st' sb=>?_
  have I1:Inv X pins σ H { s with heap:=h' }:=I.turned (t':=s.toks) (fun b o hb e=>(sb.2 b hb).trans e) f0 f1 f3 f4 f5
  obtain ⟨o,e,c,d⟩:=id st'
  exact ⟨u,rfl,wK (s:={ s with heap:=h' }) e c d (by decide) ⟨x,H,I1,ru,⟨rfl,fun ys hy=>by rw [I.tuple_inj hy hq];exact hx⟩,st',fun b hb=>(hf b hb).1⟩⟩
 done:=by
  intro X hP hw hK hc i pins s σ H E I hf st hg
  subst hP hw hK
  obtain ⟨xs,hq,hx⟩:=hg
  obtain ⟨its,rv,p,hz⟩:=I.tuple hq
  obtain ⟨f0,f1,f2,f3,f4,f5⟩:=hf it (by simp)
  have hl:=rv.length
  exact wpAny_pyNext_tuple_end (I.ok.hd hc) st (show s.heap.IsTuple a its.toArray from p) (by simp;omega) fun h' eb=>⟨rfl,I.turned (t':=s.toks) (fun b o hb e=>eb b o hb e) f0 f1 f3 f4 f5⟩
 self:=fun _ _ _ _ _ st h=>wpAny_pyIter_tupleiter st h
theorem wa{P:Program}{w:World}{K:PySem.W.Frag}{tg:Expr}(it:Addr)(lo:Int)(n:Nat):r8 P w K tg (pL lo n) [it] it (fun i h=>IsRangeIter h it (lo+(i:Nat)*1) ((n:Int) - (i:Nat)) 1) where
 mem:=by simp
 obj:=fun i h st b hb=>by
  have e:b=it:=by simpa using hb
  subst e
  exact ⟨_,st,fun v z=>by
   have z':Data.fields _=Data.cell v:=z
   cases z'⟩
 keep:=fun i h h' st k=>k it (by simp) _ st
 item:=by
  intro X hP hw hK hc i pins s σ H E I hf st hg
  subst hP hw hK
  obtain ⟨f0,f1,f2,f3,f4,f5⟩:=hf it (by simp)
  have W:=Walks.range (prog:=X.prog) (w:=X.w) (I.ok.hd hc) it lo 1 n
  refine W.item i s _ _ hg st fun v h' tk hv st' kk=>?_
  obtain ⟨t,rfl⟩:=hv
  have I1:Inv X pins σ H { s with heap:=h',toks:=tk }:=I.turned (fun b o hb e=>kk b o (by simpa using hb) e) f0 f1 f3 f4 f5
  refine ⟨_,rfl,wK (s:={ s with heap:=h',toks:=tk }) (n:="range_iterator") st' rfl rfl (by decide) ⟨.int (lo+i),H,I1,⟨t,?_⟩,⟨rfl,rfl⟩,st',fun b hb=>(hf b hb).1⟩⟩
  rw [Int.mul_one]
 done:=by
  intro X hP hw hK hc i pins s σ H E I hf st hg
  subst hP hw hK
  obtain ⟨f0,f1,f2,f3,f4,f5⟩:=hf it (by simp)
  exact wpAny_pyNext_range_end (I.ok.hd hc) st (by have:n≤i:=hg;omega) fun h' eb=>⟨rfl,I.turned (t':=s.toks) (fun b o hb e=>eb b o hb e) f0 f1 f3 f4 f5⟩
 self:=fun _ _ _ _ _ st h=>wpAny_pyIter_rangeiter st h
end L2
namespace L2
open PySem PySem.Spec PyProof.Rows
section
variable {X:Cx}{tg:Expr}
def dy(K:PySem.W.Frag)(tl:TE):TI:=fun σ H R=>tl σ H fun x H1=>∃ a,x=.ref a∧(∃ xs,SqL K H1 a xs)∧R (tG K a) H1
def DJ(K:PySem.W.Frag)(tl:TE):TI:=fun σ H R=>tl σ H fun x H1=>∃ a,x=.ref a∧(∃ xs,fD K H1 a xs)∧R (yj K a) H1
theorem cV{l:Expr}{tl:TE}(hl:PE X l tl):PI X tg l (dy X.K tl):=by
 intro pins s σ H R I h
 refine bh (hl pins s σ H _ I h) fun v s1 ⟨x,H1,I1,r1,q1⟩=>?_
 obtain ⟨a,e,⟨xs,hq⟩,q⟩:=q1
 subst e
 cases r1
 obtain ⟨its,rv,p,hz⟩:=I1.list hq
 refine wpAny_pyIter_list p.isList ?_
 refine ⟨s1.heap.objs.size,[s1.heap.objs.size],_,_,H1,rfl,I1.kept (t':=s1.toks) fun b o e=>Heap.get?_push_of_some _ e,yU a _,⟨_,Heap.get?_push_size _ rfl,rfl,rfl⟩,fun b hb=>?_,q⟩
 have e:b=s1.heap.objs.size:=by simpa using hb
 subst e
 exact I1.fpOk (lat _) (I1.hok.fresh (lat _))
theorem C4{l:Expr}{tl:TE}(hl:PE X l tl):PI X tg l (DJ X.K tl):=by
 intro pins s σ H R I h
 refine bh (hl pins s σ H _ I h) fun v s1 ⟨x,H1,I1,r1,q1⟩=>?_
 obtain ⟨a,e,⟨xs,hq⟩,q⟩:=q1
 subst e
 cases r1
 obtain ⟨its,rv,p,hz⟩:=I1.tuple hq
 refine wpAny_pyIter_tuple (show s1.heap.IsTuple a its.toArray from p) ?_
 refine ⟨s1.heap.objs.size,[s1.heap.objs.size],_,_,H1,rfl,I1.kept (t':=s1.toks) fun b o e=>Heap.get?_push_of_some _ e,wA a _,⟨_,Heap.get?_push_size _ rfl,rfl,rfl⟩,fun b hb=>?_,q⟩
 have e:b=s1.heap.objs.size:=by simpa using hb
 subst e
 exact I1.fpOk (lat _) (I1.hok.fresh (lat _))
theorem zq{pins:List (Addr×Obj)}{σ:St}{H:Hp}{s:Shared}{R:It→Hp→Prop}{E:Value→Shared→Prop}{lo hi:Int}{t u v:Tok}{tk:Nat}(I:Inv X pins σ H s)(h1:-(2 ^ 62)≤lo)(h2:lo<2 ^ 62)(h3:-(2 ^ 62)≤hi)(h4:hi<2 ^ 62)
  (q:R (pL lo (hi - lo).toNat) H):wpAny (model X.prog X.w) X.A (pyIter (.ref s.heap.objs.size)) (IB X pins σ tg R) E { s with heap:=s.heap.push { cls:=.type "range",data:=.fields #[.int lo t,.int hi u,.int 1 v] },toks:=tk }:=by
 refine wpAny_pyIter_range (IsRange.new ..) (small_one h1 h2 h3 h4) ?_
 have I1:Inv X pins σ H { s with heap:=s.heap.push { cls:=.type "range",data:=.fields #[.int lo t,.int hi u,.int 1 v] },toks:=tk }:=I.kept fun b o e=>Heap.get?_push_of_some _ e
 refine ⟨(s.heap.push { cls:=.type "range",data:=.fields #[.int lo t,.int hi u,.int 1 v] }).objs.size,[(s.heap.push { cls:=.type "range",data:=.fields #[.int lo t,.int hi u,.int 1 v] }).objs.size],_,_,H,rfl,
  I1.kept (t':=tk) fun b o e=>Heap.get?_push_of_some _ e,wa _ lo (hi - lo).toNat,?_,fun b hb=>?_,q⟩
 ·have e1:lo+((0:Nat):Int)*1=lo:=by simp
  have e2:(((hi - lo).toNat:Nat):Int) - ((0:Nat):Int)=Builtin.Range.rangeSize lo hi 1:=by rw [rangeSize_one];split <;> omega
  show IsRangeIter _ _ (lo+((0:Nat):Int)*1) ((((hi - lo).toNat:Nat):Int) - ((0:Nat):Int)) 1
  rw [e1,e2]
  exact Heap.get?_push_size _ rfl
 ·have e:b=(s.heap.push { cls:=.type "range",data:=.fields #[.int lo t,.int hi u,.int 1 v] }).objs.size:=by simpa using hb
  subst e
  exact I1.fpOk (lat _) (I1.hok.fresh (lat _))
def fk(ta:TA):TI:=fun σ H R=>ta σ H fun vs H1=>∃ j:Int,vs=[.int j]∧-(2 ^ 62)≤j∧j<2 ^ 62∧R (pL 0 j.toNat) H1
theorem du{a:Expr}{ta:TA}{p pos:Pos}(hg:Gl X "range")(hm:X.mg "range"=none)(ha:PA X [a] ta)(hs:starEach [a] X.env=[(false,eval a X.env)]:=by rfl):PI X tg (.Call (.Name "range" p) [a] [] pos) (fk ta):=by
 intro pins s σ H R I h
 refine Call_ (oZ I hg hm boot_range (PyProof.Rows.callWith_type1 (bh (ha pos pins s σ H _ I h) fun us s1 ⟨vs,H1,I1,r1,q1⟩=>?_) hs rfl))
 obtain ⟨j,e,q1,q2,q⟩:=q1
 subst e
 cases r1 with
 | cons r rr=>
  cases rr
  obtain ⟨t,rfl⟩:=r
  exact call_range_1 (zq I1 (by omega) (by omega) q1 q2 (by simpa using q))
def fz(wi:TI)(g:TG)(tb:TS):TS:=fun D σ H=>wi σ H fun J H1=>∃ W:Nat→Nat→St→Hp→Prop,(∃ m,W 0 m σ H1)∧∀ i m σ H,W i m σ H→
 (J.stop i H∧D.nx σ H)∨(J.go i H∧∃ N:St→Hp→Prop,(∀ σ' H',N σ' H'→∃ m',m'<m∧W (i+1) m' σ' H')∧∀ x H',J.yld i H x H'→g x σ H' fun σ2 H2=>tb { D with nx:=N,ct:=N,bk:=D.nx } σ2 H2)
def mJ(fp:List Addr)(h:Heap):List (Addr×Obj):=fp.filterMap fun b=>(h.get? b).map fun o=>(b,o)
theorem i0{fp:List Addr}{h:Heap}{b:Addr}{o:Obj}(hb:b∈fp)(e:h.get? b=some o):(b,o)∈mJ fp h:=List.mem_filterMap.mpr ⟨b,hb,by rw [e];rfl⟩
theorem ym{fp:List Addr}{h:Heap}{p:Addr×Obj}(hp:p∈mJ fp h):p.1∈fp∧h.get? p.1=some p.2:=by
 obtain ⟨b,hb,e⟩:=List.mem_filterMap.mp hp
 cases q:h.get? b with
 | none=>rw [q] at e;cases e
 | some o=>
  rw [q] at e
  have e':(b,o)=p:=lan e
  subst e'
  exact ⟨hb,q⟩
theorem Inv.pinned{pins:List (Addr×Obj)}{σ:St}{H:Hp}{s:Shared}{fp:List Addr}(I:Inv X pins σ H s)(hf:∀ b∈fp,jj X pins H b)(ho:∀ b∈fp,∃ o,s.heap.get? b=some o∧∀ v,o.data≠.cell v):Inv X (pins++mJ fp s.heap) σ H s:=
 I.pins_of fun p hp=>(lap.mp hp).elim (fun z=>I.pin p (lak _ z)) fun z=>by
  obtain ⟨hb,e⟩:=ym z
  obtain ⟨f0,f1,f2,_⟩:=hf p.1 hb
  obtain ⟨o,e',d⟩:=ho p.1 hb
  rw [e] at e';cases e'
  exact ⟨e,f0,f1,f2,d⟩
theorem Inv.unpinned{pins pl:List (Addr×Obj)}{σ:St}{H:Hp}{s:Shared}(I:Inv X (pins++pl) σ H s):Inv X pins σ H s:=I.pins_of fun p hp=>I.pin p (lak _ (lal _ hp))
theorem ez{iter:Expr}{body:List Stmt}{wi:TI}{g:TG}{tb:TS}{pos:Pos}(hp:PassesOwn (model X.prog X.w) X.A X.env X.xe)(hc:X.calm=true)(hi:PI X tg iter wi)(hg:PG X tg g)(hb:PSs X body tb)
  (hs:∀ x,foldedSetIterable iter X.env x=pure x:=by intro _;rfl):PS X (.For tg iter body [] pos) (fz wi g tb):=by
 intro pins s σ H D I h
 refine wpAny_For (bh (hi pins s σ H _ I h) fun v s1 h1=>bh h1 fun itv s2 h2=>?_) hs
 obtain ⟨it,fp,tn,J,H2,e,I2,T,st2,f2,W,⟨m0,w0⟩,turn⟩:=h2
 subst e
 -- what stays true of the iterator's objects through the loop
 have stat:∀ {H':Hp},(∀ b∈fp,H' b=none)→∀ b∈fp,jj X pins H' b:=fun hn b hb=>⟨hn b hb,(f2 b hb).2⟩
 refine codeAny_forLoop_any (fun n s'=>∃ i σ' H',Inv X pins σ' H' s'∧tn i s'.heap∧(∀ b∈fp,H' b=none)∧W i n σ' H') ?_ m0 ⟨0,σ,H2,I2,st2,fun b hb=>(f2 b hb).1,w0⟩
 rintro n s3 ⟨i,σ3,H3,I3,st3,fr3,w3⟩
 rcases turn i n σ3 H3 w3 with ⟨stop,qn⟩ | ⟨go,N,hN,step⟩
 ·refine wpAny_passesOwn hp (bh (T.done X rfl rfl rfl hc i pins s3 σ3 H3 X.xe I3 (stat fr3) st3 stop) fun r s4 ⟨hr,I4⟩=>?_)
  subst hr
  exact wpAny_execs_nil ⟨σ3,H3,I4,qn⟩
 ·refine wpAny_passesOwn hp (bh (T.item X rfl rfl rfl hc i pins s3 σ3 H3 X.xe I3 (stat fr3) st3 go) fun r s4 ⟨u,hr,h4⟩=>?_)
  subst hr
  refine wpAny_passesOwn hp (bh h4 fun _ s5 ⟨x,H5,I5,r5,y5,st5,fr5⟩=>?_)
  have I5':=I5.pinned (stat fr5) (T.obj _ _ st5)
  refine wpAny_passesOwn hp (bh (hg _ s5 σ3 H5 x u _ I5' r5 (step x H5 y5)) fun _ s6 ⟨σ6,H6,I6,q6⟩=>?_)
  refine wpAny_passesOwn hp (bh (hb _ s6 σ6 H6 _ I6 q6) fun f s7 q7=>?_)
  have again:∀ {σ7:St} {H7:Hp},Inv X (pins++mJ fp s5.heap) σ7 H7 s7→N σ7 H7→∃ m,m<n∧∃ i σ' H',Inv X pins σ' H' s7∧tn i s7.heap∧(∀ b∈fp,H' b=none)∧W i m σ' H':=fun {σ7 H7} I7 n7=>by
   obtain ⟨m',hm,w7⟩:=hN σ7 H7 n7
   refine ⟨m',hm,i+1,σ7,H7,I7.unpinned,T.keep _ _ _ st5 fun b hb o e=>(I7.pin (b,o) (lak _ (lak _ (i0 hb e)))).1,fun b hb=>?_,w7⟩
   obtain ⟨o,e,d⟩:=T.obj _ _ st5 b hb
   exact (I7.pin (b,o) (lak _ (lak _ (i0 hb e)))).2.1
  cases f with
  | next=>obtain ⟨σ7,H7,I7,n7⟩:=q7;exact again I7 n7
  | cont=>obtain ⟨σ7,H7,I7,n7⟩:=q7;exact again I7 n7
  | brk=>obtain ⟨σ7,H7,I7,q7⟩:=q7;exact ⟨σ7,H7,I7.unpinned,q7⟩
  | ret v=>obtain ⟨x7,σ7,H7,I7,r7,q7⟩:=q7;exact ⟨x7,σ7,H7,I7.unpinned,r7,q7⟩
end
theorem fX{K:PySem.W.Frag}{a:Addr}{xs:List V}{g:TG}{tb:TS}{D:iW}{σ:St}{H:Hp}(Pv:Nat→St→Hp→Prop)(h0:Pv 0 σ H)(hl:∀ i σ H,i≤xs.length→Pv i σ H→SqL K H a xs)
  (hs:∀ i x σ H,xs[i]?=some x→Pv i σ H→g x σ H fun σ2 H2=>tb { D with nx:=Pv (i+1),ct:=Pv (i+1),bk:=D.nx } σ2 H2)(hd:∀ σ H,Pv xs.length σ H→D.nx σ H) :
  ∃ W:Nat→Nat→St→Hp→Prop,(∃ m,W 0 m σ H)∧∀ i m σ H,W i m σ H→
   ((tG K a).stop i H∧D.nx σ H)∨((tG K a).go i H∧∃ N:St→Hp→Prop,(∀ σ' H',N σ' H'→∃ m',m'<m∧W (i+1) m' σ' H')∧∀ x H',(tG K a).yld i H x H'→g x σ H' fun σ2 H2=>tb { D with nx:=N,ct:=N,bk:=D.nx } σ2 H2):=by
 refine ⟨fun i m σ H=>m=xs.length - i∧i≤xs.length∧Pv i σ H,⟨xs.length,by simp,laI _,h0⟩,?_⟩
 rintro i m σ H ⟨rfl,hi,p⟩
 have q:=hl i σ H hi p
 by_cases hlt:i<xs.length
 ·refine .inr ⟨⟨xs,xs[i],q,by simp [hlt]⟩,Pv (i+1),fun σ' H' p'=>⟨xs.length - (i+1),by omega,rfl,hlt,p'⟩,fun x H' y=>?_⟩
  obtain ⟨e,y⟩:=y
  subst e
  exact hs i x σ _ (y xs q) p
 ·have e:i=xs.length:=by omega
  subst e
  exact .inl ⟨⟨xs,q,lat _⟩,hd σ H p⟩
theorem Bm{K:PySem.W.Frag}{a:Addr}{xs:List V}{g:TG}{tb:TS}{D:iW}{σ:St}{H:Hp}(Pv:Nat→St→Hp→Prop)(h0:Pv 0 σ H)(hl:∀ i σ H,i≤xs.length→Pv i σ H→fD K H a xs)
  (hs:∀ i x σ H,xs[i]?=some x→Pv i σ H→g x σ H fun σ2 H2=>tb { D with nx:=Pv (i+1),ct:=Pv (i+1),bk:=D.nx } σ2 H2)(hd:∀ σ H,Pv xs.length σ H→D.nx σ H) :
  ∃ W:Nat→Nat→St→Hp→Prop,(∃ m,W 0 m σ H)∧∀ i m σ H,W i m σ H→
   ((yj K a).stop i H∧D.nx σ H)∨((yj K a).go i H∧∃ N:St→Hp→Prop,(∀ σ' H',N σ' H'→∃ m',m'<m∧W (i+1) m' σ' H')∧∀ x H',(yj K a).yld i H x H'→g x σ H' fun σ2 H2=>tb { D with nx:=N,ct:=N,bk:=D.nx } σ2 H2):=by
 refine ⟨fun i m σ H=>m=xs.length - i∧i≤xs.length∧Pv i σ H,⟨xs.length,by simp,laI _,h0⟩,?_⟩
 rintro i m σ H ⟨rfl,hi,p⟩
 have q:=hl i σ H hi p
 by_cases hlt:i<xs.length
 ·refine .inr ⟨⟨xs,xs[i],q,by simp [hlt]⟩,Pv (i+1),fun σ' H' p'=>⟨xs.length - (i+1),by omega,rfl,hlt,p'⟩,fun x H' y=>?_⟩
  obtain ⟨e,y⟩:=y
  subst e
  exact hs i x σ _ (y xs q) p
 ·have e:i=xs.length:=by omega
  subst e
  exact .inl ⟨⟨xs,q,lat _⟩,hd σ H p⟩
theorem fe{lo:Int}{n:Nat}{g:TG}{tb:TS}{D:iW}{σ:St}{H:Hp}(Pv:Nat→St→Hp→Prop)(h0:Pv 0 σ H)
  (hs:∀ i σ H,i<n→Pv i σ H→g (.int (lo+i)) σ H fun σ2 H2=>tb { D with nx:=Pv (i+1),ct:=Pv (i+1),bk:=D.nx } σ2 H2)(hd:∀ σ H,Pv n σ H→D.nx σ H) :
  ∃ W:Nat→Nat→St→Hp→Prop,(∃ m,W 0 m σ H)∧∀ i m σ H,W i m σ H→
   ((pL lo n).stop i H∧D.nx σ H)∨((pL lo n).go i H∧∃ N:St→Hp→Prop,(∀ σ' H',N σ' H'→∃ m',m'<m∧W (i+1) m' σ' H')∧∀ x H',(pL lo n).yld i H x H'→g x σ H' fun σ2 H2=>tb { D with nx:=N,ct:=N,bk:=D.nx } σ2 H2):=by
 refine ⟨fun i m σ H=>m=n - i∧i≤n∧Pv i σ H,⟨n,by simp,laI _,h0⟩,?_⟩
 rintro i m σ H ⟨rfl,hi,p⟩
 by_cases hlt:i<n
 ·refine .inr ⟨hlt,Pv (i+1),fun σ' H' p'=>⟨n - (i+1),by omega,rfl,hlt,p'⟩,fun x H' y=>?_⟩
  obtain ⟨e,y⟩:=y
  subst e y
  exact hs i σ _ hlt p
 ·have e:i=n:=by omega
  subst e
  exact .inl ⟨lat _,hd σ H p⟩
end L2
namespace L2
open PySem PySem.Spec PyProof.Rows
abbrev R2:=V→V→Hp→VK→Prop
def eO(X:Cx)(f:Value→Value→Sem Value)(r:R2):Prop:=
 ∀ (pins:List (Addr×Obj)) (s:Shared) (σ:St) (H:Hp) (x y:V) (v u:Value) (Q:VK),Inv X pins σ H s→RelV x v→RelV y u→r x y H Q→
  wpAny (model X.prog X.w) X.A (f v u) (EP X pins σ Q) X.xe s
def Cf(X:Cx)(f:Value→Sem Value)(r:V→Hp→VK→Prop):Prop:=
 ∀ (pins:List (Addr×Obj)) (s:Shared) (σ:St) (H:Hp) (x:V) (v:Value) (Q:VK),Inv X pins σ H s→RelV x v→r x H Q→
  wpAny (model X.prog X.w) X.A (f v) (EP X pins σ Q) X.xe s
def iI(X:Cx)(f:Value)(r:List V→Hp→VK→Prop):Prop:=
 ∀ (pins:List (Addr×Obj)) (s:Shared) (σ:St) (H:Hp) (xs:List V) (us:List Value) (Q:VK),Inv X pins σ H s→Vals xs us→r xs H Q→
  wpAny (model X.prog X.w) X.A (call f us) (EP X pins σ Q) X.xe s
def av(r:R2)(ta tb:TE):TE:=fun σ H Q=>ta σ H fun x H1=>tb σ H1 fun y H2=>r x y H2 Q
def yv(r:V→Hp→VK→Prop)(ta:TE):TE:=fun σ H Q=>ta σ H fun x H1=>r x H1 Q
def rI(C:Int→Int→Prop)(g:Int→Int→V):R2:=fun x y H Q=>∃ i j,x=.int i∧y=.int j∧C i j∧Q (g i j) H
def jo(g:Int→Int→V):R2:=fun x y H Q=>∃ i j,x=.int i∧y=.int j∧Q (g i j) H
def rU(g:Int→V):V→Hp→VK→Prop:=fun x H Q=>∃ i,x=.int i∧Q (g i) H
section
variable {X:Cx}{a b c:Expr}{ta tb tc:TE}{pos:Pos}
theorem zk(ha:PE X a ta)(hb:PE X b tb){pins:List (Addr×Obj)}{s:Shared}{σ:St}{H:Hp}{R:V→V→Hp→Prop}(I:Inv X pins σ H s)
  (h:ta σ H fun x H1=>tb σ H1 fun y H2=>R x y H2){Q:Value→Shared→Prop}{f:Value→Value→Sem Value}
  (hf:∀ v u s2 x y H2,Inv X pins σ H2 s2→RelV x v→RelV y u→R x y H2→wpAny (model X.prog X.w) X.A (f v u) Q X.xe s2) :
  wpAny (model X.prog X.w) X.A (eval a X.env) (fun v s₁=>wpAny (model X.prog X.w) X.A (eval b X.env) (fun u s₂=>wpAny (model X.prog X.w) X.A (f v u) Q X.xe s₂) X.xe s₁) X.xe s:=by
 refine bh (ha pins s σ H _ I h) fun v s1 ⟨x,H1,I1,r1,q1⟩=>?_
 refine bh (hb pins s1 σ H1 _ I1 q1) fun u s2 ⟨y,H2,I2,r2,q2⟩=>?_
 exact hf v u s2 x y H2 I2 r1 r2 q2
theorem bt{op:Operator}{r:R2}(ho:eO X (binaryOp op) r)(ha:PE X a ta)(hb:PE X b tb):PE X (.BinOp a op b pos) (av r ta tb):=by
 intro pins s σ H Q I h
 exact wpAny_BinOp (zk ha hb I h fun v u s2 x y H2 I2 rx ry q=>ho pins s2 σ H2 x y v u Q I2 rx ry q)
theorem xF{op:UnaryOp}{r:V→Hp→VK→Prop}(ho:Cf X (unaryOp op) r)(ha:PE X a ta):PE X (.UnaryOp op a pos) (yv r ta):=by
 intro pins s σ H Q I h
 exact UnaryOp_ (bh (ha pins s σ H _ I h) fun v s1 ⟨x,H1,I1,r1,q1⟩=>ho pins s1 σ H1 x v Q I1 r1 q1)
theorem Cw{f:Value→Value→Sem Value}{C:Int→Int→Prop}{g:Int→Int→Int}
  (rule:∀ (i j:Int) (t u:Tok) (s:Shared) (Q:Value→Shared→Prop) (E:Value→Shared→Prop),C i j→Q (.int (g i j) s.toks) { s with toks:=s.toks+1 }→wpAny (model X.prog X.w) X.A (f (.int i t) (.int j u)) Q E s) :
  eO X f (rI C fun i j=>.int (g i j)):=by
 intro pins s σ H x y v u Q I rx ry h
 obtain ⟨i,j,rfl,rfl,hc,q⟩:=h
 obtain ⟨t,rfl⟩:=rx
 obtain ⟨t',rfl⟩:=ry
 exact rule i j t t' s _ _ hc ⟨.int (g i j),H,I.tok _,⟨_,rfl⟩,q⟩
theorem Dq{f:Value→Value→Sem Value}{g:Int→Int→Int}
  (rule:∀ (i j:Int) (t u:Tok) (s:Shared) (Q:Value→Shared→Prop) (E:Value→Shared→Prop),Q (.int (g i j) s.toks) { s with toks:=s.toks+1 }→wpAny (model X.prog X.w) X.A (f (.int i t) (.int j u)) Q E s) :
  eO X f (jo fun i j=>.int (g i j)):=by
 intro pins s σ H x y v u Q I rx ry h
 obtain ⟨i,j,rfl,rfl,q⟩:=h
 obtain ⟨t,rfl⟩:=rx
 obtain ⟨t',rfl⟩:=ry
 exact rule i j t t' s _ _ ⟨.int (g i j),H,I.tok _,⟨_,rfl⟩,q⟩
theorem vR{f:Value→Value→Sem Value}{g:Int→Int→Bool}
  (rule:∀ (i j:Int) (t u:Tok) (s:Shared) (Q:Value→Shared→Prop) (E:Value→Shared→Prop),Q (.bool (g i j)) s→wpAny (model X.prog X.w) X.A (f (.int i t) (.int j u)) Q E s) :
  eO X f (jo fun i j=>.bl (g i j)):=by
 intro pins s σ H x y v u Q I rx ry h
 obtain ⟨i,j,rfl,rfl,q⟩:=h
 obtain ⟨t,rfl⟩:=rx
 obtain ⟨t',rfl⟩:=ry
 exact rule i j t t' s _ _ ⟨.bl (g i j),H,I,rfl,q⟩
def zS(i j:Int):Prop:=0<j∧j<1073741824
def CMul(i j:Int):Prop:=(-(2 ^ 64)<i∧i<2 ^ 64)∨(-(2 ^ 64)<j∧j<2 ^ 64)
theorem CMul.ok{i j:Int}(h:CMul i j):IntMulOk i j:=by
 rcases h with ⟨h1,h2⟩ | ⟨h1,h2⟩
 ·exact .of_left (intBits_le_64 h1 h2)
 ·exact .of_right (intBits_le_64 h1 h2)
theorem iL:eO X (binaryOp .Add) (jo fun i j=>.int (i+j)):=Dq fun _ _ _ _ _ _ _ q=>add_int q
theorem B4:eO X (binaryOp .Sub) (jo fun i j=>.int (i - j)):=Dq fun _ _ _ _ _ _ _ q=>sub_int q
theorem eA:eO X (binaryOp .Mult) (rI CMul fun i j=>.int (i*j)):=Cw fun _ _ _ _ _ _ _ hc q=>mul_int q hc.ok
theorem pZ:eO X (binaryOp .FloorDiv) (rI zS fun i j=>.int (i / j)):=Cw fun i j _ _ _ _ _ hc q=>by
 have h1:(0:Int)<j:=hc.1
 have h2:j<1073741824:=hc.2
 exact floordiv_int (by omega) (by rw [Int.fdiv_eq_ediv_of_nonneg i (by omega)];exact q) (.inl (PyProof.noPylong_small (by omega)))
theorem cE:eO X (binaryOp .Mod) (rI (fun _ j=>0<j) fun i j=>.int (i % j)):=Cw fun i j _ _ _ _ _ hc q=>by
 have h1:(0:Int)<j:=hc
 exact mod_int' (by omega) (by rw [Int.fmod_eq_emod_of_nonneg i (by omega)];exact q)
theorem Lf{f:Value→Sem Value}{g:Int→Int}
  (rule:∀ (i:Int) (t:Tok) (s:Shared) (Q:Value→Shared→Prop) (E:Value→Shared→Prop),Q (.int (g i) s.toks) { s with toks:=s.toks+1 }→wpAny (model X.prog X.w) X.A (f (.int i t)) Q E s) :
  Cf X f (rU fun i=>.int (g i)):=by
 intro pins s σ H x v Q I rx h
 obtain ⟨i,rfl,q⟩:=h
 obtain ⟨t,rfl⟩:=rx
 exact rule i t s _ _ ⟨.int (g i),H,I.tok _,⟨_,rfl⟩,q⟩
theorem uB:Cf X (unaryOp .USub) (rU fun i=>.int (-i)):=Lf fun _ _ _ _ _ q=>neg_int q
end
def sM:V→V→Bool
 | .non,.non=>true | .non,.int _=>true | .int _,.non=>true | .non,.bl _=>true | .bl _,.non=>true | .non,.str _=>true | .str _,.non=>true
 | .int _,.int _=>true | .bl _,.bl _=>true | .str _,.str _=>true | .byt _,.byt _=>true
 | .int _,.str _=>true | .str _,.int _=>true | .bl _,.str _=>true | .str _,.bl _=>true
 | _,_=>false
def dh:R2:=fun x y H Q=>sM x y=true∧Q (.bl (decide (x=y))) H
def jy:R2:=fun x y H Q=>sM x y=true∧Q (.bl (!decide (x=y))) H
theorem u7{i j:Int}:decide (V.int i=V.int j)=(i==j):=by
 rw [Bool.eq_iff_iff]
 simp
theorem zc{i j:Bool}:decide (V.bl i=V.bl j)=(i==j):=by
 rw [Bool.eq_iff_iff]
 simp
theorem vh{i j:Str}:decide (V.str i=V.str j)=(i==j):=by
 rw [Bool.eq_iff_iff]
 simp
theorem uY{i j:Array UInt8}:decide (V.byt i=V.byt j)=(i.toList==j.toList):=by
 rw [Bool.eq_iff_iff]
 cases i
 cases j
 simp
section
variable {X:Cx}{a b c:Expr}{ta tb tc:TE}{pos:Pos}
theorem cb{pins:List (Addr×Obj)}{σ:St}{H:Hp}{s:Shared}{Q:VK}{k k':Bool}(I:Inv X pins σ H s)(q:Q (.bl k) H)(e:k=k'):EP X pins σ Q (.bool k') s:=by
 subst e
 exact ⟨.bl k,H,I,rfl,q⟩
theorem cm:eO X (compareOp .Eq) dh:=by
 intro pins s σ H x y v u Q I rx ry h
 obtain ⟨hs,q⟩:=h
 cases x with
 | non=>
  cases rx
  cases y with
  | non=>cases ry;exact PySem.EqNone.eq_none_none (cb I q (by simp))
  | bl j=>cases ry;exact PySem.EqNone.eq_none_bool (cb I q (by simp))
  | int j=>obtain ⟨t',rfl⟩:=ry;exact PySem.EqNone.eq_none_int (cb I q (by simp))
  | str j=>obtain ⟨t',rfl⟩:=ry;exact PySem.EqNone.eq_none_str (cb I q (by simp))
  | _=>exact absurd (show false=true from hs) lau
 | bl i=>
  cases rx
  cases y with
  | non=>cases ry;exact PySem.EqNone.eq_bool_none (cb I q (by simp))
  | bl j=>cases ry;exact eq_bool (cb I q zc)
  | str j=>obtain ⟨t',rfl⟩:=ry;exact PySem.EqMixed.eq_bool_str (cb I q (by simp))
  | _=>exact absurd (show false=true from hs) lau
 | int i=>
  obtain ⟨t,rfl⟩:=rx
  cases y with
  | non=>cases ry;exact PySem.EqNone.eq_int_none (cb I q (by simp))
  | int j=>obtain ⟨t',rfl⟩:=ry;exact eq_int (cb I q u7)
  | str j=>obtain ⟨t',rfl⟩:=ry;exact PySem.EqMixed.eq_int_str (cb I q (by simp))
  | _=>exact absurd (show false=true from hs) lau
 | str i=>
  obtain ⟨t,rfl⟩:=rx
  cases y with
  | non=>cases ry;exact PySem.EqNone.eq_str_none (cb I q (by simp))
  | bl j=>cases ry;exact PySem.EqMixed.eq_str_bool (cb I q (by simp))
  | int j=>obtain ⟨t',rfl⟩:=ry;exact PySem.EqMixed.eq_str_int (cb I q (by simp))
  | str j=>obtain ⟨t',rfl⟩:=ry;exact eq_str (cb I q vh)
  | _=>exact absurd (show false=true from hs) lau
 | byt i=>
  obtain ⟨t,rfl⟩:=rx
  cases y with
  | byt j=>obtain ⟨t',rfl⟩:=ry;exact PySem.W.eq_bytes (cb I q uY)
  | _=>exact absurd (show false=true from hs) lau
 | _=>cases y <;> exact absurd (show false=true from hs) lau
theorem fJ:eO X (compareOp .NotEq) jy:=by
 intro pins s σ H x y v u Q I rx ry h
 obtain ⟨hs,q⟩:=h
 cases x with
 | non=>
  cases rx
  cases y with
  | non=>cases ry;exact PySem.EqNone.ne_none_none (cb I q (by simp))
  | bl j=>cases ry;exact PySem.EqNone.ne_none_bool (cb I q (by simp))
  | int j=>obtain ⟨t',rfl⟩:=ry;exact PySem.EqNone.ne_none_int (cb I q (by simp))
  | str j=>obtain ⟨t',rfl⟩:=ry;exact PySem.EqNone.ne_none_str (cb I q (by simp))
  | _=>exact absurd (show false=true from hs) lau
 | bl i=>
  cases rx
  cases y with
  | non=>cases ry;exact PySem.EqNone.ne_bool_none (cb I q (by simp))
  | bl j=>cases ry;exact ne_bool (cb I q (congrArg not zc))
  | str j=>obtain ⟨t',rfl⟩:=ry;exact PySem.EqMixed.ne_bool_str (cb I q (by simp))
  | _=>exact absurd (show false=true from hs) lau
 | int i=>
  obtain ⟨t,rfl⟩:=rx
  cases y with
  | non=>cases ry;exact PySem.EqNone.ne_int_none (cb I q (by simp))
  | int j=>obtain ⟨t',rfl⟩:=ry;exact ne_int (cb I q (congrArg not u7))
  | str j=>obtain ⟨t',rfl⟩:=ry;exact PySem.EqMixed.ne_int_str (cb I q (by simp))
  | _=>exact absurd (show false=true from hs) lau
 | str i=>
  obtain ⟨t,rfl⟩:=rx
  cases y with
  | non=>cases ry;exact PySem.EqNone.ne_str_none (cb I q (by simp))
  | bl j=>cases ry;exact PySem.EqMixed.ne_str_bool (cb I q (by simp))
  | int j=>obtain ⟨t',rfl⟩:=ry;exact PySem.EqMixed.ne_str_int (cb I q (by simp))
  | str j=>obtain ⟨t',rfl⟩:=ry;exact ne_str (cb I q (congrArg not vh))
  | _=>exact absurd (show false=true from hs) lau
 | byt i=>
  obtain ⟨t,rfl⟩:=rx
  cases y with
  | byt j=>obtain ⟨t',rfl⟩:=ry;exact PySem.W.ne_bytes (cb I q (congrArg not uY))
  | _=>exact absurd (show false=true from hs) lau
 | _=>cases y <;> exact absurd (show false=true from hs) lau
theorem i5:eO X (compareOp .Lt) (jo fun i j=>.bl (decide (i<j))):=vR fun _ _ _ _ _ _ _ q=>lt_int q
theorem AG:eO X (compareOp .LtE) (jo fun i j=>.bl (decide (i≤j))):=vR fun _ _ _ _ _ _ _ q=>le_int q
theorem rh:eO X (compareOp .Gt) (jo fun i j=>.bl (decide (j<i))):=vR fun _ _ _ _ _ _ _ q=>gt_int q
theorem AJ:eO X (compareOp .GtE) (jo fun i j=>.bl (decide (j≤i))):=vR fun _ _ _ _ _ _ _ q=>ge_int q
theorem aQ(b:Expr){op:CmpOp}(h:op≠.In:=by decide)(h2:op≠.NotIn:=by decide):behindInMarks op b=false:=by
 have e1:(op==CmpOp.In)=false:=by cases op <;> first | rfl | exact absurd rfl h
 have e2:(op==CmpOp.NotIn)=false:=by cases op <;> first | rfl | exact absurd rfl h2
 cases b <;> simp [behindInMarks,e1,e2]
theorem ef{op:CmpOp}{r:R2}(ho:eO X (compareOp op) r)(ha:PE X a ta)(hb:PE X b tb)(hm:behindInMarks op b=false):PE X (.Compare a [op] [b] pos) (av r ta tb):=by
 intro pins s σ H Q I h
 exact wpAny_Compare1 (zk ha hb I h fun v u s2 x y H2 I2 rx ry q=>ho pins s2 σ H2 x y v u Q I2 rx ry q) hm
def aT(t:TE):TT:=fun σ H Q=>t σ H fun x H'=>∃ k,x=.bl k∧Q k H'
theorem aF{op:CmpOp}{r:R2}(ho:eO X (compareOp op) r)(ha:PE X a ta)(hb:PE X b tb)(hm:behindInMarks op b=false):PT X (.Compare a [op] [b] pos) (aT (av r ta tb)):=by
 intro pins s σ H Q I h
 refine wpAny_isTrue_Compare1 (bh (ha pins s σ H _ I h) fun v s1 ⟨x,H1,I1,r1,q1⟩=>bh (hb pins s1 σ H1 _ I1 q1) fun u s2 ⟨y,H2,I2,r2,q2⟩=>
  bh (ho pins s2 σ H2 x y v u _ I2 r1 r2 q2) fun c s3 ⟨z,H3,I3,r3,k,e,q3⟩=>?_) hm
 subst e
 cases r3
 exact wpAny_truthy_bool ⟨H3,I3,q3⟩
def o_(r r':R2)(ta tb tc:TE):TE:=fun σ H Q=>ta σ H fun x H1=>tb σ H1 fun y H2=>r x y H2 fun z H3=>∃ k,z=.bl k∧
 (if k=true then tc σ H3 fun w' H4=>r' y w' H4 Q else Q (.bl false) H3)
theorem uE{op op':CmpOp}{r r':R2}(ho:eO X (compareOp op) r)(ho':eO X (compareOp op') r')(ha:PE X a ta)(hb:PE X b tb)(hc:PE X c tc)
  (hm:lastMarks [op,op'] [b,c]=false:=by with_unfolding_all rfl):PE X (.Compare a [op,op'] [b,c] pos) (o_ r r' ta tb tc):=by
 intro pins s σ H Q I h
 refine Compare_chain (bh (ha pins s σ H _ I h) fun v s1 ⟨x,H1,I1,r1,q1⟩=>chain_link (bh (hb pins s1 σ H1 _ I1 q1) fun u s2 ⟨y,H2,I2,r2,q2⟩=>
  bh (ho pins s2 σ H2 x y v u _ I2 r1 r2 q2) fun d s3 ⟨z,H3,I3,r3,k,e,q3⟩=>?_)) hm
 subst e
 cases r3
 refine wpAny_truthy_bool ?_
 cases k with
 | false=>exact ite_ff ⟨.bl false,H3,I3,rfl,q3⟩
 | true=>exact ite_tt (chain_last (bh (hc pins s3 σ H3 _ I3 q3) fun w' s4 ⟨z',H4,I4,r4,q4⟩=>ho' pins s4 σ H4 y z' u w' Q I4 r2 r4 q4))
theorem o5:(sizeLine:Nat)<2 ^ 63:=by rw [sizeLine_eq];decide
theorem xP:eO X (binaryOp .Add) (fun x y H Q=>∃ i j,x=.str i∧y=.str j∧i.length+j.length≤sizeLine∧Q (.str (i++j)) H):=by
 intro pins s σ H x y v u Q I rx ry h
 obtain ⟨i,j,rfl,rfl,hz,q⟩:=h
 obtain ⟨t,rfl⟩:=rx
 obtain ⟨t',rfl⟩:=ry
 exact add_str (fun t' tk=>⟨.str (i++j),H,I.tok _,⟨_,rfl⟩,q⟩) hz
theorem kQ{x:V}{us:List Value}(r:Vals [x] us):∃ u,us=[u]∧RelV x u:=by
 cases r with
 | cons r1 r2=>cases r2;exact ⟨_,rfl,r1⟩
theorem mL:iI X (.type "int") (fun xs H Q=>(∃ i,xs=[.int i]∧Q (.int i) H)∨∃ k,xs=[.bl k]∧Q (.int (if k then 1 else 0)) H):=by
 intro pins s σ H xs us Q I r h
 rcases h with ⟨i,rfl,q⟩ | ⟨k,rfl,q⟩
 ·obtain ⟨u,rfl,t,rfl⟩:=kQ r
  exact call_int_int ⟨.int i,H,I,⟨_,rfl⟩,q⟩
 ·obtain ⟨u,rfl,r1⟩:=kQ r
  cases r1
  exact call_int_bool ⟨.int (if k then 1 else 0),H,I.tok _,⟨_,rfl⟩,q⟩
end
end L2
namespace L2
open PySem PySem.Spec PyProof.Rows
structure ObjM(h:Heap)(x dx C:Addr)(mA:Str→Option Value):Prop where
 obj:h.get? x=some (PySem.W.instObj C dx)
 ns:h.Ns1 dx mA
 ne:dx≠x
theorem yl{h:Heap}{dx:Addr}{mA:Str→Option Value}(n:h.Ns1 dx mA):∃ od,h.get? dx=some od∧∀ name,PySem.W.lookIn name od=some (mA name):=by
 obtain ⟨o,es,ep,ho,hd,hk,_,hm⟩:=n
 refine ⟨o,ho,fun name=>?_⟩
 have e:=hm name
 unfold nsFind findBy at e
 rw [← Array.find?_toList] at e
 unfold PySem.W.lookIn
 rw [hd]
 dsimp only
 split
 ·rename_i y q
  rw [q] at e
  exact congrArg some e
 ·rename_i q
  rw [q] at e
  have a:es.toList.any (·.refKey)=false:=by
   rw [List.any_eq_false]
   intro y hy
   obtain ⟨z,t,hkey⟩:=hk y (Array.mem_toList_iff.mp hy)
   simp [DictEntry.refKey,hkey]
  have a':¬ es.toList.any (·.refKey)=true:=by rw [a];exact lau
  rw [if_neg a']
  exact congrArg some e
theorem ObjM.look{h:Heap}{x dx C:Addr}{mA:Str→Option Value}(I:ObjM h x dx C mA):∃ od,PySem.W.InstAt h x (PySem.W.instObj C dx) C (some od)∧∀ name,PySem.W.lookIn name od=some (mA name):=
 let ⟨od,ho,hl⟩:=yl I.ns
 ⟨od,⟨I.obj,rfl,rfl,ho⟩,hl⟩
section
variable {prog:Program}{w:World}{A:Around}{E:Value→Shared→Prop}{s:Shared}{K:PySem.W.Frag}{x dx C f:Addr}{mA:Str→Option Value}{name:Str}{v:Value}
theorem Bw{expr:Bool}{Q:Value→Shared→Prop}(X:K.In s.heap)(I:ObjM s.heap x dx C mA)(hg:PySem.W.plainGet K C name=true)(hh:PySem.W.hasDictIn K C=true)
  (ha:PySem.W.findIn K (.ref C) name=some none)(hv:mA name=some v)(hv':PySem.W.handedIn v=true)(h:Q v { s with toks:=s.toks+1 }) :
  wpAny (model prog w) A (getAttr (.ref x) name expr) Q E s:=by
 obtain ⟨od,J,hl⟩:=I.look
 exact PySem.W.get_value X J (PySem.W.plainGet_of hg).1 (PySem.W.findObj_own hh ha rfl (by rw [hl,hv])) hv' h
theorem Aa{pl:Sem Bool}{Q:Value×List Value→Shared→Prop}(X:K.In s.heap)(I:ObjM s.heap x dx C mA)(hg:PySem.W.plainGet K C name=true)
  (hf:PySem.W.findIn K (.ref C) name=some (some (.ref f)))(ht:PySem.W.isFn K (.ref f)=true)(hv:mA name=none)(h:Q (.ref f,[.ref x]) s) :
  wpAny (model prog w) A (getMethod (.ref x) name pl) Q E s:=by
 obtain ⟨od,J,hl⟩:=I.look
 exact PySem.W.method_fn X J (PySem.W.plainGet_of hg).1 (PySem.W.plainGet_of hg).2 hf (beq_iff_eq.mp ht) (by show (PySem.W.lookIn name od).map (·.isSome)=some false;rw [hl,hv];rfl) h
theorem BE{ns:List Str}{Q:Unit→Shared→Prop}(X:K.In s.heap)(I:ObjM s.heap x dx C mA)
  (hs:PySem.W.findIn K (.ref C) "__setattr__"=some (some (.builtin "object.__setattr__")))(hp:PySem.W.plainOver K C=true)(ht:PySem.W.takerIn K C name=some none)(hh:PySem.W.hasDictIn K C=true)
  (hw:PySem.Within mA ns)(hsz:ns.length≤sizeLine)
  (h:∀ h',ObjM h' x dx C (fun y=>if y=name then some v else mA y)→Heap.SameBut dx s.heap h'→Q () { s with heap:=h',toks:=s.toks+2 }) :
  wpAny (model prog w) A (setAttr (.ref x) name v) Q E s:=by
 obtain ⟨od,J,hl⟩:=I.look
 refine PySem.W.set_plain X J hs (PySem.W.osa_open (s:={ s with toks:=s.toks+1 }) (r:=none) X J hp ht fun b=>?_)
 obtain ⟨cd,hc,hd'⟩:=PySem.W.any_some hh
 have hx:s.heap.get? x=some ⟨.ref C,some dx,.plain,#[]⟩:=I.obj
 refine wpAny_bind (wpAny_pure (wpAny_bind (wpAny_bind (wpAny_loadPart hx (wpAny_bind (PySem.W.Looks.here (s:={ s with toks:=s.toks+1 }) (PySem.W.looks_clsIn X hc) ?_))))))
 rw [hd']
 refine wpAny_pure (a:=some dx) (wpAny_bind (wpAny_pure (wpAny_bind ?_)))
 refine wpAny_nsSet1 (s:={ s with toks:=s.toks+1 }) I.ns fun h' hn2 hs2=>?_
 obtain ⟨oD,esD,epD,hoD,hdD,hcD⟩:=hn2.count (PySem.Within.cons name v hw)
 refine wpAny_bind (wpAny_lookBehind hoD (by rw [hdD];exact pastItsLine_dict (las hcD (by rw [laj];omega))) ?_)
 exact wpAny_pure (h _ ⟨(hs2.2 _ (Ne.symm I.ne)).trans I.obj,hn2,I.ne⟩ hs2)
theorem zz{R:Result→Shared→Prop}{vs:List Value}{kw:List (Str×Value)}(X:K.In s.heap)(hm:PySem.W.makesIn K C=true)
  (hi:PySem.W.findIn K (.ref C) "__init__"=some (some (.ref f)))(hf:PySem.W.typeIn K (.ref f)=some (.type "function"))
  (h:codeAny (model prog w) (A.under (.builtin "type.__call__" ⟨.ref C::vs,kw⟩)) (.call (.ref f) ⟨.ref (s.heap.objs.size+1)::vs,kw⟩) (PySem.W.InitBack (s.heap.objs.size+1) R)
   { s with heap:=(s.heap.push PySem.W.emptyDict).push (PySem.W.instObj C s.heap.objs.size) }) :
  codeAny (model prog w) A (.call (.ref C) ⟨vs,kw⟩) R s:=by
 obtain ⟨hh,g,d,t,os⟩:=s
 exact PySem.W.make_core (PySem.W.makes_of X hm) (PySem.W.looks_findIn X hi) (fun self=>PySem.W.bind_fn X self hf) (.inl rfl) h
end
def ci(f:Str)(v:V):List (Str×V)→List (Str×V)
 | []=>[(f,v)]
 | (g,x)::r=>if g=f then (g,v)::r else (g,x)::ci f v r
theorem nW(f g:Str)(v:V):∀ fs:List (Str×V),(ci f v fs).lookup g=if g=f then some v else fs.lookup g
 | []=>by
  show List.lookup g [(f,v)]=_
  by_cases h:g=f
  ·have hb:(g==f)=true:=beq_iff_eq.mpr h
   simp only [List.lookup,hb,if_pos h]
  ·have hb:(g==f)=false:=beq_eq_false_iff_ne.mpr h
   simp only [List.lookup,hb,if_neg h]
 | (k,x)::r=>by
  have ih:=nW f g v r
  rw [show ci f v ((k,x)::r)=(if k=f then (k,v)::r else (k,x)::ci f v r) from rfl]
  by_cases hk:k=f
  ·rw [if_pos hk]
   by_cases h:g=k
   ·have hb:(g==k)=true:=beq_iff_eq.mpr h
    simp only [List.lookup,hb,if_pos (h.trans hk)]
   ·have hb:(g==k)=false:=beq_eq_false_iff_ne.mpr h
    simp only [List.lookup,hb,if_neg (fun e:g=f=>h (e.trans hk.symm))]
  ·rw [if_neg hk]
   by_cases h:g=k
   ·have hb:(g==k)=true:=beq_iff_eq.mpr h
    simp only [List.lookup,hb,if_neg (fun e:g=f=>hk (h.symm.trans e))]
   ·have hb:(g==k)=false:=beq_eq_false_iff_ne.mpr h
    simp only [List.lookup,hb]
    exact ih
theorem m8(f:Str)(v:V):∀ fs:List (Str×V),f∈(ci f v fs).map (·.1)∧∀ g,g∈fs.map (·.1)→g∈(ci f v fs).map (·.1)
 | []=>⟨by simp [ci],fun g h=>by simp at h⟩
 | (k,x)::r=>by
  obtain ⟨i1,i2⟩:=m8 f v r
  rw [show ci f v ((k,x)::r)=(if k=f then (k,v)::r else (k,x)::ci f v r) from rfl]
  by_cases hk:k=f
  ·rw [if_pos hk]
   subst hk
   exact ⟨by simp,fun g h=>by simpa using h⟩
  ·rw [if_neg hk]
   refine ⟨?_,fun g h=>?_⟩
   ·rw [lah]
    exact lac _ i1
   ·rw [lah] at h ⊢
    rcases List.mem_cons.mp h with e | e
    ·exact List.mem_cons.mpr (.inl e)
    ·exact lac _ (i2 g e)
theorem ip(f:Str)(v:V):∀ fs:List (Str×V),(ci f v fs).length≤fs.length+1
 | []=>by simp [ci]
 | (k,x)::r=>by
  have ih:=ip f v r
  rw [show ci f v ((k,x)::r)=(if k=f then (k,v)::r else (k,x)::ci f v r) from rfl]
  by_cases hk:k=f
  ·rw [if_pos hk,laj,laj];omega
  ·rw [if_neg hk,laj,laj];omega
theorem RelO.some_of{v:V}{o:Option Value}(r:RelO (some v) o):∃ u,o=some u∧RelV v u:=by
 cases o with
 | none=>exact (show False from r).elim
 | some u=>exact ⟨u,rfl,r⟩
theorem RelO.none_of{o:Option Value}(r:RelO none o):o=none:=by
 cases o with
 | none=>rfl
 | some u=>exact (show False from r).elim
theorem yC{v:V}{u:Value}(r:RelV v u):PySem.W.handedIn u=true:=by
 cases v with
 | non=>cases (show u=Value.none from r);rfl
 | bl b=>cases (show u=Value.bool b from r);rfl
 | int i=>obtain ⟨t,e⟩:=(show ∃ t,u=Value.int i t from r);cases e;rfl
 | str x=>obtain ⟨t,e⟩:=(show ∃ t,u=Value.str x t from r);cases e;rfl
 | byt b=>obtain ⟨t,e⟩:=(show ∃ t,u=Value.bytes b t from r);cases e;rfl
 | flt b=>obtain ⟨t,e⟩:=(show ∃ t,u=Value.float b t from r);cases e;rfl
 | ref a=>cases (show u=Value.ref a from r);rfl
 | ty n=>cases (show u=Value.type n from r);rfl
section
variable {P:Program}{w:World}{H H':Hp}{h h':Heap}{a C dx:Addr}{fs fs':List (Str×V)}
theorem nP(hok:HOk P w H h)(e:H a=some (.ins C dx fs)):∃ mA,ObjM h a dx C mA∧(∀ f,RelO (fs.lookup f) (mA f))∧PySem.Within mA (fs.map (·.1))∧fs.length≤1000∧H dx=some (.own a):=by
 obtain ⟨d,z,ne,ob,mA,n,r,q⟩:=(show ObjOk P w H h a (.ins C dx fs) from hok a _ e)
 exact ⟨mA,⟨ob,n,ne⟩,r,q,z,d⟩
end
structure Cls(K:PySem.W.Frag)(C:Addr):Prop where
 pg:PySem.W.plainGet K C Str.empty=true
 hd:PySem.W.hasDictIn K C=true
 po:PySem.W.plainOver K C=true
 sa:PySem.W.findIn K (.ref C) "__setattr__"=some (some (.builtin "object.__setattr__"))
theorem Cls.get{K:PySem.W.Frag}{C:Addr}(c:Cls K C)(f:Str):PySem.W.plainGet K C f=true:=c.pg
def NoAttr(K:PySem.W.Frag)(C:Addr)(f:Str):Prop:=PySem.W.findIn K (.ref C) f=some none
theorem NoAttr.taker{K:PySem.W.Frag}{C:Addr}{f:Str}(n:NoAttr K C f):PySem.W.takerIn K C f=some none:=by
 unfold PySem.W.takerIn
 rw [show PySem.W.findIn K (.ref C) f=some none from n]
 rfl
structure cX(K:PySem.W.Frag)(C:Addr)(m:Str)(f:Addr):Prop where
 at_:PySem.W.findIn K (.ref C) m=some (some (.ref f))
 fn:PySem.W.isFn K (.ref f)=true
 kp:PySem.W.keepIn K (.ref f)=true
section
variable {X:Cx}{pins:List (Addr×Obj)}{σ:St}{H:Hp}{s:Shared}{a C dx:Addr}{fs:List (Str×V)}{f:Str}{v:V}{A:Around}{E:Value→Shared→Prop}
theorem o0{b:Bool}{Q:Value→Shared→Prop}(I:Inv X pins σ H s)(e:H a=some (.ins C dx fs))(c:Cls X.K C)(n:NoAttr X.K C f)(l:fs.lookup f=some v)
  (h:∀ u s',Inv X pins σ H s'→RelV v u→Q u s'):wpAny (model X.prog X.w) A (getAttr (.ref a) f b) Q E s:=by
 obtain ⟨mA,O,r,_,_,_⟩:=nP I.hok e
 obtain ⟨u,hu,ru⟩:=RelO.some_of (v:=v) (o:=mA f) (by rw [← l];exact r f)
 exact Bw I.kIn O (c.get f) c.hd n hu (yC ru) (h u _ (I.tok _) ru)
theorem mo{m:Str}{g:Addr}{pl:Sem Bool}{Q:Value×List Value→Shared→Prop}(I:Inv X pins σ H s)(e:H a=some (.ins C dx fs))(c:Cls X.K C)(k:cX X.K C m g)(l:fs.lookup m=none)
  (h:Q (.ref g,[.ref a]) s):wpAny (model X.prog X.w) A (getMethod (.ref a) m pl) Q E s:=by
 obtain ⟨mA,O,r,_,_,_⟩:=nP I.hok e
 have hn:mA m=none:=RelO.none_of (by rw [← l];exact r m)
 exact Aa I.kIn O (c.get m) k.at_ k.fn hn h
theorem pJ{y:V}{u:Value}{Q:Unit→Shared→Prop}(I:Inv X pins σ H s)(e:H a=some (.ins C dx fs))(c:Cls X.K C)(n:NoAttr X.K C f)(hl:fs.length<1000)(ry:RelV y u)
  (h:∀ s',Inv X pins σ (upd H a (.ins C dx (ci f y fs))) s'→Q () s'):wpAny (model X.prog X.w) A (setAttr (.ref a) f u) Q E s:=by
 obtain ⟨mA,O,r,wi,_,ho⟩:=nP I.hok e
 have hz:(fs.map (·.1)).length≤sizeLine:=by rw [laa,sizeLine_eq];omega
 refine BE I.kIn O c.sa c.po n.taker c.hd wi hz fun h' O' sb=>h _ ?_
 have hd:∃ o,h'.get? dx=some o:=let ⟨o,_,_,e',_⟩:=O'.ns;⟨o,e'⟩
 refine I.write (x:=a) (e:=dx) (by rw [e];exact True.intro) (.inr ho) (fun b q hb z=>(sb.2 b hb).trans z) hd ?_
 refine ⟨by rw [bB O.ne];exact ho,?_,O.ne,O'.obj,_,O'.ns,fun g=>?_,fun g hg=>?_⟩
 ·have:=ip f y fs;omega
 ·show RelO ((ci f y fs).lookup g) (if g=f then some u else mA g)
  rw [nW]
  by_cases q:g=f
  ·rw [if_pos q,if_pos q];exact ry
  ·rw [if_neg q,if_neg q];exact r g
 ·by_cases q:g=f
  ·rw [q];exact (m8 f y fs).1
  ·refine (m8 f y fs).2 g (wi g fun z=>hg ?_)
   show (if g=f then some u else mA g)=none
   rw [if_neg q];exact z
theorem Inv.made(I:Inv X pins σ H s):Inv X pins σ (upd (upd H s.heap.objs.size (.own (s.heap.objs.size+1))) (s.heap.objs.size+1) (.ins C s.heap.objs.size []))
  { s with heap:=(s.heap.push PySem.W.emptyDict).push (PySem.W.instObj C s.heap.objs.size) }:=by
 have e1:(s.heap.push PySem.W.emptyDict).get? s.heap.objs.size=some PySem.W.emptyDict:=Heap.get?_push_size s.heap rfl
 have e2:((s.heap.push PySem.W.emptyDict).push (PySem.W.instObj C s.heap.objs.size)).get? (s.heap.objs.size+1)=some (PySem.W.instObj C s.heap.objs.size):=by
  have:=Heap.get?_push_size (s.heap.push PySem.W.emptyDict) (o:=PySem.W.instObj C s.heap.objs.size) rfl
  rwa [Heap.size_push] at this
 have e3:(s.heap.push PySem.W.emptyDict).Ns s.heap.objs.size (fun _=>none):=⟨PySem.W.emptyDict,#[],_,e1,rfl,(fun e he=>absurd he (by simp)),fun _=>rfl⟩
 have I1:=I.laid (a:=s.heap.objs.size) (o:=.own (s.heap.objs.size+1)) (h':=s.heap.push PySem.W.emptyDict) (t':=s.toks) (fun b u q=>Heap.get?_push_of_some _ q) (lat _) ⟨_,e1⟩
 refine I1.laid (a:=s.heap.objs.size+1) (o:=.ins C s.heap.objs.size []) (t':=s.toks) (fun b u q=>Heap.get?_push_of_some _ q) (Nat.le_of_eq (Heap.size_push _ _)) ?_
 have ne:s.heap.objs.size≠s.heap.objs.size+1:=Nat.ne_of_lt (Nat.lt_succ_self _)
 refine ⟨by rw [bB ne,ax],laI _,ne,e2,fun _=>none,(Heap.Ns1.of_empty e3).at fun o q=>Heap.get?_push_of_some _ q,fun _=>True.intro,fun y hy=>absurd rfl hy⟩
theorem Bn{prog:Program}{w:World}{env:Env}{e:Expr}{f:Str}{pos:Pos}{s:Shared}{Q:Value→Shared→Prop}(hb:attributeBase e f env (eval e env)=eval e env)
  (h:wpAny (model prog w) A (eval e env) (fun o s₁=>wpAny (model prog w) A (getAttr o f true) Q E s₁) E s):wpAny (model prog w) A (eval (.Attribute e f pos) env) Q E s:=
 Attribute_any_ h (by rw [arm_eval_Attribute,hb])
end
def bQ(K:PySem.W.Frag)(ta:TE)(f:Str):TE:=fun σ H Q=>ta σ H fun x H1=>∃ a C dx fs v,x=.ref a∧H1 a=some (.ins C dx fs)∧Cls K C∧NoAttr K C f∧fs.lookup f=some v∧Q v H1
def fC(K:PySem.W.Frag)(ta tv:TE)(f:Str):TS:=fun D σ H=>tv σ H fun y H1=>ta σ H1 fun x H2=>∃ a C dx fs,x=.ref a∧H2 a=some (.ins C dx fs)∧Cls K C∧NoAttr K C f∧fs.length<1000∧
 D.nx σ (upd H2 a (.ins C dx (ci f y fs)))
def CF(X:Cx)(op:Operator)(rd:V→V→Hp→VK→Prop):Prop:=
 ∀ (pins:List (Addr×Obj)) (s:Shared) (σ:St) (H:Hp) (x y:V) (u v:Value) (Q:VK),Inv X pins σ H s→RelV x u→RelV y v→rd x y H Q→wpAny (model X.prog X.w) X.A (inplaceOp op u v) (EP X pins σ Q) X.xe s
def qi(K:PySem.W.Frag)(ta tv:TE)(rd:V→V→Hp→VK→Prop)(f:Str):TS:=fun D σ H=>ta σ H fun x H1=>∃ a C dx fs v,x=.ref a∧H1 a=some (.ins C dx fs)∧Cls K C∧NoAttr K C f∧fs.lookup f=some v∧
 tv σ H1 fun y H2=>rd v y H2 fun z H3=>∃ dx' fs',H3 a=some (.ins C dx' fs')∧fs'.length<1000∧D.nx σ (upd H3 a (.ins C dx' (ci f z fs')))
section
variable {X:Cx}{o e value:Expr}{f:Str}{pos pos' tpos:Pos}{ta tv:TE}
theorem bi(he:PE X e ta)(hb:attributeBase e f X.env (eval e X.env)=eval e X.env):PE X (.Attribute e f pos) (bQ X.K ta f):=by
 intro pins s σ H Q I h
 refine Bn hb (bh (he pins s σ H _ I h) fun u s1 ⟨x,H1,I1,rx,a,C,dx,fs,v,ex,ea,c,n,l,q⟩=>?_)
 subst ex
 obtain rfl:u=Value.ref a:=rx
 exact o0 I1 ea c n l fun u' s2 I2 ru=>⟨v,H1,I2,ru,q⟩
theorem eC(ha:PE X o ta)(hv:PE X value tv)(hs:swapsWith value (some (.Attribute o f pos')) pos.line X.env=pure false):PS X (.Assign [.Attribute o f pos'] value pos) (fC X.K ta tv f):=by
 intro pins s σ H D I h
 refine plainObj_wpAny_Assign_Attribute (bh (hv pins s σ H _ I h) fun u s1 ⟨y,H1,I1,ry,q⟩=>bh (ha pins s1 σ H1 _ I1 q) fun ov s2 ⟨x,H2,I2,rx,a,C,dx,fs,ex,ea,c,n,l,q2⟩=>?_) hs
 subst ex
 obtain rfl:ov=Value.ref a:=rx
 exact pJ I2 ea c n l ry fun s3 I3=>⟨σ,_,I3,q2⟩
theorem x8{op:Operator}{rd:V→V→Hp→VK→Prop}(ha:PE X o ta)(hv:PE X value tv)(hop:CF X op rd):PS X (.AugAssign (.Attribute o f tpos) op value pos) (qi X.K ta tv rd f):=by
 intro pins s σ H D I h
 refine wpAny_AugAssign_AttributeAny (bh (ha pins s σ H _ I h) fun ov s1 ⟨x,H1,I1,rx,a,C,dx,fs,v,ex,ea,c,n,l,q⟩=>?_)
 subst ex
 obtain rfl:ov=Value.ref a:=rx
 refine o0 I1 ea c n l fun u s2 I2 ru=>bh (hv pins s2 σ H1 _ I2 q) fun w3 s3 ⟨y,H2,I3,ry,q3⟩=>bh (hop pins s3 σ H2 v y u w3 _ I3 ru ry q3) fun w4 s4 ⟨z,H3,I4,rz,dx',fs',ea',l',q4⟩=>?_
 exact pJ I4 ea' c n l' rz fun s5 I5=>⟨σ,_,I5,q4⟩
def z3:V→V→Hp→VK→Prop:=fun x y H Q=>∃ i j,x=.int i∧y=.int j∧Q (.int (i+j)) H
theorem Do:CF X .Add z3:=by
 rintro pins s σ H x y u v Q I rx ry ⟨i,j,rfl,rfl,q⟩
 obtain ⟨t,rfl⟩:=(show ∃ t,u=Value.int i t from rx)
 obtain ⟨t',rfl⟩:=(show ∃ t',v=Value.int j t' from ry)
 exact PyProof.Rows.iadd_int ⟨.int (i+j),H,I.tok _,⟨_,rfl⟩,q⟩
theorem D4{pl:Sem Bool}{m:Str}{apos:Pos}{args:List Expr}{pins:List (Addr×Obj)}{s:Shared}{σ:St}{H:Hp}{Q:Value→Shared→Prop}{te:TE}(he:PE X e te)(I:Inv X pins σ H s)
  (h:te σ H fun x H1=>∃ a C dx fs g,x=.ref a∧H1 a=some (.ins C dx fs)∧Cls X.K C∧cX X.K C m g∧fs.lookup m=none∧
   ∀ s1,Inv X pins σ H1 s1→wpAny (model X.prog X.w) X.A (callWith pos (.ref g) [.ref a] (backTo pos (starEach args X.env)) (backToKw pos (keywordEach [] X.env))) Q X.xe s1)
  (ht:eval (.Call (.Attribute e m apos) args [] pos) X.env=(do
   let ov ← eval e X.env
   standAt apos.atName
   let (f,first) ← holding [ov] (getMethod ov m pl)
   callWith pos f first (backTo pos (starEach args X.env)) (backToKw pos (keywordEach [] X.env)))) :
  wpAny (model X.prog X.w) X.A (eval (.Call (.Attribute e m apos) args [] pos) X.env) Q X.xe s:=by
 refine PySem.W.methodCall_KW (pl:=pl) (bh (he pins s σ H _ I h) fun u s1 ⟨x,H1,I1,rx,a,C,dx,fs,g,ex,ea,c,k,l,q⟩=>?_) ht
 subst ex
 obtain rfl:u=Value.ref a:=rx
 exact mo I1 ea c k l (q s1 I1)
end
section
variable {X:Cx}{pins:List (Addr×Obj)}{σ:St}{H:Hp}{s:Shared}{A:Around}{E:Value→Shared→Prop}{Q:Value→Shared→Prop}{c:Value}{b:Bool}
inductive gL(K:PySem.W.Frag)(H:Hp):V→Value→Prop where
 | non:gL K H .non (.type "NoneType")
 | bl (x:Bool):gL K H (.bl x) (.type "bool")
 | int (i:Int):gL K H (.int i) (.type "int")
 | str (x:Str):gL K H (.str x) (.type "str")
 | flt (x:UInt64):gL K H (.flt x) (.type "float")
 | lst {a:Addr} {xs:List V} (e:H a=some (.lst xs)):gL K H (.ref a) (.type "list")
 | frz {a:Addr} {o:Obj} {xs:List V} (e:H a=some (.frz o (.lst xs))):gL K H (.ref a) (.type "list")
 | tup {a:Addr} {xs:List V} (e:H a=some (.tup xs)):gL K H (.ref a) (.type "tuple")
 | dK {a:Addr} {kvs:List (aN×V)} (e:H a=some (.dK kvs)):gL K H (.ref a) (.type "dict")
 | dT {a:Addr} {kvs:List (List aN×V)} (e:H a=some (.dT kvs)):gL K H (.ref a) (.type "dict")
 | ins {a C dx:Addr} {fs:List (Str×V)} (e:H a=some (.ins C dx fs)) (cl:Cls K C) (ha:PySem.W.findIn K (.ref C) "__class__"=some (some (.builtin "object.__class__")))
   (hn:PySem.W.specialIn K (.builtin "object.__class__") "__get__"=some (some (.builtin "getset_descriptor.__get__"))) (htk:PySem.W.takesIn K (.builtin "object.__class__")=some true)
   (hm:PySem.W.mroIn K C (.type "object")=some true):gL K H (.ref a) (.ref C)
theorem za{x:V}{u t:Value}(I:Inv X pins σ H s)(rx:RelV x u)(ty:gL X.K H x t)(e:PySem.W.kitOne X.K t c=some b)(h:∀ tk,Q (.bool b) { s with toks:=tk }) :
  wpAny (model X.prog X.w) A (call (.builtin "isinstance") [u,c]) Q E s:=by
 cases ty with
 | non=>cases (show u=Value.none from rx);exact PySem.W.kia_one PySem.W.kitx_none I.kIn True.intro e (fun z=>nomatch z) h
 | bl y=>cases (show u=Value.bool y from rx);exact PySem.W.kia_one PySem.W.kitx_bool I.kIn True.intro e (fun z=>nomatch z) h
 | int i=>obtain ⟨t,q⟩:=(show ∃ t,u=Value.int i t from rx);cases q;exact PySem.W.kia_one PySem.W.kitx_int I.kIn True.intro e (fun z=>nomatch z) h
 | str y=>obtain ⟨t,q⟩:=(show ∃ t,u=Value.str y t from rx);cases q;exact PySem.W.kia_one PySem.W.kitx_str I.kIn True.intro e (fun z=>nomatch z) h
 | flt y=>obtain ⟨t,q⟩:=(show ∃ t,u=Value.float y t from rx);cases q;exact PySem.W.kia_one PySem.W.kitx_float I.kIn True.intro e (fun z=>nomatch z) h
 | @lst a xs ea=>
  cases (show u=Value.ref a from rx)
  obtain ⟨_,_,n,_,h1⟩:=(show ObjOk X.prog X.w H s.heap a (.lst xs) from I.hok a _ ea)
  exact PySem.W.kia_one PySem.W.kitx_list I.kIn ⟨_,h1,rfl⟩ e (fun z=>nomatch z) h
 | @frz a ob xs ea=>
  cases (show u=Value.ref a from rx)
  obtain ⟨_,_,_,n,_,h1⟩:=(show ObjOk X.prog X.w H s.heap a (.frz ob (.lst xs)) from I.hok a _ ea)
  exact PySem.W.kia_one PySem.W.kitx_list I.kIn ⟨_,h1,rfl⟩ e (fun z=>nomatch z) h
 | @tup a xs ea=>
  cases (show u=Value.ref a from rx)
  obtain ⟨_,_,_,p⟩:=(show ObjOk X.prog X.w H s.heap a (.tup xs) from I.hok a _ ea)
  obtain ⟨o,h1,h2,_⟩:=p
  exact PySem.W.kia_one PySem.W.kitx_tuple I.kIn ⟨o,h1,h2⟩ e (fun z=>nomatch z) h
 | @dK a kvs ea=>
  cases (show u=Value.ref a from rx)
  obtain ⟨_,_,vs,_,p⟩:=(show ObjOk X.prog X.w H s.heap a (.dK kvs) from I.hok a _ ea)
  obtain ⟨o,es,ep,h1,h2,_⟩:=p
  exact PySem.W.kia_one PySem.W.kitx_dict I.kIn ⟨o,h1,h2.1⟩ e (fun z=>nomatch z) h
 | @dT a kvs ea=>
  cases (show u=Value.ref a from rx)
  obtain ⟨_,_,xs,_,o,es,ep,h1,h2,_⟩:=(show ObjOk X.prog X.w H s.heap a (.dT kvs) from I.hok a _ ea)
  exact PySem.W.kia_one PySem.W.kitx_dict I.kIn ⟨o,h1,h2.1⟩ e (fun z=>nomatch z) h
 | @ins a C dx fs ea cl ha hn htk hm=>
  cases (show u=Value.ref a from rx)
  obtain ⟨mA,O,_⟩:=nP I.hok ea
  obtain ⟨od,J,_⟩:=O.look
  exact PySem.W.kia_one (PySem.W.kitx_own (cl.get _) cl.hd ha hn htk hm) I.kIn J e (fun z=>nomatch z) h
end
end L2
namespace L2
open PySem PySem.Spec PyProof.Rows
structure Room(k:Nat)(A:Around):Prop where
 hd:A.handled=none
 dp:A.depth+3*k+5<recursionLimit
 un:A.units+16*k+200<cLine
theorem Room.mono{j k:Nat}{A:Around}(r:Room k A)(h:j≤k):Room j A:=⟨r.hd,by have:=r.dp;omega,by have:=r.un;omega⟩
theorem Room.deeper{k:Nat}{A:Around}(r:Room (k+1) A)(env:Env):Room k (A.deeper env):=
 ⟨r.hd,by have:=r.dp;show A.depth+1+3*k+5<_;omega,by have:=r.un;show A.units+3+16*k+200<_;omega⟩
theorem wN{A:Around}{C:Addr}{us:List Value}{kw:List (Str×Value)}:(A.under (.builtin "type.__call__" ⟨.ref C::us,kw⟩)).depth=A.depth+1:=by
 first | rfl | simp [Around.under,Code.weight,Code.isCreation,Code.isGuard,Code.isCaller,Code.frames,Code.isFrame,guardIds]
theorem vT{A:Around}{C:Addr}{us:List Value}{kw:List (Str×Value)}:(A.under (.builtin "type.__call__" ⟨.ref C::us,kw⟩)).units=A.units+1:=by
 first | rfl | simp [Around.under,Code.cUnits,Code.frames,Code.isFrame]
theorem Room.make{k:Nat}{A:Around}(r:Room (k+1) A)(C:Addr)(us:List Value)(kw:List (Str×Value)):Room k (A.under (.builtin "type.__call__" ⟨.ref C::us,kw⟩)):=
 ⟨r.hd,by have:=r.dp;rw [wN];omega,by have:=r.un;rw [vT];omega⟩
theorem Room.depth{k:Nat}{A:Around}(r:Room k A):A.depth<recursionLimit:=by have:=r.dp;omega
theorem Room.units{k:Nat}{A:Around}(r:Room k A):A.units+64<cLine:=by have:=r.un;omega
def al:TA:=fun _ H Q=>Q [] H
def af(ta:TE)(tr:TA):TA:=fun σ H Q=>ta σ H fun x H1=>tr σ H1 fun xs H2=>Q (x::xs) H2
section
variable {X:Cx}{e:Expr}{es:List Expr}{te:TE}{t:TA}{pos:Pos}
theorem aj:PA X [] al:=fun _ _ _ _ H Q I h=>Calls.spliced_nil ⟨[],H,I,.nil,h⟩
theorem ab(ha:PE X e te)(hr:PA X es t)(hs:starEach (e::es) X.env=(false,eval e X.env)::starEach es X.env:=by rfl):PA X (e::es) (af te t):=by
 intro pos pins s σ H Q I h
 rw [hs]
 show wpAny _ _ (spliced ((false,eval e X.env)::backTo pos (starEach es X.env))) _ _ s
 refine Calls.spliced_cons (bh (ha pins s σ H _ I h) fun u s1 ⟨x,H1,I1,r1,q1⟩=>?_)
 exact bh (hr pos pins s1 σ H1 _ I1 q1) fun us s2 ⟨xs,H2,I2,r2,q2⟩=>⟨x::xs,H2,I2,.cons r1 r2,q2⟩
def cJ(t:TA):TE:=fun σ H Q=>t σ H fun xs H1=>xs.length≤sizeLine∧∀ p,H1 p=none→Q (.ref p) (upd H1 p (.tup xs))
def bz(t:TA):TE:=fun σ H Q=>t σ H fun xs H1=>xs.length≤sizeLine∧∀ p,H1 p=none→Q (.ref p) (upd H1 p (.lst xs))
theorem b_{x1}(h:PA X es t):PE X (.Tuple es x1 pos) (cJ t):=by
 intro pins s σ H Q I hq
 refine wpAny_Tuple_spliced (bh (h pos pins s σ H _ I hq) fun us s1 ⟨xs,H1,I1,r,z,q⟩=>⟨by rw [← r.length];exact z,?_⟩)
 have hf:H1 s1.heap.objs.size=none:=I1.hok.fresh (lat _)
 refine ⟨.ref s1.heap.objs.size,upd H1 s1.heap.objs.size (.tup xs),I1.laid (t':=s1.toks) (fun b u e=>Heap.get?_push_of_some _ e) (lat _) ?_,rfl,q _ hf⟩
 exact ⟨z,us,r,⟨_,Heap.get?_push_size _ rfl,rfl,_,rfl⟩⟩
theorem bf(h:PA X es t):PE X (.List es pos) (bz t):=by
 intro pins s σ H Q I hq
 refine wpAny_List_spliced (bh (h pos pins s σ H _ I hq) fun us s1 ⟨xs,H1,I1,r,z,q⟩=>⟨by rw [← r.length];exact z,?_⟩)
 have hf:H1 s1.heap.objs.size=none:=I1.hok.fresh (lat _)
 refine ⟨.ref s1.heap.objs.size,upd H1 s1.heap.objs.size (.lst xs),I1.laid (t':=s1.toks) (fun b u e=>Heap.get?_push_of_some _ e) (lat _) ?_,rfl,q _ hf⟩
 exact ⟨z,us,0,r,Heap.get?_push_size _ rfl⟩
end
abbrev Sp:=List V→Hp→VK→XK→Prop
abbrev mM:=List Env→Hp→Shared→XK→Value→Shared→Prop
structure Env0(P:Program)(w:World)(K:PySem.W.Frag)(mg:Str→Option Value)(base:Heap)(A:Around)(outer:List Env)(s:Shared)(H:Hp):Prop where
 frames:A.frames=some outer
 mod:Mod K mg base
 bs:∀ b o,base.get? b=some o→s.heap.get? b=some o∧H b=none
 bsz:base.objs.size≤s.heap.objs.size
 funs:s.heap.FunFrames base outer
 frf:∀ b∈nD outer,H b=none
 hok:HOk P w H s.heap
 bare:AllBare s.gens
def CE(outer:List Env)(P:Program)(w:World)(H:Hp)(s:Shared)(Q:VK)(u:Value)(s':Shared):Prop:=
 ∃ v H',s'.os=s.os∧AllBare s'.gens∧Un (nD outer) [] H H' s.heap s'.heap∧HOk P w H' s'.heap∧RelV v u∧Q v H'
def CR(CX:mM)(outer:List Env)(P:Program)(w:World)(H:Hp)(s:Shared)(Q:VK)(E:XK)(r:Result)(s':Shared):Prop:=
 match r with
 | .ok (.ret u)=>CE outer P w H s Q u s'
 | .ok _=>False
 | .error e=>CX outer H s E e s'
structure fg(P:Program)(w:World)(K:PySem.W.Frag)(mg:Str→Option Value)(base:Heap)(CX:mM)(k:Nat)(f:Addr)(fd:FuncData)(ps:List Str)(sp:Sp):Prop where
 len:∀ vs H Q E,sp vs H Q E→vs.length=ps.length
 run:∀ (A:Around) (outer:List Env) (s:Shared) (H:Hp) (args:Args) (us:List Value) (vs:List V) (Q:VK) (E:XK),Room k A→Env0 P w K mg base A outer s H→BindsTo s fd args (ps.zip us)→Vals vs us→sp vs H Q E→
  codeAny (model P w) A (.call (.ref f) args) (CR CX outer P w H s Q E) s
theorem Env0.make{P:Program}{w:World}{K:PySem.W.Frag}{mg:Str→Option Value}{base:Heap}{A:Around}{outer:List Env}{s:Shared}{H:Hp}(e:Env0 P w K mg base A outer s H)(C:Addr)(us:List Value)(kw:List (Str×Value)) :
  Env0 P w K mg base (A.under (.builtin "type.__call__" ⟨.ref C::us,kw⟩)) outer s H:=⟨by first | exact e.frames | (simpa [Around.under,Code.envs,Code.isFrame,pushEnvs] using e.frames),e.mod,e.bs,e.bsz,e.funs,e.frf,e.hok,e.bare⟩
section
variable {X:Cx}{pins:List (Addr×Obj)}{σ:St}{H:Hp}{s s':Shared}
theorem Inv.env0(I:Inv X pins σ H s):Env0 X.prog X.w X.K X.mg X.base X.A X.stack s H:=
 ⟨I.ok.frames,I.ok.mod,I.bs,las I.ok.bsz I.sz,I.stack,I.stkFree,I.hok,I.bare⟩
theorem Inv.after{Q:VK}{u:Value}(I:Inv X pins σ H s)(h:CE X.stack X.prog X.w H s Q u s'):EP X pins σ Q u s':=by
 obtain ⟨v,H',os,bare,un,hok,r,q⟩:=h
 obtain ⟨hh,g,d,t,os'⟩:=s'
 obtain rfl:os'=s.os:=os
 exact ⟨v,H',I.call (h':=hh) (g':=g) (d':=d) (t':=t) (ch:=[]) un hok bare (fun b z=>absurd z (by simp)),r,q⟩
end
def bb(sp:Sp)(dvs:List V)(E:XK)(t:TA):TE:=fun σ H Q=>t σ H fun vs H1=>sp (vs++dvs) H1 Q E
def bj(C:Addr)(m:Str)(sp:Sp)(dvs:List V)(E:XK)(ta:TE)(t:TA):TE:=fun σ H Q=>ta σ H fun x H1=>∃ a dx fs,x=.ref a∧H1 a=some (.ins C dx fs)∧fs.lookup m=none∧
 t σ H1 fun vs H2=>sp (x::(vs++dvs)) H2 Q E
def oS(C:Addr)(sp:Sp)(dvs:List V)(E:XK)(t:TA):TE:=fun σ H Q=>t σ H fun vs H1=>∀ x dx,H1 x=none→H1 dx=none→dx≠x→
 sp (.ref x::(vs++dvs)) (upd (upd H1 dx (.own x)) x (.ins C dx [])) (fun v H2=>v=.non∧Q (.ref x) H2) E
def Binds(K:PySem.W.Frag)(fd:FuncData)(ps:List Str)(ds:List Value):Prop:=
 ∀ (s:Shared) (us:List Value),K.In s.heap→(us++ds).length=ps.length→BindsTo s fd ⟨us,[]⟩ (ps.zip (us++ds))
theorem Binds.all{K:PySem.W.Frag}{fd:FuncData}{ps:List Str}(h:∀ us:List Value,us.length=ps.length→bindArgs fd ⟨us,[]⟩=pure (ps.zip us)):Binds K fd ps []:=fun s us _ hl=>by
 rw [laF] at hl ⊢
 exact .of_eq (h us hl)
def iO(CX:mM)(X:Cx)(E:XK):Prop:=∀ (pins:List (Addr×Obj)) (σ:St) (H:Hp) (s:Shared) (e:Value) (s':Shared),Inv X pins σ H s→CX X.stack H s E e s'→X.xe e s'
section
variable {X:Cx}{CX:mM}{k:Nat}{f C:Addr}{fd:FuncData}{ps:List Str}{sp:Sp}{dvs:List V}{ds:List Value}{E:XK}{x m:Str}{p pos apos:Pos}{e o:Expr}{es:List Expr}{ta:TE}{t:TA}
theorem oP{pins:List (Addr×Obj)}{σ:St}{H:Hp}{s:Shared}{Q:VK}{us:List Value}{vs:List V}(F:fg X.prog X.w X.K X.mg X.base CX k f fd ps sp)(hr:Room k X.A)(hb:Binds X.K fd ps ds)(hd:Vals dvs ds)(hx:iO CX X E)
  (I:Inv X pins σ H s)(r:Vals vs us)(h:sp (vs++dvs) H Q E):wpAny (model X.prog X.w) X.A (call (.ref f) us) (EP X pins σ Q) X.xe s:=by
 have r2:Vals (vs++dvs) (us++ds):=r.append hd
 have hl:(us++ds).length=ps.length:=by rw [← r2.length];exact F.len _ _ _ _ h
 refine wpAny_call (codeAny_mono (F.run X.A X.stack s H ⟨us,[]⟩ (us++ds) (vs++dvs) Q E hr I.env0 (hb s us I.kIn hl) r2 h) fun r s' hq=>?_)
 cases r with
 | error e=>exact hx pins σ H s e s' I hq
 | ok fl=>
  cases fl with
  | ret u=>exact I.after hq
  | next=>exact False.elim hq
  | brk=>exact False.elim hq
  | cont=>exact False.elim hq
theorem aP(F:fg X.prog X.w X.K X.mg X.base CX k f fd ps sp)(hr:Room k X.A)(hg:Gl X x)(hm:X.mg x=some (.ref f))(hk:PySem.W.keepIn X.K (.ref f)=true)(hb:Binds X.K fd ps ds)(hd:Vals dvs ds)(hx:iO CX X E)
  (ha:PA X (e::es) t)(hdb:(x==("__debug__":Str))=false:=by decide)(he:starEach (e::es) X.env=(false,eval e X.env)::starEach es X.env:=by rfl)(hpl:(backTo pos (starEach es X.env)).any (·.1)=false:=by rfl) :
  PE X (.Call (.Name x p) (e::es) [] pos) (bb sp dvs E t):=by
 intro pins s σ H Q I h
 refine wpAny_Call_Name_kw (p_ I hg hm ?_ hdb)
 refine PySem.W.callWith_K (h₀:=X.base) I.ok.mod.kin hk (bh (ha pos pins s σ H _ I h) fun us s1 ⟨vs,H1,I1,r,q⟩=>⟨I1.kIn,?_⟩) he hpl
 exact oP F hr hb hd hx I1 r q
theorem tz(F:fg X.prog X.w X.K X.mg X.base CX k f fd ps sp)(hr:Room k X.A)(hg:Gl X x)(hm:X.mg x=some (.ref f))(hk:PySem.W.keepIn X.K (.ref f)=true)(hb:Binds X.K fd ps ds)(hd:Vals dvs ds)(hx:iO CX X E)
  (hdb:(x==("__debug__":Str))=false:=by decide):PE X (.Call (.Name x p) [] [] pos) (bb sp dvs E al):=by
 intro pins s σ H Q I h
 refine wpAny_Call_Name_kw (p_ I hg hm ?_ hdb)
 exact PySem.W.callWith_K0 I.kIn hk (oP (us:=[]) F hr hb hd hx I .nil h)
theorem aZ{pl:Sem Bool}(he:PE X o ta)(c:Cls X.K C)(hm:cX X.K C m f)(F:fg X.prog X.w X.K X.mg X.base CX k f fd ps sp)(hr:Room k X.A)(hb:Binds X.K fd ps ds)(hd:Vals dvs ds)(hx:iO CX X E)(ha:PA X (e::es) t)
  (hst:starEach (e::es) X.env=(false,eval e X.env)::starEach es X.env:=by rfl)(hpl:(backTo pos (starEach es X.env)).any (·.1)=false:=by rfl)
  (ht:eval (.Call (.Attribute o m apos) (e::es) [] pos) X.env=(do
   let ov ← eval o X.env
   standAt apos.atName
   let (f,first) ← holding [ov] (getMethod ov m pl)
   callWith pos f first (backTo pos (starEach (e::es) X.env)) (backToKw pos (keywordEach [] X.env))):=by rfl) :
  PE X (.Call (.Attribute o m apos) (e::es) [] pos) (bj C m sp dvs E ta t):=by
 intro pins s σ H Q I h
 refine PySem.W.methodCall_KW (pl:=pl) (bh (he pins s σ H _ I h) fun u s1 ⟨x,H1,I1,rx,a,dx,fs,ex,ea,l,q⟩=>?_) ht
 subst ex
 obtain rfl:u=Value.ref a:=rx
 refine mo I1 ea c hm l ?_
 refine PySem.W.callWith_K (first:=[.ref a]) (h₀:=X.base) I.ok.mod.kin hm.kp (bh (ha pos pins s1 σ H1 _ I1 q) fun us s2 ⟨vs,H2,I2,r,q2⟩=>⟨I2.kIn,?_⟩) hst hpl
 exact oP (us:=.ref a::us) (vs:=.ref a::vs) F hr hb hd hx I2 (.cons rfl r) q2
theorem gJ{pl:Sem Bool}(he:PE X o ta)(c:Cls X.K C)(hm:cX X.K C m f)(F:fg X.prog X.w X.K X.mg X.base CX k f fd ps sp)(hr:Room k X.A)(hb:Binds X.K fd ps ds)(hd:Vals dvs ds)(hx:iO CX X E)
  (ht:eval (.Call (.Attribute o m apos) [] [] pos) X.env=(do
   let ov ← eval o X.env
   standAt apos.atName
   let (f,first) ← holding [ov] (getMethod ov m pl)
   callWith pos f first (backTo pos (starEach [] X.env)) (backToKw pos (keywordEach [] X.env))):=by rfl) :
  PE X (.Call (.Attribute o m apos) [] [] pos) (bj C m sp dvs E ta al):=by
 intro pins s σ H Q I h
 refine PySem.W.methodCall_KW (pl:=pl) (bh (he pins s σ H _ I h) fun u s1 ⟨x,H1,I1,rx,a,dx,fs,ex,ea,l,q⟩=>?_) ht
 subst ex
 obtain rfl:u=Value.ref a:=rx
 refine mo I1 ea c hm l ?_
 exact PySem.W.callWith_K0 (first:=[.ref a]) I1.kIn hm.kp (oP (us:=[.ref a]) (vs:=[.ref a]) F hr hb hd hx I1 (.cons rfl .nil) q)
structure Mk(K:PySem.W.Frag)(C f:Addr):Prop where
 makes:PySem.W.makesIn K C=true
 init:PySem.W.findIn K (.ref C) "__init__"=some (some (.ref f))
 fn:PySem.W.isFn K (.ref f)=true
 kp:PySem.W.keepIn K (.ref C)=true
theorem zh{pins:List (Addr×Obj)}{σ:St}{H:Hp}{s:Shared}{Q:VK}{us:List Value}{vs:List V}(M:Mk X.K C f)(F:fg X.prog X.w X.K X.mg X.base CX k f fd ps sp)(hr:Room (k+1) X.A)(hb:Binds X.K fd ps ds)(hd:Vals dvs ds)
  (hx:iO CX X E)(I:Inv X pins σ H s)(r:Vals vs us)
  (h:∀ x dx,H x=none→H dx=none→dx≠x→sp (.ref x::(vs++dvs)) (upd (upd H dx (.own x)) x (.ins C dx [])) (fun v H2=>v=.non∧Q (.ref x) H2) E) :
  wpAny (model X.prog X.w) X.A (call (.ref C) us) (EP X pins σ Q) X.xe s:=by
 have hq:=h (s.heap.objs.size+1) s.heap.objs.size (I.hok.fresh (Nat.le_succ _)) (I.hok.fresh (lat _)) (Nat.ne_of_lt (Nat.lt_succ_self _))
 have I2:=Inv.made (C:=C) I
 have r2:Vals (V.ref (s.heap.objs.size+1)::(vs++dvs)) (Value.ref (s.heap.objs.size+1)::(us++ds)):=.cons rfl (r.append hd)
 have hl:(Value.ref (s.heap.objs.size+1)::us++ds).length=ps.length:=by
  have e:=r2.length
  rw [F.len _ _ _ _ hq] at e
  exact e.symm
 refine wpAny_call (zz (f:=f) I.kIn M.makes M.init (beq_iff_eq.mp M.fn) (codeAny_mono (F.run _ X.stack _ _ ⟨Value.ref (s.heap.objs.size+1)::us,[]⟩ (Value.ref (s.heap.objs.size+1)::(us++ds)) _ _ E (hr.make C us [])
  (I2.env0.make C us []) (hb _ (Value.ref (s.heap.objs.size+1)::us) I2.kIn hl) r2 hq) fun r s' hq'=>?_))
 cases r with
 | error e=>exact hx pins σ _ _ e s' I2 hq'
 | ok fl=>
  cases fl with
  | ret u=>
   obtain ⟨v,H',I3,rv,ev,q3⟩:=I2.after hq'
   subst ev
   exact ⟨rv,⟨V.ref (s.heap.objs.size+1),H',I3,rfl,q3⟩⟩
  | next=>exact False.elim hq'
  | brk=>exact False.elim hq'
  | cont=>exact False.elim hq'
theorem qb(M:Mk X.K C f)(F:fg X.prog X.w X.K X.mg X.base CX k f fd ps sp)(hr:Room (k+1) X.A)(hg:Gl X x)(hm:X.mg x=some (.ref C))(hb:Binds X.K fd ps ds)(hd:Vals dvs ds)(hx:iO CX X E)
  (ha:PA X (e::es) t)(hdb:(x==("__debug__":Str))=false:=by decide)(he:starEach (e::es) X.env=(false,eval e X.env)::starEach es X.env:=by rfl)(hpl:(backTo pos (starEach es X.env)).any (·.1)=false:=by rfl) :
  PE X (.Call (.Name x p) (e::es) [] pos) (oS C sp dvs E t):=by
 intro pins s σ H Q I h
 refine wpAny_Call_Name_kw (p_ I hg hm ?_ hdb)
 refine PySem.W.callWith_K (h₀:=X.base) I.ok.mod.kin M.kp (bh (ha pos pins s σ H _ I h) fun us s1 ⟨vs,H1,I1,r,q⟩=>⟨I1.kIn,?_⟩) he hpl
 exact zh M F hr hb hd hx I1 r q
end
section
variable {X:Cx}{CX:mM}{k:Nat}{f C:Addr}{fd:FuncData}{ps ks:List Str}{sp:Sp}{E:XK}{x m:Str}{p pos apos kpos:Pos}{e o:Expr}{es:List Expr}{kws:List Keyword}{te ta:TE}{t tk:TA}{nm:Option Str}
variable {g:List Value→List Value→List Value}{gV:List V→List V→List V}
end
structure aI(N P:List Str)(sc:Scope):Prop where
 kind:sc.kind=.function
 co:sc.isCoroutine=false
 gen:sc.isGenerator=false
 nd:N.Nodup
 pre:N.take P.length=P
 par:∀ x∈P,sc.names.lookup x=some .local∨sc.names.lookup x=some .cell
 nofree:∀ y∈sc.names,y.2≠.free
theorem qq{kindOf:Str→Option NameKind}{x:Str}:∀ {binds:List (Str×Value)} {m:Str→Option Value},(∀ v,(x,v)∉binds)→bindL kindOf binds m x=m x
 | [],_,_=>rfl
 | (n,v)::r,m,h=>by
  unfold bindL
  rw [qq fun w hw=>h w (lac _ hw)]
  split
  ·have:x≠n:=by rintro rfl;exact h v List.mem_cons_self
   simp [this]
  ·rfl
theorem qE{kindOf:Str→Option NameKind}{x:Str}:∀ {binds:List (Str×Value)} {m:Str→Option Value},(∀ v,(x,v)∉binds)→bindC kindOf binds m x=m x
 | [],_,_=>rfl
 | (n,v)::r,m,h=>by
  unfold bindC
  rw [qE fun w hw=>h w (lac _ hw)]
  split
  ·rfl
  ·have:x≠n:=by rintro rfl;exact h v List.mem_cons_self
   simp [this]
theorem qC{kindOf:Str→Option NameKind}{x:Str}{v:Value}:∀ {P:List Str} {vs:List Value} {i:Nat} {m:Str→Option Value},P.Nodup→P[i]?=some x→vs[i]?=some v→kindOf x=some .local→
  bindL kindOf (P.zip vs) m x=some v
 | [],_,_,_,_,h,_,_=>by simp at h
 | _::_,[],_,_,_,_,h,_=>by simp at h
 | p::P,w::vs,0,m,nd,h1,h2,hk=>by
  simp at h1 h2;subst h1;subst h2
  show bindL kindOf ((p,w)::P.zip vs) m p=_
  unfold bindL
  rw [qq fun v hv=>(List.nodup_cons.mp nd).1 (List.of_mem_zip hv).1,if_pos hk]
  simp
 | p::P,w::vs,i+1,m,nd,h1,h2,hk=>by
  show bindL kindOf ((p,w)::P.zip vs) m x=_
  unfold bindL
  exact qC (i:=i) (List.nodup_cons.mp nd).2 (by simpa using h1) (by simpa using h2) hk
theorem qI{kindOf:Str→Option NameKind}{x:Str}{v:Value}:∀ {P:List Str} {vs:List Value} {i:Nat} {m:Str→Option Value},P.Nodup→P[i]?=some x→vs[i]?=some v→kindOf x≠some .local→
  bindC kindOf (P.zip vs) m x=some v
 | [],_,_,_,_,h,_,_=>by simp at h
 | _::_,[],_,_,_,_,h,_=>by simp at h
 | p::P,w::vs,0,m,nd,h1,h2,hk=>by
  simp at h1 h2;subst h1;subst h2
  show bindC kindOf ((p,w)::P.zip vs) m p=_
  unfold bindC
  rw [qE fun v hv=>(List.nodup_cons.mp nd).1 (List.of_mem_zip hv).1,if_neg hk]
  simp
 | p::P,w::vs,i+1,m,nd,h1,h2,hk=>by
  show bindC kindOf ((p,w)::P.zip vs) m x=_
  unfold bindC
  exact qI (i:=i) (List.nodup_cons.mp nd).2 (by simpa using h1) (by simpa using h2) hk
def start(N:List Str)(vs:List V):St:=vs.map some++List.replicate (N.length - vs.length) none
def bn(CX:mM)(P:Program)(w:World)(K:PySem.W.Frag)(mg:Str→Option Value)(base:Heap)(N:List Str)(qual:Str)(scope:Scope)(f:Addr)(cd:Value)(A:Around)(outer:List Env)(s:Shared)(H:Hp)(E:XK):Cx where
 prog:=P
 w:=w
 K:=K
 mg:=mg
 base:=base
 A:=A.deeper (envOfC qual scope s.heap.objs.size f cd)
 N:=N
 s₀:=s
 H₀:=H
 env:=envOfC qual scope s.heap.objs.size f cd
 outer:=outer
 stack:=envOfC qual scope s.heap.objs.size f cd::outer
 ex:=[]
 calm:=true
 fn:=fun _=>true
 pn:=[]
 xe:=fun e s'=>wpAny (model P w) (A.deeper (envOfC qual scope s.heap.objs.size f cd)) (leaving (envOfC qual scope s.heap.objs.size f cd) e) (fun _ s''=>CX outer H s E e s'') (fun e' s''=>CX outer H s E e' s'') s'
theorem rS{sc:Scope}{n:Nat}{x:Str}(h:sc.names.lookup x=some .cell):∃ c,(cellsFrom n sc.names []).lookup x=some c:=by
 have q:=PySem.W.cellsFrom_some sc.names n [] (.inl h)
 exact Option.isSome_iff_exists.mp q
theorem zb{CX:mM}{P:Program}{w:World}{K:PySem.W.Frag}{mg:Str→Option Value}{base:Heap}{N ps:List Str}{qual:Str}{scope:Scope}{f:Addr}{cd:Value}{A:Around}{outer:List Env}{s s1:Shared}{H:Hp}{E:XK}{us:List Value}{vs:List V}
  (S:aI N ps scope)(hd:A.handled=none)(e0:Env0 P w K mg base A outer s H)(hl:vs.length=ps.length)(r:Vals vs us)
  (x:InCallC s s.heap.objs.size (bindL (envOfC qual scope s.heap.objs.size f cd).kindOf (ps.zip us) fun _=>none) (cellsFrom (s.heap.objs.size+1) scope.names []) (bindC (envOfC qual scope s.heap.objs.size f cd).kindOf (ps.zip us) fun _=>none) s1) :
  Inv (bn CX P w K mg base N qual scope f cd A outer s H E) [] (start N vs) H s1:=by
 have hpl:ps.length≤N.length:=by have:=congrArg List.length S.pre;rw [lax] at this;omega
 obtain ⟨h1,tk,rfl,hk⟩:=x.done
 have noA:∀ b:Addr,b∉(bn CX P w K mg base N qual scope f cd A outer s H E).ex:=fun b z=>absurd (show b∈([]:List Addr) from z) (by simp)
 refine ⟨⟨e0.mod,S.kind,rfl,rfl,lat _,fun y z c h1 h2=>?_,fun y hy=>?_,fun y c _ h=>?_,fun _=>hd,Around.frames_deeper e0.frames,.inr ⟨rfl,rfl⟩,fun b z=>absurd z (noA b),e0.bs,e0.bsz,fun b _ _=>noA b,fun b z=>absurd z (noA b),e0.funs,e0.frf⟩,
  rfl,e0.bare,Un.kept hk,⟨_,x.toInCall.ns,fun i y v h1 h2 h3=>?_⟩,fun y c h=>⟨_,x.cell y c h⟩,e0.hok.fresh (lat _),fun y c h=>?_,fun p hp=>absurd (show p∈([]:List (Addr×Obj)) from hp) (by simp),e0.hok.kept hk,?_⟩
 ·exact name_of_addr x.apart (PySem.mem_of_lookup h1) (PySem.mem_of_lookup h2)
 ·have hy:scope.names.lookup y=some .cell∨scope.names.lookup y=some .free:=hy
  rcases hy with hy | hy
  ·exact rS hy
  ·exact absurd rfl (S.nofree _ (PySem.mem_of_lookup hy))
 ·exact Nat.le_of_lt (x.above y c (PySem.mem_of_lookup h))
 ·have hi:i<vs.length:=by
   unfold start at h2
   by_cases hi:i<vs.length
   ·exact hi
   ·rw [List.getElem?_append_right (by simpa using hi)] at h2
    rw [List.getElem?_replicate] at h2
    split at h2 <;> cases h2
  have ha:vs[i]?=some v:=by
   unfold start at h2
   rw [List.getElem?_append_left (by simpa using hi),lae] at h2
   cases e:vs[i]? with
   | none=>rw [e] at h2;cases h2
   | some a=>rw [e] at h2;cases h2;rfl
  obtain ⟨u,hu,rv⟩:=r.get ha
  have hp:ps[i]?=some y:=by
   rw [← S.pre,List.getElem?_take_of_lt (by omega)];exact h1
  have ndP:ps.Nodup:=by rw [← S.pre];exact S.nd.sublist (List.take_sublist _ _)
  refine ⟨u,rv,?_⟩
  rcases S.par y (lam hp) with k | k
  ·exact .inl ⟨k,qC ndP hp hu k⟩
  ·obtain ⟨c,e⟩:=rS (n:=s.heap.objs.size+1) k
   refine .inr ⟨.inl k,c,e,?_⟩
   have q:=x.cell y c e
   rw [qI ndP hp hu (by show scope.names.lookup y≠_;rw [k];decide)] at q
   exact q
 ·exact e0.hok.fresh (Nat.le_of_lt (x.above y c (PySem.mem_of_lookup h)))
 ·unfold start
  show _=N.length
  rw [laf,laa,List.length_replicate]
  omega
theorem Gd{CX:mM}{P:Program}{w:World}{K:PySem.W.Frag}{mg:Str→Option Value}{base:Heap}{k:Nat}{f:Addr}{name qual:Str}{params:Arguments}{body:List Stmt}{scope:Scope}{dV kV doc pm cdv ct oc:Value}{an od:Option Addr}
  {osl:Array (Option Value)}{N ps:List Str}{sp:Sp}(lk:K.lookup f=some ⟨oc,od,.func (PySem.W.fnOf name qual params body scope dV kV doc pm an cdv ct),osl⟩)(hcd:PySem.W.codeIn K cdv qual=true)(S:aI N ps scope)
  (len:∀ vs H Q E,sp vs H Q E→vs.length=ps.length)
  (hbody:∀ (A:Around) (outer:List Env) (s:Shared) (H:Hp) (vs:List V) (Q:VK) (E:XK),Room k (A.deeper (envOfC qual scope s.heap.objs.size f cdv))→sp vs H Q E→
   ∃ t,PSs (bn CX P w K mg base N qual scope f cdv A outer s H E) body t∧t { nx:=fun _ H'=>Q .non H',rt:=Q } (start N vs) H) :
  fg P w K mg base CX (k+1) f (PySem.W.fnOf name qual params body scope dV kV doc pm an cdv ct) ps sp:=by
 refine ⟨len,fun A outer s H args us vs Q E hr e0 hb r hsp=>?_⟩
 have hl:=len _ _ _ _ hsp
 have KX:K.In s.heap:=e0.mod.kin.keeps fun b o e=>(e0.bs b o e).1
 have lim:s.heap.NoLimit:=e0.mod.nolimit.keeps fun b o e=>(e0.bs b o e).1
 have hkind:∀ y∈ps.zip us,scope.names.lookup y.1=some .local∨(scope.names.lookup y.1=some .cell∧((cellsFrom (s.heap.objs.size+1) scope.names []).lookup y.1).isSome=true):=fun ⟨n,v⟩ hy=>by
  rcases S.par n (List.of_mem_zip hy).1 with q | q
  ·exact .inl q
  ·exact .inr ⟨q,PySem.W.cellsFrom_some _ _ _ (.inl q)⟩
 refine codeAny_call_function hr.depth (KX _ _ lk) rfl S.co S.gen rfl (PySem.W.codeRec_of KX hcd) (hb _ _ _ _ ?_)
 refine wpAny_newFunctionEnv_cells S.kind hkind fun env he s1 x=>?_
 subst he
 refine ⟨lim.keeps x.toInCall.keep,codeAny_func ?_⟩
 obtain ⟨t,ht,hq⟩:=hbody A outer s H vs Q E (hr.deeper _) hsp
 have I:Inv (bn CX P w K mg base N qual scope f cdv A outer s H E) [] (start N vs) H s1:=zb S hr.hd e0 hl r x
 refine wpAny_mono (ht [] s1 (start N vs) H _ I hq) (fun fl s' hs=>?_) fun e s' hs=>hs
 have fin:∀ {σ':St} {H':Hp} {v:V} {u:Value},Inv (bn CX P w K mg base N qual scope f cdv A outer s H E) [] σ' H' s'→RelV v u→Q v H'→CE outer P w H s Q u s':=
  fun {σ' H' v u} J rv q=>⟨v,H',J.os,J.bare,J.base,J.hok,rv,q⟩
 cases fl with
 | ret u=>
  obtain ⟨v,σ',H',J,rv,q⟩:=hs
  exact fin J rv q
 | next=>
  obtain ⟨σ',H',J,q⟩:=hs
  exact fin (v:=V.non) (u:=Value.none) J rfl q
 | brk=>
  obtain ⟨_,_,_,q⟩:=hs
  exact False.elim q
 | cont=>
  obtain ⟨_,_,_,q⟩:=hs
  exact False.elim q
end L2
namespace L2
open PySem PySem.Spec PyProof.Rows
section
variable {X:Cx}{x:Str}{p pos:Pos}{e:Expr}{es:List Expr}{t:TA}{id T:String}{r:List V→Hp→VK→Prop}
def b5(r:List V→Hp→VK→Prop)(t:TA):TE:=fun σ H Q=>t σ H fun vs H1=>r vs H1 Q
theorem aS(hc:iI X (.builtin id) r)(hg:Gl X x)(hm:X.mg x=none)(hv:bootBuiltins x=some (.builtin id))(ha:PA X (e::es) t)(hn:x≠"__name__":=by decide)(hdb:(x==("__debug__":Str))=false:=by decide)
  (he:starEach (e::es) X.env=(false,eval e X.env)::starEach es X.env:=by rfl) (hpl:(backTo pos (starEach es X.env)).any (·.1)=false:=by rfl):PE X (.Call (.Name x p) (e::es) [] pos) (b5 r t):=by
 intro pins s σ H Q I h
 refine wpAny_Call_Name_kw (oZ I hg hm hv ?_ hn hdb)
 exact PyProof.Rows.callWith_builtin1 (bh (ha pos pins s σ H _ I h) fun us s1 ⟨vs,H1,I1,r1,q1⟩=>hc pins s1 σ H1 vs us Q I1 r1 q1) he hpl
theorem dP(hc:iI X (.type T) r)(hg:Gl X x)(hm:X.mg x=none)(hv:bootBuiltins x=some (.type T))(ha:PA X (e::es) t)(hn:x≠"__name__":=by decide)(hdb:(x==("__debug__":Str))=false:=by decide)
  (he:starEach (e::es) X.env=(false,eval e X.env)::starEach es X.env:=by rfl) (hpl:(backTo pos (starEach es X.env)).any (·.1)=false:=by rfl):PE X (.Call (.Name x p) (e::es) [] pos) (b5 r t):=by
 intro pins s σ H Q I h
 refine wpAny_Call_Name_kw (oZ I hg hm hv ?_ hn hdb)
 exact PyProof.Rows.callWith_type1 (bh (ha pos pins s σ H _ I h) fun us s1 ⟨vs,H1,I1,r1,q1⟩=>hc pins s1 σ H1 vs us Q I1 r1 q1) he hpl
end
end L2
namespace HT
open PySem PyProof.Rows
section
open PySem.SeqAt
open PySem.AutoSeq1 (wpAny_loadPart')
open PySem.MeetsSeq PySem.MeetsSeq2 PySem.MeetsSeq3
end
section
variable {prog:Program}{w:World}{A:Around}{E:Value→Shared→Prop}{s:Shared}
def sIx(n d:Nat):Option Int→Nat
 | none=>d
 | some v=>if v<0 then (v+(n:Int)).toNat else min v.toNat n
theorem CV(n d:Nat)(hd:d≤n)(o:Option Int):sIx n d o≤n:=by
 cases o with
 | none=>exact hd
 | some v=>
  show (if v<0 then (v+(n:Int)).toNat else min v.toNat n)≤n
  by_cases hv:v<0
  ·rw [if_pos hv];omega
  ·rw [if_neg hv];exact Nat.min_le_right _ _
theorem u3(v:Int)(n d:Nat):(if v<0 then max (v+(n:Int)) 0 else min v (n:Int))=((sIx n d (some v):Nat):Int):=by
 show (if v<0 then max (v+(n:Int)) 0 else min v (n:Int))=(((if v<0 then (v+(n:Int)).toNat else min v.toNat n):Nat):Int)
 by_cases hv:v<0
 ·simp only [if_pos hv];omega
 ·simp only [if_neg hv];omega
theorem v9(lo hi:Option Int)(n:Nat):Builtin.Slice.sliceAdjust lo hi 1 (n:Int)=(((sIx n 0 lo:Nat):Int),((sIx n n hi:Nat):Int)):=by
 have h1:¬ ((1:Int)<0):=by omega
 unfold Builtin.Slice.sliceAdjust
 simp only [h1,if_false]
 refine Prod.ext ?_ ?_
 ·cases lo with
  | none=>rfl
  | some v=>exact u3 v n 0
 ·cases hi with
  | none=>rfl
  | some v=>exact u3 v n n
theorem vS(i j:Nat):Builtin.Slice.slicePlaces (i:Int) (j:Int) 1=j - i:=by
 unfold Builtin.Slice.slicePlaces
 have h1:(1:Int)>0:=by omega
 simp only [h1,if_true,Int.ediv_one]
 split <;> omega
theorem pi{v:Value}{o:Option Int}{Q:Option Int→Shared→Prop}(p:IsPart v o)(h:Q o s):wpAny (model prog w) A (Builtin.Slice.slicePartIndex v) Q E s:=by
 cases p with
 | none=>exact slicePart_none h
 | int i t=>exact slicePart_int h
theorem oq{sl:Addr}{vl vu:Value}{lo hi:Option Int}{n:Nat}{Q:Int×Int×Nat→Shared→Prop}(hs:s.heap.IsSliceOf sl vl vu .none)(pl:IsPart vl lo)(pu:IsPart vu hi)
  (h:Q (((sIx n 0 lo:Nat):Int),1,sIx n n hi - sIx n 0 lo) s):wpAny (model prog w) A (Builtin.Slice.sliceApplied (.ref sl) (pure (n:Int))) Q E s:=by
 obtain ⟨os,hos,hcs,hds⟩:=id hs
 unfold Builtin.Slice.sliceApplied Builtin.Slice.sliceFields
 refine wpAny_bind (wpAny_bind (wpAny_field hos hds (x:=vl) rfl (wpAny_bind (wpAny_field hos hds (x:=vu) rfl (wpAny_bind (wpAny_field hos hds (x:=.none) rfl (wpAny_pure ?_)))))))
 refine wpAny_bind (slicePart_none ?_)
 show wpAny _ _ (if ((1:Int)==0)=true then _ else _) _ _ s
 rw [if_neg (by decide)]
 refine wpAny_bind (pi pl (wpAny_bind (pi pu (wpAny_bind (wpAny_pure ?_)))))
 show wpAny _ _ (match Builtin.Slice.sliceAdjust lo hi 1 (n:Int) with | (lo,hi)=>pure (lo,(1:Int),Builtin.Slice.slicePlaces lo hi 1)) _ _ s
 rw [v9 lo hi n]
 show wpAny _ _ (pure (((sIx n 0 lo:Nat):Int),(1:Int),Builtin.Slice.slicePlaces ((sIx n 0 lo:Nat):Int) ((sIx n n hi:Nat):Int) 1)) _ _ s
 rw [vS]
 exact wpAny_pure h
theorem zN(xs:Array Value)(i k:Nat):((List.range k).filterMap fun (m:Nat)=>xs[((i:Int)+(m:Int)*1).toNat]?).toArray=((xs.toList.drop i).take k).toArray:=by
 have e:(fun (m:Nat)=>xs[((i:Int)+(m:Int)*1).toNat]?)=fun m=>xs[i+m]?:=by
  funext m
  have:((i:Int)+(m:Int)*1).toNat=i+m:=by omega
  rw [this]
 rw [e]
 have:=pick_run xs i k
 rw [List.filterMap_map] at this
 have e2:((fun x=>xs[x]?) ∘ fun x=>i+x)=fun m=>xs[i+m]?:=rfl
 rw [e2] at this
 rw [this]
theorem getItem_tuple_cut{t sl:Addr}{items:Array Value}{vl vu:Value}{lo hi:Option Int}{Q:Value→Shared→Prop}(ht:IsTup s.heap t items)(hs:s.heap.IsSliceOf sl vl vu .none)(pl:IsPart vl lo)(pu:IsPart vu hi)
  (hw:¬ (sIx items.size 0 lo=0∧sIx items.size items.size hi=items.size))
  (h:Q (.ref s.heap.objs.size) { s with heap:=s.heap.push { cls:=.type "tuple",data:=.seq ((items.toList.drop (sIx items.size 0 lo)).take (sIx items.size items.size hi - sIx items.size 0 lo)).toArray } })
  (hsz:items.size≤sizeLine):wpAny (model prog w) A (getItem (.ref t) (.ref sl)) Q E s:=by
 have htake:sizeOk (.seq ((items.toList.drop (sIx items.size 0 lo)).take (sIx items.size items.size hi - sIx items.size 0 lo)).toArray):=by
  show ((items.toList.drop (sIx items.size 0 lo)).take (sIx items.size items.size hi - sIx items.size 0 lo)).toArray.size≤sizeLine
  rw [laH,lax,List.length_drop,Array.length_toList]
  omega
 have hj:sIx items.size items.size hi≤items.size:=CV _ _ (lat _) hi
 obtain ⟨os,hos,hcs,hds⟩:=id hs
 have hTs:s.TypeIs (.ref sl) "slice":=⟨os,hos,hcs⟩
 unfold getItem
 try with_reducible refine wpAny_holding ?_
 first | refine wpAny_bind (wpAny_pure ?_) | skip
 refine wpAny_bind (wpAny_sequenceKey ht.typeIs (by decide) ?_)
 refine wpAny_bind (wpAny_callSpecial?_slot (name:=Str.ofString "__getitem__") ht.typeIs PyProof.Rows.slot_tuple_getitem
  (wpAny_call_entry PyProof.Rows.slot_tuple_getitem ht.typeIs entry_tuple_getitem ?_ (args_tuple_getitem _ _)))
 show wpAny _ _ (Builtin.Tuple.tupleItemsOf (.ref t) >>= _) _ _ s
 refine wpAny_bind (tupleItemsOf_ ht ?_)
 refine wpAny_bind (wpAny_typeOf hTs ?_)
 rw [if_pos (by decide)]
 refine wpAny_bind (oq hs pl pu ?_)
 have hno:¬ ((((sIx items.size 0 lo:Nat):Int)==0&&(1:Int)==1&&(sIx items.size items.size hi - sIx items.size 0 lo)==items.size)=true):=by
  intro q
  rw [Bool.and_eq_true,Bool.and_eq_true] at q
  have q1:((sIx items.size 0 lo:Nat):Int)=0:=eq_of_beq q.1.1
  have q2:sIx items.size items.size hi - sIx items.size 0 lo=items.size:=eq_of_beq q.2
  exact hw ⟨by omega,by omega⟩
 show wpAny _ _ (if (((sIx items.size 0 lo:Nat):Int)==0&&(1:Int)==1&&(sIx items.size items.size hi - sIx items.size 0 lo)==items.size)=true then _ else _) _ _ s
 rw [if_neg hno,zN]
 first
  | exact wpAny_bind (m:=Builtin.Tuple.tupleExact _) (wpAny_newObj_type (wpAny_pure ⟨_,rfl,wpAny_pure h⟩) htake)
  | exact wpAny_bind (m:=Builtin.Tuple.tupleExact _) (wpAny_newObj_type (wpAny_bind (wpAny_pure (wpAny_pure ⟨_,rfl,wpAny_pure h⟩))) htake)
  | exact wpAny_bind (wpAny_bind (m:=Builtin.Tuple.tupleExact _) (wpAny_newObj_type (wpAny_pure (wpAny_pure ⟨_,rfl,wpAny_pure h⟩)) htake))
  | exact wpAny_bind (wpAny_bind (m:=Builtin.Tuple.tupleExact _) (wpAny_newObj_type (wpAny_pure ⟨_,rfl,wpAny_pure h⟩) htake))
end
end HT
namespace L2
open PySem PySem.Spec PyProof.Rows
abbrev TO:=St→Hp→(Option Int→Hp→Prop)→Prop
def PO(X:Cx)(e:Option Expr)(t:TO):Prop:=
 ∀ (pins:List (Addr×Obj)) (s:Shared) (σ:St) (H:Hp) (Q:Option Int→Hp→Prop),Inv X pins σ H s→t σ H Q→
  wpAny (model X.prog X.w) X.A (evalPart e X.env) (fun u s'=>∃ o H',Inv X pins σ H' s'∧IsPart u o∧Q o H') X.xe s
def gP:TO:=fun _ H Q=>Q none H
def i3(t:TE):TO:=fun σ H Q=>t σ H fun x H1=>∃ i,x=.int i∧Q (some i) H1
section
variable {X:Cx}{e:Expr}{te:TE}{lo hi:Option Expr}{tl th:TO}{pos p2:Pos}
theorem j4:PO X none gP:=by
 intro pins s σ H Q I h
 rw [evalPart_none]
 exact wpAny_pure ⟨none,H,I,.none,h⟩
theorem gI(h:PE X e te):PO X (some e) (i3 te):=by
 intro pins s σ H Q I hw
 rw [evalPart_some]
 refine bh (h pins s σ H _ I hw) fun u s1 ⟨x,H1,I1,r1,q1⟩=>?_
 obtain ⟨i,rfl,q⟩:=q1
 obtain ⟨t,rfl⟩:=r1
 exact ⟨some i,H1,I1,.int i t,q⟩
def De(X:Cx)(r:V→Option Int→Option Int→Hp→VK→Prop):Prop:=
 ∀ (pins:List (Addr×Obj)) (s:Shared) (σ:St) (H:Hp) (x:V) (v vl vu:Value) (lo hi:Option Int) (sl:Addr) (Q:VK),Inv X pins σ H s→RelV x v→s.heap.IsSliceOf sl vl vu .none→IsPart vl lo→IsPart vu hi→r x lo hi H Q→
  ∃ T id,typeLookup (.type T) "__getitem__"=pure (some (.builtin id))∧s.TypeIs v T∧wpAny (model X.prog X.w) X.A (getItem v (.ref sl)) (EP X pins σ Q) X.xe s
def qR(r:V→Option Int→Option Int→Hp→VK→Prop)(te:TE)(tl th:TO):TE:=fun σ H Q=>te σ H fun x H1=>tl σ H1 fun l H2=>th σ H2 fun u H3=>r x l u H3 Q
theorem gN{r:V→Option Int→Option Int→Hp→VK→Prop}(hr:De X r)(he:PE X e te)(hl:PO X lo tl)(hu:PO X hi th):PE X (.Subscript e (.Slice lo hi none p2) pos) (qR r te tl th):=by
 intro pins s σ H Q I h
 refine Subscript_ (bh (he pins s σ H _ I h) fun v s1 ⟨x,H1,I1,r1,q1⟩=>?_)
 refine wpAny_Slice (bh (hl pins s1 σ H1 _ I1 q1) fun vl s2 ⟨l,H2,I2,pl,q2⟩=>bh (hu pins s2 σ H2 _ I2 q2) fun vu s3 ⟨u,H3,I3,pu,q3⟩=>?_)
 rw [evalPart_none]
 refine wpAny_pure ?_
 have I4:Inv X pins σ H3 { s3 with heap:=s3.heap.push { cls:=.type "slice",data:=.fields #[vl,vu,.none] } }:=I3.kept (t':=s3.toks) fun b ob q=>Heap.get?_push_of_some _ q
 obtain ⟨T,id,hT,ht,hg⟩:=hr pins { s3 with heap:=s3.heap.push { cls:=.type "slice",data:=.fields #[vl,vu,.none] } } σ H3 x v vl vu l u s3.heap.objs.size Q I4 r1 (Heap.IsSliceOf.new ..) pl pu q3
 show wpAny (model X.prog X.w) X.A (subscriptTail e (.Slice lo hi none p2) v (.ref s3.heap.objs.size)) (EP X pins σ Q) X.xe { s3 with heap:=s3.heap.push { cls:=.type "slice",data:=.fields #[vl,vu,.none] } }
 exact tail_any (ops:=[.ref s3.heap.objs.size,v]) ht hT hg (by with_unfolding_all rfl)
def iV(xs:List V)(lo hi:Option Int):List V:=(xs.drop (HT.sIx xs.length 0 lo)).take (HT.sIx xs.length xs.length hi - HT.sIx xs.length 0 lo)
theorem n8(xs:List V)(lo hi:Option Int):(iV xs lo hi).length≤xs.length:=by
 unfold iV
 rw [lax,List.length_drop]
 omega
def Dd(K:PySem.W.Frag):V→Option Int→Option Int→Hp→VK→Prop:=fun x lo hi H Q=>∃ a xs,x=.ref a∧fD K H a xs∧
 ¬ (HT.sIx xs.length 0 lo=0∧HT.sIx xs.length xs.length hi=xs.length)∧∀ p,H p=none→Q (.ref p) (upd H p (.tup (iV xs lo hi)))
theorem B9:De X (Dd X.K):=by
 intro pins s σ H x v vl vu lo hi sl Q I rx hs pl pu h
 obtain ⟨a,xs,rfl,hx,hw,q⟩:=h
 cases rx
 obtain ⟨its,r,ht,hz⟩:=I.tuple hx
 have hlen:its.toArray.size=xs.length:=by rw [laH];exact r.length.symm
 refine ⟨"tuple",_,PyProof.Rows.slot_tuple_getitem.lookup,ht.typeIs,?_⟩
 refine HT.getItem_tuple_cut ht hs pl pu (by rw [hlen];exact hw) ?_ (by rw [hlen];exact hz)
 rw [hlen]
 refine ⟨.ref s.heap.objs.size,_,I.laid (t':=s.toks) (o:=.tup (iV xs lo hi)) (fun b ob q=>Heap.get?_push_of_some _ q) (lat _) ?_,rfl,q _ (I.hok.fresh (lat _))⟩
 exact ⟨las (n8 xs lo hi) hz,_,(r.drop (HT.sIx xs.length 0 lo)).take (HT.sIx xs.length xs.length hi - HT.sIx xs.length 0 lo),IsTup.new _ _⟩
end
end L2
namespace L2
open PySem PySem.Spec PyProof.Rows
def mU(n:Nat)(i:Int):Option Nat:=if 0≤i then (if i<n then some i.toNat else none) else if -(n:Int)≤i then some (i+n).toNat else none
def gD{α:Type}(xs:List α)(i:Int):Option α:=(mU xs.length i).bind fun j=>xs[j]?
theorem vA{n:Nat}{i:Int}{j:Nat}(h:mU n i=some j):seqIndex? i n=some j∧j<n∧-(n:Int)≤i∧i<n:=by
 unfold mU at h
 by_cases h0:0≤i
 ·rw [if_pos h0] at h
  by_cases h1:i<n
  ·rw [if_pos h1] at h
   have e:i.toNat=j:=lan h
   exact ⟨by rw [seqIndex_of h0 h1,e],by omega,by omega,h1⟩
  ·rw [if_neg h1] at h;cases h
 ·rw [if_neg h0] at h
  by_cases h1:-(n:Int)≤i
  ·rw [if_pos h1] at h
   have e:(i+n).toNat=j:=lan h
   exact ⟨by rw [seqIndex_neg (by omega) h1,e],by omega,h1,by omega⟩
  ·rw [if_neg h1] at h;cases h
theorem vG{α:Type}{xs:List α}{i:Int}{v:α}(h:gD xs i=some v):∃ j,seqIndex? i xs.length=some j∧xs[j]?=some v∧j<xs.length∧-(xs.length:Int)≤i∧i<xs.length:=by
 unfold gD at h
 cases e:mU xs.length i with
 | none=>rw [e] at h;cases h
 | some j=>
  rw [e] at h
  obtain ⟨h1,h2,h3,h4⟩:=vA e
  exact ⟨j,h1,h,h2,h3,h4⟩
theorem cf{α:Type}{xs:List α}{j:Nat}{v:α}(h:xs[j]?=some v):gD xs (j:Int)=some v:=by
 have hj:j<xs.length:=(lab.mp h).1
 have e:mU xs.length (j:Int)=some j:=by
  unfold mU
  rw [if_pos (by omega),if_pos (by omega)];simp
 unfold gD;rw [e];exact h
theorem uA{α:Type}(xs:List α)(v:α):gD (xs++[v]) (-1)=some v:=by
 have hl:(xs++[v]).length=xs.length+1:=by simp
 have e:mU (xs++[v]).length (-1)=some xs.length:=by
  unfold mU
  rw [hl,if_neg (by decide),if_pos (by omega)]
  congr 1
  omega
 unfold gD
 rw [e]
 show (xs++[v])[xs.length]?=some v
 simp
def Bg(b:Expr):Prop:=∀ o i,subscripted b false o i=operate [o,i] (getItem o i)
def CT(X:Cx)(r:R2):Prop:=
 ∀ (value slice:Expr) (pins:List (Addr×Obj)) (s:Shared) (σ:St) (H:Hp) (x y:V) (v u:Value) (Q:VK),Inv X pins σ H s→RelV x v→RelV y u→r x y H Q→
  subscripted slice false v u=operate [v,u] (getItem v u)→wpAny (model X.prog X.w) X.A (subscriptTail value slice v u) (EP X pins σ Q) X.xe s
def Le(X:Cx)(id:String)(r:V→List V→Hp→VK→Prop):Prop:=
 ∀ (pins:List (Addr×Obj)) (s:Shared) (σ:St) (H:Hp) (x:V) (xs:List V) (v:Value) (us:List Value) (Q:VK),Inv X pins σ H s→RelV x v→Vals xs us→r x xs H Q→
  wpAny (model X.prog X.w) X.A (call (.builtin id) (v::us)) (EP X pins σ Q) X.xe s
section
variable {X:Cx}{a b:Expr}{ta tb:TE}{pos:Pos}
theorem aE{r:R2}(hr:CT X r)(ha:PE X a ta)(hb:PE X b tb)(hs:Bg b):PE X (.Subscript a b pos) (av r ta tb):=by
 intro pins s σ H Q I h
 exact Subscript_ (zk ha hb I h fun v u s2 x y H2 I2 rx ry q=>hr a b pins s2 σ H2 x y v u Q I2 rx ry q (hs _ _))
def bK(K:PySem.W.Frag):R2:=fun x y H Q=>∃ p xs i v,x=.ref p∧y=.int i∧SqL K H p xs∧gD xs i=some v∧Q v H
def bx(K:PySem.W.Frag):R2:=fun x y H Q=>∃ p xs i v,x=.ref p∧y=.int i∧fD K H p xs∧gD xs i=some v∧Q v H
theorem aY:CT X (bK X.K):=by
 intro value slice pins s σ H x y v u Q I rx ry h hs
 obtain ⟨p,xs,i,z,rfl,rfl,hq,he,q⟩:=h
 cases rx
 obtain ⟨t,rfl⟩:=ry
 obtain ⟨its,r,pl,hz⟩:=I.list hq
 obtain ⟨j,h1,h2,h3,h4,h5⟩:=vG he
 obtain ⟨w,ew,rw'⟩:=r.get h2
 have hl:=r.length
 have hn:=o5
 have fin:EP X pins σ Q w s:=⟨z,H,I,rw',q⟩
 by_cases h0:0≤i
 ·have hj:i.toNat=j:=by
   rw [seqIndex_of h0 h5] at h1
   exact lan h1
  exact item_listR pl.isList h0 (by omega) (by rw [hj];simpa using ew) fin hs
 ·have hj:(i+(its.toArray.size:Int)).toNat=j:=by
   rw [seqIndex_neg (by omega) h4] at h1
   rw [laH,← hl]
   exact lan h1
  exact subscriptTail_builtinR (x:=w) pl.isList.typeIs slot_list_getitem.lookup
   (wpAny_getItem_list_neg (Q:=fun r s'=>r=w∧EP X pins σ Q r s') pl.isList (by omega) (by rw [laH] <;> omega) (by omega) (by rw [hj];simpa using ew) ⟨rfl,fin⟩) hs
theorem aX:CT X (bx X.K):=by
 intro value slice pins s σ H x y v u Q I rx ry h hs
 obtain ⟨p,xs,i,z,rfl,rfl,hq,he,q⟩:=h
 cases rx
 obtain ⟨t,rfl⟩:=ry
 obtain ⟨its,r,pl,hz⟩:=I.tuple hq
 obtain ⟨j,h1,h2,h3,h4,h5⟩:=vG he
 obtain ⟨w,ew,rw'⟩:=r.get h2
 have hl:=r.length
 have hn:=o5
 have fin:EP X pins σ Q w s:=⟨z,H,I,rw',q⟩
 exact subscriptTail_builtinR (x:=w) pl.typeIs slot_tuple_getitem.lookup
  (getItem_tuple (j:=j) (Q:=fun r s'=>r=w∧EP X pins σ Q r s') pl (by omega) (by omega) (by rw [laH,← hl];exact h1) (by simpa using ew) ⟨rfl,fin⟩) hs
theorem vP(its:List Value)(n j:Nat)(u:Value):Obj.mapSeq (·.setIfInBounds j u) { cls:=.type "list",data:=.seq its.toArray n }={ cls:=.type "list",data:=.seq (its.set j u).toArray n }:=by
 simp [Obj.mapSeq]
theorem Inv.lst{pins:List (Addr×Obj)}{σ:St}{H:Hp}{s:Shared}{p:Addr}{xs:List V}(I:Inv X pins σ H s)(h:H p=some (.lst xs)) :
  ∃ (its:List Value) (n:Nat),Vals xs its∧s.heap.get? p=some { cls:=.type "list",data:=.seq its.toArray n }∧xs.length≤sizeLine:=by
 obtain ⟨z,its,n,r,e⟩:=I.hok p _ h
 exact ⟨its,n,r,e,z⟩
theorem Inv.lstUpd{pins:List (Addr×Obj)}{σ:St}{H:Hp}{s:Shared}{p:Addr}{xs ys:List V}{its its':List Value}{n n':Nat}{f:Obj→Obj}(I:Inv X pins σ H s)(h:H p=some (.lst xs))
  (ho:s.heap.get? p=some { cls:=.type "list",data:=.seq its.toArray n })(hf:f { cls:=.type "list",data:=.seq its.toArray n }={ cls:=.type "list",data:=.seq its'.toArray n' })(r:Vals ys its')(hz:ys.length≤sizeLine)(t:Nat) :
  Inv X pins σ (upd H p (.lst ys)) { s with heap:=s.heap.update p f,toks:=t }:=by
 have e:(s.heap.update p f).get? p=some { cls:=.type "list",data:=.seq its'.toArray n' }:=by
  rw [Heap.get?_update_self f ho (by rw [hf] <;> rfl),hf]
 refine I.write (x:=p) (e:=p) (by rw [h];trivial) (.inl rfl) (fun b u hb q=>(Heap.get?_update_other _ _ (Ne.symm hb)).trans q) ⟨_,e⟩ ?_
 exact ⟨hz,its',n',r,e⟩
def ms:V→V→V→Hp→(Hp→Prop)→Prop:=fun o i v H Q=>∃ p xs k j,o=.ref p∧i=.int k∧H p=some (.lst xs)∧mU xs.length k=some j∧Q (upd H p (.lst (xs.set j v)))
theorem jg:Cg X ms:=by
 intro pins s σ H o i v ov iv u Q I ro ri rv h
 obtain ⟨p,xs,k,j,rfl,rfl,hp,hj,q⟩:=h
 cases ro
 obtain ⟨t,rfl⟩:=ri
 obtain ⟨its,n,r,ho,hz⟩:=I.lst hp
 obtain ⟨h1,h2,h3,h4⟩:=vA hj
 have hl:=r.length
 have hn:=o5
 have I':Inv X pins σ (upd H p (.lst (xs.set j v))) { s with heap:=s.heap.update p (Obj.mapSeq (·.setIfInBounds j u)) }:=
  I.lstUpd hp ho (vP its n j u) (r.set rv j) (by rw [List.length_set];exact hz) s.toks
 by_cases h0:0≤k
 ·have hk:k.toNat=j:=by
   rw [seqIndex_of h0 h4] at h1
   exact lan h1
  exact PySem.W.ki_setAt ho h0 (by omega) (by rw [laH,← hl];exact h4) (by rw [hk];exact ⟨_,I',q⟩)
 ·have hk:(k+(its.toArray.size:Int)).toNat=j:=by
   rw [seqIndex_neg (by omega) h3] at h1
   rw [laH,← hl]
   exact lan h1
  exact PySem.W.ki_setBack ho (by omega) (by rw [laH,← hl];exact h3) (by omega) (by rw [hk];exact ⟨_,I',q⟩)
theorem su(lo hi:Option Int)(n:Nat):(sliceBounds lo hi none n).1=((HT.sIx n 0 lo:Nat):Int)∧(sliceBounds lo hi none n).2.1=((HT.sIx n n hi:Nat):Int)∧(sliceBounds lo hi none n).2.2=1:=by
 refine ⟨?_,?_,rfl⟩
 ·cases lo with
  | none=>simp [sliceBounds,HT.sIx]
  | some i=>
   simp only [sliceBounds,HT.sIx,Option.getD_none,show (1:Int)>0 by decide,if_true]
   by_cases h:i<0
   ·simp only [h,if_true] <;> omega
   ·simp only [h,if_false] <;> omega
 ·cases hi with
  | none=>simp [sliceBounds,HT.sIx]
  | some i=>
   simp only [sliceBounds,HT.sIx,Option.getD_none,show (1:Int)>0 by decide,if_true]
   by_cases h:i<0
   ·simp only [h,if_true] <;> omega
   ·simp only [h,if_false] <;> omega
theorem qW(its:List Value)(lo hi:Option Int):slicePick its.toArray lo hi none=((its.drop (HT.sIx its.length 0 lo)).take (HT.sIx its.length its.length hi - HT.sIx its.length 0 lo)).toArray:=by
 obtain ⟨h1,h2,h3⟩:=su lo hi its.toArray.size
 unfold slicePick
 rw [h1,h2,h3]
 simp only [sliceRange_one,pick_run,List.size_toArray] <;> rfl
def ow(K:PySem.W.Frag):V→Option Int→Option Int→Hp→VK→Prop:=fun x lo hi H Q=>∃ a xs,x=.ref a∧SqL K H a xs∧∀ p,H p=none→Q (.ref p) (upd H p (.lst (iV xs lo hi)))
theorem jY:De X (ow X.K):=by
 intro pins s σ H x v vl vu lo hi sl Q I rx hs pl pu h
 obtain ⟨a,xs,rfl,hx,q⟩:=h
 cases rx
 obtain ⟨its,r,ht,hz⟩:=I.list hx
 have hlen:=r.length
 refine ⟨"list",_,slot_list_getitem.lookup,ht.isList.typeIs,?_⟩
 refine wpAny_getItem_list_slice ht.isList hs pl pu .none (by simp) ?_ (by rw [laH] <;> omega)
 rw [qW,← hlen]
 refine ⟨.ref s.heap.objs.size,_,I.laid (t':=s.toks) (o:=.lst (iV xs lo hi)) (fun b ob q=>Heap.get?_push_of_some _ q) (lat _) ?_,rfl,q _ (I.hok.fresh (lat _))⟩
 exact ⟨las (n8 xs lo hi) hz,_,0,(r.drop (HT.sIx xs.length 0 lo)).take (HT.sIx xs.length xs.length hi - HT.sIx xs.length 0 lo),Heap.get?_push_size _ rfl⟩
def e9:V→Bool
 | .non=>true
 | .bl _=>true
 | .int _=>true
 | .str _=>true
 | _=>false
def qz:V→V→Bool
 | .non,.non=>true
 | .bl a,.bl b=>a==b
 | .bl a,.int b=>(if a then 1 else 0)==b
 | .int a,.bl b=>a==(if b then 1 else 0)
 | .int a,.int b=>a==b
 | .str a,.str b=>a==b
 | _,_=>false
theorem DA{A:Around}{s:Shared}{y x:V}{u v:Value}(ry:RelV y u)(rx:RelV x v)(fy:e9 y=true)(fx:e9 x=true):SeqAt.EqAt A s u v (qz y x):=by
 cases y with
 | non=>
  cases ry
  cases x with
  | non=>cases rx;exact SeqAt.EqAt.same _
  | bl b=>cases rx;exact SeqAt.EqAt.none_bool b
  | int b=>obtain ⟨t,rfl⟩:=rx;exact SeqAt.EqAt.none_int b t
  | str b=>obtain ⟨t,rfl⟩:=rx;exact SeqAt.EqAt.none_str b t
  | _=>exact absurd (show false=true from fx) lau
 | bl a=>
  cases ry
  cases x with
  | non=>cases rx;exact SeqAt.EqAt.bool_none a
  | bl b=>cases rx;exact SeqAt.EqAt.bool_bool a b
  | int b=>obtain ⟨t,rfl⟩:=rx;exact SeqAt.EqAt.bool_int a b t
  | str b=>obtain ⟨t,rfl⟩:=rx;exact SeqAt.EqAt.bool_str a b t
  | _=>exact absurd (show false=true from fx) lau
 | int a=>
  obtain ⟨t',rfl⟩:=ry
  cases x with
  | non=>cases rx;exact SeqAt.EqAt.int_none a t'
  | bl b=>cases rx;exact SeqAt.EqAt.int_bool a t' b
  | int b=>obtain ⟨t,rfl⟩:=rx;exact SeqAt.EqAt.int_int a t' b t
  | str b=>obtain ⟨t,rfl⟩:=rx;exact SeqAt.EqAt.int_str a t' b t
  | _=>exact absurd (show false=true from fx) lau
 | str a=>
  obtain ⟨t',rfl⟩:=ry
  cases x with
  | non=>cases rx;exact SeqAt.EqAt.str_none a t'
  | bl b=>cases rx;exact SeqAt.EqAt.str_bool a t' b
  | int b=>obtain ⟨t,rfl⟩:=rx;exact SeqAt.EqAt.str_int a t' b t
  | str b=>obtain ⟨t,rfl⟩:=rx;exact SeqAt.EqAt.str_str a t' b t
  | _=>exact absurd (show false=true from fx) lau
 | _=>exact absurd (show false=true from fy) lau
def jk(x:V)(u:Value):Bool:=match u with
 | .none=>qz .non x
 | .bool b=>qz (.bl b) x
 | .int i _=>qz (.int i) x
 | .str z _=>qz (.str z) x
 | _=>false
theorem yb{x y:V}{u:Value}(r:RelV y u)(f:e9 y=true):jk x u=qz y x:=by
 cases y with
 | non=>cases r;rfl
 | bl b=>cases r;rfl
 | int i=>obtain ⟨t,rfl⟩:=r;rfl
 | str z=>obtain ⟨t,rfl⟩:=r;rfl
 | _=>exact absurd (show false=true from f) lau
theorem j'{x:V}:∀ {xs:List V} {us:List Value},Vals xs us→xs.all e9=true→us.any (jk x)=xs.any fun y=>qz y x
 | _,_,.nil,_=>rfl
 | y::xs,u::us,.cons r t,f=>by
  rw [List.all_cons,Bool.and_eq_true] at f
  rw [List.any_cons,List.any_cons,yb r f.1,j' t f.2]
theorem jq{A:Around}{s:Shared}{x:V}{v:Value}(rx:RelV x v)(fx:e9 x=true):∀ {xs:List V} {us:List Value},Vals xs us→xs.all e9=true→∀ u∈us,SeqAt.EqAt A s u v (jk x u)
 | _,_,.nil,_=>fun u hu=>by cases hu
 | y::xs,u::us,.cons r t,f=>fun u' hu=>by
  rw [List.all_cons,Bool.and_eq_true] at f
  rcases List.mem_cons.mp hu with rfl | hu
  ·rw [yb r f.1];exact DA r rx f.1 fx
  ·exact jq rx fx t f.2 u' hu
def d9(x:V)(xs:List V):Bool:=xs.any fun y=>qz y x
def iY(K:PySem.W.Frag)(neg:Bool):R2:=fun x y H Q=>∃ p xs,y=.ref p∧(SqL K H p xs∨fD K H p xs)∧e9 x=true∧xs.all e9=true∧Q (.bl (if neg then !d9 x xs else d9 x xs)) H
theorem eh:eO X (compareOp .In) (iY X.K false):=by
 intro pins s σ H x y v u Q I rx ry h
 obtain ⟨p,xs,rfl,hq,fx,fs,q⟩:=h
 cases ry
 rcases hq with hq | hq
 ·obtain ⟨its,r,pl,hz⟩:=I.list hq
  refine SeqAt.in_listAt (jk x) pl.isList (fun w hw=>jq rx fx r fs w (by simpa using hw)) ⟨.bl _,H,I,rfl,?_⟩
  rw [show its.toArray.any (jk x)=its.any (jk x) by simp,j' r fs]
  exact q
 ·obtain ⟨its,r,pl,hz⟩:=I.tuple hq
  refine SeqAt.in_tupleAt (jk x) pl (fun w hw=>jq rx fx r fs w (by simpa using hw)) ⟨.bl _,H,I,rfl,?_⟩
  rw [show its.toArray.any (jk x)=its.any (jk x) by simp,j' r fs]
  exact q
theorem jh:eO X (compareOp .NotIn) (iY X.K true):=by
 intro pins s σ H x y v u Q I rx ry h
 obtain ⟨p,xs,rfl,hq,fx,fs,q⟩:=h
 cases ry
 rcases hq with hq | hq
 ·obtain ⟨its,r,pl,hz⟩:=I.list hq
  refine SeqAt.notIn_listAt (jk x) pl.isList (fun w hw=>jq rx fx r fs w (by simpa using hw)) ⟨.bl _,H,I,rfl,?_⟩
  rw [show its.toArray.any (jk x)=its.any (jk x) by simp,j' r fs]
  exact q
 ·obtain ⟨its,r,pl,hz⟩:=I.tuple hq
  refine SeqAt.notIn_tupleAt (jk x) pl (fun w hw=>jq rx fx r fs w (by simpa using hw)) ⟨.bl _,H,I,rfl,?_⟩
  rw [show its.toArray.any (jk x)=its.any (jk x) by simp,j' r fs]
  exact q
theorem aU:iI X (.builtin "len") (fun xs H Q=>∃ p ys,xs=[.ref p]∧(SqL X.K H p ys∨fD X.K H p ys)∧Q (.int ys.length) H):=by
 intro pins s σ H xs us Q I r h
 obtain ⟨p,ys,rfl,hq,q⟩:=h
 obtain ⟨u,rfl,rx⟩:=kQ r
 cases rx
 have hn:=o5
 rcases hq with hq | hq
 ·obtain ⟨its,r',pl,hz⟩:=I.list hq
  have hlen:=r'.length
  exact Calls.call_len_list pl.isList (by simp only [List.size_toArray] <;> omega) ⟨.int ys.length,H,I.tok _,⟨s.toks+1,by rw [laH,hlen]⟩,q⟩
 ·obtain ⟨its,r',pl,hz⟩:=I.tuple hq
  have hlen:=r'.length
  exact len_tuple pl (by simp only [List.size_toArray] <;> omega) ⟨.int ys.length,H,I.tok _,⟨s.toks+1,by rw [laH,hlen]⟩,q⟩
theorem gy:iI X (.type "list") (fun xs H Q=>∃ p ys,xs=[.ref p]∧(SqL X.K H p ys∨fD X.K H p ys)∧∀ l,H l=none→Q (.ref l) (upd H l (.lst ys))):=by
 intro pins s σ H xs us Q I r h
 obtain ⟨p,ys,rfl,hq,q⟩:=h
 obtain ⟨u,rfl,rx⟩:=kQ r
 cases rx
 have fin:∀ (its:List Value),Vals ys its→ys.length≤sizeLine→∀ (h':Heap) (c':Nat),(∀ b o',s.heap.get? b=some o'→h'.get? b=some o')→
   h'.get? s.heap.objs.size=some { cls:=.type "list",dict:=none,data:=.seq its.toArray c',slots:=#[] }→EP X pins σ Q (.ref s.heap.objs.size) { s with heap:=h' }:=fun its r' hz h' c' kp e=>
  ⟨.ref s.heap.objs.size,_,I.laid (t':=s.toks) kp (lat _) (show ObjOk X.prog X.w _ h' _ (.lst ys) from ⟨hz,its,c',r',e⟩),rfl,q _ (I.hok.fresh (lat _))⟩
 rcases hq with hq | hq
 ·obtain ⟨its,r',pl,hz⟩:=I.list hq
  have hlen:=r'.length
  obtain ⟨o,ho,hc,n,hd⟩:=pl.isList
  exact call_list_seq p (.inl rfl) ho hc hd (fun h' c' kp e=>fin its r' hz h' c' kp e) (by simp only [List.size_toArray] <;> omega)
 ·obtain ⟨its,r',pl,hz⟩:=I.tuple hq
  have hlen:=r'.length
  obtain ⟨o,ho,hc,n,hd⟩:=pl
  exact call_list_seq p (.inr rfl) ho hc hd (fun h' c' kp e=>fin its r' hz h' c' kp e) (by simp only [List.size_toArray] <;> omega)
def AC(K:PySem.W.Frag)(T:String)(x:V)(H:Hp):Prop:=match x with
 | .str _=>T="str"
 | .int _=>T="int"
 | .ref p=>(T="list"∧∃ xs,SqL K H p xs)∨(T="tuple"∧∃ o,K.lookup p=some o∧o.cls=.type "tuple"∧o.dict=none)∨
   (T="dict"∧((∃ kvs,H p=some (.dK kvs))∨∃ kvs,H p=some (.dT kvs)))∨(T="set"∧∃ S n,H p=some (.set S n))
 | _=>False
theorem CY{pins:List (Addr×Obj)}{σ:St}{H:Hp}{s:Shared}{T:String}{x:V}{v:Value}(I:Inv X pins σ H s)(r:RelV x v)(ty:AC X.K T x H) :
  s.TypeIs v T∧∀ a,v=.ref a→∃ ob,s.heap.get? a=some ob∧ob.dict=none:=by
 cases x with
 | str z=>
  obtain ⟨t,rfl⟩:=r
  cases (show T="str" from ty)
  exact ⟨typeIs_str s z t,fun _ e=>nomatch e⟩
 | int i=>
  obtain ⟨t,rfl⟩:=r
  cases (show T="int" from ty)
  exact ⟨typeIs_int s i t,fun _ e=>nomatch e⟩
 | ref p=>
  cases r
  rcases ty with ⟨rfl,xs,hq⟩ | ⟨rfl,o,hk,hc,hd⟩ | ⟨rfl,hk⟩ | ⟨rfl,S,n,hk⟩
  ·obtain ⟨its,_,pl,_⟩:=I.list hq
   refine ⟨pl.isList.typeIs,fun a e=>?_⟩
   cases e
   obtain ⟨o,n,e,c,hd,_⟩:=pl
   exact ⟨o,e,hd⟩
  ·refine ⟨⟨o,I.kIn p o hk,hc⟩,fun a e=>?_⟩
   cases e
   exact ⟨o,I.kIn _ o hk,hd⟩
  ·have z:∃ o,s.heap.get? p=some o∧o.ExactDict:=by
    rcases hk with ⟨kvs,hk⟩ | ⟨kvs,hk⟩
    ·obtain ⟨_,_,_,_,o,_,_,e,ex,_⟩:=I.hok p _ hk
     exact ⟨o,e,ex⟩
    ·obtain ⟨_,_,_,_,o,_,_,e,ex,_⟩:=I.hok p _ hk
     exact ⟨o,e,ex⟩
   obtain ⟨o,e,ex⟩:=z
   refine ⟨⟨o,e,ex.1⟩,fun a e2=>?_⟩
   cases e2
   exact ⟨o,e,ex.2.1⟩
  ·obtain ⟨o,_,_,_,e,ex,_⟩:=I.hok p _ hk
   refine ⟨⟨o,e,ex.1⟩,fun a e2=>?_⟩
   cases e2
   exact ⟨o,e,ex.2.1⟩
 | _=>exact False.elim ty
def e_(K:PySem.W.Frag)(T:String)(r:V→List V→Hp→VK→Prop)(to:TE)(t:TA):TE:=fun σ H Q=>to σ H fun x H1=>AC K T x H1∧t σ H1 fun xs H2=>r x xs H2 Q
variable {o e:Expr}{es:List Expr}{to:TE}{t:TA}{name:Str}{apos cpos:Pos}{T id:String}{r:V→List V→Hp→VK→Prop}
theorem dm(pa:PlainAttrs T)(slot:Slot T name id)(hty:typeOf (.builtin id)=pure (.type "method_descriptor"))(hm:Le X id r)(ho:PE X o to)(ha:PA X (e::es) t)
  (hbase:attributeBase o name X.env (eval o X.env)=eval o X.env:=by rfl)
  (hfew:((backTo cpos (starEach (e::es) X.env)).all (fun x=>!x.1)&&(backToKw cpos (keywordEach [] X.env)).all (fun x=>x.1.isSome)
   && decide ((e::es).length+([]:List Keyword).length+(if ([]:List Keyword).isEmpty then 0 else 1)<30))=true:=by rfl)
  (hline:(apos.endLine==cpos.line)=true:=by rfl) (hs:starEach (e::es) X.env=(false,eval e X.env)::starEach es X.env:=by rfl) (hplain:(backTo cpos (starEach es X.env)).any (·.1)=false:=by rfl) :
  PE X (.Call (.Attribute o name apos) (e::es) [] cpos) (e_ X.K T r to t):=by
 intro pins s σ H Q I h
 refine wpAny_Call_method_late hbase hfew hline rfl (bh (ho pins s σ H _ I h) fun v s1 ⟨x,H1,I1,r1,ty,q1⟩=>?_)
 obtain ⟨h1,h2⟩:=CY I1 r1 ty
 refine ⟨T,id,pa,slot,hty,h1,h2,?_⟩
 have hA:=ha cpos pins s1 σ H1 _ I1 q1
 rw [hs] at hA ⊢
 refine Calls.callWith_builtin (by show (false||(backTo cpos (starEach es X.env)).any (·.1))=false;rw [hplain] <;> rfl) (Calls.evalArgs_plain ?_)
 exact bh hA fun us s2 ⟨vs,H2,I2,r2,q2⟩=>hm pins s2 σ H2 x vs v us Q I2 r1 r2 q2
end
end L2
namespace L2
open PySem PySem.Spec PyProof.Rows
def IE(X:Cx)(id:String)(r:V→List V→Hp→VK→Prop):Prop:=
 ∀ (pins:List (Addr×Obj)) (s:Shared) (σ:St) (H:Hp) (x:V) (xs:List V) (v:Value) (us:List Value) (Q:VK),Inv X pins σ H s→RelV x v→Vals xs us→r x xs H Q→
  wpAny (model X.prog X.w) X.A (call (.builtin id) (v::us)) (EP X pins σ Q) X.xe s
theorem Vals.one:∀ {x:V} {us:List Value},Vals [x] us→∃ u,us=[u]∧RelV x u
 | _,_,.cons r .nil=>⟨_,rfl,r⟩
theorem Vals.two:∀ {x y:V} {us:List Value},Vals [x,y] us→∃ u v,us=[u,v]∧RelV x u∧RelV y v
 | _,_,_,.cons r (.cons q .nil)=>⟨_,_,rfl,r,q⟩
theorem Vals.rep{xs:List V}{us:List Value}(h:Vals xs us):∀ k:Nat,Vals (List.replicate k xs).flatten (List.replicate k us).flatten
 | 0=>.nil
 | k+1=>by
  rw [List.replicate_succ,List.replicate_succ,List.flatten_cons,List.flatten_cons]
  exact Vals.append h (Vals.rep h k)
theorem qA(its:List Value):∀ (k:Nat) (acc:List Value),
  List.foldl (fun x1 x2=>x1++x2) acc.toArray (List.replicate k its.toArray)=(acc++(List.replicate k its).flatten).toArray
 | 0,acc=>by simp
 | k+1,acc=>by
  have e:acc.toArray++its.toArray=(acc++its).toArray:=by simp
  have e2:(acc++its)++(List.replicate k its).flatten=acc++(List.replicate (k+1) its).flatten:=by
   rw [List.replicate_succ,List.flatten_cons,List.append_assoc]
  rw [← e2,← qA its k (acc++its),← e,List.replicate_succ,List.foldl_cons]
section
variable {X:Cx}{pins:List (Addr×Obj)}{σ:St}{H:Hp}{s:Shared}{l b:Addr}{xs ys zs:List V}
theorem Inv.lset{its its':List Value}{n:Nat}{f:Array Value→Array Value}{t':Nat}(I:Inv X pins σ H s)(hH:H l=some (.lst xs))
  (e:s.heap.get? l=some { cls:=.type "list",data:=.seq its.toArray n })(hf:f its.toArray=its'.toArray)(hv:Vals ys its')(hz:ys.length≤sizeLine) :
  Inv X pins σ (upd H l (.lst ys)) { s with heap:=s.heap.update l (Obj.mapSeq f),toks:=t' }:=by
 have q:=PySem.IsL.update e f
 rw [hf] at q
 refine I.write (x:=l) (e:=l) (by rw [hH];exact trivial) (.inl rfl) (fun b' u hb hu=>(Heap.get?_update_other s.heap (Obj.mapSeq f) (Ne.symm hb)).trans hu) ⟨_,q⟩ ?_
 exact ⟨hz,its',_,hv,q⟩
theorem Inv.lnew{its:List Value}{t':Nat}(I:Inv X pins σ H s)(hv:Vals ys its)(hz:ys.length≤sizeLine) :
  Inv X pins σ (upd H s.heap.objs.size (.lst ys)) { s with heap:=s.heap.push { cls:=.type "list",data:=.seq its.toArray },toks:=t' }:=
 I.laid (fun _ _ q=>Heap.get?_push_of_some _ q) (lat _) ⟨hz,its,0,hv,Heap.get?_push_size _ rfl⟩
theorem Inv.fresh(I:Inv X pins σ H s):H s.heap.objs.size=none:=I.hok.fresh (lat _)
theorem Inv.lstM(I:Inv X pins σ H s)(hH:H l=some (.lst xs)):xs.length≤sizeLine∧∃ (its:List Value) (n:Nat),Vals xs its∧xs.length=its.length∧s.heap.get? l=some { cls:=.type "list",data:=.seq its.toArray n }:=by
 obtain ⟨z,its,n,r,e⟩:=I.hok l _ hH
 exact ⟨z,its,n,r,r.length,e⟩
theorem tD{n:Nat}(h:n≤sizeLine):Builtin.List.listTooLong n=false:=by
 unfold Builtin.List.listTooLong
 exact decide_eq_false (by omega)
end
section
variable {X:Cx}
def da:V→List V→Hp→VK→Prop:=fun x vs H Q=>∃ l xs y,x=.ref l∧vs=[y]∧H l=some (.lst xs)∧xs.length<sizeLine∧Q .non (upd H l (.lst (xs++[y])))
theorem cQ:IE X "list.append" da:=by
 intro pins s σ H x vs v us Q I rx rv h
 obtain ⟨l,xs,y,rfl,rfl,hH,hz,q⟩:=h
 cases rx
 obtain ⟨u,rfl,ru⟩:=rv.one
 obtain ⟨z,its,n,r,hl,e⟩:=I.lstM hH
 refine call_meets F.slot_list_append ⟨_,e,rfl⟩ F.entry_list_append (F.args_list_append_2 _ _) (PySem.list_append l its.toArray n u (by rw [laH];omega)) ⟨e,?_⟩
 refine ⟨.non,_,I.lset (its':=its++[u]) hH e (by simp) (r.append (.cons ru .nil)) ?_,rfl,q⟩
 rw [laf,List.length_singleton]
 omega
def eY:V→List V→Hp→VK→Prop:=fun x vs H Q=>∃ l b xs zs,x=.ref l∧vs=[.ref b]∧H l=some (.lst xs)∧H b=some (.lst zs)∧xs.length+zs.length≤sizeLine∧Q .non (upd H l (.lst (xs++zs)))
theorem eQ:IE X "list.extend" eY:=by
 intro pins s σ H x vs v us Q I rx rv h
 obtain ⟨l,b,xs,zs,rfl,rfl,hH,hB,hz,q⟩:=h
 cases rx
 obtain ⟨u,rfl,ru⟩:=rv.one
 cases ru
 obtain ⟨z,its,n,r,hl,e⟩:=I.lstM hH
 obtain ⟨z2,its2,n2,r2,hl2,e2⟩:=I.lstM hB
 have hsz:its.toArray.size+its2.toArray.size≤sizeLine:=by rw [laH,laH];omega
 have hlong:¬ (!its.toArray.isEmpty&&Builtin.List.listTooLong (its.toArray.size+its2.toArray.size))=true:=by
  rw [tD hsz,Bool.and_false]
  exact lau
 refine call_meets F.slot_list_extend ⟨_,e,rfl⟩ F.entry_list_extend (F.args_list_extend_2 _ _)
  (AutoSeq1.list_extend_list_list_0 l its.toArray n b its2.toArray n2 hlong (by rw [laH];omega) (by omega)) ⟨e,e2,?_⟩
 refine ⟨.non,_,I.lset (its':=its++its2) hH e (by simp) (r.append r2) ?_,rfl,q⟩
 rw [laf]
 omega
def Da:R2:=fun x y H Q=>∃ l k xs,x=.ref l∧y=.int k∧H l=some (.lst xs)∧-(2 ^ 63)≤k∧k<2 ^ 63∧xs.length*k.toNat≤sizeLine∧
 ∀ p,H p=none→Q (.ref p) (upd H p (.lst (List.replicate k.toNat xs).flatten))
theorem BK{α:Type}(xs:List α)(k:Nat):(List.replicate k xs).flatten.length=k*xs.length:=by
 induction k with
 | zero=>simp
 | succ k ih=>rw [List.replicate_succ,List.flatten_cons,laf,ih,Nat.succ_mul,Nat.add_comm]
theorem DW:eO X (binaryOp .Mult) Da:=by
 intro pins s σ H x y v u Q I rx ry h
 obtain ⟨l,k,xs,rfl,rfl,hH,h1,h2,hz,q⟩:=h
 cases rx
 obtain ⟨t,rfl⟩:=ry
 obtain ⟨z,its,n,r,hl,e⟩:=I.lstM hH
 have hlen:its.toArray.size*k.toNat≤sizeLine:=by rw [laH,← hl];exact hz
 have hcap:¬ its.toArray.size*k.toNat>(2 ^ 63 - 1) / 8:=by
  have:(sizeLine:Nat)≤(2 ^ 63 - 1) / 8:=by decide
  omega
 have hfit:¬ (!Builtin.List.listFitsIndex k)=true:=by
  rw [fitsIndex_both h1 h2]
  exact lau
 have hlong:¬ Builtin.List.listTooLong (its.toArray.size*k.toNat)=true:=by
  rw [tD hlen]
  exact lau
 have hnew:List.foldl (fun x1 x2=>x1++x2) #[] (List.replicate (if its.toArray.isEmpty=true then 0 else k.toNat) its.toArray)=(List.replicate k.toNat its).flatten.toArray:=by
  have f0:∀ m:Nat,List.foldl (fun x1 x2=>x1++x2) #[] (List.replicate m its.toArray)=(List.replicate m its).flatten.toArray:=fun m=>by
   have:=qA its m []
   rw [List.nil_append] at this
   exact this
  rw [f0]
  cases its with
  | nil=>simp
  | cons a r'=>rw [if_neg (by simp)]
 refine wpAny_binaryOp_repeat_ref (T:="list") (U:="int") (by decide) ⟨_,e,rfl⟩ (fun s'=>typeIs_int s' k t) noFill_list_mul F.fills_int_mul F.slot_int_rmul repeat_list F.slot_int_index.lookup
  (call_meets F.slot_int_rmul (typeIs_int s k t) F.entry_int_rmul (F.args_int_rmul_2 _ _) (int___rmul___int_list k t l its.toArray n)
   ⟨e,rfl,⟨_,e,rfl⟩,call_meets F.slot_list_mul ⟨_,e,rfl⟩ F.entry_list_mul (F.args_list_mul_2 _ _) (AutoListH.list___mul___list_int_3 l its.toArray n k t hfit hcap hlong) ⟨e,?_⟩⟩)
 rw [hnew]
 exact ⟨.ref _,_,I.lnew (t':=s.toks) (r.rep k.toNat) (by rw [BK,Nat.mul_comm];exact hz),rfl,q _ I.fresh⟩
end
section
variable {prog:Program}{w:World}{A:Around}{E:Value→Shared→Prop}{s:Shared}
end
section
variable {X:Cx}
end
end L2
namespace L2
open PySem PySem.Spec PyProof.Rows
section
variable {κ:Type}[DecidableEq κ]
def bq(kvs:List (κ×V))(k:κ):Option V:=(kvs.find? fun kv=>decide (kv.1=k)).map (·.2)
def cr(kvs:List (κ×V))(k:κ)(v:V):List (κ×V):=
 if (kvs.any fun kv=>decide (kv.1=k))=true then kvs.map (fun kv=>if kv.1=k then (kv.1,v) else kv) else kvs++[(k,v)]
theorem dQ{p:κ×V}{r:List (κ×V)}{k:κ}(e:p.1=k):bq (p::r) k=some p.2:=by simp [bq,List.find?_cons,e]
theorem dR{p:κ×V}{r:List (κ×V)}{k:κ}(e:¬ p.1=k):bq (p::r) k=bq r k:=by simp [bq,List.find?_cons,e]
theorem jv(k:κ):∀ kvs:List (κ×V),(kvs.any fun kv=>decide (kv.1=k))=(bq kvs k).isSome
 | []=>rfl
 | p::r=>by
  rw [List.any_cons]
  by_cases e:p.1=k
  ·simp only [dQ e,decide_eq_true e,Bool.true_or,Option.isSome_some]
  ·rw [dR e,decide_eq_false e,Bool.false_or];exact jv k r
theorem s_(k j:κ)(y:V):∀ kvs:List (κ×V),bq (kvs.map fun kv=>if kv.1=k then (kv.1,y) else kv) j=(bq kvs j).map fun x=>if j=k then y else x
 | []=>rfl
 | p::r=>by
  have ih:=s_ k j y r
  rw [lah]
  by_cases h:p.1=k
  ·rw [if_pos h]
   by_cases e:p.1=j
   ·rw [dQ (p:=(p.1,y)) e,dQ e,Option.map_some,if_pos (e.symm.trans h)]
   ·rw [dR (p:=(p.1,y)) e,dR e,ih]
  ·rw [if_neg h]
   by_cases e:p.1=j
   ·rw [dQ (p:=p) e,dQ e,Option.map_some,if_neg (fun z=>h (e.trans z))]
   ·rw [dR (p:=p) e,dR e,ih]
theorem qK(k j:κ)(y:V):∀ kvs:List (κ×V),bq kvs k=none→bq (kvs++[(k,y)]) j=if j=k then some y else bq kvs j
 | [],_=>by
  by_cases e:k=j
  ·rw [if_pos e.symm];exact dQ (p:=(k,y)) e
  ·rw [if_neg (fun z=>e z.symm)];exact dR (p:=(k,y)) e
 | p::r,hn=>by
  rw [List.cons_append]
  have hk:¬ p.1=k:=fun z=>by rw [dQ z] at hn;cases hn
  rw [dR hk] at hn
  have ih:=qK k j y r hn
  by_cases e:p.1=j
  ·rw [dQ e,dQ e,if_neg (fun z=>hk (e.trans z))]
  ·rw [dR e,dR e,ih]
theorem jr(kvs:List (κ×V))(k j:κ)(y:V):bq (cr kvs k y) j=if j=k then some y else bq kvs j:=by
 unfold cr
 by_cases a:(kvs.any fun kv=>decide (kv.1=k))=true
 ·rw [if_pos a,s_]
  rw [jv] at a
  by_cases e:j=k
  ·obtain ⟨x,hx⟩:=Option.isSome_iff_exists.mp a
   rw [if_pos e,e,hx,Option.map_some,if_pos rfl]
  ·rw [if_neg e]
   cases bq kvs j with
   | none=>rfl
   | some x=>rw [Option.map_some,if_neg e]
 ·rw [if_neg a]
  refine qK k j y kvs ?_
  rw [jv] at a
  cases q:bq kvs k with
  | none=>rfl
  | some x=>rw [q] at a;exact (a rfl).elim
theorem eF(kvs:List (κ×V))(k:κ)(v:V):(cr kvs k v).length≤kvs.length+1:=by
 unfold cr
 split
 ·rw [laa];omega
 ·rw [laf,laj,List.length_nil];omega
theorem og{kvs:List (κ×V)}{k:κ}(v:V)(h:bq kvs k=none):cr kvs k v=kvs++[(k,v)]:=by
 unfold cr
 rw [jv,h]
 exact if_neg (by decide)
theorem RelO.isSome_eq{o:Option V}{u:Option Value}(r:RelO o u):o.isSome=u.isSome:=by
 cases o with
 | none=>cases u with
  | none=>rfl
  | some _=>exact (show False from r).elim
 | some _=>cases u with
  | none=>exact (show False from r).elim
  | some _=>rfl
theorem RelO.getD{o:Option V}{u:Option Value}{d:V}{d':Value}(r:RelO o u)(rd:RelV d d'):RelV (o.getD d) (u.getD d'):=by
 cases o with
 | none=>cases u with
  | none=>exact rd
  | some _=>exact (show False from r).elim
 | some _=>cases u with
  | none=>exact (show False from r).elim
  | some _=>exact r
theorem KV.val{kvs:List (κ×V)}{vs:List (κ×Value)}(r:KV kvs vs)(k:κ):RelO (bq kvs k) (valueAt vs k):=by
 unfold KV at r
 induction r with
 | nil=>exact True.intro
 | @cons p q ps qs h t ih=>
  obtain ⟨h1,h2⟩:=h
  by_cases e:p.1=k
  ·have e':q.1=k:=h1.symm.trans e
   have b:valueAt (q::qs) k=some q.2:=by simp [valueAt,List.find?_cons,e']
   rw [dQ e,b];exact h2
  ·have e':¬ q.1=k:=fun z=>e (h1.trans z)
   have b:valueAt (q::qs) k=valueAt qs k:=by simp [valueAt,List.find?_cons,e']
   rw [dR e,b];exact ih
theorem KV.any{kvs:List (κ×V)}{vs:List (κ×Value)}(r:KV kvs vs)(k:κ):(kvs.any fun kv=>decide (kv.1=k))=vs.any fun kv=>decide (kv.1=k):=by
 unfold KV at r
 induction r with
 | nil=>rfl
 | cons h t ih=>rw [List.any_cons,List.any_cons,ih,h.1]
theorem KV.repl{kvs:List (κ×V)}{vs:List (κ×Value)}(r:KV kvs vs)(k:κ){y:V}{u:Value}(ry:RelV y u) :
  KV (kvs.map fun kv=>if kv.1=k then (kv.1,y) else kv) (vs.map fun kv=>if kv.1=k then (kv.1,u) else kv):=by
 unfold KV at r ⊢
 induction r with
 | nil=>exact .nil
 | @cons p q ps qs h t ih=>
  rw [lah,lah]
  refine .cons ?_ ih
  obtain ⟨h1,h2⟩:=h
  by_cases e:p.1=k
  ·rw [if_pos e,if_pos (h1.symm.trans e)];exact ⟨h1,ry⟩
  ·rw [if_neg e,if_neg (fun z=>e (h1.trans z))];exact ⟨h1,h2⟩
theorem KV.put{kvs:List (κ×V)}{vs:List (κ×Value)}(r:KV kvs vs)(k:κ){y:V}{u:Value}(ry:RelV y u):KV (cr kvs k y) (stored vs k u):=by
 unfold cr stored
 rw [r.any k]
 by_cases e:(vs.any fun kv=>decide (kv.1=k))=true
 ·rw [if_pos e,if_pos e];exact r.repl k ry
 ·rw [if_neg e,if_neg e];exact Paired.snoc r ⟨rfl,ry⟩
theorem KV.length{kvs:List (κ×V)}{vs:List (κ×Value)}(r:KV kvs vs):kvs.length=vs.length:=Paired.length r
end
theorem mC{P:Program}{w:World}{k:aN}{u:Value}(r:RelV (kV k) u):(cU P w).is k u=true:=by
 cases k with
 | inl i=>obtain ⟨t,e⟩:=(show ∃ t,u=Value.int i t from r);subst e;exact uO P w i t
 | inr x=>obtain ⟨t,e⟩:=(show ∃ t,u=Value.str x t from r);subst e;exact uS P w x t
theorem qv{P:Program}{w:World}:∀ {ks:List aN} {us:List Value},Vals (ks.map kV) us→ItemsAre (cU P w) ks us
 | [],_,r=>by rw [laG] at r;cases r;exact .nil
 | k::ks,_,r=>by
  rw [lah] at r
  cases r with
  | cons h t=>exact .cons (mC h) (qv t)
abbrev KT(H:Hp):List (List aN×V)→List (List aN×Addr×Value)→Prop:=Paired fun p q=>p.1=q.1∧H q.2.1=some (.tup (p.1.map kV))∧RelV p.2 q.2.2
theorem KT.val{H:Hp}{kvs:List (List aN×V)}{xs:List (List aN×Addr×Value)}(r:KT H kvs xs)(k:List aN):RelO (bq kvs k) ((atKey xs k).map (·.2)):=by
 induction r with
 | nil=>exact True.intro
 | @cons p q ps qs h t ih=>
  obtain ⟨h1,_,h2⟩:=h
  by_cases e:p.1=k
  ·have e':q.1=k:=h1.symm.trans e
   have b:atKey (q::qs) k=some q.2:=by simp [atKey,List.find?_cons,e']
   rw [dQ e,b];exact h2
  ·have e':¬ q.1=k:=fun z=>e (h1.trans z)
   have b:atKey (q::qs) k=atKey qs k:=by simp [atKey,List.find?_cons,e']
   rw [dR e,b];exact ih
theorem KT.repl{H:Hp}{kvs:List (List aN×V)}{xs:List (List aN×Addr×Value)}(r:KT H kvs xs)(k:List aN){y:V}{u:Value}(ry:RelV y u) :
  KT H (kvs.map fun kv=>if kv.1=k then (kv.1,y) else kv) (xs.map (putAt k u)):=by
 induction r with
 | nil=>exact .nil
 | @cons p q ps qs h t ih=>
  rw [lah,lah]
  refine .cons ?_ ih
  obtain ⟨h1,h2,h3⟩:=h
  unfold putAt
  by_cases e:p.1=k
  ·rw [if_pos e,if_pos (h1.symm.trans e)];exact ⟨h1,h2,ry⟩
  ·rw [if_neg e,if_neg (fun z=>e (h1.trans z))];exact ⟨h1,h2,h3⟩
theorem KT.put{H:Hp}{kvs:List (List aN×V)}{xs:List (List aN×Addr×Value)}(r:KT H kvs xs)(k:List aN){b:Addr}{y:V}{u:Value}(hb:H b=some (.tup (k.map kV)))(ry:RelV y u) :
  KT H (cr kvs k y) (storedH xs k b u):=by
 have e:(kvs.any fun kv=>decide (kv.1=k))=(atKey xs k).isSome:=by
  rw [jv,(r.val k).isSome_eq,Option.isSome_map]
 unfold cr storedH
 rw [e]
 by_cases q:(atKey xs k).isSome=true
 ·rw [if_pos q,if_pos q];exact r.repl k ry
 ·rw [if_neg q,if_neg q];exact Paired.snoc r ⟨rfl,hb,ry⟩
theorem KT.keeps{H H':Hp}{kvs:List (List aN×V)}{xs:List (List aN×Addr×Value)}(r:KT H kvs xs)(ht:∀ b ys,H b=some (.tup ys)→H' b=some (.tup ys)):KT H' kvs xs:=
 Paired.mapP r fun _ _ z=>⟨z.1,ht _ _ z.2.1,z.2.2⟩
section
variable {P:Program}{w:World}{H:Hp}{h:Heap}{a:Addr}
theorem AW{u:HO}(ok:HOk P w H h)(e:Rd H a u):ObjOk P w H h a u:=e.ok ok
theorem kz{kvs:List (aN×V)}(ok:HOk P w H h)(e:Rd H a (.dK kvs)):kvs.length≤sizeLine∧(a==sysModules)=false∧∃ vs,KV kvs vs∧h.DictOf (cU P w) a vs:=
 show ObjOk P w H h a (.dK kvs) from AW ok e
theorem xj{kvs:List (aN×V)}(ok:HOk P w H h)(e:H a=some (.dK kvs)):kvs.length≤sizeLine∧(a==sysModules)=false∧∃ vs,KV kvs vs∧h.DictOf (cU P w) a vs:=kz ok (.inl e)
theorem mI{ks:List aN}(ok:HOk P w H h)(e:H a=some (.tup (ks.map kV))):(tupleKind (cU P w)).is h ks a:=by
 obtain ⟨_,its,r,o,h1,h2,n,h3⟩:=(show ObjOk P w H h a (.tup (ks.map kV)) from ok a _ e)
 exact ⟨o,its.toArray,n,h1,h2,h3,by simpa using qv r⟩
theorem nR{kvs:List (List aN×V)}(ok:HOk P w H h)(e:Rd H a (.dT kvs)):kvs.length≤sizeLine∧(a==sysModules)=false∧
  ∃ xs,KT H kvs xs∧h.DictOfH (tupleKind (cU P w)) a xs:=by
 obtain ⟨z,y,xs,r,o,es,ep,h1,h2,h3,h4,h5⟩:=(show ObjOk P w H h a (.dT kvs) from AW ok e)
 refine ⟨z,y,xs,r,o,es,ep,h1,h2,h3,h4,fun x hx=>?_,h5⟩
 have all:∀ {l:List (List aN×V)} {m:List (List aN×Addr×Value)},KT H l m→∀ x∈m,(tupleKind (cU P w)).is h x.1 x.2.1:=by
  intro l m q
  induction q with
  | nil=>intro x hx;exact nomatch hx
  | @cons p q ps qs hq t ih=>
   intro x hx
   rcases List.mem_cons.mp hx with e | hx
   ·subst e
    exact mI ok (by rw [← hq.1];exact hq.2.1)
   ·exact ih x hx
 exact all r x hx
theorem Hz{kvs:List (List aN×V)}(ok:HOk P w H h)(e:H a=some (.dT kvs)):kvs.length≤sizeLine∧(a==sysModules)=false∧
  ∃ xs,KT H kvs xs∧h.DictOfH (tupleKind (cU P w)) a xs:=nR ok (.inl e)
end
def DGet(H:Hp)(a:Addr)(y:V)(r:Option V):Prop:=
 (∃ kvs k,Rd H a (.dK kvs)∧y=kV k∧r=bq kvs k)∨∃ kvs k b,Rd H a (.dT kvs)∧y=.ref b∧H b=some (.tup (k.map kV))∧r=bq kvs k
def DPut(H:Hp)(a:Addr)(y v:V)(H':Hp):Prop:=
 (∃ kvs k,H a=some (.dK kvs)∧y=kV k∧kvs.length<sizeLine∧H'=upd H a (.dK (cr kvs k v)))∨
 ∃ kvs k b,H a=some (.dT kvs)∧y=.ref b∧H b=some (.tup (k.map kV))∧kvs.length<sizeLine∧H'=upd H a (.dT (cr kvs k v))
theorem DGet.k{H:Hp}{a:Addr}{kvs:List (aN×V)}{k:aN}(e:H a=some (.dK kvs)):DGet H a (kV k) (bq kvs k):=.inl ⟨kvs,k,.inl e,rfl,rfl⟩
theorem DPut.k{H:Hp}{a:Addr}{kvs:List (aN×V)}{k:aN}{v:V}(e:H a=some (.dK kvs))(hl:kvs.length<sizeLine):DPut H a (kV k) v (upd H a (.dK (cr kvs k v))):=.inl ⟨kvs,k,e,rfl,hl,rfl⟩
section
variable {X:Cx}{pins:List (Addr×Obj)}{σ:St}{H:Hp}{s:Shared}{a:Addr}{y v:V}{u r:Value}{o:Option V}{A:Around}{E:Value→Shared→Prop}
theorem Inv.big(I:Inv X pins σ H s):sysModules<s.heap.objs.size:=by
 have h:mainGlobals<s.heap.objs.size:=(I.mod.glob.keeps I.bk).lt
 exact Nat.lt_trans (by decide) h
theorem y9{Q:Value→Shared→Prop}(hu:A.units+1<cLine)(I:Inv X pins σ H s)(g:DGet H a y (some v))(ry:RelV y u)(h:∀ w' s',Inv X pins σ H s'→RelV v w'→Q w' s') :
  wpAny (model X.prog X.w) A (getItem (.ref a) u) Q E s:=by
 rcases g with ⟨kvs,k,e,ey,l⟩ | ⟨kvs,k,b,e,ey,eb,l⟩
 ·subst ey
  obtain ⟨z,hd,vs,rel,dd⟩:=kz I.hok e
  obtain ⟨w',hw,rw'⟩:=RelO.some_of (v:=v) (o:=valueAt vs k) (by rw [l];exact rel.val k)
  exact wpAny_getItem_of (mC ry) dd.mapOf hw (h w' _ (I.tok _) rw')
 ·subst ey
  cases (show u=Value.ref b from ry)
  obtain ⟨z,hd,xs,rel,dd⟩:=nR I.hok e
  obtain ⟨w',hw,rw'⟩:=RelO.some_of (v:=v) (o:=(atKey xs k).map (·.2)) (by rw [l];exact rel.val k)
  obtain ⟨p,hp,hp2⟩:=Option.map_eq_some_iff.mp hw
  refine wpAny_getItem_heap (tupleKind_room_in1 hu) (mI I.hok eb) dd hp ?_
  rw [hp2]
  exact h w' _ (I.tok _) rw'
theorem Bo{Q:Value→Shared→Prop}(hu:A.units+1<cLine)(I:Inv X pins σ H s)(g:DGet H a y o)(ry:RelV y u)(h:∀ s',Inv X pins σ H s'→Q (.bool (!o.isSome)) s') :
  wpAny (model X.prog X.w) A (compareOp .NotIn u (.ref a)) Q E s:=by
 rcases g with ⟨kvs,k,e,ey,l⟩ | ⟨kvs,k,b,e,ey,eb,l⟩
 ·subst ey
  obtain ⟨z,hd,vs,rel,dd⟩:=kz I.hok e
  refine wpAny_notIn_of (mC ry) hd dd.mapOf ?_
  rw [← (rel.val k).isSome_eq,← l]
  exact h _ (I.tok _)
 ·subst ey
  cases (show u=Value.ref b from ry)
  obtain ⟨z,hd,xs,rel,dd⟩:=nR I.hok e
  refine wpAny_notIn_heap (tupleKind_room_in1 hu) (mI I.hok eb) hd dd ?_
  have q:=(rel.val k).isSome_eq
  rw [Option.isSome_map] at q
  rw [← q,← l]
  exact h _ (I.tok _)
theorem nL{h':Heap}{t':Nat}{ob:HO}(I:Inv X pins σ H s)(mu:ke (H a))(hs:Heap.SameBut a s.heap h')(he:∃ q,h'.get? a=some q)(new:ObjOk X.prog X.w (upd H a ob) h' a ob) :
  Inv X pins σ (upd H a ob) { s with heap:=h',toks:=t' }:=
 I.write (x:=a) (e:=a) mu (.inl rfl) (fun b q hb z=>(hs.2 b hb).trans z) he new
theorem sj{P:Program}{w:World}{H':Hp}{h':Heap}{kvs:List (aN×V)}{vs:List (aN×Value)}(z:kvs.length≤sizeLine)(hd:(a==sysModules)=false)(rel:KV kvs vs)(dd:h'.DictOf (cU P w) a vs) :
  ObjOk P w H' h' a (.dK kvs):=⟨z,hd,vs,rel,dd⟩
theorem ye{H':Hp}{Q:Unit→Shared→Prop}(hu:A.units+1<cLine)(I:Inv X pins σ H s)(g:DPut H a y v H')(ry:RelV y u)(rv:RelV v r)(h:∀ s',Inv X pins σ H' s'→Q () s') :
  wpAny (model X.prog X.w) A (setItem (.ref a) u r) Q E s:=by
 rcases g with ⟨kvs,k,e,ey,l,eH⟩ | ⟨kvs,k,b,e,ey,eb,l,eH⟩
 ·subst ey eH
  obtain ⟨z,hd,vs,rel,dd⟩:=xj I.hok e
  have hz:vs.length≤sizeLine:=by rw [← rel.length];exact z
  have hl:(cr kvs k v).length≤sizeLine:=by have:=eF kvs k v;omega
  refine wpAny_setItem_pairs (hsz:=hz) (mC ry) dd fun h' dd' hs=>h _ ?_
  have he:∃ q,h'.get? a=some q:=let ⟨q,_,_,hq,_⟩:=dd';⟨q,hq⟩
  exact nL I (by rw [e];exact True.intro) hs he (sj hl hd (rel.put k rv) dd')
 ·subst ey eH
  cases (show u=Value.ref b from ry)
  obtain ⟨z,hd,xs,rel,dd⟩:=Hz I.hok e
  have hz:xs.length≤sizeLine:=by rw [← Paired.length rel];exact z
  have hl:(cr kvs k v).length≤sizeLine:=by have:=eF kvs k v;omega
  refine wpAny_setItem_heap (hsz:=hz) (tupleKind_room_in1 hu) (mI I.hok eb) dd fun h' dd' hs=>h _ ?_
  obtain ⟨q,es,ep,hq,h2,h3,h4,_,h5⟩:=dd'
  refine nL I (by rw [e];exact True.intro) hs ⟨q,hq⟩ ⟨hl,hd,_,(rel.put k eb rv).keeps fun c ys ec=>?_,q,es,ep,hq,h2,h3,h4,h5⟩
  rw [bB (dJ ec e (fun z=>nomatch z))]
  exact ec
end
section
variable {X:Cx}{pins:List (Addr×Obj)}{σ:St}{H:Hp}{s:Shared}{a:Addr}{kvs:List (aN×V)}{k:aN}{u:Value}{A:Around}{E:Value→Shared→Prop}
theorem Fr{Q:Value→Shared→Prop}(I:Inv X pins σ H s)(e:Rd H a (.dK kvs))(h:∀ t s',Inv X pins σ H s'→Q (.int kvs.length t) s'):wpAny (model X.prog X.w) A (call (.builtin "len") [.ref a]) Q E s:=by
 obtain ⟨z,hd,vs,rel,dd⟩:=kz I.hok e
 refine call_len_dict hd dd (by rw [← rel.length];rw [sizeLine_eq] at z;omega) ?_
 rw [← rel.length]
 exact h _ _ (I.tok _)
end
def Dm(i:Expr):Prop:=∀ ov iv,subscripted i false ov iv=operate [ov,iv] (getItem ov iv)
theorem Br{prog:Program}{w:World}{A:Around}{E:Value→Shared→Prop}{s:Shared}{env:Env}{value slice:Expr}{pos:Pos}{T id:String}{Q:Value→Shared→Prop}
  (hl:typeLookup (.type T) "__getitem__"=pure (some (.builtin id)))(hs:Dm slice)
  (h:wpAny (model prog w) A (eval value env) (fun o s₁=>wpAny (model prog w) A (eval slice env) (fun i s₂=>s₂.TypeIs o T∧wpAny (model prog w) A (getItem o i) Q E s₂) E s₁) E s) :
  wpAny (model prog w) A (eval (.Subscript value slice pos) env) Q E s:=by
 refine Subscript_ (wpAny_mono h (fun o s₁ h₁=>wpAny_mono h₁ (fun i s₂ h₂=>?_) fun _ _ x=>x) fun _ _ x=>x)
 obtain ⟨hT,h₂⟩:=h₂
 unfold subscriptTail
 refine wpAny_bind ?_
 rw [getitemInPython_of_ne hT.not_modules]
 refine wpAny_bind (wpAny_specialOf hT hl ?_)
 have fin:wpAny (model prog w) A (subscripted slice false o i) (fun r s₃=>wpAny (model prog w) A (letTemporaryGo value o r >>= fun _=>pure r) Q E s₃) E s₂:=by
  rw [hs o i]
  exact wpAny_operating (wpAny_mono h₂ (fun r s₃ h₃=>wpAny_bind (wpAny_letTemporaryGo (wpAny_pure h₃))) fun _ _ x=>x)
 first
  | exact wpAny_pure (wpAny_bind fin)
  | exact wpAny_bind (wpAny_pure (wpAny_bind fin))
  | exact wpAny_bind fin
theorem uU{X:Cx}{pins:List (Addr×Obj)}{σ:St}{H:Hp}{s:Shared}{a:Addr}{y:V}{o:Option V}(I:Inv X pins σ H s)(g:DGet H a y o):s.TypeIs (.ref a) "dict":=by
 rcases g with ⟨kvs,k,e,_,_⟩ | ⟨kvs,k,b,e,_,_,_⟩
 ·obtain ⟨_,_,vs,_,dd⟩:=kz I.hok e
  exact dd.typeIs
 ·obtain ⟨_,_,xs,_,dd⟩:=nR I.hok e
  exact dd.typeIs
def ce(td ty:TE):TE:=fun σ H Q=>td σ H fun x H1=>ty σ H1 fun y H2=>∃ a v,x=.ref a∧DGet H2 a y (some v)∧Q v H2
def pS(ty td:TE):TE:=fun σ H Q=>ty σ H fun y H1=>td σ H1 fun x H2=>∃ a o,x=.ref a∧DGet H2 a y o∧Q (.bl (!o.isSome)) H2
def jx(td ty tv:TE):TS:=fun D σ H=>tv σ H fun v H1=>td σ H1 fun x H2=>ty σ H2 fun y H3=>∃ a H4,x=.ref a∧DPut H3 a y v H4∧D.nx σ H4
section
variable {X:Cx}{o i e value:Expr}{pos pos' tpos:Pos}{td ty tv:TE}
theorem bC(hu:X.A.units+1<cLine)(ho:PE X o td)(hi:PE X i ty)(hs:Dm i):PE X (.Subscript o i pos) (ce td ty):=by
 intro pins s σ H Q I h
 refine Br PySem.F.slot_dict_getitem.lookup hs (bh (ho pins s σ H _ I h) fun u s1 ⟨x,H1,I1,rx,q1⟩=>bh (hi pins s1 σ H1 _ I1 q1) fun iv s2 ⟨y,H2,I2,ry,a,v,ex,g,q2⟩=>?_)
 subst ex
 obtain rfl:u=Value.ref a:=rx
 exact ⟨uU I2 g,y9 hu I2 g ry fun w' s3 I3 rw'=>⟨v,H2,I3,rw',q2⟩⟩
theorem yI(hu:X.A.units+1<cLine)(hi:PE X i ty)(ho:PE X o td):PC X .NotIn i o (pS ty td):=by
 intro pins s σ H Q I h
 refine bh (hi pins s σ H _ I h) fun iv s1 ⟨y,H1,I1,ry,q1⟩=>bh (ho pins s1 σ H1 _ I1 q1) fun u s2 ⟨x,H2,I2,rx,a,ov,ex,g,q2⟩=>?_
 subst ex
 obtain rfl:u=Value.ref a:=rx
 exact Bo hu I2 g ry fun s3 I3=>⟨.bl (!ov.isSome),H2,I3,rfl,q2⟩
theorem j1(hu:X.A.units+1<cLine)(ho:PE X o td)(hi:PE X i ty)(hv:PE X value tv)(hs:swapsWith value (some (.Subscript o i pos')) pos.line X.env=pure false) :
  PS X (.Assign [.Subscript o i pos'] value pos) (jx td ty tv):=by
 intro pins s σ H D I h
 refine wpAny_Assign_Subscript (bh (hv pins s σ H _ I h) fun r s1 ⟨v,H1,I1,rv,q1⟩=>bh (ho pins s1 σ H1 _ I1 q1) fun u s2 ⟨x,H2,I2,rx,q2⟩=>bh (hi pins s2 σ H2 _ I2 q2) fun iv s3 ⟨y,H3,I3,ry,a,H4,ex,g,q3⟩=>?_) hs
 subst ex
 obtain rfl:u=Value.ref a:=rx
 exact ye hu I3 g ry rv fun s4 I4=>⟨σ,H4,I4,q3⟩
end
theorem tm{P:Program}{w:World}{H:Hp}(h:Heap)(hb:sysModules<h.objs.size):ObjOk P w H (h.push { cls:=.type "dict",data:=.dict #[] }) h.objs.size (.dK []):=
 ⟨laI _,beq_eq_false_iff_ne.mpr (Ne.symm (Nat.ne_of_lt hb)),[],.nil,Heap.DictOf.new h⟩
def iR:TE:=fun _ H Q=>∀ p,H p=none→Q (.ref p) (upd H p (.dK []))
section
variable {X:Cx}{pos:Pos}
theorem gH:PE X (.Dict [] [] pos) iR:=fun pins s σ H Q I h=>
 wpAny_Dict_empty ⟨.ref s.heap.objs.size,_,I.laid (a:=s.heap.objs.size) (o:=.dK []) (t':=s.toks) (fun _ _ q=>Heap.get?_push_of_some _ q) (lat _) (tm s.heap I.big),rfl,h _ (I.hok.fresh (lat _))⟩
end
def oQ:List (TE×TE)→St→Hp→(List (V×V)→Hp→Prop)→Prop
 | [],_,H,Q=>Q [] H
 | (tk,tv)::r,σ,H,Q=>tk σ H fun x H1=>tv σ H1 fun y H2=>oQ r σ H2 fun ps H3=>Q ((x,y)::ps) H3
abbrev VV:List (V×V)→List (Value×Value)→Prop:=Paired fun p q=>RelV p.1 q.1∧RelV p.2 q.2
def Av(X:Cx)(pos:Pos)(keys:List (Option Expr))(values:List Expr)(trs:List (TE×TE)):Prop:=
 ∀ (pins:List (Addr×Obj)) (s:Shared) (σ:St) (H:Hp) (Q:List (V×V)→Hp→Prop),Inv X pins σ H s→oQ trs σ H Q→
  wpAny (model X.prog X.w) X.A (evalPairs (pairTrees keys values X.env pos)) (fun vs s'=>∃ ps H',Inv X pins σ H' s'∧VV ps vs∧Q ps H') X.xe s
theorem Bc{X:Cx}{pos:Pos}:Av X pos [] [] []:=fun pins s σ H Q I h=>pairTrees_nil_walk ⟨[],H,I,.nil,h⟩
theorem oE{X:Cx}{pos:Pos}{k v:Expr}{ks:List (Option Expr)}{vs:List Expr}{tk tv:TE}{trs:List (TE×TE)}(hk:PE X k tk)(hv:PE X v tv)(hr:Av X pos ks vs trs) :
  Av X pos (some k::ks) (v::vs) ((tk,tv)::trs):=fun pins s σ H Q I h=>
 pairTrees_cons_walk (bh (hk pins s σ H _ I h) fun u s1 ⟨x,H1,I1,rx,q1⟩=>bh (hv pins s1 σ H1 _ I1 q1) fun w2 s2 ⟨y,H2,I2,ry,q2⟩=>
  bh (hr pins s2 σ H2 _ I2 q2) fun ws s3 ⟨ps,H3,I3,rel,q3⟩=>⟨(x,y)::ps,H3,I3,.cons ⟨rx,ry⟩ rel,q3⟩)
def j6(kvs more:List (aN×V)):List (aN×V):=more.foldl (fun acc kv=>cr acc kv.1 kv.2) kvs
theorem KV.merge:∀ {more:List (aN×V)} {rs:List (aN×Value)} {kvs:List (aN×V)} {vs:List (aN×Value)},KV more rs→KV kvs vs→KV (j6 kvs more) (merged vs rs):=by
 intro more rs kvs vs r
 unfold KV at r
 induction r generalizing kvs vs with
 | nil=>intro q;exact q
 | @cons p q ps qs h t ih=>
  intro r0
  have e:KV (cr kvs p.1 p.2) (stored vs q.1 q.2):=by
   have:=r0.put p.1 h.2
   rw [← h.1];exact this
  exact ih e
theorem mH:∀ (more kvs:List (aN×V)),(j6 kvs more).length≤kvs.length+more.length
 | [],kvs=>by show kvs.length≤kvs.length+0;omega
 | p::r,kvs=>by
  have h1:=mH r (cr kvs p.1 p.2)
  have h2:=eF kvs p.1 p.2
  show (j6 (cr kvs p.1 p.2) r).length≤_
  rw [laj];omega
theorem pF{P:Program}{w:World}:∀ {kvs:List (aN×V)} {ws:List (Value×Value)},VV (kvs.map fun kv=>(kV kv.1,kv.2)) ws→∃ rs,Carries (cU P w) ws rs∧KV kvs rs
 | [],_,r=>by rw [laG] at r;cases r;exact ⟨[],True.intro,.nil⟩
 | p::kvs,_,r=>by
  rw [lah] at r
  cases r with
  | @cons a b as bs h t=>
   obtain ⟨rs,c,q⟩:=pF (P:=P) (w:=w) t
   obtain ⟨b1,b2⟩:=b
   exact ⟨(p.1,b2)::rs,⟨mC h.1,rfl,c⟩,.cons ⟨rfl,h.2⟩ q⟩
def A0(trs:List (TE×TE)):TE:=fun σ H Q=>∀ p,H p=none→oQ trs σ (upd H p (.dK [])) fun ps H2=>H2 p=some (.dK [])∧∃ kvs:List (aN×V),ps=kvs.map (fun kv=>(kV kv.1,kv.2))∧kvs.length≤15∧Q (.ref p) (upd H2 p (.dK (j6 [] kvs)))
theorem Bf{X:Cx}{pos:Pos}{keys:List (Option Expr)}{values:List Expr}{trs:List (TE×TE)}(h:Av X pos keys values trs)(hall:keys.all (·.isSome)=true)(hl:keys.length=values.length)(h0:keys≠[])
  (h15:keys.length≤15):PE X (.Dict keys values pos) (A0 trs):=by
 intro pins s σ H Q I q
 have hn:=I.hok.fresh (lat s.heap.objs.size)
 have I1:=I.laid (a:=s.heap.objs.size) (o:=.dK []) (h':=s.heap.push { cls:=.type "dict",data:=.dict #[] }) (t':=s.toks) (fun _ _ q=>Heap.get?_push_of_some _ q) (lat _) (tm s.heap I.big)
 refine wpAny_Dict_walk (knd:=cU X.prog X.w) hall hl h0 h15 (bh (h pins _ σ _ _ I1 (q _ hn)) fun ws s2 ⟨ps,H2,I2,rel,e,kvs,ep,lk,q2⟩=>?_)
 subst ep
 obtain ⟨rs,c,rk⟩:=pF (P:=X.prog) (w:=X.w) rel
 obtain ⟨z,hd,vs0,r0,dd⟩:=xj I2.hok e
 cases r0
 refine ⟨rs,c,dd,fun h' dd' hs=>⟨.ref s.heap.objs.size,_,?_,rfl,q2⟩⟩
 have hz:(j6 [] kvs).length≤sizeLine:=by
  have h1:=mH kvs []
  rw [List.length_nil] at h1
  rw [sizeLine_eq];omega
 have he:∃ q,h'.get? s.heap.objs.size=some q:=let ⟨q,_,_,hq,_⟩:=dd';⟨q,hq⟩
 exact nL I2 (by rw [e];exact True.intro) hs he (sj hz hd (rk.merge .nil) dd')
structure M2(X:Cx)(o:Expr)(m:Str)(apos:Pos)(e f:Expr)(cpos:Pos):Prop where
 base:attributeBase o m X.env (eval o X.env)=eval o X.env
 few:((backTo cpos (starEach [e,f] X.env)).all (fun x=>!x.1)&&(backToKw cpos (keywordEach [] X.env)).all (fun x=>x.1.isSome)
  && decide (([e,f]:List Expr).length+([]:List Keyword).length+(if ([]:List Keyword).isEmpty then 0 else 1)<30))=true
 line:(apos.endLine==cpos.line)=true
 trees:backTo cpos (starEach [e,f] X.env)=[(false,eval e X.env),(false,eval f X.env)]
def u4(H:Hp)(a:Addr):Prop:=(∃ kvs,Rd H a (.dK kvs))∨∃ kvs,Rd H a (.dT kvs)
theorem yy{X:Cx}{pins:List (Addr×Obj)}{σ:St}{H:Hp}{s:Shared}{a:Addr}(I:Inv X pins σ H s)(d:u4 H a) :
  s.TypeIs (.ref a) "dict"∧(∀ b,Value.ref a=.ref b→∃ ob,s.heap.get? b=some ob∧ob.dict=none)∧(a==sysModules)=false:=by
 rcases d with ⟨kvs,e⟩ | ⟨kvs,e⟩
 ·obtain ⟨_,hd,vs,_,dd⟩:=kz I.hok e
  refine ⟨dd.typeIs,fun b q=>?_,hd⟩
  cases q
  obtain ⟨ob,_,_,h1,h2,_⟩:=dd
  exact ⟨ob,h1,h2.2.1⟩
 ·obtain ⟨_,hd,xs,_,dd⟩:=nR I.hok e
  refine ⟨dd.typeIs,fun b q=>?_,hd⟩
  cases q
  obtain ⟨ob,_,_,h1,h2,_⟩:=dd
  exact ⟨ob,h1,h2.2.1⟩
section
variable {X:Cx}{pins:List (Addr×Obj)}{σ:St}{H:Hp}{s:Shared}{a:Addr}{y d:V}{u r:Value}{o:Option V}{A:Around}{E:Value→Shared→Prop}
theorem CA{Q:Value→Shared→Prop}(hu:A.units+1<cLine)(I:Inv X pins σ H s)(g:DGet H a y o)(ry:RelV y u)(rd:RelV d r)(h:∀ w' s',Inv X pins σ H s'→RelV (o.getD d) w'→Q w' s') :
  wpAny (model X.prog X.w) A (call (.builtin "dict.get") [.ref a,u,r]) Q E s:=by
 rcases g with ⟨kvs,k,e,ey,l⟩ | ⟨kvs,k,b,e,ey,eb,l⟩
 ·subst ey
  obtain ⟨z,hd,vs,rel,dd⟩:=kz I.hok e
  refine call_meetsIn PySem.F.slot_dict_get dd.typeIs PySem.F.entry_dict_get (PySem.F.args_dict_get_3 _ _ _) (meets_dict_get_default (cU X.prog X.w) a (mC ry) hd r) ⟨_,dd.mapOf,h _ _ (I.tok _) ?_⟩
  rw [l]
  exact (rel.val k).getD rd
 ·subst ey
  cases (show u=Value.ref b from ry)
  obtain ⟨z,hd,xs,rel,dd⟩:=nR I.hok e
  refine call_meetsIn PySem.F.slot_dict_get dd.typeIs PySem.F.entry_dict_get (PySem.F.args_dict_get_3 _ _ _) (meetsH_dict_get_default (tupleKind (cU X.prog X.w)) a b hd r) ⟨tupleKind_room_in1 hu,k,xs,mI I.hok eb,dd,h _ _ (I.tok _) ?_⟩
  rw [l]
  exact (rel.val k).getD rd
end
def rP(td ty tx:TE):TE:=fun σ H Q=>td σ H fun x H1=>∃ a,x=.ref a∧u4 H1 a∧ty σ H1 fun y H2=>tx σ H2 fun z H3=>∃ o,DGet H3 a y o∧Q (o.getD z) H3
section
variable {X:Cx}{o e f:Expr}{apos cpos:Pos}{td ty tx:TE}
theorem zF(hu:X.A.units+1<cLine)(ho:PE X o td)(he:PE X e ty)(hf:PE X f tx)(m:M2 X o "get" apos e f cpos):PE X (.Call (.Attribute o "get" apos) [e,f] [] cpos) (rP td ty tx):=by
 intro pins s σ H Q I h
 refine wpAny_Call_method m.base m.few m.line PySem.F.plainAttrs_dict PySem.F.slot_dict_get PySem.F.type_dict_get (bh (ho pins s σ H _ I h) fun u s1 ⟨x,H1,I1,rx,a,ex,d,q1⟩=>?_)
 subst ex
 obtain rfl:u=Value.ref a:=rx
 obtain ⟨t1,t2,_⟩:=yy I1 d
 refine ⟨t1,t2,?_⟩
 rw [m.trees]
 refine Calls.callWith_builtin rfl (Calls.evalArgs_plain (Calls.spliced_cons (bh (he pins s1 σ H1 _ I1 q1) fun iv s2 ⟨y,H2,I2,ry,q2⟩=>
  Calls.spliced_cons (bh (hf pins s2 σ H2 _ I2 q2) fun fv s3 ⟨z,H3,I3,rz,ov,g,q3⟩=>Calls.spliced_nil ?_))))
 exact CA hu I3 g ry rz fun w' s4 I4 rw'=>⟨_,H3,I4,rw',q3⟩
end
section
variable {X:Cx}{pins:List (Addr×Obj)}{σ:St}{H:Hp}{s:Shared}{a:Addr}{kvs:List (aN×V)}{A:Around}{E:Value→Shared→Prop}
end
section
variable {X:Cx}{pins:List (Addr×Obj)}{σ:St}{H:Hp}{s:Shared}{a:Addr}{y:V}{u:Value}{A:Around}{E:Value→Shared→Prop}
end
end L2
namespace Att
open PySem PySem.W PySem.Calls PyProof.Rows
theorem o4{P:Params}{h:Heap}:∀ (ns:List Int) (vs:List Value),WellAll P h vs (ns.map WData.int)→IntsAre vs ns:=by
 intro ns
 induction ns with
 | nil=>
  intro vs w
  rw [laG] at w
  cases w
  exact .nil
 | cons n ns ih=>
  intro vs w
  rw [lah] at w
  cases w with
  | cons a b=>
   cases a
   exact .cons _ _ (ih _ b)
theorem zf{l:OpenLaw}{n:Nat}(hn:l.most=some n){P:Params}{h:Heap}{args:List WData}{vals:List Value}
  (hpre:l.row.toRowW.claim.pre args=true)(hwl:WellAll P h vals args) :
  ∃ a vs ns,vals=[Value.ref a]∧args=[WData.list (ns.map WData.int)]∧h.get? a=some { cls:=.type "list",data:=.seq vs.toArray }∧IntsAre vs ns∧ns.length≤n:=by
 have hsh:WShape.hasAll [] args [.list .int]=true:=(pre_splitW hpre).1
 have hc:l.pre.holds [] { args:=args }=true:=(pre_splitW hpre).2
 obtain ⟨d,r,rfl,h1,h2⟩:=hasAllW_cons hsh
 obtain rfl:=hasAllW_nil h2
 obtain ⟨xs,rfl,h3⟩:=hasW_list h1
 obtain ⟨ns,rfl⟩:=items_int h3
 have hlen:ns.length≤n:=by
  unfold OpenLaw.pre at hc
  have h4:(WTm.not (.lt (.lit (.int (n:Int))) (.len (.arg 0)))).holds [] { args:=[.list (ns.map .int)] }=true:=by
   have h4:=(holds_andW hc).1
   rw [hn] at h4
   exact h4
  have h5:=condW_of h4 (w_not (w_lt w_lit (w_len_list (w_arg rfl))))
  rw [laa] at h5
  refine Nat.le_of_not_lt fun q=>?_
  have q':(n:Int)<((ns.length:Nat):Int):=by omega
  first
   | (rw [decide_eq_true q'] at h5;exact absurd h5 (by decide))
   | (simp at h5;omega)
 cases hwl with
 | cons w1 w2=>
  cases w2
  cases w1 with
  | list ho hall=>exact ⟨_,_,ns,rfl,rfl,ho,o4 ns _ hall,hlen⟩
theorem yc(l:OpenLaw)(args:List WData):l.row.toRowW.claim.post args (.bool true) args=true:=
 postW_of (r:=l.row.toRowW) (X:=(true==true))
  (show WShape.has [] (.bool true) .bool=true by first | rfl | decide | simp [WShape.has,WShape.arms,WShape.armsAll])
  (show (WTm.eq .res (.lit (.bool true))).value [] { args:=args,res:=some (.bool true),after:=args }=some (.bool (true==true)) from w_eq_bool (w_res rfl) w_lit) rfl
theorem attach_call{l:OpenLaw}{n:Nat}{q:Program}{loose:List Str}{XP:(Str→Option Value)→Heap→Prop}{YP:World→Heap→Prop}{d:DefRec}
  (hn:l.most=some n)(hdf:d.params.defaults=[])
  (call:∀ (w:World) (s₀ s₁:Shared) (mg mb:Str→Option Value) (fa:Addr) (o:Obj) (pm cd doc:Value) (a:Addr) (vs:List Value) (ns:List Int),
   Ground q loose [] XP w s₀ mg mb s₁.heap→YP w s₁.heap→
   s₁.heap.get? fa=some o→o.data=.func (docDef d.name d.params d.body d.scope pm cd doc)→s₁.heap.CodeRec cd d.name→mg d.name=some (.ref fa)→
   s₁.heap.get? a=some { cls:=.type "list",data:=.seq vs.toArray }→IntsAre vs ns→ns.length≤n→s₁.gens=#[]→
   codeAny (model l.prog w) callerA (.call (.ref fa) ⟨[.ref a],[]⟩) (fun r s'=>r=.ok (.ret (.bool true))∧OldK s₁.heap s'.heap∧s'.os=s₁.os∧AllBare s'.gens) s₁) :
  WalkO q loose XP YP l.row.toRowW d [] (fun f vs=>PySem.call f vs):=by
 intro w s₀ s₁ mg mb G Y fa o pm cd doc dV kV ho hd hcd hD hmg hg args vals as hpre hlay hrd hwl hlo
 obtain rfl:dV=.none:=Dflts.none hD hdf
 obtain rfl:kV=.none:=Dflts.noKw hD
 obtain ⟨a,vs,ns,rfl,rfl,hobj,hints,hlen⟩:=zf hn hpre hwl
 refine enter_call (codeAny_mono (call w s₀ s₁ mg mb fa o pm cd doc a vs ns G Y ho (fd_plain hd) hcd hmg hobj hints hlen hg) fun r s' hq=>?_)
 obtain ⟨rfl,h2,h3,h4⟩:=hq
 exact ⟨.inl ⟨.bool true,.bool true,[],rfl,fun _=>rfl,.bool true,yc l _,fun _=>⟨List.Pairwise.nil,fun _ hm=>(nomatch hm)⟩⟩,h2,h3,h4⟩
section
variable {prog:Program}{w:World}{A:Around}{E:Value→Shared→Prop}{s:Shared}{K:Frag}
end
end Att
namespace L2
open PySem PySem.Spec PyProof.Rows
theorem qM:∀ {vs:List Value} {ns:List Int},IntsAre vs ns→Vals (ns.map V.int) vs
 | _,_,.nil=>.nil
 | _,_,.cons n t h=>.cons ⟨t,rfl⟩ (qM h)
def Aq(H:Hp):Prop:=∀ b,H b=none∨∃ o xs,H b=some (.frz o (.lst xs))
theorem zH{P:Program}{w:World}{K:PySem.W.Frag}{mg mb:Str→Option Value}{CX:mM}{k:Nat}{fa a:Addr}{fd:FuncData}{x:Str}{sp:Sp}{s₁:Shared}{vs:List Value}{ns:List Int}
  (KX:K.In s₁.heap)(hns:s₁.heap.Ns mainGlobals mg)(hb:s₁.heap.Ns builtinsNs mb)(hbb:∀ x:Str,x≠"__name__"→mb x=bootBuiltins x)(hlim:s₁.heap.NoLimit)(hg:s₁.gens=#[])
  (ha:s₁.heap.get? a=some { cls:=.type "list",data:=.seq vs.toArray })(hi:IntsAre vs ns)(hl:ns.length≤sizeLine)(hr:Room k callerA)
  (F:∀ base:Heap,K.In base→base.Ns mainGlobals mg→fg P w K mg base CX k fa fd [x] sp) (hbind:∀ (s:Shared) (u:Value),BindsTo s fd ⟨[u],[]⟩ [(x,u)])
  (hsp:∀ H:Hp,Aq H→SqL K H a (ns.map V.int)→sp [.ref a] H (fun v _=>v=.bl true) fun _ _ _=>False)
  (hCX:∀ H e s',CX [] H s₁ (fun _ _ _=>False) e s'→False) :
  codeAny (model P w) callerA (.call (.ref fa) ⟨[.ref a],[]⟩) (fun r s'=>r=.ok (.ret (.bool true))∧OldK s₁.heap s'.heap∧s'.os=s₁.os∧AllBare s'.gens) s₁:=by
 have rv:=qM hi
 have lenV:=hi.length
 -- from an abstract heap in which nothing but the script may be tracked
 have core:∀ H:Hp,Aq H→SqL K H a (ns.map V.int)→HOk P w H s₁.heap→(∀ b,H b≠none→b=a)→(H a≠none→K.lookup a=none)→
   codeAny (model P w) callerA (.call (.ref fa) ⟨[.ref a],[]⟩) (fun r s'=>r=.ok (.ret (.bool true))∧OldK s₁.heap s'.heap∧s'.os=s₁.os∧AllBare s'.gens) s₁:=by
  intro H hO hS hok hA hK
  have base_of:∀ {b:Addr} {o:Obj},s₁.heap.get? b=some o→H b=none→(lQ s₁.heap H).get? b=some o:=fun e n=>zj e n
  have noA:∀ {b:Addr} {o:Obj} {es:Array DictEntry} {ep:Nat},s₁.heap.get? b=some o→o.data=.dict es ep→H b=none:=fun {b o es ep} e d=>by
   cases q:H b with
   | none=>rfl
   | some u=>
    have e':b=a:=hA b (by rw [q];simp)
    subst e'
    rw [ha] at e;cases e
    have d':Data.seq vs.toArray _=Data.dict es ep:=d
    cases d'
  have nsK:∀ {b:Addr} {m:Str→Option Value},s₁.heap.Ns b m→(lQ s₁.heap H).Ns b m:=fun {b m} ⟨o,es,ep,e,d,r⟩=>⟨o,es,ep,base_of e (noA e d),d,r⟩
  have hKb:K.In (lQ s₁.heap H):=fun b o e=>base_of (KX b o e) (by
   cases q:H b with
   | none=>rfl
   | some u=>
    have e':b=a:=hA b (by rw [q];simp)
    subst e'
    rw [hK (by rw [q];simp)] at e;cases e)
  have hM:Mod K mg (lQ s₁.heap H):=⟨hKb,nsK hns,⟨mb,nsK hb,hbb⟩,let ⟨mc,h1,h2⟩:=hlim;⟨mc,nsK h1,h2⟩⟩
  have e0:Env0 P w K mg (lQ s₁.heap H) callerA [] s₁ H:=⟨rfl,hM,fun b o e=>BP e,Nat.le_of_eq (yV _ _),trivial,fun b hb=>absurd (show b∈([]:List Addr) from hb) (by simp),hok,.of_eq hg⟩
  refine codeAny_mono ((F _ hKb (nsK hns)).run callerA [] s₁ H ⟨[.ref a],[]⟩ [.ref a] [.ref a] _ _ hr e0 (hbind s₁ (.ref a)) (.cons rfl .nil) (hsp H hO hS)) fun r s' h=>?_
  cases r with
  | error e=>exact (hCX H e s' h).elim
  | ok fl=>
   cases fl with
   | next=>exact False.elim h
   | brk=>exact False.elim h
   | cont=>exact False.elim h
   | ret u=>
    obtain ⟨v,H',os,bare,un,hok',r',q⟩:=h
    have q':v=.bl true:=q
    subst q'
    obtain rfl:u=Value.bool true:=r'
    refine ⟨rfl,OldK.of_keep fun b o e=>?_,os,bare⟩
    cases q:H b with
    | none=>exact un.keep b o e q (by intro z;exact absurd (show b∈([]:List Addr) from z) (by simp)) (by simp)
    | some u=>
     rcases hO b with z | ⟨ob,xs,z⟩
     ·rw [q] at z;cases z
     ·have z2:=un.frzs b ob _ z
      obtain ⟨e1,_⟩:=hok b _ z
      obtain ⟨e2,_⟩:=hok' b _ z2
      rw [e] at e1;cases e1
      exact e2
 cases hk:K.lookup a with
 | some o=>
  -- the script is one of the module's own objects
  have e:=KX a o hk
  rw [ha] at e
  cases e
  refine core (fun _=>none) (fun _=>.inl rfl) (.inr ⟨_,vs.toArray,_,hk,rfl,rfl,rfl,by rw [laH,lenV];exact hl,by simpa using rv⟩) (fun b u z=>by have z':(none:Option HO)=some u:=z;cases z') (fun b z=>absurd rfl z) fun z=>absurd rfl z
 | none=>
  refine core (fun b=>if b=a then some (.frz { cls:=.type "list",data:=.seq vs.toArray } (.lst (ns.map V.int))) else none) (fun b=>?_) (.inl (.inr ⟨{ cls:=.type "list",data:=.seq vs.toArray },if_pos rfl⟩)) (fun b u z=>?_) (fun b z=>?_) fun _=>hk
  ·by_cases hb:b=a
   ·exact .inr ⟨_,_,if_pos hb⟩
   ·exact .inl (if_neg hb)
  ·by_cases hb:b=a
   ·have z':=(if_pos hb).symm.trans z
    cases z'
    subst hb
    exact ⟨ha,by rw [laa];exact hl,vs,_,rv,ha⟩
   ·have z':=(if_neg hb).symm.trans z
    cases z'
  ·by_cases hb:b=a
   ·exact hb
   ·exact absurd (if_neg hb) z
end L2
namespace L2
open PySem PySem.Spec PyProof.Rows
theorem walk_of{l:PySem.W.OpenLaw}{n k:Nat}{q:Program}{loose:List Str}{XP:(Str→Option Value)→Heap→Prop}{YP:World→Heap→Prop}{d:DefRec}{K:Params→PySem.W.Frag}{CX:World→mM}{sp:World→Sp}{x:Str}
  (hn:l.most=some n)(hn2:n≤sizeLine)(hdf:d.params.defaults=[])(hr:Room k callerA)
  (hY:∀ (w:World) (h:Heap),YP w h→(K w.params).In h)
  (F:∀ (w:World) (mg:Str→Option Value) (fa:Addr) (h:Heap),(K w.params).In h→h.Ns mainGlobals mg→mg d.name=some (.ref fa)→
   ∃ fd:FuncData,(∀ (s:Shared) (u:Value),BindsTo s fd ⟨[u],[]⟩ [(x,u)])∧
    ∀ base:Heap,(K w.params).In base→base.Ns mainGlobals mg→fg l.prog w (K w.params) mg base (CX w) k fa fd [x] (sp w))
  (hsp:∀ (w:World) (H:Hp) (a:Addr) (ns:List Int),ns.length≤n→Aq H→SqL (K w.params) H a (ns.map V.int)→sp w [.ref a] H (fun v _=>v=.bl true) fun _ _ _=>False)
  (hCX:∀ (w:World) (H:Hp) (s:Shared) (e:Value) (s':Shared),CX w [] H s (fun _ _ _=>False) e s'→False) :
  PySem.W.WalkO q loose XP YP l.row.toRowW d [] (fun f vs=>PySem.call f vs):=by
 refine Att.attach_call hn hdf fun w s₀ s₁ mg mb fa o pm cd doc a vs ns G Y ho hd hcd hmg hobj hints hlen hg=>?_
 have KX:=hY w _ Y
 obtain ⟨fd,hb,hF⟩:=F w mg fa _ KX G.T.g hmg
 exact zH KX G.T.g G.T.b G.T.builtins G.T.nolimit hg hobj hints (las hlen hn2) hr hF hb (fun H hO hS=>hsp w H a ns hlen hO hS) fun H e s'=>hCX w H s₁ e s'
end L2
namespace L2
open PySem PySem.Spec PyProof.Rows
def bU(s:Stmt)(j:Nat):Stmt:=match s with
 | .ClassDef _ _ _ body _ _ _ _ _ _ _=>body.getD j (.Pass ⟨0,0,0,0⟩)
 | _=>.Pass ⟨0,0,0,0⟩
def aH(s:Stmt):Arguments:=match s with
 | .FunctionDef _ a _ _ _ _ _ _ _ _=>a
 | _=>{ posonlyargs:=[],args:=[],vararg:=none,kwonlyargs:=[],kw_defaults:=[],kwarg:=none,defaults:=[] }
def ao(s:Stmt):List Stmt:=match s with
 | .FunctionDef _ _ b _ _ _ _ _ _ _=>b
 | _=>[]
def ai(s:Stmt):Scope:=match s with
 | .FunctionDef _ _ _ _ _ _ sc _ _ _=>sc
 | _=>{ kind:=.function,names:=[],isGenerator:=false,isCoroutine:=false }
abbrev bD:mM:=fun _ _ _ _ _ _=>False
abbrev E0:XK:=fun _ _ _=>False
theorem aB{X:Cx}:iO bD X E0:=fun _ _ _ _ _ _ _ h=>h.elim
structure Fun(K:PySem.W.Frag)(x qual:Str)(st:Stmt)(f:Addr)(fd:FuncData):Prop where
 ex:∃ (oc:Value) (od:Option Addr) (kV doc pm:Value) (an:Option Addr) (cdv ct:Value) (osl:Array (Option Value)),
  fd=PySem.W.fnOf x qual (aH st) (ao st) (ai st) .none kV doc pm an cdv ct∧K.lookup f=some ⟨oc,od,.func fd,osl⟩∧PySem.W.codeIn K cdv qual=true
 kp:PySem.W.keepIn K (.ref f)=true
section
variable {P:Program}{w:World}{K:PySem.W.Frag}{mg:Str→Option Value}{base:Heap}
theorem Fun.ok{x qual:Str}{st:Stmt}{f:Addr}{fd:FuncData}{N ps:List Str}{k:Nat}{sp:Sp}(F:Fun K x qual st f fd)(S:aI N ps (ai st))(len:∀ vs H Q E,sp vs H Q E→vs.length=ps.length)
  (hbody:∀ (cdv:Value) (A:Around) (outer:List Env) (s:Shared) (H:Hp) (vs:List V) (Q:VK) (E:XK),Room k (A.deeper (envOfC qual (ai st) s.heap.objs.size f cdv))→sp vs H Q E→
   ∃ t,PSs (bn bD P w K mg base N qual (ai st) f cdv A outer s H E).nox (ao st) t∧t { nx:=fun _ H'=>Q .non H',rt:=Q } (start N vs) H):fg P w K mg base bD (k+1) f fd ps sp:=by
 obtain ⟨oc,od,kV,doc,pm,an,cdv,ct,osl,rfl,lk,hcd⟩:=F.ex
 refine Gd lk hcd S len fun A outer s H vs Q E hr hsp=>?_
 obtain ⟨t,h,q⟩:=hbody cdv A outer s H vs Q E hr hsp
 exact ⟨t,h.nox,q⟩
theorem Fun.binds{x qual:Str}{st:Stmt}{f:Addr}{fd:FuncData}{ps:List Str}(F:Fun K x qual st f fd)
  (h:∀ (kV doc pm:Value) (an:Option Addr) (cdv ct:Value) (us:List Value),us.length=ps.length→bindArgs (PySem.W.fnOf x qual (aH st) (ao st) (ai st) .none kV doc pm an cdv ct) ⟨us,[]⟩=pure (ps.zip us)):Binds K fd ps []:=by
 obtain ⟨oc,od,kV,doc,pm,an,cdv,ct,osl,rfl,lk,hcd⟩:=F.ex
 exact .all (h kV doc pm an cdv ct)
theorem aR{x qual:Str}{st:Stmt}{f:Addr}{oc:Value}{od an:Option Addr}{osl:Array (Option Value)}{kV doc pm cdv ct:Value}(l:K.lookup f=some ⟨oc,od,.func (PySem.W.fnOf x qual (aH st) (ao st) (ai st) .none kV doc pm an cdv ct),osl⟩)
  (c:PySem.W.codeIn K cdv qual=true)(k:PySem.W.keepIn K (.ref f)=true):Fun K x qual st f (PySem.W.fnOf x qual (aH st) (ao st) (ai st) .none kV doc pm an cdv ct):=⟨⟨oc,od,kV,doc,pm,an,cdv,ct,osl,rfl,l,c⟩,k⟩
end
theorem gm{A:Around}{k:Nat}(hr:Room k A):A.units+1<cLine:=Nat.lt_of_le_of_lt (Nat.add_le_add_left (by decide:1≤64) _) hr.units
theorem yD{n:Nat}(h:n≤1000):n<sizeLine:=Nat.lt_of_le_of_lt h (by decide)
section
variable {X:Cx}
theorem pv(i:Nat){x:Str}{pos:Pos}(hN:X.N[i]?=some x:=by rfl)(hv:y8 X.env.scope x:=by first | exact Or.inl rfl | exact Or.inr (Or.inl rfl) | exact Or.inr (Or.inr rfl))(hd:(x==("__debug__":Str))=false:=by decide)
  (hcd:(x==("__classdict__":Str))=false:=by decide):PE X (.Name x pos) (ae i):=Di hN hv hd hcd
end
theorem fA{A B:Prop}(h:B):if false=true then A else B:=by
 rw [if_neg lau]
 exact h
theorem zJ{A B:Prop}(h:A):if true=true then A else B:=by
 rw [if_pos rfl]
 exact h
def Same(H H':Hp):Prop:=∀ b o,H b=some o→H' b=some o
theorem Same.refl(H:Hp):Same H H:=fun _ _ h=>h
theorem Same.trans{H H1 H2:Hp}(a:Same H H1)(b:Same H1 H2):Same H H2:=fun c o h=>b c o (a c o h)
theorem Same.free{H H':Hp}(e:Same H H'){l:Addr}(h:H' l=Option.none):H l=Option.none:=by
 cases q:H l with
 | none=>rfl
 | some o=>
  rw [e l o q] at h
  cases h
theorem Same.seq{K:PySem.W.Frag}{H H':Hp}{a:Addr}{xs:List V}(e:Same H H')(h:SqL K H a xs):SqL K H' a xs:=by
 rcases h with (h | ⟨o,h⟩) | h
 ·exact .inl (.inl (e _ _ h))
 ·exact .inl (.inr ⟨o,e _ _ h⟩)
 ·exact .inr h
end L2
namespace L2
open PySem PySem.Spec PyProof.Rows
section
variable {X:Cx}
theorem yO:iI X (.builtin "len") (fun xs H Q=>∃ a kvs,xs=[V.ref a]∧H a=some (.dK kvs)∧Q (.int kvs.length) H):=by
 intro pins s σ H xs us Q I r h
 obtain ⟨a,kvs,rfl,ha,q⟩:=h
 obtain ⟨u,rfl,ru⟩:=kQ r
 cases ru
 exact Fr I (.inl ha) fun t s' I'=>⟨.int kvs.length,H,I',⟨t,rfl⟩,q⟩
end
section
variable {κ:Type}[DecidableEq κ]
end
end L2
set_option Elab.async false
set_option linter.all false
set_option maxRecDepth 100000
set_option maxHeartbeats 4000000
namespace L2
open PySem PySem.Spec PyProof.Rows
mutual
inductive Rep(H:Hp)(S:List Addr):V→PyData→Prop
 | non:Rep H S .non .none
 | bl (b:Bool):Rep H S (.bl b) (.bool b)
 | int (i:Int):Rep H S (.int i) (.int i)
 | str (x:Str):Rep H S (.str x) (.str x)
 | lst {a:Addr} {xs:List V} {ds:List PyData}:Rd H a (.lst xs)→¬ a∈S→Reps H S xs ds→Rep H S (.ref a) (.list ds)
 | tup {a:Addr} {xs:List V} {ds:List PyData}:Rd H a (.tup xs)→Reps H S xs ds→Rep H S (.ref a) (.tuple ds)
inductive Reps(H:Hp)(S:List Addr):List V→List PyData→Prop
 | nil:Reps H S [] []
 | cons {x:V} {xs:List V} {d:PyData} {ds:List PyData}:Rep H S x d→Reps H S xs ds→Reps H S (x::xs) (d::ds)
end
structure Chg(S:List Addr)(H H':Hp):Prop where
 keep:∀ b o,H b=some o→¬ b∈S→H' b=some o
 tups:∀ b xs,H b=some (.tup xs)→H' b=some (.tup xs)
 frzs:∀ b o u,H b=some (.frz o u)→H' b=some (.frz o u)
section
variable {H H' H1 H2:Hp}{S T:List Addr}{a p:Addr}{o:HO}
theorem Chg.refl(S:List Addr)(H:Hp):Chg S H H:=⟨fun _ _ e _=>e,fun _ _ e=>e,fun _ _ _ e=>e⟩
theorem Chg.trans(x:Chg S H H1)(y:Chg S H1 H2):Chg S H H2:=⟨fun b o e n=>y.keep b o (x.keep b o e n) n,fun b xs e=>y.tups b xs (x.tups b xs e),fun b o u e=>y.frzs b o u (x.frzs b o u e)⟩
theorem Chg.mono(x:Chg S H H')(h:∀ b∈S,b∈T):Chg T H H':=⟨fun b o e n=>x.keep b o e fun m=>n (h b m),x.tups,x.frzs⟩
theorem Chg.of_same(s:Same H H'):Chg S H H':=⟨fun b o e _=>s b o e,fun b xs e=>s b _ e,fun b o u e=>s b _ e⟩
theorem Same.new(hp:H p=none):Same H (upd H p o):=fun b u e=>by rw [bB (bF e hp)];exact e
theorem Chg.new(hp:H p=none):Chg S H (upd H p o):=.of_same (.new hp)
theorem Chg.set(mu:ke (H a))(ha:a∈S):Chg S H (upd H a o):=by
 refine ⟨fun b u e n=>?_,fun b xs e=>?_,fun b u w e=>?_⟩
 ·rw [bB (by rintro rfl;exact n ha)];exact e
 ·rw [bB (by rintro rfl;rw [e] at mu;exact mu)];exact e
 ·rw [bB (by rintro rfl;rw [e] at mu;exact mu)];exact e
theorem Rd.chgT{xs:List V}(c:Chg S H H')(r:Rd H a (.tup xs)):Rd H' a (.tup xs):=r.elim (fun e=>.inl (c.tups _ _ e)) fun ⟨o,e⟩=>.inr ⟨o,c.frzs _ _ _ e⟩
theorem Rd.chgL{xs:List V}(c:Chg S H H')(ha:¬ a∈S)(r:Rd H a (.lst xs)):Rd H' a (.lst xs):=r.elim (fun e=>.inl (c.keep _ _ e ha)) fun ⟨o,e⟩=>.inr ⟨o,c.frzs _ _ _ e⟩
theorem Rd.some{u:HO}(r:Rd H a u):∃ o,H a=some o:=r.elim (fun e=>⟨_,e⟩) fun ⟨_,e⟩=>⟨_,e⟩
mutual
theorem Rep.chg(c:Chg S H H'):∀ {v:V} {d:PyData},Rep H S v d→Rep H' S v d
 | _,_,.non=>.non
 | _,_,.bl b=>.bl b
 | _,_,.int i=>.int i
 | _,_,.str x=>.str x
 | _,_,.lst r n rs=>.lst (r.chgL c n) n (Reps.chg c rs)
 | _,_,.tup r rs=>.tup (r.chgT c) (Reps.chg c rs)
theorem Reps.chg(c:Chg S H H'):∀ {vs:List V} {ds:List PyData},Reps H S vs ds→Reps H' S vs ds
 | _,_,.nil=>.nil
 | _,_,.cons h t=>.cons (Rep.chg c h) (Reps.chg c t)
end
mutual
theorem Rep.mono(c:∀ b∈T,b∈S):∀ {v:V} {d:PyData},Rep H S v d→Rep H T v d
 | _,_,.non=>.non
 | _,_,.bl b=>.bl b
 | _,_,.int i=>.int i
 | _,_,.str x=>.str x
 | _,_,.lst r n rs=>.lst r (fun m=>n (c _ m)) (Reps.mono c rs)
 | _,_,.tup r rs=>.tup r (Reps.mono c rs)
theorem Reps.mono(c:∀ b∈T,b∈S):∀ {vs:List V} {ds:List PyData},Reps H S vs ds→Reps H T vs ds
 | _,_,.nil=>.nil
 | _,_,.cons h t=>.cons (Rep.mono c h) (Reps.mono c t)
end
mutual
theorem Rep.fresh(hp:H p=none):∀ {v:V} {d:PyData},Rep H S v d→Rep H (p::S) v d
 | _,_,.non=>.non
 | _,_,.bl b=>.bl b
 | _,_,.int i=>.int i
 | _,_,.str x=>.str x
 | _,_,.lst r n rs=>.lst r (fun m=>(List.mem_cons.mp m).elim (fun z=>by obtain ⟨o,e⟩:=r.some;rw [z,hp] at e;cases e) n) (Reps.fresh hp rs)
 | _,_,.tup r rs=>.tup r (Reps.fresh hp rs)
theorem Reps.fresh(hp:H p=none):∀ {vs:List V} {ds:List PyData},Reps H S vs ds→Reps H (p::S) vs ds
 | _,_,.nil=>.nil
 | _,_,.cons h t=>.cons (Rep.fresh hp h) (Reps.fresh hp t)
end
theorem Rep.plain{v:V}{d:PyData}(r:Rep H S v d):Rep H [] v d:=r.mono (by simp)
theorem Reps.plain{v:List V}{d:List PyData}(r:Reps H S v d):Reps H [] v d:=r.mono (by simp)
theorem Rep.same{v:V}{d:PyData}(s:Same H H')(r:Rep H S v d):Rep H' S v d:=r.chg (.of_same s)
theorem Reps.same{v:List V}{d:List PyData}(s:Same H H')(r:Reps H S v d):Reps H' S v d:=r.chg (.of_same s)
theorem Reps.length:∀ {vs:List V} {ds:List PyData},Reps H S vs ds→vs.length=ds.length
 | _,_,.nil=>rfl
 | _,_,.cons _ t=>by rw [laj,laj,Reps.length t]
theorem Reps.get:∀ {vs:List V} {ds:List PyData} {i:Nat} {v:V},Reps H S vs ds→vs[i]?=some v→∃ d,ds[i]?=some d∧Rep H S v d
 | _,_,i,v,.nil,h=>by simp at h
 | _,_,0,v,.cons h t,e=>by simp at e;subst e;exact ⟨_,rfl,h⟩
 | _,_,i+1,v,.cons h t,e=>by
  simp at e
  obtain ⟨d,h1,h2⟩:=Reps.get t e
  exact ⟨d,by simpa using h1,h2⟩
theorem Reps.getD:∀ {vs:List V} {ds:List PyData} {i:Nat} {d:PyData},Reps H S vs ds→ds[i]?=some d→∃ v,vs[i]?=some v∧Rep H S v d
 | _,_,i,v,.nil,h=>by simp at h
 | _,_,0,v,.cons h t,e=>by simp at e;subst e;exact ⟨_,rfl,h⟩
 | _,_,i+1,v,.cons h t,e=>by
  simp at e
  obtain ⟨d,h1,h2⟩:=Reps.getD t e
  exact ⟨d,by simpa using h1,h2⟩
theorem Reps.append:∀ {vs ws:List V} {ds es:List PyData},Reps H S vs ds→Reps H S ws es→Reps H S (vs++ws) (ds++es)
 | _,_,_,_,.nil,h=>h
 | _,_,_,_,.cons x t,h=>.cons x (Reps.append t h)
theorem Reps.one{v:V}{d:PyData}(h:Rep H S v d):Reps H S [v] [d]:=.cons h .nil
theorem Reps.snoc{vs:List V}{ds:List PyData}{v:V}{d:PyData}(h:Reps H S vs ds)(q:Rep H S v d):Reps H S (vs++[v]) (ds++[d]):=h.append (.one q)
theorem Reps.take:∀ {vs:List V} {ds:List PyData} (n:Nat),Reps H S vs ds→Reps H S (vs.take n) (ds.take n)
 | _,_,0,_=>by simpa using Reps.nil
 | _,_,n+1,.nil=>by simpa using Reps.nil
 | _,_,n+1,.cons h t=>by simpa using Reps.cons h (Reps.take n t)
theorem Reps.drop:∀ {vs:List V} {ds:List PyData} (n:Nat),Reps H S vs ds→Reps H S (vs.drop n) (ds.drop n)
 | _,_,0,h=>by simpa using h
 | _,_,n+1,.nil=>by simpa using Reps.nil
 | _,_,n+1,.cons h t=>by simpa using Reps.drop n t
theorem Rep.non_inv{v:V}(r:Rep H S v .none):v=.non:=by cases r;rfl
theorem Rep.bl_inv{v:V}{b:Bool}(r:Rep H S v (.bool b)):v=.bl b:=by cases r;rfl
theorem Rep.int_inv{v:V}{i:Int}(r:Rep H S v (.int i)):v=.int i:=by cases r;rfl
theorem Rep.str_inv{v:V}{x:Str}(r:Rep H S v (.str x)):v=.str x:=by cases r;rfl
theorem Rep.lst_inv{v:V}{ds:List PyData}(r:Rep H S v (.list ds)):∃ a xs,v=.ref a∧Rd H a (.lst xs)∧¬ a∈S∧Reps H S xs ds:=by cases r with | lst h n t=>exact ⟨_,_,rfl,h,n,t⟩
theorem Rep.tup_inv{v:V}{ds:List PyData}(r:Rep H S v (.tuple ds)):∃ a xs,v=.ref a∧Rd H a (.tup xs)∧Reps H S xs ds:=by cases r with | tup h t=>exact ⟨_,_,rfl,h,t⟩
theorem Reps.nil_inv{vs:List V}(r:Reps H S vs []):vs=[]:=by cases r;rfl
theorem Reps.cons_inv{vs:List V}{d:PyData}{ds:List PyData}(r:Reps H S vs (d::ds)):∃ x xs,vs=x::xs∧Rep H S x d∧Reps H S xs ds:=by cases r with | cons h t=>exact ⟨_,_,rfl,h,t⟩
theorem qD:∀ (xs:List Str),Reps H S (xs.map .str) (xs.map .str)
 | []=>.nil
 | x::xs=>.cons (.str x) (qD xs)
end
section
variable {X:Cx}{pins:List (Addr×Obj)}{σ:St}{H:Hp}{s:Shared}{S:List Addr}
mutual
theorem Rep.reads(I:Inv X pins σ H s):∀ {v:V} {d:PyData} {u:Value},Rep H S v d→RelV v u→∃ as,Reads s.heap u d as
 | _,_,_,.non,r=>by cases (show _=Value.none from r);exact ⟨_,.none⟩
 | _,_,_,.bl b,r=>by cases (show _=Value.bool b from r);exact ⟨_,.bool b⟩
 | _,_,_,.int i,r=>by obtain ⟨t,e⟩:=(show ∃ t,_=Value.int i t from r);subst e;exact ⟨_,.int i t⟩
 | _,_,_,.str x,r=>by obtain ⟨t,e⟩:=(show ∃ t,_=Value.str x t from r);subst e;exact ⟨_,.str x t⟩
 | _,_,_,.lst (a:=a) h _ rs,r=>by
  cases (show _=Value.ref a from r)
  obtain ⟨its,rv,⟨o,n,e,c,_,d⟩,_⟩:=I.list (Or.inl h)
  obtain ⟨as,q⟩:=Reps.reads I rs rv
  exact ⟨_,.list e c d (by simpa using q)⟩
 | _,_,_,.tup (a:=a) h rs,r=>by
  cases (show _=Value.ref a from r)
  obtain ⟨its,rv,⟨o,e,c,n,d⟩,_⟩:=I.tuple (Or.inl h)
  obtain ⟨as,q⟩:=Reps.reads I rs rv
  exact ⟨_,.tuple e c d (by simpa using q)⟩
theorem Reps.reads(I:Inv X pins σ H s):∀ {vs:List V} {ds:List PyData} {us:List Value},Reps H S vs ds→Vals vs us→∃ as,ReadsAll s.heap us ds as
 | _,_,_,.nil,r=>by cases r;exact ⟨_,.nil⟩
 | _,_,_,.cons h t,r=>by
  cases r with
  | cons r1 r2=>
   obtain ⟨as,q⟩:=Rep.reads I h r1
   obtain ⟨bs,p⟩:=Reps.reads I t r2
   exact ⟨_,.cons q p⟩
end
end
def kG:R2:=fun x y H Q=>∃ d e,Rep H [] x d∧Rep H [] y e∧SeqAt.shaped d=true∧SeqAt.shaped e=true∧Q (.bl (PyData.eqv d e)) H
def qj:R2:=fun x y H Q=>∃ d e,Rep H [] x d∧Rep H [] y e∧SeqAt.shaped d=true∧SeqAt.shaped e=true∧Q (.bl (!PyData.eqv d e)) H
def nc(neg:Bool):R2:=fun x y H Q=>∃ d ds,Rep H [] x d∧(Rep H [] y (.list ds)∨Rep H [] y (.tuple ds))∧PyData.canLayAll0 ds=true∧SeqAt.shaped d=true∧
 Q (.bl (if neg then !(ds.any fun e=>PyData.eqv e d) else ds.any fun e=>PyData.eqv e d)) H
section
variable {X:Cx}
theorem jt(hu:X.A.units+64<cLine):eO X (compareOp .Eq) kG:=by
 intro pins s σ H x y v u Q I rx ry h
 obtain ⟨d,e,rd,re,sd,se,q⟩:=h
 obtain ⟨as,ra⟩:=rd.reads I rx
 obtain ⟨bs,rb⟩:=re.reads I ry
 exact SeqAt.compareEq_shaped ra rb sd se hu ⟨.bl _,H,I,rfl,q⟩
theorem nC(hu:X.A.units+64<cLine):eO X (compareOp .NotEq) qj:=by
 intro pins s σ H x y v u Q I rx ry h
 obtain ⟨d,e,rd,re,sd,se,q⟩:=h
 obtain ⟨as,ra⟩:=rd.reads I rx
 obtain ⟨bs,rb⟩:=re.reads I ry
 exact SeqAt.compareNe_shaped ra rb sd se hu ⟨.bl _,H,I,rfl,q⟩
theorem oY(hu:X.A.units+65<cLine):eO X (compareOp .In) (nc false):=by
 intro pins s σ H x y v u Q I rx ry h
 obtain ⟨d,ds,rd,re,sd,se,q⟩:=h
 obtain ⟨as,ra⟩:=rd.reads I rx
 rcases re with re | re
 ·obtain ⟨bs,rb⟩:=re.reads I ry
  exact SeqAt.in_list_reads rb ra sd (SeqAt.canLay_of_shaped se) (room_in_shaped se hu) ⟨.bl _,H,I,rfl,q⟩
 ·obtain ⟨bs,rb⟩:=re.reads I ry
  exact SeqAt.in_tuple_reads rb ra sd (SeqAt.canLay_of_shaped se) (room_in_shaped se hu) ⟨.bl _,H,I,rfl,q⟩
def TyO(K:PySem.W.Frag)(H:Hp)(x:V)(t:Value):Prop:=gL K H x t∨∃ a ys,x=.ref a∧Rd H a (.tup ys)∧t=.type "tuple"
theorem b6:iI X (.builtin "isinstance") (fun xs H Q=>∃ x T t b,xs=[x,.ty T]∧TyO X.K H x t∧PySem.W.kitOne X.K t (.type T)=some b∧Q (.bl b) H):=by
 intro pins s σ H xs us Q I r h
 obtain ⟨x,T,t,b,rfl,ty,e,q⟩:=h
 obtain ⟨u,v,rfl,ru,rv⟩:=Vals.two r
 cases (show v=Value.type T from rv)
 rcases ty with ty | ⟨a,ys,rfl,rd,rfl⟩
 ·exact za I ru ty e fun tk=>⟨.bl b,H,I.tok tk,rfl,q⟩
 ·cases (show u=Value.ref a from ru)
  obtain ⟨its,_,⟨o,h1,h2,_⟩,_⟩:=I.tuple (Or.inl rd)
  exact PySem.W.kia_one PySem.W.kitx_tuple I.kIn ⟨o,h1,h2⟩ e (fun z=>nomatch z) fun tk=>⟨.bl b,H,I.tok tk,rfl,q⟩
end
theorem cF(K:PySem.W.Frag)(T:String):PySem.W.kitOne K (.type T) (.type T)=some true:=by unfold PySem.W.kitOne;rw [if_pos (by simp)]
def oR(td ty tx:TE):TE:=fun σ H Q=>td σ H fun x H1=>∃ a,x=.ref a∧u4 H1 a∧ty σ H1 fun y H2=>tx σ H2 fun z H3=>∃ kvs k,H3 a=some (.dK kvs)∧y=kV k∧kvs.length<sizeLine∧
 (∀ v,bq kvs k=some v→Q v H3)∧(bq kvs k=none→Q z (upd H3 a (.dK (cr kvs k z))))
section
variable {X:Cx}{o e f:Expr}{apos cpos:Pos}{td ty tx:TE}
theorem rW(ho:PE X o td)(he:PE X e ty)(hf:PE X f tx)(m:M2 X o "setdefault" apos e f cpos):PE X (.Call (.Attribute o "setdefault" apos) [e,f] [] cpos) (oR td ty tx):=by
 intro pins s σ H Q I h
 refine wpAny_Call_method m.base m.few m.line PySem.F.plainAttrs_dict PySem.F.slot_dict_setdefault PySem.F.type_dict_setdefault (bh (ho pins s σ H _ I h) fun u s1 ⟨x,H1,I1,rx,a,ex,d,q1⟩=>?_)
 subst ex
 obtain rfl:u=Value.ref a:=rx
 obtain ⟨t1,t2,_⟩:=yy I1 d
 refine ⟨t1,t2,?_⟩
 rw [m.trees]
 refine Calls.callWith_builtin rfl (Calls.evalArgs_plain (Calls.spliced_cons (bh (he pins s1 σ H1 _ I1 q1) fun iv s2 ⟨y,H2,I2,ry,q2⟩=>
  Calls.spliced_cons (bh (hf pins s2 σ H2 _ I2 q2) fun fv s3 ⟨z,H3,I3,rz,kvs,k,ea,ey,lz,q3,q4⟩=>Calls.spliced_nil ?_))))
 subst ey
 obtain ⟨z',hd,vs,rel,dd⟩:=xj I3.hok ea
 refine call_meetsIn PySem.F.slot_dict_setdefault dd.typeIs PySem.F.entry_dict_setdefault (PySem.F.args_dict_setdefault_3 _ _ _) (kt_meets_setdefault (cU X.prog X.w) a (mC ry) hd fv)
  ⟨vs,dd,by rw [← rel.length];exact z',fun v hv=>?_,fun hn h' dd' hs=>?_⟩
 ·have rl:=rel.val k
  rw [hv] at rl
  cases e:bq kvs k with
  | none=>rw [e] at rl;exact (show False from rl).elim
  | some x=>
   rw [e] at rl
   exact ⟨x,H3,I3.tok _,rl,q3 x e⟩
 ·have rl:=rel.val k
  rw [hn] at rl
  cases e:bq kvs k with
  | some x=>rw [e] at rl;exact (show False from rl).elim
  | none=>
   have hl:(cr kvs k z).length≤sizeLine:=by have:=eF kvs k z;omega
   have he:∃ q,h'.get? a=some q:=let ⟨q,_,_,hq,_⟩:=dd';⟨q,hq⟩
   exact ⟨z,_,nL I3 (by rw [ea];exact True.intro) hs he (sj hl hd (rel.put k rz) dd'),rz,q4 e⟩
end
abbrev gX:R2:=jo fun i j=>.int (i+j)
abbrev E6:R2:=jo fun i j=>.int (i - j)
abbrev dX:R2:=rI CMul fun i j=>.int (i*j)
abbrev cI:R2:=rI (fun _ j=>0<j) fun i j=>.int (i % j)
abbrev vQ:R2:=rI zS fun i j=>.int (i / j)
abbrev jQ:R2:=jo fun i j=>.bl (decide (i<j))
abbrev DM:R2:=jo fun i j=>.bl (decide (i≤j))
abbrev xn:R2:=jo fun i j=>.bl (decide (j<i))
abbrev CC:R2:=jo fun i j=>.bl (decide (j≤i))
abbrev wW:V→Hp→VK→Prop:=rU fun i=>.int (-i)
abbrev ck(K:PySem.W.Frag):List V→Hp→VK→Prop:=fun xs H Q=>∃ p ys,xs=[.ref p]∧(SqL K H p ys∨fD K H p ys)∧Q (.int ys.length) H
abbrev wo:List V→Hp→VK→Prop:=fun xs H Q=>∃ a kvs,xs=[V.ref a]∧H a=some (.dK kvs)∧Q (.int kvs.length) H
abbrev m_(K:PySem.W.Frag):List V→Hp→VK→Prop:=fun xs H Q=>∃ p ys,xs=[.ref p]∧(SqL K H p ys∨fD K H p ys)∧∀ l,H l=none→Q (.ref l) (upd H l (.lst ys))
abbrev rc:List V→Hp→VK→Prop:=fun xs H Q=>(∃ i,xs=[.int i]∧Q (.int i) H)∨∃ k,xs=[.bl k]∧Q (.int (if k then 1 else 0)) H
abbrev fc(K:PySem.W.Frag):List V→Hp→VK→Prop:=fun xs H Q=>∃ x T t b,xs=[x,.ty T]∧TyO K H x t∧PySem.W.kitOne K t (.type T)=some b∧Q (.bl b) H
abbrev HZ:R2:=fun x y H Q=>∃ i j,x=.str i∧y=.str j∧i.length+j.length≤sizeLine∧Q (.str (i++j)) H
theorem ql{A:Around}{k:Nat}(hr:Room k A):A.units+65<cLine:=by have:=hr.un;omega
def aK(P:Program)(w:World)(K:PySem.W.Frag)(mg:Str→Option Value)(base:Heap)(k:Nat)(x:Str)(ps:List Str)(sp:Sp):Prop:=
 ∃ f fd,fg P w K mg base bD k f fd ps sp∧mg x=some (.ref f)∧PySem.W.keepIn K (.ref f)=true∧Binds K fd ps []
def aG(P:Program)(w:World)(K:PySem.W.Frag)(mg:Str→Option Value)(base:Heap)(C:Addr)(k:Nat)(x:Str)(ps:List Str)(sp:Sp):Prop:=
 ∃ f fd,fg P w K mg base bD k f fd ps sp∧cX K C x f∧Binds K fd ps []
def mY(P:Program)(w:World)(K:PySem.W.Frag)(mg:Str→Option Value)(base:Heap)(C:Addr)(k:Nat)(ps:List Str)(sp:Sp):Prop:=
 ∃ f fd,fg P w K mg base bD k f fd ps sp∧Mk K C f∧Binds K fd ps []
def Grow(R:List Addr)(H:Hp)(R':List Addr):Prop:=∀ a∈R',a∈R∨H a=none
theorem Grow.refl(R:List Addr)(H:Hp):Grow R H R:=fun _ h=>.inl h
theorem Grow.trans{R R1 R2:List Addr}{H H1:Hp}(g1:Grow R H R1)(c:Chg R H H1)(g2:Grow R1 H1 R2):Grow R H R2:=fun a ha=>by
 rcases g2 a ha with z | z
 ·exact g1 a z
 ·by_cases m:a∈R
  ·exact .inl m
  ·cases e:H a with
   | none=>exact .inr rfl
   | some o=>rw [c.keep a o e m] at z;cases z
theorem Chg.grow{R R1:List Addr}{H H1 H2:Hp}(c:Chg R H H1)(g:Grow R H R1)(c2:Chg R1 H1 H2):Chg R H H2:=
 ⟨fun b o e n=>c2.keep b o (c.keep b o e n) fun m=>(g b m).elim n fun z=>(by rw [e] at z;cases z),fun b xs e=>c2.tups b xs (c.tups b xs e),fun b o u e=>c2.frzs b o u (c.frzs b o u e)⟩
mutual
theorem Rep.grow{H:Hp}{S T:List Addr}(g:Grow S H T):∀ {v:V} {d:PyData},Rep H S v d→Rep H T v d
 | _,_,.non=>.non
 | _,_,.bl b=>.bl b
 | _,_,.int i=>.int i
 | _,_,.str x=>.str x
 | _,_,.lst r n rs=>.lst r (fun m=>(g _ m).elim n fun z=>by obtain ⟨o,e⟩:=r.some;rw [z] at e;cases e) (Reps.grow g rs)
 | _,_,.tup r rs=>.tup r (Reps.grow g rs)
theorem Reps.grow{H:Hp}{S T:List Addr}(g:Grow S H T):∀ {v:List V} {d:List PyData},Reps H S v d→Reps H T v d
 | _,_,.nil=>.nil
 | _,_,.cons h t=>.cons (Rep.grow g h) (Reps.grow g t)
end
theorem Chg.put{S:List Addr}{H H':Hp}{p:Addr}{o:HO}(c:Chg S H H')(hp:H p=none):Chg S H (upd H' p o):=
 ⟨fun b u e n=>by rw [bB (bF e hp)];exact c.keep b u e n,fun b xs e=>by rw [bB (bF e hp)];exact c.tups b xs e,fun b u w e=>by rw [bB (bF e hp)];exact c.frzs b u w e⟩
theorem TyO.int{K:PySem.W.Frag}{H:Hp}(i:Int):TyO K H (.int i) (.type "int"):=.inl (.int i)
theorem TyO.bl{K:PySem.W.Frag}{H:Hp}(i:Bool):TyO K H (.bl i) (.type "bool"):=.inl (.bl i)
theorem TyO.str{K:PySem.W.Frag}{H:Hp}(i:Str):TyO K H (.str i) (.type "str"):=.inl (.str i)
theorem TyO.list{K:PySem.W.Frag}{H:Hp}{a:Addr}{xs:List V}(r:Rd H a (.lst xs)):TyO K H (.ref a) (.type "list"):=r.elim (fun e=>.inl (.lst e)) fun ⟨_,e⟩=>.inl (.frz e)
theorem TyO.tup{K:PySem.W.Frag}{H:Hp}{a:Addr}{xs:List V}(r:Rd H a (.tup xs)):TyO K H (.ref a) (.type "tuple"):=.inr ⟨a,xs,rfl,r,rfl⟩
end L2
set_option Elab.async false
set_option linter.all false
set_option maxRecDepth 100000
set_option maxHeartbeats 4000000
namespace L2
open PySem PySem.Spec PyProof.Rows
abbrev iX(X:Cx)(N:List Str)(scope:Scope)(cl:List (Str×Addr))(C:Addr)(s:Shared)(H:Hp)(fp:List Addr):Cx:=
 { X with N:=N,s₀:=s,H₀:=H,env:=compEnvC scope cl C X.env,outer:=X.stack,ex:=fp,fn:=fun _=>false,pn:=[],xe:=fun _ _=>False }
def iS(pick:List (Option Nat))(σ:St):St:=pick.map fun o=>o.bind fun i=>(σ[i]?).bind id
def Picks(X:Cx)(scope:Scope)(cl:List (Str×Addr)):List Str→List (Option Nat)→Prop
 | [],[]=>True
 | _::xs,none::ps=>Picks X scope cl xs ps
 | x::xs,some i::ps=>(X.N[i]?=some x∧(X.env.kindOf x=some .cell∨X.env.kindOf x=some .free)∧
   ((relabel scope X.env).names.lookup x=some .cell∨(relabel scope X.env).names.lookup x=some .free)∧∃ c,X.env.cells.lookup x=some c∧cl.lookup x=some c)∧Picks X scope cl xs ps
 | _,_=>False
def ClosOk(X:Cx):List (Str×Addr)→Prop
 | []=>True
 | p::r=>X.env.cells.lookup p.1=some p.2∧ClosOk X r
structure db(X:Cx)(N:List Str)(scope:Scope)(cl:List (Str×Addr))(pick:List (Option Nat)):Prop where
 clos:closureFor scope X.env=pure cl
 kind:scope.kind=.function
 nocell:(scope.names.all fun y=>y.2 != .cell)=true
 loc:(scope.names.all fun y=>y.2 != .local||scope.names.lookup y.1==some .local)=true
 free:(scope.names.all fun y=>y.2 != .free||(cl.lookup y.1).isSome)=true
 cells:ClosOk X cl
 picks:Picks X scope cl N pick
theorem ClosOk.look{X:Cx}:∀ {cl:List (Str×Addr)} {x:Str} {c:Addr},ClosOk X cl→cl.lookup x=some c→X.env.cells.lookup x=some c
 | [],_,_,_,h=>by simp at h
 | (n,a)::r,x,c,⟨h1,h2⟩,h=>by
  rw [List.lookup_cons] at h
  cases e:x==n with
  | true=>
   rw [e] at h
   have e':x=n:=by simpa using e
   subst e'
   cases h
   exact h1
  | false=>
   rw [e] at h
   exact h2.look h
theorem Picks.length{X:Cx}{scope:Scope}{cl:List (Str×Addr)}:∀ {N:List Str} {ps:List (Option Nat)},Picks X scope cl N ps→ps.length=N.length
 | [],[],_=>rfl
 | [],_::_,h=>(show False from h).elim
 | _::_,[],h=>(show False from h).elim
 | _::xs,none::ps,h=>by
  have h':Picks X scope cl xs ps:=h
  rw [laj,laj,h'.length]
 | _::xs,some i::ps,h=>by
  have h':Picks X scope cl xs ps:=h.2
  rw [laj,laj,h'.length]
theorem Picks.at{X:Cx}{scope:Scope}{cl:List (Str×Addr)}:∀ {N:List Str} {ps:List (Option Nat)} {j i:Nat} {x:Str},Picks X scope cl N ps→N[j]?=some x→ps[j]?=some (some i)→
  X.N[i]?=some x∧(X.env.kindOf x=some .cell∨X.env.kindOf x=some .free)∧
   ((relabel scope X.env).names.lookup x=some .cell∨(relabel scope X.env).names.lookup x=some .free)∧∃ c,X.env.cells.lookup x=some c∧cl.lookup x=some c
 | [],_,j,_,_,_,h,_=>by simp at h
 | _::_,[],j,_,_,_,_,h=>by simp at h
 | y::xs,none::ps,0,_,_,_,_,h=>by simp at h
 | y::xs,some k::ps,0,i,x,p,h1,h2=>by
  simp at h1 h2
  subst h1 h2
  exact p.1
 | y::xs,none::ps,j+1,i,x,p,h1,h2=>Picks.at (N:=xs) (ps:=ps) p (by simpa using h1) (by simpa using h2)
 | y::xs,some k::ps,j+1,i,x,p,h1,h2=>Picks.at (N:=xs) (ps:=ps) p.2 (by simpa using h1) (by simpa using h2)
theorem tP{prog:Program}{w:World}{A:Around}{R:Result→Shared→Prop}{s:Shared}{elt target iter:Expr}{ifs:List Expr}{scope:Scope}{pos:Pos}{it acc:Value}{env:Env}(I:Nat→Shared→Prop)
  (turn:∀ n s,I n s→wpAny (model prog w) A (pyNext it) (fun r s₁=>match r with
   | none=>R (.ok .next) s₁
   | some v=>wpAny (model prog w) A (letOwnedTupleGo target it v) (fun _ s'=>wpAny (model prog w) A (assign target env v) (fun _ s₂=>
     wpAny (model prog w) A (forIn ifs true fun c r=>if r=true then do let ok ← isTrue c env (eval c env);pure (ForInStep.yield ok) else pure (ForInStep.yield r)) (fun ok s₃=>
      if ok=true then wpAny (model prog w) A (eval elt env) (fun x s₄=>
       wpAny (model prog w) A (call (.builtin "list.append") [acc,x]) (fun _ s₅=>∃ m,m<n∧I m s₅) (fun _ _=>False) s₄) (fun _ _=>False) s₃
      else ∃ m,m<n∧I m s₃) (fun _ _=>False) s₂) (fun _ _=>False) s') (fun _ _=>False) s₁) (fun _ _=>False) s)
  (n:Nat)(h:I n s) :
  codeAny (model prog w) A (.compLoop (.ListComp elt [⟨target,iter,ifs,0⟩] scope pos) 0 it acc env) R s:=by
 refine codeAny_loop rfl I (fun n s hI=>?_) n h
 show wpAny _ A ((compTurn (.ListComp elt [⟨target,iter,ifs,0⟩] scope pos) 0 it acc env).onRaise (fun x=>do noteFrame x env;theTreesLotGoes x)) _ _ s
 refine wpAny_noted ?_
 rw [compTurn_list]
 refine wpAny_bind (wpAny_standAt (wpAny_bind (wpAny_mono (turn n s hI) (fun r s₁ h₁=>?_) fun _ _ h'=>h'.elim)))
 cases r with
 | none=>exact wpAny_pure h₁
 | some v=>
  refine wpAny_bind (wpAny_mono h₁ (fun _ s' h'=>wpAny_bind (wpAny_mono h' (fun _ s₂ h₂=>wpAny_bind (wpAny_mono h₂ (fun ok s₃ h₃=>?_) fun _ _ h'=>h'.elim)) fun _ _ h'=>h'.elim)) fun _ _ h'=>h'.elim)
  cases ok with
  | false=>exact wpAny_pure ⟨rfl,h₃⟩
  | true=>
   exact wpAny_bind (wpAny_bind (wpAny_mono h₃ (fun x s₄ h₄=>wpAny_bind (wpAny_mono h₄ (fun _ s₅ h₅=>wpAny_pure (wpAny_pure ⟨rfl,h₅⟩)) fun _ _ h'=>h'.elim)) fun _ _ h'=>h'.elim))
def wE(X:Cx)(ifs:List Expr)(t:TT):Prop:=
 ∀ (pins:List (Addr×Obj)) (s:Shared) (σ:St) (H:Hp) (Q:Bool→Hp→Prop),Inv X pins σ H s→t σ H Q→
  wpAny (model X.prog X.w) X.A (forIn ifs true fun c r=>if r=true then do let ok ← isTrue c X.env (eval c X.env);pure (ForInStep.yield ok) else pure (ForInStep.yield r)) (TP X pins σ Q) X.xe s
def fK:TT:=fun _ H Q=>Q true H
theorem eT{X:Cx}:wE X [] fK:=fun _ _ _ H _ I h=>wpAny_tests_nil ⟨H,I,h⟩
theorem fW{X:Cx}{c:Expr}{t:TT}(h:PT X c t):wE X [c] t:=fun pins s σ H Q I q=>wpAny_tests_one (h pins s σ H Q I q)
def Hn(X:Cx)(pins:List (Addr×Obj))(H:Hp)(C:Addr):Prop:=
 H C=none∧C≠X.env.locals∧X.s₀.heap.objs.size≤C∧(∀ x c,X.env.cells.lookup x=some c→c≠C)∧∀ q∈X.pn++pins,q.1≠C
def nO(J:It)(g:TG)(ti:TT)(te:TE)(σ0:St)(H1:Hp)(Q:VK)(p:Addr):Prop:=
 ∃ W:Nat→Nat→St→Hp→Prop,(∃ m,W 0 m σ0 (upd H1 p (.lst [])))∧∀ i m σ H,W i m σ H→
  (J.stop i H∧Q (.ref p) H)∨(J.go i H∧∃ N:St→Hp→Prop,(∀ σ' H',N σ' H'→∃ m',m'<m∧W (i+1) m' σ' H')∧
   ∀ x H',J.yld i H x H'→g x σ H' fun σ2 H2=>ti σ2 H2 fun b H3=>if b=true then te σ2 H3 fun v H4=>∃ xs,H4 p=some (.lst xs)∧xs.length<sizeLine∧N σ2 (upd H4 p (.lst (xs++[v]))) else N σ2 H3)
section
variable {X:Cx}{pins:List (Addr×Obj)}{σ:St}{H2:Hp}{s2:Shared}{N:List Str}{scope:Scope}{cl:List (Str×Addr)}{pick:List (Option Nat)}{elt tg iter:Expr}{ifs:List Expr}{pos:Pos}
 {g:TG} {ti:TT} {te:TE} {it:Addr} {fp:List Addr} {tn:Nat→Heap→Prop} {J:It} {Q:VK}
theorem EL{C:Addr}{s3:Shared}{H3:Hp}(S:db X N scope cl pick)(I3:Inv X pins σ H3 s3)(hC:s3.heap.objs.size≤C)(f3:∀ b∈fp,jj X pins H3 b)(hlt:∀ b∈fp,b<s3.heap.objs.size) :
    (iX X N scope cl C s3 H3 fp).Ok where
  mod:=I3.mod
  kind:=S.kind
  glob:=I3.ok.glob
  blt:=I3.ok.blt
  above:=hC
  inj:=fun x y c a b=>I3.ok.inj x y c (S.cells.look a) (S.cells.look b)
  has:=fun x h=>by
    have key:∀ (names:List (Str×NameKind)),(names.all fun y=>y.2 != .cell)=true→(names.all fun y=>y.2 != .free||(cl.lookup y.1).isSome)=true→
        ((names.map fun (n,k)=>if (k==NameKind.free&&X.env.scope.kind==.function&&X.env.kindOf n==some .cell) then (n,NameKind.cell) else (n,k)).lookup x=some .cell∨
         (names.map fun (n,k)=>if (k==NameKind.free&&X.env.scope.kind==.function&&X.env.kindOf n==some .cell) then (n,NameKind.cell) else (n,k)).lookup x=some .free)→∃ c,cl.lookup x=some c:=by
      intro names
      induction names with
      | nil=>intro _ _ h;simp at h
      | cons y r ih=>
        obtain ⟨n,k⟩:=y
        intro h1 h2 h3
        rw [List.all_cons,Bool.and_eq_true] at h1 h2
        rw [lah] at h3
        cases hx:x==n with
        | true=>
          have hx':x=n:=by simpa using hx
          subst hx'
          cases k with
          | free=>
            have q:=h2.1
            rw [Bool.or_eq_true] at q
            exact Option.isSome_iff_exists.mp (q.resolve_left (by simp))
          | cell=>exact absurd h1.1 (by simp)
          | _=>simp [List.lookup_cons] at h3
        | false=>
          refine ih h1.2 h2.2 ?_
          have e:∀ (k':NameKind),List.lookup x ((n,k')::(r.map fun (n,k)=>if (k==NameKind.free&&X.env.scope.kind==.function&&X.env.kindOf n==some .cell) then (n,NameKind.cell) else (n,k))) =
              List.lookup x (r.map fun (n,k)=>if (k==NameKind.free&&X.env.scope.kind==.function&&X.env.kindOf n==some .cell) then (n,NameKind.cell) else (n,k)):=fun k'=>by rw [List.lookup_cons,hx]
          by_cases hc:(k==NameKind.free&&X.env.scope.kind==.function&&X.env.kindOf n==some .cell)=true
          · simp only [if_pos hc] at h3;rw [e] at h3;exact h3
          · simp only [if_neg hc] at h3;rw [e] at h3;exact h3
    exact key scope.names S.nocell S.free h
  cab:=fun x c h=>by cases h
  hd:=I3.ok.hd
  frames:=I3.ok.frames
  stk:=.inl rfl
  exf:=fun b hb=>⟨fun e=>absurd (hlt b hb) (Nat.not_lt.mpr (by rw [show b=C from e];exact hC)),fun x c e=>(f3 b hb).2.2.2.2.1 x c (S.cells.look e)⟩
  bs:=I3.bs
  bsz:=las I3.ok.bsz I3.sz
  noex:=fun b o e hb=>by
    rcases (f3 b hb).2.2.2.1 with z | z
    · exact I3.ok.noex b o e z
    · exact absurd (lav (Heap.lt_size (I3.ok.bs b o e).1) z) (Nat.lt_irrefl _)
  exfs:=fun b hb m=>by
    rcases List.mem_cons.mp (I3.stkSub b m) with z | z
    · exact (f3 b hb).2.1 z
    · exact (f3 b hb).2.2.1 z
  funs:=I3.stack
  frf:=I3.stkFree
theorem CJ{C:Addr}{s3:Shared}{H3:Hp}{h4:Heap}{t4:Nat}{m:Str→Option Value}(S:db X N scope cl pick)(I3:Inv X pins σ H3 s3)(hC:s3.heap.objs.size≤C)(f3:∀ b∈fp,jj X pins H3 b)(hlt:∀ b∈fp,b<s3.heap.objs.size)
  (hn:h4.Ns C m)(hk:∀ b o,s3.heap.get? b=some o→h4.get? b=some o):Inv (iX X N scope cl C s3 H3 fp) [] (iS pick σ) H3 { s3 with heap:=h4,toks:=t4 } where
 ok:=EL S I3 hC f3 hlt
 os:=rfl
 bare:=I3.bare
 base:=Un.kept hk
 loc:=by
  refine ⟨m,hn,fun j x v hj hσ hv=>?_⟩
  have hj':N[j]?=some x:=hj
  unfold iS at hσ
  rw [lae] at hσ
  cases hp:pick[j]? with
  | none=>rw [hp] at hσ;cases hσ
  | some o=>
   rw [hp] at hσ
   cases o with
   | none=>cases hσ
   | some i=>
    obtain ⟨a1,a2,a3,c,a4,a5⟩:=S.picks.at hj' hp
    have hσ':σ[i]?=some (some v):=by
     have:(σ[i]?).bind id=some v:=by simpa using hσ
     cases q:σ[i]? with
     | none=>rw [q] at this;cases this
     | some z=>rw [q] at this;have e:z=some v:=this;rw [e]
    obtain ⟨m0,_,hl⟩:=I3.loc
    have vis:y8 X.env.scope x:=a2.elim (fun e=>.inr (.inl e)) fun e=>.inr (.inr e)
    obtain ⟨u,ru,lk⟩:=hl i x v a1 hσ' vis
    refine ⟨u,ru,.inr ⟨a3,c,a5,?_⟩⟩
    rcases lk with ⟨z,_⟩ | ⟨_,c',e',ic⟩
    ·rcases a2 with y | y <;> (rw [y] at z;cases z)
    ·rw [a4] at e';cases e'
     obtain ⟨o,e,d⟩:=ic
     exact ⟨o,hk _ _ e,d⟩
 cell:=fun x c e=>by
  obtain ⟨v,o,q,d⟩:=I3.cell x c (S.cells.look e)
  exact ⟨v,o,hk _ _ q,d⟩
 free:=I3.hok.fresh hC
 freeC:=fun x c e=>I3.freeC x c (S.cells.look e)
 pin:=fun p hp=>nomatch hp
 hok:=I3.hok.kept hk
 len:=by
  show (iS pick σ).length=N.length
  unfold iS
  rw [laa,S.picks.length]
theorem zC{E:Value→Shared→Prop}{RR:Value→Addr→Result→Shared→Prop}(hc:X.calm=true)(S:db X N scope cl pick)
  (hg:∀ C s H fp,PG (iX X N scope cl C s H fp) tg g)(ht:∀ C s H fp,wE (iX X N scope cl C s H fp) ifs ti)(he:∀ C s H fp,PE (iX X N scope cl C s H fp) elt te)
  (I2:Inv X pins σ H2 s2)(T:r8 X.prog X.w X.K tg J fp it tn)(st2:tn 0 s2.heap)(f2:∀ b∈fp,jj X pins H2 b)
  (hq:∀ p,H2 p=none→nO J g ti te (iS pick σ) H2 Q p)
  (hRR:∀ C p H' s1 m,Inv X pins σ H' s1→Hn X pins H' C→s1.heap.Ns C m→Q (.ref p) H'→RR (.ref p) C (.ok .next) s1) :
  wpAny (model X.prog X.w) X.A (newList []) (fun acc s₃=>wpAny (model X.prog X.w) X.A (newFunctionEnv scope X.env.globals cl [] X.env.qual none .none (some X.env)) (fun cenv s₄=>
   codeAny (model X.prog X.w) X.A (.compStart (.ListComp elt [⟨tg,iter,ifs,0⟩] scope pos) 0 (.ref it) acc { cenv with scope:=relabel scope X.env }) (RR acc cenv.locals) s₄) E s₃) E s2:=by
 have hcell:∀ y∈scope.names,y.2≠.cell:=fun y hy=>by simpa using List.all_eq_true.mp S.nocell y hy
 refine wpAny_newObj_type (wpAny_newFunctionEnv hcell (by intro y hy;simp at hy) (fun h₁ hns₁ hsb₁=>?_) S.kind)
 dsimp only at hns₁ hsb₁ ⊢
 have I3:Inv X pins σ (upd H2 s2.heap.objs.size (.lst [])) { s2 with heap:=s2.heap.push { cls:=.type "list",data:=.seq ([]:List Value).toArray } }:=
  I2.lnew (ys:=[]) (its:=[]) (t':=s2.toks) .nil (laI _)
 have hp:H2 s2.heap.objs.size=none:=I2.fresh
 obtain ⟨W,⟨m0,w0⟩,turn⟩:=hq _ hp
 generalize hA:s2.heap.objs.size=acc at *
 generalize hS3:({ s2 with heap:=s2.heap.push { cls:=.type "list",data:=.seq ([]:List Value).toArray } }:Shared)=s3 at *
 have hh3:s3.heap=s2.heap.push { cls:=.type "list",data:=.seq ([]:List Value).toArray }:=by rw [← hS3]
 have hsz:s3.heap.objs.size=acc+1:=by rw [hh3,Heap.size_push,hA]
 have hlt2:∀ b∈fp,b<acc:=fun b hb=>by
  obtain ⟨o,e,_⟩:=T.obj 0 _ st2 b hb
  rw [← hA];exact Heap.lt_size e
 have hlt:∀ b∈fp,b<s3.heap.objs.size:=fun b hb=>by rw [hsz];exact Nat.lt_succ_of_lt (hlt2 b hb)
 have f3:∀ b∈fp,jj X pins (upd H2 acc (.lst [])) b:=fun b hb=>⟨by rw [bB (Nat.ne_of_lt (hlt2 b hb))];exact (f2 b hb).1,(f2 b hb).2⟩
 have hk:∀ b o,s3.heap.get? b=some o→h₁.get? b=some o:=fun b o e=>by
  refine hsb₁.extBut b o (Nat.ne_of_lt ?_) (Heap.get?_push_of_some _ ?_)
  ·have:=Heap.lt_size e
   rw [hh3] at this
   exact this
  ·rw [hh3] at e;exact e
 have hCe:(s2.heap.push { cls:=.type "list",data:=.seq ([]:List Value).toArray }).objs.size=acc+1:=by rw [Heap.size_push,hA]
 have e4:({ s2 with heap:=h₁,toks:=s2.toks+([]:List (Str×Value)).length }:Shared)={ s3 with heap:=h₁,toks:=s2.toks }:=by rw [← hS3];rfl
 have hns:h₁.Ns (acc+1) (fun x=>([]:List (Str×Value)).reverse.lookup x):=by rw [← hCe];exact hns₁
 have I4:Inv (iX X N scope cl (acc+1) s3 (upd H2 acc (.lst [])) fp) [] (iS pick σ) (upd H2 acc (.lst [])) { s3 with heap:=h₁,toks:=s2.toks }:=
  CJ S I3 (by rw [hsz];exact lat _) f3 hlt hns hk
 have st4:tn 0 h₁:=T.keep _ _ _ st2 fun b hb o e=>hk b o (by rw [hh3];exact Heap.get?_push_of_some _ e)
 have stat:∀ {H':Hp},(∀ b∈fp,H' b=none)→∀ b∈fp,jj (iX X N scope cl (acc+1) s3 (upd H2 acc (.lst [])) fp) [] H' b:=fun {H'} hn b hb=>by
  have ok:=I4.ok
  exact ⟨hn b hb,(ok.exf b hb).1,ok.exfs b hb,.inl hb,(ok.exf b hb).2,fun p hp=>nomatch hp⟩
 -- behind the loop: the outer frame again
 have out:∀ {σ':St} {H':Hp} {s1:Shared},Inv (iX X N scope cl (acc+1) s3 (upd H2 acc (.lst [])) fp) [] σ' H' s1→Q (.ref acc) H'→RR (.ref acc) (acc+1) (.ok .next) s1:=fun {σ' H' s1} I' q'=>by
  obtain ⟨m',hn',_⟩:=I'.loc
  refine hRR (acc+1) acc H' s1 m' ?_ ?_ hn' q'
  ·exact I3.call' I'.os I'.base I'.hok I'.bare fun b hb=>⟨(f3 b hb).2.2.2.1,(f3 b hb).2.1,(f3 b hb).2.2.2.2.1,(f3 b hb).2.2.2.2.2⟩
  ·have big:s3.heap.objs.size≤acc+1:=by rw [hsz];exact lat _
   refine ⟨I'.free,Nat.ne_of_gt (lav I3.lt big),las I3.sz big,fun x c e z=>?_,fun p hp z=>?_⟩
   ·obtain ⟨v,ic⟩:=I3.cell x c e
    exact absurd (lav ic.lt (by rw [z];exact big)) (Nat.lt_irrefl _)
   ·exact absurd (lav (Heap.lt_size (I3.pin p hp).1) (by rw [z];exact big)) (Nat.lt_irrefl _)
 have loop:codeAny (model X.prog X.w) X.A (.compLoop (.ListComp elt [⟨tg,iter,ifs,0⟩] scope pos) 0 (.ref it) (.ref acc) (compEnvC scope cl (acc+1) X.env)) (RR (.ref acc) (acc+1)) { s3 with heap:=h₁,toks:=s2.toks }:=by
  refine tP (fun n s'=>∃ i σ' H',Inv (iX X N scope cl (acc+1) s3 (upd H2 acc (.lst [])) fp) [] σ' H' s'∧tn i s'.heap∧(∀ b∈fp,H' b=none)∧W i n σ' H') ?_ m0
   ⟨0,_,_,I4,st4,fun b hb=>(f3 b hb).1,w0⟩
  rintro n s5 ⟨i,σ5,H5,I5,st5,fr5,w5⟩
  rcases turn i n σ5 H5 w5 with ⟨stop,qn⟩ | ⟨go,Nx,hN,step⟩
  ·refine bh (T.done (iX X N scope cl (acc+1) s3 (upd H2 acc (.lst [])) fp) rfl rfl rfl hc i [] s5 σ5 H5 _ I5 (stat fr5) st5 stop) fun r s6 ⟨hr,I6⟩=>?_
   subst hr
   exact out I6 qn
  ·refine bh (T.item (iX X N scope cl (acc+1) s3 (upd H2 acc (.lst [])) fp) rfl rfl rfl hc i [] s5 σ5 H5 _ I5 (stat fr5) st5 go) fun r s6 ⟨u,hr,h6⟩=>?_
   subst hr
   refine bh h6 fun _ s7 ⟨x,H7,I7,r7,y7,st7,fr7⟩=>?_
   have I7':=I7.pinned (stat fr7) (T.obj _ _ st7)
   refine bh (hg _ _ _ _ _ s7 σ5 H7 x u _ I7' r7 (step x H7 y7)) fun _ s8 ⟨σ8,H8,I8,q8⟩=>?_
   have again:∀ {s9:Shared} {σ9:St} {H9:Hp},Inv (iX X N scope cl (acc+1) s3 (upd H2 acc (.lst [])) fp) ([]++mJ fp s7.heap) σ9 H9 s9→Nx σ9 H9→∃ m,m<n∧∃ i σ' H',Inv (iX X N scope cl (acc+1) s3 (upd H2 acc (.lst [])) fp) [] σ' H' s9∧tn i s9.heap∧(∀ b∈fp,H' b=none)∧W i m σ' H':=fun {s9 σ9 H9} I9 n9=>by
    obtain ⟨m',hm,w9⟩:=hN σ9 H9 n9
    refine ⟨m',hm,i+1,σ9,H9,I9.unpinned,T.keep _ _ _ st7 fun b hb o e=>(I9.pin (b,o) (lak _ (lak _ (i0 hb e)))).1,fun b hb=>?_,w9⟩
    obtain ⟨o,e,d⟩:=T.obj _ _ st7 b hb
    exact (I9.pin (b,o) (lak _ (lak _ (i0 hb e)))).2.1
   refine bh (ht _ _ _ _ _ s8 σ8 H8 _ I8 q8) fun ok s9 ⟨H9,I9,q9⟩=>?_
   cases ok with
   | false=>exact again I9 q9
   | true=>
    refine bh (he _ _ _ _ _ s9 σ8 H9 _ I9 q9) fun y s10 ⟨v,H10,I10,r10,xs,hx,hl,n10⟩=>?_
    refine bh (cQ _ s10 σ8 H10 (.ref acc) [v] (.ref acc) [y] (fun _ H'=>Nx σ8 H') I10 rfl (.cons r10 .nil) ⟨acc,xs,v,rfl,rfl,hx,hl,n10⟩) fun _ s11 ⟨_,H11,I11,_,n11⟩=>again I11 n11
 rw [e4]
 have e5:({ newEnv scope (s2.heap.push { cls:=.type "list",data:=.seq ([]:List Value).toArray }).objs.size X.env.globals cl X.env.qual none .none (some X.env) builtinsNs with scope:=relabel scope X.env }:Env)=compEnvC scope cl (acc+1) X.env:=by
  rw [hCe];rfl
 have e6:(newEnv scope (s2.heap.push { cls:=.type "list",data:=.seq ([]:List Value).toArray }).objs.size X.env.globals cl X.env.qual none .none (some X.env) builtinsNs).locals=acc+1:=by
  rw [hCe];rfl
 rw [e5,e6]
 exact codeAny_compStart_list loop (T.self _ 0 _ _ _ st4 loop)
end
def gE(wi:TI)(g:TG)(ti:TT)(te:TE)(pick:List (Option Nat)):TE:=fun σ H Q=>wi σ H fun J H1=>∀ p,H1 p=none→nO J g ti te (iS pick σ) H1 Q p
section
variable {X:Cx}{N:List Str}{scope:Scope}{cl:List (Str×Addr)}{pick:List (Option Nat)}{elt tg iter:Expr}{ifs:List Expr}{pos pos' spos:Pos}{wi:TI}{g:TG}{ti:TT}{te:TE}
theorem eJ(hc:X.calm=true)(S:db X N scope cl pick)(hi:PI X tg iter wi)
  (hg:∀ C s H fp,PG (iX X N scope cl C s H fp) tg g)(ht:∀ C s H fp,wE (iX X N scope cl C s H fp) ifs ti)(he:∀ C s H fp,PE (iX X N scope cl C s H fp) elt te)
  (hs:∀ x,foldedSetIterable iter X.env x=pure x:=by intro _;rfl):PE X (.ListComp elt [⟨tg,iter,ifs,0⟩] scope pos) (gE wi g ti te pick):=by
 intro pins s σ H Q I h
 have hloc:∀ y∈scope.names,y.2=.local→scope.names.lookup y.1=some .local:=fun y hy e=>by
  have:=List.all_eq_true.mp S.loc y hy
  rw [e] at this
  simpa using this
 rw [eval_ListComp]
 refine wpAny_comprehension_free (use:=none) rfl hs S.clos S.kind hloc (bh (hi pins s σ H _ I h) fun xv s₁ h₁=>bh h₁ fun itv s₂ h₂=>?_)
 obtain ⟨it,fp,tn,J,H2,e,I2,T,st2,f2,hq⟩:=h₂
 subst e
 refine zC (RR:=fun acc C=>compPost (model X.prog X.w) X.A X.xe none (EP X pins σ Q) acc C) hc S hg ht he I2 T st2 f2 hq ?_
 intro C p H' s1 m I1 L hn q
 refine ⟨m,hn,fun h' hs'=>⟨.ref p,H',I1.turned (t':=s1.toks) (fun b o hb e=>(hs'.2 b hb).trans e) L.1 L.2.1 (.inr L.2.2.1) L.2.2.2.1 L.2.2.2.2,rfl,q⟩⟩
end
def jD(p:Addr)(Pv:Nat→List V→St→Hp→Prop)(i:Nat)(σ:St)(H:Hp):Prop:=∃ ys,H p=some (.lst ys)∧Pv i ys σ H
theorem eX{K:PySem.W.Frag}{a p:Addr}{xs:List V}{g:TG}{ti:TT}{te:TE}{σ0:St}{H1:Hp}{Q:VK}(Pv:Nat→List V→St→Hp→Prop)(h0:Pv 0 [] σ0 (upd H1 p (.lst [])))
  (hl:∀ i ys σ H,i≤xs.length→H p=some (.lst ys)→Pv i ys σ H→SqL K H a xs)
  (hs:∀ i x ys σ H,xs[i]?=some x→H p=some (.lst ys)→Pv i ys σ H→g x σ H fun σ2 H2=>ti σ2 H2 fun b H3=>if b=true then te σ2 H3 fun v H4=>∃ zs,H4 p=some (.lst zs)∧zs.length<sizeLine∧jD p Pv (i+1) σ2 (upd H4 p (.lst (zs++[v])))
   else jD p Pv (i+1) σ2 H3)
  (hd:∀ ys σ H,H p=some (.lst ys)→Pv xs.length ys σ H→Q (.ref p) H) :
  nO (tG K a) g ti te σ0 H1 Q p:=by
 refine ⟨fun i m σ H=>m=xs.length - i∧i≤xs.length∧jD p Pv i σ H,⟨xs.length,by simp,laI _,[],ax,h0⟩,?_⟩
 rintro i m σ H ⟨rfl,hi,ys,hp,pv⟩
 have q:=hl i ys σ H hi hp pv
 by_cases hlt:i<xs.length
 ·refine .inr ⟨⟨xs,xs[i],q,by simp [hlt]⟩,jD p Pv (i+1),fun σ' H' z=>⟨xs.length - (i+1),by omega,rfl,hlt,z⟩,fun x H' y=>?_⟩
  obtain ⟨e,y⟩:=y
  subst e
  exact hs i x ys σ H' (y xs q) hp pv
 ·have e:i=xs.length:=by omega
  subst e
  exact .inl ⟨⟨xs,q,lat _⟩,hd ys σ H hp pv⟩
theorem km{lo:Int}{n:Nat}{p:Addr}{g:TG}{ti:TT}{te:TE}{σ0:St}{H1:Hp}{Q:VK}(Pv:Nat→List V→St→Hp→Prop)(h0:Pv 0 [] σ0 (upd H1 p (.lst [])))
  (hs:∀ i ys σ H,i<n→H p=some (.lst ys)→Pv i ys σ H→g (.int (lo+i)) σ H fun σ2 H2=>ti σ2 H2 fun b H3=>if b=true then te σ2 H3 fun v H4=>∃ zs,H4 p=some (.lst zs)∧zs.length<sizeLine∧jD p Pv (i+1) σ2 (upd H4 p (.lst (zs++[v])))
   else jD p Pv (i+1) σ2 H3)
  (hd:∀ ys σ H,H p=some (.lst ys)→Pv n ys σ H→Q (.ref p) H) :
  nO (pL lo n) g ti te σ0 H1 Q p:=by
 refine ⟨fun i m σ H=>m=n - i∧i≤n∧jD p Pv i σ H,⟨n,by simp,laI _,[],ax,h0⟩,?_⟩
 rintro i m σ H ⟨rfl,hi,ys,hp,pv⟩
 by_cases hlt:i<n
 ·refine .inr ⟨hlt,jD p Pv (i+1),fun σ' H' z=>⟨n - (i+1),by omega,rfl,hlt,z⟩,fun x H' y=>?_⟩
  obtain ⟨e,y⟩:=y
  subst e
  subst y
  exact hs i ys σ H' hlt hp pv
 ·have e:i=n:=by omega
  subst e
  exact .inl ⟨lat _,hd ys σ H hp pv⟩
def e8(t u:TS):TS:=fun D σ H=>∃ P:St→Hp→Prop,t { D with nx:=P } σ H∧∀ σ' H',P σ' H'→u D σ' H'
theorem dz{X:Cx}{st:Stmt}{rest:List Stmt}{t u:TS}(h1:PS X st t)(h2:PSs X rest u):PSs X (st::rest) (e8 t u):=by
 intro pins s σ H D I ⟨P,h,hu⟩
 refine wpAny_execs_cons (bh (h1 pins s σ H _ I h) fun f s1 q=>?_)
 cases f with
 | next=>
  obtain ⟨σ1,H1,I1,q1⟩:=q
  exact h2 pins s1 σ1 H1 D I1 (hu σ1 H1 q1)
 | brk=>exact q
 | cont=>exact q
 | ret v=>exact q
theorem dI{t u:TS}{D:iW}{σ:St}{H:Hp}(P:St→Hp→Prop)(h:t { D with nx:=P } σ H)(hu:∀ σ' H',P σ' H'→u D σ' H'):e8 t u D σ H:=⟨P,h,hu⟩
end L2
set_option Elab.async false
set_option linter.all false
set_option maxRecDepth 100000
set_option maxHeartbeats 4000000
namespace L2
open PySem PySem.Spec PyProof.Rows
section
variable {σ:St}{H:Hp}{Q:VK}{D:iW}{ta tb tc te:TE}{t u:TS}{c d:TT}{K:PySem.W.Frag}{QB:Bool→Hp→Prop}{x y v:V}{i j:Int}{a p:Addr}{xs ys:List V}{r:R2}{QL:List V→Hp→Prop}
theorem j8{n:Nat}(h:σ[n]?=some (some v))(q:Q v H):ae n σ H Q:=⟨v,h,q⟩
theorem DQ(q:Q v H):tC v σ H Q:=q
theorem nN(q:ta σ H fun x H1=>tb σ H1 fun y H2=>r x y H2 Q):av r ta tb σ H Q:=q
theorem AN{r:V→Hp→VK→Prop}(q:ta σ H fun x H1=>r x H1 Q):yv r ta σ H Q:=q
theorem fI{C:Int→Int→Prop}{g:Int→Int→V}(hc:C i j)(q:Q (g i j) H):rI C g (.int i) (.int j) H Q:=⟨i,j,rfl,rfl,hc,q⟩
theorem yk{g:Int→Int→V}(q:Q (g i j) H):jo g (.int i) (.int j) H Q:=⟨i,j,rfl,rfl,q⟩
theorem AE{g:Int→V}(q:Q (g i) H):rU g (.int i) H Q:=⟨i,rfl,q⟩
theorem o6(h:sM x y=true)(q:Q (.bl (decide (x=y))) H):dh x y H Q:=⟨h,q⟩
theorem yK(h:sM x y=true)(q:Q (.bl (!decide (x=y))) H):jy x y H Q:=⟨h,q⟩
theorem yN(q:ta σ H fun x H1=>Q (.bl (decide (x=.non))) H1):oC ta σ H Q:=q
theorem vy(q:ta σ H fun x H1=>Q (.bl (!decide (x=.non))) H1):mF ta σ H Q:=q
theorem Ce(q:ta σ H fun x H1=>∃ c,x=.bl c∧QB c H1):tB ta σ H QB:=q
theorem jc(q:ta σ H fun x H1=>∃ c,x=.bl c∧QB c H1):aT ta σ H QB:=q
theorem AI{P:Bool→Prop}{b:Bool}(q:P b):∃ c,V.bl b=.bl c∧P c:=⟨b,rfl,q⟩
theorem yM(q:c σ H fun b H1=>if b=true then d σ H1 QB else QB false H1):tS c d σ H QB:=q
theorem vJ(q:c σ H fun b H1=>if b=true then QB true H1 else d σ H1 QB):fH c d σ H QB:=q
theorem yW(q:c σ H fun b H1=>QB (!b) H1):cH c σ H QB:=q
theorem vE(q:ta σ H fun x H1=>∃ c,x=.bl c∧if c=true then tb σ H1 Q else Q (.bl false) H1):jC ta tb σ H Q:=q
theorem x_(q:ta σ H fun x H1=>∃ c,x=.bl c∧if c=true then Q (.bl true) H1 else tb σ H1 Q):zP ta tb σ H Q:=q
theorem u_(q:ta σ H fun x H1=>∃ c,x=.bl c∧Q (.bl (!c)) H1):v8 ta σ H Q:=q
theorem yR(q:c σ H fun b H1=>if b=true then ta σ H1 Q else tb σ H1 Q):Aw c ta tb σ H Q:=q
theorem rZ{r':R2}(q:ta σ H fun x H1=>tb σ H1 fun y H2=>r x y H2 fun z H3=>∃ k,z=.bl k∧(if k=true then tc σ H3 fun w' H4=>r' y w' H4 Q else Q (.bl false) H3)):o_ r r' ta tb tc σ H Q:=q
theorem kd(q:QL [] H):al σ H QL:=q
theorem jd{tr:TA}(q:ta σ H fun x H1=>tr σ H1 fun xs H2=>QL (x::xs) H2):af ta tr σ H QL:=q
theorem y0{t:TA}(q:t σ H fun xs H1=>xs.length≤sizeLine∧∀ p,H1 p=none→Q (.ref p) (upd H1 p (.tup xs))):cJ t σ H Q:=q
theorem yA{t:TA}(q:t σ H fun xs H1=>xs.length≤sizeLine∧∀ p,H1 p=none→Q (.ref p) (upd H1 p (.lst xs))):bz t σ H Q:=q
theorem vj(q:∀ p,H p=none→Q (.ref p) (upd H p (.dK []))):iR σ H Q:=q
theorem vf{sp:Sp}{dvs:List V}{E:XK}{t:TA}(q:t σ H fun vs H1=>sp (vs++dvs) H1 Q E):bb sp dvs E t σ H Q:=q
theorem nM{r:List V→Hp→VK→Prop}{t:TA}(q:t σ H fun vs H1=>r vs H1 Q):b5 r t σ H Q:=q
theorem je(h:SqL K H a ys)(q:Q (.int ys.length) H):ck K [.ref a] H Q:=⟨a,ys,rfl,.inl h,q⟩
theorem jX(h:fD K H a ys)(q:Q (.int ys.length) H):ck K [.ref a] H Q:=⟨a,ys,rfl,.inr h,q⟩
theorem vc{kvs:List (aN×V)}(h:H a=some (.dK kvs))(q:Q (.int kvs.length) H):wo [.ref a] H Q:=⟨a,kvs,rfl,h,q⟩
theorem tZ(h:SqL K H a ys)(q:∀ l,H l=none→Q (.ref l) (upd H l (.lst ys))):m_ K [.ref a] H Q:=⟨a,ys,rfl,.inl h,q⟩
theorem vz{b:Bool}(q:Q (.int (if b then 1 else 0)) H):rc [.bl b] H Q:=.inr ⟨b,rfl,q⟩
theorem bp(h:SqL K H a xs)(e:gD xs i=some v)(q:Q v H):bK K (.ref a) (.int i) H Q:=⟨a,xs,i,v,rfl,rfl,h,e,q⟩
theorem yX(h:fD K H a xs)(e:gD xs i=some v)(q:Q v H):bx K (.ref a) (.int i) H Q:=⟨a,xs,i,v,rfl,rfl,h,e,q⟩
theorem AT{r:V→Option Int→Option Int→Hp→VK→Prop}{tl th:TO}(q:te σ H fun x H1=>tl σ H1 fun l H2=>th σ H2 fun u H3=>r x l u H3 Q):qR r te tl th σ H Q:=q
theorem qt{QO:Option Int→Hp→Prop}(q:QO none H):gP σ H QO:=q
theorem uW{QO:Option Int→Hp→Prop}(q:te σ H fun x H1=>∃ i,x=.int i∧QO (some i) H1):i3 te σ H QO:=q
theorem yg{P:Int→Prop}(q:P i):∃ k,V.int i=.int k∧P k:=⟨i,rfl,q⟩
theorem yG{lo hi:Option Int}(h:SqL K H a xs)(q:∀ p,H p=none→Q (.ref p) (upd H p (.lst (iV xs lo hi)))):ow K (.ref a) lo hi H Q:=⟨a,xs,rfl,h,q⟩
theorem yQ{n:Bool}(h:SqL K H a xs)(f:e9 x=true)(g:xs.all e9=true)(q:Q (.bl (if n then !d9 x xs else d9 x xs)) H):iY K n x (.ref a) H Q:=⟨a,xs,rfl,.inl h,f,g,q⟩
theorem yn{n:Bool}(h:fD K H a xs)(f:e9 x=true)(g:xs.all e9=true)(q:Q (.bl (if n then !d9 x xs else d9 x xs)) H):iY K n x (.ref a) H Q:=⟨a,xs,rfl,.inr h,f,g,q⟩
theorem As{T:String}{r:V→List V→Hp→VK→Prop}{t:TA}(q:te σ H fun x H1=>AC K T x H1∧t σ H1 fun xs H2=>r x xs H2 Q):e_ K T r te t σ H Q:=q
theorem dc(h:H a=some (.lst xs))(l:xs.length<sizeLine)(q:Q .non (upd H a (.lst (xs++[v])))):da (.ref a) [v] H Q:=⟨a,xs,v,rfl,rfl,h,l,q⟩
theorem eP{b:Addr}(h:H a=some (.lst xs))(h':H b=some (.lst ys))(l:xs.length+ys.length≤sizeLine)(q:Q .non (upd H a (.lst (xs++ys)))):eY (.ref a) [.ref b] H Q:=⟨a,b,xs,ys,rfl,rfl,h,h',l,q⟩
theorem xV{f:Str}(q:ta σ H fun x H1=>∃ a C dx fs v,x=.ref a∧H1 a=some (.ins C dx fs)∧Cls K C∧NoAttr K C f∧fs.lookup f=some v∧Q v H1):bQ K ta f σ H Q:=q
theorem yZ{f:Str}{C dx:Addr}{fs:List (Str×V)}{P:V→Prop}(h:H a=some (.ins C dx fs))(hc:Cls K C)(hn:NoAttr K C f)(hl:fs.lookup f=some v)(q:P v) :
  ∃ a' C dx fs v,V.ref a=.ref a'∧H a'=some (.ins C dx fs)∧Cls K C∧NoAttr K C f∧fs.lookup f=some v∧P v:=⟨a,C,dx,fs,v,rfl,h,hc,hn,hl,q⟩
theorem sX(q:t { D with nx:=u D } σ H):aw t u D σ H:=q
theorem ve(q:D.nx σ H):aL D σ H:=q
theorem yw(q:te σ H D.rt):aD te D σ H:=q
theorem vH(q:te σ H fun _ H1=>D.nx σ H1):bX te D σ H:=q
theorem AU(q:c σ H fun b H1=>if b=true then t D σ H1 else u D σ H1):aV c t u D σ H:=q
theorem yi{g:TG}(q:te σ H fun x H1=>g x σ H1 D.nx):a_ te g D σ H:=q
theorem oy{n:Nat}{QS:St→Hp→Prop}(q:QS (σ.set n (some v)) H):az n v σ H QS:=q
theorem u9{td ty tv:TE}(q:tv σ H fun v H1=>td σ H1 fun x H2=>ty σ H2 fun y H3=>∃ a H4,x=.ref a∧DPut H3 a y v H4∧D.nx σ H4):jx td ty tv D σ H:=q
theorem uH{kvs:List (aN×V)}{k:Int}{P:Hp→Prop}(h:H a=some (.dK kvs))(l:kvs.length<sizeLine)(q:P (upd H a (.dK (cr kvs (Sum.inl k) v)))) :
  ∃ a' H4,V.ref a=.ref a'∧DPut H a' (.int k) v H4∧P H4:=⟨a,_,rfl,DPut.k (k:=Sum.inl k) h l,q⟩
theorem tu{td ty tx:TE}(q:td σ H fun x H1=>∃ a,x=.ref a∧u4 H1 a∧ty σ H1 fun y H2=>tx σ H2 fun z H3=>∃ o,DGet H3 a y o∧Q (o.getD z) H3):rP td ty tx σ H Q:=q
theorem yr{kvs:List (aN×V)}{P:Addr→Prop}(h:H a=some (.dK kvs))(q:P a):∃ a',V.ref a=.ref a'∧u4 H a'∧P a':=⟨a,rfl,.inl ⟨kvs,.inl h⟩,q⟩
theorem ud{kvs:List (aN×V)}{k:Int}{P:Option V→Prop}(h:H a=some (.dK kvs))(q:P (bq kvs (Sum.inl k))):∃ o,DGet H a (.int k) o∧P o:=⟨_,DGet.k (k:=Sum.inl k) h,q⟩
theorem vi{td ty:TE}(q:td σ H fun x H1=>ty σ H1 fun y H2=>∃ a v,x=.ref a∧DGet H2 a y (some v)∧Q v H2):ce td ty σ H Q:=q
theorem uF{td ty tx:TE}(q:td σ H fun x H1=>∃ a,x=.ref a∧u4 H1 a∧ty σ H1 fun y H2=>tx σ H2 fun z H3=>∃ kvs k,H3 a=some (.dK kvs)∧y=kV k∧kvs.length<sizeLine∧
 (∀ v,bq kvs k=some v→Q v H3)∧(bq kvs k=none→Q z (upd H3 a (.dK (cr kvs k z))))):oR td ty tx σ H Q:=q
theorem AS{n:Nat}{P:Prop}(h:Nat.ble n 1000=true)(q:P):n≤sizeLine∧P:=⟨Nat.le_of_lt (yD (Nat.le_of_ble_eq_true h)),q⟩
theorem xY{P:Addr→Prop}(q:∀ p,H p=none→P p):∀ p,H p=none→P p:=q
theorem yE{wi:TI}{g:TG}{tb:TS}(q:wi σ H fun J H1=>∃ W:Nat→Nat→St→Hp→Prop,(∃ m,W 0 m σ H1)∧∀ i m σ H,W i m σ H→
 (J.stop i H∧D.nx σ H)∨(J.go i H∧∃ N:St→Hp→Prop,(∀ σ' H',N σ' H'→∃ m',m'<m∧W (i+1) m' σ' H')∧∀ x H',J.yld i H x H'→g x σ H' fun σ2 H2=>tb { D with nx:=N,ct:=N,bk:=D.nx } σ2 H2)):fz wi g tb D σ H:=q
theorem tE{R:It→Hp→Prop}(q:te σ H fun x H1=>∃ a,x=.ref a∧(∃ xs,SqL K H1 a xs)∧R (tG K a) H1):dy K te σ H R:=q
theorem yH{P:Addr→Prop}(h:SqL K H a xs)(q:P a):∃ a',V.ref a=.ref a'∧(∃ xs,SqL K H a' xs)∧P a':=⟨a,rfl,⟨xs,h⟩,q⟩
theorem vD{R:It→Hp→Prop}{t:TA}(q:t σ H fun vs H1=>∃ j:Int,vs=[.int j]∧-(2 ^ 62)≤j∧j<2 ^ 62∧R (pL 0 j.toNat) H1):fk t σ H R:=q
theorem eU{P:Int→Prop}{n:Nat}(h:n≤1000000)(q:P (n:Int)):∃ j:Int,[V.int (n:Int)]=[.int j]∧-(2 ^ 62)≤j∧j<2 ^ 62∧P j:=⟨n,rfl,by omega,by omega,q⟩
theorem AO{wi:TI}{g:TG}{ti:TT}{pick:List (Option Nat)}(q:wi σ H fun J H1=>∀ p,H1 p=none→nO J g ti te (iS pick σ) H1 Q p):gE wi g ti te pick σ H Q:=q
theorem p6(q:QB true H):fK σ H QB:=q
theorem vg{C:Addr}{m:Str}{sp:Sp}{dvs:List V}{E:XK}{t:TA}(q:ta σ H fun x H1=>∃ a dx fs,x=.ref a∧H1 a=some (.ins C dx fs)∧fs.lookup m=none∧t σ H1 fun vs H2=>sp (x::(vs++dvs)) H2 Q E):bj C m sp dvs E ta t σ H Q:=q
theorem vo{C dx:Addr}{fs:List (Str×V)}{m:Str}{P:Prop}(h:H a=some (.ins C dx fs))(hl:fs.lookup m=none)(q:P):∃ a' dx fs,V.ref a=.ref a'∧H a'=some (.ins C dx fs)∧fs.lookup m=none∧P:=⟨a,dx,fs,rfl,h,hl,q⟩
theorem vp{tv:TE}{f:Str}(q:tv σ H fun y H1=>ta σ H1 fun x H2=>∃ a C dx fs,x=.ref a∧H2 a=some (.ins C dx fs)∧Cls K C∧NoAttr K C f∧fs.length<1000∧D.nx σ (upd H2 a (.ins C dx (ci f y fs)))):fC K ta tv f D σ H:=q
theorem qd{C:Addr}{sp:Sp}{dvs:List V}{E:XK}{t:TA}(q:t σ H fun vs H1=>∀ x dx,H1 x=none→H1 dx=none→dx≠x→sp (.ref x::(vs++dvs)) (upd (upd H1 dx (.own x)) x (.ins C dx [])) (fun v H2=>v=.non∧Q (.ref x) H2) E):oS C sp dvs E t σ H Q:=q
theorem bo{H:Hp}{a b:Addr}{o u:HO}(h:b≠a)(e:H b=some u):upd H a o b=some u:=by rw [bB h];exact e
theorem Same.at{H H':Hp}{b:Addr}{u:HO}(s:Same H H')(e:H b=some u):H' b=some u:=s b u e
theorem b7{H:Hp}(h:H a=some (.lst xs)):SqL K H a xs:=.inl (.inl h)
theorem dG{H:Hp}(h:Rd H a (.lst xs)):SqL K H a xs:=.inl h
theorem IC{H:Hp}(h:H a=some (.tup xs)):fD K H a xs:=.inl (.inl h)
theorem oB{H:Hp}(h:Rd H a (.tup xs)):fD K H a xs:=.inl h
theorem Rd.upd{H:Hp}{a b:Addr}{o u:HO}(h:b≠a)(r:Rd H b u):Rd (L2.upd H a o) b u:=r.elim (fun e=>.inl (bo h e)) fun ⟨q,e⟩=>.inr ⟨q,bo h e⟩
theorem Rd.same{H H':Hp}{b:Addr}{u:HO}(s:Same H H')(r:Rd H b u):Rd H' b u:=r.elim (fun e=>.inl (s _ _ e)) fun ⟨q,e⟩=>.inr ⟨q,s _ _ e⟩
theorem Rd.ne_none{H:Hp}{a b:Addr}{u:HO}(r:Rd H a u)(h:H b=none):a≠b:=by obtain ⟨o,e⟩:=r.some;exact bF e h
theorem ca{H:Hp}{a b:Addr}{o:HO}(h':H b=none)(h:H a=some o):a≠b:=bF h h'
theorem nG{H:Hp}{a b:Addr}{u:HO}(h':H b=none)(r:Rd H a u):a≠b:=r.ne_none h'
theorem Same.put{H0 H:Hp}{o:HO}(s:Same H0 H)(hp:H0 p=none):Same H0 (L2.upd H p o):=fun b u e=>bo (bF e hp) (s b u e)
theorem vx{H H':Hp}{o:HO}(hp:H p=none)(e:L2.upd H p o=H'):Same H H':=e▸Same.new hp
theorem A6{H H':Hp}{o:HO}(e:L2.upd H p o=H'):H' p=some o:=e▸ax
theorem pP{i j:Int}(h:-(2 ^ 64)<j∧j<2 ^ 64):CMul i j:=.inr h
theorem z_{i j:Int}(h:0<j∧j<1073741824):zS i j:=h
theorem qx(xs:List Str):(xs.map V.str).all e9=true:=by rw [List.all_map];exact List.all_eq_true.mpr fun _ _=>rfl
theorem qN(xs:List Int):(xs.map V.int).all e9=true:=by rw [List.all_map];exact List.all_eq_true.mpr fun _ _=>rfl
end
end L2
set_option Elab.async false
set_option linter.all false
set_option maxRecDepth 100000
set_option maxHeartbeats 4000000
namespace Oh
open PySem L2
abbrev aW:=Str×Int
def aq(b:List aW)(n:Int):List Str:=(b.filter fun l=>decide (l.2=n)).map (·.1)
def iQ(b:List aW)(n:Int):Option Str:=(aq b n).find? fun w=>decide (w="open"∨w="yes"∨w="no")
def aJ(b:List aW)(n:Int):Option Str:=if ("bound":Str)∈aq b n then some ("bound":Str) else if ("off":Str)∈aq b n∨("no":Str)∈aq b n then some ("off":Str) else none
def dk(b:List aW)(n:Int):Bool:=decide (iQ b n=some ("yes":Str))&&decide (aJ b n=none)
def bE(b:List aW):List Int:=(b.filter fun l=>decide (l.1=("open":Str))&&decide (aJ b l.2=none)).map (·.2)
def bZ(l:aW):PyData:=.tuple [.str l.1,.int l.2]
def cy(b:List aW):PyData:=.list (b.map bZ)
def gi:Option Str→V
 | none=>.non
 | some x=>.str x
def ID(b:List aW):Prop:=∀ l∈b,PyData.strOk l.1=true
theorem dt(b:List aW)(l:aW)(n:Int):aq (b++[l]) n=if l.2=n then aq b n++[l.1] else aq b n:=by
 unfold aq
 rw [lay,lai,laz,List.filter_nil]
 by_cases e:l.2=n
 ·simp [e]
 ·simp [e]
variable {i:Nat}
theorem bH{α:Type}{b:List α}{l:α}(h:b[i]?=some l):b.take (i+1)=b.take i++[l]:=by rw [List.take_add_one,h];rfl
theorem uQ(b:List aW)(n:Int):(aq b n).length≤b.length:=by
 unfold aq;rw [laa];exact laJ _ _
variable {H:Hp}
variable {b:List aW}
variable {xs:List V}
theorem gG{S:List Addr}{x:V}(rs:Reps H S xs (b.map bZ))(hx:xs[i]?=some x) :
  ∃ l t,b[i]?=some l∧x=.ref t∧Rd H t (.tup [.str l.1,.int l.2]):=by
 obtain ⟨d,hd,rx⟩:=rs.get hx
 rw [lae] at hd
 cases hb:b[i]? with
 | none=>rw [hb] at hd;cases hd
 | some l=>
  rw [hb] at hd
  have e:bZ l=d:=lan hd
  subst e
  obtain ⟨t,ys,rfl,rt,rs'⟩:=rx.tup_inv
  obtain ⟨y1,r1,rfl,h1,t1⟩:=rs'.cons_inv
  obtain ⟨y2,r2,rfl,h2,t2⟩:=t1.cons_inv
  cases t2.nil_inv
  rw [h1.str_inv,h2.int_inv] at rt
  exact ⟨l,t,rfl,rfl,rt⟩
theorem bg{n:Nat}(h:n≤1000000):n<sizeLine:=Nat.lt_of_le_of_lt h (by decide)
theorem ft(x:Str)(ws:List Str):d9 (.str x) (ws.map .str)=decide (x∈ws):=by
 unfold d9
 rw [List.any_map]
 induction ws with
 | nil=>rfl
 | cons w r ih=>
  rw [List.any_cons,ih]
  show ((w==x)||decide (x∈r))=decide (x∈w::r)
  by_cases e:x=w
  ·subst e;simp
  ·have e':¬ w=x:=fun z=>e z.symm
   simp [e,e']
def zL(K:W.Frag):TS:=
  (aD (gE (dy K (ae 0)) (az 0) (aT (av dh (av (bx K) (ae 0) (tC (.int 1))) (ae 1))) (av (bx K) (ae 0) (tC (.int 0))) [none,some 1]))
def xf(K:W.Frag)(cC:Sp):TS:=
  (aD (av xn (b5 (ck K) (af (bb cC [] E0 (af (ae 0) (af (ae 1) al))) al)) (tC (.int 0))))
def xK(K:W.Frag)(cC:Sp):TS:=
  (aw (fz (dy K (bb cC [] E0 (af (ae 0) (af (ae 1) al)))) (az 2)
  (aV (aT (av (iY K false) (ae 2) (cJ (af (tC (.str "open")) (af (tC (.str "yes")) (af (tC (.str "no")) al))))))
  (aD (ae 2))
  aL))
  (aD (tC .non)))
def wg(K:W.Frag)(cC:Sp):TS:=
  (aw (a_ (bb cC [] E0 (af (ae 0) (af (ae 1) al))) (az 2))
  (aw (aV (aT (av (iY K false) (tC (.str "bound")) (ae 2)))
  (aD (tC (.str "bound")))
  aL)
  (aw (aV (fH (aT (av (iY K false) (tC (.str "off")) (ae 2))) (aT (av (iY K false) (tC (.str "no")) (ae 2))))
  (aD (tC (.str "off")))
  aL)
  (aD (tC .non)))))
def wT(K:W.Frag)(gS:Sp)(cR:Sp):TS:=
  (aD (jC (av dh (bb gS [] E0 (af (ae 0) (af (ae 1) al))) (tC (.str "yes"))) (oC (bb cR [] E0 (af (ae 0) (af (ae 1) al))))))
def Ae(K:W.Frag)(cR:Sp):TS:=
  (aD (gE (dy K (ae 0)) (az 0) (tS (aT (av dh (av (bx K) (ae 0) (tC (.int 0))) (tC (.str "open")))) (tB (oC (bb cR [] E0 (af (ae 1) (af (av (bx K) (ae 0) (tC (.int 1))) al)))))) (av (bx K) (ae 0) (tC (.int 1))) [none,some 0]))
local macro_rules | `(tactic| walk_at "ne")=>`(tactic| first | assumption | (refine' Ne.symm ?k1;(case k1=>assumption)) | (refine' ca ?k1 ?k2;(case k1=>assumption);(case k2=>walk_at "hl")) | (refine' nG ?k1 ?k2;(case k1=>assumption);(case k2=>walk_at "rd")) | (refine' Ne.symm (ca ?k1 ?k2);(case k1=>assumption);(case k2=>walk_at "hl")) | (refine' Ne.symm (nG ?k1 ?k2);(case k1=>assumption);(case k2=>walk_at "rd")))
local macro_rules | `(tactic| walk_at "hl")=>`(tactic| with_reducible first | assumption | exact ax | (refine' bo ?k1 ?k2;(case k1=>walk_at "ne");(case k2=>walk_at "hl")) | (refine' Same.at ?k1 ?k2;(case k1=>assumption);(case k2=>walk_at "hl")))
local macro_rules | `(tactic| walk_at "rd")=>`(tactic| with_reducible first | assumption | (refine' Rd.of ?k1;(case k1=>walk_at "hl")) | (refine' Rd.upd ?k1 ?k2;(case k1=>walk_at "ne");(case k2=>walk_at "rd")) | (refine' Rd.same ?k1 ?k2;(case k1=>assumption);(case k2=>walk_at "rd")))
local macro_rules | `(tactic| walk_at "sq")=>`(tactic| with_reducible first | assumption | (refine' dG ?k1;(case k1=>walk_at "rd")) | (refine' oB ?k1;(case k1=>walk_at "rd")) | (refine' SqL.new ?k1 ?k2;(case k1=>assumption);(case k2=>walk_at "sq")) | (refine' Same.seq ?k1 ?k2;(case k1=>assumption);(case k2=>walk_at "sq")))
local macro_rules | `(tactic| walk_at "rf")=>`(tactic| first | with_unfolding_all rfl | assumption)
local macro_rules | `(tactic| walk_at "fl")=>`(tactic| first | with_unfolding_all rfl | exact qx _ | exact qN _)
local macro_rules | `(tactic| walk_at "s")=>`(tactic| with_reducible first
 | refine sX ?_ | refine yi ?_ | refine oy ?_ | refine AU ?_ | refine yw ?_ | refine st_retN ?_
 | refine vH ?_ | refine ve ?_ | refine jc ?_ | refine Ce ?_ | refine AI ?_ | refine yg ?_
 | refine yM ?_ | refine vJ ?_ | refine yW ?_ | refine vE ?_ | refine x_ ?_ | refine u_ ?_ | refine yR ?_
 | refine rZ ?_ | refine nN ?_ | refine AN ?_ | refine yN ?_ | refine vy ?_
 | refine kd ?_ | refine jd ?_ | refine y0 ?_ | refine yA ?_ | refine vj ?_ | refine vf ?_ | refine nM ?_
 | (refine' j8 ?k1 ?_;(case k1=>walk_at "rf")) | refine DQ ?_
 | refine yk ?_ | refine AE ?_ | (refine' fI ?k1 ?_;(case k1=>first | exact pP (by decide) | exact z_ (by decide) | decide | (show (0:Int)<_;decide)))
 | (refine' o6 ?k1 ?_;(case k1=>walk_at "rf")) | (refine' yK ?k1 ?_;(case k1=>walk_at "rf"))
 | (refine' bp ?k1 ?k2 ?_;(case k1=>walk_at "sq");(case k2=>walk_at "rf")) | (refine' yX ?k1 ?k2 ?_;(case k1=>walk_at "sq");(case k2=>walk_at "rf"))
 | (refine' je ?k1 ?_;(case k1=>walk_at "sq")) | (refine' jX ?k1 ?_;(case k1=>walk_at "sq"))
 | (refine' yQ ?k1 ?k2 ?k3 ?_;(case k1=>walk_at "sq");(case k2=>walk_at "rf");(case k3=>walk_at "fl"))
 | (refine' yn ?k1 ?k2 ?k3 ?_;(case k1=>walk_at "sq");(case k2=>walk_at "rf");(case k3=>walk_at "fl"))
 | (refine' tZ ?k1 ?_;(case k1=>walk_at "sq")) | refine st_min ?_ | refine vz ?_
 | refine AT ?_ | refine qt ?_ | refine uW ?_ | (refine' yG ?k1 ?_;(case k1=>walk_at "sq"))
 | refine vg ?_ | (refine' vo ?k1 ?k2 ?_;(case k1=>walk_at "hl");(case k2=>walk_at "rf")) | refine vp ?_
 | (refine' yZ ?k1 ?k2 ?k3 ?k4 ?_;(case k1=>walk_at "hl");(case k2=>assumption);(case k3=>assumption);(case k4=>walk_at "rf")) | (refine' vc ?k1 ?_;(case k1=>walk_at "hl"))
 | refine As ?_ | refine xV ?_ | refine u9 ?_ | refine tu ?_ | refine vi ?_ | refine uF ?_
 | refine yE ?_ | refine tE ?_ | (refine' yH ?k1 ?_;(case k1=>walk_at "sq")) | refine vD ?_ | refine AO ?_ | refine p6 ?_
 | (refine' AS ?k1 ?_;(case k1=>with_unfolding_all rfl))
 | (refine' yr ?k1 ?_;(case k1=>walk_at "hl")) | (refine' ud ?k1 ?_;(case k1=>walk_at "hl")))
local macro_rules | `(tactic| walk_at "g")=>`(tactic| repeat walk_at "s")
local macro_rules | `(tactic| walk_at "w")=>`(tactic| ((with_reducible refine xY ?_);intro p hp;generalize hH:upd _ p _=H';have hs:=vx hp hH;have hg:=A6 hH;clear hH))
local macro_rules | `(tactic| walk_at "sm")=>`(tactic| with_reducible first | assumption | exact Same.refl _ | (refine' Same.trans ?k1 ?k2;(case k2=>assumption);(case k1=>walk_at "sm")))
local macro_rules | `(tactic| walk_at "A")=>`(tactic| repeat (first | walk_at "s" | walk_at "w"))
def cC:Sp:=fun vs H Q _=>∃ a b n,vs=[.ref a,.int n]∧Rep H [] (.ref a) (cy b)∧b.length≤1000000∧∀ p H',H p=none→Same H H'→H' p=some (.lst ((aq b n).map .str))→Q (.ref p) H'
variable {K:W.Frag}
variable {vs:List V}
variable {Q:VK}
variable {E:XK}
theorem AD(h:cC vs H Q E):zL K { nx:=fun _ H'=>Q .non H',rt:=Q } (start ["book","bargain"] vs) H:=by
 obtain ⟨a,b,n,rfl,hb,hl,k⟩:=h
 obtain ⟨_,xs,e,rd,_,rs⟩:=hb.lst_inv
 cases e
 refine ⟨_,rfl,a,rfl,⟨xs,dG rd⟩,fun p hp=>?_⟩
 have hxl:xs.length=b.length:=by rw [rs.length,laa]
 refine eX (K:=K) (a:=a) (xs:=xs) (fun i ys σ H'=>∃ v,σ=[v,some (.int n)]∧H'=upd H p (.lst ys)∧ys=(aq (b.take i) n).map .str) ⟨none,rfl,rfl,rfl⟩ ?_ ?_ ?_
 ·rintro i ys σ H' hi hp' ⟨v,rfl,rfl,rfl⟩
  walk_at "sq"
 ·rintro i x ys σ H' hx hp' ⟨v,rfl,rfl,rfl⟩
  obtain ⟨l,t,hb',rfl,rt⟩:=gG rs hx
  walk_at "g"
  by_cases e:l.2=n
  ·rw [if_pos (by simp [e])]
   walk_at "g"
   refine ⟨_,ax,?_,_,ax,_,rfl,j7,?_⟩
   ·rw [laa]
    exact bg (las (uQ _ _) (las (by rw [lax];omega) hl))
   ·rw [bH hb',dt,if_pos e,lai];rfl
  ·rw [if_neg (by simp [e])]
   exact ⟨_,ax,_,rfl,rfl,by rw [bH hb',dt,if_neg e]⟩
 ·rintro ys σ H' hp' ⟨v,rfl,rfl,rfl⟩
  refine k p _ hp (Same.new hp) ?_
  rw [ax,List.take_of_length_le (by omega)]
def cM:Sp:=fun vs H Q _=>∃ a b n,vs=[.ref a,.int n]∧Rep H [] (.ref a) (cy b)∧b.length≤1000000∧∀ H',Same H H'→Q (.bl (!decide (aq b n=[]))) H'
theorem EW(h:cM vs H Q E):xf K cC { nx:=fun _ H'=>Q .non H',rt:=Q } (start ["book","bargain"] vs) H:=by
 obtain ⟨a,b,n,rfl,hb,hl,k⟩:=h
 unfold xf
 walk_at "g"
 refine ⟨a,b,n,rfl,hb,hl,fun p H' hp s hp'=>?_⟩
 walk_at "g"
 have e:decide ((0:Int)<(((aq b n).map V.str).length:Int))=!decide (aq b n=[]):=by
  rw [laa]
  cases aq b n with
  | nil=>rfl
  | cons x r=>simp
 show Q (.bl (decide ((0:Int)<(((aq b n).map V.str).length:Int)))) H'
 rw [e]
 exact k H' s
def mK(w:Str):Bool:=decide (w="open"∨w="yes"∨w="no")
theorem zn(w:Str):d9 (.str w) [.str "open",.str "yes",.str "no"]=mK w:=by
 have:=ft w ["open","yes","no"]
 simp only [List.map_cons,List.map_nil] at this
 rw [this]
 unfold mK
 simp [List.mem_cons]
theorem BS{α:Type}{p:α→Bool}{l:List α}{x:α}(hx:l[i]?=some x)(hp:p x=true)(hn:∀ y∈l.take i,p y=false):l.find? p=some x:=by
 have e:l=l.take i++x::l.drop (i+1):=by
  have hi:i<l.length:=(lab.mp hx).1
  have he:l[i]=x:=(lab.mp hx).2
  rw [← he,← List.drop_eq_getElem_cons hi,List.take_append_drop]
 rw [e,List.find?_append,List.find?_eq_none.mpr (by intro y hy;rw [hn y hy];simp),List.find?_cons,hp]
 rfl
def gS:Sp:=fun vs H Q _=>∃ a b n,vs=[.ref a,.int n]∧Rep H [] (.ref a) (cy b)∧b.length≤1000000∧∀ H',Same H H'→Q (gi (iQ b n)) H'
theorem E5(h:gS vs H Q E):xK K cC { nx:=fun _ H'=>Q .non H',rt:=Q } (start ["book","bargain","word"] vs) H:=by
 obtain ⟨a,b,n,rfl,hb,hl,k⟩:=h
 unfold xK
 walk_at "g"
 refine ⟨a,b,n,rfl,hb,hl,fun p H' hp s hp'=>?_⟩
 walk_at "g"
 refine fX (K:=K) (a:=p) (xs:=(aq b n).map .str) (fun i σ H2=>∃ v,σ=[some (.ref a),some (.int n),v]∧Same H' H2∧∀ w∈(aq b n).take i,mK w=false) ⟨none,rfl,Same.refl _,by simp⟩ ?_ ?_ ?_
 ·rintro i σ H2 hi ⟨v,rfl,s2,hn⟩
  exact b7 (s2 _ _ hp')
 ·rintro i x σ H2 hx ⟨v,rfl,s2,hn⟩
  rw [lae] at hx
  cases hw:(aq b n)[i]? with
  | none=>rw [hw] at hx;cases hx
  | some w=>
   rw [hw] at hx
   have e:V.str w=x:=lan hx
   subst e
   walk_at "A"
   rename_i q hq H3 s3 g3
   show if (if false=true then !d9 (.str w) _ else d9 (.str w) _)=true then _ else _
   rw [if_neg (by decide:¬ (false=true)),zn]
   cases hv:mK w with
   | true=>
    refine zJ ?_
    walk_at "g"
    have e:iQ b n=some w:=BS hw hv hn
    have:=k H3 ((s.trans s2).trans s3)
    rw [e] at this
    exact this
   | false=>
    refine fA ?_
    refine ⟨some (.str w),rfl,s2.trans s3,fun y hy=>?_⟩
    rw [bH hw] at hy
    rcases lap.mp hy with z | z
    ·exact hn y z
    ·rw [lag.mp z];exact hv
 ·rintro σ H2 ⟨v,rfl,s2,hn⟩
  walk_at "g"
  have e:iQ b n=none:=List.find?_eq_none.mpr (by
   intro y hy
   have:=hn y (by rw [laa,laE];exact hy)
   unfold mK at this
   rw [this];simp)
  have:=k H2 (s.trans s2)
  rw [e] at this
  exact this
def cR:Sp:=fun vs H Q _=>∃ a b n,vs=[.ref a,.int n]∧Rep H [] (.ref a) (cy b)∧b.length≤1000000∧∀ H',Same H H'→Q (gi (aJ b n)) H'
theorem Io(h:cR vs H Q E):wg K cC { nx:=fun _ H'=>Q .non H',rt:=Q } (start ["book","bargain","words"] vs) H:=by
 obtain ⟨a,b,n,rfl,hb,hl,k⟩:=h
 unfold wg
 walk_at "g"
 refine ⟨a,b,n,rfl,hb,hl,fun p H' hp s hp'=>?_⟩
 have kk:=k H' s
 unfold aJ at kk
 walk_at "g"
 show if (if false=true then !d9 (.str "bound") _ else d9 (.str "bound") _)=true then _ else _
 rw [if_neg (by decide:¬ (false=true)),ft]
 by_cases e1:("bound":Str)∈aq b n
 ·rw [if_pos (by simp [e1])]
  rw [if_pos e1] at kk
  walk_at "g"
  exact kk
 rw [if_neg (by simp [e1])]
 rw [if_neg e1] at kk
 walk_at "g"
 show if (if false=true then !d9 (.str "off") _ else d9 (.str "off") _)=true then _ else _
 rw [if_neg (by decide:¬ (false=true)),ft]
 by_cases e2:("off":Str)∈aq b n
 ·rw [if_pos (by simp [e2])]
  rw [if_pos (.inl e2)] at kk
  refine zJ ?_
  walk_at "g"
  exact kk
 rw [if_neg (by simp [e2])]
 walk_at "g"
 show if (if false=true then !d9 (.str "no") _ else d9 (.str "no") _)=true then _ else _
 rw [if_neg (by decide:¬ (false=true)),ft]
 by_cases e3:("no":Str)∈aq b n
 ·rw [if_pos (by simp [e3])]
  rw [if_pos (.inr e3)] at kk
  walk_at "g"
  exact kk
 rw [if_neg (by simp [e3])]
 rw [if_neg (by simp [e2,e3])] at kk
 walk_at "g"
 exact kk
def dU:Sp:=fun vs H Q _=>∃ a b n,vs=[.ref a,.int n]∧Rep H [] (.ref a) (cy b)∧b.length≤1000000∧∀ H',Same H H'→Q (.bl (dk b n)) H'
theorem qT(o:Option Str)(x:Str):sM (gi o) (.str x)=true:=by cases o <;> rfl
theorem vd(o:Option Str)(x:Str):decide (gi o=.str x)=decide (o=some x):=by
 cases o with
 | none=>simp [gi]
 | some y=>simp [gi]
theorem oI(o:Option Str):decide (gi o=.non)=decide (o=none):=by cases o <;> simp [gi]
theorem Em(h:dU vs H Q E):wT K gS cR { nx:=fun _ H'=>Q .non H',rt:=Q } (start ["book","bargain"] vs) H:=by
 obtain ⟨a,b,n,rfl,hb,hl,k⟩:=h
 unfold wT
 walk_at "g"
 refine ⟨a,b,n,rfl,hb,hl,fun H' s=>?_⟩
 walk_at "g"
 refine o6 (qT _ _) ?_
 walk_at "g"
 rw [vd]
 by_cases e:iQ b n=some ("yes":Str)
 ·rw [if_pos (by simp [e])]
  walk_at "g"
  refine ⟨a,b,n,rfl,hb.same s,hl,fun H2 s2=>?_⟩
  have:=k H2 (s.trans s2)
  unfold dk at this
  rw [decide_eq_true e,Bool.true_and,← oI] at this
  exact this
 ·rw [if_neg (by simp [e])]
  have:=k H' s
  unfold dk at this
  rw [decide_eq_false e,Bool.false_and] at this
  exact this
def hV:Sp:=fun vs H Q _=>∃ a b,vs=[.ref a]∧Rep H [] (.ref a) (cy b)∧b.length≤1000000∧∀ p H',H p=none→Same H H'→H' p=some (.lst ((bE b).map .int))→Q (.ref p) H'
def gj(b:List aW)(l:aW):Bool:=decide (l.1=("open":Str))&&decide (aJ b l.2=none)
theorem Gu(h:hV vs H Q E):Ae K cR { nx:=fun _ H'=>Q .non H',rt:=Q } (start ["book"] vs) H:=by
 obtain ⟨a,b,rfl,hb,hl,k⟩:=h
 obtain ⟨_,xs,e,rd,_,rs⟩:=id hb.lst_inv
 cases e
 have hxl:xs.length=b.length:=by rw [rs.length,laa]
 refine ⟨_,rfl,a,rfl,⟨xs,dG rd⟩,fun p hp=>?_⟩
 refine eX (K:=K) (a:=a) (xs:=xs) (fun i ys σ H'=>∃ v,σ=[v,some (.ref a)]∧Same H H'∧ys=(((b.take i).filter (gj b)).map (·.2)).map .int) ⟨none,rfl,Same.new hp,rfl⟩ ?_ ?_ ?_
 ·rintro i ys σ H' hi hp' ⟨v,rfl,s,rfl⟩
  exact s.seq (dG rd)
 ·rintro i x ys σ H' hx hp' ⟨v,rfl,s,rfl⟩
  obtain ⟨l,t,hb',rfl,rt⟩:=gG rs hx
  walk_at "g"
  have fin:∀ (c:Bool),gj b l=c→(if c=true then ((((b.take i).filter (gj b)).map (·.2)).map V.int)++[V.int l.2] else (((b.take i).filter (gj b)).map (·.2)).map V.int)=(((b.take (i+1)).filter (gj b)).map (·.2)).map V.int:=by
   intro c hc
   rw [bH hb',lay,laz,hc]
   cases c <;> simp
  by_cases e:l.1=("open":Str)
  ·rw [if_pos (by simp [e])]
   walk_at "g"
   refine ⟨a,b,l.2,rfl,hb.same s,hl,fun H2 s2=>?_⟩
   walk_at "g"
   rw [oI]
   have hc:gj b l=decide (aJ b l.2=none):=by unfold gj;rw [decide_eq_true e,Bool.true_and]
   have f:=fin _ hc
   by_cases e2:aJ b l.2=none
   ·rw [if_pos (by simp [e2])]
    rw [if_pos (by simp [e2])] at f
    walk_at "g"
    refine ⟨_,s2 _ _ hp',?_,_,ax,_,rfl,(s.trans s2).put hp,f⟩
    rw [laa,laa]
    exact bg (las (laJ _ _) (las (by rw [lax];omega) hl))
   ·rw [if_neg (by simp [e2])]
    rw [if_neg (by simp [e2])] at f
    exact ⟨_,s2 _ _ hp',_,rfl,s.trans s2,f⟩
  ·rw [if_neg (by simp [e])]
   have hc:gj b l=false:=by unfold gj;rw [decide_eq_false e,Bool.false_and]
   have f:=fin _ hc
   rw [if_neg (by decide)] at f
   refine fA ?_
   exact ⟨_,hp',_,rfl,s,f⟩
 ·rintro ys σ H' hp' ⟨v,rfl,s,rfl⟩
  refine k p _ hp s ?_
  rw [List.take_of_length_le (by omega)] at hp'
  exact hp'
def kc(ws:List Str):Prop:=∀ w∈ws,PyData.strOk w=true
def dW(ws:List Str):PyData:=.list (ws.map .str)
theorem nX{ws:List Str}(ok:kc ws):PyData.canLayAll0 (ws.map .str)=true:=by
 induction ws with
 | nil=>rfl
 | cons w r ih=>
  rw [lah,PyData.canLayAll0,PyData.canLay0,ok w (by simp),Bool.true_and]
  exact ih fun x hx=>ok x (lac _ hx)
theorem xN(ws:List Str):PyData.depthAll (ws.map .str)≤1:=by
 induction ws with
 | nil=>simp [PyData.depthAll]
 | cons w r ih=>rw [lah,PyData.depthAll,PyData.depth];omega
theorem fE{ws:List Str}(ok:kc ws):SeqAt.shaped (dW ws)=true:=by
 unfold SeqAt.shaped dW
 rw [PyData.canLay0,nX ok,Bool.true_and,PyData.depth]
 have:=xN ws
 exact decide_eq_true (by omega)
theorem oH:∀ (xs ys:List Str),PyData.eqv (dW xs) (dW ys)=decide (xs=ys):=by
 intro xs ys
 unfold dW
 rw [PyData.eqv]
 induction xs generalizing ys with
 | nil=>cases ys <;> simp [PyData.eqvAll]
 | cons x r ih=>
  cases ys with
  | nil=>simp [PyData.eqvAll]
  | cons y s=>
   rw [lah,lah,PyData.eqvAll,PyData.eqv,ih s]
   by_cases e:x=y
   ·subst e;simp
   ·simp [e]
theorem js{a:Addr}{ws:List Str}(h:Rd H a (.lst (ws.map .str))):Rep H [] (.ref a) (dW ws):=.lst h (by simp) (qD ws)
theorem mN{a b:Addr}{xs ys:List Str}(h1:Rd H a (.lst (xs.map .str)))(h2:Rd H b (.lst (ys.map .str)))(o1:kc xs)(o2:kc ys)(q:Q (.bl (decide (xs=ys))) H):kG (.ref a) (.ref b) H Q:=
 ⟨dW xs,dW ys,js h1,js h2,fE o1,fE o2,by rw [oH];exact q⟩
theorem uJ(ok:ID b):PyData.canLayAll0 (b.map bZ)=true:=by
 induction b with
 | nil=>rfl
 | cons l r ih=>
  rw [lah,PyData.canLayAll0,ih fun z hz=>ok z (lac _ hz)]
  simp [bZ,PyData.canLay0,PyData.canLayAll0,ok l (by simp)]
theorem uN(b:List aW):PyData.depthAll (b.map bZ)≤3:=by
 induction b with
 | nil=>simp [PyData.depthAll]
 | cons l r ih=>
  rw [lah,PyData.depthAll]
  have:PyData.depth (bZ l)≤3:=by simp [bZ,PyData.depth,PyData.depthAll]
  omega
theorem p9{r:Int}(h0:0≤r)(h1:r<xs.length):∃ v,v∈xs∧gD xs r=some v:=by
 have hlt:r.toNat<xs.length:=by omega
 refine ⟨xs[r.toNat],List.getElem_mem hlt,?_⟩
 have:=cf (xs:=xs) (j:=r.toNat) (v:=xs[r.toNat]) (by simp [hlt])
 rwa [Int.toNat_of_nonneg h0] at this
def ww(K:W.Frag)(d0:Sp)(aa:Addr):TS:=
  (aw (fC K (ae 0) (ae 1) "number")
  (aw (fC K (ae 0) (gE (fk (af (ae 2) al)) (az 0) (aT (av jy (ae 0) (ae 1))) (ae 0) [none,some 1]) "others")
  (aw (fC K (ae 0) (b5 (m_ K) (af (ae 3) al)) "against")
  (aw (fC K (ae 0) (bz al) "book")
  (aw (fC K (ae 0) (tC (.bl true)) "awake")
  (bX (bj aa "forget" d0 [] E0 (ae 0) al)))))))
def wn(K:W.Frag):TS:=
  (aw (fC K (ae 0) iR "counted")
  (aw (fC K (ae 0) iR "pages")
  (fC K (ae 0) (tC (.int 0)) "lines_read")))
def xU(K:W.Frag)(bM:Sp)(cP:Sp)(aa:Addr):TS:=
  (aw (aV (aT (av (iY K false) (ae 1) (bQ K (ae 0) "against")))
  (aw (bX (bj aa "write" bM [] E0 (ae 0) (af (tC (.str "no")) (af (ae 1) al))))
  (aD (bz al)))
  aL)
  (aw (bX (bj aa "write" bM [] E0 (ae 0) (af (tC (.str "open")) (af (ae 1) al))))
  (aD (bj aa "to_others" cP [] E0 (ae 0) (af (ae 1) (af (tC (.str "ask")) al))))))
def v3(K:W.Frag)(ii:Sp)(iH:Sp)(iJ:Sp)(ie:Sp)(aa:Addr):TS:=
  (aw (a_ (av (bx K) (ae 1) (tC (.int 0))) (az 2))
  (aw (a_ (av (bx K) (ae 1) (tC (.int 2))) (az 3))
  (aw (a_ (av (bx K) (ae 1) (tC (.int 3))) (az 4))
  (aw (aV (aT (av dh (ae 4) (tC (.str "ask"))))
  (aD (bj aa "got_ask" ii [] E0 (ae 0) (af (ae 2) (af (ae 3) al))))
  aL)
  (aw (aV (aT (av dh (ae 4) (tC (.str "query"))))
  (aD (bj aa "got_query" iH [] E0 (ae 0) (af (ae 2) (af (ae 3) al))))
  aL)
  (aw (aV (aT (av (iY K false) (ae 4) (cJ (af (tC (.str "yes")) (af (tC (.str "no")) al)))))
  (aD (bj aa "got_vote" iJ [] E0 (ae 0) (af (ae 2) (af (ae 3) (af (ae 4) al)))))
  aL)
  (aD (bj aa "got_decision" ie [] E0 (ae 0) (af (ae 3) (af (ae 4) al))))))))))
def xQ(K:W.Frag)(dU:Sp)(cg:Sp)(cP:Sp)(aa:Addr):TS:=
  (aw (aV (fH (cH (tB (bQ K (ae 0) "awake"))) (cH (tB (bb dU [] E0 (af (bj aa "page" cg [] E0 (ae 0) (af (ae 1) al)) (af (ae 1) al))))))
  (aD (bz al))
  aL)
  (aD (bj aa "to_others" cP [] E0 (ae 0) (af (ae 1) (af (tC (.str "query")) al)))))
def xq(K:W.Frag)(d0:Sp)(aa:Addr):TS:=
  (aw (fC K (ae 0) (tC (.bl false)) "awake")
  (bX (bj aa "forget" d0 [] E0 (ae 0) al)))
def wV(K:W.Frag)(hV:Sp)(cD:Sp)(aa:Addr):TS:=
  (aw (fC K (ae 0) (tC (.bl true)) "awake")
  (aw (a_ (bb hV [] E0 (af (bQ K (ae 0) "book") al)) (az 1))
  (aw (a_ (bz al) (az 2))
  (aw (fz (dy K (ae 1)) (az 3)
  (bX (e_ K "list" eY (ae 2) (af (bj aa "decide" cD [] E0 (ae 0) (af (ae 3) (af (tC (.str "off")) al))) al))))
  (aD (ae 2))))))
def w_(K:W.Frag)(bT:Sp)(aa:Addr):TS:=
  (aw (aV (aT (av (iY K true) (av (bx K) (ae 1) (tC (.int 3))) (cJ (af (tC (.str "no")) (af (tC (.str "bound")) (af (tC (.str "off")) al))))))
  (aD (tC (.bl false)))
  aL)
  (aD (mF (bj aa "decision" bT [] E0 (ae 0) (af (av (bx K) (ae 1) (tC (.int 2))) al)))))
def xk(K:W.Frag)(cM:Sp)(cg:Sp)(bM:Sp)(bT:Sp)(cz:Sp)(aa:Addr):TS:=
  (e8 (aV (cH (tB (bb cM [] E0 (af (bj aa "page" cg [] E0 (ae 0) (af (ae 2) al)) (af (ae 2) al)))))
  (bX (bj aa "write" bM [] E0 (ae 0) (af (Aw (aT (av (iY K false) (ae 2) (bQ K (ae 0) "against"))) (tC (.str "no")) (tC (.str "yes"))) (af (ae 2) al))))
  aL)
  (aw (aV (aT (av dh (bj aa "decision" bT [] E0 (ae 0) (af (ae 2) al)) (tC (.str "off"))))
  (aD (bj aa "to_one" cz [] E0 (ae 0) (af (ae 1) (af (ae 2) (af (tC (.str "no")) al)))))
  aL)
  (aD (bj aa "to_one" cz [] E0 (ae 0) (af (ae 1) (af (ae 2) (af (tC (.str "yes")) al)))))))
def wO(K:W.Frag)(bT:Sp)(cz:Sp)(cD:Sp)(aa:Addr):TS:=
  (aw (a_ (bj aa "decision" bT [] E0 (ae 0) (af (ae 2) al)) (az 4))
  (aw (aV (tB (mF (ae 4)))
  (aD (Aw (aT (av dh (ae 3) (tC (.str "yes")))) (bj aa "to_one" cz [] E0 (ae 0) (af (ae 1) (af (ae 2) (af (ae 4) al)))) (bz al)))
  aL)
  (aw (aV (aT (av dh (ae 3) (tC (.str "no"))))
  (aD (bj aa "decide" cD [] E0 (ae 0) (af (ae 2) (af (tC (.str "off")) al))))
  aL)
  (aw (a_ (oR (bQ K (ae 0) "counted") (ae 2) iR) (az 5))
  (aw (jx (ae 5) (ae 1) (tC (.bl true)))
  (aw (aV (aT (av jQ (b5 wo (af (ae 5) al)) (b5 (ck K) (af (bQ K (ae 0) "others") al))))
  (aD (bz al))
  aL)
  (aD (bj aa "decide" cD [] E0 (ae 0) (af (ae 2) (af (tC (.str "bound")) al))))))))))
def wz(K:W.Frag)(bT:Sp)(bM:Sp)(aa:Addr):TS:=
  (e8 (aV (tB (oC (bj aa "decision" bT [] E0 (ae 0) (af (ae 1) al))))
  (bX (bj aa "write" bM [] E0 (ae 0) (af (ae 2) (af (ae 1) al))))
  aL)
  (aD (bz al)))
def xI(K:W.Frag)(dU:Sp)(cM:Sp)(cg:Sp)(bT:Sp)(cz:Sp)(cD:Sp)(bM:Sp)(aa:Addr):TS:=
  (aw (aV (tB (bb dU [] E0 (af (bj aa "page" cg [] E0 (ae 0) (af (ae 2) al)) (af (ae 2) al))))
  (aD (bz al))
  aL)
  (aw (a_ (bj aa "decision" bT [] E0 (ae 0) (af (ae 2) al)) (az 3))
  (aw (aV (tB (mF (ae 3)))
  (aD (bj aa "to_one" cz [] E0 (ae 0) (af (ae 1) (af (ae 2) (af (ae 3) al)))))
  aL)
  (aw (aV (tB (bb cM [] E0 (af (bj aa "page" cg [] E0 (ae 0) (af (ae 2) al)) (af (ae 2) al))))
  (aD (bj aa "decide" cD [] E0 (ae 0) (af (ae 2) (af (tC (.str "off")) al))))
  aL)
  (aw (bX (bj aa "write" bM [] E0 (ae 0) (af (tC (.str "no")) (af (ae 2) al))))
  (aD (bj aa "to_one" cz [] E0 (ae 0) (af (ae 1) (af (ae 2) (af (tC (.str "off")) al))))))))))
def xx(K:W.Frag)(bM:Sp)(cP:Sp)(aa:Addr):TS:=
  (aw (bX (bj aa "write" bM [] E0 (ae 0) (af (ae 2) (af (ae 1) al))))
  (aD (bj aa "to_others" cP [] E0 (ae 0) (af (ae 1) (af (ae 2) al)))))
def wF(K:W.Frag)(cR:Sp)(cg:Sp)(aa:Addr):TS:=
  (aD (bb cR [] E0 (af (bj aa "page" cg [] E0 (ae 0) (af (ae 1) al)) (af (ae 1) al))))
def wU(K:W.Frag):TS:=
  (aw (pI (aT (av jQ (bQ K (ae 0) "lines_read") (b5 (ck K) (af (bQ K (ae 0) "book") al))))
  (aw (a_ (av (bK K) (bQ K (ae 0) "book") (bQ K (ae 0) "lines_read")) (az 2))
  (aw (bX (e_ K "list" da (oR (bQ K (ae 0) "pages") (av (bx K) (ae 2) (tC (.int 1))) (bz al)) (af (ae 2) al)))
  (qi K (ae 0) (tC (.int 1)) z3 "lines_read"))))
  (aD (rP (bQ K (ae 0) "pages") (ae 1) (bz al))))
def xg(K:W.Frag):TS:=
  (bX (e_ K "list" da (bQ K (ae 0) "book") (af (cJ (af (ae 1) (af (ae 2) al))) al)))
def wc(K:W.Frag):TS:=
  (aD (bz (af (cJ (af (bQ K (ae 0) "number") (af (ae 1) (af (ae 2) (af (ae 3) al))))) al)))
def vL(K:W.Frag):TS:=
  (aD (gE (dy K (bQ K (ae 0) "others")) (az 0) fK (cJ (af (bQ K (ae 3) "number") (af (ae 0) (af (ae 1) (af (ae 2) al))))) [none,some 1,some 2,some 0]))
structure bI(K:W.Frag)(C:Addr):Prop where
 cl:Cls K C
 f1:NoAttr K C "number"
 f2:NoAttr K C "others"
 f3:NoAttr K C "against"
 f4:NoAttr K C "book"
 f5:NoAttr K C "awake"
 f6:NoAttr K C "counted"
 f7:NoAttr K C "pages"
 f8:NoAttr K C "lines_read"
structure HS where
 num:Int
 oth:List Int
 agn:List Int
 book:List aW
 up:Bool
 cnt:Int→List Int
abbrev aC:=Int×Int×Int×Str
def bv(l:aC):PyData:=.tuple [.int l.1,.int l.2.1,.int l.2.2.1,.str l.2.2.2]
def gF(ls:List aC):PyData:=.list (ls.map bv)
def HS.wr(h:HS)(w:Str)(n:Int):HS:={ h with book:=h.book++[(w,n)] }
def HS.toOthers(h:HS)(n:Int)(w:Str):List aC:=h.oth.map fun k=>(h.num,k,n,w)
def HS.begin(h:HS)(n:Int):HS×List aC:=if n∈h.agn then (h.wr "no" n,[]) else (h.wr "open" n,h.toOthers n "ask")
def HS.decide(h:HS)(n:Int)(w:Str):HS×List aC:=(h.wr w n,h.toOthers n w)
def HS.asked(h:HS)(n:Int):HS:=if aq h.book n=[] then h.wr (if n∈h.agn then "no" else "yes") n else h
def HS.gotAsk(h:HS)(g n:Int):HS×List aC:=(h.asked n,[(h.num,g,n,if aJ (h.asked n).book n=some ("off":Str) then "no" else "yes")])
def cZ(g:Int)(gs:List Int):List Int:=if g∈gs then gs else gs++[g]
def HS.count(h:HS)(g n:Int):HS:={ h with cnt:=fun m=>if m=n then cZ g (h.cnt n) else h.cnt m }
def HS.gotVote(h:HS)(g n:Int)(w:Str):HS×List aC:=
 match aJ h.book n with
 | some d=>(h,if w="yes" then [(h.num,g,n,d)] else [])
 | none=>if w="no" then h.decide n "off" else if (cZ g (h.cnt n)).length<h.oth.length then (h.count g n,[]) else (h.count g n).decide n "bound"
def HS.gotDecision(h:HS)(n:Int)(w:Str):HS×List aC:=(if aJ h.book n=none then h.wr w n else h,[])
def HS.gotQuery(h:HS)(g n:Int):HS×List aC:=
 if dk h.book n=true then (h,[]) else match aJ h.book n with
 | some d=>(h,[(h.num,g,n,d)])
 | none=>if aq h.book n=[] then (h.wr "no" n,[(h.num,g,n,"off")]) else h.decide n "off"
def HS.got(h:HS)(l:aC):HS×List aC:=
 if l.2.2.2="ask" then h.gotAsk l.1 l.2.2.1 else if l.2.2.2="query" then h.gotQuery l.1 l.2.2.1 else if l.2.2.2="yes"∨l.2.2.2="no" then h.gotVote l.1 l.2.2.1 l.2.2.2 else h.gotDecision l.2.2.1 l.2.2.2
def HS.stop(h:HS):HS:={ h with up:=false,cnt:=fun _=>[] }
def HS.offAll(h:HS):List Int→HS×List aC
 | []=>(h,[])
 | n::r=>let q:=(h.decide n "off").1.offAll r;(q.1,(h.decide n "off").2++q.2)
def HS.wake(h:HS):HS×List aC:={ h with up:=true:HS }.offAll (bE h.book)
def gv(g:Int):aN×V:=(Sum.inl g,V.bl true)
structure Ex(H:Hp)(kvs:List (aN×V))(cnt:Int→List Int)(R:List Addr)(pc pp:Addr):Prop where
 no:∀ n,bq kvs (Sum.inl n:aN)=none→cnt n=[]
 yes:∀ n v,bq kvs (Sum.inl n:aN)=some v→∃ q,v=.ref q∧H q=some (.dK ((cnt n).map gv))∧q∈R∧q≠pc∧q≠pp
 inj:∀ n m q,bq kvs (Sum.inl n:aN)=some (.ref q)→bq kvs (Sum.inl m:aN)=some (.ref q)→n=m
def df(b:List aW)(n:Int):List aW:=b.filter fun l=>decide (l.2=n)
theorem gk(b:List aW)(n:Int):aq (df b n) n=aq b n:=by
 unfold aq df
 rw [List.filter_filter]
 simp
theorem oU(b:List aW)(n:Int):aJ (df b n) n=aJ b n:=by unfold aJ;rw [gk]
theorem mG(b:List aW)(n:Int):dk (df b n) n=dk b n:=by unfold dk iQ;rw [oU,gk]
theorem nY(b:List aW)(l:aW)(n:Int):df (b++[l]) n=if l.2=n then df b n++[l] else df b n:=by
 unfold df
 rw [lay]
 by_cases e:l.2=n <;> simp [e]
theorem gz(b:List aW)(n:Int):(df b n).length≤b.length:=laJ _ _
structure PagAt(H:Hp)(pvs:List (aN×V))(b:List aW)(R:List Addr)(po pa pk:Addr):Prop where
 no:∀ n,bq pvs (Sum.inl n:aN)=none→df b n=[]
 yes:∀ n v,bq pvs (Sum.inl n:aN)=some v→∃ q xs,v=.ref q∧H q=some (.lst xs)∧Reps H [] xs ((df b n).map bZ)∧q∈R∧q≠po∧q≠pa∧q≠pk
 inj:∀ n m q,bq pvs (Sum.inl n:aN)=some (.ref q)→bq pvs (Sum.inl m:aN)=some (.ref q)→n=m
theorem PagAt.keep{H H':Hp}{pvs:List (aN×V)}{R R':List Addr}{po pa pk:Addr}(P:PagAt H pvs b R po pa pk)(sub:∀ a∈R,a∈R')(kp:∀ q xs,H q=some (.lst xs)→q∈R→q≠po→q≠pa→q≠pk→H' q=some (.lst xs))
  (ch:∀ (b:List aW) xs,Reps H [] xs (b.map bZ)→Reps H' [] xs (b.map bZ)):PagAt H' pvs b R' po pa pk:=
 ⟨P.no,fun n v hv=>by obtain ⟨q,xs,e,h1,h2,h3,h4,h5,h6⟩:=P.yes n v hv;exact ⟨q,xs,e,kp _ _ h1 h3 h4 h5 h6,ch _ _ h2,sub _ h3,h4,h5,h6⟩,P.inj⟩
structure Pg where
 kvs:List (aN×V)
 pp:Addr
 nr:Nat
 pvs:List (aN×V)
def fu(num:Int)(po pa pk:Addr)(up:Bool)(pc pp:Addr)(nr:Nat):List (Str×V):=[("number",.int num),("others",.ref po),("against",.ref pa),("book",.ref pk),("awake",.bl up),("counted",.ref pc),("pages",.ref pp),("lines_read",.int nr)]
structure HouseI0(C:Addr)(H:Hp)(p:Addr)(h:HS)(R:List Addr)(N:Nat)(dx po pa pk pc:Addr)(xs:List V)(z:Pg):Prop where
 ob:H p=some (.ins C dx (fu h.num po pa pk h.up pc z.pp z.nr))
 ot:H po=some (.lst (h.oth.map .int))
 ag:H pa=some (.lst (h.agn.map .int))
 bk:H pk=some (.lst xs)
 bs:Reps H [] xs (h.book.map bZ)
 cn:H pc=some (.dK z.kvs)
 ct:Ex H z.kvs h.cnt R pc z.pp
 pg:H z.pp=some (.dK z.pvs)
 pt:PagAt H z.pvs (h.book.take z.nr) R po pa pk
 n1:po≠pk
 n2:pa≠pk
 n3:pc≠z.pp
 m1:p∈R
 m2:po∈R
 m3:pa∈R
 m4:pk∈R
 m5:pc∈R
 m6:z.pp∈R
 trk:∀ a∈R,∃ o,H a=some o
 l1:h.book.length≤N
 l2:z.kvs.length≤N
 l3:∀ n,(h.cnt n).length≤N
 l5:z.nr≤h.book.length
 okb:ID h.book
structure HouseIn(C:Addr)(H:Hp)(p:Addr)(h:HS)(R:List Addr)(N:Nat)(dx po pa pk pc:Addr)(xs:List V)(z:Pg):Prop extends HouseI0 C H p h R N dx po pa pk pc xs z where
 l4:z.pvs.length≤z.nr
def HouseAt(C:Addr)(H:Hp)(p:Addr)(h:HS)(R:List Addr)(N:Nat):Prop:=∃ dx po pa pk pc xs z,HouseIn C H p h R N dx po pa pk pc xs z
structure Move(C p:Addr)(H:Hp)(R:List Addr)(H':Hp)(h':HS)(R':List Addr)(N':Nat):Prop where
 at_:HouseAt C H' p h' R' N'
 chg:Chg R H H'
 gr:Grow R H R'
 sb:∀ a∈R,a∈R'
theorem ff{S T:List Addr}:∀ {b:List aW} {xs:List V},Reps H S xs (b.map bZ)→Reps H T xs (b.map bZ)
 | [],xs,r=>by rw [laG] at r ⊢;rw [r.nil_inv];exact .nil
 | l::b,xs,r=>by
  rw [lah] at r ⊢
  obtain ⟨x,ys,rfl,h,t⟩:=r.cons_inv
  obtain ⟨a,zs,rfl,rt,rs⟩:=h.tup_inv
  obtain ⟨y1,r1,rfl,h1,t1⟩:=rs.cons_inv
  obtain ⟨y2,r2,rfl,h2,t2⟩:=t1.cons_inv
  cases t2.nil_inv
  rw [h1.str_inv,h2.int_inv] at rt
  exact .cons (.tup rt (.cons (.str _) (.cons (.int _) .nil))) (ff t)
theorem bG{H H':Hp}{S T:List Addr}(r:Reps H S xs (b.map bZ))(c:Chg T H H'):Reps H' S xs (b.map bZ):=ff ((ff (T:=T) r).chg c)
theorem Move.trans{C p:Addr}{H H1 H2:Hp}{R R1 R2:List Addr}{h1 h2:HS}{N1 N2:Nat}(a:Move C p H R H1 h1 R1 N1)(b:Move C p H1 R1 H2 h2 R2 N2):Move C p H R H2 h2 R2 N2:=
 ⟨b.at_,a.chg.grow a.gr b.chg,a.gr.trans a.chg b.gr,fun x hx=>b.sb x (a.sb x hx)⟩
variable {C:Addr}
variable {h:HS}
variable {R:List Addr}
variable {N:Nat}
theorem HouseIn.same{H H':Hp}{p:Addr}{dx po pa pk pc:Addr}{z:Pg}(I:HouseIn C H p h R N dx po pa pk pc xs z)(s:Same H H'):HouseIn C H' p h R N dx po pa pk pc xs z:=
  { I with ob:=s _ _ I.ob,ot:=s _ _ I.ot,ag:=s _ _ I.ag,bk:=s _ _ I.bk,bs:=I.bs.same s,cn:=s _ _ I.cn,pg:=s _ _ I.pg,
           ct:=⟨I.ct.no,fun n v hv=>(by obtain ⟨q,e,h1,h2⟩:=I.ct.yes n v hv;exact ⟨q,e,s _ _ h1,h2⟩),I.ct.inj⟩,
           pt:=I.pt.keep (fun _ h=>h) (fun q xs h _ _ _ _=>s _ _ h) fun b xs r=>r.same s,
           trk:=fun a ha=>(by obtain ⟨o,e⟩:=I.trk a ha;exact ⟨o,s _ _ e⟩) }
theorem HouseAt.same{H H':Hp}{p:Addr}(I:HouseAt C H p h R N)(s:Same H H'):HouseAt C H' p h R N:=by
 obtain ⟨dx,po,pa,pk,pc,xs,kvs,I⟩:=I
 exact ⟨dx,po,pa,pk,pc,xs,kvs,I.same s⟩
theorem HouseAt.move{H H':Hp}{p:Addr}(I:HouseAt C H p h R N)(s:Same H H'):Move C p H R H' h R N:=⟨I.same s,.of_same s,.refl _ _,fun _ h=>h⟩
theorem HouseIn.more{p:Addr}{N M:Nat}{dx po pa pk pc:Addr}{z:Pg}(I:HouseIn C H p h R N dx po pa pk pc xs z)(hN:N≤M):HouseIn C H p h R M dx po pa pk pc xs z:=
 { I with l1:=las I.l1 hN,l2:=las I.l2 hN,l3:=fun n=>las (I.l3 n) hN }
theorem HouseAt.more{p:Addr}{N M:Nat}(I:HouseAt C H p h R N)(hN:N≤M):HouseAt C H p h R M:=by
 obtain ⟨dx,po,pa,pk,pc,xs,kvs,I⟩:=I
 exact ⟨dx,po,pa,pk,pc,xs,kvs,I.more hN⟩
theorem Move.more{C p:Addr}{H H':Hp}{R R':List Addr}{h':HS}{N' M:Nat}(m:Move C p H R H' h' R' N')(hN:N'≤M):Move C p H R H' h' R' M:=⟨m.at_.more hN,m.chg,m.gr,m.sb⟩
theorem HouseAt.chg{H H':Hp}{p:Addr}{R T:List Addr}(I:HouseAt C H p h R N)(c:Chg T H H')(d:∀ a∈R,¬ a∈T):HouseAt C H' p h R N:=by
 obtain ⟨dx,po,pa,pk,pc,xs,kvs,I⟩:=I
 have kp:∀ a o,a∈R→H a=some o→H' a=some o:=fun a o ha e=>c.keep a o e (d a ha)
 refine ⟨dx,po,pa,pk,pc,xs,kvs,{ I with ob:=kp _ _ I.m1 I.ob,ot:=kp _ _ I.m2 I.ot,ag:=kp _ _ I.m3 I.ag,bk:=kp _ _ I.m4 I.bk,bs:=(bG I.bs c),cn:=kp _ _ I.m5 I.cn,pg:=kp _ _ I.m6 I.pg,ct:=⟨I.ct.no,fun n v hv=>(by obtain ⟨q,e,h1,h2,h3⟩:=I.ct.yes n v hv;exact ⟨q,e,kp _ _ h2 h1,h2,h3⟩),I.ct.inj⟩,pt:=(I.pt.keep (fun _ h=>h) (fun q xs h m _ _ _=>kp _ _ m h) (fun b xs r=>bG r c)),trk:=(fun a ha=>(by obtain ⟨o,e⟩:=I.trk a ha;exact ⟨o,kp _ _ ha e⟩)) }⟩
theorem fq{a:Addr}{o:HO}(t:∀ a∈R,∃ o,H a=some o):∀ b∈R,∃ u,upd H a o b=some u:=fun b hb=>by
 by_cases e:b=a
 ·subst e;exact ⟨o,ax⟩
 ·rw [bB e];exact t b hb
def bM(C:Addr):Sp:=fun vs H Q _=>∃ p w n h R N,vs=[.ref p,.str w,.int n]∧HouseAt C H p h R N∧N≤900000∧PyData.strOk w=true∧∀ H',Move C p H R H' (h.wr w n) R (N+1)→Q .non H'
theorem GT(T:bI K C)(h:bM C vs H Q E):xg K { nx:=fun _ H'=>Q .non H',rt:=Q } (start ["self","word","bargain"] vs) H:=by
  obtain ⟨p,w,n,h,R,N,rfl,⟨dx,po,pa,pk,pc,xs,kvs,I⟩,hN,okw,k⟩:=h
  obtain ⟨cl,f1,f2,f3,f4,f5,f6,f7,f8⟩:=T
  obtain ⟨⟨ob,ot,ag,bk,bs,cn,ct,pg,pt,n1,n2,n3,m1,m2,m3,m4,m5,m6,trk,l1,l2,l3,l5,okb⟩,l4⟩:=id I
  have hxl:xs.length=h.book.length:=by rw [bs.length,laa]
  unfold xg
  walk_at "g"
  refine ⟨.inl ⟨rfl,_,b7 bk⟩,?_⟩
  walk_at "A"
  rename_i t ht H1 s1 g1
  have bk1:=s1 _ _ bk
  refine dc bk1 (bg (by omega)) ?_
  have ntk:t≠pk:=dJ g1 bk1 (by intro z;cases z)
  have kp:∀ a o,a≠pk→H1 a=some o→upd H1 pk (.lst (xs++[.ref t])) a=some o:=fun a o e z=>bo e z
  have cB:Chg R H1 (upd H1 pk (.lst (xs++[.ref t]))):=.set (by rw [bk1];exact True.intro) m4
  refine k _ ⟨⟨dx,po,pa,pk,pc,xs++[.ref t],kvs,?_⟩,(Chg.of_same s1).trans cB,.refl _ _,fun _ h=>h⟩
  exact { ob:=kp _ _ (dJ (s1 _ _ ob) bk1 (by intro z;cases z)) (s1 _ _ ob),ot:=kp _ _ n1 (s1 _ _ ot),ag:=kp _ _ n2 (s1 _ _ ag),bk:=ax,
          bs:=(by
            show Reps _ [] _ ((h.book++[(w,n)]).map bZ)
            rw [lai]
            exact (bG (bs.same s1) cB).snoc (.tup (.inl (kp _ _ ntk g1)) (.cons (.str _) (.cons (.int _) .nil)))),
          cn:=kp _ _ (dJ (s1 _ _ cn) bk1 (by intro z;cases z)) (s1 _ _ cn),pg:=kp _ _ (dJ (s1 _ _ pg) bk1 (by intro z;cases z)) (s1 _ _ pg),
          ct:=⟨ct.no,fun n v hv=>(by obtain ⟨q,e,h1,h2⟩:=ct.yes n v hv;exact ⟨q,e,kp _ _ (dJ (s1 _ _ h1) bk1 (by intro z;cases z)) (s1 _ _ h1),h2⟩),ct.inj⟩,
          pt:=(by
            show PagAt _ _ ((h.book++[(w,n)]).take kvs.nr) _ _ _ _
            rw [List.take_append_of_le_length l5]
            exact pt.keep (fun _ h=>h) (fun q xs hq _ _ _ nk=>kp _ _ nk (s1 _ _ hq)) fun b xs r=>bG (r.same s1) cB),
          n1:=n1,n2:=n2,n3:=n3,m1:=m1,m2:=m2,m3:=m3,m4:=m4,m5:=m5,m6:=m6,
          trk:=fq fun a ha=>(by obtain ⟨o,e⟩:=trk a ha;exact ⟨o,s1 _ _ e⟩),
          l1:=(by show (h.book++[(w,n)]).length≤N+1;rw [laf];show h.book.length+1≤N+1;omega),l2:=(by omega),l3:=fun n=>Nat.le_succ_of_le (l3 n),
          l4:=l4,l5:=(by show kvs.nr≤(h.book++[(w,n)]).length;rw [laf];omega),
          okb:=by
            intro l hl
            rcases lap.mp hl with z | z
            · exact okb l z
            · rw [lag.mp z];exact okw }
theorem dv{l:Addr}(t:∀ a∈R,∃ o,H a=some o)(hl:H l=none):¬ l∈R:=fun m=>by obtain ⟨o,e⟩:=t l m;rw [hl] at e;cases e
theorem cG{S T:List Addr}:∀ {b:List aC} {xs:List V},Reps H S xs (b.map bv)→Reps H T xs (b.map bv)
 | [],xs,r=>by rw [laG] at r ⊢;rw [r.nil_inv];exact .nil
 | l::b,xs,r=>by
  rw [lah] at r ⊢
  obtain ⟨x,ys,rfl,h,t⟩:=r.cons_inv
  obtain ⟨a,zs,rfl,rt,rs⟩:=h.tup_inv
  obtain ⟨y1,r1,rfl,h1,t1⟩:=rs.cons_inv
  obtain ⟨y2,r2,rfl,h2,t2⟩:=t1.cons_inv
  obtain ⟨y3,r3,rfl,h3,t3⟩:=t2.cons_inv
  obtain ⟨y4,r4,rfl,h4,t4⟩:=t3.cons_inv
  cases t4.nil_inv
  rw [h1.int_inv,h2.int_inv,h3.int_inv,h4.str_inv] at rt
  exact .cons (.tup rt (.cons (.int _) (.cons (.int _) (.cons (.int _) (.cons (.str _) .nil))))) (cG t)
theorem bA{H H':Hp}{S T:List Addr}{b:List aC}(r:Reps H S xs (b.map bv))(c:Chg T H H'):Reps H' S xs (b.map bv):=cG ((cG (T:=T) r).chg c)
theorem fo{S:List Addr}{t:Addr}{a b c:Int}{w:Str}(g:Rd H t (.tup [.int a,.int b,.int c,.str w])):Rep H S (.ref t) (bv (a,b,c,w)):=.tup g (.cons (.int _) (.cons (.int _) (.cons (.int _) (.cons (.str _) .nil))))
def Fresh(H:Hp)(v:V):Prop:=∀ l,v=.ref l→H l=none
theorem Fresh.back{H H1:Hp}{v:V}(f:Fresh H1 v)(s:Same H H1):Fresh H v:=fun l e=>s.free (f l e)
theorem Move.free{C p:Addr}{H H':Hp}{R R':List Addr}{h':HS}{N':Nat}(m:Move C p H R H' h' R' N'){b:Addr}(hb:H' b=none):H b=none:=by
 cases e:H b with
 | none=>rfl
 | some o=>
  by_cases y:b∈R
  ·obtain ⟨dx,po,pa,pk,pc,xs,kvs,I⟩:=m.at_
   obtain ⟨o',e'⟩:=I.trk b (m.sb b y)
   rw [hb] at e';cases e'
  ·rw [m.chg.keep b o e y] at hb;cases hb
def LL(H:Hp)(R:List Addr)(v:V)(ls:List aC):Prop:=∃ l ys,v=.ref l∧H l=some (.lst ys)∧¬ l∈R∧Reps H R ys (ls.map bv)
def cz(C:Addr):Sp:=fun vs H Q _=>∃ p o n w h R N,vs=[.ref p,.int o,.int n,.str w]∧HouseAt C H p h R N∧∀ v H',Same H H'→LL H' R v [(h.num,o,n,w)]→Fresh H v→Q v H'
theorem FM(T:bI K C)(h:cz C vs H Q E):wc K { nx:=fun _ H'=>Q .non H',rt:=Q } (start ["self","other","bargain","word"] vs) H:=by
 obtain ⟨p,o,n,w,h,R,N,rfl,⟨dx,po,pa,pk,pc,xs,kvs,I⟩,k⟩:=h
 obtain ⟨cl,f1,f2,f3,f4,f5,f6,f7,f8⟩:=T
 have ob:=I.ob
 unfold wc
 walk_at "A"
 rename_i t ht H1 s1 g1 l hl H2 s2 g2
 refine k _ _ (s1.trans s2) ⟨_,_,rfl,g2,dv (fun a ha=>?_) hl,.cons (fo (.inl (s2 _ _ g1))) .nil⟩ (by rintro _ ⟨⟩;exact s1.free hl)
 obtain ⟨o,e⟩:=I.trk a ha
 exact ⟨o,s1 _ _ e⟩
def cP(C:Addr):Sp:=fun vs H Q _=>∃ p n w h R N,vs=[.ref p,.int n,.str w]∧HouseAt C H p h R N∧h.oth.length≤900000∧∀ v H',Same H H'→LL H' R v (h.toOthers n w)→Fresh H v→Q v H'
theorem FS(T:bI K C)(h:cP C vs H Q E):vL K { nx:=fun _ H'=>Q .non H',rt:=Q } (start ["self","bargain","word"] vs) H:=by
 obtain ⟨p,n,w,h,R,N,rfl,⟨dx,po,pa,pk,pc,xs,kvs,I⟩,hol,k⟩:=h
 obtain ⟨cl,f1,f2,f3,f4,f5,f6,f7,f8⟩:=T
 have ob:=I.ob
 have ot:=I.ot
 unfold vL
 walk_at "g"
 intro q hq
 refine eX (K:=K) (a:=po) (xs:=h.oth.map .int) (fun i ys σ H'=>∃ v,σ=[v,some (.int n),some (.str w),some (.ref p)]∧Same H H'∧Reps H' [] ys ((((h.oth.take i).map fun k=>(h.num,k,n,w)):List aC).map bv)) ⟨none,rfl,Same.new hq,.nil⟩ ?_ ?_ ?_
 ·rintro i ys σ H' hi hq' ⟨v,rfl,s,rs⟩
  exact b7 (s _ _ ot)
 ·rintro i x ys σ H1 hx hq' ⟨v,rfl,s,rs⟩
  rw [lae] at hx
  cases hk:h.oth[i]? with
  | none=>rw [hk] at hx;cases hx
  | some z=>
   rw [hk] at hx
   have e:V.int z=x:=lan hx
   subst e
   have hi:i<h.oth.length:=(lab.mp hk).1
   have ob1:=s _ _ ob
   walk_at "g"
   rw [if_pos rfl]
   walk_at "A"
   rename_i t ht H2 s2 g2
   have hyl:ys.length=i:=by rw [rs.length,laa,laa,lax];omega
   refine ⟨ys,s2 _ _ hq',bg (by omega),ys++[.ref t],ax,_,rfl,(s.trans s2).put hq,?_⟩
   rw [bH hk,lai,lai]
   have c:Chg [q] H2 (upd H2 q (.lst (ys++[.ref t]))):=.set (by rw [s2 _ _ hq'];exact True.intro) (by simp)
   have ntq:t≠q:=dJ g2 (s2 _ _ hq') (by intro z;cases z)
   exact (bA (rs.same s2) c).snoc (fo (.inl (bo ntq g2)))
 ·rintro ys σ H1 hq' ⟨v,rfl,s,rs⟩
  refine k _ _ s ⟨_,_,rfl,hq',dv I.trk hq,?_⟩ (by rintro _ ⟨⟩;exact hq)
  rw [laa,laE] at rs
  exact cG rs
def Ret(C p:Addr)(H:Hp)(R:List Addr)(N:Nat)(r:HS×List aC)(Q:VK):Prop:=∀ v H' R',Move C p H R H' r.1 R' N→LL H' R' v r.2→Fresh H v→Q v H'
theorem Ret.after{C p:Addr}{H H1:Hp}{R R1:List Addr}{N N1:Nat}{h1:HS}{r:HS×List aC}(k:Ret C p H R N r Q)(m:Move C p H R H1 h1 R1 N1):Ret C p H1 R1 N r Q:=fun v H' R' m' l f=>k v H' R' (m.trans m') l fun a e=>m.free (f a e)
theorem Ret.same{C p:Addr}{H H1:Hp}{r:HS×List aC}{M:Nat}(k:Ret C p H R N r Q)(I:HouseAt C H p h R M)(s:Same H H1):Ret C p H1 R N r Q:=k.after (I.move s)
theorem Ret.done{C p:Addr}{H H':Hp}{N M:Nat}{ls:List aC}{v:V}(k:Ret C p H R N (h,ls) Q)(I:HouseAt C H p h R M)(hM:M≤N)(s:Same H H')(r:LL H' R v ls)(f:Fresh H v):Q v H':=k v H' R ((I.move s).more hM) r f
theorem Ret.nil{C p:Addr}{H H':Hp}{N M:Nat}{l:Addr}(k:Ret C p H R N (h,[]) Q)(I:HouseAt C H p h R M)(hM:M≤N)(s:Same H H')(hl:H l=none)(g:H' l=some (.lst [])):Q (.ref l) H':=
 k.done I hM s ⟨_,_,rfl,g,dv (by obtain ⟨dx,po,pa,pk,pc,xs,kvs,I⟩:=I;exact I.trk) hl,.nil⟩ (by rintro _ ⟨⟩;exact hl)
def cD(C:Addr):Sp:=fun vs H Q _=>∃ p n w h R N,vs=[.ref p,.int n,.str w]∧HouseAt C H p h R N∧N≤800000∧h.oth.length≤900000∧PyData.strOk w=true∧Ret C p H R (N+1) (h.decide n w) Q
theorem Ga(T:bI K C)(h:cD C vs H Q E):xx K (bM C) (cP C) C { nx:=fun _ H'=>Q .non H',rt:=Q } (start ["self","bargain","word"] vs) H:=by
 obtain ⟨p,n,w,h,R,N,rfl,I,hN,hol,okw,k⟩:=h
 obtain ⟨dx,po,pa,pk,pc,xs,kvs,I0⟩:=id I
 have ob:=I0.ob
 unfold xx
 walk_at "g"
 refine ⟨p,w,n,h,R,N,rfl,I,by omega,okw,fun H1 m=>?_⟩
 obtain ⟨dx1,po1,pa1,pk1,pc1,xs1,kvs1,I1⟩:=id m.at_
 have ob1:=I1.ob
 walk_at "g"
 refine ⟨p,n,w,h.wr w n,R,N+1,rfl,m.at_,hol,fun v H2 s2 r f=>?_⟩
 exact (k.after m).done m.at_ (lat _) s2 r f
theorem jm{w:Str}(h:w∈([("ask":Str),"yes","no","bound","off","query","open"]:List Str)):PyData.strOk w=true:=by
 simp only [List.mem_cons,List.not_mem_nil,or_false] at h
 rcases h with rfl | rfl | rfl | rfl | rfl | rfl | rfl <;> decide +kernel
theorem pO(x:Int)(ws:List Int):d9 (.int x) (ws.map .int)=decide (x∈ws):=by
 unfold d9
 rw [List.any_map]
 induction ws with
 | nil=>rfl
 | cons w r ih=>
  rw [List.any_cons,ih]
  show ((w==x)||decide (x∈r))=decide (x∈w::r)
  by_cases e:x=w
  ·subst e;simp
  ·have e':¬ w=x:=fun z=>e z.symm
   simp [e,e']
def ig(C:Addr):Sp:=fun vs H Q _=>∃ p n h R N,vs=[.ref p,.int n]∧HouseAt C H p h R N∧N≤800000∧h.oth.length≤900000∧Ret C p H R (N+1) (h.begin n) Q
theorem FC(T:bI K C)(h:ig C vs H Q E):xU K (bM C) (cP C) C { nx:=fun _ H'=>Q .non H',rt:=Q } (start ["self","bargain"] vs) H:=by
 obtain ⟨p,n,h,R,N,rfl,I,hN,hol,k⟩:=h
 obtain ⟨cl,f1,f2,f3,f4,f5,f6,f7,f8⟩:=T
 obtain ⟨dx,po,pa,pk,pc,xs,kvs,I0⟩:=id I
 have ob:=I0.ob
 have ag:=I0.ag
 unfold xU
 walk_at "g"
 show if (if false=true then _ else d9 (.int n) _)=true then _ else _
 rw [if_neg (by decide:¬ (false=true)),pO]
 unfold HS.begin at k
 by_cases e:n∈h.agn
 ·rw [if_pos (decide_eq_true e)]
  rw [if_pos e] at k
  walk_at "g"
  refine ⟨p,"no",n,h,R,N,rfl,I,by omega,jm (by simp),fun H1 m=>?_⟩
  walk_at "A"
  rename_i l hl H2 s2 g2
  exact (k.after m).nil m.at_ (lat _) s2 hl g2
 ·rw [if_neg (by simpa using e)]
  rw [if_neg e] at k
  walk_at "g"
  refine ⟨p,"open",n,h,R,N,rfl,I,by omega,jm (by simp),fun H1 m=>?_⟩
  obtain ⟨dx1,po1,pa1,pk1,pc1,xs1,kvs1,I1⟩:=id m.at_
  have ob1:=I1.ob
  walk_at "g"
  refine ⟨p,n,"ask",h.wr "open" n,R,N+1,rfl,m.at_,hol,fun v H2 s2 r f=>?_⟩
  exact (k.after m).done m.at_ (lat _) s2 r f
theorem HouseIn.rep{p:Addr}{dx po pa pk pc:Addr}{kvs:Pg}(I:HouseIn C H p h R N dx po pa pk pc xs kvs):Rep H [] (.ref pk) (cy h.book):=.lst (.inl I.bk) (by simp) I.bs
theorem Af(num:Int)(po pa pk:Addr)(u:Bool)(pc pp:Addr)(nr m:Nat):ci "lines_read" (.int m) (fu num po pa pk u pc pp nr)=fu num po pa pk u pc pp m:=by with_unfolding_all rfl
def cg(C:Addr):Sp:=fun vs H Q _=>∃ p n h R N,vs=[.ref p,.int n]∧HouseAt C H p h R N∧N≤900000∧∀ q H' R',Move C p H R H' h R' N→Rep H' [] (.ref q) (cy (df h.book n))→Q (.ref q) H'
theorem HV(T:bI K C)(h:cg C vs H Q E):wU K { nx:=fun _ H'=>Q .non H',rt:=Q } (start ["self","bargain","line"] vs) H:=by
  obtain ⟨p,n,h,R,N,rfl,⟨dx,po,pa,pk,pc,xs,z,I⟩,hN,k⟩:=h
  obtain ⟨cl,f1,f2,f3,f4,f5,f6,f7,f8⟩:=T
  unfold wU
  refine sX ?_
  refine ⟨fun m σ H'=>∃ v R' z',σ=[some (.ref p),some (.int n),v]∧m=h.book.length - z'.nr∧HouseIn C H' p h R' N dx po pa pk pc xs z'∧Chg R H H'∧Grow R H R'∧∀ a∈R,a∈R',
    ⟨_,none,R,z,rfl,rfl,I,.refl _ _,.refl _ _,fun _ h=>h⟩,?_⟩
  rintro m σ H1 ⟨v,R1,z1,rfl,rfl,I1,c1,g1,sb1⟩
  have ob1:=I1.ob
  have bk1:=I1.bk
  have hxl:xs.length=h.book.length:=by rw [I1.bs.length,laa]
  have hbl:=I1.l1
  have hnr:=I1.l5
  walk_at "g"
  by_cases lt:z1.nr<h.book.length
  · rw [if_pos (by simp only [decide_eq_true_eq];show (z1.nr:Int)<(xs.length:Int);omega)]
    refine ⟨fun σ' H'=>∃ m',m'<h.book.length - z1.nr∧∃ v R' z',σ'=[some (.ref p),some (.int n),v]∧m'=h.book.length - z'.nr∧HouseIn C H' p h R' N dx po pa pk pc xs z'∧Chg R H H'∧Grow R H R'∧∀ a∈R,a∈R',fun σ' H' q=>q,?_⟩
    have hget:∃ l,h.book[z1.nr]?=some l:=⟨_,lad lt⟩
    obtain ⟨l,hl⟩:=hget
    obtain ⟨x,hx,rx⟩:=I1.bs.getD (i:=z1.nr) (d:=bZ l) (by rw [lae,hl];rfl)
    obtain ⟨t,ys,rfl,rt,rs⟩:=rx.tup_inv
    obtain ⟨y1,r1,rfl,h1,t1⟩:=rs.cons_inv
    obtain ⟨y2,r2,rfl,h2,t2⟩:=t1.cons_inv
    cases t2.nil_inv
    rw [h1.str_inv,h2.int_inv] at rt
    have htk:h.book.take (z1.nr+1)=h.book.take z1.nr++[l]:=bH hl
    walk_at "g"
    refine bp (b7 bk1) (cf hx) ?_
    have after:∀ (q:Addr) (H5:Hp) (R5:List Addr) (z5:Pg) (D:iW),z5.nr=z1.nr→D.nx=(fun σ' H'=>∃ m',m'<h.book.length - z1.nr∧∃ v R' z',σ'=[some (.ref p),some (.int n),v]∧m'=h.book.length - z'.nr∧HouseIn C H' p h R' N dx po pa pk pc xs z'∧Chg R H H'∧Grow R H R'∧∀ a∈R,a∈R')→
        HouseI0 C H5 p h R5 N dx po pa pk pc xs z5→z5.pvs.length≤z1.nr+1→Chg R H H5→Grow R H R5→(∀ a∈R,a∈R5)→bq z5.pvs (Sum.inl l.2:aN)=some (.ref q)→Rd H5 t (.tup [.str l.1,.int l.2])→
        AC K "list" (.ref q) H5∧(af (ae 2) al) [some (.ref p),some (.int n),some (.ref t)] H5 (fun ys H6=>da (.ref q) ys H6 fun _ H7=>qi K (ae 0) (tC (.int 1)) z3 "lines_read" D [some (.ref p),some (.int n),some (.ref t)] H7):=by
      intro q H5 R5 z5 D hnr5 hD I5 hl5 c5 g5 sb5 hv rt5
      have P5:=I5.pt
      rw [hnr5] at P5
      obtain ⟨q',ws,eq,gq,rq,mq,no,na,nk⟩:=P5.yes _ _ hv
      cases eq
      refine ⟨.inl ⟨rfl,_,b7 gq⟩,?_⟩
      have hwl:ws.length≤h.book.length:=by
        rw [rq.length,laa]
        exact las (gz _ _) (by rw [lax];omega)
      walk_at "g"
      refine dc gq (bg (by omega)) ?_
      have c6:Chg R5 H5 (upd H5 q (.lst (ws++[.ref t]))):=.set (by rw [gq];exact True.intro) mq
      have kp:∀ a o,a≠q→H5 a=some o→upd H5 q (.lst (ws++[.ref t])) a=some o:=fun a o e z=>bo e z
      have nq:∀ {a:Addr} {o:HO},H5 a=some o→o≠.lst ws→a≠q:=fun z1 z2=>dJ z1 gq z2
      have npq:p≠q:=nq I5.ob (by intro z;cases z)
      have ob6:=kp _ _ npq I5.ob
      have gq6:upd H5 q (.lst (ws++[.ref t])) q=some (.lst (ws++[.ref t])):=ax
      generalize upd H5 q (.lst (ws++[.ref t]))=H6 at *
      refine ⟨_,rfl,p,C,dx,_,_,rfl,ob6,cl,f8,by with_unfolding_all rfl,_,_,rfl,rfl,dx,_,ob6,(by show 8<1000;decide),?_⟩
      rw [hnr5,(by omega:((z1.nr:Int)+1)=((z1.nr+1:Nat):Int)),Af,hD]
      have c7:Chg R5 H6 (upd H6 p (.ins C dx (fu h.num po pa pk h.up pc z5.pp (z1.nr+1)))):=.set (by rw [ob6];exact True.intro) I5.m1
      have c57:=c6.trans c7
      have kq:∀ a o,a≠q→a≠p→H5 a=some o→upd H6 p (.ins C dx (fu h.num po pa pk h.up pc z5.pp (z1.nr+1))) a=some o:=fun a o e e' z=>bo e' (kp _ _ e z)
      have np:∀ {a:Addr} {o:HO},H5 a=some o→o≠.ins C dx (fu h.num po pa pk h.up pc z5.pp z5.nr)→a≠p:=fun z1 z2=>dJ z1 I5.ob z2
      have gq7:upd H6 p (.ins C dx (fu h.num po pa pk h.up pc z5.pp (z1.nr+1))) q=some (.lst (ws++[.ref t])):=bo npq.symm gq6
      have tr7:∀ a∈R5,∃ o,upd H6 p (.ins C dx (fu h.num po pa pk h.up pc z5.pp (z1.nr+1))) a=some o:=fq fun a ha=>by
        by_cases e:a=q
        · subst e;exact ⟨_,gq6⟩
        · obtain ⟨o,eo⟩:=I5.trk a ha;exact ⟨o,kp _ _ e eo⟩
      have rt7:Rd (upd H6 p (.ins C dx (fu h.num po pa pk h.up pc z5.pp (z1.nr+1)))) t (.tup [.str l.1,.int l.2]):=by
        rcases rt5 with e | ⟨o,e⟩
        · exact .inl (c57.tups _ _ e)
        · exact .inr ⟨o,c57.frzs _ _ _ e⟩
      refine ⟨h.book.length - (z1.nr+1),by omega,_,R5,{ z5 with nr:=z1.nr+1 },rfl,rfl,?_,c5.grow g5 c57,g5,sb5⟩
      exact { ob:=ax,ot:=kq _ _ no.symm (np I5.ot (by intro z;cases z)) I5.ot,ag:=kq _ _ na.symm (np I5.ag (by intro z;cases z)) I5.ag,bk:=kq _ _ nk.symm (np I5.bk (by intro z;cases z)) I5.bk,
              bs:=bG I5.bs c57,cn:=kq _ _ (nq I5.cn (by intro z;cases z)) (np I5.cn (by intro z;cases z)) I5.cn,pg:=kq _ _ (nq I5.pg (by intro z;cases z)) (np I5.pg (by intro z;cases z)) I5.pg,
              ct:=⟨I5.ct.no,fun m v hm=>(by obtain ⟨q2,e2,h2,h3⟩:=I5.ct.yes m v hm;exact ⟨q2,e2,kq _ _ (nq h2 (by intro z;cases z)) (np h2 (by intro z;cases z)) h2,h3⟩),I5.ct.inj⟩,
              pt:=(by
                show PagAt _ z5.pvs (h.book.take (z1.nr+1)) _ _ _ _
                rw [htk]
                refine ⟨fun m hm=>?_,fun m v hm=>?_,P5.inj⟩
                · rw [nY,if_neg (by rintro rfl;rw [hv] at hm;cases hm)]
                  exact P5.no m hm
                · rw [nY]
                  by_cases e:l.2=m
                  · subst e
                    rw [hv] at hm
                    cases hm
                    rw [if_pos rfl,lai]
                    exact ⟨q,_,rfl,gq7,(bG rq c57).snoc (.tup rt7 (.cons (.str _) (.cons (.int _) .nil))),mq,no,na,nk⟩
                  · rw [if_neg e]
                    obtain ⟨q2,w2,e2,h2,h3,h4,h5⟩:=P5.yes m v hm
                    subst e2
                    exact ⟨q2,w2,rfl,kq _ _ (by rintro rfl;exact e (P5.inj _ _ _ hv hm)) (np h2 (by intro z;cases z)) h2,bG h3 c57,h4,h5⟩),
              n1:=I5.n1,n2:=I5.n2,n3:=I5.n3,m1:=I5.m1,m2:=I5.m2,m3:=I5.m3,m4:=I5.m4,m5:=I5.m5,m6:=I5.m6,trk:=tr7,l1:=I5.l1,l2:=I5.l2,l3:=I5.l3,l5:=lt,okb:=I5.okb,l4:=hl5 }
    have pg1:=I1.pg
    have n1l:H1=H1:=rfl
    walk_at "g"
    walk_at "w"
    rename_i p1 hp1 H2 s2 g2
    have I2:=I1.same s2
    refine ⟨z1.pvs,Sum.inl l.2,I2.pg,rfl,bg (by have:=I2.l4;omega),fun v hv=>?_,fun hn=>?_⟩
    · obtain ⟨q,ws,rfl,_⟩:=I2.pt.yes _ _ hv
      exact after q H2 R1 z1 _ rfl rfl I2.toHouseI0 (Nat.le_succ_of_le I2.l4) (c1.trans (.of_same s2)) g1 sb1 hv (rt.same s2)
    · have hval:∀ m:Int,bq (cr z1.pvs (Sum.inl l.2:aN) (V.ref p1)) (Sum.inl m:aN)=if m=l.2 then some (.ref p1) else bq z1.pvs (Sum.inl m:aN):=fun m=>by
        rw [jr]
        by_cases e:m=l.2
        · subst e;simp
        · rw [if_neg e,if_neg (by intro y;exact e (Sum.inl.inj y))]
      have c3:Chg R1 H2 (upd H2 z1.pp (.dK (cr z1.pvs (Sum.inl l.2:aN) (V.ref p1)))):=.set (by rw [I2.pg];exact True.intro) I2.m6
      have kp:∀ a o,a≠z1.pp→H2 a=some o→upd H2 z1.pp (.dK (cr z1.pvs (Sum.inl l.2:aN) (V.ref p1))) a=some o:=fun a o e z=>bo e z
      have nq:∀ {a:Addr} {o:HO},H2 a=some o→o≠.dK z1.pvs→a≠z1.pp:=fun z1 z2=>dJ z1 I2.pg z2
      have gr:Grow R H (p1::R1):=fun a ha=>by
        rcases List.mem_cons.mp ha with rfl | y
        · refine .inr ?_
          cases e:H a with
          | none=>rfl
          | some o=>
            by_cases m:a∈R
            · obtain ⟨o',e'⟩:=I1.trk a (sb1 a m)
              rw [hp1] at e';cases e'
            · rw [c1.keep a o e m] at hp1;cases hp1
        · exact g1 a y
      refine after p1 _ (p1::R1) { z1 with pvs:=cr z1.pvs (Sum.inl l.2:aN) (V.ref p1) } _ rfl rfl ?_ (las (eF _ _ _) (Nat.succ_le_succ I2.l4)) ((c1.trans (.of_same s2)).grow g1 c3) gr (fun a ha=>lac _ (sb1 a ha)) (by rw [hval,if_pos rfl]) ?_
      · exact { ob:=kp _ _ (nq I2.ob (by intro z;cases z)) I2.ob,ot:=kp _ _ (nq I2.ot (by intro z;cases z)) I2.ot,ag:=kp _ _ (nq I2.ag (by intro z;cases z)) I2.ag,bk:=kp _ _ (nq I2.bk (by intro z;cases z)) I2.bk,
                bs:=bG I2.bs c3,cn:=kp _ _ I2.n3 I2.cn,pg:=ax,
                ct:=⟨I2.ct.no,fun m v hm=>(by obtain ⟨q2,e2,h2,h3,h4,h5⟩:=I2.ct.yes m v hm;exact ⟨q2,e2,kp _ _ h5 h2,lac _ h3,h4,h5⟩),I2.ct.inj⟩,
                pt:=⟨fun m hm=>(by
                        rw [hval] at hm
                        by_cases e:m=l.2
                        · rw [if_pos e] at hm;cases hm
                        · rw [if_neg e] at hm;exact I2.pt.no m hm),
                      fun m v hm=>(by
                        rw [hval] at hm
                        by_cases e:m=l.2
                        · rw [if_pos e] at hm
                          cases hm
                          subst e
                          refine ⟨p1,[],rfl,kp _ _ (nq g2 (by intro z;cases z)) g2,?_,by simp,?_,?_,?_⟩
                          · show Reps _ _ _ ((df (h.book.take z1.nr) l.2).map bZ)
                            rw [I2.pt.no _ hn];exact .nil
                          · exact (ca hp1 I1.ot).symm
                          · exact (ca hp1 I1.ag).symm
                          · exact (ca hp1 I1.bk).symm
                        · rw [if_neg e] at hm
                          obtain ⟨q2,w2,e2,h2,h3,h4,h5⟩:=I2.pt.yes m v hm
                          exact ⟨q2,w2,e2,kp _ _ (nq h2 (by intro z;cases z)) h2,bG h3 c3,lac _ h4,h5⟩),
                      fun m m2 q h1 h2=>(by
                        rw [hval] at h1 h2
                        have fresh:∀ r,bq z1.pvs (Sum.inl r:aN)=some (.ref p1)→False:=fun r hr=>by
                          obtain ⟨q2,w2,e2,h3,_⟩:=I1.pt.yes r _ hr
                          cases e2
                          rw [hp1] at h3
                          cases h3
                        by_cases e1:m=l.2
                        · by_cases e2:m2=l.2
                          · rw [e1,e2]
                          · rw [if_pos e1] at h1;rw [if_neg e2] at h2
                            cases h1
                            exact (fresh _ h2).elim
                        · by_cases e2:m2=l.2
                          · rw [if_neg e1] at h1;rw [if_pos e2] at h2
                            cases h2
                            exact (fresh _ h1).elim
                          · rw [if_neg e1] at h1;rw [if_neg e2] at h2
                            exact I2.pt.inj m m2 q h1 h2)⟩,
                n1:=I2.n1,n2:=I2.n2,n3:=I2.n3,m1:=lac _ I2.m1,m2:=lac _ I2.m2,m3:=lac _ I2.m3,m4:=lac _ I2.m4,m5:=lac _ I2.m5,m6:=lac _ I2.m6,
                trk:=fq fun a ha=>(by
                  rcases List.mem_cons.mp ha with rfl | y
                  · exact ⟨_,g2⟩
                  · exact I2.trk a y),
                l1:=I2.l1,l2:=I2.l2,l3:=I2.l3,l5:=I2.l5,okb:=I2.okb }
      · rcases rt.same s2 with e | ⟨o,e⟩
        · exact .inl (c3.tups _ _ e)
        · exact .inr ⟨o,c3.frzs _ _ _ e⟩
  · rw [if_neg (by simp only [decide_eq_true_eq];show ¬ (z1.nr:Int)<(xs.length:Int);omega)]
    have pg1:=I1.pg
    walk_at "A"
    rename_i p1 hp1 H2 s2 g2
    have I2:=I1.same s2
    have m2:Move C p H R H2 h R1 N:=⟨⟨_,_,_,_,_,_,_,I2⟩,c1.trans (.of_same s2),g1,sb1⟩
    have hall:h.book.take z1.nr=h.book:=List.take_of_length_le (by omega)
    have P2:=I2.pt
    rw [hall] at P2
    cases hv:bq z1.pvs (Sum.inl n:aN) with
    | none=>exact k p1 _ _ m2 (by rw [P2.no _ hv];exact .lst (.inl g2) (by simp) .nil)
    | some v=>
      obtain ⟨q,ws,rfl,gq,rq,_⟩:=P2.yes _ _ hv
      exact k q _ _ m2 (.lst (.inl gq) (by simp) rq)
def bT(C:Addr):Sp:=fun vs H Q _=>∃ p n h R N,vs=[.ref p,.int n]∧HouseAt C H p h R N∧N≤900000∧∀ H' R',Move C p H R H' h R' N→Q (gi (aJ h.book n)) H'
theorem GV(T:bI K C)(h:bT C vs H Q E):wF K cR (cg C) C { nx:=fun _ H'=>Q .non H',rt:=Q } (start ["self","bargain"] vs) H:=by
 obtain ⟨p,n,h,R,N,rfl,I,hN,k⟩:=h
 obtain ⟨dx,po,pa,pk,pc,xs,kvs,I0⟩:=id I
 have ob:=I0.ob
 have hl1:=I0.l1
 unfold wF
 walk_at "g"
 refine ⟨p,n,h,R,N,rfl,I,hN,fun q H1 R1 m1 r1=>?_⟩
 walk_at "g"
 refine ⟨q,df h.book n,n,rfl,r1,las (gz _ _) (by omega),fun H2 s2=>?_⟩
 rw [oU]
 exact k _ _ (m1.trans (m1.at_.move s2))
def ii(C:Addr):Sp:=fun vs H Q _=>∃ p g n h R N,vs=[.ref p,.int g,.int n]∧HouseAt C H p h R N∧N≤800000∧Ret C p H R (N+1) (h.gotAsk g n) Q
theorem Ha(T:bI K C)(h:ii C vs H Q E):xk K cM (cg C) (bM C) (bT C) (cz C) C { nx:=fun _ H'=>Q .non H',rt:=Q } (start ["self","giver","bargain"] vs) H:=by
 obtain ⟨p,g,n,h,R,N,rfl,I,hN,k⟩:=h
 obtain ⟨cl,f1,f2,f3,f4,f5,f6,f7,f8⟩:=T
 obtain ⟨dx,po,pa,pk,pc,xs,kvs,I0⟩:=id I
 have ob:=I0.ob
 have hl1:=I0.l1
 unfold xk
 refine dI (fun σ' H'=>σ'=[some (.ref p),some (.int g),some (.int n)]∧∃ R',Move C p H R H' (h.asked n) R' (N+1)) ?_ ?_
 ·walk_at "g"
  refine ⟨p,n,h,R,N,rfl,I,by omega,fun q H0 R0 m0 r0=>?_⟩
  walk_at "g"
  refine ⟨q,df h.book n,n,rfl,r0,las (gz _ _) (by omega),fun H1 s1=>?_⟩
  rw [gk]
  have m1:=m0.trans (m0.at_.move s1)
  obtain ⟨dx1,po1,pa1,pk1,pc1,xs1,kvs1,I1⟩:=id m1.at_
  have ob1:=I1.ob
  have ag1:=I1.ag
  walk_at "g"
  unfold HS.asked
  by_cases e:aq h.book n=[]
  ·rw [if_pos (by simp [e]),if_pos e]
   walk_at "g"
   show if (if false=true then _ else d9 (.int n) _)=true then _ else _
   rw [if_neg (by decide:¬ (false=true)),pO]
   by_cases e2:n∈h.agn
   ·rw [if_pos (decide_eq_true e2),if_pos e2]
    walk_at "g"
    exact ⟨p,"no",n,h,R0,N,rfl,m1.at_,by omega,jm (by simp),fun H2 m=>⟨rfl,_,m1.trans m⟩⟩
   ·rw [if_neg (by simpa using e2),if_neg e2]
    walk_at "g"
    exact ⟨p,"yes",n,h,R0,N,rfl,m1.at_,by omega,jm (by simp),fun H2 m=>⟨rfl,_,m1.trans m⟩⟩
  ·rw [if_neg (by simp [e]),if_neg e]
   walk_at "g"
   exact ⟨rfl,_,m1.more (by omega)⟩
 rintro σ' H1 ⟨rfl,R1,m⟩
 obtain ⟨dx1,po1,pa1,pk1,pc1,xs1,kvs1,I1⟩:=id m.at_
 have ob1:=I1.ob
 walk_at "g"
 refine ⟨p,n,h.asked n,R1,N+1,rfl,m.at_,by omega,fun H2 R2 m2=>?_⟩
 obtain ⟨dx2,po2,pa2,pk2,pc2,xs2,kvs2,I2⟩:=id m2.at_
 have ob2:=I2.ob
 walk_at "g"
 refine o6 (qT _ _) ?_
 walk_at "g"
 rw [vd]
 have hnum:(h.asked n).num=h.num:=by unfold HS.asked HS.wr;split <;> rfl
 have kk:=(k.after m).after m2
 unfold HS.gotAsk at kk
 by_cases e:aJ (h.asked n).book n=some ("off":Str)
 ·rw [if_pos (decide_eq_true e)]
  rw [if_pos e] at kk
  walk_at "g"
  refine ⟨p,g,n,"no",h.asked n,R2,N+1,rfl,m2.at_,fun v H3 s3 r f=>?_⟩
  rw [hnum] at r
  exact kk.done m2.at_ (lat _) s3 r f
 ·rw [if_neg (by simpa using e)]
  rw [if_neg e] at kk
  walk_at "g"
  refine ⟨p,g,n,"yes",h.asked n,R2,N+1,rfl,m2.at_,fun v H3 s3 r f=>?_⟩
  rw [hnum] at r
  exact kk.done m2.at_ (lat _) s3 r f
def ie(C:Addr):Sp:=fun vs H Q _=>∃ p n w h R N,vs=[.ref p,.int n,.str w]∧HouseAt C H p h R N∧N≤800000∧PyData.strOk w=true∧Ret C p H R (N+1) (h.gotDecision n w) Q
theorem Fj(T:bI K C)(h:ie C vs H Q E):wz K (bT C) (bM C) C { nx:=fun _ H'=>Q .non H',rt:=Q } (start ["self","bargain","word"] vs) H:=by
 obtain ⟨p,n,w,h,R,N,rfl,I,hN,okw,k⟩:=h
 obtain ⟨cl,f1,f2,f3,f4,f5,f6,f7,f8⟩:=T
 obtain ⟨dx,po,pa,pk,pc,xs,kvs,I0⟩:=id I
 have ob:=I0.ob
 unfold wz
 refine dI (fun σ' H'=>∃ R',Move C p H R H' (h.gotDecision n w).1 R' (N+1)) ?_ ?_
 ·walk_at "g"
  refine ⟨p,n,h,R,N,rfl,I,by omega,fun H1 R1 m1=>?_⟩
  obtain ⟨dx1,po1,pa1,pk1,pc1,xs1,kvs1,I1⟩:=id m1.at_
  have ob1:=I1.ob
  walk_at "g"
  rw [oI]
  unfold HS.gotDecision
  by_cases e:aJ h.book n=none
  ·rw [if_pos (decide_eq_true e),if_pos e]
   walk_at "g"
   exact ⟨p,w,n,h,R1,N,rfl,m1.at_,by omega,okw,fun H2 m=>⟨_,m1.trans m⟩⟩
  ·rw [if_neg (by simpa using e),if_neg e]
   walk_at "g"
   exact ⟨_,m1.more (by omega)⟩
 rintro σ' H1 ⟨R1,m⟩
 walk_at "A"
 rename_i l hl H2 s2 g2
 exact (k.after m).nil m.at_ (lat _) s2 hl g2
def iH(C:Addr):Sp:=fun vs H Q _=>∃ p g n h R N,vs=[.ref p,.int g,.int n]∧HouseAt C H p h R N∧N≤800000∧h.oth.length≤900000∧Ret C p H R (N+1) (h.gotQuery g n) Q
theorem He(T:bI K C)(h:iH C vs H Q E) :
  xI K dU cM (cg C) (bT C) (cz C) (cD C) (bM C) C { nx:=fun _ H'=>Q .non H',rt:=Q } (start ["self","giver","bargain","decided"] vs) H:=by
 obtain ⟨p,g,n,h,R,N,rfl,I,hN,hol,k⟩:=h
 obtain ⟨cl,f1,f2,f3,f4,f5,f6,f7,f8⟩:=T
 obtain ⟨dx,po,pa,pk,pc,xs,kvs,I0⟩:=id I
 have ob:=I0.ob
 have hl1:h.book.length≤1000000:=las I0.l1 (by omega)
 have hlp:(df h.book n).length≤1000000:=las (gz _ _) hl1
 unfold xI
 unfold HS.gotQuery at k
 walk_at "g"
 refine ⟨p,n,h,R,N,rfl,I,by omega,fun q H0 R0 m0 r0=>?_⟩
 walk_at "g"
 refine ⟨q,df h.book n,n,rfl,r0,hlp,fun H1 s1=>?_⟩
 rw [mG]
 have m1:=m0.trans (m0.at_.move s1)
 obtain ⟨dx1,po1,pa1,pk1,pc1,xs1,kvs1,I1⟩:=id m1.at_
 have ob1:=I1.ob
 have k1:=k.after m1
 walk_at "g"
 by_cases e:dk h.book n=true
 ·rw [if_pos e]
  rw [if_pos e] at k1
  walk_at "A"
  rename_i l hl H2 s2 g2
  exact k1.nil m1.at_ (by omega) s2 hl g2
 rw [if_neg e]
 rw [if_neg e] at k1
 walk_at "g"
 refine ⟨p,n,h,R0,N,rfl,m1.at_,by omega,fun H2 R2 m2=>?_⟩
 obtain ⟨dx2,po2,pa2,pk2,pc2,xs2,kvs2,I2⟩:=id m2.at_
 have ob2:=I2.ob
 have k2:=k1.after m2
 have J2:=m2.at_
 cases ed:aJ h.book n with
 | some d=>
  rw [ed] at k2
  walk_at "g"
  rw [if_pos (by simp [gi])]
  walk_at "g"
  exact ⟨p,g,n,d,h,R2,N,rfl,J2,fun v H3 s3 r f=>k2.done J2 (by omega) s3 r f⟩
 | none=>
  rw [ed] at k2
  walk_at "g"
  rw [if_neg (by simp [gi])]
  walk_at "g"
  refine ⟨p,n,h,R2,N,rfl,J2,by omega,fun q3 H3 R3 m3 r3=>?_⟩
  walk_at "g"
  refine ⟨q3,df h.book n,n,rfl,r3,hlp,fun H4 s4=>?_⟩
  rw [gk]
  have m4:=m3.trans (m3.at_.move s4)
  obtain ⟨dx4,po4,pa4,pk4,pc4,xs4,kvs4,I4⟩:=id m4.at_
  have ob4:=I4.ob
  have k4:=k2.after m4
  have J4:=m4.at_
  walk_at "g"
  by_cases e3:aq h.book n=[]
  ·rw [if_neg (by simp [e3])]
   simp only [if_pos e3] at k4
   walk_at "g"
   refine ⟨p,"no",n,h,R3,N,rfl,J4,by omega,jm (by simp),fun H5 m=>?_⟩
   obtain ⟨dx5,po5,pa5,pk5,pc5,xs5,kvs5,I5⟩:=id m.at_
   have ob5:=I5.ob
   walk_at "g"
   exact ⟨p,g,n,"off",h.wr "no" n,R3,N+1,rfl,m.at_,fun v H5 s5 r f=>(k4.after m).done m.at_ (lat _) s5 r f⟩
  ·rw [if_pos (by simp [e3])]
   simp only [if_neg e3] at k4
   walk_at "g"
   exact ⟨p,n,"off",h,R3,N,rfl,J4,hN,hol,jm (by simp),k4⟩
theorem Ch(g:Int)(gs:List Int):cr (gs.map gv) (Sum.inl g:aN) (V.bl true)=(cZ g gs).map gv:=by
 unfold cr cZ
 have e:((gs.map gv).any fun kv=>decide (kv.1=(Sum.inl g:aN)))=decide (g∈gs):=by
  rw [List.any_map]
  induction gs with
  | nil=>rfl
  | cons x r ih=>
   rw [List.any_cons,ih]
   show (decide ((Sum.inl x:aN)=Sum.inl g)||decide (g∈r))=decide (g∈x::r)
   by_cases z:g=x
   ·subst z;simp
   ·have z':¬ x=g:=fun y=>z y.symm
    simp [z,z']
 rw [e]
 by_cases m:g∈gs
 ·rw [if_pos (decide_eq_true m),if_pos m,List.map_map]
  refine List.map_congr_left fun x _=>?_
  show (if (Sum.inl x:aN)=Sum.inl g then ((Sum.inl x:aN),V.bl true) else (Sum.inl x,V.bl true))=_
  split <;> rfl
 ·rw [if_neg (by simpa using m),if_neg m,lai];rfl
theorem Ah(g:Int)(gs:List Int):(cZ g gs).length≤gs.length+1:=by unfold cZ;split <;> simp
def iJ(C:Addr):Sp:=fun vs H Q _=>∃ p g n w h R N,vs=[.ref p,.int g,.int n,.str w]∧HouseAt C H p h R N∧N≤790000∧h.oth.length≤900000∧Ret C p H R (N+3) (h.gotVote g n w) Q
theorem Fw(T:bI K C)(h:iJ C vs H Q E) :
    wO K (bT C) (cz C) (cD C) C { nx:=fun _ H'=>Q .non H',rt:=Q } (start ["self","giver","bargain","word","decided","givers"] vs) H:=by
  obtain ⟨p,g,n,w,h,R,N,rfl,I,hN,hol,k⟩:=h
  obtain ⟨cl,f1,f2,f3,f4,f5,f6,f7,f8⟩:=T
  obtain ⟨dx0,po0,pa0,pk0,pc0,xs0,kvs0,I0⟩:=id I
  have ob:=I0.ob
  have hl1:h.book.length≤1000000:=las I0.l1 (by omega)
  unfold wO
  unfold HS.gotVote at k
  walk_at "g"
  refine ⟨p,n,h,R,N,rfl,I,by omega,fun H1 R1 m1=>?_⟩
  obtain ⟨dx,po,pa,pk,pc,xs,kvs,I1⟩:=id m1.at_
  have J1:=m1.at_
  have ob1:=I1.ob
  have k1:=k.after m1
  cases ed:aJ h.book n with
  | some d=>
    rw [ed] at k1
    walk_at "g"
    rw [if_pos (by simp [gi])]
    walk_at "g"
    by_cases e:w="yes"
    · rw [if_pos (by simp [e])]
      simp only [if_pos e] at k1
      walk_at "g"
      exact ⟨p,g,n,d,h,R1,N,rfl,J1,fun v H3 s3 r f=>k1.done J1 (by omega) s3 r f⟩
    · rw [if_neg (by simp [e])]
      simp only [if_neg e] at k1
      walk_at "A"
      rename_i l hl H2 s2 g2
      exact k1.nil J1 (by omega) s2 hl g2
  | none=>
    rw [ed] at k1
    walk_at "g"
    rw [if_neg (by simp [gi])]
    walk_at "g"
    by_cases e:w="no"
    · rw [if_pos (by simp [e])]
      simp only [if_pos e] at k1
      walk_at "g"
      exact ⟨p,n,"off",h,R1,N,rfl,J1,by omega,hol,jm (by simp),fun v H' R' m=>k1 v H' R' (m.more (by omega))⟩
    rw [if_neg (by simp [e])]
    simp only [if_neg e] at k1
    have after:∀ (q:Addr) (H5:Hp) (R5:List Addr) (kvs5:Pg) (D:iW),D.rt=Q→HouseIn C H5 p h R5 (N+1) dx po pa pk pc xs kvs5→Chg R1 H1 H5→Grow R1 H1 R5→(∀ a∈R1,a∈R5)→bq kvs5.kvs (Sum.inl n:aN)=some (.ref q)→
        aw (jx (ae 5) (ae 1) (tC (.bl true)))
          (aw (aV (aT (av jQ (b5 wo (af (ae 5) al)) (b5 (ck K) (af (bQ K (ae 0) "others") al)))) (aD (bz al)) aL)
            (aD (bj C "decide" (cD C) [] E0 (ae 0) (af (ae 2) (af (tC (.str "bound")) al))))) D
          [some (.ref p),some (.int g),some (.int n),some (.str w),some (gi none),some (.ref q)] H5:=by
      intro q H5 R5 kvs5 D hrt I5 c5 g5 sb5 hv5
      obtain ⟨q',eq,gq,hqR,hqc,hqp⟩:=I5.ct.yes _ _ hv5
      cases eq
      walk_at "g"
      refine uH gq (bg (by rw [laa];have:=I5.l3 n;omega)) ?_
      rw [Ch]
      have nq:∀ {a:Addr} {o:HO},H5 a=some o→o≠.dK ((h.cnt n).map gv)→a≠q:=fun z1 z2=>dJ z1 gq z2
      have kp:∀ a o,a≠q→H5 a=some o→upd H5 q (.dK ((cZ g (h.cnt n)).map gv)) a=some o:=fun a o e z=>bo e z
      have c6:Chg R5 H5 (upd H5 q (.dK ((cZ g (h.cnt n)).map gv))):=.set (by rw [gq];exact True.intro) hqR
      have I6:HouseIn C (upd H5 q (.dK ((cZ g (h.cnt n)).map gv))) p (h.count g n) R5 (N+2) dx po pa pk pc xs kvs5:=
        { ob:=kp _ _ (nq I5.ob (by intro z;cases z)) I5.ob,ot:=kp _ _ (nq I5.ot (by intro z;cases z)) I5.ot,ag:=kp _ _ (nq I5.ag (by intro z;cases z)) I5.ag,bk:=kp _ _ (nq I5.bk (by intro z;cases z)) I5.bk,
          bs:=bG I5.bs c6,cn:=kp _ _ hqc.symm I5.cn,pg:=kp _ _ hqp.symm I5.pg,
          pt:=I5.pt.keep (fun _ h=>h) (fun q2 w2 h2 _ _ _ _=>kp _ _ (nq h2 (by intro z;cases z)) h2) (fun b w2 r=>bG r c6),n3:=I5.n3,m6:=I5.m6,l4:=I5.l4,l5:=I5.l5,
          ct:=⟨fun m hm=>(by
                  have hne:¬ m=n:=by rintro rfl;rw [hv5] at hm;cases hm
                  show (if m=n then _ else h.cnt m)=[]
                  rw [if_neg hne];exact I5.ct.no m hm),
                fun m v hm=>(by
                  obtain ⟨q2,e2,h2,h3,h4⟩:=I5.ct.yes m v hm
                  refine ⟨q2,e2,?_,h3,h4⟩
                  show _=some (HO.dK ((if m=n then cZ g (h.cnt n) else h.cnt m).map gv))
                  by_cases z:m=n
                  · subst z
                    rw [hv5] at hm
                    cases hm
                    cases e2
                    rw [if_pos rfl,ax]
                  · rw [if_neg z]
                    exact kp _ _ (by rintro rfl;rw [e2] at hm;exact z (I5.ct.inj _ _ _ hm hv5)) h2),I5.ct.inj⟩,
          n1:=I5.n1,n2:=I5.n2,m1:=I5.m1,m2:=I5.m2,m3:=I5.m3,m4:=I5.m4,m5:=I5.m5,trk:=fq I5.trk,l1:=Nat.le_succ_of_le I5.l1,l2:=Nat.le_succ_of_le I5.l2,
          l3:=fun m=>(by
            show (if m=n then cZ g (h.cnt n) else h.cnt m).length≤N+2
            have h1:=I5.l3 m
            have h2:=I5.l3 n
            have h3:=Ah g (h.cnt n)
            split <;> omega),
          okb:=I5.okb }
      have m6:Move C p H1 R1 (upd H5 q (.dK ((cZ g (h.cnt n)).map gv))) (h.count g n) R5 (N+2):=⟨⟨_,_,_,_,_,_,_,I6⟩,c5.grow g5 c6,g5,sb5⟩
      have gq6:upd H5 q (.dK ((cZ g (h.cnt n)).map gv)) q=some (.dK ((cZ g (h.cnt n)).map gv)):=ax
      have ob6:=I6.ob
      have ot6:=I6.ot
      have k6:=k1.after m6
      generalize upd H5 q (.dK ((cZ g (h.cnt n)).map gv))=H6 at *
      walk_at "g"
      by_cases e2:(cZ g (h.cnt n)).length<h.oth.length
      · rw [if_pos (by simp only [List.length_map,decide_eq_true_eq];show ((cZ g (h.cnt n)).length:Int)<(h.oth.length:Int);omega)]
        simp only [if_pos e2] at k6
        walk_at "A"
        rename_i l hl H7 s7 g7
        rw [hrt]
        exact k6.nil m6.at_ (by omega) s7 hl g7
      · rw [if_neg (by simp only [List.length_map,decide_eq_true_eq];show ¬ ((cZ g (h.cnt n)).length:Int)<(h.oth.length:Int);omega)]
        simp only [if_neg e2] at k6
        walk_at "g"
        rw [hrt]
        exact ⟨p,n,"bound",h.count g n,R5,N+2,rfl,m6.at_,by omega,hol,jm (by simp),k6⟩
    have cn1:=I1.cn
    walk_at "g"
    walk_at "w"
    rename_i p1 hp1 H2 s2 g2
    have I2:=I1.same s2
    refine ⟨kvs.kvs,Sum.inl n,I2.cn,rfl,bg (by have:=I2.l2;omega),fun v hv=>?_,fun hn=>?_⟩
    · obtain ⟨q,rfl,_⟩:=I2.ct.yes _ _ hv
      walk_at "s"
      exact after q H2 R1 kvs _ rfl (I2.more (by omega)) (.of_same s2) (.refl _ _) (fun _ h=>h) hv
    · walk_at "s"
      have n1c:p1≠pc:=(ca hp1 cn1).symm
      have hval:∀ m:Int,bq (cr kvs.kvs (Sum.inl n:aN) (V.ref p1)) (Sum.inl m:aN)=if m=n then some (.ref p1) else bq kvs.kvs (Sum.inl m:aN):=fun m=>by
        rw [jr]
        by_cases z:m=n
        · subst z;simp
        · rw [if_neg z,if_neg (by intro y;exact z (Sum.inl.inj y))]
      have c3:Chg R1 H2 (upd H2 pc (.dK (cr kvs.kvs (Sum.inl n:aN) (V.ref p1)))):=.set (by rw [I2.cn];exact True.intro) I2.m5
      have kp:∀ a o,a≠pc→H2 a=some o→upd H2 pc (.dK (cr kvs.kvs (Sum.inl n:aN) (V.ref p1))) a=some o:=fun a o e z=>bo e z
      have nq:∀ {a:Addr} {o:HO},H2 a=some o→o≠.dK kvs.kvs→a≠pc:=fun z1 z2=>dJ z1 I2.cn z2
      refine after p1 _ (p1::R1) { kvs with kvs:=cr kvs.kvs (Sum.inl n:aN) (V.ref p1) } _ rfl ?_ ((Chg.of_same s2).trans c3) (fun a ha=>?_) (fun _ h=>lac _ h) (by rw [hval,if_pos rfl])
      · exact { ob:=kp _ _ (nq I2.ob (by intro z;cases z)) I2.ob,ot:=kp _ _ (nq I2.ot (by intro z;cases z)) I2.ot,ag:=kp _ _ (nq I2.ag (by intro z;cases z)) I2.ag,bk:=kp _ _ (nq I2.bk (by intro z;cases z)) I2.bk,
                bs:=bG I2.bs c3,cn:=ax,pg:=kp _ _ I2.n3.symm I2.pg,
                pt:=I2.pt.keep (fun _ h=>lac _ h) (fun q2 w2 h2 _ _ _ _=>kp _ _ (nq h2 (by intro z;cases z)) h2) (fun b w2 r=>bG r c3),n3:=I2.n3,m6:=lac _ I2.m6,l4:=I2.l4,l5:=I2.l5,
                ct:=⟨fun m hm=>(by
                        rw [hval] at hm
                        by_cases z:m=n
                        · rw [if_pos z] at hm;cases hm
                        · rw [if_neg z] at hm;exact I2.ct.no m hm),
                      fun m v hm=>(by
                        rw [hval] at hm
                        by_cases z:m=n
                        · rw [if_pos z] at hm
                          cases hm
                          subst z
                          exact ⟨p1,rfl,by rw [bB n1c,g2,I2.ct.no _ hn];rfl,by simp,n1c,(ca hp1 I1.pg).symm⟩
                        · rw [if_neg z] at hm
                          obtain ⟨q2,e2,h2,h3,h4⟩:=I2.ct.yes m v hm
                          exact ⟨q2,e2,kp _ _ h4.1 h2,by simp [h3],h4⟩),
                      fun m m2 q h1 h2=>(by
                        rw [hval] at h1 h2
                        have fresh:∀ r,bq kvs.kvs (Sum.inl r:aN)=some (.ref p1)→False:=fun r hr=>by
                          obtain ⟨q2,e2,h3,_⟩:=I1.ct.yes r _ hr
                          cases e2
                          rw [hp1] at h3
                          cases h3
                        by_cases e1:m=n
                        · by_cases e2:m2=n
                          · rw [e1,e2]
                          · rw [if_pos e1] at h1;rw [if_neg e2] at h2
                            cases h1
                            exact (fresh _ h2).elim
                        · by_cases e2:m2=n
                          · rw [if_neg e1] at h1;rw [if_pos e2] at h2
                            cases h2
                            exact (fresh _ h1).elim
                          · rw [if_neg e1] at h1;rw [if_neg e2] at h2
                            exact I2.ct.inj m m2 q h1 h2)⟩,
                n1:=I2.n1,n2:=I2.n2,m1:=by simp [I2.m1],m2:=by simp [I2.m2],m3:=by simp [I2.m3],m4:=by simp [I2.m4],m5:=by simp [I2.m5],
                trk:=fq fun a ha=>(by
                  rcases List.mem_cons.mp ha with rfl | z
                  · exact ⟨_,g2⟩
                  · exact I2.trk a z),
                l1:=Nat.le_succ_of_le I2.l1,l2:=las (eF _ _ _) (by have:=I2.l2;omega),l3:=fun m=>Nat.le_succ_of_le (I2.l3 m),okb:=I2.okb }
      · rcases List.mem_cons.mp ha with rfl | z
        · exact .inr hp1
        · exact .inl z
def g_(C:Addr):Sp:=fun vs H Q _=>∃ p t l h R N,vs=[.ref p,.ref t]∧HouseAt C H p h R N∧Rd H t (.tup [.int l.1,.int l.2.1,.int l.2.2.1,.str l.2.2.2])∧N≤790000∧h.oth.length≤900000∧PyData.strOk l.2.2.2=true∧Ret C p H R (N+3) (h.got l) Q
theorem yq(w:Str):d9 (.str w) [.str "yes",.str "no"]=decide (w="yes"∨w="no"):=by
 have:=ft w ["yes","no"]
 simp only [List.map_cons,List.map_nil] at this
 rw [this];simp [List.mem_cons]
theorem Ret.less{C p:Addr}{N M:Nat}{r:HS×List aC}(k:Ret C p H R N r Q)(h:M≤N):Ret C p H R M r Q:=fun v H' R' m=>k v H' R' (m.more h)
theorem Fz(T:bI K C)(h:g_ C vs H Q E) :
  v3 K (ii C) (iH C) (iJ C) (ie C) C { nx:=fun _ H'=>Q .non H',rt:=Q } (start ["self","letter","giver","bargain","word"] vs) H:=by
 obtain ⟨p,t,⟨g,to,n,w⟩,h,R,N,rfl,I,gt,hN,hol,okw,k⟩:=h
 obtain ⟨dx,po,pa,pk,pc,xs,kvs,I0⟩:=id I
 have ob:=I0.ob
 unfold v3
 unfold HS.got at k
 dsimp only at gt okw k
 walk_at "g"
 by_cases e1:w="ask"
 ·rw [if_pos (by simp [e1])]
  rw [if_pos e1] at k
  walk_at "g"
  exact ⟨p,g,n,h,R,N,rfl,I,by omega,k.less (by omega)⟩
 rw [if_neg (by simp [e1])]
 rw [if_neg e1] at k
 walk_at "g"
 by_cases e2:w="query"
 ·rw [if_pos (by simp [e2])]
  rw [if_pos e2] at k
  walk_at "g"
  exact ⟨p,g,n,h,R,N,rfl,I,by omega,hol,k.less (by omega)⟩
 rw [if_neg (by simp [e2])]
 rw [if_neg e2] at k
 walk_at "A"
 rename_i q hq H1 s1 g1
 show if (if false=true then _ else d9 (.str w) _)=true then _ else _
 rw [if_neg (by decide:¬ (false=true)),yq]
 have k1:=k.same I s1
 have ob1:=s1 _ _ ob
 by_cases e3:w="yes"∨w="no"
 ·rw [if_pos (decide_eq_true e3)]
  rw [if_pos e3] at k1
  walk_at "g"
  exact ⟨p,g,n,w,h,R,N,rfl,I.same s1,hN,hol,k1⟩
 ·rw [if_neg (by simpa using e3)]
  rw [if_neg e3] at k1
  walk_at "g"
  exact ⟨p,n,w,h,R,N,rfl,I.same s1,by omega,okw,k1.less (by omega)⟩
structure Made(C:Addr)(H:Hp)(p dx:Addr)(fs:List (Str×V))(H':Hp):Prop where
 ob:H' p=some (.ins C dx fs)
 chg:Chg [p] H H'
 free:∀ b,H' b=none→H b=none
theorem Made.same{p dx:Addr}{fs:List (Str×V)}{H' H2:Hp}(m:Made C H p dx fs H')(s:Same H' H2):Made C H p dx fs H2:=⟨s _ _ m.ob,m.chg.trans (.of_same s),fun b hb=>m.free b (s.free hb)⟩
theorem Made.put{p dx:Addr}{fs:List (Str×V)}{H':Hp}(m:Made C H p dx fs H')(gs:List (Str×V)):Made C H p dx gs (upd H' p (.ins C dx gs)):=
 ⟨ax,m.chg.trans (.set (by rw [m.ob];exact True.intro) (by simp)),fun b hb=>by
  by_cases e:b=p
  ·rw [e,ax] at hb;cases hb
  ·rw [bB e] at hb;exact m.free b hb⟩
theorem Made.keep{p dx:Addr}{fs gs:List (Str×V)}{H':Hp}(m:Made C H p dx fs H'){b:Addr}{o:HO}(e:H' b=some o)(n:o≠.ins C dx fs):upd H' p (.ins C dx gs) b=some o:=bo (dJ e m.ob n) e
def u6(pc pp:Addr)(fs:List (Str×V)):List (Str×V):=ci "lines_read" (.int 0) (ci "pages" (.ref pp) (ci "counted" (.ref pc) fs))
def d0(C:Addr):Sp:=fun vs H Q _=>∃ p dx fs,vs=[.ref p]∧H p=some (.ins C dx fs)∧fs.length<900∧
 ∀ pc pp H',H pc=none→H pp=none→pc≠pp→H' pc=some (.dK [])→H' pp=some (.dK [])→Made C H p dx (u6 pc pp fs) H'→Q .non H'
theorem Iu(T:bI K C)(h:d0 C vs H Q E):wn K { nx:=fun _ H'=>Q .non H',rt:=Q } (start ["self"] vs) H:=by
 obtain ⟨p,dx,fs,rfl,ob,hl,k⟩:=h
 unfold wn
 have M0:Made C H p dx fs H:=⟨ob,.refl _ _,fun _ h=>h⟩
 have l1:=ip "counted"
 have l2:=ip "pages"
 walk_at "g"
 walk_at "w"
 rename_i pc hpc H1 s1 g1
 have M1:=M0.same s1
 walk_at "g"
 refine ⟨p,C,dx,_,rfl,M1.ob,T.cl,T.f6,by omega,?_⟩
 have M2:=M1.put (ci "counted" (.ref pc) fs)
 have g2:=M1.keep (gs:=ci "counted" (.ref pc) fs) g1 (by intro z;cases z)
 generalize upd H1 p (.ins C dx (ci "counted" (.ref pc) fs))=H2 at *
 walk_at "g"
 walk_at "w"
 rename_i pp hpp H3 s3 g3
 have M3:=M2.same s3
 have g3c:=s3 _ _ g2
 have nn:pc≠pp:=ca hpp g2
 walk_at "g"
 refine ⟨p,C,dx,_,rfl,M3.ob,T.cl,T.f7,by have:=l1 (.ref pc) fs;omega,?_⟩
 have M4:=M3.put (ci "pages" (.ref pp) (ci "counted" (.ref pc) fs))
 have g4c:=M3.keep (gs:=ci "pages" (.ref pp) (ci "counted" (.ref pc) fs)) g3c (by intro z;cases z)
 have g4p:=M3.keep (gs:=ci "pages" (.ref pp) (ci "counted" (.ref pc) fs)) g3 (by intro z;cases z)
 generalize upd H3 p (.ins C dx (ci "pages" (.ref pp) (ci "counted" (.ref pc) fs)))=H4 at *
 walk_at "g"
 refine ⟨p,C,dx,_,rfl,M4.ob,T.cl,T.f8,by have h1:=l1 (.ref pc) fs;have h2:=l2 (.ref pp) (ci "counted" (.ref pc) fs);omega,?_⟩
 exact k pc pp _ hpc (M2.free _ hpp) nn (M4.keep (gs:=u6 pc pp fs) g4c (by intro z;cases z)) (M4.keep (gs:=u6 pc pp fs) g4p (by intro z;cases z)) (M4.put (u6 pc pp fs))
theorem qm(num:Int)(po pa pk:Addr)(u v:Bool)(pc pp:Addr)(nr:Nat):ci "awake" (.bl v) (fu num po pa pk u pc pp nr)=fu num po pa pk v pc pp nr:=by with_unfolding_all rfl
theorem Bd(num:Int)(po pa pk:Addr)(u:Bool)(pc pp:Addr)(nr:Nat)(qc qp:Addr):u6 qc qp (fu num po pa pk u pc pp nr)=fu num po pa pk u qc qp 0:=by with_unfolding_all rfl
theorem HouseIn.put{p:Addr}{dx po pa pk pc:Addr}{z:Pg}(I:HouseIn C H p h R N dx po pa pk pc xs z)(u:Bool) :
    HouseIn C (upd H p (.ins C dx (fu h.num po pa pk u pc z.pp z.nr))) p { h with up:=u } R N dx po pa pk pc xs z:=by
  have kp:∀ a o,a≠p→H a=some o→upd H p (.ins C dx (fu h.num po pa pk u pc z.pp z.nr)) a=some o:=fun a o e z=>bo e z
  have nq:∀ {a:Addr} {o:HO},H a=some o→o≠.ins C dx (fu h.num po pa pk h.up pc z.pp z.nr)→a≠p:=fun z1 z2=>dJ z1 I.ob z2
  have c:Chg R H (upd H p (.ins C dx (fu h.num po pa pk u pc z.pp z.nr))):=.set (by rw [I.ob];exact True.intro) I.m1
  exact { ob:=ax,ot:=kp _ _ (nq I.ot (by intro z;cases z)) I.ot,ag:=kp _ _ (nq I.ag (by intro z;cases z)) I.ag,bk:=kp _ _ (nq I.bk (by intro z;cases z)) I.bk,bs:=bG I.bs c,cn:=kp _ _ (nq I.cn (by intro z;cases z)) I.cn,pg:=kp _ _ (nq I.pg (by intro z;cases z)) I.pg,
          ct:=⟨I.ct.no,fun n v hv=>(by obtain ⟨q,e,h1,h2⟩:=I.ct.yes n v hv;exact ⟨q,e,kp _ _ (nq h1 (by intro z;cases z)) h1,h2⟩),I.ct.inj⟩,
          pt:=I.pt.keep (fun _ h=>h) (fun q2 w2 h2 _ _ _ _=>kp _ _ (nq h2 (by intro z;cases z)) h2) (fun b w2 r=>bG r c),
          n1:=I.n1,n2:=I.n2,n3:=I.n3,m1:=I.m1,m2:=I.m2,m3:=I.m3,m4:=I.m4,m5:=I.m5,m6:=I.m6,trk:=fq I.trk,l1:=I.l1,l2:=I.l2,l3:=I.l3,l4:=I.l4,l5:=I.l5,okb:=I.okb }
def d5(C:Addr):Sp:=fun vs H Q _=>∃ p h R N,vs=[.ref p]∧HouseAt C H p h R N∧∀ H' R',Move C p H R H' h.stop R' N→Q .non H'
theorem Gf(T:bI K C)(h:d5 C vs H Q E):xq K (d0 C) C { nx:=fun _ H'=>Q .non H',rt:=Q } (start ["self"] vs) H:=by
  obtain ⟨p,h,R,N,rfl,⟨dx,po,pa,pk,pc,xs,z,I⟩,k⟩:=h
  unfold xq
  walk_at "g"
  refine ⟨p,C,dx,_,rfl,I.ob,T.cl,T.f5,(by show 8<1000;decide),?_⟩
  rw [qm]
  have I1:=I.put false
  have c1:Chg R H (upd H p (.ins C dx (fu h.num po pa pk false pc z.pp z.nr))):=.set (by rw [I.ob];exact True.intro) I.m1
  generalize upd H p (.ins C dx (fu h.num po pa pk false pc z.pp z.nr))=H1 at *
  have ob1:=I1.ob
  walk_at "g"
  refine ⟨p,dx,_,rfl,ob1,(by show 8<900;decide),fun qc qp H2 hqc hqp nn gc gp M=>?_⟩
  have ob2:=M.ob
  rw [Bd] at ob2
  have np:∀ {a:Addr} {o:HO},H1 a=some o→(∀ D fs,o≠.ins C D fs)→¬ a∈[p]:=fun z1 z2 y=>by rw [lag.mp y,ob1] at z1;cases z1;exact z2 _ _ rfl
  have kp:∀ {a:Addr} {o:HO},H1 a=some o→(∀ D fs,o≠.ins C D fs)→H2 a=some o:=fun z1 z2=>M.chg.keep _ _ z1 (np z1 z2)
  have trk2:∀ a∈R,∃ o,H2 a=some o:=fun a ha=>by
    cases e:H2 a with
    | some o=>exact ⟨o,rfl⟩
    | none=>obtain ⟨o,e'⟩:=I1.trk a ha;rw [M.free a e] at e';cases e'
  have fr:∀ {a:Addr},H1 a=none→H a=none:=fun {a} hq=>by
    cases e:H a with
    | none=>rfl
    | some o=>
      by_cases m:a∈R
      · obtain ⟨o',e'⟩:=I1.trk a m
        rw [hq] at e';cases e'
      · rw [c1.keep a o e m] at hq;cases hq
  refine k _ (qc::qp::R) ⟨⟨dx,po,pa,pk,qc,xs,⟨[],qp,0,[]⟩,?_⟩,c1.trans (M.chg.mono fun b hb=>by rw [lag.mp hb];exact I.m1),fun a ha=>?_,fun _ h=>lac _ (lac _ h)⟩
  · exact { ob:=ob2,ot:=kp I1.ot (by intro _ _ z;cases z),ag:=kp I1.ag (by intro _ _ z;cases z),bk:=kp I1.bk (by intro _ _ z;cases z),bs:=bG I1.bs M.chg,cn:=gc,pg:=gp,
            ct:=⟨fun _ _=>rfl,fun _ _ z=>(by cases z),fun _ _ _ z=>(by cases z)⟩,pt:=⟨fun _ _=>rfl,fun _ _ z=>(by cases z),fun _ _ _ z=>(by cases z)⟩,n1:=I1.n1,n2:=I1.n2,n3:=nn,m1:=by simp [I1.m1],m2:=by simp [I1.m2],m3:=by simp [I1.m3],m4:=by simp [I1.m4],m5:=by simp,m6:=by simp,
            trk:=fun a ha=>(by
              rcases List.mem_cons.mp ha with rfl | y
              · exact ⟨_,gc⟩
              rcases List.mem_cons.mp y with rfl | y
              · exact ⟨_,gp⟩
              · exact trk2 a y),
            l1:=I1.l1,l2:=laI _,l3:=fun _=>laI _,l4:=lat _,l5:=laI _,okb:=I1.okb }
  · rcases List.mem_cons.mp ha with rfl | y
    · exact .inr (fr hqc)
    rcases List.mem_cons.mp y with rfl | y
    · exact .inr (fr hqp)
    · exact .inl y
def iF(C:Addr):Sp:=fun vs H Q _=>∃ p h R N,vs=[.ref p]∧HouseAt C H p h R N∧N≤780000∧(bE h.book).length≤10000∧h.oth.length≤20∧Ret C p H R (N+(bE h.book).length) h.wake Q
theorem jL(h:HS)(ns:List Int)(n:Int):h.offAll (ns++[n])=(((h.offAll ns).1.decide n "off").1,(h.offAll ns).2++((h.offAll ns).1.decide n "off").2):=by
 induction ns generalizing h with
 | nil=>simp [HS.offAll]
 | cons x r ih=>simp [HS.offAll,ih]
theorem i6(h:HS)(ns:List Int):(h.offAll ns).1.oth=h.oth:=by
 induction ns generalizing h with
 | nil=>rfl
 | cons x r ih=>exact ih _
theorem kK(h:HS)(ns:List Int):(h.offAll ns).2.length=ns.length*h.oth.length:=by
 induction ns generalizing h with
 | nil=>simp [HS.offAll]
 | cons x r ih=>
  show ((h.decide x "off").2++((h.decide x "off").1.offAll r).2).length=_
  rw [laf,ih]
  show (h.oth.map _).length+r.length*h.oth.length=_
  rw [laa,laj,Nat.succ_mul,Nat.add_comm]
theorem jT{S:List Addr}{xs ys:List V}{a b:List aC}(r:Reps H S xs (a.map bv))(q:Reps H S ys (b.map bv)):Reps H S (xs++ys) ((a++b).map bv):=by rw [lai];exact r.append q
theorem FD(T:bI K C)(h:iF C vs H Q E):wV K hV (cD C) C { nx:=fun _ H'=>Q .non H',rt:=Q } (start ["self","undecided","sent","bargain"] vs) H:=by
 obtain ⟨p,h,R,N,rfl,⟨dx,po,pa,pk,pc,xs,kvs,I⟩,hN,hlt,hol,k⟩:=h
 obtain ⟨cl,f1,f2,f3,f4,f5,f6,f7,f8⟩:=T
 unfold wV
 walk_at "g"
 refine ⟨p,C,dx,_,rfl,I.ob,cl,f5,(by show 8<1000;decide),?_⟩
 rw [qm]
 have I1:=I.put true
 have c1:Chg R H (upd H p (.ins C dx (fu h.num po pa pk true pc kvs.pp kvs.nr))):=.set (by rw [I.ob];exact True.intro) I.m1
 generalize upd H p (.ins C dx (fu h.num po pa pk true pc kvs.pp kvs.nr))=H1 at *
 have ob1:=I1.ob
 walk_at "g"
 refine ⟨pk,h.book,rfl,I1.rep,las I1.l1 (by omega),fun pl H2 hpl s2 g2=>?_⟩
 have I2:=I1.same s2
 have m2:Move C p H R H2 { h with up:=true } R N:=⟨⟨_,_,_,_,_,_,_,I2⟩,c1.trans (.of_same s2),.refl _ _,fun _ h=>h⟩
 walk_at "g"
 walk_at "w"
 rename_i ps hps H3 s3 g3
 have g3l:=s3 _ _ g2
 have npl:pl≠ps:=ca hps g2
 have k2:=k.after m2
 have hlo:(bE h.book).length≤N:=by
  unfold bE
  rw [laa]
  exact las (laJ _ _) I.l1
 walk_at "g"
 refine fX (K:=K) (a:=pl) (xs:=(bE h.book).map .int) (fun i σ H'=>∃ v ys R',σ=[some (.ref p),some (.ref pl),some (.ref ps),v]∧HouseAt C H' p (({ h with up:=true }:HS).offAll ((bE h.book).take i)).1 R' (N+i)∧Chg R H2 H'∧(Grow R H2 R'∧∀ a∈R,a∈R')∧
   H' ps=some (.lst ys)∧¬ ps∈R'∧Reps H' [] ys ((({ h with up:=true }:HS).offAll ((bE h.book).take i)).2.map bv)∧H' pl=some (.lst ((bE h.book).map .int)))
  ⟨none,[],R,rfl,⟨_,_,_,_,_,_,_,I2.same s3⟩,.of_same s3,⟨.refl _ _,fun _ h=>h⟩,g3,dv I2.trk hps,.nil,g3l⟩ ?_ ?_ ?_
 ·rintro i σ H' hi ⟨v,ys,R',rfl,J,c,⟨g,sb⟩,gs,ns,rs,gl⟩
  exact b7 gl
 ·rintro i x σ H4 hx ⟨v,ys,R',rfl,J,c,⟨g,sb⟩,gs,ns,rs,gl⟩
  rw [lae] at hx
  cases hk:(bE h.book)[i]? with
  | none=>rw [hk] at hx;cases hx
  | some z=>
   rw [hk] at hx
   have e:V.int z=x:=lan hx
   subst e
   have hi:i<(bE h.book).length:=(lab.mp hk).1
   obtain ⟨dx4,po4,pa4,pk4,pc4,xs4,kvs4,I4⟩:=id J
   have ob4:=I4.ob
   walk_at "g"
   refine ⟨.inl ⟨rfl,_,b7 gs⟩,?_⟩
   walk_at "g"
   refine ⟨p,z,"off",_,R',N+i,rfl,J,by omega,by rw [i6];show h.oth.length≤900000;omega,jm (by simp),?_⟩
   intro v' H5 R5 m5 rep5 _
   obtain ⟨a5,zs,rfl,g5,ni5,rs5⟩:=rep5
   have gs5:=m5.chg.keep _ _ gs ns
   have ns5:¬ ps∈R5:=fun y=>(m5.gr _ y).elim ns fun q=>by rw [gs] at q;cases q
   have npl5:¬ pl∈R':=fun y=>(g _ y).elim (dv I1.trk hpl) fun q=>by rw [g2] at q;cases q
   have gl5:=m5.chg.keep _ _ gl npl5
   have ly:ys.length=i*h.oth.length:=by
    rw [rs.length,laa,kK,lax,Nat.min_eq_left (Nat.le_of_lt hi)]
   have lz:zs.length=h.oth.length:=by
    rw [rs5.length,laa]
    show (List.map _ _).length=_
    rw [laa,i6]
   have hsz:ys.length+zs.length≤sizeLine:=by
    have h1:i*h.oth.length≤10000*20:=Nat.mul_le_mul (by omega) hol
    rw [sizeLine_eq]
    omega
   walk_at "g"
   refine eP gs5 g5 hsz ?_
   have cp:Chg [ps] H5 (upd H5 ps (.lst (ys++zs))):=.set (by rw [gs5];exact True.intro) (by simp)
   refine ⟨_,_,R5,rfl,?_,(c.grow g m5.chg).put hps,⟨g.trans c m5.gr,fun x hx=>m5.sb x (sb x hx)⟩,ax,ns5,?_,bo npl gl5⟩
   ·rw [bH hk,jL]
    exact m5.at_.chg cp fun a ha y=>by rw [lag.mp y] at ha;exact ns5 ha
   ·rw [bH hk,jL]
    exact jT (bA (bA rs m5.chg) cp) (cG (bA rs5 cp))
 ·rintro σ H4 ⟨v,ys,R',rfl,J,c,⟨g,sb⟩,gs,ns,rs,gl⟩
  walk_at "g"
  rw [laa,laE] at J rs
  exact k2 _ _ _ ⟨J.more (by omega),c,g,sb⟩ ⟨_,_,rfl,gs,ns,cG rs⟩ (by rintro _ ⟨⟩;exact hps)
def bP(num:Int)(count:Nat):List Int:=((List.range count).map fun (k:Nat)=>(k:Int)).filter fun k=>!decide (k=num)
def i4(num:Int)(count:Nat)(agn:List Int):HS:=⟨num,bP num count,agn,[],true,fun _=>[]⟩
theorem fG(num:Int)(count:Nat):(bP num count).length≤count:=by
 unfold bP
 refine las (laJ _ _) ?_
 rw [laa,laq];exact lat _
theorem h9(num:Int)(i:Nat):bP num (i+1)=if (i:Int)=num then bP num i else bP num i++[(i:Int)]:=by
 unfold bP
 rw [List.range_succ,lai,lay]
 by_cases e:(i:Int)=num
 ·simp [e]
 ·simp [e]
def hE(C:Addr):Sp:=fun vs H Q _=>∃ (p dx a:Addr) (num:Int) (count:Nat) (agn:List Int),vs=[.ref p,.int num,.int count,.ref a]∧H p=some (.ins C dx [])∧count≤900000∧Rd H a (.lst (agn.map .int))∧
 ∀ H' R',HouseAt C H' p (i4 num count agn) R' 0→Chg [p] H H'→(∀ b∈R',b=p∨H b=none)→Q .non H'
def yf(a:V):List (Str×V):=[("number",a)]
def vC(a b:V):List (Str×V):=[("number",a),("others",b)]
def u0(a b c:V):List (Str×V):=[("number",a),("others",b),("against",c)]
def tH(a b c d:V):List (Str×V):=[("number",a),("others",b),("against",c),("book",d)]
def tF(a b c d e:V):List (Str×V):=[("number",a),("others",b),("against",c),("book",d),("awake",e)]
theorem FI(v:V):ci "number" v []=yf v:=rfl
theorem Ec(a v:V):ci "others" v (yf a)=vC a v:=by with_unfolding_all rfl
theorem GA(a b v:V):ci "against" v (vC a b)=u0 a b v:=by with_unfolding_all rfl
theorem Ep(a b c v:V):ci "book" v (u0 a b c)=tH a b c v:=by with_unfolding_all rfl
theorem Ip(a b c d v:V):ci "awake" v (tH a b c d)=tF a b c d v:=by with_unfolding_all rfl
theorem Bx(num:Int)(po pa pk:Addr)(u:Bool)(pc pp:Addr):u6 pc pp (tF (.int num) (.ref po) (.ref pa) (.ref pk) (.bl u))=fu num po pa pk u pc pp 0:=by with_unfolding_all rfl
theorem GK(T:bI K C)(h:hE C vs H Q E):ww K (d0 C) C { nx:=fun _ H'=>Q .non H',rt:=Q } (start ["self","number","count","against"] vs) H:=by
  obtain ⟨p,dx,a,num,count,agn,rfl,ob,hc,ha,k⟩:=h
  have nap:a≠p:=by
    rintro rfl
    rcases ha with z | ⟨o,z⟩ <;> (rw [ob] at z;cases z)
  unfold ww
  have M0:Made C H p dx [] H:=⟨ob,.refl _ _,fun _ h=>h⟩
  walk_at "g"
  refine ⟨p,C,dx,_,rfl,ob,T.cl,T.f1,(by show 0<1000;decide),?_⟩
  rw [FI]
  have M1:=M0.put (yf (.int num))
  have ha1:Rd (upd H p (.ins C dx (yf (.int num)))) a (.lst (agn.map .int)):=ha.upd nap
  generalize upd H p (.ins C dx (yf (.int num)))=H1 at *
  walk_at "g"
  refine eU (by omega) ?_
  intro po hpo
  refine km (n:=count) (fun i ys σ H'=>∃ v,σ=[v,some (.int num)]∧H'=upd H1 po (.lst ys)∧ys=(bP num i).map .int) ⟨none,rfl,rfl,rfl⟩ ?_ ?_
  · rintro i ys σ H' hi hp' ⟨v,rfl,rfl,rfl⟩
    walk_at "g"
    have e0:((0:Int)+(i:Int))=(i:Int):=Int.zero_add _
    by_cases e:(i:Int)=num
    · rw [if_neg (by simp [e0,e])]
      exact ⟨_,ax,_,rfl,rfl,by rw [h9,if_pos e]⟩
    · rw [if_pos (by simp [e0,e])]
      walk_at "g"
      refine ⟨_,ax,bg (by rw [laa];exact las (fG _ _) (by omega)),_,ax,_,rfl,j7,?_⟩
      rw [h9,if_neg e,lai,e0];rfl
  rintro ys σ H2 g2 ⟨v,rfl,hH2,rfl⟩
  have s2:Same H1 H2:=by rw [hH2];exact Same.new hpo
  clear hH2
  have M2:=M1.same s2
  have ha2:=ha1.same s2
  have po0:H po=none:=M1.free _ hpo
  walk_at "g"
  refine ⟨p,C,dx,_,rfl,M2.ob,T.cl,T.f2,(by show 1<1000;decide),?_⟩
  rw [Ec]
  have M3:=M2.put (vC (.int num) (.ref po))
  have g3:=M2.keep (gs:=(vC (.int num) (.ref po))) g2 (by intro z;cases z)
  have ha3:Rd (upd H2 p (.ins C dx (vC (.int num) (.ref po)))) a (.lst (agn.map .int)):=ha2.upd nap
  generalize upd H2 p (.ins C dx (vC (.int num) (.ref po)))=H3 at *
  walk_at "g"
  walk_at "w"
  rename_i pa hpa H4 s4 g4
  have M4:=M3.same s4
  have g4o:=s4 _ _ g3
  have pa0:H pa=none:=M3.free _ hpa
  walk_at "g"
  refine ⟨p,C,dx,_,rfl,M4.ob,T.cl,T.f3,(by show 2<1000;decide),?_⟩
  rw [GA]
  have M5:=M4.put (u0 (.int num) (.ref po) (.ref pa))
  have g5o:=M4.keep (gs:=(u0 (.int num) (.ref po) (.ref pa))) g4o (by intro z;cases z)
  have g5a:=M4.keep (gs:=(u0 (.int num) (.ref po) (.ref pa))) g4 (by intro z;cases z)
  generalize upd H4 p (.ins C dx (u0 (.int num) (.ref po) (.ref pa)))=H5 at *
  walk_at "g"
  walk_at "w"
  rename_i pk hpk H6 s6 g6
  have M6:=M5.same s6
  have pk0:H pk=none:=M5.free _ hpk
  have n1:po≠pk:=ca hpk g5o
  have n2:pa≠pk:=ca hpk g5a
  walk_at "g"
  refine ⟨p,C,dx,_,rfl,M6.ob,T.cl,T.f4,(by show 3<1000;decide),?_⟩
  rw [Ep]
  have M7:=M6.put (tH (.int num) (.ref po) (.ref pa) (.ref pk))
  have g7o:=M6.keep (gs:=(tH (.int num) (.ref po) (.ref pa) (.ref pk))) (s6 _ _ g5o) (by intro z;cases z)
  have g7a:=M6.keep (gs:=(tH (.int num) (.ref po) (.ref pa) (.ref pk))) (s6 _ _ g5a) (by intro z;cases z)
  have g7k:=M6.keep (gs:=(tH (.int num) (.ref po) (.ref pa) (.ref pk))) g6 (by intro z;cases z)
  generalize upd H6 p (.ins C dx (tH (.int num) (.ref po) (.ref pa) (.ref pk)))=H7 at *
  walk_at "g"
  refine ⟨p,C,dx,_,rfl,M7.ob,T.cl,T.f5,(by show 4<1000;decide),?_⟩
  rw [Ip]
  have M8:=M7.put (tF (.int num) (.ref po) (.ref pa) (.ref pk) (.bl true))
  have g8o:=M7.keep (gs:=(tF (.int num) (.ref po) (.ref pa) (.ref pk) (.bl true))) g7o (by intro z;cases z)
  have g8a:=M7.keep (gs:=(tF (.int num) (.ref po) (.ref pa) (.ref pk) (.bl true))) g7a (by intro z;cases z)
  have g8k:=M7.keep (gs:=(tF (.int num) (.ref po) (.ref pa) (.ref pk) (.bl true))) g7k (by intro z;cases z)
  generalize upd H7 p (.ins C dx (tF (.int num) (.ref po) (.ref pa) (.ref pk) (.bl true)))=H8 at *
  have ob8:=M8.ob
  walk_at "g"
  refine ⟨p,dx,_,rfl,ob8,(by show 5<900;decide),fun pc pp H9 hpc hpp nn gc gp M=>?_⟩
  have ob9:=M.ob
  rw [Bx] at ob9
  have pc0:H pc=none:=M8.free _ hpc
  have pp0:H pp=none:=M8.free _ hpp
  have np:∀ {a:Addr} {o:HO},H8 a=some o→(∀ D fs,o≠.ins C D fs)→¬ a∈[p]:=fun z1 z2 y=>by rw [lag.mp y,ob8] at z1;cases z1;exact z2 _ _ rfl
  have kp:∀ {a:Addr} {o:HO},H8 a=some o→(∀ D fs,o≠.ins C D fs)→H9 a=some o:=fun z1 z2=>M.chg.keep _ _ z1 (np z1 z2)
  have gAo:=kp g8o (by intro _ _ z;cases z)
  have gAa:=kp g8a (by intro _ _ z;cases z)
  have gAk:=kp g8k (by intro _ _ z;cases z)
  refine k _ [p,po,pa,pk,pc,pp] ⟨dx,po,pa,pk,pc,[],⟨[],pp,0,[]⟩,?_⟩ (M8.chg.trans M.chg) (fun b hb=>?_)
  · exact { ob:=ob9,ot:=gAo,ag:=gAa,bk:=gAk,bs:=.nil,cn:=gc,pg:=gp,ct:=⟨fun _ _=>rfl,fun _ _ z=>(by cases z),fun _ _ _ z=>(by cases z)⟩,pt:=⟨fun _ _=>rfl,fun _ _ z=>(by cases z),fun _ _ _ z=>(by cases z)⟩,n1:=n1,n2:=n2,n3:=nn,
            m1:=by simp,m2:=by simp,m3:=by simp,m4:=by simp,m5:=by simp,m6:=by simp,
            trk:=fun b hb=>(by
              simp only [List.mem_cons,List.not_mem_nil,or_false] at hb
              rcases hb with rfl | rfl | rfl | rfl | rfl | rfl
              · exact ⟨_,ob9⟩
              · exact ⟨_,gAo⟩
              · exact ⟨_,gAa⟩
              · exact ⟨_,gAk⟩
              · exact ⟨_,gc⟩
              · exact ⟨_,gp⟩),
            l1:=lat _,l2:=lat _,l3:=fun _=>lat _,l4:=lat _,l5:=lat _,okb:=(by intro l hl;cases hl) }
  · simp only [List.mem_cons,List.not_mem_nil,or_false] at hb
    rcases hb with rfl | rfl | rfl | rfl | rfl | rfl
    · exact .inl rfl
    · exact .inr po0
    · exact .inr pa0
    · exact .inr pk0
    · exact .inr pc0
    · exact .inr pp0
theorem BN(h:HS)(l:aC):(h.got l).1.oth=h.oth:=by
 unfold HS.got HS.gotAsk HS.asked HS.gotQuery HS.gotVote HS.gotDecision HS.decide HS.count HS.wr
 repeat' split
 all_goals rfl
theorem fZ{S:List Addr}{b:List aC}{x:V}(rs:Reps H S xs (b.map bv))(hx:xs[i]?=some x) :
  ∃ l t,b[i]?=some l∧x=.ref t∧Rd H t (.tup [.int l.1,.int l.2.1,.int l.2.2.1,.str l.2.2.2]):=by
 obtain ⟨d,hd,rx⟩:=rs.get hx
 rw [lae] at hd
 cases hb:b[i]? with
 | none=>rw [hb] at hd;cases hd
 | some l=>
  rw [hb] at hd
  have e:bv l=d:=lan hd
  subst e
  obtain ⟨t,ys,rfl,rt,rs'⟩:=rx.tup_inv
  obtain ⟨y1,r1,rfl,h1,t1⟩:=rs'.cons_inv
  obtain ⟨y2,r2,rfl,h2,t2⟩:=t1.cons_inv
  obtain ⟨y3,r3,rfl,h3,t3⟩:=t2.cons_inv
  obtain ⟨y4,r4,rfl,h4,t4⟩:=t3.cons_inv
  cases t4.nil_inv
  rw [h1.int_inv,h2.int_inv,h3.int_inv,h4.str_inv] at rt
  exact ⟨l,t,rfl,rfl,rt⟩
def HS.query(h:HS)(n:Int):List aC:=if h.up=true∧dk h.book n=true then h.toOthers n "query" else []
def iy(C:Addr):Sp:=fun vs H Q _=>∃ p n h R N,vs=[.ref p,.int n]∧HouseAt C H p h R N∧N≤800000∧h.oth.length≤900000∧Ret C p H R N (h,h.query n) Q
theorem Ez(T:bI K C)(h:iy C vs H Q E) :
  xQ K dU (cg C) (cP C) C { nx:=fun _ H'=>Q .non H',rt:=Q } (start ["self","bargain"] vs) H:=by
 obtain ⟨p,n,h,R,N,rfl,I,hN,hol,k⟩:=h
 obtain ⟨cl,f1,f2,f3,f4,f5,f6,f7,f8⟩:=T
 obtain ⟨dx,po,pa,pk,pc,xs,kvs,I0⟩:=id I
 have ob:=I0.ob
 have hl1:=I0.l1
 unfold xQ
 unfold HS.query at k
 walk_at "g"
 cases hu:h.up with
 | false=>
  rw [hu] at k
  rw [if_neg (by simp)] at k
  rw [if_pos (by rfl),if_pos (by rfl)]
  walk_at "A"
  rename_i l hl H2 s2 g2
  exact k.nil I (lat _) s2 hl g2
 | true=>
  rw [hu] at k
  rw [if_neg (by decide)]
  walk_at "g"
  refine ⟨p,n,h,R,N,rfl,I,by omega,fun q H0 R0 m0 r0=>?_⟩
  walk_at "g"
  refine ⟨q,df h.book n,n,rfl,r0,las (gz _ _) (by omega),fun H1 s1=>?_⟩
  rw [mG]
  have m1:=m0.trans (m0.at_.move s1)
  obtain ⟨dx1,po1,pa1,pk1,pc1,xs1,kvs1,I1⟩:=id m1.at_
  have ob1:=I1.ob
  have k1:=k.after m1
  walk_at "g"
  cases e:dk h.book n with
  | true=>
   rw [if_pos (by simp [e])] at k1
   rw [if_neg (by simp)]
   walk_at "g"
   exact ⟨p,n,"query",h,R0,N,rfl,m1.at_,hol,fun v H2 s2 r f=>k1.done m1.at_ (lat _) s2 r f⟩
  | false=>
   rw [if_neg (by simp [e])] at k1
   rw [if_pos (by simp)]
   walk_at "A"
   rename_i l hl H2 s2 g2
   exact k1.nil m1.at_ (lat _) s2 hl g2
def HS.spent(h:HS)(l:aC):Bool:=Decidable.decide (l.2.2.2="no"∨l.2.2.2="bound"∨l.2.2.2="off")&&!Decidable.decide (aJ h.book l.2.2.1=none)
theorem zi(w:Str):d9 (.str w) [.str "no",.str "bound",.str "off"]=decide (w="no"∨w="bound"∨w="off"):=by
 have:=ft w ["no","bound","off"]
 simp only [List.map_cons,List.map_nil] at this
 rw [this];simp [List.mem_cons]
def ir(C:Addr):Sp:=fun vs H Q _=>∃ p t l h R N,vs=[.ref p,.ref t]∧HouseAt C H p h R N∧Rd H t (.tup [.int l.1,.int l.2.1,.int l.2.2.1,.str l.2.2.2])∧N≤800000∧∀ H' R',Move C p H R H' h R' N→Q (.bl (h.spent l)) H'
theorem HJ(T:bI K C)(h:ir C vs H Q E) :
  w_ K (bT C) C { nx:=fun _ H'=>Q .non H',rt:=Q } (start ["self","letter"] vs) H:=by
 obtain ⟨p,t,⟨g,to,n,w⟩,h,R,N,rfl,I,gt,hN,k⟩:=h
 obtain ⟨dx,po,pa,pk,pc,xs,kvs,I0⟩:=id I
 have ob:=I0.ob
 unfold w_
 unfold HS.spent at k
 dsimp only at gt k
 walk_at "A"
 rename_i q hq H1 s1 g1
 show if (if true=true then !(d9 (.str w) _) else _)=true then _ else _
 rw [if_pos rfl,zi]
 have ob1:=s1 _ _ ob
 by_cases e:w="no"∨w="bound"∨w="off"
 ·rw [if_neg (by simp [e])]
  rw [decide_eq_true e,Bool.true_and] at k
  have gt1:=gt.same s1
  walk_at "g"
  refine ⟨p,n,h,R,N,rfl,I.same s1,by omega,fun H2 R2 m2=>?_⟩
  walk_at "g"
  have kk:=k _ _ ((I.move s1).trans m2)
  cases ed:aJ h.book n with
  | none=>rw [ed] at kk;exact kk
  | some d=>rw [ed] at kk;exact kk
 ·rw [if_pos (by simp [e])]
  rw [decide_eq_false e,Bool.false_and] at k
  walk_at "g"
  exact k _ _ (I.move s1)
def vK(K:W.Frag):TS:=
  (aD (jC (b5 (fc K) (af (ae 0) (af (tC (.ty "int")) al))) (v8 (b5 (fc K) (af (ae 0) (af (tC (.ty "bool")) al))))))
def xo(K:W.Frag):TS:=
  (aw (aV (aT (av jQ (ae 1) (b5 (ck K) (af (ae 0) al))))
  (aD (av (bK K) (ae 0) (ae 1)))
  aL)
  (aD (tC (.int 0))))
def xA(K:W.Frag)(cN:Sp):TS:=
  (aw (aV (fH (cH (tB (b5 (fc K) (af (ae 0) (af (tC (.ty "tuple")) al))))) (aT (av jy (b5 (ck K) (af (ae 0) al)) (tC (.int 2)))))
  (aD (tC (.bl false)))
  aL)
  (aw (aV (fH (cH (tB (b5 (fc K) (af (av (bx K) (ae 0) (tC (.int 0))) (af (tC (.ty "str")) al))))) (cH (tB (bb cN [] E0 (af (av (bx K) (ae 0) (tC (.int 1))) al)))))
  (aD (tC (.bl false)))
  aL)
  (aD (av (iY K false) (av (bx K) (ae 0) (tC (.int 0))) (bz (af (tC (.str "open")) (af (tC (.str "yes")) (af (tC (.str "no")) (af (tC (.str "bound")) (af (tC (.str "off")) al))))))))))
def xE(K:W.Frag)(d3:Sp):TS:=
  (aw (aV (cH (tB (b5 (fc K) (af (ae 0) (af (tC (.ty "list")) al)))))
  (aD (tC (.bl false)))
  aL)
  (aw (fz (dy K (ae 0)) (az 1)
  (aV (cH (tB (bb d3 [] E0 (af (ae 1) al))))
  (aD (tC (.bl false)))
  aL))
  (aD (tC (.bl true)))))
def vN(K:W.Frag)(cN:Sp):TS:=
  (aw (aV (fH (cH (tB (b5 (fc K) (af (ae 0) (af (tC (.ty "tuple")) al))))) (fH (aT (av jy (b5 (ck K) (af (ae 0) al)) (tC (.int 4)))) (cH (tB (b5 (fc K) (af (av (bx K) (ae 0) (tC (.int 3))) (af (tC (.ty "str")) al)))))))
  (aD (tC (.bl false)))
  aL)
  (aw (fz (DJ K (qR (Dd K) (ae 0) gP (i3 (tC (.int 3))))) (az 2)
  (aV (cH (tB (bb cN [] E0 (af (ae 2) al))))
  (aD (tC (.bl false)))
  aL))
  (aw (aV (aT (av (iY K true) (av (bx K) (ae 0) (tC (.int 3))) (bz (af (tC (.str "ask")) (af (tC (.str "yes")) (af (tC (.str "no")) (af (tC (.str "bound")) (af (tC (.str "off")) (af (tC (.str "query")) al)))))))))
  (aD (tC (.bl false)))
  aL)
  (aD (jC (o_ DM jQ (tC (.int 0)) (av (bx K) (ae 0) (tC (.int 0))) (ae 1)) (jC (o_ DM jQ (tC (.int 0)) (av (bx K) (ae 0) (tC (.int 1))) (ae 1)) (av jy (av (bx K) (ae 0) (tC (.int 0))) (av (bx K) (ae 0) (tC (.int 1))))))))))
def vU(K:W.Frag)(gW:Sp):TS:=
  (aw (aV (cH (tB (b5 (fc K) (af (ae 0) (af (tC (.ty "list")) al)))))
  (aD (tC (.bl false)))
  aL)
  (aw (fz (dy K (ae 0)) (az 2)
  (aV (cH (tB (bb gW [] E0 (af (ae 2) (af (ae 1) al)))))
  (aD (tC (.bl false)))
  aL))
  (aD (tC (.bl true)))))
theorem ub(K:W.Frag):W.kitOne K (.type "int") (.type "bool")=some false:=by with_unfolding_all rfl
def cN:Sp:=fun vs H Q _=>∃ i:Int,vs=[.int i]∧Q (.bl true) H
theorem Fg(h:cN vs H Q E):vK K { nx:=fun _ H'=>Q .non H',rt:=Q } (start ["_law_found"] vs) H:=by
 obtain ⟨i,rfl,k⟩:=h
 unfold vK
 walk_at "g"
 refine ⟨_,_,_,true,rfl,TyO.int _,cF _ _,?_⟩
 walk_at "g"
 refine zJ ?_
 walk_at "g"
 refine ⟨_,_,_,false,rfl,TyO.int _,ub _,?_⟩
 walk_at "g"
 exact k
def f'(K:W.Frag):Sp:=fun vs H Q _=>∃ (a:Addr) (ns:List Int) (k:Nat),vs=[.ref a,.int k]∧SqL K H a (ns.map .int)∧∀ z:Int,Q (.int z) H
theorem Fd(h:f' K vs H Q E):xo K { nx:=fun _ H'=>Q .non H',rt:=Q } (start ["_law_script","_law_k"] vs) H:=by
 obtain ⟨a,ns,k,rfl,hS,q⟩:=h
 unfold xo
 walk_at "g"
 by_cases e:k<ns.length
 ·rw [if_pos (by simp only [List.length_map,decide_eq_true_eq];show (k:Int)<(ns.length:Int);omega)]
  have hat:gD (ns.map V.int) (k:Int)=some (.int ns[k]):=cf (by simp [e])
  walk_at "g"
  exact q _
 ·rw [if_neg (by simp only [List.length_map,decide_eq_true_eq];show ¬ (k:Int)<(ns.length:Int);omega)]
  walk_at "g"
  exact q _
def gQ(w:Str):Prop:=w="open"∨w="yes"∨w="no"∨w="bound"∨w="off"
theorem zx{w:Str}(h:gQ w):d9 (.str w) [.str "open",.str "yes",.str "no",.str "bound",.str "off"]=true:=by
 have:=ft w ["open","yes","no","bound","off"]
 simp only [List.map_cons,List.map_nil] at this
 rw [this]
 exact decide_eq_true (by simp only [List.mem_cons,List.not_mem_nil,or_false];exact h)
def d3:Sp:=fun vs H Q _=>∃ t w n,vs=[.ref t]∧Rd H t (.tup [.str w,.int n])∧gQ w∧∀ H',Same H H'→Q (.bl true) H'
theorem E9(h:d3 vs H Q E):xA K cN { nx:=fun _ H'=>Q .non H',rt:=Q } (start ["_law_found"] vs) H:=by
 obtain ⟨t,w,n,rfl,rt,hw,k⟩:=h
 unfold xA
 walk_at "g"
 refine ⟨_,_,_,true,rfl,TyO.tup rt,cF _ _,?_⟩
 walk_at "g"
 refine fA ?_
 refine jc (nN (nM (jd (j8 (by rfl) (kd (jX (oB rt) ?_))))))
 walk_at "g"
 rw [if_neg (by simp)]
 walk_at "g"
 refine ⟨_,_,_,true,rfl,TyO.str _,cF _ _,?_⟩
 walk_at "g"
 refine fA ?_
 walk_at "g"
 refine ⟨n,rfl,?_⟩
 walk_at "g"
 refine fA ?_
 walk_at "A"
 rename_i q hq H1 s1 g1
 show Q (.bl (if false=true then _ else d9 (.str w) _)) H1
 rw [if_neg (by decide:¬ (false=true)),zx hw]
 exact k H1 s1
def gx(b:List aW):Prop:=∀ l∈b,gQ l.1
def iw:Sp:=fun vs H Q _=>∃ a b,vs=[.ref a]∧Rep H [] (.ref a) (cy b)∧gx b∧∀ H',Same H H'→Q (.bl true) H'
theorem HE(h:iw vs H Q E):xE K d3 { nx:=fun _ H'=>Q .non H',rt:=Q } (start ["_law_found","_law_line"] vs) H:=by
 obtain ⟨a,b,rfl,hb,hw,k⟩:=h
 obtain ⟨_,xs,e,rd,_,rs⟩:=id hb.lst_inv
 cases e
 unfold xE
 walk_at "g"
 refine ⟨_,_,_,true,rfl,TyO.list rd,cF _ _,?_⟩
 walk_at "g"
 refine fA ?_
 walk_at "g"
 refine fX (K:=K) (a:=a) (xs:=xs) (fun i σ H'=>∃ v,σ=[some (.ref a),v]∧Same H H') ⟨none,rfl,Same.refl _⟩ ?_ ?_ ?_
 ·rintro i σ H' hi ⟨v,rfl,s⟩
  exact s.seq (dG rd)
 ·rintro i x σ H' hx ⟨v,rfl,s⟩
  obtain ⟨l,t,hb',rfl,rt⟩:=gG rs hx
  walk_at "g"
  refine ⟨t,l.1,l.2,rfl,rt.same s,hw l (lam hb'),fun H2 s2=>?_⟩
  walk_at "g"
  refine fA ?_
  walk_at "g"
  exact ⟨_,rfl,s.trans s2⟩
 ·rintro σ H' ⟨v,rfl,s⟩
  walk_at "g"
  exact k H' s
def yP(w:Str):Prop:=w="ask"∨w="yes"∨w="no"∨w="bound"∨w="off"∨w="query"
theorem A8{w:Str}(h:yP w):d9 (.str w) [.str "ask",.str "yes",.str "no",.str "bound",.str "off",.str "query"]=true:=by
 have:=ft w ["ask","yes","no","bound","off","query"]
 simp only [List.map_cons,List.map_nil] at this
 rw [this]
 exact decide_eq_true (by simp only [List.mem_cons,List.not_mem_nil,or_false];exact h)
def xr(c:Int)(l:aC):Prop:=0≤l.1∧l.1<c∧0≤l.2.1∧l.2.1<c∧l.1≠l.2.1∧yP l.2.2.2
def gW:Sp:=fun vs H Q _=>∃ t c l,vs=[.ref t,.int c]∧Rd H t (.tup [.int l.1,.int l.2.1,.int l.2.2.1,.str l.2.2.2])∧xr c l∧∀ H',Same H H'→Q (.bl true) H'
theorem FJ(h:gW vs H Q E):vN K cN { nx:=fun _ H'=>Q .non H',rt:=Q } (start ["_law_found","_law_count","_law_number"] vs) H:=by
 obtain ⟨t,c,⟨g,to,n,w⟩,rfl,rt,⟨h1,h2,h3,h4,h5,hw⟩,k⟩:=h
 dsimp only at rt h1 h2 h3 h4 h5 hw
 unfold vN
 walk_at "g"
 refine ⟨_,_,_,true,rfl,TyO.tup rt,cF _ _,?_⟩
 walk_at "g"
 refine fA ?_
 refine vJ (jc (nN (nM (jd (j8 (by rfl) (kd (jX (oB rt) ?_)))))))
 walk_at "g"
 rw [if_neg (by simp)]
 walk_at "g"
 refine ⟨_,_,_,true,rfl,TyO.str _,cF _ _,?_⟩
 walk_at "g"
 refine fA ?_
 walk_at "g"
 refine ⟨_,rfl,3,rfl,t,_,rfl,oB rt,by simp [HT.sIx],fun p hp=>?_⟩
 refine ⟨p,rfl,⟨_,IC ax⟩,?_⟩
 have s1:Same H (upd H p (.tup [.int g,.int to,.int n])):=Same.new hp
 have g1:upd H p (.tup [.int g,.int to,.int n]) p=some (.tup [.int g,.int to,.int n]):=ax
 show ∃ W:Nat→Nat→St→Hp→Prop,(∃ m,W 0 m _ (upd H p (.tup [.int g,.int to,.int n])))∧_
 generalize upd H p (.tup [.int g,.int to,.int n])=H1 at *
 refine Bm (K:=K) (a:=p) (xs:=[.int g,.int to,.int n]) (fun i σ H'=>∃ v,σ=[some (.ref t),some (.int c),v]∧H'=H1) ⟨none,rfl,rfl⟩ ?_ ?_ ?_
 ·rintro i σ H' hi ⟨v,rfl,rfl⟩
  exact IC g1
 ·rintro i x σ H' hx ⟨v,rfl,rfl⟩
  obtain ⟨z,rfl⟩:∃ z,x=V.int z:=by
   have:=lam hx
   simp only [List.mem_cons,List.not_mem_nil,or_false] at this
   rcases this with rfl | rfl | rfl <;> exact ⟨_,rfl⟩
  walk_at "g"
  refine ⟨z,rfl,?_⟩
  walk_at "g"
  refine fA ?_
  walk_at "g"
  exact ⟨_,rfl,rfl⟩
 ·rintro σ H' ⟨v,rfl,rfl⟩
  have rt1:=rt.same s1
  walk_at "A"
  rename_i q hq H2 s2 g2
  show if (if true=true then !d9 (.str w) _ else _)=true then _ else _
  rw [if_pos (rfl:true=true),A8 hw]
  refine fA ?_
  have rt2:=rt1.same s2
  walk_at "g"
  rw [if_pos (decide_eq_true h1)]
  walk_at "g"
  rw [if_pos (decide_eq_true h2)]
  walk_at "g"
  rw [if_pos (decide_eq_true h3)]
  walk_at "g"
  rw [if_pos (decide_eq_true h4)]
  walk_at "g"
  rw [show (!decide (V.int g=V.int to))=true by simp [h5]]
  exact k H2 (s1.trans s2)
def DP(c:Int)(ls:List aC):Prop:=∀ l∈ls,xr c l
def iu:Sp:=fun vs H Q _=>∃ a c ls,vs=[.ref a,.int c]∧Rep H [] (.ref a) (gF ls)∧DP c ls∧∀ H',Same H H'→Q (.bl true) H'
theorem G2(h:iu vs H Q E):vU K gW { nx:=fun _ H'=>Q .non H',rt:=Q } (start ["_law_found","_law_count","_law_letter"] vs) H:=by
 obtain ⟨a,c,ls,rfl,hb,hw,k⟩:=h
 obtain ⟨_,xs,e,rd,_,rs⟩:=id hb.lst_inv
 cases e
 unfold vU
 walk_at "g"
 refine ⟨_,_,_,true,rfl,TyO.list rd,cF _ _,?_⟩
 walk_at "g"
 refine fA ?_
 walk_at "g"
 refine fX (K:=K) (a:=a) (xs:=xs) (fun i σ H'=>∃ v,σ=[some (.ref a),some (.int c),v]∧Same H H') ⟨none,rfl,Same.refl _⟩ ?_ ?_ ?_
 ·rintro i σ H' hi ⟨v,rfl,s⟩
  exact s.seq (dG rd)
 ·rintro i x σ H' hx ⟨v,rfl,s⟩
  obtain ⟨l,t,hb',rfl,rt⟩:=fZ rs hx
  walk_at "g"
  refine ⟨t,c,l,rfl,rt.same s,hw l (lam hb'),fun H2 s2=>?_⟩
  walk_at "g"
  refine fA ?_
  walk_at "g"
  exact ⟨_,rfl,s.trans s2⟩
 ·rintro σ H' ⟨v,rfl,s⟩
  walk_at "g"
  exact k H' s
theorem p8{ls:List aC}(ok:∀ l∈ls,PyData.strOk l.2.2.2=true):PyData.canLayAll0 (ls.map bv)=true:=by
 induction ls with
 | nil=>rfl
 | cons l r ih=>
  rw [lah,PyData.canLayAll0,ih fun z hz=>ok z (lac _ hz)]
  simp [bv,PyData.canLay0,PyData.canLayAll0,ok l (by simp)]
theorem qX(ls:List aC):PyData.depthAll (ls.map bv)≤3:=by
 induction ls with
 | nil=>simp [PyData.depthAll]
 | cons l r ih=>
  rw [lah,PyData.depthAll]
  have:PyData.depth (bv l)≤3:=by simp [bv,PyData.depth,PyData.depthAll]
  omega
theorem pT{ls:List aC}(ok:∀ l∈ls,PyData.strOk l.2.2.2=true):SeqAt.shaped (gF ls)=true:=by
 unfold SeqAt.shaped gF
 rw [PyData.canLay0,p8 ok,Bool.true_and,PyData.depth]
 have:=qX ls
 exact decide_eq_true (by omega)
end Oh
set_option Elab.async false
set_option linter.all false
namespace L2
open PySem PySem.Spec PyProof.Rows
end L2
set_option Elab.async false
set_option linter.all false
set_option maxRecDepth 100000
namespace L2
open PySem PySem.Spec PyProof.Rows
variable {X:Cx}
def zd(x:Str)(n:Nat):Str:=⟨(List.replicate n x.cps).foldl (·++·) #[]⟩
def Au:R2:=fun x y H Q=>∃ z n,x=.str z∧y=.int n∧2≤n∧n≤1000∧1≤z.length∧z.length≤1000∧(zd z n.toNat).length≤sizeLine∧Q (.str (zd z n.toNat)) H
theorem BF:eO X (binaryOp .Mult) Au:=by
 intro pins s σ H x y v u Q I rx ry h
 obtain ⟨z,n,rfl,rfl,h1,h2,h3,h4,h5,q⟩:=h
 obtain ⟨t,rfl⟩:=rx
 obtain ⟨t',rfl⟩:=ry
 have e1:¬ n<1:=by omega
 have e2:¬ (n==1||z.length==0)=true:=by
  intro y
  rcases Bool.or_eq_true_iff.mp y with y | y
  ·have:=eq_of_beq y;omega
  ·have:=eq_of_beq y;omega
 refine PySem.P.mul_str ?_ ?_ ?_ ?_
 ·rw [decide_eq_false (by omega),decide_eq_false (by omega)];rfl
 ·intro _ _ y
  have:(1000:Int)≤(2 ^ 63 - 1) / n:=(Int.le_ediv_iff_mul_le (by omega)).mpr (by omega)
  omega
 ·intro _ _
  show decide (z.length*n.toNat>sizeLine)=false
  have:z.length*n.toNat≤1000*1000:=Nat.mul_le_mul h4 (by omega)
  exact decide_eq_false (by have e:sizeLine=16777216:=rfl;omega)
 ·rw [if_neg e1,if_neg e2]
  exact ⟨h5,.str _,H,I.tok _,⟨_,rfl⟩,q⟩
def AV:List V→Hp→VK→Prop:=fun xs H Q=>∃ z n,xs=[.str z]∧PySem.intText? z=some n∧z.length≤640∧Q (.int n) H
theorem zg:iI X (.type "int") AV:=by
 intro pins s σ H xs us Q I r h
 obtain ⟨z,n,rfl,hn,hl,q⟩:=h
 obtain ⟨u,rfl,t,rfl⟩:=kQ r
 exact W.KIN.call_text hn hl ⟨.int n,H,I.tok _,⟨_,rfl⟩,q⟩
end L2
set_option Elab.async false
set_option linter.all false
set_option maxRecDepth 100000
set_option maxHeartbeats 4000000
namespace L2
open PySem PySem.Spec PyProof.Rows
def AM:List V→Hp→VK→Prop:=fun xs H Q=>∃ i j:Int,xs=[.int i,.int j]∧∀ r,H r=none→Q (.ref r) (upd H r (.rng i j))
def j5(i j:Int):List V:=(List.range (j - i).toNat).map fun (k:Nat)=>V.int (i+k)
def sR:List V→Hp→VK→Prop:=fun xs H Q=>∃ p,∃ i j:Int,xs=[.ref p]∧H p=some (.rng i j)∧(-(2 ^ 62)≤i∧i<2 ^ 62∧-(2 ^ 62)≤j∧j<2 ^ 62)∧(j - i).toNat≤2 ^ 24∧∀ l,H l=none→Q (.ref l) (upd H l (.lst (j5 i j)))
section
variable {X:Cx}
theorem yd:iI X (.type "range") AM:=by
 intro pins s σ H xs us Q I r h
 obtain ⟨i,j,rfl,q⟩:=h
 cases r with
 | cons r rr=>
  cases rr with
  | cons r' rr=>
   cases rr
   obtain ⟨t,rfl⟩:=r
   obtain ⟨t',rfl⟩:=r'
   refine call_range_2 ?_
   exact ⟨.ref s.heap.objs.size,_,I.laid (fun b o e=>Heap.get?_push_of_some _ e) (lat _) (show ObjOk X.prog X.w _ _ _ (.rng i j) from ⟨_,_,_,Heap.get?_push_size _ rfl⟩),rfl,q _ (I.hok.fresh (lat _))⟩
theorem qu:∀ (l:List Value) (f:Nat→V) (o:Nat),(∀ j v,l[j]?=some v→RelV (f (o+j)) v)→Vals ((List.range' o l.length).map f) l
 | [],f,o,h=>.nil
 | x::r,f,o,h=>by
  rw [laj,List.range'_succ,lah]
  refine .cons (h 0 x rfl) (qu r f (o+1) fun j v e=>?_)
  have:=h (j+1) v (by simpa using e)
  rwa [show o+(j+1)=o+1+j from by omega] at this
theorem w8{a:Int}{acc:Array Value}{n:Nat}(h:ItemsOf (fun i v=>∃ t,v=Value.int (a+i*1) t) acc n):Vals ((List.range n).map fun (k:Nat)=>V.int (a+k)) acc.toList:=by
 obtain ⟨hs,hv⟩:=h
 have:=qu acc.toList (fun k=>V.int (a+(k:Int))) 0 fun j v e=>by
  obtain ⟨t,rfl⟩:=hv j v (by simpa using e)
  exact ⟨t,by simp⟩
 rw [← hs,List.range_eq_range']
 simpa using this
theorem tT(hc:X.calm=true):iI X (.type "list") sR:=by
 intro pins s σ H xs us Q I r h
 obtain ⟨p,i,j,rfl,hp,⟨h1,h2,h3,h4⟩,hl,q⟩:=h
 obtain ⟨u,rfl,rx⟩:=kQ r
 cases rx
 obtain ⟨t,u,v,e⟩:=I.hok p _ hp
 have hsz:Builtin.Range.rangeSize i j 1=(((j - i).toNat:Nat):Int):=by rw [rangeSize_one];split <;> omega
 refine call_list_range (n:=(j - i).toNat) (I.ok.hd hc) e (small_one h1 h2 h3 h4) hsz hl fun h' tk acc' c' kp hS hacc=>?_
 have rv:=w8 hacc
 have hlen:(j5 i j).length=(j - i).toNat:=by unfold j5;simp
 exact ⟨.ref s.heap.objs.size,_,I.laid (t':=tk) kp (lat _) (show ObjOk X.prog X.w _ h' _ (.lst (j5 i j)) from ⟨by rw [hlen];exact hl,acc'.toList,c',rv,by simpa using hS⟩),rfl,q _ (I.hok.fresh (lat _))⟩
end
end L2
set_option Elab.async false
set_option linter.all false
set_option maxRecDepth 100000
set_option maxHeartbeats 4000000
namespace Oh
open PySem L2
def wJ(K:W.Frag):TS:=
  (aD (gE (dy K (ae 0)) (az 0) (aT (av dh (av (bx K) (ae 0) (tC (.int 0))) (ae 1))) (av (bx K) (ae 0) (tC (.int 1))) [none,some 1]))
def wI(K:W.Frag)(iz:Sp)(hE:Sp)(aa:Addr):TS:=
  (aw (fC K (ae 0) (gE (fk (af (ae 1) al)) (az 0) fK (oS aa hE [] E0 (af (ae 0) (af (ae 1) (af (bb iz [] E0 (af (ae 2) (af (ae 0) al))) al)))) [none,some 1,some 2]) "houses")
  (aw (fC K (ae 0) (bz al) "letters")
  (fC K (ae 0) (bz al) "unspent")))
def wC(K:W.Frag)(ib:Sp)(dS:Sp)(ix:Sp)(h8:Sp)(hZ:Sp)(ik:Sp)(ac:Addr):TS:=
  (aw (a_ (av (bx K) (ae 1) (tC (.int 0))) (az 2))
  (aw (aV (aT (av dh (ae 2) (tC (.str "begin"))))
  (aD (bj ac "begin" ib [] E0 (ae 0) (af (av (bx K) (ae 1) (tC (.int 1))) (af (av (bx K) (ae 1) (tC (.int 2))) al))))
  aL)
  (aw (aV (aT (av dh (ae 2) (tC (.str "carry"))))
  (aD (bj ac "carry" dS [] E0 (ae 0) (af (av (bx K) (ae 1) (tC (.int 1))) (af (av (bx K) (ae 1) (tC (.int 2))) al))))
  aL)
  (aw (aV (aT (av dh (ae 2) (tC (.str "query"))))
  (aD (bj ac "query" ix [] E0 (ae 0) (af (av (bx K) (ae 1) (tC (.int 1))) (af (av (bx K) (ae 1) (tC (.int 2))) al))))
  aL)
  (aw (aV (aT (av dh (ae 2) (tC (.str "stop"))))
  (aD (bj ac "stop" h8 [] E0 (ae 0) (af (av (bx K) (ae 1) (tC (.int 1))) al)))
  aL)
  (aw (aV (aT (av dh (ae 2) (tC (.str "wake"))))
  (aD (bj ac "wake" hZ [] E0 (ae 0) (af (av (bx K) (ae 1) (tC (.int 1))) al)))
  aL)
  (aD (bj ac "sweep" ik [] E0 (ae 0) al))))))))
def wf(K:W.Frag)(cM:Sp)(ig:Sp)(dZ:Sp)(aa:Addr)(ac:Addr):TS:=
  (aw (a_ (av (bK K) (bQ K (ae 0) "houses") (av cI (ae 1) (b5 (ck K) (af (bQ K (ae 0) "houses") al)))) (az 3))
  (aw (aV (fH (cH (tB (bQ K (ae 3) "awake"))) (tB (bb cM [] E0 (af (bQ K (ae 3) "book") (af (ae 1) al)))))
  (aD (tC .non))
  aL)
  (aw (a_ (b5 (ck K) (af (bQ K (ae 3) "book") al)) (az 4))
  (aw (bX (bj ac "send_or_stop" dZ [] E0 (ae 0) (af (ae 3) (af (bj aa "begin" ig [] E0 (ae 3) (af (ae 1) al)) (af (ae 2) al)))))
  (aD (qR (ow K) (bQ K (ae 3) "book") (i3 (ae 4)) gP))))))
def wP(K:W.Frag)(g_:Sp)(dZ:Sp)(aa:Addr)(ac:Addr):TS:=
  (aw (aV (aT (av CC (ae 1) (b5 (ck K) (af (bQ K (ae 0) "letters") al))))
  (aD (tC .non))
  aL)
  (aw (a_ (av (bK K) (bQ K (ae 0) "letters") (ae 1)) (az 3))
  (aw (a_ (av (bK K) (bQ K (ae 0) "houses") (av (bx K) (ae 3) (tC (.int 1)))) (az 4))
  (aw (aV (cH (tB (bQ K (ae 4) "awake")))
  (aD (tC .non))
  aL)
  (aw (a_ (b5 (ck K) (af (bQ K (ae 4) "book") al)) (az 5))
  (aw (bX (bj ac "send_or_stop" dZ [] E0 (ae 0) (af (ae 4) (af (bj aa "got" g_ [] E0 (ae 4) (af (ae 3) al)) (af (ae 2) al)))))
  (aD (qR (ow K) (bQ K (ae 4) "book") (i3 (ae 5)) gP))))))))
def wL(K:W.Frag)(iy:Sp)(cL:Sp)(aa:Addr)(ac:Addr):TS:=
  (aw (a_ (bj aa "query" iy [] E0 (av (bK K) (bQ K (ae 0) "houses") (ae 1)) (af (ae 2) al)) (az 3))
  (aw (bX (bj ac "send" cL [] E0 (ae 0) (af (ae 3) al)))
  (aD (av xn (b5 (ck K) (af (ae 3) al)) (tC (.int 0))))))
def xy(K:W.Frag)(d5:Sp)(aa:Addr):TS:=
  (aw (a_ (av (bK K) (bQ K (ae 0) "houses") (ae 1)) (az 2))
  (aw (aV (cH (tB (bQ K (ae 2) "awake")))
  (aD (tC (.bl false)))
  aL)
  (aw (bX (bj aa "stop" d5 [] E0 (ae 2) al))
  (aD (tC (.bl true))))))
def wR(K:W.Frag)(iF:Sp)(cL:Sp)(aa:Addr)(ac:Addr):TS:=
  (aw (a_ (av (bK K) (bQ K (ae 0) "houses") (ae 1)) (az 2))
  (aw (aV (tB (bQ K (ae 2) "awake"))
  (aD (tC .non))
  aL)
  (aw (a_ (b5 (ck K) (af (bQ K (ae 2) "book") al)) (az 3))
  (aw (bX (bj ac "send" cL [] E0 (ae 0) (af (bj aa "wake" iF [] E0 (ae 2) al) al)))
  (aD (qR (ow K) (bQ K (ae 2) "book") (i3 (ae 3)) gP))))))
def v0(K:W.Frag)(dS:Sp)(iB:Sp)(ac:Addr):TS:=
  (aw (a_ (bz al) (az 1))
  (aw (a_ (tC (.int 0)) (az 2))
  (aw (pI (aT (av jQ (ae 2) (b5 (ck K) (af (bQ K (ae 0) "unspent") al))))
  (aw (a_ (av (bK K) (bQ K (ae 0) "unspent") (ae 2)) (az 3))
  (aw (a_ (bj ac "carry" dS [] E0 (ae 0) (af (ae 3) (af (tC (.bl true)) al))) (az 4))
  (e8 (aV (tB (mF (ae 4)))
  (aw (a_ (av (bx K) (av (bK K) (bQ K (ae 0) "letters") (ae 3)) (tC (.int 1))) (az 5))
  (bX (e_ K "list" eY (ae 1) (af (gE (dy K (ae 4)) (az 0) fK (cJ (af (ae 1) (af (ae 0) al))) [none,some 5]) al))))
  aL)
  (DF 2 (tC (.int 1)) (IF fun i j=>i+j))))))
  (aw (fC K (ae 0) (gE (dy K (bQ K (ae 0) "unspent")) (az 0) (cH (tB (bj ac "is_spent_letter" iB [] E0 (ae 1) (af (ae 0) al)))) (ae 0) [none,some 0]) "unspent")
  (aD (ae 1))))))
def wS(K:W.Frag)(ir:Sp)(aa:Addr):TS:=
  (aw (a_ (av (bK K) (bQ K (ae 0) "letters") (ae 1)) (az 2))
  (aD (bj aa "is_spent" ir [] E0 (av (bK K) (bQ K (ae 0) "houses") (av (bx K) (ae 2) (tC (.int 1)))) (af (ae 2) al))))
def vV(K:W.Frag)(cL:Sp)(d5:Sp)(ac:Addr)(aa:Addr):TS:=
  (aV (tB (ae 3))
  (bX (bj ac "send" cL [] E0 (ae 0) (af (ae 2) al)))
  (bX (bj aa "stop" d5 [] E0 (ae 1) al)))
def vZ(K:W.Frag):TS:=
  (aw (a_ (b5 (ck K) (af (bQ K (ae 0) "letters") al)) (az 2))
  (aw (bX (e_ K "list" eY (bQ K (ae 0) "letters") (af (ae 1) al)))
  (bX (e_ K "list" eY (bQ K (ae 0) "unspent") (af (b5 sR (af (b5 AM (af (ae 2) (af (b5 (ck K) (af (bQ K (ae 0) "letters") al)) al))) al)) al)))))
def v4(K:W.Frag)(d8:Sp)(d7:Sp)(ac:Addr):TS:=
  (aw (a_ (oS ac d8 [] E0 (af (ae 0) (af (ae 1) al))) (az 3))
  (aw (fz (dy K (ae 2)) (az 4)
  (bX (bj ac "do" d7 [] E0 (ae 3) (af (ae 4) al))))
  (aD (ae 3))))
def wd(K:W.Frag)(d8:Sp)(d7:Sp)(ac:Addr):TS:=
  (aw (a_ (oS ac d8 [] E0 (af (ae 0) (af (ae 1) al))) (az 3))
  (aD (gE (dy K (ae 2)) (az 0) fK (bj ac "do" d7 [] E0 (ae 1) (af (ae 0) al)) [none,some 3])))
def xD(K:W.Frag)(cO:Sp):TS:=
  (aD (gE (dy K (bQ K (bb cO [] E0 (af (ae 0) (af (ae 1) (af (ae 2) al)))) "houses")) (az 0) fK (bQ K (ae 0) "book") [none]))
def wx(K:W.Frag)(cO:Sp):TS:=
  (aD (bQ K (bb cO [] E0 (af (ae 0) (af (ae 1) (af (ae 2) al)))) "letters"))
def wZ(K:W.Frag)(cO:Sp):TS:=
  (aD (gE (dy K (bQ K (bb cO [] E0 (af (ae 0) (af (ae 1) (af (ae 2) al)))) "houses")) (az 0) fK (bQ K (ae 0) "awake") [none]))
structure dl(K:W.Frag)(C:Addr):Prop where
 cl:Cls K C
 f1:NoAttr K C "houses"
 f2:NoAttr K C "letters"
 f3:NoAttr K C "unspent"
local macro_rules | `(tactic| walk_at "ne")=>`(tactic| first | assumption | (refine' Ne.symm ?k1;(case k1=>assumption)) | (refine' ca ?k1 ?k2;(case k1=>assumption);(case k2=>walk_at "hl")) | (refine' nG ?k1 ?k2;(case k1=>assumption);(case k2=>walk_at "rd")) | (refine' Ne.symm (ca ?k1 ?k2);(case k1=>assumption);(case k2=>walk_at "hl")) | (refine' Ne.symm (nG ?k1 ?k2);(case k1=>assumption);(case k2=>walk_at "rd")))
local macro_rules | `(tactic| walk_at "hl")=>`(tactic| with_reducible first | assumption | exact ax | (refine' bo ?k1 ?k2;(case k1=>walk_at "ne");(case k2=>walk_at "hl")) | (refine' Same.at ?k1 ?k2;(case k1=>assumption);(case k2=>walk_at "hl")))
local macro_rules | `(tactic| walk_at "rd")=>`(tactic| with_reducible first | assumption | (refine' Rd.of ?k1;(case k1=>walk_at "hl")) | (refine' Rd.upd ?k1 ?k2;(case k1=>walk_at "ne");(case k2=>walk_at "rd")) | (refine' Rd.same ?k1 ?k2;(case k1=>assumption);(case k2=>walk_at "rd")))
local macro_rules | `(tactic| walk_at "sq")=>`(tactic| with_reducible first | assumption | (refine' dG ?k1;(case k1=>walk_at "rd")) | (refine' oB ?k1;(case k1=>walk_at "rd")) | (refine' SqL.new ?k1 ?k2;(case k1=>assumption);(case k2=>walk_at "sq")) | (refine' Same.seq ?k1 ?k2;(case k1=>assumption);(case k2=>walk_at "sq")))
local macro_rules | `(tactic| walk_at "rf")=>`(tactic| first | with_unfolding_all rfl | assumption)
local macro_rules | `(tactic| walk_at "fl")=>`(tactic| first | with_unfolding_all rfl | exact qx _ | exact qN _)
local macro_rules | `(tactic| walk_at "s")=>`(tactic| with_reducible first
 | refine sX ?_ | refine yi ?_ | refine oy ?_ | refine AU ?_ | refine yw ?_ | refine st_retN ?_
 | refine vH ?_ | refine ve ?_ | refine jc ?_ | refine Ce ?_ | refine AI ?_ | refine yg ?_
 | refine yM ?_ | refine vJ ?_ | refine yW ?_ | refine vE ?_ | refine x_ ?_ | refine u_ ?_ | refine yR ?_
 | refine rZ ?_ | refine nN ?_ | refine AN ?_ | refine yN ?_ | refine vy ?_
 | refine kd ?_ | refine jd ?_ | refine y0 ?_ | refine yA ?_ | refine vj ?_ | refine vf ?_ | refine nM ?_
 | (refine' j8 ?k1 ?_;(case k1=>walk_at "rf")) | refine DQ ?_
 | refine yk ?_ | refine AE ?_ | (refine' fI ?k1 ?_;(case k1=>first | exact pP (by decide) | exact z_ (by decide) | decide | (show (0:Int)<_;decide)))
 | (refine' o6 ?k1 ?_;(case k1=>walk_at "rf")) | (refine' yK ?k1 ?_;(case k1=>walk_at "rf"))
 | (refine' bp ?k1 ?k2 ?_;(case k1=>walk_at "sq");(case k2=>walk_at "rf")) | (refine' yX ?k1 ?k2 ?_;(case k1=>walk_at "sq");(case k2=>walk_at "rf"))
 | (refine' je ?k1 ?_;(case k1=>walk_at "sq")) | (refine' jX ?k1 ?_;(case k1=>walk_at "sq"))
 | (refine' yQ ?k1 ?k2 ?k3 ?_;(case k1=>walk_at "sq");(case k2=>walk_at "rf");(case k3=>walk_at "fl"))
 | (refine' yn ?k1 ?k2 ?k3 ?_;(case k1=>walk_at "sq");(case k2=>walk_at "rf");(case k3=>walk_at "fl"))
 | (refine' tZ ?k1 ?_;(case k1=>walk_at "sq")) | refine st_min ?_ | refine vz ?_
 | refine AT ?_ | refine qt ?_ | refine uW ?_ | (refine' yG ?k1 ?_;(case k1=>walk_at "sq"))
 | refine vg ?_ | (refine' vo ?k1 ?k2 ?_;(case k1=>walk_at "hl");(case k2=>walk_at "rf")) | refine vp ?_
 | (refine' yZ ?k1 ?k2 ?k3 ?k4 ?_;(case k1=>walk_at "hl");(case k2=>assumption);(case k3=>assumption);(case k4=>walk_at "rf")) | (refine' vc ?k1 ?_;(case k1=>walk_at "hl"))
 | refine As ?_ | refine xV ?_ | refine u9 ?_ | refine tu ?_ | refine vi ?_ | refine uF ?_
 | refine yE ?_ | refine tE ?_ | (refine' yH ?k1 ?_;(case k1=>walk_at "sq")) | refine vD ?_ | refine AO ?_ | refine p6 ?_
 | (refine' AS ?k1 ?_;(case k1=>with_unfolding_all rfl))
 | (refine' yr ?k1 ?_;(case k1=>walk_at "hl")) | (refine' ud ?k1 ?_;(case k1=>walk_at "hl")))
local macro_rules | `(tactic| walk_at "g")=>`(tactic| repeat walk_at "s")
local macro_rules | `(tactic| walk_at "w")=>`(tactic| ((with_reducible refine xY ?_);intro p hp;generalize hH:upd _ p _=H';have hs:=vx hp hH;have hg:=A6 hH;clear hH))
local macro_rules | `(tactic| walk_at "sm")=>`(tactic| with_reducible first | assumption | exact Same.refl _ | (refine' Same.trans ?k1 ?k2;(case k2=>assumption);(case k1=>walk_at "sm")))
local macro_rules | `(tactic| walk_at "A")=>`(tactic| repeat (first | walk_at "s" | walk_at "w"))
structure HallS where
 hs:List HS
 ls:List aC
 un:List Nat
inductive Ans where
 | non | bl (b:Bool) | lines (ls:List aW) | pairs (ps:List (Int×aW))
def cY(x:Int×aW):PyData:=.tuple [.int x.1,bZ x.2]
def Ans.D:Ans→PyData
 | .non=>.none | .bl b=>.bool b | .lines ls=>cy ls | .pairs ps=>.list (ps.map cY)
def HallS.send(S:HallS)(sent:List aC):HallS:={ S with ls:=S.ls++sent,un:=S.un++(List.range sent.length).map (S.ls.length+·) }
def HallS.put(S:HallS)(i:Nat)(h:HS):HallS:={ S with hs:=S.hs.set i h }
def HallS.post(S:HallS)(i:Nat)(r:HS×List aC)(st:Bool):HallS:=if st=true then (S.put i r.1).send r.2 else S.put i r.1.stop
def HallS.lead(S:HallS)(n:Int):Nat:=(n % (S.hs.length:Int)).toNat
def HallS.begin(S:HallS)(n:Int)(st:Bool):HallS×Ans:=
 match S.hs[S.lead n]? with
 | none=>(S,.non)
 | some h=>if h.up=true∧aq h.book n=[] then (S.post (S.lead n) (h.begin n) st,.lines ((h.begin n).1.book.drop h.book.length)) else (S,.non)
def HallS.carryL(S:HallS)(l:aC)(st:Bool):HallS×Ans:=
 match S.hs[l.2.1.toNat]? with
 | none=>(S,.non)
 | some h=>if h.up=true then (S.post l.2.1.toNat (h.got l) st,.lines ((h.got l).1.book.drop h.book.length)) else (S,.non)
def HallS.carry(S:HallS)(k:Int)(st:Bool):HallS×Ans:=
 match S.ls[k.toNat]? with
 | none=>(S,.non)
 | some l=>S.carryL l st
def HallS.query(S:HallS)(i:Nat)(n:Int):HallS×Ans:=
 match S.hs[i]? with
 | none=>(S,.non)
 | some h=>(S.send (h.query n),.bl (decide (0<(h.query n).length)))
def HallS.stop(S:HallS)(i:Nat):HallS×Ans:=
 match S.hs[i]? with
 | none=>(S,.non)
 | some h=>if h.up=true then (S.put i h.stop,.bl true) else (S,.bl false)
def HallS.wake(S:HallS)(i:Nat):HallS×Ans:=
 match S.hs[i]? with
 | none=>(S,.non)
 | some h=>if h.up=true then (S,.non) else ((S.put i h.wake.1).send h.wake.2,.lines (h.wake.1.book.drop h.book.length))
def ju(l:aC):Ans→List (Int×aW)
 | .lines ls=>ls.map fun x=>(l.2.1,x)
 | _=>[]
def HallS.turn(S:HallS)(k:Nat):HallS×List (Int×aW):=
 match S.ls[k]? with
 | none=>(S,[])
 | some l=>((S.carryL l true).1,ju l (S.carryL l true).2)
def HallS.sweepGo:Nat→HallS→Nat→List (Int×aW)→Option (HallS×List (Int×aW))
 | 0,S,pl,w=>if pl<S.un.length then none else some (S,w)
 | f+1,S,pl,w=>if h:pl<S.un.length then (S.turn S.un[pl]).1.sweepGo f (pl+1) (w++(S.turn S.un[pl]).2) else some (S,w)
def HallS.spentAt(S:HallS)(k:Nat):Bool:=
 match S.ls[k]? with
 | none=>false
 | some l=>match S.hs[l.2.1.toNat]? with
  | none=>false
  | some h=>h.spent l
def HallS.trim(S:HallS):HallS:={ S with un:=S.un.filter fun k=>!S.spentAt k }
structure LetOk(c:Nat)(l:aC):Prop where
 g0:0≤l.1
 g1:l.1<c
 t0:0≤l.2.1
 t1:l.2.1<c
 w:l.2.2.2∈([("ask":Str),"yes","no","bound","off","query"]:List Str)
structure HallOk(c:Nat)(S:HallS):Prop where
 len:S.hs.length=c
 c1:2≤c
 c2:c≤20
 num:∀ (i:Nat) (h:HS),S.hs[i]?=some h→h.num=i∧h.oth=bP i c
 let_:∀ l∈S.ls,LetOk c l
 un:∀ k∈S.un,k<S.ls.length
variable {H:Hp}
theorem eW{a b:Addr}{o:HO}(h:H a=none)(h':H b=some o):a≠b:=fun e=>by rw [e,h'] at h;cases h
def jp(ph pl pu:Addr):List (Str×V):=[("houses",.ref ph),("letters",.ref pl),("unspent",.ref pu)]
structure HallIn(CH CX:Addr)(H:Hp)(q:Addr)(ps:Nat→Addr)(S:HallS)(R:List Addr)(N:Nat)(dx ph pl pu:Addr)(Rs:Nat→List Addr)(ys:List V):Prop where
 ob:H q=some (.ins CX dx (jp ph pl pu))
 oh:H ph=some (.lst ((List.range S.hs.length).map fun i=>.ref (ps i)))
 ol:H pl=some (.lst ys)
 ls:Reps H [] ys (S.ls.map bv)
 ou:H pu=some (.lst (S.un.map fun (k:Nat)=>.int k))
 hs:∀ i h,S.hs[i]?=some h→HouseAt CH H (ps i) h (Rs i) N
 dj:∀ i j a,i≠j→i<S.hs.length→j<S.hs.length→a∈Rs i→a∈Rs j→False
 nq:∀ i a,i<S.hs.length→a∈Rs i→a≠q∧a≠ph∧a≠pl∧a≠pu
 n1:ph≠pl
 n2:ph≠pu
 n3:pl≠pu
 m1:q∈R
 m2:ph∈R
 m3:pl∈R
 m4:pu∈R
 m5:∀ i a,i<S.hs.length→a∈Rs i→a∈R
 trk:∀ a∈R,∃ o,H a=some o
def HallAt(CH CX:Addr)(H:Hp)(q:Addr)(ps:Nat→Addr)(S:HallS)(R:List Addr)(N:Nat):Prop:=∃ dx ph pl pu Rs ys,HallIn CH CX H q ps S R N dx ph pl pu Rs ys
structure HMove(CH CX q:Addr)(ps:Nat→Addr)(H:Hp)(R:List Addr)(H':Hp)(S':HallS)(R':List Addr)(N':Nat):Prop where
 at_:HallAt CH CX H' q ps S' R' N'
 chg:Chg R H H'
 gr:Grow R H R'
 sb:∀ a∈R,a∈R'
variable {ps:Nat→Addr}
theorem HMove.trans{CH CX q:Addr}{H H1 H2:Hp}{R R1 R2:List Addr}{S1 S2:HallS}{N1 N2:Nat}(a:HMove CH CX q ps H R H1 S1 R1 N1)(b:HMove CH CX q ps H1 R1 H2 S2 R2 N2):HMove CH CX q ps H R H2 S2 R2 N2:=
 ⟨b.at_,a.chg.grow a.gr b.chg,a.gr.trans a.chg b.gr,fun x hx=>b.sb x (a.sb x hx)⟩
variable {CH CX:Addr}
variable {S:HallS}
variable {R:List Addr}
variable {N:Nat}
theorem HallIn.same{H H':Hp}{q:Addr}{dx ph pl pu:Addr}{Rs:Nat→List Addr}{ys:List V}(I:HallIn CH CX H q ps S R N dx ph pl pu Rs ys)(s:Same H H'):HallIn CH CX H' q ps S R N dx ph pl pu Rs ys:=
 { I with ob:=s _ _ I.ob,oh:=s _ _ I.oh,ol:=s _ _ I.ol,ls:=I.ls.same s,ou:=s _ _ I.ou,hs:=fun i h e=>(I.hs i h e).same s,trk:=fun a ha=>(by obtain ⟨o,e⟩:=I.trk a ha;exact ⟨o,s _ _ e⟩) }
theorem HallAt.same{H H':Hp}{q:Addr}(I:HallAt CH CX H q ps S R N)(s:Same H H'):HallAt CH CX H' q ps S R N:=by
 obtain ⟨dx,ph,pl,pu,Rs,ys,I⟩:=I
 exact ⟨dx,ph,pl,pu,Rs,ys,I.same s⟩
theorem HallAt.move{H H':Hp}{q:Addr}(I:HallAt CH CX H q ps S R N)(s:Same H H'):HMove CH CX q ps H R H' S R N:=⟨I.same s,.of_same s,.refl _ _,fun _ h=>h⟩
theorem HallIn.more{q:Addr}{N M:Nat}{dx ph pl pu:Addr}{Rs:Nat→List Addr}{ys:List V}(I:HallIn CH CX H q ps S R N dx ph pl pu Rs ys)(hN:N≤M):HallIn CH CX H q ps S R M dx ph pl pu Rs ys:=
 { I with hs:=fun i h e=>(I.hs i h e).more hN }
theorem HallAt.more{q:Addr}{N M:Nat}(I:HallAt CH CX H q ps S R N)(hN:N≤M):HallAt CH CX H q ps S R M:=by
 obtain ⟨dx,ph,pl,pu,Rs,ys,I⟩:=I
 exact ⟨dx,ph,pl,pu,Rs,ys,I.more hN⟩
theorem HMove.more{CH CX q:Addr}{H H':Hp}{R R':List Addr}{S':HallS}{N' M:Nat}(m:HMove CH CX q ps H R H' S' R' N')(hN:N'≤M):HMove CH CX q ps H R H' S' R' M:=⟨m.at_.more hN,m.chg,m.gr,m.sb⟩
theorem HallAt.trk{q:Addr}(I:HallAt CH CX H q ps S R N):∀ a∈R,∃ o,H a=some o:=by
 obtain ⟨dx,ph,pl,pu,Rs,ys,I⟩:=I
 exact I.trk
theorem HMove.free{CH CX q:Addr}{H H':Hp}{R R':List Addr}{S':HallS}{N':Nat}(m:HMove CH CX q ps H R H' S' R' N'){b:Addr}(hb:H' b=none):H b=none:=by
 cases e:H b with
 | none=>rfl
 | some o=>
  by_cases y:b∈R
  ·obtain ⟨o',e'⟩:=m.at_.trk b (m.sb b y)
   rw [hb] at e';cases e'
  ·rw [m.chg.keep b o e y] at hb;cases hb
variable {i:Nat}
theorem HallIn.step{H H1:Hp}{q:Addr}{N N1:Nat}{dx ph pl pu:Addr}{Rs:Nat→List Addr}{ys:List V}{h h1:HS}{Ri:List Addr}
    (I:HallIn CH CX H q ps S R N dx ph pl pu Rs ys)(hi:S.hs[i]?=some h)(m:Move CH (ps i) H (Rs i) H1 h1 Ri N1)(hN:N≤N1) :
    HallIn CH CX H1 q ps (S.put i h1) (Ri++R) N1 dx ph pl pu (fun j=>if j=i then Ri else Rs j) ys∧Chg R H H1∧Grow R H (Ri++R):=by
  have il:i<S.hs.length:=(lab.mp hi).1
  have hlen:(S.put i h1).hs.length=S.hs.length:=by show (S.hs.set i h1).length=_;rw [List.length_set]
  have kp:∀ a o,¬ a∈Rs i→H a=some o→H1 a=some o:=fun a o n e=>m.chg.keep a o e n
  have nqi:∀ a,(a=q∨a=ph∨a=pl∨a=pu)→¬ a∈Rs i:=fun a ha y=>by
    obtain ⟨e1,e2,e3,e4⟩:=I.nq i a il y
    rcases ha with z | z | z | z
    · exact e1 z
    · exact e2 z
    · exact e3 z
    · exact e4 z
  have new:∀ a,a∈Ri→a∈Rs i∨H a=none:=m.gr
  obtain ⟨dx1,po1,pa1,pk1,pc1,xs1,kvs1,J1⟩:=id m.at_
  refine ⟨{ ob:=kp _ _ (nqi _ (.inl rfl)) I.ob,oh:=?_,ol:=kp _ _ (nqi _ (.inr (.inr (.inl rfl)))) I.ol,ls:=bA I.ls m.chg,ou:=kp _ _ (nqi _ (.inr (.inr (.inr rfl)))) I.ou,hs:=?_,dj:=?_,nq:=?_,n1:=I.n1,n2:=I.n2,n3:=I.n3,
            m1:=lak _ I.m1,m2:=lak _ I.m2,m3:=lak _ I.m3,m4:=lak _ I.m4,m5:=?_,trk:=?_ },m.chg.mono (fun b hb=>I.m5 i b il hb),fun a ha=>?_⟩
  · rw [hlen];exact kp _ _ (nqi _ (.inr (.inl rfl))) I.oh
  · intro j g hj
    change (S.hs.set i h1)[j]?=some g at hj
    by_cases e:j=i
    · subst e
      rw [lao il] at hj
      cases hj
      show HouseAt CH H1 (ps j) h1 (if j=j then Ri else Rs j) N1
      rw [if_pos rfl];exact m.at_
    · rw [lar (Ne.symm e)] at hj
      have jl:j<S.hs.length:=(lab.mp hj).1
      show HouseAt CH H1 (ps j) g (if j=i then Ri else Rs j) N1
      rw [if_neg e]
      exact ((I.hs j g hj).chg m.chg fun a ha y=>I.dj j i a e jl il ha y).more hN
  · intro j k a e jl kl ja ka
    rw [hlen] at jl kl
    have old:∀ k,k≠i→k<S.hs.length→a∈Rs k→a∈Ri→False:=fun k e kl y y'=>by
      rcases new a y' with z | z
      · exact I.dj k i a e kl il y z
      · obtain ⟨o,eo⟩:=I.trk a (I.m5 k a kl y)
        rw [z] at eo;cases eo
    by_cases e1:j=i
    · have e2:¬ k=i:=fun z=>e (e1.trans z.symm)
      rw [if_pos e1] at ja;rw [if_neg e2] at ka
      exact old k e2 kl ka ja
    · rw [if_neg e1] at ja
      by_cases e2:k=i
      · rw [if_pos e2] at ka
        exact old j e1 jl ja ka
      · rw [if_neg e2] at ka
        exact I.dj j k a e jl kl ja ka
  · intro j a jl ja
    rw [hlen] at jl
    by_cases e:j=i
    · rw [if_pos e] at ja
      rcases new a ja with z | z
      · exact I.nq i a il z
      · exact ⟨eW z I.ob,eW z I.oh,eW z I.ol,eW z I.ou⟩
    · rw [if_neg e] at ja
      exact I.nq j a jl ja
  · intro j a jl ja
    rw [hlen] at jl
    by_cases e:j=i
    · rw [if_pos e] at ja;exact lal _ ja
    · rw [if_neg e] at ja;exact lak _ (I.m5 j a jl ja)
  · intro a ha
    rcases lap.mp ha with z | z
    · exact J1.trk a z
    · by_cases y:a∈Rs i
      · exact J1.trk a (m.sb a y)
      · obtain ⟨o,e⟩:=I.trk a z
        exact ⟨o,kp _ _ y e⟩
  · rcases lap.mp ha with z | z
    · exact (new a z).imp (fun y=>I.m5 i a il y) id
    · exact .inl z
theorem wH(a b:Nat):j5 (a:Int) ((a+b:Nat):Int)=((List.range b).map (a+·)).map fun k=>V.int (k:Nat):=by
 unfold j5
 rw [show (((a+b:Nat):Int) - (a:Int)).toNat=b from by omega,List.map_map]
 refine List.map_congr_left fun k _=>?_
 show V.int ((a:Int)+(k:Int))=V.int ((a+k:Nat):Int)
 rw [Int.natCast_add]
def cL(CH CX:Addr):Sp:=fun vs H Q _=>∃ q a ps S R N sent,vs=[.ref q,.ref a]∧HallAt CH CX H q ps S R N∧LL H R (.ref a) sent∧S.ls.length+sent.length≤900000∧S.un.length+sent.length≤900000∧
 ∀ H',HMove CH CX q ps H R H' (S.send sent) R N→Q .non H'
variable {K:W.Frag}
variable {vs:List V}
variable {Q:VK}
variable {E:XK}
theorem Ig(T:dl K CX)(h:cL CH CX vs H Q E):vZ K { nx:=fun _ H'=>Q .non H',rt:=Q } (start ["self","sent","first"] vs) H:=by
  obtain ⟨q,a,ps,S,R,N,sent,rfl,⟨dx,ph,pl,pu,Rs,ys,I⟩,⟨a',zs,ea,ga,na,rz⟩,hl,hu,k⟩:=h
  cases ea
  obtain ⟨cl,f1,f2,f3⟩:=T
  have ob:=I.ob
  have ol:=I.ol
  have ou:=I.ou
  have hyl:ys.length=S.ls.length:=by rw [I.ls.length,laa]
  have hzl:zs.length=sent.length:=by rw [rz.length,laa]
  unfold vZ
  walk_at "g"
  refine ⟨.inl ⟨rfl,_,b7 ol⟩,?_⟩
  walk_at "g"
  refine eP ol ga (by rw [sizeLine_eq];omega) ?_
  have npa:a≠pl:=fun e=>na (e▸I.m3)
  have c1:Chg [pl] H (upd H pl (.lst (ys++zs))):=.set (by rw [ol];exact True.intro) (by simp)
  have ob1:upd H pl (.lst (ys++zs)) q=_:=bo (dJ ob ol (by intro z;cases z)) ob
  have ou1:upd H pl (.lst (ys++zs)) pu=_:=bo I.n3.symm ou
  have oh1:upd H pl (.lst (ys++zs)) ph=_:=bo I.n1 I.oh
  have ol1:upd H pl (.lst (ys++zs)) pl=some (.lst (ys++zs)):=ax
  have t1:=fq (a:=pl) (o:=.lst (ys++zs)) I.trk
  generalize upd H pl (.lst (ys++zs))=H1 at *
  walk_at "g"
  refine ⟨.inl ⟨rfl,_,b7 ou1⟩,?_⟩
  walk_at "g"
  refine ⟨_,_,rfl,fun r hr=>?_⟩
  have s2:Same H1 (upd H1 r (.rng (ys.length:Int) ((ys++zs).length:Nat))):=Same.new hr
  have gr:upd H1 r (.rng (ys.length:Int) ((ys++zs).length:Nat)) r=some (.rng (ys.length:Int) ((ys++zs).length:Nat)):=ax
  generalize upd H1 r (.rng (ys.length:Int) ((ys++zs).length:Nat))=H2 at *
  walk_at "g"
  refine ⟨r,_,_,rfl,gr,⟨by omega,by omega,by omega,by rw [laf];omega⟩,by rw [laf];omega,fun l hl'=>?_⟩
  rw [laf,wH,hyl,hzl]
  have s3:Same H2 (upd H2 l (.lst (((List.range sent.length).map (S.ls.length+·)).map fun k=>V.int (k:Nat)))):=Same.new hl'
  have g3:upd H2 l (.lst (((List.range sent.length).map (S.ls.length+·)).map fun k=>V.int (k:Nat))) l=some (.lst (((List.range sent.length).map (S.ls.length+·)).map fun k=>V.int (k:Nat))):=ax
  generalize upd H2 l (.lst (((List.range sent.length).map (S.ls.length+·)).map fun k=>V.int (k:Nat)))=H3 at *
  have s13:=s2.trans s3
  have ou3:=s13 _ _ ou1
  walk_at "g"
  refine eP ou3 g3 (by simp only [List.length_map,List.length_range];rw [sizeLine_eq];omega) ?_
  have eun:(S.un.map fun k=>V.int (k:Nat))++(((List.range sent.length).map (S.ls.length+·)).map fun k=>V.int (k:Nat))=(S.send sent).un.map fun k=>V.int (k:Nat):=by
    show _=(S.un++(List.range sent.length).map (S.ls.length+·)).map _
    rw [lai]
  rw [eun]
  have c4:Chg [pu] H3 (upd H3 pu (.lst ((S.send sent).un.map fun k=>V.int (k:Nat)))):=.set (by rw [ou3];exact True.intro) (by simp)
  have cA:Chg [pl,pu] H (upd H3 pu (.lst ((S.send sent).un.map fun k=>V.int (k:Nat)))):=((c1.mono (by simp)).trans (.of_same s13)).trans (c4.mono (by simp))
  have kp:∀ {a:Addr} {o:HO},H1 a=some o→a≠pu→upd H3 pu (.lst ((S.send sent).un.map fun k=>V.int (k:Nat))) a=some o:=fun z1 z2=>bo z2 (s13 _ _ z1)
  refine k _ ⟨⟨dx,ph,pl,pu,Rs,ys++zs,?_⟩,cA.mono (fun b hb=>?_),.refl _ _,fun _ h=>h⟩
  · exact { ob:=kp ob1 (dJ ob ou (by intro z;cases z)),oh:=kp oh1 I.n2,ol:=kp ol1 I.n3,
            ls:=(by
              show Reps _ _ _ ((S.ls++sent).map bv)
              rw [lai]
              exact (bA I.ls cA).append (cG (bA rz cA))),
            ou:=ax,hs:=fun i h e=>(I.hs i h e).chg cA (fun b hb y=>(by
              have il:i<S.hs.length:=(lab.mp (show S.hs[i]?=some h from e)).1
              obtain ⟨_,_,e3,e4⟩:=I.nq i b il hb
              simp only [List.mem_cons,List.not_mem_nil,or_false] at y
              rcases y with z | z
              · exact e3 z
              · exact e4 z)),
            dj:=I.dj,nq:=I.nq,n1:=I.n1,n2:=I.n2,n3:=I.n3,m1:=I.m1,m2:=I.m2,m3:=I.m3,m4:=I.m4,m5:=I.m5,
            trk:=fq fun a ha=>(by obtain ⟨o,e⟩:=t1 a ha;exact ⟨o,s13 _ _ e⟩) }
  · simp only [List.mem_cons,List.not_mem_nil,or_false] at hb
    rcases hb with rfl | rfl
    · exact I.m3
    · exact I.m4
theorem HallAt.step{H H1:Hp}{q:Addr}{N N1:Nat}{dx ph pl pu:Addr}{Rs:Nat→List Addr}{ys:List V}{h h1:HS}{Ri:List Addr}
  (I:HallIn CH CX H q ps S R N dx ph pl pu Rs ys)(hi:S.hs[i]?=some h)(m:Move CH (ps i) H (Rs i) H1 h1 Ri N1)(hN:N≤N1):HMove CH CX q ps H R H1 (S.put i h1) (Ri++R) N1:=by
 obtain ⟨J,c,g⟩:=I.step hi m hN
 exact ⟨⟨_,_,_,_,_,_,J⟩,c,g,fun a ha=>lak _ ha⟩
theorem LL.wide{H0 H:Hp}{R R':List Addr}{v:V}{ls:List aC}(h:LL H R v ls)(f:Fresh H0 v)(t:∀ a∈R',∃ o,H0 a=some o):LL H (R++R') v ls:=by
 obtain ⟨l,ys,rfl,g,n,r⟩:=h
 refine ⟨l,ys,rfl,g,fun y=>?_,cG r⟩
 rcases lap.mp y with z | z
 ·exact n z
 ·exact dv t (f l rfl) z
def dZ(CH CX:Addr):Sp:=fun vs H Q _=>∃ q a ps S R N i h st sent,vs=[.ref q,.ref (ps i),.ref a,.bl st]∧HallAt CH CX H q ps S R N∧S.hs[i]?=some h∧LL H R (.ref a) sent∧S.ls.length+sent.length≤900000∧S.un.length+sent.length≤900000∧
 ∀ H' R',HMove CH CX q ps H R H' (if st=true then S.send sent else S.put i h.stop) R' N→Q .non H'
theorem Fp(T:dl K CX)(TH:bI K CH)(h:dZ CH CX vs H Q E) :
  vV K (cL CH CX) (d5 CH) CX CH { nx:=fun _ H'=>Q .non H',rt:=Q } (start ["self","house","sent","stays"] vs) H:=by
 obtain ⟨q,a,ps,S,R,N,i,h,st,sent,rfl,I,hi,ll,hl,hu,k⟩:=h
 obtain ⟨dx,ph,pl,pu,Rs,ys,I0⟩:=id I
 have ob:=I0.ob
 have il:i<S.hs.length:=(lab.mp hi).1
 obtain ⟨dx1,po1,pa1,pk1,pc1,xs1,kvs1,J1⟩:=id (I0.hs i h hi)
 have obh:=J1.ob
 unfold vV
 walk_at "g"
 cases st with
 | true=>
  rw [if_pos rfl]
  walk_at "g"
  exact ⟨q,a,ps,S,R,N,sent,rfl,I,ll,hl,hu,fun H' m=>k H' R m⟩
 | false=>
  rw [if_neg (by decide)]
  walk_at "g"
  exact ⟨ps i,h,Rs i,N,rfl,I0.hs i h hi,fun H' Ri m=>k H' _ (HallAt.step I0 hi m (lat _))⟩
variable {xs:List V}
theorem mD(h:i≤xs.length):iV xs (some (i:Int)) none=xs.drop i:=by
 unfold iV
 have e1:HT.sIx xs.length 0 (some (i:Int))=i:=by
  unfold HT.sIx
  simp only
  rw [if_neg (by omega)]
  simp;omega
 have e2:HT.sIx xs.length xs.length none=xs.length:=rfl
 rw [e1,e2,List.take_of_length_le (by rw [List.length_drop];exact lat _)]
theorem gK{n:Nat}(h:i<n):gD ((List.range n).map fun i=>V.ref (ps i)) (i:Int)=some (.ref (ps i)):=cf (by rw [lae,laD h];rfl)
variable {h:HS}
theorem mS{CH:Addr}{p:Addr}{R T:List Addr}{dx po pa pk pc:Addr}{z:Pg}(I:HouseIn CH H p h R N dx po pa pk pc xs z)(i:Nat):Reps H T (xs.drop i) ((h.book.drop i).map bZ):=by
 have:=(I.bs).drop i
 rw [← List.map_drop] at this
 exact ff this
def HRet(CH CX q:Addr)(ps:Nat→Addr)(H:Hp)(R:List Addr)(N:Nat)(r:HallS×Ans)(Q:VK):Prop:=∀ v H' R',HMove CH CX q ps H R H' r.1 R' N→Rep H' R' v r.2.D→Fresh H v→Q v H'
theorem HRet.after{CH CX q:Addr}{H H1:Hp}{R R1:List Addr}{N N1:Nat}{S1:HallS}{r:HallS×Ans}(k:HRet CH CX q ps H R N r Q)(m:HMove CH CX q ps H R H1 S1 R1 N1):HRet CH CX q ps H1 R1 N r Q:=
 fun v H' R' m' l f=>k v H' R' (m.trans m') l fun a e=>m.free (f a e)
theorem HRet.less{CH CX q:Addr}{N M:Nat}{r:HallS×Ans}(k:HRet CH CX q ps H R N r Q)(h:M≤N):HRet CH CX q ps H R M r Q:=fun v H' R' m=>k v H' R' (m.more h)
theorem HRet.plain{CH CX q:Addr}{N M:Nat}{a:Ans}{v:V}(k:HRet CH CX q ps H R N (S,a) Q)(I:HallAt CH CX H q ps S R M)(hM:M≤N)(r:Rep H R v a.D)(f:Fresh H v):Q v H:=
 k v H R ((I.move (Same.refl _)).more hM) r f
theorem dO(H:Hp):Fresh H .non:=fun _ e=>by cases e
theorem fO(H:Hp)(b:Bool):Fresh H (.bl b):=fun _ e=>by cases e
theorem HRet.rest{CH CX q:Addr}{H H2:Hp}{N M:Nat}{ls:List aW}{p:Addr}{zs:List V}(k:HRet CH CX q ps H R N (S,.lines ls) Q)(I:HallAt CH CX H q ps S R M)(hM:M≤N)(s:Same H H2)(hp:H p=none)(g:H2 p=some (.lst zs))(rz:Reps H2 R zs (ls.map bZ)):Q (.ref p) H2:=
 k _ _ R ((I.move s).more hM) (.lst (.inl g) (dv I.trk hp) rz) (by rintro _ ⟨⟩;exact hp)
structure jA(S:HallS)(N:Nat):Prop where
 n:N≤700000
 l:S.ls.length≤800000
 u:S.un.length≤800000
variable {c:Nat}
theorem HallOk.lead(ok:HallOk c S)(n:Int):∃ h,S.hs[S.lead n]?=some h∧S.lead n<S.hs.length∧((S.lead n:Nat):Int)=n % (S.hs.length:Int):=by
 have h0:(0:Int)<(S.hs.length:Int):=by have:=ok.len;have:=ok.c1;omega
 have h1:=Int.emod_nonneg n (Int.ne_of_gt h0)
 have h2:=Int.emod_lt_of_pos n h0
 have h3:S.lead n<S.hs.length:=by unfold HallS.lead;omega
 exact ⟨_,lad h3,h3,by unfold HallS.lead;omega⟩
theorem jE(h:HS)(n:Int):(h.begin n).2.length≤h.oth.length:=by
 unfold HS.begin
 split
 ·exact laI _
 ·show (h.oth.map _).length≤_;rw [laa];exact lat _
theorem HallOk.oth(ok:HallOk c S){i:Nat}{h:HS}(hi:S.hs[i]?=some h):h.oth.length≤20:=by
 rw [(ok.num i h hi).2];exact las (fG _ _) ok.c2
theorem cS{h g:HS}(hi:S.hs[i]?=some h):(S.put i g).hs[i]?=some g:=by
 show (S.hs.set i g)[i]?=some g
 exact lao (lab.mp hi).1
theorem d_(S:HallS)(i:Nat)(g g':HS):(S.put i g).put i g'=S.put i g':=by
 show HallS.mk ((S.hs.set i g).set i g') S.ls S.un=HallS.mk (S.hs.set i g') S.ls S.un
 rw [List.set_set]
theorem jf{r:HS×List aC}{st:Bool}(hi:S.hs[i]?=some h):∃ g,(S.post i r st).hs[i]?=some g∧g.book=r.1.book:=by
 unfold HallS.post
 cases st with
 | true=>exact ⟨r.1,cS hi,rfl⟩
 | false=>exact ⟨r.1.stop,cS hi,rfl⟩
def ib(CH CX:Addr):Sp:=fun vs H Q _=>∃ q ps S R N c n st,vs=[.ref q,.int n,.bl st]∧HallAt CH CX H q ps S R N∧HallOk c S∧jA S N∧HRet CH CX q ps H R (N+3) (S.begin n st) Q
theorem Iv(T:dl K CX)(TH:bI K CH)(h:ib CH CX vs H Q E) :
  wf K cM (ig CH) (dZ CH CX) CH CX { nx:=fun _ H'=>Q .non H',rt:=Q } (start ["self","bargain","stays","house","ahead"] vs) H:=by
 obtain ⟨q,ps,S,R,N,c,n,st,rfl,I,ok,sm,k⟩:=h
 obtain ⟨cl,f1,f2,f3⟩:=T
 obtain ⟨clh,g1,g2,g3,g4,g5,g6,g7,g8⟩:=TH
 obtain ⟨dx,ph,pl,pu,Rs,ys,I0⟩:=id I
 have ob:=I0.ob
 have oh:=I0.oh
 obtain ⟨h,hi,il,hlead⟩:=ok.lead n
 obtain ⟨dx1,po1,pa1,pk1,pc1,xs1,z1,J⟩:=id (I0.hs _ h hi)
 have obh:=J.ob
 have bkh:=J.bk
 have hN:=sm.n
 have hl:=sm.l
 have hu:=sm.u
 have hol:=ok.oth hi
 have hc:(S.hs.length:Int)=(c:Int):=by rw [ok.len]
 have hc1:=ok.c1
 have hc2:=ok.c2
 have hxl:xs1.length=h.book.length:=by rw [J.bs.length,laa]
 have hb1:=J.l1
 unfold wf
 unfold HallS.begin at k
 rw [hi] at k
 dsimp only at k
 generalize hI:S.lead n=i at *
 walk_at "g"
 refine fI (show (0:Int)<(((List.range S.hs.length).map fun i=>V.ref (ps i)).length:Int) by rw [laa,laq];omega) ?_
 refine bp (b7 oh) (by simp only [List.length_map,List.length_range];rw [← hlead];exact gK il) ?_
 walk_at "g"
 cases hup:h.up with
 | false=>
  rw [hup] at k
  rw [if_neg (by simp)] at k
  rw [if_pos (by rfl),if_pos (by rfl)]
  walk_at "g"
  exact k.plain I (by omega) .non (dO _)
 | true=>
  rw [hup] at k
  rw [if_neg (by decide)]
  walk_at "g"
  refine ⟨pk1,h.book,n,rfl,J.rep,by omega,fun H1 s1=>?_⟩
  have J1:=J.same s1
  have obh1:=J1.ob
  have bkh1:=J1.bk
  have ob1:=s1 _ _ ob
  have k1:=k.after (I.move s1)
  walk_at "g"
  by_cases e:aq h.book n=[]
  ·rw [if_neg (by simp [e])]
   rw [if_pos ⟨rfl,e⟩] at k1
   walk_at "g"
   refine ⟨ps i,n,h,Rs i,N,rfl,(I0.hs _ h hi).same s1,by omega,by omega,fun v H2 Ri m2 ll f=>?_⟩
   have I1:=I0.same s1
   have M2:=HallAt.step I1 hi m2 (by omega)
   obtain ⟨l,zs,rfl,gl,nl,rl⟩:=id ll
   walk_at "g"
   refine ⟨q,l,ps,_,_,N+1,i,(h.begin n).1,st,(h.begin n).2,rfl,M2.at_,cS hi,ll.wide f I1.trk,?_,?_,fun H3 R3 M3=>?_⟩
   ·have:=jE h n;show S.ls.length+_≤_;omega
   ·have:=jE h n;show S.un.length+_≤_;omega
   have hpost:(if st=true then (S.put i (h.begin n).1).send (h.begin n).2 else (S.put i (h.begin n).1).put i (h.begin n).1.stop)=S.post i (h.begin n) st:=by unfold HallS.post;rw [d_]
   rw [hpost] at M3
   obtain ⟨g,hg,hgb⟩:=jf (r:=h.begin n) (st:=st) hi
   obtain ⟨dx3,ph3,pl3,pu3,Rs3,ys3,I3⟩:=id M3.at_
   obtain ⟨dx4,po4,pa4,pk4,pc4,xs4,z4,J4⟩:=id (I3.hs i g hg)
   have obh4:=J4.ob
   have bkh4:=J4.bk
   walk_at "A"
   rename_i pz hpz H5 s5 g5'
   refine ((k1.after M2).after M3).rest M3.at_ (by omega) s5 hpz g5' ?_
   rw [hxl,mD ?_]
   ·rw [← hgb];exact (mS J4 _).same s5
   ·have:xs4.length=g.book.length:=by rw [J4.bs.length,laa]
    rw [this,hgb]
    unfold HS.begin HS.wr
    split <;> simp
  ·rw [if_pos (by simp [e])]
   rw [if_neg (fun z=>e z.2)] at k1
   walk_at "g"
   exact k1.plain (I.same s1) (by omega) .non (dO _)
theorem nJ(h:HS)(l:aC):(h.got l).2.length≤h.oth.length+1:=by
 unfold HS.got HS.gotAsk HS.gotQuery HS.gotVote HS.gotDecision HS.decide HS.toOthers HS.count
 repeat' split
 all_goals simp
theorem Ai(h:HS)(l:aC):h.book.length≤(h.got l).1.book.length:=by
 unfold HS.got HS.gotAsk HS.asked HS.gotQuery HS.gotVote HS.gotDecision HS.decide HS.wr HS.count
 repeat' split
 all_goals simp
variable {l:aC}
theorem LetOk.str(h:LetOk c l):PyData.strOk l.2.2.2=true:=jm (by
 have:=h.w
 simp only [List.mem_cons,List.not_mem_nil,or_false] at this ⊢
 rcases this with z | z | z | z | z | z <;> simp [z])
theorem LetOk.to(h:LetOk c l)(hl:S.hs.length=c):∃ g,S.hs[l.2.1.toNat]?=some g∧l.2.1.toNat<S.hs.length∧((l.2.1.toNat:Nat):Int)=l.2.1:=by
 have h0:=h.t0
 have h1:=h.t1
 have h3:l.2.1.toNat<S.hs.length:=by omega
 exact ⟨_,lad h3,h3,by omega⟩
def dS(CH CX:Addr):Sp:=fun vs H Q _=>∃ q ps S R N c k st,vs=[.ref q,.int k,.bl st]∧0≤k∧HallAt CH CX H q ps S R N∧HallOk c S∧jA S N∧HRet CH CX q ps H R (N+3) (S.carry k st) Q
theorem FT(T:dl K CX)(TH:bI K CH)(h:dS CH CX vs H Q E) :
  wP K (g_ CH) (dZ CH CX) CH CX { nx:=fun _ H'=>Q .non H',rt:=Q } (start ["self","which","stays","letter","house","ahead"] vs) H:=by
 obtain ⟨q,ps,S,R,N,c,w,st,rfl,hw,I,ok,sm,k⟩:=h
 obtain ⟨cl,f1,f2,f3⟩:=T
 obtain ⟨clh,g1,g2,g3,g4,g5,g6,g7,g8⟩:=TH
 obtain ⟨dx,ph,pl,pu,Rs,ys,I0⟩:=id I
 have ob:=I0.ob
 have oh:=I0.oh
 have ol:=I0.ol
 have hyl:ys.length=S.ls.length:=by rw [I0.ls.length,laa]
 have hN:=sm.n
 have hl:=sm.l
 have hu:=sm.u
 unfold wP
 unfold HallS.carry at k
 walk_at "g"
 by_cases lt:(S.ls.length:Int)≤w
 ·rw [if_pos (by simp only [decide_eq_true_eq];show (ys.length:Int)≤w;omega)]
  rw [List.getElem?_eq_none (by omega)] at k
  walk_at "g"
  exact k.plain I (by omega) .non (dO _)
 rw [if_neg (by simp only [decide_eq_true_eq];show ¬ (ys.length:Int)≤w;omega)]
 have wl:w.toNat<S.ls.length:=by omega
 have hw':((w.toNat:Nat):Int)=w:=by omega
 obtain ⟨l,hl'⟩:∃ l,S.ls[w.toNat]?=some l:=⟨_,lad wl⟩
 rw [hl'] at k
 dsimp only at k
 have lok:=ok.let_ l (lam hl')
 obtain ⟨h,hi,il,hto⟩:=lok.to ok.len
 obtain ⟨x,hx,rx⟩:=I0.ls.getD (i:=w.toNat) (d:=bv l) (by rw [lae,hl'];rfl)
 obtain ⟨l0,t,e0,rfl,rt⟩:=fZ I0.ls hx
 rw [hl'] at e0
 cases e0
 unfold HallS.carryL at k
 rw [hi] at k
 dsimp only at k
 obtain ⟨dx1,po1,pa1,pk1,pc1,xs1,z1,J⟩:=id (I0.hs _ h hi)
 have obh:=J.ob
 have bkh:=J.bk
 have hol:=ok.oth hi
 have hxl:xs1.length=h.book.length:=by rw [J.bs.length,laa]
 have hb1:=J.l1
 generalize hI:l.2.1.toNat=i at *
 walk_at "g"
 refine bp (b7 ol) (by rw [← hw'];exact cf hx) ?_
 walk_at "g"
 refine bp (b7 oh) (by rw [← hto];exact gK il) ?_
 walk_at "g"
 cases hup:h.up with
 | false=>
  rw [hup] at k
  rw [if_neg (by simp)] at k
  rw [if_pos (by rfl)]
  walk_at "g"
  exact k.plain I (by omega) .non (dO _)
 | true=>
  rw [hup] at k
  rw [if_pos rfl] at k
  rw [if_neg (by decide)]
  walk_at "g"
  refine ⟨ps i,t,l,h,Rs i,N,rfl,I0.hs _ h hi,rt,by omega,by omega,lok.str,fun v H2 Ri m2 ll f=>?_⟩
  have M2:=HallAt.step I0 hi m2 (by omega)
  obtain ⟨l2,zs,rfl,gl,nl,rl⟩:=id ll
  walk_at "g"
  refine ⟨q,l2,ps,_,_,N+3,i,(h.got l).1,st,(h.got l).2,rfl,M2.at_,cS hi,ll.wide f I0.trk,?_,?_,fun H3 R3 M3=>?_⟩
  ·have:=nJ h l;show S.ls.length+_≤_;omega
  ·have:=nJ h l;show S.un.length+_≤_;omega
  have hpost:(if st=true then (S.put i (h.got l).1).send (h.got l).2 else (S.put i (h.got l).1).put i (h.got l).1.stop)=S.post i (h.got l) st:=by unfold HallS.post;rw [d_]
  rw [hpost] at M3
  obtain ⟨g,hg,hgb⟩:=jf (r:=h.got l) (st:=st) hi
  obtain ⟨dx3,ph3,pl3,pu3,Rs3,ys3,I3⟩:=id M3.at_
  obtain ⟨dx4,po4,pa4,pk4,pc4,xs4,z4,J4⟩:=id (I3.hs i g hg)
  have obh4:=J4.ob
  have bkh4:=J4.bk
  walk_at "A"
  rename_i pz hpz H5 s5 g5'
  refine ((k.after M2).after M3).rest M3.at_ (by omega) s5 hpz g5' ?_
  rw [hxl,mD ?_]
  ·rw [← hgb];exact (mS J4 _).same s5
  ·have:xs4.length=g.book.length:=by rw [J4.bs.length,laa]
   rw [this,hgb]
   exact Ai h l
theorem mR(h:HS)(n:Int):(h.query n).length≤h.oth.length:=by
 unfold HS.query HS.toOthers
 split <;> simp
def ix(CH CX:Addr):Sp:=fun vs H Q _=>∃ q ps S R N c,∃ i:Nat,∃ n:Int,vs=[.ref q,.int i,.int n]∧i<S.hs.length∧HallAt CH CX H q ps S R N∧HallOk c S∧jA S N∧HRet CH CX q ps H R N (S.query i n) Q
theorem dB(hi:S.hs[i]?=some h):S.put i h=S:=by
 show HallS.mk (S.hs.set i h) S.ls S.un=S
 have:S.hs.set i h=S.hs:=by
  refine List.ext_getElem? fun j=>?_
  by_cases e:i=j
  ·subst e
   rw [lao (lab.mp hi).1,hi]
  ·rw [lar e]
 rw [this]
theorem D6(T:dl K CX)(TH:bI K CH)(h:ix CH CX vs H Q E) :
  wL K (iy CH) (cL CH CX) CH CX { nx:=fun _ H'=>Q .non H',rt:=Q } (start ["self","number","bargain","sent"] vs) H:=by
 obtain ⟨q,ps,S,R,N,c,i,n,rfl,il,I,ok,sm,k⟩:=h
 obtain ⟨cl,f1,f2,f3⟩:=T
 obtain ⟨dx,ph,pl,pu,Rs,ys,I0⟩:=id I
 have ob:=I0.ob
 have oh:=I0.oh
 have hN:=sm.n
 have hl:=sm.l
 have hu:=sm.u
 obtain ⟨h,hi⟩:∃ h,S.hs[i]?=some h:=⟨_,lad il⟩
 have hol:=ok.oth hi
 obtain ⟨dx1,po1,pa1,pk1,pc1,xs1,z1,J⟩:=id (I0.hs _ h hi)
 have obh:=J.ob
 unfold wL
 unfold HallS.query at k
 rw [hi] at k
 dsimp only at k
 walk_at "g"
 refine bp (b7 oh) (gK il) ?_
 walk_at "g"
 refine ⟨ps i,n,h,Rs i,N,rfl,I0.hs _ h hi,by omega,by omega,fun v H2 Ri m2 ll f=>?_⟩
 have M2:=HallAt.step I0 hi m2 (lat _)
 rw [dB hi] at M2
 obtain ⟨dx2,ph2,pl2,pu2,Rs2,ys2,I2⟩:=id M2.at_
 have ob2:=I2.ob
 have lw:=ll.wide f I0.trk
 obtain ⟨l2,zs,rfl,gl,nl,rl⟩:=id lw
 have hzl:zs.length=(h.query n).length:=by rw [rl.length,laa]
 walk_at "g"
 refine ⟨q,l2,ps,S,_,N,h.query n,rfl,M2.at_,lw,?_,?_,fun H3 M3=>?_⟩
 ·have:=mR h n;omega
 ·have:=mR h n;omega
 have gl3:=M3.chg.keep _ _ gl nl
 walk_at "g"
 have kk:=((k.after M2).after M3).plain (v:=.bl (decide (0<(h.query n).length))) M3.at_ (lat _) (.bl _) (fO _ _)
 rw [hzl]
 have e:decide ((0:Int)<((h.query n).length:Int))=decide (0<(h.query n).length):=by
  by_cases z:0<(h.query n).length
  ·rw [decide_eq_true z,decide_eq_true (by omega)]
  ·rw [decide_eq_false z,decide_eq_false (by omega)]
 rw [← e] at kk
 exact kk
def h8(CH CX:Addr):Sp:=fun vs H Q _=>∃ q ps S R N,∃ i:Nat,vs=[.ref q,.int i]∧i<S.hs.length∧HallAt CH CX H q ps S R N∧HRet CH CX q ps H R N (S.stop i) Q
theorem Gj(T:dl K CX)(TH:bI K CH)(h:h8 CH CX vs H Q E) :
  xy K (d5 CH) CH { nx:=fun _ H'=>Q .non H',rt:=Q } (start ["self","number","house"] vs) H:=by
 obtain ⟨q,ps,S,R,N,i,rfl,il,I,k⟩:=h
 obtain ⟨cl,f1,f2,f3⟩:=T
 obtain ⟨clh,g1,g2,g3,g4,g5,g6,g7,g8⟩:=TH
 obtain ⟨dx,ph,pl,pu,Rs,ys,I0⟩:=id I
 have ob:=I0.ob
 have oh:=I0.oh
 obtain ⟨h,hi⟩:∃ h,S.hs[i]?=some h:=⟨_,lad il⟩
 obtain ⟨dx1,po1,pa1,pk1,pc1,xs1,z1,J⟩:=id (I0.hs _ h hi)
 have obh:=J.ob
 unfold xy
 unfold HallS.stop at k
 rw [hi] at k
 dsimp only at k
 walk_at "g"
 refine bp (b7 oh) (gK il) ?_
 walk_at "g"
 cases hup:h.up with
 | false=>
  rw [hup] at k
  rw [if_neg (by simp)] at k
  rw [if_pos (by rfl)]
  walk_at "g"
  exact k.plain I (lat _) (.bl _) (fO _ _)
 | true=>
  rw [hup] at k
  rw [if_pos rfl] at k
  rw [if_neg (by decide)]
  walk_at "g"
  refine ⟨ps i,h,Rs i,N,rfl,I0.hs _ h hi,fun H2 Ri m2=>?_⟩
  have M2:=HallAt.step I0 hi m2 (lat _)
  walk_at "g"
  exact (k.after M2).plain M2.at_ (lat _) (.bl _) (fO _ _)
theorem oi(h:HS):h.wake.2.length=(bE h.book).length*h.oth.length:=by unfold HS.wake;rw [kK]
theorem jI(h:HS)(ns:List Int):(h.offAll ns).1.book=h.book++ns.map fun n=>(("off":Str),n):=by
 induction ns generalizing h with
 | nil=>simp [HS.offAll]
 | cons x r ih=>
  show (((h.decide x "off").1).offAll r).1.book=_
  rw [ih]
  show (h.book++[((("off":Str)),x)])++_=_
  simp
theorem mZ(h:HS):h.wake.1.book=h.book++(bE h.book).map fun n=>(("off":Str),n):=by unfold HS.wake;rw [jI]
def hZ(CH CX:Addr):Sp:=fun vs H Q _=>∃ q ps S R N c,∃ i:Nat,vs=[.ref q,.int i]∧i<S.hs.length∧HallAt CH CX H q ps S R N∧HallOk c S∧jA S N∧(∀ h,S.hs[i]?=some h→(bE h.book).length≤1000)∧HRet CH CX q ps H R (N+1000) (S.wake i) Q
theorem FA(T:dl K CX)(TH:bI K CH)(h:hZ CH CX vs H Q E) :
  wR K (iF CH) (cL CH CX) CH CX { nx:=fun _ H'=>Q .non H',rt:=Q } (start ["self","number","house","ahead"] vs) H:=by
 obtain ⟨q,ps,S,R,N,c,i,rfl,il,I,ok,sm,hlo,k⟩:=h
 obtain ⟨cl,f1,f2,f3⟩:=T
 obtain ⟨clh,g1,g2,g3,g4,g5,g6,g7,g8⟩:=TH
 obtain ⟨dx,ph,pl,pu,Rs,ys,I0⟩:=id I
 have ob:=I0.ob
 have oh:=I0.oh
 have hN:=sm.n
 have hl:=sm.l
 have hu:=sm.u
 obtain ⟨h,hi⟩:∃ h,S.hs[i]?=some h:=⟨_,lad il⟩
 have hlo':=hlo h hi
 have hol:=ok.oth hi
 obtain ⟨dx1,po1,pa1,pk1,pc1,xs1,z1,J⟩:=id (I0.hs _ h hi)
 have obh:=J.ob
 have bkh:=J.bk
 have hxl:xs1.length=h.book.length:=by rw [J.bs.length,laa]
 unfold wR
 unfold HallS.wake at k
 rw [hi] at k
 dsimp only at k
 walk_at "g"
 refine bp (b7 oh) (gK il) ?_
 walk_at "g"
 cases hup:h.up with
 | true=>
  rw [hup] at k
  rw [if_pos rfl] at k
  rw [if_pos (by rfl)]
  walk_at "g"
  exact k.plain I (by omega) .non (dO _)
 | false=>
  rw [hup] at k
  rw [if_neg (by simp)] at k
  rw [if_neg (by decide)]
  walk_at "g"
  refine ⟨ps i,h,Rs i,N,rfl,I0.hs _ h hi,by omega,by omega,hol,fun v H2 Ri m2 ll f=>?_⟩
  have M2:=HallAt.step I0 hi m2 (by omega)
  have lw:=ll.wide f I0.trk
  obtain ⟨l2,zs,rfl,gl,nl,rl⟩:=id lw
  have hsl:h.wake.2.length≤20000:=by
   rw [oi]
   exact las (Nat.mul_le_mul hlo' hol) (by decide)
  walk_at "g"
  refine ⟨q,l2,ps,S.put i h.wake.1,_,_,h.wake.2,rfl,M2.at_,lw,by show S.ls.length+_≤_;omega,by show S.un.length+_≤_;omega,fun H3 M3=>?_⟩
  obtain ⟨dx3,ph3,pl3,pu3,Rs3,ys3,I3⟩:=id M3.at_
  obtain ⟨dx4,po4,pa4,pk4,pc4,xs4,z4,J4⟩:=id (I3.hs i h.wake.1 (cS hi))
  have obh4:=J4.ob
  have bkh4:=J4.bk
  walk_at "A"
  rename_i pz hpz H5 s5 g5'
  refine ((k.after M2).after M3).rest M3.at_ (by omega) s5 hpz g5' ?_
  rw [hxl,mD ?_]
  ·exact (mS J4 _).same s5
  ·have:xs4.length=h.wake.1.book.length:=by rw [J4.bs.length,laa]
   rw [this,mZ,laf];omega
def iB(CH CX:Addr):Sp:=fun vs H Q _=>∃ q ps S R N c dx ph pl pu Rs ys,∃ k:Nat,vs=[.ref q,.int k]∧k<S.ls.length∧HallIn CH CX H q ps S R N dx ph pl pu Rs ys∧HallOk c S∧N≤800000∧
 ∀ H' R' Rs',HallIn CH CX H' q ps S R' N dx ph pl pu Rs' ys→Chg R H H'→Grow R H R'→(∀ a∈R,a∈R')→Q (.bl (S.spentAt k)) H'
theorem ER(T:dl K CX)(h:iB CH CX vs H Q E) :
  wS K (ir CH) CH { nx:=fun _ H'=>Q .non H',rt:=Q } (start ["self","which","letter"] vs) H:=by
 obtain ⟨q,ps,S,R,N,c,dx,ph,pl,pu,Rs,ys,w,rfl,wl,I0,ok,hN,k⟩:=h
 obtain ⟨cl,f1,f2,f3⟩:=T
 have ob:=I0.ob
 have oh:=I0.oh
 have ol:=I0.ol
 obtain ⟨l,hl'⟩:∃ l,S.ls[w]?=some l:=⟨_,lad wl⟩
 have lok:=ok.let_ l (lam hl')
 obtain ⟨h,hi,il,hto⟩:=lok.to ok.len
 obtain ⟨x,hx,rx⟩:=I0.ls.getD (i:=w) (d:=bv l) (by rw [lae,hl'];rfl)
 obtain ⟨l0,t,e0,rfl,rt⟩:=fZ I0.ls hx
 rw [hl'] at e0
 cases e0
 have hsp:S.spentAt w=h.spent l:=by unfold HallS.spentAt;rw [hl'];dsimp only;rw [hi]
 rw [hsp] at k
 obtain ⟨dx1,po1,pa1,pk1,pc1,xs1,z1,J⟩:=id (I0.hs _ h hi)
 have obh:=J.ob
 generalize hI:l.2.1.toNat=i at *
 unfold wS
 walk_at "g"
 refine bp (b7 ol) (cf hx) ?_
 walk_at "g"
 refine bp (b7 oh) (by rw [← hto];exact gK il) ?_
 walk_at "g"
 refine ⟨ps i,t,l,h,Rs i,N,rfl,I0.hs _ h hi,rt,hN,fun H2 Ri m2=>?_⟩
 obtain ⟨J2,c2,g2⟩:=I0.step hi m2 (lat _)
 rw [dB hi] at J2
 exact k _ _ _ J2 c2 g2 fun a ha=>lak _ ha
theorem BT(h:HS)(l:aC):(h.got l).1.num=h.num:=by
 unfold HS.got HS.gotAsk HS.asked HS.gotQuery HS.gotVote HS.gotDecision HS.decide HS.count HS.wr
 repeat' split
 all_goals rfl
theorem xZ(h:HS)(l:aC):(h.got l).1.book.length≤h.book.length+1:=by
 unfold HS.got HS.gotAsk HS.asked HS.gotQuery HS.gotVote HS.gotDecision HS.decide HS.wr HS.count
 repeat' split
 all_goals simp
theorem fj{i c:Nat}{k:Int}(h:k∈bP (i:Int) c):0≤k∧k<c∧k≠i:=by
 unfold bP at h
 rw [laC,laA] at h
 obtain ⟨⟨j,hj,rfl⟩,h2⟩:=h
 rw [laB] at hj
 refine ⟨by omega,by omega,?_⟩
 simpa using h2
variable {b:List aW}
variable {n:Int}
theorem f_{d:Str}(h:aJ b n=some d):d="bound"∨d="off":=by
 unfold aJ at h
 split at h
 ·cases h;exact .inl rfl
 ·split at h
  ·cases h;exact .inr rfl
  ·cases h
theorem eE{c i:Nat}{w:Str}(hn:h.num=i)(ho:h.oth=bP i c)(il:i<c)(hw:w∈([("ask":Str),"yes","no","bound","off","query"]:List Str)):∀ l∈h.toOthers n w,LetOk c l:=by
 intro l hl
 unfold HS.toOthers at hl
 obtain ⟨k,hk,rfl⟩:=laA.mp hl
 rw [ho] at hk
 obtain ⟨h1,h2,h3⟩:=fj hk
 rw [hn]
 exact ⟨by show (0:Int)≤i;omega,by show (i:Int)<c;omega,h1,h2,hw⟩
theorem zU{c i:Nat}{g n:Int}{w:Str}(il:i<c)(g0:0≤g)(g1:g<c)(hw:w∈([("ask":Str),"yes","no","bound","off","query"]:List Str)):LetOk c ((i:Int),g,n,w):=
 ⟨by show (0:Int)≤i;omega,by show (i:Int)<c;omega,g0,g1,hw⟩
theorem yx{c i:Nat}(hn:h.num=i)(ho:h.oth=bP i c)(il:i<c)(lo:LetOk c l):∀ x∈(h.got l).2,LetOk c x:=by
 intro x hx
 have one:∀ w,w∈([("ask":Str),"yes","no","bound","off","query"]:List Str)→x∈[(h.num,l.1,l.2.2.1,w)]→LetOk c x:=fun w hw z=>by
  rw [lag.mp z,hn];exact zU il lo.g0 lo.g1 hw
 have all:∀ w,w∈([("ask":Str),"yes","no","bound","off","query"]:List Str)→x∈h.toOthers l.2.2.1 w→LetOk c x:=fun w hw z=>eE hn ho il hw x z
 unfold HS.got HS.gotAsk HS.gotQuery HS.gotVote HS.gotDecision HS.decide at hx
 split at hx
 ·dsimp only at hx
  refine one _ ?_ hx
  split <;> simp
 split at hx
 ·split at hx
  ·cases hx
  ·split at hx
   ·rename_i d hd
    refine one _ ?_ hx
    rcases f_ hd with rfl | rfl <;> simp
   ·split at hx
    ·exact one _ (by simp) hx
    ·exact all _ (by simp) hx
 split at hx
 ·split at hx
  ·rename_i d hd
   dsimp only at hx
   split at hx
   ·refine one _ ?_ hx
    rcases f_ hd with rfl | rfl <;> simp
   ·cases hx
  ·split at hx
   ·exact all _ (by simp) hx
   ·split at hx
    ·cases hx
    ·exact all _ (by simp) hx
 ·cases hx
theorem HallOk.put{h g:HS}(ok:HallOk c S)(hi:S.hs[i]?=some h)(hn:g.num=h.num)(ho:g.oth=h.oth):HallOk c (S.put i g) where
 len:=by show (S.hs.set i g).length=c;rw [List.length_set];exact ok.len
 c1:=ok.c1
 c2:=ok.c2
 num:=fun j x hx=>by
  change (S.hs.set i g)[j]?=some x at hx
  by_cases e:i=j
  ·subst e
   rw [lao (lab.mp hi).1] at hx
   cases hx
   rw [hn,ho];exact ok.num i h hi
  ·rw [lar e] at hx
   exact ok.num j x hx
 let_:=ok.let_
 un:=ok.un
theorem HallOk.send{sent:List aC}(ok:HallOk c S)(h:∀ x∈sent,LetOk c x):HallOk c (S.send sent) where
 len:=ok.len
 c1:=ok.c1
 c2:=ok.c2
 num:=ok.num
 let_:=fun l hl=>(lap.mp hl).elim (ok.let_ l) (h l)
 un:=fun k hk=>by
  show k<(S.ls++sent).length
  rw [laf]
  rcases lap.mp hk with z | z
  ·have:=ok.un k z;omega
  ·obtain ⟨j,hj,rfl⟩:=laA.mp z
   rw [laB] at hj
   show S.ls.length+j<_;omega
theorem HallOk.post{r:HS×List aC}{st:Bool}(ok:HallOk c S)(hi:S.hs[i]?=some h)(hn:r.1.num=h.num)(ho:r.1.oth=h.oth)(hl:∀ x∈r.2,LetOk c x):HallOk c (S.post i r st):=by
 unfold HallS.post
 cases st with
 | true=>exact (ok.put hi hn ho).send hl
 | false=>exact ok.put hi hn ho
theorem HallOk.il(ok:HallOk c S)(hi:S.hs[i]?=some h):i<c:=by rw [← ok.len];exact (lab.mp hi).1
theorem HallOk.carryL{st:Bool}(ok:HallOk c S)(lo:LetOk c l):HallOk c (S.carryL l st).1:=by
 unfold HallS.carryL
 split
 ·exact ok
 ·rename_i h hi
  split
  ·obtain ⟨e1,e2⟩:=ok.num _ h hi
   exact ok.post hi (BT h l) (BN h l) (yx e1 e2 (ok.il hi) lo)
  ·exact ok
theorem HallOk.carry{k:Int}{st:Bool}(ok:HallOk c S):HallOk c (S.carry k st).1:=by
 unfold HallS.carry
 split
 ·exact ok
 ·rename_i l hl
  exact ok.carryL (ok.let_ l (lam hl))
theorem HallOk.turn{k:Nat}(ok:HallOk c S):HallOk c (S.turn k).1:=by
 unfold HallS.turn
 split
 ·exact ok
 ·rename_i l hl
  exact ok.carryL (ok.let_ l (lam hl))
theorem qo(h:HS)(n:Int):(h.begin n).1.num=h.num∧(h.begin n).1.oth=h.oth:=by unfold HS.begin HS.wr;split <;> exact ⟨rfl,rfl⟩
theorem HallOk.begin{st:Bool}(ok:HallOk c S):HallOk c (S.begin n st).1:=by
 unfold HallS.begin
 split
 ·exact ok
 ·rename_i h hi
  split
  ·obtain ⟨e1,e2⟩:=ok.num _ h hi
   refine ok.post hi (qo h n).1 (qo h n).2 fun x hx=>?_
   unfold HS.begin at hx
   split at hx
   ·cases hx
   ·exact eE e1 e2 (ok.il hi) (by simp) x hx
  ·exact ok
theorem HallOk.query(ok:HallOk c S):HallOk c (S.query i n).1:=by
 unfold HallS.query
 split
 ·exact ok
 ·rename_i h hi
  obtain ⟨e1,e2⟩:=ok.num _ h hi
  refine ok.send fun x hx=>?_
  unfold HS.query at hx
  split at hx
  ·exact eE e1 e2 (ok.il hi) (by simp) x hx
  ·cases hx
theorem HallOk.stop(ok:HallOk c S):HallOk c (S.stop i).1:=by
 unfold HallS.stop
 split
 ·exact ok
 ·rename_i h hi
  split
  ·exact ok.put hi rfl rfl
  ·exact ok
theorem o8(h:HS)(ns:List Int):(h.offAll ns).1.num=h.num:=by
 induction ns generalizing h with
 | nil=>rfl
 | cons x r ih=>exact ih _
theorem pj(h:HS)(ns:List Int):∀ x∈(h.offAll ns).2,∃ n∈ns,x∈h.toOthers n "off":=by
 induction ns generalizing h with
 | nil=>intro x hx;cases hx
 | cons y r ih=>
  intro x hx
  rcases lap.mp (show x∈(h.decide y "off").2++((h.decide y "off").1.offAll r).2 from hx) with z | z
  ·exact ⟨y,by simp,z⟩
  ·obtain ⟨n,hn,hx⟩:=ih _ x z
   exact ⟨n,lac _ hn,hx⟩
theorem HallOk.wake(ok:HallOk c S):HallOk c (S.wake i).1:=by
 unfold HallS.wake
 split
 ·exact ok
 ·rename_i h hi
  split
  ·exact ok
  ·obtain ⟨e1,e2⟩:=ok.num _ h hi
   refine (ok.put hi (by unfold HS.wake;rw [o8]) (by unfold HS.wake;rw [i6])).send fun x hx=>?_
   obtain ⟨n,hn,hx⟩:=pj _ _ x hx
   exact eE (h:=h) e1 e2 (ok.il hi) (by simp) x hx
theorem HallOk.trim(ok:HallOk c S):HallOk c S.trim:=⟨ok.len,ok.c1,ok.c2,ok.num,ok.let_,fun k hk=>ok.un k (laC.mp hk).1⟩
theorem uV(S:HallS)(l:aC)(st:Bool):(∃ a,(S.carryL l st).1.ls=S.ls++a)∧∃ a,(S.carryL l st).1.un=S.un++a:=by
 unfold HallS.carryL
 split
 ·exact ⟨⟨[],by simp⟩,[],by simp⟩
 ·split
  ·unfold HallS.post
   cases st with
   | true=>exact ⟨⟨_,rfl⟩,_,rfl⟩
   | false=>exact ⟨⟨[],by simp [HallS.put]⟩,[],by simp [HallS.put]⟩
  ·exact ⟨⟨[],by simp⟩,[],by simp⟩
theorem iT(S:HallS)(k:Nat):(∃ a,(S.turn k).1.ls=S.ls++a)∧∃ a,(S.turn k).1.un=S.un++a:=by
 unfold HallS.turn
 split
 ·exact ⟨⟨[],by simp⟩,[],by simp⟩
 ·exact uV _ _ _
theorem mV(S:HallS)(k:Nat):(S.turn k).2.length≤1:=by
 unfold HallS.turn
 split
 ·simp
 ·unfold HallS.carryL
  split
  ·simp [ju]
  ·rename_i h hi
   split
   ·have:=xZ h ‹aC›
    simp only [ju,List.length_map,List.length_drop]
    omega
   ·simp [ju]
theorem kS:∀ (f:Nat) (S:HallS) (pl:Nat) (w:List (Int×aW)) (r:HallS×List (Int×aW)),S.sweepGo f pl w=some r→S.ls.length≤r.1.ls.length∧S.un.length≤r.1.un.length
 | 0,S,pl,w,r,h=>by
  unfold HallS.sweepGo at h
  split at h
  ·cases h
  ·cases h;exact ⟨lat _,lat _⟩
 | f+1,S,pl,w,r,h=>by
  unfold HallS.sweepGo at h
  split at h
  ·have:=kS f _ _ _ _ h
   obtain ⟨⟨a,ha⟩,b,hb⟩:=iT S S.un[pl]
   rw [ha,hb,laf,laf] at this
   omega
  ·cases h;exact ⟨lat _,lat _⟩
theorem dN{S T:List Addr}:∀ {b:List (Int×aW)} {xs:List V},Reps H S xs (b.map cY)→Reps H T xs (b.map cY)
 | [],xs,r=>by rw [laG] at r ⊢;rw [r.nil_inv];exact .nil
 | l::b,xs,r=>by
  rw [lah] at r ⊢
  obtain ⟨x,ys,rfl,h,t⟩:=r.cons_inv
  obtain ⟨a,zs,rfl,rt,rs⟩:=h.tup_inv
  obtain ⟨y1,r1,rfl,h1,t1⟩:=rs.cons_inv
  obtain ⟨y2,r2,rfl,h2,t2⟩:=t1.cons_inv
  cases t2.nil_inv
  have h2':Reps H T [y2] ([l.2].map bZ):=ff (b:=[l.2]) (.cons h2 .nil)
  obtain ⟨_,_,e,h2'',_⟩:=h2'.cons_inv
  cases e
  rw [h1.int_inv] at rt
  exact .cons (.tup rt (.cons (.int _) (.cons h2'' .nil))) (dN t)
theorem eD{H H':Hp}{S T:List Addr}{b:List (Int×aW)}(r:Reps H S xs (b.map cY))(c:Chg T H H'):Reps H' S xs (b.map cY):=dN ((dN (T:=T) r).chg c)
theorem HallAt.chg{H H':Hp}{q:Addr}{R T:List Addr}(I:HallAt CH CX H q ps S R N)(c:Chg T H H')(d:∀ a∈R,¬ a∈T):HallAt CH CX H' q ps S R N:=by
 obtain ⟨dx,ph,pl,pu,Rs,ys,I⟩:=I
 have kp:∀ a o,a∈R→H a=some o→H' a=some o:=fun a o ha e=>c.keep a o e (d a ha)
 exact ⟨dx,ph,pl,pu,Rs,ys,{ I with ob:=kp _ _ I.m1 I.ob,oh:=kp _ _ I.m2 I.oh,ol:=kp _ _ I.m3 I.ol,ls:=bA I.ls c,ou:=kp _ _ I.m4 I.ou,hs:=fun i h e=>(I.hs i h e).chg c fun a ha=>d a (I.m5 i a (lab.mp e).1 ha),trk:=fun a ha=>(by obtain ⟨o,e⟩:=I.trk a ha;exact ⟨o,kp _ _ ha e⟩) }⟩
theorem HMove.put{CH CX q:Addr}{H H':Hp}{R R':List Addr}{S':HallS}{N':Nat}{p:Addr}{o:HO}(m:HMove CH CX q ps H R H' S' R' N')(hp:H p=none)(np:¬ p∈R')(mu:ke (H' p)):HMove CH CX q ps H R (upd H' p o) S' R' N':=
 ⟨m.at_.chg (.set (S:=[p]) mu (by simp)) (fun a ha y=>by rw [lag.mp y] at ha;exact np ha),m.chg.put hp,m.gr,m.sb⟩
def AB(CH CX q:Addr)(ps:Nat→Addr)(H:Hp)(R:List Addr)(N c:Nat)(pw:Addr)(r:HallS×List (Int×aW))(m:Nat)(σ:St)(H':Hp):Prop:=
 ∃ (S':HallS) (pl:Nat) (w:List (Int×aW)) (R':List Addr) (ws:List V) (a b d:Option V),σ=[some (.ref q),some (.ref pw),some (.int (pl:Int)),a,b,d]∧S'.sweepGo m pl w=some r∧HallOk c S'∧HMove CH CX q ps H R H' S' R' (N+3*pl)∧
  H' pw=some (.lst ws)∧¬ pw∈R'∧Reps H' R' ws (w.map cY)∧w.length≤pl∧pl≤S'.un.length
def ik(CH CX:Addr):Sp:=fun vs H Q _=>∃ q ps S R N c f r,vs=[.ref q]∧HallAt CH CX H q ps S R N∧HallOk c S∧S.sweepGo f 0 []=some r∧N+3*r.1.un.length≤700000∧r.1.ls.length≤800000∧
 HRet CH CX q ps H R (N+3*r.1.un.length) (r.1.trim,.pairs r.2) Q
theorem o7(S:HallS)(l:aC)(st:Bool):(S.carryL l st).2=.non∨∃ ls,(S.carryL l st).2=.lines ls:=by
 unfold HallS.carryL
 split
 ·exact .inl rfl
 ·split
  ·exact .inr ⟨_,rfl⟩
  ·exact .inl rfl
theorem D0(ph pl pu pv:Addr):ci "unspent" (.ref pv) (jp ph pl pu)=jp ph pl pv:=by with_unfolding_all rfl
theorem Fl(T:dl K CX)(h:ik CH CX vs H Q E) :
    v0 K (dS CH CX) (iB CH CX) CX { nx:=fun _ H'=>Q .non H',rt:=Q } (start ["self","written","place","which","lines","number"] vs) H:=by
  obtain ⟨q,ps,S,R,N,c,f,r,rfl,I,ok,hgo,hN,hls,k⟩:=h
  obtain ⟨cl,f1,f2,f3⟩:=T
  unfold v0
  walk_at "g"
  walk_at "w"
  rename_i pw hpw H1 s1 g1
  walk_at "g"
  refine ⟨AB CH CX q ps H R N c pw r,⟨f,S,0,[],R,[],none,none,none,rfl,hgo,ok,(I.move s1),g1,dv I.trk hpw,.nil,lat _,laI _⟩,?_⟩
  rintro m σ H2 ⟨S2,pl,w,R2,ws,a,b,d,rfl,hg2,ok2,M2,gw,nw,rw2,hwl,hpl⟩
  have sizes:=kS _ _ _ _ _ hg2
  obtain ⟨dx,ph,pl',pu,Rs,ys,I2⟩:=id M2.at_
  have ob2:=I2.ob
  have ou2:=I2.ou
  walk_at "g"
  by_cases lt:pl<S2.un.length
  · rw [if_pos (by simp only [decide_eq_true_eq,List.length_map];omega)]
    cases m with
    | zero=>unfold HallS.sweepGo at hg2;rw [if_pos lt] at hg2;cases hg2
    | succ m=>
      unfold HallS.sweepGo at hg2
      rw [dif_pos lt] at hg2
      refine ⟨AB CH CX q ps H R N c pw r m,fun σ' H' z=>⟨m,Nat.lt_succ_self _,z⟩,?_⟩
      have hget:(S2.un.map fun k=>V.int (k:Nat))[pl]?=some (.int (S2.un[pl]:Nat)):=by rw [lae,lad lt];rfl
      have hkm:S2.un[pl]∈S2.un:=List.getElem_mem lt
      generalize S2.un[pl]=k' at hg2 hget hkm
      have hkl:=ok2.un k' hkm
      obtain ⟨l,hl⟩:∃ l,S2.ls[k']?=some l:=⟨_,lad hkl⟩
      have lok:=ok2.let_ l (lam hl)
      walk_at "g"
      refine bp (b7 ou2) (cf hget) ?_
      walk_at "g"
      have hsm:jA S2 (N+3*pl):=⟨by omega,by omega,by omega⟩
      refine ⟨q,ps,S2,R2,N+3*pl,c,(k':Int),true,rfl,by omega,M2.at_,ok2,hsm,fun v H3 R3 M3 r3 fr3=>?_⟩
      have ec:S2.carry (k':Int) true=S2.carryL l true:=by unfold HallS.carry;rw [Int.toNat_natCast,hl]
      rw [ec] at M3 r3
      have et:S2.turn k'=((S2.carryL l true).1,ju l (S2.carryL l true).2):=by unfold HallS.turn;rw [hl]
      have ht1:=mV S2 k'
      obtain ⟨⟨la,hla⟩,ua,hua⟩:=iT S2 k'
      have ok3:=ok2.turn (k:=k')
      rw [et] at hg2 ht1 hla hua ok3
      dsimp only at hg2 ht1 hla hua ok3
      have gw3:=M3.chg.keep _ _ gw nw
      have nw3:¬ pw∈R3:=fun y=>(M3.gr _ y).elim nw fun z=>by rw [gw] at z;cases z
      have rw3:=(rw2.grow M3.gr).chg (M3.chg.mono M3.sb)
      have MA:=M2.trans M3
      have eN:N+3*pl+3=N+3*(pl+1):=by omega
      rw [eN] at MA
      obtain ⟨dx3,ph3,pl3,pu3,Rs3,ys3,I3⟩:=id M3.at_
      have ob3:=I3.ob
      have ol3:=I3.ol
      refine dI (fun σ' H'=>∃ R' ws' d',σ'=[some (.ref q),some (.ref pw),some (.int (pl:Int)),some (.int (k':Int)),some v,d']∧HMove CH CX q ps H R H' (S2.carryL l true).1 R' (N+3*(pl+1))∧H' pw=some (.lst ws')∧¬ pw∈R'∧Reps H' R' ws' ((w++ju l (S2.carryL l true).2).map cY)) ?_ ?_
      · rcases o7 S2 l true with e | ⟨lns,e⟩
        · rw [e] at r3 ⊢
          cases r3.non_inv
          walk_at "g"
          rw [if_neg (by decide)]
          walk_at "g"
          refine ⟨R3,ws,d,rfl,MA,gw3,nw3,?_⟩
          show Reps H3 R3 ws ((w++[]).map cY)
          rw [laF];exact rw3
        · rw [e] at r3 ⊢ ht1
          obtain ⟨a3,xs3,rfl,ra,na3,rs3⟩:=r3.lst_inv
          have hl3:(S2.carryL l true).1.ls[k']?=some l:=by rw [hla,List.getElem?_append_left hkl];exact hl
          obtain ⟨x,hx,rx⟩:=I3.ls.getD (i:=k') (d:=bv l) (by rw [lae,hl3];rfl)
          obtain ⟨l0,t,e0,rfl,rt⟩:=fZ I3.ls hx
          rw [hl3] at e0
          cases e0
          have hl1:lns.length≤1:=by have:=ht1;unfold ju at this;rwa [laa] at this
          have hxl3:xs3.length=lns.length:=by rw [rs3.length,laa]
          have hwsl:ws.length=w.length:=by rw [rw3.length,laa]
          walk_at "g"
          rw [if_pos (by simp)]
          walk_at "g"
          refine bp (b7 ol3) (cf hx) ?_
          walk_at "g"
          refine ⟨.inl ⟨rfl,_,b7 gw3⟩,?_⟩
          walk_at "g"
          intro pn hpn
          refine eX (K:=K) (a:=a3) (xs:=xs3) (fun i zs σ H'=>∃ x,σ=[x,some (.int l.2.1)]∧Same H3 H'∧Reps H' R3 zs (((lns.take i).map fun x=>(l.2.1,x)).map cY)) ⟨none,rfl,Same.new hpn,.nil⟩ ?_ ?_ ?_
          · rintro i zs σ H' hi hq' ⟨x,rfl,s,rs⟩
            exact dG (ra.same s)
          · rintro i x zs σ H4 hx' hq' ⟨x',rfl,s4,rs4⟩
            obtain ⟨dd,hd,rx'⟩:=rs3.get hx'
            rw [lae] at hd
            cases hln:lns[i]? with
            | none=>rw [hln] at hd;cases hd
            | some ln=>
              rw [hln] at hd
              cases hd
              walk_at "g"
              rw [if_pos rfl]
              walk_at "A"
              rename_i tt htt H5 s5 g5
              have hil:i<lns.length:=(lab.mp hln).1
              have hzl:zs.length=i:=by rw [rs4.length,laa,laa,lax];omega
              have npt:tt≠pn:=(ca htt hq').symm
              refine ⟨zs,s5 _ _ hq',bg (by omega),zs++[.ref tt],ax,_,rfl,(s4.trans s5).put hpn,?_⟩
              have cc:Chg [pn] H5 (upd H5 pn (.lst (zs++[.ref tt]))):=.set (by rw [s5 _ _ hq'];exact True.intro) (by simp)
              have npR:¬ pn∈R3:=dv I3.trk hpn
              have keepR:∀ {vs:List V} {ds:List PyData},Reps H3 R3 vs ds→Reps (upd H5 pn (.lst (zs++[.ref tt]))) R3 vs ds:=fun r=>r.same ((s4.trans s5).put hpn)
              rw [bH hln,lai,lai]
              have rz:Reps (upd H5 pn (.lst (zs++[.ref tt]))) R3 zs (((lns.take i).map fun x=>(l.2.1,x)).map cY):=dN (eD (rs4.same s5) cc)
              exact rz.snoc (.tup (.inl (bo npt g5)) (.cons (.int _) (.cons (Rep.same ((s4.trans s5).put hpn) rx') .nil)))
          · rintro zs σ H4 hq' ⟨x',rfl,s4,rs4⟩
            rw [hxl3,laE] at rs4
            have hzl:zs.length=lns.length:=by rw [rs4.length,laa,laa]
            have gw4:=s4 _ _ gw3
            walk_at "g"
            refine eP gw4 hq' (by rw [sizeLine_eq];omega) ?_
            have cc:Chg [pw] H4 (upd H4 pw (.lst (ws++zs))):=.set (by rw [gw4];exact True.intro) (by simp)
            refine ⟨R3,ws++zs,_,rfl,((MA.trans (MA.at_.move s4)).put hpw nw3 (by rw [gw4];exact True.intro)),ax,nw3,?_⟩
            rw [lai]
            exact (dN (eD (rw3.same s4) cc)).append (dN (eD rs4 cc))
      · rintro σ' H4 ⟨R4,ws4,d4,rfl,M4,gw4,nw4,rw4⟩
        refine ⟨_,rfl,_,_,rfl,rfl,?_⟩
        refine ⟨(S2.carryL l true).1,pl+1,_,R4,ws4,some (.int (k':Int)),some v,d4,?_,hg2,ok3,M4,gw4,nw4,rw4,?_,?_⟩
        · show [some (V.ref q),some (.ref pw),some (.int ((pl:Int)+1)),some (.int (k':Int)),some v,d4]=_
          rw [Int.natCast_add];rfl
        · rw [laf];omega
        · rw [hua,laf];omega
  · rw [if_neg (by simp only [decide_eq_true_eq,List.length_map];omega)]
    have er:r=(S2,w):=by
      cases m with
      | zero=>unfold HallS.sweepGo at hg2;rw [if_neg lt] at hg2;exact (lan hg2).symm
      | succ m=>unfold HallS.sweepGo at hg2;rw [dif_neg lt] at hg2;exact (lan hg2).symm
    subst er
    have epl:pl=S2.un.length:=by omega
    subst epl
    dsimp only at hN hls k
    walk_at "g"
    intro pn hpn
    have hpn0:H pn=none:=M2.free hpn
    have npw:pn≠pw:=(ca hpn gw).symm
    refine eX (K:=K) (a:=pu) (xs:=S2.un.map fun k=>V.int (k:Nat)) (fun i zs σ H'=>∃ x R' Rs',σ=[x,some (.ref q)]∧HallIn CH CX H' q ps S2 R' (N+3*S2.un.length) dx ph pl' pu Rs' ys∧Chg R H H'∧Grow R H R'∧(∀ a,a∈R→a∈R')∧¬ pn∈R'∧¬ pw∈R'∧H' pw=some (.lst ws)∧Reps H' R' ws (w.map cY)∧zs=((S2.un.take i).filter fun k=>!S2.spentAt k).map fun k=>V.int (k:Nat))
      ⟨none,R2,Rs,rfl,I2.same (Same.new hpn),M2.chg.trans (.of_same (Same.new hpn)),M2.gr,M2.sb,dv I2.trk hpn,nw,bo npw.symm gw,rw2.same (Same.new hpn),rfl⟩ ?_ ?_ ?_
    · rintro i zs σ H' hi hq' ⟨x,R',Rs',rfl,I3,c3,g3,sb3,np3,nw3,gw3,rw3,rfl⟩
      exact b7 I3.ou
    · rintro i x zs σ H3 hx hq' ⟨x',R3,Rs3,rfl,I3,c3,g3,sb3,np3,nw3,gw3,rw3,rfl⟩
      rw [lae] at hx
      cases hk:S2.un[i]? with
      | none=>rw [hk] at hx;cases hx
      | some k1=>
        rw [hk] at hx
        have e:V.int (k1:Nat)=x:=lan hx
        subst e
        have hi:i<S2.un.length:=(lab.mp hk).1
        have ob3:=I3.ob
        walk_at "g"
        refine ⟨q,ps,S2,R3,_,c,dx,ph,pl',pu,Rs3,ys,k1,rfl,ok2.un k1 (lam hk),I3,ok2,by omega,fun H4 R4 Rs4 I4 c4 g4 sb4=>?_⟩
        have gp4:=c4.keep _ _ hq' np3
        have gw4:=c4.keep _ _ gw3 nw3
        have np4:¬ pn∈R4:=fun y=>(g4 _ y).elim np3 fun z=>by rw [hq'] at z;cases z
        have nw4:¬ pw∈R4:=fun y=>(g4 _ y).elim nw3 fun z=>by rw [gw3] at z;cases z
        have rw4:=(rw3.grow g4).chg (c4.mono sb4)
        have c04:=c3.grow g3 c4
        have g04:=g3.trans c3 g4
        have hz:(((S2.un.take i).filter fun k=>!S2.spentAt k).map fun k=>V.int (k:Nat)).length≤i:=by
          rw [laa]
          exact las (laJ _ _) (by rw [lax];omega)
        walk_at "g"
        cases hs:S2.spentAt k1 with
        | true=>
          rw [if_neg (by simp)]
          refine ⟨_,gp4,_,R4,Rs4,rfl,I4,c04,g04,fun a ha=>sb4 a (sb3 a ha),np4,nw4,gw4,rw4,?_⟩
          rw [bH hk,lay]
          simp [hs]
        | false=>
          rw [if_pos (by simp)]
          walk_at "g"
          have cc:Chg [pn] H4 (upd H4 pn (.lst ((((S2.un.take i).filter fun k=>!S2.spentAt k).map fun k=>V.int (k:Nat))++[.int (k1:Nat)]))):=.set (by rw [gp4];exact True.intro) (by simp)
          have dis:∀ a∈R4,¬ a∈[pn]:=fun a ha y=>by rw [lag.mp y] at ha;exact np4 ha
          refine ⟨_,gp4,bg (by omega),_,ax,_,R4,Rs4,rfl,?_,c04.put hpn0,g04,fun a ha=>sb4 a (sb3 a ha),np4,nw4,bo npw.symm gw4,dN (eD rw4 cc),?_⟩
          · have kp:∀ a o,a∈R4→H4 a=some o→upd H4 pn (.lst ((((S2.un.take i).filter fun k=>!S2.spentAt k).map fun k=>V.int (k:Nat))++[.int (k1:Nat)])) a=some o:=fun a o ha e=>cc.keep a o e (dis a ha)
            exact { I4 with ob:=kp _ _ I4.m1 I4.ob,oh:=kp _ _ I4.m2 I4.oh,ol:=kp _ _ I4.m3 I4.ol,ls:=bA I4.ls cc,ou:=kp _ _ I4.m4 I4.ou,
                            hs:=fun i h e=>(I4.hs i h e).chg cc fun a ha=>dis a (I4.m5 i a (lab.mp e).1 ha),trk:=fun a ha=>(by obtain ⟨o,e⟩:=I4.trk a ha;exact ⟨o,kp _ _ ha e⟩) }
          · rw [bH hk,lay,lai]
            simp [hs]
    · rintro zs σ H3 hq' ⟨x',R3,Rs3,rfl,I3,c3,g3,sb3,np3,nw3,gw3,rw3,rfl⟩
      rw [laa,laE] at hq'
      have ob3:=I3.ob
      walk_at "g"
      refine ⟨q,CX,dx,_,rfl,ob3,cl,f3,(by show 3<1000;decide),?_⟩
      rw [D0]
      have cc:Chg (pn::R3) H3 (upd H3 q (.ins CX dx (jp ph pl' pn))):=.set (by rw [ob3];exact True.intro) (lac _ I3.m1)
      have cq:Chg [q] H3 (upd H3 q (.ins CX dx (jp ph pl' pn))):=.set (by rw [ob3];exact True.intro) (by simp)
      have nwq:pw≠q:=fun e=>nw3 (e▸I3.m1)
      have kp:∀ {a:Addr} {o:HO},H3 a=some o→(∀ D fs,o≠.ins CX D fs)→upd H3 q (.ins CX dx (jp ph pl' pn)) a=some o:=fun z1 z2=>bo (dJ z1 ob3 (z2 _ _)) z1
      have J:HallIn CH CX (upd H3 q (.ins CX dx (jp ph pl' pn))) q ps S2.trim (pn::R3) (N+3*S2.un.length) dx ph pl' pn Rs3 ys:=
        { ob:=ax,oh:=kp I3.oh (by intro _ _ z;cases z),ol:=kp I3.ol (by intro _ _ z;cases z),ls:=bA I3.ls cq,ou:=kp hq' (by intro _ _ z;cases z),
          hs:=fun i h e=>(I3.hs i h e).chg cq (fun a ha y=>(I3.nq i a (lab.mp e).1 ha).1 (lag.mp y)),
          dj:=I3.dj,nq:=fun i a il ha=>(by
            obtain ⟨e1,e2,e3,e4⟩:=I3.nq i a il ha
            exact ⟨e1,e2,e3,fun z=>np3 (z▸I3.m5 i a il ha)⟩),
          n1:=I3.n1,n2:=fun z=>np3 (z▸I3.m2),n3:=fun z=>np3 (z▸I3.m3),m1:=lac _ I3.m1,m2:=lac _ I3.m2,m3:=lac _ I3.m3,m4:=List.mem_cons_self ..,m5:=fun i a il ha=>lac _ (I3.m5 i a il ha),
          trk:=fq fun a ha=>(by
            rcases List.mem_cons.mp ha with rfl | y
            · exact ⟨_,hq'⟩
            · exact I3.trk a y) }
      have nwn:¬ pw∈pn::R3:=fun y=>by
        rcases List.mem_cons.mp y with z | z
        · exact npw z.symm
        · exact nw3 z
      have gg:Grow R H (pn::R3):=fun a ha=>by
        rcases List.mem_cons.mp ha with rfl | y
        · exact .inr hpn0
        · exact g3 a y
      walk_at "g"
      exact k _ _ _ ⟨⟨_,_,_,_,_,_,J⟩,c3.grow g3 (cq.mono fun b hb=>by rw [lag.mp hb];exact I3.m1),gg,fun a ha=>lac _ (sb3 a ha)⟩ (.lst (.inl (bo nwq gw3)) nwn (dN (eD rw3 cq))) (by rintro _ ⟨⟩;exact hpw)
def wt(l:aC):Nat:=if l.2.2.2="ask" then 22 else if l.2.2.2="bound"∨l.2.2.2="off" then 1 else 21
def jW(ls:List aC)(k:Nat):Nat:=(ls[k]?).elim 0 wt
def gh(S:HallS)(ks:List Nat):Nat:=(ks.map (jW S.ls)).sum
theorem qB{α:Type}(f:α→Nat)(b:Nat):∀ (xs:List α),(∀ x∈xs,f x≤b)→(xs.map f).sum≤xs.length*b
 | [],_=>by simp
 | x::r,h=>by
  have h1:=h x (by simp)
  have h2:=qB f b r fun y hy=>h y (lac _ hy)
  simp only [List.map_cons,List.sum_cons,List.length_cons,Nat.succ_mul]
  omega
theorem FU(l:aC):wt l≤22:=by
 unfold wt
 split
 ·omega
 ·split <;> omega
theorem Bh(ls:List aC)(k:Nat):jW ls k≤22:=by
 unfold jW
 cases ls[k]? with
 | none=>exact laI _
 | some l=>exact FU l
theorem yL(l:aC):1≤wt l:=by
 unfold wt
 split
 ·omega
 ·split <;> omega
theorem oT(a b n:Int){w:Str}(h:w="bound"∨w="off"):wt (a,b,n,w)=1:=by
 unfold wt
 dsimp only
 rw [if_neg (by rcases h with rfl | rfl <;> decide),if_pos h]
theorem jF(h:HS)(n:Int){w:Str}(hw:w="bound"∨w="off"):((h.toOthers n w).map wt).sum=h.oth.length:=by
 unfold HS.toOthers
 rw [List.map_map]
 generalize h.oth=o
 induction o with
 | nil=>rfl
 | cons x r ih=>
  rw [lah,List.sum_cons,ih,laj]
  show wt (h.num,x,n,w)+_=_
  rw [oT _ _ _ hw];omega
theorem Cz(h:HS)(l:aC)(lo:LetOk c l)(ho:h.oth.length≤20):(((h.got l).2).map wt).sum+1≤wt l:=by
 have w21:l.2.2.2="query"∨l.2.2.2="yes"∨l.2.2.2="no"→wt l=21:=fun z=>by
  unfold wt
  rw [if_neg (by rcases z with e | e | e <;> rw [e] <;> decide),if_neg (by rcases z with e | e | e <;> rw [e] <;> decide)]
 unfold HS.got
 split
 ·rename_i e
  have:wt l=22:=by unfold wt;rw [if_pos e]
  rw [this]
  unfold HS.gotAsk
  show (wt _+0)+1≤22
  have:wt (h.num,l.1,l.2.2.1,if aJ (h.asked l.2.2.1).book l.2.2.1=some ("off":Str) then ("no":Str) else "yes")≤21:=by
   unfold wt
   dsimp only
   split
   ·rw [if_neg (by decide)];split <;> omega
   ·rw [if_neg (by decide)];split <;> omega
  omega
 split
 ·rename_i e
  rw [w21 (.inl e)]
  unfold HS.gotQuery
  split
  ·simp
  ·split
   ·rename_i d hd
    show (wt _+0)+1≤21
    rw [oT _ _ _ (f_ hd)];omega
   ·split
    ·show (wt (h.num,l.1,l.2.2.1,"off")+0)+1≤21
     rw [oT _ _ _ (.inr rfl)];omega
    ·unfold HS.decide
     show ((h.toOthers _ _).map wt).sum+1≤21
     rw [jF _ _ (.inr rfl)];omega
 split
 ·rename_i e
  rw [w21 (.inr e)]
  unfold HS.gotVote
  split
  ·rename_i d hd
   dsimp only
   split
   ·show (wt _+0)+1≤21
    rw [oT _ _ _ (f_ hd)];omega
   ·simp
  ·split
   ·unfold HS.decide
    show ((h.toOthers _ _).map wt).sum+1≤21
    rw [jF _ _ (.inr rfl)];omega
   ·split
    ·simp
    ·unfold HS.decide
     show (((h.count _ _).toOthers _ _).map wt).sum+1≤21
     rw [jF _ _ (.inl rfl)]
     show h.oth.length+1≤21;omega
 ·unfold HS.gotDecision
  have:=yL l
  simpa using this
theorem vI(S:HallS)(a b:List Nat):gh S (a++b)=gh S a+gh S b:=by unfold gh;rw [lai,List.sum_append_nat]
theorem Bz{S S':HallS}{a:List aC}(h:S'.ls=S.ls++a)(ks:List Nat)(hk:∀ k∈ks,k<S.ls.length):gh S' ks=gh S ks:=by
 unfold gh
 congr 1
 refine List.map_congr_left fun k hm=>?_
 unfold jW
 rw [h,List.getElem?_append_left (hk k hm)]
theorem BM(S:HallS)(sent:List aC):gh (S.send sent) ((List.range sent.length).map (S.ls.length+·))=(sent.map wt).sum:=by
 unfold gh
 rw [List.map_map]
 congr 1
 refine List.ext_getElem? fun j=>?_
 rw [lae,lae]
 by_cases hj:j<sent.length
 ·rw [laD hj,lad hj]
  show some (jW (S.ls++sent) (S.ls.length+j))=_
  unfold jW
  rw [List.getElem?_append_right (Nat.le_add_right _ _),Nat.add_sub_cancel_left,lad hj]
  rfl
 ·rw [List.getElem?_eq_none (by rw [laq];omega),List.getElem?_eq_none (by omega)]
  rfl
theorem sO(ok:HallOk c S){pl:Nat}(lt:pl<S.un.length):gh (S.turn S.un[pl]).1 ((S.turn S.un[pl]).1.un.drop (pl+1))+1≤gh S (S.un.drop pl):=by
 have hkl:=ok.un _ (List.getElem_mem lt)
 have e0:S.un.drop pl=S.un[pl]::S.un.drop (pl+1):=List.drop_eq_getElem_cons lt
 have hp:gh S (S.un.drop pl)=jW S.ls S.un[pl]+gh S (S.un.drop (pl+1)):=by rw [e0];rfl
 have hold:∀ k∈S.un.drop (pl+1),k<S.ls.length:=fun k hk=>ok.un k (List.mem_of_mem_drop hk)
 rw [hp]
 generalize S.un[pl]=k at *
 obtain ⟨l,hl⟩:∃ l,S.ls[k]?=some l:=⟨_,lad hkl⟩
 have lok:=ok.let_ l (lam hl)
 have hw:jW S.ls k=wt l:=by unfold jW;rw [hl];rfl
 have hpos:=yL l
 rw [hw]
 unfold HallS.turn
 rw [hl]
 dsimp only
 unfold HallS.carryL
 split
 ·dsimp only;omega
 ·rename_i h hi
  split
  ·unfold HallS.post
   rw [if_pos rfl]
   dsimp only
   have hd:((S.put l.2.1.toNat (h.got l).1).send (h.got l).2).un.drop (pl+1)=S.un.drop (pl+1)++(List.range (h.got l).2.length).map (S.ls.length+·):=by
    show (S.un++_).drop (pl+1)=_
    rw [List.drop_append_of_le_length (by omega)];rfl
   rw [hd,vI]
   have h1:gh ((S.put l.2.1.toNat (h.got l).1).send (h.got l).2) (S.un.drop (pl+1))=gh S (S.un.drop (pl+1)):=Bz (a:=(h.got l).2) rfl _ hold
   have h2:=BM (S.put l.2.1.toNat (h.got l).1) (h.got l).2
   rw [h1]
   have h3:gh ((S.put l.2.1.toNat (h.got l).1).send (h.got l).2) ((List.range (h.got l).2.length).map (S.ls.length+·))=((h.got l).2.map wt).sum:=h2
   rw [h3]
   have:=Cz (c:=c) h l lok (ok.oth hi)
   omega
  ·dsimp only;omega
theorem oV:∀ (f:Nat) (S:HallS) (pl:Nat) (w:List (Int×aW)),HallOk c S→pl≤S.un.length→gh S (S.un.drop pl)≤f→∃ r,S.sweepGo f pl w=some r∧r.1.un.length≤pl+f∧HallOk c r.1
 | 0,S,pl,w,ok,hpl,hf=>by
  unfold HallS.sweepGo
  by_cases lt:pl<S.un.length
  ·have:=sO ok lt;omega
  ·rw [if_neg lt];exact ⟨_,rfl,by dsimp only;omega,ok⟩
 | f+1,S,pl,w,ok,hpl,hf=>by
  unfold HallS.sweepGo
  by_cases lt:pl<S.un.length
  ·rw [dif_pos lt]
   have h1:=sO ok lt
   obtain ⟨_,a,ha⟩:=iT S S.un[pl]
   obtain ⟨r,hr,hl,hk⟩:=oV f (S.turn S.un[pl]).1 (pl+1) (w++(S.turn S.un[pl]).2) ok.turn (by rw [ha,laf];omega) (by omega)
   exact ⟨r,hr,by omega,hk⟩
  ·rw [dif_neg lt];exact ⟨_,rfl,by dsimp only;omega,ok⟩
def HallS.fuel(S:HallS):Nat:=22*S.un.length
def HallS.sweepR(S:HallS):HallS×List (Int×aW):=(S.sweepGo S.fuel 0 []).getD (S,[])
theorem An(S:HallS):gh S (S.un.drop 0)≤S.fuel:=by
 unfold gh HallS.fuel
 have:=qB (jW S.ls) 22 S.un fun k _=>Bh _ _
 rw [List.drop_zero];omega
theorem eB(ok:HallOk c S):S.sweepGo S.fuel 0 []=some S.sweepR∧S.sweepR.1.un.length≤22*S.un.length∧HallOk c S.sweepR.1:=by
 obtain ⟨r,hr,hl,hk⟩:=oV S.fuel S 0 [] ok (laI _) (An S)
 have e:S.sweepR=r:=by unfold HallS.sweepR;rw [hr];rfl
 rw [e]
 exact ⟨hr,by unfold HallS.fuel at hl;omega,hk⟩
inductive Deed where
 | begin (n:Int) (st:Bool) | carry (k:Int) (st:Bool) | query (i:Nat) (n:Int) | stop (i:Nat) | wake (i:Nat) | sweep
def Deed.D:Deed→PyData
 | .begin n st=>.tuple [.str "begin",.int n,.bool st]
 | .carry k st=>.tuple [.str "carry",.int k,.bool st]
 | .query i n=>.tuple [.str "query",.int i,.int n]
 | .stop i=>.tuple [.str "stop",.int i]
 | .wake i=>.tuple [.str "wake",.int i]
 | .sweep=>.tuple [.str "sweep"]
def HallS.do(S:HallS):Deed→HallS×Ans
 | .begin n st=>S.begin n st
 | .carry k st=>S.carry k st
 | .query i n=>S.query i n
 | .stop i=>S.stop i
 | .wake i=>S.wake i
 | .sweep=>(S.sweepR.1.trim,.pairs S.sweepR.2)
def nv(c:Nat):Deed→Prop
 | .carry k _=>0≤k
 | .query i _=>i<c
 | .stop i=>i<c
 | .wake i=>i<c
 | _=>True
def HallS.cost(S:HallS):Deed→Nat
 | .sweep=>3*S.sweepR.1.un.length
 | .wake _=>1000
 | _=>3
def HallS.roomy(S:HallS)(N:Nat):Deed→Prop
 | .wake i=>jA S N∧∀ h,S.hs[i]?=some h→(bE h.book).length≤1000
 | .sweep=>N+3*S.sweepR.1.un.length≤700000∧S.sweepR.1.ls.length≤800000
 | _=>jA S N
theorem HallOk.do(ok:HallOk c S)(d:Deed):HallOk c (S.do d).1:=by
 cases d with
 | begin n st=>exact ok.begin
 | carry k st=>exact ok.carry
 | query i n=>exact ok.query
 | stop i=>exact ok.stop
 | wake i=>exact ok.wake
 | sweep=>exact (eB ok).2.2.trim
def HallS.run(S:HallS):List Deed→HallS×List Ans
 | []=>(S,[])
 | d::r=>(((S.do d).1.run r).1,(S.do d).2::((S.do d).1.run r).2)
def HallS.roomyAll(S:HallS)(N:Nat):List Deed→Prop
 | []=>True
 | d::r=>S.roomy N d∧(S.do d).1.roomyAll (N+S.cost d) r
def HallS.costAll(S:HallS):List Deed→Nat
 | []=>0
 | d::r=>S.cost d+(S.do d).1.costAll r
theorem HallOk.run(ok:HallOk c S):∀ (ds:List Deed),HallOk c (S.run ds).1:=by
 intro ds
 induction ds generalizing S with
 | nil=>exact ok
 | cons d r ih=>exact ih (ok.do d)
theorem kY(S:HallS)(ds:List Deed)(d:Deed):S.run (ds++[d])=(((S.run ds).1.do d).1,(S.run ds).2++[((S.run ds).1.do d).2]):=by
 induction ds generalizing S with
 | nil=>rfl
 | cons x r ih=>show (((S.do x).1.run (r++[d])).1,(S.do x).2::((S.do x).1.run (r++[d])).2)=_;rw [ih];rfl
theorem qS(S:HallS)(ds:List Deed)(d:Deed):S.costAll (ds++[d])=S.costAll ds+(S.run ds).1.cost d:=by
 induction ds generalizing S with
 | nil=>show S.cost d+0=0+S.cost d;omega
 | cons x r ih=>show S.cost x+(S.do x).1.costAll (r++[d])=S.cost x+(S.do x).1.costAll r+_;rw [ih,Nat.add_assoc];rfl
theorem oG:∀ (ds:List Deed) (S:HallS) (N:Nat),S.roomyAll N ds→∀ i d,ds[i]?=some d→(S.run (ds.take i)).1.roomy (N+S.costAll (ds.take i)) d
 | [],S,N,h,i,d,hi=>by cases hi
 | x::r,S,N,h,0,d,hi=>by cases hi;exact h.1
 | x::r,S,N,h,i+1,d,hi=>by
  have:=oG r (S.do x).1 (N+S.cost x) h.2 i d (by simpa using hi)
  rw [Nat.add_assoc] at this
  exact this
theorem vk(S:HallS)(ds:List Deed):(S.run ds).2.length=ds.length:=by
 induction ds generalizing S with
 | nil=>rfl
 | cons x r ih=>show ((S.do x).1.run r).2.length+1=r.length+1;rw [ih]
def d7(CH CX:Addr):Sp:=fun vs H Q _=>∃ q t ps S R N c d,vs=[.ref q,.ref t]∧Rep H [] (.ref t) d.D∧HallAt CH CX H q ps S R N∧HallOk c S∧nv c d∧S.roomy N d∧HRet CH CX q ps H R (N+S.cost d) (S.do d) Q
theorem eV{t:Addr}{ds:List PyData}(r:Rep H [] (.ref t) (.tuple ds)):∃ xs,Rd H t (.tup xs)∧Reps H [] xs ds:=by
 obtain ⟨a,xs,e,h,rs⟩:=r.tup_inv
 cases e
 exact ⟨xs,h,rs⟩
theorem FL(T:dl K CX)(h:d7 CH CX vs H Q E) :
  wC K (ib CH CX) (dS CH CX) (ix CH CX) (h8 CH CX) (hZ CH CX) (ik CH CX) CX { nx:=fun _ H'=>Q .non H',rt:=Q } (start ["self","deed","word"] vs) H:=by
 obtain ⟨q,t,ps,S,R,N,c,d,rfl,rt,I,ok,dok,rm,k⟩:=h
 obtain ⟨dx,ph,pl,pu,Rs,ys,I0⟩:=id I
 have ob:=I0.ob
 unfold wC
 cases d with
 | begin n st=>
  obtain ⟨xs,g,rs⟩:=eV rt
  obtain ⟨y1,r1,rfl,h1,t1⟩:=rs.cons_inv
  obtain ⟨y2,r2,rfl,h2,t2⟩:=t1.cons_inv
  obtain ⟨y3,r3,rfl,h3,t3⟩:=t2.cons_inv
  cases t3.nil_inv
  rw [h1.str_inv,h2.int_inv,h3.bl_inv] at g
  walk_at "g"
  rw [if_pos (by decide)]
  walk_at "g"
  exact ⟨q,ps,S,R,N,c,n,st,rfl,I,ok,rm,k⟩
 | carry w st=>
  obtain ⟨xs,g,rs⟩:=eV rt
  obtain ⟨y1,r1,rfl,h1,t1⟩:=rs.cons_inv
  obtain ⟨y2,r2,rfl,h2,t2⟩:=t1.cons_inv
  obtain ⟨y3,r3,rfl,h3,t3⟩:=t2.cons_inv
  cases t3.nil_inv
  rw [h1.str_inv,h2.int_inv,h3.bl_inv] at g
  walk_at "g"
  rw [if_neg (by decide)]
  walk_at "g"
  rw [if_pos (by decide)]
  walk_at "g"
  exact ⟨q,ps,S,R,N,c,w,st,rfl,dok,I,ok,rm,k⟩
 | query i n=>
  obtain ⟨xs,g,rs⟩:=eV rt
  obtain ⟨y1,r1,rfl,h1,t1⟩:=rs.cons_inv
  obtain ⟨y2,r2,rfl,h2,t2⟩:=t1.cons_inv
  obtain ⟨y3,r3,rfl,h3,t3⟩:=t2.cons_inv
  cases t3.nil_inv
  rw [h1.str_inv,h2.int_inv,h3.int_inv] at g
  walk_at "g"
  rw [if_neg (by decide)]
  walk_at "g"
  rw [if_neg (by decide)]
  walk_at "g"
  rw [if_pos (by decide)]
  walk_at "g"
  exact ⟨q,ps,S,R,N,c,i,n,rfl,by rw [ok.len];exact dok,I,ok,rm,k.less (by omega)⟩
 | stop i=>
  obtain ⟨xs,g,rs⟩:=eV rt
  obtain ⟨y1,r1,rfl,h1,t1⟩:=rs.cons_inv
  obtain ⟨y2,r2,rfl,h2,t2⟩:=t1.cons_inv
  cases t2.nil_inv
  rw [h1.str_inv,h2.int_inv] at g
  walk_at "g"
  rw [if_neg (by decide)]
  walk_at "g"
  rw [if_neg (by decide)]
  walk_at "g"
  rw [if_neg (by decide)]
  walk_at "g"
  rw [if_pos (by decide)]
  walk_at "g"
  exact ⟨q,ps,S,R,N,i,rfl,by rw [ok.len];exact dok,I,k.less (by omega)⟩
 | wake i=>
  obtain ⟨xs,g,rs⟩:=eV rt
  obtain ⟨y1,r1,rfl,h1,t1⟩:=rs.cons_inv
  obtain ⟨y2,r2,rfl,h2,t2⟩:=t1.cons_inv
  cases t2.nil_inv
  rw [h1.str_inv,h2.int_inv] at g
  walk_at "g"
  rw [if_neg (by decide)]
  walk_at "g"
  rw [if_neg (by decide)]
  walk_at "g"
  rw [if_neg (by decide)]
  walk_at "g"
  rw [if_neg (by decide)]
  walk_at "g"
  rw [if_pos (by decide)]
  walk_at "g"
  exact ⟨q,ps,S,R,N,c,i,rfl,by rw [ok.len];exact dok,I,ok,rm.1,rm.2,k⟩
 | sweep=>
  obtain ⟨xs,g,rs⟩:=eV rt
  obtain ⟨y1,r1,rfl,h1,t1⟩:=rs.cons_inv
  cases t1.nil_inv
  rw [h1.str_inv] at g
  walk_at "g"
  rw [if_neg (by decide)]
  walk_at "g"
  rw [if_neg (by decide)]
  walk_at "g"
  rw [if_neg (by decide)]
  walk_at "g"
  rw [if_neg (by decide)]
  walk_at "g"
  rw [if_neg (by decide)]
  walk_at "g"
  exact ⟨q,ps,S,R,N,c,_,_,rfl,I,ok,(eB ok).1,rm.1,rm.2,k⟩
def dg(x:Int×Int):PyData:=.tuple [.int x.1,.int x.2]
def dL(ag:List (Int×Int))(k:Int):List Int:=(ag.filter fun x=>decide (x.1=k)).map (·.2)
def bc(c:Nat)(ag:List (Int×Int)):HallS:=⟨(List.range c).map fun (i:Nat)=>i4 (i:Int) c (dL ag (i:Int)),[],[]⟩
theorem qr(ag:List (Int×Int))(x:Int×Int)(k:Int):dL (ag++[x]) k=if x.1=k then dL ag k++[x.2] else dL ag k:=by
 unfold dL
 rw [lay]
 by_cases e:x.1=k <;> simp [e]
def iz:Sp:=fun vs H Q _=>∃ a ag k,vs=[.ref a,.int k]∧Rep H [] (.ref a) (.list (ag.map dg))∧ag.length≤900000∧∀ p H',H p=none→Same H H'→H' p=some (.lst ((dL ag k).map .int))→Q (.ref p) H'
theorem D5(h:iz vs H Q E):wJ K { nx:=fun _ H'=>Q .non H',rt:=Q } (start ["against","number"] vs) H:=by
 obtain ⟨a,ag,k,rfl,ra,hal,kk⟩:=h
 obtain ⟨a',xs,e,ga,_,rs⟩:=ra.lst_inv
 cases e
 unfold wJ
 walk_at "g"
 intro p hp
 have hxl:xs.length=ag.length:=by rw [rs.length,laa]
 refine eX (K:=K) (a:=a) (xs:=xs) (fun i ys σ H'=>∃ v,σ=[v,some (.int k)]∧H'=upd H p (.lst ys)∧ys=(dL (ag.take i) k).map .int) ⟨none,rfl,rfl,rfl⟩ ?_ ?_ ?_
 ·rintro i ys σ H' hi hp' ⟨v,rfl,rfl,rfl⟩
  exact dG (ga.same (Same.new hp))
 ·rintro i x ys σ H' hx hp' ⟨v,rfl,rfl,rfl⟩
  obtain ⟨d,hd,rx⟩:=rs.get hx
  rw [lae] at hd
  cases hb:ag[i]? with
  | none=>rw [hb] at hd;cases hd
  | some y=>
   rw [hb] at hd
   cases hd
   obtain ⟨t,zs,rfl,rt,rz⟩:=rx.tup_inv
   obtain ⟨y1,r1,rfl,h1,t1⟩:=rz.cons_inv
   obtain ⟨y2,r2,rfl,h2,t2⟩:=t1.cons_inv
   cases t2.nil_inv
   rw [h1.int_inv,h2.int_inv] at rt
   have rt':=rt.same (Same.new (p:=p) (o:=.lst ((dL (ag.take i) k).map .int)) hp)
   have hil:i<ag.length:=(lab.mp hb).1
   have hz:(dL (ag.take i) k).length≤i:=by
    unfold dL
    rw [laa]
    exact las (laJ _ _) (by rw [lax];omega)
   walk_at "g"
   by_cases e:y.1=k
   ·rw [if_pos (by simp [e])]
    walk_at "g"
    refine ⟨_,ax,bg (by rw [laa];omega),_,ax,_,rfl,j7,?_⟩
    rw [bH hb,qr,if_pos e,lai];rfl
   ·rw [if_neg (by simp [e])]
    exact ⟨_,ax,_,rfl,rfl,by rw [bH hb,qr,if_neg e]⟩
 ·rintro ys σ H' hp' ⟨v,rfl,hH,rfl⟩
  rw [hxl,laE] at hp'
  exact kk p _ hp (by rw [hH];exact Same.new hp) hp'
def vv(p:Addr):List (Str×V):=[("houses",.ref p)]
def um(p pl:Addr):List (Str×V):=[("houses",.ref p),("letters",.ref pl)]
structure JD(CH:Addr)(H H':Hp)(c i:Nat)(ag:List (Int×Int))(p:Addr)(ps:Nat→Addr)(Rs:Nat→List Addr):Prop where
 same:Same H H'
 hs:∀ j,j<i→HouseAt CH H' (ps j) (i4 j c (dL ag j)) (Rs j) 0
 dj:∀ j k a,j≠k→j<i→k<i→a∈Rs j→a∈Rs k→False
 fr:∀ j a,j<i→a∈Rs j→H a=none∧a≠p
def d8(CH CX:Addr):Sp:=fun vs H Q _=>∃ (q dx a:Addr) (c:Nat) (ag:List (Int×Int)),vs=[.ref q,.int c,.ref a]∧H q=some (.ins CX dx [])∧2≤c∧c≤20∧Rep H [] (.ref a) (.list (ag.map dg))∧ag.length≤900000∧
 ∀ H' R' ps,HallAt CH CX H' q ps (bc c ag) R' 0→Chg [q] H H'→(∀ b∈R',b=q∨H b=none)→Q .non H'
theorem E7(T:dl K CX)(h:d8 CH CX vs H Q E) :
    wI K iz (hE CH) CH { nx:=fun _ H'=>Q .non H',rt:=Q } (start ["self","count","against"] vs) H:=by
  obtain ⟨q,dx,a,c,ag,rfl,ob,hc1,hc2,ra,hal,k⟩:=h
  unfold wI
  have M0:Made CX H q dx [] H:=⟨ob,.refl _ _,fun _ h=>h⟩
  walk_at "g"
  refine eU (by omega) ?_
  intro p hp
  have npq:p≠q:=(ca hp ob).symm
  refine km (n:=c) (fun i ys σ H'=>∃ v ps Rs,σ=[v,some (.int (c:Int)),some (.ref a)]∧ys=(List.range i).map (fun j=>V.ref (ps j))∧H' p=some (.lst ys)∧JD CH H H' c i ag p ps Rs)
    ⟨none,fun _=>0,fun _=>[],rfl,rfl,ax,Same.new hp,fun j hj=>absurd hj (Nat.not_lt_zero _),fun j k a e hj=>absurd hj (Nat.not_lt_zero _),fun j a hj=>absurd hj (Nat.not_lt_zero _)⟩ ?_ ?_
  · rintro i ys σ H1 hi hp1 ⟨v,ps,Rs,rfl,rfl,_,I⟩
    have e0:((0:Int)+(i:Int))=(i:Int):=Int.zero_add _
    rw [e0]
    walk_at "g"
    rw [if_pos rfl]
    refine qd ?_
    walk_at "g"
    refine ⟨a,ag,(i:Int),rfl,ra.same I.same,hal,fun pb H2 hpb s2 gb=>?_⟩
    walk_at "g"
    intro x dx' hx hdx nxd
    have hp2:=s2 _ _ hp1
    generalize hH3:upd (upd H2 dx' (.own x)) x (.ins CH dx' [])=H3
    have s3:Same H2 H3:=by
      rw [← hH3]
      intro b o e
      rw [bB (bF e hx),bB (bF e hdx)];exact e
    have ob3:H3 x=some (.ins CH dx' []):=by rw [← hH3];exact ax
    have s03:=(I.same.trans s2).trans s3
    refine ⟨x,dx',pb,(i:Int),c,dL ag i,rfl,ob3,by omega,.inl (s3 _ _ gb),fun H4 R4 J4 c4 fr4=>?_⟩
    have k34:∀ b o,b≠x→H3 b=some o→H4 b=some o:=fun b o n e=>c4.keep b o e (by simpa using n)
    have hx0:H x=none:=(I.same.trans s2).free hx
    have s04:Same H H4:=fun b o e=>k34 b o (bF e hx0) (s03 b o e)
    have npx:p≠x:=ca hx hp2
    have hp4:H4 p=some (.lst ((List.range i).map fun j=>V.ref (ps j))):=k34 _ _ npx (s3 _ _ hp2)
    have fr4':∀ b∈R4,H b=none∧b≠p∧∀ j,j<i→¬ b∈Rs j:=fun b hb=>by
      rcases fr4 b hb with z | z
      · subst z
        refine ⟨hx0,npx.symm,fun j hj y=>?_⟩
        obtain ⟨dx1,po1,pa1,pk1,pc1,xs1,z1,J⟩:=id (I.hs j hj)
        obtain ⟨o,e⟩:=J.trk _ y
        rw [s2 _ _ e] at hx;cases hx
      · have z2:=s3.free z
        have z1:=s2.free z2
        refine ⟨I.same.free z1,(ca z1 hp1).symm,fun j hj y=>?_⟩
        obtain ⟨dx1,po1,pa1,pk1,pc1,xs1,z1',J⟩:=id (I.hs j hj)
        obtain ⟨o,e⟩:=J.trk _ y
        rw [e] at z1;cases z1
    have cc:Chg [p] H4 (upd H4 p (.lst ((List.range i).map (fun j=>V.ref (ps j))++[.ref x]))):=.set (by rw [hp4];exact True.intro) (by simp)
    refine ⟨rfl,_,hp4,bg (by rw [laa,laq];omega),_,ax,_,(fun j=>if j=i then x else ps j),(fun j=>if j=i then R4 else Rs j),rfl,?_,ax,s04.put hp,fun j hj=>?_,fun j k b e hj hk jb kb=>?_,fun j b hj hb=>?_⟩
    · rw [List.range_succ,lai]
      congr 1
      · refine List.map_congr_left fun j hj=>?_
        rw [laB] at hj
        show V.ref (ps j)=V.ref (if j=i then x else ps j)
        rw [if_neg (by omega)]
      · show _=[V.ref (if i=i then x else ps i)]
        rw [if_pos rfl]
    · by_cases e:j=i
      · subst e
        rw [if_pos rfl,if_pos rfl]
        exact J4.chg cc fun b hb y=>(fr4' b hb).2.1 (lag.mp y)
      · have hj':j<i:=by omega
        rw [if_neg e,if_neg e]
        refine HouseAt.chg (T:=[p]) (HouseAt.chg (T:=[x]) (((I.hs j hj').same s2).same s3) c4 fun b hb y=>?_) cc fun b hb y=>(I.fr j b hj' hb).2 (lag.mp y)
        rw [lag.mp y] at hb
        obtain ⟨dx1,po1,pa1,pk1,pc1,xs1,z1',J⟩:=id (I.hs j hj')
        obtain ⟨o,eo⟩:=J.trk _ hb
        rw [s2 _ _ eo] at hx;cases hx
    · by_cases e1:j=i
      · have e2:¬ k=i:=fun z=>e (e1.trans z.symm)
        rw [if_pos e1] at jb;rw [if_neg e2] at kb
        exact (fr4' b jb).2.2 k (by omega) kb
      · rw [if_neg e1] at jb
        by_cases e2:k=i
        · rw [if_pos e2] at kb
          exact (fr4' b kb).2.2 j (by omega) jb
        · rw [if_neg e2] at kb
          exact I.dj j k b e (by omega) (by omega) jb kb
    · by_cases e:j=i
      · rw [if_pos e] at hb
        exact ⟨(fr4' b hb).1,(fr4' b hb).2.1⟩
      · rw [if_neg e] at hb
        exact I.fr j b (by omega) hb
  · rintro ys σ H1 hp1 ⟨v,ps,Rs,rfl,rfl,_,I⟩
    have M1:=M0.same I.same
    walk_at "g"
    refine ⟨q,CX,dx,_,rfl,M1.ob,T.cl,T.f1,(by show 0<1000;decide),?_⟩
    have M2:=M1.put (vv p)
    have g2:=M1.keep (gs:=(vv p)) hp1 (by intro z;cases z)
    have c2:Chg [q] H1 (upd H1 q (.ins CX dx (vv p))):=.set (by rw [M1.ob];exact True.intro) (by simp)
    have e2:ci "houses" (.ref p) ([]:List (Str×V))=(vv p):=by with_unfolding_all rfl
    rw [e2]
    generalize upd H1 q (.ins CX dx (vv p))=H2 at *
    walk_at "g"
    walk_at "w"
    rename_i pl hpl H3 s3 g3
    have M3:=M2.same s3
    walk_at "g"
    refine ⟨q,CX,dx,_,rfl,M3.ob,T.cl,T.f2,(by show 1<1000;decide),?_⟩
    have M4:=M3.put (um p pl)
    have g4p:=M3.keep (gs:=(um p pl)) (s3 _ _ g2) (by intro z;cases z)
    have g4l:=M3.keep (gs:=(um p pl)) g3 (by intro z;cases z)
    have c4:Chg [q] H3 (upd H3 q (.ins CX dx (um p pl))):=.set (by rw [M3.ob];exact True.intro) (by simp)
    have e4:ci "letters" (.ref pl) (vv p)=(um p pl):=by with_unfolding_all rfl
    rw [e4]
    generalize upd H3 q (.ins CX dx (um p pl))=H4 at *
    walk_at "g"
    walk_at "w"
    rename_i pu hpu H5 s5 g5
    have M5:=M4.same s5
    walk_at "g"
    refine ⟨q,CX,dx,_,rfl,M5.ob,T.cl,T.f3,(by show 2<1000;decide),?_⟩
    have e6:ci "unspent" (.ref pu) (um p pl)=jp p pl pu:=by with_unfolding_all rfl
    rw [e6]
    have M6:=M5.put (jp p pl pu)
    have g6p:=M5.keep (gs:=jp p pl pu) (s5 _ _ g4p) (by intro z;cases z)
    have g6l:=M5.keep (gs:=jp p pl pu) (s5 _ _ g4l) (by intro z;cases z)
    have g6u:=M5.keep (gs:=jp p pl pu) g5 (by intro z;cases z)
    have c6:Chg [q] H5 (upd H5 q (.ins CX dx (jp p pl pu))):=.set (by rw [M5.ob];exact True.intro) (by simp)
    have cA:Chg [q] H1 (upd H5 q (.ins CX dx (jp p pl pu))):=(((c2.trans (.of_same s3)).trans c4).trans (.of_same s5)).trans c6
    generalize upd H5 q (.ins CX dx (jp p pl pu))=H6 at *
    have hpl0:H pl=none:=M2.free _ hpl
    have hpu0:H pu=none:=M4.free _ hpu
    have n1:p≠pl:=ca hpl g2
    have n2:p≠pu:=ca hpu g4p
    have n3:pl≠pu:=ca hpu g4l
    have hlen:(bc c ag).hs.length=c:=by show ((List.range c).map _).length=c;rw [laa,laq]
    have hsAt:∀ i h,(bc c ag).hs[i]?=some h→i<c∧h=i4 i c (dL ag i):=fun i h e=>by
      have il:i<c:=by rw [← hlen];exact (lab.mp e).1
      change ((List.range c).map fun (i:Nat)=>i4 (i:Int) c (dL ag (i:Int)))[i]?=some h at e
      rw [lae,laD il] at e
      exact ⟨il,(lan e).symm⟩
    have trkH:∀ i b,i<c→b∈Rs i→∃ o,H1 b=some o:=fun i b il hb=>by
      obtain ⟨dx1,po1,pa1,pk1,pc1,xs1,z1,J⟩:=id (I.hs i il)
      exact J.trk b hb
    have nqi:∀ i b,i<c→b∈Rs i→b≠q∧b≠p∧b≠pl∧b≠pu:=fun i b il hb=>by
      obtain ⟨f0,fp⟩:=I.fr i b il hb
      obtain ⟨o,eo⟩:=trkH i b il hb
      refine ⟨fun z=>?_,fp,fun z=>?_,fun z=>?_⟩
      · rw [z,ob] at f0;cases f0
      · subst z
        cases e:H2 b with
        | none=>
          have:=cA
          have h2:H1 b=none:=by
            cases e':H1 b with
            | none=>rfl
            | some o'=>rw [c2.keep b o' e' (by simpa using fun z=>by rw [z,ob] at f0;cases f0)] at e;cases e
          rw [h2] at eo;cases eo
        | some o'=>rw [hpl] at e;cases e
      · subst z
        have nbq:b≠q:=fun z=>by rw [z,ob] at f0;cases f0
        have e2:H4 b=some o:=c4.keep _ _ (s3 _ _ (c2.keep b o eo (by simpa using nbq))) (by simpa using nbq)
        rw [hpu] at e2;cases e2
    refine k _ ([q,p,pl,pu]++((List.range c).map Rs).flatten) ps ⟨dx,p,pl,pu,Rs,[],?_⟩ M6.chg (fun b hb=>?_)
    · exact { ob:=M6.ob,oh:=by rw [hlen];exact g6p,ol:=g6l,ls:=.nil,ou:=g6u,
              hs:=fun i h e=>(by
                obtain ⟨il,rfl⟩:=hsAt i h e
                exact (I.hs i il).chg cA fun b hb y=>(nqi i b il hb).1 (lag.mp y)),
              dj:=fun i j b e hi hj=>I.dj i j b e (by rw [hlen] at hi;exact hi) (by rw [hlen] at hj;exact hj),
              nq:=fun i b hi hb=>nqi i b (by rw [hlen] at hi;exact hi) hb,
              n1:=n1,n2:=n2,n3:=n3,m1:=by simp,m2:=by simp,m3:=by simp,m4:=by simp,
              m5:=fun i b hi hb=>(by
                rw [hlen] at hi
                exact lak _ (List.mem_flatten.mpr ⟨Rs i,laA.mpr ⟨i,laB.mpr hi,rfl⟩,hb⟩)),
              trk:=fun b hb=>(by
                rcases lap.mp hb with z | z
                · simp only [List.mem_cons,List.not_mem_nil,or_false] at z
                  rcases z with rfl | rfl | rfl | rfl
                  · exact ⟨_,M6.ob⟩
                  · exact ⟨_,g6p⟩
                  · exact ⟨_,g6l⟩
                  · exact ⟨_,g6u⟩
                · obtain ⟨L,hL,hb⟩:=List.mem_flatten.mp z
                  obtain ⟨i,hi,rfl⟩:=laA.mp hL
                  rw [laB] at hi
                  obtain ⟨o,eo⟩:=trkH i b hi hb
                  exact ⟨o,cA.keep b o eo (by simpa using (nqi i b hi hb).1)⟩) }
    · rcases lap.mp hb with z | z
      · simp only [List.mem_cons,List.not_mem_nil,or_false] at z
        rcases z with rfl | rfl | rfl | rfl
        · exact .inl rfl
        · exact .inr hp
        · exact .inr hpl0
        · exact .inr hpu0
      · obtain ⟨L,hL,hb⟩:=List.mem_flatten.mp z
        obtain ⟨i,hi,rfl⟩:=laA.mp hL
        rw [laB] at hi
        exact .inr (I.fr i b hi hb).1
theorem gA(ag:List (Int×Int))(h1:2≤c)(h2:c≤20):HallOk c (bc c ag) where
 len:=by show ((List.range c).map _).length=c;rw [laa,laq]
 c1:=h1
 c2:=h2
 num:=fun i h e=>by
  change ((List.range c).map fun (i:Nat)=>i4 (i:Int) c (dL ag (i:Int)))[i]?=some h at e
  have il:i<c:=by have:=(lab.mp e).1;rwa [laa,laq] at this
  rw [lae,laD il] at e
  have:=lan e
  rw [← this];exact ⟨rfl,rfl⟩
 let_:=fun l hl=>by cases hl
 un:=fun k hk=>by cases hk
theorem sH{CH CX q:Addr}{H H1 H2:Hp}{R R2:List Addr}{S2:HallS}{N2:Nat}(s:Same H H1)(f:∀ x∈R,H x=none)(m:HMove CH CX q ps H1 R H2 S2 R2 N2):Same H H2∧∀ x∈R2,H x=none:=
 ⟨fun b o e=>m.chg.keep b o (s b o e) (fun y=>by rw [f b y] at e;cases e),fun x hx=>(m.gr x hx).elim (f x) fun z=>s.free z⟩
def pr(H:Hp)(vs:List V)(c:Nat)(ag:List (Int×Int))(ds:List Deed)(rest:List V):Prop:=
 ∃ a b,vs=.int (c:Int)::.ref a::.ref b::rest∧2≤c∧c≤20∧Rep H [] (.ref a) (.list (ag.map dg))∧ag.length≤900000∧Rep H [] (.ref b) (.list (ds.map Deed.D))∧ds.length≤900000∧(∀ d∈ds,nv c d)∧(bc c ag).roomyAll 0 ds
theorem oa{S:List Addr}{ds:List Deed}{x:V}(rs:Reps H S xs (ds.map Deed.D))(hx:xs[i]?=some x):∃ d t,ds[i]?=some d∧x=.ref t∧Rep H S (.ref t) d.D:=by
 obtain ⟨dd,hd,rx⟩:=rs.get hx
 rw [lae] at hd
 cases hb:ds[i]? with
 | none=>rw [hb] at hd;cases hd
 | some d=>
  rw [hb] at hd
  cases hd
  have:∃ es,d.D=.tuple es:=by cases d <;> exact ⟨_,rfl⟩
  obtain ⟨es,e⟩:=this
  rw [e] at rx
  obtain ⟨t,ys,rfl,rt,rs'⟩:=rx.tup_inv
  exact ⟨d,t,rfl,rfl,by rw [e];exact .tup rt rs'⟩
def cO(CH CX:Addr):Sp:=fun vs H Q _=>∃ c ag ds,pr H vs c ag ds []∧∀ q H' R' ps,HallAt CH CX H' q ps ((bc c ag).run ds).1 R' ((bc c ag).costAll ds)→Same H H'→(∀ x∈R',H x=none)→Q (.ref q) H'
theorem qF{CX q dx:Addr}(hq:H q=none)(hdx:H dx=none)(nd:dx≠q):Same H (upd (upd H dx (.own q)) q (.ins CX dx []))∧upd (upd H dx (.own q)) q (.ins CX dx []) q=some (.ins CX dx []):=
 ⟨fun b o e=>by rw [bB (bF e hq),bB (bF e hdx)];exact e,ax⟩
theorem GG(h:cO CH CX vs H Q E) :
  v4 K (d8 CH CX) (d7 CH CX) CX { nx:=fun _ H'=>Q .non H',rt:=Q } (start ["count","against","deeds","hall","deed"] vs) H:=by
 obtain ⟨c,ag,ds,⟨a,b,rfl,hc1,hc2,ra,hal,rb,hdl,dok,rm⟩,k⟩:=h
 obtain ⟨b',xs,e,gb,_,rs⟩:=rb.lst_inv
 cases e
 have hxl:xs.length=ds.length:=by rw [rs.length,laa]
 unfold v4
 walk_at "g"
 refine qd ?_
 walk_at "g"
 intro q dx hq hdx nd
 obtain ⟨s1,ob1⟩:=qF (CX:=CX) hq hdx nd
 generalize upd (upd H dx (.own q)) q (.ins CX dx [])=H1 at *
 refine ⟨q,dx,a,c,ag,rfl,ob1,hc1,hc2,ra.same s1,hal,fun H2 R2 ps I2 c2 f2=>⟨rfl,?_⟩⟩
 have s2:Same H H2:=fun x o e=>c2.keep x o (s1 x o e) (by simpa using bF e hq)
 have fr2:∀ x∈R2,H x=none:=fun x hx=>(f2 x hx).elim (fun z=>z▸hq) fun z=>s1.free z
 walk_at "g"
 refine fX (K:=K) (a:=b) (xs:=xs) (fun i σ H'=>∃ v R',σ=[some (.int (c:Int)),some (.ref a),some (.ref b),some (.ref q),v]∧HallAt CH CX H' q ps ((bc c ag).run (ds.take i)).1 R' ((bc c ag).costAll (ds.take i))∧Same H H'∧∀ x∈R',H x=none)
  ⟨none,R2,rfl,I2,s2,fr2⟩ ?_ ?_ ?_
 ·rintro i σ H' hi ⟨v,R',rfl,J,s,f⟩
  exact dG (gb.same s)
 ·rintro i x σ H3 hx ⟨v,R',rfl,J,s,f⟩
  obtain ⟨d,t,hd,rfl,rt⟩:=oa (rs.same s) hx
  obtain ⟨dx3,ph3,pl3,pu3,Rs3,ys3,J0⟩:=id J
  have ob3:=J0.ob
  walk_at "g"
  refine ⟨q,t,ps,_,R',_,c,d,rfl,rt,J,(gA ag hc1 hc2).run _,dok d (lam hd),?_,fun w H4 R4 M4 _ _=>?_⟩
  ·have:=oG ds (bc c ag) 0 rm i d hd
   rwa [Nat.zero_add] at this
  ·obtain ⟨s4,f4⟩:=sH s f M4
   refine ⟨_,R4,rfl,?_,s4,f4⟩
   rw [bH hd,kY,qS]
   exact M4.at_
 ·rintro σ H3 ⟨v,R',rfl,J,s,f⟩
  rw [hxl,laE] at J
  walk_at "g"
  exact k q _ _ ps J s f
theorem BI{p:Addr}{w:V}{a:Ans}(r:Rep H R w a.D)(f:∀ l,w=.ref l→l≠p):Rep H (p::R) w a.D:=by
 have out:∀ {x:Addr},w=.ref x→¬ x∈R→¬ x∈p::R:=fun e n y=>by
  rcases List.mem_cons.mp y with z | z
  ·exact f _ e z
  ·exact n z
 cases a with
 | non=>cases r.non_inv;exact .non
 | bl b=>cases r.bl_inv;exact .bl _
 | lines ls=>
  obtain ⟨x,xs,rfl,g,n,rs⟩:=Rep.lst_inv (ds:=ls.map bZ) r
  exact .lst g (out rfl n) (ff rs)
 | pairs ps=>
  obtain ⟨x,xs,rfl,g,n,rs⟩:=Rep.lst_inv (ds:=ps.map cY) r
  exact .lst g (out rfl n) (dN rs)
def IV(as:List Ans):PyData:=.list (as.map Ans.D)
def iD(CH CX:Addr):Sp:=fun vs H Q _=>∃ c ag ds,pr H vs c ag ds []∧∀ v H',Same H H'→Rep H' [] v (IV ((bc c ag).run ds).2)→Fresh H v→Q v H'
theorem FW(h:iD CH CX vs H Q E) :
  wd K (d8 CH CX) (d7 CH CX) CX { nx:=fun _ H'=>Q .non H',rt:=Q } (start ["count","against","deeds","hall"] vs) H:=by
 obtain ⟨c,ag,ds,⟨a,b,rfl,hc1,hc2,ra,hal,rb,hdl,dok,rm⟩,k⟩:=h
 obtain ⟨b',xs,e,gb,_,rs⟩:=rb.lst_inv
 cases e
 have hxl:xs.length=ds.length:=by rw [rs.length,laa]
 unfold wd
 walk_at "g"
 refine qd ?_
 walk_at "g"
 intro q dx hq hdx nd
 obtain ⟨s1,ob1⟩:=qF (CX:=CX) hq hdx nd
 generalize upd (upd H dx (.own q)) q (.ins CX dx [])=H1 at *
 refine ⟨q,dx,a,c,ag,rfl,ob1,hc1,hc2,ra.same s1,hal,fun H2 R2 ps I2 c2 f2=>⟨rfl,?_⟩⟩
 have s2:Same H H2:=fun x o e=>c2.keep x o (s1 x o e) (by simpa using bF e hq)
 have fr2:∀ x∈R2,H x=none:=fun x hx=>(f2 x hx).elim (fun z=>z▸hq) fun z=>s1.free z
 have gb2:=gb.same s2
 walk_at "g"
 intro p hp
 have hp0:H p=none:=s2.free hp
 refine eX (K:=K) (a:=b) (xs:=xs) (fun i ys σ H'=>∃ v R',σ=[v,some (.ref q)]∧HallAt CH CX H' q ps ((bc c ag).run (ds.take i)).1 R' ((bc c ag).costAll (ds.take i))∧Same H H'∧(∀ x∈R',H x=none)∧¬ p∈R'∧Reps H' (p::R') ys (((bc c ag).run (ds.take i)).2.map Ans.D))
  ⟨none,R2,rfl,I2.same (Same.new hp),s2.trans (Same.new hp),fr2,dv I2.trk hp,.nil⟩ ?_ ?_ ?_
 ·rintro i ys σ H' hi hp' ⟨v,R',rfl,J,s,f,np,rr⟩
  exact dG (gb.same s)
 ·rintro i x ys σ H3 hx hp3 ⟨v,R',rfl,J,s,f,np,rr⟩
  obtain ⟨d,t,hd,rfl,rt⟩:=oa (rs.same s) hx
  have hi:i<ds.length:=(lab.mp hd).1
  obtain ⟨dx3,ph3,pl3,pu3,Rs3,ys3,J0⟩:=id J
  have ob3:=J0.ob
  walk_at "g"
  rw [if_pos rfl]
  walk_at "g"
  refine ⟨q,t,ps,_,R',_,c,d,rfl,rt,J,(gA ag hc1 hc2).run _,dok d (lam hd),?_,fun w H4 R4 M4 rw4 fw4=>?_⟩
  ·have:=oG ds (bc c ag) 0 rm i d hd
   rwa [Nat.zero_add] at this
  ·obtain ⟨s4,f4⟩:=sH s f M4
   have gp4:=M4.chg.keep _ _ hp3 np
   have np4:¬ p∈R4:=fun y=>(M4.gr _ y).elim np fun z=>by rw [hp3] at z;cases z
   have hyl:ys.length=i:=by rw [rr.length,laa,vk,lax];omega
   have cq:Chg [p] H4 (upd H4 p (.lst (ys++[w]))):=.set (by rw [gp4];exact True.intro) (by simp)
   have fwp:∀ l,w=.ref l→l≠p:=fun l e z=>by
    have:=fw4 l e
    rw [z,hp3] at this;cases this
   refine ⟨ys,gp4,bg (by omega),ys++[w],ax,_,R4,rfl,?_,s4.put hp0,f4,np4,?_⟩
   ·rw [bH hd,kY,qS]
    exact M4.at_.chg cq fun b hb y=>by rw [lag.mp y] at hb;exact np4 hb
   ·rw [bH hd,kY,lai]
    have gr2:Grow (p::R') H3 (p::R4):=fun b hb=>by
     rcases List.mem_cons.mp hb with z | z
     ·exact .inl (by simp [z])
     ·exact (M4.gr b z).imp (fun y=>lac _ y) id
    have r1:=((rr.grow gr2).chg (M4.chg.mono fun b hb=>lac _ (M4.sb b hb))).chg (cq.mono fun b hb=>by rw [lag.mp hb];simp)
    exact r1.snoc ((BI rw4 fwp).chg (cq.mono fun b hb=>by rw [lag.mp hb];simp))
 ·rintro ys σ H3 hp3 ⟨v,R',rfl,J,s,f,np,rr⟩
  rw [hxl,laE] at rr
  exact k _ _ s (.lst (.inl hp3) (by simp) rr.plain) (by rintro _ ⟨⟩;exact hp0)
def uh(S:HallS):PyData:=.list (S.hs.map fun h=>cy h.book)
def gR(CH CX:Addr):Sp:=fun vs H Q _=>∃ c ag ds,pr H vs c ag ds []∧∀ v H',Same H H'→Rep H' [] v (uh ((bc c ag).run ds).1)→Fresh H v→Q v H'
theorem HM(T:dl K CX)(TH:bI K CH)(h:gR CH CX vs H Q E) :
  xD K (cO CH CX) { nx:=fun _ H'=>Q .non H',rt:=Q } (start ["count","against","deeds"] vs) H:=by
 obtain ⟨c,ag,ds,G,k⟩:=h
 obtain ⟨a,b,rfl,hc1,hc2,_⟩:=id G
 obtain ⟨cl,f1,f2,f3⟩:=T
 obtain ⟨clh,g1,g2,g3,g4,g5,g6,g7,g8⟩:=TH
 have ok:=(gA ag hc1 hc2).run ds
 unfold xD
 walk_at "g"
 refine ⟨c,ag,ds,G,fun q H1 R1 ps I s f=>?_⟩
 generalize ((bc c ag).run ds).1=S at *
 obtain ⟨dx,ph,pl,pu,Rs,ys,I0⟩:=id I
 have ob:=I0.ob
 have oh:=I0.oh
 have hl:=ok.len
 walk_at "g"
 intro p hp
 refine eX (K:=K) (a:=ph) (xs:=(List.range S.hs.length).map fun i=>V.ref (ps i)) (fun i zs σ H'=>∃ v,σ=[v]∧H'=upd H1 p (.lst zs)∧Reps H1 [] zs ((S.hs.take i).map fun h=>cy h.book)) ⟨none,rfl,rfl,.nil⟩ ?_ ?_ ?_
 ·rintro i zs σ H' hi hp' ⟨v,rfl,rfl,rr⟩
  exact b7 (bo (ca hp oh) oh)
 ·rintro i x zs σ H2 hx hp2 ⟨v,rfl,rfl,rr⟩
  have hi:i<S.hs.length:=by have:=(lab.mp hx).1;rwa [laa,laq] at this
  rw [lae,laD hi] at hx
  cases hx
  have hh:S.hs[i]?=some S.hs[i]:=lad hi
  obtain ⟨dx1,po1,pa1,pk1,pc1,xs1,z1,J⟩:=id (I0.hs i _ hh)
  have obh:upd H1 p (.lst zs) (ps i)=_:=bo (ca hp J.ob) J.ob
  walk_at "g"
  rw [if_pos rfl]
  walk_at "g"
  have hzl:zs.length=i:=by rw [rr.length,laa,lax];omega
  have hc20:=ok.c2
  refine ⟨zs,ax,bg (by omega),zs++[.ref pk1],ax,_,rfl,j7,?_⟩
  rw [bH hh,lai]
  exact rr.snoc J.rep
 ·rintro zs σ H2 hp2 ⟨v,rfl,rfl,rr⟩
  rw [laa,laq,laE] at rr
  exact k _ _ (s.trans (Same.new hp)) (.lst (.inl ax) (by simp) (rr.same (Same.new hp))) (by rintro _ ⟨⟩;exact s.free hp)
def ij(CH CX:Addr):Sp:=fun vs H Q _=>∃ c ag ds,pr H vs c ag ds []∧∀ v H',Same H H'→Rep H' [] v (gF ((bc c ag).run ds).1.ls)→Fresh H v→Q v H'
theorem Fn(T:dl K CX)(h:ij CH CX vs H Q E) :
  wx K (cO CH CX) { nx:=fun _ H'=>Q .non H',rt:=Q } (start ["count","against","deeds"] vs) H:=by
 obtain ⟨c,ag,ds,G,k⟩:=h
 obtain ⟨a,b,rfl,hc1,hc2,_⟩:=id G
 obtain ⟨cl,f1,f2,f3⟩:=T
 unfold wx
 walk_at "g"
 refine ⟨c,ag,ds,G,fun q H1 R1 ps I s f=>?_⟩
 obtain ⟨dx,ph,pl,pu,Rs,ys,I0⟩:=id I
 have ob:=I0.ob
 walk_at "g"
 exact k _ _ s (.lst (.inl I0.ol) (by simp) I0.ls) (by rintro _ ⟨⟩;exact f _ I0.m3)
def h7(CH CX:Addr):Sp:=fun vs H Q _=>∃ c ag ds,pr H vs c ag ds []∧∀ v H',Same H H'→Rep H' [] v (.list (((bc c ag).run ds).1.hs.map fun h=>.bool h.up))→Fresh H v→Q v H'
theorem Fh(T:dl K CX)(TH:bI K CH)(h:h7 CH CX vs H Q E) :
  wZ K (cO CH CX) { nx:=fun _ H'=>Q .non H',rt:=Q } (start ["count","against","deeds"] vs) H:=by
 obtain ⟨c,ag,ds,G,k⟩:=h
 obtain ⟨a,b,rfl,hc1,hc2,_⟩:=id G
 obtain ⟨cl,f1,f2,f3⟩:=T
 obtain ⟨clh,g1,g2,g3,g4,g5,g6,g7,g8⟩:=TH
 have ok:=(gA ag hc1 hc2).run ds
 unfold wZ
 walk_at "g"
 refine ⟨c,ag,ds,G,fun q H1 R1 ps I s f=>?_⟩
 generalize ((bc c ag).run ds).1=S at *
 obtain ⟨dx,ph,pl,pu,Rs,ys,I0⟩:=id I
 have ob:=I0.ob
 have oh:=I0.oh
 have hl:=ok.len
 walk_at "g"
 intro p hp
 refine eX (K:=K) (a:=ph) (xs:=(List.range S.hs.length).map fun i=>V.ref (ps i)) (fun i zs σ H'=>∃ v,σ=[v]∧H'=upd H1 p (.lst zs)∧Reps H1 [] zs ((S.hs.take i).map fun h=>.bool h.up)) ⟨none,rfl,rfl,.nil⟩ ?_ ?_ ?_
 ·rintro i zs σ H' hi hp' ⟨v,rfl,rfl,rr⟩
  exact b7 (bo (ca hp oh) oh)
 ·rintro i x zs σ H2 hx hp2 ⟨v,rfl,rfl,rr⟩
  have hi:i<S.hs.length:=by have:=(lab.mp hx).1;rwa [laa,laq] at this
  rw [lae,laD hi] at hx
  cases hx
  have hh:S.hs[i]?=some S.hs[i]:=lad hi
  obtain ⟨dx1,po1,pa1,pk1,pc1,xs1,z1,J⟩:=id (I0.hs i _ hh)
  have obh:upd H1 p (.lst zs) (ps i)=_:=bo (ca hp J.ob) J.ob
  walk_at "g"
  rw [if_pos rfl]
  walk_at "g"
  have hzl:zs.length=i:=by rw [rr.length,laa,lax];omega
  have hc20:=ok.c2
  refine ⟨zs,ax,bg (by omega),_,ax,_,rfl,j7,?_⟩
  rw [bH hh,lai]
  exact rr.snoc (.bl _)
 ·rintro zs σ H2 hp2 ⟨v,rfl,rfl,rr⟩
  rw [laa,laq,laE] at rr
  exact k _ _ (s.trans (Same.new hp)) (.lst (.inl ax) (by simp) (rr.same (Same.new hp))) (by rintro _ ⟨⟩;exact s.free hp)
structure WI1(c L:Nat)(A:Nat→Prop)(v:Nat→List Str):Prop where
 sl:v L=[]∨v L=[("no":Str)]∨v L=[("open":Str)]∨v L=[("open":Str),"bound"]∨v L=[("open":Str),"off"]
 so:∀ i,i<c→i≠L→v i=[]∨v i=[("yes":Str)]∨v i=[("no":Str)]∨v i=[("off":Str)]∨v i=[("yes":Str),"bound"]∨v i=[("yes":Str),"off"]
 ag:∀ i,i<c→A i→¬ ("open":Str)∈v i∧¬ ("yes":Str)∈v i
 ys:∀ i,i<c→i≠L→("yes":Str)∈v i→("open":Str)∈v L
 bd:∀ i,i<c→("bound":Str)∈v i→v L=[("open":Str),"bound"]∧∀ j,j<c→j≠L→v j=[("yes":Str)]∨v j=[("yes":Str),"bound"]
 of:∀ i,i<c→(("off":Str)∈v i∨("no":Str)∈v i)→v L=[("no":Str)]∨v L=[("open":Str),"off"]∨∃ k,k<c∧k≠L∧(v k=[("no":Str)]∨v k=[("off":Str)])
def Of(ws:List Str):Prop:=("off":Str)∈ws∨("no":Str)∈ws
inductive jw(c L:Nat)(A:Nat→Prop)(v:Nat→List Str)(i:Nat):Str→Prop
 | opn:i=L→v i=[]→¬ A i→jw c L A v i "open"
 | noL:i=L→v i=[]→jw c L A v i "no"
 | yes:i≠L→v i=[]→¬ A i→("open":Str)∈v L→jw c L A v i "yes"
 | no:i≠L→v i=[]→jw c L A v i "no"
 | offL:i=L→v i=[("open":Str)]→jw c L A v i "off"
 | bndL:i=L→v i=[("open":Str)]→(∀ j,j<c→j≠L→("yes":Str)∈v j)→jw c L A v i "bound"
 | bnd:i≠L→v i=[("yes":Str)]→(∃ j,j<c∧("bound":Str)∈v j)→jw c L A v i "bound"
 | off:i≠L→(v i=[]∨v i=[("yes":Str)])→(∃ j,j<c∧Of (v j))→jw c L A v i "off"
def ky(v:Nat→List Str)(i:Nat)(x:Str):Nat→List Str:=fun j=>if j=i then v i++[x] else v j
theorem b9(v:Nat→List Str)(i:Nat)(x:Str):ky v i x i=v i++[x]:=if_pos rfl
theorem bJ{v:Nat→List Str}{i j:Nat}{x:Str}(h:j≠i):ky v i x j=v j:=if_neg h
theorem sJ{v:Nat→List Str}{i j:Nat}{x y:Str}(h:y∈v j):y∈ky v i x j:=by
 unfold ky
 split
 ·rename_i e;subst e;exact lal _ h
 ·exact h
theorem cT{v:Nat→List Str}{i j:Nat}{x y:Str}(h:y∈ky v i x j):y∈v j∨(j=i∧y=x):=by
 unfold ky at h
 split at h
 ·rename_i e
  subst e
  rcases lap.mp h with z | z
  ·exact .inl z
  ·exact .inr ⟨rfl,lag.mp z⟩
 ·exact .inl h
theorem WI1.nobound{c L:Nat}{A:Nat→Prop}{v:Nat→List Str}(I:WI1 c L A v){i j:Nat}(hi:i<c)(hb:("bound":Str)∈v i)(hj:j<c)(hL:L<c):¬ Of (v j):=by
 obtain ⟨h1,h2⟩:=I.bd i hi hb
 intro ho
 by_cases e:j=L
 ·subst e;rw [h1] at ho;revert ho;unfold Of;decide
 ·rcases h2 j hj e with z | z <;> (rw [z] at ho;revert ho;unfold Of;decide)
theorem WI1.step{c L:Nat}{A:Nat→Prop}{v:Nat→List Str}(I:WI1 c L A v){i:Nat}{x:Str}(hi:i<c)(hL:L<c)(s:jw c L A v i x):WI1 c L A (ky v i x):=by
 have old:∀ {j y},y∈v j→y∈ky v i x j:=fun h=>sJ h
 cases s with
 | opn e ev na=>
  subst e
  have nb:∀ j,j<c→¬ ("bound":Str)∈v j:=fun j hj z=>by
   have:=(I.bd j hj z).1;rw [ev] at this;cases this
  refine ⟨?_,?_,?_,?_,?_,?_⟩
  ·rw [b9,ev];exact .inr (.inr (.inl rfl))
  ·intro j hj n;rw [bJ n];exact I.so j hj n
  ·intro j hj a
   by_cases n:j=i
   ·subst n;exact absurd a na
   ·rw [bJ n];exact I.ag j hj a
  ·intro j hj n z;rw [b9];exact lak _ (by simp)
  ·intro j hj z
   rcases cT z with z | ⟨_,z⟩
   ·exact absurd z (nb j hj)
   ·exact absurd z (by decide)
  ·intro j hj z
   have z':("off":Str)∈v j∨("no":Str)∈v j:=by
    rcases z with z | z
    ·rcases cT z with z | ⟨_,z⟩
     ·exact .inl z
     ·exact absurd z (by decide)
    ·rcases cT z with z | ⟨_,z⟩
     ·exact .inr z
     ·exact absurd z (by decide)
   rcases I.of j hj z' with h | h | ⟨k,hk,nk,h⟩
   ·rw [ev] at h;cases h
   ·rw [ev] at h;cases h
   ·exact .inr (.inr ⟨k,hk,nk,by rw [bJ nk];exact h⟩)
 | noL e ev=>
  subst e
  have nb:∀ j,j<c→¬ ("bound":Str)∈v j:=fun j hj z=>by
   have:=(I.bd j hj z).1;rw [ev] at this;cases this
  refine ⟨?_,?_,?_,?_,?_,?_⟩
  ·rw [b9,ev];exact .inr (.inl rfl)
  ·intro j hj n;rw [bJ n];exact I.so j hj n
  ·intro j hj a
   by_cases n:j=i
   ·subst n;rw [b9,ev];decide
   ·rw [bJ n];exact I.ag j hj a
  ·intro j hj n z
   rw [bJ n] at z
   have:=I.ys j hj n z;rw [ev] at this;cases this
  ·intro j hj z
   rcases cT z with z | ⟨_,z⟩
   ·exact absurd z (nb j hj)
   ·exact absurd z (by decide)
  ·intro j hj z;rw [b9,ev];exact .inl rfl
 | yes e ev na ho=>
  have nb:∀ j,j<c→¬ ("bound":Str)∈v j:=fun j hj z=>by
   rcases (I.bd j hj z).2 i hi e with h | h <;> (rw [ev] at h;cases h)
  refine ⟨?_,?_,?_,?_,?_,?_⟩
  ·rw [bJ (Ne.symm e)];exact I.sl
  ·intro j hj n
   by_cases m:j=i
   ·subst m;rw [b9,ev];exact .inr (.inl rfl)
   ·rw [bJ m];exact I.so j hj n
  ·intro j hj a
   by_cases n:j=i
   ·subst n;exact absurd a na
   ·rw [bJ n];exact I.ag j hj a
  ·intro j hj n z;exact old ho
  ·intro j hj z
   rcases cT z with z | ⟨_,z⟩
   ·exact absurd z (nb j hj)
   ·exact absurd z (by decide)
  ·intro j hj z
   have z':("off":Str)∈v j∨("no":Str)∈v j:=by
    rcases z with z | z
    ·rcases cT z with z | ⟨_,z⟩
     ·exact .inl z
     ·exact absurd z (by decide)
    ·rcases cT z with z | ⟨_,z⟩
     ·exact .inr z
     ·exact absurd z (by decide)
   rw [bJ (Ne.symm e)]
   rcases I.of j hj z' with h | h | ⟨k,hk,nk,h⟩
   ·exact .inl h
   ·exact .inr (.inl h)
   ·refine .inr (.inr ⟨k,hk,nk,?_⟩)
    rw [bJ (by rintro rfl;rw [ev] at h;rcases h with h | h <;> cases h)];exact h
 | no e ev=>
  have nb:∀ j,j<c→¬ ("bound":Str)∈v j:=fun j hj z=>by
   rcases (I.bd j hj z).2 i hi e with h | h <;> (rw [ev] at h;cases h)
  refine ⟨?_,?_,?_,?_,?_,?_⟩
  ·rw [bJ (Ne.symm e)];exact I.sl
  ·intro j hj n
   by_cases m:j=i
   ·subst m;rw [b9,ev];exact .inr (.inr (.inl rfl))
   ·rw [bJ m];exact I.so j hj n
  ·intro j hj a
   by_cases n:j=i
   ·subst n;rw [b9,ev];decide
   ·rw [bJ n];exact I.ag j hj a
  ·intro j hj n z
   rcases cT z with z | ⟨_,z⟩
   ·exact old (I.ys j hj n z)
   ·exact absurd z (by decide)
  ·intro j hj z
   rcases cT z with z | ⟨_,z⟩
   ·exact absurd z (nb j hj)
   ·exact absurd z (by decide)
  ·intro j hj z;exact .inr (.inr ⟨i,hi,e,by rw [b9,ev];exact .inl rfl⟩)
 | offL e ev=>
  subst e
  have nb:∀ j,j<c→¬ ("bound":Str)∈v j:=fun j hj z=>by
   have:=(I.bd j hj z).1;rw [ev] at this;cases this
  refine ⟨?_,?_,?_,?_,?_,?_⟩
  ·rw [b9,ev];exact .inr (.inr (.inr (.inr rfl)))
  ·intro j hj n;rw [bJ n];exact I.so j hj n
  ·intro j hj a
   by_cases n:j=i
   ·subst n
    have:=(I.ag j hj a).1;rw [ev] at this;exact absurd (by decide) this
   ·rw [bJ n];exact I.ag j hj a
  ·intro j hj n z
   rw [b9,ev];decide
  ·intro j hj z
   rcases cT z with z | ⟨_,z⟩
   ·exact absurd z (nb j hj)
   ·exact absurd z (by decide)
  ·intro j hj z;rw [b9,ev];exact .inr (.inl rfl)
 | bndL e ev ay=>
  subst e
  have nof:∀ j,j<c→¬ Of (v j):=fun j hj z=>by
   rcases I.of j hj z with h | h | ⟨k,hk,nk,h⟩
   ·rw [ev] at h;cases h
   ·rw [ev] at h;cases h
   ·have:=ay k hk nk
    rcases h with h | h <;> (rw [h] at this;revert this;decide)
  have hy:∀ j,j<c→j≠i→v j=[("yes":Str)]∨v j=[("yes":Str),"bound"]:=fun j hj n=>by
   have h1:=ay j hj n
   have h2:=nof j hj
   rcases I.so j hj n with h | h | h | h | h | h
   ·rw [h] at h1;cases h1
   ·exact .inl h
   ·rw [h] at h1;exact absurd h1 (by decide)
   ·rw [h] at h1;exact absurd h1 (by decide)
   ·exact .inr h
   ·rw [h] at h2;exact absurd (by unfold Of;decide) h2
  refine ⟨?_,?_,?_,?_,?_,?_⟩
  ·rw [b9,ev];exact .inr (.inr (.inr (.inl rfl)))
  ·intro j hj n;rw [bJ n];exact I.so j hj n
  ·intro j hj a
   by_cases n:j=i
   ·subst n
    have:=(I.ag j hj a).1;rw [ev] at this;exact absurd (by decide) this
   ·rw [bJ n];exact I.ag j hj a
  ·intro j hj n z
   rw [b9,ev];decide
  ·intro j hj z
   refine ⟨by rw [b9,ev];rfl,fun k hk n=>?_⟩
   rw [bJ n];exact hy k hk n
  ·intro j hj z
   have z':Of (v j):=by
    rcases z with z | z
    ·rcases cT z with z | ⟨_,z⟩
     ·exact .inl z
     ·exact absurd z (by decide)
    ·rcases cT z with z | ⟨_,z⟩
     ·exact .inr z
     ·exact absurd z (by decide)
   exact absurd z' (nof j hj)
 | bnd e ev hb=>
  obtain ⟨k,hk,hb⟩:=hb
  obtain ⟨bL,bO⟩:=I.bd k hk hb
  have nof:∀ j,j<c→¬ Of (v j):=fun j hj=>I.nobound hk hb hj hL
  refine ⟨?_,?_,?_,?_,?_,?_⟩
  ·rw [bJ (Ne.symm e)];exact I.sl
  ·intro j hj n
   by_cases m:j=i
   ·subst m;rw [b9,ev];exact .inr (.inr (.inr (.inr (.inl rfl))))
   ·rw [bJ m];exact I.so j hj n
  ·intro j hj a
   by_cases n:j=i
   ·subst n
    have:=(I.ag j hj a).2;rw [ev] at this;exact absurd (by decide) this
   ·rw [bJ n];exact I.ag j hj a
  ·intro j hj n z
   rw [bJ (Ne.symm e),bL];decide
  ·intro j hj z
   refine ⟨by rw [bJ (Ne.symm e)];exact bL,fun l hl n=>?_⟩
   by_cases m:l=i
   ·subst m;rw [b9,ev];exact .inr rfl
   ·rw [bJ m];exact bO l hl n
  ·intro j hj z
   have z':Of (v j):=by
    rcases z with z | z
    ·rcases cT z with z | ⟨_,z⟩
     ·exact .inl z
     ·exact absurd z (by decide)
    ·rcases cT z with z | ⟨_,z⟩
     ·exact .inr z
     ·exact absurd z (by decide)
   exact absurd z' (nof j hj)
 | off e ev ho=>
  obtain ⟨k,hk,ho⟩:=ho
  have nb:∀ j,j<c→¬ ("bound":Str)∈v j:=fun j hj z=>I.nobound hj z hk hL ho
  refine ⟨?_,?_,?_,?_,?_,?_⟩
  ·rw [bJ (Ne.symm e)];exact I.sl
  ·intro j hj n
   by_cases m:j=i
   ·subst m
    rw [b9]
    rcases ev with ev | ev <;> rw [ev]
    ·exact .inr (.inr (.inr (.inl rfl)))
    ·exact .inr (.inr (.inr (.inr (.inr rfl))))
   ·rw [bJ m];exact I.so j hj n
  ·intro j hj a
   by_cases n:j=i
   ·subst n
    rw [b9]
    have:=I.ag j hj a
    rcases ev with ev | ev <;> rw [ev] at this ⊢
    ·decide
    ·exact absurd (by decide) this.2
   ·rw [bJ n];exact I.ag j hj a
  ·intro j hj n z
   rcases cT z with z | ⟨_,z⟩
   ·exact old (I.ys j hj n z)
   ·exact absurd z (by decide)
  ·intro j hj z
   rcases cT z with z | ⟨_,z⟩
   ·exact absurd z (nb j hj)
   ·exact absurd z (by decide)
  ·intro j hj z
   rw [bJ (Ne.symm e)]
   rcases I.of k hk ho with h | h | ⟨m,hm,nm,h⟩
   ·exact .inl h
   ·exact .inr (.inl h)
   ·refine .inr (.inr ?_)
    by_cases z:m=i
    ·subst z
     rcases ev with ev | ev <;> (rw [ev] at h;rcases h with h | h <;> cases h)
    ·exact ⟨m,hm,nm,by rw [bJ z];exact h⟩
def ld(c:Nat)(n:Int):Nat:=(n % (c:Int)).toNat
theorem Az(h:2≤c)(n:Int):ld c n<c:=by
 have h1:=Int.emod_nonneg n (show (c:Int)≠0 by omega)
 have h2:=Int.emod_lt_of_pos n (show (0:Int)<c by omega)
 unfold ld;omega
def bN(S:HallS)(i:Nat)(n:Int):List Str:=(S.hs[i]?).elim [] fun h=>aq h.book n
theorem dw(hi:S.hs[i]?=some h)(n:Int):bN S i n=aq h.book n:=by unfold bN;rw [hi];rfl
def LI(c:Nat)(w:Nat→Int→List Str)(l:aC):Prop:=
 (l.2.2.2="ask"∧l.1=ld c l.2.2.1∧l.2.1≠ld c l.2.2.1∧("open":Str)∈w (ld c l.2.2.1) l.2.2.1)∨
 (l.2.2.2="yes"∧l.2.1=ld c l.2.2.1∧l.1≠ld c l.2.2.1∧("yes":Str)∈w l.1.toNat l.2.2.1)∨
 (l.2.2.2="no"∧l.2.1=ld c l.2.2.1∧l.1≠ld c l.2.2.1∧Of (w l.1.toNat l.2.2.1)∧("open":Str)∈w (ld c l.2.2.1) l.2.2.1)∨
 (l.2.2.2="query"∧l.1≠ld c l.2.2.1∧("yes":Str)∈w l.1.toNat l.2.2.1∧l.2.1≠l.1)∨
 (l.2.2.2="bound"∧l.2.1≠ld c l.2.2.1∧("bound":Str)∈w l.1.toNat l.2.2.1∧l.2.1≠l.1)∨
 (l.2.2.2="off"∧l.2.1≠ld c l.2.2.1∧Of (w l.1.toNat l.2.2.1)∧l.2.1≠l.1)
def rY(w w':Nat→Int→List Str):Prop:=∀ i n x,x∈w i n→x∈w' i n
theorem Of.ext{w w':Nat→Int→List Str}(e:rY w w'){i:Nat}{n:Int}(h:Of (w i n)):Of (w' i n):=h.imp (e i n _) (e i n _)
theorem LI.ext{w w':Nat→Int→List Str}(e:rY w w'){l:aC}(h:LI c w l):LI c w' l:=by
 rcases h with ⟨a,b,d,f⟩ | ⟨a,b,d,f⟩ | ⟨a,b,d,f,g⟩ | ⟨a,b,d,f⟩ | ⟨a,b,d,f⟩ | ⟨a,b,d,f⟩
 ·exact .inl ⟨a,b,d,e _ _ _ f⟩
 ·exact .inr (.inl ⟨a,b,d,e _ _ _ f⟩)
 ·exact .inr (.inr (.inl ⟨a,b,d,f.ext e,e _ _ _ g⟩))
 ·exact .inr (.inr (.inr (.inl ⟨a,b,e _ _ _ d,f⟩)))
 ·exact .inr (.inr (.inr (.inr (.inl ⟨a,b,e _ _ _ d,f⟩))))
 ·exact .inr (.inr (.inr (.inr (.inr ⟨a,b,d.ext e,f⟩))))
def CI(c:Nat)(w:Nat→Int→List Str)(i:Nat)(n:Int)(gs:List Int):Prop:=gs.Nodup∧∀ g∈gs,∃ j:Nat,g=j∧j<c∧j≠i∧("yes":Str)∈w j n
theorem CI.ext{w w':Nat→Int→List Str}(e:rY w w'){i:Nat}{n:Int}{gs:List Int}(h:CI c w i n gs):CI c w' i n gs:=⟨h.1,fun g hg=>by obtain ⟨j,a,b,d,f⟩:=h.2 g hg;exact ⟨j,a,b,d,e _ _ _ f⟩⟩
structure Inv(c:Nat)(ag:List (Int×Int))(Bs:Int→Prop)(S:HallS):Prop where
 ok:HallOk c S
 agn:∀ (i:Nat) (h:HS),S.hs[i]?=some h→h.agn=dL ag i
 wi:∀ n,WI1 c (ld c n) (fun i=>n∈dL ag i) (fun i=>bN S i n)
 cn:∀ (i:Nat) (h:HS) (n:Int),S.hs[i]?=some h→i=ld c n→CI c (bN S) i n (h.cnt n)
 li:∀ l∈S.ls,LI c (bN S) l
 ya:∀ (i:Nat) (n:Int),i<c→i≠ld c n→("yes":Str)∈bN S i n→(((ld c n:Nat):Int),(i:Int),n,("ask":Str))∈S.ls
 ba:∀ (i:Nat) (n:Int),i<c→i≠ld c n→("bound":Str)∈bN S i n→∃ g:Int,(g,(i:Int),n,("bound":Str))∈S.ls
 bs:∀ (i:Nat) (n:Int),bN S i n≠[]→Bs n
theorem fm{h g:HS}(hi:S.hs[i]?=some h)(j:Nat)(n:Int):bN (S.put i g) j n=if j=i then aq g.book n else bN S j n:=by
 unfold bN
 show ((S.hs.set i g)[j]?).elim _ _=_
 by_cases e:j=i
 ·subst e
  rw [lao (lab.mp hi).1,if_pos rfl];rfl
 ·rw [lar (Ne.symm e),if_neg e]
theorem om{h g:HS}(hi:S.hs[i]?=some h)(hb:g.book=h.book):bN (S.put i g)=bN S:=by
 funext j n
 rw [fm hi]
 split
 ·rename_i e;subst e;rw [hb,dw hi]
 ·rfl
theorem gO{h g:HS}{x:Str}{m:Int}(hi:S.hs[i]?=some h)(hb:g.book=h.book++[(x,m)])(n:Int):(fun j=>bN (S.put i g) j n)=if n=m then ky (fun j=>bN S j n) i x else fun j=>bN S j n:=by
 funext j
 rw [fm hi]
 by_cases e:j=i
 ·subst e
  rw [if_pos rfl,hb,dt]
  by_cases z:n=m
  ·subst z;rw [if_pos rfl,if_pos rfl,b9,dw hi]
  ·rw [if_neg (fun y=>z y.symm),if_neg z,dw hi]
 ·rw [if_neg e]
  by_cases z:n=m
  ·rw [if_pos z,bJ e]
  ·rw [if_neg z]
theorem uk{h g:HS}{x:Str}{m:Int}(hi:S.hs[i]?=some h)(hb:g.book=h.book++[(x,m)]):rY (bN S) (bN (S.put i g)):=fun j n y hy=>by
 have:=congrFun (gO hi hb n) j
 rw [this]
 split
 ·exact sJ (v:=fun j=>bN S j n) hy
 ·exact hy
variable {ag:List (Int×Int)}
variable {Bs:Int→Prop}
theorem Inv.put0(I:Inv c ag Bs S){i:Nat}{h g:HS}(hi:S.hs[i]?=some h)(hn:g.num=h.num)(ho:g.oth=h.oth)(ha:g.agn=h.agn)(hb:g.book=h.book)
  (hc:∀ n,i=ld c n→CI c (bN S) i n (g.cnt n)):Inv c ag Bs (S.put i g):=by
 have ew:bN (S.put i g)=bN S:=om hi hb
 refine ⟨I.ok.put hi hn ho,?_,?_,?_,?_,?_,?_,?_⟩
 ·intro j x hx
  change (S.hs.set i g)[j]?=some x at hx
  by_cases e:i=j
  ·subst e
   rw [lao (lab.mp hi).1] at hx
   cases hx
   rw [ha];exact I.agn i h hi
  ·rw [lar e] at hx;exact I.agn j x hx
 ·rw [ew];exact I.wi
 ·intro j x n hx e
  rw [ew]
  change (S.hs.set i g)[j]?=some x at hx
  by_cases z:i=j
  ·subst z
   rw [lao (lab.mp hi).1] at hx
   cases hx
   exact hc n e
  ·rw [lar z] at hx;exact I.cn j x n hx e
 ·rw [ew];exact I.li
 ·rw [ew];exact I.ya
 ·rw [ew];exact I.ba
 ·rw [ew];exact I.bs
theorem Inv.put1(I:Inv c ag Bs S){i:Nat}{h g:HS}{x:Str}{m:Int}(hi:S.hs[i]?=some h)(hn:g.num=h.num)(ho:g.oth=h.oth)(ha:g.agn=h.agn)(hb:g.book=h.book++[(x,m)])
  (hc:∀ n,i=ld c n→CI c (bN S) i n (g.cnt n))(st:jw c (ld c m) (fun i=>m∈dL ag i) (fun i=>bN S i m) i x)(hB:Bs m)
  (hy:x="yes"→i≠ld c m→(((ld c m:Nat):Int),(i:Int),m,("ask":Str))∈S.ls)(hbd:x="bound"→i≠ld c m→∃ g:Int,(g,(i:Int),m,("bound":Str))∈S.ls):Inv c ag Bs (S.put i g):=by
 have il:=I.ok.il hi
 have ex:=uk hi hb
 refine ⟨I.ok.put hi hn ho,?_,?_,?_,?_,?_,?_,?_⟩
 ·intro j y hx
  change (S.hs.set i g)[j]?=some y at hx
  by_cases e:i=j
  ·subst e
   rw [lao (lab.mp hi).1] at hx
   cases hx
   rw [ha];exact I.agn i h hi
  ·rw [lar e] at hx;exact I.agn j y hx
 ·intro n
  rw [gO hi hb n]
  split
  ·rename_i e;subst e;exact (I.wi n).step il (Az I.ok.c1 n) st
  ·exact I.wi n
 ·intro j y n hx e
  change (S.hs.set i g)[j]?=some y at hx
  by_cases z:i=j
  ·subst z
   rw [lao (lab.mp hi).1] at hx
   cases hx
   exact (hc n e).ext ex
  ·rw [lar z] at hx;exact (I.cn j y n hx e).ext ex
 ·intro l hl;exact (I.li l hl).ext ex
 ·intro j n hj e z
  have:=congrFun (gO hi hb n) j
  rw [this] at z
  split at z
  ·rename_i em
   subst em
   rcases cT z with z | ⟨e1,e2⟩
   ·exact I.ya j n hj e z
   ·subst e1;exact hy e2.symm e
  ·exact I.ya j n hj e z
 ·intro j n hj e z
  have:=congrFun (gO hi hb n) j
  rw [this] at z
  split at z
  ·rename_i em
   subst em
   rcases cT z with z | ⟨e1,e2⟩
   ·exact I.ba j n hj e z
   ·subst e1;exact hbd e2.symm e
  ·exact I.ba j n hj e z
 ·intro j n z
  by_cases em:n=m
  ·subst em;exact hB
  ·have:=congrFun (gO hi hb n) j
   rw [this,if_neg em] at z
   exact I.bs j n z
theorem Inv.send(I:Inv c ag Bs S){sent:List aC}(h:∀ l∈sent,LetOk c l∧LI c (bN S) l):Inv c ag Bs (S.send sent):=
 ⟨I.ok.send fun l hl=>(h l hl).1,I.agn,I.wi,I.cn,fun l hl=>(lap.mp hl).elim (I.li l) fun z=>(h l z).2,fun i n hi e z=>lal _ (I.ya i n hi e z),fun i n hi e z=>by obtain ⟨g,hg⟩:=I.ba i n hi e z;exact ⟨g,lal _ hg⟩,I.bs⟩
theorem Inv.halt(I:Inv c ag Bs S){i:Nat}{h:HS}(hi:S.hs[i]?=some h):Inv c ag Bs (S.put i h.stop):=
 I.put0 hi rfl rfl rfl rfl fun n _=>⟨List.nodup_nil,fun g hg=>by cases hg⟩
theorem Inv.post{r:HS×List aC}{st:Bool}(hi:S.hs[i]?=some h)(I:Inv c ag Bs (S.put i r.1))(hl:∀ l∈r.2,LetOk c l∧LI c (bN (S.put i r.1)) l):Inv c ag Bs (S.post i r st):=by
 unfold HallS.post
 cases st with
 | true=>exact I.send hl
 | false=>
  rw [if_neg (by decide)]
  have:=I.halt (cS (g:=r.1) hi)
  rw [d_] at this
  exact this
theorem Inv.trim(I:Inv c ag Bs S):Inv c ag Bs S.trim:=⟨I.ok.trim,I.agn,I.wi,I.cn,I.li,I.ya,I.ba,I.bs⟩
theorem gM:∀ (l m:List Int),l.Nodup→(∀ x∈l,x∈m)→l.length≤m.length
 | [],m,_,_=>laI _
 | x::r,m,hn,hs=>by
  have hx:=hs x (by simp)
  rw [List.nodup_cons] at hn
  have h1:=gM r (m.erase x) hn.2 fun y hy=>(List.mem_erase_of_ne (by rintro rfl;exact hn.1 hy)).mpr (hs y (lac _ hy))
  rw [List.length_erase_of_mem hx] at h1
  have h2:=List.length_pos_of_mem hx
  rw [laj];omega
theorem ny{i c j:Nat}(hj:j<c)(n:j≠i):(j:Int)∈bP (i:Int) c:=by
 unfold bP
 rw [laC,laA]
 refine ⟨⟨j,laB.mpr hj,rfl⟩,?_⟩
 simp;omega
theorem Db{c i:Nat}{gs:List Int}(hn:gs.Nodup)(hs:∀ g∈gs,∃ j:Nat,g=j∧j<c∧j≠i)(hl:(bP (i:Int) c).length≤gs.length):∀ j,j<c→j≠i→(j:Int)∈gs:=by
 intro j hj n
 by_cases m:(j:Int)∈gs
 ·exact m
 ·have:=gM ((j:Int)::gs) (bP (i:Int) c) (List.nodup_cons.mpr ⟨m,hn⟩) fun x hx=>by
   rcases List.mem_cons.mp hx with rfl | z
   ·exact ny hj n
   ·obtain ⟨k,rfl,hk,nk⟩:=hs x z;exact ny hk nk
  rw [laj] at this
  omega
theorem qh(h:aJ b n=some ("off":Str)):Of (aq b n):=by
 unfold aJ at h
 split at h
 ·exact absurd (lan h) (by decide)
 ·split at h
  ·rename_i z;exact z
  ·cases h
theorem qP(h:aJ b n=some ("bound":Str)):("bound":Str)∈aq b n:=by
 unfold aJ at h
 split at h
 ·rename_i z;exact z
 ·split at h
  ·exact absurd (lan h) (by decide)
  ·cases h
theorem b8{ws:List Str}(e:aq b n=ws):aJ b n=if ("bound":Str)∈ws then some ("bound":Str) else if ("off":Str)∈ws∨("no":Str)∈ws then some ("off":Str) else none:=by
 unfold aJ;rw [e]
theorem kO(e:aq b n=[("yes":Str)]):dk b n=true:=by
 unfold dk iQ
 rw [b8 e,e]
 decide
theorem oo{c L:Nat}{A:Nat→Prop}{v:Nat→List Str}(I:WI1 c L A v){b:List aW}{n:Int}(e:aq b n=v L)(h:aJ b n=none):v L=[]∨v L=[("open":Str)]:=by
 rcases I.sl with z | z | z | z | z
 ·exact .inl z
 ·rw [b8 (e.trans z)] at h;exact absurd h (by decide)
 ·exact .inr z
 ·rw [b8 (e.trans z)] at h;exact absurd h (by decide)
 ·rw [b8 (e.trans z)] at h;exact absurd h (by decide)
theorem qJ{c L:Nat}{A:Nat→Prop}{v:Nat→List Str}(I:WI1 c L A v){i:Nat}(hi:i<c)(n':i≠L){b:List aW}{n:Int}(e:aq b n=v i)(h:aJ b n=none):v i=[]∨v i=[("yes":Str)]:=by
 rcases I.so i hi n' with z | z | z | z | z | z
 ·exact .inl z
 ·exact .inr z
 ·rw [b8 (e.trans z)] at h;exact absurd h (by decide)
 ·rw [b8 (e.trans z)] at h;exact absurd h (by decide)
 ·rw [b8 (e.trans z)] at h;exact absurd h (by decide)
 ·rw [b8 (e.trans z)] at h;exact absurd h (by decide)
theorem wv{g:Int}{gs:List Int}(h:gs.Nodup):(cZ g gs).Nodup:=by
 unfold cZ
 split
 ·exact h
 ·rename_i n
  rw [List.nodup_append]
  refine ⟨h,by simp,fun a ha b hb=>?_⟩
  rw [lag.mp hb]
  rintro rfl
  exact n ha
theorem zr{g x:Int}{gs:List Int}(h:x∈cZ g gs):x=g∨x∈gs:=by
 unfold cZ at h
 split at h
 ·exact .inr h
 ·rcases lap.mp h with z | z
  ·exact .inr z
  ·exact .inl (lag.mp z)
def qL(c:Nat)(ag:List (Int×Int))(Bs:Int→Prop)(S:HallS)(i:Nat)(r:HS×List aC):Prop:=Inv c ag Bs (S.put i r.1)∧∀ x∈r.2,LI c (bN (S.put i r.1)) x
theorem eZ(I:Inv c ag Bs S){i:Nat}{h:HS}(hi:S.hs[i]?=some h)(ls:List aC)(hl:∀ x∈ls,LI c (bN S) x):qL c ag Bs S i (h,ls):=by
 unfold qL
 dsimp only
 rw [dB hi]
 exact ⟨I,hl⟩
theorem fh(I:Inv c ag Bs S){i:Nat}{h:HS}(hi:S.hs[i]?=some h){x:Str}{m:Int}(ls:List aC)(st:jw c (ld c m) (fun i=>m∈dL ag i) (fun i=>bN S i m) i x)(hB:Bs m)
  (hy:x="yes"→i≠ld c m→(((ld c m:Nat):Int),(i:Int),m,("ask":Str))∈S.ls)(hbd:x="bound"→i≠ld c m→∃ g:Int,(g,(i:Int),m,("bound":Str))∈S.ls)
  (hl:x∈bN (S.put i (h.wr x m)) i m→rY (bN S) (bN (S.put i (h.wr x m)))→∀ y∈ls,LI c (bN (S.put i (h.wr x m))) y):qL c ag Bs S i (h.wr x m,ls):=by
 refine ⟨I.put1 hi rfl rfl rfl rfl (fun n e=>I.cn i h n hi e) st hB hy hbd,hl ?_ (uk hi rfl)⟩
 rw [fm hi,if_pos rfl]
 show x∈aq (h.book++[(x,m)]) m
 rw [dt,if_pos rfl]
 exact lak _ (by simp)
theorem Inv.bsL(I:Inv c ag Bs S){i:Nat}{n:Int}{x:Str}(h:x∈bN S i n):Bs n:=I.bs i n fun e=>by rw [e] at h;cases h
theorem A'(I:Inv c ag Bs S){i:Nat}{h:HS}(hi:S.hs[i]?=some h){l:aC}(hl:l∈S.ls)(ht:l.2.1=(i:Int)):qL c ag Bs S i (h.got l):=by
 obtain ⟨g,t,n,w⟩:=l
 dsimp only at ht
 subst ht
 have il:=I.ok.il hi
 have lo:=I.ok.let_ _ hl
 have hg0:0≤g:=lo.g0
 have hg1:g<c:=lo.g1
 obtain ⟨hnum,hoth⟩:=I.ok.num i h hi
 have hagn:=I.agn i h hi
 have hL:=Az I.ok.c1 n
 have W:=I.wi n
 have ewi:aq h.book n=bN S i n:=(dw hi n).symm
 have gn:((g.toNat:Nat):Int)=g:=by omega
 have gl:g.toNat<c:=by omega
 have li:=I.li _ hl
 unfold HS.got
 dsimp only
 unfold LI at li
 dsimp only at li
 -- what is sent to the giver
 have reply:∀ (w':Nat→Int→List Str) (d:Str),g≠ld c n→g≠i→(d="bound"→("bound":Str)∈w' i n)→(d="off"→Of (w' i n))→(d="bound"∨d="off")→LI c w' (h.num,g,n,d):=fun w' d e1 e0 e2 e3 e4=>by
  unfold LI
  dsimp only
  rw [hnum]
  rcases e4 with rfl | rfl
  ·exact .inr (.inr (.inr (.inr (.inl ⟨rfl,e1,e2 rfl,e0⟩))))
  ·exact .inr (.inr (.inr (.inr (.inr ⟨rfl,e1,e3 rfl,e0⟩))))
 have toall:∀ (w':Nat→Int→List Str) (d:Str),i=ld c n→(d="bound"→("bound":Str)∈w' i n)→(d="off"→Of (w' i n))→(d="bound"∨d="off")→∀ y∈h.toOthers n d,LI c w' y:=fun w' d e1 e2 e3 e4 y hy=>by
  unfold HS.toOthers at hy
  obtain ⟨k,hk,rfl⟩:=laA.mp hy
  rw [hoth] at hk
  obtain ⟨h1,h2,h3⟩:=fj hk
  unfold LI
  dsimp only
  rw [hnum]
  rcases e4 with rfl | rfl
  ·exact .inr (.inr (.inr (.inr (.inl ⟨rfl,by rw [← e1];exact h3,e2 rfl,h3⟩))))
  ·exact .inr (.inr (.inr (.inr (.inr ⟨rfl,by rw [← e1];exact h3,e3 rfl,h3⟩))))
 split
 ·-- ask
  rename_i e
  subst e
  rcases li with ⟨_,a2,a3,a4⟩ | ⟨a1,_⟩ | ⟨a1,_⟩ | ⟨a1,_⟩ | ⟨a1,_⟩ | ⟨a1,_⟩
  all_goals first | exact absurd a1 (by decide) | skip
  have ne:i≠ld c n:=fun z=>a3 (by rw [z])
  unfold HS.gotAsk
  have key:qL c ag Bs S i (h.asked n,[])∧bN (S.put i (h.asked n)) i n≠[]:=by
   unfold HS.asked
   by_cases em:aq h.book n=[]
   ·rw [if_pos em]
    have ev:bN S i n=[]:=ewi▸em
    by_cases ea:n∈h.agn
    ·rw [if_pos ea]
     refine ⟨fh I hi [] (.no ne ev) (I.bsL a4) (fun z=>absurd z (by decide)) (fun z=>absurd z (by decide)) (fun _ _ y hy=>(nomatch hy)),?_⟩
     rw [fm hi,if_pos rfl]
     show aq (h.book++[_]) n≠[]
     rw [dt,if_pos rfl];simp
    ·rw [if_neg ea]
     refine ⟨fh I hi [] (.yes ne ev (by rw [← hagn];exact ea) a4) (I.bsL a4) (fun _ _=>by rw [← a2];exact hl) (fun z=>absurd z (by decide)) (fun _ _ y hy=>(nomatch hy)),?_⟩
     rw [fm hi,if_pos rfl]
     show aq (h.book++[_]) n≠[]
     rw [dt,if_pos rfl];simp
   ·rw [if_neg em]
    refine ⟨eZ I hi [] (fun y hy=>(nomatch hy)),?_⟩
    rw [dB hi,← ewi];exact em
  obtain ⟨⟨K,_⟩,kn⟩:=key
  refine ⟨K,fun y hy=>?_⟩
  rw [lag.mp hy,hnum]
  have ek:bN (S.put i (h.asked n)) i n=aq (h.asked n).book n:=by rw [fm hi,if_pos rfl]
  have ope:("open":Str)∈bN (S.put i (h.asked n)) (ld c n) n:=by rw [fm hi,if_neg (Ne.symm ne)];exact a4
  unfold LI
  dsimp only
  by_cases ed:aJ (h.asked n).book n=some ("off":Str)
  ·rw [if_pos ed]
   refine .inr (.inr (.inl ⟨rfl,a2,fun z=>ne (by omega),?_,ope⟩))
   rw [Int.toNat_natCast,ek];exact qh ed
  ·rw [if_neg ed]
   refine .inr (.inl ⟨rfl,a2,fun z=>ne (by omega),?_⟩)
   rw [Int.toNat_natCast]
   rcases (K.wi n).so i il ne with z | z | z | z | z | z
   ·exact absurd z kn
   ·rw [z];decide
   ·rw [b8 (ek.symm.trans z)] at ed;exact absurd (by decide) ed
   ·rw [b8 (ek.symm.trans z)] at ed;exact absurd (by decide) ed
   ·rw [z];decide
   ·rw [b8 (ek.symm.trans z)] at ed;exact absurd (by decide) ed
 split
 ·-- query
  rename_i e0 e
  subst e
  rcases li with ⟨a1,_⟩ | ⟨a1,_⟩ | ⟨a1,_⟩ | ⟨_,a2,a3,a4⟩ | ⟨a1,_⟩ | ⟨a1,_⟩
  all_goals first | exact absurd a1 (by decide) | skip
  have gne:g.toNat≠ld c n:=fun z=>a2 (by omega)
  have ope:("open":Str)∈bN S (ld c n) n:=W.ys g.toNat gl gne a3
  have hB:Bs n:=I.bsL a3
  unfold HS.gotQuery
  split
  ·exact eZ I hi [] fun y hy=>by cases hy
  ·rename_i eu
   split
   ·rename_i d hd
    refine eZ I hi _ fun y hy=>?_
    rw [lag.mp hy]
    refine reply _ d a2 (Ne.symm a4) (fun z=>?_) (fun z=>?_) (f_ hd)
    ·subst z;rw [← ewi];exact qP hd
    ·subst z;rw [← ewi];exact qh hd
   ·rename_i hd
    split
    ·rename_i em
     have ev:bN S i n=[]:=ewi▸em
     have ne:i≠ld c n:=fun z=>by rw [← z,ev] at ope;cases ope
     refine fh I hi _ (.no ne ev) hB (fun z=>absurd z (by decide)) (fun z=>absurd z (by decide)) fun m _ y hy=>?_
     rw [lag.mp hy]
     exact reply _ "off" a2 (Ne.symm a4) (fun z=>absurd z (by decide)) (fun _=>.inr m) (.inr rfl)
    ·rename_i em
     by_cases ne:i=ld c n
     ·have ev:bN S i n=[("open":Str)]:=by
       rcases oo W (b:=h.book) (n:=n) (by rw [ewi,ne]) hd with z | z
       ·rw [← ne] at z;exact absurd (ewi.trans z) em
       ·rw [← ne] at z;exact z
      unfold HS.decide
      exact fh I hi _ (.offL ne ev) hB (fun z=>absurd z (by decide)) (fun z=>absurd z (by decide)) fun m _=>toall _ "off" ne (fun z=>absurd z (by decide)) (fun _=>.inl m) (.inr rfl)
     ·rcases qJ W il ne (b:=h.book) (n:=n) ewi hd with z | z
      ·exact absurd (ewi.trans z) em
      ·exact absurd (kO (ewi.trans z)) eu
 split
 ·-- yes,no
  rename_i e0 e1 e
  have tL:i=ld c n∧g≠ld c n∧(("open":Str)∈bN S (ld c n) n)∧(w="yes"→("yes":Str)∈bN S g.toNat n):=by
   rcases li with ⟨a1,_⟩ | ⟨a1,a2,a3,a4⟩ | ⟨a1,a2,a3,a4,a5⟩ | ⟨a1,_⟩ | ⟨a1,_⟩ | ⟨a1,_⟩
   ·exact absurd a1 e0
   ·exact ⟨by omega,a3,W.ys g.toNat gl (fun z=>a3 (by omega)) a4,fun _=>a4⟩
   ·exact ⟨by omega,a3,a5,fun z=>by rw [a1] at z;exact absurd z (by decide)⟩
   ·exact absurd a1 e1
   ·rw [a1] at e;rcases e with z | z <;> exact absurd z (by decide)
   ·rw [a1] at e;rcases e with z | z <;> exact absurd z (by decide)
  obtain ⟨ne,gne,ope,hye⟩:=tL
  have hB:Bs n:=I.bsL ope
  unfold HS.gotVote
  split
  ·rename_i d hd
   refine eZ I hi _ fun y hy=>?_
   split at hy
   ·rw [lag.mp hy]
    refine reply _ d gne (by rw [ne];exact gne) (fun z=>?_) (fun z=>?_) (f_ hd)
    ·subst z;rw [← ewi];exact qP hd
    ·subst z;rw [← ewi];exact qh hd
   ·cases hy
  ·rename_i hd
   have ev:bN S i n=[("open":Str)]:=by
    rcases oo W (b:=h.book) (n:=n) (by rw [ewi,ne]) hd with z | z
    ·rw [z] at ope;cases ope
    ·rw [← ne] at z;exact z
   split
   ·unfold HS.decide
    exact fh I hi _ (.offL ne ev) hB (fun z=>absurd z (by decide)) (fun z=>absurd z (by decide)) fun m _=>toall _ "off" ne (fun z=>absurd z (by decide)) (fun _=>.inl m) (.inr rfl)
   ·rename_i enw
    have ew:w="yes":=e.resolve_right enw
    have hyg:=hye ew
    have C0:=I.cn i h n hi ne
    have cnt':∀ m,i=ld c m→CI c (bN S) i m ((h.count g n).cnt m):=fun m em=>by
     show CI c (bN S) i m (if m=n then cZ g (h.cnt n) else h.cnt m)
     split
     ·rename_i z
      subst z
      refine ⟨wv C0.1,fun x hx=>?_⟩
      rcases zr hx with rfl | z
      ·exact ⟨x.toNat,gn.symm,gl,fun z=>gne (by omega),hyg⟩
      ·exact C0.2 x z
     ·exact I.cn i h m hi em
    have I2:Inv c ag Bs (S.put i (h.count g n)):=I.put0 hi rfl rfl rfl rfl cnt'
    split
    ·exact ⟨I2,fun y hy=>by cases hy⟩
    ·rename_i hlen
     have C1:CI c (bN S) i n (cZ g (h.cnt n)):=by
      have:=cnt' n ne
      change CI c (bN S) i n (if n=n then cZ g (h.cnt n) else h.cnt n) at this
      rwa [if_pos rfl] at this
     have all:∀ j,j<c→j≠ld c n→("yes":Str)∈bN S j n:=fun j hj nj=>by
      have:=Db C1.1 (fun x hx=>by obtain ⟨k,a,b,d,_⟩:=C1.2 x hx;exact ⟨k,a,b,d⟩) (by rw [← hoth];omega) j hj (fun z=>nj (z.trans ne))
      obtain ⟨k,a,b,d,e⟩:=C1.2 _ this
      rwa [show k=j by omega] at e
     have hi2:(S.put i (h.count g n)).hs[i]?=some (h.count g n):=cS hi
     have ew2:bN (S.put i (h.count g n))=bN S:=om hi rfl
     have D:=fh I2 hi2 (x:="bound") (m:=n) (h.toOthers n "bound") (by rw [ew2];exact .bndL ne ev all) hB (fun z=>absurd z (by decide)) (fun _ z=>absurd ne z) fun m _=>toall _ "bound" ne (fun _=>m) (fun z=>absurd z (by decide)) (.inl rfl)
     unfold qL at D ⊢
     rw [d_] at D
     exact D
 ·-- bound,off
  rename_i e0 e1 e2
  have tL:i≠ld c n∧((w="bound"∧("bound":Str)∈bN S g.toNat n)∨(w="off"∧Of (bN S g.toNat n))):=by
   rcases li with ⟨a1,_⟩ | ⟨a1,_⟩ | ⟨a1,_⟩ | ⟨a1,_⟩ | ⟨a1,a2,a3,_⟩ | ⟨a1,a2,a3,_⟩
   ·exact absurd a1 e0
   ·exact absurd (.inl a1) e2
   ·exact absurd (.inr a1) e2
   ·exact absurd a1 e1
   ·exact ⟨fun z=>a2 (by rw [z]),.inl ⟨a1,a3⟩⟩
   ·exact ⟨fun z=>a2 (by rw [z]),.inr ⟨a1,a3⟩⟩
  obtain ⟨ne,hw⟩:=tL
  have hB:Bs n:=by
   rcases hw with ⟨_,z⟩ | ⟨_,z | z⟩ <;> exact I.bsL z
  unfold HS.gotDecision
  by_cases hd:aJ h.book n=none
  ·rw [if_pos hd]
   have ev:=qJ W il ne (b:=h.book) (n:=n) ewi hd
   rcases hw with ⟨rfl,hb⟩ | ⟨rfl,ho⟩
   ·have ev':bN S i n=[("yes":Str)]:=by
     rcases (W.bd g.toNat gl hb).2 i il ne with z | z
     ·exact z
     ·rcases ev with y | y <;> (rw [y] at z;cases z)
    exact fh I hi [] (.bnd ne ev' ⟨g.toNat,gl,hb⟩) hB (fun z=>absurd z (by decide)) (fun _ _=>⟨g,hl⟩) fun _ _ y hy=>by cases hy
   ·exact fh I hi [] (.off ne ev ⟨g.toNat,gl,ho⟩) hB (fun z=>absurd z (by decide)) (fun z=>absurd z (by decide)) fun _ _ y hy=>by cases hy
  ·rw [if_neg hd]
   exact eZ I hi [] fun y hy=>by cases hy
theorem Inv.carryL(I:Inv c ag Bs S){l:aC}(hl:l∈S.ls)(st:Bool):Inv c ag Bs (S.carryL l st).1:=by
 have lo:=I.ok.let_ _ hl
 unfold HallS.carryL
 split
 ·exact I
 ·rename_i h hi
  split
  ·have ht:l.2.1=((l.2.1.toNat:Nat):Int):=by have:=lo.t0;omega
   obtain ⟨D1,D2⟩:=A' I hi hl ht
   obtain ⟨e1,e2⟩:=I.ok.num _ h hi
   exact Inv.post hi D1 fun x hx=>⟨yx e1 e2 (I.ok.il hi) lo x hx,D2 x hx⟩
  ·exact I
theorem Inv.carry(I:Inv c ag Bs S)(k:Int)(st:Bool):Inv c ag Bs (S.carry k st).1:=by
 unfold HallS.carry
 split
 ·exact I
 ·rename_i l hl
  exact I.carryL (lam hl) st
theorem Inv.turn(I:Inv c ag Bs S)(k:Nat):Inv c ag Bs (S.turn k).1:=by
 unfold HallS.turn
 split
 ·exact I
 ·rename_i l hl
  exact I.carryL (lam hl) true
theorem Inv.sweepGo:∀ (f:Nat) (S:HallS) (pl:Nat) (w:List (Int×aW)) (r:HallS×List (Int×aW)),Inv c ag Bs S→S.sweepGo f pl w=some r→Inv c ag Bs r.1
 | 0,S,pl,w,r,I,h=>by
  unfold HallS.sweepGo at h
  split at h
  ·cases h
  ·cases h;exact I
 | f+1,S,pl,w,r,I,h=>by
  unfold HallS.sweepGo at h
  split at h
  ·exact Inv.sweepGo f _ _ _ _ (I.turn _) h
  ·cases h;exact I
theorem yu(I:Inv c ag Bs S){i:Nat}{h:HS}(hi:S.hs[i]?=some h){n:Int}(ne:i=ld c n)(em:aq h.book n=[])(hB:Bs n):qL c ag Bs S i (h.begin n):=by
 have ev:bN S i n=[]:=(dw hi n).trans em
 obtain ⟨hnum,hoth⟩:=I.ok.num i h hi
 unfold HS.begin
 split
 ·exact fh I hi [] (.noL ne ev) hB (fun z=>absurd z (by decide)) (fun z=>absurd z (by decide)) fun _ _ y hy=>nomatch hy
 ·rename_i na
  rw [I.agn i h hi] at na
  refine fh I hi _ (.opn ne ev na) hB (fun z=>absurd z (by decide)) (fun z=>absurd z (by decide)) fun m _ y hy=>?_
  unfold HS.toOthers at hy
  obtain ⟨k,hk,rfl⟩:=laA.mp hy
  rw [hoth] at hk
  obtain ⟨h1,h2,h3⟩:=fj hk
  unfold LI
  dsimp only
  rw [hnum,← ne]
  exact .inl ⟨rfl,rfl,h3,m⟩
theorem By(ok:HallOk c S)(n:Int):S.lead n=ld c n:=by unfold HallS.lead ld;rw [ok.len]
theorem Inv.begin(I:Inv c ag Bs S){n:Int}(st:Bool)(hB:Bs n):Inv c ag Bs (S.begin n st).1:=by
 unfold HallS.begin
 split
 ·exact I
 ·rename_i h hi
  split
  ·rename_i z
   obtain ⟨D1,D2⟩:=yu I hi (By I.ok n) z.2 hB
   obtain ⟨e1,e2⟩:=I.ok.num _ h hi
   refine Inv.post hi D1 fun x hx=>⟨?_,D2 x hx⟩
   unfold HS.begin at hx
   split at hx
   ·cases hx
   ·exact eE e1 e2 (I.ok.il hi) (by simp) x hx
  ·exact I
theorem Inv.stop(I:Inv c ag Bs S)(i:Nat):Inv c ag Bs (S.stop i).1:=by
 unfold HallS.stop
 split
 ·exact I
 ·rename_i h hi
  split
  ·exact I.halt hi
  ·exact I
theorem qg(h:dk b n=true):("yes":Str)∈aq b n:=by
 unfold dk iQ at h
 rw [Bool.and_eq_true] at h
 have:=of_decide_eq_true h.1
 exact List.mem_of_find?_eq_some this
theorem Inv.query(I:Inv c ag Bs S)(i:Nat)(n:Int):Inv c ag Bs (S.query i n).1:=by
 unfold HallS.query
 split
 ·exact I
 ·rename_i h hi
  obtain ⟨e1,e2⟩:=I.ok.num _ h hi
  refine I.send fun x hx=>?_
  unfold HS.query at hx
  split at hx
  ·rename_i z
   refine ⟨eE e1 e2 (I.ok.il hi) (by simp) x hx,?_⟩
   unfold HS.toOthers at hx
   obtain ⟨k,hk,rfl⟩:=laA.mp hx
   rw [e2] at hk
   obtain ⟨h1,h2,h3⟩:=fj hk
   have hy:("yes":Str)∈bN S i n:=by rw [dw hi];exact qg z.2
   have ne:i≠ld c n:=fun z=>by
    rcases (I.wi n).sl with y | y | y | y | y <;> (rw [← z] at y;rw [y] at hy;revert hy;decide)
   unfold LI
   dsimp only
   rw [e1]
   exact .inr (.inr (.inr (.inl ⟨rfl,fun z=>ne (by omega),by rw [Int.toNat_natCast];exact hy,h3⟩)))
  ·cases hx
theorem i8(I:Inv c ag Bs S){i:Nat}{h:HS}(hi:S.hs[i]?=some h){n:Int}(hn:n∈bE h.book):i=ld c n∧bN S i n=[("open":Str)]:=by
 unfold bE at hn
 obtain ⟨l,hl,rfl⟩:=laA.mp hn
 obtain ⟨hm,hf⟩:=laC.mp hl
 rw [Bool.and_eq_true] at hf
 have h1:=of_decide_eq_true hf.1
 have h2:=of_decide_eq_true hf.2
 have ho:("open":Str)∈bN S i l.2:=by
  rw [dw hi]
  unfold aq
  exact laA.mpr ⟨l,laC.mpr ⟨hm,by simp⟩,h1⟩
 have ne:i=ld c l.2:=by
  by_cases z:i=ld c l.2
  ·exact z
  ·rcases (I.wi l.2).so i (I.ok.il hi) z with y | y | y | y | y | y <;> (rw [y] at ho;exact absurd ho (by decide))
 refine ⟨ne,?_⟩
 rcases oo (I.wi l.2) (b:=h.book) (n:=l.2) (by rw [← ne,dw hi]) h2 with z | z
 ·rw [← ne] at z;rw [z] at ho;cases ho
 ·rw [← ne] at z;exact z
theorem vF:∀ (ns:List Int) (S:HallS) (h:HS),Inv c ag Bs S→S.hs[i]?=some h→ns.Nodup→(∀ n∈ns,i=ld c n∧bN S i n=[("open":Str)])→qL c ag Bs S i (h.offAll ns)
 | [],S,h,I,hi,_,_=>eZ I hi [] fun y hy=>nomatch hy
 | n::r,S,h,I,hi,hd,hs=>by
  obtain ⟨ne,ev⟩:=hs n (by simp)
  rw [List.nodup_cons] at hd
  obtain ⟨hnum,hoth⟩:=I.ok.num i h hi
  have hB:Bs n:=I.bs i n (by rw [ev];simp)
  have toall:∀ (w':Nat→Int→List Str),Of (w' i n)→∀ y∈h.toOthers n "off",LI c w' y:=fun w' e3 y hy=>by
   unfold HS.toOthers at hy
   obtain ⟨k,hk,rfl⟩:=laA.mp hy
   rw [hoth] at hk
   obtain ⟨h1,h2,h3⟩:=fj hk
   unfold LI
   dsimp only
   rw [hnum]
   exact .inr (.inr (.inr (.inr (.inr ⟨rfl,by rw [← ne];exact h3,e3,h3⟩))))
  obtain ⟨D1,D2⟩:=fh I hi (h.toOthers n "off") (.offL ne ev) hB (fun z=>absurd z (by decide)) (fun z=>absurd z (by decide)) fun m _=>toall _ (.inl m)
  dsimp only at D1 D2
  have hi2:(S.put i (h.wr "off" n)).hs[i]?=some (h.wr "off" n):=cS hi
  obtain ⟨E1,E2⟩:=vF r (S.put i (h.wr "off" n)) (h.wr "off" n) D1 hi2 hd.2 fun m hm=>by
   obtain ⟨a,b⟩:=hs m (lac _ hm)
   refine ⟨a,?_⟩
   have:=congrFun (gO (g:=h.wr "off" n) hi rfl m) i
   rw [if_neg (by rintro rfl;exact hd.1 hm)] at this
   exact this.trans b
  rw [d_] at E1 E2
  refine ⟨E1,fun y hy=>?_⟩
  rcases lap.mp (show y∈h.toOthers n "off"++((h.wr "off" n).offAll r).2 from hy) with z | z
  ·refine toall _ ?_ y z
   refine .inl ?_
   show ("off":Str)∈bN (S.put i ((h.wr "off" n).offAll r).1) i n
   rw [fm hi,if_pos rfl,jI]
   unfold aq
   exact laA.mpr ⟨(("off":Str),n),laC.mpr ⟨lal _ (lak _ (by simp)),by simp⟩,rfl⟩
  ·exact E2 y z
theorem kR(I:Inv c ag Bs S){i:Nat}{h:HS}(hi:S.hs[i]?=some h):(bE h.book).Nodup:=by
 have key:∀ (b:List aW),(∀ n,n∈bE h.book→(b.filter fun l=>decide (l.2=n)).length≤1)→((b.filter fun l=>decide (l.1=("open":Str))&&decide (aJ h.book l.2=none)).map (·.2)).Nodup∨∃ n,n∈((b.filter fun l=>decide (l.1=("open":Str))&&decide (aJ h.book l.2=none)).map (·.2))∧n∉bE h.book:=by
  intro b hb
  induction b with
  | nil=>exact .inl (by simp)
  | cons x r ih=>
   have hb':∀ n,n∈bE h.book→(r.filter fun l=>decide (l.2=n)).length≤1:=fun n hn=>by
    have:=hb n hn
    rw [laz] at this
    split at this
    ·rw [laj] at this;omega
    ·exact this
   rw [laz]
   split
   ·rename_i hx
    rcases ih hb' with z | ⟨n,h1,h2⟩
    ·by_cases mm:x.2∈bE h.book
     ·refine .inl ?_
      rw [lah,List.nodup_cons]
      refine ⟨fun hin=>?_,z⟩
      obtain ⟨y,hy,e⟩:=laA.mp hin
      have hyr:=(laC.mp hy).1
      have:=hb x.2 mm
      rw [laz,if_pos (by simp),laj] at this
      have hp:0<(r.filter fun l=>decide (l.2=x.2)).length:=List.length_pos_of_mem (laC.mpr ⟨hyr,by simpa using e⟩)
      omega
     ·exact .inr ⟨x.2,by simp,mm⟩
    ·exact .inr ⟨n,by rw [lah];exact lac _ h1,h2⟩
   ·exact ih hb'
 rcases key h.book (fun n hn=>by
  have:=(i8 I hi hn).2
  rw [dw hi] at this
  unfold aq at this
  have:=congrArg List.length this
  rw [laa] at this
  rw [this];exact lat _) with z | ⟨n,h1,h2⟩
 ·exact z
 ·exact absurd h1 h2
theorem Inv.wake(I:Inv c ag Bs S)(i:Nat):Inv c ag Bs (S.wake i).1:=by
 unfold HallS.wake
 split
 ·exact I
 ·rename_i h hi
  split
  ·exact I
  ·obtain ⟨e1,e2⟩:=I.ok.num _ h hi
   have I1:Inv c ag Bs (S.put i { h with up:=true }):=I.put0 hi rfl rfl rfl rfl fun n e=>I.cn i h n hi e
   have hi1:(S.put i { h with up:=true }).hs[i]?=some { h with up:=true }:=cS hi
   obtain ⟨D1,D2⟩:=vF (bE h.book) _ _ I1 hi1 (kR I hi) fun n hn=>by
    obtain ⟨a,b⟩:=i8 I hi hn
    refine ⟨a,?_⟩
    rw [om (g:={ h with up:=true }) hi rfl];exact b
   rw [d_] at D1 D2
   unfold HS.wake
   refine D1.send fun x hx=>⟨?_,D2 x hx⟩
   obtain ⟨n,hn,hx⟩:=pj _ _ x hx
   exact eE (h:=h) e1 e2 (I.ok.il hi) (by simp) x hx
def iP(Bs:Int→Prop):Deed→Prop
 | .begin n _=>Bs n
 | _=>True
theorem Inv.do(I:Inv c ag Bs S)(d:Deed)(hd:iP Bs d):Inv c ag Bs (S.do d).1:=by
 cases d with
 | begin n st=>exact I.begin st hd
 | carry k st=>exact I.carry k st
 | query i n=>exact I.query i n
 | stop i=>exact I.stop i
 | wake i=>exact I.wake i
 | sweep=>exact (Inv.sweepGo _ _ _ _ _ I (eB I.ok).1).trim
theorem Inv.run(I:Inv c ag Bs S):∀ (ds:List Deed),(∀ d∈ds,iP Bs d)→Inv c ag Bs (S.run ds).1:=by
 intro ds hd
 induction ds generalizing S with
 | nil=>exact I
 | cons d r ih=>exact ih (I.do d (hd d (by simp))) fun x hx=>hd x (lac _ hx)
theorem Inv.new(ag:List (Int×Int))(Bs:Int→Prop)(h1:2≤c)(h2:c≤20):Inv c ag Bs (bc c ag):=by
 have hs:∀ (i:Nat) (h:HS),(bc c ag).hs[i]?=some h→h=i4 (i:Int) c (dL ag (i:Int)):=fun i h e=>by
  change ((List.range c).map fun (i:Nat)=>i4 (i:Int) c (dL ag (i:Int)))[i]?=some h at e
  have il:i<c:=by have:=(lab.mp e).1;rwa [laa,laq] at this
  rw [lae,laD il] at e
  exact (lan e).symm
 have w0:∀ i n,bN (bc c ag) i n=[]:=fun i n=>by
  unfold bN
  cases e:(bc c ag).hs[i]? with
  | none=>rfl
  | some h=>rw [hs i h e];rfl
 refine ⟨gA ag h1 h2,fun i h e=>by rw [hs i h e];rfl,fun n=>?_,fun i h n e _=>by rw [hs i h e];exact ⟨List.nodup_nil,fun g hg=>(nomatch hg)⟩,fun l hl=>(nomatch hl),fun i n _ _ z=>(by rw [w0] at z;cases z),fun i n _ _ z=>(by rw [w0] at z;cases z),fun i n z=>absurd (w0 i n) z⟩
 have e:(fun i=>bN (bc c ag) i n)=fun _=>[]:=by funext i;exact w0 i n
 rw [e]
 exact ⟨.inl rfl,fun _ _ _=>.inl rfl,fun _ _ _=>⟨fun z=>(nomatch z),fun z=>(nomatch z)⟩,fun _ _ _ z=>(nomatch z),fun _ _ z=>(nomatch z),fun _ _ z=>z.elim (fun z=>(nomatch z)) fun z=>(nomatch z)⟩
def xT(K:W.Frag)(iw:Sp):TS:=
  (aw (aV (fH (cH (tB (b5 (fc K) (af (ae 0) (af (tC (.ty "list")) al))))) (aT (av jy (b5 (ck K) (af (ae 0) al)) (ae 1))))
  (aD (tC (.bl false)))
  aL)
  (aw (fz (dy K (ae 0)) (az 2)
  (aV (cH (tB (bb iw [] E0 (af (ae 2) al))))
  (aD (tC (.bl false)))
  aL))
  (aD (tC (.bl true)))))
def vO(K:W.Frag):TS:=
  (aD (bz (af (tC (.int 0)) (af (tC (.int 1)) (af (tC (.int 2)) (af (tC (.int 1000000000000)) al))))))
def wj(K:W.Frag)(bY:Sp):TS:=
  (aw (a_ (av cI (av cI (av dX (ae 0) (tC (.int 48271))) (tC (.int 1013))) (tC (.int 16))) (az 4))
  (aw (a_ (av cI (av cI (av dX (av gX (ae 0) (ae 1)) (tC (.int 48271))) (tC (.int 1019))) (ae 2)) (az 5))
  (aw (a_ (av jy (av cI (av cI (av dX (ae 0) (tC (.int 48271))) (tC (.int 1021))) (tC (.int 8))) (tC (.int 3))) (az 6))
  (aw (aV (aT (av jQ (ae 4) (tC (.int 3))))
  (aD (cJ (af (tC (.str "begin")) (af (bb bY [] E0 (af (av vQ (ae 0) (tC (.int 16))) al)) (af (ae 6) al)))))
  aL)
  (aw (aV (aT (av dh (ae 4) (tC (.int 11))))
  (aD (cJ (af (tC (.str "query")) (af (ae 5) (af (bb bY [] E0 (af (av vQ (ae 0) (tC (.int 64))) al)) al)))))
  aL)
  (aw (aV (aT (av dh (ae 4) (tC (.int 12))))
  (aD (cJ (af (tC (.str "stop")) (af (ae 5) al))))
  aL)
  (aw (aV (fH (aT (av dh (ae 4) (tC (.int 13)))) (aT (av dh (ae 4) (tC (.int 14)))))
  (aD (cJ (af (tC (.str "wake")) (af (ae 5) al))))
  aL)
  (aw (aV (tS (aT (av dh (ae 4) (tC (.int 15)))) (cH (tB (ae 3))))
  (aD (cJ (af (tC (.str "sweep")) al)))
  aL)
  (aw (a_ (av cI (av cI (av dX (av gX (ae 0) (av dX (tC (.int 5)) (ae 1))) (tC (.int 48271))) (tC (.int 1031))) (av gX (av dX (tC (.int 2)) (ae 1)) (tC (.int 1)))) (az 7))
  (e8 (aV (aT (av dh (av cI (av cI (av dX (ae 0) (tC (.int 48271))) (tC (.int 1087))) (tC (.int 24))) (tC (.int 1))))
  (a_ (tC (.int 100000000000000000000)) (az 7))
  aL)
  (aD (cJ (af (tC (.str "carry")) (af (ae 7) (af (ae 6) al)))))))))))))))
def v_(K:W.Frag)(iA:Sp):TS:=
  (aw (a_ (bz al) (az 2))
  (aw (a_ (tC (.bl false)) (az 3))
  (aw (fz (fk (af (b5 (ck K) (af (ae 0) al)) al)) (az 4)
  (aw (bX (e_ K "list" da (ae 2) (af (bb iA [] E0 (af (av gX (av (bK K) (ae 0) (ae 4)) (av dX (tC (.int 7)) (ae 4))) (af (ae 4) (af (ae 1) (af (ae 3) al))))) al)))
  (a_ (zP (ae 3) (av kG (av (bK K) (ae 2) (yv wW (tC (.int 1)))) (cJ (af (tC (.str "sweep")) al)))) (az 3))))
  (aD (ae 2)))))
def xh(K:W.Frag)(dY:Sp):TS:=
  (aw (a_ (bz al) (az 2))
  (aw (fz (fk (af (ae 1) al)) (az 3)
  (fz (fk (af (tC (.int 4)) al)) (az 4)
  (aV (tS (aT (av dh (av cI (av cI (av dX (av vQ (ae 0) (av gX (av gX (av dX (tC (.int 3)) (ae 3)) (ae 4)) (tC (.int 2)))) (tC (.int 48271))) (tC (.int 1033))) (tC (.int 5))) (tC (.int 1)))) (aT (av xn (av cI (av cI (av dX (ae 0) (tC (.int 48271))) (tC (.int 1039))) (tC (.int 3))) (tC (.int 0)))))
  (bX (e_ K "list" da (ae 2) (af (cJ (af (ae 3) (af (av (bK K) (bb dY [] E0 al) (ae 4)) al))) al)))
  aL)))
  (aD (ae 2))))
def zo(K:W.Frag):TS:=
  (aD (gE (dy K (ae 0)) (az 0) (aT (av dh (av (bx K) (ae 0) (tC (.int 1))) (ae 1))) (av (bx K) (ae 0) (tC (.int 0))) [none,some 1]))
def jZ(bs:List (List aW)):PyData:=.list (bs.map cy)
theorem BL{S:List Addr}{bs:List (List aW)}{x:V}(rs:Reps H S xs (bs.map cy))(hx:xs[i]?=some x):∃ b t,bs[i]?=some b∧x=.ref t∧Rep H S (.ref t) (cy b):=by
 obtain ⟨dd,hd,rx⟩:=rs.get hx
 rw [lae] at hd
 cases hb:bs[i]? with
 | none=>rw [hb] at hd;cases hd
 | some b=>
  rw [hb] at hd
  cases hd
  obtain ⟨t,ys,rfl,rt,nt,rs'⟩:=Rep.lst_inv (ds:=b.map bZ) rx
  exact ⟨b,t,rfl,rfl,.lst rt nt rs'⟩
def h_:Sp:=fun vs H Q _=>∃ a bs,∃ c:Nat,vs=[.ref a,.int (c:Int)]∧Rep H [] (.ref a) (jZ bs)∧bs.length=c∧(∀ b∈bs,gx b)∧∀ H',Same H H'→Q (.bl true) H'
theorem Eg(h:h_ vs H Q E):xT K iw { nx:=fun _ H'=>Q .non H',rt:=Q } (start ["_law_found","_law_count","_law_book"] vs) H:=by
 obtain ⟨a,bs,c,rfl,ra,hc,hw,k⟩:=h
 obtain ⟨_,xs,e,rd,_,rs⟩:=id (Rep.lst_inv (ds:=bs.map cy) ra)
 cases e
 have hxl:xs.length=bs.length:=by rw [rs.length,laa]
 unfold xT
 walk_at "g"
 refine ⟨_,_,_,true,rfl,TyO.list rd,cF _ _,?_⟩
 walk_at "g"
 refine fA ?_
 refine jc (nN (nM (jd (j8 (by rfl) (kd (je (dG rd) ?_))))))
 walk_at "g"
 rw [if_neg (by simp;omega)]
 walk_at "g"
 refine fX (K:=K) (a:=a) (xs:=xs) (fun i σ H'=>∃ v,σ=[some (.ref a),some (.int (c:Int)),v]∧Same H H') ⟨none,rfl,Same.refl _⟩ ?_ ?_ ?_
 ·rintro i σ H' hi ⟨v,rfl,s⟩
  exact s.seq (dG rd)
 ·rintro i x σ H' hx ⟨v,rfl,s⟩
  obtain ⟨b,t,hb,rfl,rt⟩:=BL rs hx
  walk_at "g"
  refine ⟨t,b,rfl,rt.same s,hw b (lam hb),fun H2 s2=>?_⟩
  walk_at "g"
  refine fA ?_
  walk_at "g"
  exact ⟨_,rfl,s.trans s2⟩
 ·rintro σ H' ⟨v,rfl,s⟩
  walk_at "g"
  exact k H' s
def allB:List Int:=[0,1,2,1000000000000]
def dY:Sp:=fun vs H Q _=>vs=[]∧∀ p H',H p=none→Same H H'→H' p=some (.lst (allB.map .int))→Q (.ref p) H'
theorem EI(h:dY vs H Q E):vO K { nx:=fun _ H'=>Q .non H',rt:=Q } (start [] vs) H:=by
 obtain ⟨rfl,k⟩:=h
 unfold vO
 walk_at "A"
 rename_i p hp H1 s1 g1
 exact k p H1 hp s1 g1
def bY(Bs:Int→Prop):Sp:=fun vs H Q _=>∃ z:Int,vs=[.int z]∧∀ n H',Bs n→Same H H'→Q (.int n) H'
def Drawn(Bs:Int→Prop)(c:Nat)(sw:Bool)(d:Deed):Prop:=nv c d∧iP Bs d∧(d=.sweep→sw=false)
def iA(Bs:Int→Prop):Sp:=fun vs H Q _=>∃ (z:Int) (k c:Nat) (sw:Bool),vs=[.int z,.int (k:Int),.int (c:Int),.bl sw]∧2≤c∧k≤1000000∧∀ d t H',Drawn Bs c sw d→Same H H'→Rep H' [] (.ref t) d.D→Q (.ref t) H'
theorem Eo(h:iA Bs vs H Q E) :
  wj K (bY Bs) { nx:=fun _ H'=>Q .non H',rt:=Q } (start ["_law_cell","_law_k","_law_count","_law_swept","_law_way","_law_who","_law_stays","_law_which"] vs) H:=by
 obtain ⟨z,k,c,sw,rfl,hc,hkl,kk⟩:=h
 unfold wj
 walk_at "g"
 refine fI (show (0:Int)<(c:Int) by omega) ?_
 have hw0:(0:Int)≤(z+k)*48271 % 1019 % (c:Int):=Int.emod_nonneg _ (by omega)
 have hw1:(z+k)*48271 % 1019 % (c:Int)<c:=Int.emod_lt_of_pos _ (by omega)
 obtain ⟨who,ewho⟩:∃ who:Nat,(z+k)*48271 % 1019 % (c:Int)=(who:Int):=⟨((z+k)*48271 % 1019 % (c:Int)).toNat,by omega⟩
 have hwl:who<c:=by omega
 rw [ewho]
 walk_at "g"
 by_cases e1:z*48271 % 1013 % 16<3
 ·rw [if_pos (decide_eq_true e1)]
  walk_at "g"
  refine ⟨_,rfl,fun n H1 hn s1=>?_⟩
  walk_at "A"
  rename_i t ht H2 s2 g2
  exact kk (.begin n _) t H2 ⟨True.intro,hn,fun e=>by cases e⟩ (s1.trans s2) (.tup (.inl g2) (.cons (.str _) (.cons (.int _) (.cons (.bl _) .nil))))
 rw [if_neg (by simpa using e1)]
 walk_at "g"
 by_cases e2:z*48271 % 1013 % 16=11
 ·rw [if_pos (by simp [e2])]
  walk_at "g"
  refine ⟨_,rfl,fun n H1 hn s1=>?_⟩
  walk_at "A"
  rename_i t ht H2 s2 g2
  exact kk (.query who n) t H2 ⟨hwl,True.intro,fun e=>by cases e⟩ (s1.trans s2) (.tup (.inl g2) (.cons (.str _) (.cons (.int _) (.cons (.int _) .nil))))
 rw [if_neg (by simp [e2])]
 walk_at "g"
 by_cases e3:z*48271 % 1013 % 16=12
 ·rw [if_pos (by simp [e3])]
  walk_at "A"
  rename_i t ht H2 s2 g2
  exact kk (.stop who) t H2 ⟨hwl,True.intro,fun e=>by cases e⟩ s2 (.tup (.inl g2) (.cons (.str _) (.cons (.int _) .nil)))
 rw [if_neg (by simp [e3])]
 walk_at "g"
 have wake:∀ (p:Addr) (H2:Hp),Same H H2→H2 p=some (.tup [.str "wake",.int (who:Int)])→Q (.ref p) H2:=fun p H2 s2 g2=>
  kk (.wake who) p H2 ⟨hwl,True.intro,fun e=>by cases e⟩ s2 (.tup (.inl g2) (.cons (.str _) (.cons (.int _) .nil)))
 by_cases e4:z*48271 % 1013 % 16=13
 ·rw [if_pos (by simp [e4])]
  rw [if_pos (by rfl)]
  walk_at "A"
  rename_i t ht H2 s2 g2
  exact wake t H2 s2 g2
 rw [if_neg (by simp [e4])]
 walk_at "g"
 by_cases e5:z*48271 % 1013 % 16=14
 ·rw [if_pos (by simp [e5])]
  walk_at "A"
  rename_i t ht H2 s2 g2
  exact wake t H2 s2 g2
 rw [if_neg (by simp [e5])]
 have rest:(aw (a_ (av cI (av cI (av dX (av gX (ae 0) (av dX (tC (.int 5)) (ae 1))) (tC (.int 48271))) (tC (.int 1031))) (av gX (av dX (tC (.int 2)) (ae 1)) (tC (.int 1)))) (az 7))
  (e8 (aV (aT (av dh (av cI (av cI (av dX (ae 0) (tC (.int 48271))) (tC (.int 1087))) (tC (.int 24))) (tC (.int 1))))
  (a_ (tC (.int 100000000000000000000)) (az 7))
  aL)
  (aD (cJ (af (tC (.str "carry")) (af (ae 7) (af (ae 6) al))))))) { nx:=fun _ H'=>Q .non H',rt:=Q }
   [some (.int z),some (.int (k:Int)),some (.int (c:Int)),some (.bl sw),some (.int (z*48271 % 1013 % 16)),some (.int (who:Int)),some (.bl (!decide (V.int (z*48271 % 1021 % 8)=V.int 3))),none] H:=by
  walk_at "g"
  refine fI (pP (by omega)) ?_
  walk_at "g"
  refine fI (pP (by omega)) ?_
  walk_at "g"
  refine fI (show (0:Int)<2*(k:Int)+1 by omega) ?_
  walk_at "g"
  have hq0:(0:Int)≤(z+5*k)*48271 % 1031 % (2*(k:Int)+1):=Int.emod_nonneg _ (by omega)
  refine dI (fun σ' H'=>H'=H∧∃ w:Int,0≤w∧σ'=[some (.int z),some (.int (k:Int)),some (.int (c:Int)),some (.bl sw),some (.int (z*48271 % 1013 % 16)),some (.int (who:Int)),some (.bl (!decide (V.int (z*48271 % 1021 % 8)=V.int 3))),some (.int w)]) ?_ ?_
  ·walk_at "g"
   by_cases e7:z*48271 % 1087 % 24=1
   ·rw [if_pos (by simp [e7])]
    walk_at "g"
    exact ⟨rfl,100000000000000000000,by decide,rfl⟩
   ·rw [if_neg (by simp [e7])]
    walk_at "g"
    exact ⟨rfl,_,hq0,rfl⟩
  ·rintro σ' H' ⟨rfl,w,hw,rfl⟩
   walk_at "A"
   rename_i t ht H2 s2 g2
   exact kk (.carry w _) t H2 ⟨hw,True.intro,fun e=>by cases e⟩ s2 (.tup (.inl g2) (.cons (.str _) (.cons (.int _) (.cons (.bl _) .nil))))
 walk_at "g"
 by_cases e6:z*48271 % 1013 % 16=15
 ·rw [if_pos (by simp [e6])]
  walk_at "g"
  cases sw with
  | false=>
   rw [if_pos (by rfl)]
   walk_at "A"
   rename_i t ht H2 s2 g2
   exact kk .sweep t H2 ⟨True.intro,True.intro,fun _=>rfl⟩ s2 (.tup (.inl g2) (.cons (.str _) .nil))
  | true=>
   rw [if_neg (by decide)]
   walk_at "s"
   exact rest
 ·rw [if_neg (by simp [e6])]
  rw [if_neg (by decide)]
  walk_at "s"
  exact rest
theorem nA{S T:List Addr}:∀ {ds:List Deed} {xs:List V},Reps H S xs (ds.map Deed.D)→Reps H T xs (ds.map Deed.D)
 | [],xs,r=>by rw [laG] at r ⊢;rw [r.nil_inv];exact .nil
 | d::ds,xs,r=>by
  rw [lah] at r ⊢
  obtain ⟨x,ys,rfl,h,t⟩:=r.cons_inv
  refine .cons ?_ (nA t)
  cases d with
  | begin n st=>
   obtain ⟨a,zs,rfl,rt,rs⟩:=h.tup_inv
   obtain ⟨y1,r1,rfl,h1,t1⟩:=rs.cons_inv
   obtain ⟨y2,r2,rfl,h2,t2⟩:=t1.cons_inv
   obtain ⟨y3,r3,rfl,h3,t3⟩:=t2.cons_inv
   cases t3.nil_inv
   rw [h1.str_inv,h2.int_inv,h3.bl_inv] at rt
   exact .tup rt (.cons (.str _) (.cons (.int _) (.cons (.bl _) .nil)))
  | carry n st=>
   obtain ⟨a,zs,rfl,rt,rs⟩:=h.tup_inv
   obtain ⟨y1,r1,rfl,h1,t1⟩:=rs.cons_inv
   obtain ⟨y2,r2,rfl,h2,t2⟩:=t1.cons_inv
   obtain ⟨y3,r3,rfl,h3,t3⟩:=t2.cons_inv
   cases t3.nil_inv
   rw [h1.str_inv,h2.int_inv,h3.bl_inv] at rt
   exact .tup rt (.cons (.str _) (.cons (.int _) (.cons (.bl _) .nil)))
  | query i n=>
   obtain ⟨a,zs,rfl,rt,rs⟩:=h.tup_inv
   obtain ⟨y1,r1,rfl,h1,t1⟩:=rs.cons_inv
   obtain ⟨y2,r2,rfl,h2,t2⟩:=t1.cons_inv
   obtain ⟨y3,r3,rfl,h3,t3⟩:=t2.cons_inv
   cases t3.nil_inv
   rw [h1.str_inv,h2.int_inv,h3.int_inv] at rt
   exact .tup rt (.cons (.str _) (.cons (.int _) (.cons (.int _) .nil)))
  | stop i=>
   obtain ⟨a,zs,rfl,rt,rs⟩:=h.tup_inv
   obtain ⟨y1,r1,rfl,h1,t1⟩:=rs.cons_inv
   obtain ⟨y2,r2,rfl,h2,t2⟩:=t1.cons_inv
   cases t2.nil_inv
   rw [h1.str_inv,h2.int_inv] at rt
   exact .tup rt (.cons (.str _) (.cons (.int _) .nil))
  | wake i=>
   obtain ⟨a,zs,rfl,rt,rs⟩:=h.tup_inv
   obtain ⟨y1,r1,rfl,h1,t1⟩:=rs.cons_inv
   obtain ⟨y2,r2,rfl,h2,t2⟩:=t1.cons_inv
   cases t2.nil_inv
   rw [h1.str_inv,h2.int_inv] at rt
   exact .tup rt (.cons (.str _) (.cons (.int _) .nil))
  | sweep=>
   obtain ⟨a,zs,rfl,rt,rs⟩:=h.tup_inv
   obtain ⟨y1,r1,rfl,h1,t1⟩:=rs.cons_inv
   cases t1.nil_inv
   rw [h1.str_inv] at rt
   exact .tup rt (.cons (.str _) .nil)
theorem ng{H H':Hp}{S T:List Addr}{ds:List Deed}(r:Reps H S xs (ds.map Deed.D))(c:Chg T H H'):Reps H' S xs (ds.map Deed.D):=nA ((nA (T:=T) r).chg c)
def cx:Deed→Bool
 | .sweep=>true
 | _=>false
def cW(ds:List Deed):Nat:=(ds.filter cx).length
theorem x0(d:Deed):PyData.eqv d.D (.tuple [.str "sweep"])=cx d:=by
 cases d <;> simp [Deed.D,PyData.eqv,PyData.eqvAll,cx] <;> decide
theorem nZ(d:Deed):SeqAt.shaped d.D=true:=by
 cases d <;> simp [Deed.D,SeqAt.shaped,PyData.canLay0,PyData.canLayAll0,PyData.depth,PyData.depthAll] <;> decide +kernel
structure DrawnAll(Bs:Int→Prop)(c:Nat)(ds:List Deed):Prop where
 ok:∀ d∈ds,nv c d
 inn:∀ d∈ds,iP Bs d
 one:cW ds≤1
def gZ(Bs:Int→Prop):Sp:=fun vs H Q _=>∃ (a:Addr) (zs:List Int) (c:Nat),vs=[.ref a,.int (c:Int)]∧Rd H a (.lst (zs.map .int))∧zs.length≤900000∧2≤c∧
 ∀ ds p H',ds.length=zs.length→DrawnAll Bs c ds→H p=none→Same H H'→Rep H' [] (.ref p) (.list (ds.map Deed.D))→(∃ xs,H' p=some (.lst xs)∧Reps H' [] xs (ds.map Deed.D))→Q (.ref p) H'
theorem Ib(h:gZ Bs vs H Q E) :
  v_ K (iA Bs) { nx:=fun _ H'=>Q .non H',rt:=Q } (start ["_law_cells","_law_count","_law_deeds","_law_swept","_law_k"] vs) H:=by
 obtain ⟨a,zs,c,rfl,ra,hzl,hc,kk⟩:=h
 unfold v_
 walk_at "g"
 walk_at "w"
 rename_i pd hpd H1 s1 g1
 have ra1:=ra.same s1
 walk_at "g"
 rw [laa]
 refine eU (by omega) ?_
 refine fe (n:=zs.length) (fun i σ H'=>∃ v ds xs,σ=[some (.ref a),some (.int (c:Int)),some (.ref pd),some (.bl (ds.any cx)),v]∧Same H H'∧H' pd=some (.lst xs)∧Reps H' [] xs (ds.map Deed.D)∧ds.length=i∧DrawnAll Bs c ds)
  ⟨none,[],[],rfl,s1,g1,.nil,rfl,⟨fun d hd=>(nomatch hd),fun d hd=>(nomatch hd),laI _⟩⟩ ?_ ?_
 ·rintro i σ H2 hi ⟨v,ds,xs,rfl,s2,g2,rs,hl,D⟩
  have e0:((0:Int)+(i:Int))=(i:Int):=Int.zero_add _
  rw [e0]
  have ra2:=ra.same s2
  have hxl:xs.length=ds.length:=by rw [rs.length,laa]
  have hget:gD (zs.map V.int) (i:Int)=some (.int zs[i]):=cf (by simp [hi])
  walk_at "g"
  refine ⟨.inl ⟨rfl,_,b7 g2⟩,?_⟩
  walk_at "g"
  refine fI (pP (by omega)) ?_
  walk_at "g"
  refine ⟨_,i,c,_,rfl,hc,by omega,fun d t H3 dr s3 r3=>?_⟩
  have g3:=s3 _ _ g2
  walk_at "g"
  refine dc g3 (bg (by omega)) ?_
  have cc:Chg [pd] H3 (upd H3 pd (.lst (xs++[.ref t]))):=.set (by rw [g3];exact True.intro) (by simp)
  have s4:Same H (upd H3 pd (.lst (xs++[.ref t]))):=(s2.trans s3).put hpd
  have g4:upd H3 pd (.lst (xs++[.ref t])) pd=some (.lst (xs++[.ref t])):=ax
  have r4:Reps (upd H3 pd (.lst (xs++[.ref t]))) [] (xs++[.ref t]) ((ds++[d]).map Deed.D):=by
   rw [lai]
   exact (ng (rs.same s3) cc).append (ng (ds:=[d]) (.cons r3 .nil) cc)
  have rd4:Rep (upd H3 pd (.lst (xs++[.ref t]))) [] (.ref t) d.D:=by
   obtain ⟨_,_,e,z,_⟩:=(ng (ds:=[d]) (.cons r3 .nil) cc).cons_inv
   cases e;exact z
  generalize upd H3 pd (.lst (xs++[.ref t]))=H4 at *
  have hlen:(ds++[d]).length=i+1:=by rw [laf,hl];rfl
  have D':DrawnAll Bs c (ds++[d]):=by
   refine ⟨fun y hy=>?_,fun y hy=>?_,?_⟩
   ·rcases lap.mp hy with z | z
    ·exact D.ok y z
    ·rw [lag.mp z];exact dr.1
   ·rcases lap.mp hy with z | z
    ·exact D.inn y z
    ·rw [lag.mp z];exact dr.2.1
   ·unfold cW
    rw [lay,laf]
    cases hs:cx d with
    | false=>simp [hs];exact D.one
    | true=>
     have e:d=.sweep:=by cases d <;> first | rfl | cases hs
     have h0:=dr.2.2 e
     have:ds.filter cx=[]:=by
      rw [List.filter_eq_nil_iff]
      intro y hy z
      have:=List.any_eq_true.mpr ⟨y,hy,z⟩
      rw [h0] at this;cases this
     rw [this];simp [hs]
  walk_at "g"
  have ee:(ds++[d]).any cx=(ds.any cx||cx d):=by rw [List.any_append];simp
  cases hsw:ds.any cx with
  | true=>
   rw [if_pos rfl]
   walk_at "g"
   rw [hsw,Bool.true_or] at ee
   exact ⟨_,ds++[d],_,by rw [ee];rfl,s4,g4,r4,hlen,D'⟩
  | false=>
   rw [if_neg (by decide)]
   rw [hsw,Bool.false_or] at ee
   walk_at "g"
   refine bp (b7 g4) (uA _ _) ?_
   walk_at "A"
   rename_i t5 ht5 H5 s5 g5
   refine ⟨d.D,.tuple [.str "sweep"],rd4.same s5,.tup (.inl g5) (.cons (.str _) .nil),nZ d,nZ .sweep,?_⟩
   rw [x0]
   walk_at "g"
   exact ⟨_,ds++[d],_,by rw [ee];rfl,s4.trans s5,s5 _ _ g4,r4.same s5,hlen,D'⟩
 ·rintro σ H2 ⟨v,ds,xs,rfl,s2,g2,rs,hl,D⟩
  walk_at "g"
  exact kk ds pd H2 hl D hpd s2 (.lst (.inl g2) (by simp) rs) ⟨_,g2,rs⟩
def iG:Sp:=fun vs H Q _=>∃ (z:Int) (c:Nat),vs=[.int z,.int (c:Int)]∧c≤20∧∀ (ag:List (Int×Int)) (p:Addr) (H':Hp),ag.length≤80→H p=none→Same H H'→Rep H' [] (.ref p) (.list (ag.map dg))→Q (.ref p) H'
theorem pW{S T:List Addr}:∀ {ag:List (Int×Int)} {xs:List V},Reps H S xs (ag.map dg)→Reps H T xs (ag.map dg)
 | [],xs,r=>by rw [laG] at r ⊢;rw [r.nil_inv];exact .nil
 | x::ag,xs,r=>by
  rw [lah] at r ⊢
  obtain ⟨x,ys,rfl,h,t⟩:=r.cons_inv
  obtain ⟨a,zs,rfl,rt,rs⟩:=h.tup_inv
  obtain ⟨y1,r1,rfl,h1,t1⟩:=rs.cons_inv
  obtain ⟨y2,r2,rfl,h2,t2⟩:=t1.cons_inv
  cases t2.nil_inv
  rw [h1.int_inv,h2.int_inv] at rt
  exact .cons (.tup rt (.cons (.int _) (.cons (.int _) .nil))) (pW t)
theorem u5{H H':Hp}{S T:List Addr}(r:Reps H S xs (ag.map dg))(c:Chg T H H'):Reps H' S xs (ag.map dg):=pW ((pW (T:=T) r).chg c)
theorem FB(h:iG vs H Q E) :
  xh K dY { nx:=fun _ H'=>Q .non H',rt:=Q } (start ["_law_cell","_law_count","_law_pairs","_law_k","_law_j"] vs) H:=by
 obtain ⟨z,c,rfl,hc,kk⟩:=h
 unfold xh
 walk_at "g"
 walk_at "w"
 rename_i pp hpp H1 s1 g1
 walk_at "g"
 refine eU (by omega) ?_
 refine fe (n:=c) (fun i σ H'=>∃ (v w:Option V) (ag:List (Int×Int)) (xs:List V),σ=[some (.int z),some (.int (c:Int)),some (.ref pp),v,w]∧Same H H'∧H' pp=some (.lst xs)∧Reps H' [] xs (ag.map dg)∧ag.length≤4*i)
  ⟨none,none,[],[],rfl,s1,g1,.nil,lat _⟩ ?_ ?_
 ·rintro i σ H2 hi ⟨v,w,ag,xs,rfl,s2,g2,rs,hl⟩
  have e0:((0:Int)+(i:Int))=(i:Int):=Int.zero_add _
  rw [e0]
  walk_at "g"
  refine eU (n:=4) (by decide) ?_
  refine fe (n:=4) (fun j σ H'=>∃ (w:Option V) (ag:List (Int×Int)) (xs:List V),σ=[some (.int z),some (.int (c:Int)),some (.ref pp),some (.int (i:Int)),w]∧Same H H'∧H' pp=some (.lst xs)∧Reps H' [] xs (ag.map dg)∧ag.length≤4*i+j)
   ⟨w,ag,xs,rfl,s2,g2,rs,hl⟩ ?_ ?_
  ·rintro j σ H3 hj ⟨w,ag,xs,rfl,s3,g3,rs,hl⟩
   have e0:((0:Int)+(j:Int))=(j:Int):=Int.zero_add _
   rw [e0]
   have hxl:xs.length=ag.length:=by rw [rs.length,laa]
   walk_at "g"
   refine fI (pP (by omega)) ?_
   walk_at "g"
   refine fI (z_ (by omega)) ?_
   walk_at "g"
   have skip:∀ w',∃ (w:Option V) (ag:List (Int×Int)) (xs:List V),[some (V.int z),some (.int (c:Int)),some (.ref pp),some (.int (i:Int)),w']=[some (.int z),some (.int (c:Int)),some (.ref pp),some (.int (i:Int)),w]∧Same H H3∧H3 pp=some (.lst xs)∧Reps H3 [] xs (ag.map dg)∧ag.length≤4*i+(j+1):=
    fun w'=>⟨w',ag,xs,rfl,s3,g3,rs,by omega⟩
   split
   ·walk_at "g"
    split
    ·walk_at "g"
     refine ⟨.inl ⟨rfl,_,b7 g3⟩,?_⟩
     walk_at "g"
     refine ⟨rfl,fun p H4 hp s4 g4=>?_⟩
     obtain ⟨v,hv,hat⟩:=p9 (xs:=allB.map V.int) (r:=(j:Int)) (by omega) (by show _<(4:Int);omega)
     obtain ⟨n,hn,rfl⟩:=laA.mp hv
     walk_at "A"
     rename_i t ht H5 s5 g5
     have gp5:=s5 _ _ (s4 _ _ g3)
     refine dc gp5 (bg (by omega)) ?_
     have cc:Chg [pp] H5 (upd H5 pp (.lst (xs++[.ref t]))):=.set (by rw [gp5];exact True.intro) (by simp)
     have ntp:t≠pp:=dJ g5 gp5 (by intro z;cases z)
     refine ⟨_,ag++[((i:Int),n)],_,rfl,((s3.trans s4).trans s5).put hpp,ax,?_,by rw [laf];show ag.length+1≤_;omega⟩
     rw [lai]
     exact (u5 ((rs.same s4).same s5) cc).snoc (.tup (.inl (bo ntp g5)) (.cons (.int _) (.cons (.int _) .nil)))
    ·walk_at "g"
     exact skip _
   ·rw [if_neg (by decide)]
    walk_at "g"
    exact skip _
  ·rintro σ H3 ⟨w,ag,xs,rfl,s3,g3,rs,hl⟩
   exact ⟨_,w,ag,xs,rfl,s3,g3,rs,by omega⟩
 ·rintro σ H2 ⟨v,w,ag,xs,rfl,s2,g2,rs,hl⟩
  walk_at "g"
  exact kk ag pp H2 (by omega) hpp s2 (.lst (.inl g2) (by simp) rs)
theorem GI(h:cC vs H Q E):zo K { nx:=fun _ H'=>Q .non H',rt:=Q } (start ["_law_book","_law_bargain"] vs) H:=AD h
abbrev bV:Sp:=cC
def fi:List Deed→List Int
 | []=>[]
 | .begin n _::r=>n::fi r
 | _::r=>fi r
theorem qy:∀ (ds:List Deed) (n:Int) (st:Bool),Deed.begin n st∈ds→n∈fi ds
 | [],n,st,h=>by cases h
 | d::r,n,st,h=>by
  rcases List.mem_cons.mp h with e | e
  ·subst e;exact List.mem_cons_self ..
  ·have:=qy r n st e
   cases d <;> first | exact lac _ this | exact this
theorem oJ(ds:List Deed):∀ d∈ds,iP (·∈fi ds) d:=fun d hd=>by
 cases d with
 | begin n st=>exact qy ds n st hd
 | _=>exact True.intro
theorem mQ:∀ (ds:List Deed),(fi ds).length≤ds.length
 | []=>lat _
 | d::r=>by
  have:=mQ r
  cases d <;> simp only [fi,List.length_cons] <;> omega
theorem u8{bl:List Int}(I:Inv c ag (·∈bl) S){i:Nat}{h:HS}(hi:S.hs[i]?=some h):(bE h.book).length≤bl.length:=
 gM _ _ (kR I hi) fun n hn=>I.bs i n (by rw [(i8 I hi hn).2];simp)
structure Cap(S:HallS)(L U:Nat):Prop where
 l:S.ls.length≤L
 u:S.un.length≤U
theorem oe{sent:List aC}{L U G:Nat}(h:Cap S L U)(hs:sent.length≤G):Cap (S.send sent) (L+G) (U+G):=by
 refine ⟨?_,?_⟩
 ·show (S.ls++sent).length≤_;rw [laf];have:=h.l;omega
 ·show (S.un++_).length≤_;rw [laf,laa,laq];have:=h.u;omega
theorem Cap.more{L U L' U':Nat}(h:Cap S L U)(hl:L≤L')(hu:U≤U'):Cap S L' U':=⟨las h.l hl,las h.u hu⟩
theorem ug{r:HS×List aC}{st:Bool}{L U G:Nat}(h:Cap S L U)(hs:r.2.length≤G):Cap (S.post i r st) (L+G) (U+G):=by
 unfold HallS.post
 cases st with
 | true=>exact oe (S:=S.put i r.1) ⟨h.l,h.u⟩ hs
 | false=>exact Cap.more (S:=S.put i r.1.stop) ⟨h.l,h.u⟩ (by omega) (by omega)
theorem n_{i c:Nat}(hi:i<c):(bP (i:Int) c).length+1≤c:=by
 have:=gM ((i:Int)::bP (i:Int) c) ((List.range c).map fun (k:Nat)=>(k:Int)) (List.nodup_cons.mpr ⟨fun z=>(fj z).2.2 rfl,by
  unfold bP
  exact (List.Pairwise.filter _ (List.Pairwise.map _ (fun a b h z=>h (by omega)) List.nodup_range))⟩) fun x hx=>by
   rcases List.mem_cons.mp hx with rfl | z
   ·exact laA.mpr ⟨i,laB.mpr hi,rfl⟩
   ·unfold bP at z;exact (laC.mp z).1
 rw [laj,laa,laq] at this
 exact this
theorem HallOk.oth1(ok:HallOk c S){i:Nat}{h:HS}(hi:S.hs[i]?=some h):h.oth.length+1≤c:=by
 rw [(ok.num i h hi).2];exact n_ (ok.il hi)
theorem yB{bl:List Int}(I:Inv c ag (·∈bl) S){L U G:Nat}(h:Cap S L U)(hG:c≤G)(hB:bl.length*(c - 1)≤G)(d:Deed)(hd:cx d=false):Cap (S.do d).1 (L+G) (U+G):=by
 have stay:Cap S (L+G) (U+G):=h.more (by omega) (by omega)
 cases d with
 | begin n st=>
  show Cap (S.begin n st).1 _ _
  unfold HallS.begin
  split
  ·exact stay
  ·rename_i g hi
   split
   ·refine ug h (las (jE g n) ?_)
    have:=I.ok.oth1 hi;omega
   ·exact stay
 | carry k st=>
  show Cap (S.carry k st).1 _ _
  unfold HallS.carry
  split
  ·exact stay
  ·unfold HallS.carryL
   split
   ·exact stay
   ·rename_i g hi
    split
    ·refine ug h (las (nJ g _) ?_)
     have:=I.ok.oth1 hi;omega
    ·exact stay
 | query i n=>
  show Cap (S.query i n).1 _ _
  unfold HallS.query
  split
  ·exact stay
  ·rename_i g hi
   refine oe h (las (mR g n) ?_)
   have:=I.ok.oth1 hi;omega
 | stop i=>
  show Cap (S.stop i).1 _ _
  unfold HallS.stop
  split
  ·exact stay
  ·split
   ·exact Cap.more (S:=S.put _ _) ⟨h.l,h.u⟩ (by omega) (by omega)
   ·exact stay
 | wake i=>
  show Cap (S.wake i).1 _ _
  unfold HallS.wake
  split
  ·exact stay
  ·rename_i g hi
   split
   ·exact stay
   ·refine oe (S:=S.put i g.wake.1) ⟨h.l,h.u⟩ ?_
    rw [oi]
    refine las (Nat.mul_le_mul (u8 I hi) (lat _)) (las (Nat.mul_le_mul (lat _) ?_) hB)
    have:=I.ok.oth1 hi;omega
 | sweep=>cases hd
theorem xX(S:HallS)(k:Nat):(S.turn k).1.ls.length+S.un.length=S.ls.length+(S.turn k).1.un.length:=by
 unfold HallS.turn
 split
 ·rfl
 ·unfold HallS.carryL
  split
  ·rfl
  ·split
   ·unfold HallS.post
    rw [if_pos rfl]
    show (S.ls++_).length+S.un.length=S.ls.length+(S.un++_).length
    rw [laf,laf,laa,laq];omega
   ·rfl
theorem pE:∀ (f:Nat) (S:HallS) (pl:Nat) (w:List (Int×aW)) (r:HallS×List (Int×aW)),S.sweepGo f pl w=some r→r.1.ls.length+S.un.length=S.ls.length+r.1.un.length
 | 0,S,pl,w,r,h=>by
  unfold HallS.sweepGo at h
  split at h
  ·cases h
  ·cases h;rfl
 | f+1,S,pl,w,r,h=>by
  unfold HallS.sweepGo at h
  split at h
  ·rename_i lt
   have h1:=pE f _ _ _ _ h
   have h2:=xX S S.un[pl]
   omega
  ·cases h;rfl
theorem qO(ok:HallOk c S){L U:Nat}(h:Cap S L U):S.sweepR.1.un.length≤22*U∧S.sweepR.1.ls.length≤L+22*U∧Cap (S.do .sweep).1 (L+22*U) (22*U):=by
 obtain ⟨h1,h2,h3⟩:=eB ok
 have h4:=pE _ _ _ _ _ h1
 have hl:=h.l
 have hu:=h.u
 refine ⟨by omega,by omega,by show S.sweepR.1.ls.length≤_;omega,?_⟩
 show (S.sweepR.1.un.filter _).length≤_
 exact las (laJ _ _) (by omega)
theorem n4{bl:List Int}(I:Inv c ag (·∈bl) S)(hb:bl.length≤1000){L U N:Nat}(h:Cap S L U)(hN:N≤700000)(hL:L≤800000)(hU:U≤800000)(d:Deed)(hd:cx d=false):S.roomy N d∧S.cost d≤1000:=by
 have sm:jA S N:=⟨hN,las h.l hL,las h.u hU⟩
 cases d with
 | begin n st=>exact ⟨sm,by show 3≤1000;omega⟩
 | carry k st=>exact ⟨sm,by show 3≤1000;omega⟩
 | query i n=>exact ⟨sm,by show 3≤1000;omega⟩
 | stop i=>exact ⟨sm,by show 3≤1000;omega⟩
 | wake i=>exact ⟨⟨sm,fun g hi=>las (u8 I hi) hb⟩,lat _⟩
 | sweep=>cases hd
theorem vW{bl:List Int}{G:Nat}(hG:c≤G)(hB:bl.length*(c - 1)≤G)(hb:bl.length≤1000):∀ (ds:List Deed) (S:HallS) (L U N:Nat),Inv c ag (·∈bl) S→(∀ d∈ds,iP (·∈bl) d)→cW ds=0→Cap S L U→
  N+1000*ds.length≤700000→L+G*ds.length≤800000→U+G*ds.length≤800000→S.roomyAll N ds∧Cap (S.run ds).1 (L+G*ds.length) (U+G*ds.length)∧S.costAll ds≤1000*ds.length
 | [],S,L,U,N,I,_,_,h,_,_,_=>⟨True.intro,h.more (Nat.le_add_right _ _) (Nat.le_add_right _ _),lat _⟩
 | d::r,S,L,U,N,I,hin,hsw,h,hN,hL,hU=>by
  have hd:cx d=false:=by
   cases e:cx d with
   | false=>rfl
   | true=>unfold cW at hsw;rw [laz,if_pos e] at hsw;cases hsw
  have hsw':cW r=0:=by unfold cW at hsw ⊢;rwa [laz,if_neg (by rw [hd];decide)] at hsw
  rw [laj,Nat.mul_succ] at hN hL hU
  obtain ⟨r1,r2⟩:=n4 I hb h (by omega) (by omega) (by omega) d hd (N:=N)
  have h':=yB I h hG hB d hd
  obtain ⟨a,b,e⟩:=vW hG hB hb r (S.do d).1 (L+G) (U+G) (N+S.cost d) (I.do d (hin d (by simp))) (fun x hx=>hin x (lac _ hx)) hsw' h' (by omega) (by omega) (by omega)
  refine ⟨⟨r1,a⟩,?_,?_⟩
  ·rw [laj,Nat.mul_succ]
   exact Cap.more (S:=((S.do d).1.run r).1) b (by omega) (by omega)
  ·show S.cost d+(S.do d).1.costAll r≤_
   rw [laj,Nat.mul_succ];omega
theorem wm{bl:List Int}{G:Nat}(hG:c≤G)(hB:bl.length*(c - 1)≤G)(hb:bl.length≤1000):∀ (ds:List Deed) (S:HallS) (L U N:Nat),Inv c ag (·∈bl) S→(∀ d∈ds,iP (·∈bl) d)→cW ds≤1→Cap S L U→
  N+1000*ds.length+66*(U+G*ds.length)≤700000→L+G*ds.length+22*(U+G*ds.length)≤800000→
  S.roomyAll N ds∧Cap (S.run ds).1 (L+G*ds.length+22*(U+G*ds.length)) (22*(U+G*ds.length))∧S.costAll ds≤1000*ds.length+66*(U+G*ds.length)
 | [],S,L,U,N,I,_,_,h,_,_=>⟨True.intro,h.more (by omega) (by omega),laI _⟩
 | d::r,S,L,U,N,I,hin,hsw,h,hN,hL=>by
  rw [laj,Nat.mul_succ,Nat.mul_succ] at hN
  rw [laj,Nat.mul_succ] at hL
  cases hd:cx d with
  | false=>
   have hsw':cW r≤1:=by unfold cW at hsw ⊢;rwa [laz,if_neg (by rw [hd];decide)] at hsw
   obtain ⟨r1,r2⟩:=n4 I hb h (by omega) (by omega) (by omega) d hd (N:=N)
   have h':=yB I h hG hB d hd
   obtain ⟨a,b,e⟩:=wm hG hB hb r (S.do d).1 (L+G) (U+G) (N+S.cost d) (I.do d (hin d (by simp))) (fun x hx=>hin x (lac _ hx)) hsw' h' (by omega) (by omega)
   refine ⟨⟨r1,a⟩,?_,?_⟩
   ·rw [laj,Nat.mul_succ]
    exact Cap.more (S:=((S.do d).1.run r).1) b (by omega) (by omega)
   ·show S.cost d+(S.do d).1.costAll r≤_
    rw [laj,Nat.mul_succ,Nat.mul_succ];omega
  | true=>
   have ed:d=.sweep:=by cases d <;> first | rfl | cases hd
   subst ed
   have hsw':cW r=0:=by unfold cW at hsw ⊢;rw [laz,if_pos hd,laj] at hsw;omega
   obtain ⟨s1,s2,s3⟩:=qO I.ok h
   obtain ⟨a,b,e⟩:=vW hG hB hb r (S.do .sweep).1 (L+22*U) (22*U) (N+S.cost .sweep) (I.do .sweep (hin .sweep (by simp))) (fun x hx=>hin x (lac _ hx)) hsw' s3 (by show N+3*_+_≤_;omega) (by omega) (by omega)
   refine ⟨⟨⟨by omega,by omega⟩,a⟩,?_,?_⟩
   ·rw [laj,Nat.mul_succ]
    exact Cap.more (S:=((S.do .sweep).1.run r).1) b (by omega) (by omega)
   ·show 3*S.sweepR.1.un.length+(S.do .sweep).1.costAll r≤_
    rw [laj,Nat.mul_succ,Nat.mul_succ];omega
theorem qa(c:Nat)(ag:List (Int×Int)):Cap (bc c ag) 0 0:=⟨lat _,lat _⟩
theorem tY{wss:List (List Str)}(h:∀ ws∈wss,kc ws):PyData.canLayAll0 (wss.map dW)=true:=by
 induction wss with
 | nil=>rfl
 | cons w r ih=>
  rw [lah,PyData.canLayAll0,ih fun z hz=>h z (lac _ hz)]
  have:PyData.canLay0 (dW w)=true:=by unfold dW;rw [PyData.canLay0];exact nX (h w (by simp))
  rw [this];rfl
theorem yp(ws:List Str)(wss:List (List Str)):((wss.map dW).any fun e=>PyData.eqv e (dW ws))=decide (ws∈wss):=by
 induction wss with
 | nil=>rfl
 | cons x r ih=>
  rw [lah,List.any_cons,ih,oH]
  by_cases e:ws=x
  ·subst e;simp
  ·have e':¬ x=ws:=fun z=>e z.symm
   simp [e,e']
theorem vw{a b:Addr}{ws:List Str}{wss:List (List Str)}{neg:Bool}(h1:Rd H a (.lst (ws.map .str)))(h2:Rep H [] (.ref b) (.list (wss.map dW)))(o1:kc ws)(o2:∀ x∈wss,kc x)(q:Q (.bl (if neg then !decide (ws∈wss) else decide (ws∈wss))) H):nc neg (.ref a) (.ref b) H Q:=
 ⟨dW ws,wss.map dW,js h1,.inl h2,tY o2,fE o1,by rw [yp];exact q⟩
theorem lq(ag:List (Int×Int)):PyData.canLayAll0 (ag.map dg)=true:=by
 induction ag with
 | nil=>rfl
 | cons l r ih=>rw [lah,PyData.canLayAll0,ih];simp [dg,PyData.canLay0,PyData.canLayAll0]
theorem y_(x:Int×Int):SeqAt.shaped (dg x)=true:=by
 unfold SeqAt.shaped
 simp [dg,PyData.canLay0,PyData.canLayAll0,PyData.depth,PyData.depthAll]
theorem Bk(x:Int×Int)(ag:List (Int×Int)):((ag.map dg).any fun e=>PyData.eqv e (dg x))=decide (x∈ag):=by
 induction ag with
 | nil=>rfl
 | cons y r ih=>
  rw [lah,List.any_cons,ih]
  obtain ⟨x1,x2⟩:=x
  obtain ⟨y1,y2⟩:=y
  have e0:PyData.eqv (dg (y1,y2)) (dg (x1,x2))=(decide (y1=x1)&&decide (y2=x2)):=by
   by_cases h1:y1=x1 <;> by_cases h2:y2=x2 <;> simp [dg,PyData.eqv,PyData.eqvAll,h1,h2]
  rw [e0]
  by_cases e1:x1=y1
  ·subst e1
   by_cases e2:x2=y2
   ·subst e2;simp
   ·have e2':¬ y2=x2:=fun z=>e2 z.symm
    simp [e2,e2']
  ·have e1':¬ y1=x1:=fun z=>e1 z.symm
   simp [e1,e1']
theorem mem_agOf{k n:Int}:n∈dL ag k↔(k,n)∈ag:=by
 unfold dL
 constructor
 ·intro h
  obtain ⟨x,hx,rfl⟩:=laA.mp h
  obtain ⟨h1,h2⟩:=laC.mp hx
  have:=of_decide_eq_true h2
  subst this;exact h1
 ·intro h
  exact laA.mpr ⟨(k,n),laC.mpr ⟨h,by simp⟩,rfl⟩
theorem vm{t b:Addr}{k n:Int}(h1:Rd H t (.tup [.int k,.int n]))(h2:Rep H [] (.ref b) (.list (ag.map dg)))(q:Q (.bl (decide ((k,n)∈ag))) H):nc false (.ref t) (.ref b) H Q:=
 ⟨dg (k,n),ag.map dg,.tup h1 (.cons (.int _) (.cons (.int _) .nil)),.inl h2,lq ag,y_ _,by rw [Bk];exact q⟩
def pf(c i:Nat)(n:Int):Str:=if i=ld c n then "open" else "yes"
def dH(s:Str):List (List Str):=[[],[s],[s,"bound"],[s,"off"],["no"],["off"]]
theorem WI1.forms{A:Nat→Prop}{v:Nat→List Str}(I:WI1 c (ld c n) A v){i:Nat}(hi:i<c):v i∈dH (pf c i n):=by
 unfold pf
 split
 ·rename_i e
  rcases I.sl with z | z | z | z | z <;> rw [e,z] <;> simp [dH]
 ·rename_i e
  rcases I.so i hi e with z | z | z | z | z | z <;> rw [z] <;> simp [dH]
def pD(K:W.Frag):Sp:=fun vs H Q _=>∃ (a:Addr) (ns:List Int),vs=[.ref a]∧SqL K H a (ns.map V.int)∧ns.length≤63∧∀ H',Q (.bl true) H'
theorem zV(ns:List Int)(lo hi:Nat):∃ cs:List Int,iV (ns.map V.int) (some (lo:Int)) (some (hi:Int))=cs.map V.int∧cs.length≤hi - lo:=by
 refine ⟨(ns.drop (HT.sIx (ns.map V.int).length 0 (some (lo:Int)))).take (HT.sIx (ns.map V.int).length (ns.map V.int).length (some (hi:Int)) - HT.sIx (ns.map V.int).length 0 (some (lo:Int))),?_,?_⟩
 ·unfold iV
  rw [List.map_take,List.map_drop]
 ·rw [lax]
  have e1:HT.sIx (ns.map V.int).length 0 (some (lo:Int))=min lo (ns.map V.int).length:=by unfold HT.sIx;simp;omega
  have e2:HT.sIx (ns.map V.int).length (ns.map V.int).length (some (hi:Int))=min hi (ns.map V.int).length:=by unfold HT.sIx;simp;omega
  rw [e1,e2,List.length_drop,laa]
  omega
theorem mW(I:Inv c ag Bs S){b:List aW}(hb:b∈S.hs.map fun h=>h.book):gx b∧∀ l∈b,Bs l.2:=by
 obtain ⟨h,hm,rfl⟩:=laA.mp hb
 obtain ⟨i,hi,e⟩:=List.getElem_of_mem hm
 have hg:S.hs[i]?=some h:=by rw [lad hi,e]
 have il:=I.ok.il hg
 have inw:∀ l∈h.book,l.1∈bN S i l.2:=fun l hl=>by
  rw [dw hg]
  exact laA.mpr ⟨l,laC.mpr ⟨hl,by simp⟩,rfl⟩
 refine ⟨fun l hl=>?_,fun l hl=>I.bsL (inw l hl)⟩
 have h1:=inw l hl
 have h2:=(I.wi l.2).forms il
 unfold dH at h2
 have hs:gQ (pf c i l.2):=by unfold pf gQ;split <;> simp
 simp only [List.mem_cons,List.not_mem_nil,or_false] at h2
 rcases h2 with z | z | z | z | z | z <;> rw [z] at h1 <;> simp only [List.mem_cons,List.not_mem_nil,or_false] at h1
 ·rw [h1];exact hs
 ·rcases h1 with h1 | h1
  ·rw [h1];exact hs
  ·rw [h1];exact .inr (.inr (.inr (.inl rfl)))
 ·rcases h1 with h1 | h1
  ·rw [h1];exact hs
  ·rw [h1];exact .inr (.inr (.inr (.inr rfl)))
 ·rw [h1];exact .inr (.inr (.inl rfl))
 ·rw [h1];exact .inr (.inr (.inr (.inr rfl)))
theorem uT{α:Type}(p q:α→Bool)(b:List α):(b.filter q).filter p=(b.filter p).filter q:=by
 rw [List.filter_filter,List.filter_filter]
 congr 1
 funext x
 exact Bool.and_comm _ _
theorem y6{α:Type}(b:List α)(p:α→Bool):(b.filter p).length+(b.filter fun x=>!p x).length=b.length:=by
 induction b with
 | nil=>rfl
 | cons x r ih=>
  rw [laz,laz]
  cases p x <;> simp <;> omega
theorem pN{bl:List Int}(I:Inv c ag (·∈bl) S){b:List aW}(hb:b∈S.hs.map fun h=>h.book):b.length≤2*bl.length:=by
 obtain ⟨h,hm,rfl⟩:=laA.mp hb
 obtain ⟨i,hi,e⟩:=List.getElem_of_mem hm
 have hg:S.hs[i]?=some h:=by rw [lad hi,e]
 have il:=I.ok.il hg
 have two:∀ n,(aq h.book n).length≤2:=fun n=>by
  have h2:=(I.wi n).forms il
  rw [dw hg] at h2
  unfold dH at h2
  simp only [List.mem_cons,List.not_mem_nil,or_false] at h2
  rcases h2 with z | z | z | z | z | z <;> rw [z] <;> simp
 have hin:∀ l∈h.book,l.2∈bl:=fun l hl=>(mW I (laA.mpr ⟨h,hm,rfl⟩)).2 l hl
 have key:∀ (bl:List Int) (b:List aW),(∀ l∈b,l.2∈bl)→(∀ n,(aq b n).length≤2)→b.length≤2*bl.length:=by
  intro bl
  induction bl with
  | nil=>
   intro b hb _
   cases b with
   | nil=>exact lat _
   | cons l r=>exact absurd (hb l (by simp)) (by simp)
  | cons m r ih=>
   intro b hb h2
   have h3:=ih (b.filter fun l=>!decide (l.2=m)) (fun l hl=>by
    obtain ⟨h4,h5⟩:=laC.mp hl
    rcases List.mem_cons.mp (hb l h4) with z | z
    ·simp [z] at h5
    ·exact z) (fun n=>by
     refine las ?_ (h2 n)
     unfold aq
     rw [laa,laa,uT]
     exact laJ _ _)
   have h4:=h2 m
   unfold aq at h4
   rw [laa] at h4
   have h5:=y6 b fun l=>decide (l.2=m)
   rw [laj]
   omega
 exact key bl h.book hin two
def Dec(ws:List Str):Prop:=("bound":Str)∈ws∨Of ws
theorem dec_none:aJ b n=none↔¬ Dec (aq b n):=by
 unfold aJ Dec Of
 constructor
 ·intro h z
  split at h
  ·cases h
  ·split at h
   ·cases h
   ·rename_i a b;rcases z with z | z
    ·exact a z
    ·exact b z
 ·intro h
  rw [if_neg (fun z=>h (.inl z)),if_neg (fun z=>h (.inr z))]
theorem Dec.mono{a b:List Str}(h:∀ x∈a,x∈b)(d:Dec a):Dec b:=d.imp (h _) fun z=>z.imp (h _) (h _)
def de(S:HallS)(i:Nat)(n:Int):List Int:=(S.hs[i]?).elim [] fun h=>h.cnt n
theorem Cc(h:HS)(l:aC):(h.got l).1.up=h.up:=by
 unfold HS.got HS.gotAsk HS.asked HS.gotQuery HS.gotVote HS.gotDecision HS.decide HS.wr HS.count
 repeat' split
 all_goals rfl
theorem nH{h g:HS}(hi:S.hs[i]?=some h)(j:Nat)(n:Int):de (S.put i g) j n=if j=i then g.cnt n else de S j n:=by
 unfold de
 show ((S.hs.set i g)[j]?).elim _ _=_
 by_cases e:j=i
 ·subst e
  rw [lao (lab.mp hi).1,if_pos rfl];rfl
 ·rw [lar (Ne.symm e),if_neg e]
theorem nh(hi:S.hs[i]?=some h)(n:Int):de S i n=h.cnt n:=by unfold de;rw [hi];rfl
def SI(S:HallS):Prop:=∀ (k:Nat) (l:aC),S.ls[k]?=some l→k∈S.un∨((l.2.2.2="no"∨l.2.2.2="bound"∨l.2.2.2="off")∧Dec (bN S l.2.1.toNat l.2.2.1))
theorem SI.send(h:SI S)(sent:List aC):SI (S.send sent):=fun k l hk=>by
 change (S.ls++sent)[k]?=some l at hk
 by_cases lt:k<S.ls.length
 ·rw [List.getElem?_append_left lt] at hk
  rcases h k l hk with z | z
  ·exact .inl (lal _ z)
  ·exact .inr z
 ·have hk2:k<(S.ls++sent).length:=(lab.mp hk).1
  rw [laf] at hk2
  refine .inl (lak _ (laA.mpr ⟨k - S.ls.length,laB.mpr (by omega),by omega⟩))
theorem SI.ext{S S':HallS}(h:SI S)(el:S'.ls=S.ls)(eu:S'.un=S.un)(ex:rY (bN S) (bN S')):SI S':=fun k l hk=>by
 rw [el] at hk
 rw [eu]
 rcases h k l hk with z | ⟨z1,z2⟩
 ·exact .inl z
 ·exact .inr ⟨z1,z2.mono (ex _ _)⟩
theorem SI.trim(h:SI S):SI S.trim:=fun k l hk=>by
 rcases h k l hk with z | z
 ·by_cases e:S.spentAt k=true
  ·refine .inr ?_
   have hk':S.ls[k]?=some l:=hk
   unfold HallS.spentAt at e
   rw [hk'] at e
   dsimp only at e
   cases hi:S.hs[l.2.1.toNat]? with
   | none=>rw [hi] at e;cases e
   | some g=>
    rw [hi] at e
    dsimp only at e
    unfold HS.spent at e
    rw [Bool.and_eq_true] at e
    refine ⟨of_decide_eq_true e.1,?_⟩
    show Dec (bN S l.2.1.toNat l.2.2.1)
    rw [dw hi]
    have e2:=e.2
    rw [Bool.not_eq_true'] at e2
    have:=of_decide_eq_false e2
    by_cases y:Dec (aq g.book l.2.2.1)
    ·exact y
    ·exact absurd (dec_none.mpr y) this
  ·exact .inl (laC.mpr ⟨z,by simpa using e⟩)
 ·exact .inr z
theorem nI{h g:HS}(hi:S.hs[i]?=some h)(hb:∃ a,g.book=h.book++a):rY (bN S) (bN (S.put i g)):=fun j n x hx=>by
 rw [fm hi]
 split
 ·rename_i e
  subst e
  obtain ⟨a,ha⟩:=hb
  rw [dw hi] at hx
  rw [ha]
  unfold aq at hx ⊢
  rw [lay,lai]
  exact lal _ hx
 ·exact hx
theorem p0(h:HS)(l:aC):∃ a,(h.got l).1.book=h.book++a:=by
 unfold HS.got HS.gotAsk HS.asked HS.gotQuery HS.gotVote HS.gotDecision HS.decide HS.wr HS.count
 repeat' split
 all_goals first | exact ⟨[],(laF _).symm⟩ | exact ⟨_,rfl⟩
theorem qU(h:HS)(n:Int):∃ a,(h.begin n).1.book=h.book++a:=by
 unfold HS.begin HS.wr
 split <;> exact ⟨_,rfl⟩
theorem SI.post(h:SI S){i:Nat}{g:HS}{r:HS×List aC}{st:Bool}(hi:S.hs[i]?=some g)(ha:∃ a,r.1.book=g.book++a):SI (S.post i r st):=by
 unfold HallS.post
 cases st with
 | true=>exact (h.ext (S':=S.put i r.1) rfl rfl (nI hi ha)).send _
 | false=>exact h.ext (S':=S.put i r.1.stop) rfl rfl (nI hi ha)
theorem SI.carryL(h:SI S)(l:aC)(st:Bool):SI (S.carryL l st).1:=by
 unfold HallS.carryL
 split
 ·exact h
 ·rename_i g hi
  split
  ·exact h.post hi (p0 g l)
  ·exact h
theorem SI.turn(h:SI S)(k:Nat):SI (S.turn k).1:=by
 unfold HallS.turn
 split
 ·exact h
 ·exact h.carryL _ _
theorem SI.sweepGo:∀ (f:Nat) (S:HallS) (pl:Nat) (w:List (Int×aW)) (r:HallS×List (Int×aW)),SI S→S.sweepGo f pl w=some r→SI r.1
 | 0,S,pl,w,r,h,hg=>by
  unfold HallS.sweepGo at hg
  split at hg
  ·cases hg
  ·cases hg;exact h
 | f+1,S,pl,w,r,h,hg=>by
  unfold HallS.sweepGo at hg
  split at hg
  ·exact SI.sweepGo f _ _ _ _ (h.turn _) hg
  ·cases hg;exact h
theorem SI.do(ok:HallOk c S)(h:SI S)(d:Deed):SI (S.do d).1:=by
 cases d with
 | begin n st=>
  show SI (S.begin n st).1
  unfold HallS.begin
  split
  ·exact h
  ·rename_i g hi
   split
   ·exact h.post hi (qU g n)
   ·exact h
 | carry k st=>
  show SI (S.carry k st).1
  unfold HallS.carry
  split
  ·exact h
  ·exact h.carryL _ _
 | query i n=>
  show SI (S.query i n).1
  unfold HallS.query
  split
  ·exact h
  ·exact h.send _
 | stop i=>
  show SI (S.stop i).1
  unfold HallS.stop
  split
  ·exact h
  ·rename_i g hi
   split
   ·exact h.ext (S':=S.put i g.stop) rfl rfl (nI hi ⟨[],(laF _).symm⟩)
   ·exact h
 | wake i=>
  show SI (S.wake i).1
  unfold HallS.wake
  split
  ·exact h
  ·rename_i g hi
   split
   ·exact h
   ·exact (h.ext (S':=S.put i g.wake.1) rfl rfl (nI hi ⟨_,mZ g⟩)).send _
 | sweep=>exact (SI.sweepGo _ _ _ _ _ h (eB ok).1).trim
def BookLe(S S':HallS):Prop:=∀ (i:Nat) (h:HS),S.hs[i]?=some h→∃ h',S'.hs[i]?=some h'∧∃ a,h'.book=h.book++a
theorem BookLe.refl(S:HallS):BookLe S S:=fun i h hi=>⟨h,hi,[],(laF _).symm⟩
theorem BookLe.put{h g:HS}(hi:S.hs[i]?=some h)(ha:∃ a,g.book=h.book++a):BookLe S (S.put i g):=fun j x hx=>by
 show ∃ h',(S.hs.set i g)[j]?=some h'∧_
 by_cases e:i=j
 ·subst e
  rw [hi] at hx
  cases hx
  exact ⟨g,lao (lab.mp hi).1,ha⟩
 ·exact ⟨x,by rw [lar e];exact hx,[],(laF _).symm⟩
theorem BookLe.post{r:HS×List aC}{st:Bool}(hi:S.hs[i]?=some h)(ha:∃ a,r.1.book=h.book++a):BookLe S (S.post i r st):=by
 unfold HallS.post
 cases st with
 | true=>exact BookLe.put hi ha
 | false=>exact BookLe.put (g:=r.1.stop) hi ha
theorem BookLe.carryL(S:HallS)(l:aC)(st:Bool):BookLe S (S.carryL l st).1:=by
 unfold HallS.carryL
 split
 ·exact .refl _
 ·rename_i g hi
  split
  ·exact .post hi (p0 g l)
  ·exact .refl _
theorem BookLe.turn(S:HallS)(k:Nat):BookLe S (S.turn k).1:=by
 unfold HallS.turn
 split
 ·exact .refl _
 ·exact .carryL _ _ _
def eI(K:W.Frag)(dY:Sp):TS:=
  (aw (aV (aT (av dh (av cI (av cI (av dX (ae 0) (tC (.int 48271))) (tC (.int 1097))) (tC (.int 5))) (tC (.int 1))))
  (aD (av cI (ae 0) (b5 AV (af (av HZ (tC (.str "1")) (av Au (tC (.str "0")) (tC (.int 70)))) al))))
  aL)
  (aD (av (bK K) (bb dY [] E0 al) (av cI (av cI (av dX (ae 0) (tC (.int 48271))) (tC (.int 1009))) (tC (.int 4))))))
def v7(K:W.Frag):TS:=
  (aD (gE (fk (af (ae 1) al)) (az 0) (aT (av jy (ae 0) (ae 1))) (cJ (af (ae 1) (af (ae 0) (af (ae 2) (af (ae 3) al))))) [none,some 0,some 2,some 3]))
def v1(K:W.Frag)(bV:Sp):TS:=
  (aw (a_ (ae 2) (sZ K 4 (ej (az 3) (ej (az 4) (ej (az 5) (ej (az 6) rO))))))
  (aw (a_ (bb bV [] E0 (af (ae 0) (af (ae 5) al))) (az 7))
  (e8 (aV (aT (av kG (ae 7) (bz al)))
  (aw (a_ (bz (af (av (bK K) (bz (af (tC (.str "yes")) (af (tC (.str "no")) al))) (b5 rc (af (av (nc false) (cJ (af (ae 4) (af (ae 5) al))) (ae 1)) al))) al)) (az 7))
  (bX (e_ K "list" da (ae 0) (af (cJ (af (av (bK K) (ae 7) (tC (.int 0))) (af (ae 5) al))) al))))
  aL)
  (aD (bz (af (cJ (af (ae 4) (af (ae 3) (af (ae 5) (af (av (bK K) (bz (af (tC (.str "yes")) (af (tC (.str "no")) al))) (b5 rc (af (av (iY K false) (av (bK K) (ae 7) (yv wW (tC (.int 1)))) (bz (af (tC (.str "no")) (af (tC (.str "off")) al)))) al))) al))))) al))))))
def xL(K:W.Frag)(bR:Sp):TS:=
  (aw (a_ (ae 2) (sZ K 4 (ej (az 4) (ej (az 5) (ej (az 6) (ej (az 7) rO))))))
  (e8 (aV (tB (pS (ae 6) (ae 1)))
  (jx (ae 1) (ae 6) (bz al))
  aL)
  (e8 (aV (aT (av (iY K true) (ae 4) (ce (ae 1) (ae 6))))
  (bX (e_ K "list" da (ce (ae 1) (ae 6)) (af (ae 4) al)))
  aL)
  (aw (aV (aT (av jQ (b5 (ck K) (af (ce (ae 1) (ae 6)) al)) (av E6 (ae 3) (tC (.int 1)))))
  (aD (bz al))
  aL)
  (aw (bX (e_ K "list" da (ae 0) (af (cJ (af (tC (.str "bound")) (af (ae 6) al))) al)))
  (aD (bb bR [] E0 (af (ae 5) (af (ae 3) (af (ae 6) (af (tC (.str "bound")) al)))))))))))
def wM(K:W.Frag)(bV:Sp)(hR:Sp)(im:Sp)(bR:Sp):TS:=
  (aw (a_ (ae 3) (sZ K 4 (ej (az 5) (ej (az 6) (ej (az 7) (ej (az 8) rO))))))
  (aw (a_ (bb bV [] E0 (af (ae 0) (af (ae 7) al))) (az 9))
  (aw (aV (aT (av dh (ae 8) (tC (.str "ask"))))
  (aD (bb hR [] E0 (af (ae 0) (af (ae 2) (af (ae 3) al)))))
  aL)
  (aw (aV (fH (aT (av dh (ae 8) (tC (.str "bound")))) (aT (av dh (ae 8) (tC (.str "off")))))
  (e8 (aV (aT (av (nc false) (ae 9) (bz (af (bz al) (af (bz (af (tC (.str "yes")) al)) (af (bz (af (tC (.str "open")) al)) al))))))
  (bX (e_ K "list" da (ae 0) (af (cJ (af (ae 8) (af (ae 7) al))) al)))
  aL)
  (aD (bz al)))
  aL)
  (aw (aV (aT (av (nc false) (ae 9) (bz (af (bz (af (tC (.str "open")) al)) (af (bz (af (tC (.str "yes")) al)) (af (bz al) al))))))
  (aw (aV (aT (av dh (ae 8) (tC (.str "yes"))))
  (aD (bb im [] E0 (af (ae 0) (af (ae 1) (af (ae 3) (af (ae 4) al))))))
  aL)
  (aw (aV (aT (av kG (ae 9) (bz (af (tC (.str "open")) al))))
  (aw (bX (e_ K "list" da (ae 0) (af (cJ (af (tC (.str "off")) (af (ae 7) al))) al)))
  (aD (bb bR [] E0 (af (ae 6) (af (ae 4) (af (ae 7) (af (tC (.str "off")) al)))))))
  aL)
  (aw (aV (aT (av kG (ae 9) (bz (af (tC (.str "yes")) al))))
  (aD (bz al))
  aL)
  (aw (bX (e_ K "list" da (ae 0) (af (cJ (af (tC (.str "no")) (af (ae 7) al))) al)))
  (aD (bz (af (cJ (af (ae 6) (af (ae 5) (af (ae 7) (af (tC (.str "off")) al))))) al)))))))
  aL)
  (aw (aV (aT (av dh (ae 8) (tC (.str "no"))))
  (aD (bz al))
  aL)
  (aD (bz (af (cJ (af (ae 6) (af (ae 5) (af (ae 7) (af (av (bK K) (bz (af (tC (.str "off")) (af (tC (.str "bound")) al))) (b5 rc (af (av dh (av (bK K) (ae 9) (yv wW (tC (.int 1)))) (tC (.str "bound"))) al))) al))))) al)))))))))
def wy(K:W.Frag):TS:=
  (aw (a_ (A0 [((tC (.str "against")),(ae 1)),((tC (.str "count")),(ae 0)),((tC (.str "letters")),(bz al))]) (az 2))
  (aw (jx (ae 2) (tC (.str "books")) (gE (fk (af (ae 0) al)) (az 0) fK (bz al) [none]))
  (aw (jx (ae 2) (tC (.str "votes")) (gE (fk (af (ae 0) al)) (az 0) fK iR [none]))
  (aw (jx (ae 2) (tC (.str "up")) (av Da (bz (af (tC (.bl true)) al)) (ae 0)))
  (aD (ae 2))))))
def xS(K:W.Frag):TS:=
  (e8 (aV (tB (ae 4))
  (bX (e_ K "list" eY (ce (ae 0) (tC (.str "letters"))) (af (ae 3) al)))
  (aw (a_ (tC (.bl false)) (on (ce (ae 0) (tC (.str "up"))) (ae 1) ms))
  (a_ iR (on (ce (ae 0) (tC (.str "votes"))) (ae 1) ms))))
  (aD (qR (ow K) (av (bK K) (ce (ae 0) (tC (.str "books"))) (ae 1)) (i3 (ae 2)) gP)))
def vX(K:W.Frag)(bV:Sp)(bR:Sp)(cK:Sp):TS:=
  (aw (a_ (av cI (ae 1) (ce (ae 0) (tC (.str "count")))) (az 3))
  (aw (a_ (av (bK K) (ce (ae 0) (tC (.str "books"))) (ae 3)) (az 4))
  (aw (aV (fH (cH (tB (av (bK K) (ce (ae 0) (tC (.str "up"))) (ae 3)))) (aT (av qj (bb bV [] E0 (af (ae 4) (af (ae 1) al))) (bz al))))
  (aD (tC .non))
  aL)
  (aw (a_ (b5 (ck K) (af (ae 4) al)) (az 5))
  (aw (a_ (bz al) (az 6))
  (e8 (aV (aT (av (nc false) (cJ (af (ae 3) (af (ae 1) al))) (ce (ae 0) (tC (.str "against")))))
  (bX (e_ K "list" da (ae 4) (af (cJ (af (tC (.str "no")) (af (ae 1) al))) al)))
  (aw (bX (e_ K "list" da (ae 4) (af (cJ (af (tC (.str "open")) (af (ae 1) al))) al)))
  (a_ (bb bR [] E0 (af (ae 3) (af (ce (ae 0) (tC (.str "count"))) (af (ae 1) (af (tC (.str "ask")) al))))) (az 6))))
  (aD (bb cK [] E0 (af (ae 0) (af (ae 3) (af (ae 5) (af (ae 6) (af (ae 2) al)))))))))))))
def wu(K:W.Frag)(gY:Sp)(cK:Sp):TS:=
  (aw (aV (aT (av CC (ae 1) (b5 (ck K) (af (ce (ae 0) (tC (.str "letters"))) al))))
  (aD (tC .non))
  aL)
  (aw (a_ (av (bK K) (ce (ae 0) (tC (.str "letters"))) (ae 1)) (az 3))
  (aw (a_ (av (bx K) (ae 3) (tC (.int 1))) (az 4))
  (aw (aV (cH (tB (av (bK K) (ce (ae 0) (tC (.str "up"))) (ae 4))))
  (aD (tC .non))
  aL)
  (aw (a_ (av (bK K) (ce (ae 0) (tC (.str "books"))) (ae 4)) (az 5))
  (aw (a_ (b5 (ck K) (af (ae 5) al)) (az 6))
  (aw (a_ (av (bK K) (ce (ae 0) (tC (.str "votes"))) (ae 4)) (az 7))
  (aw (a_ (bb gY [] E0 (af (ae 5) (af (ae 7) (af (ce (ae 0) (tC (.str "against"))) (af (ae 3) (af (ce (ae 0) (tC (.str "count"))) al)))))) (az 8))
  (aD (bb cK [] E0 (af (ae 0) (af (ae 4) (af (ae 6) (af (ae 8) (af (ae 2) al)))))))))))))))
def xR(K:W.Frag)(bV:Sp)(bR:Sp)(cK:Sp):TS:=
  (aw (aV (tB (av (bK K) (ce (ae 0) (tC (.str "up"))) (ae 1)))
  (aD (tC .non))
  aL)
  (aw (a_ (tC (.bl true)) (on (ce (ae 0) (tC (.str "up"))) (ae 1) ms))
  (aw (a_ (av (bK K) (ce (ae 0) (tC (.str "books"))) (ae 1)) (az 2))
  (aw (a_ (b5 (ck K) (af (ae 2) al)) (az 3))
  (aw (a_ (bz al) (az 4))
  (aw (fz (dy K (b5 (m_ K) (af (ae 2) al))) (az 5)
  (aV (aT (av kG (bb bV [] E0 (af (ae 2) (af (av (bx K) (ae 5) (tC (.int 1))) al))) (bz (af (tC (.str "open")) al))))
  (aw (bX (e_ K "list" da (ae 2) (af (cJ (af (tC (.str "off")) (af (av (bx K) (ae 5) (tC (.int 1))) al))) al)))
  (bX (e_ K "list" eY (ae 4) (af (bb bR [] E0 (af (ae 1) (af (ce (ae 0) (tC (.str "count"))) (af (av (bx K) (ae 5) (tC (.int 1))) (af (tC (.str "off")) al))))) al))))
  aL))
  (aD (bb cK [] E0 (af (ae 0) (af (ae 1) (af (ae 3) (af (ae 4) (af (tC (.bl true)) al)))))))))))))
def xC(K:W.Frag)(d6:Sp):TS:=
  (aw (a_ (bz al) (az 1))
  (aw (a_ (tC (.int 0)) (az 2))
  (aw (pI (aT (av jQ (ae 2) (b5 (ck K) (af (ce (ae 0) (tC (.str "letters"))) al))))
  (aw (a_ (bb d6 [] E0 (af (ae 0) (af (ae 2) (af (tC (.bl true)) al)))) (az 3))
  (e8 (aV (tB (mF (ae 3)))
  (bX (e_ K "list" eY (ae 1) (af (gE (dy K (ae 3)) (az 0) fK (cJ (af (av (bx K) (av (bK K) (ce (ae 2) (tC (.str "letters"))) (ae 1)) (tC (.int 1))) (af (ae 0) al))) [none,some 2,some 0]) al)))
  aL)
  (a_ (av gX (ae 2) (tC (.int 1))) (az 2)))))
  (aD (ae 1)))))
def vM(K:W.Frag)(iE:Sp)(d6:Sp)(iC:Sp)(ia:Sp)(bV:Sp)(bR:Sp):TS:=
  (aw (aV (aT (av dh (av (bx K) (ae 1) (tC (.int 0))) (tC (.str "begin"))))
  (aD (bb iE [] E0 (af (ae 0) (af (av (bx K) (ae 1) (tC (.int 1))) (af (av (bx K) (ae 1) (tC (.int 2))) al)))))
  aL)
  (aw (aV (aT (av dh (av (bx K) (ae 1) (tC (.int 0))) (tC (.str "carry"))))
  (aD (bb d6 [] E0 (af (ae 0) (af (av (bx K) (ae 1) (tC (.int 1))) (af (av (bx K) (ae 1) (tC (.int 2))) al)))))
  aL)
  (aw (aV (aT (av dh (av (bx K) (ae 1) (tC (.int 0))) (tC (.str "wake"))))
  (aD (bb iC [] E0 (af (ae 0) (af (av (bx K) (ae 1) (tC (.int 1))) al))))
  aL)
  (aw (aV (aT (av dh (av (bx K) (ae 1) (tC (.int 0))) (tC (.str "sweep"))))
  (aD (bb ia [] E0 (af (ae 0) al)))
  aL)
  (aw (a_ (av (bK K) (ce (ae 0) (tC (.str "up"))) (av (bx K) (ae 1) (tC (.int 1)))) (az 2))
  (aw (aV (aT (av dh (av (bx K) (ae 1) (tC (.int 0))) (tC (.str "stop"))))
  (aw (a_ (tC (.bl false)) (on (ce (ae 0) (tC (.str "up"))) (av (bx K) (ae 1) (tC (.int 1))) ms))
  (aw (a_ iR (on (ce (ae 0) (tC (.str "votes"))) (av (bx K) (ae 1) (tC (.int 1))) ms))
  (aD (ae 2))))
  aL)
  (e8 (a_ (jC (ae 2) (av kG (bb bV [] E0 (af (av (bK K) (ce (ae 0) (tC (.str "books"))) (av (bx K) (ae 1) (tC (.int 1)))) (af (av (bx K) (ae 1) (tC (.int 2))) al))) (bz (af (tC (.str "yes")) al)))) (az 3))
  (e8 (aV (tB (ae 3))
  (bX (e_ K "list" eY (ce (ae 0) (tC (.str "letters"))) (af (bb bR [] E0 (af (av (bx K) (ae 1) (tC (.int 1))) (af (ce (ae 0) (tC (.str "count"))) (af (av (bx K) (ae 1) (tC (.int 2))) (af (tC (.str "query")) al))))) al)))
  aL)
  (aD (ae 3))))))))))
def xO(K:W.Frag)(cN:Sp)(d3:Sp):TS:=
  (aw (aV (tB (oC (ae 1)))
  (aD (oC (ae 0)))
  aL)
  (aw (aV (tB (b5 (fc K) (af (ae 1) (af (tC (.ty "bool")) al))))
  (aD (jC (b5 (fc K) (af (ae 0) (af (tC (.ty "bool")) al))) (av kG (ae 0) (ae 1))))
  aL)
  (aw (aV (fH (cH (tB (b5 (fc K) (af (ae 0) (af (tC (.ty "list")) al))))) (aT (av jy (b5 (ck K) (af (ae 0) al)) (b5 (ck K) (af (ae 1) al)))))
  (aD (tC (.bl false)))
  aL)
  (aw (fz (fk (af (b5 (ck K) (af (ae 1) al)) al)) (az 2)
  (aw (a_ (av (bK K) (ae 0) (ae 2)) (az 3))
  (e8 (aV (tB (b5 (fc K) (af (av (bx K) (av (bK K) (ae 1) (ae 2)) (tC (.int 1))) (af (tC (.ty "tuple")) al))))
  (aw (aV (fH (cH (tB (b5 (fc K) (af (ae 3) (af (tC (.ty "tuple")) al))))) (aT (av jy (b5 (ck K) (af (ae 3) al)) (tC (.int 2)))))
  (aD (tC (.bl false)))
  aL)
  (aw (aV (cH (tB (bb cN [] E0 (af (av (bx K) (ae 3) (tC (.int 0))) al))))
  (aD (tC (.bl false)))
  aL)
  (a_ (av (bx K) (ae 3) (tC (.int 1))) (az 3))))
  aL)
  (aV (fH (cH (tB (bb d3 [] E0 (af (ae 3) al)))) (aT (av qj (av (bK K) (ae 0) (ae 2)) (av (bK K) (ae 1) (ae 2)))))
  (aD (tC (.bl false)))
  aL))))
  (aD (tC (.bl true)))))))
def xG(K:W.Frag):TS:=
  (aw (aV (aT (av xn (b5 (ck K) (af (ae 0) al)) (tC (.int 63))))
  (aD (ae 2))
  aL)
  (aD (ae 1)))
def wp(K:W.Frag)(f':Sp)(iG:Sp)(gT:Sp)(gZ:Sp)(iD:Sp)(gR:Sp)(ij:Sp)(h7:Sp)(iq:Sp)(hX:Sp)(iK:Sp)(h_:Sp)(iu:Sp):TS:=
  (aw (a_ (av (bK K) (bz (af (tC (.int 2)) (af (tC (.int 3)) (af (tC (.int 4)) (af (tC (.int 2)) (af (tC (.int 3)) (af (tC (.int 4)) (af (tC (.int 7)) (af (tC (.int 20)) al))))))))) (av cI (av cI (av dX (bb f' [] E0 (af (ae 0) (af (tC (.int 0)) al))) (tC (.int 48271))) (tC (.int 1049))) (tC (.int 8)))) (az 1))
  (aw (a_ (bb iG [] E0 (af (bb f' [] E0 (af (ae 0) (af (tC (.int 1)) al))) (af (ae 1) al))) (az 2))
  (aw (a_ (bb gZ [] E0 (af (qR (ow K) (ae 0) (i3 (tC (.int 2))) (i3 (av gX (tC (.int 2)) (bb gT [] E0 (af (ae 0) (af (tC (.int 16)) (af (tC (.int 50)) al))))))) (af (ae 1) al))) (az 3))
  (aw (a_ (bz (af (b5 (m_ K) (af (ae 2) al)) (af (b5 (m_ K) (af (ae 3) al)) al))) (az 4))
  (aw (a_ (bb iD [] E0 (af (ae 1) (af (av (bK K) (ae 4) (tC (.int 0))) (af (av (bK K) (ae 4) (tC (.int 1))) al)))) (az 5))
  (aw (a_ (bb gR [] E0 (af (ae 1) (af (av (bK K) (ae 4) (tC (.int 0))) (af (av (bK K) (ae 4) (tC (.int 1))) al)))) (az 6))
  (aw (a_ (bb ij [] E0 (af (ae 1) (af (av (bK K) (ae 4) (tC (.int 0))) (af (av (bK K) (ae 4) (tC (.int 1))) al)))) (az 7))
  (aw (a_ (bb h7 [] E0 (af (ae 1) (af (av (bK K) (ae 4) (tC (.int 0))) (af (av (bK K) (ae 4) (tC (.int 1))) al)))) (az 8))
  (aw (aV (fH (cH (tB (b5 (fc K) (af (ae 5) (af (tC (.ty "list")) al))))) (aT (av jy (b5 (ck K) (af (ae 5) al)) (b5 (ck K) (af (ae 3) al)))))
  (aD (tC (.bl false)))
  aL)
  (aw (aV (aT (av qj (ae 4) (bz (af (ae 2) (af (ae 3) al)))))
  (aD (tC (.bl false)))
  aL)
  (aw (a_ (bb iq [] E0 (af (ae 1) (af (ae 2) al))) (az 9))
  (aw (fz (fk (af (b5 (ck K) (af (ae 3) al)) al)) (az 10)
  (aV (cH (tB (bb iK [] E0 (af (av (bK K) (ae 5) (ae 10)) (af (bb hX [] E0 (af (ae 9) (af (av (bK K) (ae 3) (ae 10)) al))) al)))))
  (aD (tC (.bl false)))
  aL))
  (aw (aV (fH (cH (tB (bb h_ [] E0 (af (ae 6) (af (ae 1) al))))) (aT (av qj (ae 6) (ce (ae 9) (tC (.str "books"))))))
  (aD (tC (.bl false)))
  aL)
  (aw (aV (fH (cH (tB (bb iu [] E0 (af (ae 7) (af (ae 1) al))))) (aT (av qj (ae 7) (ce (ae 9) (tC (.str "letters"))))))
  (aD (tC (.bl false)))
  aL)
  (aw (aV (fH (cH (tB (b5 (fc K) (af (ae 8) (af (tC (.ty "list")) al))))) (aT (av jy (b5 (ck K) (af (ae 8) al)) (ae 1))))
  (aD (tC (.bl false)))
  aL)
  (aw (fz (fk (af (ae 1) al)) (az 10)
  (aV (fH (cH (tB (b5 (fc K) (af (av (bK K) (ae 8) (ae 10)) (af (tC (.ty "bool")) al))))) (aT (av jy (av (bK K) (ae 8) (ae 10)) (av (bK K) (ce (ae 9) (tC (.str "up"))) (ae 10)))))
  (aD (tC (.bl false)))
  aL))
  (aD (tC (.bl true)))))))))))))))))))
def dn(ws:List Str):Str:=ws.getLast?.getD ""
def eR(ws:List Str):Prop:=ws=[]∨ws=[("yes":Str)]∨ws=[("open":Str)]
theorem eM(I:Inv c ag Bs S){i:Nat}{h:HS}(hi:S.hs[i]?=some h)(n:Int):∃ s:Str,(s="open"∨s="yes")∧aq h.book n∈dH s:=by
 have:=(I.wi n).forms (I.ok.il hi)
 rw [dw hi] at this
 refine ⟨_,?_,this⟩
 unfold pf
 split
 ·exact .inl rfl
 ·exact .inr rfl
theorem fb{s:Str}(hs:s="open"∨s="yes"){b:List aW}{n:Int}(hf:aq b n∈dH s):aJ b n=none↔eR (aq b n):=by
 rw [b8 rfl]
 generalize aq b n=ws at *
 unfold dH at hf
 simp only [List.mem_cons,List.not_mem_nil,or_false] at hf
 unfold eR
 rcases hs with rfl | rfl <;> rcases hf with rfl | rfl | rfl | rfl | rfl | rfl <;> decide
theorem t_{s:Str}(hs:s="open"∨s="yes"){b:List aW}{n:Int}(hf:aq b n∈dH s):(dn (aq b n)="no"∨dn (aq b n)="off")↔aJ b n=some ("off":Str):=by
 rw [b8 rfl]
 generalize aq b n=ws at *
 unfold dH at hf
 simp only [List.mem_cons,List.not_mem_nil,or_false] at hf
 unfold dn
 rcases hs with rfl | rfl <;> rcases hf with rfl | rfl | rfl | rfl | rfl | rfl <;> decide
theorem oj{s:Str}(hs:s="open"∨s="yes"){b:List aW}{n:Int}(hf:aq b n∈dH s)(nu:¬ eR (aq b n)):aJ b n=some (if dn (aq b n)="bound" then ("bound":Str) else "off"):=by
 rw [b8 rfl]
 generalize aq b n=ws at *
 unfold dH at hf
 simp only [List.mem_cons,List.not_mem_nil,or_false] at hf
 unfold eR at nu
 unfold dn
 rcases hs with rfl | rfl <;> rcases hf with rfl | rfl | rfl | rfl | rfl | rfl <;> revert nu <;> decide
theorem BR{s:Str}(hs:s="open"∨s="yes"){ws:List Str}(hf:ws∈dH s):∀ w∈ws,w="open"∨w="yes"∨w="no"∨w="bound"∨w="off":=by
 unfold dH at hf
 simp only [List.mem_cons,List.not_mem_nil,or_false] at hf
 rcases hs with rfl | rfl <;> rcases hf with rfl | rfl | rfl | rfl | rfl | rfl <;> decide
theorem BO(I:Inv c ag Bs S){i:Nat}{h:HS}(hi:S.hs[i]?=some h){l:aC}(hw:l.2.2.2="ask") :
  h.got l=(h.asked l.2.2.1,[(h.num,l.1,l.2.2.1,if dn (aq (h.asked l.2.2.1).book l.2.2.1)="no"∨dn (aq (h.asked l.2.2.1).book l.2.2.1)="off" then ("no":Str) else "yes")]):=by
 unfold HS.got HS.gotAsk
 rw [if_pos hw]
 have key:(dn (aq (h.asked l.2.2.1).book l.2.2.1)="no"∨dn (aq (h.asked l.2.2.1).book l.2.2.1)="off")↔aJ (h.asked l.2.2.1).book l.2.2.1=some ("off":Str):=by
  unfold HS.asked
  by_cases e:aq h.book l.2.2.1=[]
  ·rw [if_pos e]
   unfold HS.wr
   have hws:aq (h.book++[(if l.2.2.1∈h.agn then ("no":Str) else "yes",l.2.2.1)]) l.2.2.1=[if l.2.2.1∈h.agn then ("no":Str) else "yes"]:=by rw [dt,if_pos rfl,e];rfl
   exact t_ (s:="yes") (.inr rfl) (by rw [hws];unfold dH;split <;> simp)
  ·rw [if_neg e]
   obtain ⟨s,hs,hf⟩:=eM I hi l.2.2.1
   exact t_ hs hf
 by_cases z:aJ (h.asked l.2.2.1).book l.2.2.1=some ("off":Str)
 ·rw [if_pos z,if_pos (key.mpr z)]
 ·rw [if_neg z,if_neg fun y=>z (key.mp y)]
theorem DO(I:Inv c ag Bs S){i:Nat}{h:HS}(hi:S.hs[i]?=some h){l:aC}(a:l.2.2.2="bound"∨l.2.2.2="off") :
  (eR (aq h.book l.2.2.1)∧h.got l=(h.wr l.2.2.2 l.2.2.1,[]))∨(¬ eR (aq h.book l.2.2.1)∧h.got l=(h,[])):=by
 have n1:¬ l.2.2.2="ask":=by rcases a with a | a <;> rw [a] <;> decide
 have n2:¬ l.2.2.2="query":=by rcases a with a | a <;> rw [a] <;> decide
 have n3:¬ (l.2.2.2="yes"∨l.2.2.2="no"):=by rcases a with a | a <;> rw [a] <;> decide
 unfold HS.got HS.gotDecision
 rw [if_neg n1,if_neg n2,if_neg n3]
 obtain ⟨s,hs,hf⟩:=eM I hi l.2.2.1
 by_cases z:aJ h.book l.2.2.1=none
 ·exact .inl ⟨(fb hs hf).mp z,by rw [if_pos z]⟩
 ·exact .inr ⟨fun y=>z ((fb hs hf).mpr y),by rw [if_neg z]⟩
theorem vB(I:Inv c ag Bs S){i:Nat}{h:HS}(hi:S.hs[i]?=some h){l:aC}(a:l.2.2.2="yes") :
  (eR (aq h.book l.2.2.1)∧h.got l=if (cZ l.1 (h.cnt l.2.2.1)).length<h.oth.length then (h.count l.1 l.2.2.1,[]) else (h.count l.1 l.2.2.1).decide l.2.2.1 "bound")∨
  (¬ eR (aq h.book l.2.2.1)∧h.got l=(h,[(h.num,l.1,l.2.2.1,if dn (aq h.book l.2.2.1)="bound" then ("bound":Str) else "off")])):=by
 unfold HS.got HS.gotVote
 rw [if_neg (by rw [a];decide),if_neg (by rw [a];decide),if_pos (.inl a)]
 obtain ⟨s,hs,hf⟩:=eM I hi l.2.2.1
 by_cases z:eR (aq h.book l.2.2.1)
 ·refine .inl ⟨z,?_⟩
  rw [(fb hs hf).mpr z]
  dsimp only
  rw [if_neg (by rw [a];decide)]
 ·refine .inr ⟨z,?_⟩
  rw [oj hs hf z]
  dsimp only
  rw [if_pos a]
theorem pC(I:Inv c ag Bs S){i:Nat}{h:HS}(hi:S.hs[i]?=some h){l:aC}(hl:l∈S.ls)(ht:l.2.1=(i:Int))(a:l.2.2.2="no") :
  (aq h.book l.2.2.1=[("open":Str)]∧h.got l=h.decide l.2.2.1 "off")∨(¬ eR (aq h.book l.2.2.1)∧h.got l=(h,[])):=by
 have hopen:("open":Str)∈aq h.book l.2.2.1:=by
  rcases I.li l hl with ⟨b,_⟩ | ⟨b,_⟩ | ⟨_,b1,_,_,b4⟩ | ⟨b,_⟩ | ⟨b,_⟩ | ⟨b,_⟩
  ·rw [a] at b;exact absurd b (by decide)
  ·rw [a] at b;exact absurd b (by decide)
  ·have:ld c l.2.2.1=i:=by omega
   rw [this,dw hi] at b4;exact b4
  ·rw [a] at b;exact absurd b (by decide)
  ·rw [a] at b;exact absurd b (by decide)
  ·rw [a] at b;exact absurd b (by decide)
 unfold HS.got HS.gotVote
 rw [if_neg (by rw [a];decide),if_neg (by rw [a];decide),if_pos (.inr a)]
 obtain ⟨s,hs,hf⟩:=eM I hi l.2.2.1
 by_cases z:eR (aq h.book l.2.2.1)
 ·refine .inl ⟨?_,?_⟩
  ·rcases z with e | e | e
   ·rw [e] at hopen;cases hopen
   ·rw [e] at hopen;exact absurd hopen (by decide)
   ·exact e
  ·rw [(fb hs hf).mpr z]
   dsimp only
   rw [if_pos a]
 ·refine .inr ⟨z,?_⟩
  rw [oj hs hf z]
  dsimp only
  rw [if_neg (by rw [a];decide)]
theorem q5(I:Inv c ag Bs S){i:Nat}{h:HS}(hi:S.hs[i]?=some h){l:aC}(a:l.2.2.2="query") :
  (aq h.book l.2.2.1=[("open":Str)]∧h.got l=h.decide l.2.2.1 "off")∨(aq h.book l.2.2.1=[("yes":Str)]∧h.got l=(h,[]))∨
  (aq h.book l.2.2.1=[]∧h.got l=(h.wr "no" l.2.2.1,[(h.num,l.1,l.2.2.1,("off":Str))]))∨
  (¬ eR (aq h.book l.2.2.1)∧h.got l=(h,[(h.num,l.1,l.2.2.1,if dn (aq h.book l.2.2.1)="bound" then ("bound":Str) else "off")])):=by
 unfold HS.got HS.gotQuery
 rw [if_neg (by rw [a];decide),if_pos a]
 obtain ⟨s,hs,hf⟩:=eM I hi l.2.2.1
 have un:dk h.book l.2.2.1=true↔aq h.book l.2.2.1=[("yes":Str)]:=by
  constructor
  ·intro u
   have hy:=qg u
   unfold dk at u
   rw [Bool.and_eq_true] at u
   have hn:=(fb hs hf).mp (of_decide_eq_true u.2)
   rcases hn with e | e | e
   ·rw [e] at hy;cases hy
   ·exact e
   ·rw [e] at hy;exact absurd hy (by decide)
  ·exact kO
 by_cases z:eR (aq h.book l.2.2.1)
 ·rcases z with e | e | e
  ·refine .inr (.inr (.inl ⟨e,?_⟩))
   rw [if_neg (fun y=>by rw [un.mp y] at e;cases e),(fb hs hf).mpr (.inl e)]
   dsimp only
   rw [if_pos e]
  ·exact .inr (.inl ⟨e,by rw [if_pos (un.mpr e)]⟩)
  ·refine .inl ⟨e,?_⟩
   rw [if_neg (fun y=>by rw [un.mp y] at e;revert e;decide),(fb hs hf).mpr (.inr (.inr e))]
   dsimp only
   rw [if_neg (by rw [e];decide)]
 ·refine .inr (.inr (.inr ⟨z,?_⟩))
  rw [if_neg (fun y=>z (.inr (.inl (un.mp y)))),oj hs hf z]
theorem wY(I:Inv c ag Bs S)(si:SI S){k:Nat}(hk:¬ k∈S.un):S.turn k=(S,[]):=by
 unfold HallS.turn
 cases hl:S.ls[k]? with
 | none=>rfl
 | some l=>
  dsimp only
  rcases si k l hl with z | ⟨w,d⟩
  ·exact absurd z hk
  ·unfold HallS.carryL
   cases hh:S.hs[l.2.1.toNat]? with
   | none=>rfl
   | some h=>
    dsimp only
    rw [dw hh] at d
    have hg:h.got l=(h,[]):=by
     rcases w with w | w
     ·unfold HS.got HS.gotVote
      rw [if_neg (by rw [w];decide),if_neg (by rw [w];decide),if_pos (.inr w)]
      cases hd:aJ h.book l.2.2.1 with
      | none=>exact absurd d (dec_none.mp hd)
      | some x=>dsimp only;rw [if_neg (by rw [w];decide)]
     ·have n1:¬ l.2.2.2="ask":=by rcases w with a | a <;> rw [a] <;> decide
      have n2:¬ l.2.2.2="query":=by rcases w with a | a <;> rw [a] <;> decide
      have n3:¬ (l.2.2.2="yes"∨l.2.2.2="no"):=by rcases w with a | a <;> rw [a] <;> decide
      unfold HS.got HS.gotDecision
      rw [if_neg n1,if_neg n2,if_neg n3,if_neg fun z=>dec_none.mp z d]
    rw [hg]
    split
    ·unfold HallS.post
     rw [if_pos rfl]
     dsimp only
     rw [dB hh]
     have es:S.send []=S:=by
      unfold HallS.send
      simp
     rw [es]
     show (S,ju l (.lines (h.book.drop h.book.length)))=_
     rw [List.drop_length];rfl
    ·rfl
structure lp(un:List Nat)(pl k:Nat):Prop where
 so:un.Pairwise (·<·)
 le:pl≤un.length
 lo:∀ j,j<pl→∀ x,un[j]?=some x→x<k
 hi:∀ j,pl≤j→∀ x,un[j]?=some x→k≤x
theorem rN{un:List Nat}{pl k:Nat}(s:lp un pl k)(hk:k∈un):∃ h:pl<un.length,un[pl]=k:=by
 obtain ⟨j,hj,e⟩:=List.getElem_of_mem hk
 have hg:un[j]?=some k:=by rw [lad hj,e]
 have h1:pl≤j:=by
  by_cases z:j<pl
  ·have:=s.lo j z k hg;omega
  ·omega
 have hp:pl<un.length:=by omega
 refine ⟨hp,?_⟩
 have h2:=s.hi pl (lat _) un[pl] (lad hp)
 by_cases z:pl=j
 ·subst z;exact e
 ·have:=List.pairwise_iff_getElem.mp s.so pl j hp hj (by omega)
  rw [e] at this;omega
theorem we{un more:List Nat}{pl k:Nat}(s:lp un pl k)(hk:k∈un)(hm:∀ x∈more,k<x)(so:(un++more).Pairwise (·<·)):lp (un++more) (pl+1) (k+1):=by
 obtain ⟨hp,e⟩:=rN s hk
 refine ⟨so,by rw [laf];omega,fun j hj x hx=>?_,fun j hj x hx=>?_⟩
 ·rw [List.getElem?_append_left (by omega)] at hx
  by_cases z:j=pl
  ·subst z;rw [lad hp,e] at hx;cases hx;omega
  ·have:=s.lo j (by omega) x hx;omega
 ·by_cases z:j<un.length
  ·rw [List.getElem?_append_left z] at hx
   have h1:=List.pairwise_iff_getElem.mp s.so pl j hp z (by omega)
   rw [lad z] at hx
   cases hx
   rw [e] at h1;omega
  ·rw [List.getElem?_append_right (by omega)] at hx
   have:=hm x (lam hx)
   omega
theorem xM{un:List Nat}{pl k:Nat}(s:lp un pl k)(hk:¬ k∈un):lp un pl (k+1):=by
 refine ⟨s.so,s.le,fun j hj x hx=>by have:=s.lo j hj x hx;omega,fun j hj x hx=>?_⟩
 have h1:=s.hi j hj x hx
 have:x≠k:=fun e=>hk (by rw [← e];exact lam hx)
 omega
theorem yt{un:List Nat}{pl k:Nat}(s:lp un pl k)(hu:∀ x∈un,x<k):pl=un.length:=by
 by_cases z:pl<un.length
 ·have h1:=s.hi pl (lat _) un[pl] (lad z)
  have h2:=hu un[pl] (List.getElem_mem z)
  omega
 ·have:=s.le;omega
def SoUn(S:HallS):Prop:=S.un.Pairwise (·<·)∧∀ k∈S.un,k<S.ls.length
theorem SoUn.send(h:SoUn S)(sent:List aC):SoUn (S.send sent):=by
 refine ⟨?_,fun k hk=>?_⟩
 ·show (S.un++_).Pairwise _
  refine List.pairwise_append.mpr ⟨h.1,?_,fun a ha b hb=>?_⟩
  ·exact List.Pairwise.map _ (fun a b hab=>by omega) List.pairwise_lt_range
  ·obtain ⟨j,_,rfl⟩:=laA.mp hb
   have:=h.2 a ha;omega
 ·show k<(S.ls++sent).length
  rw [laf]
  have hk':k∈S.un++(List.range sent.length).map (S.ls.length+·):=hk
  rcases lap.mp hk' with z | z
  ·have:=h.2 k z;omega
  ·obtain ⟨j,hj,rfl⟩:=laA.mp z
   have:=laB.mp hj;omega
theorem SoUn.post(h:SoUn S)(i:Nat)(r:HS×List aC)(st:Bool):SoUn (S.post i r st):=by
 unfold HallS.post
 cases st with
 | true=>exact SoUn.send (S:=S.put i r.1) h _
 | false=>exact h
theorem SoUn.carryL(h:SoUn S)(l:aC)(st:Bool):SoUn (S.carryL l st).1:=by
 unfold HallS.carryL
 split
 ·exact h
 ·split
  ·exact h.post _ _ _
  ·exact h
theorem SoUn.turn(h:SoUn S)(k:Nat):SoUn (S.turn k).1:=by
 unfold HallS.turn
 split
 ·exact h
 ·exact h.carryL _ _
theorem SoUn.sweepGo:∀ (f:Nat) (S:HallS) (pl:Nat) (w:List (Int×aW)) (r:HallS×List (Int×aW)),SoUn S→S.sweepGo f pl w=some r→SoUn r.1
 | 0,S,pl,w,r,hs,h=>by
  unfold HallS.sweepGo at h
  split at h
  ·cases h
  ·cases lan h;exact hs
 | f+1,S,pl,w,r,hs,h=>by
  unfold HallS.sweepGo at h
  split at h
  ·exact SoUn.sweepGo f _ _ _ r (hs.turn _) h
  ·cases lan h;exact hs
theorem SoUn.do(ok:HallOk c S)(h:SoUn S)(d:Deed):SoUn (S.do d).1:=by
 cases d with
 | begin n st=>
  show SoUn (S.begin n st).1
  unfold HallS.begin
  split
  ·exact h
  ·split
   ·exact h.post _ _ _
   ·exact h
 | carry k st=>
  show SoUn (S.carry k st).1
  unfold HallS.carry
  split
  ·exact h
  ·exact h.carryL _ _
 | query i n=>
  show SoUn (S.query i n).1
  unfold HallS.query
  split
  ·exact h
  ·exact h.send _
 | stop i=>
  show SoUn (S.stop i).1
  unfold HallS.stop
  split
  ·exact h
  ·split
   ·exact h
   ·exact h
 | wake i=>
  show SoUn (S.wake i).1
  unfold HallS.wake
  split
  ·exact h
  ·split
   ·exact h
   ·exact SoUn.send (S:=S.put _ _) h _
 | sweep=>
  have:=SoUn.sweepGo _ _ _ _ _ h (eB ok).1
  exact ⟨this.1.filter _,fun k hk=>this.2 k (laC.mp hk).1⟩
theorem ze(h:SoUn S){k:Nat}(hk:k<S.ls.length):∃ more,(S.turn k).1.un=S.un++more∧∀ x∈more,k<x:=by
 unfold HallS.turn
 split
 ·exact ⟨[],(laF _).symm,fun x hx=>by cases hx⟩
 ·unfold HallS.carryL
  split
  ·exact ⟨[],(laF _).symm,fun x hx=>by cases hx⟩
  ·split
   ·unfold HallS.post
    rw [if_pos rfl]
    refine ⟨_,rfl,fun x hx=>?_⟩
    obtain ⟨j,_,rfl⟩:=laA.mp hx
    show k<S.ls.length+j
    omega
   ·exact ⟨[],(laF _).symm,fun x hx=>by cases hx⟩
structure Both(r:HallS×List (Int×aW))(S:HallS)(k:Nat)(w:List (Int×aW)):Prop where
 go:∃ f pl,S.sweepGo f pl w=some r∧lp S.un pl k
 so:SoUn S
 si:SI S
theorem Both.step{r:HallS×List (Int×aW)}{k:Nat}{w:List (Int×aW)}(I:Inv c ag Bs S)(B:Both r S k w)(hk:k<S.ls.length):Both r (S.turn k).1 (k+1) (w++(S.turn k).2):=by
 obtain ⟨f,pl,hg,sp⟩:=B.go
 by_cases hu:k∈S.un
 ·obtain ⟨hp,e⟩:=rN sp hu
  refine ⟨?_,B.so.turn k,B.si.turn k⟩
  obtain ⟨more,hm,hlt⟩:=ze B.so hk
  cases f with
  | zero=>unfold HallS.sweepGo at hg;rw [if_pos hp] at hg;cases hg
  | succ f=>
   unfold HallS.sweepGo at hg
   rw [dif_pos hp,e] at hg
   refine ⟨f,pl+1,hg,?_⟩
   rw [hm]
   exact we sp hu hlt (by rw [← hm];exact (B.so.turn k).1)
 ·rw [wY I B.si hu,laF]
  exact ⟨⟨f,pl,hg,xM sp hu⟩,B.so,B.si⟩
theorem Both.done{r:HallS×List (Int×aW)}{k:Nat}{w:List (Int×aW)}(B:Both r S k w)(hk:S.ls.length≤k):r=(S,w):=by
 obtain ⟨f,pl,hg,sp⟩:=B.go
 have e:=yt sp fun x hx=>lav (B.so.2 x hx) hk
 cases f with
 | zero=>unfold HallS.sweepGo at hg;rw [if_neg (by omega)] at hg;exact (lan hg).symm
 | succ f=>unfold HallS.sweepGo at hg;rw [dif_neg (by omega)] at hg;exact (lan hg).symm
theorem Both.start(ok:HallOk c S)(so:SoUn S)(si:SI S):Both S.sweepR S 0 []:=
 ⟨⟨S.fuel,0,(eB ok).1,so.1,laI _,fun j hj=>absurd hj (by omega),fun j _ x _=>laI _⟩,so,si⟩
inductive Slot where
 | d | l | B | V | U | bk (i:Nat) | vt (i:Nat) | ct (i:Nat) (n:Int)
deriving DecidableEq
structure SAt(H:Hp)(ad:Slot→Option Addr)(co:Slot→HO)(R:List Addr):Prop where
 at_:∀ s a,ad s=some a→H a=some (co s)
 inj:∀ s t a,ad s=some a→ad t=some a→s=t
 mem:∀ s a,ad s=some a→a∈R
 trk:∀ a∈R,∃ o,H a=some o
 mu:∀ s,ke (some (co s))
theorem SAt.same{H H':Hp}{ad:Slot→Option Addr}{co:Slot→HO}(I:SAt H ad co R)(s:Same H H'):SAt H' ad co R:=
 ⟨fun t a h=>s _ _ (I.at_ t a h),I.inj,I.mem,fun a ha=>by obtain ⟨o,e⟩:=I.trk a ha;exact ⟨o,s _ _ e⟩,I.mu⟩
theorem SAt.set{ad:Slot→Option Addr}{co co':Slot→HO}(I:SAt H ad co R){s:Slot}{a:Addr}(ha:ad s=some a)(hc:∀ t,t≠s→co' t=co t)(mu:∀ s,ke (some (co' s))) :
  SAt (upd H a (co' s)) ad co' R∧Chg R H (upd H a (co' s)):=by
 have h0:=I.at_ s a ha
 refine ⟨⟨fun t b hb=>?_,I.inj,I.mem,fun b hb=>?_,mu⟩,.set (by rw [h0];exact I.mu s) (I.mem s a ha)⟩
 ·by_cases e:t=s
  ·subst e
   rw [ha] at hb
   cases hb
   exact ax
  ·have nb:b≠a:=fun z=>e (I.inj t s a (z▸hb) ha)
   rw [bB nb,hc t e]
   exact I.at_ t b hb
 ·by_cases e:b=a
  ·subst e;exact ⟨_,ax⟩
  ·obtain ⟨o,ho⟩:=I.trk b hb
   exact ⟨o,by rw [bB e];exact ho⟩
theorem SAt.new{ad ad':Slot→Option Addr}{co co':Slot→HO}(I:SAt H ad co R){s:Slot}{p:Addr}(hp:H p=none)(h0:ad' s=some p)(ha:∀ t,t≠s→ad' t=ad t∨ad' t=none)(hc:∀ t,t≠s→co' t=co t)(mu:∀ s,ke (some (co' s))) :
  SAt (upd H p (co' s)) ad' co' (p::R):=by
 have old:∀ t b,t≠s→ad' t=some b→ad t=some b∧b≠p:=fun t b e hb=>by
  have h1:ad t=some b:=by
   rcases ha t e with z | z
   ·rw [← z];exact hb
   ·rw [z] at hb;cases hb
  exact ⟨h1,fun z=>by have:=I.at_ t b h1;rw [z,hp] at this;cases this⟩
 refine ⟨fun t b hb=>?_,fun t u b hb hb'=>?_,fun t b hb=>?_,fun b hb=>?_,mu⟩
 ·by_cases e:t=s
  ·subst e;rw [h0] at hb;cases hb;exact ax
  ·obtain ⟨h1,h2⟩:=old t b e hb
   rw [bB h2,hc t e];exact I.at_ t b h1
 ·by_cases e:t=s
  ·by_cases e':u=s
   ·rw [e,e']
   ·obtain ⟨_,h2⟩:=old u b e' hb'
    rw [e,h0] at hb;cases hb;exact absurd rfl h2
  ·by_cases e':u=s
   ·obtain ⟨_,h2⟩:=old t b e hb
    rw [e',h0] at hb';cases hb';exact absurd rfl h2
   ·exact I.inj t u b (old t b e hb).1 (old u b e' hb').1
 ·by_cases e:t=s
  ·subst e;rw [h0] at hb;cases hb;exact List.mem_cons_self
  ·exact lac _ (I.mem t b (old t b e hb).1)
 ·by_cases e:b=p
  ·subst e;exact ⟨_,ax⟩
  ·rcases List.mem_cons.mp hb with z | z
   ·exact absurd z e
   ·obtain ⟨o,ho⟩:=I.trk b z
    exact ⟨o,by rw [bB e];exact ho⟩
def hK(pg:Addr)(c:Nat)(pl pB pV pU:Addr):List (aN×V):=[(Sum.inr "against",.ref pg),(Sum.inr "count",.int (c:Int)),(Sum.inr "letters",.ref pl),(Sum.inr "books",.ref pB),(Sum.inr "votes",.ref pV),(Sum.inr "up",.ref pU)]
section
variable {pg pl pB pV pU:Addr}{c:Nat}
theorem Ax:bq (hK pg c pl pB pV pU) (Sum.inr "against":aN)=some (.ref pg):=by with_unfolding_all rfl
theorem t6:bq (hK pg c pl pB pV pU) (Sum.inr "count":aN)=some (.int (c:Int)):=by with_unfolding_all rfl
theorem oA:bq (hK pg c pl pB pV pU) (Sum.inr "letters":aN)=some (.ref pl):=by with_unfolding_all rfl
theorem pR:bq (hK pg c pl pB pV pU) (Sum.inr "books":aN)=some (.ref pB):=by with_unfolding_all rfl
theorem zt:bq (hK pg c pl pB pV pU) (Sum.inr "votes":aN)=some (.ref pV):=by with_unfolding_all rfl
theorem kF:bq (hK pg c pl pB pV pU) (Sum.inr "up":aN)=some (.ref pU):=by with_unfolding_all rfl
end
theorem bu{a:Addr}{v:V}{kvs:List (aN×V)}{k:Str}{P:V→Prop}(h:H a=some (.dK kvs))(e:bq kvs (Sum.inr k)=some v)(q:P v):∃ a' v,V.ref a=.ref a'∧DGet H a' (.str k) (some v)∧P v:=⟨a,v,rfl,e▸DGet.k (k:=Sum.inr k) h,q⟩
theorem oN{a:Addr}{v:V}{kvs:List (aN×V)}{k:Int}{P:V→Prop}(h:H a=some (.dK kvs))(e:bq kvs (Sum.inl k)=some v)(q:P v):∃ a' v,V.ref a=.ref a'∧DGet H a' (.int k) (some v)∧P v:=⟨a,v,rfl,e▸DGet.k (k:=Sum.inl k) h,q⟩
structure LW where
 d:Addr
 l:Addr
 B:Addr
 V:Addr
 U:Addr
 bk:Nat→Addr
 vt:Nat→Addr
 ct:Nat→Int→Option Addr
 ys:List L2.V
 xs:Nat→List L2.V
 kv:Nat→List (aN×L2.V)
def LW.ad(W:LW)(c:Nat):Slot→Option Addr
 | .d=>some W.d
 | .l=>some W.l
 | .B=>some W.B
 | .V=>some W.V
 | .U=>some W.U
 | .bk i=>if i<c then some (W.bk i) else none
 | .vt i=>if i<c then some (W.vt i) else none
 | .ct i n=>if i<c then W.ct i n else none
def LW.co(W:LW)(S:HallS)(c:Nat)(pg:Addr):Slot→HO
 | .d=>.dK (hK pg c W.l W.B W.V W.U)
 | .l=>.lst W.ys
 | .B=>.lst ((List.range c).map fun i=>.ref (W.bk i))
 | .V=>.lst ((List.range c).map fun i=>.ref (W.vt i))
 | .U=>.lst (S.hs.map fun h=>.bl h.up)
 | .bk i=>.lst (W.xs i)
 | .vt i=>.dK (W.kv i)
 | .ct i n=>.lst ((de S i n).map .int)
theorem LW.mu(W:LW)(S:HallS)(c:Nat)(pg:Addr):∀ s,ke (some (W.co S c pg s)):=fun s=>by cases s <;> exact True.intro
structure LRep(H:Hp)(W:LW)(S:HallS)(c:Nat)(pg:Addr)(R:List Addr)(N:Nat):Prop where
 at_:SAt H (W.ad c) (W.co S c pg) R
 ls:Reps H [] W.ys (S.ls.map bv)
 bs:∀ i h,S.hs[i]?=some h→Reps H [] (W.xs i) (h.book.map bZ)
 vn:∀ i n,i<c→bq (W.kv i) (Sum.inl n:aN)=none→de S i n=[]
 vs:∀ i n v,i<c→bq (W.kv i) (Sum.inl n:aN)=some v→∃ q,v=.ref q∧W.ct i n=some q
 kl:∀ i,i<c→(W.kv i).length≤N
theorem LRep.same{H H':Hp}{W:LW}{pg:Addr}(I:LRep H W S c pg R N)(s:Same H H'):LRep H' W S c pg R N:=
 ⟨I.at_.same s,I.ls.same s,fun i h hi=>(I.bs i h hi).same s,I.vn,I.vs,I.kl⟩
theorem LRep.more{W:LW}{pg:Addr}{N M:Nat}(I:LRep H W S c pg R N)(h:N≤M):LRep H W S c pg R M:=
 ⟨I.at_,I.ls,I.bs,I.vn,I.vs,fun i hi=>las (I.kl i hi) h⟩
section
variable {H:Hp}{W:LW}{S:HallS}{c:Nat}{pg:Addr}{R:List Addr}{N:Nat}
theorem LRep.gd(I:LRep H W S c pg R N):H W.d=some (.dK (hK pg c W.l W.B W.V W.U)):=I.at_.at_ .d _ rfl
theorem LRep.gl(I:LRep H W S c pg R N):H W.l=some (.lst W.ys):=I.at_.at_ .l _ rfl
theorem LRep.gB(I:LRep H W S c pg R N):H W.B=some (.lst ((List.range c).map fun i=>.ref (W.bk i))):=I.at_.at_ .B _ rfl
theorem LRep.gV(I:LRep H W S c pg R N):H W.V=some (.lst ((List.range c).map fun i=>.ref (W.vt i))):=I.at_.at_ .V _ rfl
theorem LRep.gU(I:LRep H W S c pg R N):H W.U=some (.lst (S.hs.map fun h=>.bl h.up)):=I.at_.at_ .U _ rfl
theorem LRep.gb(I:LRep H W S c pg R N){i:Nat}(hi:i<c):H (W.bk i)=some (.lst (W.xs i)):=I.at_.at_ (.bk i) _ (if_pos hi)
theorem LRep.gv(I:LRep H W S c pg R N){i:Nat}(hi:i<c):H (W.vt i)=some (.dK (W.kv i)):=I.at_.at_ (.vt i) _ (if_pos hi)
theorem LRep.gc(I:LRep H W S c pg R N){i:Nat}(hi:i<c){n:Int}{q:Addr}(hq:W.ct i n=some q):H q=some (.lst ((de S i n).map .int)):=I.at_.at_ (.ct i n) _ (by show (if i<c then _ else _)=_;rw [if_pos hi];exact hq)
theorem j2{f:Nat→Addr}{c i:Nat}(h:i<c):gD ((List.range c).map fun i=>V.ref (f i)) (i:Int)=some (.ref (f i)):=cf (by rw [lae,laD h];rfl)
theorem LRep.write(I:LRep H W S c pg R N){i:Nat}{h:HS}(hi:S.hs[i]?=some h)(hc:i<c){t:Addr}{w:Str}{n:Int}(gt:Rd H t (.tup [.str w,.int n])) :
  LRep (upd H (W.bk i) (.lst (W.xs i++[.ref t]))) { W with xs:=fun j=>if j=i then W.xs i++[.ref t] else W.xs j } (S.put i (h.wr w n)) c pg R N∧Chg R H (upd H (W.bk i) (.lst (W.xs i++[.ref t]))):=by
 have il:i<S.hs.length:=(lab.mp hi).1
 have hup:(S.put i (h.wr w n)).hs.map (fun h=>V.bl h.up)=S.hs.map fun h=>V.bl h.up:=by
  apply List.ext_getElem?
  intro j
  show ((S.hs.set i _).map _)[j]?=_
  rw [lae,lae]
  by_cases e:i=j
  ·subst e;rw [lao il,hi];rfl
  ·rw [lar e]
 have hcn:∀ j n',de (S.put i (h.wr w n)) j n'=de S j n':=fun j n'=>by
  rw [nH hi]
  split
  ·rename_i e;subst e;rw [nh hi];rfl
  ·rfl
 obtain ⟨s1,s2⟩:=I.at_.set (s:=.bk i) (a:=W.bk i) (co':=({ W with xs:=fun j=>if j=i then W.xs i++[.ref t] else W.xs j }:LW).co (S.put i (h.wr w n)) c pg) (if_pos hc) (fun s hs=>by
  cases s with
  | bk j=>
   show HO.lst (if j=i then _ else _)=.lst _
   rw [if_neg (fun e=>hs (by rw [e]))]
  | U=>show HO.lst ((S.put i (h.wr w n)).hs.map _)=_;rw [hup];rfl
  | ct j n'=>show HO.lst ((de (S.put i (h.wr w n)) j n').map _)=_;rw [hcn];rfl
  | _=>rfl) (LW.mu _ _ _ _)
 have eco:({ W with xs:=fun j=>if j=i then W.xs i++[.ref t] else W.xs j }:LW).co (S.put i (h.wr w n)) c pg (.bk i)=.lst (W.xs i++[.ref t]):=by show HO.lst (if i=i then _ else _)=_;rw [if_pos rfl]
 rw [eco] at s1 s2
 refine ⟨⟨s1,bA I.ls s2,fun j g hg=>?_,fun j m hj hv=>by rw [hcn];exact I.vn j m hj hv,I.vs,I.kl⟩,s2⟩
 show Reps _ [] (if j=i then _ else _) _
 change (S.hs.set i _)[j]?=some g at hg
 by_cases e:j=i
 ·subst e
  rw [lao il] at hg
  cases hg
  rw [if_pos rfl]
  show Reps _ [] _ ((h.book++[(w,n)]).map bZ)
  rw [lai]
  exact (bG (I.bs j h hi) s2).append (.cons (.tup (gt.chgT s2) (.cons (.str _) (.cons (.int _) .nil))) .nil)
 ·rw [lar (Ne.symm e)] at hg
  rw [if_neg e]
  exact bG (I.bs j g hg) s2
end
structure Stays(W W':LW):Prop where
 d:W'.d=W.d
 l:W'.l=W.l
 B:W'.B=W.B
 V:W'.V=W.V
 U:W'.U=W.U
 bk:W'.bk=W.bk
theorem Stays.refl(W:LW):Stays W W:=⟨rfl,rfl,rfl,rfl,rfl,rfl⟩
theorem Stays.trans{A B C:LW}(x:Stays A B)(y:Stays B C):Stays A C:=⟨y.d.trans x.d,y.l.trans x.l,y.B.trans x.B,y.V.trans x.V,y.U.trans x.U,y.bk.trans x.bk⟩
structure LMove(H:Hp)(W:LW)(R:List Addr)(H':Hp)(W':LW)(S':HallS)(c:Nat)(pg:Addr)(R':List Addr)(N':Nat):Prop where
 at_:LRep H' W' S' c pg R' N'
 chg:Chg R H H'
 gr:Grow R H R'
 sb:∀ a∈R,a∈R'
 st:Stays W W'
theorem LMove.trans{H H1 H2:Hp}{W W1 W2:LW}{R R1 R2:List Addr}{S1 S2:HallS}{pg:Addr}{N1 N2:Nat}(a:LMove H W R H1 W1 S1 c pg R1 N1)(b:LMove H1 W1 R1 H2 W2 S2 c pg R2 N2):LMove H W R H2 W2 S2 c pg R2 N2:=
 ⟨b.at_,a.chg.grow a.gr b.chg,a.gr.trans a.chg b.gr,fun x hx=>b.sb x (a.sb x hx),a.st.trans b.st⟩
theorem LMove.of{H H':Hp}{W W':LW}{S':HallS}{pg:Addr}(I:LRep H' W' S' c pg R N)(ch:Chg R H H')(st:Stays W W'):LMove H W R H' W' S' c pg R N:=⟨I,ch,.refl _ _,fun _ h=>h,st⟩
theorem LMove.free{H H':Hp}{W W':LW}{R R':List Addr}{S':HallS}{pg:Addr}{N':Nat}(m:LMove H W R H' W' S' c pg R' N'){b:Addr}(hb:H' b=none):H b=none:=by
 cases e:H b with
 | none=>rfl
 | some o=>
  by_cases y:b∈R
  ·obtain ⟨o',e'⟩:=m.at_.at_.trk b (m.sb b y)
   rw [hb] at e';cases e'
  ·rw [m.chg.keep b o e y] at hb;cases hb
theorem LMove.then_same{H H1 H2:Hp}{W W1:LW}{R R1:List Addr}{S1:HallS}{pg:Addr}{N1:Nat}(a:LMove H W R H1 W1 S1 c pg R1 N1)(s:Same H1 H2):LMove H W R H2 W1 S1 c pg R1 N1:=
 a.trans (.of (a.at_.same s) (.of_same s) (Stays.refl _))
theorem LMove.more{H H':Hp}{W W':LW}{R R':List Addr}{S':HallS}{pg:Addr}{N' M:Nat}(m:LMove H W R H' W' S' c pg R' N')(h:N'≤M):LMove H W R H' W' S' c pg R' M:=⟨m.at_.more h,m.chg,m.gr,m.sb,m.st⟩
def LGot(H:Hp)(W:LW)(S:HallS)(c:Nat)(pg:Addr)(R:List Addr)(N:Nat)(i:Nat)(r:HS×List aC)(Q:VK):Prop:=
 ∀ v H' W' R',LMove H W R H' W' (S.put i r.1) c pg R' N→LL H' R' v r.2→Fresh H v→Q v H'
theorem qe{σ:St}{t:Addr}{x1 x2 x3 x4:V}{i j k m:Nat}{Q:St→Hp→Prop}(rt:Rd H t (.tup [x1,x2,x3,x4]))(q:Q ((((σ.set i (some x1)).set j (some x2)).set k (some x3)).set m (some x4)) H) :
  sZ K 4 (ej (az i) (ej (az j) (ej (az k) (ej (az m) rO)))) (.ref t) σ H Q:=
 ⟨t,_,rfl,oB rt,rfl,_,_,rfl,_,_,rfl,_,_,rfl,_,_,rfl,rfl,q⟩
theorem eG(tr:∀ a∈R,∃ o,H a=some o){p:Addr}(hp:H p=none):¬ p∈R:=fun y=>by obtain ⟨o,e⟩:=tr p y;rw [hp] at e;cases e
def gf(m:Int)(c:Nat)(n:Int)(w:Str):List aC:=(bP m c).map fun k=>(m,k,n,w)
def bR:Sp:=fun vs H Q _=>∃ (m:Int) (c:Nat) (n:Int) (w:Str),vs=[.int m,.int (c:Int),.int n,.str w]∧c≤1000∧∀ q ys H',Same H H'→H q=none→H' q=some (.lst ys)→Reps H' [] ys ((gf m c n w).map bv)→Q (.ref q) H'
theorem Iq(h:bR vs H Q E):v7 K { nx:=fun _ H'=>Q .non H',rt:=Q } (start ["_law_mine","_law_count","_law_bargain","_law_word"] vs) H:=by
 obtain ⟨m,c,n,w,rfl,hc,k⟩:=h
 unfold v7
 walk_at "g"
 refine eU (by omega) ?_
 intro q hq
 refine km (n:=c) (fun i ys σ H'=>∃ v,σ=[v,some (.int m),some (.int n),some (.str w)]∧Same H H'∧ys.length≤i∧Reps H' [] ys ((gf m i n w).map bv)) ⟨none,rfl,Same.new hq,lat _,.nil⟩ ?_ ?_
 ·rintro i ys σ H1 hi hq' ⟨v,rfl,s,hl,rs⟩
  have e0:((0:Int)+(i:Int))=(i:Int):=Int.zero_add _
  walk_at "g"
  by_cases e:(i:Int)=m
  ·rw [if_neg (by simp [e0,e])]
   exact ⟨ys,hq',_,rfl,s,by omega,by unfold gf;rw [h9,if_pos e];exact rs⟩
  ·rw [if_pos (by simp [e0,e])]
   walk_at "A"
   rename_i t ht H2 s2 g2
   rw [e0] at g2
   refine ⟨ys,s2 _ _ hq',bg (by omega),ys++[.ref t],ax,_,rfl,(s.trans s2).put hq,by rw [laf];show ys.length+1≤_;omega,?_⟩
   unfold gf at rs ⊢
   rw [h9,if_neg e,lai,lai]
   have ch:Chg [q] H2 (upd H2 q (.lst (ys++[.ref t]))):=.set (by rw [s2 _ _ hq'];exact True.intro) (by simp)
   have ntq:t≠q:=dJ g2 (s2 _ _ hq') (by intro z;cases z)
   exact (bA (rs.same s2) ch).snoc (fo (.inl (bo ntq g2)))
 ·rintro ys σ H1 hq' ⟨v,rfl,s,hl,rs⟩
  exact k q ys _ s hq hq' rs
theorem eL{i c:Nat}(hn:h.num=i)(ho:h.oth=bP i c)(n:Int)(w:Str):h.toOthers n w=gf (i:Int) c n w:=by unfold HS.toOthers gf;rw [hn,ho]
theorem AH{ws:List Str}(h:ws≠[]):gD (ws.map V.str) (-1)=some (.str (dn ws)):=by
 obtain ⟨xs,x,rfl⟩:∃ xs x,ws=xs++[x]:=⟨ws.dropLast,ws.getLast h,(List.dropLast_concat_getLast h).symm⟩
 rw [lai]
 show gD (xs.map V.str++[V.str x]) (-1)=_
 rw [uA]
 unfold dn
 rw [List.getLast?_concat];rfl
theorem yF(w:Str):d9 (.str w) [.str "no",.str "off"]=decide (w="no"∨w="off"):=by
 have:=ft w [("no":Str),"off"]
 rw [show [V.str "no",V.str "off"]=[("no":Str),"off"].map V.str from rfl,this]
 simp
theorem jn{s:Str}(hs:s="open"∨s="yes"){ws:List Str}(hf:ws∈dH s):kc ws:=fun w hw=>by
 rcases BR hs hf w hw with rfl | rfl | rfl | rfl | rfl <;> exact jm (by simp)
structure GIn(H:Hp)(W:LW)(S:HallS)(c:Nat)(pg:Addr)(R:List Addr)(N:Nat)(ag:List (Int×Int))(Bs:Int→Prop)(i:Nat)(h:HS)(t:Addr)(l:aC):Prop where
 rep:LRep H W S c pg R N
 inv:Inv c ag Bs S
 hi:S.hs[i]?=some h
 ra:Rep H [] (.ref pg) (.list (ag.map dg))
 npg:¬ pg∈R
 rt:Rd H t (.tup [.int l.1,.int l.2.1,.int l.2.2.1,.str l.2.2.2])
 hl:l∈S.ls
 to:l.2.1=(i:Int)
 bl:h.book.length≤100000
def hR:Sp:=fun vs H Q _=>∃ (W:LW) (S:HallS) (c:Nat) (pg:Addr) (R:List Addr) (N:Nat) (ag:List (Int×Int)) (Bs:Int→Prop) (i:Nat) (h:HS) (t:Addr) (l:aC),vs=[.ref (W.bk i),.ref pg,.ref t]∧GIn H W S c pg R N ag Bs i h t l∧l.2.2.2="ask"∧LGot H W S c pg R N i (h.got l) Q
theorem Es(h:hR vs H Q E):v1 K bV { nx:=fun _ H'=>Q .non H',rt:=Q } (start ["_law_book","_law_against","_law_letter","_law_giver","_law_mine","_law_bargain","_law_word","_law_words"] vs) H:=by
 obtain ⟨W,S,c,pg,R,N,ag,Bs,i,h,t,l,rfl,G,hask,k⟩:=h
 have hc:i<c:=G.inv.ok.il G.hi
 have gb:=G.rep.gb hc
 have rb:Rep H [] (.ref (W.bk i)) (cy h.book):=.lst (.inl gb) (by simp) (G.rep.bs i h G.hi)
 have hxl:(W.xs i).length=h.book.length:=by rw [(G.rep.bs i h G.hi).length,laa]
 obtain ⟨s0,hs0,hf⟩:=eM G.inv G.hi l.2.2.1
 obtain ⟨hn,ho⟩:=G.inv.ok.num i h G.hi
 have hagn:=G.inv.agn i h G.hi
 rw [BO G.inv G.hi hask] at k
 unfold v1
 walk_at "g"
 refine qe G.rt ?_
 walk_at "g"
 refine ⟨W.bk i,h.book,l.2.2.1,rfl,rb,las G.bl (by decide),fun pw H1 hpw s1 g1=>?_⟩
 walk_at "s"
 have okn:kc []:=fun w hw=>(nomatch hw)
 refine dI (fun σ' H'=>∃ W' qw,σ'=[some (.ref (W.bk i)),some (.ref pg),some (.ref t),some (.int l.1),some (.int l.2.1),some (.int l.2.2.1),some (.str l.2.2.2),some (.ref qw)]∧LMove H W R H' W' (S.put i (h.asked l.2.2.1)) c pg R N∧H' qw=some (.lst ((aq (h.asked l.2.2.1).book l.2.2.1).map .str))∧aq (h.asked l.2.2.1).book l.2.2.1≠[]) ?_ ?_
 ·walk_at "A"
  rename_i pn hpn H2 s2 g2
  refine mN (xs:=aq h.book l.2.2.1) (ys:=[]) (.inl (s2 _ _ g1)) (.inl g2) (jn hs0 hf) okn ?_
  walk_at "g"
  by_cases e:aq h.book l.2.2.1=[]
  ·rw [if_pos (decide_eq_true e)]
   have s12:=s1.trans s2
   walk_at "A"
   rename_i py hpy H3 s3 g3 pt hpt H4 s4 g4
   have s04:=(s12.trans s3).trans s4
   refine vm (k:=l.2.1) (n:=l.2.2.1) (.inl g4) (G.ra.same s04) ?_
   walk_at "g"
   have hmem:decide ((l.2.1,l.2.2.1)∈ag)=decide (l.2.2.1∈h.agn):=by
    rw [hagn,G.to]
    exact decide_eq_decide.mpr mem_agOf.symm
   rw [hmem]
   have gy4:=s4 _ _ g3
   refine bp (b7 gy4) (v:=.str (if l.2.2.1∈h.agn then "no" else "yes")) (by by_cases z:l.2.2.1∈h.agn <;> simp [z] <;> rfl) ?_
   generalize hw0:(if l.2.2.1∈h.agn then ("no":Str) else "yes")=w0
   walk_at "A"
   rename_i pz hpz H5 s5 g5
   have s05:=s04.trans s5
   have I5:=G.rep.same s05
   have gb5:=I5.gb hc
   refine ⟨.inl ⟨rfl,_,b7 gb5⟩,?_⟩
   walk_at "A"
   rename_i pq hpq H6 s6 g6
   have s06:=s05.trans s6
   have I6:=I5.same s6
   have gb6:=I6.gb hc
   refine dc gb6 (bg (by rw [hxl];have:=G.bl;omega)) ?_
   obtain ⟨J,cj⟩:=I6.write G.hi hc (t:=pq) (w:=w0) (n:=l.2.2.1) (.inl g6)
   have easked:h.asked l.2.2.1=h.wr w0 l.2.2.1:=by unfold HS.asked;rw [if_pos e,hw0]
   have ewords:aq (h.asked l.2.2.1).book l.2.2.1=[w0]:=by rw [easked];show aq (h.book++[(w0,l.2.2.1)]) _=_;rw [dt,if_pos rfl,e];rfl
   have M6:=LMove.of (W:=W) J ((Chg.of_same s06).trans cj) ⟨rfl,rfl,rfl,rfl,rfl,rfl⟩
   rw [← easked] at M6
   have npz:pz≠W.bk i:=eW hpz ((G.rep.same s04).gb hc)
   exact ⟨_,pz,rfl,M6,by rw [ewords];exact bo npz (s6 _ _ g5),by rw [ewords];simp⟩
  ·rw [if_neg (by simpa using e)]
   walk_at "g"
   have easked:h.asked l.2.2.1=h:=by unfold HS.asked;rw [if_neg e]
   refine ⟨W,pw,rfl,?_,?_,by rw [easked];exact e⟩
   ·rw [easked,dB G.hi]
    exact .of (G.rep.same (s1.trans s2)) (.of_same (s1.trans s2)) (Stays.refl _)
   ·rw [easked];exact s2 _ _ g1
 rintro σ' H' ⟨W',qw,rfl,M,gq,hne⟩
 walk_at "A"
 rename_i py hpy H2 s2 g2
 refine bp (b7 (s2 _ _ gq)) (AH hne) ?_
 walk_at "A"
 rename_i pz hpz H3 s3 g3
 rw [if_neg (by decide:¬ (false=true)),yF]
 walk_at "g"
 generalize hws:aq (h.asked l.2.2.1).book l.2.2.1=ws at *
 refine bp (b7 (s3 _ _ g2)) (v:=.str (if dn ws="no"∨dn ws="off" then "no" else "yes")) (by by_cases z:dn ws="no"∨dn ws="off" <;> simp [z] <;> rfl) ?_
 walk_at "A"
 rename_i p4 hp4 H4 s4 g4 p5 hp5 H5 s5 g5
 have sE:=((s2.trans s3).trans s4).trans s5
 have ME:=M.then_same sE
 have h0:H p5=none:=M.free ((((s2.trans s3).trans s4)).free hp5)
 refine k _ _ _ _ ME ⟨p5,[.ref p4],rfl,g5,fun y=>?_,.cons ?_ .nil⟩ (by rintro _ ⟨⟩;exact h0)
 ·obtain ⟨o,e⟩:=G.rep.at_.trk p5 y
  rw [h0] at e;cases e
 ·have:=fo (S:=R) (.inl (s5 _ _ g4):Rd H5 p4 (.tup [.int l.2.1,.int l.1,.int l.2.2.1,.str (if dn ws="no"∨dn ws="off" then "no" else "yes")]))
  rw [G.to] at this
  rw [hn]
  exact this
theorem SAt.congr{ad:Slot→Option Addr}{co co':Slot→HO}(I:SAt H ad co R)(h:∀ s a,ad s=some a→co' s=co s)(mu:∀ s,ke (some (co' s))):SAt H ad co' R:=
 ⟨fun s a e=>by rw [h s a e];exact I.at_ s a e,I.inj,I.mem,I.trk,mu⟩
section
variable {H:Hp}{W W':LW}{S S':HallS}{c:Nat}{pg:Addr}{R:List Addr}{N N':Nat}
theorem LRep.set(I:LRep H W S c pg R N){s:Slot}{a:Addr}{o:HO}(ha:W.ad c s=some a)(had:W'.ad c=W.ad c)(ho:W'.co S' c pg s=o)(hc:∀ t,t≠s→W'.co S' c pg t=W.co S c pg t)
  (ls:∀ H',Chg R H H'→Reps H' [] W'.ys (S'.ls.map bv))(bs:∀ H',Chg R H H'→∀ i h,S'.hs[i]?=some h→Reps H' [] (W'.xs i) (h.book.map bZ))
  (vn:∀ i n,i<c→bq (W'.kv i) (Sum.inl n:aN)=none→de S' i n=[])(vs:∀ i n v,i<c→bq (W'.kv i) (Sum.inl n:aN)=some v→∃ q,v=.ref q∧W'.ct i n=some q)(kl:∀ i,i<c→(W'.kv i).length≤N') :
  LRep (upd H a o) W' S' c pg R N'∧Chg R H (upd H a o):=by
 obtain ⟨s1,s2⟩:=I.at_.set ha hc (LW.mu W' S' c pg)
 rw [ho] at s1 s2
 exact ⟨⟨had▸s1,ls _ s2,bs _ s2,vn,vs,kl⟩,s2⟩
theorem LRep.send(I:LRep H W S c pg R N){zs:List V}{sent:List aC}{T:List Addr}(rz:Reps H T zs (sent.map bv)) :
  LRep (upd H W.l (.lst (W.ys++zs))) { W with ys:=W.ys++zs } (S.send sent) c pg R N∧Chg R H (upd H W.l (.lst (W.ys++zs))):=
 I.set (W':={ W with ys:=W.ys++zs }) (S':=S.send sent) (s:=.l) rfl rfl rfl (fun t ht=>by cases t <;> first | rfl | exact absurd rfl ht) (fun H' ch=>jT (bA I.ls ch) (cG (bA rz ch))) (fun H' ch i h hi=>bG (I.bs i h hi) ch) I.vn I.vs I.kl
theorem sL{h g:HS}(hi:S.hs[i]?=some h){j:Nat}{x:HS}(hx:(S.put i g).hs[j]?=some x):(j=i∧x=g)∨(j≠i∧S.hs[j]?=some x):=by
 change (S.hs.set i g)[j]?=some x at hx
 by_cases e:j=i
 ·subst e
  rw [lao (lab.mp hi).1] at hx
  exact .inl ⟨rfl,(lan hx).symm⟩
 ·rw [lar (Ne.symm e)] at hx
  exact .inr ⟨e,hx⟩
theorem LRep.keepB(I:LRep H W S c pg R N){i:Nat}{h g:HS}(hi:S.hs[i]?=some h)(hb:g.book=h.book){H':Hp}(ch:Chg R H H')(j:Nat)(x:HS)(hx:(S.put i g).hs[j]?=some x):Reps H' [] (W.xs j) (x.book.map bZ):=by
 rcases sL hi hx with ⟨rfl,rfl⟩ | ⟨_,hx⟩
 ·rw [hb];exact bG (I.bs _ h hi) ch
 ·exact bG (I.bs j x hx) ch
theorem Al{h g:HS}(hi:S.hs[i]?=some h)(hc:g.cnt=h.cnt)(j:Nat)(n:Int):de (S.put i g) j n=de S j n:=by
 rw [nH hi]
 split
 ·rename_i e;subst e;rw [nh hi,hc]
 ·rfl
theorem sY{h g:HS}(hi:S.hs[i]?=some h)(hu:g.up=h.up):(S.put i g).hs.map (fun h=>V.bl h.up)=S.hs.map fun h=>V.bl h.up:=by
 apply List.ext_getElem?
 intro j
 show ((S.hs.set i _).map _)[j]?=_
 rw [lae,lae]
 by_cases e:i=j
 ·subst e;rw [lao (lab.mp hi).1,hi];show some (V.bl g.up)=_;rw [hu];rfl
 ·rw [lar e]
theorem LRep.setUp(I:LRep H W S c pg R N){i:Nat}{h:HS}(hi:S.hs[i]?=some h)(b:Bool) :
  LRep (upd H W.U (.lst ((S.hs.map fun h=>V.bl h.up).set i (.bl b)))) W (S.put i { h with up:=b }) c pg R N∧Chg R H (upd H W.U (.lst ((S.hs.map fun h=>V.bl h.up).set i (.bl b)))):=by
 have hcn:=Al (g:={ h with up:=b }) hi rfl
 refine I.set (s:=.U) rfl rfl ?_ (fun t ht=>?_) (fun H' ch=>bA I.ls ch) (fun H' ch=>I.keepB (g:={ h with up:=b }) hi rfl ch) (fun j n hj hv=>by rw [hcn];exact I.vn j n hj hv) I.vs I.kl
 ·show HO.lst ((S.hs.set i _).map _)=_
  rw [List.map_set]
 ·cases t with
  | U=>exact absurd rfl ht
  | ct j n=>show HO.lst ((de (S.put i { h with up:=b }) j n).map _)=_;rw [hcn];rfl
  | _=>rfl
def LW.clear(W:LW)(i:Nat)(p:Addr):LW:={ W with vt:=fun j=>if j=i then p else W.vt j,ct:=fun j n=>if j=i then none else W.ct j n,kv:=fun j=>if j=i then [] else W.kv j }
theorem LRep.clear(I:LRep H W S c pg R N){i:Nat}{h:HS}(hi:S.hs[i]?=some h)(hc:i<c){p:Addr}(hp:H p=none) :
  LRep (upd (upd H p (.dK [])) W.V (.lst (((List.range c).map fun j=>V.ref (W.vt j)).set i (.ref p)))) (W.clear i p) (S.put i { h with cnt:=fun _=>[] }) c pg (p::R) N∧
   Chg R H (upd (upd H p (.dK [])) W.V (.lst (((List.range c).map fun j=>V.ref (W.vt j)).set i (.ref p)))):=by
 have gV:=I.gV
 have hcn:∀ j n,de (S.put i { h with cnt:=fun _=>[] }) j n=if j=i then [] else de S j n:=fun j n=>nH hi j n
 have hup:=sY (g:={ h with cnt:=fun _=>[] }) hi rfl
 have a1:=I.at_.new (s:=.vt i) (ad':=(W.clear i p).ad c) (co':=fun t=>if t=.vt i then .dK [] else W.co S c pg t) hp
  (by show (if i<c then some (if i=i then p else _) else none)=_;rw [if_pos hc,if_pos rfl])
  (fun t ht=>by
   cases t with
   | vt j=>
    have:¬ j=i:=fun e=>ht (by rw [e])
    left;show (if j<c then some (if j=i then p else _) else none)=_;rw [if_neg this];rfl
   | ct j n=>
    by_cases e:j=i
    ·right;show (if j<c then (if j=i then none else _) else none)=none;rw [if_pos e];split <;> rfl
    ·left;show (if j<c then (if j=i then none else _) else none)=_;rw [if_neg e];rfl
   | _=>exact .inl rfl)
  (fun t ht=>if_neg ht) (fun t=>by split <;> first | exact True.intro | exact LW.mu W S c pg t)
 rw [if_pos rfl] at a1
 have a2:=a1.congr (co':=fun t=>if t=.V then .lst ((List.range c).map fun j=>V.ref (W.vt j)) else (W.clear i p).co (S.put i { h with cnt:=fun _=>[] }) c pg t) (fun t a ha=>by
   cases t with
   | V=>rfl
   | U=>show HO.lst ((S.put i { h with cnt:=fun _=>[] }).hs.map _)=_;rw [hup];rfl
   | vt j=>
    show HO.dK (if j=i then [] else _)=if Slot.vt j=Slot.vt i then _ else _
    by_cases e:j=i
    ·rw [if_pos e,if_pos (by rw [e])]
    ·rw [if_neg e,if_neg (fun z=>e (by cases z;rfl))];rfl
   | ct j n=>
    by_cases e:j=i
    ·exfalso
     change (if j<c then (if j=i then none else _) else none)=some a at ha
     rw [if_pos e] at ha
     split at ha <;> cases ha
    ·show HO.lst ((de (S.put i { h with cnt:=fun _=>[] }) j n).map _)=_;rw [hcn,if_neg e];rfl
   | _=>rfl) (fun t=>by split <;> first | exact True.intro | exact LW.mu _ _ _ _ t)
 obtain ⟨a3,a4⟩:=a2.set (s:=.V) (a:=W.V) (co':=(W.clear i p).co (S.put i { h with cnt:=fun _=>[] }) c pg) rfl (fun t ht=>(if_neg ht).symm) (LW.mu _ _ _ _)
 have eco:(W.clear i p).co (S.put i { h with cnt:=fun _=>[] }) c pg .V=.lst (((List.range c).map fun j=>V.ref (W.vt j)).set i (.ref p)):=by
  show HO.lst ((List.range c).map fun j=>V.ref (if j=i then p else W.vt j))=_
  congr 1
  apply List.ext_getElem?
  intro j
  by_cases e:i=j
  ·subst e
   rw [lao (by simp [hc]),lae,laD hc]
   simp
  ·rw [lar e,lae,lae]
   by_cases hj:j<c
   ·rw [laD hj];simp [Ne.symm e]
   ·rw [List.getElem?_eq_none (by simp;omega)];rfl
 rw [eco] at a3 a4
 have ch:Chg R H (upd (upd H p (.dK [])) W.V (.lst (((List.range c).map fun j=>V.ref (W.vt j)).set i (.ref p)))):=by
  have nV:W.V≠p:=fun e=>by rw [e,hp] at gV;cases gV
  exact (Chg.new hp).trans (.set (by rw [bB nV,gV];exact True.intro) (I.at_.mem .V _ rfl))
 refine ⟨⟨a3,bA I.ls ch,fun j x hx=>I.keepB (g:={ h with cnt:=fun _=>[] }) hi rfl ch j x hx,fun j n hj hv=>?_,fun j n v hj hv=>?_,fun j hj=>?_⟩,ch⟩
 ·rw [hcn]
  split
  ·rfl
  ·rename_i e
   change bq (if j=i then [] else W.kv j) _=none at hv
   rw [if_neg e] at hv
   exact I.vn j n hj hv
 ·change bq (if j=i then [] else W.kv j) _=some v at hv
  split at hv
  ·cases hv
  ·rename_i e
   obtain ⟨q,e1,e2⟩:=I.vs j n v hj hv
   exact ⟨q,e1,by show (if j=i then none else W.ct j n)=_;rw [if_neg e];exact e2⟩
 ·show (if j=i then [] else W.kv j).length≤N
  split
  ·exact laI _
  ·exact I.kl j hj
def LW.newct(W:LW)(i:Nat)(n:Int)(p:Addr):LW:={ W with ct:=fun j m=>if j=i∧m=n then some p else W.ct j m,kv:=fun j=>if j=i then cr (W.kv i) (Sum.inl n:aN) (.ref p) else W.kv j }
theorem LRep.newct(I:LRep H W S c pg R N){i:Nat}(hc:i<c){n:Int}(hn:bq (W.kv i) (Sum.inl n:aN)=none){p:Addr}(hp:H p=none) :
  LRep (upd (upd H p (.lst [])) (W.vt i) (.dK (cr (W.kv i) (Sum.inl n:aN) (.ref p)))) (W.newct i n p) S c pg (p::R) (N+1)∧Chg R H (upd (upd H p (.lst [])) (W.vt i) (.dK (cr (W.kv i) (Sum.inl n:aN) (.ref p)))):=by
 have gv:=I.gv hc
 have a1:=I.at_.new (s:=.ct i n) (ad':=(W.newct i n p).ad c) (co':=W.co S c pg) hp
  (by show (if i<c then (if i=i∧n=n then some p else _) else none)=_;rw [if_pos hc,if_pos ⟨rfl,rfl⟩])
  (fun t ht=>by
   cases t with
   | ct j m=>
    have:¬ (j=i∧m=n):=fun e=>ht (by rw [e.1,e.2])
    left;show (if j<c then (if j=i∧m=n then some p else _) else none)=_;rw [if_neg this];rfl
   | _=>exact .inl rfl)
  (fun t ht=>rfl) (LW.mu W S c pg)
 have e0:W.co S c pg (.ct i n)=.lst []:=by show HO.lst ((de S i n).map _)=_;rw [I.vn i n hc hn];rfl
 rw [e0] at a1
 obtain ⟨a3,a4⟩:=a1.set (s:=.vt i) (a:=W.vt i) (co':=(W.newct i n p).co S c pg) (if_pos hc) (fun t ht=>by
  cases t with
  | vt j=>
   have:¬ j=i:=fun e=>ht (by rw [e])
   show HO.dK (if j=i then _ else _)=_;rw [if_neg this];rfl
  | _=>rfl) (LW.mu _ _ _ _)
 have eco:(W.newct i n p).co S c pg (.vt i)=.dK (cr (W.kv i) (Sum.inl n:aN) (.ref p)):=by show HO.dK (if i=i then _ else _)=_;rw [if_pos rfl]
 rw [eco] at a3 a4
 have ch:Chg R H (upd (upd H p (.lst [])) (W.vt i) (.dK (cr (W.kv i) (Sum.inl n:aN) (.ref p)))):=by
  have nV:W.vt i≠p:=fun e=>by rw [e,hp] at gv;cases gv
  exact (Chg.new hp).trans (.set (by rw [bB nV,gv];exact True.intro) (I.at_.mem (.vt i) _ (if_pos hc)))
 refine ⟨⟨a3,bA I.ls ch,fun j x hx=>bG (I.bs j x hx) ch,fun j m hj hv=>?_,fun j m v hj hv=>?_,fun j hj=>?_⟩,ch⟩
 ·change bq (if j=i then _ else W.kv j) _=none at hv
  split at hv
  ·rename_i e
   subst e
   rw [jr] at hv
   split at hv
   ·cases hv
   ·exact I.vn j m hj hv
  ·exact I.vn j m hj hv
 ·change bq (if j=i then _ else W.kv j) _=some v at hv
  split at hv
  ·rename_i e
   subst e
   rw [jr] at hv
   split at hv
   ·rename_i e2
    refine ⟨p,(lan hv).symm,?_⟩
    show (if j=j∧m=n then some p else _)=_
    rw [if_pos ⟨rfl,by cases e2;rfl⟩]
   ·rename_i e2
    obtain ⟨q,e3,e4⟩:=I.vs j m v hj hv
    refine ⟨q,e3,?_⟩
    show (if j=j∧m=n then some p else _)=_
    rw [if_neg (fun z=>e2 (by rw [z.2]))];exact e4
  ·rename_i e
   obtain ⟨q,e3,e4⟩:=I.vs j m v hj hv
   refine ⟨q,e3,?_⟩
   show (if j=i∧m=n then some p else _)=_
   rw [if_neg (fun z=>e z.1)];exact e4
 ·show (if j=i then _ else W.kv j).length≤N+1
  split
  ·have:=eF (W.kv i) (Sum.inl n:aN) (.ref p)
   have:=I.kl i hc
   omega
  ·have:=I.kl j hj;omega
theorem LRep.addct(I:LRep H W S c pg R N){i:Nat}{h:HS}(hi:S.hs[i]?=some h)(hc:i<c){n:Int}{q:Addr}(hv:bq (W.kv i) (Sum.inl n:aN)=some (.ref q))(g:Int) :
  LRep (upd H q (.lst ((h.cnt n).map V.int++[.int g]))) W (S.put i { h with cnt:=fun m=>if m=n then h.cnt n++[g] else h.cnt m }) c pg R N∧Chg R H (upd H q (.lst ((h.cnt n).map V.int++[.int g]))):=by
 obtain ⟨q',e1,hq⟩:=I.vs i n _ hc hv
 cases e1
 have hcn:∀ j m,de (S.put i { h with cnt:=fun m=>if m=n then h.cnt n++[g] else h.cnt m }) j m=if j=i∧m=n then h.cnt n++[g] else de S j m:=fun j m=>by
  rw [nH hi]
  by_cases e:j=i
  ·subst e
   rw [if_pos rfl,nh hi]
   show (if m=n then _ else _)=_
   by_cases e2:m=n
   ·rw [if_pos e2,if_pos ⟨rfl,e2⟩]
   ·rw [if_neg e2,if_neg fun z=>e2 z.2]
  ·rw [if_neg e,if_neg fun z=>e z.1]
 have hup:=sY (g:={ h with cnt:=fun m=>if m=n then h.cnt n++[g] else h.cnt m }) hi rfl
 refine I.set (s:=.ct i n) (by show (if i<c then _ else _)=_;rw [if_pos hc];exact hq) rfl ?_ (fun t ht=>?_) (fun H' ch=>bA I.ls ch) (fun H' ch=>I.keepB (g:={ h with cnt:=fun m=>if m=n then h.cnt n++[g] else h.cnt m }) hi rfl ch) (fun j m hj hw=>?_) I.vs I.kl
 ·show HO.lst ((de (S.put i { h with cnt:=fun m=>if m=n then h.cnt n++[g] else h.cnt m }) i n).map _)=_
  rw [hcn,if_pos ⟨rfl,rfl⟩,lai];rfl
 ·cases t with
  | U=>show HO.lst ((S.put i { h with cnt:=fun m=>if m=n then h.cnt n++[g] else h.cnt m }).hs.map _)=_;rw [hup];rfl
  | ct j m=>show HO.lst ((de (S.put i { h with cnt:=fun m=>if m=n then h.cnt n++[g] else h.cnt m }) j m).map _)=_;rw [hcn,if_neg (fun z=>ht (by rw [z.1,z.2]))];rfl
  | _=>rfl
 ·rw [hcn,if_neg]
  ·exact I.vn j m hj hw
  ·rintro ⟨rfl,rfl⟩
   rw [hv] at hw;cases hw
end
theorem yz{σ:St}{ty td:TE}(q:ty σ H fun y H1=>td σ H1 fun x H2=>∃ a o,x=.ref a∧DGet H2 a y o∧Q (.bl (!o.isSome)) H2):pS ty td σ H Q:=q
theorem LGot.less{W:LW}{pg:Addr}{N M:Nat}{r:HS×List aC}(k:LGot H W S c pg R N i r Q)(h:M≤N):LGot H W S c pg R M i r Q:=fun v H' W' R' m=>k v H' W' R' (m.more h)
theorem LGot.done{H H1 H2:Hp}{W W1:LW}{pg:Addr}{R R1:List Addr}{r:HS×List aC}{p:Addr}{ys:List V}(k:LGot H W S c pg R N i r Q)(M:LMove H W R H1 W1 (S.put i r.1) c pg R1 N)(s:Same H1 H2)(hp:H1 p=none)(g:H2 p=some (.lst ys))(rs:Reps H2 [] ys (r.2.map bv)):Q (.ref p) H2:=
 k _ _ _ _ (M.then_same s) ⟨p,ys,rfl,g,eG M.at_.at_.trk hp,cG rs⟩ (by rintro _ ⟨⟩;exact M.free hp)
instance undW_dec(ws:List Str):Decidable (eR ws):=inferInstanceAs (Decidable (_∨_∨_))
theorem uP{ws:List Str}(h:ws∈[[("open":Str)],["yes"],[]]):eR ws:=by
 simp only [List.mem_cons,List.not_mem_nil,or_false] at h
 rcases h with h | h | h
 ·exact .inr (.inr h)
 ·exact .inr (.inl h)
 ·exact .inl h
theorem BH{ws:List Str}:ws∈[[("open":Str)],["yes"],[]]↔eR ws:=⟨uP,fun h=>by
 rcases h with h | h | h <;> rw [h] <;> simp⟩
theorem Ab{ws:List Str}:ws∈[[],[("yes":Str)],["open"]]↔eR ws:=by
 simp only [List.mem_cons,List.not_mem_nil,or_false];rfl
theorem yh{g n:Int}(hg:¬ g∈h.cnt n):h.count g n={ h with cnt:=fun m=>if m=n then h.cnt n++[g] else h.cnt m }:=by
 unfold HS.count cZ;rw [if_neg hg]
theorem yJ{g n:Int}(hg:g∈h.cnt n):h.count g n=h:=by
 unfold HS.count cZ;rw [if_pos hg]
 have:(fun m=>if m=n then h.cnt n else h.cnt m)=h.cnt:=by
  funext m;split
  ·rename_i e;rw [e]
  ·rfl
 rw [this]
theorem n6{m:Int}(h0:0≤m)(h1:m<c):(bP m c).length+1=c:=by
 obtain ⟨i,rfl⟩:∃ i:Nat,m=i:=⟨m.toNat,by omega⟩
 have h2:=n_ (i:=i) (c:=c) (by omega)
 have h3:=gM ((List.range c).map fun (k:Nat)=>(k:Int)) ((i:Int)::bP (i:Int) c) (List.Pairwise.map _ (fun a b h z=>h (by omega)) List.nodup_range) fun x hx=>by
  obtain ⟨k,hk,rfl⟩:=laA.mp hx
  by_cases e:k=i
  ·rw [e];exact List.mem_cons_self
  ·exact lac _ (ny (laB.mp hk) e)
 rw [laa,laq,laj] at h3
 omega
theorem zy(I:Inv c ag Bs S){i:Nat}{l:aC}(hl:l∈S.ls)(ht:l.2.1=(i:Int))(a:l.2.2.2="yes"):i=ld c l.2.2.1:=by
 rcases I.li l hl with ⟨b,_⟩ | ⟨_,b1,_⟩ | ⟨b,_⟩ | ⟨b,_⟩ | ⟨b,_⟩ | ⟨b,_⟩
 ·rw [a] at b;exact absurd b (by decide)
 ·rw [ht] at b1;omega
 all_goals (rw [a] at b;exact absurd b (by decide))
theorem x9(I:Inv c ag Bs S){i:Nat}{h:HS}(hi:S.hs[i]?=some h){n:Int}(e:i=ld c n):(h.cnt n).length≤20:=by
 obtain ⟨h1,h2⟩:=I.cn i h n hi e
 have:=gM _ ((List.range c).map fun (k:Nat)=>(k:Int)) h1 fun x hx=>by
  obtain ⟨j,rfl,hj,_⟩:=h2 x hx
  exact laA.mpr ⟨j,laB.mpr hj,rfl⟩
 rw [laa,laq] at this
 exact las this I.ok.c2
def im:Sp:=fun vs H Q _=>∃ (W:LW) (S:HallS) (c:Nat) (pg:Addr) (R:List Addr) (N:Nat) (ag:List (Int×Int)) (Bs:Int→Prop) (i:Nat) (h:HS) (t:Addr) (l:aC),vs=[.ref (W.bk i),.ref (W.vt i),.ref t,.int (c:Int)]∧GIn H W S c pg R N ag Bs i h t l∧N≤900000∧l.2.2.2="yes"∧eR (aq h.book l.2.2.1)∧LGot H W S c pg R (N+1) i (h.got l) Q
theorem EE(h:im vs H Q E):xL K bR { nx:=fun _ H'=>Q .non H',rt:=Q } (start ["_law_book","_law_votes","_law_letter","_law_count","_law_giver","_law_mine","_law_bargain","_law_word"] vs) H:=by
 obtain ⟨W,S,c,pg,R,N,ag,Bs,i,h,t,l,rfl,G,hN,hyes,hund,k⟩:=h
 have hc:i<c:=G.inv.ok.il G.hi
 have hc2:=G.inv.ok.c2
 obtain ⟨hn,ho⟩:=G.inv.ok.num i h G.hi
 have hlead:=zy G.inv G.hl G.to hyes
 have hcs:=x9 G.inv G.hi hlead
 have hol:h.oth.length+1=c:=by rw [ho];exact n6 (by omega) (by omega)
 have hxl:(W.xs i).length=h.book.length:=by rw [(G.rep.bs i h G.hi).length,laa]
 have hgot:h.got l=if (cZ l.1 (h.cnt l.2.2.1)).length<h.oth.length then (h.count l.1 l.2.2.1,[]) else (h.count l.1 l.2.2.1).decide l.2.2.1 "bound":=by
  rcases vB G.inv G.hi hyes with z | z
  ·exact z.2
  ·exact absurd hund z.1
 rw [hgot] at k
 unfold xL
 walk_at "g"
 refine qe G.rt ?_
 generalize hnn:l.2.2.1=n at *
 generalize hgg:l.1=g at *
 refine dI (fun σ' H'=>∃ W' R' q,σ'=[some (.ref (W.bk i)),some (.ref (W.vt i)),some (.ref t),some (.int (c:Int)),some (.int g),some (.int l.2.1),some (.int n),some (.str l.2.2.2)]∧LMove H W R H' W' S c pg R' (N+1)∧W'.vt i=W.vt i∧W'.xs=W.xs∧bq (W'.kv i) (Sum.inl n:aN)=some (.ref q)) ?_ ?_
 ·walk_at "g"
  refine yz ?_
  walk_at "g"
  refine ⟨W.vt i,_,rfl,DGet.k (k:=Sum.inl n) (G.rep.gv hc),?_⟩
  walk_at "g"
  cases hv:bq (W.kv i) (Sum.inl n:aN) with
  | none=>
   rw [if_pos (by rfl)]
   walk_at "g"
   intro p hp
   walk_at "g"
   have gv1:upd H p (.lst []) (W.vt i)=some (.dK (W.kv i)):=bo (bF (G.rep.gv hc) hp) (G.rep.gv hc)
   have hkl:=G.rep.kl i hc
   refine uH gv1 (bg (by omega)) ?_
   obtain ⟨J,cj⟩:=G.rep.newct hc hv hp
   refine ⟨_,_,p,rfl,⟨J,cj,fun a ha=>(List.mem_cons.mp ha).elim (fun z=>.inr (z▸hp)) .inl,fun a ha=>lac _ ha,⟨rfl,rfl,rfl,rfl,rfl,rfl⟩⟩,rfl,rfl,?_⟩
   show bq (if i=i then _ else _) _=_
   rw [if_pos rfl,jr,if_pos rfl]
  | some v=>
   rw [if_neg (by simp)]
   walk_at "g"
   obtain ⟨q,rfl,_⟩:=G.rep.vs i n v hc hv
   exact ⟨W,R,q,rfl,.of (G.rep.more (by omega)) (Chg.refl _ _) (Stays.refl _),rfl,rfl,hv⟩
 rintro σ' H1 ⟨W1,R1,q,rfl,M1,hvt1,hxs1,hv1⟩
 have I1:=M1.at_
 obtain ⟨q',eq',hq⟩:=I1.vs i n _ hc hv1
 cases eq'
 have gq:=I1.gc hc hq
 rw [nh G.hi] at gq
 have gv1:=I1.gv hc
 rw [hvt1] at gv1
 refine dI (fun σ' H'=>∃ W' R',σ'=[some (.ref (W.bk i)),some (.ref (W.vt i)),some (.ref t),some (.int (c:Int)),some (.int g),some (.int l.2.1),some (.int n),some (.str l.2.2.2)]∧LMove H W R H' W' (S.put i (h.count g n)) c pg R' (N+1)∧W'.vt i=W.vt i∧W'.xs=W.xs∧bq (W'.kv i) (Sum.inl n:aN)=some (.ref q)) ?_ ?_
 ·walk_at "g"
  refine oN gv1 hv1 ?_
  walk_at "g"
  rw [pO,if_pos rfl]
  by_cases hg:g∈h.cnt n
  ·rw [if_neg (by simp [hg])]
   walk_at "g"
   rw [yJ hg,dB G.hi]
   exact ⟨W1,R1,rfl,M1,hvt1,hxs1,hv1⟩
  ·rw [if_pos (by simp [hg])]
   walk_at "g"
   refine oN gv1 hv1 ?_
   refine ⟨.inl ⟨rfl,_,b7 gq⟩,?_⟩
   walk_at "g"
   refine dc gq (bg (by rw [laa];omega)) ?_
   obtain ⟨J,cj⟩:=I1.addct G.hi hc hv1 g
   rw [yh hg]
   exact ⟨W1,R1,rfl,M1.trans (.of J cj (Stays.refl _)),hvt1,hxs1,hv1⟩
 rintro σ' H2 ⟨W2,R2,rfl,M2,hvt2,hxs2,hv2⟩
 have I2:=M2.at_
 have hi2:(S.put i (h.count g n)).hs[i]?=some (h.count g n):=cS G.hi
 obtain ⟨q',eq',hq2⟩:=I2.vs i n _ hc hv2
 cases eq'
 have gq2:=I2.gc hc hq2
 have ecnt:(h.count g n).cnt n=cZ g (h.cnt n):=by unfold HS.count;simp
 rw [nh hi2,ecnt] at gq2
 have gv2:=I2.gv hc
 rw [hvt2] at gv2
 walk_at "g"
 refine oN gv2 hv2 ?_
 walk_at "g"
 rw [laa]
 by_cases hlt:(cZ g (h.cnt n)).length<h.oth.length
 ·rw [if_pos hlt] at k
  rw [if_pos (decide_eq_true (by omega))]
  walk_at "A"
  rename_i p hp H3 s3 g3
  exact LGot.done (r:=(h.count g n,[])) k M2 s3 hp g3 .nil
 ·rw [if_neg hlt] at k
  rw [if_neg (by simp;omega)]
  walk_at "g"
  have gb2:=I2.gb hc
  rw [M2.st.bk] at gb2
  refine ⟨.inl ⟨rfl,_,b7 gb2⟩,?_⟩
  walk_at "A"
  rename_i pt hpt H3 s3 g3
  have I3:=I2.same s3
  have gb3:=s3 _ _ gb2
  refine dc gb3 (bg (by rw [hxs2,hxl];have:=G.bl;omega)) ?_
  obtain ⟨J,cj⟩:=I3.write hi2 hc (t:=pt) (w:="bound") (n:=n) (.inl g3)
  rw [d_] at J
  have M4:=(M2.then_same s3).trans (.of (W':={ W2 with xs:=fun j=>if j=i then W2.xs i++[.ref pt] else W2.xs j }) J cj ⟨rfl,rfl,rfl,rfl,rfl,rfl⟩)
  rw [M2.st.bk] at M4
  generalize upd H3 (W.bk i) _=H4 at *
  walk_at "g"
  refine ⟨l.2.1,c,n,"bound",rfl,by omega,fun p ys H5 s5 hp g5 rs=>?_⟩
  refine LGot.done (r:=(h.count g n).decide n "bound") k M4 s5 hp g5 ?_
  show Reps H5 [] ys (((h.count g n).toOthers n "bound").map bv)
  rw [eL (h:=h.count g n) (i:=i) (c:=c) hn ho,← G.to]
  exact rs
theorem GIn.same{H H':Hp}{W:LW}{pg:Addr}{t:Addr}(G:GIn H W S c pg R N ag Bs i h t l)(s:Same H H'):GIn H' W S c pg R N ag Bs i h t l:=
 { G with rep:=G.rep.same s,ra:=G.ra.same s,rt:=G.rt.same s }
theorem LGot.same{H H1:Hp}{W:LW}{pg:Addr}{N M:Nat}{r:HS×List aC}(k:LGot H W S c pg R N i r Q)(I:LRep H W S c pg R M)(s:Same H H1):LGot H1 W S c pg R N i r Q:=
 fun v H' W' R' m ll f=>k v H' W' R' (LMove.trans (LMove.of (I.same s) (.of_same s) (Stays.refl _)) m) ll (f.back s)
theorem LMove.write{H H1:Hp}{W W1:LW}{R R1:List Addr}{S1:HallS}{pg:Addr}(M:LMove H W R H1 W1 S1 c pg R1 N){i:Nat}{h1:HS}(hi:S1.hs[i]?=some h1)(hc:i<c){t:Addr}{w:Str}{n:Int}(g:Rd H1 t (.tup [.str w,.int n])) :
  ∃ W2,LMove H W R (upd H1 (W.bk i) (.lst (W1.xs i++[.ref t]))) W2 (S1.put i (h1.wr w n)) c pg R1 N:=by
 obtain ⟨J,cj⟩:=M.at_.write hi hc g
 have M4:=M.trans (.of (W':={ W1 with xs:=fun j=>if j=i then W1.xs i++[.ref t] else W1.xs j }) J cj ⟨rfl,rfl,rfl,rfl,rfl,rfl⟩)
 rw [M.st.bk] at M4
 exact ⟨_,M4⟩
theorem ni{w:Str}(h:w∈([("ask":Str),"yes","no","bound","off","query","open"]:List Str)):kc [w]:=fun x hx=>by
 rw [lag.mp hx];exact jm h
def gY:Sp:=fun vs H Q _=>∃ (W:LW) (S:HallS) (c:Nat) (pg:Addr) (R:List Addr) (N:Nat) (ag:List (Int×Int)) (Bs:Int→Prop) (i:Nat) (h:HS) (t:Addr) (l:aC),vs=[.ref (W.bk i),.ref (W.vt i),.ref pg,.ref t,.int (c:Int)]∧GIn H W S c pg R N ag Bs i h t l∧N≤900000∧LGot H W S c pg R (N+1) i (h.got l) Q
theorem Fx(h:gY vs H Q E):wM K bV hR im bR { nx:=fun _ H'=>Q .non H',rt:=Q } (start ["_law_book","_law_votes","_law_against","_law_letter","_law_count","_law_giver","_law_mine","_law_bargain","_law_word","_law_words"] vs) H:=by
 obtain ⟨W,S,c,pg,R,N,ag,Bs,i,h,t,l,rfl,G,hN,k⟩:=h
 have hc:i<c:=G.inv.ok.il G.hi
 have hc2:=G.inv.ok.c2
 obtain ⟨hn,ho⟩:=G.inv.ok.num i h G.hi
 have hxl:(W.xs i).length=h.book.length:=by rw [(G.rep.bs i h G.hi).length,laa]
 have hbl:=G.bl
 have rb:Rep H [] (.ref (W.bk i)) (cy h.book):=.lst (.inl (G.rep.gb hc)) (by simp) (G.rep.bs i h G.hi)
 obtain ⟨s0,hs0,hf⟩:=eM G.inv G.hi l.2.2.1
 have okw:=jn hs0 hf
 have lok:=(G.inv.ok.let_ l G.hl).w
 unfold wM
 walk_at "g"
 refine qe G.rt ?_
 walk_at "g"
 refine ⟨W.bk i,h.book,l.2.2.1,rfl,rb,las G.bl (by decide),fun pw H1 hpw s1 g1=>?_⟩
 have G1:=G.same s1
 have k1:=k.same G.rep s1
 have M0:LMove H1 W R H1 W S c pg R (N+1):=.of (G1.rep.more (by omega)) (Chg.refl _ _) (Stays.refl _)
 have okn:kc []:=fun w hw=>(nomatch hw)
 walk_at "g"
 by_cases ea:l.2.2.2="ask"
 ·rw [if_pos (by simp [ea])]
  walk_at "g"
  exact ⟨W,S,c,pg,R,N,ag,Bs,i,h,t,l,rfl,G1,ea,k1.less (by omega)⟩
 rw [if_neg (by simp [ea])]
 walk_at "g"
 have boff:l.2.2.2="bound"∨l.2.2.2="off"→e8 (aV (aT (av (nc false) (ae 9) (bz (af (bz al) (af (bz (af (tC (.str "yes")) al)) (af (bz (af (tC (.str "open")) al)) al))))))
  (bX (e_ K "list" da (ae 0) (af (cJ (af (ae 8) (af (ae 7) al))) al)))
  aL)
  (aD (bz al)) { nx:=fun _ H'=>Q .non H',rt:=Q }
   [some (.ref (W.bk i)),some (.ref (W.vt i)),some (.ref pg),some (.ref t),some (.int (c:Int)),some (.int l.1),some (.int l.2.1),some (.int l.2.2.1),some (.str l.2.2.2),some (.ref pw)] H1:=fun hb=>by
  refine dI (fun σ' H'=>∃ W',LMove H1 W R H' W' (S.put i (h.got l).1) c pg R (N+1)∧(h.got l).2=[]) ?_ ?_
  ·walk_at "A"
   rename_i p1 hp1 H2 s2 g2 p2 hp2 H3 s3 g3 p3 hp3 H4 s4 g4 p4 hp4 H5 s5 g5
   have s15:=((s2.trans s3).trans s4).trans s5
   refine vw (ws:=aq h.book l.2.2.1) (wss:=[[],["yes"],["open"]]) (.inl (s15 _ _ g1))
    (.lst (.inl g5) (by simp) (.cons (.lst (.inl ((s3.trans s4).trans s5 _ _ g2)) (by simp) .nil) (.cons (.lst (.inl (s4.trans s5 _ _ g3)) (by simp) (.cons (.str _) .nil)) (.cons (.lst (.inl (s5 _ _ g4)) (by simp) (.cons (.str _) .nil)) .nil))))
    okw (fun x hx=>by
     simp only [List.mem_cons,List.not_mem_nil,or_false] at hx
     rcases hx with rfl | rfl | rfl
     ·exact okn
     ·exact ni (by simp)
     ·exact ni (by simp)) ?_
   rw [if_neg (by decide),decide_eq_decide.mpr Ab]
   walk_at "g"
   rcases DO G.inv G.hi hb with ⟨u,e⟩ | ⟨u,e⟩
   ·rw [if_pos (decide_eq_true u)]
    walk_at "g"
    have gb5:=s15 _ _ (G1.rep.gb hc)
    refine ⟨.inl ⟨rfl,_,b7 gb5⟩,?_⟩
    walk_at "A"
    rename_i pt hpt H6 s6 g6
    refine dc (s6 _ _ gb5) (bg (by omega)) ?_
    obtain ⟨W2,M2⟩:=(M0.then_same (s15.trans s6)).write G.hi hc (.inl g6)
    rw [e]
    exact ⟨W2,M2,rfl⟩
   ·rw [if_neg (by simp [u])]
    walk_at "g"
    rw [e]
    refine ⟨W,?_,rfl⟩
    rw [dB G.hi]
    exact M0.then_same s15
  ·rintro σ' H' ⟨W',M,e⟩
   walk_at "A"
   rename_i p hp H2 s2 g2
   exact k1.done M s2 hp g2 (by rw [e];exact .nil)
 by_cases eb:l.2.2.2="bound"
 ·rw [if_pos (by simp [eb]),if_pos (by rfl)]
  exact boff (.inl eb)
 rw [if_neg (by simp [eb])]
 walk_at "g"
 by_cases eo:l.2.2.2="off"
 ·rw [if_pos (by simp [eo])]
  exact boff (.inr eo)
 rw [if_neg (by simp [eo])]
 clear boff
 walk_at "A"
 rename_i p1 hp1 H2 s2 g2 p2 hp2 H3 s3 g3 p3 hp3 H4 s4 g4 p4 hp4 H5 s5 g5
 have s15:=((s2.trans s3).trans s4).trans s5
 refine vw (ws:=aq h.book l.2.2.1) (wss:=[["open"],["yes"],[]]) (.inl (s15 _ _ g1))
  (.lst (.inl g5) (by simp) (.cons (.lst (.inl ((s3.trans s4).trans s5 _ _ g2)) (by simp) (.cons (.str _) .nil)) (.cons (.lst (.inl (s4.trans s5 _ _ g3)) (by simp) (.cons (.str _) .nil)) (.cons (.lst (.inl (s5 _ _ g4)) (by simp) .nil) .nil))))
  okw (fun x hx=>by
   simp only [List.mem_cons,List.not_mem_nil,or_false] at hx
   rcases hx with rfl | rfl | rfl
   ·exact ni (by simp)
   ·exact ni (by simp)
   ·exact okn) ?_
 rw [if_neg (by decide),decide_eq_decide.mpr BH]
 walk_at "g"
 have G5:=G1.same s15
 have k5:=k1.same G1.rep s15
 have g15:=s15 _ _ g1
 have M5:LMove H5 W R H5 W S c pg R (N+1):=.of (G5.rep.more (by omega)) (Chg.refl _ _) (Stays.refl _)
 have gb5:=G5.rep.gb hc
 have rest:l.2.2.2="yes"∨l.2.2.2="no"∨l.2.2.2="query":=by
  simp only [List.mem_cons,List.not_mem_nil,or_false] at lok
  rcases lok with z | z | z | z | z | z
  ·exact absurd z ea
  ·exact .inl z
  ·exact .inr (.inl z)
  ·exact absurd z eb
  ·exact absurd z eo
  ·exact .inr (.inr z)
 by_cases u:eR (aq h.book l.2.2.1)
 ·rw [if_pos (decide_eq_true u)]
  walk_at "g"
  by_cases ey:l.2.2.2="yes"
  ·rw [if_pos (by simp [ey])]
   walk_at "g"
   exact ⟨W,S,c,pg,R,N,ag,Bs,i,h,t,l,rfl,G5,hN,ey,u,k5⟩
  rw [if_neg (by simp [ey])]
  have nq:l.2.2.2="no"∨l.2.2.2="query":=rest.resolve_left ey
  walk_at "A"
  rename_i pn hpn H6 s6 g6
  refine mN (xs:=aq h.book l.2.2.1) (ys:=["open"]) (.inl (s6 _ _ g15)) (.inl g6) okw (ni (by simp)) ?_
  walk_at "g"
  by_cases e1:aq h.book l.2.2.1=[("open":Str)]
  ·rw [if_pos (decide_eq_true e1)]
   have hg:h.got l=h.decide l.2.2.1 "off":=by
    rcases nq with z | z
    ·rcases pC G.inv G.hi G.hl G.to z with y | y
     ·exact y.2
     ·exact absurd u y.1
    ·rcases q5 G.inv G.hi z with y | y | y | y
     ·exact y.2
     ·rw [e1] at y;exact absurd y.1 (by decide)
     ·rw [e1] at y;exact absurd y.1 (by decide)
     ·exact absurd u y.1
   rw [hg] at k5
   walk_at "g"
   have gb6:=s6 _ _ gb5
   refine ⟨.inl ⟨rfl,_,b7 gb6⟩,?_⟩
   walk_at "A"
   rename_i pt hpt H7 s7 g7
   refine dc (s7 _ _ gb6) (bg (by omega)) ?_
   obtain ⟨W2,M2⟩:=(M5.then_same (s6.trans s7)).write G.hi hc (.inl g7)
   generalize upd H7 (W.bk i) _=H8 at *
   walk_at "g"
   refine ⟨l.2.1,c,l.2.2.1,"off",rfl,by omega,fun p ys H9 s9 hp g9 rs=>?_⟩
   refine LGot.done (r:=h.decide l.2.2.1 "off") k5 M2 s9 hp g9 ?_
   show Reps H9 [] ys ((h.toOthers l.2.2.1 "off").map bv)
   rw [eL (i:=i) (c:=c) hn ho,← G.to]
   exact rs
  rw [if_neg (by simp [e1])]
  walk_at "A"
  rename_i pm hpm H7 s7 g7
  have s67:=s6.trans s7
  refine mN (xs:=aq h.book l.2.2.1) (ys:=["yes"]) (.inl (s67 _ _ g15)) (.inl g7) okw (ni (by simp)) ?_
  walk_at "g"
  by_cases e2:aq h.book l.2.2.1=[("yes":Str)]
  ·rw [if_pos (decide_eq_true e2)]
   have hg:h.got l=(h,[]):=by
    rcases nq with z | z
    ·rcases pC G.inv G.hi G.hl G.to z with y | y
     ·exact absurd y.1 e1
     ·exact absurd u y.1
    ·rcases q5 G.inv G.hi z with y | y | y | y
     ·exact absurd y.1 e1
     ·exact y.2
     ·rw [e2] at y;exact absurd y.1 (by decide)
     ·exact absurd u y.1
   rw [hg] at k5
   walk_at "A"
   rename_i p hp H8 s8 g8
   exact LGot.done (r:=(h,[])) k5 (by rw [dB G.hi];exact M5.then_same s67) s8 hp g8 .nil
  rw [if_neg (by simp [e2])]
  have e3:aq h.book l.2.2.1=[]:=by
   rcases u with z | z | z
   ·exact z
   ·exact absurd z e2
   ·exact absurd z e1
  have hg:h.got l=(h.wr "no" l.2.2.1,[(h.num,l.1,l.2.2.1,("off":Str))]):=by
   rcases nq with z | z
   ·rcases pC G.inv G.hi G.hl G.to z with y | y
    ·exact absurd y.1 e1
    ·exact absurd u y.1
   ·rcases q5 G.inv G.hi z with y | y | y | y
    ·exact absurd y.1 e1
    ·exact absurd y.1 e2
    ·exact y.2
    ·exact absurd u y.1
  rw [hg] at k5
  walk_at "g"
  have gb7:=s67 _ _ gb5
  refine ⟨.inl ⟨rfl,_,b7 gb7⟩,?_⟩
  walk_at "A"
  rename_i pt hpt H8 s8 g8
  refine dc (s8 _ _ gb7) (bg (by omega)) ?_
  obtain ⟨W2,M2⟩:=(M5.then_same (s67.trans s8)).write G.hi hc (.inl g8)
  generalize upd H8 (W.bk i) _=H9 at *
  walk_at "A"
  rename_i pa hpa A1 t1 k1' pb hpb A2 t2 k2'
  refine LGot.done (r:=(h.wr "no" l.2.2.1,[(h.num,l.1,l.2.2.1,("off":Str))])) k5 M2 (t1.trans t2) (t1.free hpb) k2' (.cons ?_ .nil)
  have:=fo (S:=[]) (.inl (t2 _ _ k1'):Rd A2 pa (.tup [.int l.2.1,.int l.1,.int l.2.2.1,.str "off"]))
  rw [G.to] at this
  rw [hn]
  exact this
 ·rw [if_neg (by simp [u])]
  walk_at "g"
  by_cases en:l.2.2.2="no"
  ·rw [if_pos (by simp [en])]
   have hg:h.got l=(h,[]):=by
    rcases pC G.inv G.hi G.hl G.to en with y | y
    ·exact absurd (.inr (.inr y.1)) u
    ·exact y.2
   rw [hg] at k5
   walk_at "A"
   rename_i p hp H8 s8 g8
   exact LGot.done (r:=(h,[])) k5 (by rw [dB G.hi];exact M5) s8 hp g8 .nil
  rw [if_neg (by simp [en])]
  have hg:h.got l=(h,[(h.num,l.1,l.2.2.1,if dn (aq h.book l.2.2.1)="bound" then ("bound":Str) else "off")]):=by
   rcases rest with z | z | z
   ·rcases vB G.inv G.hi z with y | y
    ·exact absurd y.1 u
    ·exact y.2
   ·exact absurd z en
   ·rcases q5 G.inv G.hi z with y | y | y | y
    ·exact absurd (.inr (.inr y.1)) u
    ·exact absurd (.inr (.inl y.1)) u
    ·exact absurd (.inl y.1) u
    ·exact y.2
  rw [hg] at k5
  have hne:aq h.book l.2.2.1≠[]:=fun z=>u (.inl z)
  walk_at "A"
  rename_i py hpy H6 s6 g6
  refine bp (b7 (s6 _ _ g15)) (AH hne) ?_
  walk_at "g"
  generalize dn (aq h.book l.2.2.1)=lw at *
  refine bp (b7 g6) (v:=.str (if lw="bound" then "bound" else "off")) (by by_cases z:lw="bound" <;> simp [z] <;> rfl) ?_
  walk_at "A"
  rename_i pa hpa A1 t1 k1' pb hpb A2 t2 k2'
  refine LGot.done (r:=(h,[(h.num,l.1,l.2.2.1,if lw="bound" then ("bound":Str) else "off")])) k5 (by rw [dB G.hi];exact M5) ((s6.trans t1).trans t2) (s6.free (t1.free hpb)) k2' (.cons ?_ .nil)
  have:=fo (S:=[]) (.inl (t2 _ _ k1'):Rd A2 pa (.tup [.int l.2.1,.int l.1,.int l.2.2.1,.str (if lw="bound" then "bound" else "off")]))
  rw [G.to] at this
  rw [hn]
  exact this
def LRet(H:Hp)(W:LW)(c:Nat)(pg:Addr)(R:List Addr)(N:Nat)(r:HallS×Ans)(Q:VK):Prop:=∀ v H' W' R',LMove H W R H' W' r.1 c pg R' N→Rep H' R' v r.2.D→Fresh H v→Q v H'
theorem LRet.after{H H1:Hp}{W W1:LW}{pg:Addr}{R R1:List Addr}{N N1:Nat}{S1:HallS}{r:HallS×Ans}(k:LRet H W c pg R N r Q)(M:LMove H W R H1 W1 S1 c pg R1 N1):LRet H1 W1 c pg R1 N r Q:=
 fun v H' W' R' m rp f=>k v H' W' R' (M.trans m) rp fun l e=>M.free (f l e)
theorem LRet.less{W:LW}{pg:Addr}{N M:Nat}{r:HallS×Ans}(k:LRet H W c pg R N r Q)(h:M≤N):LRet H W c pg R M r Q:=fun v H' W' R' m=>k v H' W' R' (m.more h)
theorem j9{σ:St}{v:V}{to ti:TE}{t:xB}{Q:St→Hp→Prop}(q:to σ H fun o H1=>ti σ H1 fun i H2=>t o i v H2 fun H3=>Q σ H3):on to ti t v σ H Q:=q
theorem BA{n i:Nat}(h:i<n):mU n (i:Int)=some i:=by
 unfold mU;rw [if_pos (by omega),if_pos (by omega)];simp
theorem kf{p:Addr}{v:V}{Q:Hp→Prop}(g:H p=some (.lst xs))(h:i<xs.length)(q:Q (upd H p (.lst (xs.set i v)))):ms (.ref p) (.int (i:Int)) v H Q:=⟨p,xs,_,i,rfl,rfl,g,BA h,q⟩
theorem nQ(hi:S.hs[i]?=some h):gD (S.hs.map fun h=>V.bl h.up) (i:Int)=some (.bl h.up):=cf (by rw [lae,hi];rfl)
def cK:Sp:=fun vs H Q _=>∃ (W:LW) (S:HallS) (c:Nat) (pg:Addr) (R:List Addr) (N i:Nat) (h:HS) (a:Addr) (sent:List aC) (st:Bool) (ah:Nat),vs=[.ref W.d,.int (i:Int),.int (ah:Int),.ref a,.bl st]∧LRep H W S c pg R N∧S.hs[i]?=some h∧i<c∧LL H R (.ref a) sent∧S.ls.length+sent.length≤900000∧ah≤h.book.length∧
 LRet H W c pg R N (if st=true then S.send sent else S.put i h.stop,.lines (h.book.drop ah)) Q
theorem Ht(h:cK vs H Q E):xS K { nx:=fun _ H'=>Q .non H',rt:=Q } (start ["_law_hall","_law_who","_law_ahead","_law_sent","_law_stays"] vs) H:=by
 obtain ⟨W,S,c,pg,R,N,i,h,a,sent,st,ah,rfl,I,hi,hc,⟨a',zs,ea,ga,na,rz⟩,hl,hah,k⟩:=h
 cases ea
 have il:i<S.hs.length:=(lab.mp hi).1
 have hyl:W.ys.length=S.ls.length:=by rw [I.ls.length,laa]
 have hzl:zs.length=sent.length:=by rw [rz.length,laa]
 unfold xS
 refine dI (fun σ' H'=>∃ W' R' h',σ'=[some (.ref W.d),some (.int (i:Int)),some (.int (ah:Int)),some (.ref a),some (.bl st)]∧LMove H W R H' W' (if st=true then S.send sent else S.put i h.stop) c pg R' N∧(if st=true then S.send sent else S.put i h.stop).hs[i]?=some h'∧h'.book=h.book) ?_ ?_
 ·walk_at "g"
  cases st with
  | true=>
   rw [if_pos rfl]
   walk_at "g"
   refine bu I.gd oA ?_
   refine ⟨.inl ⟨rfl,_,b7 I.gl⟩,?_⟩
   walk_at "g"
   refine eP I.gl ga (by rw [sizeLine_eq];omega) ?_
   obtain ⟨J,cj⟩:=I.send rz
   exact ⟨_,R,h,rfl,.of J cj ⟨rfl,rfl,rfl,rfl,rfl,rfl⟩,hi,rfl⟩
  | false=>
   rw [if_neg (by decide)]
   walk_at "g"
   refine j9 ?_
   walk_at "g"
   refine bu I.gd kF ?_
   walk_at "g"
   refine kf I.gU (by rw [laa];exact il) ?_
   obtain ⟨J,cj⟩:=I.setUp hi false
   generalize upd H W.U _=H1 at *
   walk_at "g"
   intro p hp
   have hi1:(S.put i { h with up:=false }).hs[i]?=some { h with up:=false }:=cS hi
   obtain ⟨J2,cj2⟩:=J.clear hi1 hc hp
   rw [d_] at J2
   have gd1:upd H1 p (.dK []) W.d=_:=(Same.new hp) _ _ J.gd
   have gV1:upd H1 p (.dK []) W.V=_:=(Same.new hp) _ _ J.gV
   refine j9 ?_
   walk_at "g"
   refine bu gd1 zt ?_
   walk_at "g"
   refine kf gV1 (by rw [laa,laq];exact hc) ?_
   have M1:LMove H W R H1 W _ c pg R N:=.of J cj (Stays.refl _)
   have M2:LMove H1 W R _ (W.clear i p) (S.put i h.stop) c pg (p::R) N:=⟨J2,cj2,fun x hx=>(List.mem_cons.mp hx).elim (fun z=>.inr (z▸hp)) .inl,fun x hx=>lac _ hx,⟨rfl,rfl,rfl,rfl,rfl,rfl⟩⟩
   exact ⟨_,_,h.stop,rfl,M1.trans M2,cS hi,rfl⟩
 ·rintro σ' H' ⟨W',R',h',rfl,M,hi',hb⟩
  have J:=M.at_
  have gd:=J.gd
  have gB:=J.gB
  have gb:=J.gb hc
  rw [M.st.d] at gd
  have hxl:(W'.xs i).length=h.book.length:=by rw [(J.bs i h' hi').length,laa,hb]
  walk_at "g"
  refine bu gd pR ?_
  walk_at "g"
  refine bp (b7 gB) (j2 hc) ?_
  walk_at "A"
  rename_i p hp H2 s2 g2
  rw [mD (by omega)] at g2
  refine k _ _ _ _ (M.then_same s2) (.lst (.inl g2) (eG J.at_.trk hp) ?_) (by rintro _ ⟨⟩;exact M.free hp)
  have:=((J.bs i h' hi').same s2).drop ah
  rw [← List.map_drop,hb] at this
  exact ff this
structure LIn(H:Hp)(W:LW)(S:HallS)(c:Nat)(pg:Addr)(R:List Addr)(N:Nat)(ag:List (Int×Int))(bs:List Int):Prop where
 rep:LRep H W S c pg R N
 inv:Inv c ag (·∈bs) S
 ra:Rep H [] (.ref pg) (.list (ag.map dg))
 npg:¬ pg∈R
 sb:bs.length≤500
 ll:S.ls.length≤800000
 nn:N≤800000
theorem LIn.bl{W:LW}{pg:Addr}{bs:List Int}(L:LIn H W S c pg R N ag bs)(i:Nat)(h:HS)(hi:S.hs[i]?=some h):h.book.length≤1000:=by
 have h1:=pN L.inv (laA.mpr ⟨h,lam hi,rfl⟩)
 have h2:=L.sb
 omega
theorem Bi{H H':Hp}{pg:Addr}(ra:Rep H [] (.ref pg) (.list (ag.map dg)))(n:¬ pg∈R)(ch:Chg R H H'):Rep H' [] (.ref pg) (.list (ag.map dg)):=by
 obtain ⟨_,gs,eg,gg,_,rgs⟩:=id (Rep.lst_inv (ds:=ag.map dg) ra)
 cases eg
 exact .lst (gg.chgL ch n) (by simp) (u5 rgs ch)
theorem LL.nil{p:Addr}(g:H p=some (.lst []))(n:¬ p∈R):LL H R (.ref p) []:=⟨p,[],rfl,g,n,.nil⟩
def iE:Sp:=fun vs H Q _=>∃ (W:LW) (S:HallS) (c:Nat) (pg:Addr) (R:List Addr) (N:Nat) (ag:List (Int×Int)) (bs:List Int) (n:Int) (st:Bool),vs=[.ref W.d,.int n,.bl st]∧LIn H W S c pg R N ag bs∧LRet H W c pg R N (S.begin n st) Q
theorem Et(h:iE vs H Q E):vX K bV bR cK { nx:=fun _ H'=>Q .non H',rt:=Q } (start ["_law_hall","_law_bargain","_law_stays","_law_who","_law_book","_law_ahead","_law_sent"] vs) H:=by
 obtain ⟨W,S,c,pg,R,N,ag,Bs,n,st,rfl,L,k⟩:=h
 have I:=L.rep
 have ok:=L.inv.ok
 have hc1:=ok.c1
 have hc2:=ok.c2
 obtain ⟨h,hi,il,hlead⟩:=ok.lead n
 rw [ok.len] at hlead il
 unfold HallS.begin at k
 rw [hi] at k
 dsimp only at k
 generalize hI:S.lead n=i at *
 have hxl:(W.xs i).length=h.book.length:=by rw [(I.bs i h hi).length,laa]
 have hbl:=L.bl i h hi
 obtain ⟨hn,ho⟩:=ok.num i h hi
 have hagn:=L.inv.agn i h hi
 have rb:Rep H [] (.ref (W.bk i)) (cy h.book):=.lst (.inl (I.gb il)) (by simp) (I.bs i h hi)
 obtain ⟨s0,hs0,hf⟩:=eM L.inv hi n
 have okw:=jn hs0 hf
 have okn:kc []:=fun w hw=>(nomatch hw)
 have non:Rep H R V.non Ans.non.D:=.non
 unfold vX
 walk_at "g"
 refine bu I.gd t6 ?_
 refine fI (show (0:Int)<(c:Int) by omega) ?_
 rw [← hlead]
 walk_at "g"
 refine bu I.gd pR ?_
 walk_at "g"
 refine bp (b7 I.gB) (j2 il) ?_
 walk_at "g"
 refine bu I.gd kF ?_
 walk_at "g"
 refine bp (b7 I.gU) (nQ hi) ?_
 walk_at "g"
 cases hup:h.up with
 | false=>
  rw [hup,if_neg (by simp)] at k
  rw [if_pos (by rfl),if_pos (by rfl)]
  walk_at "g"
  exact k _ H W R (.of I (Chg.refl _ _) (Stays.refl _)) non (dO _)
 | true=>
  rw [hup] at k
  rw [if_neg (by decide)]
  walk_at "g"
  refine ⟨W.bk i,h.book,n,rfl,rb,las hbl (by decide),fun pw H1 hpw s1 g1=>?_⟩
  walk_at "A"
  rename_i pn hpn H2 s2 g2
  have s12:=s1.trans s2
  refine ⟨dW (aq h.book n),dW [],js (.inl (s2 _ _ g1)),js (.inl g2),fE okw,fE okn,?_⟩
  rw [oH]
  walk_at "g"
  by_cases e:aq h.book n=[]
  ·rw [if_pos ⟨rfl,e⟩] at k
   rw [if_neg (by simp [e])]
   have I2:=I.same s12
   have gb2:=I2.gb il
   walk_at "g"
   rw [hxl]
   intro pe hpe
   have s3:Same H2 (upd H2 pe (.lst [])):=Same.new hpe
   have g3:upd H2 pe (.lst []) pe=some (.lst []):=ax
   generalize upd H2 pe (.lst [])=H3 at *
   have s13:=s12.trans s3
   have I3:=I2.same s3
   have he0:H pe=none:=s12.free hpe
   walk_at "s"
   refine dI (fun σ' H'=>∃ W' a,σ'=[some (.ref W.d),some (.int n),some (.bl st),some (.int (i:Int)),some (.ref (W.bk i)),some (.int (h.book.length:Int)),some (.ref a)]∧LMove H W R H' W' (S.put i (h.begin n).1) c pg R N∧LL H' R (.ref a) (h.begin n).2) ?_ ?_
   ·walk_at "A"
    rename_i pt hpt H4 s4 g4
    have s14:=s13.trans s4
    have I4:=I3.same s4
    refine bu I4.gd Ax ?_
    refine vm (k:=(i:Int)) (n:=n) (.inl g4) (L.ra.same s14) ?_
    walk_at "g"
    have hmem:decide (((i:Int),n)∈ag)=decide (n∈h.agn):=by
     rw [hagn]
     exact decide_eq_decide.mpr mem_agOf.symm
    rw [hmem]
    unfold HS.begin
    have M4:LMove H W R H4 W S c pg R N:=.of I4 (.of_same s14) (Stays.refl _)
    have gb4:=I4.gb il
    by_cases em:n∈h.agn
    ·rw [if_pos (decide_eq_true em),if_pos em]
     walk_at "g"
     refine ⟨.inl ⟨rfl,_,b7 gb4⟩,?_⟩
     walk_at "A"
     rename_i pq hpq H5 s5 g5
     refine dc (s5 _ _ gb4) (bg (by omega)) ?_
     obtain ⟨W2,M5⟩:=(M4.then_same s5).write hi il (.inl g5)
     have npe:pe≠W.bk i:=eW hpe gb2
     exact ⟨W2,pe,rfl,M5,LL.nil (bo npe (s5 _ _ (s4 _ _ g3))) (eG I.at_.trk he0)⟩
    ·rw [if_neg (by simp [em]),if_neg em]
     walk_at "g"
     refine ⟨.inl ⟨rfl,_,b7 gb4⟩,?_⟩
     walk_at "A"
     rename_i pq hpq H5 s5 g5
     refine dc (s5 _ _ gb4) (bg (by omega)) ?_
     obtain ⟨W2,M5⟩:=(M4.then_same s5).write hi il (.inl g5)
     generalize upd H5 (W.bk i) _=H6 at *
     have gd6:=M5.at_.gd
     rw [M5.st.d] at gd6
     walk_at "g"
     refine bu gd6 t6 ?_
     walk_at "g"
     refine ⟨(i:Int),c,n,"ask",rfl,by omega,fun p ys H7 s7 hp g7 rs=>?_⟩
     walk_at "g"
     refine ⟨W2,p,rfl,M5.then_same s7,p,ys,rfl,g7,eG M5.at_.at_.trk hp,?_⟩
     rw [eL (i:=i) (c:=c) hn ho]
     exact cG rs
   ·rintro σ' H' ⟨W',a,rfl,M,ll⟩
    walk_at "g"
    have hi':(S.put i (h.begin n).1).hs[i]?=some (h.begin n).1:=cS hi
    have hlen:(h.begin n).2.length≤20:=by
     refine las (jE h n) ?_
     exact ok.oth hi
    have hbk:h.book.length≤(h.begin n).1.book.length:=by
     obtain ⟨x,e⟩:=qU h n
     rw [e,laf];omega
    have hll:=L.ll
    refine ⟨W',S.put i (h.begin n).1,c,pg,R,N,i,(h.begin n).1,a,(h.begin n).2,st,h.book.length,by rw [M.st.d];rfl,M.at_,hi',il,ll,?_,hbk,?_⟩
    ·show S.ls.length+_≤_;omega
    ·have k':=k.after M
     unfold HallS.post at k'
     rw [d_]
     exact k'
  ·rw [if_neg fun z=>e z.2] at k
   rw [if_pos (by simp [e])]
   walk_at "g"
   exact k _ H2 W R (.of (I.same s12) (.of_same s12) (Stays.refl _)) .non (dO _)
def d6:Sp:=fun vs H Q _=>∃ (W:LW) (S:HallS) (c:Nat) (pg:Addr) (R:List Addr) (N:Nat) (ag:List (Int×Int)) (bs:List Int) (k:Int) (st:Bool),vs=[.ref W.d,.int k,.bl st]∧0≤k∧LIn H W S c pg R N ag bs∧LRet H W c pg R (N+1) (S.carry k st) Q
theorem Gb(h:d6 vs H Q E):wu K gY cK { nx:=fun _ H'=>Q .non H',rt:=Q } (start ["_law_hall","_law_which","_law_stays","_law_letter","_law_who","_law_book","_law_ahead","_law_votes","_law_sent"] vs) H:=by
 obtain ⟨W,S,c,pg,R,N,ag,Bs,kk,st,rfl,hk0,L,k⟩:=h
 obtain ⟨m,rfl⟩:∃ m:Nat,kk=m:=⟨kk.toNat,by omega⟩
 have I:=L.rep
 have ok:=L.inv.ok
 have hc1:=ok.c1
 have hc2:=ok.c2
 have hyl:W.ys.length=S.ls.length:=by rw [I.ls.length,laa]
 have hll:=L.ll
 have hnn:=L.nn
 have stay:LMove H W R H W S c pg R (N+1):=.of (I.more (by omega)) (Chg.refl _ _) (Stays.refl _)
 unfold HallS.carry at k
 rw [Int.toNat_natCast] at k
 unfold wu
 walk_at "g"
 refine bu I.gd oA ?_
 walk_at "g"
 refine je (b7 I.gl) ?_
 walk_at "g"
 by_cases hm:m<S.ls.length
 ·rw [if_neg (by simp;omega)]
  obtain ⟨x,hx⟩:∃ x,W.ys[m]?=some x:=⟨W.ys[m]'(by omega),lad _⟩
  obtain ⟨l,t,hl,rfl,rt⟩:=fZ I.ls hx
  rw [hl] at k
  dsimp only at k
  unfold HallS.carryL at k
  have hmem:l∈S.ls:=lam hl
  have lo:=ok.let_ l hmem
  obtain ⟨i,ei⟩:∃ i:Nat,l.2.1=i:=⟨l.2.1.toNat,(Int.toNat_of_nonneg lo.t0).symm⟩
  have il:i<c:=by have:=lo.t1;omega
  obtain ⟨h,hi⟩:∃ h,S.hs[i]?=some h:=⟨_,lad (by rw [ok.len];exact il)⟩
  have ei':l.2.1.toNat=i:=by omega
  rw [ei',hi] at k
  dsimp only at k
  have hxl:(W.xs i).length=h.book.length:=by rw [(I.bs i h hi).length,laa]
  walk_at "g"
  refine bu I.gd oA ?_
  walk_at "g"
  refine bp (b7 I.gl) (cf hx) ?_
  walk_at "g"
  rw [ei]
  refine bu I.gd kF ?_
  walk_at "g"
  refine bp (b7 I.gU) (nQ hi) ?_
  walk_at "g"
  cases hup:h.up with
  | false=>
   rw [hup,if_neg (by decide)] at k
   rw [if_pos (by rfl)]
   walk_at "g"
   exact k _ H W R stay .non (dO _)
  | true=>
   rw [hup,if_pos rfl] at k
   rw [if_neg (by decide)]
   walk_at "g"
   refine bu I.gd pR ?_
   walk_at "g"
   refine bp (b7 I.gB) (j2 il) ?_
   walk_at "g"
   refine je (b7 (I.gb il)) ?_
   walk_at "g"
   refine bu I.gd zt ?_
   walk_at "g"
   refine bp (b7 I.gV) (j2 il) ?_
   walk_at "g"
   refine bu I.gd Ax ?_
   walk_at "g"
   refine bu I.gd t6 ?_
   walk_at "g"
   rw [hxl]
   refine ⟨W,S,c,pg,R,N,ag,_,i,h,t,l,rfl,⟨I,L.inv,hi,L.ra,L.npg,rt,hmem,ei,las (L.bl i h hi) (by decide)⟩,by omega,fun v H' W' R' M ll fr=>?_⟩
   obtain ⟨a,ys,rfl,ga,na,ra⟩:=id ll
   walk_at "g"
   have hi':(S.put i (h.got l).1).hs[i]?=some (h.got l).1:=cS hi
   have hlen:(h.got l).2.length≤20:=by
    have h1:=nJ h l
    have h2:=ok.oth1 hi
    omega
   have hbk:h.book.length≤(h.got l).1.book.length:=by
    obtain ⟨x,e⟩:=p0 h l
    rw [e,laf];omega
   refine ⟨W',S.put i (h.got l).1,c,pg,R',N+1,i,(h.got l).1,a,(h.got l).2,st,h.book.length,by rw [M.st.d];rfl,M.at_,hi',il,ll,?_,hbk,?_⟩
   ·show S.ls.length+_≤_;omega
   ·have k':=k.after M
    unfold HallS.post at k'
    rw [d_]
    exact k'
 ·rw [if_pos (by simp;omega)]
  rw [List.getElem?_eq_none (by omega)] at k
  walk_at "g"
  exact k _ H W R stay .non (dO _)
theorem LRep.chg{H H':Hp}{W:LW}{pg:Addr}{R T:List Addr}(I:LRep H W S c pg R N)(ch:Chg T H H')(d:∀ a∈R,¬ a∈T):LRep H' W S c pg R N:=
 ⟨⟨fun s a e=>ch.keep a _ (I.at_.at_ s a e) (d a (I.at_.mem s a e)),I.at_.inj,I.at_.mem,fun a ha=>by obtain ⟨o,e⟩:=I.at_.trk a ha;exact ⟨o,ch.keep a o e (d a ha)⟩,I.at_.mu⟩,bA I.ls ch,fun i h hi=>bG (I.bs i h hi) ch,I.vn,I.vs,I.kl⟩
theorem LMove.side{H H1:Hp}{W W1:LW}{R R1:List Addr}{S1:HallS}{pg:Addr}{p:Addr}{o:HO}(M:LMove H W R H1 W1 S1 c pg R1 N)(hp:H p=none)(np:¬ p∈R1)(mu:ke (H1 p)):LMove H W R (upd H1 p o) W1 S1 c pg R1 N:=
 ⟨M.at_.chg (.set (S:=[p]) mu (by simp)) (fun a ha y=>np (by rw [lag.mp y] at ha;exact ha)),M.chg.put hp,M.gr,M.sb,M.st⟩
theorem LMove.npg{H H1:Hp}{W W1:LW}{R R1:List Addr}{S1:HallS}{pg:Addr}{p:Addr}{o:HO}(M:LMove H W R H1 W1 S1 c pg R1 N)(hp:H p=some o)(np:¬ p∈R):¬ p∈R1:=fun y=>(M.gr p y).elim np fun z=>by rw [hp] at z;cases z
theorem LIn.move{H H1:Hp}{W W1:LW}{S S1:HallS}{pg:Addr}{R R1:List Addr}{N N1:Nat}{bs:List Int}(L:LIn H W S c pg R N ag bs)(M:LMove H W R H1 W1 S1 c pg R1 N1)(inv:Inv c ag (·∈bs) S1)(ll:S1.ls.length≤800000)(nn:N1≤800000):LIn H1 W1 S1 c pg R1 N1 ag bs:=by
 refine ⟨M.at_,inv,Bi L.ra L.npg M.chg,?_,L.sb,ll,nn⟩
 obtain ⟨_,gs,eg,gg,_,_⟩:=id (Rep.lst_inv (ds:=ag.map dg) L.ra)
 cases eg
 obtain ⟨o,ho⟩:=gg.some
 exact M.npg ho L.npg
def fw(b full:List aW):List Int:=(b.filter fun l=>decide (l.1=("open":Str))&&decide (aJ full l.2=none)).map (·.2)
theorem pX(a b full:List aW):fw (a++b) full=fw a full++fw b full:=by unfold fw;rw [lay,lai]
theorem p7(l:aW)(full:List aW):fw [l] full=if l.1=("open":Str)∧aJ full l.2=none then [l.2] else []:=by
 unfold fw
 by_cases e1:l.1=("open":Str)
 ·by_cases e2:aJ full l.2=none
  ·rw [if_pos ⟨e1,e2⟩];simp [e1,e2]
  ·rw [if_neg fun z=>e2 z.2];simp [e2]
 ·rw [if_neg fun z=>e1 z.1];simp [e1]
theorem uZ(b full:List aW):(fw b full).length≤b.length:=by unfold fw;rw [laa];exact laJ _ _
theorem qH(b:List aW)(ns:List Int)(n:Int):aq (b++ns.map fun n=>(("off":Str),n)) n=aq b n++(ns.filter fun m=>decide (m=n)).map fun _=>("off":Str):=by
 unfold aq
 rw [lay,lai]
 congr 1
 induction ns with
 | nil=>rfl
 | cons x r ih=>
  rw [lah,laz,laz]
  by_cases e:x=n
  ·rw [if_pos (by simp [e]),if_pos (by simp [e]),lah,lah,ih]
  ·rw [if_neg (by simp [e]),if_neg (by simp [e]),ih]
theorem zw(I:Inv c ag Bs S){i:Nat}{h:HS}(hi:S.hs[i]?=some h){j:Nat}{l:aW}(hl:h.book[j]?=some l) :
  aq (h.book++(fw (h.book.take j) h.book).map fun n=>(("off":Str),n)) l.2=[("open":Str)]↔(l.1=("open":Str)∧aJ h.book l.2=none):=by
 have hm:l.1∈aq h.book l.2:=by
  unfold aq
  exact laA.mpr ⟨l,laC.mpr ⟨lam hl,by simp⟩,rfl⟩
 rw [qH]
 constructor
 ·intro e
  have e1:aq h.book l.2=[("open":Str)]:=by
   generalize aq h.book l.2=ws at *
   cases ws with
   | nil=>cases hm
   | cons x r=>
    rw [List.cons_append] at e
    have e2:=(List.cons.inj e).2
    rw [List.append_eq_nil_iff] at e2
    rw [(List.cons.inj e).1,e2.1]
  refine ⟨?_,?_⟩
  ·rw [e1] at hm;exact lag.mp hm
  ·rw [b8 e1];decide
 ·rintro ⟨e1,e2⟩
  have hin:l.2∈fw [l] h.book:=by rw [p7,if_pos ⟨e1,e2⟩];simp
  have hsp:h.book=h.book.take j++([l]++h.book.drop (j+1)):=by
   have h1:h.book.take (j+1)=h.book.take j++[l]:=bH hl
   rw [← List.append_assoc,← h1,List.take_append_drop]
  have hlo:bE h.book=fw (h.book.take j) h.book++(fw [l] h.book++fw (h.book.drop (j+1)) h.book):=by
   show fw h.book h.book=_
   conv=>lhs;arg 1;rw [hsp]
   rw [pX,pX]
  have nd:=kR I hi
  have hmem:l.2∈bE h.book:=by rw [hlo];exact lak _ (lal _ hin)
  have hw:=(i8 I hi hmem).2
  rw [dw hi] at hw
  rw [hlo] at nd
  have nin:¬ l.2∈fw (h.book.take j) h.book:=fun z=>(List.pairwise_append.mp nd).2.2 _ z _ (lal _ hin) rfl
  have:((fw (h.book.take j) h.book).filter fun m=>decide (m=l.2))=[]:=by
   rw [List.filter_eq_nil_iff]
   intro m hm' z
   rw [of_decide_eq_true z] at hm'
   exact nin hm'
  rw [this,hw];rfl
def iC:Sp:=fun vs H Q _=>∃ (W:LW) (S:HallS) (c:Nat) (pg:Addr) (R:List Addr) (N:Nat) (ag:List (Int×Int)) (bs:List Int) (i:Nat),vs=[.ref W.d,.int (i:Int)]∧i<c∧LIn H W S c pg R N ag bs∧LRet H W c pg R N (S.wake i) Q
theorem GQ(h:iC vs H Q E):xR K bV bR cK { nx:=fun _ H'=>Q .non H',rt:=Q } (start ["_law_hall","_law_who","_law_book","_law_ahead","_law_sent","_law_line"] vs) H:=by
 obtain ⟨W,S,c,pg,R,N,ag,bs,i,rfl,il,L,k⟩:=h
 have I:=L.rep
 have ok:=L.inv.ok
 have hc2:=ok.c2
 obtain ⟨h,hi⟩:∃ h,S.hs[i]?=some h:=⟨_,lad (by rw [ok.len];exact il)⟩
 have hxl:(W.xs i).length=h.book.length:=by rw [(I.bs i h hi).length,laa]
 have hbl:=L.bl i h hi
 obtain ⟨hn,ho⟩:=ok.num i h hi
 have il':i<S.hs.length:=by rw [ok.len];exact il
 unfold HallS.wake at k
 rw [hi] at k
 dsimp only at k
 unfold xR
 walk_at "g"
 refine bu I.gd kF ?_
 walk_at "g"
 refine bp (b7 I.gU) (nQ hi) ?_
 walk_at "g"
 cases hup:h.up with
 | true=>
  rw [hup,if_pos rfl] at k
  rw [if_pos rfl]
  walk_at "g"
  exact k _ H W R (.of I (Chg.refl _ _) (Stays.refl _)) .non (dO _)
 | false=>
  rw [hup,if_neg (by decide)] at k
  rw [if_neg (by decide)]
  walk_at "g"
  refine j9 ?_
  walk_at "g"
  refine bu I.gd kF ?_
  walk_at "g"
  refine kf I.gU (by rw [laa];exact il') ?_
  obtain ⟨J,cj⟩:=I.setUp hi true
  generalize upd H W.U _=H1 at *
  have M1:LMove H W R H1 W _ c pg R N:=.of J cj (Stays.refl _)
  walk_at "g"
  refine bu J.gd pR ?_
  walk_at "g"
  refine bp (b7 J.gB) (j2 il) ?_
  walk_at "g"
  refine je (b7 (J.gb il)) ?_
  walk_at "g"
  rw [hxl]
  intro pe hpe
  have s2:Same H1 (upd H1 pe (.lst [])):=Same.new hpe
  have g2:upd H1 pe (.lst []) pe=some (.lst []):=ax
  generalize upd H1 pe (.lst [])=H2 at *
  have J2:=J.same s2
  have gb2:=J2.gb il
  walk_at "g"
  intro pc hpc
  have s3:Same H2 (upd H2 pc (.lst (W.xs i))):=Same.new hpc
  have g3:upd H2 pc (.lst (W.xs i)) pc=some (.lst (W.xs i)):=ax
  generalize upd H2 pc (.lst (W.xs i))=H3 at *
  have s13:=s2.trans s3
  have M3:=M1.then_same s13
  have hpe0:H pe=none:=M1.free hpe
  have hpc0:H pc=none:=M1.free (s2.free hpc)
  have npe:¬ pe∈R:=eG I.at_.trk hpe0
  have npc:¬ pc∈R:=eG I.at_.trk hpc0
  have nec:pe≠pc:=fun e=>by rw [e,hpc] at g2;cases g2
  have hbs3:=((I.bs i h hi))
  walk_at "g"
  generalize hh0:({ h with up:=true }:HS)=h0 at *
  have e0b:h0.book=h.book:=by rw [← hh0]
  have e0n:h0.num=(i:Int):=by rw [← hh0];exact hn
  have e0o:h0.oth=bP (i:Int) c:=by rw [← hh0];exact ho
  refine fX (K:=K) (a:=pc) (xs:=W.xs i) (fun j σ H'=>∃ v W' ys,σ=[some (.ref W.d),some (.int (i:Int)),some (.ref (W.bk i)),some (.int (h.book.length:Int)),some (.ref pe),v]∧
   LMove H W R H' W' (S.put i (h0.offAll (fw (h.book.take j) h.book)).1) c pg R N∧H' pe=some (.lst ys)∧Reps H' [] ys ((h0.offAll (fw (h.book.take j) h.book)).2.map bv)∧H' pc=some (.lst (W.xs i)))
   ⟨none,W,[],rfl,M3,s3 _ _ g2,.nil,g3⟩ ?_ ?_ ?_
  ·rintro j σ H' hj ⟨v,W',ys,rfl,M,gs,rs,gc⟩
   exact b7 gc
  ·rintro j x σ A hx ⟨v,W',ys,rfl,M,gs,rs,gc⟩
   have rbs:Reps A [] (W.xs i) (h.book.map bZ):=bG hbs3 M.chg
   obtain ⟨l,t,hl,rfl,rt⟩:=gG rbs hx
   generalize hns:fw (h.book.take j) h.book=ns at *
   have hnl:ns.length≤h.book.length:=by
    rw [← hns]
    refine las (uZ _ _) ?_
    rw [lax];exact Nat.min_le_right _ _
   have hi':(S.put i (h0.offAll ns).1).hs[i]?=some (h0.offAll ns).1:=cS hi
   have ebk:(h0.offAll ns).1.book=h.book++ns.map fun n=>(("off":Str),n):=by rw [jI,e0b]
   have hlen:(h0.offAll ns).1.book.length≤2000:=by rw [ebk,laf,laa];omega
   have gbA:=M.at_.gb il
   rw [M.st.bk] at gbA
   have rb:Rep A [] (.ref (W.bk i)) (cy (h0.offAll ns).1.book):=.lst (.inl gbA) (by simp) (M.at_.bs i _ hi')
   have hys:ys.length=ns.length*h0.oth.length:=by rw [rs.length,laa,kK]
   have hol:h0.oth.length≤20:=by rw [e0o];exact las (fG _ _) hc2
   have hyl:ys.length≤20000:=by
    rw [hys]
    exact las (Nat.mul_le_mul (las hnl hbl) hol) (by decide)
   have hkey:=zw L.inv hi hl
   rw [hns,← ebk] at hkey
   have htk:fw (h.book.take (j+1)) h.book=ns++fw [l] h.book:=by rw [bH hl,pX,hns]
   walk_at "g"
   refine ⟨W.bk i,_,l.2,rfl,rb,las hlen (by decide),fun pw A1 hpw t1 k1=>?_⟩
   have okw:kc (aq (h0.offAll ns).1.book l.2):=by
    rw [ebk,qH]
    obtain ⟨s0,hs0,hf⟩:=eM L.inv hi l.2
    intro w hw
    rcases lap.mp hw with z | z
    ·exact jn hs0 hf w z
    ·obtain ⟨_,_,rfl⟩:=laA.mp z
     exact jm (by simp)
   walk_at "A"
   rename_i po hpo A2 t2 k2
   have t12:=t1.trans t2
   refine mN (xs:=aq (h0.offAll ns).1.book l.2) (ys:=[("open":Str)]) (.inl (t2 _ _ k1)) (.inl k2) okw (ni (by simp)) ?_
   walk_at "g"
   have rt2:=rt.same t12
   have M2:=M.then_same t12
   by_cases e:aq (h0.offAll ns).1.book l.2=[("open":Str)]
   ·rw [if_pos (decide_eq_true e)]
    rw [p7,if_pos (hkey.mp e)] at htk
    have eoff:=jL h0 ns l.2
    have gb2:=t12 _ _ gbA
    walk_at "g"
    refine ⟨.inl ⟨rfl,_,b7 gb2⟩,?_⟩
    walk_at "A"
    rename_i pt hpt A3 t3 k3
    have hxl':(W'.xs i).length=(h0.offAll ns).1.book.length:=by rw [(M.at_.bs i _ hi').length,laa]
    refine dc (t3 _ _ gb2) (bg (by omega)) ?_
    obtain ⟨W4,M4⟩:=(M2.then_same t3).write hi' il (.inl k3)
    rw [d_] at M4
    have npb:pe≠W.bk i:=fun e=>npe (by rw [e];exact I.at_.mem (.bk i) _ (if_pos il))
    have ncb:pc≠W.bk i:=fun e=>npc (by rw [e];exact I.at_.mem (.bk i) _ (if_pos il))
    have cA:Chg [W.bk i] A3 (upd A3 (W.bk i) (.lst (W'.xs i++[.ref pt]))):=.set (by rw [t3 _ _ gb2];exact True.intro) (by simp)
    have t13:=t12.trans t3
    have gs4:upd A3 (W.bk i) (.lst (W'.xs i++[.ref pt])) pe=some (.lst ys):=bo npb (t13 _ _ gs)
    have gc4:upd A3 (W.bk i) (.lst (W'.xs i++[.ref pt])) pc=some (.lst (W.xs i)):=bo ncb (t13 _ _ gc)
    have rs4:=bA (rs.same t13) cA
    have rt4:=(rt.same t13).chgT cA
    generalize upd A3 (W.bk i) (.lst (W'.xs i++[.ref pt]))=A4 at *
    have gd4:=M4.at_.gd
    rw [M4.st.d] at gd4
    walk_at "g"
    refine ⟨.inl ⟨rfl,_,b7 gs4⟩,?_⟩
    walk_at "g"
    refine bu gd4 t6 ?_
    walk_at "g"
    refine ⟨(i:Int),c,l.2,"off",rfl,by omega,fun p zs A5 t5 hp k5 rz=>?_⟩
    walk_at "g"
    have hzl:zs.length≤20:=by
     rw [rz.length,laa];unfold gf;rw [laa]
     exact las (fG _ _) hc2
    refine eP (t5 _ _ gs4) k5 (by rw [sizeLine_eq];omega) ?_
    have M5:=M4.then_same t5
    have cB:Chg [pe] A5 (upd A5 pe (.lst (ys++zs))):=.set (by rw [t5 _ _ gs4];exact True.intro) (by simp)
    rw [htk,eoff]
    refine ⟨_,W4,ys++zs,rfl,M5.side hpe0 npe (by rw [t5 _ _ gs4];exact True.intro),ax,?_,bo nec.symm (t5 _ _ gc4)⟩
    refine jT (bA (rs4.same t5) cB) (bA ?_ cB)
    show Reps A5 [] zs (((h0.offAll ns).1.toOthers l.2 "off").map bv)
    rw [eL (h:=(h0.offAll ns).1) (i:=i) (c:=c) (by rw [o8];exact e0n) (by rw [i6];exact e0o)]
    exact rz
   ·rw [if_neg (by simp [e])]
    rw [p7,if_neg (fun z=>e (hkey.mpr z)),laF] at htk
    walk_at "g"
    rw [htk]
    exact ⟨_,W',ys,rfl,M2,t12 _ _ gs,rs.same t12,t12 _ _ gc⟩
  ·rintro σ A ⟨v,W',ys,rfl,M,gs,rs,gc⟩
   rw [hxl,laE] at M rs
   have ewk:h0.offAll (fw h.book h.book)=h.wake:=by unfold HS.wake;rw [hh0];rfl
   rw [ewk] at M rs
   have hi':(S.put i h.wake.1).hs[i]?=some h.wake.1:=cS hi
   walk_at "g"
   have hys:h.wake.2.length≤20000:=by
    rw [oi]
    have h1:(bE h.book).length≤1000:=las (uZ h.book h.book) hbl
    have h2:h.oth.length≤20:=ok.oth hi
    exact las (Nat.mul_le_mul h1 h2) (by decide)
   have hll:=L.ll
   refine ⟨W',S.put i h.wake.1,c,pg,R,N,i,h.wake.1,pe,h.wake.2,true,h.book.length,by rw [M.st.d];rfl,M.at_,hi',il,⟨pe,ys,rfl,gs,npe,cG rs⟩,?_,?_,?_⟩
   ·show S.ls.length+_≤_;omega
   ·rw [mZ,laf];omega
   ·rw [if_pos rfl]
    exact k.after M
theorem LRep.trim{W:LW}{pg:Addr}(I:LRep H W S c pg R N):LRep H W S.trim c pg R N:=⟨I.at_,I.ls,I.bs,I.vn,I.vs,I.kl⟩
def IG(H:Hp)(W:LW)(c:Nat)(pg:Addr)(R:List Addr)(N:Nat)(ag:List (Int×Int))(bs:List Int)(pw:Addr)(r:HallS×List (Int×aW))(m:Nat)(σ:St)(H':Hp):Prop:=
 ∃ (S':HallS) (k:Nat) (w:List (Int×aW)) (W':LW) (R':List Addr) (ws:List V) (a:Option V),σ=[some (.ref W.d),some (.ref pw),some (.int (k:Int)),a]∧Both r S' k w∧Inv c ag (·∈bs) S'∧LMove H W R H' W' S' c pg R' (N+k)∧
  H' pw=some (.lst ws)∧¬ pw∈R'∧Reps H' [] ws (w.map cY)∧w.length≤k∧k≤S'.ls.length∧m=r.1.ls.length - k
def ia:Sp:=fun vs H Q _=>∃ (W:LW) (S:HallS) (c:Nat) (pg:Addr) (R:List Addr) (N:Nat) (ag:List (Int×Int)) (bs:List Int),vs=[.ref W.d]∧LIn H W S c pg R N ag bs∧SoUn S∧SI S∧N+S.sweepR.1.ls.length≤800000∧LRet H W c pg R (N+S.sweepR.1.ls.length) (S.do .sweep) Q
theorem Gn(h:ia vs H Q E):xC K d6 { nx:=fun _ H'=>Q .non H',rt:=Q } (start ["_law_hall","_law_told","_law_which","_law_lines"] vs) H:=by
 obtain ⟨W,S,c,pg,R,N,ag,bs,rfl,L,so,si,hN,k⟩:=h
 have I:=L.rep
 have B0:=Both.start L.inv.ok so si
 have ek:S.do .sweep=(S.sweepR.1.trim,.pairs S.sweepR.2):=rfl
 rw [ek] at k
 generalize S.sweepR=r at *
 unfold xC
 walk_at "g"
 walk_at "w"
 rename_i pw hpw H1 s1 g1
 walk_at "g"
 refine ⟨IG H W c pg R N ag bs pw r,⟨_,S,0,[],W,R,[],none,rfl,B0,L.inv,.of (I.same s1) (.of_same s1) (Stays.refl _),g1,eG I.at_.trk hpw,.nil,lat _,laI _,rfl⟩,?_⟩
 rintro m σ H2 ⟨S2,kk,w,W2,R2,ws,a,rfl,B,inv2,M2,gw,nw,rw2,hwl,hkl,rfl⟩
 have I2:=M2.at_
 have gd2:=I2.gd
 rw [M2.st.d] at gd2
 have gl2:=I2.gl
 have hyl:W2.ys.length=S2.ls.length:=by rw [I2.ls.length,laa]
 obtain ⟨f,pl,hgo,_⟩:=B.go
 have sizes:=(kS _ _ _ _ _ hgo).1
 walk_at "g"
 refine bu gd2 oA ?_
 walk_at "g"
 by_cases lt:kk<S2.ls.length
 ·rw [if_pos (by simp only [decide_eq_true_eq];omega)]
  refine ⟨IG H W c pg R N ag bs pw r (r.1.ls.length - (kk+1)),fun σ' H' z=>⟨r.1.ls.length - (kk+1),by omega,z⟩,?_⟩
  obtain ⟨l,hl⟩:∃ l,S2.ls[kk]?=some l:=⟨_,lad lt⟩
  have L2:=L.move M2 inv2 (by omega) (by omega)
  walk_at "g"
  refine ⟨W2,S2,c,pg,R2,N+kk,ag,bs,(kk:Int),true,by rw [M2.st.d];rfl,by omega,L2,fun v H3 W3 R3 M3 r3 fr3=>?_⟩
  have ec:S2.carry (kk:Int) true=S2.carryL l true:=by unfold HallS.carry;rw [Int.toNat_natCast,hl]
  rw [ec] at M3 r3
  have et:S2.turn kk=((S2.carryL l true).1,ju l (S2.carryL l true).2):=by unfold HallS.turn;rw [hl]
  have ht1:=mV S2 kk
  obtain ⟨⟨la,hla⟩,ua,hua⟩:=iT S2 kk
  have inv3:=inv2.turn kk
  have B3:=B.step inv2 lt
  rw [et] at ht1 hla hua inv3 B3
  dsimp only at ht1 hla hua inv3 B3
  have gw3:=M3.chg.keep _ _ gw nw
  have nw3:¬ pw∈R3:=M3.npg gw nw
  have rw3:=eD rw2 M3.chg
  have MA:=M2.trans M3
  have eN:N+kk+1=N+(kk+1):=by omega
  rw [eN] at MA
  have I3:=M3.at_
  refine dI (fun σ' H'=>∃ ws',σ'=[some (.ref W.d),some (.ref pw),some (.int (kk:Int)),some v]∧LMove H W R H' W3 (S2.carryL l true).1 c pg R3 (N+(kk+1))∧H' pw=some (.lst ws')∧Reps H' [] ws' ((w++ju l (S2.carryL l true).2).map cY)) ?_ ?_
  ·rcases o7 S2 l true with e | ⟨lns,e⟩
   ·rw [e] at r3 ⊢
    cases r3.non_inv
    walk_at "g"
    rw [if_neg (by decide)]
    walk_at "g"
    refine ⟨ws,rfl,MA,gw3,?_⟩
    show Reps H3 [] ws ((w++[]).map cY)
    rw [laF];exact rw3
   ·rw [e] at r3 ⊢ ht1
    obtain ⟨a3,xs3,rfl,ra,na3,rs3⟩:=r3.lst_inv
    have hl3:(S2.carryL l true).1.ls[kk]?=some l:=by rw [hla,List.getElem?_append_left lt];exact hl
    obtain ⟨x,hx,rx⟩:=I3.ls.getD (i:=kk) (d:=bv l) (by rw [lae,hl3];rfl)
    obtain ⟨l0,t,e0,rfl,rt⟩:=fZ I3.ls hx
    rw [hl3] at e0
    cases e0
    have hl1:lns.length≤1:=by have:=ht1;unfold ju at this;rwa [laa] at this
    have hxl3:xs3.length=lns.length:=by rw [rs3.length,laa]
    have hwsl:ws.length=w.length:=by rw [rw3.length,laa]
    have gd3:=I3.gd
    rw [M3.st.d,M2.st.d] at gd3
    have gl3:=I3.gl
    walk_at "g"
    rw [if_pos (by simp)]
    walk_at "g"
    refine ⟨.inl ⟨rfl,_,b7 gw3⟩,?_⟩
    walk_at "g"
    intro pn hpn
    refine eX (K:=K) (a:=a3) (xs:=xs3) (fun i zs σ H'=>∃ x,σ=[x,some (.int (kk:Int)),some (.ref W.d)]∧Same H3 H'∧Reps H' [] zs (((lns.take i).map fun x=>(l.2.1,x)).map cY)) ⟨none,rfl,Same.new hpn,.nil⟩ ?_ ?_ ?_
    ·rintro i zs σ H' hi hq' ⟨x,rfl,s,rs⟩
     exact dG (ra.same s)
    ·rintro i x zs σ H4 hx' hq' ⟨x',rfl,s4,rs4⟩
     obtain ⟨dd,hd,rx'⟩:=rs3.get hx'
     rw [lae] at hd
     cases hln:lns[i]? with
     | none=>rw [hln] at hd;cases hd
     | some ln=>
      rw [hln] at hd
      cases hd
      walk_at "g"
      rw [if_pos rfl]
      walk_at "g"
      refine bu (s4 _ _ gd3) oA ?_
      walk_at "g"
      refine bp (b7 (s4 _ _ gl3)) (cf hx) ?_
      walk_at "A"
      rename_i tt htt H5 s5 g5
      have hil:i<lns.length:=(lab.mp hln).1
      have hzl:zs.length=i:=by rw [rs4.length,laa,laa,lax];omega
      have npt:tt≠pn:=(ca htt hq').symm
      refine ⟨zs,s5 _ _ hq',bg (by omega),zs++[.ref tt],ax,_,rfl,(s4.trans s5).put hpn,?_⟩
      have cc:Chg [pn] H5 (upd H5 pn (.lst (zs++[.ref tt]))):=.set (by rw [s5 _ _ hq'];exact True.intro) (by simp)
      rw [bH hln,lai,lai]
      have rz:Reps (upd H5 pn (.lst (zs++[.ref tt]))) [] zs (((lns.take i).map fun x=>(l.2.1,x)).map cY):=eD (rs4.same s5) cc
      exact rz.snoc (.tup (.inl (bo npt g5)) (.cons (.int _) (.cons (Rep.plain (Rep.same ((s4.trans s5).put hpn) rx')) .nil)))
    ·rintro zs σ H4 hq' ⟨x',rfl,s4,rs4⟩
     rw [hxl3,laE] at rs4
     have hzl:zs.length=lns.length:=by rw [rs4.length,laa,laa]
     have gw4:=s4 _ _ gw3
     walk_at "g"
     refine eP gw4 hq' (by rw [sizeLine_eq];omega) ?_
     have cc:Chg [pw] H4 (upd H4 pw (.lst (ws++zs))):=.set (by rw [gw4];exact True.intro) (by simp)
     refine ⟨ws++zs,rfl,(MA.then_same s4).side hpw nw3 (by rw [gw4];exact True.intro),ax,?_⟩
     rw [lai]
     exact (eD (rw3.same s4) cc).append (eD rs4 cc)
  ·rintro σ' H4 ⟨ws4,rfl,M4,gw4,rw4⟩
   walk_at "g"
   refine ⟨(S2.carryL l true).1,kk+1,_,W3,R3,ws4,some v,?_,B3,inv3,M4,gw4,nw3,rw4,?_,?_,rfl⟩
   ·show [some (V.ref W.d),some (.ref pw),some (.int ((kk:Int)+1)),some v]=_
    rw [Int.natCast_add];rfl
   ·rw [laf];omega
   ·rw [hla,laf];omega
 ·rw [if_neg (by simp only [decide_eq_true_eq];omega)]
  have er:=B.done (by omega)
  subst er
  have ekk:kk=S2.ls.length:=by omega
  subst ekk
  dsimp only at hN k
  walk_at "g"
  refine k _ H2 W2 R2 ⟨M2.at_.trim,M2.chg,M2.gr,M2.sb,M2.st⟩ ?_ (by rintro _ ⟨⟩;exact hpw)
  exact .lst (.inl gw) nw (dN rw2)
theorem zT(S:HallS):S.send []=S:=by unfold HallS.send;simp
def CntUp(S:HallS):Prop:=∀ (i:Nat) (h:HS),S.hs[i]?=some h→h.up=false→∀ n,h.cnt n=[]
theorem CntUp.put(u:CntUp S){i:Nat}{h g:HS}(hi:S.hs[i]?=some h)(hg:g.up=false→∀ n,g.cnt n=[]):CntUp (S.put i g):=fun j x hx=>by
 rcases sL hi hx with ⟨_,rfl⟩ | ⟨_,hx⟩
 ·exact hg
 ·exact u j x hx
theorem CntUp.post(u:CntUp S){i:Nat}{h:HS}(hi:S.hs[i]?=some h){r:HS×List aC}(hr:r.1.up=true)(st:Bool):CntUp (S.post i r st):=by
 unfold HallS.post
 cases st with
 | true=>exact CntUp.put u hi (g:=r.1) fun z=>by rw [hr] at z;cases z
 | false=>exact CntUp.put u hi (g:=r.1.stop) fun _ _=>rfl
theorem CntUp.carryL(u:CntUp S)(l:aC)(st:Bool):CntUp (S.carryL l st).1:=by
 unfold HallS.carryL
 split
 ·exact u
 ·rename_i h hi
  split
  ·rename_i hu
   exact u.post hi (by rw [Cc];exact hu) st
  ·exact u
theorem CntUp.turn(u:CntUp S)(k:Nat):CntUp (S.turn k).1:=by
 unfold HallS.turn
 split
 ·exact u
 ·exact u.carryL _ _
theorem CntUp.sweepGo:∀ (f:Nat) (S:HallS) (pl:Nat) (w:List (Int×aW)) (r:HallS×List (Int×aW)),CntUp S→S.sweepGo f pl w=some r→CntUp r.1
 | 0,S,pl,w,r,hs,h=>by
  unfold HallS.sweepGo at h
  split at h
  ·cases h
  ·cases lan h;exact hs
 | f+1,S,pl,w,r,hs,h=>by
  unfold HallS.sweepGo at h
  split at h
  ·exact CntUp.sweepGo f _ _ _ r (hs.turn _) h
  ·cases lan h;exact hs
theorem x6(h:HS)(n:Int):(h.begin n).1.up=h.up:=by unfold HS.begin;split <;> rfl
theorem zW(h:HS):h.wake.1.up=true:=by
 have:∀ (ns:List Int) (h:HS),(h.offAll ns).1.up=h.up:=by
  intro ns
  induction ns with
  | nil=>intro h;rfl
  | cons y r ih=>intro h;exact ih _
 unfold HS.wake
 rw [this]
theorem CntUp.do(ok:HallOk c S)(u:CntUp S)(d:Deed):CntUp (S.do d).1:=by
 cases d with
 | begin n st=>
  show CntUp (S.begin n st).1
  unfold HallS.begin
  split
  ·exact u
  ·rename_i h hi
   split
   ·rename_i hu
    exact u.post hi (by rw [x6];exact hu.1) st
   ·exact u
 | carry k st=>
  show CntUp (S.carry k st).1
  unfold HallS.carry
  split
  ·exact u
  ·exact u.carryL _ _
 | query i n=>
  show CntUp (S.query i n).1
  unfold HallS.query
  split
  ·exact u
  ·exact u
 | stop i=>
  show CntUp (S.stop i).1
  unfold HallS.stop
  split
  ·exact u
  ·rename_i h hi
   split
   ·exact u.put hi fun _ _=>rfl
   ·exact u
 | wake i=>
  show CntUp (S.wake i).1
  unfold HallS.wake
  split
  ·exact u
  ·rename_i h hi
   split
   ·exact u
   ·exact CntUp.put u hi (g:=h.wake.1) fun z=>by rw [zW] at z;cases z
 | sweep=>exact CntUp.sweepGo _ _ _ _ _ u (eB ok).1
theorem CntUp.new(c:Nat)(ag:List (Int×Int)):CntUp (bc c ag):=fun i h hi _ n=>by
 change ((List.range c).map _)[i]?=some h at hi
 rw [lae] at hi
 cases e:(List.range c)[i]? with
 | none=>rw [e] at hi;cases hi
 | some x=>rw [e] at hi;cases hi;rfl
theorem qQ(I:Inv c ag Bs S){i:Nat}{h:HS}(hi:S.hs[i]?=some h)(n:Int):dk h.book n=true↔aq h.book n=[("yes":Str)]:=by
 obtain ⟨s,hs,hf⟩:=eM I hi n
 constructor
 ·intro u
  have hy:=qg u
  unfold dk at u
  rw [Bool.and_eq_true] at u
  have hn:=(fb hs hf).mp (of_decide_eq_true u.2)
  rcases hn with e | e | e
  ·rw [e] at hy;cases hy
  ·exact e
  ·rw [e] at hy;exact absurd hy (by decide)
 ·exact kO
theorem yY(hu:h.up=false)(hc:∀ n,h.cnt n=[]):h.stop=h:=by
 obtain ⟨num,oth,agn,book,up,cnt⟩:=h
 have e1:up=false:=hu
 have e2:cnt=fun _=>[]:=funext hc
 subst e1 e2
 rfl
def rj(S:HallS):Deed→Nat
 | .sweep=>S.sweepR.1.ls.length
 | _=>1
def Deed.word:Deed→Str
 | .begin _ _=>"begin" | .carry _ _=>"carry" | .query _ _=>"query" | .stop _=>"stop" | .wake _=>"wake" | .sweep=>"sweep"
def Deed.dvs:Deed→List V
 | .begin n st=>[.str "begin",.int n,.bl st] | .carry k st=>[.str "carry",.int k,.bl st] | .query i n=>[.str "query",.int i,.int n]
 | .stop i=>[.str "stop",.int i] | .wake i=>[.str "wake",.int i] | .sweep=>[.str "sweep"]
theorem Bb{p:Addr}:∀ {d:Deed},Rep H [] (.ref p) d.D→Rd H p (.tup d.dvs)
 | .begin n st,r=>by
  obtain ⟨xs,g,rs⟩:=eV (ds:=[.str "begin",.int n,.bool st]) r
  obtain ⟨x,ys,rfl,h1,rs⟩:=rs.cons_inv
  obtain ⟨y,zs,rfl,h2,rs⟩:=rs.cons_inv
  obtain ⟨z,us,rfl,h3,rs⟩:=rs.cons_inv
  cases rs.nil_inv
  rw [h1.str_inv,h2.int_inv,h3.bl_inv] at g;exact g
 | .carry n st,r=>by
  obtain ⟨xs,g,rs⟩:=eV (ds:=[.str "carry",.int n,.bool st]) r
  obtain ⟨x,ys,rfl,h1,rs⟩:=rs.cons_inv
  obtain ⟨y,zs,rfl,h2,rs⟩:=rs.cons_inv
  obtain ⟨z,us,rfl,h3,rs⟩:=rs.cons_inv
  cases rs.nil_inv
  rw [h1.str_inv,h2.int_inv,h3.bl_inv] at g;exact g
 | .query n st,r=>by
  obtain ⟨xs,g,rs⟩:=eV (ds:=[.str "query",.int n,.int st]) r
  obtain ⟨x,ys,rfl,h1,rs⟩:=rs.cons_inv
  obtain ⟨y,zs,rfl,h2,rs⟩:=rs.cons_inv
  obtain ⟨z,us,rfl,h3,rs⟩:=rs.cons_inv
  cases rs.nil_inv
  rw [h1.str_inv,h2.int_inv,h3.int_inv] at g;exact g
 | .stop n,r=>by
  obtain ⟨xs,g,rs⟩:=eV (ds:=[.str "stop",.int n]) r
  obtain ⟨x,ys,rfl,h1,rs⟩:=rs.cons_inv
  obtain ⟨y,zs,rfl,h2,rs⟩:=rs.cons_inv
  cases rs.nil_inv
  rw [h1.str_inv,h2.int_inv] at g;exact g
 | .wake n,r=>by
  obtain ⟨xs,g,rs⟩:=eV (ds:=[.str "wake",.int n]) r
  obtain ⟨x,ys,rfl,h1,rs⟩:=rs.cons_inv
  obtain ⟨y,zs,rfl,h2,rs⟩:=rs.cons_inv
  cases rs.nil_inv
  rw [h1.str_inv,h2.int_inv] at g;exact g
 | .sweep,r=>by
  obtain ⟨xs,g,rs⟩:=eV (ds:=[.str "sweep"]) r
  obtain ⟨x,ys,rfl,h1,rs⟩:=rs.cons_inv
  cases rs.nil_inv
  rw [h1.str_inv] at g;exact g
theorem uX{S:List Addr}{b:List (Int×aW)}{x:V}(rs:Reps H S xs (b.map cY))(hx:xs[i]?=some x) :
  ∃ p t u,b[i]?=some p∧x=.ref t∧Rd H t (.tup [.int p.1,.ref u])∧Rd H u (.tup [.str p.2.1,.int p.2.2]):=by
 obtain ⟨d,hd,rx⟩:=rs.get hx
 rw [lae] at hd
 cases hb:b[i]? with
 | none=>rw [hb] at hd;cases hd
 | some l=>
  rw [hb] at hd
  have e:cY l=d:=lan hd
  subst e
  obtain ⟨t,ys,rfl,rt,rs'⟩:=Rep.tup_inv (ds:=[.int l.1,bZ l.2]) rx
  obtain ⟨y1,r1,rfl,h1,t1⟩:=rs'.cons_inv
  obtain ⟨y2,r2,rfl,h2,t2⟩:=t1.cons_inv
  cases t2.nil_inv
  have h2':Reps H S [y2] ([l.2].map bZ):=.cons h2 .nil
  obtain ⟨m,u,em,eu,gu⟩:=gG (i:=0) h2' rfl
  cases em
  cases eu
  rw [h1.int_inv] at rt
  exact ⟨l,t,u,rfl,rfl,rt,gu⟩
theorem uM(d:Deed):PyData.canLay0 d.D=true:=by
 cases d <;> simp [Deed.D,PyData.canLay0,PyData.canLayAll0] <;> decide +kernel
theorem mP(ds:List Deed):PyData.canLayAll0 (ds.map Deed.D)=true:=by
 induction ds with
 | nil=>rfl
 | cons l r ih=>rw [lah,PyData.canLayAll0,ih,uM];rfl
theorem uL(ds:List Deed):PyData.depthAll (ds.map Deed.D)≤3:=by
 induction ds with
 | nil=>simp [PyData.depthAll]
 | cons l r ih=>
  rw [lah,PyData.depthAll]
  have:PyData.depth l.D≤3:=by cases l <;> simp [Deed.D,PyData.depth,PyData.depthAll]
  omega
theorem Ba{w:Nat→Int→List Str}(lo:LetOk c l)(li:LI c w l):xr (c:Int) l:=by
 refine ⟨lo.g0,lo.g1,lo.t0,lo.t1,?_,?_⟩
 ·rcases li with ⟨_,a2,a3,_⟩ | ⟨_,a2,a3,_⟩ | ⟨_,a2,a3,_⟩ | ⟨_,_,_,a4⟩ | ⟨_,_,_,a4⟩ | ⟨_,_,_,a4⟩
  ·rw [a2];exact Ne.symm a3
  ·rw [a2];exact a3
  ·rw [a2];exact a3
  ·exact Ne.symm a4
  ·exact Ne.symm a4
  ·exact Ne.symm a4
 ·have:=lo.w
  simp only [List.mem_cons,List.not_mem_nil,or_false] at this
  exact this
theorem x5:∀ (ds:List Deed) (S:HallS) (i:Nat) (d:Deed),ds[i]?=some d→(S.run ds).2[i]?=some ((S.run (ds.take i)).1.do d).2
 | [],S,i,d,h=>by cases h
 | x::r,S,0,d,h=>by cases h;rfl
 | x::r,S,i+1,d,h=>x5 r (S.do x).1 i d (by simpa using h)
theorem DrawnAll.take{ds:List Deed}(D:DrawnAll Bs c ds)(i:Nat):DrawnAll Bs c (ds.take i):=by
 refine ⟨fun d hd=>D.ok d (List.mem_of_mem_take hd),fun d hd=>D.inn d (List.mem_of_mem_take hd),las ?_ D.one⟩
 unfold cW
 exact ((List.take_sublist i ds).filter _).length_le
def hX:Sp:=fun vs H Q _=>∃ (W:LW) (S:HallS) (c:Nat) (pg:Addr) (R:List Addr) (N:Nat) (ag:List (Int×Int)) (bs:List Int) (t:Addr) (d:Deed),vs=[.ref W.d,.ref t]∧Rd H t (.tup d.dvs)∧LIn H W S c pg R N ag bs∧SoUn S∧SI S∧CntUp S∧nv c d∧N+rj S d≤800000∧LRet H W c pg R (N+rj S d) (S.do d) Q
theorem EK(h:hX vs H Q E):vM K iE d6 iC ia bV bR { nx:=fun _ H'=>Q .non H',rt:=Q } (start ["_law_hall","_law_deed","_law_was","_law_asks"] vs) H:=by
 obtain ⟨W,S,c,pg,R,N,ag,bs,t,d,rfl,rt,L,so,si,cu,dok,hN,k⟩:=h
 have I:=L.rep
 have ok:=L.inv.ok
 have hc2:=ok.c2
 have hc1:=ok.c1
 have hll:=L.ll
 unfold vM
 cases d with
 | begin n st=>
  change Rd H t (.tup [.str "begin",.int n,.bl st]) at rt
  walk_at "g"
  rw [if_pos (by rfl)]
  walk_at "g"
  exact ⟨W,S,c,pg,R,N,ag,bs,n,st,rfl,L,LRet.less k (Nat.le_add_right _ _)⟩
 | carry n st=>
  change Rd H t (.tup [.str "carry",.int n,.bl st]) at rt
  walk_at "g"
  rw [if_neg (by decide)]
  walk_at "g"
  rw [if_pos (by rfl)]
  walk_at "g"
  exact ⟨W,S,c,pg,R,N,ag,bs,n,st,rfl,dok,L,k⟩
 | wake i=>
  change Rd H t (.tup [.str "wake",.int (i:Int)]) at rt
  walk_at "g"
  rw [if_neg (by decide)]
  walk_at "g"
  rw [if_neg (by decide)]
  walk_at "g"
  rw [if_pos (by rfl)]
  walk_at "g"
  exact ⟨W,S,c,pg,R,N,ag,bs,i,rfl,dok,L,LRet.less k (Nat.le_add_right _ _)⟩
 | sweep=>
  change Rd H t (.tup [.str "sweep"]) at rt
  walk_at "g"
  rw [if_neg (by decide)]
  walk_at "g"
  rw [if_neg (by decide)]
  walk_at "g"
  rw [if_neg (by decide)]
  walk_at "g"
  rw [if_pos (by rfl)]
  walk_at "g"
  exact ⟨W,S,c,pg,R,N,ag,bs,rfl,L,so,si,hN,k⟩
 | stop i=>
  change Rd H t (.tup [.str "stop",.int (i:Int)]) at rt
  have il:i<c:=dok
  have il':i<S.hs.length:=by rw [ok.len];exact il
  obtain ⟨h,hi⟩:∃ h,S.hs[i]?=some h:=⟨_,lad il'⟩
  walk_at "g"
  rw [if_neg (by decide)]
  walk_at "g"
  rw [if_neg (by decide)]
  walk_at "g"
  rw [if_neg (by decide)]
  walk_at "g"
  rw [if_neg (by decide)]
  walk_at "g"
  refine bu I.gd kF ?_
  walk_at "g"
  refine bp (b7 I.gU) (nQ hi) ?_
  walk_at "g"
  rw [if_pos (by rfl)]
  walk_at "g"
  refine j9 ?_
  walk_at "g"
  refine bu I.gd kF ?_
  walk_at "g"
  refine kf I.gU (by rw [laa];exact il') ?_
  obtain ⟨J,cj⟩:=I.setUp hi false
  have rt1:=rt.chgT cj
  generalize upd H W.U _=H1 at *
  walk_at "g"
  intro p hp
  have hi1:(S.put i { h with up:=false }).hs[i]?=some { h with up:=false }:=cS hi
  obtain ⟨J2,cj2⟩:=J.clear hi1 il hp
  rw [d_] at J2
  have sp:Same H1 (upd H1 p (.dK [])):=Same.new hp
  have gd1:upd H1 p (.dK []) W.d=_:=sp _ _ J.gd
  have gV1:upd H1 p (.dK []) W.V=_:=sp _ _ J.gV
  have rt2:=rt1.same sp
  refine j9 ?_
  walk_at "g"
  refine bu gd1 zt ?_
  walk_at "g"
  refine kf gV1 (by rw [laa,laq];exact il) ?_
  have M1:LMove H W R H1 W _ c pg R N:=.of J cj (Stays.refl _)
  have M2:LMove H1 W R _ (W.clear i p) (S.put i h.stop) c pg (p::R) N:=⟨J2,cj2,fun x hx=>(List.mem_cons.mp hx).elim (fun z=>.inr (z▸hp)) .inl,fun x hx=>lac _ hx,⟨rfl,rfl,rfl,rfl,rfl,rfl⟩⟩
  walk_at "g"
  have k':=LRet.less (M:=N) k (Nat.le_add_right _ _)
  have ed:S.do (.stop i)=if h.up=true then (S.put i h.stop,.bl true) else (S,.bl false):=by
   show S.stop i=_
   unfold HallS.stop
   rw [hi]
  rw [ed] at k'
  cases hup:h.up with
  | true=>
   rw [hup,if_pos rfl] at k'
   exact k' _ _ _ _ (M1.trans M2) (.bl _) (fO _ _)
  | false=>
   rw [hup,if_neg (by decide)] at k'
   have MA:=M1.trans M2
   rw [yY hup (cu i h hi hup),dB hi] at MA
   exact k' _ _ _ _ MA (.bl _) (fO _ _)
 | query i n=>
  change Rd H t (.tup [.str "query",.int (i:Int),.int n]) at rt
  have il:i<c:=dok
  have il':i<S.hs.length:=by rw [ok.len];exact il
  obtain ⟨h,hi⟩:∃ h,S.hs[i]?=some h:=⟨_,lad il'⟩
  obtain ⟨hn,ho⟩:=ok.num i h hi
  have hbl:=L.bl i h hi
  have k':=LRet.less (M:=N) k (Nat.le_add_right _ _)
  have ed:S.do (.query i n)=(S.send (h.query n),.bl (decide (0<(h.query n).length))):=by
   show S.query i n=_
   unfold HallS.query
   rw [hi]
  rw [ed] at k'
  have rb:Rep H [] (.ref (W.bk i)) (cy h.book):=.lst (.inl (I.gb il)) (by simp) (I.bs i h hi)
  obtain ⟨s0,hs0,hf⟩:=eM L.inv hi n
  have okw:=jn hs0 hf
  have eq:h.query n=if h.up=true∧aq h.book n=[("yes":Str)] then gf (i:Int) c n "query" else []:=by
   unfold HS.query
   by_cases u:h.up=true∧aq h.book n=[("yes":Str)]
   ·rw [if_pos u,if_pos ⟨u.1,(qQ L.inv hi n).mpr u.2⟩,eL hn ho]
   ·rw [if_neg u,if_neg fun z=>u ⟨z.1,(qQ L.inv hi n).mp z.2⟩]
  have epos:decide (0<(h.query n).length)=decide (h.up=true∧aq h.book n=[("yes":Str)]):=by
   rw [eq]
   split
   ·rename_i u
    rw [decide_eq_true u,decide_eq_true_iff]
    unfold gf
    rw [laa]
    have:=n6 (m:=(i:Int)) (c:=c) (by omega) (by omega)
    omega
   ·rename_i u
    rw [decide_eq_false u];rfl
  rw [epos] at k'
  walk_at "g"
  rw [if_neg (by decide)]
  walk_at "g"
  rw [if_neg (by decide)]
  walk_at "g"
  rw [if_neg (by decide)]
  walk_at "g"
  rw [if_neg (by decide)]
  walk_at "g"
  refine bu I.gd kF ?_
  walk_at "g"
  refine bp (b7 I.gU) (nQ hi) ?_
  walk_at "g"
  rw [if_neg (by decide)]
  walk_at "s"
  refine dI (fun σ' H'=>σ'=[some (.ref W.d),some (.ref t),some (.bl h.up),some (.bl (decide (h.up=true∧aq h.book n=[("yes":Str)])))]∧Same H H') ?_ ?_
  ·walk_at "g"
   cases hup:h.up with
   | false=>
    rw [if_neg (by decide)]
    walk_at "g"
    exact ⟨by simp;rfl,Same.refl _⟩
   | true=>
    rw [if_pos rfl]
    walk_at "g"
    refine bu I.gd pR ?_
    walk_at "g"
    refine bp (b7 I.gB) (j2 il) ?_
    walk_at "g"
    refine ⟨W.bk i,h.book,n,rfl,rb,las hbl (by decide),fun pw H1 hpw s1 g1=>?_⟩
    walk_at "A"
    rename_i py hpy H2 s2 g2
    refine mN (xs:=aq h.book n) (ys:=[("yes":Str)]) (.inl (s2 _ _ g1)) (.inl g2) okw (ni (by simp)) ?_
    walk_at "g"
    exact ⟨by simp;rfl,s1.trans s2⟩
  rintro σ' H1 ⟨rfl,s1⟩
  have I1:=I.same s1
  have rt1:=rt.same s1
  have M1:LMove H W R H1 W S c pg R N:=.of I1 (.of_same s1) (Stays.refl _)
  by_cases u:h.up=true∧aq h.book n=[("yes":Str)]
  ·rw [eq,if_pos u,decide_eq_true u] at k'
   rw [decide_eq_true u]
   refine dI (fun σ' H'=>∃ W',σ'=[some (.ref W.d),some (.ref t),some (.bl h.up),some (.bl true)]∧LMove H W R H' W' (S.send (gf (i:Int) c n "query")) c pg R N) ?_ ?_
   ·walk_at "g"
    rw [if_pos rfl]
    walk_at "g"
    refine bu I1.gd oA ?_
    refine ⟨.inl ⟨rfl,_,b7 I1.gl⟩,?_⟩
    walk_at "g"
    refine bu I1.gd t6 ?_
    walk_at "g"
    refine ⟨(i:Int),c,n,"query",rfl,by omega,fun p zs H2 s2 hp g2 rz=>?_⟩
    walk_at "g"
    have hyl:W.ys.length=S.ls.length:=by rw [I.ls.length,laa]
    have hzl:zs.length≤20:=by
     rw [rz.length,laa];unfold gf;rw [laa]
     exact las (fG _ _) hc2
    have I2:=I1.same s2
    refine eP I2.gl g2 (by rw [sizeLine_eq];omega) ?_
    obtain ⟨J,cj⟩:=I2.send rz
    exact ⟨_,rfl,(M1.then_same s2).trans (.of J cj ⟨rfl,rfl,rfl,rfl,rfl,rfl⟩)⟩
   ·rintro σ' H2 ⟨W',rfl,M⟩
    walk_at "g"
    exact k' _ _ _ _ M (.bl _) (fO _ _)
  ·rw [eq,if_neg u,decide_eq_false u,zT] at k'
   rw [decide_eq_false u]
   refine dI (fun σ' H'=>σ'=[some (.ref W.d),some (.ref t),some (.bl h.up),some (.bl false)]∧H'=H1) ?_ ?_
   ·walk_at "g"
    rw [if_neg (by decide)]
    walk_at "g"
    exact ⟨rfl,rfl⟩
   ·rintro σ' H2 ⟨rfl,rfl⟩
    walk_at "g"
    exact k' _ _ _ _ M1 (.bl _) (fO _ _)
section
variable (K:W.Frag)
theorem vq:W.kitOne K (.type "list") (.type "bool")=some false:=by with_unfolding_all rfl
theorem Bp:W.kitOne K (.type "int") (.type "tuple")=some false:=by with_unfolding_all rfl
end
def kW:Ans→Prop
 | .lines ls=>gx ls∧ls.length≤900000
 | .pairs ps=>(∀ p∈ps,gQ p.2.1)∧ps.length≤900000
 | _=>True
theorem lj{w:Str}(h:gQ w):PyData.strOk w=true:=by rcases h with rfl | rfl | rfl | rfl | rfl <;> exact jm (by simp)
theorem ul{l:aW}(ok:PyData.strOk l.1=true):SeqAt.shaped (bZ l)=true:=by
 unfold SeqAt.shaped
 simp [bZ,PyData.canLay0,PyData.canLayAll0,PyData.depth,PyData.depthAll,ok]
theorem r_{x:Int×aW}(ok:PyData.strOk x.2.1=true):SeqAt.shaped (cY x)=true:=by
 unfold SeqAt.shaped
 simp [cY,bZ,PyData.canLay0,PyData.canLayAll0,PyData.depth,PyData.depthAll,ok]
def iK:Sp:=fun vs H Q _=>∃ x y a,vs=[x,y]∧Rep H [] x (Ans.D a)∧Rep H [] y (Ans.D a)∧kW a∧∀ H',Same H H'→Q (.bl true) H'
theorem Ix(h:iK vs H Q E):xO K cN d3 { nx:=fun _ H'=>Q .non H',rt:=Q } (start ["_law_found","_law_due","_law_k","_law_part"] vs) H:=by
 obtain ⟨x,y,a,rfl,rx,ry,ok,k⟩:=h
 unfold xO
 cases a with
 | non=>
  cases rx.non_inv
  cases ry.non_inv
  walk_at "g"
  rw [if_pos (by simp)]
  walk_at "g"
  rw [decide_eq_true rfl]
  exact k H (Same.refl _)
 | bl b=>
  cases rx.bl_inv
  cases ry.bl_inv
  walk_at "g"
  rw [if_neg (by simp)]
  walk_at "g"
  refine ⟨_,_,_,true,rfl,TyO.bl _,cF _ _,?_⟩
  walk_at "g"
  rw [if_pos rfl]
  walk_at "g"
  refine ⟨_,_,_,true,rfl,TyO.bl _,cF _ _,?_⟩
  walk_at "g"
  rw [if_pos rfl]
  walk_at "g"
  refine ⟨.bool b,.bool b,.bl b,.bl b,by cases b <;> decide,by cases b <;> decide,?_⟩
  have:PyData.eqv (.bool b) (.bool b)=true:=SeqAt.eqv_refl _ (SeqAt.canLay_of_shaped (by cases b <;> decide))
  rw [this]
  exact k H (Same.refl _)
 | lines ls=>
  obtain ⟨a1,xs,rfl,g1,_,r1⟩:=Rep.lst_inv (ds:=ls.map bZ) rx
  obtain ⟨a2,ys,rfl,g2,_,r2⟩:=Rep.lst_inv (ds:=ls.map bZ) ry
  obtain ⟨hw,hl⟩:=ok
  have l1:xs.length=ls.length:=by rw [r1.length,laa]
  have l2:ys.length=ls.length:=by rw [r2.length,laa]
  walk_at "g"
  rw [if_neg (by simp)]
  walk_at "g"
  refine ⟨_,_,_,false,rfl,TyO.list g2,vq _,?_⟩
  walk_at "g"
  rw [if_neg (by decide)]
  walk_at "g"
  refine ⟨_,_,_,true,rfl,TyO.list g1,cF _ _,?_⟩
  walk_at "g"
  rw [if_neg (by decide)]
  walk_at "g"
  rw [if_neg (by simp [l1,l2])]
  walk_at "g"
  refine eU (by omega) ?_
  refine fe (n:=ys.length) (fun i σ H'=>∃ v w,σ=[some (.ref a1),some (.ref a2),v,w]∧Same H H') ⟨none,none,rfl,Same.refl _⟩ ?_ ?_
  ·rintro i σ H2 hi ⟨v,w,rfl,s2⟩
   have e0:((0:Int)+(i:Int))=(i:Int):=Int.zero_add _
   rw [e0]
   obtain ⟨e1,he1⟩:∃ e,xs[i]?=some e:=⟨xs[i]'(by omega),lad _⟩
   obtain ⟨e2,he2⟩:∃ e,ys[i]?=some e:=⟨ys[i],lad _⟩
   obtain ⟨l,t1,hl1,rfl,rt1⟩:=gG (r1.same s2) he1
   obtain ⟨l',t2,hl2,rfl,rt2⟩:=gG (r2.same s2) he2
   rw [hl1] at hl2
   cases hl2
   have hlw:=hw l (lam hl1)
   walk_at "g"
   refine bp (dG (g1.same s2)) (cf he1) ?_
   walk_at "s"
   refine dI (fun σ' H'=>σ'=[some (.ref a1),some (.ref a2),some (.int (i:Int)),some (.ref t1)]∧H'=H2) ?_ ?_
   ·walk_at "g"
    refine bp (dG (g2.same s2)) (cf he2) ?_
    walk_at "g"
    refine ⟨_,_,_,false,rfl,TyO.int _,Bp _,?_⟩
    walk_at "g"
    rw [if_neg (by decide)]
    walk_at "g"
    exact ⟨rfl,rfl⟩
   ·rintro σ' H' ⟨rfl,rfl⟩
    walk_at "g"
    refine ⟨t1,l.1,l.2,rfl,rt1,hlw,fun H3 s3=>?_⟩
    walk_at "g"
    rw [if_neg (by decide)]
    walk_at "g"
    refine bp (dG ((g1.same s2).same s3)) (cf he1) ?_
    walk_at "g"
    refine bp (dG ((g2.same s2).same s3)) (cf he2) ?_
    have sh:=ul (lj hlw)
    refine ⟨bZ l,bZ l,.tup (rt1.same s3) (.cons (.str _) (.cons (.int _) .nil)),.tup (rt2.same s3) (.cons (.str _) (.cons (.int _) .nil)),sh,sh,?_⟩
    rw [SeqAt.eqv_refl _ (SeqAt.canLay_of_shaped sh)]
    walk_at "g"
    rw [if_neg (by decide)]
    walk_at "g"
    exact ⟨_,_,rfl,s2.trans s3⟩
  ·rintro σ H2 ⟨v,w,rfl,s2⟩
   walk_at "g"
   exact k H2 s2
 | pairs ls=>
  obtain ⟨a1,xs,rfl,g1,_,r1⟩:=Rep.lst_inv (ds:=ls.map cY) rx
  obtain ⟨a2,ys,rfl,g2,_,r2⟩:=Rep.lst_inv (ds:=ls.map cY) ry
  obtain ⟨hw,hl⟩:=ok
  have l1:xs.length=ls.length:=by rw [r1.length,laa]
  have l2:ys.length=ls.length:=by rw [r2.length,laa]
  walk_at "g"
  rw [if_neg (by simp)]
  walk_at "g"
  refine ⟨_,_,_,false,rfl,TyO.list g2,vq _,?_⟩
  walk_at "g"
  rw [if_neg (by decide)]
  walk_at "g"
  refine ⟨_,_,_,true,rfl,TyO.list g1,cF _ _,?_⟩
  walk_at "g"
  rw [if_neg (by decide)]
  walk_at "g"
  rw [if_neg (by simp [l1,l2])]
  walk_at "g"
  refine eU (by omega) ?_
  refine fe (n:=ys.length) (fun i σ H'=>∃ v w,σ=[some (.ref a1),some (.ref a2),v,w]∧Same H H') ⟨none,none,rfl,Same.refl _⟩ ?_ ?_
  ·rintro i σ H2 hi ⟨v,w,rfl,s2⟩
   have e0:((0:Int)+(i:Int))=(i:Int):=Int.zero_add _
   rw [e0]
   obtain ⟨e1,he1⟩:∃ e,xs[i]?=some e:=⟨xs[i]'(by omega),lad _⟩
   obtain ⟨e2,he2⟩:∃ e,ys[i]?=some e:=⟨ys[i],lad _⟩
   obtain ⟨l,t1,u1,hl1,rfl,rt1,ru1⟩:=uX (r1.same s2) he1
   obtain ⟨l',t2,u2,hl2,rfl,rt2,ru2⟩:=uX (r2.same s2) he2
   rw [hl1] at hl2
   cases hl2
   have hlw:=hw l (lam hl1)
   walk_at "g"
   refine bp (dG (g1.same s2)) (cf he1) ?_
   walk_at "s"
   refine dI (fun σ' H'=>σ'=[some (.ref a1),some (.ref a2),some (.int (i:Int)),some (.ref u1)]∧H'=H2) ?_ ?_
   ·walk_at "g"
    refine bp (dG (g2.same s2)) (cf he2) ?_
    walk_at "g"
    refine ⟨_,_,_,true,rfl,TyO.tup ru2,cF _ _,?_⟩
    walk_at "g"
    rw [if_pos rfl]
    walk_at "g"
    refine ⟨_,_,_,true,rfl,TyO.tup rt1,cF _ _,?_⟩
    walk_at "g"
    rw [if_neg (by decide)]
    refine jc (nN (nM (jd (j8 (by rfl) (kd (jX (oB rt1) ?_))))))
    walk_at "g"
    rw [if_neg (by simp)]
    walk_at "g"
    refine ⟨_,rfl,?_⟩
    walk_at "g"
    rw [if_neg (by decide)]
    walk_at "g"
    exact ⟨rfl,rfl⟩
   ·rintro σ' H' ⟨rfl,rfl⟩
    walk_at "g"
    refine ⟨u1,l.2.1,l.2.2,rfl,ru1,hlw,fun H3 s3=>?_⟩
    walk_at "g"
    rw [if_neg (by decide)]
    walk_at "g"
    refine bp (dG ((g1.same s2).same s3)) (cf he1) ?_
    walk_at "g"
    refine bp (dG ((g2.same s2).same s3)) (cf he2) ?_
    have sh:=r_ (lj hlw)
    refine ⟨cY l,cY l,.tup (rt1.same s3) (.cons (.int _) (.cons (.tup (ru1.same s3) (.cons (.str _) (.cons (.int _) .nil))) .nil)),.tup (rt2.same s3) (.cons (.int _) (.cons (.tup (ru2.same s3) (.cons (.str _) (.cons (.int _) .nil))) .nil)),sh,sh,?_⟩
    rw [SeqAt.eqv_refl _ (SeqAt.canLay_of_shaped sh)]
    walk_at "g"
    rw [if_neg (by decide)]
    walk_at "g"
    exact ⟨_,_,rfl,s2.trans s3⟩
  ·rintro σ H2 ⟨v,w,rfl,s2⟩
   walk_at "g"
   exact k H2 s2
def gT(K:W.Frag):Sp:=fun vs H Q _=>∃ (a:Addr) (xs:List V) (m b:Int),vs=[.ref a,.int m,.int b]∧SqL K H a xs∧xs.length≤63∧Q (.int m) H
theorem Gy(h:gT K vs H Q E):xG K { nx:=fun _ H'=>Q .non H',rt:=Q } (start ["_law_script","_law_most","_law_bound"] vs) H:=by
 obtain ⟨a,xs,m,b,rfl,g,hl,k⟩:=h
 unfold xG
 walk_at "g"
 rw [if_neg (by simp;omega)]
 walk_at "g"
 exact k
theorem mT(h:bY (fun _=>True) vs H Q E):eI K dY { nx:=fun _ H'=>Q .non H',rt:=Q } (start ["_law_cell"] vs) H:=by
 obtain ⟨z,rfl,k⟩:=h
 unfold eI
 walk_at "g"
 by_cases e:z*48271 % 1097 % 5=1
 ·rw [if_pos (by simp [e])]
  walk_at "g"
  refine ⟨_,_,rfl,rfl,by decide,by decide,by decide,by decide,by decide +kernel,?_⟩
  refine ⟨_,_,rfl,rfl,by decide +kernel,?_⟩
  walk_at "g"
  refine ⟨_,10 ^ 70,rfl,by decide +kernel,by decide +kernel,?_⟩
  refine fI (show (0:Int)<10 ^ 70 by decide) ?_
  exact k _ H True.intro (Same.refl _)
 ·rw [if_neg (by simp [e])]
  walk_at "g"
  refine ⟨rfl,fun p H1 hp s1 g1=>?_⟩
  obtain ⟨v,hv,hat⟩:=p9 (xs:=allB.map V.int) (r:=z*48271 % 1009 % 4) (by omega) (by show _<(4:Int);omega)
  obtain ⟨n,hn,rfl⟩:=laA.mp hv
  walk_at "g"
  exact k n H1 True.intro s1
structure C3(H H':Hp)(p:Addr)(i:Nat)(f:Nat→Addr)(o:HO):Prop where
 same:Same H H'
 at_:∀ j,j<i→H' (f j)=some o
 inj:∀ j k,j<i→k<i→f j=f k→j=k
 fr:∀ j,j<i→H (f j)=none∧f j≠p
theorem r6{o:HO}{te:TE}(hte:∀ (σ:St) (H:Hp) (Q:VK),(∀ t,H t=none→Q (.ref t) (upd H t o))→te σ H Q){c:Nat}(hc:c≤1000){H:Hp}{p:Addr}(hp:H p=none){Q:VK}
  (k:∀ f H',C3 H H' p c f o→H' p=some (.lst ((List.range c).map fun j=>.ref (f j)))→Q (.ref p) H'):nO (pL 0 c) (az 0) fK te [none] H Q p:=by
 refine km (n:=c) (fun i ys σ H'=>∃ v f,σ=[v]∧ys=(List.range i).map (fun j=>V.ref (f j))∧C3 H H' p i f o) ⟨none,fun _=>0,rfl,rfl,Same.new hp,fun j hj=>absurd hj (Nat.not_lt_zero _),fun j k hj=>absurd hj (Nat.not_lt_zero _),fun j hj=>absurd hj (Nat.not_lt_zero _)⟩ ?_ ?_
 ·rintro i ys σ H1 hi hp1 ⟨v,f,rfl,rfl,I⟩
  refine oy (p6 ?_)
  rw [if_pos rfl]
  refine hte _ _ _ fun t ht=>?_
  have hp2:upd H1 t o p=some (.lst ((List.range i).map fun j=>V.ref (f j))):=bo (ca ht hp1) hp1
  have npt:t≠p:=(ca ht hp1).symm
  have ht0:H t=none:=I.same.free ht
  refine ⟨_,hp2,bg (by rw [laa,laq];omega),_,ax,_,(fun j=>if j=i then t else f j),rfl,?_,(I.same.trans (Same.new ht)).put hp,fun j hj=>?_,fun j k hj hk e=>?_,fun j hj=>?_⟩
  ·rw [List.range_succ,lai]
   congr 1
   ·refine List.map_congr_left fun j hj=>?_
    rw [laB] at hj
    show V.ref (f j)=V.ref (if j=i then t else f j)
    rw [if_neg (by omega)]
   ·show _=[V.ref (if i=i then t else f i)]
    rw [if_pos rfl]
  ·show upd (upd H1 t o) p _ (if j=i then t else f j)=some o
   by_cases e:j=i
   ·rw [if_pos e];exact bo npt ax
   ·rw [if_neg e]
    exact bo (I.fr j (by omega)).2 (bo (ca ht (I.at_ j (by omega))) (I.at_ j (by omega)))
  ·have nt:∀ j,j<i→f j≠t:=fun j hj=>ca ht (I.at_ j hj)
   change (if j=i then t else f j)=(if k=i then t else f k) at e
   by_cases e1:j=i
   ·by_cases e2:k=i
    ·omega
    ·rw [if_pos e1,if_neg e2] at e
     exact absurd e.symm (nt k (by omega))
   ·by_cases e2:k=i
    ·rw [if_neg e1,if_pos e2] at e
     exact absurd e (nt j (by omega))
    ·rw [if_neg e1,if_neg e2] at e
     exact I.inj j k (by omega) (by omega) e
  ·show H (if j=i then t else f j)=none∧_≠p
   by_cases e:j=i
   ·rw [if_pos e];exact ⟨ht0,npt⟩
   ·rw [if_neg e];exact I.fr j (by omega)
 ·rintro ys σ H1 hp1 ⟨v,f,rfl,rfl,I⟩
  exact k f H1 I hp1
def rK(pg:Addr)(c:Nat)(l:Addr):List (aN×V):=[(Sum.inr "against",.ref pg),(Sum.inr "count",.int (c:Int)),(Sum.inr "letters",.ref l)]
theorem ji{a b:Addr}{o:HO}(h:upd H a o b=none):H b=none:=by
 by_cases e:b=a
 ·rw [e,ax] at h;cases h
 ·rw [bB e] at h;exact h
def rk(Hs:List Hp)(a:Addr):Nat:=(Hs.map fun H=>(H a).isNone.toNat).sum
theorem zm(c:Nat):(List.replicate ((c:Int)).toNat [V.bl true]).flatten=List.replicate c (V.bl true):=by
 rw [Int.toNat_natCast]
 induction c with
 | zero=>rfl
 | succ c ih=>rw [List.replicate_succ,List.replicate_succ,List.flatten_cons,ih];rfl
theorem n5(hi:(bc c ag).hs[i]?=some h):i<c∧h=i4 (i:Int) c (dL ag (i:Int)):=by
 change ((List.range c).map _)[i]?=some h at hi
 rw [lae] at hi
 by_cases e:i<c
 ·rw [laD e] at hi;cases hi;exact ⟨e,rfl⟩
 ·rw [List.getElem?_eq_none (by simp;omega)] at hi;cases hi
def iq:Sp:=fun vs H Q _=>∃ (c:Nat) (pg:Addr) (ag:List (Int×Int)),vs=[.int (c:Int),.ref pg]∧c≤20∧∀ H' W R,LRep H' W (bc c ag) c pg R 0→Same H H'→(∀ a∈R,H a=none)→Q (.ref W.d) H'
theorem Im(h:iq vs H Q E):wy K { nx:=fun _ H'=>Q .non H',rt:=Q } (start ["_law_count","_law_against","_law_hall"] vs) H:=by
 obtain ⟨c,pg,ag,rfl,hc,k⟩:=h
 unfold wy
 walk_at "g"
 intro d hd
 simp only [oQ]
 walk_at "g"
 intro l hl
 have nld:l≠d:=fun e=>by rw [e,ax] at hl;cases hl
 refine ⟨bo nld.symm ax,rK pg c l,rfl,(by show 3≤15;decide),?_⟩
 have e3:j6 [] (rK pg c l)=rK pg c l:=by with_unfolding_all rfl
 rw [e3]
 generalize hk3:rK pg c l=k3
 have m1:∀ a,upd H d (.dK []) a=none→H a=none:=fun a=>ji
 have g1:upd H d (.dK []) d≠none:=by rw [ax];intro z;cases z
 have g1':upd H d (.dK []) l=none:=hl
 generalize hA:upd H d (.dK [])=A at *
 have m2:∀ a,upd (upd A l (.lst [])) d (.dK k3) a=none→A a=none:=fun a z=>ji (ji z)
 have gl2:upd (upd A l (.lst [])) d (.dK k3) l=some (.lst []):=bo nld ax
 have gd2:upd (upd A l (.lst [])) d (.dK k3) d=some (.dK k3):=ax
 have sHA:∀ a o,H a=some o→A a=some o:=fun a o e=>by rw [← hA];exact Same.new hd a o e
 have sH2:∀ a o,H a=some o→upd (upd A l (.lst [])) d (.dK k3) a=some o:=fun a o e=>bo (bF e hd) (bo (bF (sHA a o e) g1') (sHA a o e))
 generalize upd (upd A l (.lst [])) d (.dK k3)=B at *
 walk_at "g"
 refine eU (by omega) ?_
 intro pB hpB
 refine r6 (o:=.lst []) (c:=c) (fun σ H Q h=>by walk_at "g";exact h) (by omega) hpB fun fB C nB gB=>?_
 walk_at "g"
 have gdC:=nB.same _ _ gd2
 refine ⟨d,_,rfl,DPut.k (k:=Sum.inr "books") gdC (by rw [← hk3];exact bg (by show _≤_;simp [rK])),?_⟩
 have e4:cr k3 (Sum.inr "books":aN) (V.ref pB)=k3++[((Sum.inr "books":aN),V.ref pB)]:=og _ (by rw [← hk3];with_unfolding_all rfl)
 rw [e4]
 have gd3:upd C d (.dK (k3++[((Sum.inr "books":aN),V.ref pB)])) d=some (.dK (k3++[((Sum.inr "books":aN),V.ref pB)])):=ax
 have k23:∀ a o,a≠d→C a=some o→upd C d (.dK (k3++[((Sum.inr "books":aN),V.ref pB)])) a=some o:=fun a o n e=>bo n e
 have m3:∀ a,upd C d (.dK (k3++[((Sum.inr "books":aN),V.ref pB)])) a=none→C a=none:=fun a=>ji
 generalize upd C d (.dK (k3++[((Sum.inr "books":aN),V.ref pB)]))=C' at *
 walk_at "g"
 refine eU (by omega) ?_
 intro pV hpV
 refine r6 (o:=.dK []) (c:=c) (fun σ H Q h=>by walk_at "g";exact h) (by omega) hpV fun fV D nV gV=>?_
 walk_at "g"
 have gdD:=nV.same _ _ gd3
 refine ⟨d,_,rfl,DPut.k (k:=Sum.inr "votes") gdD (by rw [← hk3];exact bg (by show _≤_;simp [rK])),?_⟩
 have e5:cr (k3++[((Sum.inr "books":aN),V.ref pB)]) (Sum.inr "votes":aN) (V.ref pV)=k3++[((Sum.inr "books":aN),V.ref pB)]++[((Sum.inr "votes":aN),V.ref pV)]:=og _ (by rw [← hk3];with_unfolding_all rfl)
 rw [e5]
 have gd4:upd D d (.dK (k3++[((Sum.inr "books":aN),V.ref pB)]++[((Sum.inr "votes":aN),V.ref pV)])) d=some (.dK (k3++[((Sum.inr "books":aN),V.ref pB)]++[((Sum.inr "votes":aN),V.ref pV)])):=ax
 have k34:∀ a o,a≠d→D a=some o→upd D d (.dK (k3++[((Sum.inr "books":aN),V.ref pB)]++[((Sum.inr "votes":aN),V.ref pV)])) a=some o:=fun a o n e=>bo n e
 have m4:∀ a,upd D d (.dK (k3++[((Sum.inr "books":aN),V.ref pB)]++[((Sum.inr "votes":aN),V.ref pV)])) a=none→D a=none:=fun a=>ji
 generalize upd D d (.dK (k3++[((Sum.inr "books":aN),V.ref pB)]++[((Sum.inr "votes":aN),V.ref pV)]))=D' at *
 walk_at "g"
 intro px hpx
 have s5:Same D' (upd D' px (.lst [.bl true])):=Same.new hpx
 have g5:upd D' px (.lst [.bl true]) px=some (.lst [.bl true]):=ax
 generalize upd D' px (.lst [.bl true])=F at *
 walk_at "g"
 refine ⟨px,_,_,rfl,rfl,g5,by omega,by omega,by rw [sizeLine_eq];show 1*_≤_;omega,fun pU hpU=>?_⟩
 rw [zm]
 have s6:Same F (upd F pU (.lst (List.replicate c (.bl true)))):=Same.new hpU
 have g6:upd F pU (.lst (List.replicate c (.bl true))) pU=some (.lst (List.replicate c (.bl true))):=ax
 generalize upd F pU (.lst (List.replicate c (.bl true)))=G at *
 walk_at "g"
 have s56:=s5.trans s6
 have gdG:=s56 _ _ gd4
 refine ⟨d,_,rfl,DPut.k (k:=Sum.inr "up") gdG (by rw [← hk3];exact bg (by show _≤_;simp [rK])),?_⟩
 have e6:cr (k3++[((Sum.inr "books":aN),V.ref pB)]++[((Sum.inr "votes":aN),V.ref pV)]) (Sum.inr "up":aN) (V.ref pU)=hK pg c l pB pV pU:=by
  rw [og _ (by rw [← hk3];with_unfolding_all rfl),← hk3];rfl
 rw [e6]
 have gd7:upd G d (.dK (hK pg c l pB pV pU)) d=some (.dK (hK pg c l pB pV pU)):=ax
 have k67:∀ a o,a≠d→G a=some o→upd G d (.dK (hK pg c l pB pV pU)) a=some o:=fun a o n e=>bo n e
 generalize upd G d (.dK (hK pg c l pB pV pU))=Z at *
 have nz:∀ {X:Hp} {a:Addr} {o:HO},X a=some o→X a≠none:=fun e z=>by rw [e] at z;cases z
 -- ranks: at which of the heaps an address is still free
 have n0:∀ (X:Hp) a,X a=none→(X a).isNone.toNat=1:=fun X a e=>by rw [e];rfl
 have n1:∀ (X:Hp) a,X a≠none→(X a).isNone.toNat=0:=fun X a e=>by cases h:X a with | none=>exact absurd h e | some o=>rfl
 have rD:rk [H,A,B,C',F] d=1:=by
  simp only [rk,List.map_cons,List.map_nil,List.sum_cons,List.sum_nil]
  rw [n0 H d hd,n1 A d g1,n1 B d (nz gd2),n1 C' d (nz gd3),n1 F d (nz (s5 _ _ gd4))];rfl
 have rL:rk [H,A,B,C',F] l=2:=by
  have c1:=nz (nB.same _ _ gl2)
  have c2:C' l≠none:=fun z=>c1 (m3 _ z)
  have c3:F l≠none:=fun z=>c2 (nV.same.free (m4 _ (s5.free z)))
  simp only [rk,List.map_cons,List.map_nil,List.sum_cons,List.sum_nil]
  rw [n0 H l (m1 _ g1'),n0 A l g1',n1 B l (nz gl2),n1 C' l c2,n1 F l c3];rfl
 have atB:∀ a,B a=none→C a≠none→rk [H,A,B,C',F] a=3:=fun a b1 b2=>by
  have c2:C' a≠none:=fun z=>b2 (m3 _ z)
  have c3:F a≠none:=fun z=>c2 (nV.same.free (m4 _ (s5.free z)))
  simp only [rk,List.map_cons,List.map_nil,List.sum_cons,List.sum_nil]
  rw [n0 H a (m1 _ (m2 _ b1)),n0 A a (m2 _ b1),n0 B a b1,n1 C' a c2,n1 F a c3];rfl
 have atV:∀ a,C' a=none→D a≠none→rk [H,A,B,C',F] a=4:=fun a b1 b2=>by
  have c3:F a≠none:=fun z=>b2 (m4 _ (s5.free z))
  have b0:=nB.same.free (m3 _ b1)
  simp only [rk,List.map_cons,List.map_nil,List.sum_cons,List.sum_nil]
  rw [n0 H a (m1 _ (m2 _ b0)),n0 A a (m2 _ b0),n0 B a b0,n0 C' a b1,n1 F a c3];rfl
 have rU:rk [H,A,B,C',F] pU=5:=by
  have b1:=nV.same.free (m4 _ (s5.free hpU))
  have b0:=nB.same.free (m3 _ b1)
  simp only [rk,List.map_cons,List.map_nil,List.sum_cons,List.sum_nil]
  rw [n0 H pU (m1 _ (m2 _ b0)),n0 A pU (m2 _ b0),n0 B pU b0,n0 C' pU b1,n0 F pU hpU];rfl
 have rB:=atB pB hpB (nz gB)
 have rb:∀ j,j<c→rk [H,A,B,C',F] (fB j)=3:=fun j hj=>atB _ (nB.fr j hj).1 (nz (nB.at_ j hj))
 have rV:=atV pV hpV (nz gV)
 have rv:∀ j,j<c→rk [H,A,B,C',F] (fV j)=4:=fun j hj=>atV _ (nV.fr j hj).1 (nz (nV.at_ j hj))
 have fre:∀ a,1≤rk [H,A,B,C',F] a→H a=none:=fun a h=>by
  cases e:H a with
  | none=>rfl
  | some o=>
   exfalso
   have c0:H a≠none:=nz e
   have c1:A a≠none:=fun z=>c0 (m1 _ z)
   have c2:B a≠none:=fun z=>c1 (m2 _ z)
   have c3:C' a≠none:=fun z=>c2 (nB.same.free (m3 _ z))
   have c4:F a≠none:=fun z=>c3 (nV.same.free (m4 _ (s5.free z)))
   simp only [rk,List.map_cons,List.map_nil,List.sum_cons,List.sum_nil] at h
   rw [n1 H a c0,n1 A a c1,n1 B a c2,n1 C' a c3,n1 F a c4] at h
   omega
 generalize hW:rk [H,A,B,C',F]=r at *
 have ned:∀ a,r a≠1→a≠d:=fun a h e=>h (by rw [e];exact rD)
 have kC:∀ a o,r a≠1→C a=some o→Z a=some o:=fun a o h e=>k67 _ _ (ned a h) (s56 _ _ (k34 _ _ (ned a h) (nV.same _ _ (k23 _ _ (ned a h) e))))
 have kD:∀ a o,r a≠1→D a=some o→Z a=some o:=fun a o h e=>k67 _ _ (ned a h) (s56 _ _ (k34 _ _ (ned a h) e))
 walk_at "g"
 refine k Z { d:=d,l:=l,B:=pB,V:=pV,U:=pU,bk:=fB,vt:=fV,ct:=fun _ _=>none,ys:=[],xs:=fun _=>[],kv:=fun _=>[] }
  (d::l::pB::pV::pU::((List.range c).map fB++(List.range c).map fV)) ⟨⟨fun s a e=>?_,fun s t a es et=>?_,fun s a e=>?_,fun a ha=>?_,LW.mu _ _ _ _⟩,.nil,fun i h hi=>?_,fun i n hi hv=>?_,fun i n v hi hv=>?_,fun i hi=>lat _⟩ (fun a o e=>?_) (fun a ha=>?_)
 ·cases s with
  | d=>cases e;exact gd7
  | l=>cases e;exact kC l _ (by rw [rL];decide) (nB.same _ _ gl2)
  | B=>cases e;exact kC pB _ (by rw [rB];decide) gB
  | V=>cases e;exact kD pV _ (by rw [rV];decide) gV
  | U=>
   cases e
   have:(bc c ag).hs.map (fun h=>V.bl h.up)=List.replicate c (V.bl true):=by
    show ((List.range c).map _).map _=_
    rw [List.map_map]
    exact List.eq_replicate_iff.mpr ⟨by simp,fun b hb=>by obtain ⟨_,_,rfl⟩:=laA.mp hb;rfl⟩
   show Z pU=some (.lst ((bc c ag).hs.map fun h=>V.bl h.up))
   rw [this]
   exact k67 _ _ (ned _ (by rw [rU];decide)) g6
  | bk i=>
   change (if i<c then some (fB i) else none)=some a at e
   split at e
   ·rename_i hi;cases e;exact kC _ _ (by rw [rb i hi];decide) (nB.at_ i hi)
   ·cases e
  | vt i=>
   change (if i<c then some (fV i) else none)=some a at e
   split at e
   ·rename_i hi;cases e;exact kD _ _ (by rw [rv i hi];decide) (nV.at_ i hi)
   ·cases e
  | ct i n=>
   change (if i<c then none else none)=some a at e
   split at e <;> cases e
 ·have st:∀ s a,(LW.mk d l pB pV pU fB fV (fun _ _=>none) [] (fun _=>[]) (fun _=>[])).ad c s=some a→r a=(match s with | .d=>1 | .l=>2 | .B=>3 | .V=>4 | .U=>5 | .bk _=>3 | .vt _=>4 | .ct _ _=>0):=fun s a e=>by
   cases s with
   | d=>cases e;exact rD
   | l=>cases e;exact rL
   | B=>cases e;exact rB
   | V=>cases e;exact rV
   | U=>cases e;exact rU
   | bk i=>
    change (if i<c then some (fB i) else none)=some a at e
    split at e
    ·rename_i hi;cases e;exact rb i hi
    ·cases e
   | vt i=>
    change (if i<c then some (fV i) else none)=some a at e
    split at e
    ·rename_i hi;cases e;exact rv i hi
    ·cases e
   | ct i n=>
    change (if i<c then none else none)=some a at e
    split at e <;> cases e
  have bkE:∀ i,(LW.mk d l pB pV pU fB fV (fun _ _=>none) [] (fun _=>[]) (fun _=>[])).ad c (.bk i)=some a→i<c∧a=fB i:=fun i e=>by
   change (if i<c then some (fB i) else none)=some a at e
   split at e
   ·rename_i hi;cases e;exact ⟨hi,rfl⟩
   ·cases e
  have vtE:∀ i,(LW.mk d l pB pV pU fB fV (fun _ _=>none) [] (fun _=>[]) (fun _=>[])).ad c (.vt i)=some a→i<c∧a=fV i:=fun i e=>by
   change (if i<c then some (fV i) else none)=some a at e
   split at e
   ·rename_i hi;cases e;exact ⟨hi,rfl⟩
   ·cases e
  have h1:=st s a es
  have h2:=st t a et
  rw [h1] at h2
  cases s <;> cases t <;> first | rfl | (exfalso;dsimp only at h2;omega) | skip
  ·rename_i i
   obtain ⟨hi,e⟩:=bkE i et
   cases es
   exact absurd e.symm (nB.fr i hi).2
  ·rename_i i
   obtain ⟨hi,e⟩:=vtE i et
   cases es
   exact absurd e.symm (nV.fr i hi).2
  ·rename_i i
   obtain ⟨hi,e⟩:=bkE i es
   cases et
   exact absurd e.symm (nB.fr i hi).2
  ·rename_i i j
   obtain ⟨hi,e⟩:=bkE i es
   obtain ⟨hj,e'⟩:=bkE j et
   rw [nB.inj i j hi hj (e.symm.trans e')]
  ·rename_i i
   obtain ⟨hi,e⟩:=vtE i es
   cases et
   exact absurd e.symm (nV.fr i hi).2
  ·rename_i i j
   obtain ⟨hi,e⟩:=vtE i es
   obtain ⟨hj,e'⟩:=vtE j et
   rw [nV.inj i j hi hj (e.symm.trans e')]
  ·rename_i i n j m
   change (if i<c then none else none)=some a at es
   split at es <;> cases es
 ·cases s with
  | d=>cases e;simp
  | l=>cases e;simp
  | B=>cases e;simp
  | V=>cases e;simp
  | U=>cases e;simp
  | bk i=>
   change (if i<c then some (fB i) else none)=some a at e
   split at e
   ·rename_i hi;cases e
    exact lac _ (lac _ (lac _ (lac _ (lac _ (lal _ (laA.mpr ⟨i,laB.mpr hi,rfl⟩))))))
   ·cases e
  | vt i=>
   change (if i<c then some (fV i) else none)=some a at e
   split at e
   ·rename_i hi;cases e
    exact lac _ (lac _ (lac _ (lac _ (lac _ (lak _ (laA.mpr ⟨i,laB.mpr hi,rfl⟩))))))
   ·cases e
  | ct i n=>
   change (if i<c then none else none)=some a at e
   split at e <;> cases e
 ·simp only [List.mem_cons,List.mem_append] at ha
  rcases ha with rfl | rfl | rfl | rfl | rfl | ha | ha
  ·exact ⟨_,gd7⟩
  ·exact ⟨_,kC _ _ (by rw [rL];decide) (nB.same _ _ gl2)⟩
  ·exact ⟨_,kC _ _ (by rw [rB];decide) gB⟩
  ·exact ⟨_,kD _ _ (by rw [rV];decide) gV⟩
  ·exact ⟨_,k67 _ _ (ned _ (by rw [rU];decide)) g6⟩
  ·obtain ⟨i,hi,rfl⟩:=laA.mp ha
   exact ⟨_,kC _ _ (by rw [rb i (laB.mp hi)];decide) (nB.at_ i (laB.mp hi))⟩
  ·obtain ⟨i,hi,rfl⟩:=laA.mp ha
   exact ⟨_,kD _ _ (by rw [rv i (laB.mp hi)];decide) (nV.at_ i (laB.mp hi))⟩
 ·obtain ⟨_,rfl⟩:=n5 hi
  exact .nil
 ·unfold de
  cases e:(bc c ag).hs[i]? with
  | none=>rfl
  | some h=>obtain ⟨_,rfl⟩:=n5 e;rfl
 ·cases hv
 ·have nd:a≠d:=fun z=>by rw [z,hd] at e;cases e
  exact k67 _ _ nd (s56 _ _ (k34 _ _ nd (nV.same _ _ (k23 _ _ nd (nB.same _ _ (sH2 _ _ e))))))
 ·refine fre a ?_
  simp only [List.mem_cons,List.mem_append] at ha
  rcases ha with rfl | rfl | rfl | rfl | rfl | ha | ha
  ·rw [rD];decide
  ·rw [rL];decide
  ·rw [rB];decide
  ·rw [rV];decide
  ·rw [rU];decide
  ·obtain ⟨i,hi,rfl⟩:=laA.mp ha
   rw [rb i (laB.mp hi)];decide
  ·obtain ⟨i,hi,rfl⟩:=laA.mp ha
   rw [rv i (laB.mp hi)];decide
def InB(S:HallS)(w:List (Int×aW)):Prop:=∀ p∈w,∃ (i:Nat) (h:HS),S.hs[i]?=some h∧p.2∈h.book
theorem InB.le{S S':HallS}{w:List (Int×aW)}(h:InB S w)(b:BookLe S S'):InB S' w:=fun p hp=>by
 obtain ⟨i,g,hi,hm⟩:=h p hp
 obtain ⟨g',hi',a,e⟩:=b i g hi
 exact ⟨i,g',hi',by rw [e];exact lal _ hm⟩
theorem InB.turn{w:List (Int×aW)}(h:InB S w)(k:Nat):InB (S.turn k).1 (w++(S.turn k).2):=fun p hp=>by
 rcases lap.mp hp with z | z
 ·exact h.le (.turn S k) p z
 ·unfold HallS.turn at z ⊢
  split at z
  ·cases z
  ·rename_i l hl
   dsimp only at z ⊢
   unfold HallS.carryL at z ⊢
   split at z
   ·cases z
   ·rename_i g hi
    split at z
    ·rename_i hu
     first | rw [if_pos hu] | skip
     obtain ⟨g',h1,h2⟩:=jf (S:=S) (r:=g.got l) (st:=true) hi
     obtain ⟨x,hx,rfl⟩:=laA.mp z
     exact ⟨_,g',h1,by rw [h2];exact List.mem_of_mem_drop hx⟩
    ·cases z
theorem qG:∀ (f:Nat) (S:HallS) (pl:Nat) (w:List (Int×aW)) (r:HallS×List (Int×aW)),InB S w→w.length≤pl→pl≤S.un.length→S.sweepGo f pl w=some r→InB r.1 r.2∧r.2.length≤r.1.un.length
 | 0,S,pl,w,r,hb,hw,hp,h=>by
  unfold HallS.sweepGo at h
  split at h
  ·cases h
  ·cases lan h;exact ⟨hb,by dsimp only;omega⟩
 | f+1,S,pl,w,r,hb,hw,hp,h=>by
  unfold HallS.sweepGo at h
  split at h
  ·rename_i lt
   have h1:=mV S S.un[pl]
   obtain ⟨_,ua,hua⟩:=iT S S.un[pl]
   refine qG f _ _ _ r (hb.turn _) ?_ ?_ h
   ·rw [laf];omega
   ·rw [hua,laf];omega
  ·cases lan h;exact ⟨hb,by dsimp only;omega⟩
theorem Cb{bs:List Int}(ok:HallOk c S){d:Deed}(I:Inv c ag (·∈bs) (S.do d).1)(hb:bs.length≤500)(hu:cx d=true→S.sweepR.1.un.length≤900000):kW (S.do d).2:=by
 have good:∀ (i:Nat) (h:HS) (k:Nat),(S.do d).1.hs[i]?=some h→gx (h.book.drop k)∧(h.book.drop k).length≤900000:=fun i h k hi=>by
  have hm:h.book∈(S.do d).1.hs.map fun h=>h.book:=laA.mpr ⟨h,lam hi,rfl⟩
  refine ⟨fun l hl=>(mW I hm).1 l (List.mem_of_mem_drop hl),?_⟩
  have:=pN I hm
  rw [List.length_drop];omega
 have nolines:gx ([]:List aW)∧([]:List aW).length≤900000:=⟨fun l hl=>(nomatch hl),laI _⟩
 cases d with
 | begin n st=>
  change Inv c ag (·∈bs) (S.begin n st).1 at I
  change ∀ (i:Nat) (h:HS) (k:Nat),(S.begin n st).1.hs[i]?=some h→_ at good
  show kW (S.begin n st).2
  unfold HallS.begin at good ⊢
  cases hi:S.hs[S.lead n]? with
  | none=>exact True.intro
  | some h=>
   rw [hi] at good
   dsimp only at good ⊢
   split
   ·rename_i hu
    rw [if_pos hu] at good
    obtain ⟨g,h1,h2⟩:=jf (S:=S) (r:=h.begin n) (st:=st) hi
    rw [← h2]
    exact good _ g _ h1
   ·exact True.intro
 | carry k st=>
  change ∀ (i:Nat) (h:HS) (k':Nat),(S.carry k st).1.hs[i]?=some h→_ at good
  show kW (S.carry k st).2
  unfold HallS.carry at good ⊢
  cases hl:S.ls[k.toNat]? with
  | none=>exact True.intro
  | some l=>
   rw [hl] at good
   dsimp only at good ⊢
   unfold HallS.carryL at good ⊢
   cases hi:S.hs[l.2.1.toNat]? with
   | none=>exact True.intro
   | some h=>
    rw [hi] at good
    dsimp only at good ⊢
    split
    ·rename_i hu
     rw [if_pos hu] at good
     obtain ⟨g,h1,h2⟩:=jf (S:=S) (r:=h.got l) (st:=st) hi
     rw [← h2]
     exact good _ g _ h1
    ·exact True.intro
 | query i n=>
  show kW (S.query i n).2
  unfold HallS.query
  cases S.hs[i]? <;> exact True.intro
 | stop i=>
  show kW (S.stop i).2
  unfold HallS.stop
  cases S.hs[i]? with
  | none=>exact True.intro
  | some h=>dsimp only;split <;> exact True.intro
 | wake i=>
  change ∀ (j:Nat) (h:HS) (k:Nat),(S.wake i).1.hs[j]?=some h→_ at good
  show kW (S.wake i).2
  unfold HallS.wake at good ⊢
  cases hi:S.hs[i]? with
  | none=>exact True.intro
  | some h=>
   rw [hi] at good
   dsimp only at good ⊢
   split
   ·exact True.intro
   ·rename_i hu
    rw [if_neg hu] at good
    exact good i h.wake.1 _ (cS hi)
 | sweep=>
  obtain ⟨h1,h2⟩:=qG S.fuel S 0 [] S.sweepR (fun p hp=>by cases hp) (lat _) (laI _) (eB ok).1
  refine ⟨fun p hp=>?_,las h2 (hu rfl)⟩
  obtain ⟨i,h,hi,hm⟩:=h1 p hp
  have:=(good i h 0 hi).1
  rw [List.drop_zero] at this
  exact this p.2 hm
theorem Fv(ag:List (Int×Int)){ds:List Deed}(h1:2≤c)(h2:c≤20)(hl:ds.length≤16)(D:DrawnAll (fun _=>True) c ds) :
  (bc c ag).roomyAll 0 ds∧∀ j,Cap ((bc c ag).run (ds.take j)).1 111872 107008∧(cW (ds.take j)=0→Cap ((bc c ag).run (ds.take j)).1 4864 4864):=by
 have I:=Inv.new (c:=c) ag (·∈fi ds) h1 h2
 have hbl:=mQ ds
 have hB:(fi ds).length*(c - 1)≤304:=las (Nat.mul_le_mul (las hbl hl) (show c - 1≤19 by omega)) (by decide)
 refine ⟨(wm (G:=304) (by omega) hB (by omega) ds _ 0 0 0 I (oJ ds) D.one (qa c ag) (by omega) (by omega)).1,fun j=>?_⟩
 have hj:(ds.take j).length≤16:=by rw [lax];omega
 have hin:∀ d∈ds.take j,iP (·∈fi ds) d:=fun d hd=>oJ ds d (List.mem_of_mem_take hd)
 refine ⟨?_,fun h0=>?_⟩
 ·have:=(wm (G:=304) (by omega) hB (by omega) (ds.take j) _ 0 0 0 I hin (D.take j).one (qa c ag) (by omega) (by omega)).2.1
  exact this.more (by omega) (by omega)
 ·have:=(vW (G:=304) (by omega) hB (by omega) (ds.take j) _ 0 0 0 I hin h0 (qa c ag) (by omega) (by omega) (by omega)).2.1
  exact this.more (by omega) (by omega)
theorem uR{ds:List Deed}{j:Nat}{d:Deed}(h:ds[j]?=some d):cW (ds.take (j+1))=cW (ds.take j)+if cx d=true then 1 else 0:=by
 rw [bH h]
 unfold cW
 rw [lay,laf,laz]
 cases cx d <;> rfl
theorem oz{HB Hh H':Hp}(sm:Same HB Hh)(fr:∀ a∈R,HB a=none)(ch:Chg R Hh H'):Same HB H':=fun b o e=>ch.keep b o (sm b o e) fun y=>by rw [fr b y] at e;cases e
theorem qZ(ag:List (Int×Int))(ds:List Deed):SeqAt.shaped (.list [.list (ag.map dg),.list (ds.map Deed.D)])=true:=by
 have h1:PyData.canLay0 (.list [.list (ag.map dg),.list (ds.map Deed.D)])=true:=by
  simp only [PyData.canLay0,PyData.canLayAll0,lq,mP];rfl
 have d1:PyData.depthAll (ag.map dg)≤3:=by
  induction ag with
  | nil=>simp [PyData.depthAll]
  | cons l r ih=>
   rw [lah,PyData.depthAll]
   have:PyData.depth (dg l)≤3:=by simp [dg,PyData.depth,PyData.depthAll]
   have:=ih (by simp only [PyData.canLay0,PyData.canLayAll0,lq,mP];rfl)
   omega
 have d2:=uL ds
 unfold SeqAt.shaped
 rw [h1,Bool.true_and]
 refine decide_eq_true ?_
 simp only [PyData.depth,PyData.depthAll]
 omega
theorem qY{bs:List (List aW)}(h:∀ b∈bs,gx b):PyData.canLayAll0 (bs.map cy)=true:=by
 induction bs with
 | nil=>rfl
 | cons x r ih=>
  rw [lah,PyData.canLayAll0,ih fun b hb=>h b (lac _ hb)]
  have:PyData.canLay0 (cy x)=true:=by unfold cy;rw [PyData.canLay0];exact uJ (fun l hl=>lj (h x (by simp) l hl))
  rw [this];rfl
theorem qV{bs:List (List aW)}(h:∀ b∈bs,gx b):SeqAt.shaped (jZ bs)=true:=by
 have d1:PyData.depthAll (bs.map cy)≤5:=by
  clear h
  induction bs with
  | nil=>simp [PyData.depthAll]
  | cons l r ih=>
   rw [lah,PyData.depthAll]
   have:PyData.depth (cy l)≤5:=by unfold cy;rw [PyData.depth];have:=uN l;omega
   omega
 unfold SeqAt.shaped jZ
 rw [PyData.canLay0,qY h,Bool.true_and,PyData.depth]
 exact decide_eq_true (by omega)
theorem ES(h:pD K vs H Q E) :
  wp K (f' K) iG (gT K) (gZ (fun _=>True)) (iD CH CX) (gR CH CX) (ij CH CX) (h7 CH CX) iq hX iK h_ iu { nx:=fun _ H'=>Q .non H',rt:=Q }
   (start ["_law_script","_law_count","_law_against","_law_deeds","_law_handed","_law_told","_law_books","_law_letters","_law_up","_law_hall","_law_k"] vs) H:=by
 obtain ⟨a,ns,rfl,hS,hl,k⟩:=h
 unfold wp
 walk_at "A"
 rename_i pc hpc H1 s1 g1
 have hS1:=s1.seq hS
 refine ⟨a,ns,0,rfl,hS1,fun z0=>?_⟩
 obtain ⟨cv,hcv,ec⟩:=p9 (xs:=[V.int 2,V.int 3,V.int 4,V.int 2,V.int 3,V.int 4,V.int 7,V.int 20]) (r:=z0*48271 % 1049 % 8) (by omega) (by show _<(8:Int);omega)
 obtain ⟨c,rfl,c2,c20⟩:∃ c:Nat,cv=.int c∧2≤c∧c≤20:=by
  simp only [List.mem_cons,List.not_mem_nil,or_false] at hcv
  rcases hcv with rfl | rfl | rfl | rfl | rfl | rfl | rfl | rfl
  ·exact ⟨2,rfl,by omega,by omega⟩
  ·exact ⟨3,rfl,by omega,by omega⟩
  ·exact ⟨4,rfl,by omega,by omega⟩
  ·exact ⟨2,rfl,by omega,by omega⟩
  ·exact ⟨3,rfl,by omega,by omega⟩
  ·exact ⟨4,rfl,by omega,by omega⟩
  ·exact ⟨7,rfl,by omega,by omega⟩
  ·exact ⟨20,rfl,by omega,by omega⟩
 have g1':SqL K H1 pc _:=b7 g1
 walk_at "g"
 refine ⟨a,ns,1,rfl,hS1,fun z1=>?_⟩
 walk_at "g"
 refine ⟨z1,c,rfl,by omega,fun ag pg H2 hag hpg s2 rg=>?_⟩
 have hS2:=s2.seq hS1
 walk_at "g"
 refine ⟨a,_,16,50,rfl,hS2,by rw [laa];exact hl,?_⟩
 walk_at "A"
 rename_i pz hpz H3 s3 g3
 obtain ⟨cs,ecs,hcs⟩:=zV ns 2 18
 rw [show iV (ns.map V.int) (some 2) (some (2+16))=cs.map V.int from ecs] at g3
 refine ⟨pz,cs,c,rfl,.inl g3,by omega,c2,fun ds pd H4 hdl D hpd s4 rd4 ⟨xs7,gd4,rds4⟩=>?_⟩
 have rg4:=(rg.same s3).same s4
 obtain ⟨_,gs,eg,gg,_,rgs⟩:=id (Rep.lst_inv (ds:=ag.map dg) rg4)
 cases eg
 obtain ⟨hroom,hcap⟩:=Fv ag c2 c20 (by omega) D
 walk_at "A"
 rename_i q1 hq1 H5 s5 g5 q2 hq2 H6 s6 g6 q3 hq3 H7 s7 g7
 have s47:=(s5.trans s6).trans s7
 have rga:Rep H7 [] (.ref q1) (.list (ag.map dg)):=.lst (.inl (s7 _ _ (s6 _ _ g5))) (by simp) (rgs.same s47)
 have rdd:Rep H7 [] (.ref q2) (.list (ds.map Deed.D)):=.lst (.inl (s7 _ _ g6)) (by simp) (rds4.same s47)
 refine ⟨c,ag,ds,⟨q1,q2,rfl,c2,c20,rga,by omega,rdd,by omega,D.ok,hroom⟩,fun va H8 s8 ra8 fa8=>?_⟩
 have g78:=s8 _ _ g7
 walk_at "g"
 refine ⟨c,ag,ds,⟨q1,q2,rfl,c2,c20,rga.same s8,by omega,rdd.same s8,by omega,D.ok,hroom⟩,fun vb H9 s9 rb9 fb9=>?_⟩
 have g79:=s9 _ _ g78
 have s79:=s8.trans s9
 walk_at "g"
 refine ⟨c,ag,ds,⟨q1,q2,rfl,c2,c20,rga.same s79,by omega,rdd.same s79,by omega,D.ok,hroom⟩,fun vl HA sA rlA flA=>?_⟩
 have g7A:=sA _ _ g79
 have s7A:=s79.trans sA
 walk_at "g"
 refine ⟨c,ag,ds,⟨q1,q2,rfl,c2,c20,rga.same s7A,by omega,rdd.same s7A,by omega,D.ok,hroom⟩,fun vu HB sB ruB fuB=>?_⟩
 have g7B:=sB _ _ g7A
 have s7B:=s7A.trans sB
 have s4B:=s47.trans s7B
 have gdB:=s4B _ _ gd4
 have rdsB:=rds4.same s4B
 have ggB:=gg.same s4B
 have rgsB:=rgs.same s4B
 have rgB:Rep HB [] (.ref pg) (.list (ag.map dg)):=rg4.same s4B
 have hansl:=vk (bc c ag) ds
 have raB:=(((ra8.same s9).same sA).same sB)
 have rbB:=((rb9.same sA).same sB)
 have rlB:=rlA.same sB
 obtain ⟨pa,xa,rfl,ga,_,rsa⟩:=id (Rep.lst_inv (ds:=((bc c ag).run ds).2.map Ans.D) raB)
 have hal:xa.length=ds.length:=by rw [rsa.length,laa,hansl]
 have hxl7:xs7.length=ds.length:=by rw [rdsB.length,laa]
 walk_at "g"
 refine ⟨_,_,_,true,rfl,TyO.list ga,cF _ _,?_⟩
 walk_at "g"
 refine fA ?_
 walk_at "g"
 rw [if_neg (by simp [hal,hxl7])]
 walk_at "A"
 rename_i q4 hq4 HC sC gC
 have sh:=qZ ag ds
 refine ⟨.list [.list (ag.map dg),.list (ds.map Deed.D)],.list [.list (ag.map dg),.list (ds.map Deed.D)],.lst (.inl (sC _ _ g7B)) (by simp) (.cons ((rga.same s7B).same sC) (.cons ((rdd.same s7B).same sC) .nil)),
  .lst (.inl gC) (by simp) (.cons (rgB.same sC) (.cons (.lst (.inl (sC _ _ gdB)) (by simp) (rdsB.same sC)) .nil)),sh,sh,?_⟩
 rw [SeqAt.eqv_refl _ (SeqAt.canLay_of_shaped sh)]
 walk_at "g"
 rw [if_neg (by decide)]
 walk_at "g"
 refine ⟨c,pg,ag,rfl,c20,fun Hh W R Ih sh' frR=>?_⟩
 have hbl:=mQ ds
 have I0:=Inv.new (c:=c) ag (·∈fi ds) c2 c20
 have invJ:∀ j,Inv c ag (·∈fi ds) ((bc c ag).run (ds.take j)).1:=fun j=>I0.run (ds.take j) fun d hd=>oJ ds d (List.mem_of_mem_take hd)
 have gdC:=sC _ _ gdB
 have rdsC:=rdsB.same sC
 have rgC:=rgB.same sC
 have rsaC:=rsa.same sC
 have gaC:=ga.same sC
 have npg:¬ pg∈R:=fun y=>by
  obtain ⟨o,e⟩:=ggB.some
  have:=sC _ _ e
  rw [frR pg y] at this;cases this
 have N1:∀ j,j+111872*cW (ds.take j)≤16+111872+j:=fun j=>by
  have:=(D.take j).one
  omega
 walk_at "g"
 refine eU (by omega) ?_
 refine fe (n:=xs7.length) (fun j σ H'=>∃ v W' R',σ=[some (.ref a),some (.int (c:Int)),some (.ref pg),some (.ref pd),some (.ref q3),some (.ref pa),some vb,some vl,some vu,some (.ref W.d),v]∧
  LMove Hh W R H' W' ((bc c ag).run (ds.take j)).1 c pg R' (j+111872*cW (ds.take j))∧SoUn ((bc c ag).run (ds.take j)).1∧SI ((bc c ag).run (ds.take j)).1∧CntUp ((bc c ag).run (ds.take j)).1)
  ⟨none,W,R,rfl,.of Ih (Chg.refl _ _) (Stays.refl _),⟨List.Pairwise.nil,fun k hk=>(nomatch hk)⟩,(fun k l hk=>(by cases hk)),CntUp.new c ag⟩ ?_ ?_
 ·rintro j σ A hj ⟨v,W',R',rfl,M,so,si,cu⟩
  have e0:((0:Int)+(j:Int))=(j:Int):=Int.zero_add _
  rw [e0]
  have sCA:Same HC A:=oz sh' frR M.chg
  obtain ⟨x,hx⟩:∃ x,xs7[j]?=some x:=⟨_,lad hj⟩
  obtain ⟨d,td,hd,rfl,rtd⟩:=oa (rdsC.same sCA) hx
  have ean:=x5 ds (bc c ag) j d hd
  have eS:((bc c ag).run (ds.take (j+1))).1=(((bc c ag).run (ds.take j)).1.do d).1:=by rw [bH hd,kY]
  have inv1:=invJ j
  have inv2:=invJ (j+1)
  obtain ⟨cap1,cap0⟩:=hcap j
  have hsw:=uR hd
  have one':=(D.take (j+1)).one
  have hNj:=N1 j
  rw [eS]
  rw [eS] at inv2
  generalize ((bc c ag).run (ds.take j)).1=S at *
  have hcl:=cap1.l
  have hcost:rj S d≤1+111872*(if cx d=true then 1 else 0)∧(cx d=true→S.sweepR.1.un.length≤900000):=by
   cases hs:cx d with
   | false=>
    refine ⟨?_,fun z=>by cases z⟩
    cases d <;> first | (show 1≤_;omega) | (cases hs)
   | true=>
    have ed:d=.sweep:=by cases d <;> first | rfl | cases hs
    subst ed
    rw [hs,if_pos rfl] at hsw
    obtain ⟨x1,x2,_⟩:=qO inv1.ok (cap0 (by omega))
    refine ⟨?_,fun _=>by omega⟩
    show S.sweepR.1.ls.length≤_
    rw [if_pos rfl];omega
  have gdA:=sCA _ _ gdC
  obtain ⟨xt,hxt,rxt⟩:=(rsaC.same sCA).getD (i:=j) (d:=(S.do d).2.D) (by rw [lae,ean];rfl)
  walk_at "g"
  refine bp (dG (gaC.same sCA)) (cf hxt) ?_
  walk_at "g"
  refine bp (b7 gdA) (cf hx) ?_
  walk_at "g"
  have hLIn:LIn A W' S c pg R' (j+111872*cW (ds.take j)) ag (fi ds):=⟨M.at_,inv1,rgC.same sCA,by
   obtain ⟨o,e⟩:=(ggB.same sC).some
   exact M.npg (sh' _ _ e) npg,by omega,by omega,by omega⟩
  have hle:j+111872*cW (ds.take j)+rj S d≤(j+1)+111872*cW (ds.take (j+1)):=by
   rw [hsw]
   have:=hcost.1
   split at this <;> rename_i hq
   ·rw [if_pos hq];omega
   ·rw [if_neg hq];omega
  have hNj':=N1 (j+1)
  refine ⟨W',S,c,pg,R',_,ag,fi ds,td,d,by rw [M.st.d];rfl,Bb rtd,hLIn,so,si,cu,D.ok d (lam hd),by omega,fun v2 A2 W2 R2 M2 r2 f2=>?_⟩
  have MA:=M.trans (M2.more hle)
  have sC2:Same HC A2:=oz sh' frR MA.chg
  walk_at "g"
  refine ⟨xt,v2,(S.do d).2,rfl,?_,r2.plain,Cb inv1.ok inv2 (by omega) hcost.2,fun A3 t3=>?_⟩
  ·obtain ⟨xt',hxt',rxt'⟩:=(rsaC.same sC2).getD (i:=j) (d:=(S.do d).2.D) (by rw [lae,ean];rfl)
   rw [hxt] at hxt'
   cases hxt'
   exact rxt'
  walk_at "g"
  rw [if_neg (by decide)]
  walk_at "g"
  exact ⟨_,W2,R2,rfl,MA.then_same t3,so.do inv1.ok d,si.do inv1.ok d,cu.do inv1.ok d⟩
 ·rintro σ A ⟨v,W',R',rfl,M,so,si,cu⟩
  have etk:ds.take xs7.length=ds:=by rw [hxl7,laE]
  rw [etk] at M
  have inv1:=invJ xs7.length
  rw [etk] at inv1
  have sCA:Same HC A:=oz sh' frR M.chg
  have sBA:=sC.trans sCA
  have rbA:=rbB.same sBA
  have rlA':=rlB.same sBA
  have ruA:=ruB.same sBA
  generalize ((bc c ag).run ds).1=S at *
  have gdA:=M.at_.gd
  rw [M.st.d] at gdA
  have erb:uh S=jZ (S.hs.map fun h=>h.book):=by unfold uh jZ;rw [List.map_map];rfl
  rw [erb] at rbA
  have hlw:∀ b∈S.hs.map fun h=>h.book,gx b:=fun b hb=>(mW inv1 hb).1
  obtain ⟨pb,xb,rfl,gb,_,rbs⟩:=id (Rep.lst_inv (ds:=(S.hs.map fun h=>h.book).map cy) rbA)
  obtain ⟨pl,xl,rfl,gl,_,rls⟩:=id (Rep.lst_inv (ds:=S.ls.map bv) rlA')
  obtain ⟨pu,xu,rfl,gu,_,rus⟩:=id (Rep.lst_inv (ds:=S.hs.map fun h=>.bool h.up) ruA)
  have hlen:(S.hs.map fun h=>h.book).length=c:=by rw [laa];exact inv1.ok.len
  walk_at "g"
  refine ⟨pb,_,c,rfl,rbA,hlen,hlw,fun A2 t2=>?_⟩
  walk_at "g"
  rw [if_neg (by decide)]
  walk_at "g"
  refine bu (t2 _ _ gdA) pR ?_
  have shb:=qV hlw
  have rbl:Rep A2 [] (.ref W'.B) (jZ (S.hs.map fun h=>h.book)):=by
   refine .lst (.inl (t2 _ _ M.at_.gB)) (by simp) ?_
   have key:∀ j,j≤c→Reps A2 [] ((List.range j).map fun i=>V.ref (W'.bk i)) ((((S.hs.map fun h=>h.book).take j)).map cy):=by
    intro j
    induction j with
    | zero=>intro _;rw [List.take_zero];exact .nil
    | succ j ih=>
     intro hj
     obtain ⟨h,hi⟩:∃ h,S.hs[j]?=some h:=⟨_,lad (by rw [inv1.ok.len];omega)⟩
     rw [List.range_succ,lai,bH (l:=h.book) (by rw [lae,hi];rfl),lai]
     exact (ih (by omega)).append (.cons (.lst (.inl (t2 _ _ (M.at_.gb (by omega)))) (by simp) ((M.at_.bs j h hi).same t2)) .nil)
   have:=key c (lat _)
   rwa [List.take_of_length_le (by omega)] at this
  refine ⟨_,_,rbA.same t2,rbl,shb,shb,?_⟩
  rw [SeqAt.eqv_refl _ (SeqAt.canLay_of_shaped shb)]
  walk_at "g"
  rw [if_neg (by decide)]
  walk_at "g"
  refine ⟨pl,(c:Int),S.ls,rfl,rlA'.same t2,fun l hl=>Ba (inv1.ok.let_ l hl) (inv1.li l hl),fun A3 t3=>?_⟩
  have t23:=t2.trans t3
  walk_at "g"
  rw [if_neg (by decide)]
  walk_at "g"
  refine bu (t23 _ _ gdA) oA ?_
  have okl:∀ l∈S.ls,PyData.strOk l.2.2.2=true:=fun l hl=>jm (by
   have:=(inv1.ok.let_ l hl).w
   simp only [List.mem_cons,List.not_mem_nil,or_false] at this ⊢
   rcases this with z | z | z | z | z | z <;> simp [z])
  have shl:=pT okl
  refine ⟨gF S.ls,gF S.ls,rlA'.same t23,.lst (.inl (t23 _ _ M.at_.gl)) (by simp) (M.at_.ls.same t23),shl,shl,?_⟩
  rw [SeqAt.eqv_refl _ (SeqAt.canLay_of_shaped shl)]
  walk_at "g"
  rw [if_neg (by decide)]
  have gu3:=gu.same t23
  have hxul:xu.length=c:=by rw [rus.length,laa];exact inv1.ok.len
  walk_at "g"
  refine ⟨_,_,_,true,rfl,TyO.list gu3,cF _ _,?_⟩
  walk_at "g"
  rw [if_neg (by decide)]
  walk_at "g"
  rw [if_neg (by simp [hxul])]
  walk_at "g"
  refine eU (by omega) ?_
  refine fe (n:=c) (fun j σ H'=>∃ v,σ=[some (.ref a),some (.int (c:Int)),some (.ref pg),some (.ref pd),some (.ref q3),some (.ref pa),some (.ref pb),some (.ref pl),some (.ref pu),some (.ref W.d),v]∧H'=A3) ⟨v,rfl,rfl⟩ ?_ ?_
  ·rintro j σ H' hj ⟨v,rfl,rfl⟩
   have e0:((0:Int)+(j:Int))=(j:Int):=Int.zero_add _
   rw [e0]
   obtain ⟨h,hi⟩:∃ h,S.hs[j]?=some h:=⟨_,lad (by rw [inv1.ok.len];omega)⟩
   obtain ⟨xv,hxv,rxv⟩:=rus.getD (i:=j) (d:=.bool h.up) (by rw [lae,hi];rfl)
   cases rxv.bl_inv
   walk_at "g"
   refine bp (dG gu3) (cf hxv) ?_
   walk_at "g"
   refine ⟨_,_,_,true,rfl,TyO.bl _,cF _ _,?_⟩
   walk_at "g"
   rw [if_neg (by decide)]
   walk_at "g"
   refine bp (dG gu3) (cf hxv) ?_
   walk_at "g"
   refine bu (t23 _ _ gdA) kF ?_
   walk_at "g"
   refine bp (b7 (t23 _ _ M.at_.gU)) (nQ hi) ?_
   walk_at "g"
   rw [if_neg (by simp)]
   walk_at "g"
   exact ⟨_,rfl,rfl⟩
  ·rintro σ H' ⟨v,rfl,rfl⟩
   walk_at "g"
   exact k _
def bW(i:Nat):Stmt:=PySem.Challenge.pw_oathhall_k06_plain_story.main.body.getD i (.Pass ⟨0,0,0,0⟩)
abbrev l_:Stmt:=bW 1
abbrev kT:Stmt:=bW 2
abbrev kP:Stmt:=bW 3
abbrev kU:Stmt:=bW 4
abbrev mw:Stmt:=bW 5
abbrev mj:Stmt:=bW 6
abbrev lB:Stmt:=bU (bW 8) 0
abbrev md:Stmt:=bU (bW 8) 1
abbrev lf:Stmt:=bU (bW 8) 2
abbrev mr:Stmt:=bU (bW 8) 3
abbrev lu:Stmt:=bU (bW 8) 4
abbrev lV:Stmt:=bU (bW 8) 5
abbrev mh:Stmt:=bU (bW 8) 6
abbrev lx:Stmt:=bU (bW 8) 7
abbrev kH:Stmt:=bU (bW 8) 8
abbrev lg:Stmt:=bU (bW 8) 9
abbrev lD:Stmt:=bU (bW 8) 10
abbrev kN:Stmt:=bU (bW 8) 11
abbrev lG:Stmt:=bU (bW 8) 12
abbrev lX:Stmt:=bU (bW 8) 13
abbrev lL:Stmt:=bU (bW 8) 14
abbrev lH:Stmt:=bU (bW 8) 15
abbrev lO:Stmt:=bU (bW 8) 16
abbrev lC:Stmt:=bU (bW 8) 17
abbrev kM:Stmt:=bW 10
abbrev mB:Stmt:=bU (bW 11) 0
abbrev lF:Stmt:=bU (bW 11) 1
abbrev kj:Stmt:=bU (bW 11) 2
abbrev lv:Stmt:=bU (bW 11) 3
abbrev kx:Stmt:=bU (bW 11) 4
abbrev lU:Stmt:=bU (bW 11) 5
abbrev lM:Stmt:=bU (bW 11) 6
abbrev k_:Stmt:=bU (bW 11) 7
abbrev ko:Stmt:=bU (bW 11) 8
abbrev ki:Stmt:=bU (bW 11) 9
abbrev lY:Stmt:=bU (bW 11) 10
abbrev kh:Stmt:=bW 13
abbrev kt:Stmt:=bW 14
abbrev lh:Stmt:=bW 15
abbrev lR:Stmt:=bW 16
abbrev lI:Stmt:=bW 17
abbrev lZ:Stmt:=bW 19
abbrev lr:Stmt:=bW 20
abbrev lc:Stmt:=bW 21
abbrev kr:Stmt:=bW 22
abbrev kB:Stmt:=bW 23
abbrev mi:Stmt:=bW 24
abbrev kI:Stmt:=bW 25
abbrev kg:Stmt:=bW 26
abbrev cw:Stmt:=bW 27
abbrev lJ:Stmt:=bW 28
abbrev ml:Stmt:=bW 29
abbrev kE:Stmt:=bW 30
abbrev mt:Stmt:=bW 31
abbrev mn:Stmt:=bW 32
abbrev lN:Stmt:=bW 33
abbrev lS:Stmt:=bW 34
abbrev kZ:Stmt:=bW 35
abbrev kJ:Stmt:=bW 36
abbrev lA:Stmt:=bW 37
abbrev my:Stmt:=bW 38
abbrev ma:Stmt:=bW 39
abbrev me:Stmt:=bW 40
abbrev lb:Stmt:=bW 41
abbrev mf:Stmt:=bW 42
abbrev lW:Stmt:=bW 43
abbrev lK:Stmt:=bW 44
abbrev iU:Stmt:=bW 45
structure Txt(K:W.Frag)(mg:Str→Option Value)(aa:Addr)(ac:Addr):Prop where
 ok:True
 n_bool:mg "bool"=none
 n_int:mg "int"=none
 n_isinstance:mg "isinstance"=none
 n_len:mg "len"=none
 n_list:mg "list"=none
 n_range:mg "range"=none
 n_str:mg "str"=none
 n_tuple:mg "tuple"=none
 cl_House:Cls K aa
 m_House:mg "House"=some (.ref aa)
 f_House_against:NoAttr K aa "against"
 f_House_awake:NoAttr K aa "awake"
 f_House_book:NoAttr K aa "book"
 f_House_counted:NoAttr K aa "counted"
 f_House_lines_read:NoAttr K aa "lines_read"
 f_House_number:NoAttr K aa "number"
 f_House_others:NoAttr K aa "others"
 f_House_pages:NoAttr K aa "pages"
 cl_Hall:Cls K ac
 m_Hall:mg "Hall"=some (.ref ac)
 f_Hall_houses:NoAttr K ac "houses"
 f_Hall_letters:NoAttr K ac "letters"
 f_Hall_unspent:NoAttr K ac "unspent"
theorem Ff:aI ["book","bargain"] ["book","bargain"] (ai l_):=⟨rfl,rfl,rfl,by decide +kernel,rfl,by decide +kernel,by decide +kernel⟩
theorem Be:List.Nodup (["line","bargain"]:List Str):=by decide +kernel
theorem Hb:aI ["book","bargain"] ["book","bargain"] (ai kT):=⟨rfl,rfl,rfl,by decide +kernel,rfl,by decide +kernel,by decide +kernel⟩
theorem zsc1r:aI ["book","bargain","word"] ["book","bargain"] (ai kP):=⟨rfl,rfl,rfl,by decide +kernel,rfl,by decide +kernel,by decide +kernel⟩
theorem zsc0s:aI ["book","bargain","words"] ["book","bargain"] (ai kU):=⟨rfl,rfl,rfl,by decide +kernel,rfl,by decide +kernel,by decide +kernel⟩
theorem Hx:aI ["book","bargain"] ["book","bargain"] (ai mw):=⟨rfl,rfl,rfl,by decide +kernel,rfl,by decide +kernel,by decide +kernel⟩
theorem HL:aI ["book"] ["book"] (ai mj):=⟨rfl,rfl,rfl,by decide +kernel,rfl,by decide +kernel,by decide +kernel⟩
theorem Bu:List.Nodup (["line","book"]:List Str):=by decide +kernel
theorem HF:aI ["self","number","count","against"] ["self","number","count","against"] (ai lB):=⟨rfl,rfl,rfl,by decide +kernel,rfl,by decide +kernel,by decide +kernel⟩
theorem BC:List.Nodup (["other","number"]:List Str):=by decide +kernel
theorem Fi:aI ["self"] ["self"] (ai md):=⟨rfl,rfl,rfl,by decide +kernel,rfl,by decide +kernel,by decide +kernel⟩
theorem GS:aI ["self","bargain"] ["self","bargain"] (ai lf):=⟨rfl,rfl,rfl,by decide +kernel,rfl,by decide +kernel,by decide +kernel⟩
theorem zsc1k:aI ["self","letter","giver","bargain","word"] ["self","letter"] (ai mr):=⟨rfl,rfl,rfl,by decide +kernel,rfl,by decide +kernel,by decide +kernel⟩
theorem Ek:aI ["self","bargain"] ["self","bargain"] (ai lu):=⟨rfl,rfl,rfl,by decide +kernel,rfl,by decide +kernel,by decide +kernel⟩
theorem Hg:aI ["self"] ["self"] (ai lV):=⟨rfl,rfl,rfl,by decide +kernel,rfl,by decide +kernel,by decide +kernel⟩
theorem zsc17:aI ["self","undecided","sent","bargain"] ["self"] (ai mh):=⟨rfl,rfl,rfl,by decide +kernel,rfl,by decide +kernel,by decide +kernel⟩
theorem Hu:aI ["self","letter"] ["self","letter"] (ai lx):=⟨rfl,rfl,rfl,by decide +kernel,rfl,by decide +kernel,by decide +kernel⟩
theorem HD:aI ["self","giver","bargain"] ["self","giver","bargain"] (ai kH):=⟨rfl,rfl,rfl,by decide +kernel,rfl,by decide +kernel,by decide +kernel⟩
theorem zsc0d:aI ["self","giver","bargain","word","decided","givers"] ["self","giver","bargain","word"] (ai lg):=⟨rfl,rfl,rfl,by decide +kernel,rfl,by decide +kernel,by decide +kernel⟩
theorem EY:aI ["self","bargain","word"] ["self","bargain","word"] (ai lD):=⟨rfl,rfl,rfl,by decide +kernel,rfl,by decide +kernel,by decide +kernel⟩
theorem zsc07:aI ["self","giver","bargain","decided"] ["self","giver","bargain"] (ai kN):=⟨rfl,rfl,rfl,by decide +kernel,rfl,by decide +kernel,by decide +kernel⟩
theorem FY:aI ["self","bargain","word"] ["self","bargain","word"] (ai lG):=⟨rfl,rfl,rfl,by decide +kernel,rfl,by decide +kernel,by decide +kernel⟩
theorem Gp:aI ["self","bargain"] ["self","bargain"] (ai lX):=⟨rfl,rfl,rfl,by decide +kernel,rfl,by decide +kernel,by decide +kernel⟩
theorem zsc13:aI ["self","bargain","line"] ["self","bargain"] (ai lL):=⟨rfl,rfl,rfl,by decide +kernel,rfl,by decide +kernel,by decide +kernel⟩
theorem Hq:aI ["self","word","bargain"] ["self","word","bargain"] (ai lH):=⟨rfl,rfl,rfl,by decide +kernel,rfl,by decide +kernel,by decide +kernel⟩
theorem EC:aI ["self","other","bargain","word"] ["self","other","bargain","word"] (ai lO):=⟨rfl,rfl,rfl,by decide +kernel,rfl,by decide +kernel,by decide +kernel⟩
theorem HK:aI ["self","bargain","word"] ["self","bargain","word"] (ai lC):=⟨rfl,rfl,rfl,by decide +kernel,rfl,by decide +kernel,by decide +kernel⟩
theorem BJ:List.Nodup (["other","bargain","word","self"]:List Str):=by decide +kernel
theorem Hj:aI ["against","number"] ["against","number"] (ai kM):=⟨rfl,rfl,rfl,by decide +kernel,rfl,by decide +kernel,by decide +kernel⟩
theorem A_:List.Nodup (["pair","number"]:List Str):=by decide +kernel
theorem FR:aI ["self","count","against"] ["self","count","against"] (ai mB):=⟨rfl,rfl,rfl,by decide +kernel,rfl,by decide +kernel,by decide +kernel⟩
theorem BU:List.Nodup (["number","count","against"]:List Str):=by decide +kernel
theorem zsc1q:aI ["self","deed","word"] ["self","deed"] (ai lF):=⟨rfl,rfl,rfl,by decide +kernel,rfl,by decide +kernel,by decide +kernel⟩
theorem zsc12:aI ["self","bargain","stays","house","ahead"] ["self","bargain","stays"] (ai kj):=⟨rfl,rfl,rfl,by decide +kernel,rfl,by decide +kernel,by decide +kernel⟩
theorem zsc0z:aI ["self","which","stays","letter","house","ahead"] ["self","which","stays"] (ai lv):=⟨rfl,rfl,rfl,by decide +kernel,rfl,by decide +kernel,by decide +kernel⟩
theorem zsc0y:aI ["self","number","bargain","sent"] ["self","number","bargain"] (ai kx):=⟨rfl,rfl,rfl,by decide +kernel,rfl,by decide +kernel,by decide +kernel⟩
theorem zsc1b:aI ["self","number","house"] ["self","number"] (ai lU):=⟨rfl,rfl,rfl,by decide +kernel,rfl,by decide +kernel,by decide +kernel⟩
theorem zsc1f:aI ["self","number","house","ahead"] ["self","number"] (ai lM):=⟨rfl,rfl,rfl,by decide +kernel,rfl,by decide +kernel,by decide +kernel⟩
theorem zsc14:aI ["self","written","place","which","lines","number"] ["self"] (ai k_):=⟨rfl,rfl,rfl,by decide +kernel,rfl,by decide +kernel,by decide +kernel⟩
theorem A9:List.Nodup (["line","number"]:List Str):=by decide +kernel
theorem BD:List.Nodup (["which","self"]:List Str):=by decide +kernel
theorem zsc00:aI ["self","which","letter"] ["self","which"] (ai ko):=⟨rfl,rfl,rfl,by decide +kernel,rfl,by decide +kernel,by decide +kernel⟩
theorem FP:aI ["self","house","sent","stays"] ["self","house","sent","stays"] (ai ki):=⟨rfl,rfl,rfl,by decide +kernel,rfl,by decide +kernel,by decide +kernel⟩
theorem zsc1g:aI ["self","sent","first"] ["self","sent"] (ai lY):=⟨rfl,rfl,rfl,by decide +kernel,rfl,by decide +kernel,by decide +kernel⟩
theorem zsc15:aI ["count","against","deeds","hall","deed"] ["count","against","deeds"] (ai kh):=⟨rfl,rfl,rfl,by decide +kernel,rfl,by decide +kernel,by decide +kernel⟩
theorem zsc1p:aI ["count","against","deeds","hall"] ["count","against","deeds"] (ai kt):=⟨rfl,rfl,rfl,by decide +kernel,rfl,by decide +kernel,by decide +kernel⟩
theorem Bj:List.Nodup (["deed","hall"]:List Str):=by decide +kernel
theorem E8:aI ["count","against","deeds"] ["count","against","deeds"] (ai lh):=⟨rfl,rfl,rfl,by decide +kernel,rfl,by decide +kernel,by decide +kernel⟩
theorem BB:List.Nodup (["house"]:List Str):=by decide +kernel
theorem H_:aI ["count","against","deeds"] ["count","against","deeds"] (ai lR):=⟨rfl,rfl,rfl,by decide +kernel,rfl,by decide +kernel,by decide +kernel⟩
theorem Gw:aI ["count","against","deeds"] ["count","against","deeds"] (ai lI):=⟨rfl,rfl,rfl,by decide +kernel,rfl,by decide +kernel,by decide +kernel⟩
theorem BQ:List.Nodup (["house"]:List Str):=by decide +kernel
theorem Ii:aI ["_law_found"] ["_law_found"] (ai lZ):=⟨rfl,rfl,rfl,by decide +kernel,rfl,by decide +kernel,by decide +kernel⟩
theorem D9:aI ["_law_script","_law_k"] ["_law_script","_law_k"] (ai lr):=⟨rfl,rfl,rfl,by decide +kernel,rfl,by decide +kernel,by decide +kernel⟩
theorem Ik:aI ["_law_found"] ["_law_found"] (ai lc):=⟨rfl,rfl,rfl,by decide +kernel,rfl,by decide +kernel,by decide +kernel⟩
theorem zsc0e:aI ["_law_found","_law_line"] ["_law_found"] (ai kr):=⟨rfl,rfl,rfl,by decide +kernel,rfl,by decide +kernel,by decide +kernel⟩
theorem zsc0h:aI ["_law_found","_law_count","_law_book"] ["_law_found","_law_count"] (ai kB):=⟨rfl,rfl,rfl,by decide +kernel,rfl,by decide +kernel,by decide +kernel⟩
theorem zsc0g:aI ["_law_found","_law_count","_law_number"] ["_law_found","_law_count"] (ai mi):=⟨rfl,rfl,rfl,by decide +kernel,rfl,by decide +kernel,by decide +kernel⟩
theorem zsc06:aI ["_law_found","_law_count","_law_letter"] ["_law_found","_law_count"] (ai kI):=⟨rfl,rfl,rfl,by decide +kernel,rfl,by decide +kernel,by decide +kernel⟩
theorem Eh:aI [] [] (ai kg):=⟨rfl,rfl,rfl,by decide +kernel,rfl,by decide +kernel,by decide +kernel⟩
theorem nU:aI ["_law_cell"] ["_law_cell"] (ai cw):=⟨rfl,rfl,rfl,by decide +kernel,rfl,by decide +kernel,by decide +kernel⟩
theorem zsc0o:aI ["_law_cell","_law_k","_law_count","_law_swept","_law_way","_law_who","_law_stays","_law_which"] ["_law_cell","_law_k","_law_count","_law_swept"] (ai lJ):=⟨rfl,rfl,rfl,by decide +kernel,rfl,by decide +kernel,by decide +kernel⟩
theorem zsc1c:aI ["_law_cells","_law_count","_law_deeds","_law_swept","_law_k"] ["_law_cells","_law_count"] (ai ml):=⟨rfl,rfl,rfl,by decide +kernel,rfl,by decide +kernel,by decide +kernel⟩
theorem zsc02:aI ["_law_cell","_law_count","_law_pairs","_law_k","_law_j"] ["_law_cell","_law_count"] (ai kE):=⟨rfl,rfl,rfl,by decide +kernel,rfl,by decide +kernel,by decide +kernel⟩
theorem G7:aI ["_law_book","_law_bargain"] ["_law_book","_law_bargain"] (ai mt):=⟨rfl,rfl,rfl,by decide +kernel,rfl,by decide +kernel,by decide +kernel⟩
theorem Bt:List.Nodup (["_law_line","_law_bargain"]:List Str):=by decide +kernel
theorem Ef:aI ["_law_mine","_law_count","_law_bargain","_law_word"] ["_law_mine","_law_count","_law_bargain","_law_word"] (ai mn):=⟨rfl,rfl,rfl,by decide +kernel,rfl,by decide +kernel,by decide +kernel⟩
theorem Bq:List.Nodup (["_law_k","_law_mine","_law_bargain","_law_word"]:List Str):=by decide +kernel
theorem zsc1l:aI ["_law_book","_law_against","_law_letter","_law_giver","_law_mine","_law_bargain","_law_word","_law_words"] ["_law_book","_law_against","_law_letter"] (ai lN):=⟨rfl,rfl,rfl,by decide +kernel,rfl,by decide +kernel,by decide +kernel⟩
theorem zsc0p:aI ["_law_book","_law_votes","_law_letter","_law_count","_law_giver","_law_mine","_law_bargain","_law_word"] ["_law_book","_law_votes","_law_letter","_law_count"] (ai lS):=⟨rfl,rfl,rfl,by decide +kernel,rfl,by decide +kernel,by decide +kernel⟩
theorem zsc1o:aI ["_law_book","_law_votes","_law_against","_law_letter","_law_count","_law_giver","_law_mine","_law_bargain","_law_word","_law_words"] ["_law_book","_law_votes","_law_against","_law_letter","_law_count"] (ai kZ):=⟨rfl,rfl,rfl,by decide +kernel,rfl,by decide +kernel,by decide +kernel⟩
theorem zsc0m:aI ["_law_count","_law_against","_law_hall"] ["_law_count","_law_against"] (ai kJ):=⟨rfl,rfl,rfl,by decide +kernel,rfl,by decide +kernel,by decide +kernel⟩
theorem Bv:List.Nodup (["_law_k"]:List Str):=by decide +kernel
theorem BG:List.Nodup (["_law_k"]:List Str):=by decide +kernel
theorem FX:aI ["_law_hall","_law_who","_law_ahead","_law_sent","_law_stays"] ["_law_hall","_law_who","_law_ahead","_law_sent","_law_stays"] (ai lA):=⟨rfl,rfl,rfl,by decide +kernel,rfl,by decide +kernel,by decide +kernel⟩
theorem zsc1d:aI ["_law_hall","_law_bargain","_law_stays","_law_who","_law_book","_law_ahead","_law_sent"] ["_law_hall","_law_bargain","_law_stays"] (ai my):=⟨rfl,rfl,rfl,by decide +kernel,rfl,by decide +kernel,by decide +kernel⟩
theorem zsc0u:aI ["_law_hall","_law_which","_law_stays","_law_letter","_law_who","_law_book","_law_ahead","_law_votes","_law_sent"] ["_law_hall","_law_which","_law_stays"] (ai ma):=⟨rfl,rfl,rfl,by decide +kernel,rfl,by decide +kernel,by decide +kernel⟩
theorem zsc1i:aI ["_law_hall","_law_who","_law_book","_law_ahead","_law_sent","_law_line"] ["_law_hall","_law_who"] (ai me):=⟨rfl,rfl,rfl,by decide +kernel,rfl,by decide +kernel,by decide +kernel⟩
theorem zsc0c:aI ["_law_hall","_law_told","_law_which","_law_lines"] ["_law_hall"] (ai lb):=⟨rfl,rfl,rfl,by decide +kernel,rfl,by decide +kernel,by decide +kernel⟩
theorem Bl:List.Nodup (["_law_line","_law_which","_law_hall"]:List Str):=by decide +kernel
theorem zsc09:aI ["_law_hall","_law_deed","_law_was","_law_asks"] ["_law_hall","_law_deed"] (ai mf):=⟨rfl,rfl,rfl,by decide +kernel,rfl,by decide +kernel,by decide +kernel⟩
theorem zsc1h:aI ["_law_found","_law_due","_law_k","_law_part"] ["_law_found","_law_due"] (ai lW):=⟨rfl,rfl,rfl,by decide +kernel,rfl,by decide +kernel,by decide +kernel⟩
theorem GZ:aI ["_law_script","_law_most","_law_bound"] ["_law_script","_law_most","_law_bound"] (ai lK):=⟨rfl,rfl,rfl,by decide +kernel,rfl,by decide +kernel,by decide +kernel⟩
theorem zsc1u:aI ["_law_script","_law_count","_law_against","_law_deeds","_law_handed","_law_told","_law_books","_law_letters","_law_up","_law_hall","_law_k"] ["_law_script"] (ai iU):=⟨rfl,rfl,rfl,by decide +kernel,rfl,by decide +kernel,by decide +kernel⟩
theorem Txt.hs{K:W.Frag}{mg:Str→Option Value}{aa:Addr}{ac:Addr}(T:Txt K mg aa ac):bI K aa:=⟨T.cl_House,T.f_House_number,T.f_House_others,T.f_House_against,T.f_House_book,T.f_House_awake,T.f_House_counted,T.f_House_pages,T.f_House_lines_read⟩
theorem Txt.hx{K:W.Frag}{mg:Str→Option Value}{aa:Addr}{ac:Addr}(T:Txt K mg aa ac):dl K ac:=⟨T.cl_Hall,T.f_Hall_houses,T.f_Hall_letters,T.f_Hall_unspent⟩
section
variable {P:Program}{w:World}{K:W.Frag}{mg:Str→Option Value}{base:Heap}{f:Addr}{cdv:Value}{A:Around}{outer:List Env}{s:Shared}{H:Hp}{E:XK}
theorem Ca{aa:Addr}{ac:Addr}(T:Txt K mg aa ac)
  (hr:Room 0 (A.deeper (PyProof.Rows.envOfC "words_of" (ai l_) s.heap.objs.size f cdv))) :
  PSs (bn bD P w K mg base ["book","bargain"] "words_of" (ai l_) f cdv A outer s H E).nox (ao l_) (zL K ):=by
 unfold zL
 exact (am (ar (eJ rfl (show db _ (["line","bargain"]:List Str) _ ([("bargain",s.heap.objs.size+1+0)]:List (Str×Addr)) ([none,some 1]:List (Option Nat)) from ⟨by with_unfolding_all rfl,rfl,rfl,rfl,rfl,⟨rfl,trivial⟩,⟨⟨rfl,Or.inl rfl,Or.inl rfl,_,rfl,rfl⟩,trivial⟩⟩) (cV (pv 0)) (fun _ _ _ _=>(bm (i:=0) Be rfl (Or.inl rfl))) (fun _ _ _ _=>(fW (aF cm (aE aX (pv 0) ap (fun _ _=>rfl)) (pv 1) (aQ _)))) (fun _ _ _ _=>(aE aX (pv 0) ap (fun _ _=>rfl))))))
theorem B5{aa:Addr}{ac:Addr}(cC:Sp)(T:Txt K mg aa ac)
  (fS:aK P w K mg base 1 "words_of" ["book","bargain"] cC)
  (hr:Room 1 (A.deeper (PyProof.Rows.envOfC "knows" (ai kT) s.heap.objs.size f cdv))) :
  PSs (bn bD P w K mg base ["book","bargain"] "knows" (ai kT) f cdv A outer s H E).nox (ao kT) (xf K cC):=by
 obtain ⟨BZ,AK,sk,sP,rF,ss⟩:=fS
 have pA:=hr.mono (j:=1) (by decide)
 unfold xf
 exact (am (ar (ef rh (aS aU (by rfl) T.n_len PySem.boot_len (ab (aP sk pA rfl sP rF ss .nil aB (ab (pv 0) (ab (pv 1) aj))) aj)) ap (aQ _))))
theorem DY{aa:Addr}{ac:Addr}(cC:Sp)(T:Txt K mg aa ac)
  (fS:aK P w K mg base 1 "words_of" ["book","bargain"] cC)
  (hr:Room 1 (A.deeper (PyProof.Rows.envOfC "vote_in" (ai kP) s.heap.objs.size f cdv))) :
  PSs (bn bD P w K mg base ["book","bargain","word"] "vote_in" (ai kP) f cdv A outer s H E).nox (ao kP) (xK K cC):=by
 obtain ⟨BZ,AK,sk,sP,rF,ss⟩:=fS
 have pA:=hr.mono (j:=1) (by decide)
 unfold xK
 exact (ak (ez PassesOwn.never rfl (cV (aP sk pA rfl sP rF ss .nil aB (ab (pv 0) (ab (pv 1) aj)))) (bm (i:=2) zsc1r.nd rfl (Or.inl rfl))
   (am (aM (aF eh (pv 2) (b_ (ab au (ab au (ab au aj)))) (by with_unfolding_all rfl))
   (am (ar (pv 2)))
   aA)))
   (am (ar fF)))
theorem CO{aa:Addr}{ac:Addr}(cC:Sp)(T:Txt K mg aa ac)
  (fS:aK P w K mg base 1 "words_of" ["book","bargain"] cC)
  (hr:Room 1 (A.deeper (PyProof.Rows.envOfC "decision_in" (ai kU) s.heap.objs.size f cdv))) :
  PSs (bn bD P w K mg base ["book","bargain","words"] "decision_in" (ai kU) f cdv A outer s H E).nox (ao kU) (wg K cC):=by
 obtain ⟨BZ,AK,sk,sP,rF,ss⟩:=fS
 have pA:=hr.mono (j:=1) (by decide)
 unfold wg
 exact (ak (aO (i:=2) zsc0s.nd rfl (Or.inl rfl) (aP sk pA rfl sP rF ss .nil aB (ab (pv 0) (ab (pv 1) aj))))
   (ak (aM (aF eh au (pv 2) (by with_unfolding_all rfl))
   (am (ar au))
   aA)
   (ak (aM (PW.pt (dM (aF eh au (pv 2) (by with_unfolding_all rfl)) (di (aF eh au (pv 2) (by with_unfolding_all rfl)))))
   (am (ar au))
   aA)
   (am (ar fF)))))
theorem C9{aa:Addr}{ac:Addr}(gS:Sp)(cR:Sp)(T:Txt K mg aa ac)
  (uI:aK P w K mg base 2 "vote_in" ["book","bargain"] gS)(fP:aK P w K mg base 2 "decision_in" ["book","bargain"] cR)
  (hr:Room 2 (A.deeper (PyProof.Rows.envOfC "is_unsure" (ai mw) s.heap.objs.size f cdv))) :
  PSs (bn bD P w K mg base ["book","bargain"] "is_unsure" (ai mw) f cdv A outer s H E).nox (ao mw) (wT K gS cR):=by
 obtain ⟨L3,Lx,KZ,JA,Jl,KU⟩:=uI
 have F_:=hr.mono (j:=2) (by decide)
 obtain ⟨CP,Ar,sV,uv,rG,uC⟩:=fP
 have pH:=hr.mono (j:=2) (by decide)
 unfold wT
 exact (am (ar (j3 (ef cm (aP KZ F_ rfl JA Jl KU .nil aB (ab (pv 0) (ab (pv 1) aj))) au (aQ _)) (j0 (tQ (mO (aP sV pH rfl uv rG uC .nil aB (ab (pv 0) (ab (pv 1) aj)))))))))
theorem B6{aa:Addr}{ac:Addr}(cR:Sp)(T:Txt K mg aa ac)
  (fP:aK P w K mg base 2 "decision_in" ["book","bargain"] cR)
  (hr:Room 2 (A.deeper (PyProof.Rows.envOfC "left_open" (ai mj) s.heap.objs.size f cdv))) :
  PSs (bn bD P w K mg base ["book"] "left_open" (ai mj) f cdv A outer s H E).nox (ao mj) (Ae K cR):=by
 obtain ⟨CP,Ar,sV,uv,rG,uC⟩:=fP
 have pH:=hr.mono (j:=2) (by decide)
 unfold Ae
 exact (am (ar (eJ rfl (show db _ (["line","book"]:List Str) _ ([("book",s.heap.objs.size+1+0)]:List (Str×Addr)) ([none,some 0]:List (Option Nat)) from ⟨by with_unfolding_all rfl,rfl,rfl,rfl,rfl,⟨rfl,trivial⟩,⟨⟨rfl,Or.inl rfl,Or.inl rfl,_,rfl,rfl⟩,trivial⟩⟩) (cV (pv 0)) (fun _ _ _ _=>(bm (i:=0) Bu rfl (Or.inl rfl))) (fun _ _ _ _=>(fW (PW.pt (rM (aF cm (aE aX (pv 0) ap (fun _ _=>rfl)) au (aQ _)) (pQ (iN (mO (aP sV pH rfl uv rG uC .nil aB (ab (pv 1) (ab (aE aX (pv 0) ap (fun _ _=>rfl)) aj)))))))))) (fun _ _ _ _=>(aE aX (pv 0) ap (fun _ _=>rfl))))))
theorem DR{ac:Addr}(d0:Sp)(aa:Addr)(T:Txt K mg aa ac)
  (jU:aG P w K mg base aa 1 "forget" ["self"] d0)
  (hr:Room 1 (A.deeper (PyProof.Rows.envOfC "House.__init__" (ai lB) s.heap.objs.size f cdv))) :
  PSs (bn bD P w K mg base ["self","number","count","against"] "House.__init__" (ai lB) f cdv A outer s H E).nox (ao lB) (ww K d0 aa):=by
 obtain ⟨JP,Ft,zp,xH,Ao⟩:=jU
 have xc:=hr.mono (j:=1) (by decide)
 unfold ww
 exact (ak (eC (pv 0) (pv 1) rfl)
   (ak (eC (pv 0) (eJ rfl (show db _ (["other","number"]:List Str) _ ([("number",s.heap.objs.size+1+0)]:List (Str×Addr)) ([none,some 1]:List (Option Nat)) from ⟨by with_unfolding_all rfl,rfl,rfl,rfl,rfl,⟨rfl,trivial⟩,⟨⟨rfl,Or.inl rfl,Or.inl rfl,_,rfl,rfl⟩,trivial⟩⟩) (du rfl T.n_range (ab (pv 2) aj)) (fun _ _ _ _=>(bm (i:=0) BC rfl (Or.inl rfl))) (fun _ _ _ _=>(fW (aF fJ (pv 0) (pv 1) (aQ _)))) (fun _ _ _ _=>(pv 0))) rfl)
   (ak (eC (pv 0) (dP gy (by rfl) T.n_list PySem.Pv.boot_list (ab (pv 3) aj)) rfl)
   (ak (eC (pv 0) (bf aj) rfl)
   (ak (eC (pv 0) bS rfl)
   (am (br (gJ (pv 0) T.cl_House xH zp xc Ao .nil aB))))))))
theorem Cq{aa:Addr}{ac:Addr}(T:Txt K mg aa ac)
  (hr:Room 0 (A.deeper (PyProof.Rows.envOfC "House.forget" (ai md) s.heap.objs.size f cdv))) :
  PSs (bn bD P w K mg base ["self"] "House.forget" (ai md) f cdv A outer s H E).nox (ao md) (wn K ):=by
 unfold wn
 exact (ak (eC (pv 0) gH rfl)
   (ak (eC (pv 0) gH rfl)
   (am (eC (pv 0) ap rfl))))
theorem BW{ac:Addr}(bM:Sp)(cP:Sp)(aa:Addr)(T:Txt K mg aa ac)
  (dA:aG P w K mg base aa 1 "write" ["self","word","bargain"] bM)(fN:aG P w K mg base aa 1 "to_others" ["self","bargain","word"] cP)
  (hr:Room 1 (A.deeper (PyProof.Rows.envOfC "House.begin" (ai lf) s.heap.objs.size f cdv))) :
  PSs (bn bD P w K mg base ["self","bargain"] "House.begin" (ai lf) f cdv A outer s H E).nox (ao lf) (xU K bM cP aa):=by
 obtain ⟨xw,q0,jP,io,jH⟩:=dA
 have hJ:=hr.mono (j:=1) (by decide)
 obtain ⟨DX,AQ,t7,o9,sQ⟩:=fN
 have oX:=hr.mono (j:=1) (by decide)
 unfold xU
 exact (ak (aM (aF eh (pv 1) (bi (pv 0) rfl) (by with_unfolding_all rfl))
   (ak (br (aZ (pv 0) T.cl_House io jP hJ jH .nil aB (ab au (ab (pv 1) aj))))
   (am (ar (bf aj))))
   aA)
   (ak (br (aZ (pv 0) T.cl_House io jP hJ jH .nil aB (ab au (ab (pv 1) aj))))
   (am (ar (aZ (pv 0) T.cl_House o9 t7 oX sQ .nil aB (ab (pv 1) (ab au aj)))))))
theorem CM{ac:Addr}(ii:Sp)(iH:Sp)(iJ:Sp)(ie:Sp)(aa:Addr)(T:Txt K mg aa ac)
  (uK:aG P w K mg base aa 4 "got_ask" ["self","giver","bargain"] ii)(rJ:aG P w K mg base aa 4 "got_query" ["self","giver","bargain"] iH)(tf:aG P w K mg base aa 4 "got_vote" ["self","giver","bargain","word"] iJ)(uz:aG P w K mg base aa 4 "got_decision" ["self","bargain","word"] ie)
  (hr:Room 4 (A.deeper (PyProof.Rows.envOfC "House.got" (ai mr) s.heap.objs.size f cdv))) :
  PSs (bn bD P w K mg base ["self","letter","giver","bargain","word"] "House.got" (ai mr) f cdv A outer s H E).nox (ao mr) (v3 K ii iH iJ ie aa):=by
 obtain ⟨Ml,LA,Kp,HP,KH⟩:=uK
 have Gv:=hr.mono (j:=4) (by decide)
 obtain ⟨Mg,LG,Jz,Hy,JH⟩:=rJ
 have Fo:=hr.mono (j:=4) (by decide)
 obtain ⟨Mc,Lk,JS,Hd,Jp⟩:=tf
 have GX:=hr.mono (j:=4) (by decide)
 obtain ⟨L4,Li,Jo,G6,Kn⟩:=uz
 have HQ:=hr.mono (j:=4) (by decide)
 unfold v3
 exact (ak (aO (i:=2) zsc1k.nd rfl (Or.inl rfl) (aE aX (pv 1) ap (fun _ _=>rfl)))
   (ak (aO (i:=3) zsc1k.nd rfl (Or.inl rfl) (aE aX (pv 1) ap (fun _ _=>rfl)))
   (ak (aO (i:=4) zsc1k.nd rfl (Or.inl rfl) (aE aX (pv 1) ap (fun _ _=>rfl)))
   (ak (aM (aF cm (pv 4) au (aQ _))
   (am (ar (aZ (pv 0) T.cl_House HP Kp Gv KH .nil aB (ab (pv 2) (ab (pv 3) aj)))))
   aA)
   (ak (aM (aF cm (pv 4) au (aQ _))
   (am (ar (aZ (pv 0) T.cl_House Hy Jz Fo JH .nil aB (ab (pv 2) (ab (pv 3) aj)))))
   aA)
   (ak (aM (aF eh (pv 4) (b_ (ab au (ab au aj))) (by with_unfolding_all rfl))
   (am (ar (aZ (pv 0) T.cl_House Hd JS GX Jp .nil aB (ab (pv 2) (ab (pv 3) (ab (pv 4) aj))))))
   aA)
   (am (ar (aZ (pv 0) T.cl_House G6 Jo HQ Kn .nil aB (ab (pv 3) (ab (pv 4) aj)))))))))))
theorem Ds{ac:Addr}(dU:Sp)(cg:Sp)(cP:Sp)(aa:Addr)(T:Txt K mg aa ac)
  (jJ:aK P w K mg base 3 "is_unsure" ["book","bargain"] dU)(eK:aG P w K mg base aa 1 "page" ["self","bargain"] cg)(fN:aG P w K mg base aa 1 "to_others" ["self","bargain","word"] cP)
  (hr:Room 3 (A.deeper (PyProof.Rows.envOfC "House.query" (ai lu) s.heap.objs.size f cdv))) :
  PSs (bn bD P w K mg base ["self","bargain"] "House.query" (ai lu) f cdv A outer s H E).nox (ao lu) (xQ K dU cg cP aa):=by
 obtain ⟨Kh,HG,Ac,Ap,Ak,zY⟩:=jJ
 have xm:=hr.mono (j:=3) (by decide)
 obtain ⟨zX,wB,m7,jB,m9⟩:=eK
 have jz:=hr.mono (j:=1) (by decide)
 obtain ⟨DX,AQ,t7,o9,sQ⟩:=fN
 have oX:=hr.mono (j:=1) (by decide)
 unfold xQ
 exact (ak (aM (PW.pt (dM (b3 (bw (bi (pv 0) rfl))) (di (b3 (bw (aP Ac xm rfl Ap Ak zY .nil aB (ab (aZ (pv 0) T.cl_House jB m7 jz m9 .nil aB (ab (pv 1) aj)) (ab (pv 1) aj))))))))
   (am (ar (bf aj)))
   aA)
   (am (ar (aZ (pv 0) T.cl_House o9 t7 oX sQ .nil aB (ab (pv 1) (ab au aj))))))
theorem Dr{ac:Addr}(d0:Sp)(aa:Addr)(T:Txt K mg aa ac)
  (jU:aG P w K mg base aa 1 "forget" ["self"] d0)
  (hr:Room 1 (A.deeper (PyProof.Rows.envOfC "House.stop" (ai lV) s.heap.objs.size f cdv))) :
  PSs (bn bD P w K mg base ["self"] "House.stop" (ai lV) f cdv A outer s H E).nox (ao lV) (xq K d0 aa):=by
 obtain ⟨JP,Ft,zp,xH,Ao⟩:=jU
 have xc:=hr.mono (j:=1) (by decide)
 unfold xq
 exact (ak (eC (pv 0) bS rfl)
   (am (br (gJ (pv 0) T.cl_House xH zp xc Ao .nil aB))))
theorem Cy{ac:Addr}(hV:Sp)(cD:Sp)(aa:Addr)(T:Txt K mg aa ac)
  (rR:aK P w K mg base 3 "left_open" ["book"] hV)(fQ:aG P w K mg base aa 2 "decide" ["self","bargain","word"] cD)
  (hr:Room 3 (A.deeper (PyProof.Rows.envOfC "House.wake" (ai mh) s.heap.objs.size f cdv))) :
  PSs (bn bD P w K mg base ["self","undecided","sent","bargain"] "House.wake" (ai mh) f cdv A outer s H E).nox (ao mh) (wV K hV cD aa):=by
 obtain ⟨L9,LH,IW,Kk,Js,K5⟩:=rR
 have E4:=hr.mono (j:=3) (by decide)
 obtain ⟨BV,AX,qf,nK,pY⟩:=fQ
 have nS:=hr.mono (j:=2) (by decide)
 unfold wV
 exact (ak (eC (pv 0) bS rfl)
   (ak (aO (i:=1) zsc17.nd rfl (Or.inl rfl) (aP IW E4 rfl Kk Js K5 .nil aB (ab (bi (pv 0) rfl) aj)))
   (ak (aO (i:=2) zsc17.nd rfl (Or.inl rfl) (bf aj))
   (ak (ez PassesOwn.never rfl (cV (pv 1)) (bm (i:=3) zsc17.nd rfl (Or.inl rfl))
   (am (br (dm PySem.F.plainAttrs_list PySem.F.slot_list_extend PySem.F.type_list_extend eQ (pv 2) (ab (aZ (pv 0) T.cl_House nK qf nS pY .nil aB (ab (pv 3) (ab au aj))) aj)))))
   (am (ar (pv 2)))))))
theorem Dw{ac:Addr}(bT:Sp)(aa:Addr)(T:Txt K mg aa ac)
  (dC:aG P w K mg base aa 3 "decision" ["self","bargain"] bT)
  (hr:Room 3 (A.deeper (PyProof.Rows.envOfC "House.is_spent" (ai lx) s.heap.objs.size f cdv))) :
  PSs (bn bD P w K mg base ["self","letter"] "House.is_spent" (ai lx) f cdv A outer s H E).nox (ao lx) (w_ K bT aa):=by
 obtain ⟨v6,rf,mE,i_,lm⟩:=dC
 have i7:=hr.mono (j:=3) (by decide)
 unfold w_
 exact (ak (aM (aF jh (aE aX (pv 1) ap (fun _ _=>rfl)) (b_ (ab au (ab au (ab au aj)))) (by with_unfolding_all rfl))
   (am (ar bS))
   aA)
   (am (ar (tQ (j_ (aZ (pv 0) T.cl_House i_ mE i7 lm .nil aB (ab (aE aX (pv 1) ap (fun _ _=>rfl)) aj)))))))
theorem Dx{ac:Addr}(cM:Sp)(cg:Sp)(bM:Sp)(bT:Sp)(cz:Sp)(aa:Addr)(T:Txt K mg aa ac)
  (fU:aK P w K mg base 2 "knows" ["book","bargain"] cM)(eK:aG P w K mg base aa 1 "page" ["self","bargain"] cg)(dA:aG P w K mg base aa 1 "write" ["self","word","bargain"] bM)(dC:aG P w K mg base aa 3 "decision" ["self","bargain"] bT)(fL:aG P w K mg base aa 1 "to_one" ["self","other","bargain","word"] cz)
  (hr:Room 3 (A.deeper (PyProof.Rows.envOfC "House.got_ask" (ai kH) s.heap.objs.size f cdv))) :
  PSs (bn bD P w K mg base ["self","giver","bargain"] "House.got_ask" (ai kH) f cdv A outer s H E).nox (ao kH) (xk K cM cg bM bT cz aa):=by
 obtain ⟨Du,A7,sG,tI,uq,uG⟩:=fU
 have pK:=hr.mono (j:=2) (by decide)
 obtain ⟨zX,wB,m7,jB,m9⟩:=eK
 have jz:=hr.mono (j:=1) (by decide)
 obtain ⟨xw,q0,jP,io,jH⟩:=dA
 have hJ:=hr.mono (j:=1) (by decide)
 obtain ⟨v6,rf,mE,i_,lm⟩:=dC
 have i7:=hr.mono (j:=3) (by decide)
 obtain ⟨CD,AR,ox,ku,oF⟩:=fL
 have lT:=hr.mono (j:=1) (by decide)
 unfold xk
 exact (dz (aM (b3 (bw (aP sG pK rfl tI uq uG .nil aB (ab (aZ (pv 0) T.cl_House jB m7 jz m9 .nil aB (ab (pv 2) aj)) (ab (pv 2) aj)))))
   (am (br (aZ (pv 0) T.cl_House io jP hJ jH .nil aB (ab (r9 (aF eh (pv 2) (bi (pv 0) rfl) (by with_unfolding_all rfl)) au au) (ab (pv 2) aj)))))
   aA)
   (ak (aM (aF cm (aZ (pv 0) T.cl_House i_ mE i7 lm .nil aB (ab (pv 2) aj)) au (aQ _))
   (am (ar (aZ (pv 0) T.cl_House ku ox lT oF .nil aB (ab (pv 1) (ab (pv 2) (ab au aj))))))
   aA)
   (am (ar (aZ (pv 0) T.cl_House ku ox lT oF .nil aB (ab (pv 1) (ab (pv 2) (ab au aj))))))))
theorem B_{ac:Addr}(bT:Sp)(cz:Sp)(cD:Sp)(aa:Addr)(T:Txt K mg aa ac)
  (dC:aG P w K mg base aa 3 "decision" ["self","bargain"] bT)(fL:aG P w K mg base aa 1 "to_one" ["self","other","bargain","word"] cz)(fQ:aG P w K mg base aa 2 "decide" ["self","bargain","word"] cD)
  (hr:Room 3 (A.deeper (PyProof.Rows.envOfC "House.got_vote" (ai lg) s.heap.objs.size f cdv))) :
  PSs (bn bD P w K mg base ["self","giver","bargain","word","decided","givers"] "House.got_vote" (ai lg) f cdv A outer s H E).nox (ao lg) (wO K bT cz cD aa):=by
 have hu:=gm hr
 obtain ⟨v6,rf,mE,i_,lm⟩:=dC
 have i7:=hr.mono (j:=3) (by decide)
 obtain ⟨CD,AR,ox,ku,oF⟩:=fL
 have lT:=hr.mono (j:=1) (by decide)
 obtain ⟨BV,AX,qf,nK,pY⟩:=fQ
 have nS:=hr.mono (j:=2) (by decide)
 unfold wO
 exact (ak (aO (i:=4) zsc0d.nd rfl (Or.inl rfl) (aZ (pv 0) T.cl_House i_ mE i7 lm .nil aB (ab (pv 2) aj)))
   (ak (aM (iN (j_ (pv 4)))
   (am (ar (r9 (aF cm (pv 3) au (aQ _)) (aZ (pv 0) T.cl_House ku ox lT oF .nil aB (ab (pv 1) (ab (pv 2) (ab (pv 4) aj)))) (bf aj))))
   aA)
   (ak (aM (aF cm (pv 3) au (aQ _))
   (am (ar (aZ (pv 0) T.cl_House nK qf nS pY .nil aB (ab (pv 2) (ab au aj)))))
   aA)
   (ak (aO (i:=5) zsc0d.nd rfl (Or.inl rfl) (rW (bi (pv 0) rfl) (pv 2) gH ⟨rfl,rfl,rfl,rfl⟩))
   (ak (j1 hu (pv 5) (pv 1) bS rfl)
   (ak (aM (aF i5 (aS yO (by rfl) T.n_len PySem.boot_len (ab (pv 5) aj)) (aS aU (by rfl) T.n_len PySem.boot_len (ab (bi (pv 0) rfl) aj)) (aQ _))
   (am (ar (bf aj)))
   aA)
   (am (ar (aZ (pv 0) T.cl_House nK qf nS pY .nil aB (ab (pv 2) (ab au aj)))))))))))
theorem DI{ac:Addr}(bT:Sp)(bM:Sp)(aa:Addr)(T:Txt K mg aa ac)
  (dC:aG P w K mg base aa 3 "decision" ["self","bargain"] bT)(dA:aG P w K mg base aa 1 "write" ["self","word","bargain"] bM)
  (hr:Room 3 (A.deeper (PyProof.Rows.envOfC "House.got_decision" (ai lD) s.heap.objs.size f cdv))) :
  PSs (bn bD P w K mg base ["self","bargain","word"] "House.got_decision" (ai lD) f cdv A outer s H E).nox (ao lD) (wz K bT bM aa):=by
 obtain ⟨v6,rf,mE,i_,lm⟩:=dC
 have i7:=hr.mono (j:=3) (by decide)
 obtain ⟨xw,q0,jP,io,jH⟩:=dA
 have hJ:=hr.mono (j:=1) (by decide)
 unfold wz
 exact (dz (aM (iN (mO (aZ (pv 0) T.cl_House i_ mE i7 lm .nil aB (ab (pv 1) aj))))
   (am (br (aZ (pv 0) T.cl_House io jP hJ jH .nil aB (ab (pv 2) (ab (pv 1) aj)))))
   aA)
   (am (ar (bf aj))))
theorem B8{ac:Addr}(dU:Sp)(cM:Sp)(cg:Sp)(bT:Sp)(cz:Sp)(cD:Sp)(bM:Sp)(aa:Addr)(T:Txt K mg aa ac)
  (jJ:aK P w K mg base 3 "is_unsure" ["book","bargain"] dU)(fU:aK P w K mg base 2 "knows" ["book","bargain"] cM)(eK:aG P w K mg base aa 1 "page" ["self","bargain"] cg)(dC:aG P w K mg base aa 3 "decision" ["self","bargain"] bT)(fL:aG P w K mg base aa 1 "to_one" ["self","other","bargain","word"] cz)(fQ:aG P w K mg base aa 2 "decide" ["self","bargain","word"] cD)(dA:aG P w K mg base aa 1 "write" ["self","word","bargain"] bM)
  (hr:Room 3 (A.deeper (PyProof.Rows.envOfC "House.got_query" (ai kN) s.heap.objs.size f cdv))) :
  PSs (bn bD P w K mg base ["self","giver","bargain","decided"] "House.got_query" (ai kN) f cdv A outer s H E).nox (ao kN) (xI K dU cM cg bT cz cD bM aa):=by
 obtain ⟨Kh,HG,Ac,Ap,Ak,zY⟩:=jJ
 have xm:=hr.mono (j:=3) (by decide)
 obtain ⟨Du,A7,sG,tI,uq,uG⟩:=fU
 have pK:=hr.mono (j:=2) (by decide)
 obtain ⟨zX,wB,m7,jB,m9⟩:=eK
 have jz:=hr.mono (j:=1) (by decide)
 obtain ⟨v6,rf,mE,i_,lm⟩:=dC
 have i7:=hr.mono (j:=3) (by decide)
 obtain ⟨CD,AR,ox,ku,oF⟩:=fL
 have lT:=hr.mono (j:=1) (by decide)
 obtain ⟨BV,AX,qf,nK,pY⟩:=fQ
 have nS:=hr.mono (j:=2) (by decide)
 obtain ⟨xw,q0,jP,io,jH⟩:=dA
 have hJ:=hr.mono (j:=1) (by decide)
 unfold xI
 exact (ak (aM (bw (aP Ac xm rfl Ap Ak zY .nil aB (ab (aZ (pv 0) T.cl_House jB m7 jz m9 .nil aB (ab (pv 2) aj)) (ab (pv 2) aj))))
   (am (ar (bf aj)))
   aA)
   (ak (aO (i:=3) zsc07.nd rfl (Or.inl rfl) (aZ (pv 0) T.cl_House i_ mE i7 lm .nil aB (ab (pv 2) aj)))
   (ak (aM (iN (j_ (pv 3)))
   (am (ar (aZ (pv 0) T.cl_House ku ox lT oF .nil aB (ab (pv 1) (ab (pv 2) (ab (pv 3) aj))))))
   aA)
   (ak (aM (bw (aP sG pK rfl tI uq uG .nil aB (ab (aZ (pv 0) T.cl_House jB m7 jz m9 .nil aB (ab (pv 2) aj)) (ab (pv 2) aj))))
   (am (ar (aZ (pv 0) T.cl_House nK qf nS pY .nil aB (ab (pv 2) (ab au aj)))))
   aA)
   (ak (br (aZ (pv 0) T.cl_House io jP hJ jH .nil aB (ab au (ab (pv 2) aj))))
   (am (ar (aZ (pv 0) T.cl_House ku ox lT oF .nil aB (ab (pv 1) (ab (pv 2) (ab au aj)))))))))))
theorem Dy{ac:Addr}(bM:Sp)(cP:Sp)(aa:Addr)(T:Txt K mg aa ac)
  (dA:aG P w K mg base aa 1 "write" ["self","word","bargain"] bM)(fN:aG P w K mg base aa 1 "to_others" ["self","bargain","word"] cP)
  (hr:Room 1 (A.deeper (PyProof.Rows.envOfC "House.decide" (ai lG) s.heap.objs.size f cdv))) :
  PSs (bn bD P w K mg base ["self","bargain","word"] "House.decide" (ai lG) f cdv A outer s H E).nox (ao lG) (xx K bM cP aa):=by
 obtain ⟨xw,q0,jP,io,jH⟩:=dA
 have hJ:=hr.mono (j:=1) (by decide)
 obtain ⟨DX,AQ,t7,o9,sQ⟩:=fN
 have oX:=hr.mono (j:=1) (by decide)
 unfold xx
 exact (ak (br (aZ (pv 0) T.cl_House io jP hJ jH .nil aB (ab (pv 2) (ab (pv 1) aj))))
   (am (ar (aZ (pv 0) T.cl_House o9 t7 oX sQ .nil aB (ab (pv 1) (ab (pv 2) aj))))))
theorem Dc{ac:Addr}(cR:Sp)(cg:Sp)(aa:Addr)(T:Txt K mg aa ac)
  (fP:aK P w K mg base 2 "decision_in" ["book","bargain"] cR)(eK:aG P w K mg base aa 1 "page" ["self","bargain"] cg)
  (hr:Room 2 (A.deeper (PyProof.Rows.envOfC "House.decision" (ai lX) s.heap.objs.size f cdv))) :
  PSs (bn bD P w K mg base ["self","bargain"] "House.decision" (ai lX) f cdv A outer s H E).nox (ao lX) (wF K cR cg aa):=by
 obtain ⟨CP,Ar,sV,uv,rG,uC⟩:=fP
 have pH:=hr.mono (j:=2) (by decide)
 obtain ⟨zX,wB,m7,jB,m9⟩:=eK
 have jz:=hr.mono (j:=1) (by decide)
 unfold wF
 exact (am (ar (aP sV pH rfl uv rG uC .nil aB (ab (aZ (pv 0) T.cl_House jB m7 jz m9 .nil aB (ab (pv 1) aj)) (ab (pv 1) aj)))))
theorem Ci{aa:Addr}{ac:Addr}(T:Txt K mg aa ac)
  (hr:Room 0 (A.deeper (PyProof.Rows.envOfC "House.page" (ai lL) s.heap.objs.size f cdv))) :
  PSs (bn bD P w K mg base ["self","bargain","line"] "House.page" (ai lL) f cdv A outer s H E).nox (ao lL) (wU K ):=by
 have hu:=gm hr
 unfold wU
 exact (ak (oK PassesOwn.never (aF i5 (bi (pv 0) rfl) (aS aU (by rfl) T.n_len PySem.boot_len (ab (bi (pv 0) rfl) aj)) (aQ _))
   (ak (aO (i:=2) zsc13.nd rfl (Or.inl rfl) (aE aY (bi (pv 0) rfl) (bi (pv 0) rfl) (fun _ _=>rfl)))
   (ak (br (dm PySem.F.plainAttrs_list PySem.F.slot_list_append PySem.F.type_list_append cQ (rW (bi (pv 0) rfl) (aE aX (pv 2) ap (fun _ _=>rfl)) (bf aj) ⟨rfl,rfl,rfl,rfl⟩) (ab (pv 2) aj)))
   (am (x8 (pv 0) ap Do)))))
   (am (ar (zF hu (bi (pv 0) rfl) (pv 1) (bf aj) ⟨rfl,rfl,rfl,rfl⟩))))
theorem Dt{aa:Addr}{ac:Addr}(T:Txt K mg aa ac)
  (hr:Room 0 (A.deeper (PyProof.Rows.envOfC "House.write" (ai lH) s.heap.objs.size f cdv))) :
  PSs (bn bD P w K mg base ["self","word","bargain"] "House.write" (ai lH) f cdv A outer s H E).nox (ao lH) (xg K ):=by
 unfold xg
 exact (am (br (dm PySem.F.plainAttrs_list PySem.F.slot_list_append PySem.F.type_list_append cQ (bi (pv 0) rfl) (ab (b_ (ab (pv 1) (ab (pv 2) aj))) aj))))
theorem CL{aa:Addr}{ac:Addr}(T:Txt K mg aa ac)
  (hr:Room 0 (A.deeper (PyProof.Rows.envOfC "House.to_one" (ai lO) s.heap.objs.size f cdv))) :
  PSs (bn bD P w K mg base ["self","other","bargain","word"] "House.to_one" (ai lO) f cdv A outer s H E).nox (ao lO) (wc K ):=by
 unfold wc
 exact (am (ar (bf (ab (b_ (ab (bi (pv 0) rfl) (ab (pv 1) (ab (pv 2) (ab (pv 3) aj))))) aj))))
theorem Dg{aa:Addr}{ac:Addr}(T:Txt K mg aa ac)
  (hr:Room 0 (A.deeper (PyProof.Rows.envOfC "House.to_others" (ai lC) s.heap.objs.size f cdv))) :
  PSs (bn bD P w K mg base ["self","bargain","word"] "House.to_others" (ai lC) f cdv A outer s H E).nox (ao lC) (vL K ):=by
 unfold vL
 exact (am (ar (eJ rfl (show db _ (["other","bargain","word","self"]:List Str) _ ([("word",s.heap.objs.size+1+2),("self",s.heap.objs.size+1+0),("bargain",s.heap.objs.size+1+1)]:List (Str×Addr)) ([none,some 1,some 2,some 0]:List (Option Nat)) from ⟨by with_unfolding_all rfl,rfl,rfl,rfl,rfl,⟨rfl,⟨rfl,⟨rfl,trivial⟩⟩⟩,⟨⟨rfl,Or.inl rfl,Or.inl rfl,_,rfl,rfl⟩,⟨⟨rfl,Or.inl rfl,Or.inl rfl,_,rfl,rfl⟩,⟨⟨rfl,Or.inl rfl,Or.inl rfl,_,rfl,rfl⟩,trivial⟩⟩⟩⟩) (cV (bi (pv 0) rfl)) (fun _ _ _ _=>(bm (i:=0) BJ rfl (Or.inl rfl))) (fun _ _ _ _=>eT) (fun _ _ _ _=>(b_ (ab (bi (pv 3) rfl) (ab (pv 0) (ab (pv 1) (ab (pv 2) aj)))))))))
theorem Cv{aa:Addr}{ac:Addr}(T:Txt K mg aa ac)
  (hr:Room 0 (A.deeper (PyProof.Rows.envOfC "bargains_against" (ai kM) s.heap.objs.size f cdv))) :
  PSs (bn bD P w K mg base ["against","number"] "bargains_against" (ai kM) f cdv A outer s H E).nox (ao kM) (wJ K ):=by
 unfold wJ
 exact (am (ar (eJ rfl (show db _ (["pair","number"]:List Str) _ ([("number",s.heap.objs.size+1+0)]:List (Str×Addr)) ([none,some 1]:List (Option Nat)) from ⟨by with_unfolding_all rfl,rfl,rfl,rfl,rfl,⟨rfl,trivial⟩,⟨⟨rfl,Or.inl rfl,Or.inl rfl,_,rfl,rfl⟩,trivial⟩⟩) (cV (pv 0)) (fun _ _ _ _=>(bm (i:=0) A_ rfl (Or.inl rfl))) (fun _ _ _ _=>(fW (aF cm (aE aX (pv 0) ap (fun _ _=>rfl)) (pv 1) (aQ _)))) (fun _ _ _ _=>(aE aX (pv 0) ap (fun _ _=>rfl))))))
theorem B'{ac:Addr}(iz:Sp)(hE:Sp)(aa:Addr)(T:Txt K mg aa ac)
  (rH:aK P w K mg base 1 "bargains_against" ["against","number"] iz)(t8:mY P w K mg base aa 2 ["self","number","count","against"] hE)
  (hr:Room 3 (A.deeper (PyProof.Rows.envOfC "Hall.__init__" (ai mB) s.heap.objs.size f cdv))) :
  PSs (bn bD P w K mg base ["self","count","against"] "Hall.__init__" (ai mB) f cdv A outer s H E).nox (ao mB) (wI K iz hE aa):=by
 obtain ⟨Mx,LT,Kv,IR,KY,KI⟩:=rH
 have EV:=hr.mono (j:=1) (by decide)
 obtain ⟨Mt,Lz,Ku,mk_House,JX⟩:=t8
 have Ir:=hr.mono (j:=3) (by decide)
 unfold wI
 exact (ak (eC (pv 0) (eJ rfl (show db _ (["number","count","against"]:List Str) _ ([("count",s.heap.objs.size+1+0),("against",s.heap.objs.size+1+1)]:List (Str×Addr)) ([none,some 1,some 2]:List (Option Nat)) from ⟨by with_unfolding_all rfl,rfl,rfl,rfl,rfl,⟨rfl,⟨rfl,trivial⟩⟩,⟨⟨rfl,Or.inl rfl,Or.inl rfl,_,rfl,rfl⟩,⟨⟨rfl,Or.inl rfl,Or.inl rfl,_,rfl,rfl⟩,trivial⟩⟩⟩) (du rfl T.n_range (ab (pv 1) aj)) (fun _ _ _ _=>(bm (i:=0) BU rfl (Or.inl rfl))) (fun _ _ _ _=>eT) (fun _ _ _ _=>(qb mk_House Ku Ir rfl T.m_House JX .nil aB (ab (pv 0) (ab (pv 1) (ab (aP Kv EV rfl IR KY KI .nil aB (ab (pv 2) (ab (pv 0) aj))) aj)))))) rfl)
   (ak (eC (pv 0) (bf aj) rfl)
   (am (eC (pv 0) (bf aj) rfl))))
theorem CQ{aa:Addr}(ib:Sp)(dS:Sp)(ix:Sp)(h8:Sp)(hZ:Sp)(ik:Sp)(ac:Addr)(T:Txt K mg aa ac)
  (uy:aG P w K mg base ac 4 "begin" ["self","bargain","stays"] ib)(jV:aG P w K mg base ac 6 "carry" ["self","which","stays"] dS)(tN:aG P w K mg base ac 5 "query" ["self","number","bargain"] ix)(tU:aG P w K mg base ac 3 "stop" ["self","number"] h8)(uu:aG P w K mg base ac 5 "wake" ["self","number"] hZ)(rX:aG P w K mg base ac 7 "sweep" ["self"] ik)
  (hr:Room 7 (A.deeper (PyProof.Rows.envOfC "Hall.do" (ai lF) s.heap.objs.size f cdv))) :
  PSs (bn bD P w K mg base ["self","deed","word"] "Hall.do" (ai lF) f cdv A outer s H E).nox (ao lF) (wC K ib dS ix h8 hZ ik ac):=by
 obtain ⟨L6,Ls,IM,FK,Ji⟩:=uy
 have E':=hr.mono (j:=4) (by decide)
 obtain ⟨Jt,GJ,zO,w6,Ag⟩:=jV
 have wb:=hr.mono (j:=6) (by decide)
 obtain ⟨L7,Lm,IO,FV,IS⟩:=tN
 have GY:=hr.mono (j:=5) (by decide)
 obtain ⟨Mz,LK,Kx,Fe,Kf⟩:=tU
 have D8:=hr.mono (j:=3) (by decide)
 obtain ⟨MD,Lh,Kq,GL,J3⟩:=uu
 have Hm:=hr.mono (j:=5) (by decide)
 obtain ⟨Mf,LV,JE,Ee,KL⟩:=rX
 have E3:=hr.mono (j:=7) (by decide)
 unfold wC
 exact (ak (aO (i:=2) zsc1q.nd rfl (Or.inl rfl) (aE aX (pv 1) ap (fun _ _=>rfl)))
   (ak (aM (aF cm (pv 2) au (aQ _))
   (am (ar (aZ (pv 0) T.cl_Hall FK IM E' Ji .nil aB (ab (aE aX (pv 1) ap (fun _ _=>rfl)) (ab (aE aX (pv 1) ap (fun _ _=>rfl)) aj)))))
   aA)
   (ak (aM (aF cm (pv 2) au (aQ _))
   (am (ar (aZ (pv 0) T.cl_Hall w6 zO wb Ag .nil aB (ab (aE aX (pv 1) ap (fun _ _=>rfl)) (ab (aE aX (pv 1) ap (fun _ _=>rfl)) aj)))))
   aA)
   (ak (aM (aF cm (pv 2) au (aQ _))
   (am (ar (aZ (pv 0) T.cl_Hall FV IO GY IS .nil aB (ab (aE aX (pv 1) ap (fun _ _=>rfl)) (ab (aE aX (pv 1) ap (fun _ _=>rfl)) aj)))))
   aA)
   (ak (aM (aF cm (pv 2) au (aQ _))
   (am (ar (aZ (pv 0) T.cl_Hall Fe Kx D8 Kf .nil aB (ab (aE aX (pv 1) ap (fun _ _=>rfl)) aj))))
   aA)
   (ak (aM (aF cm (pv 2) au (aQ _))
   (am (ar (aZ (pv 0) T.cl_Hall GL Kq Hm J3 .nil aB (ab (aE aX (pv 1) ap (fun _ _=>rfl)) aj))))
   aA)
   (am (ar (gJ (pv 0) T.cl_Hall Ee JE E3 KL .nil aB)))))))))
theorem C_(cM:Sp)(ig:Sp)(dZ:Sp)(aa:Addr)(ac:Addr)(T:Txt K mg aa ac)
  (fU:aK P w K mg base 2 "knows" ["book","bargain"] cM)(tJ:aG P w K mg base aa 2 "begin" ["self","bargain"] ig)(jM:aG P w K mg base ac 3 "send_or_stop" ["self","house","sent","stays"] dZ)
  (hr:Room 3 (A.deeper (PyProof.Rows.envOfC "Hall.begin" (ai kj) s.heap.objs.size f cdv))) :
  PSs (bn bD P w K mg base ["self","bargain","stays","house","ahead"] "Hall.begin" (ai kj) f cdv A outer s H E).nox (ao kj) (wf K cM ig dZ aa ac):=by
 obtain ⟨Du,A7,sG,tI,uq,uG⟩:=fU
 have pK:=hr.mono (j:=2) (by decide)
 obtain ⟨MF,Lw,KB,HN,K9⟩:=tJ
 have GM:=hr.mono (j:=2) (by decide)
 obtain ⟨Kt,GH,z8,xJ,zA⟩:=jM
 have wk:=hr.mono (j:=3) (by decide)
 unfold wf
 exact (ak (aO (i:=3) zsc12.nd rfl (Or.inl rfl) (aE aY (bi (pv 0) rfl) (bt cE (pv 1) (aS aU (by rfl) T.n_len PySem.boot_len (ab (bi (pv 0) rfl) aj))) (fun _ _=>rfl)))
   (ak (aM (PW.pt (dM (b3 (bw (bi (pv 3) rfl))) (di (bw (aP sG pK rfl tI uq uG .nil aB (ab (bi (pv 3) rfl) (ab (pv 1) aj)))))))
   (am (ar fF))
   aA)
   (ak (aO (i:=4) zsc12.nd rfl (Or.inl rfl) (aS aU (by rfl) T.n_len PySem.boot_len (ab (bi (pv 3) rfl) aj)))
   (ak (br (aZ (pv 0) T.cl_Hall xJ z8 wk zA .nil aB (ab (pv 3) (ab (aZ (pv 3) T.cl_House HN KB GM K9 .nil aB (ab (pv 1) aj)) (ab (pv 2) aj)))))
   (am (ar (gN jY (bi (pv 3) rfl) (gI (pv 4)) j4)))))))
theorem DV(g_:Sp)(dZ:Sp)(aa:Addr)(ac:Addr)(T:Txt K mg aa ac)
  (ux:aG P w K mg base aa 5 "got" ["self","letter"] g_)(jM:aG P w K mg base ac 3 "send_or_stop" ["self","house","sent","stays"] dZ)
  (hr:Room 5 (A.deeper (PyProof.Rows.envOfC "Hall.carry" (ai lv) s.heap.objs.size f cdv))) :
  PSs (bn bD P w K mg base ["self","which","stays","letter","house","ahead"] "Hall.carry" (ai lv) f cdv A outer s H E).nox (ao lv) (wP K g_ dZ aa ac):=by
 obtain ⟨Mj,Ll,KW,G3,JV⟩:=ux
 have Fc:=hr.mono (j:=5) (by decide)
 obtain ⟨Kt,GH,z8,xJ,zA⟩:=jM
 have wk:=hr.mono (j:=3) (by decide)
 unfold wP
 exact (ak (aM (aF AJ (pv 1) (aS aU (by rfl) T.n_len PySem.boot_len (ab (bi (pv 0) rfl) aj)) (aQ _))
   (am (ar fF))
   aA)
   (ak (aO (i:=3) zsc0z.nd rfl (Or.inl rfl) (aE aY (bi (pv 0) rfl) (pv 1) (fun _ _=>rfl)))
   (ak (aO (i:=4) zsc0z.nd rfl (Or.inl rfl) (aE aY (bi (pv 0) rfl) (aE aX (pv 3) ap (fun _ _=>rfl)) (fun _ _=>rfl)))
   (ak (aM (b3 (bw (bi (pv 4) rfl)))
   (am (ar fF))
   aA)
   (ak (aO (i:=5) zsc0z.nd rfl (Or.inl rfl) (aS aU (by rfl) T.n_len PySem.boot_len (ab (bi (pv 4) rfl) aj)))
   (ak (br (aZ (pv 0) T.cl_Hall xJ z8 wk zA .nil aB (ab (pv 4) (ab (aZ (pv 4) T.cl_House G3 KW Fc JV .nil aB (ab (pv 3) aj)) (ab (pv 2) aj)))))
   (am (ar (gN jY (bi (pv 4) rfl) (gI (pv 5)) j4)))))))))
theorem B7(iy:Sp)(cL:Sp)(aa:Addr)(ac:Addr)(T:Txt K mg aa ac)
  (sr:aG P w K mg base aa 4 "query" ["self","bargain"] iy)(fY:aG P w K mg base ac 1 "send" ["self","sent"] cL)
  (hr:Room 4 (A.deeper (PyProof.Rows.envOfC "Hall.query" (ai kx) s.heap.objs.size f cdv))) :
  PSs (bn bD P w K mg base ["self","number","bargain","sent"] "Hall.query" (ai kx) f cdv A outer s H E).nox (ao kx) (wL K iy cL aa ac):=by
 obtain ⟨Mh,LX,IN,EJ,Ky⟩:=sr
 have Ia:=hr.mono (j:=4) (by decide)
 obtain ⟨Dn,AY,sS,pG,rC⟩:=fY
 have oW:=hr.mono (j:=1) (by decide)
 unfold wL
 exact (ak (aO (i:=3) zsc0y.nd rfl (Or.inl rfl) (aZ (aE aY (bi (pv 0) rfl) (pv 1) (fun _ _=>rfl)) T.cl_House EJ IN Ia Ky .nil aB (ab (pv 2) aj)))
   (ak (br (aZ (pv 0) T.cl_Hall pG sS oW rC .nil aB (ab (pv 3) aj)))
   (am (ar (ef rh (aS aU (by rfl) T.n_len PySem.boot_len (ab (pv 3) aj)) ap (aQ _))))))
theorem Ct{ac:Addr}(d5:Sp)(aa:Addr)(T:Txt K mg aa ac)
  (jG:aG P w K mg base aa 2 "stop" ["self"] d5)
  (hr:Room 2 (A.deeper (PyProof.Rows.envOfC "Hall.stop" (ai lU) s.heap.objs.size f cdv))) :
  PSs (bn bD P w K mg base ["self","number","house"] "Hall.stop" (ai lU) f cdv A outer s H E).nox (ao lU) (xy K d5 aa):=by
 obtain ⟨IQ,FN,z6,wX,zG⟩:=jG
 have v5:=hr.mono (j:=2) (by decide)
 unfold xy
 exact (ak (aO (i:=2) zsc1b.nd rfl (Or.inl rfl) (aE aY (bi (pv 0) rfl) (pv 1) (fun _ _=>rfl)))
   (ak (aM (b3 (bw (bi (pv 2) rfl)))
   (am (ar bS))
   aA)
   (ak (br (gJ (pv 2) T.cl_House wX z6 v5 zG .nil aB))
   (am (ar bS)))))
theorem Cu(iF:Sp)(cL:Sp)(aa:Addr)(ac:Addr)(T:Txt K mg aa ac)
  (sf:aG P w K mg base aa 4 "wake" ["self"] iF)(fY:aG P w K mg base ac 1 "send" ["self","sent"] cL)
  (hr:Room 4 (A.deeper (PyProof.Rows.envOfC "Hall.wake" (ai lM) s.heap.objs.size f cdv))) :
  PSs (bn bD P w K mg base ["self","number","house","ahead"] "Hall.wake" (ai lM) f cdv A outer s H E).nox (ao lM) (wR K iF cL aa ac):=by
 obtain ⟨L8,LN,Jj,Hw,Kj⟩:=sf
 have Fs:=hr.mono (j:=4) (by decide)
 obtain ⟨Dn,AY,sS,pG,rC⟩:=fY
 have oW:=hr.mono (j:=1) (by decide)
 unfold wR
 exact (ak (aO (i:=2) zsc1f.nd rfl (Or.inl rfl) (aE aY (bi (pv 0) rfl) (pv 1) (fun _ _=>rfl)))
   (ak (aM (bw (bi (pv 2) rfl))
   (am (ar fF))
   aA)
   (ak (aO (i:=3) zsc1f.nd rfl (Or.inl rfl) (aS aU (by rfl) T.n_len PySem.boot_len (ab (bi (pv 2) rfl) aj)))
   (ak (br (aZ (pv 0) T.cl_Hall pG sS oW rC .nil aB (ab (gJ (pv 2) T.cl_House Hw Jj Fs Kj .nil aB) aj)))
   (am (ar (gN jY (bi (pv 2) rfl) (gI (pv 3)) j4)))))))
theorem C2{aa:Addr}(dS:Sp)(iB:Sp)(ac:Addr)(T:Txt K mg aa ac)
  (jV:aG P w K mg base ac 6 "carry" ["self","which","stays"] dS)(tK:aG P w K mg base ac 5 "is_spent_letter" ["self","which"] iB)
  (hr:Room 6 (A.deeper (PyProof.Rows.envOfC "Hall.sweep" (ai k_) s.heap.objs.size f cdv))) :
  PSs (bn bD P w K mg base ["self","written","place","which","lines","number"] "Hall.sweep" (ai k_) f cdv A outer s H E).nox (ao k_) (v0 K dS iB ac):=by
 obtain ⟨Jt,GJ,zO,w6,Ag⟩:=jV
 have wb:=hr.mono (j:=6) (by decide)
 obtain ⟨MB,LQ,K8,IA,Jq⟩:=tK
 have Fq:=hr.mono (j:=5) (by decide)
 unfold v0
 exact (ak (aO (i:=1) zsc14.nd rfl (Or.inl rfl) (bf aj))
   (ak (aO (i:=2) zsc14.nd rfl (Or.inl rfl) ap)
   (ak (oK PassesOwn.never (aF i5 (pv 2) (aS aU (by rfl) T.n_len PySem.boot_len (ab (bi (pv 0) rfl) aj)) (aQ _))
   (ak (aO (i:=3) zsc14.nd rfl (Or.inl rfl) (aE aY (bi (pv 0) rfl) (pv 2) (fun _ _=>rfl)))
   (ak (aO (i:=4) zsc14.nd rfl (Or.inl rfl) (aZ (pv 0) T.cl_Hall w6 zO wb Ag .nil aB (ab (pv 3) (ab bS aj))))
   (dz (aM (iN (j_ (pv 4)))
   (ak (aO (i:=5) zsc14.nd rfl (Or.inr rfl) (aE aX (aE aY (bi (pv 0) rfl) (pv 3) (fun _ _=>rfl)) ap (fun _ _=>rfl)))
   (am (br (dm PySem.F.plainAttrs_list PySem.F.slot_list_extend PySem.F.type_list_extend eQ (pv 1) (ab (eJ rfl (show db _ (["line","number"]:List Str) _ ([("number",s.heap.objs.size+1+1)]:List (Str×Addr)) ([none,some 5]:List (Option Nat)) from ⟨by with_unfolding_all rfl,rfl,rfl,rfl,rfl,⟨rfl,trivial⟩,⟨⟨rfl,Or.inl rfl,Or.inl rfl,_,rfl,rfl⟩,trivial⟩⟩) (cV (pv 4)) (fun _ _ _ _=>(bm (i:=0) A9 rfl (Or.inl rfl))) (fun _ _ _ _=>eT) (fun _ _ _ _=>(b_ (ab (pv 1) (ab (pv 0) aj))))) aj)))))
   aA)
   (am (DL (i:=2) zsc14.nd rfl (Or.inl rfl) ap Cd))))))
   (ak (eC (pv 0) (eJ rfl (show db _ (["which","self"]:List Str) _ ([("self",s.heap.objs.size+1+0)]:List (Str×Addr)) ([none,some 0]:List (Option Nat)) from ⟨by with_unfolding_all rfl,rfl,rfl,rfl,rfl,⟨rfl,trivial⟩,⟨⟨rfl,Or.inl rfl,Or.inl rfl,_,rfl,rfl⟩,trivial⟩⟩) (cV (bi (pv 0) rfl)) (fun _ _ _ _=>(bm (i:=0) BD rfl (Or.inl rfl))) (fun _ _ _ _=>(fW (b3 (bw (aZ (pv 1) T.cl_Hall IA K8 Fq Jq .nil aB (ab (pv 0) aj)))))) (fun _ _ _ _=>(pv 0))) rfl)
   (am (ar (pv 1)))))))
theorem CN{ac:Addr}(ir:Sp)(aa:Addr)(T:Txt K mg aa ac)
  (uj:aG P w K mg base aa 4 "is_spent" ["self","letter"] ir)
  (hr:Room 4 (A.deeper (PyProof.Rows.envOfC "Hall.is_spent_letter" (ai ko) s.heap.objs.size f cdv))) :
  PSs (bn bD P w K mg base ["self","which","letter"] "Hall.is_spent_letter" (ai ko) f cdv A outer s H E).nox (ao ko) (wS K ir aa):=by
 obtain ⟨Mn,Lq,Km,Eb,Kl⟩:=uj
 have Ej:=hr.mono (j:=4) (by decide)
 unfold wS
 exact (ak (aO (i:=2) zsc00.nd rfl (Or.inl rfl) (aE aY (bi (pv 0) rfl) (pv 1) (fun _ _=>rfl)))
   (am (ar (aZ (aE aY (bi (pv 0) rfl) (aE aX (pv 2) ap (fun _ _=>rfl)) (fun _ _=>rfl)) T.cl_House Eb Km Ej Kl .nil aB (ab (pv 2) aj)))))
theorem DZ(cL:Sp)(d5:Sp)(ac:Addr)(aa:Addr)(T:Txt K mg aa ac)
  (fY:aG P w K mg base ac 1 "send" ["self","sent"] cL)(jG:aG P w K mg base aa 2 "stop" ["self"] d5)
  (hr:Room 2 (A.deeper (PyProof.Rows.envOfC "Hall.send_or_stop" (ai ki) s.heap.objs.size f cdv))) :
  PSs (bn bD P w K mg base ["self","house","sent","stays"] "Hall.send_or_stop" (ai ki) f cdv A outer s H E).nox (ao ki) (vV K cL d5 ac aa):=by
 obtain ⟨Dn,AY,sS,pG,rC⟩:=fY
 have oW:=hr.mono (j:=1) (by decide)
 obtain ⟨IQ,FN,z6,wX,zG⟩:=jG
 have v5:=hr.mono (j:=2) (by decide)
 unfold vV
 exact (am (aM (bw (pv 3))
   (am (br (aZ (pv 0) T.cl_Hall pG sS oW rC .nil aB (ab (pv 2) aj))))
   (am (br (gJ (pv 1) T.cl_House wX z6 v5 zG .nil aB)))))
theorem CG{aa:Addr}{ac:Addr}(T:Txt K mg aa ac)
  (hr:Room 0 (A.deeper (PyProof.Rows.envOfC "Hall.send" (ai lY) s.heap.objs.size f cdv))) :
  PSs (bn bD P w K mg base ["self","sent","first"] "Hall.send" (ai lY) f cdv A outer s H E).nox (ao lY) (vZ K ):=by
 unfold vZ
 exact (ak (aO (i:=2) zsc1g.nd rfl (Or.inl rfl) (aS aU (by rfl) T.n_len PySem.boot_len (ab (bi (pv 0) rfl) aj)))
   (ak (br (dm PySem.F.plainAttrs_list PySem.F.slot_list_extend PySem.F.type_list_extend eQ (bi (pv 0) rfl) (ab (pv 1) aj)))
   (am (br (dm PySem.F.plainAttrs_list PySem.F.slot_list_extend PySem.F.type_list_extend eQ (bi (pv 0) rfl) (ab (dP (tT rfl) (by rfl) T.n_list PySem.Pv.boot_list (ab (dP yd (by rfl) T.n_range PyProof.Rows.boot_range (ab (pv 2) (ab (aS aU (by rfl) T.n_len PySem.boot_len (ab (bi (pv 0) rfl) aj)) aj))) aj)) aj))))))
theorem Dp{aa:Addr}(d8:Sp)(d7:Sp)(ac:Addr)(T:Txt K mg aa ac)
  (jR:aG P w K mg base ac 8 "do" ["self","deed"] d7)(jO:mY P w K mg base ac 4 ["self","count","against"] d8)
  (hr:Room 8 (A.deeper (PyProof.Rows.envOfC "hall_after" (ai kh) s.heap.objs.size f cdv))) :
  PSs (bn bD P w K mg base ["count","against","deeds","hall","deed"] "hall_after" (ai kh) f cdv A outer s H E).nox (ao kh) (v4 K d8 d7 ac):=by
 obtain ⟨Jk,FE,zI,vY,zB⟩:=jR
 have wq:=hr.mono (j:=8) (by decide)
 obtain ⟨Jf,ET,zR,mk_Hall,zl⟩:=jO
 have xz:=hr.mono (j:=5) (by decide)
 unfold v4
 exact (ak (aO (i:=3) zsc15.nd rfl (Or.inl rfl) (qb mk_Hall zR xz rfl T.m_Hall zl .nil aB (ab (pv 0) (ab (pv 1) aj))))
   (ak (ez PassesOwn.never rfl (cV (pv 2)) (bm (i:=4) zsc15.nd rfl (Or.inl rfl))
   (am (br (aZ (pv 3) T.cl_Hall vY zI wq zB .nil aB (ab (pv 4) aj)))))
   (am (ar (pv 3)))))
theorem Dh{aa:Addr}(d8:Sp)(d7:Sp)(ac:Addr)(T:Txt K mg aa ac)
  (jR:aG P w K mg base ac 8 "do" ["self","deed"] d7)(jO:mY P w K mg base ac 4 ["self","count","against"] d8)
  (hr:Room 8 (A.deeper (PyProof.Rows.envOfC "answers" (ai kt) s.heap.objs.size f cdv))) :
  PSs (bn bD P w K mg base ["count","against","deeds","hall"] "answers" (ai kt) f cdv A outer s H E).nox (ao kt) (wd K d8 d7 ac):=by
 obtain ⟨Jk,FE,zI,vY,zB⟩:=jR
 have wq:=hr.mono (j:=8) (by decide)
 obtain ⟨Jf,ET,zR,mk_Hall,zl⟩:=jO
 have xz:=hr.mono (j:=5) (by decide)
 unfold wd
 exact (ak (aO (i:=3) zsc1p.nd rfl (Or.inr rfl) (qb mk_Hall zR xz rfl T.m_Hall zl .nil aB (ab (pv 0) (ab (pv 1) aj))))
   (am (ar (eJ rfl (show db _ (["deed","hall"]:List Str) _ ([("hall",s.heap.objs.size+1+0)]:List (Str×Addr)) ([none,some 3]:List (Option Nat)) from ⟨by with_unfolding_all rfl,rfl,rfl,rfl,rfl,⟨rfl,trivial⟩,⟨⟨rfl,Or.inl rfl,Or.inl rfl,_,rfl,rfl⟩,trivial⟩⟩) (cV (pv 2)) (fun _ _ _ _=>(bm (i:=0) Bj rfl (Or.inl rfl))) (fun _ _ _ _=>eT) (fun _ _ _ _=>(aZ (pv 1) T.cl_Hall vY zI wq zB .nil aB (ab (pv 0) aj)))))))
theorem C6{aa:Addr}{ac:Addr}(cO:Sp)(T:Txt K mg aa ac)
  (fM:aK P w K mg base 9 "hall_after" ["count","against","deeds"] cO)
  (hr:Room 9 (A.deeper (PyProof.Rows.envOfC "books_after" (ai lh) s.heap.objs.size f cdv))) :
  PSs (bn bD P w K mg base ["count","against","deeds"] "books_after" (ai lh) f cdv A outer s H E).nox (ao lh) (xD K cO):=by
 obtain ⟨B2,AA,uf,sx,sn,sy⟩:=fM
 have o3:=hr.mono (j:=9) (by decide)
 unfold xD
 exact (am (ar (eJ rfl (show db _ (["house"]:List Str) _ ([]:List (Str×Addr)) ([none]:List (Option Nat)) from ⟨by with_unfolding_all rfl,rfl,rfl,rfl,rfl,trivial,trivial⟩) (cV (bi (aP uf o3 rfl sx sn sy .nil aB (ab (pv 0) (ab (pv 1) (ab (pv 2) aj)))) rfl)) (fun _ _ _ _=>(bm (i:=0) BB rfl (Or.inl rfl))) (fun _ _ _ _=>eT) (fun _ _ _ _=>(bi (pv 0) rfl)))))
theorem DH{aa:Addr}{ac:Addr}(cO:Sp)(T:Txt K mg aa ac)
  (fM:aK P w K mg base 9 "hall_after" ["count","against","deeds"] cO)
  (hr:Room 9 (A.deeper (PyProof.Rows.envOfC "letters_after" (ai lR) s.heap.objs.size f cdv))) :
  PSs (bn bD P w K mg base ["count","against","deeds"] "letters_after" (ai lR) f cdv A outer s H E).nox (ao lR) (wx K cO):=by
 obtain ⟨B2,AA,uf,sx,sn,sy⟩:=fM
 have o3:=hr.mono (j:=9) (by decide)
 unfold wx
 exact (am (ar (bi (aP uf o3 rfl sx sn sy .nil aB (ab (pv 0) (ab (pv 1) (ab (pv 2) aj)))) rfl)))
theorem CW{aa:Addr}{ac:Addr}(cO:Sp)(T:Txt K mg aa ac)
  (fM:aK P w K mg base 9 "hall_after" ["count","against","deeds"] cO)
  (hr:Room 9 (A.deeper (PyProof.Rows.envOfC "awake_after" (ai lI) s.heap.objs.size f cdv))) :
  PSs (bn bD P w K mg base ["count","against","deeds"] "awake_after" (ai lI) f cdv A outer s H E).nox (ao lI) (wZ K cO):=by
 obtain ⟨B2,AA,uf,sx,sn,sy⟩:=fM
 have o3:=hr.mono (j:=9) (by decide)
 unfold wZ
 exact (am (ar (eJ rfl (show db _ (["house"]:List Str) _ ([]:List (Str×Addr)) ([none]:List (Option Nat)) from ⟨by with_unfolding_all rfl,rfl,rfl,rfl,rfl,trivial,trivial⟩) (cV (bi (aP uf o3 rfl sx sn sy .nil aB (ab (pv 0) (ab (pv 1) (ab (pv 2) aj)))) rfl)) (fun _ _ _ _=>(bm (i:=0) BQ rfl (Or.inl rfl))) (fun _ _ _ _=>eT) (fun _ _ _ _=>(bi (pv 0) rfl)))))
theorem Cr{aa:Addr}{ac:Addr}(T:Txt K mg aa ac)
  (hr:Room 0 (A.deeper (PyProof.Rows.envOfC "_law_whole" (ai lZ) s.heap.objs.size f cdv))) :
  PSs (bn bD P w K mg base ["_law_found"] "_law_whole" (ai lZ) f cdv A outer s H E).nox (ao lZ) (vK K ):=by
 unfold vK
 exact (am (ar (j3 (aS b6 (by rfl) T.n_isinstance PyProof.Rows.boot_isinstance (ab (pv 0) (ab (c_ (by rfl) T.n_int PySem.Pv.boot_int (v:=.ty "int") rfl) aj))) (j0 (Dz (aS b6 (by rfl) T.n_isinstance PyProof.Rows.boot_isinstance (ab (pv 0) (ab (c_ (by rfl) T.n_bool PySem.Pv.boot_bool (v:=.ty "bool") rfl) aj))))))))
theorem Dl{aa:Addr}{ac:Addr}(T:Txt K mg aa ac)
  (hr:Room 0 (A.deeper (PyProof.Rows.envOfC "_law_at" (ai lr) s.heap.objs.size f cdv))) :
  PSs (bn bD P w K mg base ["_law_script","_law_k"] "_law_at" (ai lr) f cdv A outer s H E).nox (ao lr) (xo K ):=by
 unfold xo
 exact (ak (aM (aF i5 (pv 1) (aS aU (by rfl) T.n_len PySem.boot_len (ab (pv 0) aj)) (aQ _))
   (am (ar (aE aY (pv 0) (pv 1) (fun _ _=>rfl))))
   aA)
   (am (ar ap)))
theorem BX{aa:Addr}{ac:Addr}(cN:Sp)(T:Txt K mg aa ac)
  (fT:aK P w K mg base 1 "_law_whole" ["_law_found"] cN)
  (hr:Room 1 (A.deeper (PyProof.Rows.envOfC "_law_is_line" (ai lc) s.heap.objs.size f cdv))) :
  PSs (bn bD P w K mg base ["_law_found"] "_law_is_line" (ai lc) f cdv A outer s H E).nox (ao lc) (xA K cN):=by
 obtain ⟨DE,Ay,sW,uw,ue,tW⟩:=fT
 have pM:=hr.mono (j:=1) (by decide)
 unfold xA
 exact (ak (aM (PW.pt (dM (b3 (bw (aS b6 (by rfl) T.n_isinstance PyProof.Rows.boot_isinstance (ab (pv 0) (ab (c_ (by rfl) T.n_tuple PySem.Pv.boot_tuple (v:=.ty "tuple") rfl) aj))))) (di (aF fJ (aS aU (by rfl) T.n_len PySem.boot_len (ab (pv 0) aj)) ap (aQ _)))))
   (am (ar bS))
   aA)
   (ak (aM (PW.pt (dM (b3 (bw (aS b6 (by rfl) T.n_isinstance PyProof.Rows.boot_isinstance (ab (aE aX (pv 0) ap (fun _ _=>rfl)) (ab (c_ (by rfl) T.n_str PySem.Pv.boot_str (v:=.ty "str") rfl) aj))))) (di (b3 (bw (aP sW pM rfl uw ue tW .nil aB (ab (aE aX (pv 0) ap (fun _ _=>rfl)) aj)))))))
   (am (ar bS))
   aA)
   (am (ar (ef eh (aE aX (pv 0) ap (fun _ _=>rfl)) (bf (ab au (ab au (ab au (ab au (ab au aj)))))) (by with_unfolding_all rfl))))))
theorem B1{aa:Addr}{ac:Addr}(d3:Sp)(T:Txt K mg aa ac)
  (jN:aK P w K mg base 2 "_law_is_line" ["_law_found"] d3)
  (hr:Room 2 (A.deeper (PyProof.Rows.envOfC "_law_are_lines" (ai kr) s.heap.objs.size f cdv))) :
  PSs (bn bD P w K mg base ["_law_found","_law_line"] "_law_are_lines" (ai kr) f cdv A outer s H E).nox (ao kr) (xE K d3):=by
 obtain ⟨JM,GD,zE,zZ,Ad,zD⟩:=jN
 have wD:=hr.mono (j:=2) (by decide)
 unfold xE
 exact (ak (aM (b3 (bw (aS b6 (by rfl) T.n_isinstance PyProof.Rows.boot_isinstance (ab (pv 0) (ab (c_ (by rfl) T.n_list PySem.Pv.boot_list (v:=.ty "list") rfl) aj)))))
   (am (ar bS))
   aA)
   (ak (ez PassesOwn.never rfl (cV (pv 0)) (bm (i:=1) zsc0e.nd rfl (Or.inl rfl))
   (am (aM (b3 (bw (aP zE wD rfl zZ Ad zD .nil aB (ab (pv 1) aj))))
   (am (ar bS))
   aA)))
   (am (ar bS))))
theorem D3{aa:Addr}{ac:Addr}(iw:Sp)(T:Txt K mg aa ac)
  (tj:aK P w K mg base 3 "_law_are_lines" ["_law_found"] iw)
  (hr:Room 3 (A.deeper (PyProof.Rows.envOfC "_law_are_books" (ai kB) s.heap.objs.size f cdv))) :
  PSs (bn bD P w K mg base ["_law_found","_law_count","_law_book"] "_law_are_books" (ai kB) f cdv A outer s H E).nox (ao kB) (xT K iw):=by
 obtain ⟨MG,Ly,Je,KM,K6,JC⟩:=tj
 have GF:=hr.mono (j:=3) (by decide)
 unfold xT
 exact (ak (aM (PW.pt (dM (b3 (bw (aS b6 (by rfl) T.n_isinstance PyProof.Rows.boot_isinstance (ab (pv 0) (ab (c_ (by rfl) T.n_list PySem.Pv.boot_list (v:=.ty "list") rfl) aj))))) (di (aF fJ (aS aU (by rfl) T.n_len PySem.boot_len (ab (pv 0) aj)) (pv 1) (aQ _)))))
   (am (ar bS))
   aA)
   (ak (ez PassesOwn.never rfl (cV (pv 0)) (bm (i:=2) zsc0h.nd rfl (Or.inl rfl))
   (am (aM (b3 (bw (aP Je GF rfl KM K6 JC .nil aB (ab (pv 2) aj))))
   (am (ar bS))
   aA)))
   (am (ar bS))))
theorem CZ{aa:Addr}{ac:Addr}(cN:Sp)(T:Txt K mg aa ac)
  (fT:aK P w K mg base 1 "_law_whole" ["_law_found"] cN)
  (hr:Room 1 (A.deeper (PyProof.Rows.envOfC "_law_is_letter" (ai mi) s.heap.objs.size f cdv))) :
  PSs (bn bD P w K mg base ["_law_found","_law_count","_law_number"] "_law_is_letter" (ai mi) f cdv A outer s H E).nox (ao mi) (vN K cN):=by
 obtain ⟨DE,Ay,sW,uw,ue,tW⟩:=fT
 have pM:=hr.mono (j:=1) (by decide)
 unfold vN
 exact (ak (aM (PW.pt (dM (b3 (bw (aS b6 (by rfl) T.n_isinstance PyProof.Rows.boot_isinstance (ab (pv 0) (ab (c_ (by rfl) T.n_tuple PySem.Pv.boot_tuple (v:=.ty "tuple") rfl) aj))))) (dM (aF fJ (aS aU (by rfl) T.n_len PySem.boot_len (ab (pv 0) aj)) ap (aQ _)) (di (b3 (bw (aS b6 (by rfl) T.n_isinstance PyProof.Rows.boot_isinstance (ab (aE aX (pv 0) ap (fun _ _=>rfl)) (ab (c_ (by rfl) T.n_str PySem.Pv.boot_str (v:=.ty "str") rfl) aj)))))))))
   (am (ar bS))
   aA)
   (ak (ez PassesOwn.never rfl (C4 (gN B9 (pv 0) j4 (gI ap))) (bm (i:=2) zsc0g.nd rfl (Or.inl rfl))
   (am (aM (b3 (bw (aP sW pM rfl uw ue tW .nil aB (ab (pv 2) aj))))
   (am (ar bS))
   aA)))
   (ak (aM (aF jh (aE aX (pv 0) ap (fun _ _=>rfl)) (bf (ab au (ab au (ab au (ab au (ab au (ab au aj))))))) (by with_unfolding_all rfl))
   (am (ar bS))
   aA)
   (am (ar (j3 (uE AG i5 ap (aE aX (pv 0) ap (fun _ _=>rfl)) (pv 1)) (j3 (uE AG i5 ap (aE aX (pv 0) ap (fun _ _=>rfl)) (pv 1)) (j0 (ef fJ (aE aX (pv 0) ap (fun _ _=>rfl)) (aE aX (pv 0) ap (fun _ _=>rfl)) (aQ _))))))))))
theorem DD{aa:Addr}{ac:Addr}(gW:Sp)(T:Txt K mg aa ac)
  (sT:aK P w K mg base 2 "_law_is_letter" ["_law_found","_law_count"] gW)
  (hr:Room 2 (A.deeper (PyProof.Rows.envOfC "_law_are_letters" (ai kI) s.heap.objs.size f cdv))) :
  PSs (bn bD P w K mg base ["_law_found","_law_count","_law_letter"] "_law_are_letters" (ai kI) f cdv A outer s H E).nox (ao kI) (vU K gW):=by
 obtain ⟨L5,LC,Ko,KJ,JI,K'⟩:=sT
 have Hf:=hr.mono (j:=2) (by decide)
 unfold vU
 exact (ak (aM (b3 (bw (aS b6 (by rfl) T.n_isinstance PyProof.Rows.boot_isinstance (ab (pv 0) (ab (c_ (by rfl) T.n_list PySem.Pv.boot_list (v:=.ty "list") rfl) aj)))))
   (am (ar bS))
   aA)
   (ak (ez PassesOwn.never rfl (cV (pv 0)) (bm (i:=2) zsc06.nd rfl (Or.inl rfl))
   (am (aM (b3 (bw (aP Ko Hf rfl KJ JI K' .nil aB (ab (pv 2) (ab (pv 1) aj)))))
   (am (ar bS))
   aA)))
   (am (ar bS))))
theorem DG{aa:Addr}{ac:Addr}(T:Txt K mg aa ac)
  (hr:Room 0 (A.deeper (PyProof.Rows.envOfC "_law_all_bargains" (ai kg) s.heap.objs.size f cdv))) :
  PSs (bn bD P w K mg base [] "_law_all_bargains" (ai kg) f cdv A outer s H E).nox (ao kg) (vO K ):=by
 unfold vO
 exact (am (ar (bf (ab ap (ab ap (ab ap (ab ap aj)))))))
theorem mX{aa:Addr}{ac:Addr}(dY:Sp)(T:Txt K mg aa ac)
  (jS:aK P w K mg base 1 "_law_all_bargains" [] dY)
  (hr:Room 1 (A.deeper (PyProof.Rows.envOfC "_law_bargain_of" (ai cw) s.heap.objs.size f cdv))) :
  PSs (bn bD P w K mg base ["_law_cell"] "_law_bargain_of" (ai cw) f cdv A outer s H E).nox (ao cw) (eI K dY):=by
 obtain ⟨IY,Ey,Am,zK,zM,Aj⟩:=jS
 have xi:=hr.mono (j:=1) (by decide)
 unfold eI
 exact (ak (aM (aF cm (bt cE (bt cE (bt eA (pv 0) ap) ap) ap) ap (aQ _))
   (am (ar (bt cE (pv 0) (dP zg (by rfl) T.n_int PySem.Pv.boot_int (ab (bt xP au (bt BF au ap)) aj)))))
   aA)
   (am (ar (aE aY (tz Am xi rfl zK zM Aj .nil aB) (bt cE (bt cE (bt eA (pv 0) ap) ap) ap) (fun _ _=>rfl)))))
theorem Cn{aa:Addr}{ac:Addr}(bY:Sp)(T:Txt K mg aa ac)
  (h_law_bargain_of:aK P w K mg base 2 "_law_bargain_of" ["_law_cell"] bY)
  (hr:Room 2 (A.deeper (PyProof.Rows.envOfC "_law_deed_of" (ai lJ) s.heap.objs.size f cdv))) :
  PSs (bn bD P w K mg base ["_law_cell","_law_k","_law_count","_law_swept","_law_way","_law_who","_law_stays","_law_which"] "_law_deed_of" (ai lJ) f cdv A outer s H E).nox (ao lJ) (wj K bY):=by
 obtain ⟨f_law_bargain_of,fd_law_bargain_of,G_law_bargain_of,m_law_bargain_of,k_law_bargain_of,b_law_bargain_of⟩:=h_law_bargain_of
 have hr_law_bargain_of:=hr.mono (j:=2) (by decide)
 unfold wj
 exact (ak (aO (i:=4) zsc0o.nd rfl (Or.inl rfl) (bt cE (bt cE (bt eA (pv 0) ap) ap) ap))
   (ak (aO (i:=5) zsc0o.nd rfl (Or.inl rfl) (bt cE (bt cE (bt eA (bt iL (pv 0) (pv 1)) ap) ap) (pv 2)))
   (ak (aO (i:=6) zsc0o.nd rfl (Or.inl rfl) (ef fJ (bt cE (bt cE (bt eA (pv 0) ap) ap) ap) ap (aQ _)))
   (ak (aM (aF i5 (pv 4) ap (aQ _))
   (am (ar (b_ (ab au (ab (aP G_law_bargain_of hr_law_bargain_of rfl m_law_bargain_of k_law_bargain_of b_law_bargain_of .nil aB (ab (bt pZ (pv 0) ap) aj)) (ab (pv 6) aj))))))
   aA)
   (ak (aM (aF cm (pv 4) ap (aQ _))
   (am (ar (b_ (ab au (ab (pv 5) (ab (aP G_law_bargain_of hr_law_bargain_of rfl m_law_bargain_of k_law_bargain_of b_law_bargain_of .nil aB (ab (bt pZ (pv 0) ap) aj)) aj))))))
   aA)
   (ak (aM (aF cm (pv 4) ap (aQ _))
   (am (ar (b_ (ab au (ab (pv 5) aj)))))
   aA)
   (ak (aM (PW.pt (dM (aF cm (pv 4) ap (aQ _)) (di (aF cm (pv 4) ap (aQ _)))))
   (am (ar (b_ (ab au (ab (pv 5) aj)))))
   aA)
   (ak (aM (PW.pt (rM (aF cm (pv 4) ap (aQ _)) (pQ (b3 (bw (pv 3))))))
   (am (ar (b_ (ab au aj))))
   aA)
   (ak (aO (i:=7) zsc0o.nd rfl (Or.inl rfl) (bt cE (bt cE (bt eA (bt iL (pv 0) (bt eA ap (pv 1))) ap) ap) (bt iL (bt eA ap (pv 1)) ap)))
   (dz (aM (aF cm (bt cE (bt cE (bt eA (pv 0) ap) ap) ap) ap (aQ _))
   (am (aO (i:=7) zsc0o.nd rfl (Or.inl rfl) ap))
   aA)
   (am (ar (b_ (ab au (ab (pv 7) (ab (pv 6) aj))))))))))))))))
theorem Df{aa:Addr}{ac:Addr}(iA:Sp)(T:Txt K mg aa ac)
  (ui:aK P w K mg base 3 "_law_deed_of" ["_law_cell","_law_k","_law_count","_law_swept"] iA)
  (hr:Room 3 (A.deeper (PyProof.Rows.envOfC "_law_drawn" (ai ml) s.heap.objs.size f cdv))) :
  PSs (bn bD P w K mg base ["_law_cells","_law_count","_law_deeds","_law_swept","_law_k"] "_law_drawn" (ai ml) f cdv A outer s H E).nox (ao ml) (v_ K iA):=by
 have hu64:=hr.units
 obtain ⟨Me,LO,J9,JU,KC,K7⟩:=ui
 have G4:=hr.mono (j:=3) (by decide)
 unfold v_
 exact (ak (aO (i:=2) zsc1c.nd rfl (Or.inl rfl) (bf aj))
   (ak (aO (i:=3) zsc1c.nd rfl (Or.inl rfl) bS)
   (ak (ez PassesOwn.never rfl (du rfl T.n_range (ab (aS aU (by rfl) T.n_len PySem.boot_len (ab (pv 0) aj)) aj)) (bm (i:=4) zsc1c.nd rfl (Or.inl rfl))
   (ak (br (dm PySem.F.plainAttrs_list PySem.F.slot_list_append PySem.F.type_list_append cQ (pv 2) (ab (aP J9 G4 rfl JU KC K7 .nil aB (ab (bt iL (aE aY (pv 0) (pv 4) (fun _ _=>rfl)) (bt eA ap (pv 4))) (ab (pv 4) (ab (pv 1) (ab (pv 3) aj))))) aj)))
   (am (aO (i:=3) zsc1c.nd rfl (Or.inl rfl) (D_ (pv 3) (j0 (ef (jt hu64) (aE aY (pv 2) (xF uB ap) (fun _ _=>rfl)) (b_ (ab au aj)) (aQ _))))))))
   (am (ar (pv 2))))))
theorem Co{aa:Addr}{ac:Addr}(dY:Sp)(T:Txt K mg aa ac)
  (jS:aK P w K mg base 1 "_law_all_bargains" [] dY)
  (hr:Room 1 (A.deeper (PyProof.Rows.envOfC "_law_pairs_against" (ai kE) s.heap.objs.size f cdv))) :
  PSs (bn bD P w K mg base ["_law_cell","_law_count","_law_pairs","_law_k","_law_j"] "_law_pairs_against" (ai kE) f cdv A outer s H E).nox (ao kE) (xh K dY):=by
 obtain ⟨IY,Ey,Am,zK,zM,Aj⟩:=jS
 have xi:=hr.mono (j:=1) (by decide)
 unfold xh
 exact (ak (aO (i:=2) zsc02.nd rfl (Or.inl rfl) (bf aj))
   (ak (ez PassesOwn.never rfl (du rfl T.n_range (ab (pv 1) aj)) (bm (i:=3) zsc02.nd rfl (Or.inl rfl))
   (am (ez PassesOwn.never rfl (du rfl T.n_range (ab ap aj)) (bm (i:=4) zsc02.nd rfl (Or.inl rfl))
   (am (aM (PW.pt (rM (aF cm (bt cE (bt cE (bt eA (bt pZ (pv 0) (bt iL (bt iL (bt eA ap (pv 3)) (pv 4)) ap)) ap) ap) ap) ap (aQ _)) (pQ (aF rh (bt cE (bt cE (bt eA (pv 0) ap) ap) ap) ap (aQ _)))))
   (am (br (dm PySem.F.plainAttrs_list PySem.F.slot_list_append PySem.F.type_list_append cQ (pv 2) (ab (b_ (ab (pv 3) (ab (aE aY (tz Am xi rfl zK zM Aj .nil aB) (pv 4) (fun _ _=>rfl)) aj))) aj))))
   aA)))))
   (am (ar (pv 2)))))
theorem BY{aa:Addr}{ac:Addr}(T:Txt K mg aa ac)
  (hr:Room 0 (A.deeper (PyProof.Rows.envOfC "_law_words_of" (ai mt) s.heap.objs.size f cdv))) :
  PSs (bn bD P w K mg base ["_law_book","_law_bargain"] "_law_words_of" (ai mt) f cdv A outer s H E).nox (ao mt) (zo K ):=by
 unfold zo
 exact (am (ar (eJ rfl (show db _ (["_law_line","_law_bargain"]:List Str) _ ([("_law_bargain",s.heap.objs.size+1+0)]:List (Str×Addr)) ([none,some 1]:List (Option Nat)) from ⟨by with_unfolding_all rfl,rfl,rfl,rfl,rfl,⟨rfl,trivial⟩,⟨⟨rfl,Or.inl rfl,Or.inl rfl,_,rfl,rfl⟩,trivial⟩⟩) (cV (pv 0)) (fun _ _ _ _=>(bm (i:=0) Bt rfl (Or.inl rfl))) (fun _ _ _ _=>(fW (aF cm (aE aX (pv 0) ap (fun _ _=>rfl)) (pv 1) (aQ _)))) (fun _ _ _ _=>(aE aX (pv 0) ap (fun _ _=>rfl))))))
theorem CS{aa:Addr}{ac:Addr}(T:Txt K mg aa ac)
  (hr:Room 0 (A.deeper (PyProof.Rows.envOfC "_law_to_all" (ai mn) s.heap.objs.size f cdv))) :
  PSs (bn bD P w K mg base ["_law_mine","_law_count","_law_bargain","_law_word"] "_law_to_all" (ai mn) f cdv A outer s H E).nox (ao mn) (v7 K ):=by
 unfold v7
 exact (am (ar (eJ rfl (show db _ (["_law_k","_law_mine","_law_bargain","_law_word"]:List Str) _ ([("_law_word",s.heap.objs.size+1+2),("_law_mine",s.heap.objs.size+1+0),("_law_bargain",s.heap.objs.size+1+1)]:List (Str×Addr)) ([none,some 0,some 2,some 3]:List (Option Nat)) from ⟨by with_unfolding_all rfl,rfl,rfl,rfl,rfl,⟨rfl,⟨rfl,⟨rfl,trivial⟩⟩⟩,⟨⟨rfl,Or.inl rfl,Or.inl rfl,_,rfl,rfl⟩,⟨⟨rfl,Or.inl rfl,Or.inl rfl,_,rfl,rfl⟩,⟨⟨rfl,Or.inl rfl,Or.inl rfl,_,rfl,rfl⟩,trivial⟩⟩⟩⟩) (du rfl T.n_range (ab (pv 1) aj)) (fun _ _ _ _=>(bm (i:=0) Bq rfl (Or.inl rfl))) (fun _ _ _ _=>(fW (aF fJ (pv 0) (pv 1) (aQ _)))) (fun _ _ _ _=>(b_ (ab (pv 1) (ab (pv 0) (ab (pv 2) (ab (pv 3) aj)))))))))
theorem DU{aa:Addr}{ac:Addr}(bV:Sp)(T:Txt K mg aa ac)
  (dF:aK P w K mg base 1 "_law_words_of" ["_law_book","_law_bargain"] bV)
  (hr:Room 1 (A.deeper (PyProof.Rows.envOfC "_law_asked" (ai lN) s.heap.objs.size f cdv))) :
  PSs (bn bD P w K mg base ["_law_book","_law_against","_law_letter","_law_giver","_law_mine","_law_bargain","_law_word","_law_words"] "_law_asked" (ai lN) f cdv A outer s H E).nox (ao lN) (v1 K bV):=by
 have hu64:=hr.units
 have hu65:=ql hr
 obtain ⟨wQ,q_,kA,lE,mx,kX⟩:=dF
 have i':=hr.mono (j:=1) (by decide)
 unfold v1
 exact (ak (iM (pv 2) (tO rfl (dD (bm (i:=3) zsc1l.nd rfl (Or.inl rfl)) (dD (bm (i:=4) zsc1l.nd rfl (Or.inl rfl)) (dD (bm (i:=5) zsc1l.nd rfl (Or.inl rfl)) (dD (bm (i:=6) zsc1l.nd rfl (Or.inl rfl)) qk))))))
   (ak (aO (i:=7) zsc1l.nd rfl (Or.inl rfl) (aP kA i' rfl lE mx kX .nil aB (ab (pv 0) (ab (pv 5) aj))))
   (dz (aM (aF (jt hu64) (pv 7) (bf aj) (aQ _))
   (ak (aO (i:=7) zsc1l.nd rfl (Or.inl rfl) (bf (ab (aE aY (bf (ab au (ab au aj))) (dP mL (by rfl) T.n_int PySem.Pv.boot_int (ab (ef (oY hu65) (b_ (ab (pv 4) (ab (pv 5) aj))) (pv 1) (by with_unfolding_all rfl)) aj)) (fun _ _=>rfl)) aj)))
   (am (br (dm PySem.F.plainAttrs_list PySem.F.slot_list_append PySem.F.type_list_append cQ (pv 0) (ab (b_ (ab (aE aY (pv 7) ap (fun _ _=>rfl)) (ab (pv 5) aj))) aj)))))
   aA)
   (am (ar (bf (ab (b_ (ab (pv 4) (ab (pv 3) (ab (pv 5) (ab (aE aY (bf (ab au (ab au aj))) (dP mL (by rfl) T.n_int PySem.Pv.boot_int (ab (ef eh (aE aY (pv 7) (xF uB ap) (fun _ _=>rfl)) (bf (ab au (ab au aj))) (by with_unfolding_all rfl)) aj)) (fun _ _=>rfl)) aj))))) aj)))))))
theorem DT{aa:Addr}{ac:Addr}(bR:Sp)(T:Txt K mg aa ac)
  (dE:aK P w K mg base 1 "_law_to_all" ["_law_mine","_law_count","_law_bargain","_law_word"] bR)
  (hr:Room 1 (A.deeper (PyProof.Rows.envOfC "_law_counted" (ai lS) s.heap.objs.size f cdv))) :
  PSs (bn bD P w K mg base ["_law_book","_law_votes","_law_letter","_law_count","_law_giver","_law_mine","_law_bargain","_law_word"] "_law_counted" (ai lS) f cdv A outer s H E).nox (ao lS) (xL K bR):=by
 have hu:=gm hr
 obtain ⟨wG,rn,mz,lP,kL,mv⟩:=dE
 have iZ:=hr.mono (j:=1) (by decide)
 unfold xL
 exact (ak (iM (pv 2) (tO rfl (dD (bm (i:=4) zsc0p.nd rfl (Or.inl rfl)) (dD (bm (i:=5) zsc0p.nd rfl (Or.inl rfl)) (dD (bm (i:=6) zsc0p.nd rfl (Or.inl rfl)) (dD (bm (i:=7) zsc0p.nd rfl (Or.inl rfl)) qk))))))
   (dz (aM (iN (yI hu (pv 6) (pv 1)))
   (am (j1 hu (pv 1) (pv 6) (bf aj) rfl))
   aA)
   (dz (aM (aF jh (pv 4) (bC hu (pv 1) (pv 6) (fun _ _=>rfl)) (by with_unfolding_all rfl))
   (am (br (dm PySem.F.plainAttrs_list PySem.F.slot_list_append PySem.F.type_list_append cQ (bC hu (pv 1) (pv 6) (fun _ _=>rfl)) (ab (pv 4) aj))))
   aA)
   (ak (aM (aF i5 (aS aU (by rfl) T.n_len PySem.boot_len (ab (bC hu (pv 1) (pv 6) (fun _ _=>rfl)) aj)) (bt B4 (pv 3) ap) (aQ _))
   (am (ar (bf aj)))
   aA)
   (ak (br (dm PySem.F.plainAttrs_list PySem.F.slot_list_append PySem.F.type_list_append cQ (pv 0) (ab (b_ (ab au (ab (pv 6) aj))) aj)))
   (am (ar (aP mz iZ rfl lP kL mv .nil aB (ab (pv 5) (ab (pv 3) (ab (pv 6) (ab au aj))))))))))))
theorem Cj{aa:Addr}{ac:Addr}(bV:Sp)(hR:Sp)(im:Sp)(bR:Sp)(T:Txt K mg aa ac)
  (dF:aK P w K mg base 1 "_law_words_of" ["_law_book","_law_bargain"] bV)(tR:aK P w K mg base 2 "_law_asked" ["_law_book","_law_against","_law_letter"] hR)(sU:aK P w K mg base 2 "_law_counted" ["_law_book","_law_votes","_law_letter","_law_count"] im)(dE:aK P w K mg base 1 "_law_to_all" ["_law_mine","_law_count","_law_bargain","_law_word"] bR)
  (hr:Room 2 (A.deeper (PyProof.Rows.envOfC "_law_got" (ai kZ) s.heap.objs.size f cdv))) :
  PSs (bn bD P w K mg base ["_law_book","_law_votes","_law_against","_law_letter","_law_count","_law_giver","_law_mine","_law_bargain","_law_word","_law_words"] "_law_got" (ai kZ) f cdv A outer s H E).nox (ao kZ) (wM K bV hR im bR):=by
 have hu64:=hr.units
 have hu65:=ql hr
 obtain ⟨wQ,q_,kA,lE,mx,kX⟩:=dF
 have i':=hr.mono (j:=1) (by decide)
 obtain ⟨Mv,Lg,La,KD,I_,K1⟩:=tR
 have G':=hr.mono (j:=2) (by decide)
 obtain ⟨Ms,LY,JO,Jy,IJ,JL⟩:=sU
 have Ie:=hr.mono (j:=2) (by decide)
 obtain ⟨wG,rn,mz,lP,kL,mv⟩:=dE
 have iZ:=hr.mono (j:=1) (by decide)
 unfold wM
 exact (ak (iM (pv 3) (tO rfl (dD (bm (i:=5) zsc1o.nd rfl (Or.inl rfl)) (dD (bm (i:=6) zsc1o.nd rfl (Or.inl rfl)) (dD (bm (i:=7) zsc1o.nd rfl (Or.inl rfl)) (dD (bm (i:=8) zsc1o.nd rfl (Or.inl rfl)) qk))))))
   (ak (aO (i:=9) zsc1o.nd rfl (Or.inl rfl) (aP kA i' rfl lE mx kX .nil aB (ab (pv 0) (ab (pv 7) aj))))
   (ak (aM (aF cm (pv 8) au (aQ _))
   (am (ar (aP La G' rfl KD I_ K1 .nil aB (ab (pv 0) (ab (pv 2) (ab (pv 3) aj))))))
   aA)
   (ak (aM (PW.pt (dM (aF cm (pv 8) au (aQ _)) (di (aF cm (pv 8) au (aQ _)))))
   (dz (aM (aF (oY hu65) (pv 9) (bf (ab (bf aj) (ab (bf (ab au aj)) (ab (bf (ab au aj)) aj)))) (by with_unfolding_all rfl))
   (am (br (dm PySem.F.plainAttrs_list PySem.F.slot_list_append PySem.F.type_list_append cQ (pv 0) (ab (b_ (ab (pv 8) (ab (pv 7) aj))) aj))))
   aA)
   (am (ar (bf aj))))
   aA)
   (ak (aM (aF (oY hu65) (pv 9) (bf (ab (bf (ab au aj)) (ab (bf (ab au aj)) (ab (bf aj) aj)))) (by with_unfolding_all rfl))
   (ak (aM (aF cm (pv 8) au (aQ _))
   (am (ar (aP JO Ie rfl Jy IJ JL .nil aB (ab (pv 0) (ab (pv 1) (ab (pv 3) (ab (pv 4) aj)))))))
   aA)
   (ak (aM (aF (jt hu64) (pv 9) (bf (ab au aj)) (aQ _))
   (ak (br (dm PySem.F.plainAttrs_list PySem.F.slot_list_append PySem.F.type_list_append cQ (pv 0) (ab (b_ (ab au (ab (pv 7) aj))) aj)))
   (am (ar (aP mz iZ rfl lP kL mv .nil aB (ab (pv 6) (ab (pv 4) (ab (pv 7) (ab au aj))))))))
   aA)
   (ak (aM (aF (jt hu64) (pv 9) (bf (ab au aj)) (aQ _))
   (am (ar (bf aj)))
   aA)
   (ak (br (dm PySem.F.plainAttrs_list PySem.F.slot_list_append PySem.F.type_list_append cQ (pv 0) (ab (b_ (ab au (ab (pv 7) aj))) aj)))
   (am (ar (bf (ab (b_ (ab (pv 6) (ab (pv 5) (ab (pv 7) (ab au aj))))) aj))))))))
   aA)
   (ak (aM (aF cm (pv 8) au (aQ _))
   (am (ar (bf aj)))
   aA)
   (am (ar (bf (ab (b_ (ab (pv 6) (ab (pv 5) (ab (pv 7) (ab (aE aY (bf (ab au (ab au aj))) (dP mL (by rfl) T.n_int PySem.Pv.boot_int (ab (ef cm (aE aY (pv 9) (xF uB ap) (fun _ _=>rfl)) au (aQ _)) aj)) (fun _ _=>rfl)) aj))))) aj))))))))))
theorem C8{aa:Addr}{ac:Addr}(T:Txt K mg aa ac)
  (hr:Room 0 (A.deeper (PyProof.Rows.envOfC "_law_new_hall" (ai kJ) s.heap.objs.size f cdv))) :
  PSs (bn bD P w K mg base ["_law_count","_law_against","_law_hall"] "_law_new_hall" (ai kJ) f cdv A outer s H E).nox (ao kJ) (wy K ):=by
 have hu:=gm hr
 unfold wy
 exact (ak (aO (i:=2) zsc0m.nd rfl (Or.inl rfl) (Bf (oE au (pv 1) (oE au (pv 0) (oE au (bf aj) Bc))) rfl rfl (by intro z;cases z) (by decide)))
   (ak (j1 hu (pv 2) au (eJ rfl (show db _ (["_law_k"]:List Str) _ ([]:List (Str×Addr)) ([none]:List (Option Nat)) from ⟨by with_unfolding_all rfl,rfl,rfl,rfl,rfl,trivial,trivial⟩) (du rfl T.n_range (ab (pv 0) aj)) (fun _ _ _ _=>(bm (i:=0) Bv rfl (Or.inl rfl))) (fun _ _ _ _=>eT) (fun _ _ _ _=>(bf aj))) rfl)
   (ak (j1 hu (pv 2) au (eJ rfl (show db _ (["_law_k"]:List Str) _ ([]:List (Str×Addr)) ([none]:List (Option Nat)) from ⟨by with_unfolding_all rfl,rfl,rfl,rfl,rfl,trivial,trivial⟩) (du rfl T.n_range (ab (pv 0) aj)) (fun _ _ _ _=>(bm (i:=0) BG rfl (Or.inl rfl))) (fun _ _ _ _=>eT) (fun _ _ _ _=>gH)) rfl)
   (ak (j1 hu (pv 2) au (bt DW (bf (ab bS aj)) (pv 0)) rfl)
   (am (ar (pv 2)))))))
theorem C5{aa:Addr}{ac:Addr}(T:Txt K mg aa ac)
  (hr:Room 0 (A.deeper (PyProof.Rows.envOfC "_law_posted" (ai lA) s.heap.objs.size f cdv))) :
  PSs (bn bD P w K mg base ["_law_hall","_law_who","_law_ahead","_law_sent","_law_stays"] "_law_posted" (ai lA) f cdv A outer s H E).nox (ao lA) (xS K ):=by
 have hu:=gm hr
 unfold xS
 exact (dz (aM (bw (pv 4))
   (am (br (dm PySem.F.plainAttrs_list PySem.F.slot_list_extend PySem.F.type_list_extend eQ (bC hu (pv 0) au (fun _ _=>rfl)) (ab (pv 3) aj))))
   (ak (iM bS (nE (bC hu (pv 0) au (fun _ _=>rfl)) (pv 1) jg))
   (am (iM gH (nE (bC hu (pv 0) au (fun _ _=>rfl)) (pv 1) jg)))))
   (am (ar (gN jY (aE aY (bC hu (pv 0) au (fun _ _=>rfl)) (pv 1) (fun _ _=>rfl)) (gI (pv 2)) j4))))
theorem DC{aa:Addr}{ac:Addr}(bV:Sp)(bR:Sp)(cK:Sp)(T:Txt K mg aa ac)
  (dF:aK P w K mg base 1 "_law_words_of" ["_law_book","_law_bargain"] bV)(dE:aK P w K mg base 1 "_law_to_all" ["_law_mine","_law_count","_law_bargain","_law_word"] bR)(fR:aK P w K mg base 1 "_law_posted" ["_law_hall","_law_who","_law_ahead","_law_sent","_law_stays"] cK)
  (hr:Room 1 (A.deeper (PyProof.Rows.envOfC "_law_begun" (ai my) s.heap.objs.size f cdv))) :
  PSs (bn bD P w K mg base ["_law_hall","_law_bargain","_law_stays","_law_who","_law_book","_law_ahead","_law_sent"] "_law_begun" (ai my) f cdv A outer s H E).nox (ao my) (vX K bV bR cK):=by
 have hu:=gm hr
 have hu64:=hr.units
 have hu65:=ql hr
 obtain ⟨wQ,q_,kA,lE,mx,kX⟩:=dF
 have i':=hr.mono (j:=1) (by decide)
 obtain ⟨wG,rn,mz,lP,kL,mv⟩:=dE
 have iZ:=hr.mono (j:=1) (by decide)
 obtain ⟨Dv,AZ,ut,tM,sD,sF⟩:=fR
 have oO:=hr.mono (j:=1) (by decide)
 unfold vX
 exact (ak (aO (i:=3) zsc1d.nd rfl (Or.inl rfl) (bt cE (pv 1) (bC hu (pv 0) au (fun _ _=>rfl))))
   (ak (aO (i:=4) zsc1d.nd rfl (Or.inl rfl) (aE aY (bC hu (pv 0) au (fun _ _=>rfl)) (pv 3) (fun _ _=>rfl)))
   (ak (aM (PW.pt (dM (b3 (bw (aE aY (bC hu (pv 0) au (fun _ _=>rfl)) (pv 3) (fun _ _=>rfl)))) (di (aF (nC hu64) (aP kA i' rfl lE mx kX .nil aB (ab (pv 4) (ab (pv 1) aj))) (bf aj) (aQ _)))))
   (am (ar fF))
   aA)
   (ak (aO (i:=5) zsc1d.nd rfl (Or.inl rfl) (aS aU (by rfl) T.n_len PySem.boot_len (ab (pv 4) aj)))
   (ak (aO (i:=6) zsc1d.nd rfl (Or.inl rfl) (bf aj))
   (dz (aM (aF (oY hu65) (b_ (ab (pv 3) (ab (pv 1) aj))) (bC hu (pv 0) au (fun _ _=>rfl)) (by with_unfolding_all rfl))
   (am (br (dm PySem.F.plainAttrs_list PySem.F.slot_list_append PySem.F.type_list_append cQ (pv 4) (ab (b_ (ab au (ab (pv 1) aj))) aj))))
   (ak (br (dm PySem.F.plainAttrs_list PySem.F.slot_list_append PySem.F.type_list_append cQ (pv 4) (ab (b_ (ab au (ab (pv 1) aj))) aj)))
   (am (aO (i:=6) zsc1d.nd rfl (Or.inl rfl) (aP mz iZ rfl lP kL mv .nil aB (ab (pv 3) (ab (bC hu (pv 0) au (fun _ _=>rfl)) (ab (pv 1) (ab au aj)))))))))
   (am (ar (aP ut oO rfl tM sD sF .nil aB (ab (pv 0) (ab (pv 3) (ab (pv 5) (ab (pv 6) (ab (pv 2) aj))))))))))))))
theorem DK{aa:Addr}{ac:Addr}(gY:Sp)(cK:Sp)(T:Txt K mg aa ac)
  (uD:aK P w K mg base 3 "_law_got" ["_law_book","_law_votes","_law_against","_law_letter","_law_count"] gY)(fR:aK P w K mg base 1 "_law_posted" ["_law_hall","_law_who","_law_ahead","_law_sent","_law_stays"] cK)
  (hr:Room 3 (A.deeper (PyProof.Rows.envOfC "_law_carried" (ai ma) s.heap.objs.size f cdv))) :
  PSs (bn bD P w K mg base ["_law_hall","_law_which","_law_stays","_law_letter","_law_who","_law_book","_law_ahead","_law_votes","_law_sent"] "_law_carried" (ai ma) f cdv A outer s H E).nox (ao ma) (wu K gY cK):=by
 have hu:=gm hr
 obtain ⟨Mb,Lp,J6,JK,Ka,JQ⟩:=uD
 have Fu:=hr.mono (j:=3) (by decide)
 obtain ⟨Dv,AZ,ut,tM,sD,sF⟩:=fR
 have oO:=hr.mono (j:=1) (by decide)
 unfold wu
 exact (ak (aM (aF AJ (pv 1) (aS aU (by rfl) T.n_len PySem.boot_len (ab (bC hu (pv 0) au (fun _ _=>rfl)) aj)) (aQ _))
   (am (ar fF))
   aA)
   (ak (aO (i:=3) zsc0u.nd rfl (Or.inl rfl) (aE aY (bC hu (pv 0) au (fun _ _=>rfl)) (pv 1) (fun _ _=>rfl)))
   (ak (aO (i:=4) zsc0u.nd rfl (Or.inl rfl) (aE aX (pv 3) ap (fun _ _=>rfl)))
   (ak (aM (b3 (bw (aE aY (bC hu (pv 0) au (fun _ _=>rfl)) (pv 4) (fun _ _=>rfl))))
   (am (ar fF))
   aA)
   (ak (aO (i:=5) zsc0u.nd rfl (Or.inl rfl) (aE aY (bC hu (pv 0) au (fun _ _=>rfl)) (pv 4) (fun _ _=>rfl)))
   (ak (aO (i:=6) zsc0u.nd rfl (Or.inl rfl) (aS aU (by rfl) T.n_len PySem.boot_len (ab (pv 5) aj)))
   (ak (aO (i:=7) zsc0u.nd rfl (Or.inl rfl) (aE aY (bC hu (pv 0) au (fun _ _=>rfl)) (pv 4) (fun _ _=>rfl)))
   (ak (aO (i:=8) zsc0u.nd rfl (Or.inl rfl) (aP J6 Fu rfl JK Ka JQ .nil aB (ab (pv 5) (ab (pv 7) (ab (bC hu (pv 0) au (fun _ _=>rfl)) (ab (pv 3) (ab (bC hu (pv 0) au (fun _ _=>rfl)) aj)))))))
   (am (ar (aP ut oO rfl tM sD sF .nil aB (ab (pv 0) (ab (pv 4) (ab (pv 6) (ab (pv 8) (ab (pv 2) aj))))))))))))))))
theorem Dj{aa:Addr}{ac:Addr}(bV:Sp)(bR:Sp)(cK:Sp)(T:Txt K mg aa ac)
  (dF:aK P w K mg base 1 "_law_words_of" ["_law_book","_law_bargain"] bV)(dE:aK P w K mg base 1 "_law_to_all" ["_law_mine","_law_count","_law_bargain","_law_word"] bR)(fR:aK P w K mg base 1 "_law_posted" ["_law_hall","_law_who","_law_ahead","_law_sent","_law_stays"] cK)
  (hr:Room 1 (A.deeper (PyProof.Rows.envOfC "_law_woken" (ai me) s.heap.objs.size f cdv))) :
  PSs (bn bD P w K mg base ["_law_hall","_law_who","_law_book","_law_ahead","_law_sent","_law_line"] "_law_woken" (ai me) f cdv A outer s H E).nox (ao me) (xR K bV bR cK):=by
 have hu:=gm hr
 have hu64:=hr.units
 obtain ⟨wQ,q_,kA,lE,mx,kX⟩:=dF
 have i':=hr.mono (j:=1) (by decide)
 obtain ⟨wG,rn,mz,lP,kL,mv⟩:=dE
 have iZ:=hr.mono (j:=1) (by decide)
 obtain ⟨Dv,AZ,ut,tM,sD,sF⟩:=fR
 have oO:=hr.mono (j:=1) (by decide)
 unfold xR
 exact (ak (aM (bw (aE aY (bC hu (pv 0) au (fun _ _=>rfl)) (pv 1) (fun _ _=>rfl)))
   (am (ar fF))
   aA)
   (ak (iM bS (nE (bC hu (pv 0) au (fun _ _=>rfl)) (pv 1) jg))
   (ak (aO (i:=2) zsc1i.nd rfl (Or.inl rfl) (aE aY (bC hu (pv 0) au (fun _ _=>rfl)) (pv 1) (fun _ _=>rfl)))
   (ak (aO (i:=3) zsc1i.nd rfl (Or.inl rfl) (aS aU (by rfl) T.n_len PySem.boot_len (ab (pv 2) aj)))
   (ak (aO (i:=4) zsc1i.nd rfl (Or.inl rfl) (bf aj))
   (ak (ez PassesOwn.never rfl (cV (dP gy (by rfl) T.n_list PySem.Pv.boot_list (ab (pv 2) aj))) (bm (i:=5) zsc1i.nd rfl (Or.inl rfl))
   (am (aM (aF (jt hu64) (aP kA i' rfl lE mx kX .nil aB (ab (pv 2) (ab (aE aX (pv 5) ap (fun _ _=>rfl)) aj))) (bf (ab au aj)) (aQ _))
   (ak (br (dm PySem.F.plainAttrs_list PySem.F.slot_list_append PySem.F.type_list_append cQ (pv 2) (ab (b_ (ab au (ab (aE aX (pv 5) ap (fun _ _=>rfl)) aj))) aj)))
   (am (br (dm PySem.F.plainAttrs_list PySem.F.slot_list_extend PySem.F.type_list_extend eQ (pv 4) (ab (aP mz iZ rfl lP kL mv .nil aB (ab (pv 1) (ab (bC hu (pv 0) au (fun _ _=>rfl)) (ab (aE aX (pv 5) ap (fun _ _=>rfl)) (ab au aj))))) aj)))))
   aA)))
   (am (ar (aP ut oO rfl tM sD sF .nil aB (ab (pv 0) (ab (pv 1) (ab (pv 3) (ab (pv 4) (ab bS aj))))))))))))))
theorem C7{aa:Addr}{ac:Addr}(d6:Sp)(T:Txt K mg aa ac)
  (jK:aK P w K mg base 4 "_law_carried" ["_law_hall","_law_which","_law_stays"] d6)
  (hr:Room 4 (A.deeper (PyProof.Rows.envOfC "_law_sweep_done" (ai lb) s.heap.objs.size f cdv))) :
  PSs (bn bD P w K mg base ["_law_hall","_law_told","_law_which","_law_lines"] "_law_sweep_done" (ai lb) f cdv A outer s H E).nox (ao lb) (xC K d6):=by
 have hu:=gm hr
 obtain ⟨JG,HH,z7,zQ,z9,zu⟩:=jK
 have xp:=hr.mono (j:=4) (by decide)
 unfold xC
 exact (ak (aO (i:=1) zsc0c.nd rfl (Or.inl rfl) (bf aj))
   (ak (aO (i:=2) zsc0c.nd rfl (Or.inr rfl) ap)
   (ak (oK PassesOwn.never (aF i5 (pv 2) (aS aU (by rfl) T.n_len PySem.boot_len (ab (bC hu (pv 0) au (fun _ _=>rfl)) aj)) (aQ _))
   (ak (aO (i:=3) zsc0c.nd rfl (Or.inl rfl) (aP z7 xp rfl zQ z9 zu .nil aB (ab (pv 0) (ab (pv 2) (ab bS aj)))))
   (dz (aM (iN (j_ (pv 3)))
   (am (br (dm PySem.F.plainAttrs_list PySem.F.slot_list_extend PySem.F.type_list_extend eQ (pv 1) (ab (eJ rfl (show db _ (["_law_line","_law_which","_law_hall"]:List Str) _ ([("_law_which",s.heap.objs.size+1+1),("_law_hall",s.heap.objs.size+1+0)]:List (Str×Addr)) ([none,some 2,some 0]:List (Option Nat)) from ⟨by with_unfolding_all rfl,rfl,rfl,rfl,rfl,⟨rfl,⟨rfl,trivial⟩⟩,⟨⟨rfl,Or.inl rfl,Or.inl rfl,_,rfl,rfl⟩,⟨⟨rfl,Or.inl rfl,Or.inl rfl,_,rfl,rfl⟩,trivial⟩⟩⟩) (cV (pv 3)) (fun _ _ _ _=>(bm (i:=0) Bl rfl (Or.inl rfl))) (fun _ _ _ _=>eT) (fun _ _ _ _=>(b_ (ab (aE aX (aE aY (bC hu (pv 2) au (fun _ _=>rfl)) (pv 1) (fun _ _=>rfl)) ap (fun _ _=>rfl)) (ab (pv 0) aj))))) aj))))
   aA)
   (am (aO (i:=2) zsc0c.nd rfl (Or.inr rfl) (bt iL (pv 2) ap))))))
   (am (ar (pv 1))))))
theorem Cm{aa:Addr}{ac:Addr}(iE:Sp)(d6:Sp)(iC:Sp)(ia:Sp)(bV:Sp)(bR:Sp)(T:Txt K mg aa ac)
  (sv:aK P w K mg base 2 "_law_begun" ["_law_hall","_law_bargain","_law_stays"] iE)(jK:aK P w K mg base 4 "_law_carried" ["_law_hall","_law_which","_law_stays"] d6)(uo:aK P w K mg base 2 "_law_woken" ["_law_hall","_law_who"] iC)(sK:aK P w K mg base 5 "_law_sweep_done" ["_law_hall"] ia)(dF:aK P w K mg base 1 "_law_words_of" ["_law_book","_law_bargain"] bV)(dE:aK P w K mg base 1 "_law_to_all" ["_law_mine","_law_count","_law_bargain","_law_word"] bR)
  (hr:Room 5 (A.deeper (PyProof.Rows.envOfC "_law_due_answer" (ai mf) s.heap.objs.size f cdv))) :
  PSs (bn bD P w K mg base ["_law_hall","_law_deed","_law_was","_law_asks"] "_law_due_answer" (ai mf) f cdv A outer s H E).nox (ao mf) (vM K iE d6 iC ia bV bR):=by
 have hu:=gm hr
 have hu64:=hr.units
 obtain ⟨Mo,Lv,KG,Kz,IP,Lb⟩:=sv
 have EA:=hr.mono (j:=2) (by decide)
 obtain ⟨JG,HH,z7,zQ,z9,zu⟩:=jK
 have xp:=hr.mono (j:=4) (by decide)
 obtain ⟨Md,LD,JW,KF,Jh,IZ⟩:=uo
 have Ho:=hr.mono (j:=2) (by decide)
 obtain ⟨Ma,Lr,KN,JF,KS,KP⟩:=sK
 have GR:=hr.mono (j:=5) (by decide)
 obtain ⟨wQ,q_,kA,lE,mx,kX⟩:=dF
 have i':=hr.mono (j:=1) (by decide)
 obtain ⟨wG,rn,mz,lP,kL,mv⟩:=dE
 have iZ:=hr.mono (j:=1) (by decide)
 unfold vM
 exact (ak (aM (aF cm (aE aX (pv 1) ap (fun _ _=>rfl)) au (aQ _))
   (am (ar (aP KG EA rfl Kz IP Lb .nil aB (ab (pv 0) (ab (aE aX (pv 1) ap (fun _ _=>rfl)) (ab (aE aX (pv 1) ap (fun _ _=>rfl)) aj))))))
   aA)
   (ak (aM (aF cm (aE aX (pv 1) ap (fun _ _=>rfl)) au (aQ _))
   (am (ar (aP z7 xp rfl zQ z9 zu .nil aB (ab (pv 0) (ab (aE aX (pv 1) ap (fun _ _=>rfl)) (ab (aE aX (pv 1) ap (fun _ _=>rfl)) aj))))))
   aA)
   (ak (aM (aF cm (aE aX (pv 1) ap (fun _ _=>rfl)) au (aQ _))
   (am (ar (aP JW Ho rfl KF Jh IZ .nil aB (ab (pv 0) (ab (aE aX (pv 1) ap (fun _ _=>rfl)) aj)))))
   aA)
   (ak (aM (aF cm (aE aX (pv 1) ap (fun _ _=>rfl)) au (aQ _))
   (am (ar (aP KN GR rfl JF KS KP .nil aB (ab (pv 0) aj))))
   aA)
   (ak (aO (i:=2) zsc09.nd rfl (Or.inl rfl) (aE aY (bC hu (pv 0) au (fun _ _=>rfl)) (aE aX (pv 1) ap (fun _ _=>rfl)) (fun _ _=>rfl)))
   (ak (aM (aF cm (aE aX (pv 1) ap (fun _ _=>rfl)) au (aQ _))
   (ak (iM bS (nE (bC hu (pv 0) au (fun _ _=>rfl)) (aE aX (pv 1) ap (fun _ _=>rfl)) jg))
   (ak (iM gH (nE (bC hu (pv 0) au (fun _ _=>rfl)) (aE aX (pv 1) ap (fun _ _=>rfl)) jg))
   (am (ar (pv 2)))))
   aA)
   (dz (aO (i:=3) zsc09.nd rfl (Or.inl rfl) (j3 (pv 2) (j0 (ef (jt hu64) (aP kA i' rfl lE mx kX .nil aB (ab (aE aY (bC hu (pv 0) au (fun _ _=>rfl)) (aE aX (pv 1) ap (fun _ _=>rfl)) (fun _ _=>rfl)) (ab (aE aX (pv 1) ap (fun _ _=>rfl)) aj))) (bf (ab au aj)) (aQ _)))))
   (dz (aM (bw (pv 3))
   (am (br (dm PySem.F.plainAttrs_list PySem.F.slot_list_extend PySem.F.type_list_extend eQ (bC hu (pv 0) au (fun _ _=>rfl)) (ab (aP mz iZ rfl lP kL mv .nil aB (ab (aE aX (pv 1) ap (fun _ _=>rfl)) (ab (bC hu (pv 0) au (fun _ _=>rfl)) (ab (aE aX (pv 1) ap (fun _ _=>rfl)) (ab au aj))))) aj))))
   aA)
   (am (ar (pv 3)))))))))))
theorem CB{aa:Addr}{ac:Addr}(cN:Sp)(d3:Sp)(T:Txt K mg aa ac)
  (fT:aK P w K mg base 1 "_law_whole" ["_law_found"] cN)(jN:aK P w K mg base 2 "_law_is_line" ["_law_found"] d3)
  (hr:Room 2 (A.deeper (PyProof.Rows.envOfC "_law_alike" (ai lW) s.heap.objs.size f cdv))) :
  PSs (bn bD P w K mg base ["_law_found","_law_due","_law_k","_law_part"] "_law_alike" (ai lW) f cdv A outer s H E).nox (ao lW) (xO K cN d3):=by
 have hu64:=hr.units
 obtain ⟨DE,Ay,sW,uw,ue,tW⟩:=fT
 have pM:=hr.mono (j:=1) (by decide)
 obtain ⟨JM,GD,zE,zZ,Ad,zD⟩:=jN
 have wD:=hr.mono (j:=2) (by decide)
 unfold xO
 exact (ak (aM (iN (mO (pv 1)))
   (am (ar (tQ (mO (pv 0)))))
   aA)
   (ak (aM (bw (aS b6 (by rfl) T.n_isinstance PyProof.Rows.boot_isinstance (ab (pv 1) (ab (c_ (by rfl) T.n_bool PySem.Pv.boot_bool (v:=.ty "bool") rfl) aj))))
   (am (ar (j3 (aS b6 (by rfl) T.n_isinstance PyProof.Rows.boot_isinstance (ab (pv 0) (ab (c_ (by rfl) T.n_bool PySem.Pv.boot_bool (v:=.ty "bool") rfl) aj))) (j0 (ef (jt hu64) (pv 0) (pv 1) (aQ _))))))
   aA)
   (ak (aM (PW.pt (dM (b3 (bw (aS b6 (by rfl) T.n_isinstance PyProof.Rows.boot_isinstance (ab (pv 0) (ab (c_ (by rfl) T.n_list PySem.Pv.boot_list (v:=.ty "list") rfl) aj))))) (di (aF fJ (aS aU (by rfl) T.n_len PySem.boot_len (ab (pv 0) aj)) (aS aU (by rfl) T.n_len PySem.boot_len (ab (pv 1) aj)) (aQ _)))))
   (am (ar bS))
   aA)
   (ak (ez PassesOwn.never rfl (du rfl T.n_range (ab (aS aU (by rfl) T.n_len PySem.boot_len (ab (pv 1) aj)) aj)) (bm (i:=2) zsc1h.nd rfl (Or.inl rfl))
   (ak (aO (i:=3) zsc1h.nd rfl (Or.inl rfl) (aE aY (pv 0) (pv 2) (fun _ _=>rfl)))
   (dz (aM (bw (aS b6 (by rfl) T.n_isinstance PyProof.Rows.boot_isinstance (ab (aE aX (aE aY (pv 1) (pv 2) (fun _ _=>rfl)) ap (fun _ _=>rfl)) (ab (c_ (by rfl) T.n_tuple PySem.Pv.boot_tuple (v:=.ty "tuple") rfl) aj))))
   (ak (aM (PW.pt (dM (b3 (bw (aS b6 (by rfl) T.n_isinstance PyProof.Rows.boot_isinstance (ab (pv 3) (ab (c_ (by rfl) T.n_tuple PySem.Pv.boot_tuple (v:=.ty "tuple") rfl) aj))))) (di (aF fJ (aS aU (by rfl) T.n_len PySem.boot_len (ab (pv 3) aj)) ap (aQ _)))))
   (am (ar bS))
   aA)
   (ak (aM (b3 (bw (aP sW pM rfl uw ue tW .nil aB (ab (aE aX (pv 3) ap (fun _ _=>rfl)) aj))))
   (am (ar bS))
   aA)
   (am (aO (i:=3) zsc1h.nd rfl (Or.inl rfl) (aE aX (pv 3) ap (fun _ _=>rfl))))))
   aA)
   (am (aM (PW.pt (dM (b3 (bw (aP zE wD rfl zZ Ad zD .nil aB (ab (pv 3) aj)))) (di (aF (nC hu64) (aE aY (pv 0) (pv 2) (fun _ _=>rfl)) (aE aY (pv 1) (pv 2) (fun _ _=>rfl)) (aQ _)))))
   (am (ar bS))
   aA)))))
   (am (ar bS))))))
theorem Cs{aa:Addr}{ac:Addr}(T:Txt K mg aa ac)
  (hr:Room 0 (A.deeper (PyProof.Rows.envOfC "_law_room" (ai lK) s.heap.objs.size f cdv))) :
  PSs (bn bD P w K mg base ["_law_script","_law_most","_law_bound"] "_law_room" (ai lK) f cdv A outer s H E).nox (ao lK) (xG K ):=by
 unfold xG
 exact (ak (aM (aF rh (aS aU (by rfl) T.n_len PySem.boot_len (ab (pv 0) aj)) ap (aQ _))
   (am (ar (pv 2)))
   aA)
   (am (ar (pv 1))))
theorem Cp{aa:Addr}{ac:Addr}(f':Sp)(iG:Sp)(gT:Sp)(gZ:Sp)(iD:Sp)(gR:Sp)(ij:Sp)(h7:Sp)(iq:Sp)(hX:Sp)(iK:Sp)(h_:Sp)(iu:Sp)(T:Txt K mg aa ac)
  (sg:aK P w K mg base 1 "_law_at" ["_law_script","_law_k"] f')(tV:aK P w K mg base 2 "_law_pairs_against" ["_law_cell","_law_count"] iG)(t9:aK P w K mg base 1 "_law_room" ["_law_script","_law_most","_law_bound"] gT)(tw:aK P w K mg base 4 "_law_drawn" ["_law_cells","_law_count"] gZ)(tX:aK P w K mg base 9 "answers" ["count","against","deeds"] iD)(sq:aK P w K mg base 10 "books_after" ["count","against","deeds"] gR)(uc:aK P w K mg base 10 "letters_after" ["count","against","deeds"] ij)(rA:aK P w K mg base 10 "awake_after" ["count","against","deeds"] h7)(tp:aK P w K mg base 1 "_law_new_hall" ["_law_count","_law_against"] iq)(tq:aK P w K mg base 6 "_law_due_answer" ["_law_hall","_law_deed"] hX)(rT:aK P w K mg base 3 "_law_alike" ["_law_found","_law_due"] iK)(rQ:aK P w K mg base 4 "_law_are_books" ["_law_found","_law_count"] h_)(sI:aK P w K mg base 3 "_law_are_letters" ["_law_found","_law_count"] iu)
  (hr:Room 10 (A.deeper (PyProof.Rows.envOfC "law" (ai iU) s.heap.objs.size f cdv))) :
  PSs (bn bD P w K mg base ["_law_script","_law_count","_law_against","_law_deeds","_law_handed","_law_told","_law_books","_law_letters","_law_up","_law_hall","_law_k"] "law" (ai iU) f cdv A outer s H E).nox (ao iU) (wp K f' iG gT gZ iD gR ij h7 iq hX iK h_ iu):=by
 have hu:=gm hr
 have hu64:=hr.units
 obtain ⟨L0,LP,Ck,CK,DS,DB⟩:=sg
 have AL:=hr.mono (j:=1) (by decide)
 obtain ⟨L1,Lu,Jx,JJ,Lc,J7⟩:=tV
 have G0:=hr.mono (j:=2) (by decide)
 obtain ⟨Mm,Ln,IU,JY,J5,Jm⟩:=t9
 have Fa:=hr.mono (j:=1) (by decide)
 obtain ⟨Mw,LF,K3,Kw,KR,Ju⟩:=tw
 have G9:=hr.mono (j:=4) (by decide)
 obtain ⟨L_,LR,KK,KQ,JN,Ja⟩:=tX
 have Ev:=hr.mono (j:=9) (by decide)
 obtain ⟨Mi,LU,IL,JZ,J_,J8⟩:=sq
 have Il:=hr.mono (j:=10) (by decide)
 obtain ⟨Mq,LJ,JT,Jb,KO,II⟩:=uc
 have HR:=hr.mono (j:=10) (by decide)
 obtain ⟨Mp,LM,Ks,K4,K_,JR⟩:=rA
 have D7:=hr.mono (j:=10) (by decide)
 obtain ⟨My,LE,JB,Jw,Jd,Kb⟩:=tp
 have Hr:=hr.mono (j:=1) (by decide)
 obtain ⟨LZ,LS,Kc,Jn,Jr,IK⟩:=tq
 have GU:=hr.mono (j:=6) (by decide)
 obtain ⟨Mr,Lo,Jv,Jc,KA,Kr⟩:=rT
 have Gz:=hr.mono (j:=3) (by decide)
 obtain ⟨Mu,LB,Ke,K2,Kg,Kd⟩:=rQ
 have HI:=hr.mono (j:=4) (by decide)
 obtain ⟨MC,Lj,J',Jg,IT,K0⟩:=sI
 have Gq:=hr.mono (j:=3) (by decide)
 unfold wp
 exact (ak (aO (i:=1) zsc1u.nd rfl (Or.inl rfl) (aE aY (bf (ab ap (ab ap (ab ap (ab ap (ab ap (ab ap (ab ap (ab ap aj))))))))) (bt cE (bt cE (bt eA (aP Ck AL rfl CK DS DB .nil aB (ab (pv 0) (ab ap aj))) ap) ap) ap) (fun _ _=>rfl)))
   (ak (aO (i:=2) zsc1u.nd rfl (Or.inl rfl) (aP Jx G0 rfl JJ Lc J7 .nil aB (ab (aP Ck AL rfl CK DS DB .nil aB (ab (pv 0) (ab ap aj))) (ab (pv 1) aj))))
   (ak (aO (i:=3) zsc1u.nd rfl (Or.inl rfl) (aP K3 G9 rfl Kw KR Ju .nil aB (ab (gN jY (pv 0) (gI ap) (gI (bt iL ap (aP IU Fa rfl JY J5 Jm .nil aB (ab (pv 0) (ab ap (ab ap aj))))))) (ab (pv 1) aj))))
   (ak (aO (i:=4) zsc1u.nd rfl (Or.inl rfl) (bf (ab (dP gy (by rfl) T.n_list PySem.Pv.boot_list (ab (pv 2) aj)) (ab (dP gy (by rfl) T.n_list PySem.Pv.boot_list (ab (pv 3) aj)) aj))))
   (ak (aO (i:=5) zsc1u.nd rfl (Or.inl rfl) (aP KK Ev rfl KQ JN Ja .nil aB (ab (pv 1) (ab (aE aY (pv 4) ap (fun _ _=>rfl)) (ab (aE aY (pv 4) ap (fun _ _=>rfl)) aj)))))
   (ak (aO (i:=6) zsc1u.nd rfl (Or.inl rfl) (aP IL Il rfl JZ J_ J8 .nil aB (ab (pv 1) (ab (aE aY (pv 4) ap (fun _ _=>rfl)) (ab (aE aY (pv 4) ap (fun _ _=>rfl)) aj)))))
   (ak (aO (i:=7) zsc1u.nd rfl (Or.inl rfl) (aP JT HR rfl Jb KO II .nil aB (ab (pv 1) (ab (aE aY (pv 4) ap (fun _ _=>rfl)) (ab (aE aY (pv 4) ap (fun _ _=>rfl)) aj)))))
   (ak (aO (i:=8) zsc1u.nd rfl (Or.inl rfl) (aP Ks D7 rfl K4 K_ JR .nil aB (ab (pv 1) (ab (aE aY (pv 4) ap (fun _ _=>rfl)) (ab (aE aY (pv 4) ap (fun _ _=>rfl)) aj)))))
   (ak (aM (PW.pt (dM (b3 (bw (aS b6 (by rfl) T.n_isinstance PyProof.Rows.boot_isinstance (ab (pv 5) (ab (c_ (by rfl) T.n_list PySem.Pv.boot_list (v:=.ty "list") rfl) aj))))) (di (aF fJ (aS aU (by rfl) T.n_len PySem.boot_len (ab (pv 5) aj)) (aS aU (by rfl) T.n_len PySem.boot_len (ab (pv 3) aj)) (aQ _)))))
   (am (ar bS))
   aA)
   (ak (aM (aF (nC hu64) (pv 4) (bf (ab (pv 2) (ab (pv 3) aj))) (aQ _))
   (am (ar bS))
   aA)
   (ak (aO (i:=9) zsc1u.nd rfl (Or.inl rfl) (aP JB Hr rfl Jw Jd Kb .nil aB (ab (pv 1) (ab (pv 2) aj))))
   (ak (ez PassesOwn.never rfl (du rfl T.n_range (ab (aS aU (by rfl) T.n_len PySem.boot_len (ab (pv 3) aj)) aj)) (bm (i:=10) zsc1u.nd rfl (Or.inl rfl))
   (am (aM (b3 (bw (aP Jv Gz rfl Jc KA Kr .nil aB (ab (aE aY (pv 5) (pv 10) (fun _ _=>rfl)) (ab (aP Kc GU rfl Jn Jr IK .nil aB (ab (pv 9) (ab (aE aY (pv 3) (pv 10) (fun _ _=>rfl)) aj))) aj)))))
   (am (ar bS))
   aA)))
   (ak (aM (PW.pt (dM (b3 (bw (aP Ke HI rfl K2 Kg Kd .nil aB (ab (pv 6) (ab (pv 1) aj))))) (di (aF (nC hu64) (pv 6) (bC hu (pv 9) au (fun _ _=>rfl)) (aQ _)))))
   (am (ar bS))
   aA)
   (ak (aM (PW.pt (dM (b3 (bw (aP J' Gq rfl Jg IT K0 .nil aB (ab (pv 7) (ab (pv 1) aj))))) (di (aF (nC hu64) (pv 7) (bC hu (pv 9) au (fun _ _=>rfl)) (aQ _)))))
   (am (ar bS))
   aA)
   (ak (aM (PW.pt (dM (b3 (bw (aS b6 (by rfl) T.n_isinstance PyProof.Rows.boot_isinstance (ab (pv 8) (ab (c_ (by rfl) T.n_list PySem.Pv.boot_list (v:=.ty "list") rfl) aj))))) (di (aF fJ (aS aU (by rfl) T.n_len PySem.boot_len (ab (pv 8) aj)) (pv 1) (aQ _)))))
   (am (ar bS))
   aA)
   (ak (ez PassesOwn.never rfl (du rfl T.n_range (ab (pv 1) aj)) (bm (i:=10) zsc1u.nd rfl (Or.inl rfl))
   (am (aM (PW.pt (dM (b3 (bw (aS b6 (by rfl) T.n_isinstance PyProof.Rows.boot_isinstance (ab (aE aY (pv 8) (pv 10) (fun _ _=>rfl)) (ab (c_ (by rfl) T.n_bool PySem.Pv.boot_bool (v:=.ty "bool") rfl) aj))))) (di (aF fJ (aE aY (pv 8) (pv 10) (fun _ _=>rfl)) (aE aY (bC hu (pv 9) au (fun _ _=>rfl)) (pv 10) (fun _ _=>rfl)) (aQ _)))))
   (am (ar bS))
   aA)))
   (am (ar bS))))))))))))))))))
end
local macro_rules | `(tactic| walk_at "q")=>`(tactic| (intro vs H Q E h;have q:=h;repeat (first | (obtain ⟨e,_⟩:=q;subst e;rfl) | (obtain ⟨⟨_,_,e,_⟩,_⟩:=q;subst e;rfl) | (obtain ⟨_,q⟩:=q))))
section
variable {P:Program}{w:World}{K:W.Frag}{mg:Str→Option Value}{base:Heap}
theorem HU{aa:Addr}{ac:Addr}{f:Addr}{fd:FuncData}(F:Fun K "_law_at" "_law_at" lr f fd)(T:Txt K mg aa ac)(hm:mg "_law_at"=some (.ref f)):aK P w K mg base 1 "_law_at" ["_law_script","_law_k"] (f' K):=
 ⟨f,fd,F.ok D9 (by walk_at "q") (fun cdv A outer s H vs Q E hr h=>⟨_,Dl T hr,Fd h⟩),hm,F.kp,F.binds fun _ _ _ _ _ _ us hl=>match us,hl with | [_,_],_=>rfl⟩
theorem Hi{aa:Addr}{ac:Addr}{f:Addr}{fd:FuncData}(F:Fun K "_law_all_bargains" "_law_all_bargains" kg f fd)(T:Txt K mg aa ac)(hm:mg "_law_all_bargains"=some (.ref f)):aK P w K mg base 1 "_law_all_bargains" [] dY:=
 ⟨f,fd,F.ok Eh (by walk_at "q") (fun cdv A outer s H vs Q E hr h=>⟨_,DG T hr,EI h⟩),hm,F.kp,F.binds fun _ _ _ _ _ _ us hl=>match us,hl with | [],_=>rfl⟩
theorem GW{aa:Addr}{ac:Addr}{f:Addr}{fd:FuncData}(F:Fun K "_law_pairs_against" "_law_pairs_against" kE f fd)(T:Txt K mg aa ac)(jS:aK P w K mg base 1 "_law_all_bargains" [] dY)(hm:mg "_law_pairs_against"=some (.ref f)):aK P w K mg base 2 "_law_pairs_against" ["_law_cell","_law_count"] iG:=
 ⟨f,fd,F.ok zsc02 (by walk_at "q") (fun cdv A outer s H vs Q E hr h=>⟨_,Co dY T jS hr,FB h⟩),hm,F.kp,F.binds fun _ _ _ _ _ _ us hl=>match us,hl with | [_,_],_=>rfl⟩
theorem Ei{aa:Addr}{ac:Addr}{f:Addr}{fd:FuncData}(F:Fun K "_law_room" "_law_room" lK f fd)(T:Txt K mg aa ac)(hm:mg "_law_room"=some (.ref f)):aK P w K mg base 1 "_law_room" ["_law_script","_law_most","_law_bound"] (gT K):=
 ⟨f,fd,F.ok GZ (by walk_at "q") (fun cdv A outer s H vs Q E hr h=>⟨_,Cs T hr,Gy h⟩),hm,F.kp,F.binds fun _ _ _ _ _ _ us hl=>match us,hl with | [_,_,_],_=>rfl⟩
theorem nT{aa:Addr}{ac:Addr}{f:Addr}{fd:FuncData}(F:Fun K "_law_bargain_of" "_law_bargain_of" cw f fd)(T:Txt K mg aa ac)(jS:aK P w K mg base 1 "_law_all_bargains" [] dY)(hm:mg "_law_bargain_of"=some (.ref f)):aK P w K mg base 2 "_law_bargain_of" ["_law_cell"] (bY (fun _=>True)):=
 ⟨f,fd,F.ok nU (by walk_at "q") (fun cdv A outer s H vs Q E hr h=>⟨_,mX dY T jS hr,mT h⟩),hm,F.kp,F.binds fun _ _ _ _ _ _ us hl=>match us,hl with | [_],_=>rfl⟩
theorem Gk{aa:Addr}{ac:Addr}{f:Addr}{fd:FuncData}(F:Fun K "_law_deed_of" "_law_deed_of" lJ f fd)(T:Txt K mg aa ac)(h_law_bargain_of:aK P w K mg base 2 "_law_bargain_of" ["_law_cell"] (bY (fun _=>True)))(hm:mg "_law_deed_of"=some (.ref f)):aK P w K mg base 3 "_law_deed_of" ["_law_cell","_law_k","_law_count","_law_swept"] (iA (fun _=>True)):=
 ⟨f,fd,F.ok zsc0o (by walk_at "q") (fun cdv A outer s H vs Q E hr h=>⟨_,Cn (bY (fun _=>True)) T h_law_bargain_of hr,Eo h⟩),hm,F.kp,F.binds fun _ _ _ _ _ _ us hl=>match us,hl with | [_,_,_,_],_=>rfl⟩
theorem Fk{aa:Addr}{ac:Addr}{f:Addr}{fd:FuncData}(F:Fun K "_law_drawn" "_law_drawn" ml f fd)(T:Txt K mg aa ac)(ui:aK P w K mg base 3 "_law_deed_of" ["_law_cell","_law_k","_law_count","_law_swept"] (iA (fun _=>True)))(hm:mg "_law_drawn"=some (.ref f)):aK P w K mg base 4 "_law_drawn" ["_law_cells","_law_count"] (gZ (fun _=>True)):=
 ⟨f,fd,F.ok zsc1c (by walk_at "q") (fun cdv A outer s H vs Q E hr h=>⟨_,Df (iA (fun _=>True)) T ui hr,Ib h⟩),hm,F.kp,F.binds fun _ _ _ _ _ _ us hl=>match us,hl with | [_,_],_=>rfl⟩
theorem GC{aa:Addr}{ac:Addr}{f:Addr}{fd:FuncData}(F:Fun K "words_of" "words_of" l_ f fd)(T:Txt K mg aa ac)(hm:mg "words_of"=some (.ref f)):aK P w K mg base 1 "words_of" ["book","bargain"] cC:=
 ⟨f,fd,F.ok Ff (by walk_at "q") (fun cdv A outer s H vs Q E hr h=>⟨_,Ca T hr,AD h⟩),hm,F.kp,F.binds fun _ _ _ _ _ _ us hl=>match us,hl with | [_,_],_=>rfl⟩
theorem F'{aa:Addr}{ac:Addr}{f:Addr}{fd:FuncData}(F:Fun K "knows" "knows" kT f fd)(T:Txt K mg aa ac)(fS:aK P w K mg base 1 "words_of" ["book","bargain"] cC)(hm:mg "knows"=some (.ref f)):aK P w K mg base 2 "knows" ["book","bargain"] cM:=
 ⟨f,fd,F.ok Hb (by walk_at "q") (fun cdv A outer s H vs Q E hr h=>⟨_,B5 cC T fS hr,EW h⟩),hm,F.kp,F.binds fun _ _ _ _ _ _ us hl=>match us,hl with | [_,_],_=>rfl⟩
theorem EQ{aa:Addr}{ac:Addr}{f:Addr}{fd:FuncData}(F:Fun K "write" "House.write" lH f fd)(T:Txt K mg aa ac)(hm:cX K aa "write" f):aG P w K mg base aa 1 "write" ["self","word","bargain"] (bM aa):=
 ⟨f,fd,F.ok Hq (by walk_at "q") (fun cdv A outer s H vs Q E hr h=>⟨_,Dt T hr,GT T.hs h⟩),hm,F.binds fun _ _ _ _ _ _ us hl=>match us,hl with | [_,_,_],_=>rfl⟩
theorem Gh{aa:Addr}{ac:Addr}{f:Addr}{fd:FuncData}(F:Fun K "to_others" "House.to_others" lC f fd)(T:Txt K mg aa ac)(hm:cX K aa "to_others" f):aG P w K mg base aa 1 "to_others" ["self","bargain","word"] (cP aa):=
 ⟨f,fd,F.ok HK (by walk_at "q") (fun cdv A outer s H vs Q E hr h=>⟨_,Dg T hr,FS T.hs h⟩),hm,F.binds fun _ _ _ _ _ _ us hl=>match us,hl with | [_,_,_],_=>rfl⟩
theorem EF{aa:Addr}{ac:Addr}{f:Addr}{fd:FuncData}(F:Fun K "begin" "House.begin" lf f fd)(T:Txt K mg aa ac)(dA:aG P w K mg base aa 1 "write" ["self","word","bargain"] (bM aa))(fN:aG P w K mg base aa 1 "to_others" ["self","bargain","word"] (cP aa))(hm:cX K aa "begin" f):aG P w K mg base aa 2 "begin" ["self","bargain"] (ig aa):=
 ⟨f,fd,F.ok GS (by walk_at "q") (fun cdv A outer s H vs Q E hr h=>⟨_,BW (bM aa) (cP aa) aa T dA fN hr,FC T.hs h⟩),hm,F.binds fun _ _ _ _ _ _ us hl=>match us,hl with | [_,_],_=>rfl⟩
theorem HY{aa:Addr}{ac:Addr}{f:Addr}{fd:FuncData}(F:Fun K "send" "Hall.send" lY f fd)(T:Txt K mg aa ac)(hm:cX K ac "send" f):aG P w K mg base ac 1 "send" ["self","sent"] (cL aa ac):=
 ⟨f,fd,F.ok zsc1g (by walk_at "q") (fun cdv A outer s H vs Q E hr h=>⟨_,CG T hr,Ig T.hx h⟩),hm,F.binds fun _ _ _ _ _ _ us hl=>match us,hl with | [_,_],_=>rfl⟩
theorem Gr{aa:Addr}{ac:Addr}{f:Addr}{fd:FuncData}(F:Fun K "forget" "House.forget" md f fd)(T:Txt K mg aa ac)(hm:cX K aa "forget" f):aG P w K mg base aa 1 "forget" ["self"] (d0 aa):=
 ⟨f,fd,F.ok Fi (by walk_at "q") (fun cdv A outer s H vs Q E hr h=>⟨_,Cq T hr,Iu T.hs h⟩),hm,F.binds fun _ _ _ _ _ _ us hl=>match us,hl with | [_],_=>rfl⟩
theorem Fy{aa:Addr}{ac:Addr}{f:Addr}{fd:FuncData}(F:Fun K "stop" "House.stop" lV f fd)(T:Txt K mg aa ac)(jU:aG P w K mg base aa 1 "forget" ["self"] (d0 aa))(hm:cX K aa "stop" f):aG P w K mg base aa 2 "stop" ["self"] (d5 aa):=
 ⟨f,fd,F.ok Hg (by walk_at "q") (fun cdv A outer s H vs Q E hr h=>⟨_,Dr (d0 aa) aa T jU hr,Gf T.hs h⟩),hm,F.binds fun _ _ _ _ _ _ us hl=>match us,hl with | [_],_=>rfl⟩
theorem En{aa:Addr}{ac:Addr}{f:Addr}{fd:FuncData}(F:Fun K "send_or_stop" "Hall.send_or_stop" ki f fd)(T:Txt K mg aa ac)(fY:aG P w K mg base ac 1 "send" ["self","sent"] (cL aa ac))(jG:aG P w K mg base aa 2 "stop" ["self"] (d5 aa))(hm:cX K ac "send_or_stop" f):aG P w K mg base ac 3 "send_or_stop" ["self","house","sent","stays"] (dZ aa ac):=
 ⟨f,fd,F.ok FP (by walk_at "q") (fun cdv A outer s H vs Q E hr h=>⟨_,DZ (cL aa ac) (d5 aa) ac aa T fY jG hr,Fp T.hx T.hs h⟩),hm,F.binds fun _ _ _ _ _ _ us hl=>match us,hl with | [_,_,_,_],_=>rfl⟩
theorem EO{aa:Addr}{ac:Addr}{f:Addr}{fd:FuncData}(F:Fun K "begin" "Hall.begin" kj f fd)(T:Txt K mg aa ac)(fU:aK P w K mg base 2 "knows" ["book","bargain"] cM)(tJ:aG P w K mg base aa 2 "begin" ["self","bargain"] (ig aa))(jM:aG P w K mg base ac 3 "send_or_stop" ["self","house","sent","stays"] (dZ aa ac))(hm:cX K ac "begin" f):aG P w K mg base ac 4 "begin" ["self","bargain","stays"] (ib aa ac):=
 ⟨f,fd,F.ok zsc12 (by walk_at "q") (fun cdv A outer s H vs Q E hr h=>⟨_,C_ cM (ig aa) (dZ aa ac) aa ac T fU tJ jM hr,Iv T.hx T.hs h⟩),hm,F.binds fun _ _ _ _ _ _ us hl=>match us,hl with | [_,_,_],_=>rfl⟩
theorem Er{aa:Addr}{ac:Addr}{f:Addr}{fd:FuncData}(F:Fun K "page" "House.page" lL f fd)(T:Txt K mg aa ac)(hm:cX K aa "page" f):aG P w K mg base aa 1 "page" ["self","bargain"] (cg aa):=
 ⟨f,fd,F.ok zsc13 (by walk_at "q") (fun cdv A outer s H vs Q E hr h=>⟨_,Ci T hr,HV T.hs h⟩),hm,F.binds fun _ _ _ _ _ _ us hl=>match us,hl with | [_,_],_=>rfl⟩
theorem EX{aa:Addr}{ac:Addr}{f:Addr}{fd:FuncData}(F:Fun K "decision_in" "decision_in" kU f fd)(T:Txt K mg aa ac)(fS:aK P w K mg base 1 "words_of" ["book","bargain"] cC)(hm:mg "decision_in"=some (.ref f)):aK P w K mg base 2 "decision_in" ["book","bargain"] cR:=
 ⟨f,fd,F.ok zsc0s (by walk_at "q") (fun cdv A outer s H vs Q E hr h=>⟨_,CO cC T fS hr,Io h⟩),hm,F.kp,F.binds fun _ _ _ _ _ _ us hl=>match us,hl with | [_,_],_=>rfl⟩
theorem GO{aa:Addr}{ac:Addr}{f:Addr}{fd:FuncData}(F:Fun K "decision" "House.decision" lX f fd)(T:Txt K mg aa ac)(fP:aK P w K mg base 2 "decision_in" ["book","bargain"] cR)(eK:aG P w K mg base aa 1 "page" ["self","bargain"] (cg aa))(hm:cX K aa "decision" f):aG P w K mg base aa 3 "decision" ["self","bargain"] (bT aa):=
 ⟨f,fd,F.ok Gp (by walk_at "q") (fun cdv A outer s H vs Q E hr h=>⟨_,Dc cR (cg aa) aa T fP eK hr,GV T.hs h⟩),hm,F.binds fun _ _ _ _ _ _ us hl=>match us,hl with | [_,_],_=>rfl⟩
theorem Iy{aa:Addr}{ac:Addr}{f:Addr}{fd:FuncData}(F:Fun K "to_one" "House.to_one" lO f fd)(T:Txt K mg aa ac)(hm:cX K aa "to_one" f):aG P w K mg base aa 1 "to_one" ["self","other","bargain","word"] (cz aa):=
 ⟨f,fd,F.ok EC (by walk_at "q") (fun cdv A outer s H vs Q E hr h=>⟨_,CL T hr,FM T.hs h⟩),hm,F.binds fun _ _ _ _ _ _ us hl=>match us,hl with | [_,_,_,_],_=>rfl⟩
theorem Id{aa:Addr}{ac:Addr}{f:Addr}{fd:FuncData}(F:Fun K "got_ask" "House.got_ask" kH f fd)(T:Txt K mg aa ac)(fU:aK P w K mg base 2 "knows" ["book","bargain"] cM)(eK:aG P w K mg base aa 1 "page" ["self","bargain"] (cg aa))(dA:aG P w K mg base aa 1 "write" ["self","word","bargain"] (bM aa))(dC:aG P w K mg base aa 3 "decision" ["self","bargain"] (bT aa))(fL:aG P w K mg base aa 1 "to_one" ["self","other","bargain","word"] (cz aa))(hm:cX K aa "got_ask" f):aG P w K mg base aa 4 "got_ask" ["self","giver","bargain"] (ii aa):=
 ⟨f,fd,F.ok HD (by walk_at "q") (fun cdv A outer s H vs Q E hr h=>⟨_,Dx cM (cg aa) (bM aa) (bT aa) (cz aa) aa T fU eK dA dC fL hr,Ha T.hs h⟩),hm,F.binds fun _ _ _ _ _ _ us hl=>match us,hl with | [_,_,_],_=>rfl⟩
theorem HW{aa:Addr}{ac:Addr}{f:Addr}{fd:FuncData}(F:Fun K "vote_in" "vote_in" kP f fd)(T:Txt K mg aa ac)(fS:aK P w K mg base 1 "words_of" ["book","bargain"] cC)(hm:mg "vote_in"=some (.ref f)):aK P w K mg base 2 "vote_in" ["book","bargain"] gS:=
 ⟨f,fd,F.ok zsc1r (by walk_at "q") (fun cdv A outer s H vs Q E hr h=>⟨_,DY cC T fS hr,E5 h⟩),hm,F.kp,F.binds fun _ _ _ _ _ _ us hl=>match us,hl with | [_,_],_=>rfl⟩
theorem FQ{aa:Addr}{ac:Addr}{f:Addr}{fd:FuncData}(F:Fun K "is_unsure" "is_unsure" mw f fd)(T:Txt K mg aa ac)(uI:aK P w K mg base 2 "vote_in" ["book","bargain"] gS)(fP:aK P w K mg base 2 "decision_in" ["book","bargain"] cR)(hm:mg "is_unsure"=some (.ref f)):aK P w K mg base 3 "is_unsure" ["book","bargain"] dU:=
 ⟨f,fd,F.ok Hx (by walk_at "q") (fun cdv A outer s H vs Q E hr h=>⟨_,C9 gS cR T uI fP hr,Em h⟩),hm,F.kp,F.binds fun _ _ _ _ _ _ us hl=>match us,hl with | [_,_],_=>rfl⟩
theorem Hc{aa:Addr}{ac:Addr}{f:Addr}{fd:FuncData}(F:Fun K "decide" "House.decide" lG f fd)(T:Txt K mg aa ac)(dA:aG P w K mg base aa 1 "write" ["self","word","bargain"] (bM aa))(fN:aG P w K mg base aa 1 "to_others" ["self","bargain","word"] (cP aa))(hm:cX K aa "decide" f):aG P w K mg base aa 2 "decide" ["self","bargain","word"] (cD aa):=
 ⟨f,fd,F.ok FY (by walk_at "q") (fun cdv A outer s H vs Q E hr h=>⟨_,Dy (bM aa) (cP aa) aa T dA fN hr,Ga T.hs h⟩),hm,F.binds fun _ _ _ _ _ _ us hl=>match us,hl with | [_,_,_],_=>rfl⟩
theorem GB{aa:Addr}{ac:Addr}{f:Addr}{fd:FuncData}(F:Fun K "got_query" "House.got_query" kN f fd)(T:Txt K mg aa ac)(jJ:aK P w K mg base 3 "is_unsure" ["book","bargain"] dU)(fU:aK P w K mg base 2 "knows" ["book","bargain"] cM)(eK:aG P w K mg base aa 1 "page" ["self","bargain"] (cg aa))(dC:aG P w K mg base aa 3 "decision" ["self","bargain"] (bT aa))(fL:aG P w K mg base aa 1 "to_one" ["self","other","bargain","word"] (cz aa))(fQ:aG P w K mg base aa 2 "decide" ["self","bargain","word"] (cD aa))(dA:aG P w K mg base aa 1 "write" ["self","word","bargain"] (bM aa))(hm:cX K aa "got_query" f):aG P w K mg base aa 4 "got_query" ["self","giver","bargain"] (iH aa):=
 ⟨f,fd,F.ok zsc07 (by walk_at "q") (fun cdv A outer s H vs Q E hr h=>⟨_,B8 dU cM (cg aa) (bT aa) (cz aa) (cD aa) (bM aa) aa T jJ fU eK dC fL fQ dA hr,He T.hs h⟩),hm,F.binds fun _ _ _ _ _ _ us hl=>match us,hl with | [_,_,_],_=>rfl⟩
theorem Ew{aa:Addr}{ac:Addr}{f:Addr}{fd:FuncData}(F:Fun K "got_vote" "House.got_vote" lg f fd)(T:Txt K mg aa ac)(dC:aG P w K mg base aa 3 "decision" ["self","bargain"] (bT aa))(fL:aG P w K mg base aa 1 "to_one" ["self","other","bargain","word"] (cz aa))(fQ:aG P w K mg base aa 2 "decide" ["self","bargain","word"] (cD aa))(hm:cX K aa "got_vote" f):aG P w K mg base aa 4 "got_vote" ["self","giver","bargain","word"] (iJ aa):=
 ⟨f,fd,F.ok zsc0d (by walk_at "q") (fun cdv A outer s H vs Q E hr h=>⟨_,B_ (bT aa) (cz aa) (cD aa) aa T dC fL fQ hr,Fw T.hs h⟩),hm,F.binds fun _ _ _ _ _ _ us hl=>match us,hl with | [_,_,_,_],_=>rfl⟩
theorem Iz{aa:Addr}{ac:Addr}{f:Addr}{fd:FuncData}(F:Fun K "got_decision" "House.got_decision" lD f fd)(T:Txt K mg aa ac)(dC:aG P w K mg base aa 3 "decision" ["self","bargain"] (bT aa))(dA:aG P w K mg base aa 1 "write" ["self","word","bargain"] (bM aa))(hm:cX K aa "got_decision" f):aG P w K mg base aa 4 "got_decision" ["self","bargain","word"] (ie aa):=
 ⟨f,fd,F.ok EY (by walk_at "q") (fun cdv A outer s H vs Q E hr h=>⟨_,DI (bT aa) (bM aa) aa T dC dA hr,Fj T.hs h⟩),hm,F.binds fun _ _ _ _ _ _ us hl=>match us,hl with | [_,_,_],_=>rfl⟩
theorem FH{aa:Addr}{ac:Addr}{f:Addr}{fd:FuncData}(F:Fun K "got" "House.got" mr f fd)(T:Txt K mg aa ac)(uK:aG P w K mg base aa 4 "got_ask" ["self","giver","bargain"] (ii aa))(rJ:aG P w K mg base aa 4 "got_query" ["self","giver","bargain"] (iH aa))(tf:aG P w K mg base aa 4 "got_vote" ["self","giver","bargain","word"] (iJ aa))(uz:aG P w K mg base aa 4 "got_decision" ["self","bargain","word"] (ie aa))(hm:cX K aa "got" f):aG P w K mg base aa 5 "got" ["self","letter"] (g_ aa):=
 ⟨f,fd,F.ok zsc1k (by walk_at "q") (fun cdv A outer s H vs Q E hr h=>⟨_,CM (ii aa) (iH aa) (iJ aa) (ie aa) aa T uK rJ tf uz hr,Fz T.hs h⟩),hm,F.binds fun _ _ _ _ _ _ us hl=>match us,hl with | [_,_],_=>rfl⟩
theorem Ij{aa:Addr}{ac:Addr}{f:Addr}{fd:FuncData}(F:Fun K "carry" "Hall.carry" lv f fd)(T:Txt K mg aa ac)(ux:aG P w K mg base aa 5 "got" ["self","letter"] (g_ aa))(jM:aG P w K mg base ac 3 "send_or_stop" ["self","house","sent","stays"] (dZ aa ac))(hm:cX K ac "carry" f):aG P w K mg base ac 6 "carry" ["self","which","stays"] (dS aa ac):=
 ⟨f,fd,F.ok zsc0z (by walk_at "q") (fun cdv A outer s H vs Q E hr h=>⟨_,DV (g_ aa) (dZ aa ac) aa ac T ux jM hr,FT T.hx T.hs h⟩),hm,F.binds fun _ _ _ _ _ _ us hl=>match us,hl with | [_,_,_],_=>rfl⟩
theorem Gi{aa:Addr}{ac:Addr}{f:Addr}{fd:FuncData}(F:Fun K "query" "House.query" lu f fd)(T:Txt K mg aa ac)(jJ:aK P w K mg base 3 "is_unsure" ["book","bargain"] dU)(eK:aG P w K mg base aa 1 "page" ["self","bargain"] (cg aa))(fN:aG P w K mg base aa 1 "to_others" ["self","bargain","word"] (cP aa))(hm:cX K aa "query" f):aG P w K mg base aa 4 "query" ["self","bargain"] (iy aa):=
 ⟨f,fd,F.ok Ek (by walk_at "q") (fun cdv A outer s H vs Q E hr h=>⟨_,Ds dU (cg aa) (cP aa) aa T jJ eK fN hr,Ez T.hs h⟩),hm,F.binds fun _ _ _ _ _ _ us hl=>match us,hl with | [_,_],_=>rfl⟩
theorem Ge{aa:Addr}{ac:Addr}{f:Addr}{fd:FuncData}(F:Fun K "query" "Hall.query" kx f fd)(T:Txt K mg aa ac)(sr:aG P w K mg base aa 4 "query" ["self","bargain"] (iy aa))(fY:aG P w K mg base ac 1 "send" ["self","sent"] (cL aa ac))(hm:cX K ac "query" f):aG P w K mg base ac 5 "query" ["self","number","bargain"] (ix aa ac):=
 ⟨f,fd,F.ok zsc0y (by walk_at "q") (fun cdv A outer s H vs Q E hr h=>⟨_,B7 (iy aa) (cL aa ac) aa ac T sr fY hr,D6 T.hx T.hs h⟩),hm,F.binds fun _ _ _ _ _ _ us hl=>match us,hl with | [_,_,_],_=>rfl⟩
theorem Ic{aa:Addr}{ac:Addr}{f:Addr}{fd:FuncData}(F:Fun K "stop" "Hall.stop" lU f fd)(T:Txt K mg aa ac)(jG:aG P w K mg base aa 2 "stop" ["self"] (d5 aa))(hm:cX K ac "stop" f):aG P w K mg base ac 3 "stop" ["self","number"] (h8 aa ac):=
 ⟨f,fd,F.ok zsc1b (by walk_at "q") (fun cdv A outer s H vs Q E hr h=>⟨_,Ct (d5 aa) aa T jG hr,Gj T.hx T.hs h⟩),hm,F.binds fun _ _ _ _ _ _ us hl=>match us,hl with | [_,_],_=>rfl⟩
theorem Gg{aa:Addr}{ac:Addr}{f:Addr}{fd:FuncData}(F:Fun K "left_open" "left_open" mj f fd)(T:Txt K mg aa ac)(fP:aK P w K mg base 2 "decision_in" ["book","bargain"] cR)(hm:mg "left_open"=some (.ref f)):aK P w K mg base 3 "left_open" ["book"] hV:=
 ⟨f,fd,F.ok HL (by walk_at "q") (fun cdv A outer s H vs Q E hr h=>⟨_,B6 cR T fP hr,Gu h⟩),hm,F.kp,F.binds fun _ _ _ _ _ _ us hl=>match us,hl with | [_],_=>rfl⟩
theorem Gc{aa:Addr}{ac:Addr}{f:Addr}{fd:FuncData}(F:Fun K "wake" "House.wake" mh f fd)(T:Txt K mg aa ac)(rR:aK P w K mg base 3 "left_open" ["book"] hV)(fQ:aG P w K mg base aa 2 "decide" ["self","bargain","word"] (cD aa))(hm:cX K aa "wake" f):aG P w K mg base aa 4 "wake" ["self"] (iF aa):=
 ⟨f,fd,F.ok zsc17 (by walk_at "q") (fun cdv A outer s H vs Q E hr h=>⟨_,Cy hV (cD aa) aa T rR fQ hr,FD T.hs h⟩),hm,F.binds fun _ _ _ _ _ _ us hl=>match us,hl with | [_],_=>rfl⟩
theorem GP{aa:Addr}{ac:Addr}{f:Addr}{fd:FuncData}(F:Fun K "wake" "Hall.wake" lM f fd)(T:Txt K mg aa ac)(sf:aG P w K mg base aa 4 "wake" ["self"] (iF aa))(fY:aG P w K mg base ac 1 "send" ["self","sent"] (cL aa ac))(hm:cX K ac "wake" f):aG P w K mg base ac 5 "wake" ["self","number"] (hZ aa ac):=
 ⟨f,fd,F.ok zsc1f (by walk_at "q") (fun cdv A outer s H vs Q E hr h=>⟨_,Cu (iF aa) (cL aa ac) aa ac T sf fY hr,FA T.hx T.hs h⟩),hm,F.binds fun _ _ _ _ _ _ us hl=>match us,hl with | [_,_],_=>rfl⟩
theorem EM{aa:Addr}{ac:Addr}{f:Addr}{fd:FuncData}(F:Fun K "is_spent" "House.is_spent" lx f fd)(T:Txt K mg aa ac)(dC:aG P w K mg base aa 3 "decision" ["self","bargain"] (bT aa))(hm:cX K aa "is_spent" f):aG P w K mg base aa 4 "is_spent" ["self","letter"] (ir aa):=
 ⟨f,fd,F.ok Hu (by walk_at "q") (fun cdv A outer s H vs Q E hr h=>⟨_,Dw (bT aa) aa T dC hr,HJ T.hs h⟩),hm,F.binds fun _ _ _ _ _ _ us hl=>match us,hl with | [_,_],_=>rfl⟩
theorem Eu{aa:Addr}{ac:Addr}{f:Addr}{fd:FuncData}(F:Fun K "is_spent_letter" "Hall.is_spent_letter" ko f fd)(T:Txt K mg aa ac)(uj:aG P w K mg base aa 4 "is_spent" ["self","letter"] (ir aa))(hm:cX K ac "is_spent_letter" f):aG P w K mg base ac 5 "is_spent_letter" ["self","which"] (iB aa ac):=
 ⟨f,fd,F.ok zsc00 (by walk_at "q") (fun cdv A outer s H vs Q E hr h=>⟨_,CN (ir aa) aa T uj hr,ER T.hx h⟩),hm,F.binds fun _ _ _ _ _ _ us hl=>match us,hl with | [_,_],_=>rfl⟩
theorem Ea{aa:Addr}{ac:Addr}{f:Addr}{fd:FuncData}(F:Fun K "sweep" "Hall.sweep" k_ f fd)(T:Txt K mg aa ac)(jV:aG P w K mg base ac 6 "carry" ["self","which","stays"] (dS aa ac))(tK:aG P w K mg base ac 5 "is_spent_letter" ["self","which"] (iB aa ac))(hm:cX K ac "sweep" f):aG P w K mg base ac 7 "sweep" ["self"] (ik aa ac):=
 ⟨f,fd,F.ok zsc14 (by walk_at "q") (fun cdv A outer s H vs Q E hr h=>⟨_,C2 (dS aa ac) (iB aa ac) ac T jV tK hr,Fl T.hx h⟩),hm,F.binds fun _ _ _ _ _ _ us hl=>match us,hl with | [_],_=>rfl⟩
theorem G8{aa:Addr}{ac:Addr}{f:Addr}{fd:FuncData}(F:Fun K "do" "Hall.do" lF f fd)(T:Txt K mg aa ac)(uy:aG P w K mg base ac 4 "begin" ["self","bargain","stays"] (ib aa ac))(jV:aG P w K mg base ac 6 "carry" ["self","which","stays"] (dS aa ac))(tN:aG P w K mg base ac 5 "query" ["self","number","bargain"] (ix aa ac))(tU:aG P w K mg base ac 3 "stop" ["self","number"] (h8 aa ac))(uu:aG P w K mg base ac 5 "wake" ["self","number"] (hZ aa ac))(rX:aG P w K mg base ac 7 "sweep" ["self"] (ik aa ac))(hm:cX K ac "do" f):aG P w K mg base ac 8 "do" ["self","deed"] (d7 aa ac):=
 ⟨f,fd,F.ok zsc1q (by walk_at "q") (fun cdv A outer s H vs Q E hr h=>⟨_,CQ (ib aa ac) (dS aa ac) (ix aa ac) (h8 aa ac) (hZ aa ac) (ik aa ac) ac T uy jV tN tU uu rX hr,FL T.hx h⟩),hm,F.binds fun _ _ _ _ _ _ us hl=>match us,hl with | [_,_],_=>rfl⟩
theorem G_{aa:Addr}{ac:Addr}{f:Addr}{fd:FuncData}(F:Fun K "bargains_against" "bargains_against" kM f fd)(T:Txt K mg aa ac)(hm:mg "bargains_against"=some (.ref f)):aK P w K mg base 1 "bargains_against" ["against","number"] iz:=
 ⟨f,fd,F.ok Hj (by walk_at "q") (fun cdv A outer s H vs Q E hr h=>⟨_,Cv T hr,D5 h⟩),hm,F.kp,F.binds fun _ _ _ _ _ _ us hl=>match us,hl with | [_,_],_=>rfl⟩
theorem E_{aa:Addr}{ac:Addr}{f:Addr}{fd:FuncData}(F:Fun K "__init__" "House.__init__" lB f fd)(T:Txt K mg aa ac)(jU:aG P w K mg base aa 1 "forget" ["self"] (d0 aa))(hm:Mk K aa f):mY P w K mg base aa 2 ["self","number","count","against"] (hE aa):=
 ⟨f,fd,F.ok HF (by walk_at "q") (fun cdv A outer s H vs Q E hr h=>⟨_,DR (d0 aa) aa T jU hr,GK T.hs h⟩),hm,F.binds fun _ _ _ _ _ _ us hl=>match us,hl with | [_,_,_,_],_=>rfl⟩
theorem EH{aa:Addr}{ac:Addr}{f:Addr}{fd:FuncData}(F:Fun K "__init__" "Hall.__init__" mB f fd)(T:Txt K mg aa ac)(rH:aK P w K mg base 1 "bargains_against" ["against","number"] iz)(t8:mY P w K mg base aa 2 ["self","number","count","against"] (hE aa))(hm:Mk K ac f):mY P w K mg base ac 4 ["self","count","against"] (d8 aa ac):=
 ⟨f,fd,F.ok FR (by walk_at "q") (fun cdv A outer s H vs Q E hr h=>⟨_,B' iz (hE aa) aa T rH t8 hr,E7 T.hx h⟩),hm,F.binds fun _ _ _ _ _ _ us hl=>match us,hl with | [_,_,_],_=>rfl⟩
theorem Hk{aa:Addr}{ac:Addr}{f:Addr}{fd:FuncData}(F:Fun K "answers" "answers" kt f fd)(T:Txt K mg aa ac)(jR:aG P w K mg base ac 8 "do" ["self","deed"] (d7 aa ac))(jO:mY P w K mg base ac 4 ["self","count","against"] (d8 aa ac))(hm:mg "answers"=some (.ref f)):aK P w K mg base 9 "answers" ["count","against","deeds"] (iD aa ac):=
 ⟨f,fd,F.ok zsc1p (by walk_at "q") (fun cdv A outer s H vs Q E hr h=>⟨_,Dh (d8 aa ac) (d7 aa ac) ac T jR jO hr,FW h⟩),hm,F.kp,F.binds fun _ _ _ _ _ _ us hl=>match us,hl with | [_,_,_],_=>rfl⟩
theorem El{aa:Addr}{ac:Addr}{f:Addr}{fd:FuncData}(F:Fun K "hall_after" "hall_after" kh f fd)(T:Txt K mg aa ac)(jR:aG P w K mg base ac 8 "do" ["self","deed"] (d7 aa ac))(jO:mY P w K mg base ac 4 ["self","count","against"] (d8 aa ac))(hm:mg "hall_after"=some (.ref f)):aK P w K mg base 9 "hall_after" ["count","against","deeds"] (cO aa ac):=
 ⟨f,fd,F.ok zsc15 (by walk_at "q") (fun cdv A outer s H vs Q E hr h=>⟨_,Dp (d8 aa ac) (d7 aa ac) ac T jR jO hr,GG h⟩),hm,F.kp,F.binds fun _ _ _ _ _ _ us hl=>match us,hl with | [_,_,_],_=>rfl⟩
theorem GE{aa:Addr}{ac:Addr}{f:Addr}{fd:FuncData}(F:Fun K "books_after" "books_after" lh f fd)(T:Txt K mg aa ac)(fM:aK P w K mg base 9 "hall_after" ["count","against","deeds"] (cO aa ac))(hm:mg "books_after"=some (.ref f)):aK P w K mg base 10 "books_after" ["count","against","deeds"] (gR aa ac):=
 ⟨f,fd,F.ok E8 (by walk_at "q") (fun cdv A outer s H vs Q E hr h=>⟨_,C6 (cO aa ac) T fM hr,HM T.hx T.hs h⟩),hm,F.kp,F.binds fun _ _ _ _ _ _ us hl=>match us,hl with | [_,_,_],_=>rfl⟩
theorem Gx{aa:Addr}{ac:Addr}{f:Addr}{fd:FuncData}(F:Fun K "letters_after" "letters_after" lR f fd)(T:Txt K mg aa ac)(fM:aK P w K mg base 9 "hall_after" ["count","against","deeds"] (cO aa ac))(hm:mg "letters_after"=some (.ref f)):aK P w K mg base 10 "letters_after" ["count","against","deeds"] (ij aa ac):=
 ⟨f,fd,F.ok H_ (by walk_at "q") (fun cdv A outer s H vs Q E hr h=>⟨_,DH (cO aa ac) T fM hr,Fn T.hx h⟩),hm,F.kp,F.binds fun _ _ _ _ _ _ us hl=>match us,hl with | [_,_,_],_=>rfl⟩
theorem Go{aa:Addr}{ac:Addr}{f:Addr}{fd:FuncData}(F:Fun K "awake_after" "awake_after" lI f fd)(T:Txt K mg aa ac)(fM:aK P w K mg base 9 "hall_after" ["count","against","deeds"] (cO aa ac))(hm:mg "awake_after"=some (.ref f)):aK P w K mg base 10 "awake_after" ["count","against","deeds"] (h7 aa ac):=
 ⟨f,fd,F.ok Gw (by walk_at "q") (fun cdv A outer s H vs Q E hr h=>⟨_,CW (cO aa ac) T fM hr,Fh T.hx T.hs h⟩),hm,F.kp,F.binds fun _ _ _ _ _ _ us hl=>match us,hl with | [_,_,_],_=>rfl⟩
theorem EG{aa:Addr}{ac:Addr}{f:Addr}{fd:FuncData}(F:Fun K "_law_new_hall" "_law_new_hall" kJ f fd)(T:Txt K mg aa ac)(hm:mg "_law_new_hall"=some (.ref f)):aK P w K mg base 1 "_law_new_hall" ["_law_count","_law_against"] iq:=
 ⟨f,fd,F.ok zsc0m (by walk_at "q") (fun cdv A outer s H vs Q E hr h=>⟨_,C8 T hr,Im h⟩),hm,F.kp,F.binds fun _ _ _ _ _ _ us hl=>match us,hl with | [_,_],_=>rfl⟩
theorem EU{aa:Addr}{ac:Addr}{f:Addr}{fd:FuncData}(F:Fun K "_law_words_of" "_law_words_of" mt f fd)(T:Txt K mg aa ac)(hm:mg "_law_words_of"=some (.ref f)):aK P w K mg base 1 "_law_words_of" ["_law_book","_law_bargain"] bV:=
 ⟨f,fd,F.ok G7 (by walk_at "q") (fun cdv A outer s H vs Q E hr h=>⟨_,BY T hr,GI h⟩),hm,F.kp,F.binds fun _ _ _ _ _ _ us hl=>match us,hl with | [_,_],_=>rfl⟩
theorem Ed{aa:Addr}{ac:Addr}{f:Addr}{fd:FuncData}(F:Fun K "_law_to_all" "_law_to_all" mn f fd)(T:Txt K mg aa ac)(hm:mg "_law_to_all"=some (.ref f)):aK P w K mg base 1 "_law_to_all" ["_law_mine","_law_count","_law_bargain","_law_word"] bR:=
 ⟨f,fd,F.ok Ef (by walk_at "q") (fun cdv A outer s H vs Q E hr h=>⟨_,CS T hr,Iq h⟩),hm,F.kp,F.binds fun _ _ _ _ _ _ us hl=>match us,hl with | [_,_,_,_],_=>rfl⟩
theorem Gs{aa:Addr}{ac:Addr}{f:Addr}{fd:FuncData}(F:Fun K "_law_posted" "_law_posted" lA f fd)(T:Txt K mg aa ac)(hm:mg "_law_posted"=some (.ref f)):aK P w K mg base 1 "_law_posted" ["_law_hall","_law_who","_law_ahead","_law_sent","_law_stays"] cK:=
 ⟨f,fd,F.ok FX (by walk_at "q") (fun cdv A outer s H vs Q E hr h=>⟨_,C5 T hr,Ht h⟩),hm,F.kp,F.binds fun _ _ _ _ _ _ us hl=>match us,hl with | [_,_,_,_,_],_=>rfl⟩
theorem HX{aa:Addr}{ac:Addr}{f:Addr}{fd:FuncData}(F:Fun K "_law_begun" "_law_begun" my f fd)(T:Txt K mg aa ac)(dF:aK P w K mg base 1 "_law_words_of" ["_law_book","_law_bargain"] bV)(dE:aK P w K mg base 1 "_law_to_all" ["_law_mine","_law_count","_law_bargain","_law_word"] bR)(fR:aK P w K mg base 1 "_law_posted" ["_law_hall","_law_who","_law_ahead","_law_sent","_law_stays"] cK)(hm:mg "_law_begun"=some (.ref f)):aK P w K mg base 2 "_law_begun" ["_law_hall","_law_bargain","_law_stays"] iE:=
 ⟨f,fd,F.ok zsc1d (by walk_at "q") (fun cdv A outer s H vs Q E hr h=>⟨_,DC bV bR cK T dF dE fR hr,Et h⟩),hm,F.kp,F.binds fun _ _ _ _ _ _ us hl=>match us,hl with | [_,_,_],_=>rfl⟩
theorem FF{aa:Addr}{ac:Addr}{f:Addr}{fd:FuncData}(F:Fun K "_law_asked" "_law_asked" lN f fd)(T:Txt K mg aa ac)(dF:aK P w K mg base 1 "_law_words_of" ["_law_book","_law_bargain"] bV)(hm:mg "_law_asked"=some (.ref f)):aK P w K mg base 2 "_law_asked" ["_law_book","_law_against","_law_letter"] hR:=
 ⟨f,fd,F.ok zsc1l (by walk_at "q") (fun cdv A outer s H vs Q E hr h=>⟨_,DU bV T dF hr,Es h⟩),hm,F.kp,F.binds fun _ _ _ _ _ _ us hl=>match us,hl with | [_,_,_],_=>rfl⟩
theorem FZ{aa:Addr}{ac:Addr}{f:Addr}{fd:FuncData}(F:Fun K "_law_counted" "_law_counted" lS f fd)(T:Txt K mg aa ac)(dE:aK P w K mg base 1 "_law_to_all" ["_law_mine","_law_count","_law_bargain","_law_word"] bR)(hm:mg "_law_counted"=some (.ref f)):aK P w K mg base 2 "_law_counted" ["_law_book","_law_votes","_law_letter","_law_count"] im:=
 ⟨f,fd,F.ok zsc0p (by walk_at "q") (fun cdv A outer s H vs Q E hr h=>⟨_,DT bR T dE hr,EE h⟩),hm,F.kp,F.binds fun _ _ _ _ _ _ us hl=>match us,hl with | [_,_,_,_],_=>rfl⟩
theorem FO{aa:Addr}{ac:Addr}{f:Addr}{fd:FuncData}(F:Fun K "_law_got" "_law_got" kZ f fd)(T:Txt K mg aa ac)(dF:aK P w K mg base 1 "_law_words_of" ["_law_book","_law_bargain"] bV)(tR:aK P w K mg base 2 "_law_asked" ["_law_book","_law_against","_law_letter"] hR)(sU:aK P w K mg base 2 "_law_counted" ["_law_book","_law_votes","_law_letter","_law_count"] im)(dE:aK P w K mg base 1 "_law_to_all" ["_law_mine","_law_count","_law_bargain","_law_word"] bR)(hm:mg "_law_got"=some (.ref f)):aK P w K mg base 3 "_law_got" ["_law_book","_law_votes","_law_against","_law_letter","_law_count"] gY:=
 ⟨f,fd,F.ok zsc1o (by walk_at "q") (fun cdv A outer s H vs Q E hr h=>⟨_,Cj bV hR im bR T dF tR sU dE hr,Fx h⟩),hm,F.kp,F.binds fun _ _ _ _ _ _ us hl=>match us,hl with | [_,_,_,_,_],_=>rfl⟩
theorem EN{aa:Addr}{ac:Addr}{f:Addr}{fd:FuncData}(F:Fun K "_law_carried" "_law_carried" ma f fd)(T:Txt K mg aa ac)(uD:aK P w K mg base 3 "_law_got" ["_law_book","_law_votes","_law_against","_law_letter","_law_count"] gY)(fR:aK P w K mg base 1 "_law_posted" ["_law_hall","_law_who","_law_ahead","_law_sent","_law_stays"] cK)(hm:mg "_law_carried"=some (.ref f)):aK P w K mg base 4 "_law_carried" ["_law_hall","_law_which","_law_stays"] d6:=
 ⟨f,fd,F.ok zsc0u (by walk_at "q") (fun cdv A outer s H vs Q E hr h=>⟨_,DK gY cK T uD fR hr,Gb h⟩),hm,F.kp,F.binds fun _ _ _ _ _ _ us hl=>match us,hl with | [_,_,_],_=>rfl⟩
theorem ED{aa:Addr}{ac:Addr}{f:Addr}{fd:FuncData}(F:Fun K "_law_woken" "_law_woken" me f fd)(T:Txt K mg aa ac)(dF:aK P w K mg base 1 "_law_words_of" ["_law_book","_law_bargain"] bV)(dE:aK P w K mg base 1 "_law_to_all" ["_law_mine","_law_count","_law_bargain","_law_word"] bR)(fR:aK P w K mg base 1 "_law_posted" ["_law_hall","_law_who","_law_ahead","_law_sent","_law_stays"] cK)(hm:mg "_law_woken"=some (.ref f)):aK P w K mg base 2 "_law_woken" ["_law_hall","_law_who"] iC:=
 ⟨f,fd,F.ok zsc1i (by walk_at "q") (fun cdv A outer s H vs Q E hr h=>⟨_,Dj bV bR cK T dF dE fR hr,GQ h⟩),hm,F.kp,F.binds fun _ _ _ _ _ _ us hl=>match us,hl with | [_,_],_=>rfl⟩
theorem FG{aa:Addr}{ac:Addr}{f:Addr}{fd:FuncData}(F:Fun K "_law_sweep_done" "_law_sweep_done" lb f fd)(T:Txt K mg aa ac)(jK:aK P w K mg base 4 "_law_carried" ["_law_hall","_law_which","_law_stays"] d6)(hm:mg "_law_sweep_done"=some (.ref f)):aK P w K mg base 5 "_law_sweep_done" ["_law_hall"] ia:=
 ⟨f,fd,F.ok zsc0c (by walk_at "q") (fun cdv A outer s H vs Q E hr h=>⟨_,C7 d6 T jK hr,Gn h⟩),hm,F.kp,F.binds fun _ _ _ _ _ _ us hl=>match us,hl with | [_],_=>rfl⟩
theorem Iw{aa:Addr}{ac:Addr}{f:Addr}{fd:FuncData}(F:Fun K "_law_due_answer" "_law_due_answer" mf f fd)(T:Txt K mg aa ac)(sv:aK P w K mg base 2 "_law_begun" ["_law_hall","_law_bargain","_law_stays"] iE)(jK:aK P w K mg base 4 "_law_carried" ["_law_hall","_law_which","_law_stays"] d6)(uo:aK P w K mg base 2 "_law_woken" ["_law_hall","_law_who"] iC)(sK:aK P w K mg base 5 "_law_sweep_done" ["_law_hall"] ia)(dF:aK P w K mg base 1 "_law_words_of" ["_law_book","_law_bargain"] bV)(dE:aK P w K mg base 1 "_law_to_all" ["_law_mine","_law_count","_law_bargain","_law_word"] bR)(hm:mg "_law_due_answer"=some (.ref f)):aK P w K mg base 6 "_law_due_answer" ["_law_hall","_law_deed"] hX:=
 ⟨f,fd,F.ok zsc09 (by walk_at "q") (fun cdv A outer s H vs Q E hr h=>⟨_,Cm iE d6 iC ia bV bR T sv jK uo sK dF dE hr,EK h⟩),hm,F.kp,F.binds fun _ _ _ _ _ _ us hl=>match us,hl with | [_,_],_=>rfl⟩
theorem Hv{aa:Addr}{ac:Addr}{f:Addr}{fd:FuncData}(F:Fun K "_law_whole" "_law_whole" lZ f fd)(T:Txt K mg aa ac)(hm:mg "_law_whole"=some (.ref f)):aK P w K mg base 1 "_law_whole" ["_law_found"] cN:=
 ⟨f,fd,F.ok Ii (by walk_at "q") (fun cdv A outer s H vs Q E hr h=>⟨_,Cr T hr,Fg h⟩),hm,F.kp,F.binds fun _ _ _ _ _ _ us hl=>match us,hl with | [_],_=>rfl⟩
theorem Gm{aa:Addr}{ac:Addr}{f:Addr}{fd:FuncData}(F:Fun K "_law_is_line" "_law_is_line" lc f fd)(T:Txt K mg aa ac)(fT:aK P w K mg base 1 "_law_whole" ["_law_found"] cN)(hm:mg "_law_is_line"=some (.ref f)):aK P w K mg base 2 "_law_is_line" ["_law_found"] d3:=
 ⟨f,fd,F.ok Ik (by walk_at "q") (fun cdv A outer s H vs Q E hr h=>⟨_,BX cN T fT hr,E9 h⟩),hm,F.kp,F.binds fun _ _ _ _ _ _ us hl=>match us,hl with | [_],_=>rfl⟩
theorem Hl{aa:Addr}{ac:Addr}{f:Addr}{fd:FuncData}(F:Fun K "_law_alike" "_law_alike" lW f fd)(T:Txt K mg aa ac)(fT:aK P w K mg base 1 "_law_whole" ["_law_found"] cN)(jN:aK P w K mg base 2 "_law_is_line" ["_law_found"] d3)(hm:mg "_law_alike"=some (.ref f)):aK P w K mg base 3 "_law_alike" ["_law_found","_law_due"] iK:=
 ⟨f,fd,F.ok zsc1h (by walk_at "q") (fun cdv A outer s H vs Q E hr h=>⟨_,CB cN d3 T fT jN hr,Ix h⟩),hm,F.kp,F.binds fun _ _ _ _ _ _ us hl=>match us,hl with | [_,_],_=>rfl⟩
theorem Fb{aa:Addr}{ac:Addr}{f:Addr}{fd:FuncData}(F:Fun K "_law_are_lines" "_law_are_lines" kr f fd)(T:Txt K mg aa ac)(jN:aK P w K mg base 2 "_law_is_line" ["_law_found"] d3)(hm:mg "_law_are_lines"=some (.ref f)):aK P w K mg base 3 "_law_are_lines" ["_law_found"] iw:=
 ⟨f,fd,F.ok zsc0e (by walk_at "q") (fun cdv A outer s H vs Q E hr h=>⟨_,B1 d3 T jN hr,HE h⟩),hm,F.kp,F.binds fun _ _ _ _ _ _ us hl=>match us,hl with | [_],_=>rfl⟩
theorem EB{aa:Addr}{ac:Addr}{f:Addr}{fd:FuncData}(F:Fun K "_law_are_books" "_law_are_books" kB f fd)(T:Txt K mg aa ac)(tj:aK P w K mg base 3 "_law_are_lines" ["_law_found"] iw)(hm:mg "_law_are_books"=some (.ref f)):aK P w K mg base 4 "_law_are_books" ["_law_found","_law_count"] h_:=
 ⟨f,fd,F.ok zsc0h (by walk_at "q") (fun cdv A outer s H vs Q E hr h=>⟨_,D3 iw T tj hr,Eg h⟩),hm,F.kp,F.binds fun _ _ _ _ _ _ us hl=>match us,hl with | [_,_],_=>rfl⟩
theorem GN{aa:Addr}{ac:Addr}{f:Addr}{fd:FuncData}(F:Fun K "_law_is_letter" "_law_is_letter" mi f fd)(T:Txt K mg aa ac)(fT:aK P w K mg base 1 "_law_whole" ["_law_found"] cN)(hm:mg "_law_is_letter"=some (.ref f)):aK P w K mg base 2 "_law_is_letter" ["_law_found","_law_count"] gW:=
 ⟨f,fd,F.ok zsc0g (by walk_at "q") (fun cdv A outer s H vs Q E hr h=>⟨_,CZ cN T fT hr,FJ h⟩),hm,F.kp,F.binds fun _ _ _ _ _ _ us hl=>match us,hl with | [_,_],_=>rfl⟩
theorem EZ{aa:Addr}{ac:Addr}{f:Addr}{fd:FuncData}(F:Fun K "_law_are_letters" "_law_are_letters" kI f fd)(T:Txt K mg aa ac)(sT:aK P w K mg base 2 "_law_is_letter" ["_law_found","_law_count"] gW)(hm:mg "_law_are_letters"=some (.ref f)):aK P w K mg base 3 "_law_are_letters" ["_law_found","_law_count"] iu:=
 ⟨f,fd,F.ok zsc06 (by walk_at "q") (fun cdv A outer s H vs Q E hr h=>⟨_,DD gW T sT hr,G2 h⟩),hm,F.kp,F.binds fun _ _ _ _ _ _ us hl=>match us,hl with | [_,_],_=>rfl⟩
theorem Fm{aa:Addr}{ac:Addr}{f:Addr}{fd:FuncData}(F:Fun K "law" "law" iU f fd)(T:Txt K mg aa ac)(sg:aK P w K mg base 1 "_law_at" ["_law_script","_law_k"] (f' K))(tV:aK P w K mg base 2 "_law_pairs_against" ["_law_cell","_law_count"] iG)(t9:aK P w K mg base 1 "_law_room" ["_law_script","_law_most","_law_bound"] (gT K))(tw:aK P w K mg base 4 "_law_drawn" ["_law_cells","_law_count"] (gZ (fun _=>True)))(tX:aK P w K mg base 9 "answers" ["count","against","deeds"] (iD aa ac))(sq:aK P w K mg base 10 "books_after" ["count","against","deeds"] (gR aa ac))(uc:aK P w K mg base 10 "letters_after" ["count","against","deeds"] (ij aa ac))(rA:aK P w K mg base 10 "awake_after" ["count","against","deeds"] (h7 aa ac))(tp:aK P w K mg base 1 "_law_new_hall" ["_law_count","_law_against"] iq)(tq:aK P w K mg base 6 "_law_due_answer" ["_law_hall","_law_deed"] hX)(rT:aK P w K mg base 3 "_law_alike" ["_law_found","_law_due"] iK)(rQ:aK P w K mg base 4 "_law_are_books" ["_law_found","_law_count"] h_)(sI:aK P w K mg base 3 "_law_are_letters" ["_law_found","_law_count"] iu):fg P w K mg base bD 11 f fd ["_law_script"] (pD K):=
 F.ok zsc1u (by walk_at "q") (fun cdv A outer s H vs Q E hr h=>⟨_,Cp (f' K) iG (gT K) (gZ (fun _=>True)) (iD aa ac) (gR aa ac) (ij aa ac) (h7 aa ac) iq hX iK h_ iu T sg tV t9 tw tX sq uc rA tp tq rT rQ sI hr,ES h⟩)
end
theorem all_mk{l:W.OpenLaw}{w:World}{K:W.Frag}{h:Heap}{mg:Str→Option Value}{fa:Addr}{aa:Addr}{ac:Addr}{f0 f1 f2 f3 f4 f5 f6 f7 f8 f9 f10 f11 f12 f13 f14 f15 f16 f17 f18 f19 f20 f21 f22 f23 f24 f25 f26 f27 f28 f29 f30 f31 f32 f33 f34 f35 f36 f37 f38 f39 f40 f41 f42 f43 f44 f45 f46 f47 f48 f49 f50 f51 f52 f53 f54 f55 f56 f57 f58 f59 f60 f61 f62 f63 f64 f65 f66 f67:Addr}{od0 an0 od1 an1 od2 an2 od3 an3 od4 an4 od5 an5 od6 an6 od7 an7 od8 an8 od9 an9 od10 an10 od11 an11 od12 an12 od13 an13 od14 an14 od15 an15 od16 an16 od17 an17 od18 an18 od19 an19 od20 an20 od21 an21 od22 an22 od23 an23 od24 an24 od25 an25 od26 an26 od27 an27 od28 an28 od29 an29 od30 an30 od31 an31 od32 an32 od33 an33 od34 an34 od35 an35 od36 an36 od37 an37 od38 an38 od39 an39 od40 an40 od41 an41 od42 an42 od43 an43 od44 an44 od45 an45 od46 an46 od47 an47 od48 an48 od49 an49 od50 an50 od51 an51 od52 an52 od53 an53 od54 an54 od55 an55 od56 an56 od57 an57 od58 an58 od59 an59 od60 an60 od61 an61 od62 an62 od63 an63 od64 an64 od65 an65 od66 an66 od67 an67:Option Addr}{sl0 sl1 sl2 sl3 sl4 sl5 sl6 sl7 sl8 sl9 sl10 sl11 sl12 sl13 sl14 sl15 sl16 sl17 sl18 sl19 sl20 sl21 sl22 sl23 sl24 sl25 sl26 sl27 sl28 sl29 sl30 sl31 sl32 sl33 sl34 sl35 sl36 sl37 sl38 sl39 sl40 sl41 sl42 sl43 sl44 sl45 sl46 sl47 sl48 sl49 sl50 sl51 sl52 sl53 sl54 sl55 sl56 sl57 sl58 sl59 sl60 sl61 sl62 sl63 sl64 sl65 sl66 sl67:Array (Option Value)}{oc0 kV0 dc0 pm0 cd0 ct0 oc1 kV1 dc1 pm1 cd1 ct1 oc2 kV2 dc2 pm2 cd2 ct2 oc3 kV3 dc3 pm3 cd3 ct3 oc4 kV4 dc4 pm4 cd4 ct4 oc5 kV5 dc5 pm5 cd5 ct5 oc6 kV6 dc6 pm6 cd6 ct6 oc7 kV7 dc7 pm7 cd7 ct7 oc8 kV8 dc8 pm8 cd8 ct8 oc9 kV9 dc9 pm9 cd9 ct9 oc10 kV10 dc10 pm10 cd10 ct10 oc11 kV11 dc11 pm11 cd11 ct11 oc12 kV12 dc12 pm12 cd12 ct12 oc13 kV13 dc13 pm13 cd13 ct13 oc14 kV14 dc14 pm14 cd14 ct14 oc15 kV15 dc15 pm15 cd15 ct15 oc16 kV16 dc16 pm16 cd16 ct16 oc17 kV17 dc17 pm17 cd17 ct17 oc18 kV18 dc18 pm18 cd18 ct18 oc19 kV19 dc19 pm19 cd19 ct19 oc20 kV20 dc20 pm20 cd20 ct20 oc21 kV21 dc21 pm21 cd21 ct21 oc22 kV22 dc22 pm22 cd22 ct22 oc23 kV23 dc23 pm23 cd23 ct23 oc24 kV24 dc24 pm24 cd24 ct24 oc25 kV25 dc25 pm25 cd25 ct25 oc26 kV26 dc26 pm26 cd26 ct26 oc27 kV27 dc27 pm27 cd27 ct27 oc28 kV28 dc28 pm28 cd28 ct28 oc29 kV29 dc29 pm29 cd29 ct29 oc30 kV30 dc30 pm30 cd30 ct30 oc31 kV31 dc31 pm31 cd31 ct31 oc32 kV32 dc32 pm32 cd32 ct32 oc33 kV33 dc33 pm33 cd33 ct33 oc34 kV34 dc34 pm34 cd34 ct34 oc35 kV35 dc35 pm35 cd35 ct35 oc36 kV36 dc36 pm36 cd36 ct36 oc37 kV37 dc37 pm37 cd37 ct37 oc38 kV38 dc38 pm38 cd38 ct38 oc39 kV39 dc39 pm39 cd39 ct39 oc40 kV40 dc40 pm40 cd40 ct40 oc41 kV41 dc41 pm41 cd41 ct41 oc42 kV42 dc42 pm42 cd42 ct42 oc43 kV43 dc43 pm43 cd43 ct43 oc44 kV44 dc44 pm44 cd44 ct44 oc45 kV45 dc45 pm45 cd45 ct45 oc46 kV46 dc46 pm46 cd46 ct46 oc47 kV47 dc47 pm47 cd47 ct47 oc48 kV48 dc48 pm48 cd48 ct48 oc49 kV49 dc49 pm49 cd49 ct49 oc50 kV50 dc50 pm50 cd50 ct50 oc51 kV51 dc51 pm51 cd51 ct51 oc52 kV52 dc52 pm52 cd52 ct52 oc53 kV53 dc53 pm53 cd53 ct53 oc54 kV54 dc54 pm54 cd54 ct54 oc55 kV55 dc55 pm55 cd55 ct55 oc56 kV56 dc56 pm56 cd56 ct56 oc57 kV57 dc57 pm57 cd57 ct57 oc58 kV58 dc58 pm58 cd58 ct58 oc59 kV59 dc59 pm59 cd59 ct59 oc60 kV60 dc60 pm60 cd60 ct60 oc61 kV61 dc61 pm61 cd61 ct61 oc62 kV62 dc62 pm62 cd62 ct62 oc63 kV63 dc63 pm63 cd63 ct63 oc64 kV64 dc64 pm64 cd64 ct64 oc65 kV65 dc65 pm65 cd65 ct65 oc66 kV66 dc66 pm66 cd66 ct66 oc67 kV67 dc67 pm67 cd67 ct67:Value}(X:K.In h)(G:h.Ns mainGlobals mg)(hfa:mg "law"=some (.ref fa))
  (aC_House:W.nsIn K mainGlobals "House"=some (some (.ref aa)))
  (aC_Hall:W.nsIn K mainGlobals "Hall"=some (some (.ref ac)))
  (a0:W.nsIn K mainGlobals "_law_at"=some (some (.ref f0)))
  (l0:K.lookup f0=some ⟨oc0,od0,.func (W.fnOf "_law_at" "_law_at" (aH lr) (ao lr) (ai lr) .none kV0 dc0 pm0 an0 cd0 ct0),sl0⟩)(c0:W.codeIn K cd0 "_law_at"=true)(k0:W.keepIn K (.ref f0)=true)
  (a1:W.nsIn K mainGlobals "_law_all_bargains"=some (some (.ref f1)))
  (l1:K.lookup f1=some ⟨oc1,od1,.func (W.fnOf "_law_all_bargains" "_law_all_bargains" (aH kg) (ao kg) (ai kg) .none kV1 dc1 pm1 an1 cd1 ct1),sl1⟩)(c1:W.codeIn K cd1 "_law_all_bargains"=true)(k1:W.keepIn K (.ref f1)=true)
  (a2:W.nsIn K mainGlobals "_law_pairs_against"=some (some (.ref f2)))
  (l2:K.lookup f2=some ⟨oc2,od2,.func (W.fnOf "_law_pairs_against" "_law_pairs_against" (aH kE) (ao kE) (ai kE) .none kV2 dc2 pm2 an2 cd2 ct2),sl2⟩)(c2:W.codeIn K cd2 "_law_pairs_against"=true)(k2:W.keepIn K (.ref f2)=true)
  (a3:W.nsIn K mainGlobals "_law_room"=some (some (.ref f3)))
  (l3:K.lookup f3=some ⟨oc3,od3,.func (W.fnOf "_law_room" "_law_room" (aH lK) (ao lK) (ai lK) .none kV3 dc3 pm3 an3 cd3 ct3),sl3⟩)(c3:W.codeIn K cd3 "_law_room"=true)(k3:W.keepIn K (.ref f3)=true)
  (a4:W.nsIn K mainGlobals "_law_bargain_of"=some (some (.ref f4)))
  (l4:K.lookup f4=some ⟨oc4,od4,.func (W.fnOf "_law_bargain_of" "_law_bargain_of" (aH cw) (ao cw) (ai cw) .none kV4 dc4 pm4 an4 cd4 ct4),sl4⟩)(c4:W.codeIn K cd4 "_law_bargain_of"=true)(k4:W.keepIn K (.ref f4)=true)
  (a5:W.nsIn K mainGlobals "_law_deed_of"=some (some (.ref f5)))
  (l5:K.lookup f5=some ⟨oc5,od5,.func (W.fnOf "_law_deed_of" "_law_deed_of" (aH lJ) (ao lJ) (ai lJ) .none kV5 dc5 pm5 an5 cd5 ct5),sl5⟩)(c5:W.codeIn K cd5 "_law_deed_of"=true)(k5:W.keepIn K (.ref f5)=true)
  (a6:W.nsIn K mainGlobals "_law_drawn"=some (some (.ref f6)))
  (l6:K.lookup f6=some ⟨oc6,od6,.func (W.fnOf "_law_drawn" "_law_drawn" (aH ml) (ao ml) (ai ml) .none kV6 dc6 pm6 an6 cd6 ct6),sl6⟩)(c6:W.codeIn K cd6 "_law_drawn"=true)(k6:W.keepIn K (.ref f6)=true)
  (a7:W.nsIn K mainGlobals "words_of"=some (some (.ref f7)))
  (l7:K.lookup f7=some ⟨oc7,od7,.func (W.fnOf "words_of" "words_of" (aH l_) (ao l_) (ai l_) .none kV7 dc7 pm7 an7 cd7 ct7),sl7⟩)(c7:W.codeIn K cd7 "words_of"=true)(k7:W.keepIn K (.ref f7)=true)
  (a8:W.nsIn K mainGlobals "knows"=some (some (.ref f8)))
  (l8:K.lookup f8=some ⟨oc8,od8,.func (W.fnOf "knows" "knows" (aH kT) (ao kT) (ai kT) .none kV8 dc8 pm8 an8 cd8 ct8),sl8⟩)(c8:W.codeIn K cd8 "knows"=true)(k8:W.keepIn K (.ref f8)=true)
  (a9:W.findIn K (.ref aa) "write"=some (some (.ref f9)))(i9:W.isFn K (.ref f9)=true)
  (l9:K.lookup f9=some ⟨oc9,od9,.func (W.fnOf "write" "House.write" (aH lH) (ao lH) (ai lH) .none kV9 dc9 pm9 an9 cd9 ct9),sl9⟩)(c9:W.codeIn K cd9 "House.write"=true)(k9:W.keepIn K (.ref f9)=true)
  (a10:W.findIn K (.ref aa) "to_others"=some (some (.ref f10)))(i10:W.isFn K (.ref f10)=true)
  (l10:K.lookup f10=some ⟨oc10,od10,.func (W.fnOf "to_others" "House.to_others" (aH lC) (ao lC) (ai lC) .none kV10 dc10 pm10 an10 cd10 ct10),sl10⟩)(c10:W.codeIn K cd10 "House.to_others"=true)(k10:W.keepIn K (.ref f10)=true)
  (a11:W.findIn K (.ref aa) "begin"=some (some (.ref f11)))(i11:W.isFn K (.ref f11)=true)
  (l11:K.lookup f11=some ⟨oc11,od11,.func (W.fnOf "begin" "House.begin" (aH lf) (ao lf) (ai lf) .none kV11 dc11 pm11 an11 cd11 ct11),sl11⟩)(c11:W.codeIn K cd11 "House.begin"=true)(k11:W.keepIn K (.ref f11)=true)
  (a12:W.findIn K (.ref ac) "send"=some (some (.ref f12)))(i12:W.isFn K (.ref f12)=true)
  (l12:K.lookup f12=some ⟨oc12,od12,.func (W.fnOf "send" "Hall.send" (aH lY) (ao lY) (ai lY) .none kV12 dc12 pm12 an12 cd12 ct12),sl12⟩)(c12:W.codeIn K cd12 "Hall.send"=true)(k12:W.keepIn K (.ref f12)=true)
  (a13:W.findIn K (.ref aa) "forget"=some (some (.ref f13)))(i13:W.isFn K (.ref f13)=true)
  (l13:K.lookup f13=some ⟨oc13,od13,.func (W.fnOf "forget" "House.forget" (aH md) (ao md) (ai md) .none kV13 dc13 pm13 an13 cd13 ct13),sl13⟩)(c13:W.codeIn K cd13 "House.forget"=true)(k13:W.keepIn K (.ref f13)=true)
  (a14:W.findIn K (.ref aa) "stop"=some (some (.ref f14)))(i14:W.isFn K (.ref f14)=true)
  (l14:K.lookup f14=some ⟨oc14,od14,.func (W.fnOf "stop" "House.stop" (aH lV) (ao lV) (ai lV) .none kV14 dc14 pm14 an14 cd14 ct14),sl14⟩)(c14:W.codeIn K cd14 "House.stop"=true)(k14:W.keepIn K (.ref f14)=true)
  (a15:W.findIn K (.ref ac) "send_or_stop"=some (some (.ref f15)))(i15:W.isFn K (.ref f15)=true)
  (l15:K.lookup f15=some ⟨oc15,od15,.func (W.fnOf "send_or_stop" "Hall.send_or_stop" (aH ki) (ao ki) (ai ki) .none kV15 dc15 pm15 an15 cd15 ct15),sl15⟩)(c15:W.codeIn K cd15 "Hall.send_or_stop"=true)(k15:W.keepIn K (.ref f15)=true)
  (a16:W.findIn K (.ref ac) "begin"=some (some (.ref f16)))(i16:W.isFn K (.ref f16)=true)
  (l16:K.lookup f16=some ⟨oc16,od16,.func (W.fnOf "begin" "Hall.begin" (aH kj) (ao kj) (ai kj) .none kV16 dc16 pm16 an16 cd16 ct16),sl16⟩)(c16:W.codeIn K cd16 "Hall.begin"=true)(k16:W.keepIn K (.ref f16)=true)
  (a17:W.findIn K (.ref aa) "page"=some (some (.ref f17)))(i17:W.isFn K (.ref f17)=true)
  (l17:K.lookup f17=some ⟨oc17,od17,.func (W.fnOf "page" "House.page" (aH lL) (ao lL) (ai lL) .none kV17 dc17 pm17 an17 cd17 ct17),sl17⟩)(c17:W.codeIn K cd17 "House.page"=true)(k17:W.keepIn K (.ref f17)=true)
  (a18:W.nsIn K mainGlobals "decision_in"=some (some (.ref f18)))
  (l18:K.lookup f18=some ⟨oc18,od18,.func (W.fnOf "decision_in" "decision_in" (aH kU) (ao kU) (ai kU) .none kV18 dc18 pm18 an18 cd18 ct18),sl18⟩)(c18:W.codeIn K cd18 "decision_in"=true)(k18:W.keepIn K (.ref f18)=true)
  (a19:W.findIn K (.ref aa) "decision"=some (some (.ref f19)))(i19:W.isFn K (.ref f19)=true)
  (l19:K.lookup f19=some ⟨oc19,od19,.func (W.fnOf "decision" "House.decision" (aH lX) (ao lX) (ai lX) .none kV19 dc19 pm19 an19 cd19 ct19),sl19⟩)(c19:W.codeIn K cd19 "House.decision"=true)(k19:W.keepIn K (.ref f19)=true)
  (a20:W.findIn K (.ref aa) "to_one"=some (some (.ref f20)))(i20:W.isFn K (.ref f20)=true)
  (l20:K.lookup f20=some ⟨oc20,od20,.func (W.fnOf "to_one" "House.to_one" (aH lO) (ao lO) (ai lO) .none kV20 dc20 pm20 an20 cd20 ct20),sl20⟩)(c20:W.codeIn K cd20 "House.to_one"=true)(k20:W.keepIn K (.ref f20)=true)
  (a21:W.findIn K (.ref aa) "got_ask"=some (some (.ref f21)))(i21:W.isFn K (.ref f21)=true)
  (l21:K.lookup f21=some ⟨oc21,od21,.func (W.fnOf "got_ask" "House.got_ask" (aH kH) (ao kH) (ai kH) .none kV21 dc21 pm21 an21 cd21 ct21),sl21⟩)(c21:W.codeIn K cd21 "House.got_ask"=true)(k21:W.keepIn K (.ref f21)=true)
  (a22:W.nsIn K mainGlobals "vote_in"=some (some (.ref f22)))
  (l22:K.lookup f22=some ⟨oc22,od22,.func (W.fnOf "vote_in" "vote_in" (aH kP) (ao kP) (ai kP) .none kV22 dc22 pm22 an22 cd22 ct22),sl22⟩)(c22:W.codeIn K cd22 "vote_in"=true)(k22:W.keepIn K (.ref f22)=true)
  (a23:W.nsIn K mainGlobals "is_unsure"=some (some (.ref f23)))
  (l23:K.lookup f23=some ⟨oc23,od23,.func (W.fnOf "is_unsure" "is_unsure" (aH mw) (ao mw) (ai mw) .none kV23 dc23 pm23 an23 cd23 ct23),sl23⟩)(c23:W.codeIn K cd23 "is_unsure"=true)(k23:W.keepIn K (.ref f23)=true)
  (a24:W.findIn K (.ref aa) "decide"=some (some (.ref f24)))(i24:W.isFn K (.ref f24)=true)
  (l24:K.lookup f24=some ⟨oc24,od24,.func (W.fnOf "decide" "House.decide" (aH lG) (ao lG) (ai lG) .none kV24 dc24 pm24 an24 cd24 ct24),sl24⟩)(c24:W.codeIn K cd24 "House.decide"=true)(k24:W.keepIn K (.ref f24)=true)
  (a25:W.findIn K (.ref aa) "got_query"=some (some (.ref f25)))(i25:W.isFn K (.ref f25)=true)
  (l25:K.lookup f25=some ⟨oc25,od25,.func (W.fnOf "got_query" "House.got_query" (aH kN) (ao kN) (ai kN) .none kV25 dc25 pm25 an25 cd25 ct25),sl25⟩)(c25:W.codeIn K cd25 "House.got_query"=true)(k25:W.keepIn K (.ref f25)=true)
  (a26:W.findIn K (.ref aa) "got_vote"=some (some (.ref f26)))(i26:W.isFn K (.ref f26)=true)
  (l26:K.lookup f26=some ⟨oc26,od26,.func (W.fnOf "got_vote" "House.got_vote" (aH lg) (ao lg) (ai lg) .none kV26 dc26 pm26 an26 cd26 ct26),sl26⟩)(c26:W.codeIn K cd26 "House.got_vote"=true)(k26:W.keepIn K (.ref f26)=true)
  (a27:W.findIn K (.ref aa) "got_decision"=some (some (.ref f27)))(i27:W.isFn K (.ref f27)=true)
  (l27:K.lookup f27=some ⟨oc27,od27,.func (W.fnOf "got_decision" "House.got_decision" (aH lD) (ao lD) (ai lD) .none kV27 dc27 pm27 an27 cd27 ct27),sl27⟩)(c27:W.codeIn K cd27 "House.got_decision"=true)(k27:W.keepIn K (.ref f27)=true)
  (a28:W.findIn K (.ref aa) "got"=some (some (.ref f28)))(i28:W.isFn K (.ref f28)=true)
  (l28:K.lookup f28=some ⟨oc28,od28,.func (W.fnOf "got" "House.got" (aH mr) (ao mr) (ai mr) .none kV28 dc28 pm28 an28 cd28 ct28),sl28⟩)(c28:W.codeIn K cd28 "House.got"=true)(k28:W.keepIn K (.ref f28)=true)
  (a29:W.findIn K (.ref ac) "carry"=some (some (.ref f29)))(i29:W.isFn K (.ref f29)=true)
  (l29:K.lookup f29=some ⟨oc29,od29,.func (W.fnOf "carry" "Hall.carry" (aH lv) (ao lv) (ai lv) .none kV29 dc29 pm29 an29 cd29 ct29),sl29⟩)(c29:W.codeIn K cd29 "Hall.carry"=true)(k29:W.keepIn K (.ref f29)=true)
  (a30:W.findIn K (.ref aa) "query"=some (some (.ref f30)))(i30:W.isFn K (.ref f30)=true)
  (l30:K.lookup f30=some ⟨oc30,od30,.func (W.fnOf "query" "House.query" (aH lu) (ao lu) (ai lu) .none kV30 dc30 pm30 an30 cd30 ct30),sl30⟩)(c30:W.codeIn K cd30 "House.query"=true)(k30:W.keepIn K (.ref f30)=true)
  (a31:W.findIn K (.ref ac) "query"=some (some (.ref f31)))(i31:W.isFn K (.ref f31)=true)
  (l31:K.lookup f31=some ⟨oc31,od31,.func (W.fnOf "query" "Hall.query" (aH kx) (ao kx) (ai kx) .none kV31 dc31 pm31 an31 cd31 ct31),sl31⟩)(c31:W.codeIn K cd31 "Hall.query"=true)(k31:W.keepIn K (.ref f31)=true)
  (a32:W.findIn K (.ref ac) "stop"=some (some (.ref f32)))(i32:W.isFn K (.ref f32)=true)
  (l32:K.lookup f32=some ⟨oc32,od32,.func (W.fnOf "stop" "Hall.stop" (aH lU) (ao lU) (ai lU) .none kV32 dc32 pm32 an32 cd32 ct32),sl32⟩)(c32:W.codeIn K cd32 "Hall.stop"=true)(k32:W.keepIn K (.ref f32)=true)
  (a33:W.nsIn K mainGlobals "left_open"=some (some (.ref f33)))
  (l33:K.lookup f33=some ⟨oc33,od33,.func (W.fnOf "left_open" "left_open" (aH mj) (ao mj) (ai mj) .none kV33 dc33 pm33 an33 cd33 ct33),sl33⟩)(c33:W.codeIn K cd33 "left_open"=true)(k33:W.keepIn K (.ref f33)=true)
  (a34:W.findIn K (.ref aa) "wake"=some (some (.ref f34)))(i34:W.isFn K (.ref f34)=true)
  (l34:K.lookup f34=some ⟨oc34,od34,.func (W.fnOf "wake" "House.wake" (aH mh) (ao mh) (ai mh) .none kV34 dc34 pm34 an34 cd34 ct34),sl34⟩)(c34:W.codeIn K cd34 "House.wake"=true)(k34:W.keepIn K (.ref f34)=true)
  (a35:W.findIn K (.ref ac) "wake"=some (some (.ref f35)))(i35:W.isFn K (.ref f35)=true)
  (l35:K.lookup f35=some ⟨oc35,od35,.func (W.fnOf "wake" "Hall.wake" (aH lM) (ao lM) (ai lM) .none kV35 dc35 pm35 an35 cd35 ct35),sl35⟩)(c35:W.codeIn K cd35 "Hall.wake"=true)(k35:W.keepIn K (.ref f35)=true)
  (a36:W.findIn K (.ref aa) "is_spent"=some (some (.ref f36)))(i36:W.isFn K (.ref f36)=true)
  (l36:K.lookup f36=some ⟨oc36,od36,.func (W.fnOf "is_spent" "House.is_spent" (aH lx) (ao lx) (ai lx) .none kV36 dc36 pm36 an36 cd36 ct36),sl36⟩)(c36:W.codeIn K cd36 "House.is_spent"=true)(k36:W.keepIn K (.ref f36)=true)
  (a37:W.findIn K (.ref ac) "is_spent_letter"=some (some (.ref f37)))(i37:W.isFn K (.ref f37)=true)
  (l37:K.lookup f37=some ⟨oc37,od37,.func (W.fnOf "is_spent_letter" "Hall.is_spent_letter" (aH ko) (ao ko) (ai ko) .none kV37 dc37 pm37 an37 cd37 ct37),sl37⟩)(c37:W.codeIn K cd37 "Hall.is_spent_letter"=true)(k37:W.keepIn K (.ref f37)=true)
  (a38:W.findIn K (.ref ac) "sweep"=some (some (.ref f38)))(i38:W.isFn K (.ref f38)=true)
  (l38:K.lookup f38=some ⟨oc38,od38,.func (W.fnOf "sweep" "Hall.sweep" (aH k_) (ao k_) (ai k_) .none kV38 dc38 pm38 an38 cd38 ct38),sl38⟩)(c38:W.codeIn K cd38 "Hall.sweep"=true)(k38:W.keepIn K (.ref f38)=true)
  (a39:W.findIn K (.ref ac) "do"=some (some (.ref f39)))(i39:W.isFn K (.ref f39)=true)
  (l39:K.lookup f39=some ⟨oc39,od39,.func (W.fnOf "do" "Hall.do" (aH lF) (ao lF) (ai lF) .none kV39 dc39 pm39 an39 cd39 ct39),sl39⟩)(c39:W.codeIn K cd39 "Hall.do"=true)(k39:W.keepIn K (.ref f39)=true)
  (a40:W.nsIn K mainGlobals "bargains_against"=some (some (.ref f40)))
  (l40:K.lookup f40=some ⟨oc40,od40,.func (W.fnOf "bargains_against" "bargains_against" (aH kM) (ao kM) (ai kM) .none kV40 dc40 pm40 an40 cd40 ct40),sl40⟩)(c40:W.codeIn K cd40 "bargains_against"=true)(k40:W.keepIn K (.ref f40)=true)
  (a41:W.findIn K (.ref aa) "__init__"=some (some (.ref f41)))(i41:W.isFn K (.ref f41)=true)
  (l41:K.lookup f41=some ⟨oc41,od41,.func (W.fnOf "__init__" "House.__init__" (aH lB) (ao lB) (ai lB) .none kV41 dc41 pm41 an41 cd41 ct41),sl41⟩)(c41:W.codeIn K cd41 "House.__init__"=true)(k41:W.keepIn K (.ref f41)=true)
  (a42:W.findIn K (.ref ac) "__init__"=some (some (.ref f42)))(i42:W.isFn K (.ref f42)=true)
  (l42:K.lookup f42=some ⟨oc42,od42,.func (W.fnOf "__init__" "Hall.__init__" (aH mB) (ao mB) (ai mB) .none kV42 dc42 pm42 an42 cd42 ct42),sl42⟩)(c42:W.codeIn K cd42 "Hall.__init__"=true)(k42:W.keepIn K (.ref f42)=true)
  (a43:W.nsIn K mainGlobals "answers"=some (some (.ref f43)))
  (l43:K.lookup f43=some ⟨oc43,od43,.func (W.fnOf "answers" "answers" (aH kt) (ao kt) (ai kt) .none kV43 dc43 pm43 an43 cd43 ct43),sl43⟩)(c43:W.codeIn K cd43 "answers"=true)(k43:W.keepIn K (.ref f43)=true)
  (a44:W.nsIn K mainGlobals "hall_after"=some (some (.ref f44)))
  (l44:K.lookup f44=some ⟨oc44,od44,.func (W.fnOf "hall_after" "hall_after" (aH kh) (ao kh) (ai kh) .none kV44 dc44 pm44 an44 cd44 ct44),sl44⟩)(c44:W.codeIn K cd44 "hall_after"=true)(k44:W.keepIn K (.ref f44)=true)
  (a45:W.nsIn K mainGlobals "books_after"=some (some (.ref f45)))
  (l45:K.lookup f45=some ⟨oc45,od45,.func (W.fnOf "books_after" "books_after" (aH lh) (ao lh) (ai lh) .none kV45 dc45 pm45 an45 cd45 ct45),sl45⟩)(c45:W.codeIn K cd45 "books_after"=true)(k45:W.keepIn K (.ref f45)=true)
  (a46:W.nsIn K mainGlobals "letters_after"=some (some (.ref f46)))
  (l46:K.lookup f46=some ⟨oc46,od46,.func (W.fnOf "letters_after" "letters_after" (aH lR) (ao lR) (ai lR) .none kV46 dc46 pm46 an46 cd46 ct46),sl46⟩)(c46:W.codeIn K cd46 "letters_after"=true)(k46:W.keepIn K (.ref f46)=true)
  (a47:W.nsIn K mainGlobals "awake_after"=some (some (.ref f47)))
  (l47:K.lookup f47=some ⟨oc47,od47,.func (W.fnOf "awake_after" "awake_after" (aH lI) (ao lI) (ai lI) .none kV47 dc47 pm47 an47 cd47 ct47),sl47⟩)(c47:W.codeIn K cd47 "awake_after"=true)(k47:W.keepIn K (.ref f47)=true)
  (a48:W.nsIn K mainGlobals "_law_new_hall"=some (some (.ref f48)))
  (l48:K.lookup f48=some ⟨oc48,od48,.func (W.fnOf "_law_new_hall" "_law_new_hall" (aH kJ) (ao kJ) (ai kJ) .none kV48 dc48 pm48 an48 cd48 ct48),sl48⟩)(c48:W.codeIn K cd48 "_law_new_hall"=true)(k48:W.keepIn K (.ref f48)=true)
  (a49:W.nsIn K mainGlobals "_law_words_of"=some (some (.ref f49)))
  (l49:K.lookup f49=some ⟨oc49,od49,.func (W.fnOf "_law_words_of" "_law_words_of" (aH mt) (ao mt) (ai mt) .none kV49 dc49 pm49 an49 cd49 ct49),sl49⟩)(c49:W.codeIn K cd49 "_law_words_of"=true)(k49:W.keepIn K (.ref f49)=true)
  (a50:W.nsIn K mainGlobals "_law_to_all"=some (some (.ref f50)))
  (l50:K.lookup f50=some ⟨oc50,od50,.func (W.fnOf "_law_to_all" "_law_to_all" (aH mn) (ao mn) (ai mn) .none kV50 dc50 pm50 an50 cd50 ct50),sl50⟩)(c50:W.codeIn K cd50 "_law_to_all"=true)(k50:W.keepIn K (.ref f50)=true)
  (a51:W.nsIn K mainGlobals "_law_posted"=some (some (.ref f51)))
  (l51:K.lookup f51=some ⟨oc51,od51,.func (W.fnOf "_law_posted" "_law_posted" (aH lA) (ao lA) (ai lA) .none kV51 dc51 pm51 an51 cd51 ct51),sl51⟩)(c51:W.codeIn K cd51 "_law_posted"=true)(k51:W.keepIn K (.ref f51)=true)
  (a52:W.nsIn K mainGlobals "_law_begun"=some (some (.ref f52)))
  (l52:K.lookup f52=some ⟨oc52,od52,.func (W.fnOf "_law_begun" "_law_begun" (aH my) (ao my) (ai my) .none kV52 dc52 pm52 an52 cd52 ct52),sl52⟩)(c52:W.codeIn K cd52 "_law_begun"=true)(k52:W.keepIn K (.ref f52)=true)
  (a53:W.nsIn K mainGlobals "_law_asked"=some (some (.ref f53)))
  (l53:K.lookup f53=some ⟨oc53,od53,.func (W.fnOf "_law_asked" "_law_asked" (aH lN) (ao lN) (ai lN) .none kV53 dc53 pm53 an53 cd53 ct53),sl53⟩)(c53:W.codeIn K cd53 "_law_asked"=true)(k53:W.keepIn K (.ref f53)=true)
  (a54:W.nsIn K mainGlobals "_law_counted"=some (some (.ref f54)))
  (l54:K.lookup f54=some ⟨oc54,od54,.func (W.fnOf "_law_counted" "_law_counted" (aH lS) (ao lS) (ai lS) .none kV54 dc54 pm54 an54 cd54 ct54),sl54⟩)(c54:W.codeIn K cd54 "_law_counted"=true)(k54:W.keepIn K (.ref f54)=true)
  (a55:W.nsIn K mainGlobals "_law_got"=some (some (.ref f55)))
  (l55:K.lookup f55=some ⟨oc55,od55,.func (W.fnOf "_law_got" "_law_got" (aH kZ) (ao kZ) (ai kZ) .none kV55 dc55 pm55 an55 cd55 ct55),sl55⟩)(c55:W.codeIn K cd55 "_law_got"=true)(k55:W.keepIn K (.ref f55)=true)
  (a56:W.nsIn K mainGlobals "_law_carried"=some (some (.ref f56)))
  (l56:K.lookup f56=some ⟨oc56,od56,.func (W.fnOf "_law_carried" "_law_carried" (aH ma) (ao ma) (ai ma) .none kV56 dc56 pm56 an56 cd56 ct56),sl56⟩)(c56:W.codeIn K cd56 "_law_carried"=true)(k56:W.keepIn K (.ref f56)=true)
  (a57:W.nsIn K mainGlobals "_law_woken"=some (some (.ref f57)))
  (l57:K.lookup f57=some ⟨oc57,od57,.func (W.fnOf "_law_woken" "_law_woken" (aH me) (ao me) (ai me) .none kV57 dc57 pm57 an57 cd57 ct57),sl57⟩)(c57:W.codeIn K cd57 "_law_woken"=true)(k57:W.keepIn K (.ref f57)=true)
  (a58:W.nsIn K mainGlobals "_law_sweep_done"=some (some (.ref f58)))
  (l58:K.lookup f58=some ⟨oc58,od58,.func (W.fnOf "_law_sweep_done" "_law_sweep_done" (aH lb) (ao lb) (ai lb) .none kV58 dc58 pm58 an58 cd58 ct58),sl58⟩)(c58:W.codeIn K cd58 "_law_sweep_done"=true)(k58:W.keepIn K (.ref f58)=true)
  (a59:W.nsIn K mainGlobals "_law_due_answer"=some (some (.ref f59)))
  (l59:K.lookup f59=some ⟨oc59,od59,.func (W.fnOf "_law_due_answer" "_law_due_answer" (aH mf) (ao mf) (ai mf) .none kV59 dc59 pm59 an59 cd59 ct59),sl59⟩)(c59:W.codeIn K cd59 "_law_due_answer"=true)(k59:W.keepIn K (.ref f59)=true)
  (a60:W.nsIn K mainGlobals "_law_whole"=some (some (.ref f60)))
  (l60:K.lookup f60=some ⟨oc60,od60,.func (W.fnOf "_law_whole" "_law_whole" (aH lZ) (ao lZ) (ai lZ) .none kV60 dc60 pm60 an60 cd60 ct60),sl60⟩)(c60:W.codeIn K cd60 "_law_whole"=true)(k60:W.keepIn K (.ref f60)=true)
  (a61:W.nsIn K mainGlobals "_law_is_line"=some (some (.ref f61)))
  (l61:K.lookup f61=some ⟨oc61,od61,.func (W.fnOf "_law_is_line" "_law_is_line" (aH lc) (ao lc) (ai lc) .none kV61 dc61 pm61 an61 cd61 ct61),sl61⟩)(c61:W.codeIn K cd61 "_law_is_line"=true)(k61:W.keepIn K (.ref f61)=true)
  (a62:W.nsIn K mainGlobals "_law_alike"=some (some (.ref f62)))
  (l62:K.lookup f62=some ⟨oc62,od62,.func (W.fnOf "_law_alike" "_law_alike" (aH lW) (ao lW) (ai lW) .none kV62 dc62 pm62 an62 cd62 ct62),sl62⟩)(c62:W.codeIn K cd62 "_law_alike"=true)(k62:W.keepIn K (.ref f62)=true)
  (a63:W.nsIn K mainGlobals "_law_are_lines"=some (some (.ref f63)))
  (l63:K.lookup f63=some ⟨oc63,od63,.func (W.fnOf "_law_are_lines" "_law_are_lines" (aH kr) (ao kr) (ai kr) .none kV63 dc63 pm63 an63 cd63 ct63),sl63⟩)(c63:W.codeIn K cd63 "_law_are_lines"=true)(k63:W.keepIn K (.ref f63)=true)
  (a64:W.nsIn K mainGlobals "_law_are_books"=some (some (.ref f64)))
  (l64:K.lookup f64=some ⟨oc64,od64,.func (W.fnOf "_law_are_books" "_law_are_books" (aH kB) (ao kB) (ai kB) .none kV64 dc64 pm64 an64 cd64 ct64),sl64⟩)(c64:W.codeIn K cd64 "_law_are_books"=true)(k64:W.keepIn K (.ref f64)=true)
  (a65:W.nsIn K mainGlobals "_law_is_letter"=some (some (.ref f65)))
  (l65:K.lookup f65=some ⟨oc65,od65,.func (W.fnOf "_law_is_letter" "_law_is_letter" (aH mi) (ao mi) (ai mi) .none kV65 dc65 pm65 an65 cd65 ct65),sl65⟩)(c65:W.codeIn K cd65 "_law_is_letter"=true)(k65:W.keepIn K (.ref f65)=true)
  (a66:W.nsIn K mainGlobals "_law_are_letters"=some (some (.ref f66)))
  (l66:K.lookup f66=some ⟨oc66,od66,.func (W.fnOf "_law_are_letters" "_law_are_letters" (aH kI) (ao kI) (ai kI) .none kV66 dc66 pm66 an66 cd66 ct66),sl66⟩)(c66:W.codeIn K cd66 "_law_are_letters"=true)(k66:W.keepIn K (.ref f66)=true)
  (a67:W.nsIn K mainGlobals "law"=some (some (.ref f67)))
  (l67:K.lookup f67=some ⟨oc67,od67,.func (W.fnOf "law" "law" (aH iU) (ao iU) (ai iU) .none kV67 dc67 pm67 an67 cd67 ct67),sl67⟩)(c67:W.codeIn K cd67 "law"=true)(k67:W.keepIn K (.ref f67)=true)
  (z_bool:W.nsIn K mainGlobals "bool"=some none)
  (z_int:W.nsIn K mainGlobals "int"=some none)
  (z_isinstance:W.nsIn K mainGlobals "isinstance"=some none)
  (z_len:W.nsIn K mainGlobals "len"=some none)
  (z_list:W.nsIn K mainGlobals "list"=some none)
  (z_range:W.nsIn K mainGlobals "range"=some none)
  (z_str:W.nsIn K mainGlobals "str"=some none)
  (z_tuple:W.nsIn K mainGlobals "tuple"=some none)
  (pg_House:W.plainGet K aa Str.empty=true)(hd_House:W.hasDictIn K aa=true)(po_House:W.plainOver K aa=true)(sa_House:W.findIn K (.ref aa) "__setattr__"=some (some (.builtin "object.__setattr__")))(mk_House:W.makesIn K aa=true)(kc_House:W.keepIn K (.ref aa)=true)
  (n_House_against:W.findIn K (.ref aa) "against"=some none)
  (n_House_awake:W.findIn K (.ref aa) "awake"=some none)
  (n_House_book:W.findIn K (.ref aa) "book"=some none)
  (n_House_counted:W.findIn K (.ref aa) "counted"=some none)
  (n_House_lines_read:W.findIn K (.ref aa) "lines_read"=some none)
  (n_House_number:W.findIn K (.ref aa) "number"=some none)
  (n_House_others:W.findIn K (.ref aa) "others"=some none)
  (n_House_pages:W.findIn K (.ref aa) "pages"=some none)
  (pg_Hall:W.plainGet K ac Str.empty=true)(hd_Hall:W.hasDictIn K ac=true)(po_Hall:W.plainOver K ac=true)(sa_Hall:W.findIn K (.ref ac) "__setattr__"=some (some (.builtin "object.__setattr__")))(mk_Hall:W.makesIn K ac=true)(kc_Hall:W.keepIn K (.ref ac)=true)
  (n_Hall_houses:W.findIn K (.ref ac) "houses"=some none)
  (n_Hall_letters:W.findIn K (.ref ac) "letters"=some none)
  (n_Hall_unspent:W.findIn K (.ref ac) "unspent"=some none) :
  ∃ fd:FuncData,(∀ (s:Shared) (v:Value),BindsTo s fd ⟨[v],[]⟩ [("_law_script",v)])∧∀ base:Heap,K.In base→base.Ns mainGlobals mg→fg l.prog w K mg base bD 11 fa fd ["_law_script"] (pD K):=by
 have e:=hfa.symm.trans (W.mg_of X G a67)
 cases e
 have T:Txt K mg aa ac:=⟨trivial,W.mg_none_of X G z_bool,W.mg_none_of X G z_int,W.mg_none_of X G z_isinstance,W.mg_none_of X G z_len,W.mg_none_of X G z_list,W.mg_none_of X G z_range,W.mg_none_of X G z_str,W.mg_none_of X G z_tuple,⟨pg_House,hd_House,po_House,sa_House⟩,W.mg_of X G aC_House,n_House_against,n_House_awake,n_House_book,n_House_counted,n_House_lines_read,n_House_number,n_House_others,n_House_pages,⟨pg_Hall,hd_Hall,po_Hall,sa_Hall⟩,W.mg_of X G aC_Hall,n_Hall_houses,n_Hall_letters,n_Hall_unspent⟩
 have F0:=aR (st:=lr) l0 c0 k0
 have F1:=aR (st:=kg) l1 c1 k1
 have F2:=aR (st:=kE) l2 c2 k2
 have F3:=aR (st:=lK) l3 c3 k3
 have F4:=aR (st:=cw) l4 c4 k4
 have F5:=aR (st:=lJ) l5 c5 k5
 have F6:=aR (st:=ml) l6 c6 k6
 have F7:=aR (st:=l_) l7 c7 k7
 have F8:=aR (st:=kT) l8 c8 k8
 have F9:=aR (st:=lH) l9 c9 k9
 have F10:=aR (st:=lC) l10 c10 k10
 have F11:=aR (st:=lf) l11 c11 k11
 have F12:=aR (st:=lY) l12 c12 k12
 have F13:=aR (st:=md) l13 c13 k13
 have F14:=aR (st:=lV) l14 c14 k14
 have F15:=aR (st:=ki) l15 c15 k15
 have F16:=aR (st:=kj) l16 c16 k16
 have F17:=aR (st:=lL) l17 c17 k17
 have F18:=aR (st:=kU) l18 c18 k18
 have F19:=aR (st:=lX) l19 c19 k19
 have F20:=aR (st:=lO) l20 c20 k20
 have F21:=aR (st:=kH) l21 c21 k21
 have F22:=aR (st:=kP) l22 c22 k22
 have F23:=aR (st:=mw) l23 c23 k23
 have F24:=aR (st:=lG) l24 c24 k24
 have F25:=aR (st:=kN) l25 c25 k25
 have F26:=aR (st:=lg) l26 c26 k26
 have F27:=aR (st:=lD) l27 c27 k27
 have F28:=aR (st:=mr) l28 c28 k28
 have F29:=aR (st:=lv) l29 c29 k29
 have F30:=aR (st:=lu) l30 c30 k30
 have F31:=aR (st:=kx) l31 c31 k31
 have F32:=aR (st:=lU) l32 c32 k32
 have F33:=aR (st:=mj) l33 c33 k33
 have F34:=aR (st:=mh) l34 c34 k34
 have F35:=aR (st:=lM) l35 c35 k35
 have F36:=aR (st:=lx) l36 c36 k36
 have F37:=aR (st:=ko) l37 c37 k37
 have F38:=aR (st:=k_) l38 c38 k38
 have F39:=aR (st:=lF) l39 c39 k39
 have F40:=aR (st:=kM) l40 c40 k40
 have F41:=aR (st:=lB) l41 c41 k41
 have F42:=aR (st:=mB) l42 c42 k42
 have F43:=aR (st:=kt) l43 c43 k43
 have F44:=aR (st:=kh) l44 c44 k44
 have F45:=aR (st:=lh) l45 c45 k45
 have F46:=aR (st:=lR) l46 c46 k46
 have F47:=aR (st:=lI) l47 c47 k47
 have F48:=aR (st:=kJ) l48 c48 k48
 have F49:=aR (st:=mt) l49 c49 k49
 have F50:=aR (st:=mn) l50 c50 k50
 have F51:=aR (st:=lA) l51 c51 k51
 have F52:=aR (st:=my) l52 c52 k52
 have F53:=aR (st:=lN) l53 c53 k53
 have F54:=aR (st:=lS) l54 c54 k54
 have F55:=aR (st:=kZ) l55 c55 k55
 have F56:=aR (st:=ma) l56 c56 k56
 have F57:=aR (st:=me) l57 c57 k57
 have F58:=aR (st:=lb) l58 c58 k58
 have F59:=aR (st:=mf) l59 c59 k59
 have F60:=aR (st:=lZ) l60 c60 k60
 have F61:=aR (st:=lc) l61 c61 k61
 have F62:=aR (st:=lW) l62 c62 k62
 have F63:=aR (st:=kr) l63 c63 k63
 have F64:=aR (st:=kB) l64 c64 k64
 have F65:=aR (st:=mi) l65 c65 k65
 have F66:=aR (st:=kI) l66 c66 k66
 have F67:=aR (st:=iU) l67 c67 k67
 refine ⟨W.fnOf "law" "law" (aH iU) (ao iU) (ai iU) .none kV67 dc67 pm67 an67 cd67 ct67,fun s v=>.of_eq rfl,fun base _ _=>?_⟩
 have sg:=HU (P:=l.prog) (w:=w) (base:=base) F0 T (W.mg_of X G a0)
 have jS:=Hi (P:=l.prog) (w:=w) (base:=base) F1 T (W.mg_of X G a1)
 have tV:=GW (P:=l.prog) (w:=w) (base:=base) F2 T jS (W.mg_of X G a2)
 have t9:=Ei (P:=l.prog) (w:=w) (base:=base) F3 T (W.mg_of X G a3)
 have h_law_bargain_of:=nT (P:=l.prog) (w:=w) (base:=base) F4 T jS (W.mg_of X G a4)
 have ui:=Gk (P:=l.prog) (w:=w) (base:=base) F5 T h_law_bargain_of (W.mg_of X G a5)
 have tw:=Fk (P:=l.prog) (w:=w) (base:=base) F6 T ui (W.mg_of X G a6)
 have fS:=GC (P:=l.prog) (w:=w) (base:=base) F7 T (W.mg_of X G a7)
 have fU:=F' (P:=l.prog) (w:=w) (base:=base) F8 T fS (W.mg_of X G a8)
 have dA:=EQ (P:=l.prog) (w:=w) (base:=base) F9 T ⟨a9,i9,k9⟩
 have fN:=Gh (P:=l.prog) (w:=w) (base:=base) F10 T ⟨a10,i10,k10⟩
 have tJ:=EF (P:=l.prog) (w:=w) (base:=base) F11 T dA fN ⟨a11,i11,k11⟩
 have fY:=HY (P:=l.prog) (w:=w) (base:=base) F12 T ⟨a12,i12,k12⟩
 have jU:=Gr (P:=l.prog) (w:=w) (base:=base) F13 T ⟨a13,i13,k13⟩
 have jG:=Fy (P:=l.prog) (w:=w) (base:=base) F14 T jU ⟨a14,i14,k14⟩
 have jM:=En (P:=l.prog) (w:=w) (base:=base) F15 T fY jG ⟨a15,i15,k15⟩
 have uy:=EO (P:=l.prog) (w:=w) (base:=base) F16 T fU tJ jM ⟨a16,i16,k16⟩
 have eK:=Er (P:=l.prog) (w:=w) (base:=base) F17 T ⟨a17,i17,k17⟩
 have fP:=EX (P:=l.prog) (w:=w) (base:=base) F18 T fS (W.mg_of X G a18)
 have dC:=GO (P:=l.prog) (w:=w) (base:=base) F19 T fP eK ⟨a19,i19,k19⟩
 have fL:=Iy (P:=l.prog) (w:=w) (base:=base) F20 T ⟨a20,i20,k20⟩
 have uK:=Id (P:=l.prog) (w:=w) (base:=base) F21 T fU eK dA dC fL ⟨a21,i21,k21⟩
 have uI:=HW (P:=l.prog) (w:=w) (base:=base) F22 T fS (W.mg_of X G a22)
 have jJ:=FQ (P:=l.prog) (w:=w) (base:=base) F23 T uI fP (W.mg_of X G a23)
 have fQ:=Hc (P:=l.prog) (w:=w) (base:=base) F24 T dA fN ⟨a24,i24,k24⟩
 have rJ:=GB (P:=l.prog) (w:=w) (base:=base) F25 T jJ fU eK dC fL fQ dA ⟨a25,i25,k25⟩
 have tf:=Ew (P:=l.prog) (w:=w) (base:=base) F26 T dC fL fQ ⟨a26,i26,k26⟩
 have uz:=Iz (P:=l.prog) (w:=w) (base:=base) F27 T dC dA ⟨a27,i27,k27⟩
 have ux:=FH (P:=l.prog) (w:=w) (base:=base) F28 T uK rJ tf uz ⟨a28,i28,k28⟩
 have jV:=Ij (P:=l.prog) (w:=w) (base:=base) F29 T ux jM ⟨a29,i29,k29⟩
 have sr:=Gi (P:=l.prog) (w:=w) (base:=base) F30 T jJ eK fN ⟨a30,i30,k30⟩
 have tN:=Ge (P:=l.prog) (w:=w) (base:=base) F31 T sr fY ⟨a31,i31,k31⟩
 have tU:=Ic (P:=l.prog) (w:=w) (base:=base) F32 T jG ⟨a32,i32,k32⟩
 have rR:=Gg (P:=l.prog) (w:=w) (base:=base) F33 T fP (W.mg_of X G a33)
 have sf:=Gc (P:=l.prog) (w:=w) (base:=base) F34 T rR fQ ⟨a34,i34,k34⟩
 have uu:=GP (P:=l.prog) (w:=w) (base:=base) F35 T sf fY ⟨a35,i35,k35⟩
 have uj:=EM (P:=l.prog) (w:=w) (base:=base) F36 T dC ⟨a36,i36,k36⟩
 have tK:=Eu (P:=l.prog) (w:=w) (base:=base) F37 T uj ⟨a37,i37,k37⟩
 have rX:=Ea (P:=l.prog) (w:=w) (base:=base) F38 T jV tK ⟨a38,i38,k38⟩
 have jR:=G8 (P:=l.prog) (w:=w) (base:=base) F39 T uy jV tN tU uu rX ⟨a39,i39,k39⟩
 have rH:=G_ (P:=l.prog) (w:=w) (base:=base) F40 T (W.mg_of X G a40)
 have t8:=E_ (P:=l.prog) (w:=w) (base:=base) F41 T jU ⟨mk_House,a41,i41,kc_House⟩
 have jO:=EH (P:=l.prog) (w:=w) (base:=base) F42 T rH t8 ⟨mk_Hall,a42,i42,kc_Hall⟩
 have tX:=Hk (P:=l.prog) (w:=w) (base:=base) F43 T jR jO (W.mg_of X G a43)
 have fM:=El (P:=l.prog) (w:=w) (base:=base) F44 T jR jO (W.mg_of X G a44)
 have sq:=GE (P:=l.prog) (w:=w) (base:=base) F45 T fM (W.mg_of X G a45)
 have uc:=Gx (P:=l.prog) (w:=w) (base:=base) F46 T fM (W.mg_of X G a46)
 have rA:=Go (P:=l.prog) (w:=w) (base:=base) F47 T fM (W.mg_of X G a47)
 have tp:=EG (P:=l.prog) (w:=w) (base:=base) F48 T (W.mg_of X G a48)
 have dF:=EU (P:=l.prog) (w:=w) (base:=base) F49 T (W.mg_of X G a49)
 have dE:=Ed (P:=l.prog) (w:=w) (base:=base) F50 T (W.mg_of X G a50)
 have fR:=Gs (P:=l.prog) (w:=w) (base:=base) F51 T (W.mg_of X G a51)
 have sv:=HX (P:=l.prog) (w:=w) (base:=base) F52 T dF dE fR (W.mg_of X G a52)
 have tR:=FF (P:=l.prog) (w:=w) (base:=base) F53 T dF (W.mg_of X G a53)
 have sU:=FZ (P:=l.prog) (w:=w) (base:=base) F54 T dE (W.mg_of X G a54)
 have uD:=FO (P:=l.prog) (w:=w) (base:=base) F55 T dF tR sU dE (W.mg_of X G a55)
 have jK:=EN (P:=l.prog) (w:=w) (base:=base) F56 T uD fR (W.mg_of X G a56)
 have uo:=ED (P:=l.prog) (w:=w) (base:=base) F57 T dF dE fR (W.mg_of X G a57)
 have sK:=FG (P:=l.prog) (w:=w) (base:=base) F58 T jK (W.mg_of X G a58)
 have tq:=Iw (P:=l.prog) (w:=w) (base:=base) F59 T sv jK uo sK dF dE (W.mg_of X G a59)
 have fT:=Hv (P:=l.prog) (w:=w) (base:=base) F60 T (W.mg_of X G a60)
 have jN:=Gm (P:=l.prog) (w:=w) (base:=base) F61 T fT (W.mg_of X G a61)
 have rT:=Hl (P:=l.prog) (w:=w) (base:=base) F62 T fT jN (W.mg_of X G a62)
 have tj:=Fb (P:=l.prog) (w:=w) (base:=base) F63 T jN (W.mg_of X G a63)
 have rQ:=EB (P:=l.prog) (w:=w) (base:=base) F64 T tj (W.mg_of X G a64)
 have sT:=GN (P:=l.prog) (w:=w) (base:=base) F65 T fT (W.mg_of X G a65)
 have sI:=EZ (P:=l.prog) (w:=w) (base:=base) F66 T sT (W.mg_of X G a66)
 exact Fm F67 T sg tV t9 tw tX sq uc rA tp tq rT rQ sI
theorem walk{l:W.OpenLaw}{q:Program}{loose:List Str}{XP:(Str→Option Value)→Heap→Prop}{YP:World→Heap→Prop}{d:DefRec}{K:Params→W.Frag}(hn:l.most=some 63)(hdf:d.params.defaults=[])
  (hY:∀ (w:World) (h:Heap),YP w h→(K w.params).In h)
  (F:∀ (w:World) (mg:Str→Option Value) (fa:Addr) (h:Heap),(K w.params).In h→h.Ns mainGlobals mg→mg d.name=some (.ref fa)→
   ∃ fd:FuncData,(∀ (s:Shared) (u:Value),BindsTo s fd ⟨[u],[]⟩ [("_law_script",u)])∧∀ base:Heap,(K w.params).In base→base.Ns mainGlobals mg→fg l.prog w (K w.params) mg base bD 11 fa fd ["_law_script"] (pD (K w.params))) :
  W.WalkO q loose XP YP l.row.toRowW d [] (fun f vs=>PySem.call f vs):=
 L2.walk_of (n:=63) (k:=11) (x:="_law_script") (CX:=fun _=>bD) (sp:=fun w=>pD (K w.params)) hn (by decide) hdf ⟨rfl,by decide,by decide⟩ hY F (fun _ _ a ns hl _ hS=>⟨a,ns,rfl,hS,hl,fun _=>rfl⟩) fun _ _ _ _ _ z=>z
end Oh
def PySem.W.Fast.tw9863902689845460356:Nat:=0
def PySem.W.Fast.tw1001630153617671492:Nat:=0
def PySem.W.Fast.tw3364719955725306555:Nat:=0
def PySem.W.Fast.tw2545733448132494324:Nat:=0
def PySem.W.Fast.tw13168249307536043174:Nat:=0
def PySem.W.Fast.tw5009757484037942267:Nat:=0
def PySem.W.Fast.tw9394832894078717232:Nat:=0
def PySem.W.Fast.tw532925567792479255:Nat:=0
def PySem.W.Fast.tw1306415725422112863:Nat:=0
def PySem.W.Fast.tw9290535809958402236:Nat:=0
def PySem.W.Fast.tw1438178372174709297:Nat:=0
def PySem.W.Fast.tw2775298401741822361:Nat:=0
def PySem.W.Fast.tw4082596363900249311:Nat:=0
def PySem.W.Fast.tw8965212122670847738:Nat:=0
def PySem.W.Fast.tw11972733845593575653:Nat:=0
def PySem.W.Fast.tw14230938695313541094:Nat:=0
def PySem.W.Fast.tw8051927575477004768:Nat:=0
def PySem.W.Fast.tw14068466186800955286:Nat:=0
def PySem.W.Fast.tw2732866745703755251:Nat:=0
def PySem.W.Fast.tw5853338360453834089:Nat:=0
def PySem.W.Fast.tw11161541665262304769:Nat:=0
def PySem.W.Fast.tw4048216837379557:Nat:=0
def PySem.W.Fast.tw8748148939800245488:Nat:=0
def PySem.W.Fast.tw17831616387017221466:Nat:=0
def PySem.W.Fast.tw8958043470794515040:Nat:=0
def PySem.W.Fast.tw2667616097465724741:Nat:=0
def PySem.W.Fast.tw15918081477669640332:Nat:=0
def PySem.W.Fast.tw10324820191300328097:Nat:=0
def PySem.W.Fast.tw8512953748393282574:Nat:=0
def PySem.W.Fast.tw2218095909085288322:Nat:=0
def PySem.W.Fast.tw12587486088779202068:Nat:=0
def PySem.W.Fast.tw7524528377756914682:Nat:=0
def PySem.W.Fast.tw18227426388907517724:Nat:=0
def PySem.W.Fast.tw2515604952496961376:Nat:=0
def PySem.W.Fast.tw8659366052418566358:Nat:=0
def PySem.W.Fast.tw16217597148471108704:Nat:=0
def PySem.W.Fast.tw1611864934702223875:Nat:=0
def PySem.W.Fast.tw16156923598146159051:Nat:=0
def PySem.W.Fast.tw16631001693046435348:Nat:=0
def PySem.W.Fast.tw18176672435806896224:Nat:=0
def PySem.W.Fast.tw12156065721907719090:Nat:=0
def PySem.W.Fast.tw16490500569072217912:Nat:=0
def PySem.W.Fast.tw17147413282661711236:Nat:=0
def PySem.W.Fast.tw16691990769396360840:Nat:=0
def PySem.W.Fast.tw11829216132075494120:Nat:=0
def PySem.W.Fast.tw18101309788539406785:Nat:=0
def PySem.W.Fast.tw5799185491661824269:Nat:=0
def PySem.W.Fast.tw17043626825355524913:Nat:=0
def PySem.W.Fast.tw15308893446587396417:Nat:=0
def PySem.W.Fast.tw3235890863522552026:Nat:=0
def PySem.W.Fast.tw7076877812575030106:Nat:=0
def PySem.W.Fast.tw6456574797693118776:Nat:=0
def PySem.W.Fast.tw16121857419559896516:Nat:=0
def PySem.W.Fast.tw10543887216339792101:Nat:=0
def PySem.W.Fast.tw10849610445905970098:Nat:=0
def PySem.W.Fast.tw18323696735232309107:Nat:=0
def PySem.W.Fast.tw12119693457572271997:Nat:=0
def PySem.W.Fast.tw5361559298111275451:Nat:=0
def PySem.W.Fast.tw7613911169024129433:Nat:=0
def PySem.W.Fast.tw11769971338303440869:Nat:=0
def PySem.W.Fast.tw7831747971245606235:Nat:=0
def PySem.W.Fast.tw964035095509658060:Nat:=0
def PySem.W.Fast.tw15002202159767483624:Nat:=0
def PySem.W.Fast.tw545971849459102564:Nat:=0
def PySem.W.Fast.tw15240577256178534524:Nat:=0
def PySem.W.Fast.tw6633435509830107960:Nat:=0
def PySem.W.Fast.tw3270366550635480280:Nat:=0
def PySem.W.Fast.tw17480333931085619912:Nat:=0
def PySem.W.Fast.tw6215145645548597572:Nat:=0
def PySem.W.Fast.tw10776697554715720668:Nat:=0
def PySem.W.Fast.tw12200187329236049053:Nat:=0
def PySem.W.Fast.tw14133258073160442760:Nat:=0
def PySem.W.Fast.tw5538216884237231961:Nat:=0
def PySem.W.Fast.tw13064826376258997541:Nat:=0
def PySem.W.Fast.tw9537001540111149621:Nat:=0
def PySem.W.Fast.tw4358175098643490295:Nat:=0
def PySem.W.Fast.tw3922799501146106637:Nat:=0
def PySem.W.Fast.tw18379342752347981247:Nat:=0
def PySem.W.Fast.tw3336230655456741168:Nat:=0
def PySem.W.Fast.tw13157728370954366719:Nat:=0
def PySem.W.Fast.tw16445906444269511373:Nat:=0
def PySem.W.Fast.tw151809803670105548:Nat:=0
def PySem.W.Fast.tw12573676420161349038:Nat:=0
def PySem.W.Fast.tw6206264568486785756:Nat:=0
def PySem.W.Fast.tw4081932974189772212:Nat:=0
def PySem.W.Fast.tw3187521635316984171:Nat:=0
def PySem.W.Fast.tw5394782888055583314:Nat:=0
def PySem.W.Fast.tw3938297546817048159:Nat:=0
def PySem.W.Fast.tw1107399414162094389:Nat:=0
def PySem.W.Fast.tw17957957689531365968:Nat:=0
def PySem.W.Fast.tw5050861698664167781:Nat:=0
def PySem.W.Fast.tw284894467600769295:Nat:=0
def PySem.W.Fast.tw15965653837022465405:Nat:=0
def PySem.W.Fast.tw3043359694311694453:Nat:=0
def PySem.W.Fast.tw7502551303975655714:Nat:=0
def PySem.W.Fast.tw362193089876370882:Nat:=0
def PySem.W.Fast.tw14473185545858084771:Nat:=0
def PySem.W.Fast.tw6139569102183891290:Nat:=0
def PySem.W.Fast.tw1265976652349553959:Nat:=0
def PySem.W.Fast.tw17697299032186527398:Nat:=0
def PySem.W.Fast.tw7372299869175688445:Nat:=0
def PySem.W.Fast.tw2964171399214908807:Nat:=0
def PySem.W.Fast.tw12347605193136130223:Nat:=0
def PySem.W.Fast.tw10782747258393900298:Nat:=0
def PySem.W.Fast.tw17149604451931291215:Nat:=0
def PySem.W.Fast.tw5881574171135794859:Nat:=0
def PySem.W.Fast.tw8526110462803483412:Nat:=0
def PySem.W.Fast.tw4258398569809317253:Nat:=0
def PySem.W.Fast.tw18001875126325805886:Nat:=0
def PySem.W.Fast.tw2244064575680028450:Nat:=0
def PySem.W.Fast.tw7557482064427883859:Nat:=0
def PySem.W.Fast.tw1022510889748146925:Nat:=0
def PySem.W.Fast.tw9801654405960081984:Nat:=0
def PySem.W.Fast.tw14196179454341573639:Nat:=0
def PySem.W.Fast.tw14936774768895775865:Nat:=0
def PySem.W.Fast.tw11147506325584841857:Nat:=0
def PySem.W.Fast.tw16070808649311997706:Nat:=0
def PySem.W.Fast.tw16888239644749845554:Nat:=0
def PySem.W.Fast.tw14044460023009202055:Nat:=0
def PySem.W.Fast.tw6598831554955315360:Nat:=0
def PySem.W.Fast.tw7002897756588358420:Nat:=0
def PySem.W.Fast.tw7593611846016587157:Nat:=0
def PySem.W.Fast.tw12746459491730088284:Nat:=0
def PySem.W.Fast.tw16339441514049397033:Nat:=0
def PySem.W.Fast.tw606494566456120400:Nat:=0
def PySem.W.Fast.tw18435233560905347088:Nat:=0
def PySem.W.Fast.tw3404270604440950184:Nat:=0
def PySem.W.Fast.tw6532095849841307369:Nat:=0
def PySem.W.Fast.tw1578301084757504354:Nat:=0
def PySem.W.Fast.tw16584077230497305112:Nat:=0
def PySem.W.Fast.tw3660978095577688619:Nat:=0
def PySem.W.Fast.tw12252632232934460755:Nat:=0
def PySem.W.Fast.tw16174427940244436415:Nat:=0
def PySem.W.Fast.tw61704461892279081:Nat:=0
def PySem.W.Fast.tw9076412952769222877:Nat:=0
def PySem.W.Fast.tw17299099553762593648:Nat:=0
def PySem.W.Fast.tw11274868975319329378:Nat:=0
def PySem.W.Fast.tw6781383601873461503:Nat:=0
open PySem PySem.W PyProof.Rows
set_option maxRecDepth 100000 in
set_option maxHeartbeats 0 in
theorem PySem.Challenge.cw_oathhall_k06_plain_story_holds : PySem.Challenge.rw_oathhall_k06_plain_story.Holds := by
 w_on;o_law;k_head;(case hw=>w_witness2)
 k_fill
 refine Oh.walk (l:=PySem.Challenge.rw_oathhall_k06_plain_story) rfl rfl (fun w h Y=>PySem.W.kIn_of Y) ?F
 case F=>
  intro w mg fa h KX G hmg
  refine' Oh.all_mk KX G hmg ?_ ?_ ?_ ?_ ?_ ?_ ?_ ?_ ?_ ?_ ?_ ?_ ?_ ?_ ?_ ?_ ?_ ?_ ?_ ?_ ?_ ?_ ?_ ?_ ?_ ?_ ?_ ?_ ?_ ?_ ?_ ?_ ?_ ?_ ?_ ?_ ?_ ?_ ?_ ?_ ?_ ?_ ?_ ?_ ?_ ?_ ?_ ?_ ?_ ?_ ?_ ?_ ?_ ?_ ?_ ?_ ?_ ?_ ?_ ?_ ?_ ?_ ?_ ?_ ?_ ?_ ?_ ?_ ?_ ?_ ?_ ?_ ?_ ?_ ?_ ?_ ?_ ?_ ?_ ?_ ?_ ?_ ?_ ?_ ?_ ?_ ?_ ?_ ?_ ?_ ?_ ?_ ?_ ?_ ?_ ?_ ?_ ?_ ?_ ?_ ?_ ?_ ?_ ?_ ?_ ?_ ?_ ?_ ?_ ?_ ?_ ?_ ?_ ?_ ?_ ?_ ?_ ?_ ?_ ?_ ?_ ?_ ?_ ?_ ?_ ?_ ?_ ?_ ?_ ?_ ?_ ?_ ?_ ?_ ?_ ?_ ?_ ?_ ?_ ?_ ?_ ?_ ?_ ?_ ?_ ?_ ?_ ?_ ?_ ?_ ?_ ?_ ?_ ?_ ?_ ?_ ?_ ?_ ?_ ?_ ?_ ?_ ?_ ?_ ?_ ?_ ?_ ?_ ?_ ?_ ?_ ?_ ?_ ?_ ?_ ?_ ?_ ?_ ?_ ?_ ?_ ?_ ?_ ?_ ?_ ?_ ?_ ?_ ?_ ?_ ?_ ?_ ?_ ?_ ?_ ?_ ?_ ?_ ?_ ?_ ?_ ?_ ?_ ?_ ?_ ?_ ?_ ?_ ?_ ?_ ?_ ?_ ?_ ?_ ?_ ?_ ?_ ?_ ?_ ?_ ?_ ?_ ?_ ?_ ?_ ?_ ?_ ?_ ?_ ?_ ?_ ?_ ?_ ?_ ?_ ?_ ?_ ?_ ?_ ?_ ?_ ?_ ?_ ?_ ?_ ?_ ?_ ?_ ?_ ?_ ?_ ?_ ?_ ?_ ?_ ?_ ?_ ?_ ?_ ?_ ?_ ?_ ?_ ?_ ?_ ?_ ?_ ?_ ?_ ?_ ?_ ?_ ?_ ?_ ?_ ?_ ?_ ?_ ?_ ?_ ?_ ?_ ?_ ?_ ?_ ?_ ?_ ?_ ?_ ?_ ?_ ?_ ?_ ?_ ?_ ?_ ?_ ?_ ?_ ?_ ?_ ?_ ?_ ?_ ?_ ?_ ?_ ?_ ?_ ?_ ?_ ?_ ?_ ?_ ?_ ?_ ?_ ?_ ?_ ?_ ?_ ?_ ?_ ?_ ?_ ?_ ?_ ?_ ?_ ?_ ?_ ?_ ?_ ?_
  all_goals (try k_is)

