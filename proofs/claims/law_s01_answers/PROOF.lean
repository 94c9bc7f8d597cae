import PyProof.Rows.All
import Wide.All
import OpenK.AllK
import Wide.FinOn
import PyProof.EqAt
import PyProof.EqKinds
import PyProof.TupleCall
import KE.BitLaws
import Open.SpecLaws
import KE.OsHead
import KE.OsGo
import KE.KDictOf
import KE.KSortTupG
import KE.KItemsList
import KE.KSortKeyAny
import KE.KLam
import PyProof.DictCopy
import PySem.Challenge.RW_datedworks_s01_answers
set_option Elab.async false
set_option linter.all false
set_option compiler.extract_closed false
set_option maxRecDepth 100000
set_option maxHeartbeats 4000000
noncomputable section
namespace L2
open PySem PySem.Spec PyProof.Rows
abbrev Key:=Sum Int Str
def jB:Key→Value→Bool
 | .inl k,v=>Value.isInt k v
 | .inr x,v=>Value.isStrOf x v
def F8 (w:World):Key→Int
 | .inl k=>hashInt k
 | .inr x=>hashStr w x
theorem bK:∀ {k:Key}{v:Value},jB k v=true→(∃ i t,k=Sum.inl i∧v=Value.int i t)∨(∃ x t,k=Sum.inr x∧v=Value.str x t)
 | .inl i,v,h=>by
  obtain⟨t,e⟩:=Value.isInt_shape (k:=i) (v:=v) h
  exact .inl ⟨i,t,rfl,e⟩
 | .inr x,v,h=>by
  obtain⟨t,e⟩:=Value.isStrOf_shape (x:=x) (v:=v) h
  exact .inr ⟨x,t,rfl,e⟩
theorem Ay (i:Int) (t:Tok):jB (.inl i) (.int i t)=true:=by simp[jB,Value.isInt]
theorem Ax (x:Str) (t:Tok):jB (.inr x) (.str x t)=true:=by simp[jB,Value.isStrOf]
theorem ER (a b:Int):decide ((Sum.inl a:Key)=Sum.inl b)=(a == b):=by
 by_cases e:a=b
 ·subst e;simp
 ·have h:¬ (Sum.inl a:Key)=Sum.inl b:=fun q=>e (Sum.inl.inj q)
  rw[decide_eq_false h]
  exact(beq_eq_false_iff_ne.mpr e).symm
theorem EM (a b:Str):decide ((Sum.inr a:Key)=Sum.inr b)=decide (a=b):=by
 by_cases e:a=b
 ·subst e;simp
 ·have h:¬ (Sum.inr a:Key)=Sum.inr b:=fun q=>e (Sum.inr.inj q)
  rw[decide_eq_false h,decide_eq_false e]
theorem EO (a:Int) (b:Str):decide ((Sum.inl a:Key)=Sum.inr b)=false:=decide_eq_false (fun q=>nomatch q)
theorem EN (a:Str) (b:Int):decide ((Sum.inr a:Key)=Sum.inl b)=false:=decide_eq_false (fun q=>nomatch q)
def aY (prog:Program) (w:World):PySem.KeyKind prog w Key where
 is:=jB
 hash:=F8 w
 inj:=fun v a b ha hb=>by
  rcases bK ha with ⟨i,t,rfl,rfl⟩ | ⟨x,t,rfl,rfl⟩
  ·rcases bK hb with ⟨j,u,rfl,e⟩ | ⟨y,u,rfl,e⟩
   ·injection e with e1 _;rw[e1]
   ·exact nomatch e
  ·rcases bK hb with ⟨j,u,rfl,e⟩ | ⟨y,u,rfl,e⟩
   ·exact nomatch e
   ·injection e with e1 _;rw[e1]
 byValue:=fun k v h=>by
  rcases bK h with ⟨i,t,rfl,rfl⟩ | ⟨x,t,rfl,rfl⟩<;>rfl
 pyHash:=fun hv h=>by
  rcases bK hv with ⟨i,t,rfl,rfl⟩ | ⟨x,t,rfl,rfl⟩
  ·exact wpAny_pyHash_int h
  ·exact wpAny_pyHash_str h
 eqBool:=fun hu hv h=>by
  rcases bK hu with ⟨i,t,rfl,rfl⟩ | ⟨x,t,rfl,rfl⟩
  ·rcases bK hv with ⟨j,u,rfl,rfl⟩ | ⟨y,u,rfl,rfl⟩
   ·rw[ER]at h;exact wpAny_eqBool_int h
   ·rw[EO]at h;exact SeqAt.EqAt.int_str i t y u _ _ _ _ h
  ·rcases bK hv with ⟨j,u,rfl,rfl⟩ | ⟨y,u,rfl,rfl⟩
   ·rw[EN]at h;exact SeqAt.EqAt.str_int x t j u _ _ _ _ h
   ·rw[EM]at h;exact wpAny_eqBool_str h
 «strs»:=fun k x t v h=>by
  rcases bK h with ⟨i,u,rfl,e⟩ | ⟨y,u,rfl,e⟩
  ·exact nomatch e
  ·injection e with e1 _
   subst e1
   cases v<;>rfl
theorem wo (prog:Program) (w:World) (i:Int) (t:Tok):(aY prog w).is (.inl i) (.int i t)=true:=Ay i t
theorem wm (prog:Program) (w:World) (x:Str) (t:Tok):(aY prog w).is (.inr x) (.str x t)=true:=Ax x t
end L2
namespace L2
open PySem PySem.Spec PyProof.Rows
inductive V where
 |non | bl (b:Bool) | int (i:Int) | str (x:Str) | byt (b:Array UInt8) | flt (b:UInt64) | ref (a:Addr) | ty (n:String)
 deriving DecidableEq
def RelV:V→Value→Prop
 | .non,u=>u=Value.none
 | .bl b,u=>u=Value.bool b
 | .int i,u=>∃ t,u=Value.int i t
 | .str x,u=>∃ t,u=Value.str x t
 | .byt b,u=>∃ t,u=Value.bytes b t
 | .flt b,u=>∃ t,u=Value.float b t
 | .ref a,u=>u=Value.ref a
 | .ty n,u=>u=Value.type n
abbrev Vals:List V→List Value→Prop:=Paired RelV
theorem Vals.length {xs:List V}{us:List Value}(r:Vals xs us):xs.length=us.length:=Paired.length r
theorem Vals.get:∀ {xs:List V}{us:List Value}{i:Nat}{x:V},Vals xs us→xs[i]? = some x→∃ u,us[i]? = some u∧RelV x u
 |_,_,_,_,.nil,e=>by simp at e
 |_,_,0,_,.cons r _,e=>by simp at e;subst e;exact⟨_,rfl,r⟩
 |_,_,i+1,x,.cons _ t,e=>by
  obtain⟨u,h1,h2⟩:=Vals.get (i:=i) (x:=x) t (by simpa using e)
  exact⟨u,by simpa using h1,h2⟩
theorem Vals.append:∀ {xs ys:List V}{us ws:List Value},Vals xs us→Vals ys ws→Vals (xs ++ ys) (us ++ ws)
 |_,_,_,_,.nil,s=>s
 |_,_,_,_,.cons r t,s=>.cons r (Vals.append t s)
theorem Vals.take:∀ {xs:List V}{us:List Value}(n:Nat),Vals xs us→Vals (xs.take n) (us.take n)
 |_,_,0,_=>.nil
 |_,_,_+1,.nil=>.nil
 |_,_,n+1,.cons r t=>.cons r (Vals.take n t)
theorem Vals.drop:∀ {xs:List V}{us:List Value}(n:Nat),Vals xs us→Vals (xs.drop n) (us.drop n)
 |_,_,0,r=>r
 |_,_,_+1,.nil=>.nil
 |_,_,n+1,.cons _ t=>Vals.drop n t
theorem Vals.none_of:∀ {xs:List V}{us:List Value}{i:Nat},Vals xs us→xs[i]? = none→us[i]? = none:=fun {xs us i} r e=>by
 have h1:=r.length
 have h2:xs.length≤i:=List.getElem?_eq_none_iff.mp e
 exact List.getElem?_eq_none_iff.mpr (by omega)
def iz:Option V→Option Value→Prop
 |some v,some u=>RelV v u
 |none,none=>True
 |_,_=>False
def KV {κ:Type}:List (κ×V)→List (κ×Value)→Prop:=Paired fun (p:κ×V) (q:κ×Value)=>p.1=q.1∧RelV p.2 q.2
def kV:Key→V
 | .inl i=>.int i
 | .inr x=>.str x
inductive HO where
 |lst (xs:List V)
 |tup (xs:List V)
 |dK (kvs:List (Key×V)) | dT (kvs:List (List Key×V))
 |set (S:Int→Bool) (n:Nat)
 |ins (C dx:Addr) (fs:List (Str×V))
 |own (x:Addr)
 |xd (fs:List (Str×V))
 |met (f x:Addr)
 |rng (lo hi:Int)
 |frz (o:Obj) (u:HO)
 |tbl (ps:Array Value)
 |ext (φ:Heap→Prop)
abbrev Hp:=Addr→Option HO
def upd (H:Hp) (a:Addr) (o:HO):Hp:=fun b=>if b=a then some o else H b
theorem ab {H:Hp}{a:Addr}{o:HO}:upd H a o a=some o:=by unfold upd;rw[if_pos rfl]
theorem ak {H:Hp}{a b:Addr}{o:HO}(h:b≠a):upd H a o b=H b:=by unfold upd;rw[if_neg h]
theorem o5 {H:Hp}{a:Addr}{o u:HO}:upd (upd H a o) a u=upd H a u:=by
 funext b;unfold upd;split<;>rfl
theorem bJ {H:Hp}{a b:Addr}{o u:HO}(h:H a=some o) (h':H b=some u) (d:o≠u):a≠b:=by
 intro e;subst e;rw[h]at h';exact d (Option.some.inj h')
theorem aF {H:Hp}{a b:Addr}{o:HO}(h:H a=some o) (h':H b=none):a≠b:=by
 intro e;subst e;rw[h]at h';cases h'
section
variable (P:Program) (w:World)
def bS (H:Hp) (h:Heap) (a:Addr):HO→Prop
 | .lst xs=>xs.length≤sizeLine∧∃ (its:List Value) (n:Nat),Vals xs its∧h.get? a=some { cls:=.type "list",data:=.seq its.toArray n }
 | .tup xs=>xs.length≤sizeLine∧∃ its:List Value,Vals xs its∧IsTup h a its.toArray
 | .dK kvs=>kvs.length≤sizeLine∧(a == sysModules)=false∧∃ vs,KV kvs vs∧h.DictOf (aY P w) a vs
 | .dT kvs=>kvs.length≤sizeLine∧(a == sysModules)=false∧∃ xs:List (List Key×Addr×Value),
   Paired (fun (p:List Key×V) (q:List Key×Addr×Value)=>p.1=q.1∧H q.2.1=some (.tup (p.1.map kV))∧RelV p.2 q.2.2) kvs xs ∧
   ∃ o es ep,h.get? a=some o∧o.ExactDict∧o.data = .dict es ep∧es.toList=xs.map (entryOfKey (tupleKind (aY P w)))∧(xs.map (·.1)).Nodup
 | .set S n=>h.SetOf (intKind P w) a S n
 | .ins C dx fs=>H dx=some (.own a)∧fs.length≤1000∧dx≠a∧h.get? a=some (PySem.W.instObj C dx) ∧
   ∃ mA,h.Ns1 dx mA∧(∀ f,iz (fs.lookup f) (mA f))∧PySem.Within mA (fs.map (·.1))
 | .own _=>∃ o,h.get? a=some o
 | .xd fs=>∃ mA,h.Ns1 a mA∧∀ f,iz (fs.lookup f) (mA f)
 | .rng lo hi=>∃ t u v,h.get? a=some { cls:=.type "range",data:=.fields #[.int lo t,.int hi u,.int 1 v] }
 | .frz o u=>h.get? a=some o∧bS H h a u
 | .tbl ps=>h.get? a=some { cls:=.none,data:=.fields ps }
 | .met f x=>h.get? a=some (PySem.W.methodObj (.ref f) (.ref x))
 | .ext φ=>φ h∧(∃ o,h.get? a=some o)∧∀ h1 h2:Heap,φ h1→(∀ o,h1.get? a=some o→h2.get? a=some o)→φ h2
def HOk (H:Hp) (h:Heap):Prop:=∀ a o,H a=some o→bS P w H h a o
end
section
variable {P:Program}{w:World}{H H':Hp}{h h':Heap}{a:Addr}{o:HO}
theorem bS.lt (x:bS P w H h a o):a < h.objs.size:=by
 cases o with
 |lst xs=>obtain⟨_,_,_,_,e⟩:=x;exact Heap.lt_size e
 |tup xs=>obtain⟨_,_,_,p⟩:=x;exact p.lt
 |dK kvs=>obtain⟨_,_,_,_,o,_,_,e,_⟩:=x;exact Heap.lt_size e
 |dT kvs=>obtain⟨_,_,_,_,o,_,_,e,_⟩:=x;exact Heap.lt_size e
 |set S n=>obtain⟨o,_,_,_,e,_⟩:=x;exact Heap.lt_size e
 |ins C dx fs=>obtain⟨_,_,_,e,_⟩:=x;exact Heap.lt_size e
 |own y=>obtain⟨_,e⟩:=x;exact Heap.lt_size e
 |xd fs=>obtain⟨_,⟨_,_,_,e,_⟩,_⟩:=x;exact Heap.lt_size e
 |rng lo hi=>obtain⟨_,_,_,e⟩:=x;exact Heap.lt_size e
 |frz ob u=>obtain⟨e,_⟩:=x;exact Heap.lt_size e
 |tbl ps=>exact Heap.lt_size (show h.get? a=some _ from x)
 |met f y=>exact Heap.lt_size (show h.get? a=some _ from x)
 |ext φ=>obtain⟨_,⟨_,e⟩,_⟩:=x;exact Heap.lt_size e
theorem Paired.EF {α β:Type}{F G:α→β→Prop}:∀ {l₁:List α}{l₂:List β},Paired F l₁ l₂→(∀ a b,F a b→G a b)→Paired G l₁ l₂
 |_,_,.nil,_=>.nil
 |_,_,.cons r t,f=>.cons (f _ _ r) (Paired.EF t f)
theorem bS.g7 (x:bS P w H h a o) (k:∀ b u,(b=a∨H b=some (.own a))→h.get? b=some u→h'.get? b=some u)
  (ho:∀ b,H b=some (.own a)→H' b=some (.own a)) (ht:∀ b xs,H b=some (.tup xs)→H' b=some (.tup xs)):bS P w H' h' a o:=by
 induction o with
 |lst xs=>obtain⟨z,its,n,r,e⟩:=x;exact⟨z,its,n,r,k _ _ (.inl rfl) e⟩
 |tup xs=>obtain⟨z,its,r,ob,e,c⟩:=x;exact⟨z,its,r,ob,k _ _ (.inl rfl) e,c⟩
 |dK kvs=>obtain⟨z,y,vs,r,ob,es,ep,e,c⟩:=x;exact⟨z,y,vs,r,ob,es,ep,k _ _ (.inl rfl) e,c⟩
 |dT kvs=>
  obtain⟨z,y,xs,r,ob,es,ep,e,c⟩:=x
  exact⟨z,y,xs,Paired.EF r fun p q z=>⟨z.1,ht _ _ z.2.1,z.2.2⟩,ob,es,ep,k _ _ (.inl rfl) e,c⟩
 |set S n=>obtain⟨ob,es,ep,t,e,c⟩:=x;exact⟨ob,es,ep,t,k _ _ (.inl rfl) e,c⟩
 |ins C dx fs=>
  obtain⟨d,z,ne,e,mA,⟨od,es,ep,e2,c⟩,r⟩:=x
  exact⟨ho _ d,z,ne,k _ _ (.inl rfl) e,mA,⟨od,es,ep,k _ _ (.inr d) e2,c⟩,r⟩
 |own y=>obtain⟨ob,e⟩:=x;exact⟨ob,k _ _ (.inl rfl) e⟩
 |xd fs=>obtain⟨mA,⟨od,es,ep,e,c⟩,r⟩:=x;exact⟨mA,⟨od,es,ep,k _ _ (.inl rfl) e,c⟩,r⟩
 |rng lo hi=>obtain⟨t,u,v,e⟩:=x;exact⟨t,u,v,k _ _ (.inl rfl) e⟩
 |frz ob u ih=>obtain⟨e,q⟩:=x;exact⟨k _ _ (.inl rfl) e,ih q⟩
 |tbl ps=>
  have e:h.get? a=some { cls:=.none,data:=.fields ps }:=x
  show h'.get? a=some { cls:=.none,data:=.fields ps }
  exact k a _ (.inl rfl) e
 |met f y=>
  have e:h.get? a=some (PySem.W.methodObj (.ref f) (.ref y)):=x
  show h'.get? a=some (PySem.W.methodObj (.ref f) (.ref y))
  exact k a _ (.inl rfl) e
 |ext φ=>obtain⟨p,⟨o,e⟩,st⟩:=x;exact⟨st _ _ p fun o q=>k _ _ (.inl rfl) q,⟨o,k _ _ (.inl rfl) e⟩,st⟩
theorem HOk.lt (x:HOk P w H h) (e:H a=some o):a < h.objs.size:=(x a o e).lt
theorem HOk.fresh (x:HOk P w H h) (e:h.objs.size≤a):H a=none:=by
 cases q:H a with
 |none=>rfl
 |some u=>exact absurd (Nat.lt_of_lt_of_le (x.lt q) e) (Nat.lt_irrefl _)
theorem HOk.kept (x:HOk P w H h) (k:∀ b u,h.get? b=some u→h'.get? b=some u):HOk P w H h':=fun a o e=>
 (x a o e).g7 (fun b u _ q=>k b u q) (fun _ q=>q) fun _ _ q=>q
theorem HOk.laid (x:HOk P w H h) (k:∀ b u,h.get? b=some u→h'.get? b=some u) (hp:h.objs.size≤a) (new:bS P w (upd H a o) h' a o):HOk P w (upd H a o) h':=fun b u e=>by
 have hn:=x.fresh hp
 by_cases hb:b=a
 ·subst hb;rw[ab]at e;cases e;exact new
 ·rw[ak hb]at e
  exact(x b u e).g7 (fun c v _ q=>k c v q) (fun c q=>by rw[ak (aF q hn)];exact q) fun c xs q=>by rw[ak (aF q hn)];exact q
end
def Rd (H:Hp) (a:Addr) (u:HO):Prop:=H a=some u∨∃ o,H a=some (.frz o u)
theorem Rd.ok {P:Program}{w:World}{H:Hp}{h:Heap}{a:Addr}{u:HO}(r:Rd H a u) (x:HOk P w H h):bS P w H h a u:=by
 rcases r with r | ⟨o,r⟩
 ·exact x a u r
 ·obtain⟨_,q⟩:=x a _ r
  exact q
def Mut:Option HO→Prop
 |some (.lst _)=>True
 |some (.dK _)=>True
 |some (.dT _)=>True
 |some (.set _ _)=>True
 |some (.ins _ _ _)=>True
 |some (.ext _)=>True
 |_=>False
section
variable {P:Program}{w:World}{H:Hp}{h h':Heap}{x e:Addr}{o':HO}
theorem HOk.write (ok:HOk P w H h) (mu:Mut (H x)) (he:e=x∨H e=some (.own x)) (k:∀ b u,b≠e→h.get? b=some u→h'.get? b=some u) (heo:∃ u,h'.get? e=some u)
  (new:bS P w (upd H x o') h' x o'):HOk P w (upd H x o') h':=fun b u q=>by
 have Kn:∀ c y,H c=some (.own y)→c≠x:=fun c y r z=>by subst z;rw[r]at mu;exact mu
 have KP:∀ c xs,H c=some (.tup xs)→c≠x:=fun c xs r z=>by subst z;rw[r]at mu;exact mu
 by_cases hb:b=x
 ·subst hb;rw[ab]at q;cases q;exact new
 ·rw[ak hb]at q
  by_cases hbe:b=e
  ·have q':H b=some (.own x):=by
    rcases he with z | z
    ·exact absurd (hbe.trans z) hb
    ·rw[hbe];exact z
   rw[q]at q';cases q'
   obtain⟨v,hv⟩:=heo
   exact⟨v,by rw[hbe];exact hv⟩
  ·refine(ok b u q).g7 (fun c v hc r=>k c v ?_ r) (fun c r=>by rw[ak (Kn c b r)];exact r) fun c xs r=>by rw[ak (KP c xs r)];exact r
   rcases hc with rfl | hc
   ·exact hbe
   ·rintro rfl
    rcases he with z | z
    ·exact Kn c b hc z
    ·rw[hc]at z;cases z;exact hb rfl
end
structure Un (fs ex:List Addr) (H H':Hp) (h h':Heap):Prop where
 keep:∀ b o,h.get? b=some o→H b=none→b∉fs→b∉ex→h'.get? b=some o
 slot:∀ b o,h.get? b=some o→H b=none→b∈fs→b∉ex→∃ sl,h'.get? b=some { o with slots:=sl }
 free:∀ b o,h.get? b=some o→H b=none→b∉ex→H' b=none
 there:∀ b o,h.get? b=some o→b∉ex→∃ o',h'.get? b=some o'
 i4:∀ b xs,H b=some (.tup xs)→H' b=some (.tup xs)
 lg:∀ b o u,H b=some (.frz o u)→H' b=some (.frz o u)
 lE:∀ b ps,H b=some (.tbl ps)→∃ more,H' b=some (.tbl (ps ++ more))
section
variable {fs fs' ex ex':List Addr}{H H1 H2:Hp}{h h1 h2 h':Heap}{a x e:Addr}{o:HO}
theorem Un.any (u:Un fs ex H H1 h h1) {b:Addr}{ob:Obj}(q:h.get? b=some ob) (n:H b=none) (hx:b∉ex):∃ sl,h1.get? b=some { ob with slots:=sl }:=by
 by_cases hb:b∈fs
 ·exact u.slot b ob q n hb hx
 ·exact⟨ob.slots,u.keep b ob q n hb hx⟩
theorem Un.trans (a:Un fs ex H H1 h h1) (b:Un fs ex H1 H2 h1 h2):Un fs ex H H2 h h2 where
 keep:=fun c ob q n hc hx=>b.keep c ob (a.keep c ob q n hc hx) (a.free c ob q n hx) hc hx
 slot:=fun c ob q n hc hx=>by
  obtain⟨sl,e1⟩:=a.slot c ob q n hc hx
  obtain⟨sl',e2⟩:=b.slot c _ e1 (a.free c ob q n hx) hc hx
  exact⟨sl',e2⟩
 free:=fun c ob q n hx=>by
  obtain⟨o',e1⟩:=a.there c ob q hx
  exact b.free c o' e1 (a.free c ob q n hx) hx
 there:=fun c ob q hx=>by
  obtain⟨o',e1⟩:=a.there c ob q hx
  exact b.there c o' e1 hx
 i4:=fun c xs q=>b.i4 c xs (a.i4 c xs q)
 lg:=fun c ob xs q=>b.lg c ob xs (a.lg c ob xs q)
 lE:=fun c ps q=>by
  obtain⟨m1,e1⟩:=a.lE c ps q
  obtain⟨m2,e2⟩:=b.lE c _ e1
  exact⟨m1 ++ m2,by rw[e2,Array.append_assoc]⟩
theorem Un.kept (k:∀ b u,h.get? b=some u→h'.get? b=some u):Un fs ex H H h h':=
 ⟨fun b ob q _ _ _=>k b ob q,fun b ob q _ _ _=>⟨ob.slots,k b ob q⟩,fun _ _ _ n _=>n,fun b ob q _=>⟨ob,k b ob q⟩,fun _ _ q=>q,fun _ _ _ q=>q,fun _ ps q=>⟨#[],by rw[q];simp⟩⟩
theorem Un.refl:Un fs ex H H h h:=Un.kept fun _ _ q=>q
theorem Un.laid (k:∀ b u,h.get? b=some u→h'.get? b=some u) (hp:h.objs.size≤a) (hn:H a=none):Un fs ex H (upd H a o) h h' where
 keep:=fun b u q _ _ _=>k b u q
 slot:=fun b u q _ _ _=>⟨u.slots,k b u q⟩
 free:=fun b u q n _=>by rw[ak (Nat.ne_of_lt (Nat.lt_of_lt_of_le (Heap.lt_size q) hp))];exact n
 there:=fun b u q _=>⟨u,k b u q⟩
 i4:=fun b xs q=>by rw[ak (aF q hn)];exact q
 lg:=fun b u xs q=>by rw[ak (aF q hn)];exact q
 lE:=fun b ps q=>⟨#[],by rw[ak (aF q hn),q];simp⟩
theorem Un.write (mu:Mut (H x)) (he:e=x∨H e=some (.own x)) (k:∀ b u,b≠e→h.get? b=some u→h'.get? b=some u) (heo:∃ u,h'.get? e=some u):Un fs ex H (upd H x o) h h':=by
 have hx:∀ b,H b=none→b≠x:=fun b n z=>by subst z;rw[n]at mu;exact mu
 have hb:∀ b,H b=none→b≠e:=fun b n z=>by
  subst z
  rcases he with r | r
  ·exact hx b n r
  ·rw[n]at r;cases r
 have hm:∀ b u,H b=some u→¬ Mut (some u)→b≠x:=fun b u q nm z=>by subst z;rw[q]at mu;exact nm mu
 refine⟨fun b u q n _ _=>k b u (hb b n) q,fun b u q n _ _=>⟨u.slots,k b u (hb b n) q⟩,fun b u q n _=>by rw[ak (hx b n)];exact n,fun b u q _=>?_,
  fun b xs q=>by rw[ak (hm b _ q fun z=>z)];exact q,fun b u xs q=>by rw[ak (hm b _ q fun z=>z)];exact q,fun b ps q=>⟨#[],by rw[ak (hm b _ q fun z=>z),q];simp⟩⟩
 by_cases hbe:b=e
 ·subst hbe;exact heo
 ·exact⟨u,k b u hbe q⟩
theorem Un.mono (u:Un fs ex H H1 h h1) (hs:∀ b∈fs,b∈fs') (hx:∀ b∈ex,b∈ex'):Un fs' ex' H H1 h h1:=
 ⟨fun b ob q n hb he=>u.keep b ob q n (fun z=>hb (hs b z)) fun z=>he (hx b z),fun _ _ q n _ he=>u.any q n fun z=>he (hx _ z),fun b ob q n he=>u.free b ob q n fun z=>he (hx b z),fun b ob q he=>u.there b ob q fun z=>he (hx b z),u.i4,u.lg,u.lE⟩
end
def trk (h:Heap) (H:Hp):List Addr:=(List.range h.objs.size).filter fun a=>(H a).isSome
def rP (h:Heap) (H:Hp):Heap:=PySem.W.hideAll h (trk h H)
theorem AA (h:Heap) (H:Hp):(rP h H).objs.size=h.objs.size:=PySem.W.hideAll_size _ _
theorem Cb {h:Heap}{H:Hp}{b:Addr}{o:Obj}(e:h.get? b=some o) (n:H b=none):(rP h H).get? b=some o:=
 PySem.W.hideAll_get _ e fun hm=>by
  have q:(H b).isSome=true:=(List.mem_filter.mp hm).2
  rw[n]at q;simp at q
theorem Dx {h:Heap}{H:Hp}{b:Addr}{o:Obj}(e:(rP h H).get? b=some o):h.get? b=some o∧H b=none:=by
 have e':h.get? b=some o:=PySem.W.of_hideAll (trk h H) e
 refine⟨e',?_⟩
 cases q:H b with
 |none=>rfl
 |some x=>
  have hm:b∈trk h H:=List.mem_filter.mpr ⟨List.mem_range.mpr (Heap.lt_size e'),by simp[q]⟩
  have z:(rP h H).get? b=none:=PySem.W.hideAll_none (trk h H) hm
  rw[z]at e;cases e
def DW (g h:Heap) (L:Addr):List (Addr×Obj):=(List.range h.objs.size).filterMap fun a=>if a=L∨(g.get? a).isSome=true then none else (h.get? a).map fun o=>(a,o)
def rest (g h:Heap) (L d:Addr):List (Addr×Obj):=(DW g h L).filter fun p=>decide (p.1≠d)
end L2
namespace L2
open PySem PySem.Spec PyProof.Rows
structure Mod (K:PySem.W.Frag) (mg:Str→Option Value) (base:Heap):Prop where
 kin:K.In base
 glob:base.Ns mainGlobals mg
 blt:∃ mb,base.Ns builtinsNs mb∧∀ x:Str,x≠"__name__"→mb x=bootBuiltins x
 nolimit:base.NoLimit
structure Cx where
 prog:Program
 w:World
 K:PySem.W.Frag
 mg:Str→Option Value
 base:Heap
 A:Around
 N:List Str
 s_0:Shared
 H_0:Hp
 env:Env
 outer:List Env
 stack:List Env
 ex:List Addr
 fn:Str→Bool
 calm:Bool
 pn:List (Addr×Obj)
 xe:Value→Shared→Prop
def frs (l:List Env):List Addr:=l.filterMap (·.frame)
abbrev Cx.fs (X:Cx):List Addr:=frs X.outer
def Vis (sc:Scope) (x:Str):Prop:=sc.names.lookup x=some .local∨sc.names.lookup x=some .cell∨sc.names.lookup x=some .free
def Loc (sc:Scope) (x:Str):Prop:=sc.names.lookup x=some .local∨sc.names.lookup x=some .cell
def Look (env:Env) (h:Heap) (m:Str→Option Value) (x:Str) (u:Value):Prop:=
 (env.kindOf x=some .local∧m x=some u)∨((env.kindOf x=some .cell∨env.kindOf x=some .free)∧∃ c,env.cells.lookup x=some c∧h.IsCell c (some u))
structure Cx.Ok (X:Cx):Prop where
 mod:Mod X.K X.mg X.base
 kind:X.env.scope.kind = .function
 glob:X.env.globals=mainGlobals
 blt:X.env.builtins=builtinsNs
 above:X.s_0.heap.objs.size≤X.env.locals
 inj:∀ x y c,X.env.cells.lookup x=some c→X.env.cells.lookup y=some c→x=y
 has:∀ x,(X.env.kindOf x=some .cell∨X.env.kindOf x=some .free)→∃ c,X.env.cells.lookup x=some c
 cab:∀ x c,X.fn x=true→X.env.cells.lookup x=some c→X.s_0.heap.objs.size≤c
 hd:X.calm=true→X.A.handled=none
 frames:X.A.frames=some X.stack
 stk:X.stack=X.outer∨(X.stack=X.env :: X.outer∧X.env.frame=some X.env.locals)
 exf:∀ b∈X.ex,b≠X.env.locals∧∀ x c,X.env.cells.lookup x=some c→c≠b
 bs:∀ b o,X.base.get? b=some o→X.s_0.heap.get? b=some o∧X.H_0 b=none
 bsz:X.base.objs.size≤X.s_0.heap.objs.size
 BQ:∀ b o,X.base.get? b=some o→b∉X.ex
 Cj:∀ b∈X.ex,b∉X.fs
 ng:X.s_0.heap.FunFrames X.base X.outer
 frf:∀ b∈X.fs,X.H_0 b=none
structure Inv (X:Cx) (pins:List (Addr×Obj)) (σ:List (Option V)) (H:Hp) (s:Shared):Prop where
 ok:X.Ok
 os:s.os=X.s_0.os
 bare:AllBare s.gens
 base:Un X.fs X.ex X.H_0 H X.s_0.heap s.heap
 loc:∃ m,s.heap.Ns X.env.locals m∧∀ (i:Nat) (x:Str) (v:V),X.N[i]? = some x→σ[i]? = some (some v)→Vis X.env.scope x→∃ u,RelV v u∧Look X.env s.heap m x u
 cell:∀ x c,X.env.cells.lookup x=some c→∃ v,s.heap.IsCell c v
 free:H X.env.locals=none
 gj:∀ x c,X.env.cells.lookup x=some c→H c=none
 pin:∀ p∈X.pn ++ pins,s.heap.get? p.1=some p.2∧H p.1=none∧p.1≠X.env.locals∧p.1∉X.fs∧∀ v,p.2.data ≠ .cell v
 hok:HOk X.prog X.w H s.heap
 len:σ.length=X.N.length
section
variable {X:Cx}{pins:List (Addr×Obj)}{σ:List (Option V)}{H H':Hp}{s:Shared}{h':Heap}
theorem Cx.Ok.F3 (ok:X.Ok) {b:Addr}{o:Obj}(e:X.base.get? b=some o):b∉X.fs:=fun hb=>by
 have:=(ok.ng.mem hb).1
 rw[e]at this;cases this
theorem Inv.bs (I:Inv X pins σ H s):∀ b o,X.base.get? b=some o→s.heap.get? b=some o∧H b=none:=fun b o e=>
 ⟨I.base.keep b o (I.ok.bs b o e).1 (I.ok.bs b o e).2 (I.ok.F3 e) (I.ok.BQ b o e),I.base.free b o (I.ok.bs b o e).1 (I.ok.bs b o e).2 (I.ok.BQ b o e)⟩
theorem Inv.bk (I:Inv X pins σ H s):∀ b o,X.base.get? b=some o→s.heap.get? b=some o:=fun b o e=>(I.bs b o e).1
theorem Inv.mod (I:Inv X pins σ H s):Mod X.K X.mg X.base:=I.ok.mod
theorem Inv.kIn (I:Inv X pins σ H s):X.K.In s.heap:=I.ok.mod.kin.keeps I.bk
theorem Inv.nolimit (I:Inv X pins σ H s):s.heap.NoLimit:=I.ok.mod.nolimit.keeps I.bk
theorem Inv.lt (I:Inv X pins σ H s):X.env.locals < s.heap.objs.size:=let ⟨_,hn,_⟩:=I.loc;hn.lt
theorem Inv.sz (I:Inv X pins σ H s):X.s_0.heap.objs.size≤s.heap.objs.size:=Nat.le_trans I.ok.above (Nat.le_of_lt I.lt)
theorem Inv.ED (I:Inv X pins σ H s) {a:Addr}(h:s.heap.objs.size≤a):a∉X.fs:=fun hb=>by
 obtain⟨_,o,ho,_⟩:=I.ok.ng.mem hb
 exact absurd (Nat.lt_of_lt_of_le (Heap.lt_size ho) (Nat.le_trans I.sz h)) (Nat.lt_irrefl _)
theorem Inv.cne (I:Inv X pins σ H s):∀ x c,X.env.cells.lookup x=some c→c≠X.env.locals:=fun x c e z=>by
 obtain⟨v,o,ho,hd⟩:=I.cell x c e
 obtain⟨m,⟨o',es,ep,ho',hd',_⟩,_⟩:=I.loc
 rw[z,ho']at ho;cases ho;rw[hd']at hd;cases hd
theorem Inv.ng (I:Inv X pins σ H s):s.heap.FunFrames X.base X.outer:=by
 have all:∀ (l:List Env),(∀ b∈frs l,b∈X.fs)→X.s_0.heap.FunFrames X.base l→s.heap.FunFrames X.base l:=by
  intro l
  induction l with
  |nil=>intro _ _;trivial
  |cons env r ih=>
   intro hs hl
   obtain⟨hk,⟨L,o,hf,hn,ho,hd⟩,hr⟩:=hl
   have hL:L∈X.fs:=hs L (by unfold frs;rw[List.filterMap_cons,hf];exact List.mem_cons_self)
   obtain⟨sl,e⟩:=I.base.slot L o ho (I.ok.frf L hL) hL fun z=>I.ok.Cj L z hL
   exact⟨hk,⟨L,_,hf,hn,e,hd⟩,ih (fun b hb=>hs b (by unfold frs;rw[List.filterMap_cons,hf];exact List.mem_cons_of_mem _ hb)) hr⟩
 exact all X.outer (fun _ hb=>hb) I.ok.ng
theorem Inv.stack (I:Inv X pins σ H s):s.heap.FunFrames X.base X.stack:=by
 rcases I.ok.stk with e | ⟨e,hf⟩
 ·rw[e];exact I.ng
 ·rw[e]
  obtain⟨m,hn,_⟩:=I.loc
  refine .cons (by rw[I.ok.kind];decide) hf hn ?_ I.ng
  exact Heap.get?_none_of_le (Nat.le_trans I.ok.bsz I.ok.above)
theorem Inv.xy (I:Inv X pins σ H s):∀ b∈frs X.stack,b∈X.env.locals :: X.fs:=fun b hb=>by
 rcases I.ok.stk with e | ⟨e,hf⟩
 ·rw[e]at hb;exact List.mem_cons_of_mem _ hb
 ·rw[e]at hb
  unfold frs at hb
  rw[List.filterMap_cons,hf]at hb
  exact hb
theorem Inv.um (I:Inv X pins σ H s):∀ b∈frs X.stack,H b=none:=fun b hb=>by
 rcases List.mem_cons.mp (I.xy b hb) with e | hb
 ·rw[e];exact I.free
 ·obtain⟨_,o,ho,_⟩:=I.ok.ng.mem hb
  exact I.base.free b o ho (I.ok.frf b hb) fun z=>I.ok.Cj b z hb
theorem Inv.step {g':Array GenState}{t':Nat}{d':Drawn}{ch:List Addr}(I:Inv X pins σ H s)
  (hch:∀ b∈ch,(b∈X.ex∨X.s_0.heap.objs.size≤b)∧b≠X.env.locals∧(∀ x c,X.env.cells.lookup x=some c→c≠b)∧∀ p∈X.pn ++ pins,p.1≠b)
  (keep:∀ b o,b≠X.env.locals→b∉X.fs→b∉ch→s.heap.get? b=some o→H b=none→h'.get? b=some o)
  (slot:∀ b o,b≠X.env.locals→b∈X.fs→b∉ch→s.heap.get? b=some o→H b=none→∃ sl,h'.get? b=some { o with slots:=sl }) (free:∀ b o,b∉ch→s.heap.get? b=some o→H b=none→H' b=none)
  (there:∀ b o,b∉ch→s.heap.get? b=some o→∃ o',h'.get? b=some o')
  (i4:∀ b xs,H b=some (.tup xs)→H' b=some (.tup xs)) (lg:∀ b o u,H b=some (.frz o u)→H' b=some (.frz o u)) (lE:∀ b ps,H b=some (.tbl ps)→∃ more,H' b=some (.tbl (ps ++ more)))
  (ns:∀ m,s.heap.Ns X.env.locals m→h'.Ns X.env.locals m) (hok:HOk X.prog X.w H' h') (hg:AllBare g') :
  Inv X pins σ H' { s with heap:=h',gens:=g',drawn:=d',toks:=t' }:=by
 have neL:∀ b o,X.s_0.heap.get? b=some o→b≠X.env.locals:=fun b o e=>Nat.ne_of_lt (Nat.lt_of_lt_of_le (Heap.lt_size e) I.ok.above)
 have neC:∀ b o,X.s_0.heap.get? b=some o→b∉X.ex→b∉ch:=fun b o e hx hb=>by
  rcases(hch b hb).1 with z | z
  ·exact hx z
  ·exact absurd (Nat.lt_of_lt_of_le (Heap.lt_size e) z) (Nat.lt_irrefl _)
 have cellK:∀ x c,X.env.cells.lookup x=some c→∀ v,s.heap.IsCell c v→h'.IsCell c v:=fun x c e v ⟨o,ho,hd⟩=>by
  have nch:c∉ch:=fun z=>(hch c z).2.2.1 x c e rfl
  by_cases hc:c∈X.fs
  ·obtain⟨sl,q⟩:=slot c o (I.cne x c e) hc nch ho (I.gj x c e)
   exact⟨_,q,hd⟩
  ·exact⟨o,keep c o (I.cne x c e) hc nch ho (I.gj x c e),hd⟩
 refine⟨I.ok,I.os,hg,⟨fun b o e n hb hx=>?_,fun b o e n hb hx=>?_,fun b o e n hx=>?_,fun b o e hx=>?_,fun b xs e=>i4 b xs (I.base.i4 b xs e),fun b o xs e=>lg b o xs (I.base.lg b o xs e),fun b ps e=>?_⟩,?_,fun x c e=>?_,?_,fun x c e=>?_,fun p hp=>?_,hok,I.len⟩
 ·exact keep b o (neL b o e) hb (neC b o e hx) (I.base.keep b o e n hb hx) (I.base.free b o e n hx)
 ·obtain⟨sl,e1⟩:=I.base.slot b o e n hb hx
  obtain⟨sl',e2⟩:=slot b _ (neL b o e) hb (neC b o e hx) e1 (I.base.free b o e n hx)
  exact⟨sl',e2⟩
 ·obtain⟨o',e1⟩:=I.base.there b o e hx
  exact free b o' (neC b o e hx) e1 (I.base.free b o e n hx)
 ·obtain⟨o',e1⟩:=I.base.there b o e hx
  exact there b o' (neC b o e hx) e1
 ·obtain⟨m1,e1⟩:=I.base.lE b ps e
  obtain⟨m2,e2⟩:=lE b _ e1
  exact⟨m1 ++ m2,by rw[e2,Array.append_assoc]⟩
 ·obtain⟨m,hn,hl⟩:=I.loc
  refine⟨m,ns m hn,fun i x v e1 e2 e3=>?_⟩
  obtain⟨u,r,l⟩:=hl i x v e1 e2 e3
  refine⟨u,r,?_⟩
  rcases l with l | ⟨k,c,e,z⟩
  ·exact .inl l
  ·exact .inr ⟨k,c,e,cellK x c e _ z⟩
 ·obtain⟨v,z⟩:=I.cell x c e
  exact⟨v,cellK x c e v z⟩
 ·obtain⟨m,⟨o,_,_,ho,_⟩,_⟩:=I.loc
  exact free _ o (fun z=>(hch _ z).2.1 rfl) ho I.free
 ·obtain⟨v,o,ho,hd⟩:=I.cell x c e
  exact free c o (fun z=>(hch c z).2.2.1 x c e rfl) ho (I.gj x c e)
 ·obtain⟨e,n,ne,nf,d⟩:=I.pin p hp
  have nch:p.1∉ch:=fun z=>(hch p.1 z).2.2.2 p hp rfl
  exact⟨keep p.1 p.2 ne nf nch e n,free p.1 p.2 nch e n,ne,nf,d⟩
theorem Inv.un {t':Nat}(I:Inv X pins σ H s) (u:Un X.fs [] H H' s.heap h') (hok:HOk X.prog X.w H' h'):Inv X pins σ H' { s with heap:=h',toks:=t' }:=by
 obtain⟨m,⟨o,es,ep,ho,r⟩,_⟩:=id I.loc
 obtain⟨sl,hL⟩:=u.any ho I.free (by simp)
 exact I.step (g':=s.gens) (d':=s.drawn) (ch:=[]) (fun _ z=>nomatch z) (fun b o _ hb _ e n=>u.keep b o e n hb (by simp)) (fun b o _ hb _ e n=>u.slot b o e n hb (by simp)) (fun b o _ e n=>u.free b o e n (by simp)) (fun b o _ e=>u.there b o e (by simp)) u.i4 u.lg u.lE (fun m' hm=>by
  obtain⟨o',es',ep',ho',r'⟩:=hm
  rw[ho]at ho';cases ho'
  exact⟨_,es',ep',hL,r'⟩) hok I.bare
theorem Inv.call {g':Array GenState}{t':Nat}{d':Drawn}{ch:List Addr}(I:Inv X pins σ H s) (u:Un (frs X.stack) ch H H' s.heap h') (hok:HOk X.prog X.w H' h') (hg:AllBare g')
  (hch:∀ b∈ch,(b∈X.ex∨X.s_0.heap.objs.size≤b)∧b≠X.env.locals∧(∀ x c,X.env.cells.lookup x=some c→c≠b)∧∀ p∈X.pn ++ pins,p.1≠b) :
  Inv X pins σ H' { s with heap:=h',gens:=g',drawn:=d',toks:=t' }:=by
 obtain⟨m,⟨o,es,ep,ho,r⟩,_⟩:=id I.loc
 obtain⟨sl,hL⟩:=u.any ho I.free fun z=>(hch _ z).2.1 rfl
 exact I.step (ch:=ch) hch (fun b o hL hb hc e n=>u.keep b o e n (fun z=>(List.mem_cons.mp (I.xy b z)).elim hL hb) hc) (fun b o _ _ hc e n=>u.any e n hc) (fun b o hc e n=>u.free b o e n hc) (fun b o hc e=>u.there b o e hc) u.i4 u.lg u.lE (fun m' hm=>by
  obtain⟨o',es',ep',ho',r'⟩:=hm
  rw[ho]at ho';cases ho'
  exact⟨_,es',ep',hL,r'⟩) hok hg
theorem Inv.turned {t':Nat}{it:Addr}(I:Inv X pins σ H s) (k:∀ b o,b≠it→s.heap.get? b=some o→h'.get? b=some o) (hn:H it=none) (hL:it≠X.env.locals)
  (h1:it∈X.ex∨X.s_0.heap.objs.size≤it) (h2:∀ x c,X.env.cells.lookup x=some c→c≠it) (h3:∀ p∈X.pn ++ pins,p.1≠it):Inv X pins σ H { s with heap:=h',toks:=t' }:=by
 have nit:∀ b u,H b=some u→b≠it:=fun b u e z=>by rw[z,hn]at e;cases e
 refine I.step (g':=s.gens) (d':=s.drawn) (ch:=[it]) (fun b hb=>?_) (fun b o _ _ hc e _=>k b o (fun z=>hc (by simp[z])) e) (fun b o _ _ hc e _=>⟨o.slots,k b o (fun z=>hc (by simp[z])) e⟩) (fun _ _ _ _ n=>n)
  (fun b o hc e=>⟨o,k b o (fun z=>hc (by simp[z])) e⟩) (fun _ _ e=>e) (fun _ _ _ e=>e) (fun b ps e=>⟨#[],by rw[e];simp⟩) (fun m hm=>?_) (fun b u e=>?_) I.bare
 ·have e:b=it:=by simpa using hb
  subst e
  exact⟨h1,hL,h2,h3⟩
 ·obtain⟨o,es,ep,ho,r⟩:=hm
  exact⟨o,es,ep,k _ o (Ne.symm hL) ho,r⟩
 ·refine(I.hok b u e).g7 (fun c v hc q=>k c v ?_ q) (fun _ q=>q) fun _ _ q=>q
  rcases hc with z | z
  ·rw[z];exact nit b u e
  ·exact nit c _ z
theorem Inv.tok (I:Inv X pins σ H s) (t:Nat):Inv X pins σ H { s with toks:=t }:=I.un (h':=s.heap) (t':=t) Un.refl I.hok
theorem Inv.kept {t':Nat}(I:Inv X pins σ H s) (k:∀ b u,s.heap.get? b=some u→h'.get? b=some u):Inv X pins σ H { s with heap:=h',toks:=t' }:=I.un (Un.kept k) (I.hok.kept k)
theorem Inv.laid {a:Addr}{o:HO}{t':Nat}(I:Inv X pins σ H s) (k:∀ b u,s.heap.get? b=some u→h'.get? b=some u) (hp:s.heap.objs.size≤a) (new:bS X.prog X.w (upd H a o) h' a o) :
  Inv X pins σ (upd H a o) { s with heap:=h',toks:=t' }:=I.un (Un.laid k hp (I.hok.fresh hp)) (I.hok.laid k hp new)
theorem Inv.write {x e:Addr}{o:HO}{t':Nat}(I:Inv X pins σ H s) (mu:Mut (H x)) (he:e=x∨H e=some (.own x)) (k:∀ b u,b≠e→s.heap.get? b=some u→h'.get? b=some u) (heo:∃ u,h'.get? e=some u)
  (new:bS X.prog X.w (upd H x o) h' x o):Inv X pins σ (upd H x o) { s with heap:=h',toks:=t' }:=I.un (Un.write mu he k heo) (I.hok.write mu he k heo new)
theorem Inv.weak {σ':List (Option V)}(I:Inv X pins σ H s) (hl:σ'.length=σ.length) (w:∀ (i:Nat) v,σ'[i]? = some (some v)→σ[i]? = some (some v)):Inv X pins σ' H s:=
 ⟨I.ok,I.os,I.bare,I.base,let ⟨m,hn,hl'⟩:=I.loc;⟨m,hn,fun i x v e1 e2 e3=>hl' i x v e1 (w i v e2) e3⟩,I.cell,I.free,I.gj,I.pin,I.hok,hl.trans I.len⟩
theorem Inv.gf {Iz:List (Addr×Obj)}(I:Inv X pins σ H s) (h:∀ p∈Iz,s.heap.get? p.1=some p.2∧H p.1=none∧p.1≠X.env.locals∧p.1∉X.fs∧∀ v,p.2.data ≠ .cell v):Inv X Iz σ H s:=
 ⟨I.ok,I.os,I.bare,I.base,I.loc,I.cell,I.free,I.gj,fun p hp=>(List.mem_append.mp hp).elim (fun z=>I.pin p (List.mem_append_left _ z)) (h p),I.hok,I.len⟩
theorem qm {N:List Str}(hN:N.Nodup) {i j:Nat}{x:Str}(a:N[i]? = some x) (b:N[j]? = some x):i=j:=by
 obtain⟨h1,e1⟩:=List.getElem?_eq_some_iff.mp a
 obtain⟨h2,e2⟩:=List.getElem?_eq_some_iff.mp b
 exact(List.getElem_inj hN).mp (e1.trans e2.symm)
theorem sL {M:Model}{A:Around}{E:Value→Shared→Prop}{i:Nat}{x:Str}{v:V}{u:Value}{Q:Unit→Shared→Prop}(I:Inv X pins σ H s) (hN:X.N.Nodup) (hi:X.N[i]? = some x) (hx:Loc X.env.scope x) (r:RelV v u)
  (h:∀ s',Inv X pins (σ.set i (some v)) H s'→(∃ a,Heap.SameBut a s.heap s'.heap∧(a=X.env.locals∨X.env.cells.lookup x=some a))→Q () s') (hf:X.fn x=true∨X.env.scope.names.lookup x=some .local:=by first | exact .inl rfl | exact .inr rfl | assumption):wpAny M A (storeName X.env x u) Q E s:=by
 obtain⟨m,hn,hl⟩:=id I.loc
 have hcls:(X.env.scope.kind == .class || (X.env.scope.kind == .module && X.env.locals != X.env.globals))=false:=by rw[I.ok.kind];rfl
 have hiσ:i < σ.length:=by rw[I.len];exact(List.getElem?_eq_some_iff.mp hi).1
 have cne:=I.cne
 have tracked:∀ {a:Addr}{h':Heap},(∃ o,s.heap.get? a=some o∧H a=none)→Heap.SameBut a s.heap h'→HOk X.prog X.w H h':=fun {a h'} ha hs b ob e=>by
  obtain⟨_,_,hfree⟩:=ha
  refine(I.hok b ob e).g7 (fun c w' hc q=>(hs.2 c ?_).trans q) (fun _ q=>q) fun _ _ q=>q
  rintro rfl
  rcases hc with rfl | hc
  ·rw[hfree]at e;cases e
  ·rw[hfree]at hc;cases hc
 rcases hx with hk | hk
 ·refine wpAny_storeName_local hk hn (fun h' hn' hs=>?_) hcls
  obtain⟨oL,_,_,hoL,_⟩:=id hn
  refine h _ ⟨I.ok,I.os,I.bare,⟨fun b o e n hb hx=>?_,fun b o e n hb hx=>?_,I.base.free,fun b o e hx=>?_,I.base.i4,I.base.lg,I.base.lE⟩,⟨_,hn',fun j y v' e1 e2 e3=>?_⟩,fun y c e=>?_,I.free,I.gj,fun p hp=>?_,tracked ⟨oL,hoL,I.free⟩ hs,by simpa using I.len⟩ ⟨_,hs,.inl rfl⟩
  ·exact(hs.2 b (Nat.ne_of_lt (Nat.lt_of_lt_of_le (Heap.lt_size e) I.ok.above))).trans (I.base.keep b o e n hb hx)
  ·obtain⟨sl,e1⟩:=I.base.slot b o e n hb hx
   exact⟨sl,(hs.2 b (Nat.ne_of_lt (Nat.lt_of_lt_of_le (Heap.lt_size e) I.ok.above))).trans e1⟩
  ·obtain⟨o',e1⟩:=I.base.there b o e hx
   exact⟨o',(hs.2 b (Nat.ne_of_lt (Nat.lt_of_lt_of_le (Heap.lt_size e) I.ok.above))).trans e1⟩
  ·by_cases hj:j=i
   ·subst hj
    rw[hi]at e1;cases e1
    rw[List.getElem?_set_self hiσ]at e2
    cases e2
    exact⟨u,r,.inl ⟨hk,by simp⟩⟩
   ·rw[List.getElem?_set_ne (Ne.symm hj)]at e2
    obtain⟨u',r',q⟩:=hl j y v' e1 e2 e3
    refine⟨u',r',?_⟩
    rcases q with ⟨k,e⟩ | ⟨k,c,e,z⟩
    ·refine .inl ⟨k,?_⟩
     have:y≠x:=fun e=>hj (qm hN e1 (e ▸ hi))
     simp[this,e]
    ·exact .inr ⟨k,c,e,z.sameBut hs (cne y c e)⟩
  ·obtain⟨w',z⟩:=I.cell y c e
   exact⟨w',z.sameBut hs (cne y c e)⟩
  ·obtain⟨e,n,ne,nf,d⟩:=I.pin p hp
   exact⟨(hs.2 p.1 ne).trans e,n,ne,nf,d⟩
 ·have hfn:X.fn x=true:=by
   rcases hf with z | z
   ·exact z
   ·rw[z]at hk;cases hk
  obtain⟨c,hc⟩:=I.ok.has x (.inl hk)
  obtain⟨w',z⟩:=I.cell x c hc
  refine wpAny_storeName_cell I.ok.kind hk hc z (fun h' hc' hs=>?_)
  obtain⟨oc,hoc,K3⟩:=id z
  refine h { s with heap:=h' } ⟨I.ok,I.os,I.bare,⟨fun b o e n hb hx=>?_,fun b o e n hb hx=>?_,I.base.free,fun b o e hx=>?_,I.base.i4,I.base.lg,I.base.lE⟩,⟨m,hn.sameBut hs (Ne.symm (cne x c hc)),fun j y v' e1 e2 e3=>?_⟩,fun y c' e=>?_,I.free,I.gj,fun p hp=>?_,tracked ⟨oc,hoc,I.gj x c hc⟩ hs,by simpa using I.len⟩ ⟨c,hs,.inr hc⟩
  ·exact(hs.2 b (Nat.ne_of_lt (Nat.lt_of_lt_of_le (Heap.lt_size e) (I.ok.cab x c hfn hc)))).trans (I.base.keep b o e n hb hx)
  ·obtain⟨sl,e1⟩:=I.base.slot b o e n hb hx
   exact⟨sl,(hs.2 b (Nat.ne_of_lt (Nat.lt_of_lt_of_le (Heap.lt_size e) (I.ok.cab x c hfn hc)))).trans e1⟩
  ·obtain⟨o',e1⟩:=I.base.there b o e hx
   exact⟨o',(hs.2 b (Nat.ne_of_lt (Nat.lt_of_lt_of_le (Heap.lt_size e) (I.ok.cab x c hfn hc)))).trans e1⟩
  ·by_cases hj:j=i
   ·subst hj
    rw[hi]at e1;cases e1
    rw[List.getElem?_set_self hiσ]at e2
    cases e2
    exact⟨u,r,.inr ⟨.inl hk,c,hc,hc'⟩⟩
   ·rw[List.getElem?_set_ne (Ne.symm hj)]at e2
    obtain⟨u',r',q⟩:=hl j y v' e1 e2 e3
    refine⟨u',r',?_⟩
    rcases q with q | ⟨k,c',e,z'⟩
    ·exact .inl q
    ·refine .inr ⟨k,c',e,z'.sameBut hs ?_⟩
     rintro rfl
     exact hj (qm hN e1 (I.ok.inj _ _ _ e hc ▸ hi))
  ·by_cases hcc:c'=c
   ·subst hcc;exact⟨_,hc'⟩
   ·obtain⟨w2,z2⟩:=I.cell y c' e
    exact⟨w2,z2.sameBut hs hcc⟩
  ·obtain⟨e,n,ne,nf,d⟩:=I.pin p hp
   refine⟨(hs.2 p.1 ?_).trans e,n,ne,nf,d⟩
   intro q
   rw[q,hoc]at e
   have q':oc=p.2:=Option.some.inj e
   exact d w' (by rw[←q'];exact K3)
theorem vx {M:Model}{A:Around}{E:Value→Shared→Prop}{i:Nat}{x:Str}{v:V}{u:Value}{Q:Unit→Shared→Prop}(I:Inv X pins σ H s) (hN:X.N.Nodup) (hi:X.N[i]? = some x) (hx:Loc X.env.scope x) (r:RelV v u)
  (h:∀ s',Inv X pins (σ.set i (some v)) H s'→Q () s') (hf:X.fn x=true∨X.env.scope.names.lookup x=some .local:=by first | exact .inl rfl | exact .inr rfl | assumption):wpAny M A (storeName X.env x u) Q E s:=
 sL I hN hi hx r (fun s' I' _=>h s' I') hf
theorem Inv.FQ {s':Shared}{ch:List Addr}(I:Inv X pins σ H s) (ho:s'.os=s.os) (u:Un (frs X.stack) ch H H' s.heap s'.heap) (hok:HOk X.prog X.w H' s'.heap) (hg:AllBare s'.gens)
  (hch:∀ b∈ch,(b∈X.ex∨X.s_0.heap.objs.size≤b)∧b≠X.env.locals∧(∀ x c,X.env.cells.lookup x=some c→c≠b)∧∀ p∈X.pn ++ pins,p.1≠b):Inv X pins σ H' s':=by
 obtain⟨h',g',d',t',o'⟩:=s'
 have e:o'=s.os:=ho
 subst e
 exact I.call (g':=g') (t':=t') (d':=d') u hok hg hch
end
abbrev XK:=Value→Option Addr→Hp→Prop
abbrev St:=List (Option V)
abbrev VK:=V→Hp→Prop
abbrev TE:=St→Hp→VK→Prop
abbrev TT:=St→Hp→(Bool→Hp→Prop)→Prop
abbrev TA:=St→Hp→(List V→Hp→Prop)→Prop
structure Ends where
 nx:St→Hp→Prop
 rt:VK
 bk:St→Hp→Prop:=fun _ _=>False
 ct:St→Hp→Prop:=fun _ _=>False
abbrev TS:=Ends→St→Hp→Prop
def EP (X:Cx) (pins:List (Addr×Obj)) (σ:St) (Q:VK) (u:Value) (s':Shared):Prop:=∃ v H',Inv X pins σ H' s'∧RelV v u∧Q v H'
def TP (X:Cx) (pins:List (Addr×Obj)) (σ:St) (Q:Bool→Hp→Prop) (b:Bool) (s':Shared):Prop:=∃ H',Inv X pins σ H' s'∧Q b H'
def AP (X:Cx) (pins:List (Addr×Obj)) (σ:St) (Q:List V→Hp→Prop) (us:List Value) (s':Shared):Prop:=∃ vs H',Inv X pins σ H' s'∧Vals vs us∧Q vs H'
def SP (X:Cx) (pins:List (Addr×Obj)) (D:Ends) (f:Flow) (s':Shared):Prop:=
 match f with
 | .next=>∃ σ' H',Inv X pins σ' H' s'∧D.nx σ' H'
 | .brk=>∃ σ' H',Inv X pins σ' H' s'∧D.bk σ' H'
 | .cont=>∃ σ' H',Inv X pins σ' H' s'∧D.ct σ' H'
 | .ret u=>∃ v σ' H',Inv X pins σ' H' s'∧RelV v u∧D.rt v H'
def PE (X:Cx) (e:Expr) (t:TE):Prop:=
 ∀ (pins:List (Addr×Obj)) (s:Shared) (σ:St) (H:Hp) (Q:VK),Inv X pins σ H s→t σ H Q→wpAny (model X.prog X.w) X.A (eval e X.env) (EP X pins σ Q) X.xe s
def PT (X:Cx) (e:Expr) (t:TT):Prop:=
 ∀ (pins:List (Addr×Obj)) (s:Shared) (σ:St) (H:Hp) (Q:Bool→Hp→Prop),Inv X pins σ H s→t σ H Q→wpAny (model X.prog X.w) X.A (isTrue e X.env (eval e X.env)) (TP X pins σ Q) X.xe s
def PW (X:Cx) (e:Expr) (t:TT):Prop:=
 ∀ (whole:Sem Value) (pins:List (Addr×Obj)) (s:Shared) (σ:St) (H:Hp) (Q:Bool→Hp→Prop),Inv X pins σ H s→t σ H Q→wpAny (model X.prog X.w) X.A (isTrue e X.env whole) (TP X pins σ Q) X.xe s
theorem PW.pt {X:Cx}{e:Expr}{t:TT}(h:PW X e t):PT X e t:=h _
def PA (X:Cx) (es:List Expr) (t:TA):Prop:=
 ∀ (pos:Pos) (pins:List (Addr×Obj)) (s:Shared) (σ:St) (H:Hp) (Q:List V→Hp→Prop),Inv X pins σ H s→t σ H Q→wpAny (model X.prog X.w) X.A (spliced (backTo pos (starEach es X.env))) (AP X pins σ Q) X.xe s
def PS (X:Cx) (st:Stmt) (t:TS):Prop:=
 ∀ (pins:List (Addr×Obj)) (s:Shared) (σ:St) (H:Hp) (D:Ends),Inv X pins σ H s→t D σ H→wpAny (model X.prog X.w) X.A (exec st X.env) (SP X pins D) X.xe s
def PSs (X:Cx) (st:List Stmt) (t:TS):Prop:=
 ∀ (pins:List (Addr×Obj)) (s:Shared) (σ:St) (H:Hp) (D:Ends),Inv X pins σ H s→t D σ H→wpAny (model X.prog X.w) X.A (execs st X.env) (SP X pins D) X.xe s
theorem thn {α:Type}{t:Sem α}{Q Q':α→Shared→Prop}{M:Model}{A:Around}{E:Value→Shared→Prop}{s:Shared}(h:wpAny M A t Q E s) (hQ:∀ a s,Q a s→Q' a s):wpAny M A t Q' E s:=wpAny_mono h hQ fun _ _ x=>x
end L2
namespace L2
open PySem PySem.Spec PyProof.Rows
section
variable {X:Cx}
def kT (i:Nat):TE:=fun σ H Q=>∃ v,σ[i]? = some (some v)∧Q v H
def tC (v:V):TE:=fun _ H Q=>Q v H
theorem Ez {i:Nat}{x:Str}{pos:Pos}(hN:X.N[i]? = some x) (hv:Vis X.env.scope x) (hd:(x == ("__debug__" : Str))=false:=by decide) (hcd:(x == ("__classdict__" : Str))=false:=by decide):PE X (.Name x pos) (kT i):=by
 intro pins s σ H Q I h
 obtain⟨v,e,h⟩:=h
 obtain⟨m,hn,hl⟩:=I.loc
 obtain⟨u,r,l⟩:=hl i x v hN e hv
 have fin:EP X pins σ Q u s:=⟨v,H,I,r,h⟩
 rcases l with ⟨hk,hm⟩ | ⟨hk,c,hc,hcell⟩
 ·exact wpAny_Name (wpAny_loadName_local I.ok.kind hk hn hm fin) hd
 ·rcases hk with hk | hk
  ·exact wpAny_Name (wpAny_loadName_cell I.ok.kind hk hc hcell fin) hd
  ·exact wpAny_Name (wpAny_loadName_free I.ok.kind hk hc hcell fin hcd) hd
theorem aj {i j pos}:PE X (.Constant (.int i) j pos) (tC (.int i)):=fun _ _ _ H _ I h=>wpAny_Constant_int ⟨.int i,H,I.tok _,⟨_,rfl⟩,h⟩
theorem og {b j pos}:PE X (.Constant (.bool b) j pos) (tC (.bl b)):=fun _ _ _ H _ I h=>Constant_bool ⟨.bl b,H,I,rfl,h⟩
theorem jr {j pos}:PE X (.Constant .none j pos) (tC .non):=fun _ _ _ H _ I h=>Constant_none ⟨.non,H,I,rfl,h⟩
def Gl (X:Cx) (x:Str):Prop:=X.env.kindOf x=some .globalImplicit
theorem uK {E:Value→Shared→Prop}{pins:List (Addr×Obj)}{s:Shared}{σ:St}{H:Hp}{x:Str}{u:Value}{pos:Pos}{Q:Value→Shared→Prop}(I:Inv X pins σ H s) (hg:Gl X x) (hm:X.mg x=some u) (h:Q u s)
  (hd:(x == ("__debug__" : Str))=false:=by decide):wpAny (model X.prog X.w) X.A (eval (.Name x pos) X.env) Q E s:=
 Calls.Name_function_global I.ok.kind hg (Calls.loadGlobal_global (by rw[I.ok.glob];exact I.mod.glob.keeps I.bk) hm h) hd
theorem qw {E:Value→Shared→Prop}{pins:List (Addr×Obj)}{s:Shared}{σ:St}{H:Hp}{x:Str}{u:Value}{pos:Pos}{Q:Value→Shared→Prop}(I:Inv X pins σ H s) (hg:Gl X x) (hm:X.mg x=none) (hv:bootBuiltins x=some u) (h:Q u s)
  (hn:x≠"__name__":=by decide) (hd:(x == ("__debug__" : Str))=false:=by decide):wpAny (model X.prog X.w) X.A (eval (.Name x pos) X.env) Q E s:=by
 obtain⟨mb,h1,h2⟩:=I.mod.blt
 exact Calls.Name_function_global I.ok.kind hg (Calls.loadGlobal_builtin (by rw[I.ok.glob];exact I.mod.glob.keeps I.bk) hm (by rw[I.ok.blt];exact h1.keeps I.bk) ((h2 x hn).trans hv) h) hd
theorem uA {x:Str}{v:V}{u:Value}{pos:Pos}(hg:Gl X x) (hm:X.mg x=some u) (r:RelV v u) (hd:(x == ("__debug__" : Str))=false:=by decide):PE X (.Name x pos) (tC v):=
 fun _ _ _ H _ I h=>uK I hg hm ⟨v,H,I,r,h⟩ hd
variable {a b:Expr}{ta tb:TE}{pos:Pos}
def PC (X:Cx) (op:CmpOp) (a b:Expr) (t:TE):Prop:=
 ∀ (pins:List (Addr×Obj)) (s:Shared) (σ:St) (H:Hp) (Q:VK),Inv X pins σ H s→t σ H Q →
  wpAny (model X.prog X.w) X.A (eval a X.env) (fun v s₁=>wpAny (model X.prog X.w) X.A (eval b X.env) (fun u s₂=>wpAny (model X.prog X.w) X.A (compareOp op v u) (EP X pins σ Q) X.xe s₂) X.xe s₁) X.xe s
def tB (t:TE):TT:=fun σ H Q=>t σ H fun x H1=>∃ c,x = .bl c∧Q c H1
theorem cR {op:CmpOp}{t:TE}(h:PC X op a b t) (h1:behindInMarks op b=false:=by first | exact Fu _ (by decide) (by decide) | rfl):PT X (.Compare a [op] [b] pos) (tB t):=by
 intro pins s σ H Q I hw
 refine wpAny_isTrue_Compare1 (thn (h pins s σ H _ I hw) fun v s1 h1=>thn h1 fun u s2 h2=>thn h2 fun c s3 ⟨x,H1,I1,r1,q1⟩=>?_) h1
 obtain⟨d,rfl,q⟩:=q1
 cases r1
 exact wpAny_truthy_bool ⟨H1,I1,q⟩
theorem cE {e:Expr}{t:TE}(h:PE X e t) (he:∀ whole,isTrue e X.env whole=(do let v ←whole;standAt e.pos;holding [v] (truthy v)):=by intro _;rfl):PT X e (tB t):=by
 intro pins s σ H Q I hw
 refine isTrue_plain (thn (h pins s σ H _ I hw) fun v s1 ⟨x,H1,I1,r1,q1⟩=>?_) (he _)
 obtain⟨d,rfl,q⟩:=q1
 cases r1
 exact wpAny_truthy_bool ⟨H1,I1,q⟩
variable {tA tB':TT}{rest:List Expr}
def Fp (t u:TT):TT:=fun σ H Q=>t σ H fun c H1=>if c=true then u σ H1 Q else Q false H1
def tOr (t u:TT):TT:=fun σ H Q=>t σ H fun c H1=>if c=true then Q true H1 else u σ H1 Q
def Fi (t:TT):TT:=fun σ H Q=>t σ H fun c H1=>Q (!c) H1
theorem fu (ha:PT X a tA):PW X (.BoolOp .And [a] pos) tA:=by
 intro wh pins s σ H Q I h
 refine isTrue_and (thn (ha pins s σ H Q I h) fun c s1 e=>?_)
 cases c with
 |true=>exact isTrue_and_nil e
 |false=>exact e
theorem jl (ha:PT X a tA):PW X (.BoolOp .Or [a] pos) tA:=by
 intro wh pins s σ H Q I h
 refine isTrue_or (thn (ha pins s σ H Q I h) fun c s1 e=>?_)
 cases c with
 |false=>exact isTrue_or_nil e
 |true=>exact e
theorem ie (ha:PT X a tA) (hb:PW X (.BoolOp .And (b :: rest) pos) tB'):PW X (.BoolOp .And (a :: b :: rest) pos) (Fp tA tB'):=by
 intro wh pins s σ H Q I h
 refine isTrue_and (thn (ha pins s σ H _ I h) fun c s1 ⟨H1,I1,q1⟩=>?_)
 cases c with
 |true=>exact hb wh pins s1 σ H1 Q I1 q1
 |false=>exact⟨H1,I1,q1⟩
theorem n8 (ha:PT X a tA) (hb:PW X (.BoolOp .Or (b :: rest) pos) tB'):PW X (.BoolOp .Or (a :: b :: rest) pos) (tOr tA tB'):=by
 intro wh pins s σ H Q I h
 refine isTrue_or (thn (ha pins s σ H _ I h) fun c s1 ⟨H1,I1,q1⟩=>?_)
 cases c with
 |true=>exact⟨H1,I1,q1⟩
 |false=>exact hb wh pins s1 σ H1 Q I1 q1
theorem dQ (ha:PT X a tA):PT X (.UnaryOp .Not a pos) (Fi tA):=by
 intro pins s σ H Q I h
 exact isTrue_not (ha pins s σ H (fun c H1=>Q (!c) H1) I h)
def D7 (ta tb:TE):TE:=fun σ H Q=>ta σ H fun x H1=>∃ c,x = .bl c∧if c=true then tb σ H1 Q else Q (.bl false) H1
def Fg (ta tb:TE):TE:=fun σ H Q=>ta σ H fun x H1=>∃ c,x = .bl c∧if c=true then Q (.bl true) H1 else tb σ H1 Q
def Fh (ta:TE):TE:=fun σ H Q=>ta σ H fun x H1=>∃ c,x = .bl c∧Q (.bl (!c)) H1
theorem mU {op} {t:TE}(h:PE X a t):PE X (.BoolOp op [a] pos) t:=fun pins s σ H Q I hw=>BoolOp_one (h pins s σ H Q I hw)
theorem xP (ha:PE X a ta) (hb:PE X (.BoolOp .And (b :: rest) pos) tb):PE X (.BoolOp .And (a :: b :: rest) pos) (D7 ta tb):=by
 intro pins s σ H Q I h
 refine BoolOp_and (thn (ha pins s σ H _ I h) fun v s1 ⟨x,H1,I1,r1,q1⟩=>?_)
 obtain⟨c,rfl,q1⟩:=q1
 cases r1
 refine wpAny_truthy_bool ?_
 cases c with
 |true=>exact hb pins s1 σ H1 Q I1 q1
 |false=>exact⟨.bl false,H1,I1,rfl,q1⟩
theorem BA (ha:PE X a ta) (hb:PE X (.BoolOp .Or (b :: rest) pos) tb):PE X (.BoolOp .Or (a :: b :: rest) pos) (Fg ta tb):=by
 intro pins s σ H Q I h
 refine BoolOp_or (thn (ha pins s σ H _ I h) fun v s1 ⟨x,H1,I1,r1,q1⟩=>?_)
 obtain⟨c,rfl,q1⟩:=q1
 cases r1
 refine wpAny_truthy_bool ?_
 cases c with
 |false=>exact hb pins s1 σ H1 Q I1 q1
 |true=>exact⟨.bl true,H1,I1,rfl,q1⟩
def tIf (t:TT) (ta tb:TE):TE:=fun σ H Q=>t σ H fun c H1=>if c=true then ta σ H1 Q else tb σ H1 Q
theorem cF {c:Expr}(hc:PT X c tA) (ha:PE X a ta) (hb:PE X b tb):PE X (.IfExp c a b pos) (tIf tA ta tb):=by
 intro pins s σ H Q I h
 refine wpAny_IfExp (thn (hc pins s σ H _ I h) fun d s1 ⟨H1,I1,q1⟩=>?_)
 cases d with
 |true=>exact ha pins s1 σ H1 Q I1 q1
 |false=>exact hb pins s1 σ H1 Q I1 q1
end
end L2
namespace L2
open PySem PySem.Spec PyProof.Rows
def SqL (K:PySem.W.Frag) (H:Hp) (a:Addr) (xs:List V):Prop:=
 Rd H a (.lst xs) ∨
  ∃ (o:Obj) (its:Array Value) (n:Nat),K.lookup a=some o∧o.cls = .type "list"∧o.dict=none∧o.data = .seq its n∧its.size≤sizeLine∧Vals xs its.toList
def SqT (K:PySem.W.Frag) (H:Hp) (a:Addr) (xs:List V):Prop:=
 Rd H a (.tup xs) ∨
  ∃ (o:Obj) (its:Array Value) (n:Nat),K.lookup a=some o∧o.cls = .type "tuple"∧o.data = .seq its n∧its.size≤sizeLine∧Vals xs its.toList
def Gk:Value→Option V
 | .none=>some .non
 | .bool b=>some (.bl b)
 | .int i _=>some (.int i)
 | .str x _=>some (.str x)
 | .bytes b _=>some (.byt b)
 | .float b _=>some (.flt b)
 | .ref a=>some (.ref a)
 | .type n=>some (.ty n)
 |_=>none
theorem RelV.abs {x:V}{u:Value}(r:RelV x u):Gk u=some x:=by
 cases x with
 |non=>cases r;rfl
 |bl _=>cases r;rfl
 |int _=>obtain⟨t,rfl⟩:=r;rfl
 |str _=>obtain⟨t,rfl⟩:=r;rfl
 |byt _=>obtain⟨t,rfl⟩:=r;rfl
 |flt _=>obtain⟨t,rfl⟩:=r;rfl
 |ref _=>cases r;rfl
 |ty _=>cases r;rfl
theorem RelV.inj {x y:V}{u:Value}(r:RelV x u) (q:RelV y u):x=y:=Option.some.inj (r.abs.symm.trans q.abs)
theorem Vals.inj:∀ {xs ys:List V}{us:List Value},Vals xs us→Vals ys us→xs=ys
 |_,_,_,.nil,.nil=>rfl
 |_,_,_,.cons r t,.cons r' t'=>by rw[r.inj r',Vals.inj t t']
section
variable {X:Cx}{pins:List (Addr×Obj)}{σ:St}{H:Hp}{s:Shared}{a:Addr}{xs ys:List V}
theorem SqL.of {K:PySem.W.Frag}(h:H a=some (.lst xs)):SqL K H a xs:=.inl (.inl h)
theorem SqT.of {K:PySem.W.Frag}(h:H a=some (.tup xs)):SqT K H a xs:=.inl (.inl h)
theorem Inv.list (I:Inv X pins σ H s) (h:SqL X.K H a xs):∃ its:List Value,Vals xs its∧PlainL s.heap a its.toArray∧xs.length≤sizeLine:=by
 rcases h with h | ⟨o,its,n,hk,hc,hd,hs,hz,r⟩
 ·obtain⟨z,its,n,r,e⟩:=h.ok I.hok
  exact⟨its,r,⟨_,n,e,rfl,rfl,rfl⟩,z⟩
 ·refine⟨its.toList,r,⟨o,n,I.kIn a o hk,hc,hd,by simpa using hs⟩,?_⟩
  have e:=r.length
  simp only[Array.length_toList]at e
  omega
theorem Inv.tuple (I:Inv X pins σ H s) (h:SqT X.K H a xs):∃ its:List Value,Vals xs its∧IsTup s.heap a its.toArray∧xs.length≤sizeLine:=by
 rcases h with h | ⟨o,its,n,hk,hc,hs,hz,r⟩
 ·obtain⟨z,its,r,p⟩:=h.ok I.hok
  exact⟨its,r,p,z⟩
 ·refine⟨its.toList,r,⟨o,I.kIn a o hk,hc,n,by simpa using hs⟩,?_⟩
  have e:=r.length
  simp only[Array.length_toList]at e
  omega
theorem Inv.B0 (I:Inv X pins σ H s) (h:SqL X.K H a xs) (h':SqL X.K H a ys):xs=ys:=by
 obtain⟨its,r,⟨o,n,e,_,_,d⟩,_⟩:=I.list h
 obtain⟨its',r',⟨o',n',e',_,_,d'⟩,_⟩:=I.list h'
 rw[e]at e';cases e'
 rw[d]at d'
 injection d' with d1 _
 have:its=its':=by simpa using congrArg Array.toList d1
 subst this
 exact r.inj r'
theorem Inv.zV (I:Inv X pins σ H s) (h:SqT X.K H a xs) (h':SqT X.K H a ys):xs=ys:=by
 obtain⟨its,r,⟨o,e,_,n,d⟩,_⟩:=I.tuple h
 obtain⟨its',r',⟨o',e',_,n',d'⟩,_⟩:=I.tuple h'
 rw[e]at e';cases e'
 rw[d]at d'
 injection d' with d1 _
 have:its=its':=by simpa using congrArg Array.toList d1
 subst this
 exact r.inj r'
end
abbrev Cx.rA (X:Cx) (E:Value→Shared→Prop):Cx:={ X with xe:=E }
abbrev Cx.nox (X:Cx):Cx:=X.rA fun _ _=>False
theorem Cx.Ok.rA {X:Cx}(ok:X.Ok) (E:Value→Shared→Prop):(X.rA E).Ok:=
 ⟨ok.mod,ok.kind,ok.glob,ok.blt,ok.above,ok.inj,ok.has,ok.cab,ok.hd,ok.frames,ok.stk,ok.exf,ok.bs,ok.bsz,ok.BQ,ok.Cj,ok.ng,ok.frf⟩
theorem Cx.Ok.iZ {X:Cx}{E:Value→Shared→Prop}(ok:(X.rA E).Ok):X.Ok:=
 ⟨ok.mod,ok.kind,ok.glob,ok.blt,ok.above,ok.inj,ok.has,ok.cab,ok.hd,ok.frames,ok.stk,ok.exf,ok.bs,ok.bsz,ok.BQ,ok.Cj,ok.ng,ok.frf⟩
section
variable {X:Cx}{pins:List (Addr×Obj)}{σ:St}{H:Hp}{s:Shared}{E:Value→Shared→Prop}
theorem Inv.rA (I:Inv X pins σ H s) (E:Value→Shared→Prop):Inv (X.rA E) pins σ H s:=⟨I.ok.rA E,I.os,I.bare,I.base,I.loc,I.cell,I.free,I.gj,I.pin,I.hok,I.len⟩
theorem Inv.iZ (I:Inv (X.rA E) pins σ H s):Inv X pins σ H s:=⟨I.ok.iZ,I.os,I.bare,I.base,I.loc,I.cell,I.free,I.gj,I.pin,I.hok,I.len⟩
theorem SP.iZ {D:Ends}{f:Flow}{s':Shared}(h:SP (X.rA E) pins D f s'):SP X pins D f s':=by
 cases f with
 |next=>obtain⟨σ',H',I,q⟩:=h;exact⟨σ',H',I.iZ,q⟩
 |brk=>obtain⟨σ',H',I,q⟩:=h;exact⟨σ',H',I.iZ,q⟩
 |cont=>obtain⟨σ',H',I,q⟩:=h;exact⟨σ',H',I.iZ,q⟩
 |ret u=>obtain⟨v,σ',H',I,r,q⟩:=h;exact⟨v,σ',H',I.iZ,r,q⟩
theorem PSs.nox {st:List Stmt}{t:TS}(h:PSs X.nox st t):PSs X st t:=fun pins s σ H D I hw=>
 wpAny_mono (h pins s σ H D (I.rA _) hw) (fun _ _ q=>q.iZ) fun _ _ z=>False.elim z
end
section
variable {X:Cx}{st:Stmt}{rest:List Stmt}{t u:TS}{e:Expr}{te:TE}{pos:Pos}
def D5:TS:=fun D σ H=>D.nx σ H
def Bj (t u:TS):TS:=fun D σ H=>t { D with nx:=u D } σ H
theorem az:PSs X [] D5:=fun _ _ σ H _ I h=>wpAny_execs_nil ⟨σ,H,I,h⟩
theorem ae (h1:PS X st t) (h2:PSs X rest u):PSs X (st :: rest) (Bj t u):=by
 intro pins s σ H D I h
 refine wpAny_execs_cons (thn (h1 pins s σ H { D with nx:=u D } I h) fun f s1 q=>?_)
 cases f with
 |next=>
  obtain⟨σ',H',I',q⟩:=q
  exact h2 pins s1 σ' H' D I' q
 |ret v=>exact q
 |brk=>exact q
 |cont=>exact q
theorem ag (h1:PS X st t):PSs X [st] t:=by
 intro pins s σ H D I h
 refine wpAny_execs_cons (thn (h1 pins s σ H D I h) fun f s1 q=>?_)
 cases f with
 |next=>exact wpAny_execs_nil q
 |ret v=>exact q
 |brk=>exact q
 |cont=>exact q
theorem Inv.quiet {pins:List (Addr×Obj)}{σ:St}{H:Hp}{s:Shared}(I:Inv X pins σ H s):interactive X.env=false:=by simp[interactive,I.ok.kind]
def Bm (te:TE):TS:=fun D σ H=>te σ H fun _ H1=>D.nx σ H1
theorem eL (he:PE X e te) (hs:swapsWith e none pos.line X.env=pure false:=by rfl):PS X (.Expr e pos) (Bm te):=by
 intro pins s σ H D I h
 exact wpAny_Expr_any (thn (he pins s σ H _ I h) fun v s1 ⟨x,H1,I1,r1,q1⟩=>⟨σ,H1,I1,q1⟩) I.quiet hs
def Bk (te:TE):TS:=fun D σ H=>te σ H D.rt
theorem aq (he:PE X e te):PS X (.Return (some e) pos) (Bk te):=by
 intro pins s σ H D I h
 exact wpAny_Return_some (thn (he pins s σ H _ I h) fun v s1 ⟨x,H1,I1,r1,q1⟩=>⟨x,σ,H1,I1,r1,q1⟩)
def Fn (c:TT) (t u:TS):TS:=fun D σ H=>c σ H fun b H1=>if b=true then t D σ H1 else u D σ H1
theorem aK {c:Expr}{a b:List Stmt}{tc:TT}(hc:PT X c tc) (ha:PSs X a t) (hb:PSs X b u):PS X (.If c a b pos) (Fn tc t u):=by
 intro pins s σ H D I h
 refine wpAny_If (thn (hc pins s σ H _ I h) fun d s1 ⟨H1,I1,q1⟩=>?_)
 cases d with
 |true=>exact ha pins s1 σ H1 D I1 q1
 |false=>exact hb pins s1 σ H1 D I1 q1
end
abbrev TG:=V→St→Hp→(St→Hp→Prop)→Prop
abbrev TGs:=List V→St→Hp→(St→Hp→Prop)→Prop
def PG (X:Cx) (target:Expr) (t:TG):Prop:=
 ∀ (pins:List (Addr×Obj)) (s:Shared) (σ:St) (H:Hp) (v:V) (u:Value) (Q:St→Hp→Prop),Inv X pins σ H s→RelV v u→t v σ H Q →
  wpAny (model X.prog X.w) X.A (assign target X.env u) (fun _ s'=>∃ σ' H',Inv X pins σ' H' s'∧Q σ' H') X.xe s
def PGs (X:Cx) (ts:List Expr) (t:TGs):Prop:=
 ∀ (pins:List (Addr×Obj)) (s:Shared) (σ:St) (H:Hp) (vs:List V) (us:List Value) (Q:St→Hp→Prop),Inv X pins σ H s→Vals vs us→t vs σ H Q →
  wpAny (model X.prog X.w) X.A (assignInOrder ((assignEach ts X.env).map (·.2)) us) (fun _ s'=>∃ σ' H',Inv X pins σ' H' s'∧Q σ' H') X.xe s
section
variable {X:Cx}{pos:Pos}
def wO (i:Nat):TG:=fun v σ H Q=>Q (σ.set i (some v)) H
theorem aJ {i:Nat}{x:Str}(hN:X.N.Nodup) (hi:X.N[i]? = some x) (hx:Loc X.env.scope x) (hf:X.fn x=true∨X.env.scope.names.lookup x=some .local:=by first | exact .inl rfl | exact .inr rfl | assumption):PG X (.Name x pos) (wO i):=by
 intro pins s σ H v u Q I r h
 exact wpAny_assign_Name (vx I hN hi hx r (fun s' I'=>⟨_,H,I',h⟩) hf)
def Gd:TGs:=fun vs σ H Q=>vs=[]∧Q σ H
def FF (t:TG) (u:TGs):TGs:=fun vs σ H Q=>∃ v r,vs=v :: r∧t v σ H fun σ' H'=>u r σ' H' Q
theorem cg:PGs X [] Gd:=by
 intro pins s σ H vs us Q I r h
 obtain⟨e,h⟩:=h
 subst e
 cases r
 exact assignInOrder_nil ⟨σ,H,I,h⟩
theorem aM {e:Expr}{es:List Expr}{t:TG}{u:TGs}(h1:PG X e t) (h2:PGs X es u)
  (hs:(assignEach (e :: es) X.env).map (·.2)=assign e X.env :: (assignEach es X.env).map (·.2):=by rfl):PGs X (e :: es) (FF t u):=by
 intro pins s σ H vs us Q I r h
 obtain⟨v,vr,e1,h⟩:=h
 subst e1
 cases r with
 |cons r rr=>
  rw[hs]
  refine assignInOrder_cons (thn (h1 pins s σ H _ _ _ I r h) fun _ s1 ⟨σ1,H1,I1,q1⟩=>?_)
  exact h2 pins s1 σ1 H1 _ _ Q I1 rr q1
def FE (K:PySem.W.Frag) (n:Nat) (t:TGs):TG:=fun v σ H Q=>∃ a xs,v = .ref a∧SqT K H a xs∧xs.length=n∧t xs σ H Q
theorem Ey {es:List Expr}{k:Nat}{t:TGs}{n:Nat}(hc:X.calm=true) (h:PGs X es t)
  (hn:(assignEach es X.env).length=n:=by rfl) (hst:(assignEach es X.env).findIdx? (·.1)=none:=by rfl):PG X (.Tuple es k pos) (FE X.K n t):=by
 intro pins s σ H v u Q I r hw
 obtain⟨a,xs,e1,hq,hl,hw⟩:=hw
 subst e1
 cases r
 obtain⟨its,rv,ht,hz⟩:=I.tuple hq
 refine assign_Tuple_tuple (I.ok.hd hc) ht (by simp[hn,←hl,rv.length]) hst fun h' hx=>?_
 have I1:Inv X pins σ H { s with heap:=h' }:=I.kept (t':=s.toks) fun b o e=>hx b o (Nat.ne_of_lt (Heap.lt_size e)) e
 exact h pins _ σ H xs _ Q I1 (by simpa using rv) hw
def Eo (te:TE) (g:TG):TS:=fun D σ H=>te σ H fun x H1=>g x σ H1 D.nx
theorem aI {i:Nat}{x:Str}{e:Expr}{te:TE}{pos':Pos}(hN:X.N.Nodup) (hi:X.N[i]? = some x) (hx:Loc X.env.scope x) (he:PE X e te) (hs:swapsWith e (some (.Name x pos')) pos.line X.env=pure false:=by rfl) (hf:X.fn x=true∨X.env.scope.names.lookup x=some .local:=by first | exact .inl rfl | exact .inr rfl | assumption) :
  PS X (.Assign [.Name x pos'] e pos) (Eo te (wO i)):=by
 intro pins s σ H D I h
 refine wpAny_Assign_Name (thn (he pins s σ H _ I h) fun v s1 ⟨y,H1,I1,r1,q1⟩=>?_) hs
 exact vx I1 hN hi hx r1 (fun s2 I2=>⟨_,H1,I2,q1⟩) hf
end
section
variable {X:Cx}{pos:Pos}
def El (c:TT) (tb:TS):TS:=fun D σ H=>∃ W:Nat→St→Hp→Prop,(∃ m,W m σ H)∧∀ m σ H,W m σ H →
 c σ H fun b H1=>if b=true then ∃ N:St→Hp→Prop,(∀ σ' H',N σ' H'→∃ m',m' < m∧W m' σ' H')∧tb { D with nx:=N,ct:=N,bk:=D.nx } σ H1 else D.nx σ H1
theorem lW {c:Expr}{body:List Stmt}{tc:TT}{tb:TS}(hp:PassesOwn (model X.prog X.w) X.A X.env X.xe) (hc:PT X c tc) (hb:PSs X body tb):PS X (.While c body [] pos) (El tc tb):=by
 intro pins s σ H D I h
 obtain⟨W,⟨m0,w0⟩,turn⟩:=h
 refine wpAny_While (codeAny_whileLoop (fun n s'=>∃ σ' H',Inv X pins σ' H' s'∧W n σ' H') ?_ m0 ⟨σ,H,I,w0⟩)
 rintro n s1 ⟨σ1,H1,I1,w1⟩
 refine wpAny_passesOwn hp (thn (hc pins s1 σ1 H1 _ I1 (turn n σ1 H1 w1)) fun b s2 ⟨H2,I2,q2⟩=>?_)
 cases b with
 |true=>
  obtain⟨N,hN,q2⟩:=q2
  rw[if_pos rfl]
  refine wpAny_passesOwn hp (thn (hb pins s2 σ1 H2 _ I2 q2) fun f s3 q3=>?_)
  cases f with
  |next=>
   obtain⟨σ3,H3,I3,n3⟩:=q3
   obtain⟨m',hm,w3⟩:=hN σ3 H3 n3
   exact⟨m',hm,σ3,H3,I3,w3⟩
  |cont=>
   obtain⟨σ3,H3,I3,n3⟩:=q3
   obtain⟨m',hm,w3⟩:=hN σ3 H3 n3
   exact⟨m',hm,σ3,H3,I3,w3⟩
  |brk=>exact q3
  |ret v=>exact q3
 |false=>
  rw[if_neg Bool.false_ne_true]
  exact wpAny_execs_nil ⟨σ1,H2,I2,q2⟩
end
structure It where
 go:Nat→Hp→Prop
 yld:Nat→Hp→V→Hp→Prop
 stop:Nat→Hp→Prop
def lr (X:Cx) (pins:List (Addr×Obj)) (H:Hp) (b:Addr):Prop:=
 H b=none∧b≠X.env.locals∧b∉X.fs∧(b∈X.ex∨X.s_0.heap.objs.size≤b)∧(∀ x c,X.env.cells.lookup x=some c→c≠b)∧∀ p∈X.pn ++ pins,p.1≠b
theorem Inv.AF {X:Cx}{pins:List (Addr×Obj)}{σ:St}{H H':Hp}{s:Shared}{b:Addr}(I:Inv X pins σ H s) (hb:s.heap.objs.size≤b) (hn:H' b=none):lr X pins H' b:=by
 refine⟨hn,Nat.ne_of_gt (Nat.lt_of_lt_of_le I.lt hb),I.ED hb,.inr (Nat.le_trans I.sz hb),fun x c e z=>?_,fun p hp z=>?_⟩
 ·obtain⟨v,q⟩:=I.cell x c e
  exact absurd (Nat.lt_of_lt_of_le q.lt (by rw[z];exact hb)) (Nat.lt_irrefl _)
 ·exact absurd (Nat.lt_of_lt_of_le (Heap.lt_size (I.pin p hp).1) (by rw[z];exact hb)) (Nat.lt_irrefl _)
structure Turn (P:Program) (w:World) (K:PySem.W.Frag) (tg:Expr) (J:It) (fp:List Addr) (it:Addr) (tn:Nat→Heap→Prop):Prop where
 mem:it∈fp
 obj:∀ i h,tn i h→∀ b∈fp,∃ o,h.get? b=some o∧∀ v,o.data ≠ .cell v
 keep:∀ i h h',tn i h→(∀ b∈fp,∀ o,h.get? b=some o→h'.get? b=some o)→tn i h'
 item:∀ (X:Cx),X.prog=P→X.w=w→X.K=K→X.calm=true→∀ (i:Nat) (pins:List (Addr×Obj)) (s:Shared) (σ:St) (H:Hp) (E:Value→Shared→Prop),Inv X pins σ H s→(∀ b∈fp,lr X pins H b)→tn i s.heap→J.go i H →
  wpAny (model P w) X.A (pyNext (.ref it)) (fun r s1=>∃ u,r=some u ∧
   wpAny (model P w) X.A (letOwnedTupleGo tg (.ref it) u) (fun _ s2=>∃ x H',Inv X pins σ H' s2∧RelV x u∧J.yld i H x H'∧tn (i+1) s2.heap∧∀ b∈fp,H' b=none) E s1) E s
 done:∀ (X:Cx),X.prog=P→X.w=w→X.K=K→X.calm=true→∀ (i:Nat) (pins:List (Addr×Obj)) (s:Shared) (σ:St) (H:Hp) (E:Value→Shared→Prop),Inv X pins σ H s→(∀ b∈fp,lr X pins H b)→tn i s.heap→J.stop i H →
  wpAny (model P w) X.A (pyNext (.ref it)) (fun r s1=>r=none∧Inv X pins σ H s1) E s
 self:∀ (A:Around) (i:Nat) (s:Shared) (Q:Value→Shared→Prop) (E:Value→Shared→Prop),tn i s.heap→Q (.ref it) s→wpAny (model P w) A (pyIter (.ref it)) Q E s
abbrev TI:=St→Hp→(It→Hp→Prop)→Prop
def PIE (X:Cx) (pins:List (Addr×Obj)) (σ:St) (tg:Expr) (R:It→Hp→Prop) (itv:Value) (s2:Shared):Prop:=
 ∃ (it:Addr) (fp:List Addr) (tn:Nat→Heap→Prop) (J:It) (H':Hp),itv = .ref it∧Inv X pins σ H' s2∧Turn X.prog X.w X.K tg J fp it tn∧tn 0 s2.heap∧(∀ b∈fp,lr X pins H' b)∧R J H'
def PI (X:Cx) (tg iter:Expr) (wi:TI):Prop:=
 ∀ (pins:List (Addr×Obj)) (s:Shared) (σ:St) (H:Hp) (R:It→Hp→Prop),Inv X pins σ H s→wi σ H R →
  wpAny (model X.prog X.w) X.A (eval iter X.env) (fun v s1=>wpAny (model X.prog X.w) X.A (pyIter v) (PIE X pins σ tg R) X.xe s1) X.xe s
theorem qG {M:Model}{A:Around}{E:Value→Shared→Prop}{s:Shared}{tg:Expr}{it:Addr}{u:Value}{o:Obj}{n:String}{vs:Array Value}{Q:Unit→Shared→Prop}(ho:s.heap.get? it=some o) (hc:o.cls = .type n) (hd:o.data = .fields vs)
  (hn:["enumerate","zip","dict_itemiterator","dict_reverseitemiterator","odict_iterator","itertools.zip_longest","itertools.pairwise"].contains n=false) (hQ:Q () s):wpAny M A (letOwnedTupleGo tg (.ref it) u) Q E s:=by
 unfold letOwnedTupleGo
 cases tg<;>first
  |exact wpAny_pure hQ
  |(cases u<;>first
    |exact wpAny_pure hQ
    |(refine wpAny_bind (wpAny_load ho ?_)
      rw[hc,hd]
      show wpAny M A (if (["enumerate","zip","dict_itemiterator","dict_reverseitemiterator","odict_iterator","itertools.zip_longest","itertools.pairwise"].contains n && vs[0]? == some (rawInt _))=true then _ else _) Q E s
      rw[if_neg (by intro h;rw[hn,Bool.false_and]at h;cases h)]
      exact wpAny_pure hQ))
def Itl (K:PySem.W.Frag) (a:Addr):It:=
 ⟨fun i H=>∃ xs x,SqL K H a xs∧xs[i]? = some x,fun i H x H'=>H'=H∧∀ xs,SqL K H a xs→xs[i]? = some x,fun i H=>∃ xs,SqL K H a xs∧xs.length≤i⟩
def Itt (K:PySem.W.Frag) (a:Addr):It:=
 ⟨fun i H=>∃ xs x,SqT K H a xs∧xs[i]? = some x,fun i H x H'=>H'=H∧∀ xs,SqT K H a xs→xs[i]? = some x,fun i H=>∃ xs,SqT K H a xs∧xs.length≤i⟩
def Itr (lo:Int) (n:Nat):It:=⟨fun i _=>i < n,fun i H x H'=>H'=H∧x = .int (lo+i),fun i _=>n≤i⟩
theorem zT {P:Program}{w:World}{K:PySem.W.Frag}{tg:Expr}(a it:Addr):Turn P w K tg (Itl K a) [it] it (fun i h=>h.IsListIter it a i) where
 mem:=by simp
 obj:=fun i h st b hb=>by
  have e:b=it:=by simpa using hb
  subst e
  obtain⟨o,e,c,d⟩:=st
  exact⟨o,e,fun v z=>by rw[d]at z;cases z⟩
 keep:=fun i h h' st k=>st.at fun o e=>k it (by simp) o e
 item:=by
  intro X hP hw hK hc i pins s σ H E I hf st hg
  subst hP hw hK
  obtain⟨xs,x,hq,hx⟩:=hg
  obtain⟨its,rv,p,hz⟩:=I.list hq
  obtain⟨u,hu,ru⟩:=rv.get hx
  obtain⟨f0,f1,f2,f3,f4,f5⟩:=hf it (by simp)
  refine wpAny_pyNext_list_item st p.isList (x:=u) (by simpa using hu) fun h' st' sb=>?_
  have I1:Inv X pins σ H { s with heap:=h' }:=I.turned (t':=s.toks) (fun b o hb e=>(sb.2 b hb).trans e) f0 f1 f3 f4 f5
  obtain⟨o,e,c,d⟩:=id st'
  exact⟨u,rfl,qG (s:={ s with heap:=h' }) e c d (by decide) ⟨x,H,I1,ru,⟨rfl,fun ys hy=>by rw[I.B0 hy hq];exact hx⟩,st',fun b hb=>(hf b hb).1⟩⟩
 done:=by
  intro X hP hw hK hc i pins s σ H E I hf st hg
  subst hP hw hK
  obtain⟨xs,hq,hx⟩:=hg
  obtain⟨its,rv,p,hz⟩:=I.list hq
  obtain⟨f0,f1,f2,f3,f4,f5⟩:=hf it (by simp)
  have hl:=rv.length
  exact wpAny_pyNext_list_end (I.ok.hd hc) st p.isList (by simp;omega) fun h' eb=>⟨rfl,I.turned (t':=s.toks) (fun b o hb e=>eb b o hb e) f0 f1 f3 f4 f5⟩
 self:=fun _ _ _ _ _ st h=>wpAny_pyIter_listiter st h
theorem xr {P:Program}{w:World}{K:PySem.W.Frag}{tg:Expr}(a it:Addr):Turn P w K tg (Itt K a) [it] it (fun i h=>h.IsTupleIter it a i) where
 mem:=by simp
 obj:=fun i h st b hb=>by
  have e:b=it:=by simpa using hb
  subst e
  obtain⟨o,e,c,d⟩:=st
  exact⟨o,e,fun v z=>by rw[d]at z;cases z⟩
 keep:=fun i h h' st k=>st.at fun o e=>k it (by simp) o e
 item:=by
  intro X hP hw hK hc i pins s σ H E I hf st hg
  subst hP hw hK
  obtain⟨xs,x,hq,hx⟩:=hg
  obtain⟨its,rv,p,hz⟩:=I.tuple hq
  obtain⟨u,hu,ru⟩:=rv.get hx
  obtain⟨f0,f1,f2,f3,f4,f5⟩:=hf it (by simp)
  refine wpAny_pyNext_tuple_item st (show s.heap.IsTuple a its.toArray from p) (x:=u) (by simpa using hu) fun h' st' sb=>?_
  have I1:Inv X pins σ H { s with heap:=h' }:=I.turned (t':=s.toks) (fun b o hb e=>(sb.2 b hb).trans e) f0 f1 f3 f4 f5
  obtain⟨o,e,c,d⟩:=id st'
  exact⟨u,rfl,qG (s:={ s with heap:=h' }) e c d (by decide) ⟨x,H,I1,ru,⟨rfl,fun ys hy=>by rw[I.zV hy hq];exact hx⟩,st',fun b hb=>(hf b hb).1⟩⟩
 done:=by
  intro X hP hw hK hc i pins s σ H E I hf st hg
  subst hP hw hK
  obtain⟨xs,hq,hx⟩:=hg
  obtain⟨its,rv,p,hz⟩:=I.tuple hq
  obtain⟨f0,f1,f2,f3,f4,f5⟩:=hf it (by simp)
  have hl:=rv.length
  exact wpAny_pyNext_tuple_end (I.ok.hd hc) st (show s.heap.IsTuple a its.toArray from p) (by simp;omega) fun h' eb=>⟨rfl,I.turned (t':=s.toks) (fun b o hb e=>eb b o hb e) f0 f1 f3 f4 f5⟩
 self:=fun _ _ _ _ _ st h=>wpAny_pyIter_tupleiter st h
theorem xt {P:Program}{w:World}{K:PySem.W.Frag}{tg:Expr}(it:Addr) (lo:Int) (n:Nat):Turn P w K tg (Itr lo n) [it] it (fun i h=>IsRangeIter h it (lo+(i:Nat)*1) ((n:Int) - (i:Nat)) 1) where
 mem:=by simp
 obj:=fun i h st b hb=>by
  have e:b=it:=by simpa using hb
  subst e
  exact⟨_,st,fun v z=>by
   have z':Data.fields _=Data.cell v:=z
   cases z'⟩
 keep:=fun i h h' st k=>k it (by simp) _ st
 item:=by
  intro X hP hw hK hc i pins s σ H E I hf st hg
  subst hP hw hK
  obtain⟨f0,f1,f2,f3,f4,f5⟩:=hf it (by simp)
  have W:=Walks.range (prog:=X.prog) (w:=X.w) (I.ok.hd hc) it lo 1 n
  refine W.item i s _ _ hg st fun v h' tk hv st' kk=>?_
  obtain⟨t,rfl⟩:=hv
  have I1:Inv X pins σ H { s with heap:=h',toks:=tk }:=I.turned (fun b o hb e=>kk b o (by simpa using hb) e) f0 f1 f3 f4 f5
  refine⟨_,rfl,qG (s:={ s with heap:=h',toks:=tk }) (n:="range_iterator") st' rfl rfl (by decide) ⟨.int (lo+i),H,I1,⟨t,?_⟩,⟨rfl,rfl⟩,st',fun b hb=>(hf b hb).1⟩⟩
  rw[Int.mul_one]
 done:=by
  intro X hP hw hK hc i pins s σ H E I hf st hg
  subst hP hw hK
  obtain⟨f0,f1,f2,f3,f4,f5⟩:=hf it (by simp)
  exact wpAny_pyNext_range_end (I.ok.hd hc) st (by have:n≤i:=hg;omega) fun h' eb=>⟨rfl,I.turned (t':=s.toks) (fun b o hb e=>eb b o hb e) f0 f1 f3 f4 f5⟩
 self:=fun _ _ _ _ _ st h=>wpAny_pyIter_rangeiter st h
end L2
namespace L2
open PySem PySem.Spec PyProof.Rows
section
variable {X:Cx}{tg:Expr}
def Eb (K:PySem.W.Frag) (tl:TE):TI:=fun σ H R=>tl σ H fun x H1=>∃ a,x = .ref a∧(∃ xs,SqL K H1 a xs)∧R (Itl K a) H1
def Ga (K:PySem.W.Frag) (tl:TE):TI:=fun σ H R=>tl σ H fun x H1=>∃ a,x = .ref a∧(∃ xs,SqT K H1 a xs)∧R (Itt K a) H1
theorem di {l:Expr}{tl:TE}(hl:PE X l tl):PI X tg l (Eb X.K tl):=by
 intro pins s σ H R I h
 refine thn (hl pins s σ H _ I h) fun v s1 ⟨x,H1,I1,r1,q1⟩=>?_
 obtain⟨a,e,⟨xs,hq⟩,q⟩:=q1
 subst e
 cases r1
 obtain⟨its,rv,p,hz⟩:=I1.list hq
 refine wpAny_pyIter_list p.isList ?_
 refine⟨s1.heap.objs.size,[s1.heap.objs.size],_,_,H1,rfl,I1.kept (t':=s1.toks) fun b o e=>Heap.get?_push_of_some _ e,zT a _,⟨_,Heap.get?_push_size _ rfl,rfl,rfl⟩,fun b hb=>?_,q⟩
 have e:b=s1.heap.objs.size:=by simpa using hb
 subst e
 exact I1.AF (Nat.le_refl _) (I1.hok.fresh (Nat.le_refl _))
theorem By {l:Expr}{tl:TE}(hl:PE X l tl):PI X tg l (Ga X.K tl):=by
 intro pins s σ H R I h
 refine thn (hl pins s σ H _ I h) fun v s1 ⟨x,H1,I1,r1,q1⟩=>?_
 obtain⟨a,e,⟨xs,hq⟩,q⟩:=q1
 subst e
 cases r1
 obtain⟨its,rv,p,hz⟩:=I1.tuple hq
 refine wpAny_pyIter_tuple (show s1.heap.IsTuple a its.toArray from p) ?_
 refine⟨s1.heap.objs.size,[s1.heap.objs.size],_,_,H1,rfl,I1.kept (t':=s1.toks) fun b o e=>Heap.get?_push_of_some _ e,xr a _,⟨_,Heap.get?_push_size _ rfl,rfl,rfl⟩,fun b hb=>?_,q⟩
 have e:b=s1.heap.objs.size:=by simpa using hb
 subst e
 exact I1.AF (Nat.le_refl _) (I1.hok.fresh (Nat.le_refl _))
theorem vP {pins:List (Addr×Obj)}{σ:St}{H:Hp}{s:Shared}{R:It→Hp→Prop}{E:Value→Shared→Prop}{lo hi:Int}{t u v:Tok}{tk:Nat}(I:Inv X pins σ H s) (h1 : -(2 ^ 62)≤lo) (h2:lo < 2 ^ 62) (h3 : -(2 ^ 62)≤hi) (h4:hi < 2 ^ 62)
  (q:R (Itr lo (hi - lo).toNat) H):wpAny (model X.prog X.w) X.A (pyIter (.ref s.heap.objs.size)) (PIE X pins σ tg R) E { s with heap:=s.heap.push { cls:=.type "range",data:=.fields #[.int lo t,.int hi u,.int 1 v] },toks:=tk }:=by
 refine wpAny_pyIter_range (IsRange.new ..) (small_one h1 h2 h3 h4) ?_
 have I1:Inv X pins σ H { s with heap:=s.heap.push { cls:=.type "range",data:=.fields #[.int lo t,.int hi u,.int 1 v] },toks:=tk }:=I.kept fun b o e=>Heap.get?_push_of_some _ e
 refine⟨(s.heap.push { cls:=.type "range",data:=.fields #[.int lo t,.int hi u,.int 1 v] }).objs.size,[(s.heap.push { cls:=.type "range",data:=.fields #[.int lo t,.int hi u,.int 1 v] }).objs.size],_,_,H,rfl,
  I1.kept (t':=tk) fun b o e=>Heap.get?_push_of_some _ e,xt _ lo (hi - lo).toNat,?_,fun b hb=>?_,q⟩
 ·have e1:lo+((0:Nat):Int)*1=lo:=by simp
  have e2:(((hi - lo).toNat:Nat):Int) - ((0:Nat):Int)=Builtin.Range.rangeSize lo hi 1:=by rw[rangeSize_one];split<;>omega
  show IsRangeIter _ _ (lo+((0:Nat):Int)*1) ((((hi - lo).toNat:Nat):Int) - ((0:Nat):Int)) 1
  rw[e1,e2]
  exact Heap.get?_push_size _ rfl
 ·have e:b=(s.heap.push { cls:=.type "range",data:=.fields #[.int lo t,.int hi u,.int 1 v] }).objs.size:=by simpa using hb
  subst e
  exact I1.AF (Nat.le_refl _) (I1.hok.fresh (Nat.le_refl _))
def FD (ta:TA):TI:=fun σ H R=>ta σ H fun vs H1=>∃ j:Int,vs=[.int j] ∧ -(2 ^ 62)≤j∧j < 2 ^ 62∧R (Itr 0 j.toNat) H1
def FC (ta:TA):TI:=fun σ H R=>ta σ H fun vs H1=>∃ i j:Int,vs=[.int i,.int j]∧(-(2 ^ 62)≤i∧i < 2 ^ 62 ∧ -(2 ^ 62)≤j∧j < 2 ^ 62)∧R (Itr i (j - i).toNat) H1
theorem sY {a:Expr}{ta:TA}{p pos:Pos}(hg:Gl X "range") (hm:X.mg "range"=none) (ha:PA X [a] ta) (hs:starEach [a] X.env=[(false,eval a X.env)]:=by rfl):PI X tg (.Call (.Name "range" p) [a] [] pos) (FD ta):=by
 intro pins s σ H R I h
 refine Call_ (qw I hg hm boot_range (PyProof.Rows.callWith_type1 (thn (ha pos pins s σ H _ I h) fun us s1 ⟨vs,H1,I1,r1,q1⟩=>?_) hs rfl))
 obtain⟨j,e,q1,q2,q⟩:=q1
 subst e
 cases r1 with
 |cons r rr=>
  cases rr
  obtain⟨t,rfl⟩:=r
  exact call_range_1 (vP I1 (by omega) (by omega) q1 q2 (by simpa using q))
theorem Ab {a b:Expr}{ta:TA}{p pos:Pos}(hg:Gl X "range") (hm:X.mg "range"=none) (ha:PA X [a,b] ta) (hs:starEach [a,b] X.env=[(false,eval a X.env),(false,eval b X.env)]:=by rfl) (hs2:starEach [b] X.env=[(false,eval b X.env)]:=by rfl) :
  PI X tg (.Call (.Name "range" p) [a,b] [] pos) (FC ta):=by
 intro pins s σ H R I h
 refine Call_ (qw I hg hm boot_range (PyProof.Rows.callWith_type1 (thn (ha pos pins s σ H _ I h) fun us s1 ⟨vs,H1,I1,r1,q1⟩=>?_) (by rw[hs,hs2]) (by rw[hs2];rfl)))
 obtain⟨i,j,e,⟨q1,q2,q3,q4⟩,q⟩:=q1
 subst e
 cases r1 with
 |cons r rr=>
  cases rr with
  |cons r' rr=>
   cases rr
   obtain⟨t,rfl⟩:=r
   obtain⟨t',rfl⟩:=r'
   exact call_range_2 (vP I1 q1 q2 q3 q4 q)
def xw (wi:TI) (g:TG) (tb:TS):TS:=fun D σ H=>wi σ H fun J H1=>∃ W:Nat→Nat→St→Hp→Prop,(∃ m,W 0 m σ H1)∧∀ i m σ H,W i m σ H →
 (J.stop i H∧D.nx σ H)∨(J.go i H∧∃ N:St→Hp→Prop,(∀ σ' H',N σ' H'→∃ m',m' < m∧W (i+1) m' σ' H')∧∀ x H',J.yld i H x H'→g x σ H' fun σ2 H2=>tb { D with nx:=N,ct:=N,bk:=D.nx } σ2 H2)
def qa (fp:List Addr) (h:Heap):List (Addr×Obj):=fp.filterMap fun b=>(h.get? b).map fun o=>(b,o)
theorem k9 {fp:List Addr}{h:Heap}{b:Addr}{o:Obj}(hb:b∈fp) (e:h.get? b=some o):(b,o)∈qa fp h:=List.mem_filterMap.mpr ⟨b,hb,by rw[e];rfl⟩
theorem Am {fp:List Addr}{h:Heap}{p:Addr×Obj}(hp:p∈qa fp h):p.1∈fp∧h.get? p.1=some p.2:=by
 obtain⟨b,hb,e⟩:=List.mem_filterMap.mp hp
 cases q:h.get? b with
 |none=>rw[q]at e;cases e
 |some o=>
  rw[q]at e
  have e':(b,o)=p:=Option.some.inj e
  subst e'
  exact⟨hb,q⟩
theorem Inv.pinned {pins:List (Addr×Obj)}{σ:St}{H:Hp}{s:Shared}{fp:List Addr}(I:Inv X pins σ H s) (hf:∀ b∈fp,lr X pins H b) (ho:∀ b∈fp,∃ o,s.heap.get? b=some o∧∀ v,o.data ≠ .cell v):Inv X (pins ++ qa fp s.heap) σ H s:=
 I.gf fun p hp=>(List.mem_append.mp hp).elim (fun z=>I.pin p (List.mem_append_right _ z)) fun z=>by
  obtain⟨hb,e⟩:=Am z
  obtain⟨f0,f1,f2,_⟩:=hf p.1 hb
  obtain⟨o,e',d⟩:=ho p.1 hb
  rw[e]at e';cases e'
  exact⟨e,f0,f1,f2,d⟩
theorem Inv.lB {pins pl:List (Addr×Obj)}{σ:St}{H:Hp}{s:Shared}(I:Inv X (pins ++ pl) σ H s):Inv X pins σ H s:=I.gf fun p hp=>I.pin p (List.mem_append_right _ (List.mem_append_left _ hp))
theorem bE {iter:Expr}{body:List Stmt}{wi:TI}{g:TG}{tb:TS}{pos:Pos}(hp:PassesOwn (model X.prog X.w) X.A X.env X.xe) (hc:X.calm=true) (hi:PI X tg iter wi) (hg:PG X tg g) (hb:PSs X body tb)
  (hs:∀ x,foldedSetIterable iter X.env x=pure x:=by intro _;rfl):PS X (.For tg iter body [] pos) (xw wi g tb):=by
 intro pins s σ H D I h
 refine wpAny_For (thn (hi pins s σ H _ I h) fun v s1 h1=>thn h1 fun itv s2 h2=>?_) hs
 obtain⟨it,fp,tn,J,H2,e,I2,T,st2,f2,W,⟨m0,w0⟩,turn⟩:=h2
 subst e
 have stat:∀ {H':Hp},(∀ b∈fp,H' b=none)→∀ b∈fp,lr X pins H' b:=fun hn b hb=>⟨hn b hb,(f2 b hb).2⟩
 refine codeAny_forLoop_any (fun n s'=>∃ i σ' H',Inv X pins σ' H' s'∧tn i s'.heap∧(∀ b∈fp,H' b=none)∧W i n σ' H') ?_ m0 ⟨0,σ,H2,I2,st2,fun b hb=>(f2 b hb).1,w0⟩
 rintro n s3 ⟨i,σ3,H3,I3,st3,fr3,w3⟩
 rcases turn i n σ3 H3 w3 with ⟨stop,qn⟩ | ⟨go,N,hN,step⟩
 ·refine wpAny_passesOwn hp (thn (T.done X rfl rfl rfl hc i pins s3 σ3 H3 X.xe I3 (stat fr3) st3 stop) fun r s4 ⟨hr,I4⟩=>?_)
  subst hr
  exact wpAny_execs_nil ⟨σ3,H3,I4,qn⟩
 ·refine wpAny_passesOwn hp (thn (T.item X rfl rfl rfl hc i pins s3 σ3 H3 X.xe I3 (stat fr3) st3 go) fun r s4 ⟨u,hr,h4⟩=>?_)
  subst hr
  refine wpAny_passesOwn hp (thn h4 fun _ s5 ⟨x,H5,I5,r5,y5,st5,fr5⟩=>?_)
  have I5':=I5.pinned (stat fr5) (T.obj _ _ st5)
  refine wpAny_passesOwn hp (thn (hg _ s5 σ3 H5 x u _ I5' r5 (step x H5 y5)) fun _ s6 ⟨σ6,H6,I6,q6⟩=>?_)
  refine wpAny_passesOwn hp (thn (hb _ s6 σ6 H6 _ I6 q6) fun f s7 q7=>?_)
  have again:∀ {σ7:St}{H7:Hp},Inv X (pins ++ qa fp s5.heap) σ7 H7 s7→N σ7 H7→∃ m,m < n∧∃ i σ' H',Inv X pins σ' H' s7∧tn i s7.heap∧(∀ b∈fp,H' b=none)∧W i m σ' H':=fun {σ7 H7} I7 n7=>by
   obtain⟨m',hm,w7⟩:=hN σ7 H7 n7
   refine⟨m',hm,i+1,σ7,H7,I7.lB,T.keep _ _ _ st5 fun b hb o e=>(I7.pin (b,o) (List.mem_append_right _ (List.mem_append_right _ (k9 hb e)))).1,fun b hb=>?_,w7⟩
   obtain⟨o,e,d⟩:=T.obj _ _ st5 b hb
   exact(I7.pin (b,o) (List.mem_append_right _ (List.mem_append_right _ (k9 hb e)))).2.1
  cases f with
  |next=>obtain⟨σ7,H7,I7,n7⟩:=q7;exact again I7 n7
  |cont=>obtain⟨σ7,H7,I7,n7⟩:=q7;exact again I7 n7
  |brk=>obtain⟨σ7,H7,I7,q7⟩:=q7;exact⟨σ7,H7,I7.lB,q7⟩
  |ret v=>obtain⟨x7,σ7,H7,I7,r7,q7⟩:=q7;exact⟨x7,σ7,H7,I7.lB,r7,q7⟩
end
theorem jE {K:PySem.W.Frag}{a:Addr}{xs:List V}{g:TG}{tb:TS}{D:Ends}{σ:St}{H:Hp}(Pv:Nat→St→Hp→Prop) (h0:Pv 0 σ H) (hl:∀ i σ H,i≤xs.length→Pv i σ H→SqL K H a xs)
  (hs:∀ i x σ H,xs[i]? = some x→Pv i σ H→g x σ H fun σ2 H2=>tb { D with nx:=Pv (i+1),ct:=Pv (i+1),bk:=D.nx } σ2 H2) (hd:∀ σ H,Pv xs.length σ H→D.nx σ H) :
  ∃ W:Nat→Nat→St→Hp→Prop,(∃ m,W 0 m σ H)∧∀ i m σ H,W i m σ H →
   ((Itl K a).stop i H∧D.nx σ H)∨((Itl K a).go i H∧∃ N:St→Hp→Prop,(∀ σ' H',N σ' H'→∃ m',m' < m∧W (i+1) m' σ' H')∧∀ x H',(Itl K a).yld i H x H'→g x σ H' fun σ2 H2=>tb { D with nx:=N,ct:=N,bk:=D.nx } σ2 H2):=by
 refine⟨fun i m σ H=>m=xs.length - i∧i≤xs.length∧Pv i σ H,⟨xs.length,by simp,Nat.zero_le _,h0⟩,?_⟩
 rintro i m σ H ⟨rfl,hi,p⟩
 have q:=hl i σ H hi p
 by_cases hlt:i < xs.length
 ·refine .inr ⟨⟨xs,xs[i],q,by simp[hlt]⟩,Pv (i+1),fun σ' H' p'=>⟨xs.length - (i+1),by omega,rfl,hlt,p'⟩,fun x H' y=>?_⟩
  obtain⟨e,y⟩:=y
  subst e
  exact hs i x σ _ (y xs q) p
 ·have e:i=xs.length:=by omega
  subst e
  exact .inl ⟨⟨xs,q,Nat.le_refl _⟩,hd σ H p⟩
theorem DJ {K:PySem.W.Frag}{a:Addr}{xs:List V}{g:TG}{tb:TS}{D:Ends}{σ:St}{H:Hp}(Pv:Nat→St→Hp→Prop) (h0:Pv 0 σ H) (hl:∀ i σ H,i≤xs.length→Pv i σ H→SqT K H a xs)
  (hs:∀ i x σ H,xs[i]? = some x→Pv i σ H→g x σ H fun σ2 H2=>tb { D with nx:=Pv (i+1),ct:=Pv (i+1),bk:=D.nx } σ2 H2) (hd:∀ σ H,Pv xs.length σ H→D.nx σ H) :
  ∃ W:Nat→Nat→St→Hp→Prop,(∃ m,W 0 m σ H)∧∀ i m σ H,W i m σ H →
   ((Itt K a).stop i H∧D.nx σ H)∨((Itt K a).go i H∧∃ N:St→Hp→Prop,(∀ σ' H',N σ' H'→∃ m',m' < m∧W (i+1) m' σ' H')∧∀ x H',(Itt K a).yld i H x H'→g x σ H' fun σ2 H2=>tb { D with nx:=N,ct:=N,bk:=D.nx } σ2 H2):=by
 refine⟨fun i m σ H=>m=xs.length - i∧i≤xs.length∧Pv i σ H,⟨xs.length,by simp,Nat.zero_le _,h0⟩,?_⟩
 rintro i m σ H ⟨rfl,hi,p⟩
 have q:=hl i σ H hi p
 by_cases hlt:i < xs.length
 ·refine .inr ⟨⟨xs,xs[i],q,by simp[hlt]⟩,Pv (i+1),fun σ' H' p'=>⟨xs.length - (i+1),by omega,rfl,hlt,p'⟩,fun x H' y=>?_⟩
  obtain⟨e,y⟩:=y
  subst e
  exact hs i x σ _ (y xs q) p
 ·have e:i=xs.length:=by omega
  subst e
  exact .inl ⟨⟨xs,q,Nat.le_refl _⟩,hd σ H p⟩
theorem tQ {lo:Int}{n:Nat}{g:TG}{tb:TS}{D:Ends}{σ:St}{H:Hp}(Pv:Nat→St→Hp→Prop) (h0:Pv 0 σ H)
  (hs:∀ i σ H,i < n→Pv i σ H→g (.int (lo+i)) σ H fun σ2 H2=>tb { D with nx:=Pv (i+1),ct:=Pv (i+1),bk:=D.nx } σ2 H2) (hd:∀ σ H,Pv n σ H→D.nx σ H) :
  ∃ W:Nat→Nat→St→Hp→Prop,(∃ m,W 0 m σ H)∧∀ i m σ H,W i m σ H →
   ((Itr lo n).stop i H∧D.nx σ H)∨((Itr lo n).go i H∧∃ N:St→Hp→Prop,(∀ σ' H',N σ' H'→∃ m',m' < m∧W (i+1) m' σ' H')∧∀ x H',(Itr lo n).yld i H x H'→g x σ H' fun σ2 H2=>tb { D with nx:=N,ct:=N,bk:=D.nx } σ2 H2):=by
 refine⟨fun i m σ H=>m=n - i∧i≤n∧Pv i σ H,⟨n,by simp,Nat.zero_le _,h0⟩,?_⟩
 rintro i m σ H ⟨rfl,hi,p⟩
 by_cases hlt:i < n
 ·refine .inr ⟨hlt,Pv (i+1),fun σ' H' p'=>⟨n - (i+1),by omega,rfl,hlt,p'⟩,fun x H' y=>?_⟩
  obtain⟨e,y⟩:=y
  subst e y
  exact hs i σ _ hlt p
 ·have e:i=n:=by omega
  subst e
  exact .inl ⟨Nat.le_refl _,hd σ H p⟩
end L2
namespace L2
open PySem PySem.Spec PyProof.Rows
abbrev R2:=V→V→Hp→VK→Prop
def OpR (X:Cx) (f:Value→Value→Sem Value) (r:R2):Prop:=
 ∀ (pins:List (Addr×Obj)) (s:Shared) (σ:St) (H:Hp) (x y:V) (v u:Value) (Q:VK),Inv X pins σ H s→RelV x v→RelV y u→r x y H Q →
  wpAny (model X.prog X.w) X.A (f v u) (EP X pins σ Q) X.xe s
def UnR (X:Cx) (f:Value→Sem Value) (r:V→Hp→VK→Prop):Prop:=
 ∀ (pins:List (Addr×Obj)) (s:Shared) (σ:St) (H:Hp) (x:V) (v:Value) (Q:VK),Inv X pins σ H s→RelV x v→r x H Q →
  wpAny (model X.prog X.w) X.A (f v) (EP X pins σ Q) X.xe s
def g5 (X:Cx) (f:Value) (r:List V→Hp→VK→Prop):Prop:=
 ∀ (pins:List (Addr×Obj)) (s:Shared) (σ:St) (H:Hp) (xs:List V) (us:List Value) (Q:VK),Inv X pins σ H s→Vals xs us→r xs H Q →
  wpAny (model X.prog X.w) X.A (call f us) (EP X pins σ Q) X.xe s
def tOp (r:R2) (ta tb:TE):TE:=fun σ H Q=>ta σ H fun x H1=>tb σ H1 fun y H2=>r x y H2 Q
def tUn (r:V→Hp→VK→Prop) (ta:TE):TE:=fun σ H Q=>ta σ H fun x H1=>r x H1 Q
def rI (C:Int→Int→Prop) (g:Int→Int→V):R2:=fun x y H Q=>∃ i j,x = .int i∧y = .int j∧C i j∧Q (g i j) H
def rI0 (g:Int→Int→V):R2:=fun x y H Q=>∃ i j,x = .int i∧y = .int j∧Q (g i j) H
def rU (g:Int→V):V→Hp→VK→Prop:=fun x H Q=>∃ i,x = .int i∧Q (g i) H
section
variable {X:Cx}{a b c:Expr}{ta tb tc:TE}{pos:Pos}
theorem E7 (ha:PE X a ta) (hb:PE X b tb) {pins:List (Addr×Obj)}{s:Shared}{σ:St}{H:Hp}{R:V→V→Hp→Prop}(I:Inv X pins σ H s)
  (h:ta σ H fun x H1=>tb σ H1 fun y H2=>R x y H2) {Q:Value→Shared→Prop}{f:Value→Value→Sem Value}
  (hf:∀ v u s2 x y H2,Inv X pins σ H2 s2→RelV x v→RelV y u→R x y H2→wpAny (model X.prog X.w) X.A (f v u) Q X.xe s2) :
  wpAny (model X.prog X.w) X.A (eval a X.env) (fun v s₁=>wpAny (model X.prog X.w) X.A (eval b X.env) (fun u s₂=>wpAny (model X.prog X.w) X.A (f v u) Q X.xe s₂) X.xe s₁) X.xe s:=by
 refine thn (ha pins s σ H _ I h) fun v s1 ⟨x,H1,I1,r1,q1⟩=>?_
 refine thn (hb pins s1 σ H1 _ I1 q1) fun u s2 ⟨y,H2,I2,r2,q2⟩=>?_
 exact hf v u s2 x y H2 I2 r1 r2 q2
theorem aU {op:Operator}{r:R2}(ho:OpR X (binaryOp op) r) (ha:PE X a ta) (hb:PE X b tb):PE X (.BinOp a op b pos) (tOp r ta tb):=by
 intro pins s σ H Q I h
 exact wpAny_BinOp (E7 ha hb I h fun v u s2 x y H2 I2 rx ry q=>ho pins s2 σ H2 x y v u Q I2 rx ry q)
theorem gJ {op:UnaryOp}{r:V→Hp→VK→Prop}(ho:UnR X (unaryOp op) r) (ha:PE X a ta):PE X (.UnaryOp op a pos) (tUn r ta):=by
 intro pins s σ H Q I h
 exact UnaryOp_ (thn (ha pins s σ H _ I h) fun v s1 ⟨x,H1,I1,r1,q1⟩=>ho pins s1 σ H1 x v Q I1 r1 q1)
theorem opI {f:Value→Value→Sem Value}{C:Int→Int→Prop}{g:Int→Int→Int}
  (rule:∀ (i j:Int) (t u:Tok) (s:Shared) (Q:Value→Shared→Prop) (E:Value→Shared→Prop),C i j→Q (.int (g i j) s.toks) { s with toks:=s.toks+1 }→wpAny (model X.prog X.w) X.A (f (.int i t) (.int j u)) Q E s) :
  OpR X f (rI C fun i j=>.int (g i j)):=by
 intro pins s σ H x y v u Q I rx ry h
 obtain⟨i,j,rfl,rfl,hc,q⟩:=h
 obtain⟨t,rfl⟩:=rx
 obtain⟨t',rfl⟩:=ry
 exact rule i j t t' s _ _ hc ⟨.int (g i j),H,I.tok _,⟨_,rfl⟩,q⟩
theorem Ft {f:Value→Value→Sem Value}{g:Int→Int→Int}
  (rule:∀ (i j:Int) (t u:Tok) (s:Shared) (Q:Value→Shared→Prop) (E:Value→Shared→Prop),Q (.int (g i j) s.toks) { s with toks:=s.toks+1 }→wpAny (model X.prog X.w) X.A (f (.int i t) (.int j u)) Q E s) :
  OpR X f (rI0 fun i j=>.int (g i j)):=by
 intro pins s σ H x y v u Q I rx ry h
 obtain⟨i,j,rfl,rfl,q⟩:=h
 obtain⟨t,rfl⟩:=rx
 obtain⟨t',rfl⟩:=ry
 exact rule i j t t' s _ _ ⟨.int (g i j),H,I.tok _,⟨_,rfl⟩,q⟩
theorem Dq {f:Value→Value→Sem Value}{g:Int→Int→Bool}
  (rule:∀ (i j:Int) (t u:Tok) (s:Shared) (Q:Value→Shared→Prop) (E:Value→Shared→Prop),Q (.bool (g i j)) s→wpAny (model X.prog X.w) X.A (f (.int i t) (.int j u)) Q E s) :
  OpR X f (rI0 fun i j=>.bl (g i j)):=by
 intro pins s σ H x y v u Q I rx ry h
 obtain⟨i,j,rfl,rfl,q⟩:=h
 obtain⟨t,rfl⟩:=rx
 obtain⟨t',rfl⟩:=ry
 exact rule i j t t' s _ _ ⟨.bl (g i j),H,I,rfl,q⟩
def D0 (i j:Int):Prop:=0 < j∧j < 1073741824
def Fd (i j:Int):Prop:=(-(2 ^ 64) < i∧i < 2 ^ 64)∨(-(2 ^ 64) < j∧j < 2 ^ 64)
theorem Fd.ok {i j:Int}(h:Fd i j):IntMulOk i j:=by
 rcases h with ⟨h1,h2⟩ | ⟨h1,h2⟩
 ·exact .of_left (intBits_le_64 h1 h2)
 ·exact .of_right (intBits_le_64 h1 h2)
theorem bh:OpR X (binaryOp .Add) (rI0 fun i j=>.int (i+j)):=Ft fun _ _ _ _ _ _ _ q=>add_int q
theorem du:OpR X (binaryOp .Sub) (rI0 fun i j=>.int (i - j)):=Ft fun _ _ _ _ _ _ _ q=>sub_int q
theorem BI:OpR X (binaryOp .Mult) (rI Fd fun i j=>.int (i*j)):=opI fun _ _ _ _ _ _ _ hc q=>mul_int q hc.ok
theorem lZ:OpR X (binaryOp .FloorDiv) (rI D0 fun i j=>.int (i / j)):=opI fun i j _ _ _ _ _ hc q=>by
 have h1:(0:Int) < j:=hc.1
 have h2:j < 1073741824:=hc.2
 exact floordiv_int (by omega) (by rw[Int.fdiv_eq_ediv_of_nonneg i (by omega)];exact q) (.inl (PyProof.noPylong_small (by omega)))
theorem qe:OpR X (binaryOp .Mod) (rI (fun _ j=>0 < j) fun i j=>.int (i % j)):=opI fun i j _ _ _ _ _ hc q=>by
 have h1:(0:Int) < j:=hc
 exact mod_int' (by omega) (by rw[Int.fmod_eq_emod_of_nonneg i (by omega)];exact q)
theorem unI {f:Value→Sem Value}{g:Int→Int}
  (rule:∀ (i:Int) (t:Tok) (s:Shared) (Q:Value→Shared→Prop) (E:Value→Shared→Prop),Q (.int (g i) s.toks) { s with toks:=s.toks+1 }→wpAny (model X.prog X.w) X.A (f (.int i t)) Q E s) :
  UnR X f (rU fun i=>.int (g i)):=by
 intro pins s σ H x v Q I rx h
 obtain⟨i,rfl,q⟩:=h
 obtain⟨t,rfl⟩:=rx
 exact rule i t s _ _ ⟨.int (g i),H,I.tok _,⟨_,rfl⟩,q⟩
theorem eh:UnR X (unaryOp .USub) (rU fun i=>.int (-i)):=unI fun _ _ _ _ _ q=>neg_int q
end
def Es:V→V→Bool
 | .non,.non=>true | .non,.int _=>true | .int _,.non=>true | .non,.bl _=>true | .bl _,.non=>true | .non,.str _=>true | .str _,.non=>true
 | .int _,.int _=>true | .bl _,.bl _=>true | .str _,.str _=>true | .byt _,.byt _=>true
 | .int _,.str _=>true | .str _,.int _=>true | .bl _,.str _=>true | .str _,.bl _=>true
 |_,_=>false
def rEq:R2:=fun x y H Q=>Es x y=true∧Q (.bl (decide (x=y))) H
def rNe:R2:=fun x y H Q=>Es x y=true∧Q (.bl (!decide (x=y))) H
theorem zG {i j:Int}:decide (V.int i=V.int j)=(i == j):=by
 rw[Bool.eq_iff_iff]
 simp
theorem Ct {i j:Bool}:decide (V.bl i=V.bl j)=(i == j):=by
 rw[Bool.eq_iff_iff]
 simp
theorem zF {i j:Str}:decide (V.str i=V.str j)=(i == j):=by
 rw[Bool.eq_iff_iff]
 simp
theorem zH {i j:Array UInt8}:decide (V.byt i=V.byt j)=(i.toList == j.toList):=by
 rw[Bool.eq_iff_iff]
 cases i
 cases j
 simp
section
variable {X:Cx}{a b c:Expr}{ta tb tc:TE}{pos:Pos}
theorem bc {pins:List (Addr×Obj)}{σ:St}{H:Hp}{s:Shared}{Q:VK}{k k':Bool}(I:Inv X pins σ H s) (q:Q (.bl k) H) (e:k=k'):EP X pins σ Q (.bool k') s:=by
 subst e
 exact⟨.bl k,H,I,rfl,q⟩
theorem aT:OpR X (compareOp .Eq) rEq:=by
 intro pins s σ H x y v u Q I rx ry h
 obtain⟨hs,q⟩:=h
 cases x with
 |non=>
  cases rx
  cases y with
  |non=>cases ry;exact PySem.EqNone.eq_none_none (bc I q (by simp))
  |bl j=>cases ry;exact PySem.EqNone.eq_none_bool (bc I q (by simp))
  |int j=>obtain⟨t',rfl⟩:=ry;exact PySem.EqNone.eq_none_int (bc I q (by simp))
  |str j=>obtain⟨t',rfl⟩:=ry;exact PySem.EqNone.eq_none_str (bc I q (by simp))
  |_=>exact absurd (show false=true from hs) Bool.false_ne_true
 |bl i=>
  cases rx
  cases y with
  |non=>cases ry;exact PySem.EqNone.eq_bool_none (bc I q (by simp))
  |bl j=>cases ry;exact eq_bool (bc I q Ct)
  |str j=>obtain⟨t',rfl⟩:=ry;exact PySem.EqMixed.eq_bool_str (bc I q (by simp))
  |_=>exact absurd (show false=true from hs) Bool.false_ne_true
 |int i=>
  obtain⟨t,rfl⟩:=rx
  cases y with
  |non=>cases ry;exact PySem.EqNone.eq_int_none (bc I q (by simp))
  |int j=>obtain⟨t',rfl⟩:=ry;exact eq_int (bc I q zG)
  |str j=>obtain⟨t',rfl⟩:=ry;exact PySem.EqMixed.eq_int_str (bc I q (by simp))
  |_=>exact absurd (show false=true from hs) Bool.false_ne_true
 |str i=>
  obtain⟨t,rfl⟩:=rx
  cases y with
  |non=>cases ry;exact PySem.EqNone.eq_str_none (bc I q (by simp))
  |bl j=>cases ry;exact PySem.EqMixed.eq_str_bool (bc I q (by simp))
  |int j=>obtain⟨t',rfl⟩:=ry;exact PySem.EqMixed.eq_str_int (bc I q (by simp))
  |str j=>obtain⟨t',rfl⟩:=ry;exact eq_str (bc I q zF)
  |_=>exact absurd (show false=true from hs) Bool.false_ne_true
 |byt i=>
  obtain⟨t,rfl⟩:=rx
  cases y with
  |byt j=>obtain⟨t',rfl⟩:=ry;exact PySem.W.eq_bytes (bc I q zH)
  |_=>exact absurd (show false=true from hs) Bool.false_ne_true
 |_=>cases y<;>exact absurd (show false=true from hs) Bool.false_ne_true
theorem BH:OpR X (compareOp .NotEq) rNe:=by
 intro pins s σ H x y v u Q I rx ry h
 obtain⟨hs,q⟩:=h
 cases x with
 |non=>
  cases rx
  cases y with
  |non=>cases ry;exact PySem.EqNone.ne_none_none (bc I q (by simp))
  |bl j=>cases ry;exact PySem.EqNone.ne_none_bool (bc I q (by simp))
  |int j=>obtain⟨t',rfl⟩:=ry;exact PySem.EqNone.ne_none_int (bc I q (by simp))
  |str j=>obtain⟨t',rfl⟩:=ry;exact PySem.EqNone.ne_none_str (bc I q (by simp))
  |_=>exact absurd (show false=true from hs) Bool.false_ne_true
 |bl i=>
  cases rx
  cases y with
  |non=>cases ry;exact PySem.EqNone.ne_bool_none (bc I q (by simp))
  |bl j=>cases ry;exact ne_bool (bc I q (congrArg not Ct))
  |str j=>obtain⟨t',rfl⟩:=ry;exact PySem.EqMixed.ne_bool_str (bc I q (by simp))
  |_=>exact absurd (show false=true from hs) Bool.false_ne_true
 |int i=>
  obtain⟨t,rfl⟩:=rx
  cases y with
  |non=>cases ry;exact PySem.EqNone.ne_int_none (bc I q (by simp))
  |int j=>obtain⟨t',rfl⟩:=ry;exact ne_int (bc I q (congrArg not zG))
  |str j=>obtain⟨t',rfl⟩:=ry;exact PySem.EqMixed.ne_int_str (bc I q (by simp))
  |_=>exact absurd (show false=true from hs) Bool.false_ne_true
 |str i=>
  obtain⟨t,rfl⟩:=rx
  cases y with
  |non=>cases ry;exact PySem.EqNone.ne_str_none (bc I q (by simp))
  |bl j=>cases ry;exact PySem.EqMixed.ne_str_bool (bc I q (by simp))
  |int j=>obtain⟨t',rfl⟩:=ry;exact PySem.EqMixed.ne_str_int (bc I q (by simp))
  |str j=>obtain⟨t',rfl⟩:=ry;exact ne_str (bc I q (congrArg not zF))
  |_=>exact absurd (show false=true from hs) Bool.false_ne_true
 |byt i=>
  obtain⟨t,rfl⟩:=rx
  cases y with
  |byt j=>obtain⟨t',rfl⟩:=ry;exact PySem.W.ne_bytes (bc I q (congrArg not zH))
  |_=>exact absurd (show false=true from hs) Bool.false_ne_true
 |_=>cases y<;>exact absurd (show false=true from hs) Bool.false_ne_true
theorem kK:OpR X (compareOp .Lt) (rI0 fun i j=>.bl (decide (i < j))):=Dq fun _ _ _ _ _ _ _ q=>lt_int q
theorem cG:OpR X (compareOp .LtE) (rI0 fun i j=>.bl (decide (i≤j))):=Dq fun _ _ _ _ _ _ _ q=>le_int q
theorem BK:OpR X (compareOp .Gt) (rI0 fun i j=>.bl (decide (j < i))):=Dq fun _ _ _ _ _ _ _ q=>gt_int q
theorem tE:OpR X (compareOp .GtE) (rI0 fun i j=>.bl (decide (j≤i))):=Dq fun _ _ _ _ _ _ _ q=>ge_int q
theorem BJ:OpR X (compareOp .Is) (fun x y H Q=>y = .non∧Q (.bl (decide (x = .non))) H):=by
 intro pins s σ H x y v u Q I rx ry h
 obtain⟨rfl,q⟩:=h
 cases ry
 refine is_none_gen (bc I q ?_)
 cases x<;>first
  |(cases rx;rfl)
  |(obtain⟨t,rfl⟩:=rx;rfl)
theorem aD (b:Expr) {op:CmpOp}(h:op ≠ .In:=by decide) (h2:op ≠ .NotIn:=by decide):behindInMarks op b=false:=by
 have e1:(op == CmpOp.In)=false:=by cases op<;>first | rfl | exact absurd rfl h
 have e2:(op == CmpOp.NotIn)=false:=by cases op<;>first | rfl | exact absurd rfl h2
 cases b<;>simp[behindInMarks,e1,e2]
theorem cz {op:CmpOp}{r:R2}(ho:OpR X (compareOp op) r) (ha:PE X a ta) (hb:PE X b tb) (hm:behindInMarks op b=false):PE X (.Compare a [op] [b] pos) (tOp r ta tb):=by
 intro pins s σ H Q I h
 exact wpAny_Compare1 (E7 ha hb I h fun v u s2 x y H2 I2 rx ry q=>ho pins s2 σ H2 x y v u Q I2 rx ry q) hm
def Bi (t:TE):TT:=fun σ H Q=>t σ H fun x H'=>∃ k,x = .bl k∧Q k H'
theorem aA {op:CmpOp}{r:R2}(ho:OpR X (compareOp op) r) (ha:PE X a ta) (hb:PE X b tb) (hm:behindInMarks op b=false):PT X (.Compare a [op] [b] pos) (Bi (tOp r ta tb)):=by
 intro pins s σ H Q I h
 refine wpAny_isTrue_Compare1 (thn (ha pins s σ H _ I h) fun v s1 ⟨x,H1,I1,r1,q1⟩=>thn (hb pins s1 σ H1 _ I1 q1) fun u s2 ⟨y,H2,I2,r2,q2⟩=>
  thn (ho pins s2 σ H2 x y v u _ I2 r1 r2 q2) fun c s3 ⟨z,H3,I3,r3,k,e,q3⟩=>?_) hm
 subst e
 cases r3
 exact wpAny_truthy_bool ⟨H3,I3,q3⟩
def xx (r r':R2) (ta tb tc:TE):TE:=fun σ H Q=>ta σ H fun x H1=>tb σ H1 fun y H2=>r x y H2 fun z H3=>∃ k,z = .bl k ∧
 (if k=true then tc σ H3 fun w' H4=>r' y w' H4 Q else Q (.bl false) H3)
theorem eU {op op':CmpOp}{r r':R2}(ho:OpR X (compareOp op) r) (ho':OpR X (compareOp op') r') (ha:PE X a ta) (hb:PE X b tb) (hc:PE X c tc)
  (hm:lastMarks [op,op'] [b,c]=false:=by with_unfolding_all rfl):PE X (.Compare a [op,op'] [b,c] pos) (xx r r' ta tb tc):=by
 intro pins s σ H Q I h
 refine Compare_chain (thn (ha pins s σ H _ I h) fun v s1 ⟨x,H1,I1,r1,q1⟩=>chain_link (thn (hb pins s1 σ H1 _ I1 q1) fun u s2 ⟨y,H2,I2,r2,q2⟩=>
  thn (ho pins s2 σ H2 x y v u _ I2 r1 r2 q2) fun d s3 ⟨z,H3,I3,r3,k,e,q3⟩=>?_)) hm
 subst e
 cases r3
 refine wpAny_truthy_bool ?_
 cases k with
 |false=>exact ite_ff ⟨.bl false,H3,I3,rfl,q3⟩
 |true=>exact ite_tt (chain_last (thn (hc pins s3 σ H3 _ I3 q3) fun w' s4 ⟨z',H4,I4,r4,q4⟩=>ho' pins s4 σ H4 y z' u w' Q I4 r2 r4 q4))
theorem pZ {op op':CmpOp}{r r':R2}(ho:OpR X (compareOp op) r) (ho':OpR X (compareOp op') r') (ha:PE X a ta) (hb:PE X b tb) (hc:PE X c tc)
  (hm:lastMarks [op,op'] [b,c]=false:=by with_unfolding_all rfl):PT X (.Compare a [op,op'] [b,c] pos) (Bi (xx r r' ta tb tc)):=by
 intro pins s σ H Q I h
 refine isTrue_chain (thn (ha pins s σ H _ I h) fun v s1 ⟨x,H1,I1,r1,q1⟩=>test_link (thn (hb pins s1 σ H1 _ I1 q1) fun u s2 ⟨y,H2,I2,r2,q2⟩=>
  thn (ho pins s2 σ H2 x y v u _ I2 r1 r2 q2) fun d s3 ⟨z,H3,I3,r3,k,e,q3⟩=>?_)) hm
 subst e
 cases r3
 refine wpAny_truthy_bool ?_
 cases k with
 |false=>
  obtain⟨k',e',q'⟩:=q3
  cases e'
  exact ite_ff ⟨H3,I3,q'⟩
 |true=>
  refine ite_tt (test_last (thn (hc pins s3 σ H3 _ I3 q3) fun w' s4 ⟨z',H4,I4,r4,q4⟩=>thn (ho' pins s4 σ H4 y z' u w' _ I4 r2 r4 q4) fun d' s5 ⟨z2,H5,I5,r5,k2,e2,q5⟩=>?_))
  subst e2
  cases r5
  exact wpAny_truthy_bool ⟨H5,I5,q5⟩
theorem ym:(sizeLine:Nat) < 2 ^ 63:=by rw[sizeLine_eq];decide
theorem vals1 {x:V}{us:List Value}(r:Vals [x] us):∃ u,us=[u]∧RelV x u:=by
 cases r with
 |cons r1 r2=>cases r2;exact⟨_,rfl,r1⟩
theorem vals2 {x y:V}{us:List Value}(r:Vals [x,y] us):∃ u w',us=[u,w']∧RelV x u∧RelV y w':=by
 cases r with
 |cons r1 r2=>
  cases r2 with
  |cons r3 r4=>cases r4;exact⟨_,_,rfl,r1,r3⟩
theorem nH (hc:X.calm=true):g5 X (.builtin "min") (fun xs H Q=>∃ i j,xs=[.int i,.int j]∧Q (.int (if j < i then j else i)) H):=by
 intro pins s σ H xs us Q I r h
 obtain⟨i,j,rfl,q⟩:=h
 obtain⟨u,w',rfl,⟨t,rfl⟩,⟨t',rfl⟩⟩:=vals2 r
 refine min_two_ints (I.ok.hd hc) fun h' tk k=>⟨_,H,I.kept k,?_,q⟩
 by_cases hj:j < i
 ·rw[if_pos hj,if_pos hj];exact⟨_,rfl⟩
 ·rw[if_neg hj,if_neg hj];exact⟨_,rfl⟩
theorem ve:g5 X (.type "str") (fun xs H Q=>∃ i,xs=[.int i]∧i.natAbs.log2 < 1920∧Q (.str (toString i)) H):=by
 intro pins s σ H xs us Q I r h
 obtain⟨i,rfl,hz,q⟩:=h
 obtain⟨u,rfl,t,rfl⟩:=vals1 r
 exact PySem.P.str_of_int hz ⟨.str _,H,I.tok _,⟨_,rfl⟩,q⟩
theorem CG:g5 X (.builtin "ord") (fun xs H Q=>∃ x,xs=[.str x]∧x.length=1∧Q (.int (x.cps.getD 0 0:Nat)) H):=by
 intro pins s σ H xs us Q I r h
 obtain⟨x,rfl,hz,q⟩:=h
 obtain⟨u,rfl,t,rfl⟩:=vals1 r
 exact ord_of_one hz ⟨.int _,H,I.tok _,⟨_,rfl⟩,q⟩
end
end L2
namespace L2
open PySem PySem.Spec PyProof.Rows
structure yT (h:Heap) (x dx C:Addr) (mA:Str→Option Value):Prop where
 obj:h.get? x=some (PySem.W.instObj C dx)
 ns:h.Ns1 dx mA
 ne:dx≠x
theorem Aq {h:Heap}{dx:Addr}{mA:Str→Option Value}(n:h.Ns1 dx mA):∃ od,h.get? dx=some od∧∀ name,PySem.W.lookIn name od=some (mA name):=by
 obtain⟨o,es,ep,ho,hd,hk,_,hm⟩:=n
 refine⟨o,ho,fun name=>?_⟩
 have e:=hm name
 unfold nsFind findBy at e
 rw[←Array.find?_toList]at e
 unfold PySem.W.lookIn
 rw[hd]
 dsimp only
 split
 ·rename_i y q
  rw[q]at e
  exact congrArg some e
 ·rename_i q
  rw[q]at e
  have a:es.toList.any (·.refKey)=false:=by
   rw[List.any_eq_false]
   intro y hy
   obtain⟨z,t,hkey⟩:=hk y (Array.mem_toList_iff.mp hy)
   simp[DictEntry.refKey,hkey]
  have a':¬ es.toList.any (·.refKey)=true:=by rw[a];exact Bool.false_ne_true
  rw[if_neg a']
  exact congrArg some e
theorem yT.look {h:Heap}{x dx C:Addr}{mA:Str→Option Value}(I:yT h x dx C mA):∃ od,PySem.W.InstAt h x (PySem.W.instObj C dx) C (some od)∧∀ name,PySem.W.lookIn name od=some (mA name):=
 let ⟨od,ho,hl⟩:=Aq I.ns
 ⟨od,⟨I.obj,rfl,rfl,ho⟩,hl⟩
section
variable {prog:Program}{w:World}{A:Around}{E:Value→Shared→Prop}{s:Shared}{K:PySem.W.Frag}{x dx C f:Addr}{mA:Str→Option Value}{name:Str}{v:Value}
theorem get_map {expr:Bool}{Q:Value→Shared→Prop}(X:K.In s.heap) (I:yT s.heap x dx C mA) (hg:PySem.W.plainGet K C name=true) (hh:PySem.W.hasDictIn K C=true)
  (ha:PySem.W.findIn K (.ref C) name=some none) (hv:mA name=some v) (hv':PySem.W.handedIn v=true) (h:Q v { s with toks:=s.toks+1 }) :
  wpAny (model prog w) A (getAttr (.ref x) name expr) Q E s:=by
 obtain⟨od,J,hl⟩:=I.look
 exact PySem.W.get_value X J (PySem.W.plainGet_of hg).1 (PySem.W.findObj_own hh ha rfl (by rw[hl,hv])) hv' h
theorem Cd {pl:Sem Bool}{Q:Value×List Value→Shared→Prop}(X:K.In s.heap) (I:yT s.heap x dx C mA) (hg:PySem.W.plainGet K C name=true)
  (hf:PySem.W.findIn K (.ref C) name=some (some (.ref f))) (ht:PySem.W.isFn K (.ref f)=true) (hv:mA name=none) (h:Q (.ref f,[.ref x]) s) :
  wpAny (model prog w) A (getMethod (.ref x) name pl) Q E s:=by
 obtain⟨od,J,hl⟩:=I.look
 exact PySem.W.method_fn X J (PySem.W.plainGet_of hg).1 (PySem.W.plainGet_of hg).2 hf (beq_iff_eq.mp ht) (by show (PySem.W.lookIn name od).map (·.isSome)=some false;rw[hl,hv];rfl) h
theorem Dc {ns:List Str}{Q:Unit→Shared→Prop}(X:K.In s.heap) (I:yT s.heap x dx C mA)
  (hs:PySem.W.findIn K (.ref C) "__setattr__"=some (some (.builtin "object.__setattr__"))) (hp:PySem.W.plainOver K C=true) (ht:PySem.W.takerIn K C name=some none) (hh:PySem.W.hasDictIn K C=true)
  (hw:PySem.Within mA ns) (hsz:ns.length≤sizeLine)
  (h:∀ h',yT h' x dx C (fun y=>if y=name then some v else mA y)→Heap.SameBut dx s.heap h'→Q () { s with heap:=h',toks:=s.toks+2 }) :
  wpAny (model prog w) A (setAttr (.ref x) name v) Q E s:=by
 obtain⟨od,J,hl⟩:=I.look
 refine PySem.W.set_plain X J hs (PySem.W.osa_open (s:={ s with toks:=s.toks+1 }) (r:=none) X J hp ht fun b=>?_)
 obtain⟨cd,hc,hd'⟩:=PySem.W.any_some hh
 have hx:s.heap.get? x=some ⟨.ref C,some dx,.plain,#[]⟩:=I.obj
 refine wpAny_bind (wpAny_pure (wpAny_bind (wpAny_bind (wpAny_loadPart hx (wpAny_bind (PySem.W.Looks.here (s:={ s with toks:=s.toks+1 }) (PySem.W.looks_clsIn X hc) ?_))))))
 rw[hd']
 refine wpAny_pure (a:=some dx) (wpAny_bind (wpAny_pure (wpAny_bind ?_)))
 refine wpAny_nsSet1 (s:={ s with toks:=s.toks+1 }) I.ns fun h' hn2 hs2=>?_
 obtain⟨oD,esD,epD,hoD,hdD,hcD⟩:=hn2.count (PySem.Within.cons name v hw)
 refine wpAny_bind (wpAny_lookBehind hoD (by rw[hdD];exact pastItsLine_dict (Nat.le_trans hcD (by rw[List.length_cons];omega))) ?_)
 exact wpAny_pure (h _ ⟨(hs2.2 _ (Ne.symm I.ne)).trans I.obj,hn2,I.ne⟩ hs2)
theorem BX {R:Result→Shared→Prop}{vs:List Value}{kw:List (Str×Value)}(X:K.In s.heap) (hm:PySem.W.makesIn K C=true)
  (hi:PySem.W.findIn K (.ref C) "__init__"=some (some (.ref f))) (hf:PySem.W.typeIn K (.ref f)=some (.type "function"))
  (h:codeAny (model prog w) (A.under (.builtin "type.__call__" ⟨.ref C :: vs,kw⟩)) (.call (.ref f) ⟨.ref (s.heap.objs.size+1) :: vs,kw⟩) (PySem.W.InitBack (s.heap.objs.size+1) R)
   { s with heap:=(s.heap.push PySem.W.emptyDict).push (PySem.W.instObj C s.heap.objs.size) }) :
  codeAny (model prog w) A (.call (.ref C) ⟨vs,kw⟩) R s:=by
 obtain⟨hh,g,d,t,os⟩:=s
 exact PySem.W.make_core (PySem.W.makes_of X hm) (PySem.W.looks_findIn X hi) (fun self=>PySem.W.bind_fn X self hf) (.inl rfl) h
end
def ig (f:Str) (v:V):List (Str×V)→List (Str×V)
 | []=>[(f,v)]
 |(g,x) :: r=>if g=f then (g,v) :: r else (g,x) :: ig f v r
theorem oh (f g:Str) (v:V):∀ fs:List (Str×V),(ig f v fs).lookup g=if g=f then some v else fs.lookup g
 | []=>by
  show List.lookup g [(f,v)]=_
  by_cases h:g=f
  ·have hb:(g == f)=true:=beq_iff_eq.mpr h
   simp only[List.lookup,hb,if_pos h]
  ·have hb:(g == f)=false:=beq_eq_false_iff_ne.mpr h
   simp only[List.lookup,hb,if_neg h]
 |(k,x) :: r=>by
  have ih:=oh f g v r
  rw[show ig f v ((k,x) :: r)=(if k=f then (k,v) :: r else (k,x) :: ig f v r) from rfl]
  by_cases hk:k=f
  ·rw[if_pos hk]
   by_cases h:g=k
   ·have hb:(g == k)=true:=beq_iff_eq.mpr h
    simp only[List.lookup,hb,if_pos (h.trans hk)]
   ·have hb:(g == k)=false:=beq_eq_false_iff_ne.mpr h
    simp only[List.lookup,hb,if_neg (fun e:g=f=>h (e.trans hk.symm))]
  ·rw[if_neg hk]
   by_cases h:g=k
   ·have hb:(g == k)=true:=beq_iff_eq.mpr h
    simp only[List.lookup,hb,if_neg (fun e:g=f=>hk (h.symm.trans e))]
   ·have hb:(g == k)=false:=beq_eq_false_iff_ne.mpr h
    simp only[List.lookup,hb]
    exact ih
theorem m8 (f:Str) (v:V):∀ fs:List (Str×V),f∈(ig f v fs).map (·.1)∧∀ g,g∈fs.map (·.1)→g∈(ig f v fs).map (·.1)
 | []=>⟨by simp[ig],fun g h=>by simp at h⟩
 |(k,x) :: r=>by
  obtain⟨i1,i2⟩:=m8 f v r
  rw[show ig f v ((k,x) :: r)=(if k=f then (k,v) :: r else (k,x) :: ig f v r) from rfl]
  by_cases hk:k=f
  ·rw[if_pos hk]
   subst hk
   exact⟨by simp,fun g h=>by simpa using h⟩
  ·rw[if_neg hk]
   refine⟨?_,fun g h=>?_⟩
   ·rw[List.map_cons]
    exact List.mem_cons_of_mem _ i1
   ·rw[List.map_cons]at h ⊢
    rcases List.mem_cons.mp h with e | e
    ·exact List.mem_cons.mpr (.inl e)
    ·exact List.mem_cons_of_mem _ (i2 g e)
theorem oq (f:Str) (v:V):∀ fs:List (Str×V),(ig f v fs).length≤fs.length+1
 | []=>by simp[ig]
 |(k,x) :: r=>by
  have ih:=oq f v r
  rw[show ig f v ((k,x) :: r)=(if k=f then (k,v) :: r else (k,x) :: ig f v r) from rfl]
  by_cases hk:k=f
  ·rw[if_pos hk,List.length_cons,List.length_cons];omega
  ·rw[if_neg hk,List.length_cons,List.length_cons];omega
theorem iz.some_of {v:V}{o:Option Value}(r:iz (some v) o):∃ u,o=some u∧RelV v u:=by
 cases o with
 |none=>exact(show False from r).elim
 |some u=>exact⟨u,rfl,r⟩
theorem iz.none_of {o:Option Value}(r:iz none o):o=none:=by
 cases o with
 |none=>rfl
 |some u=>exact(show False from r).elim
theorem AB {v:V}{u:Value}(r:RelV v u):PySem.W.handedIn u=true:=by
 cases v with
 |non=>cases (show u=Value.none from r);rfl
 |bl b=>cases (show u=Value.bool b from r);rfl
 |int i=>obtain⟨t,e⟩:=(show ∃ t,u=Value.int i t from r);cases e;rfl
 |str x=>obtain⟨t,e⟩:=(show ∃ t,u=Value.str x t from r);cases e;rfl
 |byt b=>obtain⟨t,e⟩:=(show ∃ t,u=Value.bytes b t from r);cases e;rfl
 |flt b=>obtain⟨t,e⟩:=(show ∃ t,u=Value.float b t from r);cases e;rfl
 |ref a=>cases (show u=Value.ref a from r);rfl
 |ty n=>cases (show u=Value.type n from r);rfl
section
variable {P:Program}{w:World}{H H':Hp}{h h':Heap}{a C dx:Addr}{fs fs':List (Str×V)}
theorem uM (hok:HOk P w H h) (e:H a=some (.ins C dx fs)):∃ mA,yT h a dx C mA∧(∀ f,iz (fs.lookup f) (mA f))∧PySem.Within mA (fs.map (·.1))∧fs.length≤1000∧H dx=some (.own a):=by
 obtain⟨d,z,ne,ob,mA,n,r,q⟩:=(show bS P w H h a (.ins C dx fs) from hok a _ e)
 exact⟨mA,⟨ob,n,ne⟩,r,q,z,d⟩
end
structure Cls (K:PySem.W.Frag) (C:Addr):Prop where
 pg:PySem.W.plainGet K C Str.empty=true
 hd:PySem.W.hasDictIn K C=true
 po:PySem.W.plainOver K C=true
 sa:PySem.W.findIn K (.ref C) "__setattr__"=some (some (.builtin "object.__setattr__"))
theorem Cls.get {K:PySem.W.Frag}{C:Addr}(c:Cls K C) (f:Str):PySem.W.plainGet K C f=true:=c.pg
def jO (K:PySem.W.Frag) (C:Addr) (f:Str):Prop:=PySem.W.findIn K (.ref C) f=some none
theorem jO.Ff {K:PySem.W.Frag}{C:Addr}{f:Str}(n:jO K C f):PySem.W.takerIn K C f=some none:=by
 unfold PySem.W.takerIn
 rw[show PySem.W.findIn K (.ref C) f=some none from n]
 rfl
structure Meth (K:PySem.W.Frag) (C:Addr) (m:Str) (f:Addr):Prop where
 at_:PySem.W.findIn K (.ref C) m=some (some (.ref f))
 fn:PySem.W.isFn K (.ref f)=true
 kp:PySem.W.keepIn K (.ref f)=true
section
variable {X:Cx}{pins:List (Addr×Obj)}{σ:St}{H:Hp}{s:Shared}{a C dx:Addr}{fs:List (Str×V)}{f:Str}{v:V}{A:Around}{E:Value→Shared→Prop}
theorem yr {b:Bool}{Q:Value→Shared→Prop}(I:Inv X pins σ H s) (e:H a=some (.ins C dx fs)) (c:Cls X.K C) (n:jO X.K C f) (l:fs.lookup f=some v)
  (h:∀ u s',Inv X pins σ H s'→RelV v u→Q u s'):wpAny (model X.prog X.w) A (getAttr (.ref a) f b) Q E s:=by
 obtain⟨mA,O,r,_,_,_⟩:=uM I.hok e
 obtain⟨u,hu,ru⟩:=iz.some_of (v:=v) (o:=mA f) (by rw[←l];exact r f)
 exact get_map I.kIn O (c.get f) c.hd n hu (AB ru) (h u _ (I.tok _) ru)
theorem yq {m:Str}{g:Addr}{pl:Sem Bool}{Q:Value×List Value→Shared→Prop}(I:Inv X pins σ H s) (e:H a=some (.ins C dx fs)) (c:Cls X.K C) (k:Meth X.K C m g) (l:fs.lookup m=none)
  (h:Q (.ref g,[.ref a]) s):wpAny (model X.prog X.w) A (getMethod (.ref a) m pl) Q E s:=by
 obtain⟨mA,O,r,_,_,_⟩:=uM I.hok e
 have hn:mA m=none:=iz.none_of (by rw[←l];exact r m)
 exact Cd I.kIn O (c.get m) k.at_ k.fn hn h
theorem xC {y:V}{u:Value}{Q:Unit→Shared→Prop}(I:Inv X pins σ H s) (e:H a=some (.ins C dx fs)) (c:Cls X.K C) (n:jO X.K C f) (hl:fs.length < 1000) (ry:RelV y u)
  (h:∀ s',Inv X pins σ (upd H a (.ins C dx (ig f y fs))) s'→Q () s'):wpAny (model X.prog X.w) A (setAttr (.ref a) f u) Q E s:=by
 obtain⟨mA,O,r,wi,_,ho⟩:=uM I.hok e
 have hz:(fs.map (·.1)).length≤sizeLine:=by rw[List.length_map,sizeLine_eq];omega
 refine Dc I.kIn O c.sa c.po n.Ff c.hd wi hz fun h' O' sb=>h _ ?_
 have hd:∃ o,h'.get? dx=some o:=let ⟨o,_,_,e',_⟩:=O'.ns;⟨o,e'⟩
 refine I.write (x:=a) (e:=dx) (by rw[e];exact True.intro) (.inr ho) (fun b q hb z=>(sb.2 b hb).trans z) hd ?_
 refine⟨by rw[ak O.ne];exact ho,?_,O.ne,O'.obj,_,O'.ns,fun g=>?_,fun g hg=>?_⟩
 ·have:=oq f y fs;omega
 ·show iz ((ig f y fs).lookup g) (if g=f then some u else mA g)
  rw[oh]
  by_cases q:g=f
  ·rw[if_pos q,if_pos q];exact ry
  ·rw[if_neg q,if_neg q];exact r g
 ·by_cases q:g=f
  ·rw[q];exact(m8 f y fs).1
  ·refine(m8 f y fs).2 g (wi g fun z=>hg ?_)
   show (if g=f then some u else mA g)=none
   rw[if_neg q];exact z
theorem Inv.made (I:Inv X pins σ H s):Inv X pins σ (upd (upd H s.heap.objs.size (.own (s.heap.objs.size+1))) (s.heap.objs.size+1) (.ins C s.heap.objs.size []))
  { s with heap:=(s.heap.push PySem.W.emptyDict).push (PySem.W.instObj C s.heap.objs.size) }:=by
 have e1:(s.heap.push PySem.W.emptyDict).get? s.heap.objs.size=some PySem.W.emptyDict:=Heap.get?_push_size s.heap rfl
 have e2:((s.heap.push PySem.W.emptyDict).push (PySem.W.instObj C s.heap.objs.size)).get? (s.heap.objs.size+1)=some (PySem.W.instObj C s.heap.objs.size):=by
  have:=Heap.get?_push_size (s.heap.push PySem.W.emptyDict) (o:=PySem.W.instObj C s.heap.objs.size) rfl
  rwa [Heap.size_push]at this
 have e3:(s.heap.push PySem.W.emptyDict).Ns s.heap.objs.size (fun _=>none):=⟨PySem.W.emptyDict,#[],_,e1,rfl,(fun e he=>absurd he (by simp)),fun _=>rfl⟩
 have I1:=I.laid (a:=s.heap.objs.size) (o:=.own (s.heap.objs.size+1)) (h':=s.heap.push PySem.W.emptyDict) (t':=s.toks) (fun b u q=>Heap.get?_push_of_some _ q) (Nat.le_refl _) ⟨_,e1⟩
 refine I1.laid (a:=s.heap.objs.size+1) (o:=.ins C s.heap.objs.size []) (t':=s.toks) (fun b u q=>Heap.get?_push_of_some _ q) (Nat.le_of_eq (Heap.size_push _ _)) ?_
 have ne:s.heap.objs.size≠s.heap.objs.size+1:=Nat.ne_of_lt (Nat.lt_succ_self _)
 refine⟨by rw[ak ne,ab],Nat.zero_le _,ne,e2,fun _=>none,(Heap.Ns1.of_empty e3).at fun o q=>Heap.get?_push_of_some _ q,fun _=>True.intro,fun y hy=>absurd rfl hy⟩
theorem DS {prog:Program}{w:World}{env:Env}{e:Expr}{f:Str}{pos:Pos}{s:Shared}{Q:Value→Shared→Prop}(hb:attributeBase e f env (eval e env)=eval e env)
  (h:wpAny (model prog w) A (eval e env) (fun o s₁=>wpAny (model prog w) A (getAttr o f true) Q E s₁) E s):wpAny (model prog w) A (eval (.Attribute e f pos) env) Q E s:=
 Attribute_any_ h (by rw[arm_eval_Attribute,hb])
end
def En (K:PySem.W.Frag) (ta:TE) (f:Str):TE:=fun σ H Q=>ta σ H fun x H1=>∃ a C dx fs v,x = .ref a∧H1 a=some (.ins C dx fs)∧Cls K C∧jO K C f∧fs.lookup f=some v∧Q v H1
def Dd (K:PySem.W.Frag) (ta tv:TE) (f:Str):TS:=fun D σ H=>tv σ H fun y H1=>ta σ H1 fun x H2=>∃ a C dx fs,x = .ref a∧H2 a=some (.ins C dx fs)∧Cls K C∧jO K C f∧fs.length < 1000 ∧
 D.nx σ (upd H2 a (.ins C dx (ig f y fs)))
section
variable {X:Cx}{o e value:Expr}{f:Str}{pos pos' tpos:Pos}{ta tv:TE}
theorem cq (he:PE X e ta) (hb:attributeBase e f X.env (eval e X.env)=eval e X.env):PE X (.Attribute e f pos) (En X.K ta f):=by
 intro pins s σ H Q I h
 refine DS hb (thn (he pins s σ H _ I h) fun u s1 ⟨x,H1,I1,rx,a,C,dx,fs,v,ex,ea,c,n,l,q⟩=>?_)
 subst ex
 obtain rfl:u=Value.ref a:=rx
 exact yr I1 ea c n l fun u' s2 I2 ru=>⟨v,H1,I2,ru,q⟩
theorem uz (ha:PE X o ta) (hv:PE X value tv) (hs:swapsWith value (some (.Attribute o f pos')) pos.line X.env=pure false):PS X (.Assign [.Attribute o f pos'] value pos) (Dd X.K ta tv f):=by
 intro pins s σ H D I h
 refine plainObj_wpAny_Assign_Attribute (thn (hv pins s σ H _ I h) fun u s1 ⟨y,H1,I1,ry,q⟩=>thn (ha pins s1 σ H1 _ I1 q) fun ov s2 ⟨x,H2,I2,rx,a,C,dx,fs,ex,ea,c,n,l,q2⟩=>?_) hs
 subst ex
 obtain rfl:ov=Value.ref a:=rx
 exact xC I2 ea c n l ry fun s3 I3=>⟨σ,_,I3,q2⟩
end
section
variable {X:Cx}{pins:List (Addr×Obj)}{σ:St}{H:Hp}{s:Shared}{A:Around}{E:Value→Shared→Prop}{Q:Value→Shared→Prop}{c:Value}{b:Bool}
end
end L2
namespace L2
open PySem PySem.Spec PyProof.Rows
structure dD (k:Nat) (A:Around):Prop where
 hd:A.handled=none
 dp:A.depth+3*k+5 < recursionLimit
 un:A.units+16*k+200 < cLine
theorem dD.mono {j k:Nat}{A:Around}(r:dD k A) (h:j≤k):dD j A:=⟨r.hd,by have:=r.dp;omega,by have:=r.un;omega⟩
theorem dD.deeper {k:Nat}{A:Around}(r:dD (k+1) A) (env:Env):dD k (A.deeper env):=
 ⟨r.hd,by have:=r.dp;show A.depth+1+3*k+5 < _;omega,by have:=r.un;show A.units+3+16*k+200 < _;omega⟩
theorem dD.in1 {k:Nat}{A:Around}(r:dD (k+1) A):dD k A.in1:=
 ⟨r.hd,by have:=r.dp;show A.depth+3*k+5 < _;omega,by have:=r.un;show A.units+1+16*k+200 < _;omega⟩
theorem yf {A:Around}{C:Addr}{us:List Value}{kw:List (Str×Value)}:(A.under (.builtin "type.__call__" ⟨.ref C :: us,kw⟩)).depth=A.depth+1:=by
 first | rfl | simp[Around.under,Code.weight,Code.isCreation,Code.isGuard,Code.isCaller,Code.frames,Code.isFrame,guardIds]
theorem ye {A:Around}{C:Addr}{us:List Value}{kw:List (Str×Value)}:(A.under (.builtin "type.__call__" ⟨.ref C :: us,kw⟩)).units=A.units+1:=by
 first | rfl | simp[Around.under,Code.cUnits,Code.frames,Code.isFrame]
theorem dD.make {k:Nat}{A:Around}(r:dD (k+1) A) (C:Addr) (us:List Value) (kw:List (Str×Value)):dD k (A.under (.builtin "type.__call__" ⟨.ref C :: us,kw⟩)):=
 ⟨r.hd,by have:=r.dp;rw[yf];omega,by have:=r.un;rw[ye];omega⟩
theorem dD.depth {k:Nat}{A:Around}(r:dD k A):A.depth < recursionLimit:=by have:=r.dp;omega
theorem dD.units {k:Nat}{A:Around}(r:dD k A):A.units+64 < cLine:=by have:=r.un;omega
def uh:TA:=fun _ H Q=>Q [] H
def sJ (ta:TE) (tr:TA):TA:=fun σ H Q=>ta σ H fun x H1=>tr σ H1 fun xs H2=>Q (x :: xs) H2
section
variable {X:Cx}{e:Expr}{es:List Expr}{te:TE}{t:TA}{pos:Pos}
theorem ah:PA X [] uh:=fun _ _ _ _ H Q I h=>Calls.spliced_nil ⟨[],H,I,.nil,h⟩
theorem aa (ha:PE X e te) (hr:PA X es t) (hs:starEach (e :: es) X.env=(false,eval e X.env) :: starEach es X.env:=by rfl):PA X (e :: es) (sJ te t):=by
 intro pos pins s σ H Q I h
 rw[hs]
 show wpAny _ _ (spliced ((false,eval e X.env) :: backTo pos (starEach es X.env))) _ _ s
 refine Calls.spliced_cons (thn (ha pins s σ H _ I h) fun u s1 ⟨x,H1,I1,r1,q1⟩=>?_)
 exact thn (hr pos pins s1 σ H1 _ I1 q1) fun us s2 ⟨xs,H2,I2,r2,q2⟩=>⟨x :: xs,H2,I2,.cons r1 r2,q2⟩
def Em (t:TA):TE:=fun σ H Q=>t σ H fun xs H1=>xs.length≤sizeLine∧∀ p,H1 p=none→Q (.ref p) (upd H1 p (.tup xs))
def C5 (t:TA):TE:=fun σ H Q=>t σ H fun xs H1=>xs.length≤sizeLine∧∀ p,H1 p=none→Q (.ref p) (upd H1 p (.lst xs))
theorem cK {x1} (h:PA X es t):PE X (.Tuple es x1 pos) (Em t):=by
 intro pins s σ H Q I hq
 refine wpAny_Tuple_spliced (thn (h pos pins s σ H _ I hq) fun us s1 ⟨xs,H1,I1,r,z,q⟩=>⟨by rw[←r.length];exact z,?_⟩)
 have hf:H1 s1.heap.objs.size=none:=I1.hok.fresh (Nat.le_refl _)
 refine⟨.ref s1.heap.objs.size,upd H1 s1.heap.objs.size (.tup xs),I1.laid (t':=s1.toks) (fun b u e=>Heap.get?_push_of_some _ e) (Nat.le_refl _) ?_,rfl,q _ hf⟩
 exact⟨z,us,r,⟨_,Heap.get?_push_size _ rfl,rfl,_,rfl⟩⟩
theorem aX (h:PA X es t):PE X (.List es pos) (C5 t):=by
 intro pins s σ H Q I hq
 refine wpAny_List_spliced (thn (h pos pins s σ H _ I hq) fun us s1 ⟨xs,H1,I1,r,z,q⟩=>⟨by rw[←r.length];exact z,?_⟩)
 have hf:H1 s1.heap.objs.size=none:=I1.hok.fresh (Nat.le_refl _)
 refine⟨.ref s1.heap.objs.size,upd H1 s1.heap.objs.size (.lst xs),I1.laid (t':=s1.toks) (fun b u e=>Heap.get?_push_of_some _ e) (Nat.le_refl _) ?_,rfl,q _ hf⟩
 exact⟨z,us,0,r,Heap.get?_push_size _ rfl⟩
end
abbrev Sp:=List V→Hp→VK→XK→Prop
abbrev CXT:=List Env→Hp→Shared→XK→Value→Shared→Prop
structure yV (P:Program) (w:World) (K:PySem.W.Frag) (mg:Str→Option Value) (base:Heap) (A:Around) (outer:List Env) (s:Shared) (H:Hp):Prop where
 frames:A.frames=some outer
 mod:Mod K mg base
 bs:∀ b o,base.get? b=some o→s.heap.get? b=some o∧H b=none
 bsz:base.objs.size≤s.heap.objs.size
 ng:s.heap.FunFrames base outer
 frf:∀ b∈frs outer,H b=none
 hok:HOk P w H s.heap
 bare:AllBare s.gens
def CE (outer:List Env) (P:Program) (w:World) (H:Hp) (s:Shared) (Q:VK) (u:Value) (s':Shared):Prop:=
 ∃ v H',s'.os=s.os∧AllBare s'.gens∧Un (frs outer) [] H H' s.heap s'.heap∧HOk P w H' s'.heap∧RelV v u∧Q v H'
def CR (CX:CXT) (outer:List Env) (P:Program) (w:World) (H:Hp) (s:Shared) (Q:VK) (E:XK) (r:Result) (s':Shared):Prop:=
 match r with
 | .ok (.ret u)=>CE outer P w H s Q u s'
 | .ok _=>False
 | .error e=>CX outer H s E e s'
structure kg (P:Program) (w:World) (K:PySem.W.Frag) (mg:Str→Option Value) (base:Heap) (CX:CXT) (k:Nat) (f:Addr) (fd:FuncData) (ps:List Str) (sp:Sp):Prop where
 len:∀ vs H Q E,sp vs H Q E→vs.length=ps.length
 run:∀ (A:Around) (outer:List Env) (s:Shared) (H:Hp) (args:Args) (us:List Value) (vs:List V) (Q:VK) (E:XK),dD k A→yV P w K mg base A outer s H→BindsTo s fd args (ps.zip us)→Vals vs us→sp vs H Q E →
  codeAny (model P w) A (.call (.ref f) args) (CR CX outer P w H s Q E) s
theorem kg.mono {P:Program}{w:World}{K:PySem.W.Frag}{mg:Str→Option Value}{base:Heap}{CX:CXT}{j k:Nat}{f:Addr}{fd:FuncData}{ps:List Str}{sp:Sp}(F:kg P w K mg base CX j f fd ps sp) (h:j≤k) :
  kg P w K mg base CX k f fd ps sp:=⟨F.len,fun A outer s H args us vs Q E hr=>F.run A outer s H args us vs Q E (hr.mono h)⟩
theorem yV.make {P:Program}{w:World}{K:PySem.W.Frag}{mg:Str→Option Value}{base:Heap}{A:Around}{outer:List Env}{s:Shared}{H:Hp}(e:yV P w K mg base A outer s H) (C:Addr) (us:List Value) (kw:List (Str×Value)) :
  yV P w K mg base (A.under (.builtin "type.__call__" ⟨.ref C :: us,kw⟩)) outer s H:=⟨by first | exact e.frames | (simpa[Around.under,Code.envs,Code.isFrame,pushEnvs]using e.frames),e.mod,e.bs,e.bsz,e.ng,e.frf,e.hok,e.bare⟩
section
variable {X:Cx}{pins:List (Addr×Obj)}{σ:St}{H:Hp}{s s':Shared}
theorem Inv.FI (I:Inv X pins σ H s):yV X.prog X.w X.K X.mg X.base X.A X.stack s H:=
 ⟨I.ok.frames,I.ok.mod,I.bs,Nat.le_trans I.ok.bsz I.sz,I.stack,I.um,I.hok,I.bare⟩
theorem Inv.after {Q:VK}{u:Value}(I:Inv X pins σ H s) (h:CE X.stack X.prog X.w H s Q u s'):EP X pins σ Q u s':=by
 obtain⟨v,H',os,bare,un,hok,r,q⟩:=h
 obtain⟨hh,g,d,t,os'⟩:=s'
 obtain rfl:os'=s.os:=os
 exact⟨v,H',I.call (h':=hh) (g':=g) (d':=d) (t':=t) (ch:=[]) un hok bare (fun b z=>absurd z (by simp)),r,q⟩
end
def Bn (sp:Sp) (dvs:List V) (E:XK) (t:TA):TE:=fun σ H Q=>t σ H fun vs H1=>sp (vs ++ dvs) H1 Q E
def Fl (C:Addr) (m:Str) (sp:Sp) (dvs:List V) (E:XK) (ta:TE) (t:TA):TE:=fun σ H Q=>ta σ H fun x H1=>∃ a dx fs,x = .ref a∧H1 a=some (.ins C dx fs)∧fs.lookup m=none ∧
 t σ H1 fun vs H2=>sp (x :: (vs ++ dvs)) H2 Q E
def Fm (C:Addr) (sp:Sp) (dvs:List V) (E:XK) (t:TA):TE:=fun σ H Q=>t σ H fun vs H1=>∀ x dx,H1 x=none→H1 dx=none→dx≠x →
 sp (.ref x :: (vs ++ dvs)) (upd (upd H1 dx (.own x)) x (.ins C dx [])) (fun v H2=>v = .non∧Q (.ref x) H2) E
def Binds (K:PySem.W.Frag) (fd:FuncData) (ps:List Str) (ds:List Value):Prop:=
 ∀ (s:Shared) (us:List Value),K.In s.heap→(us ++ ds).length=ps.length→BindsTo s fd ⟨us,[]⟩ (ps.zip (us ++ ds))
theorem Binds.all {K:PySem.W.Frag}{fd:FuncData}{ps:List Str}(h:∀ us:List Value,us.length=ps.length→bindArgs fd ⟨us,[]⟩=pure (ps.zip us)):Binds K fd ps []:=fun s us _ hl=>by
 rw[List.append_nil]at hl ⊢
 exact .of_eq (h us hl)
def Passes (CX:CXT) (X:Cx) (E:XK):Prop:=∀ (pins:List (Addr×Obj)) (σ:St) (H:Hp) (s:Shared) (e:Value) (s':Shared),Inv X pins σ H s→CX X.stack H s E e s'→X.xe e s'
section
variable {X:Cx}{CX:CXT}{k:Nat}{f C:Addr}{fd:FuncData}{ps:List Str}{sp:Sp}{dvs:List V}{ds:List Value}{E:XK}{x m:Str}{p pos apos:Pos}{e o:Expr}{es:List Expr}{ta:TE}{t:TA}
theorem Bt {pins:List (Addr×Obj)}{σ:St}{H:Hp}{s:Shared}{Q:VK}{us:List Value}{vs:List V}(F:kg X.prog X.w X.K X.mg X.base CX k f fd ps sp) (hr:dD k X.A) (hb:Binds X.K fd ps ds) (hd:Vals dvs ds) (hx:Passes CX X E)
  (I:Inv X pins σ H s) (r:Vals vs us) (h:sp (vs ++ dvs) H Q E):wpAny (model X.prog X.w) X.A (call (.ref f) us) (EP X pins σ Q) X.xe s:=by
 have r2:Vals (vs ++ dvs) (us ++ ds):=r.append hd
 have hl:(us ++ ds).length=ps.length:=by rw[←r2.length];exact F.len _ _ _ _ h
 refine wpAny_call (codeAny_mono (F.run X.A X.stack s H ⟨us,[]⟩ (us ++ ds) (vs ++ dvs) Q E hr I.FI (hb s us I.kIn hl) r2 h) fun r s' hq=>?_)
 cases r with
 |error e=>exact hx pins σ H s e s' I hq
 |ok fl=>
  cases fl with
  |ret u=>exact I.after hq
  |next=>exact False.elim hq
  |brk=>exact False.elim hq
  |cont=>exact False.elim hq
theorem Dm (F:kg X.prog X.w X.K X.mg X.base CX k f fd ps sp) (hr:dD k X.A) (hg:Gl X x) (hm:X.mg x=some (.ref f)) (hk:PySem.W.keepIn X.K (.ref f)=true) (hb:Binds X.K fd ps ds) (hd:Vals dvs ds) (hx:Passes CX X E)
  (ha:PA X (e :: es) t) (hdb:(x == ("__debug__" : Str))=false:=by decide) (he:starEach (e :: es) X.env=(false,eval e X.env) :: starEach es X.env:=by rfl) (hpl:(backTo pos (starEach es X.env)).any (·.1)=false:=by rfl) :
  PE X (.Call (.Name x p) (e :: es) [] pos) (Bn sp dvs E t):=by
 intro pins s σ H Q I h
 refine wpAny_Call_Name_kw (uK I hg hm ?_ hdb)
 refine PySem.W.callWith_K (h₀:=X.base) I.ok.mod.kin hk (thn (ha pos pins s σ H _ I h) fun us s1 ⟨vs,H1,I1,r,q⟩=>⟨I1.kIn,?_⟩) he hpl
 exact Bt F hr hb hd hx I1 r q
theorem Dj {pl:Sem Bool}(he:PE X o ta) (c:Cls X.K C) (hm:Meth X.K C m f) (F:kg X.prog X.w X.K X.mg X.base CX k f fd ps sp) (hr:dD k X.A) (hb:Binds X.K fd ps ds) (hd:Vals dvs ds) (hx:Passes CX X E) (ha:PA X (e :: es) t)
  (hst:starEach (e :: es) X.env=(false,eval e X.env) :: starEach es X.env:=by rfl) (hpl:(backTo pos (starEach es X.env)).any (·.1)=false:=by rfl)
  (ht:eval (.Call (.Attribute o m apos) (e :: es) [] pos) X.env=(do
   let ov ←eval o X.env
   standAt apos.atName
   let (f,first) ←holding [ov] (getMethod ov m pl)
   callWith pos f first (backTo pos (starEach (e :: es) X.env)) (backToKw pos (keywordEach [] X.env))):=by rfl) :
  PE X (.Call (.Attribute o m apos) (e :: es) [] pos) (Fl C m sp dvs E ta t):=by
 intro pins s σ H Q I h
 refine PySem.W.methodCall_KW (pl:=pl) (thn (he pins s σ H _ I h) fun u s1 ⟨x,H1,I1,rx,a,dx,fs,ex,ea,l,q⟩=>?_) ht
 subst ex
 obtain rfl:u=Value.ref a:=rx
 refine yq I1 ea c hm l ?_
 refine PySem.W.callWith_K (first:=[.ref a]) (h₀:=X.base) I.ok.mod.kin hm.kp (thn (ha pos pins s1 σ H1 _ I1 q) fun us s2 ⟨vs,H2,I2,r,q2⟩=>⟨I2.kIn,?_⟩) hst hpl
 exact Bt (us:=.ref a :: us) (vs:=.ref a :: vs) F hr hb hd hx I2 (.cons rfl r) q2
structure Mk (K:PySem.W.Frag) (C f:Addr):Prop where
 makes:PySem.W.makesIn K C=true
 init:PySem.W.findIn K (.ref C) "__init__"=some (some (.ref f))
 fn:PySem.W.isFn K (.ref f)=true
 kp:PySem.W.keepIn K (.ref C)=true
theorem Bs {pins:List (Addr×Obj)}{σ:St}{H:Hp}{s:Shared}{Q:VK}{us:List Value}{vs:List V}(M:Mk X.K C f) (F:kg X.prog X.w X.K X.mg X.base CX k f fd ps sp) (hr:dD (k+1) X.A) (hb:Binds X.K fd ps ds) (hd:Vals dvs ds)
  (hx:Passes CX X E) (I:Inv X pins σ H s) (r:Vals vs us)
  (h:∀ x dx,H x=none→H dx=none→dx≠x→sp (.ref x :: (vs ++ dvs)) (upd (upd H dx (.own x)) x (.ins C dx [])) (fun v H2=>v = .non∧Q (.ref x) H2) E) :
  wpAny (model X.prog X.w) X.A (call (.ref C) us) (EP X pins σ Q) X.xe s:=by
 have hq:=h (s.heap.objs.size+1) s.heap.objs.size (I.hok.fresh (Nat.le_succ _)) (I.hok.fresh (Nat.le_refl _)) (Nat.ne_of_lt (Nat.lt_succ_self _))
 have I2:=Inv.made (C:=C) I
 have r2:Vals (V.ref (s.heap.objs.size+1) :: (vs ++ dvs)) (Value.ref (s.heap.objs.size+1) :: (us ++ ds)):=.cons rfl (r.append hd)
 have hl:(Value.ref (s.heap.objs.size+1) :: us ++ ds).length=ps.length:=by
  have e:=r2.length
  rw[F.len _ _ _ _ hq]at e
  exact e.symm
 refine wpAny_call (BX (f:=f) I.kIn M.makes M.init (beq_iff_eq.mp M.fn) (codeAny_mono (F.run _ X.stack _ _ ⟨Value.ref (s.heap.objs.size+1) :: us,[]⟩ (Value.ref (s.heap.objs.size+1) :: (us ++ ds)) _ _ E (hr.make C us [])
  (I2.FI.make C us []) (hb _ (Value.ref (s.heap.objs.size+1) :: us) I2.kIn hl) r2 hq) fun r s' hq'=>?_))
 cases r with
 |error e=>exact hx pins σ _ _ e s' I2 hq'
 |ok fl=>
  cases fl with
  |ret u=>
   obtain⟨v,H',I3,rv,ev,q3⟩:=I2.after hq'
   subst ev
   exact⟨rv,⟨V.ref (s.heap.objs.size+1),H',I3,rfl,q3⟩⟩
  |next=>exact False.elim hq'
  |brk=>exact False.elim hq'
  |cont=>exact False.elim hq'
theorem BB (M:Mk X.K C f) (F:kg X.prog X.w X.K X.mg X.base CX k f fd ps sp) (hr:dD (k+1) X.A) (hg:Gl X x) (hm:X.mg x=some (.ref C)) (hb:Binds X.K fd ps ds) (hd:Vals dvs ds) (hx:Passes CX X E)
  (hdb:(x == ("__debug__" : Str))=false:=by decide):PE X (.Call (.Name x p) [] [] pos) (Fm C sp dvs E uh):=by
 intro pins s σ H Q I h
 refine wpAny_Call_Name_kw (uK I hg hm ?_ hdb)
 exact PySem.W.callWith_K0 I.kIn M.kp (Bs (us:=[]) M F hr hb hd hx I .nil h)
end
section
variable {X:Cx}{CX:CXT}{k:Nat}{f C:Addr}{fd:FuncData}{ps ks:List Str}{sp:Sp}{E:XK}{x m:Str}{p pos apos DE:Pos}{e o:Expr}{es:List Expr}{kws:List Keyword}{te ta:TE}{t tk:TA}{nm:Option Str}
variable {g:List Value→List Value→List Value}{gV:List V→List V→List V}
end
structure aG (N P:List Str) (sc:Scope):Prop where
 kind:sc.kind = .function
 co:sc.isCoroutine=false
 gen:sc.isGenerator=false
 nd:N.Nodup
 pre:N.take P.length=P
 par:∀ x∈P,sc.names.lookup x=some .local∨sc.names.lookup x=some .cell
 EE:∀ y∈sc.names,y.2 ≠ .free
theorem tX {kindOf:Str→Option NameKind}{x:Str}:∀ {binds:List (Str×Value)}{m:Str→Option Value},(∀ v,(x,v)∉binds)→bindL kindOf binds m x=m x
 | [],_,_=>rfl
 |(n,v) :: r,m,h=>by
  unfold bindL
  rw[tX fun w hw=>h w (List.mem_cons_of_mem _ hw)]
  split
  ·have:x≠n:=by rintro rfl;exact h v List.mem_cons_self
   simp[this]
  ·rfl
theorem tZ {kindOf:Str→Option NameKind}{x:Str}:∀ {binds:List (Str×Value)}{m:Str→Option Value},(∀ v,(x,v)∉binds)→bindC kindOf binds m x=m x
 | [],_,_=>rfl
 |(n,v) :: r,m,h=>by
  unfold bindC
  rw[tZ fun w hw=>h w (List.mem_cons_of_mem _ hw)]
  split
  ·rfl
  ·have:x≠n:=by rintro rfl;exact h v List.mem_cons_self
   simp[this]
theorem tY {kindOf:Str→Option NameKind}{x:Str}{v:Value}:∀ {P:List Str}{vs:List Value}{i:Nat}{m:Str→Option Value},P.Nodup→P[i]? = some x→vs[i]? = some v→kindOf x=some .local →
  bindL kindOf (P.zip vs) m x=some v
 | [],_,_,_,_,h,_,_=>by simp at h
 |_ :: _,[],_,_,_,_,h,_=>by simp at h
 |p :: P,w :: vs,0,m,nd,h1,h2,hk=>by
  simp at h1 h2;subst h1;subst h2
  show bindL kindOf ((p,w) :: P.zip vs) m p=_
  unfold bindL
  rw[tX fun v hv=>(List.nodup_cons.mp nd).1 (List.of_mem_zip hv).1,if_pos hk]
  simp
 |p :: P,w :: vs,i+1,m,nd,h1,h2,hk=>by
  show bindL kindOf ((p,w) :: P.zip vs) m x=_
  unfold bindL
  exact tY (i:=i) (List.nodup_cons.mp nd).2 (by simpa using h1) (by simpa using h2) hk
theorem t9 {kindOf:Str→Option NameKind}{x:Str}{v:Value}:∀ {P:List Str}{vs:List Value}{i:Nat}{m:Str→Option Value},P.Nodup→P[i]? = some x→vs[i]? = some v→kindOf x≠some .local →
  bindC kindOf (P.zip vs) m x=some v
 | [],_,_,_,_,h,_,_=>by simp at h
 |_ :: _,[],_,_,_,_,h,_=>by simp at h
 |p :: P,w :: vs,0,m,nd,h1,h2,hk=>by
  simp at h1 h2;subst h1;subst h2
  show bindC kindOf ((p,w) :: P.zip vs) m p=_
  unfold bindC
  rw[tZ fun v hv=>(List.nodup_cons.mp nd).1 (List.of_mem_zip hv).1,if_neg hk]
  simp
 |p :: P,w :: vs,i+1,m,nd,h1,h2,hk=>by
  show bindC kindOf ((p,w) :: P.zip vs) m x=_
  unfold bindC
  exact t9 (i:=i) (List.nodup_cons.mp nd).2 (by simpa using h1) (by simpa using h2) hk
def start (N:List Str) (vs:List V):St:=vs.map some ++ List.replicate (N.length - vs.length) none
def u7 (CX:CXT) (P:Program) (w:World) (K:PySem.W.Frag) (mg:Str→Option Value) (base:Heap) (N:List Str) (qual:Str) (scope:Scope) (f:Addr) (cd:Value) (A:Around) (outer:List Env) (s:Shared) (H:Hp) (E:XK):Cx where
 prog:=P
 w:=w
 K:=K
 mg:=mg
 base:=base
 A:=A.deeper (envOfC qual scope s.heap.objs.size f cd)
 N:=N
 s_0:=s
 H_0:=H
 env:=envOfC qual scope s.heap.objs.size f cd
 outer:=outer
 stack:=envOfC qual scope s.heap.objs.size f cd :: outer
 ex:=[]
 calm:=true
 fn:=fun _=>true
 pn:=[]
 xe:=fun e s'=>wpAny (model P w) (A.deeper (envOfC qual scope s.heap.objs.size f cd)) (leaving (envOfC qual scope s.heap.objs.size f cd) e) (fun _ s''=>CX outer H s E e s'') (fun e' s''=>CX outer H s E e' s'') s'
theorem xk {sc:Scope}{n:Nat}{x:Str}(h:sc.names.lookup x=some .cell):∃ c,(cellsFrom n sc.names []).lookup x=some c:=by
 have q:=PySem.W.cellsFrom_some sc.names n [] (.inl h)
 exact Option.isSome_iff_exists.mp q
theorem Az {CX:CXT}{P:Program}{w:World}{K:PySem.W.Frag}{mg:Str→Option Value}{base:Heap}{N ps:List Str}{qual:Str}{scope:Scope}{f:Addr}{cd:Value}{A:Around}{outer:List Env}{s s1:Shared}{H:Hp}{E:XK}{us:List Value}{vs:List V}
  (S:aG N ps scope) (hd:A.handled=none) (e0:yV P w K mg base A outer s H) (hl:vs.length=ps.length) (r:Vals vs us)
  (x:InCallC s s.heap.objs.size (bindL (envOfC qual scope s.heap.objs.size f cd).kindOf (ps.zip us) fun _=>none) (cellsFrom (s.heap.objs.size+1) scope.names []) (bindC (envOfC qual scope s.heap.objs.size f cd).kindOf (ps.zip us) fun _=>none) s1) :
  Inv (u7 CX P w K mg base N qual scope f cd A outer s H E) [] (start N vs) H s1:=by
 have hpl:ps.length≤N.length:=by have:=congrArg List.length S.pre;rw[List.length_take]at this;omega
 obtain⟨h1,tk,rfl,hk⟩:=x.done
 have noA:∀ b:Addr,b∉(u7 CX P w K mg base N qual scope f cd A outer s H E).ex:=fun b z=>absurd (show b∈([]:List Addr) from z) (by simp)
 refine⟨⟨e0.mod,S.kind,rfl,rfl,Nat.le_refl _,fun y z c h1 h2=>?_,fun y hy=>?_,fun y c _ h=>?_,fun _=>hd,Around.frames_deeper e0.frames,.inr ⟨rfl,rfl⟩,fun b z=>absurd z (noA b),e0.bs,e0.bsz,fun b _ _=>noA b,fun b z=>absurd z (noA b),e0.ng,e0.frf⟩,
  rfl,e0.bare,Un.kept hk,⟨_,x.toInCall.ns,fun i y v h1 h2 h3=>?_⟩,fun y c h=>⟨_,x.cell y c h⟩,e0.hok.fresh (Nat.le_refl _),fun y c h=>?_,fun p hp=>absurd (show p∈([]:List (Addr×Obj)) from hp) (by simp),e0.hok.kept hk,?_⟩
 ·exact name_of_addr x.apart (PySem.mem_of_lookup h1) (PySem.mem_of_lookup h2)
 ·have hy:scope.names.lookup y=some .cell∨scope.names.lookup y=some .free:=hy
  rcases hy with hy | hy
  ·exact xk hy
  ·exact absurd rfl (S.EE _ (PySem.mem_of_lookup hy))
 ·exact Nat.le_of_lt (x.above y c (PySem.mem_of_lookup h))
 ·have hi:i < vs.length:=by
   unfold start at h2
   by_cases hi:i < vs.length
   ·exact hi
   ·rw[List.getElem?_append_right (by simpa using hi)]at h2
    rw[List.getElem?_replicate]at h2
    split at h2<;>cases h2
  have ha:vs[i]? = some v:=by
   unfold start at h2
   rw[List.getElem?_append_left (by simpa using hi),List.getElem?_map]at h2
   cases e:vs[i]? with
   |none=>rw[e]at h2;cases h2
   |some a=>rw[e]at h2;cases h2;rfl
  obtain⟨u,hu,rv⟩:=r.get ha
  have hp:ps[i]? = some y:=by
   rw[←S.pre,List.getElem?_take_of_lt (by omega)];exact h1
  have ndP:ps.Nodup:=by rw[←S.pre];exact S.nd.sublist (List.take_sublist _ _)
  refine⟨u,rv,?_⟩
  rcases S.par y (List.mem_of_getElem? hp) with k | k
  ·exact .inl ⟨k,tY ndP hp hu k⟩
  ·obtain⟨c,e⟩:=xk (n:=s.heap.objs.size+1) k
   refine .inr ⟨.inl k,c,e,?_⟩
   have q:=x.cell y c e
   rw[t9 ndP hp hu (by show scope.names.lookup y≠_;rw[k];decide)]at q
   exact q
 ·exact e0.hok.fresh (Nat.le_of_lt (x.above y c (PySem.mem_of_lookup h)))
 ·unfold start
  show _=N.length
  rw[List.length_append,List.length_map,List.length_replicate]
  omega
theorem Ed {CX:CXT}{P:Program}{w:World}{K:PySem.W.Frag}{mg:Str→Option Value}{base:Heap}{k:Nat}{f:Addr}{name qual:Str}{params:Arguments}{body:List Stmt}{scope:Scope}{dV kV doc pm cdv ct oc:Value}{an od:Option Addr}
  {osl:Array (Option Value)}{N ps:List Str}{sp:Sp}(lk:K.lookup f=some ⟨oc,od,.func (PySem.W.fnOf name qual params body scope dV kV doc pm an cdv ct),osl⟩) (hcd:PySem.W.codeIn K cdv qual=true) (S:aG N ps scope)
  (len:∀ vs H Q E,sp vs H Q E→vs.length=ps.length)
  (hbody:∀ (A:Around) (outer:List Env) (s:Shared) (H:Hp) (vs:List V) (Q:VK) (E:XK),dD k (A.deeper (envOfC qual scope s.heap.objs.size f cdv))→sp vs H Q E →
   ∃ t,PSs (u7 CX P w K mg base N qual scope f cdv A outer s H E) body t∧t { nx:=fun _ H'=>Q .non H',rt:=Q } (start N vs) H) :
  kg P w K mg base CX (k+1) f (PySem.W.fnOf name qual params body scope dV kV doc pm an cdv ct) ps sp:=by
 refine⟨len,fun A outer s H args us vs Q E hr e0 hb r hsp=>?_⟩
 have hl:=len _ _ _ _ hsp
 have KX:K.In s.heap:=e0.mod.kin.keeps fun b o e=>(e0.bs b o e).1
 have lim:s.heap.NoLimit:=e0.mod.nolimit.keeps fun b o e=>(e0.bs b o e).1
 have hkind:∀ y∈ps.zip us,scope.names.lookup y.1=some .local∨(scope.names.lookup y.1=some .cell∧((cellsFrom (s.heap.objs.size+1) scope.names []).lookup y.1).isSome=true):=fun ⟨n,v⟩ hy=>by
  rcases S.par n (List.of_mem_zip hy).1 with q | q
  ·exact .inl q
  ·exact .inr ⟨q,PySem.W.cellsFrom_some _ _ _ (.inl q)⟩
 refine codeAny_call_function hr.depth (KX _ _ lk) rfl S.co S.gen rfl (PySem.W.codeRec_of KX hcd) (hb _ _ _ _ ?_)
 refine wpAny_newFunctionEnv_cells S.kind hkind fun env he s1 x=>?_
 subst he
 refine⟨lim.keeps x.toInCall.keep,codeAny_func ?_⟩
 obtain⟨t,ht,hq⟩:=hbody A outer s H vs Q E (hr.deeper _) hsp
 have I:Inv (u7 CX P w K mg base N qual scope f cdv A outer s H E) [] (start N vs) H s1:=Az S hr.hd e0 hl r x
 refine wpAny_mono (ht [] s1 (start N vs) H _ I hq) (fun fl s' hs=>?_) fun e s' hs=>hs
 have fin:∀ {σ':St}{H':Hp}{v:V}{u:Value},Inv (u7 CX P w K mg base N qual scope f cdv A outer s H E) [] σ' H' s'→RelV v u→Q v H'→CE outer P w H s Q u s':=
  fun {σ' H' v u} J rv q=>⟨v,H',J.os,J.bare,J.base,J.hok,rv,q⟩
 cases fl with
 |ret u=>
  obtain⟨v,σ',H',J,rv,q⟩:=hs
  exact fin J rv q
 |next=>
  obtain⟨σ',H',J,q⟩:=hs
  exact fin (v:=V.non) (u:=Value.none) J rfl q
 |brk=>
  obtain⟨_,_,_,q⟩:=hs
  exact False.elim q
 |cont=>
  obtain⟨_,_,_,q⟩:=hs
  exact False.elim q
end L2
namespace L2
open PySem PySem.Spec PyProof.Rows
section
variable {X:Cx}{x:Str}{p pos:Pos}{e:Expr}{es:List Expr}{t:TA}{id T:String}{r:List V→Hp→VK→Prop}
def tCB (r:List V→Hp→VK→Prop) (t:TA):TE:=fun σ H Q=>t σ H fun vs H1=>r vs H1 Q
theorem aS (hc:g5 X (.builtin id) r) (hg:Gl X x) (hm:X.mg x=none) (hv:bootBuiltins x=some (.builtin id)) (ha:PA X (e :: es) t) (hn:x≠"__name__":=by decide) (hdb:(x == ("__debug__" : Str))=false:=by decide)
  (he:starEach (e :: es) X.env=(false,eval e X.env) :: starEach es X.env:=by rfl) (hpl:(backTo pos (starEach es X.env)).any (·.1)=false:=by rfl):PE X (.Call (.Name x p) (e :: es) [] pos) (tCB r t):=by
 intro pins s σ H Q I h
 refine wpAny_Call_Name_kw (qw I hg hm hv ?_ hn hdb)
 exact PyProof.Rows.callWith_builtin1 (thn (ha pos pins s σ H _ I h) fun us s1 ⟨vs,H1,I1,r1,q1⟩=>hc pins s1 σ H1 vs us Q I1 r1 q1) he hpl
theorem dj (hc:g5 X (.type T) r) (hg:Gl X x) (hm:X.mg x=none) (hv:bootBuiltins x=some (.type T)) (ha:PA X (e :: es) t) (hn:x≠"__name__":=by decide) (hdb:(x == ("__debug__" : Str))=false:=by decide)
  (he:starEach (e :: es) X.env=(false,eval e X.env) :: starEach es X.env:=by rfl) (hpl:(backTo pos (starEach es X.env)).any (·.1)=false:=by rfl):PE X (.Call (.Name x p) (e :: es) [] pos) (tCB r t):=by
 intro pins s σ H Q I h
 refine wpAny_Call_Name_kw (qw I hg hm hv ?_ hn hdb)
 exact PyProof.Rows.callWith_type1 (thn (ha pos pins s σ H _ I h) fun us s1 ⟨vs,H1,I1,r1,q1⟩=>hc pins s1 σ H1 vs us Q I1 r1 q1) he hpl
end
end L2
namespace HT
open PySem PyProof.Rows
def lexLt:List Int→List Int→Bool
 | [],[]=>false
 | [],_ :: _=>true
 |_ :: _,[]=>false
 |x :: xs,y :: ys=>if x=y then lexLt xs ys else decide (x < y)
section
open PySem.SeqAt
open PySem.AutoSeq1 (wpAny_loadPart')
open PySem.MeetsSeq PySem.MeetsSeq2 PySem.MeetsSeq3
end
section
variable {prog:Program}{w:World}{A:Around}{E:Value→Shared→Prop}{s:Shared}
def sIx (n d:Nat):Option Int→Nat
 |none=>d
 |some v=>if v < 0 then (v+(n:Int)).toNat else min v.toNat n
theorem vJ (n d:Nat):sIx n d none=d:=rfl
theorem o8 (n d k:Nat):sIx n d (some (k:Int))=min k n:=by
 show (if (k:Int) < 0 then ((k:Int)+(n:Int)).toNat else min (k:Int).toNat n)=min k n
 rw[if_neg (by omega),Int.toNat_natCast]
end
end HT
namespace L2
open PySem PySem.Spec PyProof.Rows
abbrev TO:=St→Hp→(Option Int→Hp→Prop)→Prop
def PO (X:Cx) (e:Option Expr) (t:TO):Prop:=
 ∀ (pins:List (Addr×Obj)) (s:Shared) (σ:St) (H:Hp) (Q:Option Int→Hp→Prop),Inv X pins σ H s→t σ H Q →
  wpAny (model X.prog X.w) X.A (evalPart e X.env) (fun u s'=>∃ o H',Inv X pins σ H' s'∧IsPart u o∧Q o H') X.xe s
def yY:TO:=fun _ H Q=>Q none H
def D4 (t:TE):TO:=fun σ H Q=>t σ H fun x H1=>∃ i,x = .int i∧Q (some i) H1
section
variable {X:Cx}{e:Expr}{te:TE}{lo hi:Option Expr}{tl th:TO}{pos p2:Pos}
theorem jT:PO X none yY:=by
 intro pins s σ H Q I h
 rw[evalPart_none]
 exact wpAny_pure ⟨none,H,I,.none,h⟩
theorem eM (h:PE X e te):PO X (some e) (D4 te):=by
 intro pins s σ H Q I hw
 rw[evalPart_some]
 refine thn (h pins s σ H _ I hw) fun u s1 ⟨x,H1,I1,r1,q1⟩=>?_
 obtain⟨i,rfl,q⟩:=q1
 obtain⟨t,rfl⟩:=r1
 exact⟨some i,H1,I1,.int i t,q⟩
def SlR (X:Cx) (r:V→Option Int→Option Int→Hp→VK→Prop):Prop:=
 ∀ (pins:List (Addr×Obj)) (s:Shared) (σ:St) (H:Hp) (x:V) (v vl vu:Value) (lo hi:Option Int) (sl:Addr) (Q:VK),Inv X pins σ H s→RelV x v→s.heap.IsSliceOf sl vl vu .none→IsPart vl lo→IsPart vu hi→r x lo hi H Q →
  ∃ T id,typeLookup (.type T) "__getitem__"=pure (some (.builtin id))∧s.TypeIs v T∧wpAny (model X.prog X.w) X.A (getItem v (.ref sl)) (EP X pins σ Q) X.xe s
def tSl (r:V→Option Int→Option Int→Hp→VK→Prop) (te:TE) (tl th:TO):TE:=fun σ H Q=>te σ H fun x H1=>tl σ H1 fun l H2=>th σ H2 fun u H3=>r x l u H3 Q
theorem eT {r:V→Option Int→Option Int→Hp→VK→Prop}(hr:SlR X r) (he:PE X e te) (hl:PO X lo tl) (hu:PO X hi th):PE X (.Subscript e (.Slice lo hi none p2) pos) (tSl r te tl th):=by
 intro pins s σ H Q I h
 refine Subscript_ (thn (he pins s σ H _ I h) fun v s1 ⟨x,H1,I1,r1,q1⟩=>?_)
 refine wpAny_Slice (thn (hl pins s1 σ H1 _ I1 q1) fun vl s2 ⟨l,H2,I2,pl,q2⟩=>thn (hu pins s2 σ H2 _ I2 q2) fun vu s3 ⟨u,H3,I3,pu,q3⟩=>?_)
 rw[evalPart_none]
 refine wpAny_pure ?_
 have I4:Inv X pins σ H3 { s3 with heap:=s3.heap.push { cls:=.type "slice",data:=.fields #[vl,vu,.none] } }:=I3.kept (t':=s3.toks) fun b ob q=>Heap.get?_push_of_some _ q
 obtain⟨T,id,hT,ht,hg⟩:=hr pins { s3 with heap:=s3.heap.push { cls:=.type "slice",data:=.fields #[vl,vu,.none] } } σ H3 x v vl vu l u s3.heap.objs.size Q I4 r1 (Heap.IsSliceOf.new ..) pl pu q3
 show wpAny (model X.prog X.w) X.A (subscriptTail e (.Slice lo hi none p2) v (.ref s3.heap.objs.size)) (EP X pins σ Q) X.xe { s3 with heap:=s3.heap.push { cls:=.type "slice",data:=.fields #[vl,vu,.none] } }
 exact tail_any (ops:=[.ref s3.heap.objs.size,v]) ht hT hg (by with_unfolding_all rfl)
def iT (xs:List V) (lo hi:Option Int):List V:=(xs.drop (HT.sIx xs.length 0 lo)).take (HT.sIx xs.length xs.length hi - HT.sIx xs.length 0 lo)
theorem xh (xs:List V) (lo hi:Option Int):(iT xs lo hi).length≤xs.length:=by
 unfold iT
 rw[List.length_take,List.length_drop]
 omega
end
end L2
namespace L2
open PySem PySem.Spec PyProof.Rows
def ixN (n:Nat) (i:Int):Option Nat:=if 0≤i then (if i < n then some i.toNat else none) else if -(n:Int)≤i then some (i+n).toNat else none
def atI {α:Type}(xs:List α) (i:Int):Option α:=(ixN xs.length i).bind fun j=>xs[j]?
theorem DG {n:Nat}{i:Int}{j:Nat}(h:ixN n i=some j):seqIndex? i n=some j∧j < n ∧ -(n:Int)≤i∧i < n:=by
 unfold ixN at h
 by_cases h0:0≤i
 ·rw[if_pos h0]at h
  by_cases h1:i < n
  ·rw[if_pos h1]at h
   have e:i.toNat=j:=Option.some.inj h
   exact⟨by rw[seqIndex_of h0 h1,e],by omega,by omega,h1⟩
  ·rw[if_neg h1]at h;cases h
 ·rw[if_neg h0]at h
  by_cases h1 : -(n:Int)≤i
  ·rw[if_pos h1]at h
   have e:(i+n).toNat=j:=Option.some.inj h
   exact⟨by rw[seqIndex_neg (by omega) h1,e],by omega,h1,by omega⟩
  ·rw[if_neg h1]at h;cases h
theorem zL {α:Type}{xs:List α}{i:Int}{v:α}(h:atI xs i=some v):∃ j,seqIndex? i xs.length=some j∧xs[j]? = some v∧j < xs.length ∧ -(xs.length:Int)≤i∧i < xs.length:=by
 unfold atI at h
 cases e:ixN xs.length i with
 |none=>rw[e]at h;cases h
 |some j=>
  rw[e]at h
  obtain⟨h1,h2,h3,h4⟩:=DG e
  exact⟨j,h1,h,h2,h3,h4⟩
theorem ax {α:Type}{xs:List α}{j:Nat}{v:α}(h:xs[j]? = some v):atI xs (j:Int)=some v:=by
 have hj:j < xs.length:=(List.getElem?_eq_some_iff.mp h).1
 have e:ixN xs.length (j:Int)=some j:=by
  unfold ixN
  rw[if_pos (by omega),if_pos (by omega)];simp
 unfold atI;rw[e];exact h
theorem g0 {α:Type}(xs:List α) (v:α):atI (xs ++ [v]) (-1)=some v:=by
 have hl:(xs ++ [v]).length=xs.length+1:=by simp
 have e:ixN (xs ++ [v]).length (-1)=some xs.length:=by
  unfold ixN
  rw[hl,if_neg (by decide),if_pos (by omega)]
  congr 1
  omega
 unfold atI
 rw[e]
 show (xs ++ [v])[xs.length]? = some v
 simp
def zN (b:Expr):Prop:=∀ o i,subscripted b false o i=operate [o,i] (getItem o i)
def IxR (X:Cx) (r:R2):Prop:=
 ∀ (value slice:Expr) (pins:List (Addr×Obj)) (s:Shared) (σ:St) (H:Hp) (x y:V) (v u:Value) (Q:VK),Inv X pins σ H s→RelV x v→RelV y u→r x y H Q →
  subscripted slice false v u=operate [v,u] (getItem v u)→wpAny (model X.prog X.w) X.A (subscriptTail value slice v u) (EP X pins σ Q) X.xe s
def MtR (X:Cx) (id:String) (r:V→List V→Hp→VK→Prop):Prop:=
 ∀ (pins:List (Addr×Obj)) (s:Shared) (σ:St) (H:Hp) (x:V) (xs:List V) (v:Value) (us:List Value) (Q:VK),Inv X pins σ H s→RelV x v→Vals xs us→r x xs H Q →
  wpAny (model X.prog X.w) X.A (call (.builtin id) (v :: us)) (EP X pins σ Q) X.xe s
section
variable {X:Cx}{a b:Expr}{ta tb:TE}{pos:Pos}
theorem aH {r:R2}(hr:IxR X r) (ha:PE X a ta) (hb:PE X b tb) (hs:zN b):PE X (.Subscript a b pos) (tOp r ta tb):=by
 intro pins s σ H Q I h
 exact Subscript_ (E7 ha hb I h fun v u s2 x y H2 I2 rx ry q=>hr a b pins s2 σ H2 x y v u Q I2 rx ry q (hs _ _))
def rF (K:PySem.W.Frag):R2:=fun x y H Q=>∃ p xs i v,x = .ref p∧y = .int i∧SqL K H p xs∧atI xs i=some v∧Q v H
def vQ (K:PySem.W.Frag):R2:=fun x y H Q=>∃ p xs i v,x = .ref p∧y = .int i∧SqT K H p xs∧atI xs i=some v∧Q v H
theorem DF:IxR X (rF X.K):=by
 intro value slice pins s σ H x y v u Q I rx ry h hs
 obtain⟨p,xs,i,z,rfl,rfl,hq,he,q⟩:=h
 cases rx
 obtain⟨t,rfl⟩:=ry
 obtain⟨its,r,pl,hz⟩:=I.list hq
 obtain⟨j,h1,h2,h3,h4,h5⟩:=zL he
 obtain⟨w,ew,rw'⟩:=r.get h2
 have hl:=r.length
 have hn:=ym
 have fin:EP X pins σ Q w s:=⟨z,H,I,rw',q⟩
 by_cases h0:0≤i
 ·have hj:i.toNat=j:=by
   rw[seqIndex_of h0 h5]at h1
   exact Option.some.inj h1
  exact item_listR pl.isList h0 (by omega) (by rw[hj];simpa using ew) fin hs
 ·have hj:(i+(its.toArray.size:Int)).toNat=j:=by
   rw[seqIndex_neg (by omega) h4]at h1
   rw[List.size_toArray,←hl]
   exact Option.some.inj h1
  exact subscriptTail_builtinR (x:=w) pl.isList.typeIs slot_list_getitem.lookup
   (wpAny_getItem_list_neg (Q:=fun r s'=>r=w∧EP X pins σ Q r s') pl.isList (by omega) (by rw[List.size_toArray]<;>omega) (by omega) (by rw[hj];simpa using ew) ⟨rfl,fin⟩) hs
theorem B6:IxR X (vQ X.K):=by
 intro value slice pins s σ H x y v u Q I rx ry h hs
 obtain⟨p,xs,i,z,rfl,rfl,hq,he,q⟩:=h
 cases rx
 obtain⟨t,rfl⟩:=ry
 obtain⟨its,r,pl,hz⟩:=I.tuple hq
 obtain⟨j,h1,h2,h3,h4,h5⟩:=zL he
 obtain⟨w,ew,rw'⟩:=r.get h2
 have hl:=r.length
 have hn:=ym
 have fin:EP X pins σ Q w s:=⟨z,H,I,rw',q⟩
 exact subscriptTail_builtinR (x:=w) pl.typeIs slot_tuple_getitem.lookup
  (getItem_tuple (j:=j) (Q:=fun r s'=>r=w∧EP X pins σ Q r s') pl (by omega) (by omega) (by rw[List.size_toArray,←hl];exact h1) (by simpa using ew) ⟨rfl,fin⟩) hs
theorem uo (lo hi:Option Int) (n:Nat):(sliceBounds lo hi none n).1=((HT.sIx n 0 lo:Nat):Int)∧(sliceBounds lo hi none n).2.1=((HT.sIx n n hi:Nat):Int)∧(sliceBounds lo hi none n).2.2=1:=by
 refine⟨?_,?_,rfl⟩
 ·cases lo with
  |none=>simp[sliceBounds,HT.sIx]
  |some i=>
   simp only[sliceBounds,HT.sIx,Option.getD_none,show (1:Int) > 0 by decide,if_true]
   by_cases h:i < 0
   ·simp only[h,if_true]<;>omega
   ·simp only[h,if_false]<;>omega
 ·cases hi with
  |none=>simp[sliceBounds,HT.sIx]
  |some i=>
   simp only[sliceBounds,HT.sIx,Option.getD_none,show (1:Int) > 0 by decide,if_true]
   by_cases h:i < 0
   ·simp only[h,if_true]<;>omega
   ·simp only[h,if_false]<;>omega
theorem rB (its:List Value) (lo hi:Option Int):slicePick its.toArray lo hi none=((its.drop (HT.sIx its.length 0 lo)).take (HT.sIx its.length its.length hi - HT.sIx its.length 0 lo)).toArray:=by
 obtain⟨h1,h2,h3⟩:=uo lo hi its.toArray.size
 unfold slicePick
 rw[h1,h2,h3]
 simp only[sliceRange_one,pick_run,List.size_toArray]<;>rfl
def FY (K:PySem.W.Frag):V→Option Int→Option Int→Hp→VK→Prop:=fun x lo hi H Q=>∃ a xs,x = .ref a∧SqL K H a xs∧∀ p,H p=none→Q (.ref p) (upd H p (.lst (iT xs lo hi)))
theorem f7:SlR X (FY X.K):=by
 intro pins s σ H x v vl vu lo hi sl Q I rx hs pl pu h
 obtain⟨a,xs,rfl,hx,q⟩:=h
 cases rx
 obtain⟨its,r,ht,hz⟩:=I.list hx
 have hlen:=r.length
 refine⟨"list",_,slot_list_getitem.lookup,ht.isList.typeIs,?_⟩
 refine wpAny_getItem_list_slice ht.isList hs pl pu .none (by simp) ?_ (by rw[List.size_toArray]<;>omega)
 rw[rB,←hlen]
 refine⟨.ref s.heap.objs.size,_,I.laid (t':=s.toks) (o:=.lst (iT xs lo hi)) (fun b ob q=>Heap.get?_push_of_some _ q) (Nat.le_refl _) ?_,rfl,q _ (I.hok.fresh (Nat.le_refl _))⟩
 exact⟨Nat.le_trans (xh xs lo hi) hz,_,0,(r.drop (HT.sIx xs.length 0 lo)).take (HT.sIx xs.length xs.length hi - HT.sIx xs.length 0 lo),Heap.get?_push_size _ rfl⟩
def oB:V→Bool
 | .non=>true
 | .bl _=>true
 | .int _=>true
 | .str _=>true
 |_=>false
def eqV:V→V→Bool
 | .non,.non=>true
 | .bl a,.bl b=>a == b
 | .bl a,.int b=>(if a then 1 else 0) == b
 | .int a,.bl b=>a == (if b then 1 else 0)
 | .int a,.int b=>a == b
 | .str a,.str b=>a == b
 |_,_=>false
theorem EW {A:Around}{s:Shared}{y x:V}{u v:Value}(ry:RelV y u) (rx:RelV x v) (fy:oB y=true) (fx:oB x=true):SeqAt.EqAt A s u v (eqV y x):=by
 cases y with
 |non=>
  cases ry
  cases x with
  |non=>cases rx;exact SeqAt.EqAt.same _
  |bl b=>cases rx;exact SeqAt.EqAt.none_bool b
  |int b=>obtain⟨t,rfl⟩:=rx;exact SeqAt.EqAt.none_int b t
  |str b=>obtain⟨t,rfl⟩:=rx;exact SeqAt.EqAt.none_str b t
  |_=>exact absurd (show false=true from fx) Bool.false_ne_true
 |bl a=>
  cases ry
  cases x with
  |non=>cases rx;exact SeqAt.EqAt.bool_none a
  |bl b=>cases rx;exact SeqAt.EqAt.bool_bool a b
  |int b=>obtain⟨t,rfl⟩:=rx;exact SeqAt.EqAt.bool_int a b t
  |str b=>obtain⟨t,rfl⟩:=rx;exact SeqAt.EqAt.bool_str a b t
  |_=>exact absurd (show false=true from fx) Bool.false_ne_true
 |int a=>
  obtain⟨t',rfl⟩:=ry
  cases x with
  |non=>cases rx;exact SeqAt.EqAt.int_none a t'
  |bl b=>cases rx;exact SeqAt.EqAt.int_bool a t' b
  |int b=>obtain⟨t,rfl⟩:=rx;exact SeqAt.EqAt.int_int a t' b t
  |str b=>obtain⟨t,rfl⟩:=rx;exact SeqAt.EqAt.int_str a t' b t
  |_=>exact absurd (show false=true from fx) Bool.false_ne_true
 |str a=>
  obtain⟨t',rfl⟩:=ry
  cases x with
  |non=>cases rx;exact SeqAt.EqAt.str_none a t'
  |bl b=>cases rx;exact SeqAt.EqAt.str_bool a t' b
  |int b=>obtain⟨t,rfl⟩:=rx;exact SeqAt.EqAt.str_int a t' b t
  |str b=>obtain⟨t,rfl⟩:=rx;exact SeqAt.EqAt.str_str a t' b t
  |_=>exact absurd (show false=true from fx) Bool.false_ne_true
 |_=>exact absurd (show false=true from fy) Bool.false_ne_true
def eqU (x:V) (u:Value):Bool:=match u with
 | .none=>eqV .non x
 | .bool b=>eqV (.bl b) x
 | .int i _=>eqV (.int i) x
 | .str z _=>eqV (.str z) x
 |_=>false
theorem Cm {x y:V}{u:Value}(r:RelV y u) (f:oB y=true):eqU x u=eqV y x:=by
 cases y with
 |non=>cases r;rfl
 |bl b=>cases r;rfl
 |int i=>obtain⟨t,rfl⟩:=r;rfl
 |str z=>obtain⟨t,rfl⟩:=r;rfl
 |_=>exact absurd (show false=true from f) Bool.false_ne_true
theorem vh {x:V}:∀ {xs:List V}{us:List Value},Vals xs us→xs.all oB=true→us.any (eqU x)=xs.any fun y=>eqV y x
 |_,_,.nil,_=>rfl
 |y :: xs,u :: us,.cons r t,f=>by
  rw[List.all_cons,Bool.and_eq_true]at f
  rw[List.any_cons,List.any_cons,Cm r f.1,vh t f.2]
theorem qt {A:Around}{s:Shared}{x:V}{v:Value}(rx:RelV x v) (fx:oB x=true):∀ {xs:List V}{us:List Value},Vals xs us→xs.all oB=true→∀ u∈us,SeqAt.EqAt A s u v (eqU x u)
 |_,_,.nil,_=>fun u hu=>by cases hu
 |y :: xs,u :: us,.cons r t,f=>fun u' hu=>by
  rw[List.all_cons,Bool.and_eq_true]at f
  rcases List.mem_cons.mp hu with rfl | hu
  ·rw[Cm r f.1];exact EW r rx f.1 fx
  ·exact qt rx fx t f.2 u' hu
def inV (x:V) (xs:List V):Bool:=xs.any fun y=>eqV y x
def rIn (K:PySem.W.Frag) (neg:Bool):R2:=fun x y H Q=>∃ p xs,y = .ref p∧(SqL K H p xs∨SqT K H p xs)∧oB x=true∧xs.all oB=true∧Q (.bl (if neg then !inV x xs else inV x xs)) H
theorem gK:OpR X (compareOp .In) (rIn X.K false):=by
 intro pins s σ H x y v u Q I rx ry h
 obtain⟨p,xs,rfl,hq,fx,fs,q⟩:=h
 cases ry
 rcases hq with hq | hq
 ·obtain⟨its,r,pl,hz⟩:=I.list hq
  refine SeqAt.in_listAt (eqU x) pl.isList (fun w hw=>qt rx fx r fs w (by simpa using hw)) ⟨.bl _,H,I,rfl,?_⟩
  rw[show its.toArray.any (eqU x)=its.any (eqU x) by simp,vh r fs]
  exact q
 ·obtain⟨its,r,pl,hz⟩:=I.tuple hq
  refine SeqAt.in_tupleAt (eqU x) pl (fun w hw=>qt rx fx r fs w (by simpa using hw)) ⟨.bl _,H,I,rfl,?_⟩
  rw[show its.toArray.any (eqU x)=its.any (eqU x) by simp,vh r fs]
  exact q
theorem vf:g5 X (.builtin "len") (fun xs H Q=>∃ p ys,xs=[.ref p]∧(SqL X.K H p ys∨SqT X.K H p ys)∧Q (.int ys.length) H):=by
 intro pins s σ H xs us Q I r h
 obtain⟨p,ys,rfl,hq,q⟩:=h
 obtain⟨u,rfl,rx⟩:=vals1 r
 cases rx
 have hn:=ym
 rcases hq with hq | hq
 ·obtain⟨its,r',pl,hz⟩:=I.list hq
  have hlen:=r'.length
  exact Calls.call_len_list pl.isList (by simp only[List.size_toArray]<;>omega) ⟨.int ys.length,H,I.tok _,⟨s.toks+1,by rw[List.size_toArray,hlen]⟩,q⟩
 ·obtain⟨its,r',pl,hz⟩:=I.tuple hq
  have hlen:=r'.length
  exact len_tuple pl (by simp only[List.size_toArray]<;>omega) ⟨.int ys.length,H,I.tok _,⟨s.toks+1,by rw[List.size_toArray,hlen]⟩,q⟩
theorem mK:g5 X (.type "list") (fun xs H Q=>∃ p ys,xs=[.ref p]∧(SqL X.K H p ys∨SqT X.K H p ys)∧∀ l,H l=none→Q (.ref l) (upd H l (.lst ys))):=by
 intro pins s σ H xs us Q I r h
 obtain⟨p,ys,rfl,hq,q⟩:=h
 obtain⟨u,rfl,rx⟩:=vals1 r
 cases rx
 have fin:∀ (its:List Value),Vals ys its→ys.length≤sizeLine→∀ (h':Heap) (c':Nat),(∀ b o',s.heap.get? b=some o'→h'.get? b=some o') →
   h'.get? s.heap.objs.size=some { cls:=.type "list",dict:=none,data:=.seq its.toArray c',slots:=#[] }→EP X pins σ Q (.ref s.heap.objs.size) { s with heap:=h' }:=fun its r' hz h' c' kp e=>
  ⟨.ref s.heap.objs.size,_,I.laid (t':=s.toks) kp (Nat.le_refl _) (show bS X.prog X.w _ h' _ (.lst ys) from⟨hz,its,c',r',e⟩),rfl,q _ (I.hok.fresh (Nat.le_refl _))⟩
 rcases hq with hq | hq
 ·obtain⟨its,r',pl,hz⟩:=I.list hq
  have hlen:=r'.length
  obtain⟨o,ho,hc,n,hd⟩:=pl.isList
  exact call_list_seq p (.inl rfl) ho hc hd (fun h' c' kp e=>fin its r' hz h' c' kp e) (by simp only[List.size_toArray]<;>omega)
 ·obtain⟨its,r',pl,hz⟩:=I.tuple hq
  have hlen:=r'.length
  obtain⟨o,ho,hc,n,hd⟩:=pl
  exact call_list_seq p (.inr rfl) ho hc hd (fun h' c' kp e=>fin its r' hz h' c' kp e) (by simp only[List.size_toArray]<;>omega)
def tyV (K:PySem.W.Frag) (T:String) (x:V) (H:Hp):Prop:=match x with
 | .str _=>T="str"
 | .int _=>T="int"
 | .ref p=>(T="list"∧∃ xs,SqL K H p xs)∨(T="tuple"∧∃ o,K.lookup p=some o∧o.cls = .type "tuple"∧o.dict=none) ∨
   (T="dict"∧((∃ kvs,H p=some (.dK kvs))∨∃ kvs,H p=some (.dT kvs)))∨(T="set"∧∃ S n,H p=some (.set S n))
 |_=>False
theorem Ei {pins:List (Addr×Obj)}{σ:St}{H:Hp}{s:Shared}{T:String}{x:V}{v:Value}(I:Inv X pins σ H s) (r:RelV x v) (ty:tyV X.K T x H) :
  s.TypeIs v T∧∀ a,v = .ref a→∃ ob,s.heap.get? a=some ob∧ob.dict=none:=by
 cases x with
 |str z=>
  obtain⟨t,rfl⟩:=r
  cases (show T="str" from ty)
  exact⟨typeIs_str s z t,fun _ e=>nomatch e⟩
 |int i=>
  obtain⟨t,rfl⟩:=r
  cases (show T="int" from ty)
  exact⟨typeIs_int s i t,fun _ e=>nomatch e⟩
 |ref p=>
  cases r
  rcases ty with ⟨rfl,xs,hq⟩ | ⟨rfl,o,hk,hc,hd⟩ | ⟨rfl,hk⟩ | ⟨rfl,S,n,hk⟩
  ·obtain⟨its,_,pl,_⟩:=I.list hq
   refine⟨pl.isList.typeIs,fun a e=>?_⟩
   cases e
   obtain⟨o,n,e,c,hd,_⟩:=pl
   exact⟨o,e,hd⟩
  ·refine⟨⟨o,I.kIn p o hk,hc⟩,fun a e=>?_⟩
   cases e
   exact⟨o,I.kIn _ o hk,hd⟩
  ·have z:∃ o,s.heap.get? p=some o∧o.ExactDict:=by
    rcases hk with ⟨kvs,hk⟩ | ⟨kvs,hk⟩
    ·obtain⟨_,_,_,_,o,_,_,e,ex,_⟩:=I.hok p _ hk
     exact⟨o,e,ex⟩
    ·obtain⟨_,_,_,_,o,_,_,e,ex,_⟩:=I.hok p _ hk
     exact⟨o,e,ex⟩
   obtain⟨o,e,ex⟩:=z
   refine⟨⟨o,e,ex.1⟩,fun a e2=>?_⟩
   cases e2
   exact⟨o,e,ex.2.1⟩
  ·obtain⟨o,_,_,_,e,ex,_⟩:=I.hok p _ hk
   refine⟨⟨o,e,ex.1⟩,fun a e2=>?_⟩
   cases e2
   exact⟨o,e,ex.2.1⟩
 |_=>exact False.elim ty
def tBM (K:PySem.W.Frag) (T:String) (r:V→List V→Hp→VK→Prop) (to:TE) (t:TA):TE:=fun σ H Q=>to σ H fun x H1=>tyV K T x H1∧t σ H1 fun xs H2=>r x xs H2 Q
variable {o e:Expr}{es:List Expr}{to:TE}{t:TA}{name:Str}{apos cpos:Pos}{T id:String}{r:V→List V→Hp→VK→Prop}
theorem oe (pa:PlainAttrs T) (slot:Slot T name id) (hty:typeOf (.builtin id)=pure (.type "method_descriptor")) (hm:MtR X id r) (ho:PE X o to) (ha:PA X (e :: es) t)
  (hbase:attributeBase o name X.env (eval o X.env)=eval o X.env:=by rfl)
  (hfew:((backTo cpos (starEach (e :: es) X.env)).all (fun x=>!x.1) && (backToKw cpos (keywordEach [] X.env)).all (fun x=>x.1.isSome)
   && decide ((e :: es).length+([]:List Keyword).length+(if ([]:List Keyword).isEmpty then 0 else 1) < 30))=true:=by rfl)
  (hline:(apos.endLine == cpos.line)=true:=by rfl) (hs:starEach (e :: es) X.env=(false,eval e X.env) :: starEach es X.env:=by rfl) (hplain:(backTo cpos (starEach es X.env)).any (·.1)=false:=by rfl) :
  PE X (.Call (.Attribute o name apos) (e :: es) [] cpos) (tBM X.K T r to t):=by
 intro pins s σ H Q I h
 refine wpAny_Call_method_late hbase hfew hline rfl (thn (ho pins s σ H _ I h) fun v s1 ⟨x,H1,I1,r1,ty,q1⟩=>?_)
 obtain⟨h1,h2⟩:=Ei I1 r1 ty
 refine⟨T,id,pa,slot,hty,h1,h2,?_⟩
 have hA:=ha cpos pins s1 σ H1 _ I1 q1
 rw[hs]at hA ⊢
 refine Calls.callWith_builtin (by show (false || (backTo cpos (starEach es X.env)).any (·.1))=false;rw[hplain]<;>rfl) (Calls.evalArgs_plain ?_)
 exact thn hA fun us s2 ⟨vs,H2,I2,r2,q2⟩=>hm pins s2 σ H2 x vs v us Q I2 r1 r2 q2
end
end L2
namespace L2
open PySem PySem.Spec PyProof.Rows
def MtM (X:Cx) (id:String) (r:V→List V→Hp→VK→Prop):Prop:=
 ∀ (pins:List (Addr×Obj)) (s:Shared) (σ:St) (H:Hp) (x:V) (xs:List V) (v:Value) (us:List Value) (Q:VK),Inv X pins σ H s→RelV x v→Vals xs us→r x xs H Q →
  wpAny (model X.prog X.w) X.A (call (.builtin id) (v :: us)) (EP X pins σ Q) X.xe s
theorem Vals.one:∀ {x:V}{us:List Value},Vals [x] us→∃ u,us=[u]∧RelV x u
 |_,_,.cons r .nil=>⟨_,rfl,r⟩
theorem Vals.zero:∀ {us:List Value},Vals [] us→us=[]
 |_,.nil=>rfl
theorem Vals.dropLast {xs:List V}{us:List Value}(h:Vals xs us):Vals xs.dropLast us.dropLast:=by
 induction h with
 |nil=>exact .nil
 |cons r t ih=>
  cases t with
  |nil=>exact .nil
  |cons q t'=>exact .cons r ih
theorem Vals.reverse {xs:List V}{us:List Value}(h:Vals xs us):Vals xs.reverse us.reverse:=by
 induction h with
 |nil=>exact .nil
 |cons r t ih=>rw[List.reverse_cons,List.reverse_cons];exact Vals.append ih (.cons r .nil)
section
variable {X:Cx}{pins:List (Addr×Obj)}{σ:St}{H:Hp}{s:Shared}{l b:Addr}{xs ys zs:List V}
theorem Inv.Fz {its its':List Value}{n:Nat}{f:Array Value→Array Value}{t':Nat}(I:Inv X pins σ H s) (hH:H l=some (.lst xs))
  (e:s.heap.get? l=some { cls:=.type "list",data:=.seq its.toArray n }) (hf:f its.toArray=its'.toArray) (hv:Vals ys its') (hz:ys.length≤sizeLine) :
  Inv X pins σ (upd H l (.lst ys)) { s with heap:=s.heap.update l (Obj.mapSeq f),toks:=t' }:=by
 have q:=PySem.IsL.update e f
 rw[hf]at q
 refine I.write (x:=l) (e:=l) (by rw[hH];exact trivial) (.inl rfl) (fun b' u hb hu=>(Heap.get?_update_other s.heap (Obj.mapSeq f) (Ne.symm hb)).trans hu) ⟨_,q⟩ ?_
 exact⟨hz,its',_,hv,q⟩
theorem Inv.F5 {its:List Value}{t':Nat}(I:Inv X pins σ H s) (hv:Vals ys its) (hz:ys.length≤sizeLine) :
  Inv X pins σ (upd H s.heap.objs.size (.lst ys)) { s with heap:=s.heap.push { cls:=.type "list",data:=.seq its.toArray },toks:=t' }:=
 I.laid (fun _ _ q=>Heap.get?_push_of_some _ q) (Nat.le_refl _) ⟨hz,its,0,hv,Heap.get?_push_size _ rfl⟩
theorem Inv.fresh (I:Inv X pins σ H s):H s.heap.objs.size=none:=I.hok.fresh (Nat.le_refl _)
theorem Inv.BZ (I:Inv X pins σ H s) (hH:H l=some (.lst xs)):xs.length≤sizeLine∧∃ (its:List Value) (n:Nat),Vals xs its∧xs.length=its.length∧s.heap.get? l=some { cls:=.type "list",data:=.seq its.toArray n }:=by
 obtain⟨z,its,n,r,e⟩:=I.hok l _ hH
 exact⟨z,its,n,r,r.length,e⟩
theorem BO {n:Nat}(h:n≤sizeLine):Builtin.List.listTooLong n=false:=by
 unfold Builtin.List.listTooLong
 exact decide_eq_false (by omega)
end
section
variable {X:Cx}
def o9:V→List V→Hp→VK→Prop:=fun x vs H Q=>∃ l xs y,x = .ref l∧vs=[y]∧H l=some (.lst xs)∧xs.length < sizeLine∧Q .non (upd H l (.lst (xs ++ [y])))
theorem jY:MtM X "list.append" o9:=by
 intro pins s σ H x vs v us Q I rx rv h
 obtain⟨l,xs,y,rfl,rfl,hH,hz,q⟩:=h
 cases rx
 obtain⟨u,rfl,ru⟩:=rv.one
 obtain⟨z,its,n,r,hl,e⟩:=I.BZ hH
 refine call_meets F.slot_list_append ⟨_,e,rfl⟩ F.entry_list_append (F.args_list_append_2 _ _) (PySem.list_append l its.toArray n u (by rw[List.size_toArray];omega)) ⟨e,?_⟩
 refine⟨.non,_,I.Fz (its':=its ++ [u]) hH e (by simp) (r.append (.cons ru .nil)) ?_,rfl,q⟩
 rw[List.length_append,List.length_singleton]
 omega
def lT:V→List V→Hp→VK→Prop:=fun x vs H Q=>∃ l b xs zs,x = .ref l∧vs=[.ref b]∧H l=some (.lst xs)∧H b=some (.lst zs)∧xs.length+zs.length≤sizeLine∧Q .non (upd H l (.lst (xs ++ zs)))
theorem jX:MtM X "list.extend" lT:=by
 intro pins s σ H x vs v us Q I rx rv h
 obtain⟨l,b,xs,zs,rfl,rfl,hH,hB,hz,q⟩:=h
 cases rx
 obtain⟨u,rfl,ru⟩:=rv.one
 cases ru
 obtain⟨z,its,n,r,hl,e⟩:=I.BZ hH
 obtain⟨z2,its2,n2,r2,hl2,e2⟩:=I.BZ hB
 have hsz:its.toArray.size+its2.toArray.size≤sizeLine:=by rw[List.size_toArray,List.size_toArray];omega
 have Kx:¬ (!its.toArray.isEmpty && Builtin.List.listTooLong (its.toArray.size+its2.toArray.size))=true:=by
  rw[BO hsz,Bool.and_false]
  exact Bool.false_ne_true
 refine call_meets F.slot_list_extend ⟨_,e,rfl⟩ F.entry_list_extend (F.args_list_extend_2 _ _)
  (AutoSeq1.list_extend_list_list_0 l its.toArray n b its2.toArray n2 Kx (by rw[List.size_toArray];omega) (by omega)) ⟨e,e2,?_⟩
 refine⟨.non,_,I.Fz (its':=its ++ its2) hH e (by simp) (r.append r2) ?_,rfl,q⟩
 rw[List.length_append]
 omega
def vR:R2:=fun x y H Q=>∃ l b xs zs,x = .ref l∧y = .ref b∧H l=some (.lst xs)∧H b=some (.lst zs)∧xs.length+zs.length≤sizeLine∧∀ p,H p=none→Q (.ref p) (upd H p (.lst (xs ++ zs)))
theorem jt:OpR X (binaryOp .Add) vR:=by
 intro pins s σ H x y v u Q I rx ry h
 obtain⟨l,b,xs,zs,rfl,rfl,hH,hB,hz,q⟩:=h
 cases rx
 cases ry
 obtain⟨z,its,n,r,hl,e⟩:=I.BZ hH
 obtain⟨z2,its2,n2,r2,hl2,e2⟩:=I.BZ hB
 refine PySem.P.add_list e e2 ?_ (by rw[List.size_toArray,List.size_toArray];omega)
 have ea:its.toArray ++ its2.toArray=(its ++ its2).toArray:=by simp
 rw[ea]
 exact⟨.ref _,_,I.F5 (t':=s.toks) (r.append r2) (by rw[List.length_append];omega),rfl,q _ I.fresh⟩
end
section
variable {prog:Program}{w:World}{A:Around}{E:Value→Shared→Prop}{s:Shared}
set_option maxRecDepth 100000 in
end
section
variable {X:Cx}
end
end L2
namespace L2
open PySem PySem.Spec PyProof.Rows
theorem Vals.ints:∀ {ns:List Int}{us:List Value},Vals (ns.map V.int) us→IntsAre us ns
 | [],us,h=>by
  rw[List.map_nil]at h
  cases h
  exact IntsAre.nil
 |n :: ns,us,h=>by
  rw[List.map_cons]at h
  cases h with
  |cons r t=>
   obtain⟨k,rfl⟩:=r
   exact IntsAre.cons n k (Vals.ints t)
theorem Vals.bls:∀ {bs:List Bool}{us:List Value},Vals (bs.map V.bl) us→us=bs.map Value.bool
 | [],us,h=>by
  rw[List.map_nil]at h
  cases h
  rfl
 |b :: bs,us,h=>by
  rw[List.map_cons]at h
  cases h with
  |cons r t=>
   cases r
   rw[Vals.bls t,List.map_cons]
theorem Vals.De {a:Addr}{us:List Value}(r:Vals [V.ref a] us):us=[Value.ref a]:=by
 cases r with
 |cons r t=>
  cases t
  cases r
  rfl
section
variable {prog:Program}{w:World}{A:Around}{E:Value→Shared→Prop}{s:Shared}{l:Addr}{its:List Value}{ns:List Int}{Q:Value→Shared→Prop}
theorem C6 (hh:A.handled=none) (hl:s.heap.IsList l its.toArray) (hi:IntsAre its ns)
  (h:∀ h' tk t',(∀ b o,s.heap.get? b=some o→h'.get? b=some o)→Q (.int ns.sum t') { s with heap:=h',toks:=tk }):wpAny (model prog w) A (call (.builtin "sum") [.ref l]) Q E s:=by
 obtain⟨xs,e⟩:=hi.allInts.items
 have hn:numsOf (intItems xs).toList=ns:=by rw[←e];exact hi.numsOf
 rw[nums_intItems]at hn
 rw[e]at hl
 refine PySem.sum_intListG hh hl fun h' tk t' hk=>?_
 have:=h h' tk t' hk
 rw[preSum_eq,List.take_of_length_le (by simp),hn];exact this
end
section
variable {X:Cx}
def FX (K:PySem.W.Frag):List V→Hp→VK→Prop:=fun vs H Q=>∃ (a:Addr) (ns:List Int),vs=[V.ref a]∧SqL K H a (ns.map V.int)∧Q (.int ns.sum) H
theorem E2 (hc:X.calm=true):g5 X (.builtin "sum") (FX X.K):=by
 intro pins s σ H vs us Q I r h
 obtain⟨a,ns,rfl,hs,q⟩:=h
 obtain⟨its,rv,hl,_⟩:=I.list hs
 rw[Vals.De r]
 exact C6 (I.ok.hd hc) hl.isList rv.ints fun h' tk t' hk=>⟨.int _,H,I.kept hk,⟨_,rfl⟩,q⟩
end
section
variable {X:Cx}
end
section
variable {X:Cx}
end
theorem B7 {prog:Program}{w:World}{A:Around}{E:Value→Shared→Prop}{s:Shared}{l:Addr}{items:Array Value}{Q:Value→Shared→Prop}(hl:s.heap.IsList l items)
  (h:∀ s₂:Shared,s₂={ s with heap:=s.heap.push { cls:=.type "list_iterator",data:=.fields #[.ref l,.int 0 0] } } →
   (s₂.heap.IsListIter s.heap.objs.size l 0∧s₂.heap.IsList l items)→l≠s.heap.objs.size→Q (.ref s.heap.objs.size) s₂):wpAny (model prog w) A (pyIter (.ref l)) Q E s:=by
 have hlt:l < s.heap.objs.size:=by obtain⟨_,e,_⟩:=hl;exact Heap.lt_size e
 exact wpAny_pyIter_list hl (h _ rfl ⟨⟨_,Heap.get?_push_size _ rfl,rfl,rfl⟩,hl.push _⟩ (Nat.ne_of_lt hlt))
theorem vv {prog:Program}{w:World}{A:Around}{bs:List Bool}{its:List Value}(e:its=bs.map Value.bool) :
  TruthOf prog w A (fun i v=>its.toArray[i]? = some v) (fun i=>bs.getD i false):=fun i v s Q E hv hq=>by
 have hv':its[i]? = some v:=by simpa using hv
 rw[e,List.getElem?_map]at hv'
 obtain⟨b,hb,rfl⟩:=Option.map_eq_some_iff.mp hv'
 have hg:bs.getD i false=b:=by rw[List.getD_eq_getElem?_getD,hb]<;>rfl
 have hq':Q (bs.getD i false) s:=hq
 rw[hg]at hq'
 exact wpAny_truthy_bool hq'
theorem all_range:∀ bs:List Bool,(List.range bs.length).all (fun i=>bs.getD i false)=bs.all id
 | []=>rfl
 |b :: bs=>by
  rw[List.length_cons,List.range_succ_eq_map,List.all_cons,List.all_map,List.all_cons,←all_range bs]
  all_goals rfl
section
variable {X:Cx}
def F0 (K:PySem.W.Frag):List V→Hp→VK→Prop:=fun vs H Q=>∃ (a:Addr) (bs:List Bool),vs=[V.ref a]∧SqL K H a (bs.map V.bl)∧Q (.bl (bs.all id)) H
theorem yK (hc:X.calm=true):g5 X (.builtin "all") (F0 X.K):=by
 intro pins s σ H vs us Q I r h
 obtain⟨a,bs,rfl,hs,q⟩:=h
 obtain⟨its,rv,hl,_⟩:=I.list hs
 rw[Vals.De r]
 have hb:=rv.bls
 refine call_all_walk (B7 hl.isList fun s₂ e2 st hne=>?_)
 subst e2
 refine⟨_,_,_,_,_,_,_,rfl,Walks.list (A:=X.A.in1) (I.ok.hd hc) _ a hne its.toArray,st,vv hb,fun h' tk hk=>?_⟩
 refine⟨.bl _,H,I.kept fun b o eo=>hk b o (fun hmem=>?_) (Heap.get?_push_of_some _ eo),?_,q⟩
 ·rcases List.mem_cons.mp hmem with e1 | hmem
  ·exact absurd (e1 ▸ Heap.lt_size eo) (Nat.lt_irrefl _)
  ·cases hmem
 ·show Value.bool _=Value.bool _
  rw[←all_range,hb,List.size_toArray,List.length_map]
end
mutual
inductive Dp (K:PySem.W.Frag) (H:Hp):V→PyData→Prop
 |non:Dp K H .non .none
 |bl (b:Bool):Dp K H (.bl b) (.bool b)
 |int (i:Int):Dp K H (.int i) (.int i)
 |str (x:Str):Dp K H (.str x) (.str x)
 |lst {a:Addr}{xs:List V}{ds:List PyData}:SqL K H a xs→rp K H xs ds→Dp K H (.ref a) (.list ds)
 |tup {a:Addr}{xs:List V}{ds:List PyData}:SqT K H a xs→rp K H xs ds→Dp K H (.ref a) (.tuple ds)
inductive rp (K:PySem.W.Frag) (H:Hp):List V→List PyData→Prop
 |nil:rp K H [] []
 |cons {v:V}{vs:List V}{d:PyData}{ds:List PyData}:Dp K H v d→rp K H vs ds→rp K H (v :: vs) (d :: ds)
end
section
variable {X:Cx}{pins:List (Addr×Obj)}{σ:St}{H:Hp}{s:Shared}
mutual
theorem Dp.reads (I:Inv X pins σ H s):∀ (d:PyData) (v:V) (u:Value),Dp X.K H v d→RelV v u→∃ as,Reads s.heap u d as
 | .none,_,_,h,r=>by
  cases h
  cases r
  exact⟨_,Reads.none⟩
 | .bool b,_,_,h,r=>by
  cases h
  cases r
  exact⟨_,Reads.bool b⟩
 | .int i,_,_,h,r=>by
  cases h
  obtain⟨t,rfl⟩:=r
  exact⟨_,Reads.int i t⟩
 | .str x,_,_,h,r=>by
  cases h
  obtain⟨t,rfl⟩:=r
  exact⟨_,Reads.str x t⟩
 | .list ds,_,_,h,r=>by
  cases h with
  |lst hs ha=>
   cases r
   obtain⟨its,rv,⟨o,n,ho,hc,_,hd⟩,_⟩:=I.list hs
   obtain⟨as,hr⟩:=Dp.readsAll I ds _ its ha rv
   exact⟨_,Reads.list ho hc hd hr⟩
 | .tuple ds,_,_,h,r=>by
  cases h with
  |tup hs ha=>
   cases r
   obtain⟨its,rv,⟨o,ho,hc,n,hd⟩,_⟩:=I.tuple hs
   obtain⟨as,hr⟩:=Dp.readsAll I ds _ its ha rv
   exact⟨_,Reads.tuple ho hc hd hr⟩
 | .dict _,_,_,h,_=>by cases h
theorem Dp.readsAll (I:Inv X pins σ H s):∀ (ds:List PyData) (vs:List V) (us:List Value),rp X.K H vs ds→Vals vs us→∃ as,ReadsAll s.heap us ds as
 | [],_,_,h,r=>by
  cases h
  cases r
  exact⟨_,ReadsAll.nil⟩
 |d :: ds,_,_,h,r=>by
  cases h with
  |cons h1 h2=>
   cases r with
   |cons r1 r2=>
    obtain⟨as,q1⟩:=Dp.reads I d _ _ h1 r1
    obtain⟨bs,q2⟩:=Dp.readsAll I ds _ _ h2 r2
    exact⟨_,ReadsAll.cons q1 q2⟩
end
end
section
variable {X:Cx}
def FZ (K:PySem.W.Frag):R2:=fun x y H Q=>∃ d e,Dp K H x d∧Dp K H y e∧SeqAt.shaped d=true∧SeqAt.shaped e=true∧Q (.bl (PyData.eqv d e)) H
theorem EB (hu:X.A.units+64 < cLine):OpR X (compareOp .Eq) (FZ X.K):=by
 intro pins s σ H x y v u Q I rx ry h
 obtain⟨d,e,hd,he,sd,se,q⟩:=h
 obtain⟨as,r1⟩:=Dp.reads I d x v hd rx
 obtain⟨bs,r2⟩:=Dp.reads I e y u he ry
 exact SeqAt.compareEq_shaped r1 r2 sd se hu ⟨.bl _,H,I,rfl,q⟩
end
end L2
namespace L2
open PySem PySem.Spec PyProof.Rows
abbrev CT (h:Heap) (c:Addr) (v:Option Value):Prop:=h.IsCell c v
def FW (scope sc:Scope):Scope:=
 { scope with names:=scope.names.map fun (n,k)=>if (k == .free && sc.kind == .function && sc.names.lookup n == some .cell) then (n,.cell) else (n,k) }
def bw (cells:List (Str×Addr)):List (Str×NameKind)→List (Str×Addr)→List (Str×Addr)
 | [],acc=>acc
 |(n,k) :: r,acc=>if k == .free then bw cells r ((n,(cells.lookup n).getD 0) :: acc) else bw cells r acc
theorem mJ (env:Env) (f:Str×NameKind→List (Str×Addr)→Sem (ForInStep (List (Str×Addr))))
  (hf:∀ n k c,f (n,k) c=if k == .free then (do let a ←cellOf env n;pure (.yield ((n,a) :: c))) else pure (.yield c)) :
  ∀ (names:List (Str×NameKind)) (acc:List (Str×Addr)),(∀ y∈names,y.2 = .free→∃ c,env.cells.lookup y.1=some c)→forIn names acc f=pure (bw env.cells names acc)
 | [],acc,_=>by rw[List.forIn_nil];rfl
 |(n,k) :: r,acc,h=>by
  rw[List.forIn_cons,hf]
  have ih:=fun acc=>mJ env f hf r acc fun y hy=>h y (List.mem_cons_of_mem _ hy)
  unfold bw
  by_cases hk:(k == NameKind.free)=true
  ·rw[if_pos hk,if_pos hk]
   obtain⟨c,hc⟩:=h (n,k) List.mem_cons_self (by simpa using hk)
   have e:cellOf env n=pure c:=by unfold cellOf;rw[hc]
   rw[e]
   have e2:(env.cells.lookup n).getD 0=c:=by rw[hc];rfl
   rw[e2]
   exact ih _
  ·rw[if_neg hk,if_neg hk]
   exact ih _
theorem yL {scope:Scope}{env:Env}(h:∀ y∈scope.names,y.2 = .free→∃ c,env.cells.lookup y.1=some c):closureFor scope env=pure (bw env.cells scope.names []):=by
 simp only[closureFor]
 rw[mJ env _ (fun n k c=>rfl) scope.names [] h]
 rfl
theorem mem_lookup {α:Type}:∀ {l:List (Str×α)}{n:Str}{c:α},(n,c)∈l→∃ c',l.lookup n=some c'
 |(k,v) :: r,n,c,h=>by
  rw[List.lookup_cons]
  cases hb:n == k with
  |true=>exact⟨_,rfl⟩
  |false=>
   rcases List.mem_cons.mp h with e | h
   ·cases e;simp at hb
   ·exact mem_lookup h
theorem gn {cells:List (Str×Addr)}:∀ {names:List (Str×NameKind)}{acc:List (Str×Addr)}{n:Str}{c:Addr},(n,c)∈bw cells names acc→(n,c)∈acc∨((n,.free)∈names∧c=(cells.lookup n).getD 0)
 | [],_,_,_,h=>.inl h
 |(m,k) :: r,acc,n,c,h=>by
  unfold bw at h
  split at h
  ·rename_i hk
   have hk:k = .free:=by simpa using hk
   rcases gn h with h | ⟨h1,h2⟩
   ·rcases List.mem_cons.mp h with e | h
    ·cases e;exact .inr ⟨hk ▸ List.mem_cons_self,rfl⟩
    ·exact .inl h
   ·exact .inr ⟨List.mem_cons_of_mem _ h1,h2⟩
  ·rcases gn h with h | ⟨h1,h2⟩
   ·exact .inl h
   ·exact .inr ⟨List.mem_cons_of_mem _ h1,h2⟩
theorem jN {cells:List (Str×Addr)}:∀ {names:List (Str×NameKind)}{acc:List (Str×Addr)}{p:Str×Addr},p∈acc→p∈bw cells names acc
 | [],_,_,h=>h
 |(m,k) :: r,acc,p,h=>by
  unfold bw
  split
  ·exact jN (List.mem_cons_of_mem _ h)
  ·exact jN h
theorem jM {cells:List (Str×Addr)}:∀ {names:List (Str×NameKind)}{acc:List (Str×Addr)}{n:Str},(n,.free)∈names→(n,(cells.lookup n).getD 0)∈bw cells names acc
 |(m,k) :: r,acc,n,h=>by
  unfold bw
  rcases List.mem_cons.mp h with e | h
  ·cases e
   exact jN List.mem_cons_self
  ·split
   ·exact jM h
   ·exact jM h
theorem gY:∀ {names:List (Str×NameKind)}{h:Heap}{acc:List (Str×Addr)}{x:Str}{c:Addr},(x,c)∈cellsFrom h.objs.size names acc →
  (x,c)∈acc∨((x,.cell)∈names∧h.objs.size≤c∧CT (pushCells h names) c none)
 | [],_,_,_,_,h=>.inl h
 |(n,k) :: r,h,acc,x,c,hm=>by
  unfold cellsFrom at hm
  unfold pushCells
  split at hm
  ·rename_i hk
   rw[if_pos hk]
   have hk:k = .cell:=by simpa using hk
   rw[←Heap.size_push h { cls:=.type "cell",data:=.cell none }]at hm
   rcases gY hm with hm | ⟨h1,h2,h3⟩
   ·rcases List.mem_cons.mp hm with e | hm
    ·cases e
     exact .inr ⟨hk ▸ List.mem_cons_self,Nat.le_refl _,_,pushCells_keeps r _ _ _ (Heap.get?_push_size _ rfl),rfl⟩
    ·exact .inl hm
   ·rw[Heap.size_push]at h2
    exact .inr ⟨List.mem_cons_of_mem _ h1,Nat.le_of_succ_le h2,h3⟩
  ·rename_i hk
   rw[if_neg hk]
   rcases gY hm with hm | ⟨h1,h2,h3⟩
   ·exact .inl hm
   ·exact .inr ⟨List.mem_cons_of_mem _ h1,h2,h3⟩
theorem j3:∀ {names:List (Str×NameKind)}{n:Nat}{acc:List (Str×Addr)}{p:Str×Addr},p∈acc→p∈cellsFrom n names acc
 | [],_,_,_,h=>h
 |(m,k) :: r,n,acc,p,h=>by
  unfold cellsFrom
  split
  ·exact j3 (List.mem_cons_of_mem _ h)
  ·exact j3 h
theorem nF:∀ {names:List (Str×NameKind)}{n:Nat}{acc:List (Str×Addr)}{x:Str},(x,.cell)∈names→∃ c,(x,c)∈cellsFrom n names acc
 |(m,k) :: r,n,acc,x,h=>by
  unfold cellsFrom
  rcases List.mem_cons.mp h with e | h
  ·cases e
   exact⟨n,j3 List.mem_cons_self⟩
  ·split
   ·exact nF h
   ·exact nF h
theorem nB:∀ {names:List (Str×NameKind)}{h:Heap}{acc:List (Str×Addr)}{x y:Str}{c:Addr},(∀ p∈acc,p.2 < h.objs.size)→(∀ x y c,(x,c)∈acc→(y,c)∈acc→x=y) →
  (x,c)∈cellsFrom h.objs.size names acc→(y,c)∈cellsFrom h.objs.size names acc→x=y
 | [],_,_,_,_,_,_,hi,h1,h2=>hi _ _ _ h1 h2
 |(n,k) :: r,h,acc,x,y,c,hl,hi,h1,h2=>by
  unfold cellsFrom at h1 h2
  split at h1
  ·rename_i hk
   rw[if_pos hk]at h2
   rw[←Heap.size_push h { cls:=.type "cell",data:=.cell none }]at h1 h2
   refine nB (h:=h.push _) (fun p hp=>?_) (fun x y c a b=>?_) h1 h2
   ·rw[Heap.size_push]
    rcases List.mem_cons.mp hp with rfl | hp
    ·exact Nat.lt_succ_self _
    ·exact Nat.lt_succ_of_lt (hl p hp)
   ·rcases List.mem_cons.mp a with e | a<;>rcases List.mem_cons.mp b with e' | b
    ·cases e;cases e';rfl
    ·cases e;exact absurd (hl _ b) (Nat.lt_irrefl _)
    ·cases e';exact absurd (hl _ a) (Nat.lt_irrefl _)
    ·exact hi _ _ _ a b
  ·rename_i hk
   rw[if_neg hk]at h2
   exact nB hl hi h1 h2
theorem wg {M:Model}{A:Around}{E:Value→Shared→Prop}{s:Shared}{scope:Scope}{globals:Addr}{closure:List (Str×Addr)}{qual:Str}{func:Option Addr}{code:Value}{around:Env}{builtins:Addr}{Q:Env→Shared→Prop}
  (h:Q (newEnv scope s.heap.objs.size globals (cellsFrom (s.heap.objs.size+1) scope.names closure) qual func code (some around) builtins)
   { s with heap:=pushCells (s.heap.push { cls:=.type "dict",data:=.dict #[] }) scope.names }) :
  wpAny M A (newFunctionEnv scope globals closure [] qual func code (some around) builtins) Q E s:=by
 simp only[newFunctionEnv,Option.isSome_some,if_true]
 refine wpAny_bind (wpAny_alloc ?_)
 refine wpAny_bind (wpAny_layCells _ (fun n k c=>rfl) scope.names closure _ _ ?_)
 rw[show ({ s with heap:=s.heap.push { cls:=.type "dict",data:=.dict #[] } }:Shared).heap.objs.size=s.heap.objs.size+1 from Heap.size_push ..]
 rw[List.forIn_nil]
 exact wpAny_bind (wpAny_pure (wpAny_pure h))
theorem jy {sc:Scope}:∀ {names:List (Str×NameKind)}{x:Str}{k:NameKind},
  (names.map fun (n,k)=>if (k == NameKind.free && sc.kind == .function && sc.names.lookup n == some .cell) then (n,NameKind.cell) else (n,k)).lookup x=some k →
  ∃ k',names.lookup x=some k'∧(k=k'∨(k' = .free∧k = .cell))
 | [],_,_,h=>by simp at h
 |(n,k₀) :: r,x,k,h=>by
  have ih:=@jy sc r x k
  have h':List.lookup x ((if (k₀ == NameKind.free && sc.kind == .function && sc.names.lookup n == some .cell)=true then (n,NameKind.cell) else (n,k₀)) :: (r.map _))=some k:=h
  cases hx:x == n with
  |true=>
   simp only[List.lookup_cons,hx]
   by_cases hc:(k₀ == NameKind.free && sc.kind == .function && sc.names.lookup n == some .cell)=true
   ·rw[if_pos hc]at h'
    simp only[List.lookup_cons,hx]at h'
    cases h'
    simp only[Bool.and_eq_true,beq_iff_eq]at hc
    exact⟨k₀,rfl,.inr ⟨hc.1.1,rfl⟩⟩
   ·rw[if_neg hc]at h'
    simp only[List.lookup_cons,hx]at h'
    cases h'
    exact⟨_,rfl,.inl rfl⟩
  |false=>
   simp only[List.lookup_cons,hx]
   by_cases hc:(k₀ == NameKind.free && sc.kind == .function && sc.names.lookup n == some .cell)=true
   ·rw[if_pos hc]at h'
    simp only[List.lookup_cons,hx]at h'
    exact ih h'
   ·rw[if_neg hc]at h'
    simp only[List.lookup_cons,hx]at h'
    exact ih h'
structure xp (N:List Str) (sc scope:Scope) (own:List (Str×Nat)):Prop where
 kind:scope.kind = .function
 uniq:∀ y∈scope.names,scope.names.lookup y.1=some y.2
 ix:∀ p∈own,N[p.2]? = some p.1
 free:∀ y∈scope.names,y.2 = .free→sc.names.lookup y.1=some .cell∨sc.names.lookup y.1=some .free
 own:∀ y∈scope.names,y.2 = .local∨y.2 = .cell→y.1∈own.map (·.1)∨y.1∉N
def wipe (σ:St):List Nat→St
 | []=>σ
 |v :: vs=>(wipe σ vs).set v none
theorem iW (σ:St):∀ vs:List Nat,(wipe σ vs).length=σ.length
 | []=>rfl
 |v :: vs=>by unfold wipe;rw[List.length_set,iW σ vs]
theorem mP {σ:St}{i:Nat}{x:V}:∀ {vs:List Nat},(wipe σ vs)[i]? = some (some x)→σ[i]? = some (some x)∧i∉vs
 | [],h=>⟨h,by simp⟩
 |v :: vs,h=>by
  unfold wipe at h
  by_cases hi:v=i
  ·subst hi
   by_cases hv:v < (wipe σ vs).length
   ·rw[List.getElem?_set_self hv]at h;cases h
   ·rw[List.getElem?_eq_none (by simpa using hv)]at h;cases h
  ·rw[List.getElem?_set_ne hi]at h
   obtain⟨h1,h2⟩:=mP h
   exact⟨h1,by simp only[List.mem_cons,not_or];exact⟨fun e=>hi e.symm,h2⟩⟩
abbrev Cx.blk (X:Cx) (s:Shared) (H:Hp) (scope:Scope) (cenv:Env) (fp:List Addr):Cx:={ X with s_0:=s,H_0:=H,env:=cenv,outer:=X.stack,ex:=fp,fn:=fun x=>scope.names.lookup x == some .cell,pn:=[],xe:=fun _ _=>False }
section
variable {X:Cx}{pins:List (Addr×Obj)}{σ:St}{H:Hp}{s:Shared}
theorem xn {scope:Scope}{own:List (Str×Nat)}{fp:List Addr}(I:Inv X pins σ H s) (ok:xp X.N X.env.scope scope own) (hN:X.N.Nodup) (hfp:∀ b∈fp,lr X pins H b∧b < s.heap.objs.size) :
  Inv (X.blk s H scope (compEnvC scope (cellsFrom (s.heap.objs.size+1) scope.names (bw X.env.cells scope.names [])) s.heap.objs.size X.env) fp) [] (wipe σ (own.map (·.2))) H { s with heap:=pushCells (s.heap.push { cls:=.type "dict",data:=.dict #[] }) scope.names }:=by
 have hfree:∀ y∈scope.names,y.2 = .free→∃ c,X.env.cells.lookup y.1=some c:=fun y hy e=>by
  rcases ok.free y hy e with k | k
  ·exact I.ok.has _ (.inl k)
  ·exact I.ok.has _ (.inr k)
 generalize Jg:compEnvC scope (cellsFrom (s.heap.objs.size+1) scope.names (bw X.env.cells scope.names [])) s.heap.objs.size X.env=cenv
 have kp:∀ b o,s.heap.get? b=some o→(pushCells (s.heap.push { cls:=.type "dict",data:=.dict #[] }) scope.names).get? b=some o:=fun b o e=>pushCells_keeps _ _ _ _ (Heap.get?_push_of_some _ e)
 have hL:cenv.locals=s.heap.objs.size:=by rw[←Jg];rfl
 have hcl:cenv.cells=cellsFrom (s.heap.objs.size+1) scope.names (bw X.env.cells scope.names []):=by rw[←Jg];rfl
 have hsc:cenv.scope=FW scope X.env.scope:=by rw[←Jg];rfl
 rw[←Heap.size_push s.heap { cls:=.type "dict",data:=.dict #[] }]at hcl
 have cm:∀ {y c},(y,c)∈bw X.env.cells scope.names []→X.env.cells.lookup y=some c∧c < s.heap.objs.size:=fun {y c} hm=>by
  rcases gn hm with hm | ⟨h1,rfl⟩
  ·cases hm
  ·obtain⟨c,hc⟩:=hfree _ h1 rfl
   rw[hc]
   obtain⟨w,z⟩:=I.cell _ _ hc
   exact⟨rfl,z.lt⟩
 have mem:∀ {y c},cenv.cells.lookup y=some c→(X.env.cells.lookup y=some c∧c < s.heap.objs.size)∨(s.heap.objs.size+1≤c∧CT (pushCells (s.heap.push { cls:=.type "dict",data:=.dict #[] }) scope.names) c none):=fun {y c} e=>by
  rw[hcl]at e
  rcases gY (PySem.mem_of_lookup e) with hm | ⟨_,h2,h3⟩
  ·exact .inl (cm hm)
  ·rw[Heap.size_push]at h2;exact .inr ⟨h2,h3⟩
 have look:∀ {y},scope.names.lookup y=some .free→∃ c,cenv.cells.lookup y=some c∧X.env.cells.lookup y=some c:=fun {y} hl=>by
  have hy:(y,NameKind.free)∈scope.names:=PySem.mem_of_lookup hl
  obtain⟨c',e'⟩:=mem_lookup (j3 (names:=scope.names) (n:=(s.heap.push { cls:=.type "dict",data:=.dict #[] }).objs.size) (jM (cells:=X.env.cells) (acc:=[]) hy))
  rw[←hcl]at e'
  refine⟨c',e',?_⟩
  rw[hcl]at e'
  rcases gY (PySem.mem_of_lookup e') with hm | ⟨h1,_,_⟩
  ·exact(cm hm).1
  ·have:=ok.uniq _ h1
   rw[hl]at this;cases this
 have okB:(X.blk s H scope cenv fp).Ok:=by
  refine⟨I.ok.mod,by show cenv.scope.kind=_;rw[hsc];exact ok.kind,by show cenv.globals=_;rw[←Jg];exact I.ok.glob,by show cenv.builtins=_;rw[←Jg];exact I.ok.blt,by show s.heap.objs.size≤cenv.locals;rw[hL];exact Nat.le_refl _,
   fun y z c e1 e2=>?_,fun y hy=>?_,fun y c z e=>?_,I.ok.hd,I.ok.frames,.inl rfl,fun b hb=>⟨?_,fun y c e z=>?_⟩,I.bs,Nat.le_trans I.ok.bsz I.sz,fun b o e hb=>?_,fun b hb z=>?_,I.stack,I.um⟩
  ·have e1:cenv.cells.lookup y=some c:=e1
   have e2:cenv.cells.lookup z=some c:=e2
   rw[hcl]at e1 e2
   refine nB (fun p hp=>?_) (fun y z c a b=>I.ok.inj y z c (cm a).1 (cm b).1) (PySem.mem_of_lookup e1) (PySem.mem_of_lookup e2)
   rw[Heap.size_push]
   exact Nat.lt_succ_of_lt (cm (y:=p.1) (c:=p.2) hp).2
  ·show ∃ c,cenv.cells.lookup y=some c
   have key:∀ k,cenv.kindOf y=some k→(k = .cell∨k = .free)→∃ c,cenv.cells.lookup y=some c:=fun k hk hk'=>by
    unfold Env.kindOf at hk
    rw[hsc]at hk
    obtain⟨k',e,r⟩:=jy hk
    have:k' = .cell∨k' = .free:=by
     rcases r with rfl | ⟨rfl,_⟩
     ·exact hk'
     ·exact .inr rfl
    rcases this with rfl | rfl
    ·obtain⟨c,hm⟩:=nF (n:=(s.heap.push { cls:=.type "dict",data:=.dict #[] }).objs.size) (acc:=bw X.env.cells scope.names []) (PySem.mem_of_lookup e)
     obtain⟨c',e'⟩:=mem_lookup hm
     exact⟨c',by rw[hcl];exact e'⟩
    ·obtain⟨c,h1,_⟩:=look e
     exact⟨c,h1⟩
   rcases hy with hy | hy
   ·exact key _ hy (.inl rfl)
   ·exact key _ hy (.inr rfl)
  ·have z:(scope.names.lookup y == some NameKind.cell)=true:=z
   have z:scope.names.lookup y=some .cell:=by simpa using z
   have e:cenv.cells.lookup y=some c:=e
   rw[hcl]at e
   rcases gY (PySem.mem_of_lookup e) with hm | ⟨_,h2,_⟩
   ·rcases gn hm with hm | ⟨h1,_⟩
    ·cases hm
    ·have q:=ok.uniq _ h1
     rw[z]at q;cases q
   ·rw[Heap.size_push]at h2
    exact Nat.le_of_succ_le h2
  ·show b≠cenv.locals
   rw[hL];exact Nat.ne_of_lt (hfp b hb).2
  ·have e:cenv.cells.lookup y=some c:=e
   rcases mem e with ⟨h1,_⟩ | ⟨h1,_⟩
   ·exact(hfp b hb).1.2.2.2.2.1 y c h1 z
   ·have h2:s.heap.objs.size+1≤b:=by rw[←z];exact h1
    exact absurd (Nat.lt_of_lt_of_le (hfp b hb).2 (Nat.le_of_succ_le h2)) (Nat.lt_irrefl _)
  ·rcases(hfp b hb).1.2.2.2.1 with z | z
   ·exact I.ok.BQ b o e z
   ·exact absurd (Nat.lt_of_lt_of_le (Heap.lt_size e) (Nat.le_trans I.ok.bsz z)) (Nat.lt_irrefl _)
  ·rcases List.mem_cons.mp (I.xy b z) with z | z
   ·exact(hfp b hb).1.2.1 z
   ·exact(hfp b hb).1.2.2.1 z
 refine⟨okB,rfl,I.bare,Un.kept kp,⟨fun _=>none,?_,fun i y av e1 e2 e3=>?_⟩,fun y c e=>?_,?_,fun y c e=>?_,fun p hp=>?_,I.hok.kept kp,by rw[iW];exact I.len⟩
 ·show Heap.Ns _ cenv.locals _
  rw[hL]
  exact Heap.Ns.keeps (Heap.Ns.new ..) fun b o e=>pushCells_keeps _ _ _ _ e
 ·obtain⟨e2,hne⟩:=mP e2
  have hfr:scope.names.lookup y=some .free∧(cenv.kindOf y=some .cell∨cenv.kindOf y=some .free):=by
   have key:∀ k,cenv.scope.names.lookup y=some k→k = .local∨k = .cell∨k = .free→scope.names.lookup y=some .free∧(cenv.kindOf y=some .cell∨cenv.kindOf y=some .free):=fun k hk hk'=>by
    have hk0:=hk
    rw[hsc]at hk
    obtain⟨k',e,r⟩:=jy hk
    have no:¬ (k' = .local∨k' = .cell):=fun hh=>by
     rcases ok.own _ (PySem.mem_of_lookup e) hh with e' | e'
     ·obtain⟨p,hp,hpy⟩:=List.mem_map.mp e'
      have e3:=ok.ix p hp
      have:p.1=y:=hpy
      rw[this]at e3
      exact hne (List.mem_map.mpr ⟨p,hp,qm hN e3 e1⟩)
     ·exact e' (List.mem_of_getElem? e1)
    rcases r with rfl | ⟨rfl,rfl⟩
    ·rcases hk' with rfl | rfl | rfl
     ·exact absurd (.inl rfl) no
     ·exact absurd (.inr rfl) no
     ·exact⟨e,.inr hk0⟩
    ·exact⟨e,.inl hk0⟩
   have e3:Vis cenv.scope y:=e3
   rcases e3 with e3 | e3 | e3
   ·exact key _ e3 (.inl rfl)
   ·exact key _ e3 (.inr (.inl rfl))
   ·exact key _ e3 (.inr (.inr rfl))
  obtain⟨m,hn,hl⟩:=I.loc
  have K0:Vis X.env.scope y:=(ok.free _ (PySem.mem_of_lookup hfr.1) rfl).elim (fun k=>.inr (.inl k)) (fun k=>.inr (.inr k))
  obtain⟨w,r,q⟩:=hl i y av e1 e2 K0
  refine⟨w,r,.inr ⟨hfr.2,?_⟩⟩
  obtain⟨c,h1,h2⟩:=look hfr.1
  rcases q with ⟨k,_⟩ | ⟨_,c',e',z⟩
  ·have k:X.env.scope.names.lookup y=some .local:=k
   rcases ok.free _ (PySem.mem_of_lookup hfr.1) rfl with k' | k'<;>rw[show X.env.scope.names.lookup y=_ from k']at k<;>cases k
  ·rw[h2]at e';cases e'
   exact⟨c,h1,z.keeps kp⟩
 ·have e:cenv.cells.lookup y=some c:=e
  rcases mem e with ⟨h1,_⟩ | ⟨_,z⟩
  ·obtain⟨w,z⟩:=I.cell y c h1
   exact⟨w,z.keeps kp⟩
  ·exact⟨_,z⟩
 ·show H cenv.locals=none
  rw[hL];exact I.hok.fresh (Nat.le_refl _)
 ·have e:cenv.cells.lookup y=some c:=e
  rcases mem e with ⟨h1,_⟩ | ⟨h1,_⟩
  ·exact I.gj y c h1
  ·exact I.hok.fresh (Nat.le_of_succ_le h1)
 ·exact absurd (show p∈([]:List (Addr×Obj)) ++ [] from hp) (by simp)
theorem E8 {E:Value→Shared→Prop}{D:Addr}{xs:List V}{y:V}{v:Value}{Q:Value→Shared→Prop}(I:Inv X pins σ H s) (hD:H D=some (.lst xs)) (hz:xs.length < sizeLine) (r:RelV y v)
  (h:∀ s',Inv X pins σ (upd H D (.lst (xs ++ [y]))) s'→Q .none s'):wpAny (model X.prog X.w) X.A (call (.builtin "list.append") [.ref D,v]) Q E s:=by
 obtain⟨hz',its,n,ri,e⟩:=I.hok D _ hD
 have hl:=ri.length
 refine append_at (hsz:=by rw[List.size_toArray];omega) e fun h' sb ho'=>?_
 refine h { s with heap:=h' } (I.write (t':=s.toks) (by rw[hD];trivial) (.inl rfl) (fun b u hb q=>(sb.2 b hb).trans q) ⟨_,ho'⟩ ⟨by rw[List.length_append];exact hz,its ++ [v],n+1,ri.append (.cons r .nil),?_⟩)
 rw[ho']
 simp
def PTs (X:Cx) (ifs:List Expr) (t:TT):Prop:=
 ∀ (pins:List (Addr×Obj)) (s:Shared) (σ:St) (H:Hp) (Q:Bool→Hp→Prop),Inv X pins σ H s→t σ H Q →
  wpAny (model X.prog X.w) X.A (forIn ifs true fun c r=>if r=true then do let ok ←isTrue c X.env (eval c X.env);pure (ForInStep.yield ok) else pure (ForInStep.yield r)) (TP X pins σ Q) X.xe s
def uf:TT:=fun _ H Q=>Q true H
theorem ij:PTs X [] uf:=fun _ _ _ H _ I h=>wpAny_tests_nil ⟨H,I,h⟩
theorem Df {c:Expr}{t:TT}(h:PT X c t):PTs X [c] t:=fun pins s σ H Q I hw=>wpAny_tests_one (h pins s σ H Q I hw)
end
theorem zW {α:Type}{t:Sem α}{Q Q':α→Shared→Prop}{M:Model}{A:Around}{E:Value→Shared→Prop}{s:Shared}(h:wpAny M A t Q (fun _ _=>False) s) (hQ:∀ a s,Q a s→Q' a s):wpAny M A t Q' E s:=wpAny_mono h hQ fun _ _ z=>False.elim z
theorem vc {prog:Program}{w:World}{A:Around}{R:Result→Shared→Prop}{s:Shared}{elt target iter:Expr}{ifs:List Expr}{scope:Scope}{pos:Pos}{it acc:Value}{env:Env}(I:Nat→Shared→Prop)
  (turn:∀ n s,I n s→wpAny (model prog w) A (pyNext it) (fun r s₁=>match r with
   |none=>R (.ok .next) s₁
   |some v=>wpAny (model prog w) A (letOwnedTupleGo target it v) (fun _ s₁'=>wpAny (model prog w) A (assign target env v) (fun _ s₂=>
     wpAny (model prog w) A (forIn ifs true fun c r=>if r=true then do let ok ←isTrue c env (eval c env);pure (ForInStep.yield ok) else pure (ForInStep.yield r)) (fun ok s₃=>
      if ok=true then wpAny (model prog w) A (eval elt env) (fun x s₄=>
       wpAny (model prog w) A (call (.builtin "list.append") [acc,x]) (fun _ s₅=>∃ m,m < n∧I m s₅) (notedBy (model prog w) A env fun e s'=>R (.error e) s') s₄) (notedBy (model prog w) A env fun e s'=>R (.error e) s') s₃
      else ∃ m,m < n∧I m s₃) (notedBy (model prog w) A env fun e s'=>R (.error e) s') s₂) (notedBy (model prog w) A env fun e s'=>R (.error e) s') s₁') (notedBy (model prog w) A env fun e s'=>R (.error e) s') s₁) (notedBy (model prog w) A env fun e s'=>R (.error e) s') s)
  (n:Nat) (h:I n s) :
  codeAny (model prog w) A (.compLoop (.ListComp elt [⟨target,iter,ifs,0⟩] scope pos) 0 it acc env) R s:=by
 refine codeAny_loop rfl I (fun n s hI=>?_) n h
 show wpAny _ A ((compTurn (.ListComp elt [⟨target,iter,ifs,0⟩] scope pos) 0 it acc env).onRaise (fun x=>do noteFrame x env;theTreesLotGoes x)) _ _ s
 refine wpAny_noted ?_
 rw[compTurn_list]
 refine wpAny_bind (wpAny_standAt (wpAny_bind (wpAny_mono (turn n s hI) (fun r s₁ h₁=>?_) fun _ _ h'=>h')))
 cases r with
 |none=>exact wpAny_pure h₁
 |some v=>
  refine wpAny_bind (wpAny_mono h₁ (fun _ s₁' h₁'=>?_) fun _ _ h'=>h')
  refine wpAny_bind (wpAny_mono h₁' (fun _ s₂ h₂=>wpAny_bind (wpAny_mono h₂ (fun ok s₃ h₃=>?_) fun _ _ h'=>h')) fun _ _ h'=>h')
  cases ok with
  |false=>exact wpAny_pure ⟨rfl,h₃⟩
  |true=>
   exact wpAny_bind (wpAny_bind (wpAny_mono h₃ (fun x s₄ h₄=>wpAny_bind (wpAny_mono h₄ (fun _ s₅ h₅=>wpAny_pure (wpAny_pure ⟨rfl,h₅⟩)) fun _ _ h'=>h')) fun _ _ h'=>h'))
section
variable {X:Cx}
def tLc (wi:TI) (g:TG) (tt:TT) (te:TE) (vs:List Nat):TE:=fun σ H Q=>wi σ H fun J H1=>∀ D,H1 D=none→∃ W:Nat→Nat→Hp→Prop,(∃ m,W 0 m (upd H1 D (.lst [])))∧∀ i m H,W i m H →
 (J.stop i H∧Q (.ref D) H)∨(J.go i H∧∃ Nx:Hp→Prop,(∀ H',Nx H'→∃ m',m' < m∧W (i+1) m' H')∧∀ x H',J.yld i H x H'→g x (wipe σ vs) H' fun σ2 H2=>wipe σ2 vs=wipe σ vs∧tt σ2 H2 fun b H3=>
  if b=true then te σ2 H3 fun y H4=>∃ acc,H4 D=some (.lst acc)∧acc.length < sizeLine∧Nx (upd H4 D (.lst (acc ++ [y]))) else Nx H3)
theorem zx {pins:List (Addr×Obj)}{s:Shared}{σ:St}{H:Hp}{Q:VK}{elt tg iter:Expr}{ifs:List Expr}{scope:Scope}{own:List (Str×Nat)}{pos pos':Pos}{wi:TI}{g:TG}{tt:TT}{te:TE}{use:Option (Value→Sem Unit)}{Qf:Value→Shared→Prop}
  (hc:X.calm=true) (hN:X.N.Nodup) (I:Inv X pins σ H s) (hi:PI X tg iter wi) (ok:xp X.N X.env.scope scope own)
  (hg:∀ (s:Shared) (H:Hp) (C:Addr) (cl:List (Str×Addr)) (fp:List Addr),PG (X.blk s H scope (compEnvC scope cl C X.env) fp) tg g) (ht:∀ (s:Shared) (H:Hp) (C:Addr) (cl:List (Str×Addr)) (fp:List Addr),PTs (X.blk s H scope (compEnvC scope cl C X.env) fp) ifs tt)
  (he:∀ (s:Shared) (H:Hp) (C:Addr) (cl:List (Str×Addr)) (fp:List Addr),PE (X.blk s H scope (compEnvC scope cl C X.env) fp) elt te) (hs:∀ x,foldedSetIterable iter X.env x=pure x)
  (h:tLc wi g tt te (own.map (·.2)) σ H Q)
  (hRR:∀ D C s' m H',Inv X pins σ H' s'→Q (.ref D) H'→s'.heap.Ns C m→lr X pins H' C→compPost (model X.prog X.w) X.A X.xe use Qf (.ref D) C (.ok .next) s') :
  wpAny (model X.prog X.w) X.A (comprehension (.ListComp elt [⟨tg,iter,ifs,0⟩] scope pos) scope X.env pos' (newList []) false (eval iter X.env) use) Qf X.xe s:=by
 have hfree:∀ y∈scope.names,y.2 = .free→∃ c,X.env.cells.lookup y.1=some c:=fun y hy e=>by
  rcases ok.free y hy e with k | k
  ·exact I.ok.has _ (.inl k)
  ·exact I.ok.has _ (.inr k)
 refine wpAny_comprehension_free (use:=use) rfl hs (yL hfree) ok.kind (fun y hy e=>by rw[ok.uniq y hy,e])
  (thn (hi pins s σ H _ I h) fun xv s1 hx=>thn hx fun itv s2 h2=>?_)
 obtain⟨it,fp,tn,J,H2,e,I2,T,st2,f2,q⟩:=h2
 subst e
 refine wpAny_newObj_type (wg ?_) (by show 0≤sizeLine;decide)
 generalize hD:s2.heap.objs.size=D
 have hDn:H2 D=none:=I2.hok.fresh (Nat.le_of_eq hD)
 obtain⟨W,⟨m0,w0⟩,turn⟩:=q D hDn
 generalize hs3:({ s2 with heap:=s2.heap.push { cls:=.type "list",data:=.seq ([]:List Value).toArray } }:Shared)=s3
 have I3:Inv X pins σ (upd H2 D (.lst [])) s3:=by
  rw[←hs3]
  refine I2.laid (t':=s2.toks) (fun b o e=>Heap.get?_push_of_some _ e) (Nat.le_of_eq hD) ⟨Nat.zero_le _,[],0,.nil,?_⟩
  rw[←hD]
  exact Heap.get?_push_size _ rfl
 have h3:s3.heap=s2.heap.push { cls:=.type "list",data:=.seq ([]:List Value).toArray }:=by rw[←hs3]
 have sz:∀ b∈fp,b < s2.heap.objs.size:=fun b hb=>by
  obtain⟨o,e,_⟩:=T.obj _ _ st2 b hb
  exact Heap.lt_size e
 have f3:∀ b∈fp,lr X pins (upd H2 D (.lst [])) b∧b < s3.heap.objs.size:=fun b hb=>by
  have hlt:=sz b hb
  refine⟨⟨?_,(f2 b hb).2⟩,by rw[h3,Heap.size_push];exact Nat.lt_succ_of_lt hlt⟩
  rw[ak (by rw[←hD];exact Nat.ne_of_lt hlt)]
  exact(f2 b hb).1
 have st3:tn 0 s3.heap:=T.keep _ _ _ st2 fun b _ o e=>by rw[h3];exact Heap.get?_push_of_some _ e
 have I4:=xn I3 ok hN f3
 have pg:=hg s3 (upd H2 D (.lst [])) s3.heap.objs.size (cellsFrom (s3.heap.objs.size+1) scope.names (bw X.env.cells scope.names [])) fp
 have pt:=ht s3 (upd H2 D (.lst [])) s3.heap.objs.size (cellsFrom (s3.heap.objs.size+1) scope.names (bw X.env.cells scope.names [])) fp
 have pe:=he s3 (upd H2 D (.lst [])) s3.heap.objs.size (cellsFrom (s3.heap.objs.size+1) scope.names (bw X.env.cells scope.names [])) fp
 show codeAny _ _ (.compStart (.ListComp elt [⟨tg,iter,ifs,0⟩] scope pos) 0 (.ref it) (.ref D) (compEnvC scope (cellsFrom (s3.heap.objs.size+1) scope.names (bw X.env.cells scope.names [])) s3.heap.objs.size X.env)) (compPost (model X.prog X.w) X.A X.xe use Qf (.ref D) s3.heap.objs.size) { s3 with heap:=pushCells (s3.heap.push { cls:=.type "dict",data:=.dict #[] }) scope.names }
 have nfp:∀ b∈fp,(upd H2 D (.lst [])) b=none:=fun b hb=>(f3 b hb).1.1
 generalize hce:compEnvC scope (cellsFrom (s3.heap.objs.size+1) scope.names (bw X.env.cells scope.names [])) s3.heap.objs.size X.env=ce at I4 pg pt pe ⊢
 have cL:ce.locals=s3.heap.objs.size:=by subst hce;rfl
 generalize hH3:upd H2 D (.lst [])=H3 at I3 I4 pg pt pe w0 nfp f3
 generalize hs4:({ s3 with heap:=pushCells (s3.heap.push { cls:=.type "dict",data:=.dict #[] }) scope.names }:Shared)=s4 at I4 ⊢
 have st4:tn 0 s4.heap:=T.keep _ _ _ st3 fun b _ o e=>by rw[←hs4];exact pushCells_keeps _ _ _ _ (Heap.get?_push_of_some _ e)
 have stat:∀ {σ':St}{H':Hp}{s':Shared},Inv (X.blk s3 H3 scope ce fp) [] σ' H' s'→(∀ b∈fp,H' b=none)→∀ b∈fp,lr (X.blk s3 H3 scope ce fp) [] H' b:=fun {σ' H' s'} I' hn b hb=>
  ⟨hn b hb,(I'.ok.exf b hb).1,I'.ok.Cj b hb,.inl hb,fun x c e=>(I'.ok.exf b hb).2 x c e,fun p hp=>absurd (show p∈([]:List (Addr×Obj)) ++ [] from hp) (by simp)⟩
 have loop:codeAny (model X.prog X.w) X.A (.compLoop (.ListComp elt [⟨tg,iter,ifs,0⟩] scope pos) 0 (.ref it) (.ref D) ce) (compPost (model X.prog X.w) X.A X.xe use Qf (.ref D) s3.heap.objs.size) s4:=by
  refine vc (fun n s'=>∃ i H',Inv (X.blk s3 H3 scope ce fp) [] (wipe σ (own.map (·.2))) H' s'∧tn i s'.heap∧(∀ b∈fp,H' b=none)∧W i n H') ?_ m0 ⟨0,H3,I4,st4,nfp,w0⟩
  rintro n s5 ⟨i,H5,I5,st5,n5,w5⟩
  rcases turn i n H5 w5 with ⟨stop,qq⟩ | ⟨go,Nx,hNx,step⟩
  ·have td:=T.done (X.blk s3 H3 scope ce fp) rfl rfl rfl hc i [] s5 _ H5 (fun _ _=>False) I5 (stat I5 n5) st5 stop
   refine zW td fun r s6 ⟨hr,I6⟩=>?_
   subst hr
   have I7:Inv X pins σ H5 s6:=I3.FQ (ch:=fp) I6.os I6.base I6.hok I6.bare fun b hb=>⟨(f3 b hb).1.2.2.2.1,(f3 b hb).1.2.1,(f3 b hb).1.2.2.2.2.1,(f3 b hb).1.2.2.2.2.2⟩
   have nC:H5 s3.heap.objs.size=none:=by
    have z:H5 ce.locals=none:=I6.free
    rw[cL]at z
    exact z
   obtain⟨m,hn,_⟩:=I6.loc
   have hn:s6.heap.Ns ce.locals m:=hn
   rw[cL]at hn
   exact hRR D s3.heap.objs.size s6 m H5 I7 qq hn (I3.AF (Nat.le_refl _) nC)
  ·have ti:=T.item (X.blk s3 H3 scope ce fp) rfl rfl rfl hc i [] s5 _ H5 (fun _ _=>False) I5 (stat I5 n5) st5 go
   refine zW ti fun r s6 ⟨u,hr,h6⟩=>?_
   subst hr
   refine zW h6 fun _ s7 ⟨x,H7,I7,r7,y7,st7,n7⟩=>?_
   have I7':=I7.pinned (stat I7 n7) (T.obj _ _ st7)
   refine zW (pg _ s7 _ H7 x u _ I7' r7 (step x H7 y7)) fun _ s8 ⟨σ8,H8,I8,hw8,q8⟩=>?_
   refine zW (pt _ s8 σ8 H8 _ I8 q8) fun b s9 ⟨H9,I9,q9⟩=>?_
   have fin:∀ {s':Shared}{H':Hp},Inv (X.blk s3 H3 scope ce fp) ([] ++ qa fp s7.heap) σ8 H' s'→Nx H'→∃ m,m < n∧∃ i H',Inv (X.blk s3 H3 scope ce fp) [] (wipe σ (own.map (·.2))) H' s'∧tn i s'.heap∧(∀ b∈fp,H' b=none)∧W i m H':=fun {s' H'} I' nx=>by
    obtain⟨m',hm,w'⟩:=hNx H' nx
    have Km:∀ b∈fp,∀ o,s7.heap.get? b=some o→s'.heap.get? b=some o∧H' b=none:=fun b hb o e=>
     let z:=I'.pin (b,o) (List.mem_append_right _ (List.mem_append_right _ (k9 hb e)))
     ⟨z.1,z.2.1⟩
    have hl:(wipe σ (own.map (·.2))).length=σ8.length:=by rw[←hw8,iW]
    refine⟨m',hm,i+1,H',(I'.lB (pins:=[])).weak hl (fun j v e=>?_),T.keep _ _ _ st7 fun b hb o e=>(Km b hb o e).1,fun b hb=>?_,w'⟩
    ·rw[←hw8]at e
     exact(mP e).1
    ·obtain⟨o,e,_⟩:=T.obj _ _ st7 b hb
     exact(Km b hb o e).2
   cases b with
   |false=>
    simp only[Bool.false_eq_true,if_false]at q9 ⊢
    exact fin I9 q9
   |true=>
    simp only[if_true]at q9 ⊢
    refine zW (pe _ s9 σ8 H9 _ I9 q9) fun z s10 ⟨yv,H10,I10,r10,acc,Ld,KZ,nx⟩=>?_
    exact E8 (X:=X.blk s3 H3 scope ce fp) I10 Ld KZ r10 fun s11 I11=>fin I11 nx
 exact codeAny_compStart_list loop (T.self X.A 0 _ _ _ st4 loop)
theorem tp {elt tg iter:Expr}{ifs:List Expr}{scope:Scope}{own:List (Str×Nat)}{pos:Pos}{wi:TI}{g:TG}{tt:TT}{te:TE}(hc:X.calm=true) (hN:X.N.Nodup) (hi:PI X tg iter wi) (ok:xp X.N X.env.scope scope own)
  (hg:∀ (s:Shared) (H:Hp) (C:Addr) (cl:List (Str×Addr)) (fp:List Addr),PG (X.blk s H scope (compEnvC scope cl C X.env) fp) tg g) (ht:∀ (s:Shared) (H:Hp) (C:Addr) (cl:List (Str×Addr)) (fp:List Addr),PTs (X.blk s H scope (compEnvC scope cl C X.env) fp) ifs tt)
  (he:∀ (s:Shared) (H:Hp) (C:Addr) (cl:List (Str×Addr)) (fp:List Addr),PE (X.blk s H scope (compEnvC scope cl C X.env) fp) elt te) (hs:∀ x,foldedSetIterable iter X.env x=pure x:=by intro _;rfl) :
  PE X (.ListComp elt [⟨tg,iter,ifs,0⟩] scope pos) (tLc wi g tt te (own.map (·.2))):=by
 intro pins s σ H Q I h
 rw[eval_ListComp]
 refine zx hc hN I hi ok hg ht he hs h fun D C s' m H' I' q hn f=>⟨m,hn,fun h'' sb=>?_⟩
 obtain⟨f0,f1,f2,f3,f4,f5⟩:=f
 exact⟨.ref D,H',I'.turned (t':=s'.toks) (fun b o hb e=>(sb.2 b hb).trans e) f0 f1 f3 f4 f5,rfl,q⟩
theorem vU {i:Nat}{y:Str}{py:Pos}{elt tg iter:Expr}{ifs:List Expr}{scope:Scope}{own:List (Str×Nat)}{pos spos:Pos}{wi:TI}{g:TG}{tt:TT}{te:TE}(hc:X.calm=true) (hN:X.N.Nodup) (hy:X.N[i]? = some y) (hyl:X.env.scope.names.lookup y=some .local)
  (hsw:swapsWith (.ListComp elt [⟨tg,iter,ifs,0⟩] scope pos) (some (.Name y py)) spos.line X.env=pure true) (hi:PI X tg iter wi) (ok:xp X.N X.env.scope scope own)
  (hg:∀ (s:Shared) (H:Hp) (C:Addr) (cl:List (Str×Addr)) (fp:List Addr),PG (X.blk s H scope (compEnvC scope cl C X.env) fp) tg g) (ht:∀ (s:Shared) (H:Hp) (C:Addr) (cl:List (Str×Addr)) (fp:List Addr),PTs (X.blk s H scope (compEnvC scope cl C X.env) fp) ifs tt)
  (he:∀ (s:Shared) (H:Hp) (C:Addr) (cl:List (Str×Addr)) (fp:List Addr),PE (X.blk s H scope (compEnvC scope cl C X.env) fp) elt te) (hs:∀ x,foldedSetIterable iter X.env x=pure x:=by intro _;rfl) :
  PS X (.Assign [.Name y py] (.ListComp elt [⟨tg,iter,ifs,0⟩] scope pos) spos) (Eo (tLc wi g tt te (own.map (·.2))) (wO i)):=by
 intro pins s σ H D I h
 rw[exec_Assign_Name_used _ _ _ _ hsw]
 refine wpAny_bind (wpAny_standAt (wpAny_bind ?_))
 show wpAny _ X.A (do let _ ←comprehension (.ListComp elt [⟨tg,iter,ifs,0⟩] scope pos) scope X.env (firstIterPos [⟨tg,iter,ifs,0⟩] pos) (newList []) false (eval iter X.env) (some (assign (.Name y py) X.env))) _ _ s
 have h:tLc wi g tt te (own.map (·.2)) σ H (fun x H1=>wO i x σ H1 D.nx):=h
 refine wpAny_bind (thn (zx (Qf:=fun _ s'=>SP X pins D .next s') hc hN I hi ok hg ht he hs h fun L C s' m H' I' q hn f=>?_) fun _ s' hq=>wpAny_pure (wpAny_pure hq))
 show wpAny _ _ (assign (.Name y py) X.env (.ref L)) _ _ _
 refine wpAny_assign_Name (sL (v:=V.ref L) I' hN hy (.inl hyl) rfl (fun s2 I2 ⟨a,sb,ha⟩=>?_) (.inr hyl))
 obtain⟨f0,f1,f2,f3,f4,f5⟩:=f
 have haC:C≠a:=by
  rcases ha with z | z
  ·rw[z];exact f1
  ·exact fun e=>f4 y a z e.symm
 refine⟨m,hn.sameBut sb haC,fun h3 sb3=>?_⟩
 exact⟨_,H',I2.turned (t':=s2.toks) (fun b o hb e=>(sb3.2 b hb).trans e) f0 f1 f3 f4 f5,q⟩
end
theorem B1 {lo:Int}{n:Nat}{g:TG}{tt:TT}{te:TE}{vs:List Nat}{σ:St}{H1:Hp}{D:Addr}{Qd:Hp→Prop}(Pv:Nat→Hp→Prop) (h0:Pv 0 (upd H1 D (.lst [])))
  (hs:∀ i H,i < n→Pv i H→g (.int (lo+i)) (wipe σ vs) H fun σ2 H2=>wipe σ2 vs=wipe σ vs∧tt σ2 H2 fun b H3=>
   if b=true then te σ2 H3 fun y H4=>∃ acc,H4 D=some (.lst acc)∧acc.length < sizeLine∧Pv (i+1) (upd H4 D (.lst (acc ++ [y]))) else Pv (i+1) H3) (hd:∀ H,Pv n H→Qd H) :
  ∃ W:Nat→Nat→Hp→Prop,(∃ m,W 0 m (upd H1 D (.lst [])))∧∀ i m H,W i m H →
   ((Itr lo n).stop i H∧Qd H)∨((Itr lo n).go i H∧∃ Nx:Hp→Prop,(∀ H',Nx H'→∃ m',m' < m∧W (i+1) m' H')∧∀ x H',(Itr lo n).yld i H x H'→g x (wipe σ vs) H' fun σ2 H2=>wipe σ2 vs=wipe σ vs∧tt σ2 H2 fun b H3=>
    if b=true then te σ2 H3 fun y H4=>∃ acc,H4 D=some (.lst acc)∧acc.length < sizeLine∧Nx (upd H4 D (.lst (acc ++ [y]))) else Nx H3):=by
 refine⟨fun i m H=>m=n - i∧i≤n∧Pv i H,⟨n,by simp,Nat.zero_le _,h0⟩,?_⟩
 rintro i m H ⟨rfl,hi,p⟩
 by_cases hlt:i < n
 ·refine .inr ⟨hlt,Pv (i+1),fun H' p'=>⟨n - (i+1),by omega,rfl,hlt,p'⟩,fun x H' y=>?_⟩
  obtain⟨e,y⟩:=y
  subst e y
  exact hs i _ hlt p
 ·have e:i=n:=by omega
  subst e
  exact .inl ⟨Nat.le_refl _,hd H p⟩
theorem zw {K:PySem.W.Frag}{a:Addr}{xs:List V}{g:TG}{tt:TT}{te:TE}{vs:List Nat}{σ:St}{H1:Hp}{D:Addr}{Qd:Hp→Prop}(Pv:Nat→Hp→Prop) (h0:Pv 0 (upd H1 D (.lst []))) (hl:∀ i H,i≤xs.length→Pv i H→SqL K H a xs)
  (hs:∀ i x H,xs[i]? = some x→Pv i H→g x (wipe σ vs) H fun σ2 H2=>wipe σ2 vs=wipe σ vs∧tt σ2 H2 fun b H3=>
   if b=true then te σ2 H3 fun y H4=>∃ acc,H4 D=some (.lst acc)∧acc.length < sizeLine∧Pv (i+1) (upd H4 D (.lst (acc ++ [y]))) else Pv (i+1) H3) (hd:∀ H,Pv xs.length H→Qd H) :
  ∃ W:Nat→Nat→Hp→Prop,(∃ m,W 0 m (upd H1 D (.lst [])))∧∀ i m H,W i m H →
   ((Itl K a).stop i H∧Qd H)∨((Itl K a).go i H∧∃ Nx:Hp→Prop,(∀ H',Nx H'→∃ m',m' < m∧W (i+1) m' H')∧∀ x H',(Itl K a).yld i H x H'→g x (wipe σ vs) H' fun σ2 H2=>wipe σ2 vs=wipe σ vs∧tt σ2 H2 fun b H3=>
    if b=true then te σ2 H3 fun y H4=>∃ acc,H4 D=some (.lst acc)∧acc.length < sizeLine∧Nx (upd H4 D (.lst (acc ++ [y]))) else Nx H3):=by
 refine⟨fun i m H=>m=xs.length - i∧i≤xs.length∧Pv i H,⟨xs.length,by simp,Nat.zero_le _,h0⟩,?_⟩
 rintro i m H ⟨rfl,hi,p⟩
 have q:=hl i H hi p
 by_cases hlt:i < xs.length
 ·refine .inr ⟨⟨xs,xs[i],q,by simp[hlt]⟩,Pv (i+1),fun H' p'=>⟨xs.length - (i+1),by omega,rfl,hlt,p'⟩,fun x H' y=>?_⟩
  obtain⟨e,y⟩:=y
  subst e
  exact hs i x _ (y xs q) p
 ·have e:i=xs.length:=by omega
  subst e
  exact .inl ⟨⟨xs,q,Nat.le_refl _⟩,hd H p⟩
theorem EI {K:PySem.W.Frag}{a:Addr}{xs:List V}{g:TG}{tt:TT}{te:TE}{vs:List Nat}{σ:St}{H1:Hp}{D:Addr}{Qd:Hp→Prop}(Pv:Nat→Hp→Prop) (h0:Pv 0 (upd H1 D (.lst []))) (hl:∀ i H,i≤xs.length→Pv i H→SqT K H a xs)
  (hs:∀ i x H,xs[i]? = some x→Pv i H→g x (wipe σ vs) H fun σ2 H2=>wipe σ2 vs=wipe σ vs∧tt σ2 H2 fun b H3=>
   if b=true then te σ2 H3 fun y H4=>∃ acc,H4 D=some (.lst acc)∧acc.length < sizeLine∧Pv (i+1) (upd H4 D (.lst (acc ++ [y]))) else Pv (i+1) H3) (hd:∀ H,Pv xs.length H→Qd H) :
  ∃ W:Nat→Nat→Hp→Prop,(∃ m,W 0 m (upd H1 D (.lst [])))∧∀ i m H,W i m H →
   ((Itt K a).stop i H∧Qd H)∨((Itt K a).go i H∧∃ Nx:Hp→Prop,(∀ H',Nx H'→∃ m',m' < m∧W (i+1) m' H')∧∀ x H',(Itt K a).yld i H x H'→g x (wipe σ vs) H' fun σ2 H2=>wipe σ2 vs=wipe σ vs∧tt σ2 H2 fun b H3=>
    if b=true then te σ2 H3 fun y H4=>∃ acc,H4 D=some (.lst acc)∧acc.length < sizeLine∧Nx (upd H4 D (.lst (acc ++ [y]))) else Nx H3):=by
 refine⟨fun i m H=>m=xs.length - i∧i≤xs.length∧Pv i H,⟨xs.length,by simp,Nat.zero_le _,h0⟩,?_⟩
 rintro i m H ⟨rfl,hi,p⟩
 have q:=hl i H hi p
 by_cases hlt:i < xs.length
 ·refine .inr ⟨⟨xs,xs[i],q,by simp[hlt]⟩,Pv (i+1),fun H' p'=>⟨xs.length - (i+1),by omega,rfl,hlt,p'⟩,fun x H' y=>?_⟩
  obtain⟨e,y⟩:=y
  subst e
  exact hs i x _ (y xs q) p
 ·have e:i=xs.length:=by omega
  subst e
  exact .inl ⟨⟨xs,q,Nat.le_refl _⟩,hd H p⟩
def sr (N:List Str) (sc scope:Scope) (own:List (Str×Nat)):Bool:=
 (match scope.kind with | .function=>true | _=>false) && (scope.names.all fun y=>decide (scope.names.lookup y.1=some y.2)) && (own.all fun p=>decide (N[p.2]? = some p.1)) &&
  (scope.names.all fun y=>match y.2 with
   | .free=>(match sc.names.lookup y.1 with | some .cell=>true | some .free=>true | _=>false)
   | .local=>decide (y.1∈own.map (·.1)) || decide (y.1∉N)
   | .cell=>decide (y.1∈own.map (·.1)) || decide (y.1∉N)
   |_=>true)
theorem eY {N:List Str}{sc scope:Scope}{own:List (Str×Nat)}(h:sr N sc scope own=true):xp N sc scope own:=by
 unfold sr at h
 simp only[Bool.and_eq_true,List.all_eq_true,decide_eq_true_eq]at h
 obtain⟨⟨⟨h1,h2⟩,h3⟩,h4⟩:=h
 refine⟨?_,h2,h3,fun y hy e=>?_,fun y hy e=>?_⟩
 ·split at h1
  ·assumption
  ·cases h1
 ·have q:=h4 y hy
  simp only[e]at q
  split at q<;>first | exact .inl (by assumption) | exact .inr (by assumption) | cases q
 ·have q:=h4 y hy
  rcases e with e | e<;>(simp only[e,Bool.or_eq_true,decide_eq_true_eq]at q;exact q)
end L2
namespace L2
open PySem PySem.Spec PyProof.Rows
section
variable {prog:Program}{w:World}{A:Around}{R:Result→Shared→Prop}{s:Shared}{elt t0 i0 t1 i1:Expr}{Lo Ln:List Expr}{scope:Scope}{pos:Pos}{it acc:Value}{env:Env}
end
section
variable {X:Cx}
end
end L2
namespace L2
open PySem PySem.Spec PyProof.Rows
section
variable {κ:Type} [DecidableEq κ]
def cp (kvs:List (κ×V)) (k:κ):Option V:=(kvs.find? fun kv=>decide (kv.1=k)).map (·.2)
def putK (kvs:List (κ×V)) (k:κ) (v:V):List (κ×V):=
 if (kvs.any fun kv=>decide (kv.1=k))=true then kvs.map (fun kv=>if kv.1=k then (kv.1,v) else kv) else kvs ++ [(k,v)]
def qR (kvs:List (κ×V)) (k:κ):List (κ×V):=kvs.filter fun kv=>decide (kv.1≠k)
theorem cB {p:κ×V}{r:List (κ×V)}{k:κ}(e:p.1=k):cp (p :: r) k=some p.2:=by simp[cp,List.find?_cons,e]
theorem bW {p:κ×V}{r:List (κ×V)}{k:κ}(e:¬ p.1=k):cp (p :: r) k=cp r k:=by simp[cp,List.find?_cons,e]
theorem iY (k:κ):∀ kvs:List (κ×V),(kvs.any fun kv=>decide (kv.1=k))=(cp kvs k).isSome
 | []=>rfl
 |p :: r=>by
  rw[List.any_cons]
  by_cases e:p.1=k
  ·simp only[cB e,decide_eq_true e,Bool.true_or,Option.isSome_some]
  ·rw[bW e,decide_eq_false e,Bool.false_or];exact iY k r
theorem vn (k j:κ) (y:V):∀ kvs:List (κ×V),cp (kvs.map fun kv=>if kv.1=k then (kv.1,y) else kv) j=(cp kvs j).map fun x=>if j=k then y else x
 | []=>rfl
 |p :: r=>by
  have ih:=vn k j y r
  rw[List.map_cons]
  by_cases h:p.1=k
  ·rw[if_pos h]
   by_cases e:p.1=j
   ·rw[cB (p:=(p.1,y)) e,cB e,Option.map_some,if_pos (e.symm.trans h)]
   ·rw[bW (p:=(p.1,y)) e,bW e,ih]
  ·rw[if_neg h]
   by_cases e:p.1=j
   ·rw[cB (p:=p) e,cB e,Option.map_some,if_neg (fun z=>h (e.trans z))]
   ·rw[bW (p:=p) e,bW e,ih]
theorem sE (k j:κ) (y:V):∀ kvs:List (κ×V),cp kvs k=none→cp (kvs ++ [(k,y)]) j=if j=k then some y else cp kvs j
 | [],_=>by
  by_cases e:k=j
  ·rw[if_pos e.symm];exact cB (p:=(k,y)) e
  ·rw[if_neg (fun z=>e z.symm)];exact bW (p:=(k,y)) e
 |p :: r,hn=>by
  rw[List.cons_append]
  have hk:¬ p.1=k:=fun z=>by rw[cB z]at hn;cases hn
  rw[bW hk]at hn
  have ih:=sE k j y r hn
  by_cases e:p.1=j
  ·rw[cB e,cB e,if_neg (fun z=>hk (e.trans z))]
  ·rw[bW e,bW e,ih]
theorem Bc (kvs:List (κ×V)) (k j:κ) (y:V):cp (putK kvs k y) j=if j=k then some y else cp kvs j:=by
 unfold putK
 by_cases a:(kvs.any fun kv=>decide (kv.1=k))=true
 ·rw[if_pos a,vn]
  rw[iY]at a
  by_cases e:j=k
  ·obtain⟨x,hx⟩:=Option.isSome_iff_exists.mp a
   rw[if_pos e,e,hx,Option.map_some,if_pos rfl]
  ·rw[if_neg e]
   cases cp kvs j with
   |none=>rfl
   |some x=>rw[Option.map_some,if_neg e]
 ·rw[if_neg a]
  refine sE k j y kvs ?_
  rw[iY]at a
  cases q:cp kvs k with
  |none=>rfl
  |some x=>rw[q]at a;exact(a rfl).elim
theorem gg (kvs:List (κ×V)) (k:κ) (v:V):(putK kvs k v).length≤kvs.length+1:=by
 unfold putK
 split
 ·rw[List.length_map];omega
 ·rw[List.length_append,List.length_cons,List.length_nil];omega
theorem vT {kvs:List (κ×V)}{k:κ}(v:V) (h:cp kvs k=none):putK kvs k v=kvs ++ [(k,v)]:=by
 unfold putK
 rw[iY,h]
 exact if_neg (by decide)
theorem iz.gO {o:Option V}{u:Option Value}(r:iz o u):o.isSome=u.isSome:=by
 cases o with
 |none=>cases u with
  |none=>rfl
  |some _=>exact(show False from r).elim
 |some _=>cases u with
  |none=>exact(show False from r).elim
  |some _=>rfl
theorem iz.getD {o:Option V}{u:Option Value}{d:V}{d':Value}(r:iz o u) (rd:RelV d d'):RelV (o.getD d) (u.getD d'):=by
 cases o with
 |none=>cases u with
  |none=>exact rd
  |some _=>exact(show False from r).elim
 |some _=>cases u with
  |none=>exact(show False from r).elim
  |some _=>exact r
theorem KV.val {kvs:List (κ×V)}{vs:List (κ×Value)}(r:KV kvs vs) (k:κ):iz (cp kvs k) (valueAt vs k):=by
 unfold KV at r
 induction r with
 |nil=>exact True.intro
 |@cons p q ps qs h t ih=>
  obtain⟨h1,h2⟩:=h
  by_cases e:p.1=k
  ·have e':q.1=k:=h1.symm.trans e
   have b:valueAt (q :: qs) k=some q.2:=by simp[valueAt,List.find?_cons,e']
   rw[cB e,b];exact h2
  ·have e':¬ q.1=k:=fun z=>e (h1.trans z)
   have b:valueAt (q :: qs) k=valueAt qs k:=by simp[valueAt,List.find?_cons,e']
   rw[bW e,b];exact ih
theorem KV.any {kvs:List (κ×V)}{vs:List (κ×Value)}(r:KV kvs vs) (k:κ):(kvs.any fun kv=>decide (kv.1=k))=vs.any fun kv=>decide (kv.1=k):=by
 unfold KV at r
 induction r with
 |nil=>rfl
 |cons h t ih=>rw[List.any_cons,List.any_cons,ih,h.1]
theorem KV.Et {kvs:List (κ×V)}{vs:List (κ×Value)}(r:KV kvs vs) (k:κ) {y:V}{u:Value}(ry:RelV y u) :
  KV (kvs.map fun kv=>if kv.1=k then (kv.1,y) else kv) (vs.map fun kv=>if kv.1=k then (kv.1,u) else kv):=by
 unfold KV at r ⊢
 induction r with
 |nil=>exact .nil
 |@cons p q ps qs h t ih=>
  rw[List.map_cons,List.map_cons]
  refine .cons ?_ ih
  obtain⟨h1,h2⟩:=h
  by_cases e:p.1=k
  ·rw[if_pos e,if_pos (h1.symm.trans e)];exact⟨h1,ry⟩
  ·rw[if_neg e,if_neg (fun z=>e (h1.trans z))];exact⟨h1,h2⟩
theorem KV.put {kvs:List (κ×V)}{vs:List (κ×Value)}(r:KV kvs vs) (k:κ) {y:V}{u:Value}(ry:RelV y u):KV (putK kvs k y) (stored vs k u):=by
 unfold putK stored
 rw[r.any k]
 by_cases e:(vs.any fun kv=>decide (kv.1=k))=true
 ·rw[if_pos e,if_pos e];exact r.Et k ry
 ·rw[if_neg e,if_neg e];exact Paired.snoc r ⟨rfl,ry⟩
theorem KV.drop {kvs:List (κ×V)}{vs:List (κ×Value)}(r:KV kvs vs) (k:κ):KV (qR kvs k) (without vs k):=by
 unfold KV at r ⊢
 unfold qR without
 induction r with
 |nil=>exact .nil
 |@cons p q ps qs h t ih=>
  obtain⟨h1,h2⟩:=h
  rw[List.filter_cons,List.filter_cons]
  by_cases e:p.1=k
  ·have a:¬ decide (p.1≠k)=true:=by simp[e]
   have b:¬ decide (q.1≠k)=true:=by simp[h1.symm.trans e]
   rw[if_neg a,if_neg b];exact ih
  ·have e':¬ q.1=k:=fun z=>e (h1.trans z)
   have a:decide (p.1≠k)=true:=by simp[e]
   have b:decide (q.1≠k)=true:=by simp[e']
   rw[if_pos a,if_pos b];exact .cons ⟨h1,h2⟩ ih
theorem KV.keys {kvs:List (κ×V)}{vs:List (κ×Value)}(r:KV kvs vs):kvs.map (·.1)=vs.map (·.1):=by
 unfold KV at r
 induction r with
 |nil=>rfl
 |cons h t ih=>rw[List.map_cons,List.map_cons,ih,h.1]
theorem KV.length {kvs:List (κ×V)}{vs:List (κ×Value)}(r:KV kvs vs):kvs.length=vs.length:=Paired.length r
theorem Cq (kvs:List (κ×V)) (k:κ):(qR kvs k).length≤kvs.length:=List.length_filter_le _ _
end
theorem qC {P:Program}{w:World}{k:Key}{u:Value}(r:RelV (kV k) u):(aY P w).is k u=true:=by
 cases k with
 |inl i=>obtain⟨t,e⟩:=(show ∃ t,u=Value.int i t from r);subst e;exact wo P w i t
 |inr x=>obtain⟨t,e⟩:=(show ∃ t,u=Value.str x t from r);subst e;exact wm P w x t
theorem tM {P:Program}{w:World}:∀ {ks:List Key}{us:List Value},Vals (ks.map kV) us→ItemsAre (aY P w) ks us
 | [],_,r=>by rw[List.map_nil]at r;cases r;exact .nil
 |k :: ks,_,r=>by
  rw[List.map_cons]at r
  cases r with
  |cons h t=>exact .cons (qC h) (tM t)
abbrev KT (H:Hp):List (List Key×V)→List (List Key×Addr×Value)→Prop:=Paired fun p q=>p.1=q.1∧H q.2.1=some (.tup (p.1.map kV))∧RelV p.2 q.2.2
theorem KT.val {H:Hp}{kvs:List (List Key×V)}{xs:List (List Key×Addr×Value)}(r:KT H kvs xs) (k:List Key):iz (cp kvs k) ((atKey xs k).map (·.2)):=by
 induction r with
 |nil=>exact True.intro
 |@cons p q ps qs h t ih=>
  obtain⟨h1,_,h2⟩:=h
  by_cases e:p.1=k
  ·have e':q.1=k:=h1.symm.trans e
   have b:atKey (q :: qs) k=some q.2:=by simp[atKey,List.find?_cons,e']
   rw[cB e,b];exact h2
  ·have e':¬ q.1=k:=fun z=>e (h1.trans z)
   have b:atKey (q :: qs) k=atKey qs k:=by simp[atKey,List.find?_cons,e']
   rw[bW e,b];exact ih
theorem KT.Et {H:Hp}{kvs:List (List Key×V)}{xs:List (List Key×Addr×Value)}(r:KT H kvs xs) (k:List Key) {y:V}{u:Value}(ry:RelV y u) :
  KT H (kvs.map fun kv=>if kv.1=k then (kv.1,y) else kv) (xs.map (putAt k u)):=by
 induction r with
 |nil=>exact .nil
 |@cons p q ps qs h t ih=>
  rw[List.map_cons,List.map_cons]
  refine .cons ?_ ih
  obtain⟨h1,h2,h3⟩:=h
  unfold putAt
  by_cases e:p.1=k
  ·rw[if_pos e,if_pos (h1.symm.trans e)];exact⟨h1,h2,ry⟩
  ·rw[if_neg e,if_neg (fun z=>e (h1.trans z))];exact⟨h1,h2,h3⟩
theorem KT.put {H:Hp}{kvs:List (List Key×V)}{xs:List (List Key×Addr×Value)}(r:KT H kvs xs) (k:List Key) {b:Addr}{y:V}{u:Value}(hb:H b=some (.tup (k.map kV))) (ry:RelV y u) :
  KT H (putK kvs k y) (storedH xs k b u):=by
 have e:(kvs.any fun kv=>decide (kv.1=k))=(atKey xs k).isSome:=by
  rw[iY,(r.val k).gO,Option.isSome_map]
 unfold putK storedH
 rw[e]
 by_cases q:(atKey xs k).isSome=true
 ·rw[if_pos q,if_pos q];exact r.Et k ry
 ·rw[if_neg q,if_neg q];exact Paired.snoc r ⟨rfl,hb,ry⟩
theorem KT.keeps {H H':Hp}{kvs:List (List Key×V)}{xs:List (List Key×Addr×Value)}(r:KT H kvs xs) (ht:∀ b ys,H b=some (.tup ys)→H' b=some (.tup ys)):KT H' kvs xs:=
 Paired.EF r fun _ _ z=>⟨z.1,ht _ _ z.2.1,z.2.2⟩
section
variable {P:Program}{w:World}{H:Hp}{h:Heap}{a:Addr}
theorem D9 {u:HO}(ok:HOk P w H h) (e:Rd H a u):bS P w H h a u:=e.ok ok
theorem qS {kvs:List (Key×V)}(ok:HOk P w H h) (e:Rd H a (.dK kvs)):kvs.length≤sizeLine∧(a == sysModules)=false∧∃ vs,KV kvs vs∧h.DictOf (aY P w) a vs:=
 show bS P w H h a (.dK kvs) from D9 ok e
theorem Cs {kvs:List (Key×V)}(ok:HOk P w H h) (e:H a=some (.dK kvs)):kvs.length≤sizeLine∧(a == sysModules)=false∧∃ vs,KV kvs vs∧h.DictOf (aY P w) a vs:=qS ok (.inl e)
theorem qB {ks:List Key}(ok:HOk P w H h) (e:H a=some (.tup (ks.map kV))):(tupleKind (aY P w)).is h ks a:=by
 obtain⟨_,its,r,o,h1,h2,n,h3⟩:=(show bS P w H h a (.tup (ks.map kV)) from ok a _ e)
 exact⟨o,its.toArray,n,h1,h2,h3,by simpa using tM r⟩
theorem tS {kvs:List (List Key×V)}(ok:HOk P w H h) (e:Rd H a (.dT kvs)):kvs.length≤sizeLine∧(a == sysModules)=false ∧
  ∃ xs,KT H kvs xs∧h.DictOfH (tupleKind (aY P w)) a xs:=by
 obtain⟨z,y,xs,r,o,es,ep,h1,h2,h3,h4,h5⟩:=(show bS P w H h a (.dT kvs) from D9 ok e)
 refine⟨z,y,xs,r,o,es,ep,h1,h2,h3,h4,fun x hx=>?_,h5⟩
 have all:∀ {l:List (List Key×V)}{m:List (List Key×Addr×Value)},KT H l m→∀ x∈m,(tupleKind (aY P w)).is h x.1 x.2.1:=by
  intro l m q
  induction q with
  |nil=>intro x hx;exact nomatch hx
  |@cons p q ps qs hq t ih=>
   intro x hx
   rcases List.mem_cons.mp hx with e | hx
   ·subst e
    exact qB ok (by rw[←hq.1];exact hq.2.1)
   ·exact ih x hx
 exact all r x hx
theorem FK {kvs:List (List Key×V)}(ok:HOk P w H h) (e:H a=some (.dT kvs)):kvs.length≤sizeLine∧(a == sysModules)=false ∧
  ∃ xs,KT H kvs xs∧h.DictOfH (tupleKind (aY P w)) a xs:=tS ok (.inl e)
end
def fT (H:Hp) (a:Addr) (y:V) (r:Option V):Prop:=
 (∃ kvs k,Rd H a (.dK kvs)∧y=kV k∧r=cp kvs k)∨∃ kvs k b,Rd H a (.dT kvs)∧y = .ref b∧H b=some (.tup (k.map kV))∧r=cp kvs k
def gx (H:Hp) (a:Addr) (y v:V) (H':Hp):Prop:=
 (∃ kvs k,H a=some (.dK kvs)∧y=kV k∧kvs.length < sizeLine∧H'=upd H a (.dK (putK kvs k v))) ∨
 ∃ kvs k b,H a=some (.dT kvs)∧y = .ref b∧H b=some (.tup (k.map kV))∧kvs.length < sizeLine∧H'=upd H a (.dT (putK kvs k v))
theorem fT.k {H:Hp}{a:Addr}{kvs:List (Key×V)}{k:Key}(e:H a=some (.dK kvs)):fT H a (kV k) (cp kvs k):=.inl ⟨kvs,k,.inl e,rfl,rfl⟩
theorem gx.k {H:Hp}{a:Addr}{kvs:List (Key×V)}{k:Key}{v:V}(e:H a=some (.dK kvs)) (hl:kvs.length < sizeLine):gx H a (kV k) v (upd H a (.dK (putK kvs k v))):=.inl ⟨kvs,k,e,rfl,hl,rfl⟩
section
variable {X:Cx}{pins:List (Addr×Obj)}{σ:St}{H:Hp}{s:Shared}{a:Addr}{y v:V}{u r:Value}{o:Option V}{A:Around}{E:Value→Shared→Prop}
theorem Inv.big (I:Inv X pins σ H s):sysModules < s.heap.objs.size:=by
 have h:mainGlobals < s.heap.objs.size:=(I.mod.glob.keeps I.bk).lt
 exact Nat.lt_trans (by decide) h
theorem AW {Q:Value→Shared→Prop}(hu:A.units+1 < cLine) (I:Inv X pins σ H s) (g:fT H a y (some v)) (ry:RelV y u) (h:∀ w' s',Inv X pins σ H s'→RelV v w'→Q w' s') :
  wpAny (model X.prog X.w) A (getItem (.ref a) u) Q E s:=by
 rcases g with ⟨kvs,k,e,ey,l⟩ | ⟨kvs,k,b,e,ey,eb,l⟩
 ·subst ey
  obtain⟨z,hd,vs,rel,dd⟩:=qS I.hok e
  obtain⟨w',hw,rw'⟩:=iz.some_of (v:=v) (o:=valueAt vs k) (by rw[l];exact rel.val k)
  exact wpAny_getItem_of (qC ry) dd.mapOf hw (h w' _ (I.tok _) rw')
 ·subst ey
  cases (show u=Value.ref b from ry)
  obtain⟨z,hd,xs,rel,dd⟩:=tS I.hok e
  obtain⟨w',hw,rw'⟩:=iz.some_of (v:=v) (o:=(atKey xs k).map (·.2)) (by rw[l];exact rel.val k)
  obtain⟨p,hp,hp2⟩:=Option.map_eq_some_iff.mp hw
  refine wpAny_getItem_heap (tupleKind_room_in1 hu) (qB I.hok eb) dd hp ?_
  rw[hp2]
  exact h w' _ (I.tok _) rw'
theorem Gf {Q:Value→Shared→Prop}(hu:A.units+1 < cLine) (I:Inv X pins σ H s) (g:fT H a y o) (ry:RelV y u) (h:∀ s',Inv X pins σ H s'→Q (.bool o.isSome) s') :
  wpAny (model X.prog X.w) A (compareOp .In u (.ref a)) Q E s:=by
 rcases g with ⟨kvs,k,e,ey,l⟩ | ⟨kvs,k,b,e,ey,eb,l⟩
 ·subst ey
  obtain⟨z,hd,vs,rel,dd⟩:=qS I.hok e
  refine wpAny_in_of (qC ry) hd dd.mapOf ?_
  rw[←(rel.val k).gO,←l]
  exact h _ (I.tok _)
 ·subst ey
  cases (show u=Value.ref b from ry)
  obtain⟨z,hd,xs,rel,dd⟩:=tS I.hok e
  refine wpAny_in_heap (tupleKind_room_in1 hu) (qB I.hok eb) hd dd ?_
  have q:=(rel.val k).gO
  rw[Option.isSome_map]at q
  rw[←q,←l]
  exact h _ (I.tok _)
theorem DO {Q:Value→Shared→Prop}(hu:A.units+1 < cLine) (I:Inv X pins σ H s) (g:fT H a y o) (ry:RelV y u) (h:∀ s',Inv X pins σ H s'→Q (.bool (!o.isSome)) s') :
  wpAny (model X.prog X.w) A (compareOp .NotIn u (.ref a)) Q E s:=by
 rcases g with ⟨kvs,k,e,ey,l⟩ | ⟨kvs,k,b,e,ey,eb,l⟩
 ·subst ey
  obtain⟨z,hd,vs,rel,dd⟩:=qS I.hok e
  refine wpAny_notIn_of (qC ry) hd dd.mapOf ?_
  rw[←(rel.val k).gO,←l]
  exact h _ (I.tok _)
 ·subst ey
  cases (show u=Value.ref b from ry)
  obtain⟨z,hd,xs,rel,dd⟩:=tS I.hok e
  refine wpAny_notIn_heap (tupleKind_room_in1 hu) (qB I.hok eb) hd dd ?_
  have q:=(rel.val k).gO
  rw[Option.isSome_map]at q
  rw[←q,←l]
  exact h _ (I.tok _)
theorem pj {h':Heap}{t':Nat}{ob:HO}(I:Inv X pins σ H s) (mu:Mut (H a)) (hs:Heap.SameBut a s.heap h') (he:∃ q,h'.get? a=some q) (new:bS X.prog X.w (upd H a ob) h' a ob) :
  Inv X pins σ (upd H a ob) { s with heap:=h',toks:=t' }:=
 I.write (x:=a) (e:=a) mu (.inl rfl) (fun b q hb z=>(hs.2 b hb).trans z) he new
theorem yD {P:Program}{w:World}{H':Hp}{h':Heap}{kvs:List (Key×V)}{vs:List (Key×Value)}(z:kvs.length≤sizeLine) (hd:(a == sysModules)=false) (rel:KV kvs vs) (dd:h'.DictOf (aY P w) a vs) :
  bS P w H' h' a (.dK kvs):=⟨z,hd,vs,rel,dd⟩
theorem AO {H':Hp}{Q:Unit→Shared→Prop}(hu:A.units+1 < cLine) (I:Inv X pins σ H s) (g:gx H a y v H') (ry:RelV y u) (rv:RelV v r) (h:∀ s',Inv X pins σ H' s'→Q () s') :
  wpAny (model X.prog X.w) A (setItem (.ref a) u r) Q E s:=by
 rcases g with ⟨kvs,k,e,ey,l,eH⟩ | ⟨kvs,k,b,e,ey,eb,l,eH⟩
 ·subst ey eH
  obtain⟨z,hd,vs,rel,dd⟩:=Cs I.hok e
  have hz:vs.length≤sizeLine:=by rw[←rel.length];exact z
  have hl:(putK kvs k v).length≤sizeLine:=by have:=gg kvs k v;omega
  refine wpAny_setItem_pairs (hsz:=hz) (qC ry) dd fun h' dd' hs=>h _ ?_
  have he:∃ q,h'.get? a=some q:=let ⟨q,_,_,hq,_⟩:=dd';⟨q,hq⟩
  exact pj I (by rw[e];exact True.intro) hs he (yD hl hd (rel.put k rv) dd')
 ·subst ey eH
  cases (show u=Value.ref b from ry)
  obtain⟨z,hd,xs,rel,dd⟩:=FK I.hok e
  have hz:xs.length≤sizeLine:=by rw[←Paired.length rel];exact z
  have hl:(putK kvs k v).length≤sizeLine:=by have:=gg kvs k v;omega
  refine wpAny_setItem_heap (hsz:=hz) (tupleKind_room_in1 hu) (qB I.hok eb) dd fun h' dd' hs=>h _ ?_
  obtain⟨q,es,ep,hq,h2,h3,h4,_,h5⟩:=dd'
  refine pj I (by rw[e];exact True.intro) hs ⟨q,hq⟩ ⟨hl,hd,_,(rel.put k eb rv).keeps fun c ys ec=>?_,q,es,ep,hq,h2,h3,h4,h5⟩
  rw[ak (bJ ec e (fun z=>nomatch z))]
  exact ec
end
section
variable {X:Cx}{pins:List (Addr×Obj)}{σ:St}{H:Hp}{s:Shared}{a:Addr}{kvs:List (Key×V)}{k:Key}{u:Value}{A:Around}{E:Value→Shared→Prop}
theorem FN {v:V}{more:List Value}{Q:Value→Shared→Prop}(I:Inv X pins σ H s) (e:H a=some (.dK kvs)) (ry:RelV (kV k) u) (l:cp kvs k=some v) (hm:more=[]∨∃ x,more=[x])
  (h:∀ w' s',Inv X pins σ (upd H a (.dK (qR kvs k))) s'→RelV v w'→Q w' s'):wpAny (model X.prog X.w) A (call (.builtin "dict.pop") (.ref a :: u :: more)) Q E s:=by
 obtain⟨z,hd,vs,rel,dd⟩:=Cs I.hok e
 obtain⟨w',hw,rw'⟩:=iz.some_of (v:=v) (o:=valueAt vs k) (by rw[←l];exact rel.val k)
 have hp:(keyPart u).isSome=true:=by
  cases k with
  |inl i=>obtain⟨t,q⟩:=(show ∃ t,u=Value.int i t from ry);subst q;rfl
  |inr x=>obtain⟨t,q⟩:=(show ∃ t,u=Value.str x t from ry);subst q;rfl
 have ha:argsOk "dict.pop" ⟨.ref a :: u :: more,[]⟩:=by
  rcases hm with q | ⟨x,q⟩
  ·subst q;exact PySem.F.args_dict_pop_2 _ _
  ·subst q;exact PySem.F.args_dict_pop_3 _ _ _
 refine call_meetsIn PySem.F.slot_dict_pop dd.typeIs PySem.F.entry_dict_pop ha (meets_dict_pop_there (aY X.prog X.w) a (qC ry) more hm hp)
  ⟨vs,w',dd,by rw[←rel.length];exact z,hw,fun h' dd' hs=>h w' _ ?_ rw'⟩
 have he:∃ q,h'.get? a=some q:=let ⟨q,_,_,hq,_⟩:=dd';⟨q,hq⟩
 exact pj I (by rw[e];exact True.intro) hs he (yD (Nat.le_trans (Cq kvs k) z) hd (rel.drop k) dd')
theorem FO {Q:Value→Shared→Prop}(I:Inv X pins σ H s) (e:Rd H a (.dK kvs)) (h:∀ t s',Inv X pins σ H s'→Q (.int kvs.length t) s'):wpAny (model X.prog X.w) A (call (.builtin "len") [.ref a]) Q E s:=by
 obtain⟨z,hd,vs,rel,dd⟩:=qS I.hok e
 refine call_len_dict hd dd (by rw[←rel.length];rw[sizeLine_eq]at z;omega) ?_
 rw[←rel.length]
 exact h _ _ (I.tok _)
end
def FR (i:Expr):Prop:=∀ ov iv,subscripted i false ov iv=operate [ov,iv] (getItem ov iv)
theorem C7 {prog:Program}{w:World}{A:Around}{E:Value→Shared→Prop}{s:Shared}{env:Env}{value slice:Expr}{pos:Pos}{T id:String}{Q:Value→Shared→Prop}
  (hl:typeLookup (.type T) "__getitem__"=pure (some (.builtin id))) (hs:FR slice)
  (h:wpAny (model prog w) A (eval value env) (fun o s₁=>wpAny (model prog w) A (eval slice env) (fun i s₂=>s₂.TypeIs o T∧wpAny (model prog w) A (getItem o i) Q E s₂) E s₁) E s) :
  wpAny (model prog w) A (eval (.Subscript value slice pos) env) Q E s:=by
 refine Subscript_ (wpAny_mono h (fun o s₁ h₁=>wpAny_mono h₁ (fun i s₂ h₂=>?_) fun _ _ x=>x) fun _ _ x=>x)
 obtain⟨hT,h₂⟩:=h₂
 unfold subscriptTail
 refine wpAny_bind ?_
 rw[getitemInPython_of_ne hT.not_modules]
 refine wpAny_bind (wpAny_specialOf hT hl ?_)
 have fin:wpAny (model prog w) A (subscripted slice false o i) (fun r s₃=>wpAny (model prog w) A (letTemporaryGo value o r >>= fun _=>pure r) Q E s₃) E s₂:=by
  rw[hs o i]
  exact wpAny_operating (wpAny_mono h₂ (fun r s₃ h₃=>wpAny_bind (wpAny_letTemporaryGo (wpAny_pure h₃))) fun _ _ x=>x)
 first
  |exact wpAny_pure (wpAny_bind fin)
  |exact wpAny_bind (wpAny_pure (wpAny_bind fin))
  |exact wpAny_bind fin
theorem wX {X:Cx}{pins:List (Addr×Obj)}{σ:St}{H:Hp}{s:Shared}{a:Addr}{y:V}{o:Option V}(I:Inv X pins σ H s) (g:fT H a y o):s.TypeIs (.ref a) "dict":=by
 rcases g with ⟨kvs,k,e,_,_⟩ | ⟨kvs,k,b,e,_,_,_⟩
 ·obtain⟨_,_,vs,_,dd⟩:=qS I.hok e
  exact dd.typeIs
 ·obtain⟨_,_,xs,_,dd⟩:=tS I.hok e
  exact dd.typeIs
def dJ (td ty:TE):TE:=fun σ H Q=>td σ H fun x H1=>ty σ H1 fun y H2=>∃ a v,x = .ref a∧fT H2 a y (some v)∧Q v H2
def uk (ty td:TE):TE:=fun σ H Q=>ty σ H fun y H1=>td σ H1 fun x H2=>∃ a o,x = .ref a∧fT H2 a y o∧Q (.bl o.isSome) H2
def bP (ty td:TE):TE:=fun σ H Q=>ty σ H fun y H1=>td σ H1 fun x H2=>∃ a o,x = .ref a∧fT H2 a y o∧Q (.bl (!o.isSome)) H2
def dP (td ty tv:TE):TS:=fun D σ H=>tv σ H fun v H1=>td σ H1 fun x H2=>ty σ H2 fun y H3=>∃ a H4,x = .ref a∧gx H3 a y v H4∧D.nx σ H4
section
variable {X:Cx}{o i e value:Expr}{pos pos' tpos:Pos}{td ty tv:TE}
theorem a9 (hu:X.A.units+1 < cLine) (ho:PE X o td) (hi:PE X i ty) (hs:FR i):PE X (.Subscript o i pos) (dJ td ty):=by
 intro pins s σ H Q I h
 refine C7 PySem.F.slot_dict_getitem.lookup hs (thn (ho pins s σ H _ I h) fun u s1 ⟨x,H1,I1,rx,q1⟩=>thn (hi pins s1 σ H1 _ I1 q1) fun iv s2 ⟨y,H2,I2,ry,a,v,ex,g,q2⟩=>?_)
 subst ex
 obtain rfl:u=Value.ref a:=rx
 exact⟨wX I2 g,AW hu I2 g ry fun w' s3 I3 rw'=>⟨v,H2,I3,rw',q2⟩⟩
theorem xQ (hu:X.A.units+1 < cLine) (hi:PE X i ty) (ho:PE X o td):PC X .In i o (uk ty td):=by
 intro pins s σ H Q I h
 refine thn (hi pins s σ H _ I h) fun iv s1 ⟨y,H1,I1,ry,q1⟩=>thn (ho pins s1 σ H1 _ I1 q1) fun u s2 ⟨x,H2,I2,rx,a,ov,ex,g,q2⟩=>?_
 subst ex
 obtain rfl:u=Value.ref a:=rx
 exact Gf hu I2 g ry fun s3 I3=>⟨.bl ov.isSome,H2,I3,rfl,q2⟩
theorem bu (hu:X.A.units+1 < cLine) (hi:PE X i ty) (ho:PE X o td):PC X .NotIn i o (bP ty td):=by
 intro pins s σ H Q I h
 refine thn (hi pins s σ H _ I h) fun iv s1 ⟨y,H1,I1,ry,q1⟩=>thn (ho pins s1 σ H1 _ I1 q1) fun u s2 ⟨x,H2,I2,rx,a,ov,ex,g,q2⟩=>?_
 subst ex
 obtain rfl:u=Value.ref a:=rx
 exact DO hu I2 g ry fun s3 I3=>⟨.bl (!ov.isSome),H2,I3,rfl,q2⟩
theorem b9 (hu:X.A.units+1 < cLine) (ho:PE X o td) (hi:PE X i ty) (hv:PE X value tv) (hs:swapsWith value (some (.Subscript o i pos')) pos.line X.env=pure false) :
  PS X (.Assign [.Subscript o i pos'] value pos) (dP td ty tv):=by
 intro pins s σ H D I h
 refine wpAny_Assign_Subscript (thn (hv pins s σ H _ I h) fun r s1 ⟨v,H1,I1,rv,q1⟩=>thn (ho pins s1 σ H1 _ I1 q1) fun u s2 ⟨x,H2,I2,rx,q2⟩=>thn (hi pins s2 σ H2 _ I2 q2) fun iv s3 ⟨y,H3,I3,ry,a,H4,ex,g,q3⟩=>?_) hs
 subst ex
 obtain rfl:u=Value.ref a:=rx
 exact AO hu I3 g ry rv fun s4 I4=>⟨σ,H4,I4,q3⟩
end
theorem wV {P:Program}{w:World}{H:Hp}(h:Heap) (hb:sysModules < h.objs.size):bS P w H (h.push { cls:=.type "dict",data:=.dict #[] }) h.objs.size (.dK []):=
 ⟨Nat.zero_le _,beq_eq_false_iff_ne.mpr (Ne.symm (Nat.ne_of_lt hb)),[],.nil,Heap.DictOf.new h⟩
def g6:TE:=fun _ H Q=>∀ p,H p=none→Q (.ref p) (upd H p (.dK []))
section
variable {X:Cx}{pos:Pos}
theorem dS:PE X (.Dict [] [] pos) g6:=fun pins s σ H Q I h=>
 wpAny_Dict_empty ⟨.ref s.heap.objs.size,_,I.laid (a:=s.heap.objs.size) (o:=.dK []) (t':=s.toks) (fun _ _ q=>Heap.get?_push_of_some _ q) (Nat.le_refl _) (wV s.heap I.big),rfl,h _ (I.hok.fresh (Nat.le_refl _))⟩
end
def ug:List (TE×TE)→St→Hp→(List (V×V)→Hp→Prop)→Prop
 | [],_,H,Q=>Q [] H
 |(tk,tv) :: r,σ,H,Q=>tk σ H fun x H1=>tv σ H1 fun y H2=>ug r σ H2 fun ps H3=>Q ((x,y) :: ps) H3
abbrev VV:List (V×V)→List (Value×Value)→Prop:=Paired fun p q=>RelV p.1 q.1∧RelV p.2 q.2
def PPs (X:Cx) (pos:Pos) (keys:List (Option Expr)) (values:List Expr) (trs:List (TE×TE)):Prop:=
 ∀ (pins:List (Addr×Obj)) (s:Shared) (σ:St) (H:Hp) (Q:List (V×V)→Hp→Prop),Inv X pins σ H s→ug trs σ H Q →
  wpAny (model X.prog X.w) X.A (evalPairs (pairTrees keys values X.env pos)) (fun vs s'=>∃ ps H',Inv X pins σ H' s'∧VV ps vs∧Q ps H') X.xe s
theorem Dg {X:Cx}{pos:Pos}:PPs X pos [] [] []:=fun pins s σ H Q I h=>pairTrees_nil_walk ⟨[],H,I,.nil,h⟩
theorem Bx {X:Cx}{pos:Pos}{k v:Expr}{ks:List (Option Expr)}{vs:List Expr}{tk tv:TE}{trs:List (TE×TE)}(hk:PE X k tk) (hv:PE X v tv) (hr:PPs X pos ks vs trs) :
  PPs X pos (some k :: ks) (v :: vs) ((tk,tv) :: trs):=fun pins s σ H Q I h=>
 pairTrees_cons_walk (thn (hk pins s σ H _ I h) fun u s1 ⟨x,H1,I1,rx,q1⟩=>thn (hv pins s1 σ H1 _ I1 q1) fun w2 s2 ⟨y,H2,I2,ry,q2⟩=>
  thn (hr pins s2 σ H2 _ I2 q2) fun ws s3 ⟨ps,H3,I3,rel,q3⟩=>⟨(x,y) :: ps,H3,I3,.cons ⟨rx,ry⟩ rel,q3⟩)
def qr (kvs more:List (Key×V)):List (Key×V):=more.foldl (fun acc kv=>putK acc kv.1 kv.2) kvs
theorem KV.merge:∀ {more:List (Key×V)}{rs:List (Key×Value)}{kvs:List (Key×V)}{vs:List (Key×Value)},KV more rs→KV kvs vs→KV (qr kvs more) (merged vs rs):=by
 intro more rs kvs vs r
 unfold KV at r
 induction r generalizing kvs vs with
 |nil=>intro q;exact q
 |@cons p q ps qs h t ih=>
  intro r0
  have e:KV (putK kvs p.1 p.2) (stored vs q.1 q.2):=by
   have:=r0.put p.1 h.2
   rw[←h.1];exact this
  exact ih e
theorem kL:∀ (more kvs:List (Key×V)),(qr kvs more).length≤kvs.length+more.length
 | [],kvs=>by show kvs.length≤kvs.length+0;omega
 |p :: r,kvs=>by
  have h1:=kL r (putK kvs p.1 p.2)
  have h2:=gg kvs p.1 p.2
  show (qr (putK kvs p.1 p.2) r).length≤_
  rw[List.length_cons];omega
theorem rj {P:Program}{w:World}:∀ {kvs:List (Key×V)}{ws:List (Value×Value)},VV (kvs.map fun kv=>(kV kv.1,kv.2)) ws→∃ rs,Carries (aY P w) ws rs∧KV kvs rs
 | [],_,r=>by rw[List.map_nil]at r;cases r;exact⟨[],True.intro,.nil⟩
 |p :: kvs,_,r=>by
  rw[List.map_cons]at r
  cases r with
  |@cons a b as bs h t=>
   obtain⟨rs,c,q⟩:=rj (P:=P) (w:=w) t
   obtain⟨b1,b2⟩:=b
   exact⟨(p.1,b2) :: rs,⟨qC h.1,rfl,c⟩,.cons ⟨rfl,h.2⟩ q⟩
def D6 (trs:List (TE×TE)):TE:=fun σ H Q=>∀ p,H p=none→ug trs σ (upd H p (.dK [])) fun ps H2=>H2 p=some (.dK [])∧∃ kvs:List (Key×V),ps=kvs.map (fun kv=>(kV kv.1,kv.2))∧kvs.length≤15∧Q (.ref p) (upd H2 p (.dK (qr [] kvs)))
theorem Dk {X:Cx}{pos:Pos}{keys:List (Option Expr)}{values:List Expr}{trs:List (TE×TE)}(h:PPs X pos keys values trs) (hall:keys.all (·.isSome)=true) (hl:keys.length=values.length) (h0:keys≠[])
  (h15:keys.length≤15):PE X (.Dict keys values pos) (D6 trs):=by
 intro pins s σ H Q I q
 have hn:=I.hok.fresh (Nat.le_refl s.heap.objs.size)
 have I1:=I.laid (a:=s.heap.objs.size) (o:=.dK []) (h':=s.heap.push { cls:=.type "dict",data:=.dict #[] }) (t':=s.toks) (fun _ _ q=>Heap.get?_push_of_some _ q) (Nat.le_refl _) (wV s.heap I.big)
 refine wpAny_Dict_walk (knd:=aY X.prog X.w) hall hl h0 h15 (thn (h pins _ σ _ _ I1 (q _ hn)) fun ws s2 ⟨ps,H2,I2,rel,e,kvs,ep,lk,q2⟩=>?_)
 subst ep
 obtain⟨rs,c,rk⟩:=rj (P:=X.prog) (w:=X.w) rel
 obtain⟨z,hd,vs0,r0,dd⟩:=Cs I2.hok e
 cases r0
 refine⟨rs,c,dd,fun h' dd' hs=>⟨.ref s.heap.objs.size,_,?_,rfl,q2⟩⟩
 have hz:(qr [] kvs).length≤sizeLine:=by
  have h1:=kL kvs []
  rw[List.length_nil]at h1
  rw[sizeLine_eq];omega
 have he:∃ q,h'.get? s.heap.objs.size=some q:=let ⟨q,_,_,hq,_⟩:=dd';⟨q,hq⟩
 exact pj I2 (by rw[e];exact True.intro) hs he (yD hz hd (rk.merge .nil) dd')
structure M1 (X:Cx) (o:Expr) (m:Str) (apos:Pos) (e:Expr) (cpos:Pos):Prop where
 base:attributeBase o m X.env (eval o X.env)=eval o X.env
 few:((backTo cpos (starEach [e] X.env)).all (fun x=>!x.1) && (backToKw cpos (keywordEach [] X.env)).all (fun x=>x.1.isSome)
  && decide (([e]:List Expr).length+([]:List Keyword).length+(if ([]:List Keyword).isEmpty then 0 else 1) < 30))=true
 line:(apos.endLine == cpos.line)=true
 trees:backTo cpos (starEach [e] X.env)=[(false,eval e X.env)]
structure M2 (X:Cx) (o:Expr) (m:Str) (apos:Pos) (e f:Expr) (cpos:Pos):Prop where
 base:attributeBase o m X.env (eval o X.env)=eval o X.env
 few:((backTo cpos (starEach [e,f] X.env)).all (fun x=>!x.1) && (backToKw cpos (keywordEach [] X.env)).all (fun x=>x.1.isSome)
  && decide (([e,f]:List Expr).length+([]:List Keyword).length+(if ([]:List Keyword).isEmpty then 0 else 1) < 30))=true
 line:(apos.endLine == cpos.line)=true
 trees:backTo cpos (starEach [e,f] X.env)=[(false,eval e X.env),(false,eval f X.env)]
def IsD (H:Hp) (a:Addr):Prop:=(∃ kvs,Rd H a (.dK kvs))∨∃ kvs,Rd H a (.dT kvs)
theorem ES {X:Cx}{pins:List (Addr×Obj)}{σ:St}{H:Hp}{s:Shared}{a:Addr}(I:Inv X pins σ H s) (d:IsD H a) :
  s.TypeIs (.ref a) "dict"∧(∀ b,Value.ref a = .ref b→∃ ob,s.heap.get? b=some ob∧ob.dict=none)∧(a == sysModules)=false:=by
 rcases d with ⟨kvs,e⟩ | ⟨kvs,e⟩
 ·obtain⟨_,hd,vs,_,dd⟩:=qS I.hok e
  refine⟨dd.typeIs,fun b q=>?_,hd⟩
  cases q
  obtain⟨ob,_,_,h1,h2,_⟩:=dd
  exact⟨ob,h1,h2.2.1⟩
 ·obtain⟨_,hd,xs,_,dd⟩:=tS I.hok e
  refine⟨dd.typeIs,fun b q=>?_,hd⟩
  cases q
  obtain⟨ob,_,_,h1,h2,_⟩:=dd
  exact⟨ob,h1,h2.2.1⟩
section
variable {X:Cx}{pins:List (Addr×Obj)}{σ:St}{H:Hp}{s:Shared}{a:Addr}{y d:V}{u r:Value}{o:Option V}{A:Around}{E:Value→Shared→Prop}
end
def uj (td ty:TE):TE:=fun σ H Q=>td σ H fun x H1=>∃ a,x = .ref a∧IsD H1 a∧ty σ H1 fun y H2=>∃ kvs k v,H2 a=some (.dK kvs)∧y=kV k∧cp kvs k=some v∧Q v (upd H2 a (.dK (qR kvs k)))
section
variable {X:Cx}{o e f:Expr}{apos cpos:Pos}{td ty tx:TE}
theorem qb (ho:PE X o td) (he:PE X e ty) (m:M1 X o "pop" apos e cpos):PE X (.Call (.Attribute o "pop" apos) [e] [] cpos) (uj td ty):=by
 intro pins s σ H Q I h
 refine wpAny_Call_method m.base m.few m.line PySem.F.plainAttrs_dict PySem.F.slot_dict_pop PySem.F.type_dict_pop (thn (ho pins s σ H _ I h) fun u s1 ⟨x,H1,I1,rx,a,ex,d,q1⟩=>?_)
 subst ex
 obtain rfl:u=Value.ref a:=rx
 obtain⟨t1,t2,_⟩:=ES I1 d
 refine⟨t1,t2,?_⟩
 rw[m.trees]
 refine Calls.callWith_builtin rfl (Calls.evalArgs_plain (Calls.spliced_cons (thn (he pins s1 σ H1 _ I1 q1) fun iv s2 ⟨y,H2,I2,ry,kvs,k,v,ea,ey,l,q2⟩=>Calls.spliced_nil ?_)))
 subst ey
 exact FN I2 ea ry l (.inl rfl) fun w' s3 I3 rw'=>⟨v,_,I3,rw',q2⟩
end
section
variable {X:Cx}{pins:List (Addr×Obj)}{σ:St}{H:Hp}{s:Shared}{a:Addr}{kvs:List (Key×V)}{A:Around}{E:Value→Shared→Prop}
end
section
variable {X:Cx}{pins:List (Addr×Obj)}{σ:St}{H:Hp}{s:Shared}{a:Addr}{y:V}{u:Value}{A:Around}{E:Value→Shared→Prop}
end
end L2
namespace L2
open PySem PySem.Spec PyProof.Rows
section
variable {prog:Program}{w:World}{A:Around}{E:Value→Shared→Prop}
end
section
variable {X:Cx}
end
end L2
namespace L2
open PySem PySem.Spec PyProof.Rows
section
variable {X:Cx}{pins:List (Addr×Obj)}{σ:St}{H:Hp}{s:Shared}{h':Heap}
theorem Inv.zR {t':Nat}{ch:List Addr}{T:Addr}{ob:HO}(I:Inv X pins σ H s) (k:∀ b o,b∉ch→s.heap.get? b=some o→h'.get? b=some o) (hf:∀ b∈ch,lr X pins H b) (hT:s.heap.objs.size≤T)
  (new:bS X.prog X.w (upd H T ob) h' T ob):Inv X pins σ (upd H T ob) { s with heap:=h',toks:=t' }:=by
 have hn:H T=none:=I.hok.fresh hT
 have nit:∀ b u,H b=some u→b∉ch:=fun b u e z=>by
  have q:=(hf b z).1
  rw[q]at e;cases e
 refine I.step (g':=s.gens) (d':=s.drawn) (ch:=ch) (fun b hb=>⟨(hf b hb).2.2.2.1,(hf b hb).2.1,(hf b hb).2.2.2.2.1,(hf b hb).2.2.2.2.2⟩) (fun b o _ _ hc e _=>k b o hc e) (fun b o _ _ hc e _=>⟨o.slots,k b o hc e⟩)
  (fun b o _ e n=>?_) (fun b o hc e=>⟨o,k b o hc e⟩) (fun b xs e=>?_) (fun b o u e=>?_) (fun b ps e=>⟨#[],?_⟩) (fun m hm=>?_) (fun b u e=>?_) I.bare
 ·rw[ak (Nat.ne_of_lt (Nat.lt_of_lt_of_le (Heap.lt_size e) hT))];exact n
 ·rw[ak (aF e hn)];exact e
 ·rw[ak (aF e hn)];exact e
 ·rw[ak (aF e hn),e];simp
 ·obtain⟨o,es,ep,ho,r⟩:=hm
  exact⟨o,es,ep,k _ o (fun z=>(hf _ z).2.1 rfl) ho,r⟩
 ·by_cases hb:b=T
  ·subst hb
   rw[ab]at e
   cases e
   exact new
  ·rw[ak hb]at e
   refine(I.hok b u e).g7 (fun c v hc q=>k c v ?_ q) (fun c q=>by rw[ak (aF q hn)];exact q) fun c xs q=>by rw[ak (aF q hn)];exact q
   rcases hc with z | z
   ·rw[z];exact nit b u e
   ·exact nit c _ z
theorem Inv.lock {d:Addr}{u:HO}(I:Inv X pins σ H s) (h:H d=some u) (mu:Mut (some u)):∃ od,Inv X pins σ (upd H d (.frz od u)) s:=by
 have x:=I.hok d u h
 have ex:∃ od,s.heap.get? d=some od:=by
  cases u with
  |lst xs=>obtain⟨_,_,_,_,e⟩:=x;exact⟨_,e⟩
  |dK kvs=>obtain⟨_,_,_,_,o,_,_,e,_⟩:=x;exact⟨o,e⟩
  |dT kvs=>obtain⟨_,_,_,_,o,_,_,e,_⟩:=x;exact⟨o,e⟩
  |set S n=>obtain⟨o,_,_,_,e,_⟩:=x;exact⟨o,e⟩
  |ins C dx fs=>obtain⟨_,_,_,e,_⟩:=x;exact⟨_,e⟩
  |ext φ=>obtain⟨_,⟨_,e⟩,_⟩:=x;exact⟨_,e⟩
  |_=>exact False.elim mu
 obtain⟨od,e⟩:=ex
 have new:bS X.prog X.w (upd H d (.frz od u)) s.heap d (.frz od u):=by
  refine⟨e,x.g7 (fun b v _ q=>q) (fun b q=>?_) fun b xs q=>?_⟩
  ·rw[ak (fun z=>by rw[z,h]at q;cases q;exact mu)];exact q
  ·rw[ak (fun z=>by rw[z,h]at q;cases q;exact mu)];exact q
 exact⟨od,I.write (x:=d) (e:=d) (t':=s.toks) (h':=s.heap) (by rw[h];exact mu) (.inl rfl) (fun b v _ q=>q) ⟨od,e⟩ new⟩
theorem Inv.zj {d:Addr}{u:HO}(I:Inv X pins σ H s) (h:H d=some u) (mu:Mut (some u)):∀ o' u',X.H_0 d≠some (.frz o' u'):=fun o' u' e=>by
 have q:=I.base.lg d o' u' e
 rw[h]at q
 cases q
 exact mu
theorem Inv.unlock {d:Addr}{od:Obj}{u:HO}(I:Inv X pins σ H s) (h:H d=some (.frz od u)) (hn:∀ o' u',X.H_0 d≠some (.frz o' u')):Inv X pins σ (upd H d u) s:=by
 have neH:∀ b o,H b=some o→(∀ o' u',o ≠ .frz o' u')→b≠d:=fun b o e hne z=>by
  rw[z,h]at e
  cases e
  exact hne _ _ rfl
 have neN:∀ b,H b=none→b≠d:=fun b e z=>by rw[z,h]at e;cases e
 refine⟨I.ok,I.os,I.bare,⟨I.base.keep,I.base.slot,fun b o e n hx=>?_,I.base.there,fun b xs e=>?_,fun b o x e=>?_,fun b ps e=>?_⟩,I.loc,I.cell,?_,fun x c e=>?_,fun p hp=>?_,fun b o e=>?_,I.len⟩
 ·rw[ak (neN b (I.base.free b o e n hx))];exact I.base.free b o e n hx
 ·have q:=I.base.i4 b xs e
  rw[ak (neH b _ q (fun _ _ z=>nomatch z))];exact q
 ·have q:=I.base.lg b o x e
  rw[ak (fun z=>by rw[z]at e;exact hn _ _ e)];exact q
 ·obtain⟨m,q⟩:=I.base.lE b ps e
  exact⟨m,by rw[ak (neH b _ q (fun _ _ z=>nomatch z))];exact q⟩
 ·rw[ak (neN _ I.free)];exact I.free
 ·rw[ak (neN c (I.gj x c e))];exact I.gj x c e
 ·obtain⟨e,n,r⟩:=I.pin p hp
  exact⟨e,by rw[ak (neN _ n)];exact n,r⟩
 ·by_cases hb:b=d
  ·rw[hb,ab]at e
   cases e
   rw[hb]
   obtain⟨_,x⟩:=I.hok d _ h
   exact x.g7 (fun c v _ q=>q) (fun c q=>by rw[ak (neH c _ q (fun _ _ z=>nomatch z))];exact q) fun c xs q=>by rw[ak (neH c _ q (fun _ _ z=>nomatch z))];exact q
  ·rw[ak hb]at e
   exact(I.hok b o e).g7 (fun c v _ q=>q) (fun c q=>by rw[ak (neH c _ q (fun _ _ z=>nomatch z))];exact q) fun c xs q=>by rw[ak (neH c _ q (fun _ _ z=>nomatch z))];exact q
end
def vw (t:TS):TS:=fun D σ H=>∃ d u,H d=some u∧Mut (some u)∧∀ od,t ⟨fun σ' H'=>H' d=some (.frz od u)∧D.nx σ' (upd H' d u),fun v H'=>H' d=some (.frz od u)∧D.rt v (upd H' d u),fun σ' H'=>H' d=some (.frz od u)∧D.bk σ' (upd H' d u),fun σ' H'=>H' d=some (.frz od u)∧D.ct σ' (upd H' d u)⟩ σ (upd H d (.frz od u))
section
variable {X:Cx}
theorem dR {st:Stmt}{t:TS}(h:PS X st t):PS X st (vw t):=by
 intro pins s σ H D I hw
 obtain⟨d,u,hd,mu,hw⟩:=hw
 obtain⟨od,I1⟩:=I.lock hd mu
 refine thn (h pins s σ _ _ I1 (hw od)) fun f s1 q=>?_
 cases f with
 |next=>obtain⟨σ',H',I2,e,q⟩:=q;exact⟨σ',_,I2.unlock e (I.zj hd mu),q⟩
 |brk=>obtain⟨σ',H',I2,e,q⟩:=q;exact⟨σ',_,I2.unlock e (I.zj hd mu),q⟩
 |cont=>obtain⟨σ',H',I2,e,q⟩:=q;exact⟨σ',_,I2.unlock e (I.zj hd mu),q⟩
 |ret v=>obtain⟨x,σ',H',I2,r,e,q⟩:=q;exact⟨x,σ',_,I2.unlock e (I.zj hd mu),r,q⟩
theorem k7 {tg:Expr}{pins:List (Addr×Obj)}{σ:St}{H:Hp}{s:Shared}{R:It→Hp→Prop}{J:It}{tn:Nat→Heap→Prop}{tk:Nat}(I:Inv X pins σ H s) (o:Obj)
  (T:Turn X.prog X.w X.K tg J [s.heap.objs.size] s.heap.objs.size tn) (st:tn 0 (s.heap.push o)) (q:R J H):PIE X pins σ tg R (.ref s.heap.objs.size) { s with heap:=s.heap.push o,toks:=tk }:=by
 refine⟨s.heap.objs.size,[s.heap.objs.size],tn,J,H,rfl,I.kept fun b ob e=>Heap.get?_push_of_some _ e,T,st,fun b hb=>?_,q⟩
 have e:b=s.heap.objs.size:=by simpa using hb
 subst e
 exact I.AF (Nat.le_refl _) (I.hok.fresh (Nat.le_refl _))
end
section
variable {X:Cx}{tg:Expr}
end
section
variable {X:Cx}{tg:Expr}
end
def Its (x:Str):It:=⟨fun i _=>i < x.cps.size,fun i H v H'=>H'=H∧∃ c,x.cps[i]? = some c∧v = .str ⟨#[c]⟩,fun i _=>x.cps.size≤i⟩
theorem vt {P:Program}{w:World}{K:PySem.W.Frag}{tg:Expr}(it:Addr) (x:Str) (t:Tok) (ty:String) (hty:ty="str_ascii_iterator"∨ty="str_iterator") :
  Turn P w K tg (Its x) [it] it (fun i h=>h.IsStrIter it ty x t i) where
 mem:=by simp
 obj:=fun i h st b hb=>by
  have e:b=it:=by simpa using hb
  subst e
  obtain⟨o,e,c,d⟩:=st
  exact⟨o,e,fun v z=>by rw[d]at z;cases z⟩
 keep:=fun i h h' st k=>let ⟨o,ho,r⟩:=st;⟨o,k it (by simp) o ho,r⟩
 item:=by
  intro X hP hw hK hc i pins s σ H E I hf st hg
  subst hP hw hK
  obtain⟨f0,f1,f2,f3,f4,f5⟩:=hf it (by simp)
  have W:Walks X.prog X.w X.A it [it] [it] x.cps.size (SignAt x) (fun i h=>h.IsStrIter it ty x t i):=by
   rcases hty with e | e
   ·rw[e];exact Walks.strAscii (I.ok.hd hc) it x t
   ·rw[e];exact Walks.strWide (I.ok.hd hc) it x t
  have hno:["enumerate","zip","dict_itemiterator","dict_reverseitemiterator","odict_iterator","itertools.zip_longest","itertools.pairwise"].contains ty=false:=by
   rcases hty with e | e
   ·rw[e];decide
   ·rw[e];decide
  refine W.item i s _ _ hg st fun v h' tk hv st' kk=>?_
  obtain⟨c,u,hcx,rfl⟩:=hv
  have I1:Inv X pins σ H { s with heap:=h',toks:=tk }:=I.turned (fun b o hb e=>kk b o (by simpa using hb) e) f0 f1 f3 f4 f5
  obtain⟨oi,e,cc,dd⟩:=id st'
  exact⟨_,rfl,qG (s:={ s with heap:=h',toks:=tk }) e cc dd hno ⟨.str ⟨#[c]⟩,H,I1,⟨u,rfl⟩,⟨rfl,c,hcx,rfl⟩,st',fun b hb=>(hf b hb).1⟩⟩
 done:=by
  intro X hP hw hK hc i pins s σ H E I hf st hg
  subst hP hw hK
  obtain⟨f0,f1,f2,f3,f4,f5⟩:=hf it (by simp)
  have hx:x.cps[i]? = none:=Array.getElem?_eq_none hg
  rcases hty with e | e
  ·rw[e]at st
   exact wpAny_pyNext_ascii_end (I.ok.hd hc) st hx fun h' eb=>⟨rfl,I.turned (t':=s.toks) (fun b o hb e=>eb b o hb e) f0 f1 f3 f4 f5⟩
  ·rw[e]at st
   exact wpAny_pyNext_wide_end (I.ok.hd hc) st hx fun h' eb=>⟨rfl,I.turned (t':=s.toks) (fun b o hb e=>eb b o hb e) f0 f1 f3 f4 f5⟩
 self:=fun A i s Q E st h=>by
  rcases hty with e | e
  ·rw[e]at st;exact wpAny_pyIter_striter_ascii st h
  ·rw[e]at st;exact wpAny_pyIter_striter_wide st h
def Gb (te:TE):TI:=fun σ H R=>te σ H fun v H1=>∃ x,v = .str x∧R (Its x) H1
theorem Ex {X:Cx}{tg e:Expr}{te:TE}(he:PE X e te):PI X tg e (Gb te):=by
 intro pins s σ H R I h
 refine thn (he pins s σ H _ I h) fun v s1 ⟨y,H1,I1,r1,x,ex,q⟩=>?_
 subst ex
 obtain⟨t,rfl⟩:=r1
 cases ha:x.cps.all (· < 128)
 ·exact wpAny_pyIter_wide ha (k7 (tk:=s1.toks) I1 _ (vt _ x t "str_iterator" (.inr rfl)) ⟨_,Heap.get?_push_size _ rfl,rfl,rfl⟩ q)
 ·exact wpAny_pyIter_ascii ha (k7 (tk:=s1.toks) I1 _ (vt _ x t "str_ascii_iterator" (.inl rfl)) ⟨_,Heap.get?_push_size _ rfl,rfl,rfl⟩ q)
section
variable {prog:Program}{w:World}{A:Around}{E:Value→Shared→Prop}{s:Shared}
theorem tL {d:Addr}{o:Obj}{es:Array DictEntry}{ep:Nat}{Q:Value→Shared→Prop}(hd:(d == sysModules)=false) (ho:s.heap.get? d=some o) (hc:o.ExactDict) (hdat:o.data = .dict es ep)
  (hQ:Q (.ref s.heap.objs.size) { s with heap:=s.heap.push { cls:=.type "dict_keyiterator",data:=.fields #[.ref d,.int 0 0,.int es.size 0,.int ep 0] } }) :
  wpAny (model prog w) A (pyIter (.ref d)) Q E s:=by
 have hT:s.TypeIs (.ref d) "dict":=⟨o,ho,hc.1⟩
 refine wpAny_pyIter_slot hT F.slot_dict_iter (wpAny_call_entry F.slot_dict_iter hT F.entry_dict_iter ?_ (F.args_dict_iter_1 _))
 unfold Builtin.«dict.__iter__»
 refine wpAny_bind ?_
 unfold Builtin.Dict.dictSlotNone
 refine wpAny_bind (wpAny_notOrdered_dict hT ?_)
 show wpAny _ _ (pure (Value.ref d)) _ _ s
 refine wpAny_pure ?_
 show wpAny _ _ (Builtin.Dict.showsAll d >>= _) _ _ s
 unfold Builtin.Dict.showsAll
 rw[if_neg (by rw[hd];exact Bool.false_ne_true)]
 refine wpAny_bind (wpAny_pure ?_)
 refine wpAny_bind (wpAny_dictEntries ho hdat ?_)
 refine wpAny_bind (wpAny_dictEpoch ho hdat ?_)
 refine wpAny_bind (wpAny_newObj_type (wpAny_pure ⟨_,rfl,"dict_keyiterator",_,⟨_,Heap.get?_push_size _ rfl,rfl⟩,F.slot_dict_keyiterator_next.lookup,?_⟩))
 simpa[rawInt]using hQ
theorem rK {it d:Addr}{i n ep:Nat}{od:Obj}{es:Array DictEntry}{en:DictEntry}{Q:Option Value→Shared→Prop}(hit:s.heap.IsKeyIter it d i n ep) (hod:s.heap.get? d=some od) (hdd:od.data = .dict es ep)
  (hsz:es.size=n) (hx:es[i]? = some en) (hQ:∀ h',h'.IsKeyIter it d (i+1) n ep→Heap.SameBut it s.heap h'→Q (some en.key) { s with heap:=h' }):wpAny (model prog w) A (pyNext (.ref it)) Q E s:=by
 obtain⟨o,ho,hc,hd⟩:=id hit
 unfold pyNext
 refine wpAny_bind (wpAny_attempt (wpAny_callSpecial?_slot (name:=Str.ofString "__next__") hit.typeIs F.slot_dict_keyiterator_next
  (wpAny_call_entry F.slot_dict_keyiterator_next hit.typeIs F.entry_dict_keyiterator_next ?_ (F.args_dict_keyiterator_next_1 _))))
 refine wpAny_bind (wpAny_pure ?_)
 refine wpAny_bind ?_
 refine wpAny_bind ?_
 first | refine wpAny_bind (wpAny_typeNameOfWhole_keyiter hit.typeIs (wpAny_pure ?_)) | refine wpAny_bind (wpAny_typeNameOf_keyiter hit.typeIs (wpAny_pure ?_))
 refine wpAny_bind (wpAny_fieldsOf ho hd ?_)
 have hown:Builtin.Dict_items.ownsTuple "dict_keyiterator"=false:=by decide
 simp only[hown,Bool.false_eq_true,if_false]
 show wpAny _ _ (if (Value.ref d == Value.none)=true then _ else _) _ _ s
 rw[if_neg (show ¬ ((Value.ref d == Value.none)=true) from Bool.false_ne_true)]
 refine wpAny_bind (wpAny_pure ?_)
 refine wpAny_bind (wpAny_dictEntries hod hdd ?_)
 rw[if_neg (by rw[hsz];simp)]
 refine wpAny_bind (wpAny_pure ?_)
 refine wpAny_bind (wpAny_dictEpoch hod hdd ?_)
 rw[if_neg (by simp)]
 refine wpAny_pure ?_
 obtain⟨hlt',hen⟩:=Array.getElem?_eq_some_iff.mp hx
 simp only[show ¬ ((i:Int) < 0) from by omega,if_false,Int.toNat_natCast,Array.getElem?_eq_getElem hlt']
 refine wpAny_bind ?_
 first | refine wpAny_bind (wpAny_typeNameOfWhole_keyiter hit.typeIs (wpAny_pure ?_)) | refine wpAny_bind (wpAny_typeNameOf_keyiter hit.typeIs (wpAny_pure ?_))
 refine wpAny_bind (wpAny_isOneOf_keyiter hit.typeIs ?_)
 show wpAny _ _ (setField (.ref it) 1 (rawInt ((i:Int)+1)) >>= _) _ _ s
 refine wpAny_bind (wpAny_setField ho hd (by simp) ?_)
 have hit':(s.heap.update it (Obj.mapFields (·.setIfInBounds 1 (rawInt ((i:Int)+1))))).IsKeyIter it d (i+1) n ep:=
  ⟨_,Heap.get?_update_self _ ho (Obj.isFreed_of_fields (Obj.data_mapFields hd _)),(Obj.cls_mapFields ..).trans hc,by rw[Obj.data_mapFields hd];simp[rawInt]⟩
 refine wpAny_bind (wpAny_holding ?_)
 refine wpAny_bind (wpAny_isOneOf_keyiter (s:={ s with heap:=s.heap.update it (Obj.mapFields (·.setIfInBounds 1 (rawInt ((i:Int)+1)))) }) hit'.typeIs ?_)
 show wpAny _ _ (pure es[i].key) _ _ _
 rw[hen]
 exact wpAny_pure (wpAny_pure ⟨_,rfl,wpAny_pure (hQ _ hit' (Heap.SameBut.update ..))⟩)
theorem md {it d:Addr}{i n ep:Nat}{od:Obj}{es:Array DictEntry}{Q:Option Value→Shared→Prop}(hh:A.handled=none) (hit:s.heap.IsKeyIter it d i n ep) (hod:s.heap.get? d=some od) (hdd:od.data = .dict es ep)
  (hsz:es.size=n) (hge:n≤i) (hQ:∀ h',Heap.ExtBut it s.heap h'→Q none { s with heap:=h' }):wpAny (model prog w) A (pyNext (.ref it)) Q E s:=by
 obtain⟨o,ho,hc,hd⟩:=id hit
 unfold pyNext
 refine wpAny_bind (wpAny_attempt (wpAny_callSpecial?_slot (name:=Str.ofString "__next__") hit.typeIs F.slot_dict_keyiterator_next
  (wpAny_call_entry F.slot_dict_keyiterator_next hit.typeIs F.entry_dict_keyiterator_next ?_ (F.args_dict_keyiterator_next_1 _))))
 refine wpAny_bind (wpAny_pure ?_)
 refine wpAny_bind ?_
 refine wpAny_bind ?_
 first | refine wpAny_bind (wpAny_typeNameOfWhole_keyiter hit.typeIs (wpAny_pure ?_)) | refine wpAny_bind (wpAny_typeNameOf_keyiter hit.typeIs (wpAny_pure ?_))
 refine wpAny_bind (wpAny_fieldsOf ho hd ?_)
 have hown:Builtin.Dict_items.ownsTuple "dict_keyiterator"=false:=by decide
 simp only[hown,Bool.false_eq_true,if_false]
 show wpAny _ _ (if (Value.ref d == Value.none)=true then _ else _) _ _ s
 rw[if_neg (show ¬ ((Value.ref d == Value.none)=true) from Bool.false_ne_true)]
 refine wpAny_bind (wpAny_pure ?_)
 refine wpAny_bind (wpAny_dictEntries hod hdd ?_)
 rw[if_neg (by rw[hsz];simp)]
 refine wpAny_bind (wpAny_pure ?_)
 refine wpAny_bind (wpAny_dictEpoch hod hdd ?_)
 rw[if_neg (by simp)]
 refine wpAny_pure ?_
 have hge':es.size≤i:=by rw[hsz];exact hge
 simp only[show ¬ ((i:Int) < 0) from by omega,if_false,Int.toNat_natCast,Array.getElem?_eq_none hge']
 refine wpAny_bind ?_
 first | refine wpAny_bind (wpAny_typeNameOfWhole_keyiter hit.typeIs (wpAny_pure ?_)) | refine wpAny_bind (wpAny_typeNameOf_keyiter hit.typeIs (wpAny_pure ?_))
 show wpAny _ _ (setField (.ref it) 0 .none >>= _) _ _ s
 refine wpAny_bind (wpAny_setField ho hd (by simp) ?_)
 show wpAny _ _ (newExc (.type "StopIteration") [] >>= _) _ _ _
 refine wpAny_bind ?_
 simp only[newExc,newTuple]
 refine wpAny_bind (wpAny_newObj_type ?_ (by size_fits))
 refine wpAny_bind (m:=firstArgMember _ _) (wpAny_of_eq (a:=Value.none) (by first | rfl | (simp only[firstArgMember];rfl)) ?_)
 refine wpAny_newObj_type ?_ (by size_fits)
 simp only[raiseNew]
 refine wpAny_bind (wpAny_handled ?_)
 rw[show A.in1.handled=none from hh]
 refine wpAny_bind (wpAny_pure (wpAny_throw ?_))
 refine wpAny_bind (wpAny_isInstance (T:="StopIteration") (b:=true) ⟨_,Heap.get?_push_size _ rfl,rfl⟩ isSubtype_stop ?_)
 exact wpAny_pure (hQ _ (((Heap.SameBut.update ..).extBut.push _).push _))
end
theorem yn {κ:Type}{kvs:List (κ×V)}{vs:List (κ×Value)}(h:KV kvs vs):∀ {i:Nat}{k:κ}{v:V},kvs[i]? = some (k,v)→∃ u,vs[i]? = some (k,u)∧RelV v u:=by
 unfold KV at h
 induction h with
 |nil=>intro i k v e;simp at e
 |@cons a b l₁ l₂ r t ih=>
  intro i k v e
  cases i with
  |zero=>
   simp only[List.getElem?_cons_zero,Option.some.injEq]at e
   subst e
   refine⟨b.2,?_,r.2⟩
   simp only[List.getElem?_cons_zero]
   exact congrArg some (Prod.ext r.1.symm rfl)
  |succ j=>
   simp only[List.getElem?_cons_succ]at e ⊢
   exact ih e
theorem ik {α β:Type}{G:α→β→Prop}{l₁:List α}{l₂:List β}(h:Paired G l₁ l₂):∀ {i:Nat}{a:α},l₁[i]? = some a→∃ b,l₂[i]? = some b∧G a b:=by
 induction h with
 |nil=>intro i a e;simp at e
 |@cons a b l₁ l₂ r t ih=>
  intro i a' e
  cases i with
  |zero=>
   simp only[List.getElem?_cons_zero,Option.some.injEq]at e
   subst e
   exact⟨b,rfl,r⟩
  |succ j=>
   simp only[List.getElem?_cons_succ]at e ⊢
   exact ih e
theorem lR {k:Key}{u:Value}(h:jB k u=true):RelV (kV k) u:=by
 rcases bK h with ⟨i,t,rfl,rfl⟩ | ⟨x,t,rfl,rfl⟩
 ·exact⟨t,rfl⟩
 ·exact⟨t,rfl⟩
section
variable {X:Cx}{pins:List (Addr×Obj)}{σ:St}{H:Hp}{s:Shared}{d:Addr}{o:Obj}
theorem Inv.rX {kvs:List (Key×V)}(I:Inv X pins σ H s) (h:H d=some (.frz o (.dK kvs))) :
  (d == sysModules)=false∧s.heap.get? d=some o∧o.ExactDict∧∃ (es:Array DictEntry) (ep:Nat) (vs:List (Key×Value)),o.data = .dict es ep∧es.size=kvs.length∧KV kvs vs∧s.heap.DictAt (aY X.prog X.w) d vs ep:=by
 obtain⟨hd,z,hs,vs,kv,o',es,ep,ho,hx,hdt,r⟩:=I.hok d _ h
 rw[hd]at ho
 cases ho
 refine⟨hs,hd,hx,es,ep,vs,hdt,?_,kv,o,es,hd,hx,hdt,r⟩
 have l1:=r.2.1.length
 have l2:kvs.length=vs.length:=Paired.length kv
 rw[Array.length_toList]at l1
 omega
theorem Inv.ET {kvs:List (List Key×V)}(I:Inv X pins σ H s) (h:H d=some (.frz o (.dT kvs))) :
  (d == sysModules)=false∧s.heap.get? d=some o∧o.ExactDict∧∃ (es:Array DictEntry) (ep:Nat),o.data = .dict es ep∧es.size=kvs.length ∧
   ∀ (i:Nat) (k:List Key) (v:V),kvs[i]? = some (k,v)→∃ (en:DictEntry) (q:Addr),es[i]? = some en∧en.key = .ref q∧H q=some (.tup (k.map kV)):=by
 obtain⟨hd,z,hs,xs,pr,o',es,ep,ho,hx,hdt,he,_⟩:=I.hok d _ h
 rw[hd]at ho
 cases ho
 refine⟨hs,hd,hx,es,ep,hdt,?_,fun i k v e=>?_⟩
 ·have l1:es.size=xs.length:=size_of_entries he
  have l2:kvs.length=xs.length:=Paired.length pr
  omega
 ·obtain⟨b,hb,e1,e2,_⟩:=ik pr e
  have q:=entry_at he i
  rw[hb]at q
  exact⟨_,b.2.1,q,rfl,e2⟩
end
def Itk (d:Addr) (o:Obj) (kvs:List (Key×V)):It:=
 ⟨fun i H=>H d=some (.frz o (.dK kvs))∧i < kvs.length,fun i H x H'=>H'=H∧∃ k v,kvs[i]? = some (k,v)∧x=kV k,fun i H=>H d=some (.frz o (.dK kvs))∧kvs.length≤i⟩
def FT (d:Addr) (o:Obj) (kvs:List (List Key×V)):It:=
 ⟨fun i H=>H d=some (.frz o (.dT kvs))∧i < kvs.length,fun i H x H'=>H'=H∧∃ (k:List Key) (v:V) (q:Addr),kvs[i]? = some (k,v)∧x = .ref q∧H q=some (.tup (k.map kV)),fun i H=>H d=some (.frz o (.dT kvs))∧kvs.length≤i⟩
def Itd (d:Addr) (o:Obj) (kvs:List (Key×V)):It:=
 ⟨fun i H=>H d=some (.frz o (.dK kvs))∧i < kvs.length,fun i H x H'=>H'=H∧∃ k,kvs[i]? = some (k,x),fun i H=>H d=some (.frz o (.dK kvs))∧kvs.length≤i⟩
def Iti (d:Addr) (o:Obj) (kvs:List (Key×V)):It:=
 ⟨fun i H=>H d=some (.frz o (.dK kvs))∧i < kvs.length,fun i H x H'=>∃ T k v,kvs[i]? = some (k,v)∧x = .ref T∧H T=none∧H'=upd H T (.tup [kV k,v]),fun i H=>H d=some (.frz o (.dK kvs))∧kvs.length≤i⟩
theorem gm {o:Obj}{es es':Array DictEntry}{ep ep':Nat}(h:o.data = .dict es ep) (h':o.data = .dict es' ep'):es'=es∧ep'=ep:=by
 rw[h]at h'
 cases h'
 exact⟨rfl,rfl⟩
section
variable {P:Program}{w:World}{K:PySem.W.Frag}{tg:Expr}{d:Addr}{o:Obj}{es:Array DictEntry}{ep:Nat}
theorem zU {kvs:List (Key×V)}(it:Addr) (hod:o.data = .dict es ep):Turn P w K tg (Itk d o kvs) [it] it (fun i h=>h.IsKeyIter it d i kvs.length ep) where
 mem:=by simp
 obj:=fun i h st b hb=>by
  have e:b=it:=by simpa using hb
  subst e
  obtain⟨oi,e,c,dd⟩:=st
  exact⟨oi,e,fun v z=>by rw[dd]at z;cases z⟩
 keep:=fun i h h' st k=>st.at fun oi e=>k it (by simp) oi e
 item:=by
  intro X hP hw hK hc i pins s σ H E I hf st hg
  subst hP hw hK
  obtain⟨hd,hi⟩:=hg
  obtain⟨f0,f1,f2,f3,f4,f5⟩:=hf it (by simp)
  obtain⟨hs,hgd,hx,es',ep',vs,hdt,hsz,kv,hm⟩:=I.rX hd
  obtain⟨rfl,rfl⟩:=gm hod hdt
  obtain⟨⟨k,v⟩,hkv⟩:∃ p,kvs[i]? = some p:=⟨kvs[i],List.getElem?_eq_getElem hi⟩
  obtain⟨u,hu,ru⟩:=yn kv hkv
  have hl:kvs.length=vs.length:=Paired.length kv
  rw[hl]at st
  refine wpAny_pyNext_dict_item st hm hu fun key h' hkey st' sb=>?_
  have I1:Inv X pins σ H { s with heap:=h' }:=I.turned (t':=s.toks) (fun b ob hb e=>(sb.2 b hb).trans e) f0 f1 f3 f4 f5
  obtain⟨oi,e,c,dd⟩:=id st'
  refine⟨key,rfl,qG (s:={ s with heap:=h' }) e c dd (by decide) ⟨kV k,H,I1,lR (show jB k key=true from hkey),⟨rfl,k,v,hkv,rfl⟩,?_,fun b hb=>(hf b hb).1⟩⟩
  show h'.IsKeyIter it d (i+1) kvs.length _
  rw[hl]
  exact st'
 done:=by
  intro X hP hw hK hc i pins s σ H E I hf st hg
  subst hP hw hK
  obtain⟨hd,hi⟩:=hg
  obtain⟨f0,f1,f2,f3,f4,f5⟩:=hf it (by simp)
  obtain⟨hs,hgd,hx,es',ep',vs,hdt,hsz,kv,hm⟩:=I.rX hd
  obtain⟨rfl,rfl⟩:=gm hod hdt
  exact md (I.ok.hd hc) st hgd hdt hsz hi fun h' eb=>⟨rfl,I.turned (t':=s.toks) (fun b ob hb e=>eb b ob hb e) f0 f1 f3 f4 f5⟩
 self:=fun A i s Q E st h=>wpAny_pyIter_keyiter st h
theorem xu {kvs:List (List Key×V)}(it:Addr) (hod:o.data = .dict es ep):Turn P w K tg (FT d o kvs) [it] it (fun i h=>h.IsKeyIter it d i kvs.length ep) where
 mem:=by simp
 obj:=fun i h st b hb=>by
  have e:b=it:=by simpa using hb
  subst e
  obtain⟨oi,e,c,dd⟩:=st
  exact⟨oi,e,fun v z=>by rw[dd]at z;cases z⟩
 keep:=fun i h h' st k=>st.at fun oi e=>k it (by simp) oi e
 item:=by
  intro X hP hw hK hc i pins s σ H E I hf st hg
  subst hP hw hK
  obtain⟨hd,hi⟩:=hg
  obtain⟨f0,f1,f2,f3,f4,f5⟩:=hf it (by simp)
  obtain⟨hs,hgd,hx,es',ep',hdt,hsz,ent⟩:=I.ET hd
  obtain⟨rfl,rfl⟩:=gm hod hdt
  obtain⟨⟨k,v⟩,hkv⟩:∃ p,kvs[i]? = some p:=⟨kvs[i],List.getElem?_eq_getElem hi⟩
  obtain⟨en,q,hen,hkey,hq⟩:=ent i k v hkv
  refine rK st hgd hdt hsz hen fun h' st' sb=>?_
  have I1:Inv X pins σ H { s with heap:=h' }:=I.turned (t':=s.toks) (fun b ob hb e=>(sb.2 b hb).trans e) f0 f1 f3 f4 f5
  obtain⟨oi,e,c,dd⟩:=id st'
  exact⟨en.key,rfl,qG (s:={ s with heap:=h' }) e c dd (by decide) ⟨.ref q,H,I1,hkey,⟨rfl,k,v,q,hkv,rfl,hq⟩,st',fun b hb=>(hf b hb).1⟩⟩
 done:=by
  intro X hP hw hK hc i pins s σ H E I hf st hg
  subst hP hw hK
  obtain⟨hd,hi⟩:=hg
  obtain⟨f0,f1,f2,f3,f4,f5⟩:=hf it (by simp)
  obtain⟨hs,hgd,hx,es',ep',hdt,hsz,ent⟩:=I.ET hd
  obtain⟨rfl,rfl⟩:=gm hod hdt
  exact md (I.ok.hd hc) st hgd hdt hsz hi fun h' eb=>⟨rfl,I.turned (t':=s.toks) (fun b ob hb e=>eb b ob hb e) f0 f1 f3 f4 f5⟩
 self:=fun A i s Q E st h=>by
  refine wpAny_pyIter_slot st.typeIs F.slot_dict_keyiterator_iter (wpAny_call_entry F.slot_dict_keyiterator_iter st.typeIs F.entry_dict_keyiterator_iter ?_ (F.args_dict_keyiterator_iter_1 _))
  show wpAny _ _ (ret (.ref it)) _ _ s
  exact wpAny_pure ⟨_,rfl,"dict_keyiterator",_,st.typeIs,F.slot_dict_keyiterator_next.lookup,h⟩
theorem zS {kvs:List (Key×V)}(it:Addr) (hod:o.data = .dict es ep):Turn P w K tg (Itd d o kvs) [it] it (fun i h=>h.IsValIter it d i kvs.length ep) where
 mem:=by simp
 obj:=fun i h st b hb=>by
  have e:b=it:=by simpa using hb
  subst e
  obtain⟨oi,e,c,dd⟩:=st
  exact⟨oi,e,fun v z=>by rw[dd]at z;cases z⟩
 keep:=fun i h h' st k=>st.at fun oi e=>k it (by simp) oi e
 item:=by
  intro X hP hw hK hc i pins s σ H E I hf st hg
  subst hP hw hK
  obtain⟨hd,hi⟩:=hg
  obtain⟨f0,f1,f2,f3,f4,f5⟩:=hf it (by simp)
  obtain⟨hs,hgd,hx,es',ep',vs,hdt,hsz,kv,hm⟩:=I.rX hd
  obtain⟨rfl,rfl⟩:=gm hod hdt
  obtain⟨⟨k,v⟩,hkv⟩:∃ p,kvs[i]? = some p:=⟨kvs[i],List.getElem?_eq_getElem hi⟩
  obtain⟨u,hu,ru⟩:=yn kv hkv
  have hl:kvs.length=vs.length:=Paired.length kv
  rw[hl]at st
  refine wpAny_pyNext_values_item st hm hu fun h' st' sb=>?_
  have I1:Inv X pins σ H { s with heap:=h' }:=I.turned (t':=s.toks) (fun b ob hb e=>(sb.2 b hb).trans e) f0 f1 f3 f4 f5
  obtain⟨oi,e,c,dd⟩:=id st'
  refine⟨u,rfl,qG (s:={ s with heap:=h' }) e c dd (by decide) ⟨v,H,I1,ru,⟨rfl,k,hkv⟩,?_,fun b hb=>(hf b hb).1⟩⟩
  show h'.IsValIter it d (i+1) kvs.length _
  rw[hl]
  exact st'
 done:=by
  intro X hP hw hK hc i pins s σ H E I hf st hg
  subst hP hw hK
  obtain⟨hd,hi⟩:=hg
  obtain⟨f0,f1,f2,f3,f4,f5⟩:=hf it (by simp)
  obtain⟨hs,hgd,hx,es',ep',vs,hdt,hsz,kv,hm⟩:=I.rX hd
  obtain⟨rfl,rfl⟩:=gm hod hdt
  have hl:kvs.length=vs.length:=Paired.length kv
  rw[hl]at st
  exact wpAny_pyNext_values_end (I.ok.hd hc) st hm (List.getElem?_eq_none (by omega)) fun h' eb=>⟨rfl,I.turned (t':=s.toks) (fun b ob hb e=>eb b ob hb e) f0 f1 f3 f4 f5⟩
 self:=fun A i s Q E st h=>wpAny_pyIter_valiter st h
theorem pA {kvs:List (Key×V)}{elts:List Expr}{kk:Nat}{tpos:Pos}(it:Addr) (hod:o.data = .dict es ep) :
  Turn P w K (.Tuple elts kk tpos) (Iti d o kvs) [it] it (fun i h=>∃ ok ov,IsItemIter h it d i kvs.length ep ok ov) where
 mem:=by simp
 obj:=fun i h st b hb=>by
  have e:b=it:=by simpa using hb
  subst e
  obtain⟨ok,ov,e⟩:=st
  exact⟨_,e,fun v z=>nomatch z⟩
 keep:=fun i h h' st k=>let ⟨ok,ov,e⟩:=st;⟨ok,ov,k it (by simp) _ e⟩
 item:=by
  intro X hP hw hK hc i pins s σ H E I hf st hg
  subst hP hw hK
  obtain⟨hd,hi⟩:=hg
  obtain⟨hs,hgd,hx,es',ep',vs,hdt,hsz,kv,hm⟩:=I.rX hd
  obtain⟨rfl,rfl⟩:=gm hod hdt
  obtain⟨⟨k,v⟩,hkv⟩:∃ p,kvs[i]? = some p:=⟨kvs[i],List.getElem?_eq_getElem hi⟩
  obtain⟨u,hu,ru⟩:=yn kv hkv
  have hl:kvs.length=vs.length:=Paired.length kv
  obtain⟨ok,ov,he⟩:=st
  rw[hl]at he
  have hlt:it < s.heap.objs.size:=Heap.lt_size he
  refine wpAny_pyNext_items_item he hm hu fun key h' hkey ho hT hz hk=>?_
  refine⟨_,rfl,wpAny_letOwnedTupleGo_items (s:={ s with heap:=h' }) ho fun h'' he' sb=>?_⟩
  have hT2:h''.get? s.heap.objs.size=some { cls:=.type "tuple",data:=.seq #[key,u] }:=(sb.2 _ (Nat.ne_of_gt hlt)).trans hT
  have new:bS X.prog X.w (upd H s.heap.objs.size (.tup [kV k,v])) h'' s.heap.objs.size (.tup [kV k,v]):=
   ⟨by show 2≤sizeLine;decide,[key,u],.cons (lR (show jB k key=true from hkey)) (.cons ru .nil),⟨_,hT2,rfl,_,rfl⟩⟩
  have I1:Inv X pins σ (upd H s.heap.objs.size (.tup [kV k,v])) { s with heap:=h'' }:=
   I.zR (t':=s.toks) (ch:=[it]) (fun b ob hb e=>(sb.2 b (by simpa using hb)).trans (hk b ob (by simpa using hb) e)) hf (Nat.le_refl _) new
  refine⟨.ref s.heap.objs.size,_,I1,rfl,⟨_,k,v,hkv,rfl,I.hok.fresh (Nat.le_refl _),rfl⟩,⟨key,u,?_⟩,fun b hb=>?_⟩
  ·rw[hl];exact he'
  ·have e:b=it:=by simpa using hb
   rw[e,ak (Nat.ne_of_lt hlt)]
   exact(hf it (by simp)).1
 done:=by
  intro X hP hw hK hc i pins s σ H E I hf st hg
  subst hP hw hK
  obtain⟨hd,hi⟩:=hg
  obtain⟨f0,f1,f2,f3,f4,f5⟩:=hf it (by simp)
  obtain⟨hs,hgd,hx,es',ep',vs,hdt,hsz,kv,hm⟩:=I.rX hd
  obtain⟨rfl,rfl⟩:=gm hod hdt
  have hl:kvs.length=vs.length:=Paired.length kv
  obtain⟨ok,ov,he⟩:=st
  rw[hl]at he
  exact wpAny_pyNext_items_end (I.ok.hd hc) he hm (List.getElem?_eq_none (by omega)) fun h' eb=>⟨rfl,I.turned (t':=s.toks) (fun b ob hb e=>eb b ob hb e) f0 f1 f3 f4 f5⟩
 self:=fun A i s Q E st h=>let ⟨_,_,e⟩:=st;PySem.W.kcp_self e h
end
def Ec (td:TE):TI:=fun σ H R=>td σ H fun x H1=>∃ d o,x = .ref d∧((∃ kvs,H1 d=some (.frz o (.dK kvs))∧R (Itk d o kvs) H1)∨∃ kvs,H1 d=some (.frz o (.dT kvs))∧R (FT d o kvs) H1)
def B9 (td:TE):TI:=fun σ H R=>td σ H fun x H1=>∃ d o kvs,x = .ref d∧H1 d=some (.frz o (.dK kvs))∧R (Itd d o kvs) H1
def Ca (td:TE):TI:=fun σ H R=>td σ H fun x H1=>∃ d o kvs,x = .ref d∧H1 d=some (.frz o (.dK kvs))∧R (Iti d o kvs) H1
section
variable {X:Cx}{tg e:Expr}{td:TE}{apos cpos:Pos}
theorem Dh (he:PE X e td):PI X tg e (Ec td):=by
 intro pins s σ H R I h
 refine thn (he pins s σ H _ I h) fun u s1 ⟨x,H1,I1,rx,d,o,ex,q⟩=>?_
 subst ex
 obtain rfl:u=Value.ref d:=rx
 rcases q with ⟨kvs,hd,q⟩ | ⟨kvs,hd,q⟩
 ·obtain⟨hs,hgd,hx,es,ep,vs,hdt,hsz,kv,hm⟩:=I1.rX hd
  refine tL hs hgd hx hdt (k7 (tk:=s1.toks) I1 _ (zU _ hdt) ⟨_,Heap.get?_push_size _ rfl,rfl,?_⟩ q)
  rw[hsz]<;>rfl
 ·obtain⟨hs,hgd,hx,es,ep,hdt,hsz,ent⟩:=I1.ET hd
  refine tL hs hgd hx hdt (k7 (tk:=s1.toks) I1 _ (xu _ hdt) ⟨_,Heap.get?_push_size _ rfl,rfl,?_⟩ q)
  rw[hsz]<;>rfl
theorem jU (he:PE X e td) (hbase:attributeBase e "values" X.env (eval e X.env)=eval e X.env:=by rfl) (hline:(apos.endLine == cpos.line)=true:=by rfl):PI X tg (.Call (.Attribute e "values" apos) [] [] cpos) (B9 td):=by
 intro pins s σ H R I h
 refine wpAny_Call_method (T:="dict") (id:="dict.values") hbase rfl hline F.plainAttrs_dict F.slot_dict_values F.type_dict_values (thn (he pins s σ H _ I h) fun u s1 ⟨x,H1,I1,rx,d,o,kvs,ex,hd,q⟩=>?_)
 subst ex
 obtain rfl:u=Value.ref d:=rx
 obtain⟨hs,hgd,hx,es,ep,vs,hdt,hsz,kv,hm⟩:=I1.rX hd
 have hl:kvs.length=vs.length:=Paired.length kv
 refine⟨hm.dictOf.typeIs,hm.dictOf.mapOf.noDict,?_⟩
 have I2:Inv X pins σ H1 { s1 with heap:=s1.heap.push { cls:=.type "dict_values",data:=.fields #[.ref d] } }:=I1.kept (t':=s1.toks) fun b ob q=>Heap.get?_push_of_some _ q
 have fin:wpAny (model X.prog X.w) X.A (pyIter (.ref s1.heap.objs.size)) (PIE X pins σ tg R) X.xe { s1 with heap:=s1.heap.push { cls:=.type "dict_values",data:=.fields #[.ref d] } }:=by
  refine wpAny_pyIter_values (d:=d) (knd:=aY X.prog X.w) ⟨_,Heap.get?_push_size _ rfl,rfl,rfl⟩ (hm.push _) (k7 (tk:=s1.toks) I2 _ (zS _ hdt) ⟨_,Heap.get?_push_size _ rfl,rfl,?_⟩ q)
  rw[hl]<;>rfl
 show wpAny _ _ (callWith cpos (.builtin "dict.values") [.ref d] [] []) _ X.xe s1
 exact method_meetsIn F.slot_dict_values F.entry_dict_values rfl (PySem.evalArgs_none ⟨rfl,hm.dictOf.typeIs,F.args_dict_values_1 _,_,meets_dict_values (aY X.prog X.w) d hs,⟨vs,hm.dictOf⟩,fin⟩)
theorem gI {elts:List Expr}{kk:Nat}{tpos:Pos}(he:PE X e td) (hbase:attributeBase e "items" X.env (eval e X.env)=eval e X.env:=by rfl) (hline:(apos.endLine == cpos.line)=true:=by rfl) :
  PI X (.Tuple elts kk tpos) (.Call (.Attribute e "items" apos) [] [] cpos) (Ca td):=by
 intro pins s σ H R I h
 refine wpAny_Call_method (T:="dict") (id:="dict.items") hbase rfl hline F.plainAttrs_dict F.slot_dict_items F.type_dict_items (thn (he pins s σ H _ I h) fun u s1 ⟨x,H1,I1,rx,d,o,kvs,ex,hd,q⟩=>?_)
 subst ex
 obtain rfl:u=Value.ref d:=rx
 obtain⟨hs,hgd,hx,es,ep,vs,hdt,hsz,kv,hm⟩:=I1.rX hd
 have hl:kvs.length=vs.length:=Paired.length kv
 refine⟨hm.dictOf.typeIs,hm.dictOf.mapOf.noDict,?_⟩
 have I2:Inv X pins σ H1 { s1 with heap:=s1.heap.push { cls:=.type "dict_items",data:=.fields #[.ref d] } }:=I1.kept (t':=s1.toks) fun b ob q=>Heap.get?_push_of_some _ q
 have fin:wpAny (model X.prog X.w) X.A (pyIter (.ref s1.heap.objs.size)) (PIE X pins σ (.Tuple elts kk tpos) R) X.xe { s1 with heap:=s1.heap.push { cls:=.type "dict_items",data:=.fields #[.ref d] } }:=by
  refine wpAny_pyIter_items (d:=d) (knd:=aY X.prog X.w) ⟨_,Heap.get?_push_size _ rfl,rfl,rfl⟩ (hm.push _) (k7 (tk:=s1.toks) I2 _ (pA _ hdt) ⟨.none,.none,?_⟩ q)
  rw[hl]
  exact Heap.get?_push_size _ rfl
 show wpAny _ _ (callWith cpos (.builtin "dict.items") [.ref d] [] []) _ X.xe s1
 exact method_meetsIn F.slot_dict_items F.entry_dict_items rfl (PySem.evalArgs_none ⟨rfl,hm.dictOf.typeIs,F.args_dict_items_1 _,_,meets_dict_items (aY X.prog X.w) d hs,⟨vs,hm.dictOf⟩,fin⟩)
end
end L2
section
namespace Li
open PySem PyProof.Rows
end Li
end
section
namespace TL
open PySem PySem.Builtin PySem.Builtin.Str PySem.StrLaws
abbrev tl (x:Str):List Nat:=x.cps.toList
theorem EH (x:Str):x.length=(tl x).length:=by simp[tl,Str.length]
def mZ (n:Nat):List Nat:=(Nat.toDigits 10 n).map Char.toNat
theorem Be (n:Nat):tl (Str.ofString (toString ((n:Nat):Int)))=mZ n:=PySem.W.KIN.signs_num n
theorem kP:∀ d:Nat,d < 10→(Nat.digitChar d).toNat=48+d:=by decide
theorem jW {n:Nat}(h:n < 10):mZ n=[48+n]:=by
 unfold mZ
 rw[Nat.toDigits_of_lt_base h]
 show [(Nat.digitChar n).toNat]=_
 rw[kP n h]
theorem fB {n:Nat}(h:10≤n):mZ n=mZ (n / 10) ++ [48+n % 10]:=by
 have hm:n % 10 < 10:=Nat.mod_lt n (by decide)
 have t:Nat.toDigits 10 (n / 10) ++ Nat.toDigits 10 (n % 10)=Nat.toDigits 10 (10*(n / 10)+n % 10):=Nat.toDigits_append_toDigits (by decide) (by omega) hm
 rw[Nat.div_add_mod]at t
 show (Nat.toDigits 10 n).map Char.toNat=_
 rw[←t,List.map_append,Nat.toDigits_of_lt_base hm]
 show (Nat.toDigits 10 (n / 10)).map Char.toNat ++ [(Nat.digitChar (n % 10)).toNat]=_
 rw[kP _ hm]<;>rfl
theorem we (n:Nat):NumText.AllDigits (mZ n):=by
 induction n using Nat.strongRecOn with
 |_ n ih=>
  by_cases h:n < 10
  ·rw[jW h]
   intro c hc
   rw[List.mem_singleton.mp hc]
   omega
  ·rw[fB (by omega)]
   intro c hc
   rcases List.mem_append.mp hc with hc | hc
   ·exact ih (n / 10) (by omega) c hc
   ·have hm:n % 10 < 10:=Nat.mod_lt n (by decide)
    rw[List.mem_singleton.mp hc]
    omega
theorem BN {n k:Nat}(hk:0 < k) (h:n < 10 ^ k):(mZ n).length≤k:=by
 have z:=PyProof.Rows.toString_length_le (v:=(n:Int)) (by omega) hk (by
  have e:((10:Int) ^ k)=((10 ^ k:Nat):Int):=by
   first
    |exact(Int.natCast_pow 10 k).symm
    |simp
  rw[e]
  first | exact Int.ofNat_lt.mpr h | omega)
 rw[EH,Be]at z
 exact z
end TL
end
namespace L2
open PySem PySem.Spec PyProof.Rows
theorem Dz {n:Nat}(h:n≤16777216):Builtin.Str.tooLong n=false:=by
 have e:(2:Nat) ^ 24=16777216:=by decide
 unfold Builtin.Str.tooLong sizeLine
 exact decide_eq_false (by omega)
section
variable {X:Cx}{pins:List (Addr×Obj)}{σ:St}{H:Hp}{s:Shared}{Q:VK}
end
section
variable {X:Cx}
end
section
variable {X:Cx}{o e:Expr}{to te:TE}
def tM1 (r:V→List V→Hp→VK→Prop) (to te:TE):TE:=fun σ H Q=>to σ H fun x H1=>(∃ a,x = .str a)∧te σ H1 fun y H2=>r x [y] H2 Q
theorem Fs {id:String}{name:Str}{apos pos:Pos}{r:V→List V→Hp→VK→Prop}(slot:Slot "str" name id) (ty:typeOf (.builtin id)=pure (.type "method_descriptor")) (rule:MtR X id r) (ho:PE X o to) (he:PE X e te)
  (hs:starEach [e] X.env=[(false,eval e X.env)]:=by rfl) (hbase:attributeBase o name X.env (eval o X.env)=eval o X.env:=by rfl) (hline:(apos.endLine == pos.line)=true:=by rfl) :
  PE X (.Call (.Attribute o name apos) [e] [] pos) (tM1 r to te):=by
 intro pins s σ H Q I h
 refine PySem.Call_method1 hbase hs hline (thn (ho pins s σ H _ I h) fun v s1 ⟨x,H1,I1,r1,q1⟩=>?_)
 obtain⟨⟨a,rfl⟩,q1⟩:=q1
 obtain⟨t,rfl⟩:=_root_.id r1
 refine⟨"str",_,F.plainAttrs_str,slot,ty,typeIs_str _ _ _,(fun _ e=>nomatch e),Calls.callWith_builtin rfl (Calls.evalArgs_plain (Calls.spliced_cons ?_))⟩
 exact thn (he pins s1 σ H1 _ I1 q1) fun u s2 ⟨y,H2,I2,r2,q2⟩=>Calls.spliced_nil (rule pins s2 σ H2 _ [y] _ [u] Q I2 r1 (.cons r2 .nil) q2)
end
end L2
namespace L2
open PySem PySem.Spec PyProof.Rows
section
variable {X:Cx}
end
end L2
namespace Att
open PySem PySem.W PySem.Calls PyProof.Rows
section
variable {prog:Program}{w:World}{A:Around}{E:Value→Shared→Prop}{s:Shared}{K:Frag}
end
end Att
namespace L2
open PySem PySem.Spec PyProof.Rows
end L2
namespace L2
open PySem PySem.Spec PyProof.Rows
abbrev KOf {K:PySem.W.Frag}{h:Heap}(_:K.In h):PySem.W.Frag:=K
end L2
namespace L2
open PySem PySem.Spec PyProof.Rows
def inClass (s:Stmt) (j:Nat):Stmt:=match s with
 | .ClassDef _ _ _ body _ _ _ _ _ _ _=>body.getD j (.Pass ⟨0,0,0,0⟩)
 |_=>.Pass ⟨0,0,0,0⟩
def dq (s:Stmt):Arguments:=match s with
 | .FunctionDef _ a _ _ _ _ _ _ _ _=>a
 |_=>{ posonlyargs:=[],args:=[],vararg:=none,kwonlyargs:=[],kw_defaults:=[],kwarg:=none,defaults:=[] }
def cM (s:Stmt):List Stmt:=match s with
 | .FunctionDef _ _ b _ _ _ _ _ _ _=>b
 |_=>[]
def au (s:Stmt):Scope:=match s with
 | .FunctionDef _ _ _ _ _ _ sc _ _ _=>sc
 |_=>{ kind:=.function,names:=[],isGenerator:=false,isCoroutine:=false }
abbrev CX0:CXT:=fun _ _ _ _ _ _=>False
abbrev E0:XK:=fun _ _ _=>False
theorem BD {X:Cx}:Passes CX0 X E0:=fun _ _ _ _ _ _ _ h=>h.elim
structure Fun (K:PySem.W.Frag) (x qual:Str) (st:Stmt) (f:Addr) (fd:FuncData):Prop where
 ex:∃ (oc:Value) (od:Option Addr) (kV doc pm:Value) (an:Option Addr) (cdv ct:Value) (osl:Array (Option Value)),
  fd=PySem.W.fnOf x qual (dq st) (cM st) (au st) .none kV doc pm an cdv ct∧K.lookup f=some ⟨oc,od,.func fd,osl⟩∧PySem.W.codeIn K cdv qual=true
 kp:PySem.W.keepIn K (.ref f)=true
section
variable {P:Program}{w:World}{K:PySem.W.Frag}{mg:Str→Option Value}{base:Heap}
theorem Fun.ok {x qual:Str}{st:Stmt}{f:Addr}{fd:FuncData}{N ps:List Str}{k:Nat}{sp:Sp}(F:Fun K x qual st f fd) (S:aG N ps (au st)) (len:∀ vs H Q E,sp vs H Q E→vs.length=ps.length)
  (hbody:∀ (cdv:Value) (A:Around) (outer:List Env) (s:Shared) (H:Hp) (vs:List V) (Q:VK) (E:XK),dD k (A.deeper (envOfC qual (au st) s.heap.objs.size f cdv))→sp vs H Q E →
   ∃ t,PSs (u7 CX0 P w K mg base N qual (au st) f cdv A outer s H E).nox (cM st) t∧t { nx:=fun _ H'=>Q .non H',rt:=Q } (start N vs) H):kg P w K mg base CX0 (k+1) f fd ps sp:=by
 obtain⟨oc,od,kV,doc,pm,an,cdv,ct,osl,rfl,lk,hcd⟩:=F.ex
 refine Ed lk hcd S len fun A outer s H vs Q E hr hsp=>?_
 obtain⟨t,h,q⟩:=hbody cdv A outer s H vs Q E hr hsp
 exact⟨t,h.nox,q⟩
theorem Fun.binds {x qual:Str}{st:Stmt}{f:Addr}{fd:FuncData}{ps:List Str}(F:Fun K x qual st f fd)
  (h:∀ (kV doc pm:Value) (an:Option Addr) (cdv ct:Value) (us:List Value),us.length=ps.length→bindArgs (PySem.W.fnOf x qual (dq st) (cM st) (au st) .none kV doc pm an cdv ct) ⟨us,[]⟩=pure (ps.zip us)):Binds K fd ps []:=by
 obtain⟨oc,od,kV,doc,pm,an,cdv,ct,osl,rfl,lk,hcd⟩:=F.ex
 exact .all (h kV doc pm an cdv ct)
theorem dv {x qual:Str}{st:Stmt}{f:Addr}{oc:Value}{od an:Option Addr}{osl:Array (Option Value)}{kV doc pm cdv ct:Value}(l:K.lookup f=some ⟨oc,od,.func (PySem.W.fnOf x qual (dq st) (cM st) (au st) .none kV doc pm an cdv ct),osl⟩)
  (c:PySem.W.codeIn K cdv qual=true) (k:PySem.W.keepIn K (.ref f)=true):Fun K x qual st f (PySem.W.fnOf x qual (dq st) (cM st) (au st) .none kV doc pm an cdv ct):=⟨⟨oc,od,kV,doc,pm,an,cdv,ct,osl,rfl,l,c⟩,k⟩
end
theorem bR {A:Around}{k:Nat}(hr:dD k A):A.units+1 < cLine:=Nat.lt_of_le_of_lt (Nat.add_le_add_left (by decide:1≤64) _) hr.units
section
variable {X:Cx}
theorem pv (i:Nat) {x:Str}{pos:Pos}(hN:X.N[i]? = some x:=by rfl) (hv:Vis X.env.scope x:=by first | exact Or.inl rfl | exact Or.inr (Or.inl rfl) | exact Or.inr (Or.inr rfl)) (hd:(x == ("__debug__" : Str))=false:=by decide)
  (hcd:(x == ("__classdict__" : Str))=false:=by decide):PE X (.Name x pos) (kT i):=Ez hN hv hd hcd
theorem gZ:g5 X (.builtin "len") (fun xs H Q=>∃ a kvs,xs=[V.ref a]∧H a=some (.dK kvs)∧Q (.int kvs.length) H):=by
 intro pins s σ H xs us Q I r h
 obtain⟨a,kvs,rfl,ha,q⟩:=h
 obtain⟨u,rfl,ru⟩:=vals1 r
 cases ru
 exact FO I (.inl ha) fun t s' I'=>⟨.int kvs.length,H,I',⟨t,rfl⟩,q⟩
end
theorem F9 {c A B:Prop} [Decidable c] (h1:c→A) (h2:¬ c→B):if c then A else B:=by
 by_cases h:c
 ·rw[if_pos h]
  exact h1 h
 ·rw[if_neg h]
  exact h2 h
def ao (H H':Hp):Prop:=∀ b o,H b=some o→H' b=some o
theorem ao.refl (H:Hp):ao H H:=fun _ _ h=>h
theorem ao.trans {H H1 H2:Hp}(a:ao H H1) (b:ao H1 H2):ao H H2:=fun c o h=>b c o (a c o h)
theorem ao.free {H H':Hp}(e:ao H H') {l:Addr}(h:H' l=Option.none):H l=Option.none:=by
 cases q:H l with
 |none=>rfl
 |some o=>
  rw[e l o q]at h
  cases h
theorem ao.seq {K:PySem.W.Frag}{H H':Hp}{a:Addr}{xs:List V}(e:ao H H') (h:SqL K H a xs):SqL K H' a xs:=by
 rcases h with (h | ⟨o,h⟩) | h
 ·exact .inl (.inl (e _ _ h))
 ·exact .inl (.inr ⟨o,e _ _ h⟩)
 ·exact .inr h
section
variable {κ:Type} [DecidableEq κ]
theorem zo:∀ {l:List κ}{k:κ},l.Nodup→¬ k∈l→(l ++ [k]).Nodup
 | [],k,_,_=>by simp
 |a :: r,k,h,hk=>by
  obtain⟨h1,h2⟩:=List.nodup_cons.mp h
  show (a :: (r ++ [k])).Nodup
  refine List.nodup_cons.mpr ⟨fun m=>?_,zo h2 fun m=>hk (List.mem_cons.mpr (Or.inr m))⟩
  rcases List.mem_append.mp m with q | q
  ·exact h1 q
  ·exact hk (List.mem_cons.mpr (Or.inl (List.mem_singleton.mp q).symm))
end
theorem wj {α:Type}{l:List α}(hN:l.Nodup) {i j:Nat}{x:α}(a:l[i]? = some x) (b:l[j]? = some x):i=j:=by
 obtain⟨h1,e1⟩:=List.getElem?_eq_some_iff.mp a
 obtain⟨h2,e2⟩:=List.getElem?_eq_some_iff.mp b
 exact(List.getElem_inj hN).mp (e1.trans e2.symm)
end L2
local macro_rules
  | `(tactic| walk_at "S") => `(tactic| exact ⟨rfl, rfl, rfl, by decide +kernel, rfl, by decide +kernel, by decide +kernel⟩)
section
set_option Elab.async false
set_option linter.all false
set_option maxRecDepth 100000
set_option maxHeartbeats 2000000
namespace L2
open PySem PySem.Spec PyProof.Rows
open PySem.W (WData Codec OpenSpec Well WellAll ReadsW ReadsAllW)
mutual
inductive Dw (K:PySem.W.Frag) (H:Hp):V→WData→Prop
 |non:Dw K H .non .none
 |bl (b:Bool):Dw K H (.bl b) (.bool b)
 |int (i:Int):Dw K H (.int i) (.int i)
 |str (x:Str):Dw K H (.str x) (.str x)
 |byt (b:Array UInt8):Dw K H (.byt b) (.bytes b.toList)
 |lst {a:Addr}{xs:List V}{ds:List WData}:SqL K H a xs→g4 K H xs ds→Dw K H (.ref a) (.list ds)
 |tup {a:Addr}{xs:List V}{ds:List WData}:SqT K H a xs→g4 K H xs ds→Dw K H (.ref a) (.tuple ds)
inductive g4 (K:PySem.W.Frag) (H:Hp):List V→List WData→Prop
 |nil:g4 K H [] []
 |cons {v:V}{vs:List V}{d:WData}{ds:List WData}:Dw K H v d→g4 K H vs ds→g4 K H (v :: vs) (d :: ds)
end
theorem zE {K:PySem.W.Frag}{H:Hp}:∀ ns:List Int,g4 K H (ns.map V.int) (ns.map WData.int)
 | []=>.nil
 |n :: r=>.cons (.int n) (zE r)
theorem zA {K:PySem.W.Frag}{H:Hp}:∀ (ns:List Int) (xs:List V),g4 K H xs (ns.map WData.int)→xs=ns.map V.int
 | [],xs,h=>by
  cases h
  rfl
 |n :: r,xs,h=>by
  cases h with
  |cons h1 h2=>
   cases h1
   rw[zA r _ h2]<;>rfl
section
variable {P:Program}{w:World}{K:PySem.W.Frag}{H:Hp}{h:Heap}{R:PySem.W.WRecords}{cl:Str→Option Addr}
theorem Er {a:Addr}{xs:List V}(hok:HOk P w H h) (KX:K.In h) (q:SqL K H a xs):∃ (its:List Value) (o:Obj) (n:Nat),Vals xs its∧h.get? a=some o∧o.cls = .type "list"∧o.data = .seq its.toArray n:=by
 rcases q with q | ⟨o,its,n,e,hc,_,hd,_,hv⟩
 ·obtain⟨_,its,n,hv,e⟩:=(show bS P w H h a (.lst xs) from q.ok hok)
  exact⟨its,_,n,hv,e,rfl,rfl⟩
 ·exact⟨its.toList,o,n,hv,KX _ _ e,hc,by simp[hd]⟩
theorem Ep {a:Addr}{xs:List V}(hok:HOk P w H h) (KX:K.In h) (q:SqT K H a xs):∃ (its:List Value) (o:Obj) (n:Nat),Vals xs its∧h.get? a=some o∧o.cls = .type "tuple"∧o.data = .seq its.toArray n:=by
 rcases q with q | ⟨o,its,n,e,hc,hd,_,hv⟩
 ·obtain⟨_,its,hv,o,e,hc,n,hd⟩:=(show bS P w H h a (.tup xs) from q.ok hok)
  exact⟨its,o,n,hv,e,hc,hd⟩
 ·exact⟨its.toList,o,n,hv,KX _ _ e,hc,by simp[hd]⟩
mutual
theorem Dw.reads (hok:HOk P w H h) (KX:K.In h):∀ (d:WData) (v:V) (u:Value),Dw K H v d→RelV v u→∃ as,ReadsW R cl h u d as
 | .none,_,_,x,r=>by
  cases x
  cases r
  exact⟨_,ReadsW.none⟩
 | .bool b,_,_,x,r=>by
  cases x
  cases r
  exact⟨_,ReadsW.bool b⟩
 | .int i,_,_,x,r=>by
  cases x
  obtain⟨t,rfl⟩:=r
  exact⟨_,ReadsW.int i t⟩
 | .str s,_,_,x,r=>by
  cases x
  obtain⟨t,rfl⟩:=r
  exact⟨_,ReadsW.str s t⟩
 | .bytes b,_,_,x,r=>by
  cases x
  obtain⟨t,rfl⟩:=r
  exact⟨_,ReadsW.bytes _ t⟩
 | .list ds,_,_,x,r=>by
  cases x with
  |lst hs ha=>
   cases r
   obtain⟨its,o,n,rv,ho,hc,hd⟩:=Er hok KX hs
   obtain⟨as,hr⟩:=Dw.readsAll hok KX ds _ its ha rv
   exact⟨_,ReadsW.list ho hc hd hr⟩
 | .tuple ds,_,_,x,r=>by
  cases x with
  |tup hs ha=>
   cases r
   obtain⟨its,o,n,rv,ho,hc,hd⟩:=Ep hok KX hs
   obtain⟨as,hr⟩:=Dw.readsAll hok KX ds _ its ha rv
   exact⟨_,ReadsW.tuple ho hc hd hr⟩
 | .float _,_,_,x,_=>by cases x
 | .dict _,_,_,x,_=>by cases x
 | .bytearray _,_,_,x,_=>by cases x
 | .set _,_,_,x,_=>by cases x
 | .frozenset _,_,_,x,_=>by cases x
 | .obj _ _,_,_,x,_=>by cases x
theorem Dw.readsAll (hok:HOk P w H h) (KX:K.In h):∀ (ds:List WData) (vs:List V) (us:List Value),g4 K H vs ds→Vals vs us→∃ as,ReadsAllW R cl h us ds as
 | [],_,_,x,r=>by
  cases x
  cases r
  exact⟨_,ReadsAllW.nil⟩
 |d :: ds,_,_,x,r=>by
  cases x with
  |cons h1 h2=>
   cases r with
   |cons r1 r2=>
    obtain⟨as,q1⟩:=Dw.reads hok KX d _ _ h1 r1
    obtain⟨bs,q2⟩:=Dw.readsAll hok KX ds _ _ h2 r2
    exact⟨_,ReadsAllW.cons q1 q2⟩
end
end
mutual
def plW:WData→Bool
 | .none=>true
 | .bool _=>true
 | .int _=>true
 | .str _=>true
 | .bytes _=>true
 | .list xs=>oM xs
 | .tuple xs=>oM xs
 |_=>false
def oM:List WData→Bool
 | []=>true
 |x :: r=>plW x && oM r
end
theorem vV {α:Type}{f:α→WData}(h:∀ a,plW (f a)=true):∀ l:List α,oM (l.map f)=true
 | []=>rfl
 |x :: r=>by
  show (plW (f x) && oM (r.map f))=true
  rw[h x,vV h r]<;>rfl
theorem jn:∀ (c:Codec) (a:c.denote),plW (c.enc a)=true
 | .unit,_=>rfl
 | .bool,_=>rfl
 | .int _ _,_=>rfl
 | .nat _ _,_=>rfl
 | .u8,_=>rfl
 | .bytes _ _,_=>rfl
 | .text _ _ _ _,_=>rfl
 | .list _ _ c,a=>vV (fun x=>jn c x) a
 | .pair c d,a=>by
  show (plW (c.enc a.1) && (plW (d.enc a.2) && true))=true
  rw[jn c a.1,jn d a.2]<;>rfl
 | .triple c d e,a=>by
  show (plW (c.enc a.1) && (plW (d.enc a.2.1) && (plW (e.enc a.2.2) && true)))=true
  rw[jn c a.1,jn d a.2.1,jn e a.2.2]<;>rfl
 | .option c,none=>rfl
 | .option c,some x=>jn c x
theorem sX:∀ (cs:List Codec) (a:Codec.denoteAll cs),oM (Codec.encAll cs a)=true
 | [],_=>rfl
 |c :: cs,a=>by
  show (plW (c.enc a.1) && oM (Codec.encAll cs a.2))=true
  rw[jn c a.1,sX cs a.2]<;>rfl
theorem kQ:∀ {xs:List WData}{d:WData},d∈xs→d.weight≤WData.weightAll xs
 | [],d,h=>absurd h (by simp)
 |x :: r,d,h=>by
  show d.weight≤x.weight+1+WData.weightAll r
  rcases List.mem_cons.mp h with e | m
  ·rw[e]
   omega
  ·have z:=kQ m
   omega
def toV:Value→V
 | .none=>.non
 | .bool b=>.bl b
 | .int i _=>.int i
 | .str x _=>.str x
 | .bytes b _=>.byt b
 | .ref a=>.ref a
 |_=>.non
def OkU (A:List Addr):Value→Prop
 | .none=>True
 | .bool _=>True
 | .int _ _=>True
 | .str _ _=>True
 | .bytes _ _=>True
 | .ref a=>a∈A
 |_=>False
theorem OkU.mono {A B:List Addr}(h:∀ a∈A,a∈B):∀ {u:Value},OkU A u→OkU B u:=fun {u} x=>by
 cases u with
 |ref a=>exact h a x
 |none=>trivial
 |bool b=>trivial
 |int i t=>trivial
 |str s t=>trivial
 |bytes b t=>trivial
 |_=>exact False.elim x
theorem Bw {A:List Addr}{u:Value}(x:OkU A u):RelV (toV u) u:=by
 cases u with
 |ref a=>rfl
 |none=>rfl
 |bool b=>rfl
 |int i t=>exact⟨t,rfl⟩
 |str s t=>exact⟨t,rfl⟩
 |bytes b t=>exact⟨t,rfl⟩
 |_=>exact False.elim x
theorem gz {A:List Addr}:∀ {vs:List Value},(∀ u∈vs,OkU A u)→Vals (vs.map toV) vs
 | [],_=>.nil
 |u :: r,h=>.cons (Bw (h u (List.mem_cons_self ..))) (gz fun x hx=>h x (List.mem_cons_of_mem _ hx))
def jP (h:Heap) (A:List Addr) (a:Addr):Prop:=∃ vs:List Value,vs.length≤sizeLine∧(∀ u∈vs,OkU A u) ∧
 (h.get? a=some { cls:=.type "list",data:=.seq vs.toArray }∨h.get? a=some { cls:=.type "tuple",data:=.seq vs.toArray })
theorem jP.mono {h:Heap}{A B:List Addr}{a:Addr}(k:∀ a∈A,a∈B) (x:jP h A a):jP h B a:=by
 obtain⟨vs,h1,h2,h3⟩:=x
 exact⟨vs,h1,fun u hu=>(h2 u hu).mono k,h3⟩
theorem fU {P:Params}{h:Heap}:∀ {vs:List Value}{ds:List WData},WellAll P h vs ds→vs.length=ds.length
 |_,_,.nil=>rfl
 |_,_,.cons _ b=>by
  show _+1=_+1
  rw[fU b]
theorem sx {P:Params}{h:Heap}{v:Value}{ds:List WData}(x:Well P h v (.list ds)):∃ (a:Addr) (vs:List Value),v = .ref a∧h.get? a=some { cls:=.type "list",data:=.seq vs.toArray }∧WellAll P h vs ds:=by
 cases x with
 |list ho hall=>exact⟨_,_,rfl,ho,hall⟩
theorem px {P:Params}{h:Heap}{v:Value}{ds:List WData}(x:Well P h v (.tuple ds)):∃ (a:Addr) (vs:List Value),v = .ref a∧h.get? a=some { cls:=.type "tuple",data:=.seq vs.toArray }∧WellAll P h vs ds:=by
 cases x with
 |tuple ho hall=>exact⟨_,_,rfl,ho,hall⟩
theorem sy {P:Params}{h:Heap}{us:List Value}{d:WData}{ds:List WData}(x:WellAll P h us (d :: ds)):∃ (v:Value) (vs:List Value),us=v :: vs∧Well P h v d∧WellAll P h vs ds:=by
 cases x with
 |cons a b=>exact⟨_,_,rfl,a,b⟩
theorem zv {n:Nat}(h:n≤1048576):n≤sizeLine:=Nat.le_trans h (by decide)
section
variable {P:Params}{h:Heap}
mutual
theorem CM:∀ (d:WData) (v:Value),Well P h v d→plW d=true→d.weight≤1048576→∃ A:List Addr,OkU A v∧∀ a∈A,jP h A a
 | .none,_,x,_,_=>by
  cases x
  exact⟨[],trivial,fun a m=>absurd m (by simp)⟩
 | .bool b,_,x,_,_=>by
  cases x
  exact⟨[],trivial,fun a m=>absurd m (by simp)⟩
 | .int i,_,x,_,_=>by
  cases x
  exact⟨[],trivial,fun a m=>absurd m (by simp)⟩
 | .str s,_,x,_,_=>by
  cases x
  exact⟨[],trivial,fun a m=>absurd m (by simp)⟩
 | .bytes b,_,x,_,_=>by
  cases x
  exact⟨[],trivial,fun a m=>absurd m (by simp)⟩
 | .list ds,_,x,p,z=>by
  obtain⟨a,vs,rfl,ho,hall⟩:=sx x
  have z2:WData.weightAll ds≤1048576:=z
  obtain⟨A,h1,h2⟩:=mN ds _ hall p fun d hd=>Nat.le_trans (kQ hd) z2
  have k:∀ b∈A,b∈a :: A:=fun b hb=>List.mem_cons_of_mem _ hb
  refine⟨a :: A,List.mem_cons_self ..,fun b hb=>?_⟩
  rcases List.mem_cons.mp hb with e | m
  ·rw[e]
   exact⟨vs,zv (by rw[fU hall];exact Nat.le_trans (PySem.W.length_le_weightAllW ds) z2),fun u hu=>(h1 u hu).mono k,.inl ho⟩
  ·exact(h2 b m).mono k
 | .tuple ds,_,x,p,z=>by
  obtain⟨a,vs,rfl,ho,hall⟩:=px x
  have z2:WData.weightAll ds≤1048576:=z
  obtain⟨A,h1,h2⟩:=mN ds _ hall p fun d hd=>Nat.le_trans (kQ hd) z2
  have k:∀ b∈A,b∈a :: A:=fun b hb=>List.mem_cons_of_mem _ hb
  refine⟨a :: A,List.mem_cons_self ..,fun b hb=>?_⟩
  rcases List.mem_cons.mp hb with e | m
  ·rw[e]
   exact⟨vs,zv (by rw[fU hall];exact Nat.le_trans (PySem.W.length_le_weightAllW ds) z2),fun u hu=>(h1 u hu).mono k,.inr ho⟩
  ·exact(h2 b m).mono k
 | .float _,_,_,p,_=>Bool.noConfusion (show false=true from p)
 | .dict _,_,_,p,_=>Bool.noConfusion (show false=true from p)
 | .bytearray _,_,_,p,_=>Bool.noConfusion (show false=true from p)
 | .set _,_,_,p,_=>Bool.noConfusion (show false=true from p)
 | .frozenset _,_,_,p,_=>Bool.noConfusion (show false=true from p)
 | .obj _ _,_,_,p,_=>Bool.noConfusion (show false=true from p)
theorem mN:∀ (ds:List WData) (vs:List Value),WellAll P h vs ds→oM ds=true→(∀ d∈ds,d.weight≤1048576)→∃ A:List Addr,(∀ u∈vs,OkU A u)∧∀ a∈A,jP h A a
 | [],_,x,_,_=>by
  cases x
  exact⟨[],fun u m=>absurd m (by simp),fun a m=>absurd m (by simp)⟩
 |d :: ds,_,x,p,z=>by
  obtain⟨v,vs,rfl,x1,x2⟩:=sy x
  have q:plW d=true∧oM ds=true:=Bool.and_eq_true_iff.mp p
  obtain⟨A,a1,a2⟩:=CM d v x1 q.1 (z d (List.mem_cons_self ..))
  obtain⟨B,b1,b2⟩:=mN ds vs x2 q.2 fun e he=>z e (List.mem_cons_of_mem _ he)
  have kA:∀ b∈A,b∈A ++ B:=fun b hb=>List.mem_append.mpr (.inl hb)
  have kB:∀ b∈B,b∈A ++ B:=fun b hb=>List.mem_append.mpr (.inr hb)
  refine⟨A ++ B,fun u hu=>?_,fun b hb=>?_⟩
  ·rcases List.mem_cons.mp hu with e | m
   ·rw[e]
    exact a1.mono kA
   ·exact(b1 u m).mono kB
  ·rcases List.mem_append.mp hb with m | m
   ·exact(a2 b m).mono kA
   ·exact(b2 b m).mono kB
end
end
def DI (o:Obj):Option HO:=match o.data with
 | .seq vs _=>if (o.cls == Value.type "list")=true then some (.frz o (.lst (vs.toList.map toV))) else some (.frz o (.tup (vs.toList.map toV)))
 |_=>none
def mM (K:PySem.W.Frag) (h:Heap) (A:List Addr):Hp:=fun b=>if b∈A then (if (K.lookup b).isNone=true then (h.get? b).bind DI else none) else none
theorem wA (vs:List Value):DI { cls:=.type "list",data:=.seq vs.toArray }=some (.frz { cls:=.type "list",data:=.seq vs.toArray } (.lst (vs.map toV))):=by
 show (if (Value.type "list" == Value.type "list")=true then some (HO.frz { cls:=.type "list",data:=.seq vs.toArray } (.lst (vs.toArray.toList.map toV))) else some (HO.frz { cls:=.type "list",data:=.seq vs.toArray } (.tup (vs.toArray.toList.map toV))))=_
 rw[if_pos (beq_self_eq_true _)]
theorem wz (vs:List Value):DI { cls:=.type "tuple",data:=.seq vs.toArray }=some (.frz { cls:=.type "tuple",data:=.seq vs.toArray } (.tup (vs.map toV))):=by
 show (if (Value.type "tuple" == Value.type "list")=true then some (HO.frz { cls:=.type "tuple",data:=.seq vs.toArray } (.lst (vs.toArray.toList.map toV))) else some (HO.frz { cls:=.type "tuple",data:=.seq vs.toArray } (.tup (vs.toArray.toList.map toV))))=_
 rw[if_neg (by decide)]
section
variable {P:Program}{w:World}{K:PySem.W.Frag}{h:Heap}{A:List Addr}
theorem pq {b:Addr}{o:Obj}(hb:b∈A) (hk:K.lookup b=none) (e:h.get? b=some o):mM K h A b=DI o:=by
 unfold mM
 rw[if_pos hb,hk,if_pos (show (none:Option Obj).isNone=true from rfl),e]<;>rfl
theorem Dy {b:Addr}{u:HO}(q:mM K h A b=some u):b∈A∧K.lookup b=none:=by
 unfold mM at q
 by_cases hb:b∈A
 ·rw[if_pos hb]at q
  cases hk:K.lookup b with
  |none=>exact⟨hb,rfl⟩
  |some o=>
   rw[hk,if_neg (by simp)]at q
   cases q
 ·rw[if_neg hb]at q
  cases q
theorem zM (ar:∀ a∈A,jP h A a) {b:Addr}{u:HO}(q:mM K h A b=some u):K.lookup b=none∧∃ vs:List Value,vs.length≤sizeLine∧(∀ u∈vs,OkU A u) ∧
  ((h.get? b=some { cls:=.type "list",data:=.seq vs.toArray }∧u = .frz { cls:=.type "list",data:=.seq vs.toArray } (.lst (vs.map toV))) ∨
   (h.get? b=some { cls:=.type "tuple",data:=.seq vs.toArray }∧u = .frz { cls:=.type "tuple",data:=.seq vs.toArray } (.tup (vs.map toV)))):=by
 obtain⟨hb,hk⟩:=Dy q
 obtain⟨vs,h1,h2,h3⟩:=ar b hb
 refine⟨hk,vs,h1,h2,?_⟩
 rcases h3 with e | e
 ·rw[pq hb hk e,wA]at q
  exact .inl ⟨e,(Option.some.inj q).symm⟩
 ·rw[pq hb hk e,wz]at q
  exact .inr ⟨e,(Option.some.inj q).symm⟩
theorem DU (ar:∀ a∈A,jP h A a):HOk P w (mM K h A) h:=fun b u q=>by
 obtain⟨_,vs,h1,h2,⟨e,rfl⟩ | ⟨e,rfl⟩⟩:=zM ar q
 ·exact⟨e,by rw[List.length_map];exact h1,vs,_,gz h2,e⟩
 ·exact⟨e,by rw[List.length_map];exact h1,vs,gz h2,_,e,rfl,_,rfl⟩
theorem o6 {c c':Value}{vs us:List Value}(e:(some { cls:=c,data:=.seq vs.toArray }:Option Obj)=some { cls:=c',data:=.seq us.toArray }):c=c'∧vs=us:=by
 have e1:=Option.some.inj e
 have e2:c=c':=congrArg Obj.cls e1
 have e3:Data.seq vs.toArray=Data.seq us.toArray:=congrArg Obj.data e1
 injection e3 with e4
 refine⟨e2,?_⟩
 have e5:=congrArg Array.toList e4
 simpa using e5
theorem Gj (KX:K.In h) (ar:∀ a∈A,jP h A a) {a:Addr}{vs:List Value}(ha:a∈A) (e:h.get? a=some { cls:=.type "list",data:=.seq vs.toArray }):(∀ u∈vs,OkU A u)∧SqL K (mM K h A) a (vs.map toV):=by
 obtain⟨us,h1,h2,h3⟩:=ar a ha
 have hu:us=vs:=by
  rcases h3 with q | q
  ·rw[e]at q
   exact(o6 q).2.symm
  ·rw[e]at q
   exact absurd (Value.type.inj (o6 q).1) (by decide)
 subst hu
 refine⟨h2,?_⟩
 cases hk:K.lookup a with
 |none=>exact .inl (.inr ⟨_,by rw[pq ha hk e,wA]⟩)
 |some o=>
  have e2:=KX a o hk
  rw[e]at e2
  obtain rfl:=Option.some.inj e2
  exact .inr ⟨_,us.toArray,_,hk,rfl,rfl,rfl,by rw[List.size_toArray];exact h1,by simpa using gz h2⟩
theorem Gi (KX:K.In h) (ar:∀ a∈A,jP h A a) {a:Addr}{vs:List Value}(ha:a∈A) (e:h.get? a=some { cls:=.type "tuple",data:=.seq vs.toArray }):(∀ u∈vs,OkU A u)∧SqT K (mM K h A) a (vs.map toV):=by
 obtain⟨us,h1,h2,h3⟩:=ar a ha
 have hu:us=vs:=by
  rcases h3 with q | q
  ·rw[e]at q
   exact absurd (Value.type.inj (o6 q).1) (by decide)
  ·rw[e]at q
   exact(o6 q).2.symm
 subst hu
 refine⟨h2,?_⟩
 cases hk:K.lookup a with
 |none=>exact .inl (.inr ⟨_,by rw[pq ha hk e,wz]⟩)
 |some o=>
  have e2:=KX a o hk
  rw[e]at e2
  obtain rfl:=Option.some.inj e2
  exact .inr ⟨_,us.toArray,_,hk,rfl,rfl,by rw[List.size_toArray];exact h1,by simpa using gz h2⟩
mutual
theorem EX {Pm:Params}(KX:K.In h) (ar:∀ a∈A,jP h A a):∀ (d:WData) (v:Value),Well Pm h v d→plW d=true→OkU A v→Dw K (mM K h A) (toV v) d
 | .none,_,x,_,_=>by
  cases x
  exact .non
 | .bool b,_,x,_,_=>by
  cases x
  exact .bl b
 | .int i,_,x,_,_=>by
  cases x
  exact .int i
 | .str s,_,x,_,_=>by
  cases x
  exact .str s
 | .bytes b,_,x,_,_=>by
  cases x
  have z:=Dw.byt (K:=K) (H:=mM K h A) b.toArray
  exact z
 | .list ds,_,x,p,hu=>by
  obtain⟨a,vs,rfl,ho,hall⟩:=sx x
  obtain⟨h2,hs⟩:=Gj KX ar hu ho
  exact .lst hs (uZ KX ar ds _ hall p h2)
 | .tuple ds,_,x,p,hu=>by
  obtain⟨a,vs,rfl,ho,hall⟩:=px x
  obtain⟨h2,hs⟩:=Gi KX ar hu ho
  exact .tup hs (uZ KX ar ds _ hall p h2)
 | .float _,_,_,p,_=>Bool.noConfusion (show false=true from p)
 | .dict _,_,_,p,_=>Bool.noConfusion (show false=true from p)
 | .bytearray _,_,_,p,_=>Bool.noConfusion (show false=true from p)
 | .set _,_,_,p,_=>Bool.noConfusion (show false=true from p)
 | .frozenset _,_,_,p,_=>Bool.noConfusion (show false=true from p)
 | .obj _ _,_,_,p,_=>Bool.noConfusion (show false=true from p)
theorem uZ {Pm:Params}(KX:K.In h) (ar:∀ a∈A,jP h A a):∀ (ds:List WData) (vs:List Value),WellAll Pm h vs ds→oM ds=true→(∀ u∈vs,OkU A u)→g4 K (mM K h A) (vs.map toV) ds
 | [],_,x,_,_=>by
  cases x
  exact .nil
 |d :: ds,_,x,p,hu=>by
  obtain⟨v,vs,rfl,x1,x2⟩:=sy x
  have q:plW d=true∧oM ds=true:=Bool.and_eq_true_iff.mp p
  exact .cons (EX KX ar d v x1 q.1 (hu _ (List.mem_cons_self ..))) (uZ KX ar ds vs x2 q.2 fun u m=>hu u (List.mem_cons_of_mem _ m))
end
end
theorem qx {ds:List WData}(h:WData.layableAll ds=true):∀ d∈ds,d.weight≤1048576:=fun d hd=>
 (PySem.W.layableW_iff.mp (List.all_eq_true.mp h d hd)).2.2
theorem qQ:∀ (cs:List Codec) (a:Codec.denoteAll cs),(Codec.encAll cs a).length=cs.length
 | [],_=>rfl
 |c :: cs,a=>by
  show (Codec.encAll cs a.2).length+1=cs.length+1
  rw[qQ cs a.2]
end L2
end
namespace CalM
open Vbnlaa
noncomputable def cI:Cal→Int
 | .greg=>0
 | .jul=>1
 | .rep=>2
noncomputable def lyu (c:Cal) (y:Nat):Int:=match c with
 | .greg=>(y:Int) / 4 - (y:Int) / 100+(y:Int) / 400
 | .jul=>(y:Int) / 4
 | .rep=>((([3,7,11]:List Int).filter fun l=>decide (l≤(y:Int))).length:Int)
theorem mH (y k:Nat):((y+1:Nat):Int) / (k:Int)=(y:Int) / (k:Int)+(if (y+1) % k=0 then 1 else 0):=by
 have h:=@Nat.succ_div y k
 rw[←Int.natCast_ediv,←Int.natCast_ediv,h]
 by_cases d:k ∣ y+1
 ·rw[if_pos d,if_pos (Nat.mod_eq_zero_of_dvd d)];rfl
 ·rw[if_neg d,if_neg (fun z=>d (Nat.dvd_of_mod_eq_zero z))];rfl
theorem BY (c:Cal) (y:Nat):lyu c (y+1)=lyu c y+(if leap c (y+1)=true then 1 else 0):=by
 cases c with
 |greg=>
  simp only[lyu,leap]
  have e1:((y+1:Nat):Int) / 4=(y:Int) / 4+(if (y+1) % 4=0 then 1 else 0):=mH y 4
  have e2:((y+1:Nat):Int) / 100=(y:Int) / 100+(if (y+1) % 100=0 then 1 else 0):=mH y 100
  have e3:((y+1:Nat):Int) / 400=(y:Int) / 400+(if (y+1) % 400=0 then 1 else 0):=mH y 400
  rw[e1,e2,e3]
  have k1:(y+1) % 100=0→(y+1) % 4=0:=fun h=>by omega
  have k2:(y+1) % 400=0→(y+1) % 100=0:=fun h=>by omega
  clear e1 e2 e3
  generalize (y:Int) / 4=a,(y:Int) / 100=b,(y:Int) / 400=c
  by_cases h3:(y+1) % 400=0
  ·have h2:=k2 h3
   simp[k1 h2,h2,h3]
   clear h2 h3 k1 k2
   omega
  ·by_cases h2:(y+1) % 100=0
   ·simp[k1 h2,h2,h3]
    clear h2 h3 k1 k2
    omega
   ·by_cases h1:(y+1) % 4=0<;>simp[h1,h2,h3]
    clear h1 h2 h3 k1 k2
    omega
 |jul=>
  simp only[lyu,leap]
  have e1:((y+1:Nat):Int) / 4=(y:Int) / 4+(if (y+1) % 4=0 then 1 else 0):=mH y 4
  rw[e1]
  by_cases h1:(y+1) % 4=0<;>simp[h1]
 |rep=>
  simp only[lyu,leap]
  by_cases h1:y < 12
  ·match y,h1 with
   |0,_=>decide
   |1,_=>decide
   |2,_=>decide
   |3,_=>decide
   |4,_=>decide
   |5,_=>decide
   |6,_=>decide
   |7,_=>decide
   |8,_=>decide
   |9,_=>decide
   |10,_=>decide
   |11,_=>decide
  ·have f:∀ n:Nat,11≤n→(([3,7,11]:List Int).filter fun l=>decide (l≤(n:Int)))=[3,7,11]:=by
    intro n hn
    apply List.filter_eq_self.mpr
    intro a ha
    simp at ha
    apply decide_eq_true
    omega
   rw[f (y+1) (by omega),f y (by omega)]
   have c4:¬ y=2:=by omega
   have c5:¬ y=6:=by omega
   have c6:¬ y=10:=by omega
   simp[c4,c5,c6]
theorem cA (c:Cal) {y:Nat}(h:firstYear c≤y):yearStart c (y+1)=yearStart c y+yearDays c y:=by
 unfold yearStart
 have e:y+1 - firstYear c=(y - firstYear c)+1:=by omega
 rw[e]
 show origin c+(total (yearDays c) (firstYear c) (y - firstYear c)+yearDays c (firstYear c+(y - firstYear c)))=_
 have e2:firstYear c+(y - firstYear c)=y:=by omega
 rw[e2]
 omega
theorem Cg (c:Cal):1≤firstYear c:=by cases c<;>decide
theorem lx (c:Cal):∀ (k:Nat),(yearStart c (firstYear c+k):Int)=origin c+365*(k:Int)+(lyu c (firstYear c+k - 1) - lyu c (firstYear c - 1))
 |0=>by
  unfold yearStart
  rw[Nat.add_zero,Nat.sub_self]
  simp[total]
 |k+1=>by
  have ih:=lx c k
  have hp:=Cg c
  rw[show firstYear c+(k+1)=(firstYear c+k)+1 from rfl,cA c (Nat.le_add_right _ _)]
  have e:=BY c (firstYear c+k - 1)
  rw[show firstYear c+k - 1+1=firstYear c+k from by omega]at e
  rw[show firstYear c+k+1 - 1=firstYear c+k from by omega,e]
  unfold yearDays
  split<;>(rename_i hl;simp only[hl]at *;omega)
theorem kh (c:Cal) {y:Nat}(h:firstYear c≤y):(yearStart c y:Int)=origin c+365*((y:Int) - (firstYear c:Int))+(lyu c (y - 1) - lyu c (firstYear c - 1)):=by
 have:=lx c (y - firstYear c)
 rw[show firstYear c+(y - firstYear c)=y from by omega]at this
 rw[this]
 omega
theorem eN (c:Cal) (y m:Nat):5≤monthDays c y m:=by
 cases c<;>simp only[monthDays]<;>repeat' split
 all_goals omega
theorem uI (c:Cal) (y m:Nat):monthDays c y m≤31:=by
 cases c<;>simp only[monthDays]<;>repeat' split
 all_goals omega
theorem iV (c:Cal) (y:Nat):yearDays c y≤366∧365≤yearDays c y:=by unfold yearDays;split<;>omega
theorem yd (c:Cal) (y:Nat):total (monthDays c y) 1 (months c)=yearDays c y:=by
 cases c
 ·simp only[months,total,monthDays,yearDays]
  by_cases h:leap .greg y=true<;>simp[h]
 ·simp only[months,total,monthDays,yearDays]
  by_cases h:leap .jul y=true<;>simp[h]
 ·simp only[months,total,monthDays,yearDays]
  by_cases h:leap .rep y=true<;>simp[h]
theorem cP (c:Cal) (y:Nat) {m:Nat}(h:1≤m):monthStart c y (m+1)=monthStart c y m+monthDays c y m:=by
 unfold monthStart
 obtain⟨j,rfl⟩:∃ j,m=j+1:=⟨m - 1,by omega⟩
 show yearStart c y+(total (monthDays c y) 1 j+monthDays c y (1+j))=_
 rw[show 1+j=j+1 from by omega,show j+1 - 1=j from rfl]
 omega
theorem dW (c:Cal) {y:Nat}(h:firstYear c≤y):monthStart c y (months c+1)=yearStart c (y+1):=by
 unfold monthStart
 rw[show months c+1 - 1=months c from rfl,yd,cA c h]
theorem dU (c:Cal) (y:Nat):monthStart c y 1=yearStart c y:=rfl
theorem qp (c:Cal):12≤months c:=by cases c<;>decide
theorem mq (c:Cal) {y:Nat}(h:firstYear c≤y):(lastDay ⟨c,y,none,none⟩:Int)=yearStart c (y+1) - 1:=by
 show ((monthStart c y (months c)+(monthDays c y (months c) - 1):Nat):Int)=_
 have e:=cP c y (m:=months c) (by have:=qp c;omega)
 rw[dW c h]at e
 have:=eN c y (months c)
 omega
theorem kM (c:Cal) (y m:Nat):(lastDay ⟨c,y,some m,none⟩:Int)=monthStart c y m+monthDays c y m - 1:=by
 show ((monthStart c y m+(monthDays c y m - 1):Nat):Int)=_
 have:=eN c y m
 omega
theorem rY (p:Part) (h:there p=true) (hd:p.month=none→p.day=none):firstDay p≤lastDay p:=by
 obtain⟨c,y,m,d⟩:=p
 have hy:firstYear c≤y:=by
  simp only[there,Bool.and_eq_true]at h
  exact of_decide_eq_true h.1
 cases m with
 |none=>
  have e:d=none:=hd rfl
  subst e
  have:=mq c hy
  have e2:=cA c hy
  have:=iV c y
  show monthStart c y 1+(1 - 1)≤_
  rw[dU]
  omega
 |some m=>
  cases d with
  |none=>
   have:=kM c y m
   have:=eN c y m
   show monthStart c y m+(1 - 1)≤_
   omega
  |some d=>exact Nat.le_refl _
theorem nU (c:Cal):∀ (k y r j:Nat),j < k→r < yearDays c (y+j)→seekYear c k y (total (yearDays c) y j+r)=some (y+j,r)
 |0,_,_,_,h,_=>absurd h (Nat.not_lt_zero _)
 |k+1,y,r,0,_,hr=>by
  show (if 0+r < yearDays c y then some (y,0+r) else _)=_
  rw[Nat.zero_add]
  exact if_pos hr
 |k+1,y,r,j+1,h,hr=>by
  have shift:∀ (j:Nat),total (yearDays c) y (j+1)=yearDays c y+total (yearDays c) (y+1) j:=by
   intro j
   induction j with
   |zero=>simp[total]
   |succ j ih=>
    rw[show total (yearDays c) y (j+1+1)=total (yearDays c) y (j+1)+yearDays c (y+(j+1)) from rfl,ih]
    rw[show total (yearDays c) (y+1) (j+1)=total (yearDays c) (y+1) j+yearDays c (y+1+j) from rfl]
    rw[show y+(j+1)=y+1+j from by omega]
    omega
  rw[shift j]
  show (if yearDays c y+total (yearDays c) (y+1) j+r < yearDays c y then _ else seekYear c k (y+1) (yearDays c y+total (yearDays c) (y+1) j+r - yearDays c y))=_
  rw[if_neg (by omega),show yearDays c y+total (yearDays c) (y+1) j+r - yearDays c y=total (yearDays c) (y+1) j+r from by omega]
  rw[nU c k (y+1) r j (by omega) (by rw[show y+1+j=y+(j+1) from by omega];exact hr)]
  rw[show y+1+j=y+(j+1) from by omega]
theorem kx (c:Cal):∀ (k y r:Nat),total (yearDays c) y k≤r→seekYear c k y r=none
 |0,_,_,_=>rfl
 |k+1,y,r,h=>by
  have shift:∀ (j:Nat),total (yearDays c) y (j+1)=yearDays c y+total (yearDays c) (y+1) j:=by
   intro j
   induction j with
   |zero=>simp[total]
   |succ j ih=>
    rw[show total (yearDays c) y (j+1+1)=total (yearDays c) y (j+1)+yearDays c (y+(j+1)) from rfl,ih]
    rw[show total (yearDays c) (y+1) (j+1)=total (yearDays c) (y+1) j+yearDays c (y+1+j) from rfl]
    rw[show y+(j+1)=y+1+j from by omega]
    omega
  rw[shift k]at h
  show (if r < yearDays c y then _ else seekYear c k (y+1) (r - yearDays c y))=_
  rw[if_neg (by omega)]
  exact kx c k (y+1) _ (by omega)
theorem lJ (c:Cal) (y:Nat):∀ (k m r j:Nat),j < k→r < monthDays c y (m+j)→seekMonth c y k m (total (monthDays c y) m j+r)=(m+j,r)
 |0,_,_,_,h,_=>absurd h (Nat.not_lt_zero _)
 |k+1,m,r,0,_,hr=>by
  show (if 0+r < monthDays c y m then (m,0+r) else _)=_
  rw[Nat.zero_add]
  exact if_pos hr
 |k+1,m,r,j+1,h,hr=>by
  have shift:∀ (j:Nat),total (monthDays c y) m (j+1)=monthDays c y m+total (monthDays c y) (m+1) j:=by
   intro j
   induction j with
   |zero=>simp[total]
   |succ j ih=>
    rw[show total (monthDays c y) m (j+1+1)=total (monthDays c y) m (j+1)+monthDays c y (m+(j+1)) from rfl,ih]
    rw[show total (monthDays c y) (m+1) (j+1)=total (monthDays c y) (m+1) j+monthDays c y (m+1+j) from rfl]
    rw[show m+(j+1)=m+1+j from by omega]
    omega
  rw[shift j]
  show (if monthDays c y m+total (monthDays c y) (m+1) j+r < monthDays c y m then _ else seekMonth c y k (m+1) (monthDays c y m+total (monthDays c y) (m+1) j+r - monthDays c y m))=_
  rw[if_neg (by omega),show monthDays c y m+total (monthDays c y) (m+1) j+r - monthDays c y m=total (monthDays c y) (m+1) j+r from by omega]
  rw[lJ c y k (m+1) r j (by omega) (by rw[show m+1+j=m+(j+1) from by omega];exact hr)]
  rw[show m+1+j=m+(j+1) from by omega]
theorem rL (c:Cal) (y m:Nat):yearStart c y≤monthStart c y m:=Nat.le_add_right _ _
theorem fc (c:Cal) (y:Nat) {m n:Nat}(h:1≤m) (hn:m≤n):monthStart c y m≤monthStart c y n:=by
 induction n with
 |zero=>omega
 |succ n ih=>
  by_cases e:m=n+1
  ·rw[e];exact Nat.le_refl _
  ·have:=ih (by omega)
   rw[cP c y (by omega)]
   omega
theorem AK (c:Cal) {y m r n:Nat}(h1:firstYear c≤y) (h2:y≤lastYear c) (m1:1≤m) (m2:m≤months c) (hr:r < monthDays c y m) (hn:n=monthStart c y m+r) :
  dateOf c n=some (y,m,r+1):=by
 subst hn
 unfold dateOf
 have ho:origin c≤monthStart c y m:=Nat.le_trans (Nat.le_add_right _ _) (rL c y m)
 rw[if_neg (by omega)]
 have hl:monthStart c y m+monthDays c y m≤yearStart c (y+1):=by
  rw[←cP c y m1,←dW c h1]
  exact fc c y (by omega) (by omega)
 rw[cA c h1]at hl
 have e1:monthStart c y m+r - origin c=total (yearDays c) (firstYear c) (y - firstYear c)+(total (monthDays c y) 1 (m - 1)+r):=by
  unfold monthStart yearStart
  omega
 have e2:total (monthDays c y) 1 (m - 1)+r < yearDays c y:=by
  unfold monthStart at hl
  omega
 have hy:firstYear c+(y - firstYear c)=y:=by omega
 rw[e1,nU c _ _ _ _ (by omega) (by rw[hy];exact e2)]
 show some (firstYear c+(y - firstYear c),_,_)=_
 rw[hy]
 have hm:1+(m - 1)=m:=by omega
 have e3:=lJ c y (months c) 1 r (m - 1) (by omega) (by rw[hm];exact hr)
 rw[hm]at e3
 show some (y,(seekMonth c y (months c) 1 (total (monthDays c y) 1 (m - 1)+r)).1,(seekMonth c y (months c) 1 (total (monthDays c y) 1 (m - 1)+r)).2+1)=_
 rw[e3]
theorem wY (c:Cal) {n:Nat}(h:n < origin c∨yearStart c (lastYear c+1)≤n):dateOf c n=none:=by
 unfold dateOf
 by_cases h1:n < origin c
 ·rw[if_pos h1]
 ·rw[if_neg h1,kx]
  ·rfl
  ·rcases h with h | h
   ·exact absurd h h1
   ·unfold yearStart at h
    omega
theorem An (c:Cal) {y:Nat}(h:firstYear c≤y) {n m:Nat}(hn:n < yearStart c (y+1)) (hm:monthStart c y m≤n) (m1:1≤m):m≤months c:=by
 apply Classical.byContradiction
 intro k
 have:=fc c y (m:=months c+1) (n:=m) (by omega) (by omega)
 rw[dW c h]at this
 omega
theorem iU (c:Cal) {y z:Nat}(h:firstYear c≤y) (hz:y≤z):yearStart c y+365*(z - y)≤yearStart c z:=by
 induction z with
 |zero=>
  (have:y=0:=by omega);subst this;simp
 |succ z ih=>
  by_cases e:y=z+1
  ·subst e;simp
  ·have:=ih (by omega)
   rw[cA c (by omega)]
   have:=iV c z
   omega
theorem iA (c:Cal):∀ (k:Nat),yearStart c (firstYear c+k)≤origin c+366*k
 |0=>by unfold yearStart;simp[total]
 |k+1=>by
  have:=iA c k
  rw[show firstYear c+(k+1)=(firstYear c+k)+1 from rfl,cA c (Nat.le_add_right _ _)]
  have:=iV c (firstYear c+k)
  omega
theorem m12:∀ m,m < 13→1≤m→(m=1∨m=2∨m=3∨m=4∨m=5∨m=6∨m=7∨m=8∨m=9∨m=10∨m=11∨m=12):=by decide
theorem F4 (c:Cal) (hc:c ≠ .rep) (y:Nat) {m:Nat}(h1:1≤m) (h2:m≤12):(monthDays c y m:Int)=(([31,28,31,30,31,30,31,31,30,31,30,31]:List Int).getD (m - 1) 0)+(if m=2 then (if leap c y=true then 1 else 0) else 0):=by
 have:=m12 m (by omega) h1
 cases c with
 |rep=>exact absurd rfl hc
 |greg=>
  rcases this with h | h | h | h | h | h | h | h | h | h | h | h<;>subst h<;>simp[monthDays]
  split<;>rfl
 |jul=>
  rcases this with h | h | h | h | h | h | h | h | h | h | h | h<;>subst h<;>simp[monthDays]
  split<;>rfl
theorem Fy (y:Nat) {m:Nat}(h2:m≤13):(monthDays .rep y m:Int)=if (m:Int)≤12 then 30 else 5+(if leap .rep y=true then 1 else 0):=by
 simp only[monthDays]
 by_cases h:m=13
 ·subst h
  simp
  split<;>rfl
 ·rw[if_neg h,if_pos (by omega)]
  rfl
end CalM
namespace TextM
open Vbnlaa CalM
noncomputable def gX:List Nat→Option (List Nat×List Nat)
 | []=>none
 | [_]=>none
 |a :: b :: r=>if a=46∧b=46 then some ([],r) else (gX (b :: r)).map fun x=>(a :: x.1,x.2)
noncomputable def parts (t:List Nat):List (List Nat):=match gX t with
 |none=>[t]
 |some x=>[x.1,x.2]
theorem tW:∀ {t:List Nat},(∀ i,i+1 < t.length→¬ (t[i]? = some 46∧t[i+1]? = some 46))→gX t=none
 | [],_=>rfl
 | [_],_=>rfl
 |a :: b :: r,h=>by
  have h0:=h 0 (by simp)
  simp at h0
  unfold gX
  rw[if_neg (fun z=>h0 z.1 z.2),tW (t:=b :: r) (fun i hi=>by
   have:=h (i+1) (by simp at hi ⊢;omega)
   simpa using this)]
  rfl
theorem tV:∀ {t:List Nat}{k:Nat},k+1 < t.length→t[k]? = some 46→t[k+1]? = some 46→(∀ i,i < k→¬ (t[i]? = some 46∧t[i+1]? = some 46))→gX t=some (t.take k,t.drop (k+2))
 | [],_,h,_,_,_=>by simp at h
 | [_],_,h,_,_,_=>by simp at h
 |a :: b :: r,0,_,h1,h2,_=>by
  simp at h1 h2
  unfold gX
  rw[if_pos ⟨h1,h2⟩]
  rfl
 |a :: b :: r,k+1,hl,h1,h2,h=>by
  have h0:=h 0 (by omega)
  simp at h0
  unfold gX
  rw[if_neg (fun z=>h0 z.1 z.2),tV (t:=b :: r) (k:=k) (by simp at hl ⊢;omega) (by simpa using h1) (by simpa using h2) (fun i hi=>by
   have:=h (i+1) (by omega)
   simpa using this)]
  rfl
theorem AD:∀ (t:List Nat),(46∉t→halves t=[t])
 |t,h=>by
  unfold halves
  have:t.dropWhile (fun c=>c != 46)=[]:=by
   induction t with
   |nil=>rfl
   |cons a t ih=>
    have ha:a≠46:=fun e=>h (by rw[e];exact List.mem_cons_self)
    have:(a != 46)=true:=by simp[ha]
    rw[List.dropWhile_cons,if_pos this]
    exact ih fun m=>h (List.mem_cons_of_mem _ m)
  rw[this]
theorem uY {a:Nat}{t:List Nat}(h:a≠46):(a :: t).dropWhile (fun c=>c != 46)=t.dropWhile (fun c=>c != 46):=by
 have:(a != 46)=true:=by simp[h]
 rw[List.dropWhile_cons,if_pos this]
theorem C1 {a:Nat}{t:List Nat}(h:a≠46):(a :: t).takeWhile (fun c=>c != 46)=a :: t.takeWhile (fun c=>c != 46):=by
 have:(a != 46)=true:=by simp[h]
 rw[List.takeWhile_cons,if_pos this]
theorem Cp {t:List Nat}:(46 :: t).dropWhile (fun c=>c != 46)=46 :: t:=rfl
theorem qE:∀ {t a b:List Nat},gX t=some (a,b)→(46∉a→halves t=[a,b])∧(46∈a→halves t=[])
 | [],_,_,h=>by cases h
 | [_],_,_,h=>by cases h
 |x :: y :: r,a,b,h=>by
  unfold gX at h
  by_cases c:x=46∧y=46
  ·rw[if_pos c]at h
   obtain⟨rfl,rfl⟩:=c
   have:=Prod.mk.inj (Option.some.inj h)
   obtain⟨rfl,rfl⟩:=this
   exact⟨fun _=>rfl,fun z=>by simp at z⟩
  ·rw[if_neg c]at h
   cases e:gX (y :: r) with
   |none=>rw[e]at h;cases h
   |some q=>
    obtain⟨a1,b1⟩:=q
    rw[e]at h
    obtain⟨rfl,rfl⟩:=Prod.mk.inj (Option.some.inj h)
    have ih:=qE e
    by_cases hx:x=46
    ·subst hx
     have hy:y≠46:=fun z=>c ⟨rfl,z⟩
     refine⟨fun z=>absurd List.mem_cons_self z,fun _=>?_⟩
     unfold halves
     rw[Cp]
     split
     ·rename_i z;cases z
     ·rename_i z
      injection z with z1 z2
      injection z2 with z3 z4
      exact absurd z3 hy
     ·rfl
    ·have hm:46∈x :: a1↔46∈a1:=by
      rw[List.mem_cons]
      exact⟨fun z=>z.resolve_left (fun w=>hx w.symm),.inr⟩
     rw[hm]
     have hh:∀ u,halves (y :: r)=[a1,u]→halves (x :: y :: r)=[x :: a1,u]:=by
      intro u hu
      unfold halves at hu ⊢
      rw[uY hx,C1 hx]
      split at hu
      ·injection hu with q1 q2;cases q2
      ·rename_i w he
       injection hu with q1 q2
       injection q2 with q3
       rw[q1,q3]
      ·cases hu
     have hz:halves (y :: r)=[]→halves (x :: y :: r)=[]:=by
      intro hu
      unfold halves at hu ⊢
      rw[uY hx]
      split at hu
      ·cases hu
      ·cases hu
      ·rfl
     exact⟨fun z=>hh _ (ih.1 z),fun z=>hz (ih.2 z)⟩
theorem ow:∀ {t:List Nat},gX t=none→46∈t→halves t=[]
 | [],_,h=>by simp at h
 | [x],_,h=>by
  have:x=46:=(List.mem_singleton.mp h).symm
  subst this
  rfl
 |x :: y :: r,hc,h=>by
  unfold gX at hc
  by_cases c:x=46∧y=46
  ·rw[if_pos c]at hc;cases hc
  ·rw[if_neg c]at hc
   by_cases hx:x=46
   ·subst hx
    have hy:y≠46:=fun z=>c ⟨rfl,z⟩
    unfold halves
    rw[Cp]
    split
    ·rename_i z;cases z
    ·rename_i z
     injection z with z1 z2
     injection z2 with z3 z4
     exact absurd z3 hy
    ·rfl
   ·have ih:=ow (t:=y :: r) (by
     cases e:gX (y :: r) with
     |none=>rfl
     |some q=>rw[e]at hc;cases hc) ((List.mem_cons.mp h).resolve_left fun w=>hx w.symm)
    unfold halves at ih ⊢
    rw[uY hx]
    split at ih
    ·cases ih
    ·cases ih
    ·rfl
noncomputable def gv (c:Cal) (fs:List (List Nat)):Bool:=decide (fs.length≤3) && (yearForm c (fs.headD []) && fs.tail.all two)
noncomputable def parse (t:List Nat):Option (Cal×List Nat):=
 if gv (calOf t).1 (fieldsAt 45 (calOf t).2)=true then some ((calOf t).1,(fieldsAt 45 (calOf t).2).map valueOf) else none
noncomputable def aP (x:Cal×List Nat):Part:=⟨x.1,x.2.headD 0,x.2[1]?,x.2[2]?⟩
theorem gT (sep:Nat):∀ t:List Nat,fieldsAt sep t≠[]
 | []=>by simp[fieldsAt]
 |c :: r=>by
  unfold fieldsAt
  split
  ·simp
  ·split<;>simp
theorem qd (t:List Nat):readPart t=(parse t).map aP:=by
 unfold readPart parse gv
 generalize hf:fieldsAt 45 (calOf t).2=fs
 have hne:=gT 45 (calOf t).2
 rw[hf]at hne
 match fs,hne with
 | [],h=>exact absurd rfl h
 | [y],_=>
  simp only[List.length_cons,List.length_nil,List.headD_cons,List.tail_cons,List.all_nil,Bool.and_true]
  by_cases h:yearForm (calOf t).1 y=true<;>simp[h,aP]
 | [y,m],_=>
  simp only[List.length_cons,List.length_nil,List.headD_cons,List.tail_cons,List.all_cons,List.all_nil,Bool.and_true]
  by_cases h:(yearForm (calOf t).1 y && two m)=true
  ·simp[h,aP]
  ·simp only[h]
   simp
 | [y,m,d],_=>
  simp only[List.length_cons,List.length_nil,List.headD_cons,List.tail_cons,List.all_cons,List.all_nil,Bool.and_true]
  by_cases h:(yearForm (calOf t).1 y && (two m && two d))=true
  ·simp[h,aP]
  ·simp only[h]
   simp
 |y :: m :: d :: x :: r,_=>
  have:decide ((y :: m :: d :: x :: r).length≤3)=false:=by simp
  rw[this]
  rfl
theorem qP (sep:Nat) {c:Nat}(hc:c≠sep):∀ {t:List Nat},c∈t→∃ f∈fieldsAt sep t,c∈f
 |a :: r,h=>by
  unfold fieldsAt
  rcases List.mem_cons.mp h with e | e
  ·subst e
   rw[if_neg hc]
   split
   ·exact⟨_,List.mem_cons_self,List.mem_cons_self⟩
   ·exact⟨_,List.mem_cons_self,List.mem_cons_self⟩
  ·obtain⟨f,hf,hm⟩:=qP sep hc e
   split
   ·exact⟨f,List.mem_cons_of_mem _ hf,hm⟩
   ·cases k:fieldsAt sep r with
    |nil=>rw[k]at hf;simp at hf
    |cons g gs=>
     rw[k]at hf
     rcases List.mem_cons.mp hf with q | q
     ·subst q;exact⟨_,List.mem_cons_self,List.mem_cons_of_mem _ hm⟩
     ·exact⟨f,List.mem_cons_of_mem _ q,hm⟩
theorem oA {c:Cal}{fs:List (List Nat)}(h:gv c fs=true):∀ f∈fs,f.all digit=true:=by
 unfold gv at h
 simp only[Bool.and_eq_true]at h
 obtain⟨_,h2,h3⟩:=h
 intro f hf
 cases fs with
 |nil=>simp at hf
 |cons g gs=>
  rcases List.mem_cons.mp hf with e | e
  ·subst e
   unfold yearForm at h2
   rw[Bool.and_eq_true]at h2
   exact h2.1
  ·have:=List.all_eq_true.mp h3 f e
   unfold two at this
   rw[Bool.and_eq_true]at this
   exact this.1
theorem A3 {t:List Nat}{c:Nat}(h:c∈t) (h1:c≠74) (h2:c≠82) (h3:c≠58):c∈(calOf t).2:=by
 unfold calOf
 split
 ·simpa[h1,h3]using h
 ·simpa[h2,h3]using h
 ·exact h
theorem tD {t:List Nat}(h:46∈t):parse t=none:=by
 unfold parse
 apply if_neg
 intro k
 obtain⟨f,hf,hm⟩:=qP 45 (by decide) (A3 h (by decide) (by decide) (by decide))
 have:=List.all_eq_true.mp (oA k f hf) 46 hm
 revert this
 decide
theorem xR {t:List Nat}{x:Cal×List Nat}(_h:parse t=some x):(aP x).month=none→(aP x).day=none:=by
 intro hm
 show x.2[2]? = none
 have:x.2[1]? = none:=hm
 rw[List.getElem?_eq_none_iff]at this ⊢
 omega
noncomputable def readM (t:List Nat):Except Int (Nat×Nat):=match (parts t).mapM parse with
 |none=>.error (-1)
 |some xs=>if xs.all (fun x=>there (aP x))=true then
   (if firstDay (aP (xs.headD (.greg,[])))≤lastDay (aP (xs.getLastD (.greg,[]))) then .ok (firstDay (aP (xs.headD (.greg,[]))),lastDay (aP (xs.getLastD (.greg,[])))) else .error (-3))
  else .error (-2)
theorem vO (t:List Nat):readM t=readDate t:=by
 unfold readM readDate parts
 cases hc:gX t with
 |none=>
  by_cases hd:46∈t
  ·rw[ow hc hd]
   simp[tD hd]
  ·rw[AD t hd]
   simp only[qd]
   cases hp:parse t with
   |none=>simp[hp]
   |some x=>
    simp only[List.mapM_cons,List.mapM_nil,hp,Option.map_some]
    simp
    by_cases h:there (aP x)=true
    ·simp[h,rY _ h (xR hp)]
    ·simp[h]
 |some q=>
  obtain⟨a,b⟩:=q
  have hh:=qE hc
  by_cases hd:46∈a
  ·rw[hh.2 hd]
   simp[tD hd]
  ·rw[hh.1 hd]
   simp only[qd]
   cases hp:parse a with
   |none=>simp[hp]
   |some x=>
    cases hq:parse b with
    |none=>simp[hp,hq]
    |some y=>
     simp[hp,hq]
noncomputable def iy (c:Nat):List (List Nat)→List (List Nat)
 | []=>[[c]]
 | [f]=>[f ++ [c]]
 |f :: g :: r=>f :: iy c (g :: r)
theorem oC (sep c:Nat):∀ t:List Nat,fieldsAt sep (t ++ [c])=if c=sep then fieldsAt sep t ++ [[]] else iy c (fieldsAt sep t)
 | []=>by
  show fieldsAt sep [c]=_
  unfold fieldsAt
  split
  ·rfl
  ·rfl
 |a :: r=>by
  rw[List.cons_append]
  unfold fieldsAt
  rw[oC sep c r]
  have hne:=gT sep r
  cases hf:fieldsAt sep r with
  |nil=>exact absurd hf hne
  |cons g gs=>
   by_cases ha:a=sep
   ·by_cases hc:c=sep
    ·simp[ha,hc]
    ·simp[ha,hc,iy]
   ·by_cases hc:c=sep
    ·simp[ha,hc]
    ·simp only[if_neg ha,if_neg hc]
     cases gs with
     |nil=>simp[iy]
     |cons k ks=>simp[iy]
theorem sD:∀ (t:List Nat) (n:Nat),t.all digit=true→t.foldl (fun (v:Int) (b:Nat)=>v*10+(b:Int) - 48) (n:Int)=((t.foldl (fun n c=>10*n+(c - 48)) n:Nat):Int)
 | [],n,_=>rfl
 |b :: t,n,h=>by
  rw[List.all_cons,Bool.and_eq_true]at h
  have hb:48≤b:=by
   have:=h.1
   unfold digit at this
   rw[Bool.and_eq_true]at this
   exact of_decide_eq_true this.1
  rw[List.foldl_cons,List.foldl_cons,←sD t _ h.2]
  congr 1
  omega
end TextM
namespace BF
open Vbnlaa
noncomputable def Le (a b:Option Int):Prop:=∀ w,b=some w→∃ v,a=some v∧v≤w
theorem Le.refl (a:Option Int):Le a a:=fun w h=>⟨w,h,Int.le_refl w⟩
theorem Le.trans {a b c:Option Int}(h:Le a b) (k:Le b c):Le a c:=fun w e=>by
 obtain⟨v,e1,l1⟩:=k w e
 obtain⟨u,e2,l2⟩:=h v e1
 exact⟨u,e2,Int.le_trans l2 l1⟩
noncomputable def keys (t:Table):List Int:=t.map (fun p=>p.1)
noncomputable def TLe (t u:Table):Prop:=∀ m,Le (look t m) (look u m)
theorem TLe.refl (t:Table):TLe t t:=fun _=>Le.refl _
theorem TLe.trans {a b c:Table}(h:TLe a b) (k:TLe b c):TLe a c:=fun m=>(h m).trans (k m)
theorem eE (p:Int×Option Int) (t:Table) (n:Int):look (p :: t) n=if p.1=n then p.2 else look t n:=by
 unfold look
 rw[List.find?_cons]
 by_cases h:p.1=n
 ·simp[h]
 ·have:(p.1 == n)=false:=by simp[h]
  rw[this,if_neg h]
theorem lU (p:Int×Option Int) (t:Table) (n v:Int):put (p :: t) n v=(if (p.1 == n && below v p.2)=true then (n,some v) else p) :: put t n v:=rfl
theorem wy:∀ (t:Table) (n v:Int),keys (put t n v)=keys t
 | [],_,_=>rfl
 |p :: t,n,v=>by
  have ih:=wy t n v
  unfold keys at ih ⊢
  rw[lU,List.map_cons,List.map_cons,ih]
  congr 1
  split
  ·rename_i h
   simp at h
   exact h.1.symm
  ·rfl
theorem fz:∀ {t:Table}{n:Int},n∉keys t→look t n=none
 | [],_,_=>rfl
 |p :: t,n,h=>by
  unfold keys at h
  rw[List.map_cons,List.mem_cons,not_or]at h
  rw[eE,if_neg (fun e=>h.1 e.symm)]
  exact fz h.2
theorem mh:∀ (t:Table) (n v m:Int),look (put t n v) m=if m=n∧n∈keys t∧below v (look t n)=true then some v else look t m
 | [],n,v,m=>by simp[keys,put,look]
 |p :: t,n,v,m=>by
  rw[lU,eE,mh t n v m,eE p t m,eE p t n]
  unfold keys
  simp only[List.map_cons,List.mem_cons]
  by_cases hm:m=n
  ·subst hm
   by_cases hp:p.1=m
   ·subst hp
    by_cases hb:below v p.2=true
    ·simp[hb]
    ·simp[hb]
   ·have h1:(p.1 == m)=false:=by simp[hp]
    have h2:¬ m=p.1:=fun e=>hp e.symm
    simp only[h1,Bool.false_and,Bool.false_eq_true,if_false,hp,h2,false_or,true_and]
  ·have h3:∀ q:Prop,¬ (m=n∧q):=fun q h=>hm h.1
   rw[if_neg (h3 _),if_neg (h3 _)]
   by_cases hb:(p.1 == n && below v p.2)=true
   ·rw[if_pos hb]
    simp at hb
    have h4:¬ n=m:=fun e=>hm e.symm
    have h5:¬ p.1=m:=fun e=>hm (e.symm.trans hb.1)
    rw[if_neg h4,if_neg h5]
   ·rw[if_neg hb]
theorem Eu (t:Table) (n v:Int):TLe (put t n v) t:=fun m w e=>by
 rw[mh]
 split
 ·rename_i h
  obtain⟨h1,h2,h3⟩:=h
  subst h1
  rw[e]at h3
  simp[below]at h3
  exact⟨v,rfl,by omega⟩
 ·exact⟨w,e,Int.le_refl _⟩
theorem Ew {t:Table}{n v:Int}(h:n∈keys t):Le (look (put t n v) n) (some v):=fun w e=>by
 have e:=Option.some.inj e
 subst e
 rw[mh]
 by_cases hb:below v (look t n)=true
 ·exact⟨v,by rw[if_pos ⟨rfl,h,hb⟩],Int.le_refl _⟩
 ·rw[if_neg (fun z=>hb z.2.2)]
  cases hl:look t n with
  |none=>rw[hl]at hb;exact absurd rfl hb
  |some u=>
   rw[hl]at hb
   simp[below]at hb
   exact⟨u,rfl,by omega⟩
theorem vS:∀ {t:Table}{n v:Int},(keys t).Nodup→below v (look t n)=false→put t n v=t
 | [],_,_,_,_=>rfl
 |p :: t,n,v,nd,h=>by
  unfold keys at nd
  rw[List.map_cons,List.nodup_cons]at nd
  rw[eE]at h
  rw[lU]
  by_cases hp:p.1=n
  ·rw[if_pos hp]at h
   have h1:¬ (p.1 == n && below v p.2)=true:=by simp[h]
   rw[if_neg h1]
   congr 1
   have h2:∀ q∈t,(if (q.1 == n && below v q.2)=true then ((n,some v):Int×Option Int) else q)=q:=by
    intro q hq
    have:¬ q.1=n:=by
     intro e
     apply nd.1
     rw[hp,←e]
     exact List.mem_map.mpr ⟨q,hq,rfl⟩
    rw[if_neg (by simp[this])]
   unfold put
   exact(List.map_congr_left h2).trans (List.map_id' t)
  ·rw[if_neg hp]at h
   have h1:¬ (p.1 == n && below v p.2)=true:=by simp[hp]
   rw[if_neg h1,vS nd.2 h]
theorem qz (t:Table) (l:Lim):keys (relax t l)=keys t:=by
 unfold relax
 split
 ·rfl
 ·exact wy _ _ _
theorem vL (t:Table) (l:Lim):TLe (relax t l) t:=by
 unfold relax
 split
 ·exact TLe.refl _
 ·exact Eu _ _ _
theorem Bv {t:Table}{l:Lim}{v:Int}(h:l.dst∈keys t) (e:look t l.src=some v):Le (look (relax t l) l.dst) (some (v+l.most)):=by
 unfold relax
 rw[e]
 exact Ew h
theorem qy:∀ (ls:List Lim) (t:Table),keys (round ls t)=keys t
 | [],_=>rfl
 |l :: ls,t=>(qy ls (relax t l)).trans (qz t l)
theorem pU:∀ (ls:List Lim) (t:Table),TLe (round ls t) t
 | [],_=>TLe.refl _
 |l :: ls,t=>(pU ls (relax t l)).trans (vL t l)
theorem lQ:∀ {ls:List Lim}{t:Table}{l:Lim}{v:Int},l∈ls→l.dst∈keys t→look t l.src=some v→Le (look (round ls t) l.dst) (some (v+l.most))
 |k :: ls,t,l,v,hm,hk,e=>by
  rcases List.mem_cons.mp hm with h | h
  ·subst h
   exact(pU ls (relax t l) l.dst).trans (Bv hk e)
  ·obtain⟨u,hu,hl⟩:=vL t k l.src v e
   have:=lQ (ls:=ls) (t:=relax t k) h (by rw[qz];exact hk) hu
   refine Le.trans this ?_
   intro w hw
   exact⟨_,rfl,by have:=Option.some.inj hw;omega⟩
theorem eW (ls:List Lim):∀ (k:Nat) (t:Table),keys (rounds ls k t)=keys t
 |0,_=>rfl
 |k+1,t=>(eW ls k (round ls t)).trans (qy ls t)
theorem n6 (ls:List Lim):∀ (k:Nat) (t:Table),rounds ls (k+1) t=round ls (rounds ls k t)
 |0,_=>rfl
 |k+1,t=>n6 ls k (round ls t)
theorem gG (ls:List Lim):∀ (k:Nat) (t:Table),TLe (rounds ls k t) t
 |0,_=>TLe.refl _
 |k+1,t=>(gG ls k (round ls t)).trans (pU ls t)
inductive Path (ls:List Lim) (I:Int→Int→Prop):Int→List Int→Int→Prop
 |nil {n v:Int}:I n v→Path ls I n [n] v
 |snoc {n:Int}{vs:List Int}{w:Int}{l:Lim}:Path ls I n vs w→l∈ls→l.src=n→Path ls I l.dst (l.dst :: vs) (w+l.most)
noncomputable def Ok (ls:List Lim) (x:Int→Int):Prop:=∀ l∈ls,x l.dst≤x l.src+l.most
noncomputable def Sound (ls:List Lim) (I:Int→Int→Prop) (t:Table):Prop:=∀ n v,look t n=some v→∃ vs,Path ls I n vs v
theorem vz {ls:List Lim}{I:Int→Int→Prop}{t:Table}{l:Lim}(h:l∈ls) (S:Sound ls I t):Sound ls I (relax t l):=by
 unfold relax
 split
 ·exact S
 ·rename_i v e
  intro n u hu
  rw[mh]at hu
  split at hu
  ·rename_i c
   have:=Option.some.inj hu
   subst this
   rw[c.1]
   obtain⟨vs,p⟩:=S _ _ e
   exact⟨_,p.snoc h rfl⟩
  ·exact S n u hu
theorem pI {ls:List Lim}{I:Int→Int→Prop}:∀ (ks:List Lim) (t:Table),(∀ l∈ks,l∈ls)→Sound ls I t→Sound ls I (round ks t)
 | [],_,_,S=>S
 |l :: ks,t,h,S=>pI ks (relax t l) (fun k hk=>h k (List.mem_cons_of_mem _ hk)) (vz (h l List.mem_cons_self) S)
theorem dM {ls:List Lim}{I:Int→Int→Prop}:∀ (k:Nat) (t:Table),Sound ls I t→Sound ls I (rounds ls k t)
 |0,_,S=>S
 |k+1,t,S=>dM k _ (pI ls t (fun _ h=>h) S)
theorem cut {ls:List Lim}{I:Int→Int→Prop}{x:Int→Int}(O:Ok ls x) {n:Int}{vs:List Int}{w:Int}(p:Path ls I n vs w) :
  ∀ {m:Int},m∈vs→∃ vs1 w1,Path ls I m vs1 w1∧vs1 <:+ vs∧x n - x m≤w - w1:=by
 induction p with
 |@nil n v h=>
  intro m hm
  have e:=List.mem_singleton.mp hm
  subst e
  exact⟨_,_,.nil h,List.suffix_refl _,by omega⟩
 |@snoc n vs w l p h hs ih=>
  intro m hm
  rcases List.mem_cons.mp hm with e | e
  ·subst e
   exact⟨_,_,p.snoc h hs,List.suffix_refl _,by omega⟩
  ·obtain⟨vs1,w1,p1,s1,h1⟩:=ih e
   refine⟨vs1,w1,p1,s1.trans (List.suffix_cons _ _),?_⟩
   have:=O l h
   rw[hs]at this
   omega
theorem simple {ls:List Lim}{I:Int→Int→Prop}{x:Int→Int}(O:Ok ls x) {n:Int}{vs:List Int}{w:Int}(p:Path ls I n vs w) :
  ∃ vs1 w1,Path ls I n vs1 w1∧vs1.Nodup∧w1≤w:=by
 induction p with
 |@nil n v h=>exact⟨_,_,.nil h,by simp,Int.le_refl _⟩
 |@snoc n vs w l p h hs ih=>
  obtain⟨vs1,w1,p1,nd,hw⟩:=ih
  by_cases hm:l.dst∈vs1
  ·obtain⟨vs2,w2,p2,s2,h2⟩:=cut O p1 hm
   have:=O l h
   rw[hs]at this
   exact⟨vs2,w2,p2,nd.sublist s2.sublist,by omega⟩
  ·exact⟨_,_,p1.snoc h hs,List.nodup_cons.mpr ⟨hm,nd⟩,by omega⟩
theorem vW {ls:List Lim}{I:Int→Int→Prop}{x:Int→Int}(O:Ok ls x) {n:Int}{vs:List Int}{w:Int}(p:Path ls I n vs w) :
  ∃ m v,I m v∧x n - x m≤w - v:=by
 induction p with
 |@nil n v h=>exact⟨n,v,h,by omega⟩
 |@snoc n vs w l p h hs ih=>
  obtain⟨m,v,hi,hx⟩:=ih
  have:=O l h
  rw[hs]at this
  exact⟨m,v,hi,by omega⟩
theorem zi {ls:List Lim}{I:Int→Int→Prop}{ns:List Int}(hI:∀ n v,I n v→n∈ns) (hd:∀ l∈ls,l.dst∈ns) {n:Int}{vs:List Int}{w:Int}(p:Path ls I n vs w):∀ m∈vs,m∈ns:=by
 induction p with
 |@nil n v h=>
  intro m hm
  rw[List.mem_singleton.mp hm]
  exact hI _ _ h
 |@snoc n vs w l p h hs ih=>
  intro m hm
  rcases List.mem_cons.mp hm with e | e
  ·rw[e];exact hd l h
  ·exact ih m e
theorem m4:∀ {vs ns:List Int},vs.Nodup→(∀ m∈vs,m∈ns)→vs.length≤ns.length
 | [],_,_,_=>Nat.zero_le _
 |v :: vs,ns,nd,h=>by
  rw[List.nodup_cons]at nd
  have hv:=h v List.mem_cons_self
  have ih:=m4 (vs:=vs) (ns:=ns.erase v) nd.2 (fun m hm=>by
   have c:m≠v:=fun e=>nd.1 (by rw[←e];exact hm)
   exact(List.mem_erase_of_ne c).mpr (h m (List.mem_cons_of_mem _ hm)))
  rw[List.length_erase_of_mem hv]at ih
  have:0 < ns.length:=List.length_pos_of_mem hv
  rw[List.length_cons]
  omega
theorem vX {ls:List Lim}{I:Int→Int→Prop}{n:Int}{vs:List Int}{w:Int}(p:Path ls I n vs w):0 < vs.length:=by
 cases p<;>simp
theorem full {ls:List Lim}{t:Table}(hd:∀ l∈ls,l.dst∈keys t) {n:Int}{vs:List Int}{w:Int}(p:Path ls (fun n v=>look t n=some v) n vs w) :
  ∀ k,vs.length≤k+1→Le (look (rounds ls k t) n) (some w):=by
 induction p with
 |@nil n v h=>
  intro k _
  have:=gG ls k t n
  rw[h]at this
  exact this
 |@snoc n vs w l p h hs ih=>
  intro k hk
  have hl:=vX p
  rw[List.length_cons]at hk
  obtain⟨j,rfl⟩:∃ j,k=j+1:=⟨k - 1,by omega⟩
  rw[n6]
  obtain⟨u,hu,hle⟩:=ih j (by omega) w rfl
  refine Le.trans (lQ h (by rw[eW];exact hd l h) (by rw[hs];exact hu)) ?_
  intro z hz
  exact⟨_,rfl,by have:=Option.some.inj hz;omega⟩
theorem least {ls:List Lim}{t:Table}{x:Int→Int}(O:Ok ls x) (hd:∀ l∈ls,l.dst∈keys t) {n:Int}{vs:List Int}{w:Int}(p:Path ls (fun n v=>look t n=some v) n vs w) :
  Le (look (rounds ls (keys t).length t) n) (some w):=by
 obtain⟨vs1,w1,p1,nd,hw⟩:=simple O p
 have h1:vs1.length≤(keys t).length:=m4 nd (zi (fun n v h=>by
  apply Classical.byContradiction
  intro hn
  rw[fz hn]at h
  cases h) hd p1)
 refine Le.trans (full hd p1 _ (by omega)) ?_
 intro z hz
 exact⟨_,rfl,by have:=Option.some.inj hz;omega⟩
theorem rest {ls:List Lim}{t:Table}{x:Int→Int}(O:Ok ls x) (hd:∀ l∈ls,l.dst∈keys t) (nd:(keys t).Nodup) :
  round ls (rounds ls (keys t).length t)=rounds ls (keys t).length t:=by
 have S:Sound ls (fun n v=>look t n=some v) (rounds ls (keys t).length t):=dM _ _ fun n v h=>⟨_,.nil h⟩
 have h1:∀ l∈ls,relax (rounds ls (keys t).length t) l=rounds ls (keys t).length t:=by
  intro l hl
  unfold relax
  split
  ·rfl
  ·rename_i v e
   obtain⟨vs,p⟩:=S _ _ e
   obtain⟨u,hu,hle⟩:=least O hd (p.snoc hl rfl) _ rfl
   apply vS
   ·rw[eW];exact nd
   ·rw[hu]
    simp[below]
    exact hle
 have h2:∀ (ks:List Lim) (u:Table),(∀ l∈ks,relax u l=u)→round ks u=u:=by
  intro ks
  induction ks with
  |nil=>intro u _;rfl
  |cons l ks ih=>
   intro u h
   show round ks (relax u l)=u
   rw[h l List.mem_cons_self]
   exact ih u fun k hk=>h k (List.mem_cons_of_mem _ hk)
 exact h2 ls _ h1
structure yS (s:State):Prop where
 nd:(nodes s).Nodup
 src:∀ l∈limits s,l.src∈nodes s
 dst:∀ l∈limits s,l.dst∈nodes s
theorem keys_map (ns:List Int) (f:Int→Option Int):keys (ns.map fun n=>(n,f n))=ns:=by
 unfold keys
 rw[List.map_map]
 exact(List.map_congr_left (fun _ _=>rfl)).trans (List.map_id' ns)
theorem jz:∀ (ns:List Int) (f:Int→Option Int) {n:Int},n∈ns→look (ns.map fun n=>(n,f n)) n=f n
 |m :: ns,f,n,h=>by
  rw[List.map_cons,eE]
  by_cases e:m=n
  ·subst e;simp
  ·rw[if_neg e]
   exact jz ns f ((List.mem_cons.mp h).resolve_left fun z=>e z.symm)
theorem xO {ls:List Lim}{t:Table}(h:round ls t=t) (hd:∀ l∈ls,l.dst∈keys t) (hs:∀ l∈ls,∃ v,look t l.src=some v):Ok ls fun n=>(look t n).getD 0:=by
 intro l hl
 obtain⟨v,hv⟩:=hs l hl
 obtain⟨u,hu,hle⟩:=lQ hl (hd l hl) hv _ rfl
 rw[h]at hu
 show (look t l.dst).getD 0≤(look t l.src).getD 0+l.most
 rw[hu,hv]
 exact hle
theorem iu {s:State}(W:yS s):feasible s=true↔∃ x,Ok (limits s) x:=by
 have kt:keys ((nodes s).map fun n=>(n,some (0:Int)))=nodes s:=keys_map _ (fun _=>some 0)
 have hd:∀ l∈limits s,l.dst∈keys ((nodes s).map fun n=>(n,some (0:Int))):=by rw[kt];exact W.dst
 constructor
 ·intro h
  have h:=of_decide_eq_true h
  refine⟨_,xO h (by rw[eW];exact hd) fun l hl=>?_⟩
  have h0:look ((nodes s).map fun n=>(n,some (0:Int))) l.src=some 0:=jz (nodes s) (fun _=>some 0) (W.src l hl)
  obtain⟨v,hv,_⟩:=gG (limits s) (nodes s).length ((nodes s).map fun n=>(n,some (0:Int))) l.src 0 h0
  exact⟨v,hv⟩
 ·rintro⟨x,O⟩
  apply decide_eq_true
  have:=rest O hd (by rw[kt];exact W.nd)
  rw[kt]at this
  exact this
theorem uO {s:State}(W:yS s) {x:Int→Int}(O:Ok (limits s) x) {a:Int}(ha:a∈nodes s)
  (up:∀ n∈nodes s,n≠0→∃ l∈limits s,l.src=n∧l.dst=0) (dn:∀ n∈nodes s,n≠0→∃ l∈limits s,l.src=0∧l.dst=n) :
  ∃ y:Int→Int,Ok (limits s) y∧y a=0∧(∀ b∈nodes s,greatest s a b=some (y b))∧∀ z,Ok (limits s) z→∀ b∈nodes s,z b - z a≤y b:=by
 let t0:Table:=(nodes s).map fun n=>(n,if n=a then some (0:Int) else none)
 have kt:keys t0=nodes s:=keys_map _ (fun n=>if n=a then some (0:Int) else none)
 have hd:∀ l∈limits s,l.dst∈keys t0:=by rw[kt];exact W.dst
 have fx:round (limits s) (reach s a)=reach s a:=by
  have:=rest O hd (by rw[kt];exact W.nd)
  rw[kt]at this
  exact this
 have kr:keys (reach s a)=nodes s:=(eW _ _ t0).trans kt
 have l0:look t0 a=some 0:=(jz (nodes s) (fun n=>if n=a then some (0:Int) else none) ha).trans (by simp)
 have l1:∀ n v,look t0 n=some v→n=a∧v=0:=by
  intro n v h
  by_cases hn:n∈nodes s
  ·have e:=jz (nodes s) (fun n=>if n=a then some (0:Int) else none) hn
   rw[show look ((nodes s).map fun n=>(n,if n=a then some (0:Int) else none)) n=look t0 n from rfl,h]at e
   by_cases c:n=a
   ·rw[if_pos c]at e
    exact⟨c,Option.some.inj e⟩
   ·rw[if_neg c]at e
    cases e
  ·rw[fz (by rw[kt];exact hn)]at h
   cases h
 have S:Sound (limits s) (fun n v=>look t0 n=some v) (reach s a):=dM _ _ fun n v h=>⟨_,.nil h⟩
 have pt:∀ z,Ok (limits s) z→∀ b v,look (reach s a) b=some v→z b - z a≤v:=by
  intro z Z b v h
  obtain⟨vs,p⟩:=S b v h
  obtain⟨m,u,hi,hx⟩:=vW Z p
  obtain⟨rfl,rfl⟩:=l1 m u hi
  omega
 have ra:look (reach s a) a=some 0:=by
  obtain⟨v,hv,hle⟩:=gG (limits s) (nodes s).length t0 a 0 l0
  have:=pt x O a v hv
  have e:v=0:=by omega
  rw[e]at hv
  exact hv
 have go:∀ l∈limits s,(∃ v,look (reach s a) l.src=some v)→∃ v,look (reach s a) l.dst=some v:=by
  rintro l hl ⟨v,hv⟩
  obtain⟨u,hu,_⟩:=lQ hl (by rw[kr];exact W.dst l hl) hv _ rfl
  rw[fx]at hu
  exact⟨u,hu⟩
 have r0:∃ v,look (reach s a) 0=some v:=by
  by_cases c:a=0
  ·rw[←c];exact⟨0,ra⟩
  ·obtain⟨l,hl,e1,e2⟩:=up a ha c
   rw[←e2]
   exact go l hl ⟨0,by rw[e1];exact ra⟩
 have rb:∀ b∈nodes s,∃ v,look (reach s a) b=some v:=by
  intro b hb
  by_cases c:b=0
  ·rw[c];exact r0
  ·obtain⟨l,hl,e1,e2⟩:=dn b hb c
   rw[←e2]
   exact go l hl (by rw[e1];exact r0)
 refine⟨fun n=>(look (reach s a) n).getD 0,xO fx (by rw[kr];exact W.dst) fun l hl=>rb _ (W.src l hl),?_,?_,?_⟩
 ·show (look (reach s a) a).getD 0=0
  rw[ra];rfl
 ·intro b hb
  obtain⟨v,hv⟩:=rb b hb
  show look (reach s a) b=some ((look (reach s a) b).getD 0)
  rw[hv];rfl
 ·intro z Z b hb
  obtain⟨v,hv⟩:=rb b hb
  show z b - z a≤(look (reach s a) b).getD 0
  rw[hv]
  exact pt z Z b v hv
end BF
namespace StM
open Vbnlaa BF
structure nL (ks:List Int) (e:Ev):Prop where
 k0:0≤e.kind
 k3:e.kind≤3
 a:e.a∈ks
 lo:e.kind≤1→e.b=0∧0≤e.g∧e.g≤474814
 hi:2≤e.kind→e.b∈ks∧e.a≠e.b∧0≤e.g∧e.g≤1000000
noncomputable def aO (s:State):List Int:=s.works.map fun w=>w.key
structure WF (s:State):Prop where
 ws:s.works.Pairwise fun a b=>a.key < b.key
 wk:∀ w∈s.works,1≤w.key∧w.key≤1000000000
 wi:∀ w∈s.works,0≤w.lo∧w.lo≤w.hi∧w.hi≤474814
 wn:s.works.length≤40
 es:s.evs.Pairwise fun a b=>a.key < b.key
 ek:∀ e∈s.evs,1≤e.key∧e.key≤1000000000
 ev:∀ e∈s.evs,nL (aO s) e
 en:s.evs.length≤100
 fe:∃ x,Ok (limits s) x
theorem zq {α:Type}{f:α→Int}{l:List α}(h:l.Pairwise fun a b=>f a < f b):(l.map f).Nodup:=by
 rw[List.nodup_iff_pairwise_ne,List.pairwise_map]
 exact h.imp fun h=>by omega
theorem wnd {s:State}(h:s.works.Pairwise fun a b=>a.key < b.key):(aO s).Nodup:=zq h
theorem cw {s:State}{l:Lim}:l∈limits s↔(∃ w∈s.works,l=⟨0,w.key,w.hi⟩∨l=⟨w.key,0,-w.lo⟩)∨∃ e∈s.evs,l=limOf e:=by
 unfold limits
 rw[List.mem_append,List.mem_flatMap,List.mem_map]
 constructor
 ·rintro(⟨w,hw,h⟩ | ⟨e,he,h⟩)
  ·simp at h
   exact .inl ⟨w,hw,h⟩
  ·exact .inr ⟨e,he,h.symm⟩
 ·rintro(⟨w,hw,h⟩ | ⟨e,he,h⟩)
  ·exact .inl ⟨w,hw,by simp;exact h⟩
  ·exact .inr ⟨e,he,h.symm⟩
structure Dat (s:State) (x:Int→Int):Prop where
 lo:∀ w∈s.works,x 0+w.lo≤x w.key
 hi:∀ w∈s.works,x w.key≤x 0+w.hi
 ev:∀ e∈s.evs,x (limOf e).dst≤x (limOf e).src+(limOf e).most
theorem dY {s:State}{x:Int→Int}:Dat s x↔Ok (limits s) x:=by
 constructor
 ·intro D l hl
  rcases cw.mp hl with ⟨w,hw,h | h⟩ | ⟨e,he,h⟩
  ·subst h;exact D.hi w hw
  ·subst h
   have:=D.lo w hw
   show x 0≤x w.key + -w.lo
   omega
  ·subst h;exact D.ev e he
 ·intro O
  refine⟨fun w hw=>?_,fun w hw=>?_,fun e he=>?_⟩
  ·have:=O ⟨w.key,0,-w.lo⟩ (cw.mpr (.inl ⟨w,hw,.inr rfl⟩))
   have:x 0≤x w.key + -w.lo:=this
   omega
  ·exact O ⟨0,w.key,w.hi⟩ (cw.mpr (.inl ⟨w,hw,.inl rfl⟩))
  ·exact O _ (cw.mpr (.inr ⟨e,he,rfl⟩))
theorem mn {ks:List Int}{e:Ev}(h:nL ks e):(limOf e).src∈0 :: ks∧(limOf e).dst∈0 :: ks:=by
 unfold limOf
 split
 ·exact⟨List.mem_cons_of_mem _ h.a,List.mem_cons_self⟩
 ·split
  ·exact⟨List.mem_cons_self,List.mem_cons_of_mem _ h.a⟩
  ·have k0:=h.k0
   split
   ·exact⟨List.mem_cons_of_mem _ (h.hi (by omega)).1,List.mem_cons_of_mem _ h.a⟩
   ·exact⟨List.mem_cons_of_mem _ h.a,List.mem_cons_of_mem _ (h.hi (by omega)).1⟩
theorem vB {s:State}(ws:s.works.Pairwise fun a b=>a.key < b.key) (wk:∀ w∈s.works,1≤w.key) (ev:∀ e∈s.evs,nL (aO s) e):yS s:=by
 refine⟨?_,fun l hl=>?_,fun l hl=>?_⟩
 ·unfold nodes
  refine List.nodup_cons.mpr ⟨fun m=>?_,wnd ws⟩
  obtain⟨w,hw,e⟩:=List.mem_map.mp m
  have:=wk w hw
  omega
 ·rcases cw.mp hl with ⟨w,hw,h | h⟩ | ⟨e,he,h⟩
  ·subst h;exact List.mem_cons_self
  ·subst h;exact List.mem_cons_of_mem _ (List.mem_map.mpr ⟨w,hw,rfl⟩)
  ·subst h;exact(mn (ev e he)).1
 ·rcases cw.mp hl with ⟨w,hw,h | h⟩ | ⟨e,he,h⟩
  ·subst h;exact List.mem_cons_of_mem _ (List.mem_map.mpr ⟨w,hw,rfl⟩)
  ·subst h;exact List.mem_cons_self
  ·subst h;exact(mn (ev e he)).2
theorem WF.vB {s:State}(W:WF s):yS s:=StM.vB W.ws (fun w h=>(W.wk w h).1) W.ev
theorem Fe {s:State}:∀ n∈nodes s,n≠0→∃ l∈limits s,l.src=n∧l.dst=0:=by
 intro n hn h0
 rcases List.mem_cons.mp hn with h | h
 ·exact absurd h h0
 ·obtain⟨w,hw,rfl⟩:=List.mem_map.mp h
  exact⟨⟨w.key,0,-w.lo⟩,cw.mpr (.inl ⟨w,hw,.inr rfl⟩),rfl,rfl⟩
theorem FL {s:State}:∀ n∈nodes s,n≠0→∃ l∈limits s,l.src=0∧l.dst=n:=by
 intro n hn h0
 rcases List.mem_cons.mp hn with h | h
 ·exact absurd h h0
 ·obtain⟨w,hw,rfl⟩:=List.mem_map.mp h
  exact⟨⟨0,w.key,w.hi⟩,cw.mpr (.inl ⟨w,hw,.inl rfl⟩),rfl,rfl⟩
theorem Ge {s:State}(S:yS s):feasible s=true↔∃ x,Dat s x:=by
 rw[iu S]
 exact⟨fun ⟨x,h⟩=>⟨x,dY.mpr h⟩,fun ⟨x,h⟩=>⟨x,dY.mp h⟩⟩
theorem great {s:State}(W:WF s) {a:Int}(ha:a∈nodes s) :
  ∃ y:Int→Int,Dat s y∧y a=0∧(∀ b∈nodes s,greatest s a b=some (y b))∧∀ z,Dat s z→∀ b∈nodes s,z b - z a≤y b:=by
 obtain⟨x,O⟩:=W.fe
 obtain⟨y,h1,h2,h3,h4⟩:=uO W.vB O ha Fe FL
 exact⟨y,dY.mpr h1,h2,h3,fun z Z=>h4 z (dY.mp Z)⟩
theorem qF {s:State}(W:WF s) {a b:Int}(ha:a∈nodes s) (hb:b∈nodes s) {m:Int}(h1:∀ z,Dat s z→z b - z a≤m) (h2:∃ z,Dat s z∧z b - z a=m):greatest s a b=some m:=by
 obtain⟨y,d,e0,e1,e2⟩:=great W ha
 rw[e1 b hb]
 obtain⟨z,dz,ez⟩:=h2
 have:=h1 y d
 have:=e2 z dz b hb
 congr 1
 omega
theorem bM {s:State}{k:Int}:known s k=true↔k∈aO s:=by
 unfold known workOf aO
 rw[List.find?_isSome]
 constructor
 ·rintro⟨w,hw,e⟩
  exact List.mem_map.mpr ⟨w,hw,by simpa using e⟩
 ·intro m
  obtain⟨w,hw,e⟩:=List.mem_map.mp m
  exact⟨w,hw,by simpa using e⟩
theorem nM {s:State}{k:Int}(h:k∈aO s):k∈nodes s:=List.mem_cons_of_mem _ h
theorem zl {s:State}:(0:Int)∈nodes s:=List.mem_cons_self
theorem Aw {s:State}(W:WF s) {k:Int}(hk:k∈aO s) {m:Int}(h1:∀ z,Dat s z→z k - z 0≤m) (h2:∃ z,Dat s z∧z k - z 0=m):latest s k=some m:=by
 unfold latest
 rw[if_pos (bM.mpr hk)]
 exact qF W zl (nM hk) h1 h2
theorem wU {s:State}(W:WF s) {k:Int}(hk:k∈aO s) {m:Int}(h1:∀ z,Dat s z→m≤z k - z 0) (h2:∃ z,Dat s z∧z k - z 0=m):earliest s k=some m:=by
 unfold earliest
 rw[if_pos (bM.mpr hk),qF W (m:=-m) (nM hk) zl (fun z Z=>by have:=h1 z Z;omega) (by
  obtain⟨z,Z,e⟩:=h2
  exact⟨z,Z,by omega⟩)]
 simp
theorem c8 {w v:Work}:∀ {l:List Work},v∈putWork w l↔v=w∨v∈l
 | []=>by simp[putWork]
 |u :: r=>by
  unfold putWork
  split
  ·simp
  ·rw[List.mem_cons,c8,List.mem_cons]
   constructor
   ·rintro(h | h | h)
    ·exact .inr (.inl h)
    ·exact .inl h
    ·exact .inr (.inr h)
   ·rintro(h | h | h)
    ·exact .inr (.inl h)
    ·exact .inl h
    ·exact .inr (.inr h)
theorem fC {w v:Ev}:∀ {l:List Ev},v∈putEv w l↔v=w∨v∈l
 | []=>by simp[putEv]
 |u :: r=>by
  unfold putEv
  split
  ·simp
  ·rw[List.mem_cons,fC,List.mem_cons]
   constructor
   ·rintro(h | h | h)
    ·exact .inr (.inl h)
    ·exact .inl h
    ·exact .inr (.inr h)
   ·rintro(h | h | h)
    ·exact .inr (.inl h)
    ·exact .inl h
    ·exact .inr (.inr h)
theorem ot (w:Work):∀ l:List Work,(putWork w l).length=l.length+1
 | []=>rfl
 |u :: r=>by
  unfold putWork
  split
  ·rfl
  ·rw[List.length_cons,ot w r,List.length_cons]
theorem tJ (w:Ev):∀ l:List Ev,(putEv w l).length=l.length+1
 | []=>rfl
 |u :: r=>by
  unfold putEv
  split
  ·rfl
  ·rw[List.length_cons,tJ w r,List.length_cons]
theorem lI {w:Work}:∀ {l:List Work},l.Pairwise (fun a b=>a.key < b.key)→(∀ v∈l,v.key≠w.key)→(putWork w l).Pairwise fun a b=>a.key < b.key
 | [],_,_=>by simp[putWork]
 |u :: r,h,hn=>by
  rw[List.pairwise_cons]at h
  unfold putWork
  split
  ·rename_i c
   refine List.pairwise_cons.mpr ⟨fun v hv=>?_,List.pairwise_cons.mpr h⟩
   rcases List.mem_cons.mp hv with e | e
   ·rw[e];exact c
   ·have:=h.1 v e;omega
  ·rename_i c
   refine List.pairwise_cons.mpr ⟨fun v hv=>?_,lI h.2 fun v hv=>hn v (List.mem_cons_of_mem _ hv)⟩
   rcases c8.mp hv with e | e
   ·subst e
    have:=hn u List.mem_cons_self
    omega
   ·exact h.1 v e
theorem pJ {w:Ev}:∀ {l:List Ev},l.Pairwise (fun a b=>a.key < b.key)→(∀ v∈l,v.key≠w.key)→(putEv w l).Pairwise fun a b=>a.key < b.key
 | [],_,_=>by simp[putEv]
 |u :: r,h,hn=>by
  rw[List.pairwise_cons]at h
  unfold putEv
  split
  ·rename_i c
   refine List.pairwise_cons.mpr ⟨fun v hv=>?_,List.pairwise_cons.mpr h⟩
   rcases List.mem_cons.mp hv with e | e
   ·rw[e];exact c
   ·have:=h.1 v e;omega
  ·rename_i c
   refine List.pairwise_cons.mpr ⟨fun v hv=>?_,pJ h.2 fun v hv=>hn v (List.mem_cons_of_mem _ hv)⟩
   rcases fC.mp hv with e | e
   ·subst e
    have:=hn u List.mem_cons_self
    omega
   ·exact h.1 v e
theorem Ba:WF start:=⟨.nil,by simp[start],by simp[start],by simp[start],.nil,by simp[start],by simp[start],by simp[start],⟨fun _=>0,by simp[Ok,limits,start]⟩⟩
theorem nL.mono {ks ks':List Int}{e:Ev}(h:nL ks e) (k:∀ x∈ks,x∈ks'):nL ks' e:=
 ⟨h.k0,h.k3,k _ h.a,h.lo,fun c=>⟨k _ (h.hi c).1,(h.hi c).2⟩⟩
theorem FH {ks:List Int}{e:Ev}{k:Int}(h:nL ks e) (hk:k∉ks) (h0:k≠0):(limOf e).src≠k∧(limOf e).dst≠k:=by
 obtain⟨h1,h2⟩:=mn h
 refine⟨fun q=>?_,fun q=>?_⟩
 ·rw[q]at h1
  rcases List.mem_cons.mp h1 with z | z
  ·exact h0 z
  ·exact hk z
 ·rw[q]at h2
  rcases List.mem_cons.mp h2 with z | z
  ·exact h0 z
  ·exact hk z
theorem CW {s:State}(W:WF s) {k lo hi:Int}(h1:1≤k) (h2:k≤1000000000) (h3:0≤lo) (h4:lo≤hi) (h5:hi≤474814) (hk:k∉aO s) (hn:s.works.length < 40) :
  WF { s with works:=putWork ⟨k,lo,hi⟩ s.works }:=by
 have sub:∀ x∈aO s,x∈aO { s with works:=putWork ⟨k,lo,hi⟩ s.works }:=by
  intro x hx
  obtain⟨w,hw,e⟩:=List.mem_map.mp hx
  exact List.mem_map.mpr ⟨w,c8.mpr (.inr hw),e⟩
 refine⟨lI W.ws fun v hv e=>hk (by rw[←show v.key=k from e];exact List.mem_map.mpr ⟨v,hv,rfl⟩),fun w hw=>?_,fun w hw=>?_,?_,W.es,W.ek,fun e he=>(W.ev e he).mono sub,W.en,?_⟩
 ·rcases c8.mp hw with e | e
  ·subst e;exact⟨h1,h2⟩
  ·exact W.wk w e
 ·rcases c8.mp hw with e | e
  ·subst e;exact⟨h3,h4,h5⟩
  ·exact W.wi w e
 ·show (putWork _ s.works).length≤40
  rw[ot]
  omega
 ·obtain⟨x,O⟩:=W.fe
  have D:=dY.mpr O
  refine⟨fun n=>if n=k then x 0+lo else x n,dY.mp ⟨fun w hw=>?_,fun w hw=>?_,fun e he=>?_⟩⟩
  ·rw[if_neg (show ¬ (0:Int)=k by omega)]
   rcases c8.mp hw with e | e
   ·subst e;simp
   ·have:w.key≠k:=fun q=>hk (by rw[←q];exact List.mem_map.mpr ⟨w,e,rfl⟩)
    rw[if_neg this]
    exact D.lo w e
  ·rw[if_neg (show ¬ (0:Int)=k by omega)]
   rcases c8.mp hw with e | e
   ·subst e;simp;omega
   ·have:w.key≠k:=fun q=>hk (by rw[←q];exact List.mem_map.mpr ⟨w,e,rfl⟩)
    rw[if_neg this]
    exact D.hi w e
  ·obtain⟨n1,n2⟩:=FH (W.ev e he) hk (by omega)
   rw[if_neg n1,if_neg n2]
   exact D.ev e he
theorem CZ {s:State}(W:WF s) {k:Int}(hk:∀ e∈s.evs,e.a≠k∧(2≤e.kind→e.b≠k)):WF { s with works:=s.works.filter fun w=>w.key != k }:=by
 have hm:∀ w,w∈s.works.filter (fun w=>w.key != k)→w∈s.works:=fun w h=>(List.mem_filter.mp h).1
 refine⟨W.ws.sublist List.filter_sublist,fun w hw=>W.wk w (hm w hw),fun w hw=>W.wi w (hm w hw),Nat.le_trans (List.length_filter_le _ _) W.wn,W.es,W.ek,fun e he=>?_,W.en,?_⟩
 ·have h:=W.ev e he
  have mv:∀ x∈aO s,x≠k→x∈aO { s with works:=s.works.filter fun w=>w.key != k }:=by
   intro x hx hne
   obtain⟨w,hw,e⟩:=List.mem_map.mp hx
   exact List.mem_map.mpr ⟨w,List.mem_filter.mpr ⟨hw,by simp[show w.key=x from e,hne]⟩,e⟩
  exact⟨h.k0,h.k3,mv _ h.a (hk e he).1,h.lo,fun c=>⟨mv _ (h.hi c).1 ((hk e he).2 c),(h.hi c).2⟩⟩
 ·obtain⟨x,O⟩:=W.fe
  have D:=dY.mpr O
  exact⟨x,dY.mp ⟨fun w hw=>D.lo w (hm w hw),fun w hw=>D.hi w (hm w hw),D.ev⟩⟩
theorem xq {s:State}(W:WF s) (k:Int):WF (withoutEv s k):=by
 have hm:∀ e,e∈s.evs.filter (fun e=>e.key != k)→e∈s.evs:=fun w h=>(List.mem_filter.mp h).1
 refine⟨W.ws,W.wk,W.wi,W.wn,W.es.sublist List.filter_sublist,fun e he=>W.ek e (hm e he),fun e he=>W.ev e (hm e he),Nat.le_trans (List.length_filter_le _ _) W.en,?_⟩
 obtain⟨x,O⟩:=W.fe
 have D:=dY.mpr O
 exact⟨x,dY.mp ⟨D.lo,D.hi,fun e he=>D.ev e (hm e he)⟩⟩
theorem zX {s:State}(W:WF s) {e:Ev}(he:nL (aO s) e):yS (withEv s e):=
 StM.vB W.ws (fun w h=>(W.wk w h).1) fun f hf=>by
  rcases fC.mp hf with q | q
  ·subst q;exact he
  ·exact W.ev f q
theorem CY {s:State}(W:WF s) {e:Ev}(he:nL (aO s) e) (k1:1≤e.key) (k2:e.key≤1000000000) (hk:∀ f∈s.evs,f.key≠e.key) (hn:s.evs.length < 100) (hf:feasible (withEv s e)=true):WF (withEv s e):=by
 refine⟨W.ws,W.wk,W.wi,W.wn,pJ W.es hk,fun f hf=>?_,fun f hf=>?_,?_,(iu (zX W he)).mp hf⟩
 ·rcases fC.mp hf with q | q
  ·subst q;exact⟨k1,k2⟩
  ·exact W.ek f q
 ·rcases fC.mp hf with q | q
  ·subst q;exact he
  ·exact W.ev f q
 ·show (putEv e s.evs).length≤100
  rw[tJ];omega
noncomputable def bg (s:State) (k lo hi:Int):State:={ s with works:=s.works.map fun w=>if w.key=k then ⟨k,lo,hi⟩ else w }
theorem bN (s:State) (k lo hi:Int):aO (bg s k lo hi)=aO s:=by
 unfold aO bg
 rw[List.map_map]
 apply List.map_congr_left
 intro w hw
 show (if w.key=k then (⟨k,lo,hi⟩:Work) else w).key=w.key
 split
 ·rename_i h;exact h.symm
 ·rfl
theorem e9 {s:State}(W:WF s) (k lo hi:Int):(bg s k lo hi).works.Pairwise fun a b=>a.key < b.key:=by
 have h1:(aO s).Pairwise (· < ·):=List.pairwise_map.mpr W.ws
 rw[←bN s k lo hi]at h1
 exact List.pairwise_map.mp h1
theorem rC {s:State}(W:WF s) (k lo hi:Int):yS (bg s k lo hi):=by
 refine StM.vB (e9 W k lo hi) (fun w hw=>?_) fun e he=>?_
 ·have:w.key∈aO (bg s k lo hi):=List.mem_map.mpr ⟨w,hw,rfl⟩
  rw[bN]at this
  obtain⟨v,hv,e⟩:=List.mem_map.mp this
  have:=(W.wk v hv).1
  omega
 ·rw[bN];exact W.ev e he
theorem vm {s:State}(W:WF s) {k lo hi:Int}(h3:0≤lo) (h4:lo≤hi) (h5:hi≤474814) (hf:feasible (bg s k lo hi)=true):WF (bg s k lo hi):=by
 refine⟨e9 W k lo hi,fun w hw=>?_,fun w hw=>?_,?_,W.es,W.ek,fun e he=>?_,W.en,(iu (rC W k lo hi)).mp hf⟩
 ·have:w.key∈aO (bg s k lo hi):=List.mem_map.mpr ⟨w,hw,rfl⟩
  rw[bN]at this
  obtain⟨v,hv,e⟩:=List.mem_map.mp this
  have:=W.wk v hv
  omega
 ·obtain⟨v,hv,e⟩:=List.mem_map.mp hw
  by_cases c:v.key=k
  ·rw[if_pos c]at e
   subst e
   exact⟨h3,h4,h5⟩
  ·rw[if_neg c]at e
   subst e
   exact W.wi v hv
 ·show (s.works.map _).length≤40
  rw[List.length_map];exact W.wn
 ·rw[bN];exact W.ev e he
end StM
namespace WayM
open Vbnlaa BF StM
abbrev aZ:=List (Int×Int)
noncomputable def a4:aZ→Int→Option Int
 | [],_=>none
 |p :: t,k=>if p.1=k then some p.2 else a4 t k
noncomputable def jm (t:aZ) (k v:Int):aZ:=t.map fun p=>if p.1=k then (k,v) else p
noncomputable def toT (t:aZ):Table:=t.map fun p=>(p.1,some p.2)
noncomputable def aN (t:aZ):List Int:=t.map fun p=>p.1
theorem mr (t:aZ):keys (toT t)=aN t:=by
 unfold keys toT aN
 rw[List.map_map]
 rfl
theorem dX:∀ (t:aZ) (k:Int),look (toT t) k=a4 t k
 | [],_=>rfl
 |p :: t,k=>by
  show look ((p.1,some p.2) :: toT t) k=if p.1=k then some p.2 else a4 t k
  rw[eE,dX t k]
theorem bp:∀ {t:aZ}{k:Int},k∈aN t→∃ v,a4 t k=some v
 |p :: t,k,h=>by
  unfold a4
  by_cases e:p.1=k
  ·exact⟨p.2,if_pos e⟩
  ·rw[if_neg e]
   exact bp ((List.mem_cons.mp h).resolve_left fun z=>e z.symm)
theorem jC:∀ {t:aZ}{k v:Int},a4 t k=some v→k∈aN t
 |p :: t,k,v,h=>by
  unfold a4 at h
  by_cases e:p.1=k
  ·subst e;exact List.mem_cons_self
  ·rw[if_neg e]at h
   exact List.mem_cons_of_mem _ (jC h)
theorem nj (t:aZ) (k v:Int):aN (jm t k v)=aN t:=by
 unfold aN jm
 rw[List.map_map]
 apply List.map_congr_left
 intro p _
 show (if p.1=k then (k,v) else p).1=p.1
 split
 ·rename_i h;exact h.symm
 ·rfl
theorem wB:∀ (t:aZ) (k v m:Int),a4 (jm t k v) m=if m=k∧k∈aN t then some v else a4 t m
 | [],k,v,m=>by simp[jm,a4,aN]
 |p :: t,k,v,m=>by
  show a4 ((if p.1=k then (k,v) else p) :: jm t k v) m=_
  have ih:=wB t k v m
  unfold aN at ih ⊢
  simp only[a4,List.map_cons,List.mem_cons,ih]
  by_cases h1:p.1=k
  ·subst h1
   by_cases h2:p.1=m
   ·subst h2;simp
   ·have:¬ m=p.1:=fun z=>h2 z.symm
    simp[this,h2]
  ·by_cases h2:p.1=m
   ·subst h2
    have h3:¬ k=p.1:=fun z=>h1 z.symm
    simp[h1]
   ·have h3:¬ k=p.1:=fun z=>h1 z.symm
    have h4:(k=p.1∨k∈List.map (fun p:Int×Int=>p.1) t)↔k∈List.map (fun p:Int×Int=>p.1) t:=⟨fun h=>h.resolve_left h3,.inr⟩
    simp only[h1,h2,if_false,h4]
theorem zg {t:aZ}(nd:(aN t).Nodup) {n v old:Int}(h:a4 t n=some old):put (toT t) n v=toT (jm t n (if v < old then v else old)):=by
 induction t with
 |nil=>rfl
 |cons p t ih=>
  have nd':(aN t).Nodup:=(List.nodup_cons.mp nd).2
  show put ((p.1,some p.2) :: toT t) n v=toT ((if p.1=n then (n,if v < old then v else old) else p) :: jm t n (if v < old then v else old))
  rw[lU]
  unfold a4 at h
  by_cases e:p.1=n
  ·rw[if_pos e]at h
   have eo:=Option.some.inj h
   subst eo
   have hn:n∉aN t:=by rw[←e];exact(List.nodup_cons.mp nd).1
   have e1:∀ z,jm t n z=t:=by
    intro z
    unfold jm
    refine(List.map_congr_left fun q hq=>?_).trans (List.map_id' t)
    rw[if_neg]
    intro c
    exact hn (by rw[←c];exact List.mem_map.mpr ⟨q,hq,rfl⟩)
   have e2:put (toT t) n v=toT t:=by
    unfold put
    refine(List.map_congr_left fun q hq=>?_).trans (List.map_id' _)
    rw[if_neg]
    intro c
    simp at c
    obtain⟨q',hq',rfl⟩:=List.mem_map.mp hq
    exact hn (by rw[←c.1];exact List.mem_map.mpr ⟨q',hq',rfl⟩)
   rw[e1,e2,if_pos e]
   show _=((n,some (if v < p.2 then v else p.2)) :: toT t)
   congr 1
   by_cases c:v < p.2
   ·simp[e,below,c]
   ·simp[e,below,c]
  ·rw[if_neg e]at h
   rw[if_neg e,ih nd' h]
   have:¬ ((p.1 == n && below v (some p.2))=true):=by simp[e]
   rw[if_neg this]
   rfl
theorem toT_inj:∀ {t u:aZ},toT t=toT u→t=u
 | [],[],_=>rfl
 | [],_ :: _,h=>by cases h
 |_ :: _,[],h=>by cases h
 |p :: t,q :: u,h=>by
  have h:((p.1,some p.2):Int×Option Int) :: toT t=(q.1,some q.2) :: toT u:=h
  injection h with h1 h2
  rw[toT_inj h2]
  injection h1 with h3 h4
  injection h4 with h5
  have:p=q:=Prod.ext h3 h5
  rw[this]
structure E4 where
 kind:Int
 u:Int
 v:Int
 g:Int
noncomputable def low (i j:Int):Int:=if j < i then j else i
noncomputable def cJ (t:aZ) (e:E4):aZ:=
 if e.kind=2 then jm t e.u (low ((a4 t e.u).getD 0) ((a4 t e.v).getD 0 - e.g))
 else if e.kind=3 then jm t e.v (low ((a4 t e.v).getD 0) ((a4 t e.u).getD 0+e.g))
 else t
noncomputable def drawn (es:List E4) (t:aZ):aZ:=es.foldl cJ t
noncomputable def mL (e:E4):Option Lim:=if e.kind=2 then some ⟨e.v,e.u,-e.g⟩ else if e.kind=3 then some ⟨e.u,e.v,e.g⟩ else none
noncomputable def il (es:List E4):List Lim:=es.filterMap mL
theorem jI (t:aZ) (e:E4):aN (cJ t e)=aN t:=by
 unfold cJ
 split
 ·exact nj _ _ _
 ·split
  ·exact nj _ _ _
  ·rfl
theorem c9:∀ (es:List E4) (t:aZ),aN (drawn es t)=aN t
 | [],_=>rfl
 |e :: es,t=>(c9 es (cJ t e)).trans (jI t e)
noncomputable def EIn (ks:List Int) (es:List E4):Prop:=∀ e∈es,e.u∈ks∧(e.kind=2∨e.kind=3→e.v∈ks)
theorem AI {t:aZ}(nd:(aN t).Nodup) {e:E4}(h:e.u∈aN t∧(e.kind=2∨e.kind=3→e.v∈aN t)) :
  toT (cJ t e)=match mL e with | none=>toT t | some l=>relax (toT t) l:=by
 unfold cJ mL
 by_cases h2:e.kind=2
 ·obtain⟨a,ha⟩:=bp h.1
  obtain⟨b,hb⟩:=bp (h.2 (.inl h2))
  simp only[if_pos h2]
  unfold relax
  rw[dX,hb]
  show _=put (toT t) e.u (b + -e.g)
  rw[zg nd ha,ha]
  rfl
 ·by_cases h3:e.kind=3
  ·obtain⟨a,ha⟩:=bp h.1
   obtain⟨b,hb⟩:=bp (h.2 (.inr h3))
   simp only[if_neg h2,if_pos h3]
   unfold relax
   rw[dX,ha]
   show _=put (toT t) e.v (a+e.g)
   rw[zg nd hb,hb]
   rfl
  ·simp only[if_neg h2,if_neg h3]
theorem j2:∀ {es:List E4}{t:aZ},(aN t).Nodup→EIn (aN t) es→toT (drawn es t)=round (il es) (toT t)
 | [],_,_,_=>rfl
 |e :: es,t,nd,h=>by
  have h1:=AI nd (h e List.mem_cons_self)
  have ih:=j2 (es:=es) (t:=cJ t e) (by rw[jI];exact nd) (by rw[jI];exact fun f hf=>h f (List.mem_cons_of_mem _ hf))
  show toT (drawn es (cJ t e))=_
  rw[ih,h1]
  unfold il
  rw[List.filterMap_cons]
  cases hb:mL e with
  |none=>rfl
  |some l=>rfl
noncomputable def turns (es:List E4):Nat→aZ→Option aZ
 |0,_=>none
 |n+1,t=>if drawn es t=t then some t else turns es n (drawn es t)
noncomputable def iter (f:aZ→aZ):Nat→aZ→aZ
 |0,t=>t
 |n+1,t=>iter f n (f t)
theorem kR {es:List E4}:∀ {n:Nat}{t u:aZ},turns es n t=some u→drawn es u=u∧∃ k,u=iter (drawn es) k t
 |0,_,_,h=>by cases h
 |n+1,t,u,h=>by
  unfold turns at h
  split at h
  ·rename_i c
   have:=Option.some.inj h
   subst this
   exact⟨c,0,rfl⟩
  ·obtain⟨h1,k,h2⟩:=kR h
   exact⟨h1,k+1,h2⟩
theorem vp {es:List E4}:∀ {n k:Nat}{t:aZ},k < n→drawn es (iter (drawn es) k t)=iter (drawn es) k t→∃ u,turns es n t=some u
 |0,_,_,h,_=>absurd h (Nat.not_lt_zero _)
 |n+1,k,t,h,hf=>by
  unfold turns
  by_cases c:drawn es t=t
  ·exact⟨t,if_pos c⟩
  ·rw[if_neg c]
   cases k with
   |zero=>exact absurd hf c
   |succ k=>exact vp (n:=n) (k:=k) (by omega) hf
theorem fR (es:List E4):∀ (k:Nat) (t:aZ),aN (iter (drawn es) k t)=aN t
 |0,_=>rfl
 |k+1,t=>(fR es k (drawn es t)).trans (c9 es t)
theorem qD {es:List E4}:∀ {k:Nat}{t:aZ},(aN t).Nodup→EIn (aN t) es→toT (iter (drawn es) k t)=rounds (il es) k (toT t)
 |0,_,_,_=>rfl
 |k+1,t,nd,h=>by
  show toT (iter (drawn es) k (drawn es t))=rounds (il es) k (round (il es) (toT t))
  rw[qD (by rw[c9];exact nd) (by rw[c9];exact h),j2 nd h]
theorem j0 {es:List E4}{ks:List Int}(h:EIn ks es):∀ l∈il es,l.src∈ks∧l.dst∈ks:=by
 intro l hl
 obtain⟨e,he,hb⟩:=List.mem_filterMap.mp hl
 unfold mL at hb
 split at hb
 ·rename_i c
  have:=Option.some.inj hb
  subst this
  exact⟨(h e he).2 (.inl c),(h e he).1⟩
 ·split at hb
  ·rename_i c
   have:=Option.some.inj hb
   subst this
   exact⟨(h e he).1,(h e he).2 (.inr c)⟩
  ·cases hb
theorem vo {es:List E4}{t:aZ}{x:Int→Int}(nd:(aN t).Nodup) (h:EIn (aN t) es) (O:Ok (il es) x) {n:Nat}(hn:(aN t).length < n):∃ u,turns es n t=some u:=by
 refine vp hn (toT_inj ?_)
 have r:=rest (t:=toT t) O (fun l hl=>by rw[mr];exact(j0 h l hl).2) (by rw[mr];exact nd)
 rw[mr]at r
 rw[j2 (by rw[fR];exact nd) (by rw[fR];exact h),qD nd h]
 exact r
theorem pz {es:List E4}{t u:aZ}(nd:(aN t).Nodup) (h:EIn (aN t) es) {n:Nat}(e:turns es n t=some u) :
  aN u=aN t∧(∀ k a,a4 t k=some a→∃ b,a4 u k=some b∧b≤a)∧Ok (il es) (fun k=>(a4 u k).getD 0) ∧
   ∀ x:Int→Int,Ok (il es) x→(∀ k a,a4 t k=some a→x k≤a)→∀ k b,a4 u k=some b→x k≤b:=by
 obtain⟨h1,k0,h2⟩:=kR e
 have ku:aN u=aN t:=by rw[h2];exact fR es k0 t
 have tu:toT u=rounds (il es) k0 (toT t):=by rw[h2];exact qD nd h
 refine⟨ku,fun k a ha=>?_,?_,fun x O hx k b hb=>?_⟩
 ·have:=gG (il es) k0 (toT t) k a (by rw[dX];exact ha)
  rw[←tu,dX]at this
  exact this
 ·have fx:round (il es) (toT u)=toT u:=by rw[←j2 (by rw[ku];exact nd) (by rw[ku];exact h),h1]
  have:=xO fx (fun l hl=>by rw[mr,ku];exact(j0 h l hl).2) (fun l hl=>by
   rw[dX]
   exact bp (by rw[ku];exact(j0 h l hl).1))
  intro l hl
  have q:=this l hl
  simp only[dX]at q
  exact q
 ·have S:Sound (il es) (fun n v=>look (toT t) n=some v) (toT u):=by rw[tu];exact dM _ _ fun n v h=>⟨_,.nil h⟩
  obtain⟨vs,p⟩:=S k b (by rw[dX];exact hb)
  obtain⟨m,v,hi,hle⟩:=vW O p
  rw[dX]at hi
  have:=hx m v hi
  omega
noncomputable def cu (t:aZ) (e:E4):aZ:=if e.kind=1 then jm t e.u (low ((a4 t e.u).getD 0) e.g) else t
noncomputable def outer (ws:List (Int×Int×Int)) (es:List E4):aZ:=es.foldl cu (ws.map fun w=>(w.1,w.2.2))
theorem mG (t:aZ) (e:E4):aN (cu t e)=aN t:=by
 unfold cu
 split
 ·exact nj _ _ _
 ·rfl
theorem jH:∀ (es:List E4) (t:aZ),aN (es.foldl cu t)=aN t
 | [],_=>rfl
 |e :: es,t=>(jH es (cu t e)).trans (mG t e)
theorem wC {t:aZ}{e:E4}{k a:Int}(hu:e.u∈aN t) (h:a4 t k=some a):a4 (cu t e) k=some (if e.kind=1∧e.u=k then low a e.g else a):=by
 unfold cu
 by_cases h1:e.kind=1
 ·rw[if_pos h1,wB]
  by_cases h2:e.u=k
  ·subst h2
   simp[h1,hu,h]
  ·have:¬ k=e.u:=fun z=>h2 z.symm
   simp[h1,h2,this,h]
 ·simp[h1,h]
noncomputable def vi (t0 t:aZ) (es:List E4):Prop:=∀ k a,a4 t0 k=some a→∃ b,a4 t k=some b∧b≤a∧(∀ e∈es,e.kind=1→e.u=k→b≤e.g)∧(b=a∨∃ e∈es,e.kind=1∧e.u=k∧b=e.g)
theorem k8:∀ (es:List E4) (t:aZ),(∀ e∈es,e.u∈aN t)→vi t (es.foldl cu t) es
 | [],t,_=>fun k a h=>⟨a,h,Int.le_refl _,by simp,.inl rfl⟩
 |e :: es,t,hu=>fun k a h=>by
  have g:=wC (hu e List.mem_cons_self) h
  obtain⟨b,h1,h2,h3,h4⟩:=k8 es (cu t e) (fun f hf=>by rw[mG];exact hu f (List.mem_cons_of_mem _ hf)) k _ g
  have Lm:low a e.g≤a:=by unfold low;split<;>omega
  have Ll:low a e.g≤e.g:=by unfold low;split<;>omega
  have KW:low a e.g=a∨low a e.g=e.g:=by unfold low;split<;>simp
  refine⟨b,h1,?_,fun f hf k1 k2=>?_,?_⟩
  ·split at h2<;>omega
  ·rcases List.mem_cons.mp hf with q | q
   ·subst q
    rw[if_pos ⟨k1,k2⟩]at h2
    omega
   ·exact h3 f q k1 k2
  ·rcases h4 with h4 | ⟨f,hf,k1,k2,k3⟩
   ·by_cases c:e.kind=1∧e.u=k
    ·rw[if_pos c]at h4
     rcases KW with q | q
     ·exact .inl (h4.trans q)
     ·exact .inr ⟨e,List.mem_cons_self,c.1,c.2,h4.trans q⟩
    ·rw[if_neg c]at h4
     exact .inl h4
   ·exact .inr ⟨f,List.mem_cons_of_mem _ hf,k1,k2,k3⟩
noncomputable def e4 (e:Ev):E4:=⟨e.kind,e.a,e.b,e.g⟩
structure kf (ws:List (Int×Int×Int)) (es:List E4) (s:State):Prop where
 wnd:(ws.map fun w=>w.1).Nodup
 w1:∀ w∈ws,(⟨w.1,w.2.1,w.2.2⟩:Work)∈s.works
 w2:∀ w∈s.works,(w.key,w.lo,w.hi)∈ws
 e1:∀ e∈es,∃ f∈s.evs,e=e4 f
 e2:∀ f∈s.evs,e4 f∈es
 pos:∀ w∈s.works,1≤w.key
 ev:∀ e∈s.evs,nL (aO s) e
noncomputable def bo (ws:List (Int×Int×Int)) (es:List E4):Option aZ:=turns es (ws.length+1) (outer ws es)
noncomputable def eG (ws:List (Int×Int×Int)) (es:List E4):Bool:=match bo ws es with
 |none=>false
 |some t=>ws.all (fun w=>!decide ((a4 t w.1).getD 0 < w.2.1)) && es.all (fun e=>!(decide (e.kind=0) && decide ((a4 t e.u).getD 0 < e.g)))
section
variable {ws:List (Int×Int×Int)}{es:List E4}{s:State}
theorem kf.keys (L:kf ws es s) {k:Int}:k∈aO s↔k∈ws.map fun w=>w.1:=by
 constructor
 ·intro h
  obtain⟨w,hw,e⟩:=List.mem_map.mp h
  exact List.mem_map.mpr ⟨_,L.w2 w hw,e⟩
 ·intro h
  obtain⟨w,hw,e⟩:=List.mem_map.mp h
  exact List.mem_map.mpr ⟨_,L.w1 w hw,e⟩
theorem mF (ws:List (Int×Int×Int)):aN (ws.map fun w=>(w.1,w.2.2))=ws.map fun w=>w.1:=by
 unfold aN
 rw[List.map_map]
 rfl
theorem gk:aN (outer ws es)=ws.map fun w=>w.1:=(jH es _).trans (mF ws)
theorem kf.ein (L:kf ws es s):EIn (ws.map fun w=>w.1) es:=fun e he=>by
 obtain⟨f,hf,rfl⟩:=L.e1 e he
 have:=L.ev f hf
 refine⟨L.keys.mp this.a,fun h=>L.keys.mp (this.hi ?_).1⟩
 show (2:Int)≤f.kind
 rcases h with h | h
 ·have:f.kind=2:=h
  omega
 ·have:f.kind=3:=h
  omega
theorem j1:∀ {ws:List (Int×Int×Int)},(ws.map fun w=>w.1).Nodup→∀ w∈ws,a4 (ws.map fun w=>(w.1,w.2.2)) w.1=some w.2.2
 |v :: ws,nd,w,h=>by
  have nd:(v.1 :: ws.map fun w=>w.1).Nodup:=nd
  show (if v.1=w.1 then some v.2.2 else a4 (ws.map fun w=>(w.1,w.2.2)) w.1)=some w.2.2
  rcases List.mem_cons.mp h with e | e
  ·subst e;simp
  ·have:¬ v.1=w.1:=fun c=>(List.nodup_cons.mp nd).1 (by rw[c];exact List.mem_map.mpr ⟨w,e,rfl⟩)
   rw[if_neg this]
   exact j1 (List.nodup_cons.mp nd).2 w e
theorem kf.Dn (L:kf ws es s):vi (ws.map fun w=>(w.1,w.2.2)) (outer ws es) es:=
 k8 es _ fun e he=>by rw[mF];exact(L.ein e he).1
theorem wt {f:Ev}{l:Lim}(h:mL (e4 f)=some l):l=limOf f:=by
 unfold mL e4 at h
 unfold limOf
 simp only at h
 split at h
 ·rename_i c
  rw[if_neg (by omega),if_neg (by omega),if_pos c]
  exact(Option.some.inj h).symm
 ·split at h
  ·rename_i c1 c
   rw[if_neg (by omega),if_neg (by omega),if_neg c1]
   exact(Option.some.inj h).symm
  ·cases h
theorem kf.dat (L:kf ws es s) {x:Int→Int}(h0:x 0=0):Dat s x↔(∀ w∈ws,w.2.1≤x w.1)∧(∀ w∈ws,x w.1≤w.2.2)∧(∀ e∈es,e.kind=0→e.g≤x e.u)∧(∀ e∈es,e.kind=1→x e.u≤e.g)∧Ok (il es) x:=by
 constructor
 ·intro D
  refine⟨fun w hw=>?_,fun w hw=>?_,fun e he k=>?_,fun e he k=>?_,fun l hl=>?_⟩
  ·have:x 0+w.2.1≤x w.1:=D.lo _ (L.w1 w hw)
   omega
  ·have:x w.1≤x 0+w.2.2:=D.hi _ (L.w1 w hw)
   omega
  ·obtain⟨f,hf,rfl⟩:=L.e1 e he
   have:=D.ev f hf
   have k:f.kind=0:=k
   unfold limOf at this
   rw[if_pos k]at this
   have:x 0≤x f.a + -f.g:=this
   show f.g≤x f.a
   omega
  ·obtain⟨f,hf,rfl⟩:=L.e1 e he
   have:=D.ev f hf
   have k:f.kind=1:=k
   unfold limOf at this
   rw[if_neg (by omega),if_pos k]at this
   have:x f.a≤x 0+f.g:=this
   show x f.a≤f.g
   omega
  ·obtain⟨e,he,hb⟩:=List.mem_filterMap.mp hl
   obtain⟨f,hf,rfl⟩:=L.e1 e he
   rw[wt hb]
   exact D.ev f hf
 ·rintro⟨h1,h2,h3,h4,h5⟩
  refine⟨fun w hw=>?_,fun w hw=>?_,fun f hf=>?_⟩
  ·have:=h1 _ (L.w2 w hw)
   show x 0+w.lo≤x w.key
   have:w.lo≤x w.key:=this
   omega
  ·have:x w.key≤w.hi:=h2 _ (L.w2 w hw)
   omega
  ·have q:=L.ev f hf
   have k0:=q.k0
   have k3:=q.k3
   have m:=L.e2 f hf
   by_cases c0:f.kind=0
   ·have:f.g≤x f.a:=h3 _ m c0
    unfold limOf
    rw[if_pos c0]
    show x 0≤x f.a + -f.g
    omega
   ·by_cases c1:f.kind=1
    ·have:x f.a≤f.g:=h4 _ m c1
     unfold limOf
     rw[if_neg c0,if_pos c1]
     show x f.a≤x 0+f.g
     omega
    ·have:∃ l,mL (e4 f)=some l:=by
      unfold mL
      by_cases c2:f.kind=2
      ·exact⟨_,if_pos c2⟩
      ·have c3:f.kind=3:=by omega
       exact⟨_,(if_neg c2).trans (if_pos c3)⟩
     obtain⟨l,hb⟩:=this
     rw[←wt hb]
     exact h5 l (List.mem_filterMap.mpr ⟨_,m,hb⟩)
theorem gW {x:Int→Int}(D:Dat s x):Dat s fun k=>x k - x 0:=by
 refine⟨fun w hw=>?_,fun w hw=>?_,fun e he=>?_⟩
 ·have:=D.lo w hw
  show x 0 - x 0+w.lo≤x w.key - x 0
  omega
 ·have:=D.hi w hw
  show x w.key - x 0≤x 0 - x 0+w.hi
  omega
 ·have:=D.ev e he
  show x _ - x 0≤x _ - x 0+_
  omega
theorem kf.latest (L:kf ws es s):(∀ x,Dat s x→∃ t,bo ws es=some t)∧∀ t,bo ws es=some t →
  aN t=(ws.map fun w=>w.1)∧(∀ x,Dat s x→x 0=0→∀ k∈aO s,∃ b,a4 t k=some b∧x k≤b) ∧
   ((eG ws es=true↔∃ x,Dat s x)∧(eG ws es=true→Dat s fun k=>if k=0 then 0 else (a4 t k).getD 0)):=by
 have ko:aN (outer ws es)=ws.map fun w=>w.1:=gk
 have nd:(aN (outer ws es)).Nodup:=by rw[ko];exact L.wnd
 have ei:EIn (aN (outer ws es)) es:=by rw[ko];exact L.ein
 have oo:=L.Dn
 refine⟨fun x D=>?_,fun t ht=>?_⟩
 ·have D':=(L.dat (x:=fun k=>x k - x 0) (by show x 0 - x 0=0;omega)).mp (gW D)
  refine vo nd ei D'.2.2.2.2 ?_
  rw[ko,List.length_map]
  omega
 ·obtain⟨kt,le,fx,top⟩:=pz nd ei ht
  have kt':aN t=ws.map fun w=>w.1:=kt.trans ko
  have inT:∀ k∈aO s,∃ b,a4 t k=some b:=fun k hk=>bp (by rw[kt'];exact L.keys.mp hk)
  have n0:∀ k∈aO s,k≠0:=fun k hk=>by
   obtain⟨w,hw,e⟩:=List.mem_map.mp hk
   have:=L.pos w hw
   omega
  have up:∀ x,Dat s x→x 0=0→∀ k b,a4 t k=some b→x k≤b:=by
   intro x D h0
   have D':=(L.dat h0).mp D
   refine top x D'.2.2.2.2 fun k a ha=>?_
   obtain⟨w,hw,e1,e2⟩:∃ w∈ws,w.1=k∧True:=by
    have:=jC ha
    rw[ko]at this
    obtain⟨w,hw,e⟩:=List.mem_map.mp this
    exact⟨w,hw,e,trivial⟩
   obtain⟨b,h1,h2,h3,h4⟩:=oo w.1 w.2.2 (j1 L.wnd w hw)
   rw[e1,ha]at h1
   have:=Option.some.inj h1
   subst this
   rcases h4 with q | ⟨e,he,k1,k2,k3⟩
   ·have:=D'.2.1 w hw
    rw[e1]at this
    omega
   ·have:=D'.2.2.2.1 e he k1
    rw[k2,e1]at this
    omega
  let y:Int→Int:=fun k=>if k=0 then 0 else (a4 t k).getD 0
  have y0:y 0=0:=rfl
  have yk:∀ k∈aO s,y k=(a4 t k).getD 0:=fun k hk=>if_neg (n0 k hk)
  have ub:∀ w∈ws,y w.1≤w.2.2∧∀ e∈es,e.kind=1→e.u=w.1→y w.1≤e.g:=fun w hw=>by
   have hk:w.1∈aO s:=L.keys.mpr (List.mem_map.mpr ⟨w,hw,rfl⟩)
   obtain⟨b,h1,h2,h3,h4⟩:=oo w.1 w.2.2 (j1 L.wnd w hw)
   obtain⟨c,h5,h6⟩:=le w.1 b h1
   rw[yk _ hk,h5]
   exact⟨Int.le_trans h6 h2,fun e he k1 k2=>Int.le_trans h6 (h3 e he k1 k2)⟩
  have bt:Ok (il es) y:=fun l hl=>by
   obtain⟨m1,m2⟩:=j0 L.ein l hl
   rw[yk _ (L.keys.mpr m1),yk _ (L.keys.mpr m2)]
   exact fx l hl
  have hw:eG ws es=true↔(∀ w∈ws,w.2.1≤y w.1)∧∀ e∈es,e.kind=0→e.g≤y e.u:=by
   unfold eG
   rw[ht]
   simp only[Bool.and_eq_true,List.all_eq_true]
   constructor
   ·rintro⟨h1,h2⟩
    refine⟨fun w hw=>?_,fun e he k=>?_⟩
    ·have:=h1 w hw
     rw[yk _ (L.keys.mpr (List.mem_map.mpr ⟨w,hw,rfl⟩))]
     simp at this
     omega
    ·have:=h2 e he
     rw[yk _ (L.keys.mpr (L.ein e he).1)]
     simp[k]at this
     omega
   ·rintro⟨h1,h2⟩
    refine⟨fun w hw=>?_,fun e he=>?_⟩
    ·have:=h1 w hw
     rw[yk _ (L.keys.mpr (List.mem_map.mpr ⟨w,hw,rfl⟩))]at this
     simp
     omega
    ·by_cases k:e.kind=0
     ·have:=h2 e he k
      rw[yk _ (L.keys.mpr (L.ein e he).1)]at this
      simp[k]
      omega
     ·simp[k]
  have dy:eG ws es=true→Dat s y:=fun h=>(L.dat y0).mpr ⟨(hw.mp h).1,fun w hw=>(ub w hw).1,(hw.mp h).2,fun e he k=>by
   obtain⟨w,hw,ew⟩:=List.mem_map.mp (L.ein e he).1
   have:=(ub w hw).2 e he k ew.symm
   rw[show w.1=e.u from ew]at this
   exact this,bt⟩
  refine⟨kt',fun x D h0 k hk=>?_,⟨fun h=>⟨y,dy h⟩,fun ⟨x,D⟩=>hw.mpr ?_⟩,dy⟩
  ·obtain⟨b,hb⟩:=inT k hk
   exact⟨b,hb,up x D h0 k b hb⟩
  ·have D1:=gW D
   have D2:=(L.dat (x:=fun k=>x k - x 0) (by show x 0 - x 0=0;omega)).mp D1
   have D3:=up (fun k=>x k - x 0) D1 (by show x 0 - x 0=0;omega)
   have yge:∀ k∈aO s,x k - x 0≤y k:=fun k hk=>by
    obtain⟨b,hb⟩:=inT k hk
    rw[yk k hk,hb]
    exact D3 k b hb
   refine⟨fun w hw=>?_,fun e he k=>?_⟩
   ·have:=D2.1 w hw
    have:=yge w.1 (L.keys.mpr (List.mem_map.mpr ⟨w,hw,rfl⟩))
    omega
   ·have:=D2.2.2.1 e he k
    have:=yge e.u (L.keys.mpr (L.ein e he).1)
    omega
theorem kf.yp (L:kf ws es s):eG ws es=true↔∃ x,Dat s x:=by
 constructor
 ·intro h
  cases ht:bo ws es with
  |none=>unfold eG at h;rw[ht]at h;cases h
  |some t=>exact((L.latest.2 t ht).2.2.1).mp h
 ·rintro⟨x,D⟩
  obtain⟨t,ht⟩:=L.latest.1 x D
  exact((L.latest.2 t ht).2.2.1).mpr ⟨x,D⟩
end
end WayM
namespace RepM
open Vbnlaa BF StM WayM
abbrev W3:=Int×Int×Int
noncomputable def w3 (w:Work):W3:=(w.key,w.lo,w.hi)
noncomputable def e5 (e:Ev):Int×E4:=(e.key,e4 e)
structure Rep (ws:List W3) (es:List (Int×E4)) (s:State):Prop where
 wf:WF s
 wp:ws.Perm (s.works.map w3)
 ep:es.Perm (s.evs.map e5)
section
variable {ws:List W3}{es:List (Int×E4)}{s:State}
theorem Rep.aO (R:Rep ws es s):(ws.map fun w=>w.1).Perm (aO s):=by
 have:=R.wp.map (fun w:W3=>w.1)
 rw[List.map_map]at this
 exact this
theorem Rep.Cn (R:Rep ws es s):(es.map fun e=>e.1).Perm (s.evs.map fun e=>e.key):=by
 have:=R.ep.map (fun w:Int×E4=>w.1)
 rw[List.map_map]at this
 exact this
theorem Rep.wnd (R:Rep ws es s):(ws.map fun w=>w.1).Nodup:=R.aO.nodup_iff.mpr (StM.wnd R.wf.ws)
theorem Rep.end_ (R:Rep ws es s):(es.map fun e=>e.1).Nodup:=R.Cn.nodup_iff.mpr (zq R.wf.es)
theorem Rep.lz (R:Rep ws es s):ws.length=s.works.length:=by have:=R.wp.length_eq;rw[List.length_map]at this;exact this
theorem Rep.oZ (R:Rep ws es s):es.length=s.evs.length:=by have:=R.ep.length_eq;rw[List.length_map]at this;exact this
theorem Rep.CV (R:Rep ws es s) {w:W3}:w∈ws↔∃ v∈s.works,w3 v=w:=by rw[R.wp.mem_iff,List.mem_map]
theorem Rep.AH (R:Rep ws es s) {w:Int×E4}:w∈es↔∃ v∈s.evs,e5 v=w:=by rw[R.ep.mem_iff,List.mem_map]
theorem Rep.known (R:Rep ws es s) {k:Int}:Vbnlaa.known s k=true↔k∈ws.map fun w=>w.1:=by rw[bM,R.aO.mem_iff]
theorem Rep.wu (R:Rep ws es s):kf ws (es.map fun e=>e.2) s:=by
 refine⟨R.wnd,fun w hw=>?_,fun w hw=>R.CV.mpr ⟨w,hw,rfl⟩,fun e he=>?_,fun f hf=>?_,fun w hw=>(R.wf.wk w hw).1,R.wf.ev⟩
 ·obtain⟨v,hv,e⟩:=R.CV.mp hw
  subst e
  exact hv
 ·obtain⟨p,hp,rfl⟩:=List.mem_map.mp he
  obtain⟨v,hv,rfl⟩:=R.AH.mp hp
  exact⟨v,hv,rfl⟩
 ·exact List.mem_map.mpr ⟨e5 f,R.AH.mpr ⟨f,hf,rfl⟩,rfl⟩
theorem Ck {s:State}{k:Int}:(evOf s k).isSome=true↔k∈s.evs.map fun e=>e.key:=by
 unfold evOf
 rw[List.find?_isSome]
 constructor
 ·rintro⟨w,hw,e⟩
  exact List.mem_map.mpr ⟨w,hw,by simpa using e⟩
 ·intro m
  obtain⟨w,hw,e⟩:=List.mem_map.mp m
  exact⟨w,hw,by simpa using e⟩
theorem Rep.EV (R:Rep ws es s) {k:Int}:(evOf s k).isSome=true↔k∈es.map fun e=>e.1:=by rw[Ck,R.Cn.mem_iff]
theorem Aa:Rep [] [] start:=⟨Ba,List.Perm.refl _,List.Perm.refl _⟩
theorem lV (w:Work):∀ l:List Work,(putWork w l).Perm (w :: l)
 | []=>.refl _
 |v :: r=>by
  unfold putWork
  split
  ·exact .refl _
  ·exact((lV w r).cons v).trans (.swap w v r)
theorem kZ (w:Ev):∀ l:List Ev,(putEv w l).Perm (w :: l)
 | []=>.refl _
 |v :: r=>by
  unfold putEv
  split
  ·exact .refl _
  ·exact((kZ w r).cons v).trans (.swap w v r)
theorem mS {α:Type}(l:List α) (a:α):(l ++ [a]).Perm (a :: l):=List.perm_append_comm
theorem Rep.work (R:Rep ws es s) {k lo hi:Int}(h1:1≤k) (h2:k≤1000000000) (h3:0≤lo) (h4:lo≤hi) (h5:hi≤474814) (hk:k∉ws.map fun w=>w.1) (hn:ws.length < 40) :
  Rep (ws ++ [(k,lo,hi)]) es { s with works:=putWork ⟨k,lo,hi⟩ s.works }:=by
 refine⟨CW R.wf h1 h2 h3 h4 h5 (fun m=>hk (R.aO.mem_iff.mpr m)) (by rw[←R.lz];exact hn),?_,R.ep⟩
 refine(mS _ _).trans ?_
 refine(R.wp.cons _).trans ?_
 exact((lV ⟨k,lo,hi⟩ s.works).map w3).symm
theorem Rep.drop (R:Rep ws es s) {k:Int}(hk:∀ e∈es,e.2.u≠k∧e.2.v≠k) (h0:k≠0):Rep (ws.filter fun w=>decide (w.1≠k)) es { s with works:=s.works.filter fun w=>w.key != k }:=by
 refine⟨CZ R.wf fun e he=>?_,?_,R.ep⟩
 ·have:=hk _ (R.AH.mpr ⟨e,he,rfl⟩)
  exact⟨this.1,fun _=>this.2⟩
 ·have:=R.wp.filter fun w=>decide (w.1≠k)
  refine this.trans ?_
  rw[List.filter_map]
  have e:((fun w:W3=>decide (w.1≠k)) ∘ w3)=fun w:Work=>w.key != k:=by
   funext w
   show decide (w.key≠k)=(w.key != k)
   by_cases c:w.key=k<;>simp[c]
  rw[e]
theorem Rep.restate (R:Rep ws es s) {k lo hi:Int}(h3:0≤lo) (h4:lo≤hi) (h5:hi≤474814) (hf:feasible (bg s k lo hi)=true) :
  Rep (ws.map fun w=>if w.1=k then (k,lo,hi) else w) es (bg s k lo hi):=by
 refine⟨vm R.wf h3 h4 h5 hf,?_,R.ep⟩
 have:=R.wp.map fun w:W3=>if w.1=k then (k,lo,hi) else w
 refine this.trans ?_
 unfold bg
 rw[List.map_map,List.map_map]
 have e:((fun w:W3=>if w.1=k then (k,lo,hi) else w) ∘ w3)=w3 ∘ fun w:Work=>if w.key=k then ⟨k,lo,hi⟩ else w:=by
  funext w
  show (if w.key=k then (k,lo,hi) else w3 w)=w3 (if w.key=k then ⟨k,lo,hi⟩ else w)
  split<;>rfl
 rw[e]
theorem Rep.rN (R:Rep ws es s) (k lo hi:Int):kf (ws.map fun w=>if w.1=k then (k,lo,hi) else w) (es.map fun e=>e.2) (bg s k lo hi):=by
 have L:=R.wu
 have hp:(ws.map fun w=>if w.1=k then (k,lo,hi) else w).Perm ((bg s k lo hi).works.map w3):=by
  have:=R.wp.map fun w:W3=>if w.1=k then (k,lo,hi) else w
  refine this.trans ?_
  unfold bg
  rw[List.map_map,List.map_map]
  have e:((fun w:W3=>if w.1=k then (k,lo,hi) else w) ∘ w3)=w3 ∘ fun w:Work=>if w.key=k then ⟨k,lo,hi⟩ else w:=by
   funext w
   show (if w.key=k then (k,lo,hi) else w3 w)=w3 (if w.key=k then ⟨k,lo,hi⟩ else w)
   split<;>rfl
  rw[e]
 have hk:((ws.map fun w=>if w.1=k then (k,lo,hi) else w).map fun w=>w.1)=ws.map fun w=>w.1:=by
  rw[List.map_map]
  apply List.map_congr_left
  intro w _
  show (if w.1=k then (k,lo,hi) else w).1=w.1
  split
  ·rename_i c;exact c.symm
  ·rfl
 refine⟨by rw[hk];exact L.wnd,fun w hw=>?_,fun w hw=>?_,L.e1,L.e2,fun w hw=>?_,fun e he=>by rw[bN];exact L.ev e he⟩
 ·have:=hp.mem_iff.mp hw
  obtain⟨v,hv,e⟩:=List.mem_map.mp this
  subst e
  exact hv
 ·exact hp.mem_iff.mpr (List.mem_map.mpr ⟨w,hw,rfl⟩)
 ·have:w.key∈StM.aO (bg s k lo hi):=List.mem_map.mpr ⟨w,hw,rfl⟩
  rw[bN]at this
  obtain⟨v,hv,e⟩:=List.mem_map.mp this
  have:=L.pos v hv
  have e:v.key=w.key:=e
  omega
theorem Rep.Au (R:Rep ws es s) {e:Ev}(he:nL (StM.aO s) e):kf ws ((es ++ [e5 e]).map fun e=>e.2) (withEv s e):=by
 have L:=R.wu
 have hp:(es ++ [e5 e]).Perm ((withEv s e).evs.map e5):=by
  refine(mS _ _).trans ?_
  refine(R.ep.cons _).trans ?_
  exact((kZ e s.evs).map e5).symm
 refine⟨L.wnd,L.w1,L.w2,fun f hf=>?_,fun f hf=>?_,L.pos,fun f hf=>?_⟩
 ·obtain⟨p,hp',rfl⟩:=List.mem_map.mp hf
  obtain⟨v,hv,rfl⟩:=List.mem_map.mp (hp.mem_iff.mp hp')
  exact⟨v,hv,rfl⟩
 ·exact List.mem_map.mpr ⟨e5 f,hp.mem_iff.mpr (List.mem_map.mpr ⟨f,hf,rfl⟩),rfl⟩
 ·rcases fC.mp hf with q | q
  ·subst q;exact he
  ·exact L.ev f q
theorem Rep.with (R:Rep ws es s) {e:Ev}(he:nL (StM.aO s) e) (k1:1≤e.key) (k2:e.key≤1000000000) (hk:e.key∉es.map fun e=>e.1) (hn:es.length < 100) (hf:feasible (withEv s e)=true):Rep ws (es ++ [e5 e]) (withEv s e):=by
 refine⟨CY R.wf he k1 k2 (fun f hf c=>hk (R.Cn.mem_iff.mpr (by rw[←c];exact List.mem_map.mpr ⟨f,hf,rfl⟩))) (by rw[←R.oZ];exact hn) hf,R.wp,?_⟩
 refine(mS _ _).trans ?_
 refine(R.ep.cons _).trans ?_
 exact((kZ e s.evs).map e5).symm
theorem Rep.without (R:Rep ws es s) (k:Int):Rep ws (es.filter fun e=>decide (e.1≠k)) (withoutEv s k):=by
 refine⟨xq R.wf k,R.wp,?_⟩
 refine(R.ep.filter fun e=>decide (e.1≠k)).trans ?_
 unfold withoutEv
 rw[List.filter_map]
 have e:((fun w:Int×E4=>decide (w.1≠k)) ∘ e5)=fun w:Ev=>w.key != k:=by
  funext w
  show decide (w.key≠k)=(w.key != k)
  by_cases c:w.key=k<;>simp[c]
 rw[e]
theorem yW {es4:List E4}(L:kf ws es4 s) (ws':s.works.Pairwise fun a b=>a.key < b.key):feasible s=eG ws es4:=by
 have h1:=Ge (StM.vB ws' L.pos L.ev)
 have h2:=L.yp
 cases a:feasible s<;>cases b:eG ws es4
 ·rfl
 ·exact absurd (h1.mpr (h2.mp b)) (by rw[a];simp)
 ·exact absurd (h2.mpr (h1.mp a)) (by rw[b];simp)
 ·rfl
end
end RepM
namespace FlatM
open PyFlat
theorem Bu {l x t:List Int}(h:row l=some (x,t)):∃ m r,l=m :: r∧0≤m∧m.toNat≤r.length∧x=r.take m.toNat∧t=r.drop m.toNat:=by
 cases l with
 |nil=>cases h
 |cons m r=>
  have h:(if 0≤m∧m.toNat≤r.length then some (r.take m.toNat,r.drop m.toNat) else none)=some (x,t):=h
  split at h
  ·rename_i c
   obtain⟨e1,e2⟩:=Prod.mk.inj (Option.some.inj h)
   exact⟨m,r,rfl,c.1,c.2,e1.symm,e2.symm⟩
  ·cases h
theorem CH {shape:Int→Option (Nat×Nat)}{l t:List Int}{c:List (List Int)}(h:call shape l=some (c,t)) :
  ∃ p r n k,l=p :: r∧shape p=some (n,k)∧n≤r.length∧(k=0→c=[p :: r.take n]∧t=r.drop n) ∧
   (k=1→∃ m r2,r.drop n=m :: r2∧0≤m∧m.toNat≤r2.length∧c=[p :: r.take n,r2.take m.toNat]∧t=r2.drop m.toNat):=by
 cases l with
 |nil=>cases h
 |cons p r=>
  simp only[call]at h
  cases hs:shape p with
  |none=>rw[hs]at h;cases h
  |some q=>
   obtain⟨n,k⟩:=q
   rw[hs]at h
   simp only at h
   split at h
   ·cases h
   ·rename_i hl
    refine⟨p,r,n,k,rfl,hs,by omega,fun e=>?_,fun e=>?_⟩
    ·subst e
     simp only[rows]at h
     obtain⟨e1,e2⟩:=Prod.mk.inj (Option.some.inj h)
     exact⟨e1.symm,e2.symm⟩
    ·subst e
     simp only[rows]at h
     cases hr:row (r.drop n) with
     |none=>rw[hr]at h;cases h
     |some q=>
      obtain⟨x,s⟩:=q
      rw[hr]at h
      simp only at h
      obtain⟨m,r2,e1,e2,e3,e4,e5⟩:=Bu hr
      obtain⟨e6,e7⟩:=Prod.mk.inj (Option.some.inj h)
      refine⟨m,r2,e1,e2,e3,?_,?_⟩
      ·rw[←e6,e4]
      ·rw[←e7,e5]
theorem yM {shape:Int→Option (Nat×Nat)}{f:Nat}{l:List Int}{cs:List (List (List Int))}(h:calls shape f l=some cs) (hl:l≠[]) :
  ∃ c t ds g,call shape l=some (c,t)∧calls shape g t=some ds∧cs=c :: ds:=by
 cases l with
 |nil=>exact absurd rfl hl
 |cons p r=>
  cases f with
  |zero=>cases h
  |succ f=>
   simp only[calls]at h
   cases hc:call shape (p :: r) with
   |none=>rw[hc]at h;cases h
   |some q=>
    obtain⟨c,t⟩:=q
    rw[hc]at h
    simp only at h
    cases hd:calls shape f t with
    |none=>rw[hd]at h;cases h
    |some ds=>
     rw[hd]at h
     exact⟨c,t,ds,f,rfl,hd,(Option.some.inj h).symm⟩
theorem A2 {shape:Int→Option (Nat×Nat)}{f:Nat}{cs:List (List (List Int))}(h:calls shape f []=some cs):cs=[]:=by
 cases f<;>exact(Option.some.inj h).symm
theorem A9 (c:List (List Int)):PyVbnlaa.whole c=c:=by
 rcases c with _|⟨_|⟨p,xs⟩,r⟩
 ·rfl
 ·rcases r with _|⟨_,_|⟨_,_⟩⟩<;>rfl
 rcases p with n|n
 ·rcases n with _|_|_|_|_|_|_|_|_|_|_|_|_|_|_|_|_|_|_|_|_|n
  all_goals try rfl
  iterate 5
   all_goals try rcases xs with _|⟨k,xs⟩
   all_goals try rfl
  all_goals rcases r with _|⟨t,_|⟨_,_⟩⟩<;>rfl
 ·rfl
theorem CD (l:List Int):PyVbnlaa.calls l=calls PyVbnlaa.shape l.length l:=by
 unfold PyVbnlaa.calls
 cases h:calls PyVbnlaa.shape l.length l with
 |none=>rfl
 |some cs=>
  show some (cs.map PyVbnlaa.whole)=some cs
  congr 1
  exact(List.map_congr_left fun c _=>A9 c).trans (List.map_id' cs)
theorem A5 {l:List Int}(h:PyVbnlaa.answers_asked l=true) :
  ∃ cs,calls PyVbnlaa.shape l.length l=some cs∧(∀ c∈cs,VbnlaaNeutral.asked1 c=true)∧cs.length≤400∧PyVbnlaa.answers l=told (played VbnlaaNeutral.step VbnlaaNeutral.start cs):=by
 unfold PyVbnlaa.answers_asked at h
 unfold PyVbnlaa.answers
 rw[CD]at h ⊢
 cases hc:calls PyVbnlaa.shape l.length l with
 |none=>rw[hc]at h;cases h
 |some cs=>
  rw[hc]at h
  simp only[Bool.and_eq_true]at h
  refine⟨cs,rfl,?_,?_,rfl⟩
  ·have:=h.2
   unfold VbnlaaNeutral.asked at this
   rw[Bool.and_eq_true]at this
   exact List.all_eq_true.mp this.1
  ·exact of_decide_eq_true h.1
theorem told_cons (a:List Int) (l:List (List Int)):told (a :: l)=(a.length:Int) :: a ++ told l:=by
 unfold told
 rw[List.flatMap_cons]
end FlatM
namespace FlatM
open VbnlaaNeutral
inductive bG:List (List Int)→Vbnlaa.Call→Prop
 |read {t}:text60 t=true→bG [[0],t] (.read (text t))
 |show_ (c d):bG [[1,c,d]] (.show_ c d)
 |weekday (d):bG [[2,d]] (.weekday d)
 |work {k t}:text60 t=true→bG [[3,k],t] (.work k (text t))
 |restate {k t}:text60 t=true→bG [[4,k],t] (.restate k (text t))
 |drop (k):bG [[5,k]] (.drop k)
 |notBefore (e w d):bG [[6,e,w,d]] (.notBefore e w d)
 |notAfter (e w d):bG [[7,e,w,d]] (.notAfter e w d)
 |follows (e u v g):bG [[8,e,u,v,g]] (.follows e u v g)
 |within (e u v g):bG [[9,e,u,v,g]] (.within e u v g)
 |withdraw (e):bG [[10,e]] (.withdraw e)
 |latest (k):bG [[11,k]] (.latest k)
 |earliest (k):bG [[12,k]] (.earliest k)
 |apart (u v):bG [[13,u,v]] (.apart u v)
 |order (u v):bG [[14,u,v]] (.order u v)
 |why (k):bG [[15,k]] (.why k)
 |bound {k l}:l.length≤60→bG [[16,k],l] (.bound k l)
 |list:bG [[17]] .list
 |told:bG [[18]] .told
 |idle (e):bG [[19,e]] (.idle e)
 |test (q u v g):bG [[20,q,u,v,g]] (.test q u v g)
theorem lC {t:List Int}(h:text60 t=true):t.length≤60∧NeutralIO.bytes t=true∧((text t).map fun n:Nat=>(n:Int))=t:=by
 unfold text60 at h
 rw[Bool.and_eq_true]at h
 refine⟨of_decide_eq_true h.1,h.2,?_⟩
 have h2:=List.all_eq_true.mp h.2
 unfold text
 rw[List.map_map]
 refine(List.map_congr_left fun z hz=>?_).trans (List.map_id' t)
 have:=h2 z hz
 rw[Bool.and_eq_true]at this
 have:=of_decide_eq_true this.1
 show ((z.toNat:Nat):Int)=z
 omega
theorem DT {x:List (List Int)}(h:asked1 x=true):∃ y,bG x y∧∀ s,VbnlaaNeutral.step s x=Vbnlaa.step s y:=by
 rcases x with _|⟨_|⟨p,xs⟩,r⟩
 ·cases h
 ·rcases r with _|⟨_,_|⟨_,_⟩⟩<;>cases h
 rcases p with n|n
 ·rcases n with _|_|_|_|_|_|_|_|_|_|_|_|_|_|_|_|_|_|_|_|_|n
  all_goals try exact Bool.noConfusion (show false=true from h)
  iterate 5
   all_goals try rcases xs with _|⟨k,xs⟩
   all_goals try exact Bool.noConfusion (show false=true from h)
  all_goals rcases r with _|⟨t,_|⟨_,_⟩⟩
  all_goals try exact Bool.noConfusion (show false=true from h)
  all_goals first
   |exact⟨_,.show_ _ _,fun _=>rfl⟩
   |exact⟨_,.weekday _,fun _=>rfl⟩
   |exact⟨_,.drop _,fun _=>rfl⟩
   |exact⟨_,.notBefore _ _ _,fun _=>rfl⟩
   |exact⟨_,.notAfter _ _ _,fun _=>rfl⟩
   |exact⟨_,.follows _ _ _ _,fun _=>rfl⟩
   |exact⟨_,.within _ _ _ _,fun _=>rfl⟩
   |exact⟨_,.withdraw _,fun _=>rfl⟩
   |exact⟨_,.latest _,fun _=>rfl⟩
   |exact⟨_,.earliest _,fun _=>rfl⟩
   |exact⟨_,.apart _ _,fun _=>rfl⟩
   |exact⟨_,.order _ _,fun _=>rfl⟩
   |exact⟨_,.why _,fun _=>rfl⟩
   |exact⟨_,.list,fun _=>rfl⟩
   |exact⟨_,.told,fun _=>rfl⟩
   |exact⟨_,.idle _,fun _=>rfl⟩
   |exact⟨_,.test _ _ _ _,fun _=>rfl⟩
   |exact⟨_,.read h,fun s=>by
     show (match (if NeutralIO.bytes t=true then some (Vbnlaa.Call.read (text t)) else none) with | some x=>Vbnlaa.step s x | none=>(s,[]))=_
     rw[if_pos (lC h).2.1]⟩
   |(have h2:=(Bool.and_eq_true_iff.mp h).2
     first
     |exact⟨_,.work h2,fun s=>by
      show (match (if NeutralIO.bytes t=true then some (Vbnlaa.Call.work k (text t)) else none) with | some x=>Vbnlaa.step s x | none=>(s,[]))=_
      rw[if_pos (lC h2).2.1]⟩
     |exact⟨_,.restate h2,fun s=>by
      show (match (if NeutralIO.bytes t=true then some (Vbnlaa.Call.restate k (text t)) else none) with | some x=>Vbnlaa.step s x | none=>(s,[]))=_
      rw[if_pos (lC h2).2.1]⟩
     |exact⟨_,.bound (of_decide_eq_true (Bool.and_eq_true_iff.mp h2).1),fun _=>rfl⟩)
 ·exact Bool.noConfusion (show false=true from h)
noncomputable def after (s:Vbnlaa.State):List (List (List Int))→Vbnlaa.State
 | []=>s
 |c :: r=>after (VbnlaaNeutral.step s c).1 r
end FlatM
namespace AnsM
open Vbnlaa
theorem BE (n:Nat):(pad2 n).length=2:=rfl
theorem zY {c:Cal}{n:Nat}{t:Text}(h:Vbnlaa.shown c n=some t):t.length≤20:=by
 unfold Vbnlaa.shown at h
 cases hd:dateOf c n with
 |none=>rw[hd]at h;cases h
 |some x=>
  rw[hd]at h
  have h:=Option.some.inj h
  rw[←h]
  have hm:(mark c).length≤2:=by cases c<;>decide
  have hy:(yearText c x.1).length≤4:=by
   cases c with
   |rep=>
    show (if x.1 < 10 then [48+x.1] else pad2 x.1).length≤4
    split
    ·exact(by decide:1≤4)
    ·exact(by decide:2≤4)
   |greg=>exact Nat.le_refl 4
   |jul=>exact Nat.le_refl 4
  simp only[List.length_append,List.length_cons,BE]
  omega
theorem pY (x:Int×Int):∀ l,(putRow x l).length=l.length+1
 | []=>rfl
 |y :: r=>by
  unfold putRow
  split
  ·rfl
  ·rw[List.length_cons,pY x r,List.length_cons]
theorem wR (f:Work→Int×Int):∀ (ws:List Work) (l:List (Int×Int)),(ws.foldl (fun l w=>putRow (f w) l) l).length=l.length+ws.length
 | [],l=>rfl
 |w :: ws,l=>by
  rw[List.foldl_cons,wR f ws,pY,List.length_cons]
  omega
theorem yj (s:State):(listed s).length=s.works.length:=by
 unfold listed
 rw[wR (fun w=>(w.key,(look (reach s 0) w.key).getD 0)) s.works []]
 exact Nat.zero_add _
theorem tR {α:Type}(f g:α→Int):∀ l:List α,(l.flatMap fun p=>[f p,g p]).length=2*l.length
 | []=>rfl
 |x :: l=>by
  rw[List.flatMap_cons,List.length_append,tR f g l]
  simp only[List.length_cons,List.length_nil]
  omega
theorem sG:∀ l:List Work,(l.flatMap fun w=>[w.key,w.lo,w.hi]).length=3*l.length
 | []=>rfl
 |x :: l=>by
  rw[List.flatMap_cons,List.length_append,sG l]
  simp only[List.length_cons,List.length_nil]
  omega
theorem sI:∀ l:List Ev,(l.flatMap fun e=>[e.key,e.kind,e.a,e.b,e.g]).length=5*l.length
 | []=>rfl
 |x :: l=>by
  rw[List.flatMap_cons,List.length_append,sI l]
  simp only[List.length_cons,List.length_nil]
  omega
theorem oG (s:State):∀ n,(byLinks s n).length=n+1
 |0=>rfl
 |n+1=>by
  show (_ :: byLinks s n).length=_
  rw[List.length_cons,oG s n]
theorem nA (s:State):∀ (l:List Links) (k:Int),(chain s l k).length≤l.length
 | [],_=>Nat.le_refl _
 | [t],k=>Nat.le_refl _
 |t :: u :: r,k=>by
  unfold chain
  split
  ·exact Nat.le_succ_of_le (nA s (u :: r) k)
  ·split
   ·rename_i p _
    rw[List.length_cons,List.length_cons]
    exact Nat.succ_le_succ (nA s (u :: r) p.2.1)
   ·exact Nat.zero_le _
theorem DV {s:State}(w:s.works.length≤40) (e:s.evs.length≤100) (y:Call):(step s y).2.length≤700:=by
 have add:∀ e,(addEv s e).2.length≤700:=by
  intro e
  unfold addEv
  repeat' split
  all_goals exact(by decide:1≤700)
 cases y with
 |notBefore _ _ _=>exact add _
 |notAfter _ _ _=>exact add _
 |follows _ _ _ _=>exact add _
 |within _ _ _ _=>exact add _
 |list=>
  show (0 :: (listed s).flatMap fun p=>[p.1,p.2]).length≤700
  rw[List.length_cons,tR (fun p:Int×Int=>p.1) (fun p=>p.2),yj]
  omega
 |told=>
  show (0 :: (s.works.length:Int) :: (tellWorks s ++ ((s.evs.length:Int) :: tellEvs s))).length≤700
  unfold tellWorks tellEvs
  rw[List.length_cons,List.length_cons,List.length_append,List.length_cons,sG,sI]
  omega
 |why k=>
  show (if known s k=false then (s,[-6]) else (s,0 :: why s k)).2.length≤700
  split
  ·exact(by decide:1≤700)
  ·have:=nA s (byLinks s s.works.length) k
   rw[oG]at this
   show (0 :: chain s (byLinks s s.works.length) k).length≤700
   rw[List.length_cons]
   omega
 |show_ c d=>
  unfold Vbnlaa.step
  simp only
  cases calAt c with
  |none=>exact(by decide:1≤700)
  |some q=>
   simp only
   split
   ·exact(by decide:1≤700)
   ·cases h:Vbnlaa.shown q d.toNat with
    |none=>exact(by decide:1≤700)
    |some t=>
     simp only[List.length_cons,List.length_map]
     have:=zY h
     omega
 |_=>
  unfold Vbnlaa.step
  simp only
  repeat' split
  all_goals first | exact(by decide:1≤700) | exact(by decide:2≤700) | exact(by decide:3≤700)
end AnsM
namespace WhyM
open Vbnlaa BF StM
noncomputable def own (s:State) (k:Int):Int:=match workOf s k with
 |some w=>ownBound s w
 |none=>0
noncomputable def M (s:State):Nat→Int→Int
 |0,k=>own s k
 |j+1,k=>(bearing s k).foldl (fun m p=>lesser m (M s j p.2.1+p.2.2)) (M s j k)
theorem tH (a b:Int):lesser a b≤a∧lesser a b≤b:=by unfold lesser;split<;>omega
theorem tI {a b z:Int}(h1:z≤a) (h2:z≤b):z≤lesser a b:=by unfold lesser;split<;>omega
theorem Av (a b:Int):lesser a b=a∨lesser a b=b:=by unfold lesser;split<;>simp
theorem uW {α:Type}(f:α→Int):∀ (l:List α) (m:Int),l.foldl (fun m p=>lesser m (f p)) m≤m∧∀ p∈l,l.foldl (fun m p=>lesser m (f p)) m≤f p
 | [],m=>⟨Int.le_refl _,fun p h=>by simp at h⟩
 |q :: l,m=>by
  obtain⟨h1,h2⟩:=uW f l (lesser m (f q))
  have:=tH m (f q)
  rw[List.foldl_cons]
  refine⟨Int.le_trans h1 this.1,fun p hp=>?_⟩
  rcases List.mem_cons.mp hp with e | e
  ·rw[e];exact Int.le_trans h1 this.2
  ·exact h2 p e
theorem zC {α:Type}{f:α→Int}{z:Int}:∀ {l:List α}{m:Int},z≤m→(∀ p∈l,z≤f p)→z≤l.foldl (fun m p=>lesser m (f p)) m
 | [],_,h,_=>h
 |q :: l,m,h,k=>by
  rw[List.foldl_cons]
  exact zC (tI h (k q List.mem_cons_self)) fun p hp=>k p (List.mem_cons_of_mem _ hp)
theorem zB {α:Type}(f:α→Int):∀ (l:List α) (m:Int),l.foldl (fun m p=>lesser m (f p)) m=m∨∃ p∈l,l.foldl (fun m p=>lesser m (f p)) m=f p
 | [],m=>.inl rfl
 |q :: l,m=>by
  rw[List.foldl_cons]
  rcases zB f l (lesser m (f q)) with h | ⟨p,hp,h⟩
  ·rw[h]
   rcases Av m (f q) with e | e
   ·exact .inl e
   ·exact .inr ⟨q,List.mem_cons_self,e⟩
  ·exact .inr ⟨p,List.mem_cons_of_mem _ hp,h⟩
theorem yU (s:State) (k:Int):∀ {i j:Nat},i≤j→M s j k≤M s i k:=by
 intro i j h
 induction j with
 |zero=>
  (have:i=0:=by omega);rw[this];exact Int.le_refl _
 |succ j ih=>
  by_cases e:i=j+1
  ·rw[e];exact Int.le_refl _
  ·exact Int.le_trans (uW (fun p:Int×Int×Int=>M s j p.2.1+p.2.2) (bearing s k) (M s j k)).1 (ih (by omega))
theorem CO {s:State}{j:Nat}{k:Int}{p:Int×Int×Int}(h:p∈bearing s k):M s (j+1) k≤M s j p.2.1+p.2.2:=(uW (fun p:Int×Int×Int=>M s j p.2.1+p.2.2) (bearing s k) (M s j k)).2 p h
theorem Gm (s:State) (j:Nat) (k:Int):M s (j+1) k=M s j k∨∃ p∈bearing s k,M s (j+1) k=M s j p.2.1+p.2.2:=zB (fun p:Int×Int×Int=>M s j p.2.1+p.2.2) (bearing s k) (M s j k)
theorem get_map (ws:List Work) (f:Work→Int) {w:Work}(nd:(ws.map fun w=>w.key).Nodup) (h:w∈ws):Vbnlaa.get (ws.map fun w=>(w.key,f w)) w.key=f w:=by
 induction ws with
 |nil=>simp at h
 |cons v r ih=>
  rw[List.map_cons,List.nodup_cons]at nd
  unfold Vbnlaa.get
  rw[List.map_cons,List.find?_cons]
  rcases List.mem_cons.mp h with e | e
  ·subst e;simp
  ·have hne:v.key≠w.key:=fun z=>nd.1 (by rw[z];exact List.mem_map.mpr ⟨w,e,rfl⟩)
   have:((v.key,f v).1 == w.key)=false:=by simp[hne]
   rw[this]
   exact ih nd.2 e
theorem fG {s:State}{k:Int}(h:k∈aO s):∃ w∈s.works,w.key=k∧workOf s k=some w:=by
 have:=bM.mpr h
 unfold known at this
 cases e:workOf s k with
 |none=>rw[e]at this;cases this
 |some w=>
  have h1:=List.mem_of_find?_eq_some e
  have h2:=List.find?_some e
  exact⟨w,h1,by simpa using h2,rfl⟩
theorem jQ {s:State}(nd:(aO s).Nodup) {w:Work}(h:w∈s.works):workOf s w.key=some w:=by
 obtain⟨v,hv,e1,e2⟩:=fG (List.mem_map.mpr ⟨w,h,rfl⟩:w.key∈aO s)
 rw[e2]
 congr 1
 obtain⟨i,hi⟩:=List.getElem?_of_mem hv
 obtain⟨j,hj⟩:=List.getElem?_of_mem h
 have h1:(aO s)[i]? = some w.key:=by unfold aO;rw[List.getElem?_map,hi];exact congrArg some e1
 have h2:(aO s)[j]? = some w.key:=by unfold aO;rw[List.getElem?_map,hj];rfl
 obtain⟨l1,g1⟩:=List.getElem?_eq_some_iff.mp h1
 obtain⟨l2,g2⟩:=List.getElem?_eq_some_iff.mp h2
 have:i=j:=(List.getElem_inj nd).mp (g1.trans g2.symm)
 subst this
 rw[hi]at hj
 exact Option.some.inj hj
theorem eJ {s:State}(W:WF s) {k:Int}{p:Int×Int×Int}(h:p∈bearing s k):p.2.1∈aO s∧∃ e∈s.evs,e.key=p.1∧limOf e=⟨p.2.1,k,p.2.2⟩∧(e.kind=2∨e.kind=3):=by
 unfold bearing at h
 obtain⟨e,he,h⟩:=List.mem_filterMap.mp h
 have q:=W.ev e he
 split at h
 ·rename_i c
  have h:=Option.some.inj h
  subst h
  refine⟨(q.hi (by omega)).1,e,he,rfl,?_,.inl c.1⟩
  unfold limOf
  rw[if_neg (by omega),if_neg (by omega),if_pos c.1,c.2]
 ·split at h
  ·rename_i c1 c
   have h:=Option.some.inj h
   subst h
   refine⟨q.a,e,he,rfl,?_,.inr c.1⟩
   unfold limOf
   rw[if_neg (by omega),if_neg (by omega),if_neg (by omega),c.2]
  ·cases h
theorem yP {s:State}{e:Ev}(he:e∈s.evs) (hk:e.kind=2∨e.kind=3):(e.key,(limOf e).src,(limOf e).most)∈bearing s (limOf e).dst:=by
 unfold bearing
 refine List.mem_filterMap.mpr ⟨e,he,?_⟩
 rcases hk with k | k
 ·have e1:limOf e=⟨e.b,e.a,-e.g⟩:=by
   unfold limOf
   rw[if_neg (by omega),if_neg (by omega),if_pos k]
  rw[e1]
  simp[k]
 ·have e1:limOf e=⟨e.a,e.b,e.g⟩:=by
   unfold limOf
   rw[if_neg (by omega),if_neg (by omega),if_neg (by omega)]
  rw[e1]
  simp[k]
theorem tables {s:State}(W:WF s):∀ (j:Nat) {k:Int},k∈aO s→Vbnlaa.get ((byLinks s j).headD []) k=M s j k
 |0,k,hk=>by
  obtain⟨w,hw,e1,e2⟩:=fG hk
  show Vbnlaa.get (noLinks s) k=own s k
  unfold noLinks own
  rw[e2,←e1]
  exact get_map s.works (fun w=>ownBound s w) (wnd W.ws) hw
 |j+1,k,hk=>by
  obtain⟨w,hw,e1,e2⟩:=fG hk
  show Vbnlaa.get (oneMore s ((byLinks s j).headD [])) k=M s (j+1) k
  unfold oneMore
  rw[←e1]
  rw[get_map s.works (fun w=>(bearing s w.key).foldl (fun m p=>lesser m (Vbnlaa.get ((byLinks s j).headD []) p.2.1+p.2.2)) (Vbnlaa.get ((byLinks s j).headD []) w.key)) (wnd W.ws) hw]
  have hk':w.key∈aO s:=by rw[e1];exact hk
  rw[tables W j hk']
  show _=(bearing s w.key).foldl (fun m p=>lesser m (M s j p.2.1+p.2.2)) (M s j w.key)
  have:∀ (l:List (Int×Int×Int)) (m:Int),(∀ p∈l,p.2.1∈aO s)→l.foldl (fun m p=>lesser m (Vbnlaa.get ((byLinks s j).headD []) p.2.1+p.2.2)) m=l.foldl (fun m p=>lesser m (M s j p.2.1+p.2.2)) m:=by
   intro l
   induction l with
   |nil=>intro m _;rfl
   |cons p l ih=>
    intro m h
    rw[List.foldl_cons,List.foldl_cons,tables W j (h p List.mem_cons_self)]
    exact ih _ fun q hq=>h q (List.mem_cons_of_mem _ hq)
  exact this _ _ fun p hp=>(eJ W hp).1
noncomputable def iX (s:State):Nat→Int→List Int
 |0,k=>[source s k (M s 0 k)]
 |j+1,k=>if M s j k=M s (j+1) k then iX s j k else match (bearing s k).find? fun p=>M s j p.2.1+p.2.2 == M s (j+1) k with
  |some p=>p.1 :: iX s j p.2.1
  |none=>[]
theorem vg (s:State) (j:Nat):∃ t r,byLinks s j=t :: r:=by
 cases j with
 |zero=>exact⟨_,_,rfl⟩
 |succ j=>exact⟨_,_,rfl⟩
theorem rg {s:State}(W:WF s):∀ (j:Nat) {k:Int},k∈aO s→chain s (byLinks s j) k=iX s j k
 |0,k,hk=>by
  show [source s k (Vbnlaa.get (noLinks s) k)]=[source s k (M s 0 k)]
  rw[←tables W 0 hk]
  rfl
 |j+1,k,hk=>by
  obtain⟨t,r,e⟩:=vg s j
  have tj:=tables W j hk
  have tj1:=tables W (j+1) hk
  have hd:(byLinks s j).headD []=t:=by rw[e];rfl
  have e1:byLinks s (j+1)=oneMore s t :: t :: r:=by
   show oneMore s ((byLinks s j).headD []) :: byLinks s j=_
   rw[hd,e]
  have KO:Vbnlaa.get (oneMore s t) k=M s (j+1) k:=by rw[←tj1,e1];rfl
  rw[hd]at tj
  rw[e1]
  show (if Vbnlaa.get t k=Vbnlaa.get (oneMore s t) k then chain s (t :: r) k else match (bearing s k).find? fun p=>Vbnlaa.get t p.2.1+p.2.2 == Vbnlaa.get (oneMore s t) k with
   |some p=>p.1 :: chain s (t :: r) p.2.1
   |none=>[])=_
  rw[←e,tj,KO,rg W j hk]
  show _=if M s j k=M s (j+1) k then iX s j k else match (bearing s k).find? fun p=>M s j p.2.1+p.2.2 == M s (j+1) k with
   |some p=>p.1 :: iX s j p.2.1
   |none=>[]
  have hfind:((bearing s k).find? fun p=>Vbnlaa.get t p.2.1+p.2.2 == M s (j+1) k)=(bearing s k).find? fun p=>M s j p.2.1+p.2.2 == M s (j+1) k:=by
   have:∀ l:List (Int×Int×Int),(∀ p∈l,p.2.1∈aO s)→(l.find? fun p=>Vbnlaa.get t p.2.1+p.2.2 == M s (j+1) k)=l.find? fun p=>M s j p.2.1+p.2.2 == M s (j+1) k:=by
    intro l
    induction l with
    |nil=>intro _;rfl
    |cons p l ih=>
     intro h
     have hp:=tables W j (h p List.mem_cons_self)
     rw[hd]at hp
     rw[List.find?_cons,List.find?_cons,hp,ih fun q hq=>h q (List.mem_cons_of_mem _ hq)]
   exact this _ fun p hp=>(eJ W hp).1
  rw[hfind]
  split
  ·rfl
  ·cases hf:(bearing s k).find? fun p=>M s j p.2.1+p.2.2 == M s (j+1) k with
   |none=>rfl
   |some p=>
    simp only
    rw[rg W j (eJ W (List.mem_of_find?_eq_some hf)).1]
theorem Ef {s:State}(W:WF s) {k:Int}(hk:k∈aO s):why s k=iX s s.works.length k:=rg W _ hk
theorem xS {s:State}(W:WF s) {w:Work}(hw:w∈s.works):own s w.key≤w.hi∧∀ e∈s.evs,e.kind=1→e.a=w.key→own s w.key≤e.g:=by
 unfold own
 rw[jQ (wnd W.ws) hw]
 show ownBound s w≤w.hi∧∀ e∈s.evs,e.kind=1→e.a=w.key→ownBound s w≤e.g
 unfold ownBound
 have go:∀ (l:List Ev) (m:Int),l.foldl (fun m e=>if e.kind=1∧e.a=w.key then lesser m e.g else m) m≤m∧∀ e∈l,e.kind=1→e.a=w.key→l.foldl (fun m e=>if e.kind=1∧e.a=w.key then lesser m e.g else m) m≤e.g:=by
  intro l
  induction l with
  |nil=>intro m;exact⟨Int.le_refl _,fun e he=>by simp at he⟩
  |cons f l ih=>
   intro m
   rw[List.foldl_cons]
   by_cases c:f.kind=1∧f.a=w.key
   ·rw[if_pos c]
    obtain⟨h1,h2⟩:=ih (lesser m f.g)
    have:=tH m f.g
    refine⟨by omega,fun e he k1 k2=>?_⟩
    rcases List.mem_cons.mp he with q | q
    ·subst q;omega
    ·exact h2 e q k1 k2
   ·rw[if_neg c]
    obtain⟨h1,h2⟩:=ih m
    refine⟨h1,fun e he k1 k2=>?_⟩
    rcases List.mem_cons.mp he with q | q
    ·subst q;exact absurd ⟨k1,k2⟩ c
    ·exact h2 e q k1 k2
 exact go _ _
theorem BG {s:State}(W:WF s) {w:Work}(hw:w∈s.works) {z:Int}(h1:z≤w.hi) (h2:∀ e∈s.evs,e.kind=1→e.a=w.key→z≤e.g):z≤own s w.key:=by
 unfold own
 rw[jQ (wnd W.ws) hw]
 show z≤ownBound s w
 unfold ownBound
 have go:∀ (l:List Ev) (m:Int),z≤m→(∀ e∈l,e.kind=1→e.a=w.key→z≤e.g)→z≤l.foldl (fun m e=>if e.kind=1∧e.a=w.key then lesser m e.g else m) m:=by
  intro l
  induction l with
  |nil=>intro m h _;exact h
  |cons f l ih=>
   intro m h k
   rw[List.foldl_cons]
   by_cases c:f.kind=1∧f.a=w.key
   ·rw[if_pos c]
    exact ih _ (tI h (k f List.mem_cons_self c.1 c.2)) fun e he=>k e (List.mem_cons_of_mem _ he)
   ·rw[if_neg c]
    exact ih _ h fun e he=>k e (List.mem_cons_of_mem _ he)
 exact go _ _ h1 h2
theorem pw {s:State}(W:WF s) {x:Int→Int}(D:Dat s x) (h0:x 0=0):∀ (j:Nat) {k:Int},k∈aO s→x k≤M s j k
 |0,k,hk=>by
  obtain⟨w,hw,e1,_⟩:=fG hk
  rw[←e1]
  refine BG W hw (by have:=D.hi w hw;omega) fun e he k1 k2=>?_
  have:=D.ev e he
  unfold limOf at this
  rw[if_neg (by omega),if_pos k1]at this
  have:x e.a≤x 0+e.g:=this
  rw[k2]at this
  omega
 |j+1,k,hk=>by
  refine zC (f:=fun p:Int×Int×Int=>M s j p.2.1+p.2.2) (pw W D h0 j hk) fun p hp=>?_
  obtain⟨h1,e,he,_,h3,_⟩:=eJ W hp
  have h4:=pw W D h0 j h1
  have:=D.ev e he
  rw[h3]at this
  have:x k≤x p.2.1+p.2.2:=this
  omega
theorem BC {ls:List Lim}{n:Int}{vs:List Int}{w:Int}(p:Path ls (fun n v=>n=0∧v=0) n vs w):(0:Int)∈vs:=by
 induction p with
 |nil h=>rw[h.1];simp
 |snoc _ _ _ ih=>exact List.mem_cons_of_mem _ ih
theorem Ad {ls:List Lim}{n:Int}{vs:List Int}{w:Int}(p:Path ls (fun n v=>n=0∧v=0) n vs w) (hn:n=0) (nd:vs.Nodup):w=0:=by
 cases p with
 |nil h=>exact h.2
 |@snoc n vs w l p h hs=>
  have:=BC p
  rw[←hn]at this
  exact absurd this (List.nodup_cons.mp nd).1
theorem Fb {s:State}(W:WF s) {n:Int}{vs:List Int}{w:Int}(p:Path (limits s) (fun n v=>n=0∧v=0) n vs w):vs.Nodup→n≠0→n∈aO s∧2≤vs.length∧M s (vs.length - 2) n≤w:=by
 induction p with
 |nil h=>intro _ h0;exact absurd h.1 h0
 |@snoc n vs w l p h hs ih=>
  intro nd h0
  have nd':=(List.nodup_cons.mp nd).2
  have KA:l.dst∈aO s:=by
   rcases List.mem_cons.mp (W.vB.dst l h) with z | z
   ·exact absurd z h0
   ·exact z
  by_cases hn:n=0
  ·subst hn
   have hw:=Ad p rfl nd'
   have hl:=vX p
   refine⟨KA,by rw[List.length_cons];omega,?_⟩
   refine Int.le_trans (yU s l.dst (Nat.zero_le _)) ?_
   show own s l.dst≤w+l.most
   rw[hw]
   rcases cw.mp h with ⟨v,hv,e | e⟩ | ⟨e,he,el⟩
   ·subst e
    have:=(xS W hv).1
    show own s v.key≤0+v.hi
    omega
   ·subst e
    exact absurd rfl h0
   ·have q:=W.ev e he
    have k0:=q.k0
    subst el
    unfold limOf at hs h0 ⊢
    by_cases c0:e.kind=0
    ·rw[if_pos c0]at h0
     exact absurd rfl h0
    ·by_cases c1:e.kind=1
     ·rw[if_neg c0,if_pos c1]
      obtain⟨v,hv,ev,_⟩:=fG q.a
      have:=(xS W hv).2 e he c1 ev.symm
      rw[ev]at this
      show own s e.a≤0+e.g
      omega
     ·have Kl:(limOf e).src∈aO s:=by
       unfold limOf
       rw[if_neg c0,if_neg c1]
       split
       ·exact(q.hi (by omega)).1
       ·exact q.a
      have:(limOf e).src=0:=hs
      rw[this]at Kl
      obtain⟨v,hv,ev⟩:=List.mem_map.mp Kl
      have:=(W.wk v hv).1
      have ev:v.key=0:=ev
      omega
  ·obtain⟨i1,i2,i3⟩:=ih nd' hn
   refine⟨KA,by rw[List.length_cons];omega,?_⟩
   have e2:(l.dst :: vs).length - 2=(vs.length - 2)+1:=by rw[List.length_cons];omega
   rw[e2]
   have hb:∃ e∈s.evs,l=limOf e∧(e.kind=2∨e.kind=3):=by
    rcases cw.mp h with ⟨v,hv,e | e⟩ | ⟨e,he,el⟩
    ·subst e;exact absurd hs.symm hn
    ·subst e;exact absurd rfl h0
    ·have q:=W.ev e he
     have k0:=q.k0
     have k3:=q.k3
     refine⟨e,he,el,?_⟩
     subst el
     unfold limOf at hs h0
     by_cases c0:e.kind=0
     ·rw[if_pos c0]at h0
      exact absurd rfl h0
     ·by_cases c1:e.kind=1
      ·rw[if_neg c0,if_pos c1]at hs
       exact absurd hs.symm hn
      ·omega
   obtain⟨e,he,el,hk⟩:=hb
   have m:=yP he hk
   rw[←el,hs]at m
   have:=CO (j:=vs.length - 2) m
   have:M s (vs.length - 2+1) l.dst≤M s (vs.length - 2) n+l.most:=this
   omega
theorem B2 {s:State}(W:WF s) {k:Int}(hk:k∈aO s):latest s k=some (M s s.works.length k):=by
 obtain⟨x,O⟩:=W.fe
 have h0:(0:Int)∈nodes s:=zl
 obtain⟨y,D,y0,gy,top⟩:=great W h0
 have hk0:k≠0:=by
  obtain⟨v,hv,ev⟩:=List.mem_map.mp hk
  have:=(W.wk v hv).1
  have ev:v.key=k:=ev
  omega
 have up:=pw W D y0 s.works.length hk
 have hg:=gy k (nM hk)
 have low:M s s.works.length k≤y k:=by
  let t0:Table:=(nodes s).map fun n=>(n,if n=0 then some (0:Int) else none)
  have S:Sound (limits s) (fun n v=>look t0 n=some v) (reach s 0):=dM _ _ fun n v h=>⟨_,.nil h⟩
  obtain⟨vs,p⟩:=S k (y k) hg
  have l1:∀ n v,look t0 n=some v→n=0∧v=0:=by
   intro n v h
   by_cases hn:n∈nodes s
   ·have e:=jz (nodes s) (fun n=>if n=0 then some (0:Int) else none) hn
    rw[show look ((nodes s).map fun n=>(n,if n=0 then some (0:Int) else none)) n=look t0 n from rfl,h]at e
    by_cases c:n=0
    ·rw[if_pos c]at e
     exact⟨c,Option.some.inj e⟩
    ·rw[if_neg c]at e
     cases e
   ·rw[fz (by rw[keys_map];exact hn)]at h
    cases h
  have p':∀ {n:Int}{vs:List Int}{w:Int},Path (limits s) (fun n v=>look t0 n=some v) n vs w→Path (limits s) (fun n v=>n=0∧v=0) n vs w:=by
   intro n vs w p
   induction p with
   |nil h=>exact .nil (l1 _ _ h)
   |snoc _ h hs ih=>exact ih.snoc h hs
  obtain⟨vs1,w1,q,nd,hw⟩:=simple O (p' p)
  obtain⟨_,h2,h3⟩:=Fb W q nd hk0
  have hin:∀ m∈vs1,m∈nodes s:=zi (fun n v h=>by rw[h.1];exact h0) W.vB.dst q
  have hlen:=m4 nd hin
  have hnl:(nodes s).length=s.works.length+1:=by unfold nodes;rw[List.length_cons,List.length_map]
  have:=yU s k (i:=vs1.length - 2) (j:=s.works.length) (by omega)
  omega
 unfold latest
 rw[if_pos (bM.mpr hk),hg]
 congr 1
 omega
end WhyM
namespace UpM
open Vbnlaa BF StM WayM RepM
noncomputable def ky (ws:List W3):List Int:=ws.map fun w=>w.1
noncomputable def tf (t:aZ) (k:Int):Int:=(a4 t k).getD 0
noncomputable def tz (t:aZ) (k:Int):Int:=if k=0 then 0 else tf t k
noncomputable def Up (ws:List W3) (es:List E4) (x:Int→Int):Prop:=(∀ w∈ws,x w.1≤w.2.2)∧(∀ e∈es,e.kind=1→x e.u≤e.g)∧Ok (il es) x
noncomputable def Low (ws:List W3) (es:List E4) (x:Int→Int):Prop:=(∀ w∈ws,w.2.1≤x w.1)∧(∀ e∈es,e.kind=0→e.g≤x e.u)∧Ok (il es) x
section
variable {ws:List W3}{es:List E4}
theorem Up.congr (ei:EIn (ky ws) es) {x y:Int→Int}(h:∀ k∈ky ws,x k=y k) (U:Up ws es x):Up ws es y:=by
 refine⟨fun w hw=>?_,fun e he k=>?_,fun l hl=>?_⟩
 ·rw[←h _ (List.mem_map.mpr ⟨w,hw,rfl⟩)];exact U.1 w hw
 ·rw[←h _ (ei e he).1];exact U.2.1 e he k
 ·obtain⟨m1,m2⟩:=j0 ei l hl
  rw[←h _ m1,←h _ m2];exact U.2.2 l hl
theorem Low.congr (ei:EIn (ky ws) es) {x y:Int→Int}(h:∀ k∈ky ws,x k=y k) (U:Low ws es x):Low ws es y:=by
 refine⟨fun w hw=>?_,fun e he k=>?_,fun l hl=>?_⟩
 ·rw[←h _ (List.mem_map.mpr ⟨w,hw,rfl⟩)];exact U.1 w hw
 ·rw[←h _ (ei e he).1];exact U.2.1 e he k
 ·obtain⟨m1,m2⟩:=j0 ei l hl
  rw[←h _ m1,←h _ m2];exact U.2.2 l hl
structure Top (ws:List W3) (es:List E4) (t:aZ):Prop where
 at_:bo ws es=some t
 keys:aN t=ky ws
 up:Up ws es (tf t)
 top:∀ y,Up ws es y→∀ k∈ky ws,y k≤tf t k
theorem Top.get {t:aZ}(T:Top ws es t) {k:Int}(h:k∈ky ws):a4 t k=some (tf t k):=by
 obtain⟨b,hb⟩:=bp (t:=t) (by rw[T.keys];exact h)
 unfold tf
 rw[hb]
 rfl
theorem top_of (nd:(ky ws).Nodup) (ei:EIn (ky ws) es) {x:Int→Int}(U:Up ws es x):∃ t,Top ws es t:=by
 have ko:aN (outer ws es)=ky ws:=gk
 have nd':(aN (outer ws es)).Nodup:=by rw[ko];exact nd
 have ei':EIn (aN (outer ws es)) es:=by rw[ko];exact ei
 have oo:vi (ws.map fun w=>(w.1,w.2.2)) (outer ws es) es:=k8 es _ fun e he=>by rw[mF];exact(ei e he).1
 obtain⟨t,ht⟩:=vo nd' ei' U.2.2 (n:=ws.length+1) (by rw[ko];unfold ky;rw[List.length_map];omega)
 obtain⟨kt,le,fx,top⟩:=pz nd' ei' ht
 refine⟨t,ht,kt.trans ko,⟨fun w hw=>?_,fun e he k=>?_,fx⟩,fun y Y k hk=>?_⟩
 ·obtain⟨b,h1,h2,h3,h4⟩:=oo w.1 w.2.2 (j1 nd w hw)
  obtain⟨c,h5,h6⟩:=le w.1 b h1
  unfold tf
  rw[h5]
  exact Int.le_trans h6 h2
 ·obtain⟨w,hw,ew⟩:=List.mem_map.mp (ei e he).1
  obtain⟨b,h1,h2,h3,h4⟩:=oo w.1 w.2.2 (j1 nd w hw)
  obtain⟨c,h5,h6⟩:=le w.1 b h1
  unfold tf
  rw[←show w.1=e.u from ew,h5]
  exact Int.le_trans h6 (h3 e he k (Eq.symm ew))
 ·obtain⟨b,hb⟩:=bp (t:=t) (k:=k) (by rw[kt,ko];exact hk)
  unfold tf
  rw[hb]
  refine top y Y.2.2 (fun k a ha=>?_) k b hb
  have:=jC ha
  rw[ko]at this
  obtain⟨w,hw,e1⟩:=List.mem_map.mp this
  have e1:w.1=k:=e1
  obtain⟨b,h1,h2,h3,h4⟩:=oo w.1 w.2.2 (j1 nd w hw)
  rw[e1,ha]at h1
  have:=Option.some.inj h1
  subst this
  rcases h4 with q | ⟨e,he,k1,k2,k3⟩
  ·have:=Y.1 w hw
   rw[e1]at this
   omega
  ·have:=Y.2.1 e he k1
   rw[k2,e1]at this
   omega
noncomputable def mw (w:W3):W3:=(w.1,-w.2.2,-w.2.1)
noncomputable def me (e:E4):E4:=if e.kind=0 then ⟨1,e.u,e.v,-e.g⟩ else if e.kind=1 then ⟨0,e.u,e.v,-e.g⟩ else ⟨e.kind,e.v,e.u,e.g⟩
theorem me0 {e:E4}(h:e.kind=0):me e=⟨1,e.u,e.v,-e.g⟩:=by unfold me;rw[if_pos h]
theorem me1 {e:E4}(h:e.kind=1):me e=⟨0,e.u,e.v,-e.g⟩:=by unfold me;rw[if_neg (by omega),if_pos h]
theorem me2 {e:E4}(h:e.kind=2∨e.kind=3):me e=⟨e.kind,e.v,e.u,e.g⟩:=by unfold me;rw[if_neg (by omega),if_neg (by omega)]
noncomputable def KOk (es:List E4):Prop:=∀ e∈es,e.kind=0∨e.kind=1∨e.kind=2∨e.kind=3
theorem tK:ky (ws.map mw)=ky ws:=by unfold ky;rw[List.map_map];rfl
theorem Co (ei:EIn (ky ws) es) (ko:KOk es):EIn (ky ws) (es.map me):=by
 intro e he
 obtain⟨f,hf,rfl⟩:=List.mem_map.mp he
 rcases ko f hf with h | h | h
 ·rw[me0 h]
  refine⟨(ei f hf).1,fun z=>?_⟩
  have z:(1:Int)=2∨(1:Int)=3:=z
  omega
 ·rw[me1 h]
  refine⟨(ei f hf).1,fun z=>?_⟩
  have z:(0:Int)=2∨(0:Int)=3:=z
  omega
 ·rw[me2 h]
  exact⟨(ei f hf).2 h,fun _=>(ei f hf).1⟩
theorem Ea (ko:KOk es) {x:Int→Int}:Ok (il (es.map me)) x↔Ok (il es) fun k=>-x k:=by
 have key:∀ f∈es,∀ l,mL f=some l↔mL (me f)=some ⟨l.dst,l.src,l.most⟩:=by
  intro f hf l
  rcases ko f hf with h | h | h
  ·rw[me0 h]
   unfold mL
   rw[if_neg (by omega),if_neg (by omega),if_neg (show ¬ (1:Int)=2 by omega),if_neg (show ¬ (1:Int)=3 by omega)]
   exact⟨fun z=>(by cases z),fun z=>(by cases z)⟩
  ·rw[me1 h]
   unfold mL
   rw[if_neg (by omega),if_neg (by omega),if_neg (show ¬ (0:Int)=2 by omega),if_neg (show ¬ (0:Int)=3 by omega)]
   exact⟨fun z=>(by cases z),fun z=>(by cases z)⟩
  ·rw[me2 h]
   unfold mL
   obtain⟨a,b,c⟩:=l
   rcases h with h | h
   ·rw[if_pos h,if_pos (show f.kind=2 from h)]
    simp only[Option.some.injEq,Lim.mk.injEq]
    exact⟨fun ⟨p,q,r⟩=>⟨q,p,r⟩,fun ⟨p,q,r⟩=>⟨q,p,r⟩⟩
   ·rw[if_neg (by omega),if_pos h,if_neg (show ¬ f.kind=2 by omega),if_pos (show f.kind=3 from h)]
    simp only[Option.some.injEq,Lim.mk.injEq]
    exact⟨fun ⟨p,q,r⟩=>⟨q,p,r⟩,fun ⟨p,q,r⟩=>⟨q,p,r⟩⟩
 constructor
 ·intro O l hl
  obtain⟨f,hf,hb⟩:=List.mem_filterMap.mp hl
  have:=O ⟨l.dst,l.src,l.most⟩ (List.mem_filterMap.mpr ⟨me f,List.mem_map.mpr ⟨f,hf,rfl⟩,(key f hf l).mp hb⟩)
  have:x l.src≤x l.dst+l.most:=this
  show -x l.dst ≤ -x l.src+l.most
  omega
 ·intro O l hl
  obtain⟨e,he,hb⟩:=List.mem_filterMap.mp hl
  obtain⟨f,hf,rfl⟩:=List.mem_map.mp he
  have:=O ⟨l.dst,l.src,l.most⟩ (List.mem_filterMap.mpr ⟨f,hf,(key f hf ⟨l.dst,l.src,l.most⟩).mpr hb⟩)
  have : -x l.src ≤ -x l.dst+l.most:=this
  omega
theorem Bd (ko:KOk es) {x:Int→Int}:Up (ws.map mw) (es.map me) x↔Low ws es fun k=>-x k:=by
 constructor
 ·rintro⟨h1,h2,h3⟩
  refine⟨fun w hw=>?_,fun e he k=>?_,(Ea ko).mp h3⟩
  ·have:x w.1 ≤ -w.2.1:=h1 (mw w) (List.mem_map.mpr ⟨w,hw,rfl⟩)
   show w.2.1 ≤ -x w.1
   omega
  ·have:=h2 (me e) (List.mem_map.mpr ⟨e,he,rfl⟩)
   rw[me0 k]at this
   have:x e.u ≤ -e.g:=this rfl
   show e.g ≤ -x e.u
   omega
 ·rintro⟨h1,h2,h3⟩
  refine⟨fun w hw=>?_,fun e he k=>?_,(Ea ko).mpr h3⟩
  ·obtain⟨v,hv,rfl⟩:=List.mem_map.mp hw
   have:v.2.1 ≤ -x v.1:=h1 v hv
   show x v.1 ≤ -v.2.1
   omega
  ·obtain⟨f,hf,rfl⟩:=List.mem_map.mp he
   have k0:f.kind=0:=by
    rcases ko f hf with h | h | h
    ·exact h
    ·rw[me1 h]at k
     have k:(0:Int)=1:=k
     omega
    ·rw[me2 h]at k
     have k:f.kind=1:=k
     omega
   have:f.g ≤ -x f.u:=h2 f hf k0
   rw[me0 k0]
   show x f.u ≤ -f.g
   omega
noncomputable def ba (t:aZ):aZ:=t.map fun p=>(p.1,-p.2)
theorem wD:∀ (t:aZ) (k:Int),a4 (ba t) k=(a4 t k).map fun v=>-v
 | [],_=>rfl
 |p :: t,k=>by
  show (if p.1=k then some (-p.2) else a4 (ba t) k)=(if p.1=k then some p.2 else a4 t k).map fun v=>-v
  by_cases e:p.1=k
  ·rw[if_pos e,if_pos e];rfl
  ·rw[if_neg e,if_neg e];exact wD t k
theorem tT (t:aZ):aN (ba t)=aN t:=by unfold aN ba;rw[List.map_map];rfl
structure Bot (ws:List W3) (es:List E4) (t:aZ):Prop where
 at_:bo (ws.map mw) (es.map me)=some t
 keys:aN t=ky ws
 low:Low ws es (tf (ba t))
 bot:∀ y,Low ws es y→∀ k∈ky ws,tf (ba t) k≤y k
theorem Bf (t:aZ) (k:Int):tf (ba t) k = -tf t k:=by
 unfold tf
 rw[wD]
 cases a4 t k<;>simp
theorem Bot.get {t:aZ}(T:Bot ws es t) {k:Int}(h:k∈ky ws):a4 (ba t) k=some (tf (ba t) k):=by
 obtain⟨b,hb⟩:=bp (t:=ba t) (by rw[tT,T.keys];exact h)
 unfold tf
 rw[hb]
 rfl
theorem CK (nd:(ky ws).Nodup) (ei:EIn (ky ws) es) (ko:KOk es) {x:Int→Int}(U:Low ws es x):∃ t,Bot ws es t:=by
 obtain⟨t,T⟩:=top_of (ws:=ws.map mw) (es:=es.map me) (x:=fun k=>-x k) (by rw[tK];exact nd) (by rw[tK];exact Co ei ko) ((Bd ko).mpr (by
  have:(fun k=>- (fun k=>-x k) k)=x:=by funext k;show - -x k=x k;omega
  rw[this];exact U))
 refine⟨t,T.at_,T.keys.trans tK,?_,fun y Y k hk=>?_⟩
 ·have:=(Bd ko).mp T.up
  have e:tf (ba t)=fun k=>-tf t k:=by funext k;exact Bf t k
  rw[e];exact this
 ·have:=T.top (fun k=>-y k) ((Bd ko).mpr (by
   have:(fun k=>- (fun k=>-y k) k)=y:=by funext k;show - -y k=y k;omega
   rw[this];exact Y)) k (by rw[tK];exact hk)
  rw[Bf]
  have : -y k≤tf t k:=this
  omega
noncomputable def qO (ws:List W3) (u d:Int):List W3:=ws.map fun w=>if w.1=u then (u,d,d) else w
theorem jA (ws:List W3) (u d:Int):ky (qO ws u d)=ky ws:=by
 unfold ky qO
 rw[List.map_map]
 apply List.map_congr_left
 intro w _
 show (if w.1=u then (u,d,d) else w).1=w.1
 split
 ·rename_i h;exact h.symm
 ·rfl
end
section
variable {ws:List W3}{es:List (Int×E4)}{s:State}
abbrev e4s (es:List (Int×E4)):List E4:=es.map fun e=>e.2
theorem kok (R:Rep ws es s):KOk (e4s es):=by
 intro e he
 obtain⟨f,hf,rfl⟩:=R.wu.e1 e he
 have:=R.wf.ev f hf
 have h0:=this.k0
 have h3:=this.k3
 show f.kind=0∨f.kind=1∨f.kind=2∨f.kind=3
 omega
theorem ein (R:Rep ws es s):EIn (ky ws) (e4s es):=R.wu.ein
theorem knd (R:Rep ws es s):(ky ws).Nodup:=R.wnd
theorem DE (R:Rep ws es s) {k:Int}(h:k∈ky ws):k≠0:=by
 have:=R.wu.keys.mpr h
 obtain⟨w,hw,e⟩:=List.mem_map.mp this
 have:=R.wu.pos w hw
 omega
theorem dZ (R:Rep ws es s) (t:aZ) {k:Int}(h:k∈ky ws):tz t k=tf t k:=if_neg (DE R h)
theorem jJ (R:Rep ws es s) {x:Int→Int}(h0:x 0=0):Dat s x↔Low ws (e4s es) x∧Up ws (e4s es) x:=by
 rw[R.wu.dat h0]
 constructor
 ·rintro⟨a,b,c,d,e⟩
  exact⟨⟨a,c,e⟩,b,d,e⟩
 ·rintro⟨⟨a,c,e⟩,b,d,_⟩
  exact⟨a,b,c,d,e⟩
theorem vA (R:Rep ws es s):∃ x,x 0=0∧Dat s x:=by
 obtain⟨x,O⟩:=R.wf.fe
 exact⟨fun k=>x k - x 0,by show x 0 - x 0=0;omega,gW (dY.mpr O)⟩
theorem tops (R:Rep ws es s):∃ t b,Top ws (e4s es) t∧Bot ws (e4s es) b∧Dat s (tz t)∧Dat s (tz (ba b))∧∀ x,Dat s x→∀ k∈ky ws,x k - x 0≤tf t k∧tf (ba b) k≤x k - x 0:=by
 obtain⟨x,x0,D⟩:=vA R
 obtain⟨L,U⟩:=(jJ R x0).mp D
 obtain⟨t,T⟩:=top_of (knd R) (ein R) U
 obtain⟨b,B⟩:=CK (knd R) (ein R) (kok R) L
 have ut:Up ws (e4s es) (tz t):=T.up.congr (ein R) fun k hk=>(dZ R t hk).symm
 have lb:Low ws (e4s es) (tz (ba b)):=B.low.congr (ein R) fun k hk=>(dZ R _ hk).symm
 refine⟨t,b,T,B,(jJ R rfl).mpr ⟨⟨fun w hw=>?_,fun e he k=>?_,ut.2.2⟩,ut⟩,(jJ R rfl).mpr ⟨lb,fun w hw=>?_,fun e he k=>?_,lb.2.2⟩,fun y Y k hk=>?_⟩
 ·have hk:w.1∈ky ws:=List.mem_map.mpr ⟨w,hw,rfl⟩
  rw[dZ R t hk]
  exact Int.le_trans (L.1 w hw) (T.top x U _ hk)
 ·have hk:=(ein R e he).1
  rw[dZ R t hk]
  exact Int.le_trans (L.2.1 e he k) (T.top x U _ hk)
 ·have hk:w.1∈ky ws:=List.mem_map.mpr ⟨w,hw,rfl⟩
  rw[dZ R _ hk]
  exact Int.le_trans (B.bot x L _ hk) (U.1 w hw)
 ·have hk:=(ein R e he).1
  rw[dZ R _ hk]
  exact Int.le_trans (B.bot x L _ hk) (U.2.1 e he k)
 ·obtain⟨l,u⟩:=(jJ R (x:=fun k=>y k - y 0) (by show y 0 - y 0=0;omega)).mp (gW Y)
  exact⟨T.top _ u k hk,B.bot _ l k hk⟩
theorem dC (R:Rep ws es s) {k:Int}:k∈aO s↔k∈ky ws:=R.wu.keys
theorem gN (R:Rep ws es s) {t:aZ}(T:Top ws (e4s es) t) {k:Int}(hk:k∈ky ws):latest s k=some (tf t k):=by
 obtain⟨t',b,T',B,D1,D2,h⟩:=tops R
 have:t'=t:=Option.some.inj (T'.at_.symm.trans T.at_)
 subst this
 refine Aw R.wf ((dC R).mpr hk) (fun z Z=>(h z Z k hk).1) ⟨tz t',D1,?_⟩
 rw[dZ R t' hk]
 show tf t' k - 0=tf t' k
 omega
theorem oF (R:Rep ws es s) {b:aZ}(B:Bot ws (e4s es) b) {k:Int}(hk:k∈ky ws):earliest s k=some (tf (ba b) k):=by
 obtain⟨t,b',T,B',D1,D2,h⟩:=tops R
 have:b'=b:=Option.some.inj (B'.at_.symm.trans B.at_)
 subst this
 refine wU R.wf ((dC R).mpr hk) (fun z Z=>(h z Z k hk).2) ⟨tz (ba b'),D2,?_⟩
 rw[dZ R _ hk]
 show tf (ba b') k - 0=tf (ba b') k
 omega
theorem Ao {ls:List Lim}{x y:Int→Int}(a:Int) (X:Ok ls x) (Y:Ok ls y):Ok ls fun k=>max (x k) (y k - a):=by
 intro l hl
 have h1:=X l hl
 have h2:=Y l hl
 show max (x l.dst) (y l.dst - a)≤max (x l.src) (y l.src - a)+l.most
 omega
theorem Cc (R:Rep ws es s) {b:aZ}(B:Bot ws (e4s es) b) {u v:Int}(hu:u∈ky ws) (hv:v∈ky ws) :
  ∃ t,Top (qO ws u (tf (ba b) u)) (e4s es) t∧greatest s u v=some (tf t v - tf (ba b) u):=by
 obtain⟨t',b',T',B',D1,D2,h⟩:=tops R
 have:b'=b:=Option.some.inj (B'.at_.symm.trans B.at_)
 subst this
 obtain⟨Lb,Ub⟩:=(jJ R rfl).mp D2
 have eb:∀ k∈ky ws,tz (ba b') k=tf (ba b') k:=fun k hk=>dZ R _ hk
 have nd':(ky (qO ws u (tf (ba b') u))).Nodup:=by rw[jA];exact knd R
 have ei':EIn (ky (qO ws u (tf (ba b') u))) (e4s es):=by rw[jA];exact ein R
 have upf:∀ x:Int→Int,Up ws (e4s es) x→x u≤tf (ba b') u→Up (qO ws u (tf (ba b') u)) (e4s es) x:=by
  intro x U hxu
  refine⟨fun w hw=>?_,U.2.1,U.2.2⟩
  obtain⟨w',hw',rfl⟩:=List.mem_map.mp hw
  by_cases c:w'.1=u
  ·rw[if_pos c];exact hxu
  ·rw[if_neg c];exact U.1 w' hw'
 obtain⟨t,T⟩:=top_of nd' ei' (upf _ Ub (by rw[eb u hu];exact Int.le_refl _))
 have tk:∀ k∈ky ws,k∈ky (qO ws u (tf (ba b') u)):=fun k hk=>by rw[jA];exact hk
 have tu:tf t u≤tf (ba b') u:=by
  obtain⟨w,hw,ew⟩:=List.mem_map.mp hu
  have:=T.up.1 (u,tf (ba b') u,tf (ba b') u) (List.mem_map.mpr ⟨w,hw,if_pos ew⟩)
  exact this
 have ge:∀ k∈ky ws,tf (ba b') k≤tf t k:=fun k hk=>by
  have:=T.top _ (upf _ Ub (by rw[eb u hu];exact Int.le_refl _)) k (tk k hk)
  rw[eb k hk]at this
  exact this
 have tue:tf t u=tf (ba b') u:=Int.le_antisymm tu (ge u hu)
 have Dt:Dat s (tz t):=by
  refine(jJ R rfl).mpr ⟨⟨fun w hw=>?_,fun e he k=>?_,?_⟩,⟨fun w hw=>?_,fun e he k=>?_,?_⟩⟩
  ·have hk:w.1∈ky ws:=List.mem_map.mpr ⟨w,hw,rfl⟩
   rw[dZ R t hk]
   exact Int.le_trans (B.low.1 w hw) (ge _ hk)
  ·have hk:=(ein R e he).1
   rw[dZ R t hk]
   exact Int.le_trans (B.low.2.1 e he k) (ge _ hk)
  ·exact(T.up.congr ei' fun k hk=>(dZ R t (by rw[jA]at hk;exact hk)).symm).2.2
  ·have hk:w.1∈ky ws:=List.mem_map.mpr ⟨w,hw,rfl⟩
   rw[dZ R t hk]
   by_cases c:w.1=u
   ·rw[c,tue]
    have:=Ub.1 w hw
    rw[eb _ hk,c]at this
    exact this
   ·exact T.up.1 w (List.mem_map.mpr ⟨w,hw,if_neg c⟩)
  ·have hk:=(ein R e he).1
   rw[dZ R t hk]
   exact T.up.2.1 e he k
  ·exact(T.up.congr ei' fun k hk=>(dZ R t (by rw[jA]at hk;exact hk)).symm).2.2
 refine⟨t,T,qF R.wf (nM ((dC R).mpr hu)) (nM ((dC R).mpr hv)) (fun z Z=>?_) ⟨tz t,Dt,by rw[dZ R t hv,dZ R t hu,tue]⟩⟩
 obtain⟨Lz,Uz⟩:=(jJ R (x:=fun k=>z k - z 0) (by show z 0 - z 0=0;omega)).mp (gW Z)
 have zu:=(h z Z u hu).2
 have U2:Up ws (e4s es) fun k=>max (tz (ba b') k) ((fun k=>z k - z 0) k - (z u - z 0 - tf (ba b') u)):=by
  refine⟨fun w hw=>?_,fun e he k=>?_,Ao _ Ub.2.2 Uz.2.2⟩
  ·have h1:=Ub.1 w hw
   have h2:z w.1 - z 0≤w.2.2:=Uz.1 w hw
   show max (tz (ba b') w.1) (z w.1 - z 0 - (z u - z 0 - tf (ba b') u))≤w.2.2
   omega
  ·have h1:=Ub.2.1 e he k
   have h2:z e.u - z 0≤e.g:=Uz.2.1 e he k
   show max (tz (ba b') e.u) (z e.u - z 0 - (z u - z 0 - tf (ba b') u))≤e.g
   omega
 have:=T.top _ (upf _ U2 (by
  show max (tz (ba b') u) (z u - z 0 - (z u - z 0 - tf (ba b') u))≤tf (ba b') u
  rw[eb u hu]
  omega)) v (tk v hv)
 have:max (tz (ba b') v) (z v - z 0 - (z u - z 0 - tf (ba b') u))≤tf t v:=this
 omega
end
end UpM
namespace VerM
open Vbnlaa BF StM WayM RepM UpM
noncomputable def gr (s:State) (a b:Int):Int:=(greatest s a b).getD 0
section
variable {s:State}
theorem tN (W:WF s) {a b:Int}(ha:a∈nodes s) (hb:b∈nodes s):greatest s a b=some (gr s a b):=by
 obtain⟨y,_,_,h,_⟩:=great W ha
 unfold gr
 rw[h b hb]
 rfl
theorem uP (W:WF s) {a b:Int}(ha:a∈nodes s) (hb:b∈nodes s):0≤gr s a b+gr s b a:=by
 obtain⟨y,D,y0,h,_⟩:=great W ha
 obtain⟨z,_,_,h',top⟩:=great W hb
 have h1:=h b hb
 have h2:=h' a ha
 have:=top y D a ha
 unfold gr
 rw[h1,h2]
 show 0≤y b+z a
 omega
theorem fP (W:WF s) {l:Lim}(h1:l.src∈nodes s) (h2:l.dst∈nodes s):implied s l=decide (gr s l.src l.dst≤l.most):=by
 unfold implied
 rw[tN W h1 h2]
theorem fS (W:WF s) {l:Lim}(h1:l.src∈nodes s) (h2:l.dst∈nodes s):against s l=decide (gr s l.dst l.src+l.most < 0):=by
 unfold against
 rw[tN W h2 h1]
noncomputable def vd (s:State) (kind u v g:Int):Int:=if against s (limOf ⟨0,kind,u,v,g⟩)=true then 0 else if implied s (limOf ⟨0,kind,u,v,g⟩)=true then 1 else 2
noncomputable def zQ (kind g lo hi:Int):Int:=if kind=0∨kind=2 then (if g≤lo then 1 else if g≤hi then 2 else 0) else (if hi≤g then 1 else if lo≤g then 2 else 0)
theorem Eh (W:WF s) {kind u v g lo hi:Int}(hk:kind=0∨kind=1) (hu:u∈aO s) (h1:earliest s u=some lo) (h2:latest s u=some hi):vd s kind u v g=zQ kind g lo hi:=by
 have nu:=nM hu
 have n0:(0:Int)∈nodes s:=zl
 have e1:lo = -gr s u 0:=by
  unfold earliest at h1
  rw[if_pos (bM.mpr hu),tN W nu n0]at h1
  exact(Option.some.inj h1).symm
 have e2:hi=gr s 0 u:=by
  unfold latest at h2
  rw[if_pos (bM.mpr hu),tN W n0 nu]at h2
  exact(Option.some.inj h2).symm
 have bk:=uP W nu n0
 unfold vd zQ
 rcases hk with k | k
 ·subst k
  have el:limOf ⟨0,0,u,v,g⟩=⟨u,0,-g⟩:=rfl
  rw[el,fS W (l:=⟨u,0,-g⟩) nu n0,fP W (l:=⟨u,0,-g⟩) nu n0,if_pos (show (0:Int)=0∨(0:Int)=2 from .inl rfl)]
  simp only[decide_eq_true_eq]
  by_cases c:gr s 0 u + -g < 0
  ·rw[if_pos c,if_neg (by omega),if_neg (by omega)]
  ·rw[if_neg c]
   by_cases c2:gr s u 0 ≤ -g
   ·rw[if_pos c2,if_pos (by omega)]
   ·rw[if_neg c2,if_neg (by omega),if_pos (by omega)]
 ·subst k
  have el:limOf ⟨0,1,u,v,g⟩=⟨0,u,g⟩:=rfl
  rw[el,fS W (l:=⟨0,u,g⟩) n0 nu,fP W (l:=⟨0,u,g⟩) n0 nu,if_neg (show ¬ ((1:Int)=0∨(1:Int)=2) by omega)]
  simp only[decide_eq_true_eq]
  by_cases c:gr s u 0+g < 0
  ·rw[if_pos c,if_neg (by omega),if_neg (by omega)]
  ·rw[if_neg c]
   by_cases c2:gr s 0 u≤g
   ·rw[if_pos c2,if_pos (by omega)]
   ·rw[if_neg c2,if_neg (by omega),if_pos (by omega)]
theorem C0 (W:WF s) {kind u v g x y:Int}(hk:kind=2∨kind=3) (hu:u∈aO s) (hv:v∈aO s) (h1:greatest s v u=some x) (h2:greatest s u v=some y):vd s kind u v g=zQ kind g (-x) y:=by
 have nu:=nM hu
 have nv:=nM hv
 have e1:x=gr s v u:=by
  rw[tN W nv nu]at h1
  exact(Option.some.inj h1).symm
 have e2:y=gr s u v:=by
  rw[tN W nu nv]at h2
  exact(Option.some.inj h2).symm
 have bk:=uP W nu nv
 unfold vd zQ
 rcases hk with k | k
 ·subst k
  have el:limOf ⟨0,2,u,v,g⟩=⟨v,u,-g⟩:=rfl
  rw[el,fS W (l:=⟨v,u,-g⟩) nv nu,fP W (l:=⟨v,u,-g⟩) nv nu,if_pos (show (2:Int)=0∨(2:Int)=2 from .inr rfl)]
  simp only[decide_eq_true_eq]
  by_cases c:gr s u v + -g < 0
  ·rw[if_pos c,if_neg (by omega),if_neg (by omega)]
  ·rw[if_neg c]
   by_cases c2:gr s v u ≤ -g
   ·rw[if_pos c2,if_pos (by omega)]
   ·rw[if_neg c2,if_neg (by omega),if_pos (by omega)]
 ·subst k
  have el:limOf ⟨0,3,u,v,g⟩=⟨u,v,g⟩:=rfl
  rw[el,fS W (l:=⟨u,v,g⟩) nu nv,fP W (l:=⟨u,v,g⟩) nu nv,if_neg (show ¬ ((3:Int)=0∨(3:Int)=2) by omega)]
  simp only[decide_eq_true_eq]
  by_cases c:gr s v u+g < 0
  ·rw[if_pos c,if_neg (by omega),if_neg (by omega)]
  ·rw[if_neg c]
   by_cases c2:gr s u v≤g
   ·rw[if_pos c2,if_pos (by omega)]
   ·rw[if_neg c2,if_neg (by omega),if_pos (by omega)]
theorem CN (W:WF s) {u v x y:Int}(hu:u∈aO s) (hv:v∈aO s) (h1:greatest s v u=some x) (h2:greatest s u v=some y):apart s u v=some (-x,y):=by
 unfold apart
 rw[if_pos (by rw[bM.mpr hu,bM.mpr hv];rfl),h1,h2]
theorem Eg (W:WF s) {kind u v g:Int}(h1:(limOf ⟨0,kind,u,v,g⟩).src∈nodes s) (h2:(limOf ⟨0,kind,u,v,g⟩).dst∈nodes s):vd s kind u v g=1↔implied s (limOf ⟨0,kind,u,v,g⟩)=true:=by
 have bk:=uP W h1 h2
 unfold vd
 rw[fS W h1 h2,fP W h1 h2]
 simp only[decide_eq_true_eq]
 constructor
 ·intro h
  split at h
  ·omega
  ·split at h
   ·assumption
   ·omega
 ·intro h
  rw[if_neg (by omega),if_pos h]
end
end VerM
namespace ChM
open Vbnlaa BF StM WayM RepM UpM WhyM
abbrev Lk:=Int×Int×Int×Int
noncomputable def lk5 (p:Int×E4):Option Lk:=if p.2.kind=2 then some (p.1,p.2.u,p.2.v,-p.2.g) else if p.2.kind=3 then some (p.1,p.2.v,p.2.u,p.2.g) else none
noncomputable def bj (s:State):List Lk:=(s.evs.map e5).filterMap lk5
noncomputable def rs5 (k:Int) (p:Int×E4):Option (Int×Int):=if p.2.kind=1∧p.2.u=k then some (p.1,p.2.g) else none
noncomputable def bq (s:State) (k hi:Int):aZ:=(0,hi) :: (s.evs.map e5).filterMap (rs5 k)
noncomputable def to2 (k:Int) (l:Lk):Option (Int×Int×Int):=if l.2.1=k then some (l.1,l.2.2.1,l.2.2.2) else none
noncomputable def Lt (s:State) (k:Int):Int:=M s s.works.length k
section
variable {s:State}
theorem eO (s:State) (k:Int):bearing s k=(bj s).filterMap (to2 k):=by
 unfold bearing bj
 rw[List.filterMap_map,List.filterMap_filterMap]
 congr 1
 funext e
 show _=(lk5 (e5 e)).bind (to2 k)
 unfold lk5 e5 e4
 simp only
 by_cases h2:e.kind=2
 ·rw[if_pos h2]
  show _=to2 k (e.key,e.a,e.b,-e.g)
  unfold to2
  simp only
  by_cases c:e.a=k
  ·rw[if_pos ⟨h2,c⟩,if_pos c]
  ·rw[if_neg (fun z=>c z.2),if_neg (fun z=>by omega),if_neg c]
 ·rw[if_neg h2]
  by_cases h3:e.kind=3
  ·rw[if_pos h3]
   show _=to2 k (e.key,e.b,e.a,e.g)
   unfold to2
   simp only
   rw[if_neg (fun z=>h2 z.1)]
   by_cases c:e.b=k
   ·rw[if_pos ⟨h3,c⟩,if_pos c]
   ·rw[if_neg (fun z=>c z.2),if_neg c]
  ·rw[if_neg h3,if_neg (fun z=>h2 z.1),if_neg (fun z=>h3 z.1)]
   rfl
theorem pd {p:Int×E4}{l:Lk}(h:lk5 p=some l):l.1=p.1:=by
 unfold lk5 at h
 split at h
 ·rw[←Option.some.inj h]
 ·split at h
  ·rw[←Option.some.inj h]
  ·cases h
theorem uv {k:Int}{p:Int×E4}{l:Int×Int}(h:rs5 k p=some l):l.1=p.1:=by
 unfold rs5 at h
 split at h
 ·rw[←Option.some.inj h]
 ·cases h
theorem nh {α β γ:Type}{f:α→Option β}{g:β→γ}{g':α→γ}(h:∀ a b,f a=some b→g b=g' a):∀ l:List α,((l.filterMap f).map g).Sublist (l.map g')
 | []=>List.Sublist.slnil
 |a :: l=>by
  rw[List.filterMap_cons,List.map_cons]
  cases e:f a with
  |none=>exact(nh h l).cons _
  |some b=>
   show List.Sublist (g b :: ((l.filterMap f).map g)) _
   rw[h a b e]
   exact(nh h l).cons_cons _
theorem ni (W:WF s):((s.evs.map e5).map fun p=>p.1).Pairwise (· < ·):=by
 rw[List.map_map]
 exact List.pairwise_map.mpr W.es
theorem uJ (W:WF s):((bj s).map fun l=>l.1).Pairwise (· < ·):=(ni W).sublist (nh (fun _ _ h=>pd h) _)
theorem mj (W:WF s):((bj s).map fun l=>l.1).Nodup:=by
 rw[List.nodup_iff_pairwise_ne]
 exact(uJ W).imp fun h=>by omega
theorem tG (W:WF s):(bj s).length≤100:=by
 have h1:(bj s).length≤(s.evs.map e5).length:=List.length_filterMap_le _ _
 rw[List.length_map]at h1
 have:=W.en
 omega
theorem z9 (W:WF s) (k hi:Int):(bq s k hi).length≤101:=by
 unfold bq
 rw[List.length_cons]
 have h1:((s.evs.map e5).filterMap (rs5 k)).length≤(s.evs.map e5).length:=List.length_filterMap_le _ _
 rw[List.length_map]at h1
 have:=W.en
 omega
theorem Ee (W:WF s) {k:Int}(hk:k∈aO s):latest s k=some (Lt s k):=B2 W hk
theorem CQ {ws:List W3}{es:List (Int×E4)}(R:Rep ws es s):∃ x,x 0=0∧Dat s x∧∀ k∈aO s,x k=Lt s k:=by
 obtain⟨t,b,T,B,D1,D2,h⟩:=tops R
 refine⟨tz t,rfl,D1,fun k hk=>?_⟩
 have h1:=gN R T ((dC R).mp hk)
 rw[Ee R.wf hk]at h1
 rw[dZ R t ((dC R).mp hk)]
 exact(Option.some.inj h1).symm
theorem zO {ws:List W3}{es:List (Int×E4)}(R:Rep ws es s) (j:Nat) {k:Int}(hk:k∈aO s):Lt s k≤M s j k:=by
 obtain⟨x,x0,D,h⟩:=CQ R
 rw[←h k hk]
 exact pw R.wf D x0 j hk
theorem DZ {ws:List W3}{es:List (Int×E4)}(R:Rep ws es s) {k:Int}{p:Int×Int×Int}(hk:k∈aO s) (hp:p∈bearing s k):Lt s k≤Lt s p.2.1+p.2.2:=by
 obtain⟨x,x0,D,h⟩:=CQ R
 obtain⟨h1,e,he,_,h2,_⟩:=eJ R.wf hp
 have:=D.ev e he
 rw[h2]at this
 have:x k≤x p.2.1+p.2.2:=this
 rw[h k hk,h _ h1]at this
 exact this
noncomputable def chF (s:State) (j:Nat) (k:Int):Option (List Int):=if k∈aO s∧M s j k=Lt s k then some (iX s j k) else none
theorem zJ {k:Int}(hk:k∈aO s):chF s s.works.length k=some (iX s s.works.length k):=by
 unfold chF
 rw[if_pos ⟨hk,rfl⟩]
noncomputable def kI (s:State) (k:Int) (l:aZ):Option Int:=(l.find? fun p=>decide (p.2=Lt s k)).map fun p=>p.1
noncomputable def iQ {β:Type}(q:β→Bool):Option β→Bool
 |some b=>q b
 |none=>false
theorem ph {α β:Type}{f:α→Option β}{q:β→Bool}:∀ l:List α,(l.filterMap f).find? q=(l.find? fun a=>iQ q (f a)).bind f
 | []=>rfl
 |a :: l=>by
  have ih:=ph (f:=f) (q:=q) l
  rw[List.filterMap_cons,List.find?_cons]
  cases e:f a with
  |none=>exact ih
  |some b=>
   show (b :: l.filterMap f).find? q=(match q b with | true=>some a | false=>l.find? fun a=>iQ q (f a)).bind f
   rw[List.find?_cons]
   cases c:q b with
   |true=>exact e.symm
   |false=>exact ih
theorem Af {ws:List W3}{es:List (Int×E4)}(R:Rep ws es s) {w:Work}(hw:w∈s.works):(∀ p∈bq s w.key w.hi,own s w.key≤p.2)∧∃ p∈bq s w.key w.hi,p.2=own s w.key:=by
 obtain⟨h1,h2⟩:=xS R.wf hw
 have mem:∀ e∈s.evs,e.kind=1→e.a=w.key→(e.key,e.g)∈bq s w.key w.hi:=fun e he k1 k2=>
  List.mem_cons_of_mem _ (List.mem_filterMap.mpr ⟨e5 e,List.mem_map.mpr ⟨e,he,rfl⟩,if_pos ⟨k1,k2⟩⟩)
 refine⟨fun p hp=>?_,?_⟩
 ·rcases List.mem_cons.mp hp with q | q
  ·rw[q];exact h1
  ·obtain⟨f,hf,ef⟩:=List.mem_filterMap.mp q
   obtain⟨e,he,rfl⟩:=List.mem_map.mp hf
   unfold rs5 at ef
   split at ef
   ·rename_i c
    rw[←Option.some.inj ef]
    exact h2 e he c.1 c.2
   ·cases ef
 ·by_cases c:∃ p∈bq s w.key w.hi,p.2=own s w.key
  ·exact c
  ·exfalso
   have lt:∀ p∈bq s w.key w.hi,own s w.key≤p.2→own s w.key+1≤p.2:=fun p hp h=>by
    by_cases e:p.2=own s w.key
    ·exact absurd ⟨p,hp,e⟩ c
    ·omega
   have:=BG R.wf hw (z:=own s w.key+1) (lt (0,w.hi) List.mem_cons_self h1) (fun e he k1 k2=>lt _ (mem e he k1 k2) (h2 e he k1 k2))
   omega
theorem Cz {ws:List W3}{es:List (Int×E4)}(R:Rep ws es s) {w:Work}(hw:w∈s.works):chF s 0 w.key=(kI s w.key (bq s w.key w.hi)).map fun n=>[n]:=by
 obtain⟨h1,p0,hp0,e0⟩:=Af R hw
 have hk:w.key∈aO s:=List.mem_map.mpr ⟨w,hw,rfl⟩
 have ge:=zO R 0 hk
 have ge:Lt s w.key≤own s w.key:=ge
 unfold chF
 by_cases c:M s 0 w.key=Lt s w.key
 ·rw[if_pos ⟨hk,c⟩]
  show some [source s w.key (M s 0 w.key)]=_
  rw[c]
  have st:stated s w.key=some w.hi:=by
   unfold stated
   rw[jQ (wnd R.wf.ws) hw]
   rfl
  unfold kI source bq
  rw[List.find?_cons,st]
  by_cases c1:w.hi=Lt s w.key
  ·rw[if_pos (by rw[c1])]
   show _=Option.map (fun n=>[n]) (Option.map (fun p:Int×Int=>p.1) (match decide (w.hi=Lt s w.key) with | true=>some ((0,w.hi):Int×Int) | false=>_))
   rw[decide_eq_true c1]
   rfl
  ·rw[if_neg (fun z=>c1 (Option.some.inj z))]
   show _=Option.map (fun n=>[n]) (Option.map (fun p:Int×Int=>p.1) (match decide (w.hi=Lt s w.key) with | true=>some ((0,w.hi):Int×Int) | false=>_))
   rw[decide_eq_false c1]
   show some [match s.evs.find? fun e=>e.kind == 1 && (e.a == w.key && e.g == Lt s w.key) with | some e=>e.key | none=>0]=Option.map (fun n=>[n]) (Option.map (fun p=>p.1) (((s.evs.map e5).filterMap (rs5 w.key)).find? fun p=>decide (p.2=Lt s w.key)))
   rw[ph,List.find?_map]
   have ef:(((fun a=>iQ (fun b:Int×Int=>decide (b.2=Lt s w.key)) (rs5 w.key a)) ∘ e5):Ev→Bool)=fun e=>e.kind == 1 && (e.a == w.key && e.g == Lt s w.key):=by
    funext e
    show iQ (fun b:Int×Int=>decide (b.2=Lt s w.key)) (rs5 w.key (e5 e))=_
    unfold rs5 e5 e4
    simp only
    by_cases k1:e.kind=1
    ·by_cases k2:e.a=w.key
     ·rw[if_pos ⟨k1,k2⟩]
      by_cases k3:e.g=Lt s w.key<;>simp[k1,k2,k3,iQ]
     ·rw[if_neg (fun z=>k2 z.2)]
      simp[k2,iQ]
    ·rw[if_neg (fun z=>k1 z.1)]
     simp[k1,iQ]
   rw[ef]
   cases hf:s.evs.find? fun e=>e.kind == 1 && (e.a == w.key && e.g == Lt s w.key) with
   |none=>
    exfalso
    rcases List.mem_cons.mp hp0 with q | q
    ·rw[q]at e0
     have e0:w.hi=own s w.key:=e0
     have c:own s w.key=Lt s w.key:=c
     omega
    ·obtain⟨f,hf',efm⟩:=List.mem_filterMap.mp q
     obtain⟨e,he,rfl⟩:=List.mem_map.mp hf'
     have:=List.find?_eq_none.mp hf e he
     unfold rs5 at efm
     split at efm
     ·rename_i k
      have k1:e.kind=1:=k.1
      have k2:e.a=w.key:=k.2
      have k3:e.g=own s w.key:=by rw[←e0,←Option.some.inj efm];rfl
      have c:own s w.key=Lt s w.key:=c
      rw[c]at k3
      simp[k1,k2,k3]at this
     ·cases efm
   |some e=>
    have:=List.find?_some hf
    simp only[Bool.and_eq_true,beq_iff_eq]at this
    show some [e.key]=Option.map (fun n=>[n]) (Option.map (fun p=>p.1) (rs5 w.key (e5 e)))
    unfold rs5
    rw[if_pos (show (e5 e).2.kind=1∧(e5 e).2.u=w.key from⟨this.1,this.2.1⟩)]
    rfl
 ·rw[if_neg (fun z=>c z.2)]
  unfold kI
  have c:¬ own s w.key=Lt s w.key:=c
  rw[List.find?_eq_none.mpr fun p hp=>by
   have:=h1 p hp
   simp
   omega]
  rfl
noncomputable def j4 (s:State):List Lk:=(bj s).filter fun l=>decide (Lt s l.2.1=Lt s l.2.2.1+l.2.2.2)
noncomputable def longer (ch:Int→Option (List Int)) (ls:List Lk) (k:Int):Option (List Int):=match ch k with
 |some c=>some c
 |none=>(ls.find? fun l=>decide (l.2.1=k) && (ch l.2.2.1).isSome).bind fun l=>(ch l.2.2.1).map fun c=>l.1 :: c
theorem jG {α:Type}{q r:α→Bool}:∀ l:List α,(l.filter q).find? r=l.find? fun a=>q a && r a
 | []=>rfl
 |a :: l=>by
  rw[List.filter_cons,List.find?_cons]
  cases c:q a with
  |true=>
   rw[if_pos rfl,List.find?_cons,jG l]
   rfl
  |false=>rw[if_neg (by simp),jG l];rfl
theorem xj {ws:List W3}{es:List (Int×E4)}(R:Rep ws es s) (j:Nat) (k:Int):chF s (j+1) k=longer (chF s j) (j4 s) k:=by
 unfold longer
 by_cases hk:k∈aO s
 ·have ge0:=zO R j hk
  have ge1:=zO R (j+1) hk
  have mono:=yU s k (Nat.le_succ j)
  by_cases c:M s j k=Lt s k
  ·have e1:M s (j+1) k=Lt s k:=by
    have:M s (j+1) k≤M s j k:=mono
    omega
   have:chF s j k=some (iX s j k):=by unfold chF;rw[if_pos ⟨hk,c⟩]
   rw[this]
   show chF s (j+1) k=some (iX s j k)
   unfold chF
   rw[if_pos ⟨hk,e1⟩]
   congr 1
   show (if M s j k=M s (j+1) k then iX s j k else _)=_
   rw[if_pos (by rw[c,e1])]
  ·have:chF s j k=none:=by unfold chF;rw[if_neg (fun z=>c z.2)]
   rw[this]
   show chF s (j+1) k=((j4 s).find? fun l=>decide (l.2.1=k) && (chF s j l.2.2.1).isSome).bind fun l=>(chF s j l.2.2.1).map fun c=>l.1 :: c
   have iso:∀ l:Lk,(chF s j l.2.2.1).isSome=true↔l.2.2.1∈aO s∧M s j l.2.2.1=Lt s l.2.2.1:=by
    intro l
    unfold chF
    by_cases z:l.2.2.1∈aO s∧M s j l.2.2.1=Lt s l.2.2.1
    ·rw[if_pos z];exact⟨fun _=>z,fun _=>rfl⟩
    ·rw[if_neg z];exact⟨fun q=>(by cases q),fun q=>absurd q z⟩
   have inB:∀ l∈bj s,l.2.1=k→(l.1,l.2.2.1,l.2.2.2)∈bearing s k:=fun l hl e=>by
    rw[eO]
    exact List.mem_filterMap.mpr ⟨l,hl,if_pos e⟩
   by_cases e1:M s (j+1) k=Lt s k
   ·have lhs:chF s (j+1) k=some (iX s (j+1) k):=by unfold chF;rw[if_pos ⟨hk,e1⟩]
    rw[lhs]
    have ew:iX s (j+1) k=match (bearing s k).find? fun p=>M s j p.2.1+p.2.2 == M s (j+1) k with | some p=>p.1 :: iX s j p.2.1 | none=>[]:=by
     show (if M s j k=M s (j+1) k then iX s j k else _)=_
     rw[if_neg (by rw[e1];exact c)]
     first | done | rfl
    rw[ew,eO,ph]
    unfold j4
    rw[jG]
    have same:∀ l∈bj s,iQ (fun b:Int×Int×Int=>M s j b.2.1+b.2.2 == M s (j+1) k) (to2 k l)=(decide (Lt s l.2.1=Lt s l.2.2.1+l.2.2.2) && (decide (l.2.1=k) && (chF s j l.2.2.1).isSome)):=by
     intro l hl
     unfold to2
     by_cases e:l.2.1=k
     ·rw[if_pos e]
      have m:=inB l hl e
      have hin:=(eJ R.wf m).1
      have hin:l.2.2.1∈aO s:=hin
      have g1:=DZ R hk m
      have g1:Lt s k≤Lt s l.2.2.1+l.2.2.2:=g1
      have g2:=zO R j hin
      show (M s j l.2.2.1+l.2.2.2 == M s (j+1) k)=_
      rw[Bool.eq_iff_iff,beq_iff_eq,Bool.and_eq_true,Bool.and_eq_true,iso l,decide_eq_true_eq,decide_eq_true_eq,e1,e]
      constructor
      ·intro h
       exact⟨by omega,rfl,hin,by omega⟩
      ·rintro⟨a,_,_,b⟩
       omega
     ·rw[if_neg e]
      simp[e,iQ]
    have fe:(bj s).find? (fun a=>iQ (fun b:Int×Int×Int=>M s j b.2.1+b.2.2 == M s (j+1) k) (to2 k a))=(bj s).find? fun l=>decide (Lt s l.2.1=Lt s l.2.2.1+l.2.2.2) && (decide (l.2.1=k) && (chF s j l.2.2.1).isSome):=by
     have gen:∀ (L:List Lk) (f g:Lk→Bool),(∀ l∈L,f l=g l)→L.find? f=L.find? g:=by
      intro L f g h
      induction L with
      |nil=>rfl
      |cons a L ih=>
       rw[List.find?_cons,List.find?_cons,h a List.mem_cons_self,ih fun l hl=>h l (List.mem_cons_of_mem _ hl)]
     exact gen _ _ _ same
    rw[fe]
    cases hf:(bj s).find? fun l=>decide (Lt s l.2.1=Lt s l.2.2.1+l.2.2.2) && (decide (l.2.1=k) && (chF s j l.2.2.1).isSome) with
    |none=>
     exfalso
     rcases Gm s j k with q | ⟨p,hp,q⟩
     ·omega
     ·rw[eO]at hp
      obtain⟨l,hl,el⟩:=List.mem_filterMap.mp hp
      have:=List.find?_eq_none.mp hf l hl
      rw[←same l hl,el]at this
      apply this
      show (M s j p.2.1+p.2.2 == M s (j+1) k)=true
      rw[beq_iff_eq]
      exact q.symm
    |some l=>
     have hq:=List.find?_some hf
     rw[Bool.and_eq_true,Bool.and_eq_true,decide_eq_true_eq,decide_eq_true_eq]at hq
     obtain⟨a,b,d⟩:=hq
     show some (match to2 k l with | some p=>p.1 :: iX s j p.2.1 | none=>[])=(chF s j l.2.2.1).map fun c=>l.1 :: c
     unfold to2
     rw[if_pos b]
     have z:=(iso l).mp d
     have:chF s j l.2.2.1=some (iX s j l.2.2.1):=by unfold chF;rw[if_pos z]
     rw[this]
     rfl
   ·have lhs:chF s (j+1) k=none:=by unfold chF;rw[if_neg (fun z=>e1 z.2)]
    rw[lhs]
    rw[List.find?_eq_none.mpr fun l hl=>?_]
    ·rfl
    ·intro z
     rw[Bool.and_eq_true,decide_eq_true_eq,iso l]at z
     obtain⟨a,b,d⟩:=z
     obtain⟨hl1,hl2⟩:=List.mem_filter.mp hl
     have hl2:=of_decide_eq_true hl2
     have m:=inB l hl1 a
     have:=CO (j:=j) m
     have:M s (j+1) k≤M s j l.2.2.1+l.2.2.2:=this
     rw[a]at hl2
     omega
 ·have n1:∀ i,chF s i k=none:=fun i=>by unfold chF;rw[if_neg (fun z=>hk z.1)]
  rw[n1,n1]
  show none=((j4 s).find? fun l=>decide (l.2.1=k) && (chF s j l.2.2.1).isSome).bind fun l=>(chF s j l.2.2.1).map fun c=>l.1 :: c
  rw[List.find?_eq_none.mpr fun l hl=>?_]
  ·rfl
  ·intro z
   rw[Bool.and_eq_true,decide_eq_true_eq]at z
   obtain⟨hl1,_⟩:=List.mem_filter.mp hl
   obtain⟨p,hp,el⟩:=List.mem_filterMap.mp hl1
   obtain⟨e,he,rfl⟩:=List.mem_map.mp hp
   have q:=R.wf.ev e he
   unfold lk5 at el
   split at el
   ·have el:=Option.some.inj el
    rw[←el]at z
    exact hk (by rw[←z.1];exact q.a)
   ·split at el
    ·rename_i c2 c3
     have el:=Option.some.inj el
     rw[←el]at z
     have c3:e.kind=3:=c3
     exact hk (by rw[←z.1];exact(q.hi (by omega)).1)
    ·cases el
theorem wq (ch:Int→Option (List Int)) (ls:List Lk) (l:Lk) (k:Int):longer ch (ls ++ [l]) k =
  if k=l.2.1∧longer ch ls k=none∧(ch l.2.2.1).isSome=true then (ch l.2.2.1).map fun c=>l.1 :: c else longer ch ls k:=by
 unfold longer
 cases hk:ch k with
 |some c=>
  show some c=if k=l.2.1∧some c=none∧_ then _ else some c
  rw[if_neg (fun z=>by cases z.2.1)]
 |none=>
  show ((ls ++ [l]).find? fun l=>decide (l.2.1=k) && (ch l.2.2.1).isSome).bind _=if k=l.2.1∧((ls.find? fun l=>decide (l.2.1=k) && (ch l.2.2.1).isSome).bind fun l=>(ch l.2.2.1).map fun c=>l.1 :: c)=none∧_ then _ else _
  rw[List.find?_append]
  cases hf:ls.find? fun l=>decide (l.2.1=k) && (ch l.2.2.1).isSome with
  |some a=>
   have:=List.find?_some hf
   rw[Bool.and_eq_true]at this
   obtain⟨c,hc⟩:=Option.isSome_iff_exists.mp this.2
   show (ch a.2.2.1).map _=if k=l.2.1∧(ch a.2.2.1).map _=none∧_ then _ else (ch a.2.2.1).map _
   rw[if_neg (fun z=>by rw[hc]at z;cases z.2.1)]
  |none=>
   show ([l].find? fun l=>decide (l.2.1=k) && (ch l.2.2.1).isSome).bind _=if k=l.2.1∧(none:Option (List Int))=none∧_ then _ else none
   rw[List.find?_cons]
   by_cases c:k=l.2.1∧(ch l.2.2.1).isSome=true
   ·rw[if_pos ⟨c.1,rfl,c.2⟩]
    have:(decide (l.2.1=k) && (ch l.2.2.1).isSome)=true:=by rw[c.2,decide_eq_true c.1.symm];rfl
    rw[this]
    rfl
   ·rw[if_neg (fun z=>c ⟨z.1,z.2.2⟩)]
    have:(decide (l.2.1=k) && (ch l.2.2.1).isSome)=false:=by
     cases q:(decide (l.2.1=k) && (ch l.2.2.1).isSome) with
     |false=>rfl
     |true=>
      rw[Bool.and_eq_true,decide_eq_true_eq]at q
      exact absurd ⟨q.1.symm,q.2⟩ c
    rw[this]
    rfl
theorem yN (W:WF s) {w:Work}(hw:w∈s.works) (e:Int):bound s w.key [e]=a4 (bq s w.key w.hi) e:=by
 have st:stated s w.key=some w.hi:=by
  unfold stated
  rw[jQ (wnd W.ws) hw]
  rfl
 show (if e=0 then stated s w.key else match evOf s e with | some x=>if x.kind=1∧x.a=w.key then some x.g else none | none=>none)=if (0:Int)=e then some w.hi else a4 ((s.evs.map e5).filterMap (rs5 w.key)) e
 by_cases c:e=0
 ·rw[if_pos c,if_pos c.symm,st]
 ·rw[if_neg c,if_neg (fun z=>c z.symm)]
  unfold evOf
  have nd:=zq W.es
  generalize s.evs=l at nd
  induction l with
  |nil=>rfl
  |cons x r ih=>
   rw[List.map_cons,List.nodup_cons]at nd
   have ih:=ih nd.2
   rw[List.find?_cons,List.map_cons,List.filterMap_cons]
   by_cases k:x.key=e
   ·have kb:(x.key == e)=true:=beq_iff_eq.mpr k
    rw[kb]
    show (if x.kind=1∧x.a=w.key then some x.g else none)=_
    have no:a4 (List.filterMap (rs5 w.key) (r.map e5)) e=none:=by
     cases q:a4 (List.filterMap (rs5 w.key) (r.map e5)) e with
     |none=>rfl
     |some v=>
      exfalso
      have m:=jC q
      have:=(nh (g:=fun l:Int×Int=>l.1) (g':=fun p:Int×E4=>p.1) (fun _ _ h=>uv (k:=w.key) h) (r.map e5)).subset m
      rw[List.map_map]at this
      exact nd.1 (by rw[k];exact this)
    unfold rs5 e5 e4
    simp only
    by_cases z:x.kind=1∧x.a=w.key
    ·rw[if_pos z,if_pos z]
     show _=if x.key=e then some x.g else _
     rw[if_pos k]
    ·rw[if_neg z,if_neg z]
     exact no.symm
   ·have kb:(x.key == e)=false:=by simpa using k
    rw[kb]
    show (match r.find? fun e_1=>e_1.key == e with | some x=>if x.kind=1∧x.a=w.key then some x.g else none | none=>none)=_
    rw[ih]
    cases z:rs5 w.key (e5 x) with
    |none=>rfl
    |some y=>
     have hy:y.1=x.key:=uv z
     show _=if y.1=e then some y.2 else _
     rw[if_neg (by rw[hy];exact k)]
theorem zD {α:Type}{f:α→Int}{l:List α}(nd:(l.map f).Nodup) {a:α}(h:a∈l):l.find? (fun b=>f b == f a)=some a:=by
 induction l with
 |nil=>cases h
 |cons x r ih=>
  rw[List.map_cons,List.nodup_cons]at nd
  rw[List.find?_cons]
  rcases List.mem_cons.mp h with q | q
  ·subst q
   rw[beq_self_eq_true]
  ·have:(f x == f a)=false:=by
    have:f x≠f a:=fun z=>nd.1 (by rw[z];exact List.mem_map.mpr ⟨a,q,rfl⟩)
    simpa using this
   rw[this]
   exact ih nd.2 q
theorem yO (W:WF s) (k e f:Int) (r:List Int):bound s k (e :: f :: r)=match (bj s).find? fun l=>l.1 == e with
  |some l=>if l.2.1=k then (bound s l.2.2.1 (f :: r)).map fun v=>v+l.2.2.2 else none
  |none=>none:=by
 show (match (bearing s k).find? fun p=>p.1 == e with | some p=>(bound s p.2.1 (f :: r)).map fun v=>v+p.2.2 | none=>none)=_
 rw[eO,ph]
 have nd:=mj W
 cases hf:(bj s).find? fun l=>l.1 == e with
 |none=>
  rw[List.find?_eq_none.mpr fun l hl=>?_]
  ·rfl
  ·have:=List.find?_eq_none.mp hf l hl
   unfold to2
   by_cases c:l.2.1=k
   ·rw[if_pos c];exact this
   ·rw[if_neg c];simp[iQ]
 |some l=>
  have he:l.1=e:=by simpa using List.find?_some hf
  have hl:=List.mem_of_find?_eq_some hf
  show _=if l.2.1=k then (bound s l.2.2.1 (f :: r)).map fun v=>v+l.2.2.2 else none
  by_cases c:l.2.1=k
  ·rw[if_pos c]
   have:(bj s).find? (fun a=>iQ (fun b:Int×Int×Int=>b.1 == e) (to2 k a))=some l:=by
    have gen:∀ L:List Lk,(L.map fun l=>l.1).Nodup→l∈L→L.find? (fun a=>iQ (fun b:Int×Int×Int=>b.1 == e) (to2 k a))=some l:=by
     intro L
     induction L with
     |nil=>intro _ h;cases h
     |cons x L ih=>
      intro nd h
      rw[List.map_cons,List.nodup_cons]at nd
      rw[List.find?_cons]
      rcases List.mem_cons.mp h with q | q
      ·subst q
       have:iQ (fun b:Int×Int×Int=>b.1 == e) (to2 k l)=true:=by
        unfold to2
        rw[if_pos c]
        show (l.1 == e)=true
        rw[he];simp
       rw[this]
      ·have:iQ (fun b:Int×Int×Int=>b.1 == e) (to2 k x)=false:=by
        unfold to2
        by_cases z:x.2.1=k
        ·rw[if_pos z]
         have:x.1≠e:=fun y=>nd.1 (by rw[y,←he];exact List.mem_map.mpr ⟨l,q,rfl⟩)
         simpa[iQ]using this
        ·rw[if_neg z];rfl
       rw[this]
       exact ih nd.2 q
    exact gen _ nd hl
   rw[this]
   show (match to2 k l with | some p=>(bound s p.2.1 (f :: r)).map fun v=>v+p.2.2 | none=>none)=_
   unfold to2
   rw[if_pos c]
  ·rw[if_neg c]
   rw[List.find?_eq_none.mpr fun x hx=>?_]
   ·rfl
   ·unfold to2
    by_cases z:x.2.1=k
    ·rw[if_pos z]
     intro y
     have y:x.1=e:=by simpa[iQ]using y
     have h1:=zD (f:=fun l:Lk=>l.1) nd hx
     have h2:(bj s).find? (fun b:Lk=>b.1 == x.1)=some l:=by rw[y];exact hf
     rw[h2]at h1
     have:=Option.some.inj h1
     rw[←this]at z
     exact c z
    ·rw[if_neg z];simp[iQ]
end
end ChM
namespace SrtM
open Vbnlaa BF StM WayM RepM UpM WhyM ChM
theorem uniq {α:Type}{lt:α→α→Prop}(as:∀ a b,lt a b→¬ lt b a):∀ {l l':List α},l.Perm l'→l.Pairwise lt→l'.Pairwise lt→l=l'
 | [],l',p,_,_=>by rw[List.nil_perm]at p;exact p.symm
 |a :: l,[],p,_,_=>by have:=p.length_eq;simp at this
 |a :: l,b :: l',p,h,h'=>by
  rw[List.pairwise_cons]at h h'
  have e:a=b:=by
   have ha:a∈b :: l':=p.mem_iff.mp List.mem_cons_self
   have hb:b∈a :: l:=p.mem_iff.mpr List.mem_cons_self
   rcases List.mem_cons.mp ha with q | q
   ·exact q
   ·rcases List.mem_cons.mp hb with r | r
    ·exact r.symm
    ·exact absurd (h'.1 a q) (as _ _ (h.1 b r))
  subst e
  rw[uniq as (List.perm_cons a |>.mp p) h.2 h'.2]
theorem DR {l l':List (Int×E4)}(p:l.Perm l') (h:(l.map fun e=>e.1).Pairwise (· < ·)) (h':(l'.map fun e=>e.1).Pairwise (· < ·)):l=l':=
 uniq (lt:=fun a b:Int×E4=>a.1 < b.1) (fun a b h=>by omega) p (List.pairwise_map.mp h) (List.pairwise_map.mp h')
theorem CJ {l l':List W3}(p:l.Perm l') (h:(l.map fun e=>e.1).Pairwise (· < ·)) (h':(l'.map fun e=>e.1).Pairwise (· < ·)):l=l':=
 uniq (lt:=fun a b:W3=>a.1 < b.1) (fun a b h=>by omega) p (List.pairwise_map.mp h) (List.pairwise_map.mp h')
section
variable {ws:List W3}{es:List (Int×E4)}{s:State}
theorem yB (R:Rep ws es s) {l:List (Int×E4)}(p:l.Perm es) (h:(l.map fun e=>e.1).Pairwise (· < ·)):l=s.evs.map e5:=by
 refine DR (p.trans R.ep) h ?_
 rw[List.map_map]
 exact List.pairwise_map.mpr R.wf.es
theorem A7 (R:Rep ws es s) {l:List W3}(p:l.Perm ws) (h:(l.map fun e=>e.1).Pairwise (· < ·)):l=s.works.map w3:=by
 refine CJ (p.trans R.wp) h ?_
 rw[List.map_map]
 exact List.pairwise_map.mpr R.wf.ws
noncomputable def lt2 (x y:Int×Int):Prop:=x.2 < y.2∨(x.2=y.2∧x.1 < y.1)
theorem gd (x:Int×Int):∀ l,(putRow x l).Perm (x :: l)
 | []=>.refl _
 |y :: r=>by
  unfold putRow
  split
  ·exact .refl _
  ·exact((gd x r).cons y).trans (.swap x y r)
theorem kJ {x:Int×Int}:∀ {l:List (Int×Int)},l.Pairwise lt2→(∀ y∈l,y.1≠x.1)→(putRow x l).Pairwise lt2
 | [],_,_=>by simp[putRow]
 |y :: r,h,hn=>by
  rw[List.pairwise_cons]at h
  unfold putRow
  split
  ·rename_i c
   refine List.pairwise_cons.mpr ⟨fun z hz=>?_,List.pairwise_cons.mpr h⟩
   rcases List.mem_cons.mp hz with q | q
   ·subst q;exact c
   ·have:=h.1 z q
    unfold lt2 at this ⊢
    omega
  ·rename_i c
   refine List.pairwise_cons.mpr ⟨fun z hz=>?_,kJ h.2 fun z hz=>hn z (List.mem_cons_of_mem _ hz)⟩
   have hz:=(gd x r).mem_iff.mp hz
   rcases List.mem_cons.mp hz with q | q
   ·subst q
    have:=hn y List.mem_cons_self
    unfold lt2
    omega
   ·exact h.1 z q
theorem oj (f:Work→Int×Int) (hf:∀ w,(f w).1=w.key):∀ (ws:List Work) (l:List (Int×Int)),(ws.map fun w=>w.key).Nodup→l.Pairwise lt2→(∀ w∈ws,∀ y∈l,y.1≠w.key) →
  (ws.foldl (fun l w=>putRow (f w) l) l).Pairwise lt2∧(ws.foldl (fun l w=>putRow (f w) l) l).Perm (ws.map f ++ l)
 | [],l,_,h,_=>⟨h,.refl _⟩
 |w :: ws,l,nd,h,hn=>by
  rw[List.map_cons,List.nodup_cons]at nd
  rw[List.foldl_cons]
  obtain⟨h1,h2⟩:=oj f hf ws (putRow (f w) l) nd.2 (kJ h fun y hy=>by rw[hf];exact hn w List.mem_cons_self y hy) (fun v hv y hy=>by
   rcases List.mem_cons.mp ((gd _ _).mem_iff.mp hy) with q | q
   ·rw[q,hf]
    intro e
    exact nd.1 (by rw[e];exact List.mem_map.mpr ⟨v,hv,rfl⟩)
   ·exact hn v (List.mem_cons_of_mem _ hv) y q)
  refine⟨h1,h2.trans ?_⟩
  rw[List.map_cons]
  refine((gd (f w) l).append_left (ws.map f)).trans ?_
  exact List.perm_middle
theorem As (R:Rep ws es s) {t:aZ}(T:Top ws (e4s es) t) {ks:List Int}(p:ks.Perm (ky ws)) (h:ks.Pairwise fun a b=>lt2 (a,tf t a) (b,tf t b)):listed s=ks.map fun k=>(k,tf t k):=by
 have hl:∀ w∈s.works,(look (reach s 0) w.key).getD 0=tf t w.key:=fun w hw=>by
  have hk:w.key∈aO s:=List.mem_map.mpr ⟨w,hw,rfl⟩
  have:=gN R T ((dC R).mp hk)
  unfold latest at this
  rw[if_pos (bM.mpr hk)]at this
  have:look (reach s 0) w.key=some (tf t w.key):=this
  rw[this]
  rfl
 obtain⟨h1,h2⟩:=oj (fun w=>(w.key,(look (reach s 0) w.key).getD 0)) (fun _=>rfl) s.works [] (zq R.wf.ws) .nil (fun _ _ _ hy=>by cases hy)
 refine uniq (lt:=lt2) (fun a b h=>by unfold lt2 at h ⊢;omega) ?_ h1 (List.pairwise_map.mpr h)
 refine h2.trans ?_
 rw[List.append_nil]
 have e:s.works.map (fun w=>(w.key,(look (reach s 0) w.key).getD 0))=(aO s).map fun k=>(k,tf t k):=by
  unfold aO
  rw[List.map_map]
  apply List.map_congr_left
  intro w hw
  show (w.key,(look (reach s 0) w.key).getD 0)=(w.key,tf t w.key)
  rw[hl w hw]
 rw[e]
 exact((p.trans R.aO).map fun k=>(k,tf t k)).symm
end
end SrtM
namespace Dw
open PySem PySem.Spec PyProof.Rows L2
def GV (mg:Str→Option Value) (x:Str) (v:V):Prop:=∃ u,mg x=some u∧RelV v u
def nI (K:PySem.W.Frag) (mg:Str→Option Value) (x:Str) (xs:List V):Prop:=∃ a,mg x=some (.ref a)∧∀ H:Hp,SqT K H a xs
def aV (K:PySem.W.Frag) (mg:Str→Option Value) (x:Str) (st:Stmt) (ps:List Str):Prop:=∃ f fd,mg x=some (.ref f)∧Fun K x x st f fd∧Binds K fd ps []
def OkD (P:Program) (w:World) (K:PySem.W.Frag) (mg:Str→Option Value) (base:Heap) (k:Nat) (x:Str) (ps:List Str) (sp:Sp):Prop:=
 ∃ f fd,mg x=some (.ref f)∧PySem.W.keepIn K (.ref f)=true∧Binds K fd ps []∧kg P w K mg base CX0 k f fd ps sp
def MethAt (K:PySem.W.Frag) (C:Addr) (m q:Str) (st:Stmt) (ps:List Str):Prop:=∃ f fd,Meth K C m f∧Fun K m q st f fd∧Binds K fd ps []
def OkM (P:Program) (w:World) (K:PySem.W.Frag) (mg:Str→Option Value) (base:Heap) (C:Addr) (k:Nat) (m:Str) (ps:List Str) (sp:Sp):Prop:=
 ∃ f fd,Meth K C m f∧Binds K fd ps []∧kg P w K mg base CX0 k f fd ps sp
section
variable {X:Cx}{x:Str}{pos p:Pos}
theorem PE.weak {e:Expr}{t t':TE}(h:PE X e t) (i:∀ σ H Q,t' σ H Q→t σ H Q):PE X e t':=fun pins s σ H Q I q=>h pins s σ H Q I (i σ H Q q)
theorem aQ {v:V}(hg:Gl X x) (h:GV X.mg x v) (hd:(x == ("__debug__" : Str))=false:=by decide):PE X (.Name x pos) (tC v):=by
 obtain⟨u,hm,r⟩:=h
 exact uA hg hm r hd
def tGT (K:PySem.W.Frag) (xs:List V):TE:=fun _ H Q=>∀ a,(∀ H,SqT K H a xs)→Q (.ref a) H
theorem zh {xs:List V}(hg:Gl X x) (h:nI X.K X.mg x xs) (hd:(x == ("__debug__" : Str))=false:=by decide):PE X (.Name x pos) (tGT X.K xs):=by
 obtain⟨a,hm,hs⟩:=h
 exact PE.weak (uA (v:=.ref a) hg hm rfl hd) fun σ H Q q=>q a hs
def Fo (xs:List V) (tb:TE):TE:=fun σ H Q=>tb σ H fun y H1=>∃ i v,y = .int i∧atI xs i=some v∧Q v H1
theorem fb {xs:List V}{b:Expr}{tb:TE}(hg:Gl X x) (h:nI X.K X.mg x xs) (hb:PE X b tb) (hs:zN b) (mono:∀ σ H Q Q',(∀ v H',Q v H'→Q' v H')→tb σ H Q→tb σ H Q') (hd:(x == ("__debug__" : Str))=false:=by decide) :
  PE X (.Subscript (.Name x p) b pos) (Fo xs tb):=by
 obtain⟨a,hm,hq⟩:=h
 refine PE.weak (aH B6 (uA (v:=.ref a) hg hm rfl hd) hb hs) fun σ H Q q=>?_
 show tb σ H _
 exact mono σ H _ _ (fun y H1 ⟨i,v,e1,e2,e3⟩=>⟨a,xs,i,v,rfl,e1,hq H1,e2,e3⟩) q
def C4 (sp:Sp) (t:TA):TE:=fun σ H Q=>t σ H fun vs H1=>sp vs H1 Q E0
theorem Bh {sp:Sp}{t:TA}:Bn sp [] E0 t=C4 sp t:=by
 unfold Bn C4
 simp only[List.append_nil]
theorem aB {j k:Nat}{ps:List Str}{sp:Sp}{e:Expr}{es:List Expr}{t:TA}(G:OkD X.prog X.w X.K X.mg X.base j x ps sp) (hr:dD k X.A) (hg:Gl X x) (ha:PA X (e :: es) t) (hjk:j≤k:=by decide)
  (hdb:(x == ("__debug__" : Str))=false:=by decide) (he:starEach (e :: es) X.env=(false,eval e X.env) :: starEach es X.env:=by rfl) (hpl:(backTo pos (starEach es X.env)).any (·.1)=false:=by rfl) :
  PE X (.Call (.Name x p) (e :: es) [] pos) (C4 sp t):=by
 obtain⟨f,fd,hm,hk,hb,F⟩:=G
 rw[←Bh]
 exact Dm F (hr.mono hjk) hg hm hk hb .nil BD ha hdb he hpl
def Bl (C:Addr) (m:Str) (sp:Sp) (ta:TE) (t:TA):TE:=fun σ H Q=>ta σ H fun x H1=>∃ a dx fs,x = .ref a∧H1 a=some (.ins C dx fs)∧fs.lookup m=none∧t σ H1 fun vs H2=>sp (x :: vs) H2 Q E0
end
theorem boot_sum:bootBuiltins "sum"=some (.builtin "sum"):=by decide +kernel
theorem boot_all:bootBuiltins "all"=some (.builtin "all"):=by decide +kernel
theorem boot_min:bootBuiltins "min"=some (.builtin "min"):=by decide +kernel
theorem boot_ord:bootBuiltins "ord"=some (.builtin "ord"):=by decide +kernel
theorem boot_sorted:bootBuiltins "sorted"=some (.builtin "sorted"):=by decide +kernel
theorem boot_list:bootBuiltins "list"=some (.type "list"):=by decide +kernel
theorem boot_dict:bootBuiltins "dict"=some (.type "dict"):=by decide +kernel
theorem boot_str:bootBuiltins "str"=some (.type "str"):=by decide +kernel
section
variable {X:Cx}{K:PySem.W.Frag}
theorem aW (h:X.K=K):g5 X (.builtin "len") (fun xs H Q=>∃ p ys,xs=[.ref p]∧(SqL K H p ys∨SqT K H p ys)∧Q (.int ys.length) H):=by subst h;exact vf
theorem aE (h:X.K=K):IxR X (rF K):=by subst h;exact DF
theorem aL (h:X.K=K):IxR X (vQ K):=by subst h;exact B6
theorem cj {es:List Expr}{k:Nat}{t:TGs}{n:Nat}{pos:Pos}(e:X.K=K) (hc:X.calm=true) (h:PGs X es t)
  (hn:(assignEach es X.env).length=n:=by rfl) (hst:(assignEach es X.env).findIdx? (·.1)=none:=by rfl):PG X (.Tuple es k pos) (FE K n t):=by subst e;exact Ey hc h hn hst
end
theorem Fq (a b:Int):Es (.int a) (.int b)=true:=rfl
theorem vq {Q:VK}{v v':V}{H:Hp}(k:Q v H) (e:v=v'):Q v' H:=e ▸ k
theorem Gh {CX:CXT}{P:Program}{w:World}{K:PySem.W.Frag}{mg:Str→Option Value}{base:Heap}{N:List Str}{q:Str}{sc:Scope}{f:Addr}{cd:Value}{A:Around}{o:List Env}{s:Shared}{H:Hp}{E:XK}:(u7 CX P w K mg base N q sc f cd A o s H E).K=K:=rfl
theorem Gg {CX:CXT}{P:Program}{w:World}{K:PySem.W.Frag}{mg:Str→Option Value}{base:Heap}{N:List Str}{q:Str}{sc:Scope}{f:Addr}{cd:Value}{A:Around}{o:List Env}{s:Shared}{H:Hp}{E:XK}:(u7 CX P w K mg base N q sc f cd A o s H E).N=N:=rfl
theorem lkM {R:V→Prop}{a:V}{as:List V}{r:List (Option V)}:(∃ v,(List.map some (a :: as) ++ r)[0]? = some (some v)∧R v)=R a:=propext ⟨fun ⟨v,e,h⟩=>by cases e;exact h,fun h=>⟨a,rfl,h⟩⟩
theorem Gs {R:V→Prop}{a:V}{as:List V}{r:List (Option V)}{i:Nat}:(∃ v,(List.map some (a :: as) ++ r)[i+1]? = some (some v)∧R v)=(∃ v,(List.map some as ++ r)[i]? = some (some v)∧R v):=rfl
theorem Gu {R:V→Prop}{r:List (Option V)}{i:Nat}:(∃ v,(List.map some [] ++ r)[i]? = some (some v)∧R v)=(∃ v,r[i]? = some (some v)∧R v):=rfl
theorem lkC {R:V→Prop}{a:V}{r:List (Option V)}:(∃ v,(some a :: r)[0]? = some (some v)∧R v)=R a:=propext ⟨fun ⟨v,e,h⟩=>by cases e;exact h,fun h=>⟨a,rfl,h⟩⟩
theorem Gv {R:V→Prop}{a:Option V}{r:List (Option V)}{i:Nat}:(∃ v,(a :: r)[i+1]? = some (some v)∧R v)=(∃ v,r[i]? = some (some v)∧R v):=rfl
def top (i:Nat):Stmt:=PySem.Challenge.pw_datedworks_s01_answers.main.body.getD i (.Pass ⟨0,0,0,0⟩)
abbrev vI:Stmt:=top 11
theorem z6:aG ["number"] ["number"] (au vI):=by walk_at "S"
abbrev kF:Stmt:=top 12
theorem pN:aG ["number"] ["number"] (au kF):=by walk_at "S"
abbrev lO:Stmt:=top 13
theorem rD:aG ["day"] ["day"] (au lO):=by walk_at "S"
abbrev jg:Stmt:=top 14
theorem oJ:aG ["calendar","year"] ["calendar","year"] (au jg):=by walk_at "S"
abbrev dF:Stmt:=top 15
theorem dt:aG ["calendar","year","leap"] ["calendar","year"] (au dF):=by walk_at "S"
abbrev fo:Stmt:=top 16
theorem cY:aG ["calendar","year","first_year","leap_days"] ["calendar","year"] (au fo):=by walk_at "S"
abbrev je:Stmt:=top 17
theorem iG:aG ["calendar","year","month","leap_day"] ["calendar","year","month"] (au je):=by walk_at "S"
abbrev c7:Stmt:=top 18
theorem cQ:aG ["calendar","year","month","lengths","earlier"] ["calendar","year","month"] (au c7):=by walk_at "S"
abbrev sP:Stmt:=top 19
theorem xD:aG ["calendar","day"] ["calendar","day"] (au sP):=by walk_at "S"
abbrev sS:Stmt:=top 20
theorem xF:aG ["calendar","date"] ["calendar","date"] (au sS):=by walk_at "S"
abbrev ji:Stmt:=top 21
theorem iH:aG ["calendar","date","month_start"] ["calendar","date"] (au ji):=by walk_at "S"
abbrev kE:Stmt:=top 22
theorem pM:aG ["calendar","date"] ["calendar","date"] (au kE):=by walk_at "S"
abbrev sM:Stmt:=top 23
theorem kY:aG ["calendar","day","year"] ["calendar","day"] (au sM):=by walk_at "S"
abbrev sW:Stmt:=top 24
theorem eB:aG ["calendar","day","year","left","month"] ["calendar","day"] (au sW):=by walk_at "S"
abbrev kz:Stmt:=top 67
theorem jc:aG ["text","place"] ["text"] (au kz):=by walk_at "S"
abbrev fM:Stmt:=top 68
theorem dr:aG ["row","pieces","byte"] ["row"] (au fM):=by walk_at "S"
abbrev jh:Stmt:=top 69
theorem hZ:aG ["piece","byte"] ["piece"] (au jh):=by walk_at "S"
abbrev iL:Stmt:=top 70
theorem dg:aG ["piece","value","byte"] ["piece"] (au iL):=by walk_at "S"
abbrev eD:Stmt:=top 71
theorem dN:aG ["number","width","sign"] ["number","width"] (au eD):=by walk_at "S"
abbrev sR:Stmt:=top 72
theorem xE:aG ["calendar"] ["calendar"] (au sR):=by walk_at "S"
abbrev kG:Stmt:=top 73
theorem jd:aG ["part","calendar"] ["part"] (au kG):=by walk_at "S"
abbrev jf:Stmt:=top 74
theorem oI:aG ["calendar","piece"] ["calendar","piece"] (au jf):=by walk_at "S"
abbrev fN:Stmt:=top 75
theorem e8:aG ["calendar","pieces","piece"] ["calendar","pieces"] (au fN):=by walk_at "S"
abbrev ic:Stmt:=top 76
theorem dA:aG ["part","calendar","pieces","piece"] ["part"] (au ic):=by walk_at "S"
abbrev gc:Stmt:=top 77
theorem bY:aG ["text","parts","part","calendar","date","first","last"] ["text"] (au gc):=by walk_at "S"
abbrev pP:Stmt:=top 78
theorem eR:aG ["calendar","day","date","year_width","year","month"] ["calendar","day"] (au pP):=by walk_at "S"
abbrev lP:Stmt:=top 84
theorem bI:aG ["works","evidence","latest","key","interval","kind","u","v","amount"] ["works","evidence"] (au lP):=by walk_at "S"
abbrev pT:Stmt:=top 85
theorem dH:aG ["latest","evidence","closer","kind","u","v","amount"] ["latest","evidence"] (au pT):=by walk_at "S"
abbrev kD:Stmt:=top 86
theorem cV:aG ["works","evidence","latest","turn","closer"] ["works","evidence"] (au kD):=by walk_at "S"
abbrev gE:Stmt:=top 87
theorem cS:aG ["works","mirrored","key","interval"] ["works"] (au gE):=by walk_at "S"
abbrev fj:Stmt:=top 88
theorem bZ:aG ["evidence","mirrored","key","piece"] ["evidence"] (au fj):=by walk_at "S"
abbrev gF:Stmt:=top 89
theorem lN:aG ["kind","u","v","amount"] ["kind","u","v","amount"] (au gF):=by walk_at "S"
abbrev iJ:Stmt:=top 90
theorem cC:aG ["works","evidence","latest","earliest","key","day"] ["works","evidence"] (au iJ):=by walk_at "S"
abbrev sV:Stmt:=top 91
theorem cW:aG ["works","evidence","latest","key","interval","kind","u","v","amount"] ["works","evidence"] (au sV):=by walk_at "S"
abbrev vG:Stmt:=top 97
theorem z0:aG ["number"] ["number"] (au vG):=by walk_at "S"
abbrev vH:Stmt:=top 98
theorem z5:aG ["number"] ["number"] (au vH):=by walk_at "S"
abbrev bB:Stmt:=inClass (top 99) 0
theorem iP:aG ["self"] ["self"] (au bB):=by walk_at "S"
abbrev bA:Stmt:=inClass (top 99) 1
theorem d9:aG ["self","key","text","interval"] ["self","key","text"] (au bA):=by walk_at "S"
abbrev bD:Stmt:=inClass (top 99) 2
theorem cZ:aG ["self","key","text","interval","restated"] ["self","key","text"] (au bD):=by walk_at "S"
abbrev cD:Stmt:=inClass (top 99) 3
theorem b8:aG ["self","key","kind","u","v","amount"] ["self","key"] (au cD):=by walk_at "S"
abbrev a7:Stmt:=inClass (top 99) 4
theorem bO:aG ["self","kind","u","v","amount","is_between","in_range"] ["self","kind","u","v","amount"] (au a7):=by walk_at "S"
abbrev a8:Stmt:=inClass (top 99) 5
theorem bT:aG ["self","key","kind","u","v","amount","refusal","extended"] ["self","key","kind","u","v","amount"] (au a8):=by walk_at "S"
abbrev bz:Stmt:=inClass (top 99) 6
theorem iO:aG ["self","key"] ["self","key"] (au bz):=by walk_at "S"
abbrev fm:Stmt:=top 110
theorem cX:aG ["works","evidence","u","v","earliest","fixed"] ["works","evidence","u","v"] (au fm):=by walk_at "S"
abbrev nY:Stmt:=top 111
theorem ur:aG ["works","evidence","u","v"] ["works","evidence","u","v"] (au nY):=by walk_at "S"
abbrev pR:Stmt:=top 112
theorem vD:aG ["least","greatest"] ["least","greatest"] (au pR):=by walk_at "S"
abbrev nX:Stmt:=top 113
theorem uq:aG ["works","evidence","kind","u","v"] ["works","evidence","kind","u","v"] (au nX):=by walk_at "S"
abbrev sN:Stmt:=top 114
theorem eA:aG ["works","evidence","kind","u","v","amount","bounds","is_met_by_all","is_met_by_some"] ["works","evidence","kind","u","v","amount"] (au sN):=by walk_at "S"
abbrev pS:Stmt:=top 117
theorem gb:aG ["evidence","links","key","piece"] ["evidence"] (au pS):=by walk_at "S"
abbrev pQ:Stmt:=top 118
theorem f9:aG ["works","evidence","work","rests","key","piece"] ["works","evidence","work"] (au pQ):=by walk_at "S"
abbrev nZ:Stmt:=top 119
theorem b0:aG ["works","evidence","work","chain","links","reached","added","number","rests"] ["works","evidence","work","chain"] (au nZ):=by walk_at "S"
abbrev dO:Stmt:=top 120
theorem bf:aG ["works","evidence","latest","chains","work","number","day"] ["works","evidence","latest"] (au dO):=by walk_at "S"
abbrev iM:Stmt:=top 121
theorem dh:aG ["evidence","latest","binding","key","link"] ["evidence","latest"] (au iM):=by walk_at "S"
abbrev eS:Stmt:=top 122
theorem bQ:aG ["chains","links","longer","key","link"] ["chains","links"] (au eS):=by walk_at "S"
abbrev kC:Stmt:=top 123
theorem cU:aG ["works","evidence","work","latest","links","chains"] ["works","evidence","work"] (au kC):=by walk_at "S"
abbrev kH:Stmt:=top 125
theorem pO:aG ["works","evidence","call","key"] ["works","evidence","call","key"] (au kH):=by walk_at "S"
abbrev zd:Stmt:=top 126
theorem vE:aG ["works","evidence","key","chain","day"] ["works","evidence","key","chain"] (au zd):=by walk_at "S"
abbrev fO:Stmt:=top 127
theorem fi:aG ["works","evidence","call","u","v","bounds"] ["works","evidence","call","u","v"] (au fO):=by walk_at "S"
abbrev jS:Stmt:=top 128
theorem hJ:aG ["works","evidence","latest","answer","key"] ["works","evidence"] (au jS):=by walk_at "S"
abbrev Bq:Stmt:=top 129
theorem jR:aG ["works","evidence","answer","key","interval","piece"] ["works","evidence"] (au Bq):=by walk_at "S"
abbrev Br:Stmt:=top 130
theorem o7:aG ["works","evidence","key","others","piece","is_idle"] ["works","evidence","key"] (au Br):=by walk_at "S"
abbrev sO:Stmt:=top 131
theorem pL:aG ["catalogue","kind","u","v","amount","refusal"] ["catalogue","kind","u","v","amount"] (au sO):=by walk_at "S"
abbrev D8:Stmt:=top 132
theorem xG:aG ["catalogue","call","numbers","row","works","evidence"] ["catalogue","call","numbers","row"] (au D8):=by walk_at "S"
abbrev gD:Stmt:=top 134
theorem lL:aG ["day"] ["day"] (au gD):=by walk_at "S"
abbrev jj:Stmt:=top 135
theorem oK:aG ["catalogue","call","numbers","row"] ["catalogue","call","numbers","row"] (au jj):=by walk_at "S"
abbrev jk:Stmt:=top 136
theorem iI:aG ["catalogue","call","numbers","kind"] ["catalogue","call","numbers"] (au jk):=by walk_at "S"
abbrev n4:Stmt:=top 137
theorem uu:aG ["catalogue","call","numbers","row"] ["catalogue","call","numbers","row"] (au n4):=by walk_at "S"
abbrev mT:Stmt:=top 138
theorem br:aG ["calls","catalogue","answered","place","call","numbers_start","numbers","row","row_start","answer"] ["calls"] (au mT):=by walk_at "S"
structure Txt (K:PySem.W.Frag) (mg:Str→Option Value):Prop where
 yu:GV mg "LAST_DAY" (.int 474814)
 gh:GV mg "GREGORIAN" (.int 0)
 mC:GV mg "JULIAN" (.int 1)
 dk:GV mg "REPUBLICAN" (.int 2)
 ip:nI K mg "FIRST_DAYS" [(.int 0),(.int 10),(.int 33867)]
 gu:nI K mg "FIRST_YEARS" [(.int 1700),(.int 1700),(.int 1)]
 mB:nI K mg "LAST_YEARS" [(.int 2999),(.int 1999),(.int 14)]
 qJ:nI K mg "MONTH_COUNTS" [(.int 12),(.int 12),(.int 13)]
 oX:nI K mg "MONTH_LENGTHS" [(.int 31),(.int 28),(.int 31),(.int 30),(.int 31),(.int 30),(.int 31),(.int 31),(.int 30),(.int 31),(.int 30),(.int 31)]
 dI:nI K mg "REPUBLICAN_LEAP_YEARS" [(.int 3),(.int 7),(.int 11)]
 wL:GV mg "CALL_READ" (.int 0)
 wJ:GV mg "CALL_SHOW" (.int 1)
 qL:GV mg "CALL_WEEKDAY" (.int 2)
 oz:GV mg "CALL_WORK" (.int 3)
 jD:GV mg "CALL_RESTATE" (.int 4)
 wN:GV mg "CALL_DROP" (.int 5)
 gi:GV mg "CALL_NOT_BEFORE" (.int 6)
 gS:GV mg "CALL_NOT_AFTER" (.int 7)
 qN:GV mg "CALL_FOLLOWS" (.int 8)
 kN:GV mg "CALL_WITHIN" (.int 9)
 oY:GV mg "CALL_WITHDRAW" (.int 10)
 kO:GV mg "CALL_LATEST" (.int 11)
 iN:GV mg "CALL_EARLIEST" (.int 12)
 mD:GV mg "CALL_APART" (.int 13)
 uU:GV mg "CALL_ORDER" (.int 14)
 yw:GV mg "CALL_WHY" (.int 15)
 uV:GV mg "CALL_BOUND" (.int 16)
 qM:GV mg "CALL_LIST_OF" (.int 17)
 wI:GV mg "CALL_TOLD" (.int 18)
 wM:GV mg "CALL_IDLE" (.int 19)
 oV:nI K mg "NUMBER_COUNTS" [(.int 0),(.int 2),(.int 1),(.int 1),(.int 1),(.int 1),(.int 3),(.int 3),(.int 4),(.int 4),(.int 1),(.int 1),(.int 1),(.int 2),(.int 2),(.int 1),(.int 1),(.int 0),(.int 0),(.int 1),(.int 4)]
 uQ:nI K mg "ROW_COUNTS" [(.int 1),(.int 0),(.int 0),(.int 1),(.int 1),(.int 0),(.int 0),(.int 0),(.int 0),(.int 0),(.int 0),(.int 0),(.int 0),(.int 0),(.int 0),(.int 0),(.int 1),(.int 0),(.int 0),(.int 0),(.int 0)]
 yy:GV mg "BAD_FORM" (.int (-1))
 tO:GV mg "NO_DATE" (.int (-2))
 rQ:GV mg "WRONG_ORDER" (.int (-3))
 tP:GV mg "BAD_KEY" (.int (-4))
 ox:GV mg "KEY_TAKEN" (.int (-5))
 cH:GV mg "NOT_THERE" (.int (-6))
 wG:GV mg "NO_WAY" (.int (-7))
 Cf:GV mg "FULL" (.int (-8))
 fQ:GV mg "OUT_OF_RANGE" (.int (-9))
 wF:GV mg "SAME_WORK" (.int (-10))
 Ce:GV mg "IN_USE" (.int (-11))
 yt:GV mg "NO_CHAIN" (.int (-12))
 yx:GV mg "BAD_KIND" (.int (-13))
 qK:GV mg "HYPHEN" (.int 45)
 oy:GV mg "FULL_STOP" (.int 46)
 iq:GV mg "DIGIT_ZERO" (.int 48)
 uT:GV mg "DIGIT_NINE" (.int 57)
 rW:nI K mg "JULIAN_MARK" [(.int 74),(.int 58)]
 mx:nI K mg "REPUBLICAN_MARK" [(.int 82),(.int 58)]
 dm:GV mg "NOT_BEFORE" (.int 0)
 eX:GV mg "NOT_AFTER" (.int 1)
 fF:GV mg "FOLLOWS" (.int 2)
 gQ:GV mg "WITHIN" (.int 3)
 rT:GV mg "LARGEST_KEY" (.int 1000000000)
 rV:GV mg "LARGEST_GAP" (.int 1000000)
 uS:GV mg "MOST_WORKS" (.int 40)
 oW:GV mg "MOST_EVIDENCE" (.int 100)
 qH:GV mg "SURELY_LATER" (.int 1)
 rS:GV mg "NOT_EARLIER" (.int 2)
 AE:GV mg "ONE_DAY" (.int 3)
 wH:GV mg "NOT_LATER" (.int 4)
 m9:GV mg "SURELY_EARLIER" (.int 5)
 uR:GV mg "OPEN_ORDER" (.int 6)
 qI:GV mg "NO_WAY_MEETS" (.int 0)
 gR:GV mg "EACH_WAY_MEETS" (.int 1)
 nc:GV mg "SOME_WAYS_MEET" (.int 2)
 rR:GV mg "STATED_REST" (.int 0)
 Gr:mg "abs"=none
 BU:mg "all"=none
 Gq:mg "any"=none
 m5:mg "dict"=none
 Gp:mg "int"=none
 dB:mg "len"=none
 BS:mg "list"=none
 Gn:mg "max"=none
 BR:mg "min"=none
 Fx:mg "ord"=none
 uH:mg "range"=none
 jx:mg "sorted"=none
 Fw:mg "str"=none
 Fv:mg "sum"=none
 FU:mg "tuple"=none
 Cw:aV K mg "is_day" vI ["number"]
 si:aV K mg "is_calendar" kF ["number"]
 u3:aV K mg "weekday_of" lO ["day"]
 qV:aV K mg "is_leap_year" jg ["calendar","year"]
 lp:aV K mg "leap_years_up_to" dF ["calendar","year"]
 ke:aV K mg "first_day_of_year" fo ["calendar","year"]
 qT:aV K mg "month_length" je ["calendar","year","month"]
 jL:aV K mg "first_day_of_month" c7 ["calendar","year","month"]
 AQ:aV K mg "reaches" sP ["calendar","day"]
 AU:aV K mg "is_date" sS ["calendar","date"]
 qX:aV K mg "first_day_of" ji ["calendar","date"]
 sh:aV K mg "last_day_of" kE ["calendar","date"]
 AL:aV K mg "year_of" sM ["calendar","day"]
 AX:aV K mg "date_of" sW ["calendar","day"]
 rZ:aV K mg "split_parts" kz ["text"]
 lj:aV K mg "split_at_hyphens" fM ["row"]
 xb:aV K mg "is_digits" jh ["piece"]
 o3:aV K mg "decimal_value" iL ["piece"]
 nz:aV K mg "decimal_digits" eD ["number","width"]
 AR:aV K mg "mark_of" sR ["calendar"]
 sj:aV K mg "calendar_of" kG ["part"]
 qU:aV K mg "is_year_form" jf ["calendar","piece"]
 qW:aV K mg "is_date_form" fN ["calendar","pieces"]
 u4:aV K mg "parse_part" ic ["part"]
 xa:aV K mg "read_text" gc ["text"]
 yE:aV K mg "show_day" pP ["calendar","day"]
 u6:aV K mg "outer_days" lP ["works","evidence"]
 yI:aV K mg "drawn_in" pT ["latest","evidence"]
 sf:aV K mg "latest_days" kD ["works","evidence"]
 nt:aV K mg "mirrored_works" gE ["works"]
 j8:aV K mg "mirrored_evidence" fj ["evidence"]
 ny:aV K mg "mirrored_piece" gF ["kind","u","v","amount"]
 o2:aV K mg "earliest_days" iJ ["works","evidence"]
 AV:aV K mg "has_way" sV ["works","evidence"]
 Cu:aV K mg "is_key" vG ["number"]
 Cv:aV K mg "is_gap" vH ["number"]
 j9:aV K mg "greatest_distance" fm ["works","evidence","u","v"]
 xc:aV K mg "distances" nY ["works","evidence","u","v"]
 yG:aV K mg "order_of" pR ["least","greatest"]
 wZ:aV K mg "spoken_of" nX ["works","evidence","kind","u","v"]
 AM:aV K mg "verdict" sN ["works","evidence","kind","u","v","amount"]
 yH:aV K mg "links_of" pS ["evidence"]
 yF:aV K mg "rests_of" pQ ["works","evidence","work"]
 xf:aV K mg "chain_day" nZ ["works","evidence","work","chain"]
 iw:aV K mg "chains_without_links" dO ["works","evidence","latest"]
 o4:aV K mg "binding_links" iM ["evidence","latest"]
 jK:aV K mg "with_one_link_more" eS ["chains","links"]
 r9:aV K mg "least_chain" kC ["works","evidence","work"]
 so:aV K mg "ask_of_work" kH ["works","evidence","call","key"]
 DP:aV K mg "bound" zd ["works","evidence","key","chain"]
 lq:aV K mg "ask_of_two_works" fO ["works","evidence","call","u","v"]
 AS:aV K mg "list_of" jS ["works","evidence"]
 EY:aV K mg "told" Bq ["works","evidence"]
 EZ:aV K mg "idle" Br ["works","evidence","key"]
 AN:aV K mg "try_out" sO ["catalogue","kind","u","v","amount"]
 FP:aV K mg "ask" D8 ["catalogue","call","numbers","row"]
 nr:aV K mg "weekday_answer" gD ["day"]
 qY:aV K mg "change_works" jj ["catalogue","call","numbers","row"]
 qZ:aV K mg "add_evidence" jk ["catalogue","call","numbers"]
 xg:aV K mg "answer_of" n4 ["catalogue","call","numbers","row"]
 AY:aV K mg "answers" mT ["calls"]
def spV {α:Type}(arg:α→List V) (pre:α→Prop) (val:α→V):Sp:=fun vs H Q _=>∃ a,vs=arg a∧pre a∧∀ H',ao H H'→Q (val a) H'
theorem ao.new {H:Hp}{l:Addr}{o:HO}(h:H l=Option.none):ao H (upd H l o):=fun b u e=>by
 rw[ak (aF e h)]
 exact e
theorem take_snoc {α:Type}:∀ {l:List α}{i:Nat}{x:α},l[i]? = some x→l.take (i+1)=l.take i ++ [x]
 | [],i,x,h=>by simp at h
 |a :: l,0,x,h=>by
  have e:a=x:=Option.some.inj h
  subst e
  rfl
 |a :: l,i+1,x,h=>by
  have ih:=take_snoc (l:=l) (i:=i) (x:=x) h
  show a :: l.take (i+1)=a :: l.take i ++ [x]
  rw[ih]
  rfl
theorem pf {K:PySem.W.Frag}{a:Addr}{xs:List V}{g:TG}{te:TE}{vs:List Nat}{σ:L2.St}{H1:Hp}{D:Addr}{Qd:Hp→Prop}(ys:List V) (hD:H1 D=Option.none) (hx:SqL K H1 a xs) (hz:xs.length≤sizeLine) (hl:ys.length=xs.length)
  (hs:∀ (i:Nat) x y H,xs[i]? = some x→ys[i]? = some y→ao H1 H→∃ σ2,(∀ R,R σ2 H→g x (wipe σ vs) H R)∧wipe σ2 vs=wipe σ vs∧∀ R:VK,(∀ H',ao H H'→R y H')→te σ2 H R) (hd:∀ H,ao H1 H→H D=some (.lst ys)→Qd H) :
  ∃ W:Nat→Nat→Hp→Prop,(∃ m,W 0 m (upd H1 D (.lst [])))∧∀ i m H,W i m H →
   ((Itl K a).stop i H∧Qd H)∨((Itl K a).go i H∧∃ Nx:Hp→Prop,(∀ H',Nx H'→∃ m',m' < m∧W (i+1) m' H')∧∀ x H',(Itl K a).yld i H x H'→g x (wipe σ vs) H' fun σ2 H2=>wipe σ2 vs=wipe σ vs∧uf σ2 H2 fun b H3=>
    if b=true then te σ2 H3 fun y H4=>∃ acc,H4 D=some (.lst acc)∧acc.length < sizeLine∧Nx (upd H4 D (.lst (acc ++ [y]))) else Nx H3):=by
 refine zw (K:=K) (a:=a) (xs:=xs) (fun i H=>ao H1 H∧H D=some (.lst (ys.take i))) ⟨ao.new hD,ab⟩ (fun i H _ p=>p.1.seq hx) ?_ (fun H p=>hd H p.1 (by rw[p.2,←hl,List.take_length]))
 intro i x H hi p
 have hlt:i < xs.length:=(List.getElem?_eq_some_iff.mp hi).1
 obtain⟨y,hy⟩:∃ y,ys[i]? = some y:=⟨_,List.getElem?_eq_getElem (by omega)⟩
 obtain⟨σ2,h1,h2,h3⟩:=hs i x y H hi hy p.1
 refine h1 _ ⟨h2,?_⟩
 simp only[uf,↓reduceIte]
 refine h3 _ fun H' s'=>⟨_,s' _ _ p.2,?_,?_,?_⟩
 ·rw[List.length_take];omega
 ·intro b o e
  by_cases c:b=D
  ·subst c
   rw[hD]at e;cases e
  ·rw[ak c]
   exact s' _ _ (p.1 _ _ e)
 ·rw[ab,take_snoc hy]
theorem DA {β:Type}{K:PySem.W.Frag}{a:Addr}{xs:List V}{g:TG}{te:TE}{vs:List Nat}{σ:L2.St}{H1:Hp}{D:Addr}{Qd:Hp→Prop}(Rl:Hp→V→β→Prop) (bs:List β) (hD:H1 D=Option.none) (hx:SqL K H1 a xs) (hz:xs.length≤sizeLine) (hl:bs.length=xs.length)
  (st:∀ (H H':Hp) v b,Rl H v b→(∀ c o,c≠D→H c=some o→H' c=some o)→Rl H' v b)
  (hs:∀ (i:Nat) x b H acc,xs[i]? = some x→bs[i]? = some b→ao H1 H→H D=some (.lst acc)→∃ σ2,(∀ R,R σ2 H→g x (wipe σ vs) H R)∧wipe σ2 vs=wipe σ vs∧∀ R:VK,(∀ H' y,ao H H'→Rl H' y b→R y H')→te σ2 H R)
  (hd:∀ H ys,ao H1 H→H D=some (.lst ys)→Paired (Rl H) ys bs→Qd H) :
  ∃ W:Nat→Nat→Hp→Prop,(∃ m,W 0 m (upd H1 D (.lst [])))∧∀ i m H,W i m H →
   ((Itl K a).stop i H∧Qd H)∨((Itl K a).go i H∧∃ Nx:Hp→Prop,(∀ H',Nx H'→∃ m',m' < m∧W (i+1) m' H')∧∀ x H',(Itl K a).yld i H x H'→g x (wipe σ vs) H' fun σ2 H2=>wipe σ2 vs=wipe σ vs∧uf σ2 H2 fun b H3=>
    if b=true then te σ2 H3 fun y H4=>∃ acc,H4 D=some (.lst acc)∧acc.length < sizeLine∧Nx (upd H4 D (.lst (acc ++ [y]))) else Nx H3):=by
 have keep:∀ (H H':Hp) (ys:List V) (cs:List β),Paired (Rl H) ys cs→(∀ c o,c≠D→H c=some o→H' c=some o)→Paired (Rl H') ys cs:=by
  intro H H' ys cs h k
  induction h with
  |nil=>exact .nil
  |cons h1 _ ih=>exact .cons (st _ _ _ _ h1 k) ih
 refine zw (K:=K) (a:=a) (xs:=xs) (fun i H=>ao H1 H∧∃ ys,H D=some (.lst ys)∧Paired (Rl H) ys (bs.take i)) ⟨ao.new hD,[],ab,.nil⟩ (fun i H _ p=>p.1.seq hx) ?_ (fun H p=>by
  obtain⟨s1,ys,h1,h2⟩:=p
  exact hd H ys s1 h1 (by rw[←hl,List.take_length]at h2;exact h2))
 rintro i x H hi ⟨s1,ys,h1,h2⟩
 have hlt:i < xs.length:=(List.getElem?_eq_some_iff.mp hi).1
 obtain⟨b,hb⟩:∃ b,bs[i]? = some b:=⟨_,List.getElem?_eq_getElem (by omega)⟩
 obtain⟨σ2,e1,e2,e3⟩:=hs i x b H ys hi hb s1 h1
 refine e1 _ ⟨e2,?_⟩
 have hly:ys.length≤i:=by
  have:=Paired.length h2
  rw[List.length_take]at this
  omega
 simp only[uf,↓reduceIte]
 refine e3 _ fun H' y s' ry=>⟨ys,s' _ _ h1,by omega,?_,ys ++ [y],ab,?_⟩
 ·intro c o e
  by_cases z:c=D
  ·subst z
   rw[hD]at e;cases e
  ·rw[ak z]
   exact s' _ _ (s1 _ _ e)
 ·rw[take_snoc hb]
  have k2:∀ c o,c≠D→H' c=some o→upd H' D (.lst (ys ++ [y])) c=some o:=fun c o z e=>by rw[ak z];exact e
  exact Paired.snoc (keep _ _ _ _ h2 fun c o z e=>k2 c o z (s' _ _ e)) (st _ _ _ _ ry k2)
theorem DB {z:Str}{g:TG}{te:TE}{vs:List Nat}{σ:L2.St}{H1:Hp}{D:Addr}{Qd:Hp→Prop}(ys:List V) (hD:H1 D=Option.none) (hz:z.cps.size≤sizeLine) (hl:ys.length=z.cps.size)
  (hs:∀ (i:Nat) c y H,z.cps[i]? = some c→ys[i]? = some y→ao H1 H→∃ σ2,(∀ R,R σ2 H→g (.str ⟨#[c]⟩) (wipe σ vs) H R)∧wipe σ2 vs=wipe σ vs∧∀ R:VK,(∀ H',ao H H'→R y H')→te σ2 H R) (hd:∀ H,ao H1 H→H D=some (.lst ys)→Qd H) :
  ∃ W:Nat→Nat→Hp→Prop,(∃ m,W 0 m (upd H1 D (.lst [])))∧∀ i m H,W i m H →
   ((Its z).stop i H∧Qd H)∨((Its z).go i H∧∃ Nx:Hp→Prop,(∀ H',Nx H'→∃ m',m' < m∧W (i+1) m' H')∧∀ x H',(Its z).yld i H x H'→g x (wipe σ vs) H' fun σ2 H2=>wipe σ2 vs=wipe σ vs∧uf σ2 H2 fun b H3=>
    if b=true then te σ2 H3 fun y H4=>∃ acc,H4 D=some (.lst acc)∧acc.length < sizeLine∧Nx (upd H4 D (.lst (acc ++ [y]))) else Nx H3):=by
 refine⟨fun i m H=>m=z.cps.size - i∧i≤z.cps.size∧ao H1 H∧H D=some (.lst (ys.take i)),⟨z.cps.size,by simp,Nat.zero_le _,ao.new hD,ab⟩,?_⟩
 rintro i m H ⟨rfl,hi,p1,p2⟩
 by_cases hlt:i < z.cps.size
 ·refine .inr ⟨hlt,fun H'=>ao H1 H'∧H' D=some (.lst (ys.take (i+1))),fun H' p'=>⟨z.cps.size - (i+1),by omega,rfl,hlt,p'⟩,fun x H' q=>?_⟩
  obtain⟨e,c,hc,ex⟩:=q
  subst e ex
  obtain⟨y,hy⟩:∃ y,ys[i]? = some y:=⟨_,List.getElem?_eq_getElem (by omega)⟩
  obtain⟨σ2,h1,h2,h3⟩:=hs i c y _ hc hy p1
  refine h1 _ ⟨h2,?_⟩
  simp only[uf,↓reduceIte]
  refine h3 _ fun H' s'=>⟨_,s' _ _ p2,?_,?_,?_⟩
  ·rw[List.length_take];omega
  ·intro b o e
   by_cases c:b=D
   ·subst c
    rw[hD]at e;cases e
   ·rw[ak c]
    exact s' _ _ (p1 _ _ e)
  ·rw[ab,take_snoc hy]
 ·have e:i=z.cps.size:=by omega
  subst e
  exact .inl ⟨Nat.le_refl _,hd H p1 (by rw[p2,←hl,List.take_length])⟩
theorem DC {lo:Int}{n:Nat}{g:TG}{te:TE}{vs:List Nat}{σ:L2.St}{H1:Hp}{D:Addr}{Qd:Hp→Prop}(ys:List V) (hD:H1 D=Option.none) (hz:n≤sizeLine) (hl:ys.length=n)
  (hs:∀ (i:Nat) y H,i < n→ys[i]? = some y→ao H1 H→∃ σ2,(∀ R,R σ2 H→g (.int (lo+(i:Nat))) (wipe σ vs) H R)∧wipe σ2 vs=wipe σ vs∧∀ R:VK,(∀ H',ao H H'→R y H')→te σ2 H R) (hd:∀ H,ao H1 H→H D=some (.lst ys)→Qd H) :
  ∃ W:Nat→Nat→Hp→Prop,(∃ m,W 0 m (upd H1 D (.lst [])))∧∀ i m H,W i m H →
   ((Itr lo n).stop i H∧Qd H)∨((Itr lo n).go i H∧∃ Nx:Hp→Prop,(∀ H',Nx H'→∃ m',m' < m∧W (i+1) m' H')∧∀ x H',(Itr lo n).yld i H x H'→g x (wipe σ vs) H' fun σ2 H2=>wipe σ2 vs=wipe σ vs∧uf σ2 H2 fun b H3=>
    if b=true then te σ2 H3 fun y H4=>∃ acc,H4 D=some (.lst acc)∧acc.length < sizeLine∧Nx (upd H4 D (.lst (acc ++ [y]))) else Nx H3):=by
 refine B1 (lo:=lo) (n:=n) (fun i H=>ao H1 H∧H D=some (.lst (ys.take i))) ⟨ao.new hD,ab⟩ ?_ (fun H p=>hd H p.1 (by rw[p.2,←hl,List.take_length]))
 intro i H hi p
 obtain⟨y,hy⟩:∃ y,ys[i]? = some y:=⟨_,List.getElem?_eq_getElem (by omega)⟩
 obtain⟨σ2,h1,h2,h3⟩:=hs i y H hi hy p.1
 refine h1 _ ⟨h2,?_⟩
 simp only[uf,↓reduceIte]
 refine h3 _ fun H' s'=>⟨_,s' _ _ p.2,?_,?_,?_⟩
 ·rw[List.length_take];omega
 ·intro b o e
  by_cases c:b=D
  ·subst c
   rw[hD]at e;cases e
  ·rw[ak c]
   exact s' _ _ (p.1 _ _ e)
 ·rw[ab,take_snoc hy]
end Dw
local macro_rules
  | `(tactic| walk_at "R") => `(tactic| ((try dsimp [L2.Bj, L2.Bk, L2.xx, L2.tC, L2.kT, L2.rI0, L2.rI, L2.start, L2.tOp, L2.rEq, L2.rNe, Dw.Fq, L2.Bi, L2.Fn, L2.D5, L2.Eo, L2.wO, L2.D7, L2.Fg, L2.Fh, L2.Fp, L2.tOr, L2.Fi, L2.tB, L2.tIf, L2.tUn, L2.rU, L2.sJ, L2.uh, Dw.C4, Dw.Fo, L2.Bm, Dw.tGT, L2.tCB, Dw.Gh, Dw.Gg, L2.C5, L2.Em, L2.tSl, L2.yY, L2.D4, Dw.Bl, Dw.Gs, Dw.Gu, Dw.Gv]); (try simp only [↓Dw.lkM, ↓Dw.lkC, ↓Dw.Gs, ↓Dw.Gv, ↓Dw.Gu])))
local macro_rules
  | `(tactic| simp! [$as,*]) => `(tactic| (walk_at "R"; try simp [L2.Bj, L2.Bk, L2.xx, L2.tC, L2.kT, L2.rI0, L2.rI, L2.start, L2.tOp, L2.rEq, L2.rNe, Dw.Fq, L2.Bi, L2.Fn, L2.D5, L2.Eo, L2.wO, L2.D7, L2.Fg, L2.Fh, L2.Fp, L2.tOr, L2.Fi, L2.tB, L2.tIf, L2.tUn, L2.rU, L2.sJ, L2.uh, Dw.C4, Dw.Fo, L2.Bm, Dw.tGT, L2.tCB, Dw.Gh, Dw.Gg, L2.C5, L2.Em, L2.tSl, L2.yY, L2.D4, Dw.Bl, $as,*]))
namespace Dw
open PySem PySem.Spec PyProof.Rows L2
open Vbnlaa CalM
def gA:Sp:=spV (fun n:Int=>[.int n]) (fun _=>True) (fun n=>.bl (dayOk n))
def i9:Sp:=spV (fun n:Int=>[.int n]) (fun _=>True) (fun n=>.bl (decide (0≤n) && decide (n≤2)))
def ki:Sp:=spV (fun n:Int=>[.int n]) (fun _=>True) (fun n=>.int ((n+4) % 7+1))
def iC:Sp:=spV (fun a:Cal×Nat=>[.int (cI a.1),.int a.2]) (fun _=>True) (fun a=>.bl (leap a.1 a.2))
def fg:Sp:=spV (fun a:Cal×Nat=>[.int (cI a.1),.int a.2]) (fun _=>True) (fun a=>.int (lyu a.1 a.2))
def a5:Sp:=spV (fun a:Cal×Nat=>[.int (cI a.1),.int a.2]) (fun a=>firstYear a.1≤a.2) (fun a=>.int (yearStart a.1 a.2))
def cO:Sp:=spV (fun a:Cal×Nat×Nat=>[.int (cI a.1),.int a.2.1,.int a.2.2]) (fun a=>1≤a.2.2∧a.2.2≤months a.1) (fun a=>.int (monthDays a.1 a.2.1 a.2.2))
def d8:Sp:=spV (fun a:Cal×Nat×Nat=>[.int (cI a.1),.int a.2.1,.int a.2.2]) (fun a=>firstYear a.1≤a.2.1∧1≤a.2.2∧a.2.2≤months a.1) (fun a=>.int (monthStart a.1 a.2.1 a.2.2))
section
variable {P:Program}{w:World}{K:PySem.W.Frag}{mg:Str→Option Value}{base:Heap}
theorem Al (T:Txt K mg):OkD P w K mg base 1 "is_day" ["number"] gA:=by
 obtain⟨f,fd,hm,F,b⟩:=T.Cw
 refine⟨f,fd,hm,F.kp,b,F.ok z6 (fun vs H Q E h=>?_) (fun cdv A outer s H vs Q E hr h=>?_)⟩
 ·obtain⟨n,rfl,_⟩:=h
  rfl
 ·obtain⟨n,rfl,_,k⟩:=h
  have k:=k H (ao.refl H)
  refine⟨_,(ag (aq (eU cG cG aj (pv 0) (aQ rfl T.yu)))),?_⟩
  simp![tC]
  by_cases c:0≤n
  ·rw[if_pos c]
   refine vq k (congrArg V.bl ?_)
   rw[Bool.eq_iff_iff]
   simp[dayOk,LAST,c]
   exact decide_eq_true_iff
  ·rw[if_neg c]
   exact vq k (by simp[dayOk,LAST,c])
theorem qj (T:Txt K mg):OkD P w K mg base 1 "is_calendar" ["number"] i9:=by
 obtain⟨f,fd,hm,F,b⟩:=T.si
 refine⟨f,fd,hm,F.kp,b,F.ok pN (fun vs H Q E h=>?_) (fun cdv A outer s H vs Q E hr h=>?_)⟩
 ·obtain⟨n,rfl,_⟩:=h
  rfl
 ·obtain⟨n,rfl,_,k⟩:=h
  have k:=k H (ao.refl H)
  refine⟨_,(ag (aq (eU cG cG (aQ rfl T.gh) (pv 0) (aQ rfl T.dk)))),?_⟩
  simp![tC]
  by_cases c:0≤n<;>simpa[c]using k
theorem rG (T:Txt K mg):OkD P w K mg base 1 "weekday_of" ["day"] ki:=by
 obtain⟨f,fd,hm,F,b⟩:=T.u3
 refine⟨f,fd,hm,F.kp,b,F.ok rD (fun vs H Q E h=>?_) (fun cdv A outer s H vs Q E hr h=>?_)⟩
 ·obtain⟨n,rfl,_⟩:=h
  rfl
 ·obtain⟨n,rfl,_,k⟩:=h
  have k:=k H (ao.refl H)
  refine⟨_,(ag (aq (aU bh (aU qe (aU bh (pv 0) aj) aj) aj))),?_⟩
  simpa[Bj,Bk,xx,tC,kT,rI0,rI,L2.start,tOp,rEq,rNe,Fq,Bi,Fn,D5,Eo,wO,D7,Fg,Fh,Fp,tOr,Fi,tB,tIf,tUn,rU,sJ,uh,C4,Fo,Bm,tGT,tCB,Gh,Gg,C5,Em,tSl,yY,D4,Bl]using k
theorem oP (T:Txt K mg):OkD P w K mg base 1 "is_leap_year" ["calendar","year"] iC:=by
 obtain⟨f,fd,hm,F,b⟩:=T.qV
 refine⟨f,fd,hm,F.kp,b,F.ok oJ (fun vs H Q E h=>?_) (fun cdv A outer s H vs Q E hr h=>?_)⟩
 ·obtain⟨n,rfl,_⟩:=h
  rfl
 ·obtain⟨⟨c,y⟩,rfl,_,k⟩:=h
  have k:=k H (ao.refl H)
  refine⟨_,(ae (aK (aA aT (pv 0) (aQ rfl T.gh) (aD _)) (ag (aq (BA (xP (cz aT (aU qe (pv 1) aj) aj (aD _)) (mU (cz BH (aU qe (pv 1) aj) aj (aD _)))) (mU (cz aT (aU qe (pv 1) aj) aj (aD _)))))) az)
   (ae (aK (aA aT (pv 0) (aQ rfl T.mC) (aD _)) (ag (aq (cz aT (aU qe (pv 1) aj) aj (aD _)))) az)
   (ag (aq (cz gK (pv 1) (zh rfl T.dI) rfl))))),?_⟩
  cases c
  ·simp![cI]
   by_cases h4:(y:Int) % 4=0
   ·rw[if_pos h4]
    by_cases h1:(y:Int) % 100=0
    ·refine .inl ⟨h1,vq k (congrArg V.bl ?_)⟩
     rw[Bool.eq_iff_iff]
     simp[leap]
     omega
    ·refine .inr ⟨h1,vq k (congrArg V.bl ?_)⟩
     rw[Bool.eq_iff_iff]
     simp[leap]
     omega
   ·rw[if_neg h4]
    refine vq k (congrArg V.bl ?_)
    rw[Bool.eq_iff_iff]
    simp[leap]
    omega
  ·simp![cI]
   refine vq k (congrArg V.bl ?_)
   rw[Bool.eq_iff_iff]
   simp[leap]
   omega
  ·simp![cI]
   intro a ha
   refine⟨a,_,rfl,.inr (ha _),rfl,rfl,vq k (congrArg V.bl ?_)⟩
   rw[Bool.eq_iff_iff]
   simp[leap,inV,eqV]
   omega
theorem j6 (T:Txt K mg):OkD P w K mg base 1 "leap_years_up_to" ["calendar","year"] fg:=by
 obtain⟨f,fd,hm,F,b⟩:=T.lp
 refine⟨f,fd,hm,F.kp,b,F.ok dt (fun vs H Q E h=>?_) (fun cdv A outer s H vs Q E hr h=>?_)⟩
 ·obtain⟨n,rfl,_⟩:=h
  rfl
 ·obtain⟨⟨c,y⟩,rfl,_,k⟩:=h
  refine⟨_,(ae (aK (aA aT (pv 0) (aQ rfl T.gh) (aD _)) (ag (aq (aU bh (aU du (aU lZ (pv 1) aj) (aU lZ (pv 1) aj)) (aU lZ (pv 1) aj)))) az)
   (ae (aK (aA aT (pv 0) (aQ rfl T.mC) (aD _)) (ag (aq (aU lZ (pv 1) aj))) az)
   (ag (aq (aS (aW (K:=K) rfl) (by rfl) T.dB PySem.boot_len (aa (tp (own:=[("leap",2)]) rfl dt.nd (By (zh rfl T.dI)) (eY (show sr ["calendar","year","leap"] (au dF) _ _=true from by decide +kernel)) (fun _ _ _ _ _=>(aJ (i:=2) dt.nd rfl (Or.inl rfl))) (fun _ _ _ _ _=>(Df (aA cG (pv 2) (pv 1) (aD _)))) (fun _ _ _ _ _=>(pv 2))) ah)))))),?_⟩
  cases c
  ·simp![cI,D0]
   exact k H (ao.refl H)
  ·simp![cI,D0]
   exact k H (ao.refl H)
  ·simp![cI]
   intro a ha
   obtain⟨L,hL⟩:∃ L:List Int,L=[3,7,11]:=⟨_,rfl⟩
   refine⟨a,rfl,⟨_,ha _⟩,fun D hD=>EI (K:=K) (a:=a) (xs:=[V.int 3,V.int 7,V.int 11]) (fun i H'=>ao H H'∧H' D=some (.lst (((L.take i).filter fun l=>decide (l≤(y:Int))).map V.int))) ⟨ao.new hD,by rw[ab];rfl⟩ (fun i H' _ _=>ha _) ?_ ?_⟩
   ·intro i x H' hi p
    have hD':∀ o,ao H (upd H' D o):=fun o b u e=>by
     rw[ak (aF e hD)]
     exact p.1 _ _ e
    obtain⟨z,hz,rfl⟩:∃ z,L[i]? = some z∧x=V.int z:=by
     rw[hL]
     match i,hi with
     |0,hi=>exact⟨3,rfl,(Option.some.inj hi).symm⟩
     |1,hi=>exact⟨7,rfl,(Option.some.inj hi).symm⟩
     |2,hi=>exact⟨11,rfl,(Option.some.inj hi).symm⟩
     |i+3,hi=>simp at hi
    simp![wipe]
    have e:L.take (i+1)=L.take i ++ [z]:=take_snoc hz
    have hl:(L.take i).length≤3:=by rw[List.length_take,hL];exact Nat.min_le_right _ _
    by_cases c:z≤(y:Int)
    ·rw[if_pos c]
     refine⟨_,p.2,?_,hD' _,?_⟩
     ·rw[List.length_map]
      have:=List.length_filter_le (fun l=>decide (l≤(y:Int))) (L.take i)
      exact Nat.lt_of_le_of_lt (Nat.le_trans this hl) (by decide)
     ·rw[ab,e,List.filter_append,List.map_append]
      simp[c]
    ·rw[if_neg c]
     refine⟨p.1,?_⟩
     rw[p.2,e,List.filter_append]
     simp[c]
   ·intro H' p
    refine⟨D,rfl,_,.inl (SqL.of p.2),?_⟩
    refine vq (k H' p.1) ?_
    rw[hL]
    simp[lyu]
theorem A4 {a b c:Int}(cal:Cal):atI [V.int a,V.int b,V.int c] (cI cal)=some (V.int (match cal with | .greg=>a | .jul=>b | .rep=>c)):=by
 cases cal
 ·exact ax (j:=0) rfl
 ·exact ax (j:=1) rfl
 ·exact ax (j:=2) rfl
theorem wQ (c:Cal):(match c with | .greg=>1700 | .jul=>1700 | .rep=>1:Int)=(firstYear c:Int):=by cases c<;>rfl
theorem zr (c:Cal):(match c with | .greg=>2999 | .jul=>1999 | .rep=>14:Int)=(lastYear c:Int):=by cases c<;>rfl
theorem or_eq (c:Cal):(match c with | .greg=>0 | .jul=>10 | .rep=>33867:Int)=(origin c:Int):=by cases c<;>rfl
theorem BW (c:Cal):(match c with | .greg=>12 | .jul=>12 | .rep=>13:Int)=(months c:Int):=by cases c<;>rfl
theorem jw (T:Txt K mg) (GG:OkD P w K mg base 1 "leap_years_up_to" ["calendar","year"] fg):OkD P w K mg base 2 "first_day_of_year" ["calendar","year"] a5:=by
 obtain⟨f,fd,hm,F,b⟩:=T.ke
 refine⟨f,fd,hm,F.kp,b,F.ok cY (fun vs H Q E h=>?_) (fun cdv A outer s H vs Q E hr h=>?_)⟩
 ·obtain⟨n,rfl,_⟩:=h
  rfl
 ·obtain⟨⟨c,y⟩,rfl,hy,k⟩:=h
  have hy:firstYear c≤y:=hy
  have hp:=Cg c
  refine⟨_,(ae (aI (i:=2) cY.nd rfl (Or.inl rfl) (fb rfl T.gu (pv 0) (fun _ _=>rfl) (fun _ _ _ _ h ⟨v,e,q⟩=>⟨v,e,h _ _ q⟩)))
   (ae (aI (i:=3) cY.nd rfl (Or.inl rfl) (aU du (aB GG hr rfl (aa (pv 0) (aa (aU du (pv 1) aj) ah))) (aB GG hr rfl (aa (pv 0) (aa (aU du (pv 2) aj) ah)))))
   (ag (aq (aU bh (aU bh (fb rfl T.ip (pv 0) (fun _ _=>rfl) (fun _ _ _ _ h ⟨v,e,q⟩=>⟨v,e,h _ _ q⟩)) (aU BI aj (aU du (pv 1) (pv 2)))) (pv 3)))))),?_⟩
  simp![A4,wQ,or_eq]
  refine⟨(c,y - 1),by simp;omega,trivial,fun H1 s1=>⟨(c,firstYear c - 1),by simp;omega,trivial,fun H2 s2=>?_⟩⟩
  refine⟨_,rfl,_,rfl,.inl ⟨by omega,by omega⟩,?_⟩
  refine vq (k H2 (s1.trans s2)) ?_
  simp[kh c hy]
theorem oN (T:Txt K mg) (Hd:OkD P w K mg base 1 "is_leap_year" ["calendar","year"] iC):OkD P w K mg base 2 "month_length" ["calendar","year","month"] cO:=by
 obtain⟨f,fd,hm,F,b⟩:=T.qT
 refine⟨f,fd,hm,F.kp,b,F.ok iG (fun vs H Q E h=>?_) (fun cdv A outer s H vs Q E hr h=>?_)⟩
 ·obtain⟨n,rfl,_⟩:=h
  rfl
 ·obtain⟨⟨c,y,m⟩,rfl,⟨h1,h2⟩,k⟩:=h
  have h1:1≤m:=h1
  have h2:m≤months c:=h2
  refine⟨_,(ae (aI (i:=3) iG.nd rfl (Or.inl rfl) (cF (cE (aB Hd hr rfl (aa (pv 0) (aa (pv 1) ah)))) aj aj))
   (ae (aK (aA aT (pv 0) (aQ rfl T.dk) (aD _)) (ag (aq (cF (aA cG (pv 2) aj (aD _)) aj (aU bh aj (pv 3))))) az)
   (ag (aq (aU bh (fb rfl T.oX (aU du (pv 2) aj) (fun _ _=>rfl) (fun _ _ _ _ h ⟨v,e,i,j,e1,e2,q⟩=>⟨v,e,i,j,e1,e2,h _ _ q⟩)) (cF (aA aT (pv 2) aj (aD _)) (pv 3) aj)))))),?_⟩
  simp![tC]
  refine⟨(c,y),rfl,trivial,fun H1 s1=>?_⟩
  have k:=k H1 s1
  have km:∀ z:Int,(monthDays c y m:Int)=z→Q (.int z) H1:=fun z e=>by rw[←e];exact k
  by_cases hr:c = .rep
  ·subst hr
   have e:=Fy y (m:=m) h2
   by_cases hl:leap .rep y=true
   ·right
    refine⟨congrArg V.bl hl,?_⟩
    rw[if_pos (show cI .rep=2 from rfl)]
    rw[if_pos hl]at e
    split
    ·rename_i c;exact km _ (by rw[e,if_pos c])
    ·rename_i c;exact km _ (by rw[e,if_neg c];rfl)
   ·left
    refine⟨congrArg V.bl (by simpa using hl),?_⟩
    rw[if_pos (show cI .rep=2 from rfl)]
    rw[if_neg hl]at e
    split
    ·rename_i c;exact km _ (by rw[e,if_pos c])
    ·rename_i c;exact km _ (by rw[e,if_neg c];rfl)
  ·have hm:m≤12:=by cases c<;>first | exact h2 | exact absurd rfl hr
   have hc:¬ cI c=2:=by cases c<;>first | decide | exact absurd rfl hr
   have e:=F4 c hr y h1 hm
   have ha:∃ z:Int,([31,28,31,30,31,30,31,31,30,31,30,31]:List Int).getD (m - 1) 0=z∧atI [V.int 31,V.int 28,V.int 31,V.int 30,V.int 31,V.int 30,V.int 31,V.int 31,V.int 30,V.int 31,V.int 30,V.int 31] ((m:Int) - 1)=some (V.int z):=by
    have:=CalM.m12 m (by omega) h1
    rcases this with h | h | h | h | h | h | h | h | h | h | h | h<;>subst h<;>exact⟨_,rfl,rfl⟩
   obtain⟨z,hz,ha⟩:=ha
   rw[hz]at e
   simp only[if_neg hc]
   by_cases hl:leap c y=true
   ·right
    refine⟨congrArg V.bl hl,_,ha,?_⟩
    rw[if_pos hl]at e
    by_cases c2:m=2
    ·rw[if_pos (show (m:Int)=2 by omega)]
     rw[if_pos c2]at e
     exact⟨_,rfl,km _ e⟩
    ·rw[if_neg (show ¬ (m:Int)=2 by omega)]
     rw[if_neg c2]at e
     exact⟨_,rfl,km _ (by omega)⟩
   ·left
    refine⟨congrArg V.bl (by simpa using hl),_,ha,_,rfl,km _ ?_⟩
    rw[if_neg hl]at e
    split at e<;>omega
theorem iS (T:Txt K mg) (Gy:OkD P w K mg base 2 "month_length" ["calendar","year","month"] cO) (Gw:OkD P w K mg base 2 "first_day_of_year" ["calendar","year"] a5):OkD P w K mg base 3 "first_day_of_month" ["calendar","year","month"] d8:=by
 obtain⟨f,fd,hm,F,b⟩:=T.jL
 refine⟨f,fd,hm,F.kp,b,F.ok cQ (fun vs H Q E h=>?_) (fun cdv A outer s H vs Q E hr h=>?_)⟩
 ·obtain⟨n,rfl,_⟩:=h
  rfl
 ·obtain⟨⟨c,y,m⟩,rfl,⟨hy,h1,h2⟩,k⟩:=h
  have hy:firstYear c≤y:=hy
  have h1:1≤m:=h1
  have h2:m≤months c:=h2
  have h13:months c≤13:=by cases c<;>decide
  refine⟨_,(ae (vU (i:=3) (hc:=rfl) (hN:=cQ.nd) (hy:=rfl) (hyl:=rfl) (hsw:=rfl) (own:=[("earlier",4)]) (Ab rfl T.uH (aa aj (aa (pv 2) ah))) (eY (show sr ["calendar","year","month","lengths","earlier"] (au c7) _ _=true from by decide +kernel)) (fun _ _ _ _ _=>(aJ (i:=4) cQ.nd rfl (Or.inl rfl))) (fun _ _ _ _ _=>ij) (fun _ _ _ _ _=>(aB Gy hr rfl (aa (pv 0) (aa (pv 1) (aa (pv 4) ah))))))
   (ag (aq (aU bh (aB Gw hr rfl (aa (pv 0) (aa (pv 1) ah))) (aS (E2 rfl) (by rfl) T.Fv boot_sum (aa (pv 3) ah)))))),?_⟩
  simp![tC]
  refine⟨_,rfl,1,m,rfl,⟨by omega,by omega,by omega,by omega⟩,fun D hD=>DC (((List.range (m - 1)).map fun i=>V.int (monthDays c y (1+i)))) hD (by
    have:sizeLine=16777216:=sizeLine_eq
    omega) (by rw[List.length_map,List.length_range];omega) ?_ ?_⟩
  ·intro i v H' hi hv s1
   rw[List.getElem?_map]at hv
   have hi':i < m - 1:=by omega
   rw[List.getElem?_range hi']at hv
   have hv:=Option.some.inj hv
   subst hv
   refine⟨[some (.int (cI c)),some (.int y),some (.int m),none,some (.int (1+(i:Int)))],fun R r=>r,rfl,fun R r=>?_⟩
   simp![tC]
   exact⟨(c,y,1+i),by simp,⟨by show 1≤1+i;omega,by show 1+i≤months c;omega⟩,fun H2 s2=>r H2 s2⟩
  ·intro H' s1 hD'
   refine⟨(c,y),rfl,hy,fun H2 s2=>?_⟩
   refine⟨D,(List.range (m - 1)).map fun i=>(monthDays c y (1+i):Int),rfl,SqL.of ?_,?_⟩
   ·rw[List.map_map]
    exact s2 _ _ hD'
   ·refine⟨_,rfl,_,rfl,vq (k H2 (s1.trans s2)) ?_⟩
    have tot:∀ j:Nat,((List.range j).map fun i=>(monthDays c y (1+i):Int)).sum=(total (monthDays c y) 1 j:Int):=by
     intro j
     induction j with
     |zero=>rfl
     |succ j ih=>
      rw[List.range_succ,List.map_append,List.sum_append,ih]
      simp[total]
    simp[tot,monthStart]
end
end Dw
namespace Dw
open PySem PySem.Spec PyProof.Rows L2
open Vbnlaa CalM TextM
def nV (n:Nat):V:=.int n
theorem ixl {K:PySem.W.Frag}{H:Hp}{a:Addr}{xs:List V}{i:Int}{v:V}{Q:VK}(h:SqL K H a xs) (e:atI xs i=some v) (q:Q v H):rF K (.ref a) (.int i) H Q:=⟨a,xs,i,v,rfl,rfl,h,e,q⟩
theorem ixt {K:PySem.W.Frag}{H:Hp}{a:Addr}{xs:List V}{i:Int}{v:V}{Q:VK}(h:SqT K H a xs) (e:atI xs i=some v) (q:Q v H):vQ K (.ref a) (.int i) H Q:=⟨a,xs,i,v,rfl,rfl,h,e,q⟩
def pE:Sp:=spV (fun a:Cal×Nat=>[.int (cI a.1),.int a.2]) (fun _=>True) (fun a=>.bl (decide (origin a.1≤a.2) && decide (a.2 < yearStart a.1 (lastYear a.1+1))))
def pG (K:PySem.W.Frag):Sp:=fun vs H Q _=>∃ (c:Cal) (a:Addr) (ns:List Nat),vs=[.int (cI c),.ref a]∧SqL K H a (ns.map nV)∧1≤ns.length∧ns.length≤3∧∀ H',ao H H'→Q (.bl (there (aP (c,ns)))) H'
def dE (K:PySem.W.Frag):Sp:=fun vs H Q _=>∃ (c:Cal) (a:Addr) (ns:List Nat),vs=[.int (cI c),.ref a]∧SqL K H a (ns.map nV)∧1≤ns.length∧ns.length≤3∧there (aP (c,ns))=true∧∀ H',ao H H'→Q (.int (firstDay (aP (c,ns)))) H'
def fJ (K:PySem.W.Frag):Sp:=fun vs H Q _=>∃ (c:Cal) (a:Addr) (ns:List Nat),vs=[.int (cI c),.ref a]∧SqL K H a (ns.map nV)∧1≤ns.length∧ns.length≤3∧there (aP (c,ns))=true∧∀ H',ao H H'→Q (.int (lastDay (aP (c,ns)))) H'
def pB:Sp:=fun vs H Q _=>∃ (c:Cal) (n:Nat),vs=[.int (cI c),.int n]∧origin c≤n∧n < yearStart c (lastYear c+1)∧∀ y:Nat,firstYear c≤y→y≤lastYear c→yearStart c y≤n→n < yearStart c (y+1)→∀ H',ao H H'→Q (.int y) H'
def pH:Sp:=fun vs H Q _=>∃ (c:Cal) (n:Nat),vs=[.int (cI c),.int n]∧origin c≤n∧n < yearStart c (lastYear c+1)∧∀ y m d:Nat,dateOf c n=some (y,m,d)→firstYear c≤y→y≤lastYear c→1≤m→m≤months c→1≤d→d≤31→∀ H' l,ao H H'→H' l=some (.lst [.int y,.int m,.int d])→Q (.ref l) H'
section
variable {P:Program}{w:World}{K:PySem.W.Frag}{mg:Str→Option Value}{base:Heap}
theorem E1 {ns:List Nat}(h1:1≤ns.length) (h3:ns.length≤3):(∃ y,ns=[y])∨(∃ y m,ns=[y,m])∨∃ y m d,ns=[y,m,d]:=by
 match ns,h1,h3 with
 | [y],_,_=>exact .inl ⟨y,rfl⟩
 | [y,m],_,_=>exact .inr (.inl ⟨y,m,rfl⟩)
 | [y,m,d],_,_=>exact .inr (.inr ⟨y,m,d,rfl⟩)
 | [],h,_=>simp at h
 |_ :: _ :: _ :: _ :: _,_,h=>simp at h
theorem xY (T:Txt K mg) (Gw:OkD P w K mg base 2 "first_day_of_year" ["calendar","year"] a5):OkD P w K mg base 3 "reaches" ["calendar","day"] pE:=by
 obtain⟨f,fd,hm,F,b⟩:=T.AQ
 refine⟨f,fd,hm,F.kp,b,F.ok xD (fun vs H Q E h=>?_) (fun cdv A outer s H vs Q E hr h=>?_)⟩
 ·obtain⟨n,rfl,_⟩:=h
  rfl
 ·obtain⟨⟨c,n⟩,rfl,_,k⟩:=h
  refine⟨_,(ag (aq (eU cG kK (fb rfl T.ip (pv 0) (fun _ _=>rfl) (fun _ _ _ _ h ⟨v,e,q⟩=>⟨v,e,h _ _ q⟩)) (pv 1) (aB Gw hr rfl (aa (pv 0) (aa (aU bh (fb rfl T.mB (pv 0) (fun _ _=>rfl) (fun _ _ _ _ h ⟨v,e,q⟩=>⟨v,e,h _ _ q⟩)) aj) ah)))))),?_⟩
  simp![A4,or_eq,zr]
  by_cases h1:origin c≤n
  ·rw[if_pos h1]
   refine⟨(c,lastYear c+1),by simp,?_,fun H1 s1=>⟨_,rfl,vq (k H1 s1) (congrArg V.bl ?_)⟩⟩
   ·show firstYear c≤lastYear c+1
    cases c<;>decide
   ·simp[h1]
  ·rw[if_neg h1]
   exact vq (k H (ao.refl H)) (by simp[h1])
theorem ya (T:Txt K mg) (Gy:OkD P w K mg base 2 "month_length" ["calendar","year","month"] cO):OkD P w K mg base 3 "is_date" ["calendar","date"] (pG K):=by
 obtain⟨f,fd,hm,F,b⟩:=T.AU
 refine⟨f,fd,hm,F.kp,b,F.ok xF (fun vs H Q E h=>?_) (fun cdv A outer s H vs Q E hr h=>?_)⟩
 ·obtain⟨c,a,ns,rfl,_⟩:=h
  rfl
 ·obtain⟨c,a,ns,rfl,hS,h1,h3,k⟩:=h
  refine⟨_,(ae (aK (dQ (pZ cG cG (fb rfl T.gu (pv 0) (fun _ _=>rfl) (fun _ _ _ _ h ⟨v,e,q⟩=>⟨v,e,h _ _ q⟩)) (aH (aE (K:=K) rfl) (pv 1) aj (fun _ _=>rfl)) (fb rfl T.mB (pv 0) (fun _ _=>rfl) (fun _ _ _ _ h ⟨v,e,q⟩=>⟨v,e,h _ _ q⟩)))) (ag (aq og)) az)
   (ae (aK (PW.pt (ie (aA tE (aS (aW (K:=K) rfl) (by rfl) T.dB PySem.boot_len (aa (pv 1) ah)) aj (aD _)) (fu (dQ (pZ cG cG aj (aH (aE (K:=K) rfl) (pv 1) aj (fun _ _=>rfl)) (fb rfl T.qJ (pv 0) (fun _ _=>rfl) (fun _ _ _ _ h ⟨v,e,q⟩=>⟨v,e,h _ _ q⟩))))))) (ag (aq og)) az)
   (ag (aq (BA (cz kK (aS (aW (K:=K) rfl) (by rfl) T.dB PySem.boot_len (aa (pv 1) ah)) aj (aD _)) (mU (eU cG cG aj (aH (aE (K:=K) rfl) (pv 1) aj (fun _ _=>rfl)) (aB Gy hr rfl (aa (pv 0) (aa (aH (aE (K:=K) rfl) (pv 1) aj (fun _ _=>rfl)) (aa (aH (aE (K:=K) rfl) (pv 1) aj (fun _ _=>rfl)) ah))))))))))),?_⟩
  simp![A4,wQ,zr,BW]
  have k0:=k H (ao.refl H)
  rcases E1 h1 h3 with ⟨y,rfl⟩ | ⟨y,m,rfl⟩ | ⟨y,m,d,rfl⟩
  ·refine ixl hS rfl ⟨y,rfl,?_⟩
   by_cases c1:(firstYear c:Int)≤y
   ·rw[if_pos c1]
    refine⟨y,rfl,?_⟩
    by_cases c2:(y:Int)≤lastYear c
    ·rw[if_pos c2]
     refine⟨_,.inl hS,?_⟩
     rw[if_neg (by simp)]
     refine⟨_,.inl hS,?_⟩
     rw[if_pos (by simp)]
     exact vq k0 (by simp[there,aP];omega)
    ·rw[if_neg c2]
     exact vq k0 (by simp[there,aP];omega)
   ·rw[if_neg c1]
    exact vq k0 (by simp[there,aP];omega)
  ·refine ixl hS rfl ⟨y,rfl,?_⟩
   by_cases c1:(firstYear c:Int)≤y
   ·rw[if_pos c1]
    refine⟨y,rfl,?_⟩
    by_cases c2:(y:Int)≤lastYear c
    ·rw[if_pos c2]
     refine⟨_,.inl hS,?_⟩
     rw[if_pos (by simp)]
     refine ixl hS rfl ⟨m,rfl,?_⟩
     by_cases c3:(1:Int)≤m
     ·rw[if_pos c3]
      refine⟨m,rfl,?_⟩
      by_cases c4:(m:Int)≤months c
      ·rw[if_pos c4]
       refine⟨_,.inl hS,?_⟩
       rw[if_pos (by simp)]
       exact vq k0 (by simp[there,aP];omega)
      ·rw[if_neg c4]
       exact vq k0 (by simp[there,aP];omega)
     ·rw[if_neg c3]
      exact vq k0 (by simp[there,aP];omega)
    ·rw[if_neg c2]
     exact vq k0 (by simp[there,aP];omega)
   ·rw[if_neg c1]
    exact vq k0 (by simp[there,aP];omega)
  ·refine ixl hS rfl ⟨y,rfl,?_⟩
   by_cases c1:(firstYear c:Int)≤y
   ·rw[if_pos c1]
    refine⟨y,rfl,?_⟩
    by_cases c2:(y:Int)≤lastYear c
    ·rw[if_pos c2]
     refine⟨_,.inl hS,?_⟩
     rw[if_pos (by simp)]
     refine ixl hS rfl ⟨m,rfl,?_⟩
     by_cases c3:(1:Int)≤m
     ·rw[if_pos c3]
      refine⟨m,rfl,?_⟩
      by_cases c4:(m:Int)≤months c
      ·rw[if_pos c4]
       refine⟨_,.inl hS,?_⟩
       rw[if_neg (by simp)]
       refine ixl hS rfl ⟨d,rfl,?_⟩
       by_cases c5:(1:Int)≤d
       ·rw[if_pos c5]
        refine ixl hS rfl (ixl hS rfl ⟨(c,y,m),rfl,⟨by show 1≤m;omega,by show m≤months c;omega⟩,fun H1 s1=>⟨_,rfl,_,rfl,vq (k H1 s1) (congrArg V.bl ?_)⟩⟩)
        rw[Bool.eq_iff_iff]
        simp[there,aP]
        omega
       ·rw[if_neg c5]
        exact vq k0 (by simp[there,aP];omega)
      ·rw[if_neg c4]
       exact vq k0 (by simp[there,aP];omega)
     ·rw[if_neg c3]
      exact vq k0 (by simp[there,aP];omega)
    ·rw[if_neg c2]
     exact vq k0 (by simp[there,aP];omega)
   ·rw[if_neg c1]
    exact vq k0 (by simp[there,aP];omega)
theorem oR (T:Txt K mg) (GL:OkD P w K mg base 3 "first_day_of_month" ["calendar","year","month"] d8) (Gw:OkD P w K mg base 2 "first_day_of_year" ["calendar","year"] a5):OkD P w K mg base 4 "first_day_of" ["calendar","date"] (dE K):=by
 obtain⟨f,fd,hm,F,b⟩:=T.qX
 refine⟨f,fd,hm,F.kp,b,F.ok iH (fun vs H Q E h=>?_) (fun cdv A outer s H vs Q E hr h=>?_)⟩
 ·obtain⟨c,a,ns,rfl,_⟩:=h
  rfl
 ·obtain⟨c,a,ns,rfl,hS,h1,h3,ht,k⟩:=h
  refine⟨_,(ae (aK (aA aT (aS (aW (K:=K) rfl) (by rfl) T.dB PySem.boot_len (aa (pv 1) ah)) aj (aD _)) (ag (aq (aB Gw hr rfl (aa (pv 0) (aa (aH (aE (K:=K) rfl) (pv 1) aj (fun _ _=>rfl)) ah))))) az)
   (ae (aI (i:=2) iH.nd rfl (Or.inl rfl) (aB GL hr rfl (aa (pv 0) (aa (aH (aE (K:=K) rfl) (pv 1) aj (fun _ _=>rfl)) (aa (aH (aE (K:=K) rfl) (pv 1) aj (fun _ _=>rfl)) ah)))))
   (ag (aq (cF (aA aT (aS (aW (K:=K) rfl) (by rfl) T.dB PySem.boot_len (aa (pv 1) ah)) aj (aD _)) (pv 2) (aU du (aU bh (pv 2) (aH (aE (K:=K) rfl) (pv 1) aj (fun _ _=>rfl))) aj)))))),?_⟩
  simp![A4,wQ,zr,BW]
  refine⟨_,.inl hS,?_⟩
  rcases E1 h1 h3 with ⟨y,rfl⟩ | ⟨y,m,rfl⟩ | ⟨y,m,d,rfl⟩
  ·rw[if_pos (by simp)]
   simp[there,aP]at ht
   exact ixl hS rfl ⟨(c,y),rfl,ht.1,fun H1 s1=>vq (k H1 s1) (by simp[firstDay,aP,dayOf,dU])⟩
  ·rw[if_neg (by simp)]
   simp[there,aP]at ht
   refine ixl hS rfl (ixl hS rfl ⟨(c,y,m),rfl,⟨ht.1,ht.2.2.1,ht.2.2.2⟩,fun H1 s1=>⟨_,.inl (s1.seq hS),?_⟩⟩)
   rw[if_pos (by simp)]
   exact vq (k H1 s1) (by simp[firstDay,aP,dayOf])
  ·rw[if_neg (by simp)]
   simp[there,aP]at ht
   refine ixl hS rfl (ixl hS rfl ⟨(c,y,m),rfl,⟨ht.1,ht.2.2.1,ht.2.2.2.1⟩,fun H1 s1=>⟨_,.inl (s1.seq hS),?_⟩⟩)
   rw[if_neg (by simp)]
   refine ixl (s1.seq hS) rfl ⟨_,rfl,_,rfl,vq (k H1 s1) ?_⟩
   have:=ht.2.2.2.2.1
   simp[firstDay,aP,dayOf]
   omega
theorem qi (T:Txt K mg) (GA:OkD P w K mg base 4 "first_day_of" ["calendar","date"] (dE K)) (Gy:OkD P w K mg base 2 "month_length" ["calendar","year","month"] cO) (Gw:OkD P w K mg base 2 "first_day_of_year" ["calendar","year"] a5):OkD P w K mg base 5 "last_day_of" ["calendar","date"] (fJ K):=by
 obtain⟨f,fd,hm,F,b⟩:=T.sh
 refine⟨f,fd,hm,F.kp,b,F.ok pM (fun vs H Q E h=>?_) (fun cdv A outer s H vs Q E hr h=>?_)⟩
 ·obtain⟨c,a,ns,rfl,_⟩:=h
  rfl
 ·obtain⟨c,a,ns,rfl,hS,h1,h3,ht,k⟩:=h
  refine⟨_,(ae (aK (aA aT (aS (aW (K:=K) rfl) (by rfl) T.dB PySem.boot_len (aa (pv 1) ah)) aj (aD _)) (ag (aq (aU du (aB Gw hr rfl (aa (pv 0) (aa (aU bh (aH (aE (K:=K) rfl) (pv 1) aj (fun _ _=>rfl)) aj) ah))) aj))) az)
   (ae (aK (aA aT (aS (aW (K:=K) rfl) (by rfl) T.dB PySem.boot_len (aa (pv 1) ah)) aj (aD _)) (ag (aq (aU du (aU bh (aB GA hr rfl (aa (pv 0) (aa (pv 1) ah))) (aB Gy hr rfl (aa (pv 0) (aa (aH (aE (K:=K) rfl) (pv 1) aj (fun _ _=>rfl)) (aa (aH (aE (K:=K) rfl) (pv 1) aj (fun _ _=>rfl)) ah))))) aj))) az)
   (ag (aq (aB GA hr rfl (aa (pv 0) (aa (pv 1) ah))))))),?_⟩
  simp![A4,wQ,zr,BW]
  refine⟨_,.inl hS,?_⟩
  have ht':=ht
  rcases E1 h1 h3 with ⟨y,rfl⟩ | ⟨y,m,rfl⟩ | ⟨y,m,d,rfl⟩
  ·rw[if_pos (by simp)]
   simp[there,aP]at ht
   refine ixl hS rfl ⟨_,rfl,(c,y+1),by simp,by show firstYear c≤y+1;omega,fun H1 s1=>⟨_,rfl,vq (k H1 s1) ?_⟩⟩
   have:=mq c ht.1
   simp[aP]
   omega
  ·rw[if_neg (by simp)]
   refine⟨_,.inl hS,?_⟩
   rw[if_pos (by simp)]
   simp[there,aP]at ht
   refine⟨c,a,_,rfl,hS,h1,h3,ht',fun H1 s1=>ixl (s1.seq hS) rfl (ixl (s1.seq hS) rfl ⟨(c,y,m),rfl,⟨ht.2.2.1,ht.2.2.2⟩,fun H2 s2=>⟨_,rfl,_,rfl,vq (k H2 (s1.trans s2)) ?_⟩⟩)⟩
   have:=kM c y m
   simp[aP,firstDay,dayOf]
   omega
  ·rw[if_neg (by simp)]
   refine⟨_,.inl hS,?_⟩
   rw[if_neg (by simp)]
   exact⟨c,a,_,rfl,hS,h1,h3,ht',fun H1 s1=>vq (k H1 s1) (by simp[aP,firstDay,lastDay])⟩
theorem vk (c:Cal) {n y:Nat}(h1:firstYear c≤y) (h2:n < yearStart c (lastYear c+1)) (h3:yearStart c y≤n):y≤lastYear c:=by
 apply Classical.byContradiction
 intro h
 have:=iU c (y:=lastYear c+1) (z:=y) (by cases c<;>decide) (by omega)
 omega
theorem xU (T:Txt K mg) (Gw:OkD P w K mg base 2 "first_day_of_year" ["calendar","year"] a5):OkD P w K mg base 3 "year_of" ["calendar","day"] pB:=by
 obtain⟨f,fd,hm,F,b⟩:=T.AL
 refine⟨f,fd,hm,F.kp,b,F.ok kY (fun vs H Q E h=>?_) (fun cdv A outer s H vs Q E hr h=>?_)⟩
 ·obtain⟨c,n,rfl,_⟩:=h
  rfl
 ·obtain⟨c,n,rfl,h1,h2,k⟩:=h
  refine⟨_,(ae (aI (i:=2) kY.nd rfl (Or.inl rfl) (aU bh (fb rfl T.gu (pv 0) (fun _ _=>rfl) (fun _ _ _ _ h ⟨v,e,q⟩=>⟨v,e,h _ _ q⟩)) (aU lZ (aU du (pv 1) (fb rfl T.ip (pv 0) (fun _ _=>rfl) (fun _ _ _ _ h ⟨v,e,q⟩=>⟨v,e,h _ _ q⟩))) aj)))
   (ae (lW PassesOwn.never (aA cG (aB Gw hr rfl (aa (pv 0) (aa (aU bh (pv 2) aj) ah))) (pv 1) (aD _)) (ag (aI (i:=2) kY.nd rfl (Or.inl rfl) (aU bh (pv 2) aj))))
   (ag (aq (pv 2))))),?_⟩
  simp![A4,wQ,or_eq,D0]
  have g:=iA c ((n - origin c) / 366)
  have g2:yearStart c (firstYear c+(n - origin c) / 366)≤n:=by omega
  refine⟨fun m σ H'=>∃ y:Nat,m=lastYear c - y∧σ=[some (V.int (cI c)),some (V.int n),some (V.int y)]∧ao H H'∧firstYear c≤y∧y≤lastYear c∧yearStart c y≤n,
   ⟨_,firstYear c+(n - origin c) / 366,rfl,by simp;omega,ao.refl H,by omega,vk c (by omega) h2 g2,g2⟩,?_⟩
  rintro m σ H' ⟨y,rfl,rfl,s1,y1,y2,y3⟩
  simp![tC]
  refine⟨(c,y+1),by simp,by show firstYear c≤y+1;omega,fun H2 s2=>⟨_,rfl,?_⟩⟩
  by_cases hc:yearStart c (y+1)≤n
  ·rw[if_pos (by show ((yearStart c (y+1):Nat):Int)≤(n:Int);omega)]
   have cap:=vk c (y:=y+1) (by omega) h2 hc
   exact⟨fun σ' H''=>σ'=[some (V.int (cI c)),some (V.int n),some (V.int ((y:Int)+1))]∧ao H H'',fun σ' H'' ⟨e,s⟩=>⟨lastYear c - (y+1),by omega,y+1,rfl,by rw[e];simp,s,by omega,cap,hc⟩,rfl,s1.trans s2⟩
  ·rw[if_neg (by show ¬ ((yearStart c (y+1):Nat):Int)≤(n:Int);omega)]
   exact k y y1 y2 y3 (by omega) H2 (s1.trans s2)
theorem yc (T:Txt K mg) (HY:OkD P w K mg base 3 "year_of" ["calendar","day"] pB) (Gy:OkD P w K mg base 2 "month_length" ["calendar","year","month"] cO) (Gw:OkD P w K mg base 2 "first_day_of_year" ["calendar","year"] a5):OkD P w K mg base 4 "date_of" ["calendar","day"] pH:=by
 obtain⟨f,fd,hm,F,b⟩:=T.AX
 refine⟨f,fd,hm,F.kp,b,F.ok eB (fun vs H Q E h=>?_) (fun cdv A outer s H vs Q E hr h=>?_)⟩
 ·obtain⟨c,n,rfl,_⟩:=h
  rfl
 ·obtain⟨c,n,rfl,h1,h2,k⟩:=h
  refine⟨_,(ae (aI (i:=2) eB.nd rfl (Or.inl rfl) (aB HY hr rfl (aa (pv 0) (aa (pv 1) ah))))
   (ae (aI (i:=3) eB.nd rfl (Or.inl rfl) (aU du (pv 1) (aB Gw hr rfl (aa (pv 0) (aa (pv 2) ah)))))
   (ae (aI (i:=4) eB.nd rfl (Or.inl rfl) aj)
   (ae (lW PassesOwn.never (aA tE (pv 3) (aB Gy hr rfl (aa (pv 0) (aa (pv 2) (aa (pv 4) ah)))) (aD _)) (ae (aI (i:=3) eB.nd rfl (Or.inl rfl) (aU du (pv 3) (aB Gy hr rfl (aa (pv 0) (aa (pv 2) (aa (pv 4) ah))))))
   (ag (aI (i:=4) eB.nd rfl (Or.inl rfl) (aU bh (pv 4) aj)))))
   (ag (aq (aX (aa (pv 2) (aa (pv 4) (aa (aU bh (pv 3) aj) ah)))))))))),?_⟩
  simp![C5]
  refine⟨c,n,rfl,h1,h2,fun y y1 y2 y3 y4 H1 s1=>⟨(c,y),rfl,y1,fun H2 s2=>⟨_,rfl,?_⟩⟩⟩
  refine⟨fun j σ H'=>∃ m:Nat,j=months c+1 - m∧σ=[some (V.int (cI c)),some (V.int n),some (V.int y),some (V.int ((n:Int) - monthStart c y m)),some (V.int m)]∧ao H H'∧1≤m∧monthStart c y m≤n,
   ⟨_,1,rfl,by simp[dU],s1.trans s2,Nat.le_refl _,by rw[dU];exact y3⟩,?_⟩
  rintro j σ H' ⟨m,rfl,rfl,s3,m1,m2⟩
  have m3:=An c y1 y4 m2 m1
  simp![C5]
  refine⟨(c,y,m),rfl,⟨m1,m3⟩,fun H4 s4=>⟨_,rfl,?_⟩⟩
  have e:=cP c y m1
  by_cases hc:monthStart c y (m+1)≤n
  ·rw[if_pos (by show ((monthDays c y m:Nat):Int)≤(n:Int) - monthStart c y m;omega)]
   refine⟨fun σ' H''=>σ'=[some (V.int (cI c)),some (V.int n),some (V.int y),some (V.int ((n:Int) - monthStart c y m - monthDays c y m)),some (V.int ((m:Int)+1))]∧ao H H'',fun σ' H'' ⟨e1,s⟩=>⟨months c+1 - (m+1),by omega,m+1,rfl,by rw[e1];simp;omega,s,by omega,hc⟩,?_⟩
   exact⟨(c,y,m),rfl,⟨m1,m3⟩,fun H5 s5=>⟨_,rfl,rfl,(s3.trans s4).trans s5⟩⟩
  ·rw[if_neg (by show ¬ ((monthDays c y m:Nat):Int)≤(n:Int) - monthStart c y m;omega)]
   have hr:n - monthStart c y m < monthDays c y m:=by omega
   have hd:=AK c y1 y2 m1 m3 hr (n:=n) (by omega)
   have:=uI c y m
   refine⟨by show 3≤sizeLine;decide,fun l hl=>k y m (n - monthStart c y m+1) hd y1 y2 m1 m3 (by omega) (by omega) _ l ((s3.trans s4).trans (ao.new hl)) ?_⟩
   rw[ab]
   congr 3
   simp
   omega
end
end Dw
namespace Dw
open PySem PySem.Spec PyProof.Rows L2
section
variable {X:Cx}
theorem BV:MtR X "str.zfill" (fun x xs H Q=>∃ a i,x = .str a∧xs=[.int i]∧0≤i∧i≤64∧Q (.str (Txt.zfill a i)) H):=by
 intro pins s σ H x xs v us Q I rx rs h
 obtain⟨a,i,rfl,rfl,h0,h1,h⟩:=h
 obtain⟨t,rfl⟩:=rx
 cases rs with
 |cons r1 rs=>
  cases rs
  obtain⟨u,rfl⟩:=r1
  have hp:PadOk i=true:=by
   have e1:decide (i < -(2 ^ 63:Int))=false:=decide_eq_false (by omega)
   have e2:decide (i≥2 ^ 63)=false:=decide_eq_false (by omega)
   have e3:Builtin.Str.tooLong i.toNat=false:=Dz (by omega)
   unfold PadOk fitsSsize
   rw[e1,e2,e3]
   rfl
  exact PySem.SC.zfill hp fun t' k=>⟨.str _,H,I.tok k,⟨t',rfl⟩,h⟩
def tZf (to te:TE):TE:=tM1 (fun x xs H Q=>∃ a i,x = .str a∧xs=[.int i]∧0≤i∧i≤64∧Q (.str (Txt.zfill a i)) H) to te
theorem Bz {o e:Expr}{to te:TE}{apos pos:Pos}(ho:PE X o to) (he:PE X e te) (hs:starEach [e] X.env=[(false,eval e X.env)]:=by rfl) (hbase:attributeBase o "zfill" X.env (eval o X.env)=eval o X.env:=by rfl) (hline:(apos.endLine == pos.line)=true:=by rfl) :
  PE X (.Call (.Attribute o "zfill" apos) [e] [] pos) (tZf to te):=Fs F.slot_str_zfill F.type_str_zfill BV ho he hs hbase hline
theorem xT (hu:X.A.units+1 < cLine):OpR X (compareOp .In) (fun x y H Q=>∃ p xs,x = .non∧y = .ref p∧SqL X.K H p xs∧(∀ v∈xs,v = .non∨∃ a ys,v = .ref a∧SqT X.K H a ys)∧Q (.bl (xs.any fun v=>decide (v = .non))) H):=by
 intro pins s σ H x y v u Q I rx ry h
 obtain⟨p,xs,rfl,rfl,hq,hv,q⟩:=h
 cases ry
 cases rx
 obtain⟨its,r,pl,hz⟩:=I.list hq
 have Lh:∀ {xs:List V}{us:List Value},Vals xs us→us.any (fun u=>match u with | .none=>true | _=>false)=xs.any fun v=>decide (v = .non):=by
  intro xs us r
  induction r with
  |nil=>rfl
  |@cons y u xs us r1 r2 ih=>
   rw[List.any_cons,List.any_cons,ih]
   congr 1
   cases y with
   |non=>cases r1;rfl
   |bl _=>cases r1;rfl
   |int _=>obtain⟨t,rfl⟩:=r1;rfl
   |str _=>obtain⟨t,rfl⟩:=r1;rfl
   |byt _=>obtain⟨t,rfl⟩:=r1;rfl
   |flt _=>obtain⟨t,rfl⟩:=r1;rfl
   |ref _=>cases r1;rfl
   |ty _=>cases r1;rfl
 have KU:∀ {xs:List V}{us:List Value},Vals xs us→(∀ v∈xs,v = .non∨∃ a ys,v = .ref a∧SqT X.K H a ys)→∀ w∈us,SeqAt.EqAt X.A.in1 s w .none (match w with | .none=>true | _=>false):=by
  intro xs us r
  induction r with
  |nil=>intro _ w hw;cases hw
  |@cons y u xs us r1 r2 ih=>
   intro h w hw
   rcases List.mem_cons.mp hw with rfl | hw
   ·rcases h y (List.mem_cons_self ..) with e | ⟨a,ys,e,hs⟩
    ·subst e
     cases r1
     exact SeqAt.EqAt.same _
    ·subst e
     cases r1
     obtain⟨its,_,pl,_⟩:=I.tuple hs
     exact SeqAt.EqAt.tuple_none pl hu
   ·exact ih (fun v hv=>h v (List.mem_cons_of_mem _ hv)) w hw
 refine SeqAt.in_listAt (fun u=>match u with | .none=>true | _=>false) pl.isList (fun w hw=>KU r hv w (by simpa using hw)) ⟨.bl _,H,I,rfl,?_⟩
 rw[show its.toArray.any (fun u=>match u with | .none=>true | _=>false)=its.any (fun u=>match u with | .none=>true | _=>false) by simp,Lh r]
 exact q
theorem oE:∀ (ns ms:List Int),PyData.eqvAll (ns.map PyData.int) (ms.map PyData.int)=decide (ns=ms)
 | [],[]=>by simp[PyData.eqvAll]
 | [],_ :: _=>by simp[PyData.eqvAll]
 |_ :: _,[]=>by simp[PyData.eqvAll]
 |n :: ns,m :: ms=>by
  rw[List.map_cons,List.map_cons]
  unfold PyData.eqvAll
  rw[oE ns ms]
  unfold PyData.eqv
  by_cases h1:n=m<;>by_cases h2:ns=ms<;>simp[h1,h2]
theorem shaped_ints (l:List Int):SeqAt.shaped (.list (l.map PyData.int))=true:=by
 have a:∀ l:List Int,PyData.canLayAll0 (l.map PyData.int)=true:=by
  intro l
  induction l with
  |nil=>simp[PyData.canLayAll0]
  |cons n l ih=>rw[List.map_cons];unfold PyData.canLayAll0;rw[ih];simp[PyData.canLay0]
 have b:∀ l:List Int,PyData.depthAll (l.map PyData.int)=0:=by
  intro l
  induction l with
  |nil=>simp[PyData.depthAll]
  |cons n l ih=>rw[List.map_cons];unfold PyData.depthAll;rw[ih];simp[PyData.depth]
 unfold SeqAt.shaped PyData.canLay0 PyData.depth
 rw[a,b]
 decide
theorem EA (hu:X.A.units+64 < cLine):OpR X (compareOp .Eq) (fun x y H Q=>∃ a b,∃ ns ms:List Int,x = .ref a∧y = .ref b∧SqL X.K H a (ns.map V.int)∧SqL X.K H b (ms.map V.int)∧Q (.bl (decide (ns=ms))) H):=by
 intro pins s σ H x y v u Q I rx ry h
 obtain⟨a,b,ns,ms,rfl,rfl,ha,hb,q⟩:=h
 have KN:∀ l:List Int,rp X.K H (l.map V.int) (l.map PyData.int):=by
  intro l
  induction l with
  |nil=>exact .nil
  |cons n l ih=>exact .cons (.int n) ih
 exact EB hu pins s σ H _ _ v u Q I rx ry ⟨_,_,.lst ha (KN ns),.lst hb (KN ms),shaped_ints ns,shaped_ints ms,by unfold PyData.eqv;rw[oE];exact q⟩
theorem eI:g5 X (.type "dict") (fun xs H Q=>∃ a kvs,xs=[.ref a]∧H a=some (.dK kvs)∧∀ p,H p=none→Q (.ref p) (upd H p (.dK kvs))):=by
 intro pins s σ H xs us Q I r h
 obtain⟨a,kvs,rfl,ha,q⟩:=h
 obtain⟨u,rfl,ru⟩:=vals1 r
 cases ru
 obtain⟨hz,hS,vs,rv,m⟩:kvs.length≤sizeLine∧(a == sysModules)=false∧∃ vs,KV kvs vs∧s.heap.DictOf (aY X.prog X.w) a vs:=I.hok a _ ha
 have hlen:kvs.length=vs.length:=Paired.length rv
 refine kt_call_dict (knd:=aY X.prog X.w) hS m (by omega) fun h' hd' hs'=>?_
 have hm:(s.heap.objs.size == sysModules)=false:=beq_eq_false_iff_ne.mpr (Nat.ne_of_gt I.big)
 refine⟨.ref s.heap.objs.size,upd H s.heap.objs.size (.dK kvs),I.laid (t':=s.toks) (fun b o e=>?_) (Nat.le_refl _) (show bS X.prog X.w _ _ _ (.dK kvs) from⟨hz,hm,vs,rv,hd'⟩),rfl,q _ (I.hok.fresh (Nat.le_refl _))⟩
 exact(hs'.2 b (Nat.ne_of_lt (Heap.lt_size e))).trans (Heap.get?_push_of_some _ e)
end
end Dw
namespace Dw
open PySem PySem.Spec PyProof.Rows L2
open Vbnlaa CalM TextM
def ro (K:PySem.W.Frag) (H:Hp) (as:List Addr) (ps:List (List Nat)):Prop:=Paired (fun a (p:List Nat)=>SqL K H a (p.map nV)) as ps
def i5 (K:PySem.W.Frag):Sp:=fun vs H Q _=>∃ (a:Addr) (t:List Nat),vs=[.ref a]∧SqL K H a (t.map nV)∧t.length≤60∧∀ H' l as,ao H H'→H' l=some (.lst (as.map V.ref))→ro K H' as (parts t)→Q (.ref l) H'
def ff (K:PySem.W.Frag):Sp:=fun vs H Q _=>∃ (a:Addr) (t:List Nat),vs=[.ref a]∧SqL K H a (t.map nV)∧t.length≤60∧∀ H' l as,ao H H'→H' l=some (.lst (as.map V.ref))→ro K H' as (fieldsAt 45 t)→Q (.ref l) H'
def g8 (K:PySem.W.Frag):Sp:=fun vs H Q _=>∃ (a:Addr) (t:List Nat),vs=[.ref a]∧SqL K H a (t.map nV)∧t.length≤60∧∀ H',ao H H'→Q (.bl (t.all digit)) H'
def gB (K:PySem.W.Frag):Sp:=fun vs H Q _=>∃ (a:Addr) (t:List Nat),vs=[.ref a]∧SqL K H a (t.map nV)∧t.all digit=true∧∀ H',ao H H'→Q (.int (valueOf t)) H'
def fI:Sp:=fun vs H Q _=>∃ c:Cal,vs=[.int (cI c)]∧∀ H' l,ao H H'→H' l=some (.lst ((mark c).map nV))→Q (.ref l) H'
def ja (K:PySem.W.Frag):Sp:=fun vs H Q _=>∃ (a:Addr) (t:List Nat),vs=[.ref a]∧SqL K H a (t.map nV)∧∀ H',ao H H'→Q (.int (cI (calOf t).1)) H'
def iB (K:PySem.W.Frag):Sp:=fun vs H Q _=>∃ (c:Cal) (a:Addr) (t:List Nat),vs=[.int (cI c),.ref a]∧SqL K H a (t.map nV)∧t.length≤60∧∀ H',ao H H'→Q (.bl (yearForm c t)) H'
def iD (K:PySem.W.Frag):Sp:=fun vs H Q _=>∃ (c:Cal) (l:Addr) (as:List Addr) (fs:List (List Nat)),vs=[.int (cI c),.ref l]∧SqL K H l (as.map V.ref)∧ro K H as fs∧fs≠[]∧(∀ f∈fs,f.length≤60)∧∀ H',ao H H'→Q (.bl (gv c fs)) H'
def Parsed (H0 H:Hp) (v:V):Option (Cal×List Nat)→Prop
 |none=>v = .non
 |some x=>∃ p l,v = .ref p∧H0 p=Option.none∧H0 l=Option.none∧H p=some (.tup [.int (cI x.1),.ref l])∧H l=some (.lst (x.2.map nV))
def kj (K:PySem.W.Frag):Sp:=fun vs H Q _=>∃ (a:Addr) (t:List Nat),vs=[.ref a]∧SqL K H a (t.map nV)∧t.length≤60∧∀ H' v,ao H H'→Parsed H H' v (parse t)→Q v H'
def ux:Except Int (Nat×Nat)→List Int
 | .error r=>[r]
 | .ok x=>[0,x.1,x.2]
def fq (K:PySem.W.Frag):Sp:=fun vs H Q _=>∃ (a:Addr) (t:List Nat),vs=[.ref a]∧SqL K H a (t.map nV)∧t.length≤60∧∀ H' l,ao H H'→H l=none→H' l=some (.lst ((ux (readDate t)).map V.int))→Q (.ref l) H'
theorem CL {t:List Nat}{i:Nat}{b:Nat}(h:t[i]? = some b):atI (t.map nV) (i:Int)=some (.int b):=ax (by rw[List.getElem?_map,h];rfl)
theorem yJ (xs:List V) (k:Nat):iT xs none (some (k:Int))=xs.take k:=by
 unfold iT
 rw[HT.vJ,HT.o8,List.drop_zero,Nat.sub_zero]
 by_cases h:k≤xs.length
 ·rw[Nat.min_eq_left h]
 ·rw[Nat.min_eq_right (by omega),List.take_length,List.take_of_length_le (by omega)]
theorem rf (xs:List V) (k:Nat):iT xs (some (k:Int)) none=xs.drop k:=by
 unfold iT
 rw[HT.vJ,HT.o8]
 by_cases h:k≤xs.length
 ·rw[Nat.min_eq_left h]
  apply List.take_of_length_le
  rw[List.length_drop]
  exact Nat.le_refl _
 ·rw[Nat.min_eq_right (by omega),Nat.sub_self,List.take_zero,List.drop_of_length_le (by omega)]
theorem m6 (t:List Nat):t.map nV=(t.map fun n:Nat=>(n:Int)).map V.int:=by
 rw[List.map_map]
 rfl
theorem mf {a b:List Nat}:(a.map fun n:Nat=>(n:Int))=(b.map fun n:Nat=>(n:Int))↔a=b:=by
 constructor
 ·intro h
  have:=congrArg (List.map Int.toNat) h
  rw[List.map_map,List.map_map]at this
  have e:(Int.toNat ∘ fun n:Nat=>(n:Int))=id:=by funext n;rfl
  rw[e,List.map_id,List.map_id]at this
  exact this
 ·intro h;rw[h]
theorem mi {K:PySem.W.Frag}{H:Hp}:∀ {as:List Addr}{ps:List (List Nat)}{i:Nat}{p:List Nat},ro K H as ps→ps[i]? = some p→∃ a,as[i]? = some a∧SqL K H a (p.map nV)
 |_,_,_,_,.nil,e=>by simp at e
 |_,_,0,_,.cons h _,e=>by simp at e;subst e;exact⟨_,rfl,h⟩
 |_,_,i+1,_,.cons _ r,e=>by
  obtain⟨a,h1,h2⟩:=mi (i:=i) r (by simpa using e)
  exact⟨a,by simpa using h1,h2⟩
theorem jZ {K:PySem.W.Frag}{H:Hp}{as:List Addr}{ps:List (List Nat)}(h:ro K H as ps):as.length=ps.length:=Paired.length h
theorem gq (t:List Nat):(t.take 2=[74,58]∧calOf t=(.jul,t.drop 2))∨(t.take 2=[82,58]∧calOf t=(.rep,t.drop 2))∨(t.take 2≠[74,58]∧t.take 2≠[82,58]∧calOf t=(.greg,t)):=by
 unfold calOf
 split
 ·exact .inl ⟨rfl,rfl⟩
 ·exact .inr (.inl ⟨rfl,rfl⟩)
 ·rename_i h1 h2
  refine .inr (.inr ⟨fun e=>?_,fun e=>?_,rfl⟩)
  ·match t,e with
   | [a,b],e=>
    simp at e
    obtain⟨rfl,rfl⟩:=e
    exact h1 [] rfl
   |a :: b :: c :: r,e=>
    simp at e
    obtain⟨rfl,rfl⟩:=e
    exact h1 _ rfl
   | [a],e=>simp at e
   | [],e=>simp at e
  ·match t,e with
   | [a,b],e=>
    simp at e
    obtain⟨rfl,rfl⟩:=e
    exact h2 [] rfl
   |a :: b :: c :: r,e=>
    simp at e
    obtain⟨rfl,rfl⟩:=e
    exact h2 _ rfl
   | [a],e=>simp at e
   | [],e=>simp at e
theorem rm (t:List Nat):(calOf t).2=t.drop (mark (calOf t).1).length:=by
 rcases gq t with ⟨_,e⟩ | ⟨_,e⟩ | ⟨_,_,e⟩<;>rw[e]<;>rfl
theorem mO (c:Nat):∀ (qs:List (List Nat)) (q:List Nat),iy c (qs ++ [q])=qs ++ [q ++ [c]]
 | [],_=>rfl
 |f :: qs,q=>by
  have ih:=mO c qs q
  cases qs with
  |nil=>rfl
  |cons g r=>
   show f :: iy c (g :: r ++ [q])=f :: (g :: r ++ [q ++ [c]])
   rw[ih]
structure Pieces (H0 H:Hp) (l:Addr) (as:List Addr) (ps:List (List Nat)):Prop where
 same:ao H0 H
 lf:H0 l=Option.none
 af:∀ a∈as,H0 a=Option.none
 lst:H l=some (.lst (as.map V.ref))
 nd:as.Nodup
 ln:l∉as
 el:Paired (fun a (p:List Nat)=>H a=some (.lst (p.map nV))) as ps
theorem jq {H H':Hp}:∀ {as:List Addr}{ps:List (List Nat)},Paired (fun a (p:List Nat)=>H a=some (.lst (p.map nV))) as ps→(∀ a∈as,H' a=H a)→Paired (fun a (p:List Nat)=>H' a=some (.lst (p.map nV))) as ps
 |_,_,.nil,_=>.nil
 |_,_,.cons h r,k=>.cons ((k _ (List.mem_cons_self ..)).trans h) (jq r fun a ha=>k a (List.mem_cons_of_mem _ ha))
theorem n9 {H:Hp}:∀ {as:List Addr}{ps:List (List Nat)},Paired (fun a (p:List Nat)=>H a=some (.lst (p.map nV))) as ps→ps≠[]→∃ bs b qs q,as=bs ++ [b]∧ps=qs ++ [q]∧Paired (fun a (p:List Nat)=>H a=some (.lst (p.map nV))) bs qs∧H b=some (.lst (q.map nV))
 |_,_,.nil,h=>absurd rfl h
 |_,_,.cons (a:=a) (b:=p) (l₁:=as) (l₂:=ps) h r,_=>by
  by_cases e:ps=[]
  ·subst e
   cases r
   exact⟨[],a,[],p,rfl,rfl,.nil,h⟩
  ·obtain⟨bs,b,qs,q,e1,e2,e3,e4⟩:=n9 r e
   exact⟨a :: bs,b,p :: qs,q,by rw[e1];rfl,by rw[e2];rfl,.cons h e3,e4⟩
theorem js {H:Hp}:∀ {as:List Addr}{ps:List (List Nat)}{a:Addr}{p:List Nat},Paired (fun a (p:List Nat)=>H a=some (.lst (p.map nV))) as ps→H a=some (.lst (p.map nV))→Paired (fun a (p:List Nat)=>H a=some (.lst (p.map nV))) (as ++ [a]) (ps ++ [p])
 |_,_,_,_,.nil,h=>.cons h .nil
 |_,_,_,_,.cons h0 r,h=>.cons h0 (js r h)
section
variable {P:Program}{w:World}{K:PySem.W.Frag}{mg:Str→Option Value}{base:Heap}
theorem qf (T:Txt K mg):OkD P w K mg base 1 "split_parts" ["text"] (i5 K):=by
 obtain⟨f,fd,hm,F,b⟩:=T.rZ
 refine⟨f,fd,hm,F.kp,b,F.ok jc (fun vs H Q E h=>?_) (fun cdv A outer s H vs Q E hr h=>?_)⟩
 ·obtain⟨a,t,rfl,_⟩:=h
  rfl
 ·obtain⟨a,t,rfl,hS,hl,k⟩:=h
  refine⟨_,(ae (bE PassesOwn.never rfl (sY rfl T.uH (aa (aU du (aS (aW (K:=K) rfl) (by rfl) T.dB PySem.boot_len (aa (pv 0) ah)) aj) ah)) (aJ (i:=1) jc.nd rfl (Or.inl rfl)) (ag (aK (PW.pt (ie (aA aT (aH (aE (K:=K) rfl) (pv 0) (pv 1) (fun _ _=>rfl)) (aQ rfl T.oy) (aD _)) (fu (aA aT (aH (aE (K:=K) rfl) (pv 0) (aU bh (pv 1) aj) (fun _ _=>rfl)) (aQ rfl T.oy) (aD _))))) (ag (aq (aX (aa (eT f7 (pv 0) jT (eM (pv 1))) (aa (eT f7 (pv 0) (eM (aU bh (pv 1) aj)) jT) ah))))) az)))
   (ag (aq (aX (aa (pv 0) ah))))),?_⟩
  simp![tC]
  refine⟨_,rfl,a,rfl,_,.inl hS,_,_,rfl,rfl,_,rfl,by rw[List.length_map];omega,by rw[List.length_map];omega,
   tQ (lo:=0) (fun i σ H'=>H'=H∧(∃ v,σ=[some (V.ref a),v])∧∀ j,j < i→¬ (t[j]? = some 46∧t[j+1]? = some 46)) ⟨rfl,⟨_,rfl⟩,fun j hj=>absurd hj (Nat.not_lt_zero _)⟩ ?_ ?_⟩
  ·rintro i σ H' hi ⟨rfl,⟨v,rfl⟩,hn⟩
   have hi':i+1 < t.length:=by rw[List.length_map]at hi;omega
   have e1:t[i]? = some t[i]:=List.getElem?_eq_getElem (by omega)
   have e2:t[i+1]? = some t[i+1]:=List.getElem?_eq_getElem hi'
   simp![tC]
   refine ixl hS (CL e1) ⟨rfl,?_⟩
   have next:∀ c:¬ (t[i]=46∧t[i+1]=46),∀ j,j < i+1→¬ (t[j]? = some 46∧t[j+1]? = some 46):=by
    intro c j hj q
    by_cases ej:j=i
    ·subst ej
     rw[e1,e2]at q
     exact c ⟨Option.some.inj q.1,Option.some.inj q.2⟩
    ·exact hn j (by omega) q
   by_cases c1:t[i]=46
   ·rw[if_pos (by rw[c1];rfl)]
    refine ixl hS (by rw[show ((i:Int)+1)=((i+1:Nat):Int) from rfl];exact CL e2) ⟨rfl,?_⟩
    by_cases c2:t[i+1]=46
    ·rw[if_pos (by rw[c2];rfl)]
     refine⟨a,_,rfl,hS,fun p hp=>⟨a,_,rfl,(ao.new hp).seq hS,fun q hq=>⟨by decide,fun l hl'=>?_⟩⟩⟩
     have s1:ao H' (upd H' p (.lst (iT (t.map nV) none (some (i:Int))))):=ao.new hp
     have s2:=ao.new (o:=HO.lst (iT (t.map nV) (some ((i:Int)+2)) none)) hq
     have s3:=ao.new (o:=HO.lst [V.ref p,V.ref q]) hl'
     have pr:parts t=[t.take i,t.drop (i+2)]:=by
      unfold parts
      rw[tV hi' (by rw[e1,c1]) (by rw[e2,c2]) hn]
     refine k _ l [p,q] ((s1.trans s2).trans s3) ab ?_
     rw[pr]
     refine .cons (SqL.of (s3 _ _ (s2 _ _ ?_))) (.cons (SqL.of (s3 _ _ ?_)) .nil)
     ·rw[ab,yJ,List.map_take]
     ·rw[ab,show ((i:Int)+2)=((i+2:Nat):Int) from rfl,rf,List.map_drop]
    ·rw[if_neg (by intro z;injection z with z;omega)]
     exact⟨rfl,fun j hj x y=>next (fun z=>c2 z.2) j hj ⟨x,y⟩⟩
   ·rw[if_neg (by intro z;injection z with z;omega)]
    exact⟨rfl,fun j hj x y=>next (fun z=>c1 z.1) j hj ⟨x,y⟩⟩
  ·rintro σ H' ⟨rfl,⟨v,rfl⟩,hn⟩
   simp![tC]
   refine⟨by decide,fun l hl'=>k _ l [a] (ao.new hl') ab ?_⟩
   have pr:parts t=[t]:=by
    unfold parts
    rw[tW fun i hi=>hn i (by rw[List.length_map];omega)]
   rw[pr]
   exact .cons ((ao.new hl').seq hS) .nil
theorem uD (T:Txt K mg):OkD P w K mg base 1 "is_digits" ["piece"] (g8 K):=by
 obtain⟨f,fd,hm,F,b⟩:=T.xb
 refine⟨f,fd,hm,F.kp,b,F.ok hZ (fun vs H Q E h=>?_) (fun cdv A outer s H vs Q E hr h=>?_)⟩
 ·obtain⟨a,t,rfl,_⟩:=h
  rfl
 ·obtain⟨a,t,rfl,hS,hl,k⟩:=h
  refine⟨_,(ag (aq (aS (yK rfl) (by rfl) T.BU boot_all (aa (tp (own:=[("byte",1)]) rfl hZ.nd (di (pv 0)) (eY (show sr ["piece","byte"] (au jh) _ _=true from by decide +kernel)) (fun _ _ _ _ _=>(aJ (i:=1) hZ.nd rfl (Or.inl rfl))) (fun _ _ _ _ _=>ij) (fun _ _ _ _ _=>(eU cG cG (aQ rfl T.iq) (pv 1) (aQ rfl T.uT)))) ah)))),?_⟩
  simp![tC]
  refine⟨_,rfl,a,rfl,⟨_,hS⟩,fun D hD=>pf (t.map fun n=>V.bl (digit n)) hD hS (by
   have:sizeLine=16777216:=sizeLine_eq
   rw[List.length_map];omega) (by rw[List.length_map,List.length_map]) ?_ ?_⟩
  ·intro i x y H' hx hy s1
   rw[List.getElem?_map]at hx hy
   cases hb:t[i]? with
   |none=>rw[hb]at hx;cases hx
   |some b=>
    rw[hb]at hx hy
    have hx:=Option.some.inj hx
    have hy:=Option.some.inj hy
    subst hx hy
    refine⟨[some (.ref a),some (nV b)],fun R r=>r,rfl,fun R r=>?_⟩
    simp![nV]
    by_cases c:(48:Int)≤b
    ·rw[if_pos c]
     refine vq (r H' (ao.refl _)) (congrArg V.bl ?_)
     rw[Bool.eq_iff_iff]
     simp[digit]
     omega
    ·rw[if_neg c]
     refine vq (r H' (ao.refl _)) (congrArg V.bl ?_)
     simp[digit]
     omega
  ·intro H' s1 hD'
   refine⟨D,t.map digit,rfl,SqL.of (by rw[List.map_map];exact hD'),vq (k H' s1) (congrArg V.bl ?_)⟩
   rw[List.all_map]
   rfl
theorem mW (T:Txt K mg):OkD P w K mg base 1 "decimal_value" ["piece"] (gB K):=by
 obtain⟨f,fd,hm,F,b⟩:=T.o3
 refine⟨f,fd,hm,F.kp,b,F.ok dg (fun vs H Q E h=>?_) (fun cdv A outer s H vs Q E hr h=>?_)⟩
 ·obtain⟨a,t,rfl,_⟩:=h
  rfl
 ·obtain⟨a,t,rfl,hS,hd,k⟩:=h
  refine⟨_,(ae (aI (i:=1) dg.nd rfl (Or.inl rfl) aj)
   (ae (bE PassesOwn.never rfl (di (pv 0)) (aJ (i:=2) dg.nd rfl (Or.inl rfl)) (ag (aI (i:=1) dg.nd rfl (Or.inl rfl) (aU du (aU bh (aU BI (pv 1) aj) (pv 2)) (aQ rfl T.iq)))))
   (ag (aq (pv 1))))),?_⟩
  simp![tC]
  refine⟨_,rfl,a,rfl,⟨_,hS⟩,jE (K:=K) (a:=a) (xs:=t.map nV) (fun i σ H'=>H'=H∧∃ v,σ=[some (.ref a),some (.int ((t.take i).foldl (fun (v:Int) (b:Nat)=>v*10+(b:Int) - 48) 0)),v]) ⟨rfl,_,rfl⟩ (fun i σ H' _ p=>by rw[p.1];exact hS) ?_ ?_⟩
  ·rintro i x σ H' hx ⟨rfl,v,rfl⟩
   rw[List.getElem?_map]at hx
   cases hb:t[i]? with
   |none=>rw[hb]at hx;cases hx
   |some b=>
    rw[hb]at hx
    have hx:=Option.some.inj hx
    subst hx
    simp![nV]
    refine⟨.inr ⟨by decide,by decide⟩,?_⟩
    rw[take_snoc hb,List.foldl_append]
    rfl
  ·rintro σ H' ⟨rfl,v,rfl⟩
   rw[List.length_map,List.take_length]
   simp![tC]
   refine vq (k _ (ao.refl _)) ?_
   have:=sD t 0 hd
   rw[show ((0:Nat):Int)=0 from rfl]at this
   rw[this]
   rfl
theorem xZ (T:Txt K mg):OkD P w K mg base 1 "mark_of" ["calendar"] fI:=by
 obtain⟨f,fd,hm,F,b⟩:=T.AR
 refine⟨f,fd,hm,F.kp,b,F.ok xE (fun vs H Q E h=>?_) (fun cdv A outer s H vs Q E hr h=>?_)⟩
 ·obtain⟨c,rfl,_⟩:=h
  rfl
 ·obtain⟨c,rfl,k⟩:=h
  refine⟨_,(ae (aK (aA aT (pv 0) (aQ rfl T.mC) (aD _)) (ag (aq (dj mK (by rfl) T.BS boot_list (aa (zh rfl T.rW) ah)))) az)
   (ae (aK (aA aT (pv 0) (aQ rfl T.dk) (aD _)) (ag (aq (dj mK (by rfl) T.BS boot_list (aa (zh rfl T.mx) ah)))) az)
   (ag (aq (aX ah))))),?_⟩
  cases c
  ·simp![cI]
   exact fun p hp=>k _ p (ao.new hp) ab
  ·simp![cI]
   exact fun a ha=>⟨_,.inr (ha _),fun l hl=>k _ l (ao.new hl) ab⟩
  ·simp![cI]
   exact fun a ha=>⟨_,.inr (ha _),fun l hl=>k _ l (ao.new hl) ab⟩
theorem qk (T:Txt K mg) (GO:OkD P w K mg base 1 "mark_of" ["calendar"] fI):OkD P w K mg base 2 "calendar_of" ["part"] (ja K):=by
 obtain⟨f,fd,hm,F,b⟩:=T.sj
 refine⟨f,fd,hm,F.kp,b,F.ok jd (fun vs H Q E h=>?_) (fun cdv A outer s H vs Q E hr h=>?_)⟩
 ·obtain⟨a,t,rfl,_⟩:=h
  rfl
 ·obtain⟨a,t,rfl,hS,k⟩:=h
  refine⟨_,(ae (bE PassesOwn.never rfl (By (cK (aa (aQ rfl T.mC) (aa (aQ rfl T.dk) ah)))) (aJ (i:=1) jd.nd rfl (Or.inl rfl)) (ag (aK (aA (EA hr.units) (eT f7 (pv 0) jT (eM aj)) (aB GO hr rfl (aa (pv 1) ah)) (aD _)) (ag (aq (pv 1))) az)))
   (ag (aq (aQ rfl T.gh)))),?_⟩
  simp![tC]
  refine⟨by decide,fun p hp=>⟨p,rfl,⟨_,SqT.of ab⟩,DJ (K:=K) (a:=p) (xs:=[V.int 1,V.int 2]) (fun i σ H'=>ao (upd H p (.tup [V.int 1,V.int 2])) H'∧(∃ v,σ=[some (V.ref a),v])∧(1≤i→t.take 2≠[74,58])∧(2≤i→t.take 2≠[82,58])) ⟨ao.refl _,⟨_,rfl⟩,fun z=>absurd z (by decide),fun z=>absurd z (by decide)⟩ (fun i σ H' _ q=>SqT.of (q.1 _ _ ab)) ?_ ?_⟩⟩
  ·rintro i x σ H' hx ⟨s1,⟨v,rfl⟩,n1,n2⟩
   have s0:ao H H':=(ao.new hp).trans s1
   match i,hx with
   |0,hx=>
    have hx:=(Option.some.inj hx).symm
    subst hx
    simp![tC]
    refine⟨a,_,rfl,s0.seq hS,fun q hq=>⟨.jul,rfl,fun H2 l s2 hl=>⟨_,rfl,_,rfl,(t.take 2).map (fun n:Nat=>(n:Int)),SqL.of ?_,(mark .jul).map (fun n:Nat=>(n:Int)),SqL.of ?_,?_⟩⟩⟩
    ·rw[s2 _ _ ab,←m6,show (2:Int)=((2:Nat):Int) from rfl,yJ,List.map_take]
    ·rw[hl,m6]
    ·have sA:ao H' H2:=(ao.new hq).trans s2
     by_cases e:t.take 2=mark .jul
     ·rw[if_pos (mf.mpr e)]
      refine vq (k H2 (s0.trans sA)) ?_
      rcases gq t with ⟨q,z⟩ | ⟨q,z⟩ | ⟨q,q2,z⟩
      ·rw[z];rfl
      ·rw[show mark .jul=[74,58] from rfl,q]at e;exact absurd e (by decide)
      ·exact absurd e q
     ·rw[if_neg fun z=>e (mf.mp z)]
      exact⟨s1.trans sA,e⟩
   |1,hx=>
    have hx:=(Option.some.inj hx).symm
    subst hx
    simp![tC]
    refine⟨a,_,rfl,s0.seq hS,fun q hq=>⟨.rep,rfl,fun H2 l s2 hl=>⟨_,rfl,_,rfl,(t.take 2).map (fun n:Nat=>(n:Int)),SqL.of ?_,(mark .rep).map (fun n:Nat=>(n:Int)),SqL.of ?_,?_⟩⟩⟩
    ·rw[s2 _ _ ab,←m6,show (2:Int)=((2:Nat):Int) from rfl,yJ,List.map_take]
    ·rw[hl,m6]
    ·have sA:ao H' H2:=(ao.new hq).trans s2
     by_cases e:t.take 2=mark .rep
     ·rw[if_pos (mf.mpr e)]
      refine vq (k H2 (s0.trans sA)) ?_
      rcases gq t with ⟨q,z⟩ | ⟨q,z⟩ | ⟨q,q2,z⟩
      ·rw[show mark .rep=[82,58] from rfl,q]at e;exact absurd e (by decide)
      ·rw[z];rfl
      ·exact absurd e q2
     ·rw[if_neg fun z=>e (mf.mp z)]
      exact⟨s1.trans sA,n1 (by decide),e⟩
   |i+2,hx=>simp at hx
  ·rintro σ H' ⟨s1,⟨v,rfl⟩,n1,n2⟩
   simp![tC]
   refine vq (k H' ((ao.new hp).trans s1)) ?_
   rcases gq t with ⟨q,_⟩ | ⟨q,_⟩ | ⟨_,_,q⟩
   ·exact absurd q (n1 (by decide))
   ·exact absurd q (n2 (by decide))
   ·rw[q];rfl
end
theorem lh (sep:Nat):∀ (t:List Nat),∀ f∈fieldsAt sep t,f.length≤t.length
 | [],f,h=>by
  unfold fieldsAt at h
  rw[List.mem_singleton.mp h]
  exact Nat.le_refl _
 |c :: r,f,h=>by
  unfold fieldsAt at h
  have ih:=lh sep r
  split at h
  ·rcases List.mem_cons.mp h with e | e
   ·rw[e];exact Nat.zero_le _
   ·have:=ih f e
    rw[List.length_cons];omega
  ·cases hf:fieldsAt sep r with
   |nil=>
    rw[hf]at h
    rw[List.mem_singleton.mp h]
    simp
   |cons g gs=>
    rw[hf]at h ih
    rcases List.mem_cons.mp h with e | e
    ·have:=ih g (List.mem_cons_self ..)
     rw[e,List.length_cons,List.length_cons];omega
    ·have:=ih f (List.mem_cons_of_mem _ e)
     rw[List.length_cons];omega
theorem mE (sep:Nat):∀ (t:List Nat),(fieldsAt sep t).length≤t.length+1
 | []=>by simp[fieldsAt]
 |c :: r=>by
  unfold fieldsAt
  have ih:=mE sep r
  split
  ·simp;omega
  ·split
   ·simp
   ·rename_i g gs hf
    rw[hf]at ih
    simp at ih ⊢
    omega
section
variable {P:Program}{w:World}{K:PySem.W.Frag}{mg:Str→Option Value}{base:Heap}
theorem j5 (T:Txt K mg):OkD P w K mg base 1 "split_at_hyphens" ["row"] (ff K):=by
 obtain⟨f,fd,hm,F,b⟩:=T.lj
 refine⟨f,fd,hm,F.kp,b,F.ok dr (fun vs H Q E h=>?_) (fun cdv A outer s H vs Q E hr h=>?_)⟩
 ·obtain⟨a,t,rfl,_⟩:=h
  rfl
 ·obtain⟨a,t,rfl,hS,hl,k⟩:=h
  refine⟨_,(ae (aI (i:=1) dr.nd rfl (Or.inl rfl) (aX (aa (aX ah) ah)))
   (ae (bE PassesOwn.never rfl (di (pv 0)) (aJ (i:=2) dr.nd rfl (Or.inl rfl)) (ag (aK (aA aT (pv 2) (aQ rfl T.qK) (aD _)) (ag (eL (oe PySem.F.plainAttrs_list PySem.F.slot_list_append PySem.F.type_list_append jY (pv 1) (aa (aX ah) ah)))) (ag (eL (oe PySem.F.plainAttrs_list PySem.F.slot_list_append PySem.F.type_list_append jY (aH (aE (K:=K) rfl) (pv 1) (gJ eh aj) (fun _ _=>rfl)) (aa (pv 2) ah)))))))
   (ag (aq (pv 1))))),?_⟩
  simp![tC]
  intro p0 hp0
  refine⟨by decide,fun l hl0=>?_⟩
  have nlp:l≠p0:=fun e=>by rw[e,ab]at hl0;cases hl0
  have hl1:H l=Option.none:=by rw[ak nlp]at hl0;exact hl0
  have P0:Pieces H (upd (upd H p0 (.lst [])) l (.lst [V.ref p0])) l [p0] (fieldsAt 45 (t.take 0)):=by
   refine⟨(ao.new hp0).trans (ao.new hl0),hl1,?_,ab,by simp,by simp[nlp],?_⟩
   ·intro b hb
    rw[List.mem_singleton.mp hb];exact hp0
   ·refine .cons ?_ .nil
    rw[ak (Ne.symm nlp),ab]
    rfl
  refine⟨_,rfl,a,rfl,⟨_,P0.same.seq hS⟩,jE (K:=K) (a:=a) (xs:=t.map nV) (fun i σ H'=>∃ v as,σ=[some (V.ref a),some (V.ref l),v]∧as.length≤i+1∧Pieces H H' l as (fieldsAt 45 (t.take i))) ⟨_,_,rfl,by simp,P0⟩ (fun i σ H' _ ⟨_,_,_,_,q⟩=>q.same.seq hS) ?_ ?_⟩
  ·rintro i x σ H' hx ⟨v,as,rfl,hn,B⟩
   rw[List.getElem?_map]at hx
   cases hb:t[i]? with
   |none=>rw[hb]at hx;cases hx
   |some b=>
    rw[hb]at hx
    have hx:=Option.some.inj hx
    subst hx
    have hi:i < t.length:=(List.getElem?_eq_some_iff.mp hb).1
    have ef:=oC 45 b (t.take i)
    rw[←take_snoc hb]at ef
    simp![nV,tBM,o9]
    have h16:sizeLine=16777216:=sizeLine_eq
    by_cases c:b=45
    ·rw[if_pos (by rw[c];rfl)]
     rw[if_pos c]at ef
     refine⟨.inl ⟨rfl,_,SqL.of B.lst⟩,fun p hp=>?_⟩
     have npl:l≠p:=fun e=>by rw[←e,B.lst]at hp;cases hp
     have npa:∀ q∈as,q≠p:=fun q hq e=>by
      obtain⟨j,hj⟩:=List.getElem?_of_mem hq
      obtain⟨f,_,hf⟩:=ik B.el hj
      rw[e,hp]at hf
      cases hf
     have hp0:H p=Option.none:=B.same.free hp
     refine⟨_,by rw[ak npl];exact B.lst,by rw[List.length_map];omega,as ++ [p],by rw[List.length_append];simp;omega,?_⟩
     rw[ef]
     refine⟨fun x o e=>?_,B.lf,fun x hx=>?_,by rw[ab,List.map_append];rfl,?_,?_,?_⟩
     ·rw[ak (aF e B.lf),ak (aF e hp0)]
      exact B.same _ _ e
     ·rcases List.mem_append.mp hx with q | q
      ·exact B.af x q
      ·rw[List.mem_singleton.mp q];exact hp0
     ·exact zo B.nd fun q=>npa p q rfl
     ·intro q
      rcases List.mem_append.mp q with q | q
      ·exact B.ln q
      ·exact npl (List.mem_singleton.mp q)
     ·refine js (jq B.el fun q hq=>?_) ?_
      ·rw[ak (fun e=>B.ln (by rw[←e];exact hq)),ak (npa q hq)]
      ·rw[ak (Ne.symm npl),ab]
       rfl
    ·rw[if_neg (by omega)]
     rw[if_neg c]at ef
     obtain⟨bs,z,qs,q,e1,e2,e3,e4⟩:=n9 B.el (gT 45 _)
     subst e1
     rw[e2,mO]at ef
     have nlz:l≠z:=fun e=>B.ln (by rw[e];simp)
     have hzf:H z=Option.none:=B.af z (by simp)
     have hql:q.length≤i:=by
      have:=lh 45 (t.take i) q (by rw[e2];simp)
      rw[List.length_take]at this
      omega
     refine ixl (v:=V.ref z) (SqL.of B.lst) (by rw[List.map_append];exact g0 _ _) ⟨.inl ⟨rfl,_,SqL.of e4⟩,z,rfl,_,e4,by rw[List.length_map];omega,bs ++ [z],by omega,?_⟩
     rw[ef]
     refine⟨fun x o e=>?_,B.lf,B.af,by rw[ak nlz];exact B.lst,B.nd,B.ln,?_⟩
     ·rw[ak (aF e hzf)]
      exact B.same _ _ e
     ·refine js (jq e3 fun x hx=>ak fun e=>?_) ?_
      ·have:=List.nodup_append.mp B.nd
       exact this.2.2 x hx z (by simp) e
      ·rw[ab,List.map_append]
       rfl
  ·rintro σ H' ⟨v,as,rfl,hn,B⟩
   rw[List.length_map,List.take_length]at B
   simp![tC]
   refine k H' l as B.same B.lst ?_
   have go:∀ {as:List Addr}{ps:List (List Nat)},Paired (fun a (p:List Nat)=>H' a=some (.lst (p.map nV))) as ps→ro K H' as ps:=by
    intro as ps h
    induction h with
    |nil=>exact .nil
    |cons h1 _ ih=>exact .cons (SqL.of h1) ih
   exact go B.el
theorem oO (T:Txt K mg) (GS:OkD P w K mg base 1 "is_digits" ["piece"] (g8 K)):OkD P w K mg base 2 "is_year_form" ["calendar","piece"] (iB K):=by
 obtain⟨f,fd,hm,F,b⟩:=T.qU
 refine⟨f,fd,hm,F.kp,b,F.ok oI (fun vs H Q E h=>?_) (fun cdv A outer s H vs Q E hr h=>?_)⟩
 ·obtain⟨c,a,t,rfl,_⟩:=h
  rfl
 ·obtain⟨c,a,t,rfl,hS,hl,k⟩:=h
  refine⟨_,(ae (aK (dQ (cE (aB GS hr rfl (aa (pv 1) ah)))) (ag (aq og)) az)
   (ae (aK (aA aT (pv 0) (aQ rfl T.dk) (aD _)) (ag (aq (xP (eU cG cG aj (aS (aW (K:=K) rfl) (by rfl) T.dB PySem.boot_len (aa (pv 1) ah)) aj) (mU (cz BH (aH (aE (K:=K) rfl) (pv 1) aj (fun _ _=>rfl)) (aQ rfl T.iq) (aD _)))))) az)
   (ag (aq (cz aT (aS (aW (K:=K) rfl) (by rfl) T.dB PySem.boot_len (aa (pv 1) ah)) aj (aD _)))))),?_⟩
  simp![tC]
  refine⟨a,t,rfl,hS,hl,fun H1 s1=>?_⟩
  cases hd:t.all digit with
  |false=>
   refine .inl ⟨rfl,vq (k H1 s1) (congrArg V.bl ?_)⟩
   unfold yearForm
   rw[hd]
   rfl
  |true=>
   refine .inr ⟨rfl,?_⟩
   by_cases hc:c = .rep
   ·subst hc
    rw[if_pos (show cI .rep=2 from rfl)]
    refine⟨_,.inl (s1.seq hS),?_⟩
    rw[List.length_map]
    by_cases h1:(1:Int)≤t.length
    ·rw[if_pos h1]
     by_cases h2:(t.length:Int)≤2
     ·rw[if_pos h2]
      obtain⟨b,r,rfl⟩:∃ b r,t=b :: r:=by
       cases t with
       |nil=>simp at h1
       |cons b r=>exact⟨b,r,rfl⟩
      refine ixl (s1.seq hS) (CL (t:=b :: r) (i:=0) rfl) ⟨rfl,vq (k H1 s1) (congrArg V.bl ?_)⟩
      unfold yearForm
      rw[hd,Bool.eq_iff_iff]
      simp only[List.length_cons]at h2
      simp
      constructor
      ·intro z;omega
      ·intro z
       refine⟨?_,by omega⟩
       cases r with
       |nil=>exact .inl rfl
       |cons x r'=>
        right
        have h4:(x :: r').length+1≤2:=by omega
        rw[List.length_cons]at h4 ⊢
        omega
     ·rw[if_neg h2]
      refine vq (k H1 s1) (congrArg V.bl ?_)
      unfold yearForm
      simp
      intros
      omega
    ·rw[if_neg h1]
     refine vq (k H1 s1) (congrArg V.bl ?_)
     unfold yearForm
     simp
     intros
     omega
   ·rw[if_neg (by cases c<;>first | decide | exact absurd rfl hc)]
    refine⟨_,.inl (s1.seq hS),vq (k H1 s1) (congrArg V.bl ?_)⟩
    rw[List.length_map]
    unfold yearForm
    rw[hd,Bool.eq_iff_iff]
    cases c<;>first | exact absurd rfl hc | (simp;omega)
theorem oQ (T:Txt K mg) (GS:OkD P w K mg base 1 "is_digits" ["piece"] (g8 K)) (Hc:OkD P w K mg base 2 "is_year_form" ["calendar","piece"] (iB K)):OkD P w K mg base 3 "is_date_form" ["calendar","pieces"] (iD K):=by
 obtain⟨f,fd,hm,F,b⟩:=T.qW
 refine⟨f,fd,hm,F.kp,b,F.ok e8 (fun vs H Q E h=>?_) (fun cdv A outer s H vs Q E hr h=>?_)⟩
 ·obtain⟨c,l,as,fs,rfl,_⟩:=h
  rfl
 ·obtain⟨c,l,as,fs,rfl,hS,hL,hne,hl,k⟩:=h
  refine⟨_,(ae (aK (PW.pt (n8 (aA BK (aS (aW (K:=K) rfl) (by rfl) T.dB PySem.boot_len (aa (pv 1) ah)) aj (aD _)) (jl (dQ (cE (aB Hc hr rfl (aa (pv 0) (aa (aH (aE (K:=K) rfl) (pv 1) aj (fun _ _=>rfl)) ah)))))))) (ag (aq og)) az)
   (ag (aq (aS (yK rfl) (by rfl) T.BU boot_all (aa (tp (own:=[("piece",2)]) rfl e8.nd (di (eT f7 (pv 1) (eM aj) jT)) (eY (show sr ["calendar","pieces","piece"] (au fN) _ _=true from by decide +kernel)) (fun _ _ _ _ _=>(aJ (i:=2) e8.nd rfl (Or.inl rfl))) (fun _ _ _ _ _=>ij) (fun _ _ _ _ _=>(xP (cz aT (aS (aW (K:=K) rfl) (by rfl) T.dB PySem.boot_len (aa (pv 2) ah)) aj (aD _)) (mU (aB GS hr rfl (aa (pv 2) ah)))))) ah))))),?_⟩
  simp![tC]
  have h16:sizeLine=16777216:=sizeLine_eq
  have hlen:=jZ hL
  refine⟨_,.inl hS,?_⟩
  rw[List.length_map]
  by_cases h3:(3:Int) < as.length
  ·rw[if_pos h3]
   refine vq (k H (ao.refl H)) (congrArg V.bl ?_)
   unfold gv
   rw[decide_eq_false (by omega)]
   rfl
  ·rw[if_neg h3]
   obtain⟨a0,as',f0,fs',rfl,rfl,hs0,hL'⟩:∃ a0 as' f0 fs',as=a0 :: as'∧fs=f0 :: fs'∧SqL K H a0 (f0.map nV)∧ro K H as' fs':=by
    cases hL with
    |nil=>exact absurd rfl hne
    |cons h r=>exact⟨_,_,_,_,rfl,rfl,h,r⟩
   have h3':(f0 :: fs').length≤3:=by omega
   refine ixl hS (ax (j:=0) rfl) ⟨c,a0,f0,rfl,hs0,hl f0 (List.mem_cons_self ..),fun H1 s1=>?_⟩
   cases hy:yearForm c f0 with
   |false=>
    refine .inl ⟨rfl,vq (k H1 s1) (congrArg V.bl ?_)⟩
    unfold gv
    rw[List.headD_cons,hy,Bool.false_and,Bool.and_false]
   |true=>
    refine .inr ⟨rfl,?_⟩
    refine⟨_,rfl,1,rfl,l,_,rfl,s1.seq hS,fun p hp=>⟨p,rfl,⟨_,SqL.of ab⟩,fun D hD=>?_⟩⟩
    have ec:iT ((a0 :: as').map V.ref) (some 1) none=as'.map V.ref:=rf _ 1
    rw[ec]at hD ⊢
    refine pf (xs:=as'.map V.ref) (fs'.map fun f=>V.bl (two f)) hD (SqL.of ab) (by rw[List.length_map];simp at hlen h3';omega) (by rw[List.length_map,List.length_map];simp at hlen;omega) ?_ ?_
    ·intro i x y H' hx hy' s2
     rw[List.getElem?_map]at hx hy'
     cases hf:fs'[i]? with
     |none=>rw[hf]at hy';cases hy'
     |some f=>
      obtain⟨ai,ha,hsi⟩:=mi hL' hf
      rw[hf]at hy'
      rw[ha]at hx
      have hx:=Option.some.inj hx
      have hy':=Option.some.inj hy'
      subst hx hy'
      have sA:ao H H':=(s1.trans (ao.new hp)).trans s2
      refine⟨[some (.int (cI c)),some (.ref l),some (.ref ai)],fun R r=>r,rfl,fun R r=>?_⟩
      simp![tC]
      refine⟨_,.inl (sA.seq hsi),?_⟩
      rw[List.length_map]
      by_cases h2:(f.length:Int)=2
      ·rw[if_pos h2]
       refine⟨ai,f,rfl,sA.seq hsi,by omega,fun H2 s2'=>vq (r H2 s2') (congrArg V.bl ?_)⟩
       unfold two
       have:(f.length == 2)=true:=by simp;omega
       rw[this,Bool.and_true]
      ·rw[if_neg h2]
       refine vq (r H' (ao.refl _)) (congrArg V.bl ?_)
       unfold two
       have:(f.length == 2)=false:=by simp;omega
       rw[this,Bool.and_false]
    ·intro H' s2 hD'
     refine⟨D,fs'.map two,rfl,SqL.of (by rw[List.map_map];exact hD'),vq (k H' ((s1.trans (ao.new hp)).trans s2)) (congrArg V.bl ?_)⟩
     unfold gv
     rw[decide_eq_true h3',List.headD_cons,hy,List.all_map]
     rfl
theorem rH (T:Txt K mg) (Hk:OkD P w K mg base 2 "calendar_of" ["part"] (ja K)) (GQ:OkD P w K mg base 1 "split_at_hyphens" ["row"] (ff K)) (GO:OkD P w K mg base 1 "mark_of" ["calendar"] fI) (He:OkD P w K mg base 3 "is_date_form" ["calendar","pieces"] (iD K)) (G4:OkD P w K mg base 1 "decimal_value" ["piece"] (gB K)):OkD P w K mg base 4 "parse_part" ["part"] (kj K):=by
 obtain⟨f,fd,hm,F,b⟩:=T.u4
 refine⟨f,fd,hm,F.kp,b,F.ok dA (fun vs H Q E h=>?_) (fun cdv A outer s H vs Q E hr h=>?_)⟩
 ·obtain⟨a,t,rfl,_⟩:=h
  rfl
 ·obtain⟨a,t,rfl,hS,hl,k⟩:=h
  refine⟨_,(ae (aI (i:=1) dA.nd rfl (Or.inl rfl) (aB Hk hr rfl (aa (pv 0) ah)))
   (ae (aI (i:=2) dA.nd rfl (Or.inl rfl) (aB GQ hr rfl (aa (eT f7 (pv 0) (eM (aS (aW (K:=K) rfl) (by rfl) T.dB PySem.boot_len (aa (aB GO hr rfl (aa (pv 1) ah)) ah))) jT) ah)))
   (ae (aK (dQ (cE (aB He hr rfl (aa (pv 1) (aa (pv 2) ah))))) (ag (aq jr)) az)
   (ag (aq (cK (aa (pv 1) (aa (tp (own:=[("piece",3)]) rfl dA.nd (di (pv 2)) (eY (show sr ["part","calendar","pieces","piece"] (au ic) _ _=true from by decide +kernel)) (fun _ _ _ _ _=>(aJ (i:=3) dA.nd rfl (Or.inl rfl))) (fun _ _ _ _ _=>ij) (fun _ _ _ _ _=>(aB G4 hr rfl (aa (pv 3) ah)))) ah)))))))),?_⟩
  simp![tC]
  have h16:sizeLine=16777216:=sizeLine_eq
  have hl2:(calOf t).2.length≤60:=by
   rw[rm,List.length_drop];omega
  refine⟨a,t,rfl,hS,fun H1 s1=>⟨(calOf t).1,rfl,fun H2 l2 s2 hm=>⟨l2,rfl,_,.inl (SqL.of hm),a,_,rfl,(s1.trans s2).seq hS,fun p hp=>?_⟩⟩⟩
  have sB:ao H2 (upd H2 p (.lst (iT (t.map nV) (some (((mark (calOf t).1).map nV).length:Int)) none))):=ao.new hp
  refine⟨p,(calOf t).2,rfl,SqL.of ?_,hl2,fun H3 l3 as s3 h3 hL3=>?_⟩
  ·rw[ab,List.length_map,rf,←List.map_drop,←rm]
  have sC:ao H H3:=((s1.trans s2).trans sB).trans s3
  have hlen:=jZ hL3
  have hc:=mE 45 (calOf t).2
  refine⟨(calOf t).1,l3,as,fieldsAt 45 (calOf t).2,rfl,SqL.of h3,hL3,gT 45 _,fun f hf=>Nat.le_trans (lh 45 _ f hf) hl2,fun H4 s4=>?_⟩
  cases hf:gv (calOf t).1 (fieldsAt 45 (calOf t).2) with
  |false=>
   refine .inl ⟨rfl,k H4 .non (sC.trans s4) ?_⟩
   unfold parse
   rw[hf]
   rfl
  |true=>
   have hp':parse t=some ((calOf t).1,(fieldsAt 45 (calOf t).2).map valueOf):=by
    unfold parse
    rw[hf]
    rfl
   refine .inr ⟨rfl,_,rfl,l3,rfl,⟨_,SqL.of (s4 _ _ h3)⟩,fun D hD=>pf (xs:=as.map V.ref) ((fieldsAt 45 (calOf t).2).map fun f=>V.int (valueOf f)) hD (SqL.of (s4 _ _ h3)) (by rw[List.length_map];omega) (by rw[List.length_map,List.length_map];omega) ?_ ?_⟩
   ·intro i x y H' hx hy' s5
    rw[List.getElem?_map]at hx hy'
    cases hfi:(fieldsAt 45 (calOf t).2)[i]? with
    |none=>rw[hfi]at hy';cases hy'
    |some f=>
     obtain⟨ai,ha,hsi⟩:=mi hL3 hfi
     rw[hfi]at hy'
     rw[ha]at hx
     have hx:=Option.some.inj hx
     have hy':=Option.some.inj hy'
     subst hx hy'
     refine⟨[some (.ref a),some (.int (cI (calOf t).1)),some (.ref l3),some (.ref ai)],fun R r=>r,rfl,fun R r=>?_⟩
     simp![tC]
     exact⟨ai,f,rfl,(s4.trans s5).seq hsi,oA hf f (List.mem_of_getElem? hfi),r⟩
   ·intro H' s5 hD'
    refine⟨by decide,fun q hq=>k _ (.ref q) ((sC.trans s4).trans (s5.trans (ao.new hq))) ?_⟩
    rw[hp']
    refine⟨q,D,rfl,((sC.trans s4).trans s5).free hq,(sC.trans s4).free hD,ab,?_⟩
    rw[ao.new hq _ _ hD',List.map_map]
    rfl
end
def xo (D:Addr) (H:Hp) (v:V):Option (Cal×List Nat)→Prop
 |none=>v = .non
 |some x=>∃ p l,v = .ref p∧p≠D∧l≠D∧H p=some (.tup [.int (cI x.1),.ref l])∧H l=some (.lst (x.2.map nV))
theorem xo.keep {D:Addr}{H H':Hp}{v:V}{o:Option (Cal×List Nat)}(h:xo D H v o) (k:∀ c u,c≠D→H c=some u→H' c=some u):xo D H' v o:=by
 cases o with
 |none=>exact h
 |some x=>
  obtain⟨p,l,e,n1,n2,h1,h2⟩:=h
  exact⟨p,l,e,n1,n2,k _ _ n1 h1,k _ _ n2 h2⟩
theorem Ae {t:List Nat}{x:Cal×List Nat}(h:parse t=some x):1≤x.2.length∧x.2.length≤3:=by
 unfold parse at h
 split at h
 ·rename_i c
  have h:=Option.some.inj h
  subst h
  show 1≤(List.map valueOf _).length∧(List.map valueOf _).length≤3
  rw[List.length_map]
  unfold gv at c
  rw[Bool.and_eq_true]at c
  have h1:=of_decide_eq_true c.1
  have h2:(fieldsAt 45 (calOf t).2).length≠0:=fun e=>gT 45 _ (List.length_eq_zero_iff.mp e)
  omega
 ·cases h
theorem qc {D:Addr}{H:Hp}:∀ {ps:List (List Nat)}{ys:List V},Paired (xo D H) ys (ps.map parse) →
  (V.non∈ys∧ps.mapM parse=none)∨(V.non∉ys∧∃ xs,ps.mapM parse=some xs∧Paired (fun v (x:Cal×List Nat)=>xo D H v (some x)∧1≤x.2.length∧x.2.length≤3) ys xs)
 | [],_,.nil=>.inr ⟨by simp,[],rfl,.nil⟩
 |p :: ps,_,.cons (a:=y) (l₁:=ys) h r=>by
  have ih:=qc r
  cases hp:parse p with
  |none=>
   rw[hp]at h
   have h:y = .non:=h
   subst h
   exact .inl ⟨List.mem_cons_self ..,by simp[hp]⟩
  |some x=>
   rw[hp]at h
   have hy:V.non≠y:=by
    obtain⟨q,l,e,_⟩:=h
    rw[e]
    exact fun z=>nomatch z
   rcases ih with ⟨h1,h2⟩ | ⟨h1,xs,h2,h3⟩
   ·exact .inl ⟨List.mem_cons_of_mem _ h1,by simp[hp,h2]⟩
   ·exact .inr ⟨fun m=>(List.mem_cons.mp m).elim hy h1,x :: xs,by simp[hp,h2],.cons ⟨h,Ae hp⟩ h3⟩
theorem xi:∀ {t a b:List Nat},gX t=some (a,b)→a.length+b.length+2=t.length
 | [],_,_,h=>by cases h
 | [_],_,_,h=>by cases h
 |x :: y :: r,a,b,h=>by
  unfold gX at h
  split at h
  ·obtain⟨rfl,rfl⟩:=Prod.mk.inj (Option.some.inj h)
   simp
  ·cases e:gX (y :: r) with
   |none=>rw[e]at h;cases h
   |some q=>
    obtain⟨a1,b1⟩:=q
    rw[e]at h
    obtain⟨rfl,rfl⟩:=Prod.mk.inj (Option.some.inj h)
    have:=xi e
    simp at this ⊢
    omega
theorem tq (t:List Nat):(∀ p∈parts t,p.length≤t.length)∧((parts t).length=1∨(parts t).length=2):=by
 unfold parts
 cases h:gX t with
 |none=>exact⟨fun p hp=>by rw[List.mem_singleton.mp hp];exact Nat.le_refl _,.inl rfl⟩
 |some x=>
  obtain⟨a,b⟩:=x
  have:=xi h
  refine⟨fun p hp=>?_,.inr rfl⟩
  simp at hp
  rcases hp with rfl | rfl<;>omega
theorem none_of {H H1:Hp}{p:Addr}(s:ao H H1) (h:H1 p=none):H p=none:=by
 cases e:H p with
 |none=>rfl
 |some o=>rw[s _ _ e]at h;cases h
section
variable {P:Program}{w:World}{K:PySem.W.Frag}{mg:Str→Option Value}{base:Heap}
theorem uC (T:Txt K mg) (Hg:OkD P w K mg base 1 "split_parts" ["text"] (i5 K)) (Hs:OkD P w K mg base 4 "parse_part" ["part"] (kj K)) (Ie:OkD P w K mg base 3 "is_date" ["calendar","date"] (pG K)) (GA:OkD P w K mg base 4 "first_day_of" ["calendar","date"] (dE K)) (Hi:OkD P w K mg base 5 "last_day_of" ["calendar","date"] (fJ K)):OkD P w K mg base 6 "read_text" ["text"] (fq K):=by
 obtain⟨f,fd,hm,F,b⟩:=T.xa
 refine⟨f,fd,hm,F.kp,b,F.ok bY (fun vs H Q E h=>?_) (fun cdv A outer s H vs Q E hr h=>?_)⟩
 ·obtain⟨a,t,rfl,_⟩:=h
  rfl
 ·obtain⟨a,t,rfl,hS,hl,k⟩:=h
  refine⟨_,(ae (vU (i:=1) (hc:=rfl) (hN:=bY.nd) (hy:=rfl) (hyl:=rfl) (hsw:=rfl) (own:=[("part",2)]) (di (aB Hg hr rfl (aa (pv 0) ah))) (eY (show sr ["text","parts","part","calendar","date","first","last"] (au gc) _ _=true from by decide +kernel)) (fun _ _ _ _ _=>(aJ (i:=2) bY.nd rfl (Or.inl rfl))) (fun _ _ _ _ _=>ij) (fun _ _ _ _ _=>(aB Hs hr rfl (aa (pv 2) ah))))
   (ae (aK (aA (xT (bR hr)) jr (pv 1) rfl) (ag (aq (aX (aa (aQ rfl T.yy) ah)))) az)
   (ae (aK (dQ (cE (aS (yK rfl) (by rfl) T.BU boot_all (aa (tp (own:=[("calendar",3),("date",4)]) rfl bY.nd (di (pv 1)) (eY (show sr ["text","parts","part","calendar","date","first","last"] (au gc) _ _=true from by decide +kernel)) (fun _ _ _ _ _=>(cj (K:=K) (n:=2) rfl rfl (aM (aJ (i:=3) bY.nd rfl (Or.inl rfl)) (aM (aJ (i:=4) bY.nd rfl (Or.inl rfl)) cg)))) (fun _ _ _ _ _=>ij) (fun _ _ _ _ _=>(aB Ie hr rfl (aa (pv 3) (aa (pv 4) ah))))) ah)))) (ag (aq (aX (aa (aQ rfl T.tO) ah)))) az)
   (ae (aI (i:=5) bY.nd rfl (Or.inl rfl) (aB GA hr rfl (aa (aH (aL (K:=K) rfl) (aH (aE (K:=K) rfl) (pv 1) aj (fun _ _=>rfl)) aj (fun _ _=>rfl)) (aa (aH (aL (K:=K) rfl) (aH (aE (K:=K) rfl) (pv 1) aj (fun _ _=>rfl)) aj (fun _ _=>rfl)) ah))))
   (ae (aI (i:=6) bY.nd rfl (Or.inl rfl) (aB Hi hr rfl (aa (aH (aL (K:=K) rfl) (aH (aE (K:=K) rfl) (pv 1) (gJ eh aj) (fun _ _=>rfl)) aj (fun _ _=>rfl)) (aa (aH (aL (K:=K) rfl) (aH (aE (K:=K) rfl) (pv 1) (gJ eh aj) (fun _ _=>rfl)) aj (fun _ _=>rfl)) ah))))
   (ae (aK (aA BK (pv 5) (pv 6) (aD _)) (ag (aq (aX (aa (aQ rfl T.rQ) ah)))) az)
   (ag (aq (aX (aa aj (aa (pv 5) (aa (pv 6) ah)))))))))))),?_⟩
  simp![tC]
  have h16:sizeLine=16777216:=sizeLine_eq
  obtain⟨pl1,pl2⟩:=tq t
  have due:readDate t=readM t:=(vO t).symm
  refine⟨_,rfl,a,t,rfl,hS,hl,fun H1 l as s1 h1 hL=>⟨l,rfl,⟨_,SqL.of h1⟩,fun D hD=>DA (xo D) ((parts t).map parse) hD (SqL.of h1) (by
   have:=jZ hL
   rw[List.length_map];omega) (by
   have:=jZ hL
   rw[List.length_map,List.length_map];omega) (fun _ _ _ _ h k=>h.keep k) ?_ ?_⟩⟩
  ·intro i x b H' acc hx hb s2 hacc
   rw[List.getElem?_map]at hx hb
   cases hp:(parts t)[i]? with
   |none=>rw[hp]at hb;cases hb
   |some p=>
    obtain⟨ai,ha,hsi⟩:=mi hL hp
    rw[hp]at hb
    rw[ha]at hx
    have hx:=Option.some.inj hx
    have hb:=Option.some.inj hb
    subst hx hb
    refine⟨[some (V.ref a),none,some (V.ref ai),none,none,none,none],fun R r=>r,rfl,fun R r=>?_⟩
    simp![tC]
    refine⟨ai,p,rfl,s2.seq hsi,Nat.le_trans (pl1 p (List.mem_of_getElem? hp)) hl,fun H2 v s3 hv=>r H2 v s3 ?_⟩
    cases hq:parse p with
    |none=>rw[hq]at hv;exact hv
    |some x=>
     rw[hq]at hv
     obtain⟨p',l',e,n1,n2,h1,h2⟩:=hv
     exact⟨p',l',e,fun z=>(by rw[z,hacc]at n1;cases n1),fun z=>(by rw[z,hacc]at n2;cases n2),h1,h2⟩
  ·intro H2 ys s2 hD2 hP
   have sA:ao H H2:=s1.trans s2
   refine⟨D,rfl,ys,SqL.of hD2,fun v hv=>?_,?_⟩
   ·obtain⟨i,hi⟩:=List.getElem?_of_mem hv
    obtain⟨o,_,ho⟩:=ik hP hi
    cases o with
    |none=>exact .inl ho
    |some x=>
     obtain⟨p,l',e,_,_,h1,_⟩:=ho
     exact .inr ⟨p,e,_,SqT.of h1⟩
   ·rcases qc hP with ⟨hn,hm⟩ | ⟨hn,xs,hm,hX⟩
    ·rw[if_pos hn]
     refine⟨by decide,fun q hq=>k _ q (sA.trans (ao.new hq)) (none_of sA hq) ?_⟩
     rw[ab,due]
     unfold readM
     rw[hm]
     rfl
    ·rw[if_neg hn]
     have hlen:ys.length=xs.length:=Paired.length hX
     have hlen2:xs.length=(parts t).length:=by
      have:=Paired.length hP
      rw[List.length_map]at this
      omega
     refine⟨_,rfl,D,rfl,⟨_,SqL.of hD2⟩,fun D2 Lc=>pf (xs:=ys) (xs.map fun x=>V.bl (there (aP x))) Lc (SqL.of hD2) (by omega) (by rw[List.length_map];omega) ?_ ?_⟩
     ·intro i v y H' hv hy s3
      obtain⟨x,hx,⟨p,l',e,n1,n2,h1,h2⟩,x1,x3⟩:=ik hX hv
      rw[List.getElem?_map,hx]at hy
      have hy:=Option.some.inj hy
      subst hy e
      refine⟨[some (V.ref a),some (V.ref D),none,some (V.int (cI x.1)),some (V.ref l'),none,none],fun R r=>⟨p,_,rfl,SqT.of (s3 _ _ h1),rfl,_,_,rfl,_,_,rfl,rfl,r⟩,rfl,fun R r=>?_⟩
      simp![tC]
      exact⟨x.1,l',x.2,rfl,SqL.of (s3 _ _ h2),x1,x3,r⟩
     ·intro H3 s3 hD3
      refine⟨D2,xs.map fun x=>there (aP x),rfl,SqL.of (by rw[List.map_map];exact hD3),?_⟩
      have hany:(xs.map fun x=>there (aP x)).all id=xs.all fun x=>there (aP x):=by rw[List.all_map];rfl
      rw[hany]
      cases hall:xs.all fun x=>there (aP x) with
      |false=>
       refine .inl ⟨rfl,by decide,fun q hq=>k _ q ((sA.trans s3).trans (ao.new hq)) (none_of (sA.trans s3) hq) ?_⟩
       rw[ab,due]
       unfold readM
       rw[hm]
       simp only
       rw[hall]
       rfl
      |true=>
       refine .inr ⟨rfl,?_⟩
       have fin:∀ y0 x0 yl xl,atI ys 0=some y0→atI ys (-1)=some yl→xs.headD (.greg,[])=x0→xs.getLastD (.greg,[])=xl→x0∈xs→xl∈xs→(xo D H2 y0 (some x0)∧1≤x0.2.length∧x0.2.length≤3)→(xo D H2 yl (some xl)∧1≤xl.2.length∧xl.2.length≤3) →
         rF K (V.ref D) (V.int 0) H3 fun x_4 H1=>vQ K x_4 (V.int 0) H1 fun x_5 H1=>rF K (V.ref D) (V.int 0) H1 fun x_6 H1=>vQ K x_6 (V.int 1) H1 fun x_7 H1=>dE K [x_5,x_7] H1 (fun x_8 H1=>
          rF K (V.ref D) (V.int (-1)) H1 fun x_9 H1=>vQ K x_9 (V.int 0) H1 fun JO H1=>rF K (V.ref D) (V.int (-1)) H1 fun x H1=>vQ K x (V.int 1) H1 fun x H1=>fJ K [JO,x] H1 (fun x H1=>
           ∃ i,x_8=V.int i∧∃ Kk,x=V.int Kk∧if Kk < i then 1≤sizeLine∧∀ (p:Addr),H1 p=none→Q (V.ref p) (upd H1 p (HO.lst [V.int (-3)])) else 3≤sizeLine∧∀ (p:Addr),H1 p=none→Q (V.ref p) (upd H1 p (HO.lst [V.int 0,x_8,x]))) E0) E0:=by
        rintro y0 x0 yl xl a0 al e0 el m0 ml ⟨⟨p0,l0,rfl,_,_,hp0,hl0⟩,x01,x03⟩ ⟨⟨pl,ll,rfl,_,_,hpl,hll⟩,xl1,xl3⟩
        have t0:there (aP x0)=true:=List.all_eq_true.mp hall x0 m0
        have tl':there (aP xl)=true:=List.all_eq_true.mp hall xl ml
        have lD:=s3 _ _ hD2
        refine ixl (SqL.of lD) a0 (ixt (SqT.of (s3 _ _ hp0)) rfl (ixl (SqL.of lD) a0 (ixt (SqT.of (s3 _ _ hp0)) rfl ⟨x0.1,l0,x0.2,rfl,SqL.of (s3 _ _ hl0),x01,x03,t0,fun H4 s4=>?_⟩)))
        have lD4:=s4 _ _ lD
        refine ixl (SqL.of lD4) al (ixt (SqT.of (s4 _ _ (s3 _ _ hpl))) rfl (ixl (SqL.of lD4) al (ixt (SqT.of (s4 _ _ (s3 _ _ hpl))) rfl ⟨xl.1,ll,xl.2,rfl,SqL.of (s4 _ _ (s3 _ _ hll)),xl1,xl3,tl',fun H5 s5=>⟨_,rfl,_,rfl,?_⟩⟩)))
        have sZ:ao H H5:=((sA.trans s3).trans s4).trans s5
        have rd:readM t=if firstDay (aP x0)≤lastDay (aP xl) then .ok (firstDay (aP x0),lastDay (aP xl)) else .error (-3):=by
         unfold readM
         rw[hm]
         simp only
         rw[hall,if_pos rfl,e0,el]
        by_cases c:firstDay (aP x0)≤lastDay (aP xl)
        ·rw[if_neg (show ¬ ((lastDay (aP xl):Nat):Int) < ((firstDay (aP x0):Nat):Int) by omega)]
         refine⟨by decide,fun q hq=>k _ q (sZ.trans (ao.new hq)) (none_of sZ hq) ?_⟩
         rw[ab,due,rd,if_pos c]
         rfl
        ·rw[if_pos (show ((lastDay (aP xl):Nat):Int) < ((firstDay (aP x0):Nat):Int) by omega)]
         refine⟨by decide,fun q hq=>k _ q (sZ.trans (ao.new hq)) (none_of sZ hq) ?_⟩
         rw[ab,due,rd,if_neg c]
         rfl
       rcases pl2 with h1' | h2'
       ·obtain⟨x0,rfl⟩:∃ x0,xs=[x0]:=List.length_eq_one_iff.mp (by omega)
        cases hX with
        |cons hx r=>
         cases r
         exact fin _ x0 _ x0 (ax (j:=0) rfl) (g0 [] _) rfl rfl (by simp) (by simp) hx hx
       ·obtain⟨x0,x1,rfl⟩:∃ x0 x1,xs=[x0,x1]:=by
         match xs,(show xs.length=2 by omega) with
         | [x0,x1],_=>exact⟨x0,x1,rfl⟩
        cases hX with
        |cons hx r=>
         cases r with
         |cons hx1 r=>
          cases r
          exact fin _ x0 _ x1 (ax (j:=0) rfl) (g0 [_] _) rfl rfl (by simp) (by simp) hx hx1
def gw (n w:Nat):List Nat:=List.replicate (w - (TL.mZ n).length) 48 ++ TL.mZ n
theorem CU (n w:Nat):(Txt.zfill (Str.ofString (toString ((n:Nat):Int))) (w:Int)).cps.toList=gw n w:=by
 have hx:(Str.ofString (toString ((n:Nat):Int))).cps.toList=TL.mZ n:=TL.Be n
 have hl:(Str.ofString (toString ((n:Nat):Int))).length=(TL.mZ n).length:=by rw[←hx];simp[Str.length]
 unfold Txt.zfill gw
 by_cases c:(w:Int)≤((Str.ofString (toString ((n:Nat):Int))).length:Int)
 ·rw[if_pos c,hx]
  rw[hl]at c
  rw[show w - (TL.mZ n).length=0 by omega]
  rfl
 ·rw[if_neg c]
  have h0:∀ d,(Str.ofString (toString ((n:Nat):Int))).cps[0]? = some d→48≤d:=by
   intro d hd
   have:(Str.ofString (toString ((n:Nat):Int))).cps.toList[0]? = some d:=by rw[←hd];simp
   rw[hx]at this
   exact(TL.we n d (List.mem_of_getElem? this)).1
  have hz:zfilled (Str.ofString (toString ((n:Nat):Int))) ((w:Int).toNat - (Str.ofString (toString ((n:Nat):Int))).length)=Builtin.Str.padded (Str.ofString (toString ((n:Nat):Int))) ((w:Int).toNat - (Str.ofString (toString ((n:Nat):Int))).length) 0 48:=by
   unfold zfilled
   split
   ·rename_i h;exact absurd (h0 _ h) (by decide)
   ·rename_i h;exact absurd (h0 _ h) (by decide)
   ·rfl
  rw[hz,hl]
  show (Array.replicate (w - (TL.mZ n).length) 48 ++ (Str.ofString (toString ((n:Nat):Int))).cps ++ Array.replicate 0 48).toList=_
  simp
  exact hx
theorem wW {n:Nat}(h:n < 100):gw n 2=pad2 n:=by
 unfold gw pad2
 by_cases c:n < 10
 ·rw[TL.jW c]
  have e1:n / 10=0:=by omega
  have e2:n % 10=n:=by omega
  rw[e1,e2]
  rfl
 ·rw[TL.fB (by omega),TL.jW (by omega)]
  rfl
theorem tU {n:Nat}(h:1000≤n) (h2:n < 10000):gw n 4=pad2 (n / 100) ++ pad2 (n % 100):=by
 unfold gw pad2
 rw[TL.fB (by omega),TL.fB (n:=n / 10) (by omega),TL.fB (n:=n / 10 / 10) (by omega),TL.jW (by omega)]
 have e1:n / 10 / 10 / 10=n / 100 / 10:=by omega
 have e2:n / 10 / 10 % 10=n / 100 % 10:=by omega
 have e3:n / 10 % 10=n % 100 / 10:=by omega
 have e4:n % 10=n % 100 % 10:=by omega
 rw[e1,e2,e3,e4]
 rfl
theorem AJ {c:Cal}{y:Nat}(h1:firstYear c≤y) (h2:y≤lastYear c):gw y (if c = .rep then 1 else 4)=yearText c y:=by
 cases c with
 |rep=>
  have h2:y≤14:=h2
  show gw y 1=if y < 10 then [48+y] else pad2 y
  unfold gw
  by_cases c:y < 10
  ·rw[TL.jW c,if_pos c]
   rfl
  ·rw[if_neg c,TL.fB (by omega),TL.jW (by omega)]
   rfl
 |greg=>
  have h1:1700≤y:=h1
  have h2:y≤2999:=h2
  exact tU (by omega) (by omega)
 |jul=>
  have h1:1700≤y:=h1
  have h2:y≤1999:=h2
  exact tU (by omega) (by omega)
def bX:Sp:=fun vs H Q _=>∃ (n w:Nat),vs=[.int n,.int w]∧n < 10000∧w≤4∧∀ H' l,ao H H'→H' l=some (.lst ((gw n w).map nV))→Q (.ref l) H'
theorem mI {n w:Nat}(h:n < 10000) (hw:w≤4):(gw n w).length≤8:=by
 have:=TL.BN (n:=n) (k:=4) (by decide) h
 unfold gw
 rw[List.length_append,List.length_replicate]
 omega
theorem l9 (T:Txt K mg):OkD P w K mg base 1 "decimal_digits" ["number","width"] bX:=by
 obtain⟨f,fd,hm,F,b⟩:=T.nz
 refine⟨f,fd,hm,F.kp,b,F.ok dN (fun vs H Q E h=>?_) (fun cdv A outer s H vs Q E hr h=>?_)⟩
 ·obtain⟨n,w,rfl,_⟩:=h
  rfl
 ·obtain⟨n,w,rfl,h1,h2,k⟩:=h
  refine⟨_,(ag (aq (tp (own:=[("sign",2)]) rfl dN.nd (Ex (Bz (dj ve (by rfl) T.Fw boot_str (aa (pv 0) ah)) (pv 1))) (eY (show sr ["number","width","sign"] (au eD) _ _=true from by decide +kernel)) (fun _ _ _ _ _=>(aJ (i:=2) dN.nd rfl (Or.inl rfl))) (fun _ _ _ _ _=>ij) (fun _ _ _ _ _=>(aS CG (by rfl) T.Fx boot_ord (aa (pv 2) ah)))))),?_⟩
  simp![tZf,tM1]
  have h16:sizeLine=16777216:=sizeLine_eq
  have hz:=CU n w
  have hlen:(Txt.zfill (Str.ofString (toString ((n:Nat):Int))) (w:Int)).cps.size=(gw n w).length:=by rw[←hz];simp
  have hd:=mI h1 h2
  refine⟨_,rfl,n,rfl,?_,⟨_,rfl⟩,_,rfl,_,rfl,w,rfl,by omega,by omega,_,rfl,fun D hD=>DB (z:=Txt.zfill (Str.ofString (toString ((n:Nat):Int))) (w:Int)) ((gw n w).map nV) hD (by omega) (by rw[List.length_map];exact hlen.symm) ?_ ?_⟩
  ·rw[Int.natAbs_natCast]
   by_cases h0:n=0
   ·subst h0;decide
   ·exact(Nat.log2_lt h0).mpr (Nat.lt_of_lt_of_le h1 (by
     have:(10000:Nat)≤2 ^ 14:=by decide
     exact Nat.le_trans this (Nat.pow_le_pow_right (by decide) (by decide))))
  ·intro i c y H' hc hy s1
   have hc':(Txt.zfill (Str.ofString (toString ((n:Nat):Int))) (w:Int)).cps.toList[i]? = some c:=by rw[←hc];simp
   rw[hz]at hc'
   rw[List.getElem?_map,hc']at hy
   have hy:=Option.some.inj hy
   subst hy
   refine⟨[some (.int n),some (.int w),some (.str ⟨#[c]⟩)],fun R r=>r,rfl,fun R r=>?_⟩
   simp![tC]
   exact⟨rfl,r H' (ao.refl _)⟩
  ·intro H' s1 hD'
   exact k H' D s1 hD'
def g9 (c d:Int):List Int:=match calAt c with
 |none=>[-9]
 |some c=>if dayOk d=false then [-9] else match Vbnlaa.shown c d.toNat with
  |none=>[-2]
  |some t=>0 :: t.map (fun (b:Nat)=>(b:Int))
theorem E6 {c:Int}(h:(decide (0≤c) && decide (c≤2))=true):∃ q:Cal,c=cI q:=by
 simp at h
 have:c=0∨c=1∨c=2:=by omega
 rcases this with e | e | e
 ·exact⟨.greg,e⟩
 ·exact⟨.jul,e⟩
 ·exact⟨.rep,e⟩
theorem xm (q:Cal):calAt (cI q)=some q:=by cases q<;>rfl
theorem CI {c:Int}(h:(decide (0≤c) && decide (c≤2))=false):calAt c=none:=by
 unfold calAt
 simp at h
 rw[if_neg (by omega),if_neg (by omega),if_neg (by omega)]
def nO:Sp:=fun vs H Q _=>∃ c d:Int,vs=[.int c,.int d]∧∀ H' l,ao H H'→H l=none→H' l=some (.lst ((g9 c d).map V.int))→Q (.ref l) H'
theorem nG {H:Hp}{l b:Addr}{xs zs:List V}{Q:VK}(h1:H l=some (.lst xs)) (h2:H b=some (.lst zs)) (hz:xs.length+zs.length≤100) (k:∀ p,H p=none→Q (.ref p) (upd H p (.lst (xs ++ zs)))):vR (.ref l) (.ref b) H Q:=
 ⟨l,b,xs,zs,rfl,rfl,h1,h2,by
  (have:sizeLine=16777216:=sizeLine_eq);omega,k⟩
theorem vZ (T:Txt K mg) (Hj:OkD P w K mg base 1 "is_calendar" ["number"] i9) (GW:OkD P w K mg base 1 "is_day" ["number"] gA) (Ib:OkD P w K mg base 3 "reaches" ["calendar","day"] pE) (Ig:OkD P w K mg base 4 "date_of" ["calendar","day"] pH)
  (GF:OkD P w K mg base 1 "decimal_digits" ["number","width"] bX) (GO:OkD P w K mg base 1 "mark_of" ["calendar"] fI):OkD P w K mg base 5 "show_day" ["calendar","day"] nO:=by
 obtain⟨f,fd,hm,F,b⟩:=T.yE
 refine⟨f,fd,hm,F.kp,b,F.ok eR (fun vs H Q E h=>?_) (fun cdv A outer s H vs Q E hr h=>?_)⟩
 ·obtain⟨c,d,rfl,_⟩:=h
  rfl
 ·obtain⟨c,d,rfl,k⟩:=h
  refine⟨_,(ae (aK (PW.pt (n8 (dQ (cE (aB Hj hr rfl (aa (pv 0) ah)))) (jl (dQ (cE (aB GW hr rfl (aa (pv 1) ah))))))) (ag (aq (aX (aa (aQ rfl T.fQ) ah)))) az)
   (ae (aK (dQ (cE (aB Ib hr rfl (aa (pv 0) (aa (pv 1) ah))))) (ag (aq (aX (aa (aQ rfl T.tO) ah)))) az)
   (ae (aI (i:=2) eR.nd rfl (Or.inl rfl) (aB Ig hr rfl (aa (pv 0) (aa (pv 1) ah))))
   (ae (aI (i:=3) eR.nd rfl (Or.inl rfl) (cF (aA aT (pv 0) (aQ rfl T.dk) (aD _)) aj aj))
   (ae (aI (i:=4) eR.nd rfl (Or.inl rfl) (aB GF hr rfl (aa (aH (aE (K:=K) rfl) (pv 2) aj (fun _ _=>rfl)) (aa (pv 3) ah))))
   (ae (aI (i:=5) eR.nd rfl (Or.inl rfl) (aB GF hr rfl (aa (aH (aE (K:=K) rfl) (pv 2) aj (fun _ _=>rfl)) (aa aj ah))))
   (ag (aq (aU jt (aU jt (aU jt (aU jt (aU jt (aU jt (aX (aa aj ah)) (aB GO hr rfl (aa (pv 0) ah))) (pv 4)) (aX (aa (aQ rfl T.qK) ah))) (pv 5)) (aX (aa (aQ rfl T.qK) ah))) (aB GF hr rfl (aa (aH (aE (K:=K) rfl) (pv 2) aj (fun _ _=>rfl)) (aa aj ah)))))))))))),?_⟩
  simp![tC]
  refine⟨c,rfl,trivial,fun H1 s1=>?_⟩
  cases hc:decide (0≤c) && decide (c≤2) with
  |false=>
   refine .inl ⟨congrArg V.bl hc,by decide,fun p hp=>k _ p (s1.trans (ao.new hp)) (none_of s1 hp) ?_⟩
   rw[ab]
   unfold g9
   rw[CI hc]
   rfl
  |true=>
   refine .inr ⟨congrArg V.bl hc,?_⟩
   obtain⟨q,rfl⟩:=E6 hc
   refine⟨d,rfl,trivial,fun H2 s2=>?_⟩
   have sA:=s1.trans s2
   cases hd:dayOk d with
   |false=>
    refine .inl ⟨congrArg V.bl hd,by decide,fun p hp=>k _ p (sA.trans (ao.new hp)) (none_of sA hp) ?_⟩
    rw[ab]
    unfold g9
    rw[xm]
    simp only
    rw[if_pos hd]
    rfl
   |true=>
    refine .inr ⟨congrArg V.bl hd,?_⟩
    obtain⟨n,rfl⟩:∃ n:Nat,d=n:=by
     unfold dayOk at hd
     rw[Bool.and_eq_true]at hd
     exact⟨d.toNat,by have:=of_decide_eq_true hd.1;omega⟩
    refine⟨(q,n),rfl,trivial,fun H3 s3=>?_⟩
    have sB:=sA.trans s3
    have due:g9 (cI q) (n:Int)=match Vbnlaa.shown q n with | none=>[-2] | some t=>0 :: t.map (fun (b:Nat)=>(b:Int)):=by
     unfold g9
     rw[xm]
     simp only
     rw[if_neg (by rw[hd];decide)]
     rfl
    cases hr:decide (origin q≤n) && decide (n < yearStart q (lastYear q+1)) with
    |false=>
     refine .inl ⟨congrArg V.bl hr,by decide,fun p hp=>k _ p (sB.trans (ao.new hp)) (none_of sB hp) ?_⟩
     have:Vbnlaa.shown q n=none:=by
      unfold Vbnlaa.shown
      rw[wY q (by simp at hr;omega)]
      rfl
     rw[ab,due,this]
     rfl
    |true=>
     refine .inr ⟨congrArg V.bl hr,?_⟩
     simp at hr
     refine⟨q,n,rfl,hr.1,hr.2,fun y m dd hdt y1 y2 m1 m2 d1 d2 H4 l4 s4 h4=>?_⟩
     have sC:=sB.trans s4
     have m12:months q≤13:=by cases q<;>decide
     have y9:y < 10000:=by
      have:lastYear q≤2999:=by cases q<;>decide
      omega
     have fin:∀ (W:Nat),W≤4→gw y W=yearText q y→rF K (V.ref l4) (V.int 0) H4 fun x_1 H1=>bX [x_1,V.int W] H1 (fun x_2 H1=>rF K (V.ref l4) (V.int 1) H1 fun x_3 H1=>bX [x_3,V.int 2] H1 (fun x_4 H1=>
       1≤sizeLine∧∀ (p:Addr),H1 p=none→fI [V.int (cI q)] (upd H1 p (HO.lst [V.int 0])) (fun y H2=>vR (V.ref p) y H2 fun x_5 H1=>vR x_5 x_2 H1 fun x_6 H1=>1≤sizeLine∧∀ (p:Addr),H1 p=none→vR x_6 (V.ref p) (upd H1 p (HO.lst [V.int 45])) fun x_7 H1=>
        vR x_7 x_4 H1 fun x_8 H1=>1≤sizeLine∧∀ (p:Addr),H1 p=none→vR x_8 (V.ref p) (upd H1 p (HO.lst [V.int 45])) fun x_9 H1=>rF K (V.ref l4) (V.int 2) H1 fun x H1=>bX [x,V.int 2] H1 (fun y H2=>vR x_9 y H2 Q) E0) E0) E0) E0:=by
      intro W hW hY
      have lm:((mark q).map nV).length≤2:=by rw[List.length_map];cases q<;>decide
      have lY:=mI y9 hW
      have lM:=mI (n:=m) (w:=2) (by omega) (by decide)
      have lD:=mI (n:=dd) (w:=2) (by omega) (by decide)
      refine ixl (SqL.of h4) (ax (j:=0) rfl) ⟨y,W,rfl,y9,hW,fun H5 ly s5 hy=>?_⟩
      refine ixl (SqL.of (s5 _ _ h4)) (ax (j:=1) rfl) ⟨m,2,rfl,by omega,by decide,fun H6 lm' s6 hm=>⟨by decide,fun p1 hp1=>?_⟩⟩
      have t1:=ao.new (o:=HO.lst [V.int 0]) hp1
      refine⟨q,rfl,fun H7 lk s7 hk=>?_⟩
      refine nG (s7 _ _ ab) hk (by simp at lm ⊢;omega) fun p2 hp2=>?_
      have t2:=ao.new (o:=HO.lst ([V.int 0] ++ (mark q).map nV)) hp2
      have u2:ao H5 _:=(s6.trans t1).trans (s7.trans t2)
      refine nG ab (u2 _ _ hy) (by simp at lm ⊢;omega) fun p3 hp3=>?_
      have t3:=ao.new (o:=HO.lst ([V.int 0] ++ (mark q).map nV ++ (gw y W).map nV)) hp3
      refine⟨by decide,fun p4 hp4=>?_⟩
      have t4:=ao.new (o:=HO.lst [V.int 45]) hp4
      refine nG (t4 _ _ ab) ab (by simp at lm ⊢;omega) fun p5 hp5=>?_
      have t5:=ao.new (o:=HO.lst ([V.int 0] ++ (mark q).map nV ++ (gw y W).map nV ++ [V.int 45])) hp5
      have u5:ao H6 _:=(t1.trans (s7.trans t2)).trans (t3.trans (t4.trans t5))
      refine nG ab (u5 _ _ hm) (by simp at lm ⊢;omega) fun p6 hp6=>?_
      have t6:=ao.new (o:=HO.lst ([V.int 0] ++ (mark q).map nV ++ (gw y W).map nV ++ [V.int 45] ++ (gw m 2).map nV)) hp6
      refine⟨by decide,fun p7 hp7=>?_⟩
      have t7:=ao.new (o:=HO.lst [V.int 45]) hp7
      refine nG (t7 _ _ ab) ab (by simp at lm ⊢;omega) fun p8 hp8=>?_
      have t8:=ao.new (o:=HO.lst ([V.int 0] ++ (mark q).map nV ++ (gw y W).map nV ++ [V.int 45] ++ (gw m 2).map nV ++ [V.int 45])) hp8
      have u8:ao H6 _:=u5.trans (t6.trans (t7.trans t8))
      have u9:ao H4 _:=(s5.trans s6).trans u8
      refine ixl (SqL.of (u9 _ _ h4)) (ax (j:=2) rfl) ⟨dd,2,rfl,by omega,by decide,fun H9 ld s9 hd9=>?_⟩
      refine nG (s9 _ _ ab) hd9 (by simp at lm ⊢;omega) fun p9 hp9=>?_
      refine k _ p9 ((sC.trans u9).trans (s9.trans (ao.new hp9))) (none_of ((sC.trans u9).trans s9) hp9) ?_
      have hsh:Vbnlaa.shown q n=some (mark q ++ (yearText q y ++ (45 :: (pad2 m ++ (45 :: pad2 dd))))):=by
       unfold Vbnlaa.shown
       rw[hdt]
       rfl
      rw[ab,due,hsh,←hY,←wW (n:=m) (by omega),←wW (n:=dd) (by omega)]
      have e:∀ l:List Nat,l.map nV=(l.map fun b:Nat=>(b:Int)).map V.int:=m6
      rw[e,e,e,e]
      simp
     have y4:=AJ y1 y2
     refine F9 (fun h2=>fin 1 (by decide) ?_) (fun h2=>fin 4 (by decide) ?_)
     ·rw[if_pos (by cases q<;>first | rfl | (exact absurd h2 (by decide)))]at y4
      exact y4
     ·rw[if_neg (by intro e;rw[e]at h2;exact h2 rfl)]at y4
      exact y4
end
end Dw
namespace Dw
open PySem PySem.Spec PyProof.Rows L2
open Vbnlaa WayM RepM
def iK (k:Int):Key:=Sum.inl k
def aR (t:aZ):List (Key×V):=t.map fun p=>(iK p.1,V.int p.2)
def cx (H:Hp) (d:Addr) (ws:List W3):Prop:=∃ l:List (Addr×W3),ws=l.map (fun p=>p.2)∧H d=some (.dK (l.map fun p=>(iK p.2.1,V.ref p.1)))∧∀ p∈l,H p.1=some (.tup [.int p.2.2.1,.int p.2.2.2])
def Evs (H:Hp) (d:Addr) (es:List (Int×E4)):Prop:=∃ l:List (Addr×Int×E4),es=l.map (fun p=>p.2)∧H d=some (.dK (l.map fun p=>(iK p.2.1,V.ref p.1)))∧∀ p∈l,H p.1=some (.tup [.int p.2.2.kind,.int p.2.2.u,.int p.2.2.v,.int p.2.2.g])
theorem cx.same {H H':Hp}{d:Addr}{ws:List W3}(h:cx H d ws) (s:ao H H'):cx H' d ws:=by
 obtain⟨l,e,h1,h2⟩:=h
 exact⟨l,e,s _ _ h1,fun p hp=>s _ _ (h2 p hp)⟩
theorem Evs.same {H H':Hp}{d:Addr}{es:List (Int×E4)}(h:Evs H d es) (s:ao H H'):Evs H' d es:=by
 obtain⟨l,e,h1,h2⟩:=h
 exact⟨l,e,s _ _ h1,fun p hp=>s _ _ (h2 p hp)⟩
theorem fH {U:Hp}{d:Addr}{u f:HO}(h:U d=some u):upd (upd U d f) d u=U:=by
 funext b
 unfold upd
 split
 ·rename_i e;rw[e,h]
 ·rfl
theorem cN {U:Hp}{d T:Addr}{x y:HO}(h:T≠d):upd (upd U d x) T y=upd (upd U T y) d x:=by
 funext b
 unfold upd
 by_cases h1:b=T
 ·subst h1
  simp[h]
 ·by_cases h2:b=d
  ·subst h2;simp[h1]
  ·simp[h1,h2]
theorem qv {td:TE}{d:Addr}{kvs:List (Key×V)}{g:TG}{tb:TS}{D:Ends}{σ:L2.St}{H:Hp}(hj:∀ od R,R (.ref d) (upd H d (.frz od (.dK kvs)))→td σ (upd H d (.frz od (.dK kvs))) R) (hd:H d=some (.dK kvs)) (Pv:Nat→L2.St→Hp→Prop) (h0:Pv 0 σ H) (hP:∀ i σ U,Pv i σ U→U d=some (.dK kvs))
  (hs:∀ (i:Nat) k v σ U od,kvs[i]? = some (k,v)→Pv i σ U→g v σ (upd U d (.frz od (.dK kvs))) fun σ2 H2=>tb { nx:=fun σ' H'=>∃ U',H'=upd U' d (.frz od (.dK kvs))∧Pv (i+1) σ' U',ct:=fun σ' H'=>∃ U',H'=upd U' d (.frz od (.dK kvs))∧Pv (i+1) σ' U',rt:=fun v H'=>H' d=some (.frz od (.dK kvs))∧D.rt v (upd H' d (.dK kvs)),bk:=fun σ' H'=>H' d=some (.frz od (.dK kvs))∧D.nx σ' (upd H' d (.dK kvs)) } σ2 H2)
  (he:∀ σ U,Pv kvs.length σ U→D.nx σ U):vw (xw (B9 td) g tb) D σ H:=by
 refine⟨d,.dK kvs,hd,trivial,fun od=>hj od _ ⟨d,od,kvs,rfl,ab,fun i m σ H'=>m=kvs.length - i∧i≤kvs.length∧∃ U,H'=upd U d (.frz od (.dK kvs))∧Pv i σ U,⟨_,rfl,Nat.zero_le _,H,rfl,h0⟩,?_⟩⟩
 rintro i m σ H' ⟨rfl,hi,U,rfl,p⟩
 have hU:=hP i σ U p
 by_cases hlt:i < kvs.length
 ·refine .inr ⟨⟨ab,hlt⟩,fun σ' H'=>∃ U',H'=upd U' d (.frz od (.dK kvs))∧Pv (i+1) σ' U',fun σ' H' p'=>⟨kvs.length - (i+1),by omega,rfl,hlt,p'⟩,fun x H' y=>?_⟩
  obtain⟨e,k,hk⟩:=y
  subst e
  exact hs i k x σ U od hk p
 ·have e:i=kvs.length:=by omega
  subst e
  refine .inl ⟨⟨ab,Nat.le_refl _⟩,ab,?_⟩
  rw[fH hU]
  exact he σ U p
theorem m7 {j:Nat}{d:Addr}{kvs:List (Key×V)}{g:TG}{tb:TS}{D:Ends}{σ:L2.St}{H:Hp}(hj:σ[j]? = some (some (.ref d))) (hd:H d=some (.dK kvs)) (Pv:Nat→L2.St→Hp→Prop) (h0:Pv 0 σ H) (hP:∀ i σ U,Pv i σ U→U d=some (.dK kvs))
  (hs:∀ (i:Nat) k v σ U od,kvs[i]? = some (k,v)→Pv i σ U→g v σ (upd U d (.frz od (.dK kvs))) fun σ2 H2=>tb { nx:=fun σ' H'=>∃ U',H'=upd U' d (.frz od (.dK kvs))∧Pv (i+1) σ' U',ct:=fun σ' H'=>∃ U',H'=upd U' d (.frz od (.dK kvs))∧Pv (i+1) σ' U',rt:=fun v H'=>H' d=some (.frz od (.dK kvs))∧D.rt v (upd H' d (.dK kvs)),bk:=fun σ' H'=>H' d=some (.frz od (.dK kvs))∧D.nx σ' (upd H' d (.dK kvs)) } σ2 H2)
  (he:∀ σ U,Pv kvs.length σ U→D.nx σ U):vw (xw (B9 (kT j)) g tb) D σ H:=
 qv (fun _ _ r=>⟨_,hj,r⟩) hd Pv h0 hP hs he
theorem eF {j:Nat}{d:Addr}{kvs:List (Key×V)}{g:TG}{tb:TS}{D:Ends}{σ:L2.St}{H:Hp}(hj:σ[j]? = some (some (.ref d))) (hd:H d=some (.dK kvs)) (Pv:Nat→L2.St→Hp→Prop) (h0:Pv 0 σ H) (hP:∀ i σ U,Pv i σ U→U d=some (.dK kvs))
  (hs:∀ (i:Nat) k v σ U od T,kvs[i]? = some (k,v)→Pv i σ U→U T=Option.none→T≠d→g (.ref T) σ (upd (upd U T (.tup [kV k,v])) d (.frz od (.dK kvs))) fun σ2 H2=>tb { nx:=fun σ' H'=>∃ U',H'=upd U' d (.frz od (.dK kvs))∧Pv (i+1) σ' U',ct:=fun σ' H'=>∃ U',H'=upd U' d (.frz od (.dK kvs))∧Pv (i+1) σ' U',rt:=fun v H'=>H' d=some (.frz od (.dK kvs))∧D.rt v (upd H' d (.dK kvs)),bk:=fun σ' H'=>H' d=some (.frz od (.dK kvs))∧D.nx σ' (upd H' d (.dK kvs)) } σ2 H2)
  (he:∀ σ U,Pv kvs.length σ U→D.nx σ U):vw (xw (Ca (kT j)) g tb) D σ H:=by
 refine⟨d,.dK kvs,hd,trivial,fun od=>⟨_,hj,d,od,kvs,rfl,ab,fun i m σ H'=>m=kvs.length - i∧i≤kvs.length∧∃ U,H'=upd U d (.frz od (.dK kvs))∧Pv i σ U,⟨_,rfl,Nat.zero_le _,H,rfl,h0⟩,?_⟩⟩
 rintro i m σ H' ⟨rfl,hi,U,rfl,p⟩
 have hU:=hP i σ U p
 by_cases hlt:i < kvs.length
 ·refine .inr ⟨⟨ab,hlt⟩,fun σ' H'=>∃ U',H'=upd U' d (.frz od (.dK kvs))∧Pv (i+1) σ' U',fun σ' H' p'=>⟨kvs.length - (i+1),by omega,rfl,hlt,p'⟩,fun x H' y=>?_⟩
  obtain⟨T,k,v,hk,ex,hT,e⟩:=y
  subst ex e
  have nT:T≠d:=fun z=>by rw[z,ab]at hT;cases hT
  rw[ak nT]at hT
  rw[cN nT]
  exact hs i k v σ U od T hk p hT nT
 ·have e:i=kvs.length:=by omega
  subst e
  refine .inl ⟨⟨ab,Nat.le_refl _⟩,ab,?_⟩
  rw[fH hU]
  exact he σ U p
theorem lA:∀ (t:aZ) (k:Int),cp (aR t) (iK k)=(a4 t k).map V.int
 | [],_=>rfl
 |p :: t,k=>by
  show cp ((iK p.1,V.int p.2) :: aR t) (iK k)=_
  unfold a4
  by_cases e:p.1=k
  ·rw[cB (by rw[e]),if_pos e]
   rfl
  ·rw[bW (fun z=>e (Sum.inl.inj z)),if_neg e]
   exact lA t k
theorem pX {t:aZ}{k:Int}(h:k∈aN t) (v:Int):putK (aR t) (iK k) (V.int v)=aR (jm t k v):=by
 unfold putK
 have:((aR t).any fun kv=>decide (kv.1=iK k))=true:=by
  obtain⟨p,hp,e⟩:=List.mem_map.mp h
  refine List.any_eq_true.mpr ⟨(iK p.1,V.int p.2),List.mem_map.mpr ⟨p,hp,rfl⟩,decide_eq_true ?_⟩
  show iK p.1=iK k
  rw[show p.1=k from e]
 rw[if_pos this]
 unfold aR jm
 rw[List.map_map,List.map_map]
 apply List.map_congr_left
 intro p _
 show (if iK p.1=iK k then (iK p.1,V.int v) else (iK p.1,V.int p.2))=(iK (if p.1=k then (k,v) else p).1,V.int (if p.1=k then (k,v) else p).2)
 by_cases e:p.1=k
 ·rw[if_pos (by rw[e]),if_pos e,e]
 ·rw[if_neg (show ¬ iK p.1=iK k from fun z=>e (Sum.inl.inj z)),if_neg e]
theorem qo {t:aZ}{k:Int}(h:k∉aN t) (v:Int):putK (aR t) (iK k) (V.int v)=aR (t ++ [(k,v)]):=by
 rw[vT]
 ·unfold aR
  rw[List.map_append]
  rfl
 ·rw[lA]
  cases e:a4 t k with
  |none=>rfl
  |some a=>exact absurd (jC e) h
theorem a6 {H:Hp}{l:Addr}{t:aZ}{k a:Int}(h:H l=some (.dK (aR t))) (e:a4 t k=some a):fT H l (.int k) (some (.int a)):=by
 have:=fT.k (k:=iK k) h
 rw[lA,e]at this
 exact this
theorem eV (t:aZ):(aR t).length=t.length:=by unfold aR;rw[List.length_map]
def kl:Sp:=fun vs H Q _=>∃ (a b:Addr) (ws:List W3) (es:List (Int×E4)),vs=[.ref a,.ref b]∧cx H a ws∧Evs H b es∧(ws.map fun w=>w.1).Nodup∧EIn (ws.map fun w=>w.1) (es.map fun e=>e.2)∧ws.length≤40∧es.length≤100 ∧
 ∀ H' l,ao H H'→H l=Option.none→H' l=some (.dK (aR (outer ws (es.map fun e=>e.2))))→Q (.ref l) H'
def nR:Sp:=fun vs H Q _=>∃ (a b:Addr) (t:aZ) (es:List (Int×E4)),vs=[.ref a,.ref b]∧H a=some (.dK (aR t))∧Evs H b es∧(aN t).Nodup∧EIn (aN t) (es.map fun e=>e.2)∧t.length≤40∧es.length≤100 ∧
 ∀ H' l,ao H H'→H l=Option.none→H' l=some (.dK (aR (drawn (es.map fun e=>e.2) t)))→Q (.ref l) H'
def bx:Sp:=fun vs H Q _=>∃ (a b:Addr) (ws:List W3) (es:List (Int×E4)),vs=[.ref a,.ref b]∧cx H a ws∧Evs H b es∧(ws.map fun w=>w.1).Nodup∧EIn (ws.map fun w=>w.1) (es.map fun e=>e.2)∧ws.length≤40∧es.length≤100 ∧
 ∀ H' v,ao H H'→(match bo ws (es.map fun e=>e.2) with | none=>v=V.non | some t=>∃ l,v = .ref l∧H l=Option.none∧H' l=some (.dK (aR t)))→Q v H'
def kW:Sp:=fun vs H Q _=>∃ (a b:Addr) (ws:List W3) (es:List (Int×E4)),vs=[.ref a,.ref b]∧cx H a ws∧Evs H b es∧(ws.map fun w=>w.1).Nodup∧EIn (ws.map fun w=>w.1) (es.map fun e=>e.2)∧ws.length≤40∧es.length≤100 ∧
 ∀ H',ao H H'→Q (.bl (eG ws (es.map fun e=>e.2))) H'
theorem Ah {t:aZ}{e:E4}{old:Int}(c:e.kind=1) (h:a4 t e.u=some old):cu t e=jm t e.u (if e.g < old then e.g else old):=by
 unfold cu
 rw[if_pos c,h]
 rfl
theorem Ag {t:aZ}{e:E4}(c:¬ e.kind=1):cu t e=t:=by
 unfold cu
 rw[if_neg c]
theorem DM {t:aZ}{e:E4}{ou ov:Int}(c:e.kind=2) (h:a4 t e.u=some ou) (h2:a4 t e.v=some ov):cJ t e=jm t e.u (if ov - e.g < ou then ov - e.g else ou):=by
 unfold cJ
 rw[if_pos c,h,h2]
 rfl
theorem DL {t:aZ}{e:E4}{ou ov:Int}(c:e.kind=3) (h:a4 t e.u=some ou) (h2:a4 t e.v=some ov):cJ t e=jm t e.v (if ou+e.g < ov then ou+e.g else ov):=by
 unfold cJ
 rw[if_neg (by omega),if_pos c,h,h2]
 rfl
theorem Cr {t:aZ}{e:E4}(c:¬ e.kind=2) (c3:¬ e.kind=3):cJ t e=t:=by
 unfold cJ
 rw[if_neg c,if_neg c3]
section
variable {P:Program}{w:World}{K:PySem.W.Frag}{mg:Str→Option Value}{base:Heap}
theorem rJ (T:Txt K mg):OkD P w K mg base 1 "outer_days" ["works","evidence"] kl:=by
 obtain⟨f,fd,hm,F,b⟩:=T.u6
 refine⟨f,fd,hm,F.kp,b,F.ok bI (fun vs H Q E h=>?_) (fun cdv A outer s H vs Q E hr h=>?_)⟩
 ·obtain⟨a,b,ws,es,rfl,_⟩:=h
  rfl
 ·obtain⟨a,b,ws,es,rfl,hW,hE,nd,ei,hw,he,k⟩:=h
  have hu:=bR hr
  refine⟨_,(ae (aI (i:=2) bI.nd rfl (Or.inl rfl) dS)
   (ae (dR (bE PassesOwn.never rfl (gI (pv 0)) (cj (K:=K) (n:=2) rfl rfl (aM (aJ (i:=3) bI.nd rfl (Or.inl rfl)) (aM (aJ (i:=4) bI.nd rfl (Or.inl rfl)) cg))) (ag (b9 hu (pv 2) (pv 3) (aH (aL (K:=K) rfl) (pv 4) aj (fun _ _=>rfl)) rfl))))
   (ae (dR (bE PassesOwn.never rfl (jU (pv 1)) (cj (K:=K) (n:=4) rfl rfl (aM (aJ (i:=5) bI.nd rfl (Or.inl rfl)) (aM (aJ (i:=6) bI.nd rfl (Or.inl rfl)) (aM (aJ (i:=7) bI.nd rfl (Or.inl rfl)) (aM (aJ (i:=8) bI.nd rfl (Or.inl rfl)) cg))))) (ag (aK (aA aT (pv 5) (aQ rfl T.eX) (aD _)) (ag (b9 hu (pv 2) (pv 6) (aS (nH rfl) (by rfl) T.BR boot_min (aa (a9 hu (pv 2) (pv 6) (fun _ _=>rfl)) (aa (pv 8) ah))) rfl)) az))))
   (ag (aq (pv 2)))))),?_⟩
  simp![g6]
  have h16:sizeLine=16777216:=sizeLine_eq
  intro l hl
  obtain⟨lw,ew,hd,ht⟩:=hW
  have s0:ao H (upd H l (.dK [])):=ao.new hl
  have hlw:lw.length≤40:=by rw[ew,List.length_map]at hw;exact hw
  have nla:l≠a:=fun e=>by rw[e,hd]at hl;cases hl
  have keep:∀ (U:Hp) (o:HO),ao H U→ao H (upd U l o):=fun U o s b u e=>by
   rw[ak (aF e hl)]
   exact s _ _ e
  refine eF (j:=0) (kvs:=lw.map fun p=>(iK p.2.1,V.ref p.1)) rfl (s0 _ _ hd) (fun i σ U=>ao H U∧U l=some (.dK (aR ((ws.take i).map fun w=>(w.1,w.2.2))))∧∃ x y,σ=[some (V.ref a),some (V.ref b),some (V.ref l),x,y,none,none,none,none]) ⟨s0,ab,_,_,rfl⟩ (fun i σ U p=>p.1 _ _ hd) ?_ ?_
  ·rintro i key v σ U od T hi ⟨s1,hU,x,y,rfl⟩ hT nTa
   rw[List.getElem?_map]at hi
   cases hp:lw[i]? with
   |none=>rw[hp]at hi;cases hi
   |some p=>
    rw[hp]at hi
    obtain⟨e1,e2⟩:=Prod.mk.inj (Option.some.inj hi)
    subst e1 e2
    have mp:=List.mem_of_getElem? hp
    have hv:ws[i]? = some p.2:=by rw[ew,List.getElem?_map,hp];rfl
    have sT:ao U (upd U T (.tup [.int p.2.1,.ref p.1])):=ao.new hT
    have hpa:p.1≠a:=bJ (ht p mp) hd (by intro z;cases z)
    have nlT:l≠T:=aF hU hT
    have nk:p.2.1∉aN ((ws.take i).map fun w=>(w.1,w.2.2)):=by
     unfold aN
     rw[List.map_map]
     intro m
     obtain⟨q,hq,eq⟩:=List.mem_map.mp m
     obtain⟨j,hj⟩:=List.getElem?_of_mem hq
     have hji:j < i:=by
      have:=(List.getElem?_eq_some_iff.mp hj).1
      rw[List.length_take]at this
      omega
     rw[List.getElem?_take_of_lt hji]at hj
     have:=wj nd (i:=j) (j:=i) (x:=p.2.1) (by rw[List.getElem?_map,hj];exact congrArg some eq) (by rw[List.getElem?_map,hv];rfl)
     omega
    refine⟨T,_,rfl,SqT.of (by rw[ak nTa];exact ab),rfl,_,_,rfl,_,_,rfl,rfl,?_⟩
    simp![dP]
    refine ixt (SqT.of (by rw[ak hpa];exact sT _ _ (s1 _ _ (ht p mp)))) (ax (j:=1) rfl) ?_
    refine⟨_,gx.k (k:=iK p.2.1) (by rw[ak nla];exact sT _ _ hU) (by rw[eV,List.length_map,List.length_take];omega),?_⟩
    refine⟨upd (upd U T (.tup [.int p.2.1,.ref p.1])) l (.dK (aR ((ws.take (i+1)).map fun w=>(w.1,w.2.2)))),?_,?_,by rw[ab,List.map_take]⟩
    ·rw[cN nla,qo nk,take_snoc hv,List.map_append]
     rfl
    ·exact keep _ _ (s1.trans sT)
  ·rintro σ U ⟨s1,hU,x,y,rfl⟩
   rw[List.length_map,show lw.length=ws.length by rw[ew,List.length_map],List.take_length]at hU
   have hU:U l=some (.dK (aR (ws.map fun w=>(w.1,w.2.2)))):=hU
   obtain⟨le,ee,hd2,ht2⟩:=hE
   have nlb:l≠b:=fun e=>by rw[e,hd2]at hl;cases hl
   refine m7 (j:=1) (kvs:=le.map fun p=>(iK p.2.1,V.ref p.1)) rfl (s1 _ _ hd2) (fun i σ U=>ao H U∧U l=some (.dK (aR (((es.map fun e=>e.2).take i).foldl cu (ws.map fun w=>(w.1,w.2.2)))))∧∃ x3 x4 x5 x6 x7 x8,σ=[some (V.ref a),some (V.ref b),some (V.ref l),x3,x4,x5,x6,x7,x8]) ⟨s1,hU,_,_,_,_,_,_,rfl⟩ (fun i σ U p=>p.1 _ _ hd2) ?_ ?_
   ·rintro i key v σ U od hi ⟨s2,hU2,x3,x4,x5,x6,x7,x8,rfl⟩
    rw[List.getElem?_map]at hi
    cases hp:le[i]? with
    |none=>rw[hp]at hi;cases hi
    |some p=>
     rw[hp]at hi
     obtain⟨e1,e2⟩:=Prod.mk.inj (Option.some.inj hi)
     subst e1 e2
     have mp:=List.mem_of_getElem? hp
     have hv:(es.map fun e=>e.2)[i]? = some p.2.2:=by rw[ee,List.map_map,List.getElem?_map,hp];rfl
     have hpb:p.1≠b:=bJ (ht2 p mp) hd2 (by intro z;cases z)
     have hmem:p.2.2∈es.map fun e=>e.2:=List.mem_of_getElem? hv
     refine⟨p.1,_,rfl,SqT.of (by rw[ak hpb];exact s2 _ _ (ht2 p mp)),rfl,_,_,rfl,_,_,rfl,_,_,rfl,_,_,rfl,rfl,?_⟩
     simp![dP,dJ]
     have kk:aN (((es.map fun e=>e.2).take i).foldl cu (ws.map fun w=>(w.1,w.2.2)))=ws.map fun w=>w.1:=(jH _ _).trans (mF ws)
     have lk:(((es.map fun e=>e.2).take i).foldl cu (ws.map fun w=>(w.1,w.2.2))).length=ws.length:=by
      have:=congrArg List.length kk
      unfold aN at this
      rw[List.length_map,List.length_map]at this
      exact this
     have tk:=take_snoc hv
     by_cases c:p.2.2.kind=1
     ·rw[if_pos c]
      have inu:p.2.2.u∈aN (((es.map fun e=>e.2).take i).foldl cu (ws.map fun w=>(w.1,w.2.2))):=by rw[kk];exact(ei _ hmem).1
      obtain⟨old,ho⟩:=bp inu
      have hUl:(upd U b (.frz od (.dK (le.map fun p=>(iK p.2.1,V.ref p.1))))) l=some (.dK (aR (((es.map fun e=>e.2).take i).foldl cu (ws.map fun w=>(w.1,w.2.2))))):=by rw[ak nlb];exact hU2
      refine⟨_,a6 hUl ho,old,_,⟨rfl,rfl⟩,?_⟩
      refine⟨_,gx.k (k:=iK p.2.2.u) hUl (by rw[eV,lk];omega),?_⟩
      refine⟨upd U l (.dK (aR (((es.map fun e=>e.2).take (i+1)).foldl cu (ws.map fun w=>(w.1,w.2.2))))),?_,keep _ _ s2,ab⟩
      rw[cN nlb,pX inu,tk,List.foldl_append]
      show _=upd (upd U l (.dK (aR (cu _ p.2.2)))) b _
      rw[Ah c ho]
     ·rw[if_neg c]
      refine⟨U,rfl,s2,?_⟩
      rw[hU2,tk,List.foldl_append]
      show _=some (HO.dK (aR (cu _ p.2.2)))
      rw[Ag c]
   ·rintro σ U ⟨s2,hU2,x3,x4,x5,x6,x7,x8,rfl⟩
    rw[List.length_map,show le.length=(es.map fun e=>e.2).length by rw[ee,List.length_map,List.length_map],List.take_length]at hU2
    simp![tC]
    exact k U l s2 hl hU2
theorem wc (T:Txt K mg):OkD P w K mg base 1 "drawn_in" ["latest","evidence"] nR:=by
 obtain⟨f,fd,hm,F,b⟩:=T.yI
 refine⟨f,fd,hm,F.kp,b,F.ok dH (fun vs H Q E h=>?_) (fun cdv A outer s H vs Q E hr h=>?_)⟩
 ·obtain⟨a,b,t,es,rfl,_⟩:=h
  rfl
 ·obtain⟨a,b,t,es,rfl,hT,hE,nd,ei,hw,he,k⟩:=h
  have hu:=bR hr
  refine⟨_,(ae (aI (i:=2) dH.nd rfl (Or.inl rfl) (dj eI (by rfl) T.m5 boot_dict (aa (pv 0) ah)))
   (ae (dR (bE PassesOwn.never rfl (jU (pv 1)) (cj (K:=K) (n:=4) rfl rfl (aM (aJ (i:=3) dH.nd rfl (Or.inl rfl)) (aM (aJ (i:=4) dH.nd rfl (Or.inl rfl)) (aM (aJ (i:=5) dH.nd rfl (Or.inl rfl)) (aM (aJ (i:=6) dH.nd rfl (Or.inl rfl)) cg))))) (ag (aK (aA aT (pv 3) (aQ rfl T.fF) (aD _)) (ag (b9 hu (pv 2) (pv 4) (aS (nH rfl) (by rfl) T.BR boot_min (aa (a9 hu (pv 2) (pv 4) (fun _ _=>rfl)) (aa (aU du (a9 hu (pv 2) (pv 5) (fun _ _=>rfl)) (pv 6)) ah))) rfl)) (ag (aK (aA aT (pv 3) (aQ rfl T.gQ) (aD _)) (ag (b9 hu (pv 2) (pv 5) (aS (nH rfl) (by rfl) T.BR boot_min (aa (a9 hu (pv 2) (pv 5) (fun _ _=>rfl)) (aa (aU bh (a9 hu (pv 2) (pv 4) (fun _ _=>rfl)) (pv 6)) ah))) rfl)) az))))))
   (ag (aq (pv 2))))),?_⟩
  simp![tC]
  have h16:sizeLine=16777216:=sizeLine_eq
  refine⟨_,hT,fun l hl=>?_⟩
  have s0:ao H (upd H l (.dK (aR t))):=ao.new hl
  have keep:∀ (U:Hp) (o:HO),ao H U→ao H (upd U l o):=fun U o s b u e=>by
   rw[ak (aF e hl)]
   exact s _ _ e
  obtain⟨le,ee,hd2,ht2⟩:=hE
  have nlb:l≠b:=fun e=>by rw[e,hd2]at hl;cases hl
  refine m7 (j:=1) (kvs:=le.map fun p=>(iK p.2.1,V.ref p.1)) rfl (s0 _ _ hd2) (fun i σ U=>ao H U∧U l=some (.dK (aR (((es.map fun e=>e.2).take i).foldl cJ t)))∧∃ x3 x4 x5 x6,σ=[some (V.ref a),some (V.ref b),some (V.ref l),x3,x4,x5,x6]) ⟨s0,ab,_,_,_,_,rfl⟩ (fun i σ U p=>p.1 _ _ hd2) ?_ ?_
  ·rintro i key v σ U od hi ⟨s2,hU2,x3,x4,x5,x6,rfl⟩
   rw[List.getElem?_map]at hi
   cases hp:le[i]? with
   |none=>rw[hp]at hi;cases hi
   |some p=>
    rw[hp]at hi
    obtain⟨e1,e2⟩:=Prod.mk.inj (Option.some.inj hi)
    subst e1 e2
    have mp:=List.mem_of_getElem? hp
    have hv:(es.map fun e=>e.2)[i]? = some p.2.2:=by rw[ee,List.map_map,List.getElem?_map,hp];rfl
    have hpb:p.1≠b:=bJ (ht2 p mp) hd2 (by intro z;cases z)
    have hmem:p.2.2∈es.map fun e=>e.2:=List.mem_of_getElem? hv
    refine⟨p.1,_,rfl,SqT.of (by rw[ak hpb];exact s2 _ _ (ht2 p mp)),rfl,_,_,rfl,_,_,rfl,_,_,rfl,_,_,rfl,rfl,?_⟩
    simp![dP,dJ]
    have kk:aN (((es.map fun e=>e.2).take i).foldl cJ t)=aN t:=c9 _ _
    have lk:(((es.map fun e=>e.2).take i).foldl cJ t).length=t.length:=by
     have:=congrArg List.length kk
     unfold aN at this
     rw[List.length_map,List.length_map]at this
     exact this
    have tk:=take_snoc hv
    have hUl:(upd U b (.frz od (.dK (le.map fun p=>(iK p.2.1,V.ref p.1))))) l=some (.dK (aR (((es.map fun e=>e.2).take i).foldl cJ t))):=by rw[ak nlb];exact hU2
    have inu:p.2.2.u∈aN (((es.map fun e=>e.2).take i).foldl cJ t):=by rw[kk];exact(ei _ hmem).1
    obtain⟨ou,hou⟩:=bp inu
    by_cases c:p.2.2.kind=2
    ·rw[if_pos c]
     have inv:p.2.2.v∈aN (((es.map fun e=>e.2).take i).foldl cJ t):=by rw[kk];exact(ei _ hmem).2 (.inl c)
     obtain⟨ov,hov⟩:=bp inv
     refine⟨_,a6 hUl hou,_,a6 hUl hov,ov,rfl,ou,_,⟨rfl,rfl⟩,?_⟩
     refine⟨_,gx.k (k:=iK p.2.2.u) hUl (by rw[eV,lk];omega),?_⟩
     refine⟨upd U l (.dK (aR (((es.map fun e=>e.2).take (i+1)).foldl cJ t))),?_,keep _ _ s2,ab⟩
     rw[cN nlb,pX inu,tk,List.foldl_append]
     show _=upd (upd U l (.dK (aR (cJ _ p.2.2)))) b _
     rw[DM c hou hov]
    ·rw[if_neg c]
     by_cases c3:p.2.2.kind=3
     ·rw[if_pos c3]
      have inv:p.2.2.v∈aN (((es.map fun e=>e.2).take i).foldl cJ t):=by rw[kk];exact(ei _ hmem).2 (.inr c3)
      obtain⟨ov,hov⟩:=bp inv
      refine⟨_,a6 hUl hov,_,a6 hUl hou,ou,rfl,ov,_,⟨rfl,rfl⟩,?_⟩
      refine⟨_,gx.k (k:=iK p.2.2.v) hUl (by rw[eV,lk];omega),?_⟩
      refine⟨upd U l (.dK (aR (((es.map fun e=>e.2).take (i+1)).foldl cJ t))),?_,keep _ _ s2,ab⟩
      rw[cN nlb,pX inv,tk,List.foldl_append]
      show _=upd (upd U l (.dK (aR (cJ _ p.2.2)))) b _
      rw[DL c3 hou hov]
     ·rw[if_neg c3]
      refine⟨U,rfl,s2,?_⟩
      rw[hU2,tk,List.foldl_append]
      show _=some (HO.dK (aR (cJ _ p.2.2)))
      rw[Cr c c3]
  ·rintro σ U ⟨s2,hU2,x3,x4,x5,x6,rfl⟩
   rw[List.length_map,show le.length=(es.map fun e=>e.2).length by rw[ee,List.length_map,List.length_map],List.take_length]at hU2
   simp![tC]
   exact k U l s2 hl hU2
theorem yb (T:Txt K mg) (Gx:OkD P w K mg base 2 "latest_days" ["works","evidence"] bx):OkD P w K mg base 3 "has_way" ["works","evidence"] kW:=by
 obtain⟨f,fd,hm,F,b⟩:=T.AV
 refine⟨f,fd,hm,F.kp,b,F.ok cW (fun vs H Q E h=>?_) (fun cdv A outer s H vs Q E hr h=>?_)⟩
 ·obtain⟨a,b,ws,es,rfl,_⟩:=h
  rfl
 ·obtain⟨a,b,ws,es,rfl,hW,hE,nd,ei,hw,he,k⟩:=h
  have hu:=bR hr
  refine⟨_,(ae (aI (i:=2) cW.nd rfl (Or.inl rfl) (aB Gx hr rfl (aa (pv 0) (aa (pv 1) ah))))
   (ae (aK (aA BJ (pv 2) jr (aD _)) (ag (aq og)) az)
   (ae (dR (bE PassesOwn.never rfl (gI (pv 0)) (cj (K:=K) (n:=2) rfl rfl (aM (aJ (i:=3) cW.nd rfl (Or.inl rfl)) (aM (aJ (i:=4) cW.nd rfl (Or.inl rfl)) cg))) (ag (aK (aA kK (a9 hu (pv 2) (pv 3) (fun _ _=>rfl)) (aH (aL (K:=K) rfl) (pv 4) aj (fun _ _=>rfl)) (aD _)) (ag (aq og)) az))))
   (ae (dR (bE PassesOwn.never rfl (jU (pv 1)) (cj (K:=K) (n:=4) rfl rfl (aM (aJ (i:=5) cW.nd rfl (Or.inl rfl)) (aM (aJ (i:=6) cW.nd rfl (Or.inl rfl)) (aM (aJ (i:=7) cW.nd rfl (Or.inl rfl)) (aM (aJ (i:=8) cW.nd rfl (Or.inl rfl)) cg))))) (ag (aK (PW.pt (ie (aA aT (pv 5) (aQ rfl T.dm) (aD _)) (fu (aA kK (a9 hu (pv 2) (pv 6) (fun _ _=>rfl)) (pv 8) (aD _))))) (ag (aq og)) az))))
   (ag (aq og)))))),?_⟩
  simp![tC]
  have h16:sizeLine=16777216:=sizeLine_eq
  refine⟨a,b,ws,es,rfl,hW,hE,nd,ei,hw,he,fun H1 v s1 hv=>?_⟩
  cases ht:bo ws (es.map fun e=>e.2) with
  |none=>
   rw[ht]at hv
   have hv:v=V.non:=hv
   rw[if_pos hv]
   refine vq (k H1 s1) (congrArg V.bl ?_)
   unfold eG
   rw[ht]
  |some t=>
   rw[ht]at hv
   obtain⟨l,rfl,hl0,hl⟩:=hv
   rw[if_neg (fun z=>nomatch z)]
   have way:eG ws (es.map fun e=>e.2)=(ws.all (fun w=>!decide ((a4 t w.1).getD 0 < w.2.1)) && (es.map fun e=>e.2).all (fun e=>!(decide (e.kind=0) && decide ((a4 t e.u).getD 0 < e.g)))):=by
    unfold eG
    rw[ht]
   have kt:aN t=ws.map fun w=>w.1:=by
    obtain⟨_,k0,h2⟩:=kR (show turns (es.map fun e=>e.2) (ws.length+1) (WayM.outer ws (es.map fun e=>e.2))=some t from ht)
    rw[h2]
    exact(fR _ _ _).trans gk
   obtain⟨lw,ew,hd,htup⟩:=hW
   have nla:l≠a:=fun e=>by rw[e,hd]at hl0;cases hl0
   refine eF (j:=0) (kvs:=lw.map fun p=>(iK p.2.1,V.ref p.1)) rfl (s1 _ _ hd) (fun i σ U=>ao H1 U∧(∀ w∈ws.take i,¬ (a4 t w.1).getD 0 < w.2.1)∧∃ x y,σ=[some (V.ref a),some (V.ref b),some (V.ref l),x,y,none,none,none,none]) ⟨ao.refl _,fun w hw=>absurd hw (by simp),_,_,rfl⟩ (fun i σ U p=>p.1 _ _ (s1 _ _ hd)) ?_ ?_
   ·rintro i key v σ U od T' hi ⟨s2,hn,x,y,rfl⟩ hT nTa
    rw[List.getElem?_map]at hi
    cases hp:lw[i]? with
    |none=>rw[hp]at hi;cases hi
    |some p=>
     rw[hp]at hi
     obtain⟨e1,e2⟩:=Prod.mk.inj (Option.some.inj hi)
     subst e1 e2
     have mp:=List.mem_of_getElem? hp
     have hv:ws[i]? = some p.2:=by rw[ew,List.getElem?_map,hp];rfl
     have sT:ao U (upd U T' (.tup [.int p.2.1,.ref p.1])):=ao.new hT
     have hpa:p.1≠a:=bJ (htup p mp) hd (by intro z;cases z)
     have ink:p.2.1∈aN t:=by rw[kt];exact List.mem_map.mpr ⟨p.2,List.mem_of_getElem? hv,rfl⟩
     obtain⟨old,ho⟩:=bp ink
     refine⟨T',_,rfl,SqT.of (by rw[ak nTa];exact ab),rfl,_,_,rfl,_,_,rfl,rfl,?_⟩
     simp![dJ]
     refine⟨_,a6 (by rw[ak nla];exact sT _ _ (s2 _ _ hl)) ho,?_⟩
     refine ixt (SqT.of (by rw[ak hpa];exact sT _ _ (s2 _ _ (s1 _ _ (htup p mp))))) (ax (j:=0) rfl) ⟨_,rfl,_,rfl,?_⟩
     by_cases c:old < p.2.2.1
     ·rw[if_pos c]
      refine⟨ab,?_⟩
      rw[fH (by rw[ak (Ne.symm nTa)];exact s2 _ _ (s1 _ _ hd))]
      refine vq (k _ ((s1.trans s2).trans sT)) (congrArg V.bl ?_)
      rw[way,Bool.and_eq_false_iff]
      left
      rw[List.all_eq_false]
      refine⟨p.2,List.mem_of_getElem? hv,?_⟩
      rw[ho]
      simp[c]
     ·rw[if_neg c]
      refine⟨upd U T' (.tup [.int p.2.1,.ref p.1]),rfl,s2.trans sT,?_⟩
      have goal:∀ w∈ws.take (i+1),¬ (a4 t w.1).getD 0 < w.2.1:=fun w hw=>by
       rw[take_snoc hv]at hw
       rcases List.mem_append.mp hw with q | q
       ·exact hn w q
       ·rw[List.mem_singleton.mp q,ho]
        exact c
      simpa using goal
   ·rintro σ U ⟨s2,hn,x,y,rfl⟩
    rw[List.length_map,show lw.length=ws.length by rw[ew,List.length_map],List.take_length]at hn
    obtain⟨le,ee,hd2,ht2⟩:=hE
    have nlb:l≠b:=fun e=>by rw[e,hd2]at hl0;cases hl0
    refine m7 (j:=1) (kvs:=le.map fun p=>(iK p.2.1,V.ref p.1)) rfl (s2 _ _ (s1 _ _ hd2)) (fun i σ U=>ao H1 U∧(∀ e∈(es.map fun e=>e.2).take i,¬ (e.kind=0∧(a4 t e.u).getD 0 < e.g))∧∃ x3 x4 x5 x6 x7 x8,σ=[some (V.ref a),some (V.ref b),some (V.ref l),x3,x4,x5,x6,x7,x8]) ⟨s2,fun w hw=>absurd hw (by simp),_,_,_,_,_,_,rfl⟩ (fun i σ U p=>p.1 _ _ (s1 _ _ hd2)) ?_ ?_
    ·rintro i key v σ U od hi ⟨s3,hn2,x3,x4,x5,x6,x7,x8,rfl⟩
     rw[List.getElem?_map]at hi
     cases hp:le[i]? with
     |none=>rw[hp]at hi;cases hi
     |some p=>
      rw[hp]at hi
      obtain⟨e1,e2⟩:=Prod.mk.inj (Option.some.inj hi)
      subst e1 e2
      have mp:=List.mem_of_getElem? hp
      have hv:(es.map fun e=>e.2)[i]? = some p.2.2:=by rw[ee,List.map_map,List.getElem?_map,hp];rfl
      have hpb:p.1≠b:=bJ (ht2 p mp) hd2 (by intro z;cases z)
      have hmem:p.2.2∈es.map fun e=>e.2:=List.mem_of_getElem? hv
      have ink:p.2.2.u∈aN t:=by rw[kt];exact(ei _ hmem).1
      obtain⟨old,ho⟩:=bp ink
      refine⟨p.1,_,rfl,SqT.of (by rw[ak hpb];exact s3 _ _ (s1 _ _ (ht2 p mp))),rfl,_,_,rfl,_,_,rfl,_,_,rfl,_,_,rfl,rfl,?_⟩
      simp![dJ]
      have tk:=take_snoc hv
      have goal:¬ (p.2.2.kind=0∧old < p.2.2.g)→∀ e∈(es.map fun e=>e.2).take (i+1),¬ (e.kind=0∧(a4 t e.u).getD 0 < e.g):=fun c e he=>by
       rw[tk]at he
       rcases List.mem_append.mp he with q | q
       ·exact hn2 e q
       ·rw[List.mem_singleton.mp q,ho]
        exact c
      by_cases c0:p.2.2.kind=0
      ·rw[if_pos c0]
       refine⟨_,a6 (by rw[ak nlb];exact s3 _ _ hl) ho,old,rfl,?_⟩
       by_cases c:old < p.2.2.g
       ·rw[if_pos c]
        refine⟨ab,?_⟩
        rw[fH (s3 _ _ (s1 _ _ hd2))]
        refine vq (k _ (s1.trans s3)) (congrArg V.bl ?_)
        rw[way,Bool.and_eq_false_iff]
        right
        rw[List.all_eq_false]
        refine⟨p.2.2,hmem,?_⟩
        rw[ho]
        simp[c,c0]
       ·rw[if_neg c]
        have g:=goal fun z=>c z.2
        refine⟨U,rfl,s3,?_⟩
        simpa using g
      ·rw[if_neg c0]
       have g:=goal fun z=>c0 z.1
       refine⟨U,rfl,s3,?_⟩
       simpa using g
    ·rintro σ U ⟨s3,hn2,x3,x4,x5,x6,x7,x8,rfl⟩
     rw[List.length_map,show le.length=(es.map fun e=>e.2).length by rw[ee,List.length_map,List.length_map],List.take_length]at hn2
     simp![tC]
     refine vq (k U (s1.trans s3)) (congrArg V.bl ?_)
     rw[way,Bool.and_eq_true,List.all_eq_true,List.all_eq_true]
     refine⟨fun w hw=>?_,fun e he=>?_⟩
     ·simpa using hn w hw
     ·have:=hn2 e he
      simp
      omega
end
end Dw
namespace Dw
open PySem PySem.Spec PyProof.Rows L2
open Sem (wp)
section
variable {prog:Program}{w:World}{κ:Type} [DecidableEq κ] {knd:KeyKind prog w κ}{A:Around}{E:Value→Shared→Prop}{s:Shared}
theorem pairs_at {es:List DictEntry}{kvs:List (κ×Value)}(h:Pairs knd es kvs):∀ {i:Nat}{kv:κ×Value},kvs[i]? = some kv→∃ e,es[i]? = some e∧knd.is kv.1 e.key=true∧e.val=kv.2:=by
 induction h with
 |nil=>intro i kv h;simp at h
 |@cons e kv es kvs h1 h2 _ ih=>
  intro i kv' h
  cases i with
  |zero=>
   have h:=Option.some.inj h
   subst h
   exact⟨e,rfl,h1,h2⟩
  |succ i=>
   obtain⟨e',h3,h4⟩:=ih (i:=i) (by simpa using h)
   exact⟨e',by simpa using h3,h4⟩
theorem uL:∀ {vs:List Value}{t:List Int}{i:Nat}{v:Value},IntsAre vs t→vs[i]? = some v→∃ n k,t[i]? = some n∧v = .int n k
 |_,_,_,_,.nil,h=>by simp at h
 |_,_,0,_,.cons n k _,h=>by
  have h:=Option.some.inj h
  subst h
  exact⟨n,k,rfl,rfl⟩
 |_,_,i+1,_,.cons n k r,h=>by
  obtain⟨m,k',h1,h2⟩:=uL (i:=i) r (by simpa using h)
  exact⟨m,k',by simpa using h1,h2⟩
theorem uN {kvs:List (κ×Value)}(hn:(kvs.map (·.1)).Nodup) {i:Nat}{kv:κ×Value}(h:kvs[i]? = some kv):(kvs.findIdx? fun x=>decide (x.1=kv.1))=some i:=by
 induction kvs generalizing i with
 |nil=>simp at h
 |cons a r ih=>
  rw[List.map_cons,List.nodup_cons]at hn
  rw[List.findIdx?_cons]
  cases i with
  |zero=>
   have h:=Option.some.inj h
   subst h
   simp
  |succ i=>
   have h:r[i]? = some kv:=by simpa using h
   have:¬ a.1=kv.1:=fun e=>hn.1 (by rw[e];exact List.mem_map.mpr ⟨kv,List.mem_of_getElem? h,rfl⟩)
   rw[if_neg (by simp[this]),ih hn.2 h]
   rfl
theorem xH {id:String}{a b:Addr}{kvs lvs:List (κ×Value)}{t u:List Int}{Q:Bool→Shared→Prop}(ha:(a == sysModules)=false) (hb:(b == sysModules)=false) (da:s.heap.DictOf knd a kvs) (db:s.heap.DictOf knd b lvs)
  (hk:kvs.map (·.1)=lvs.map (·.1)) (ia:IntsAre (kvs.map (·.2)) t) (ib:IntsAre (lvs.map (·.2)) u) (h:Q (decide (t=u)) s):wpAny (model prog w) A (Builtin.Dict.samePairs id a b) Q E s:=by
 obtain⟨oa,ea,pa,hoa,hca,hda,hka,hpa,hna⟩:=da
 obtain⟨ob,eb,pb,hob,hcb,hdb,hkb,hpb,hnb⟩:=db
 have lkl:kvs.length=lvs.length:=by
  have:=congrArg List.length hk
  rw[List.length_map,List.length_map]at this
  exact this
 have sa:ea.size=kvs.length:=by rw[←hpa.length];simp
 have sb:eb.size=lvs.length:=by rw[←hpb.length];simp
 unfold Builtin.Dict.samePairs
 refine wpAny_bind ?_
 unfold Builtin.Dict.showsAll
 rw[if_neg (by rw[ha];exact Bool.false_ne_true)]
 refine wpAny_pure (wpAny_bind ?_)
 rw[if_neg (by rw[hb];exact Bool.false_ne_true)]
 refine wpAny_pure (wpAny_bind (wpAny_dictEntries hoa hda ?_))
 refine wpAny_bind (wpAny_dictEntries hob hdb ?_)
 rw[if_neg (by rw[sa,sb,lkl];simp)]
 have lt:t.length=kvs.length:=by have:=ia.length;rw[List.length_map]at this;omega
 have lu:u.length=lvs.length:=by have:=ib.length;rw[List.length_map]at this;omega
 refine wpAny_bind (wpAny_dictEpoch hoa hda ?_)
 refine wpAny_bind ?_
 rw[Std.Legacy.Range.forIn_eq_forIn_range']
 simp only[Std.Legacy.Range.size,Nat.sub_zero,Nat.add_sub_cancel,Nat.div_one]
 refine wpAny_forIn_list _ (fun rest st s'=>s'=s∧st=(none,())∧∃ i,rest=List.range' i (ea.size - i)∧i≤ea.size∧t.take i=u.take i) _ ?_ ?_ _ _ ⟨rfl,rfl,0,by simp,Nat.zero_le _,rfl⟩
 ·rintro x rest st s' ⟨rfl,rfl,i,hr,hi,htu⟩
  have hlt:i < ea.size:=by
   rcases Nat.lt_or_ge i ea.size with h | h
   ·exact h
   ·rw[Nat.sub_eq_zero_of_le h]at hr;simp at hr
  obtain⟨rfl,hrest⟩:x=i∧rest=List.range' (i+1) (ea.size - (i+1)):=by
   have e:ea.size - i=(ea.size - (i+1))+1:=by omega
   rw[e,List.range'_succ]at hr
   injection hr with h1 h2
   exact⟨h1,h2⟩
  obtain⟨kv,hkv⟩:∃ kv,kvs[x]? = some kv:=⟨_,List.getElem?_eq_getElem (by omega)⟩
  obtain⟨lv,hlv⟩:∃ lv,lvs[x]? = some lv:=⟨_,List.getElem?_eq_getElem (by omega)⟩
  have hkk:kv.1=lv.1:=by
   have h1:(kvs.map (·.1))[x]? = some kv.1:=by rw[List.getElem?_map,hkv];rfl
   have h2:(lvs.map (·.1))[x]? = some lv.1:=by rw[List.getElem?_map,hlv];rfl
   rw[hk,h2]at h1
   exact(Option.some.inj h1).symm
  obtain⟨e,he,hek,hev⟩:=pairs_at hpa hkv
  obtain⟨f,hf,hfk,hfv⟩:=pairs_at hpb hlv
  obtain⟨n,k1,hn1,hv1⟩:=uL (i:=x) ia (by rw[List.getElem?_map,hkv];rfl)
  obtain⟨m,k2,hn2,hv2⟩:=uL (i:=x) ib (by rw[List.getElem?_map,hlv];rfl)
  have he':ea[x]? = some e:=by rw[←Array.getElem?_toList];exact he
  have hf':eb[x]? = some f:=by rw[←Array.getElem?_toList];exact hf
  have hh:e.hash=knd.hash kv.1:=by
   obtain⟨k',h1,h2⟩:=hka e (Array.mem_of_getElem? he')
   rw[h2,knd.inj _ _ _ h1 hek]
  refine wpAny_bind (wpAny_dictEntries hoa hda ?_)
  rw[he']
  refine wpAny_bind (wpAny_holding ?_)
  rw[hh]
  refine wpAny_bind (wpAny_dictFind_of hek hob hdb hkb ?_)
  have hidx:(eb.findIdx? fun e=>knd.is kv.1 e.key)=some x:=by
   have e1:∀ (x:Array DictEntry) (p:DictEntry→Bool),x.findIdx? p=x.toList.findIdx? p:=by intro x p;cases x;simp
   rw[e1,hpb.findIdx,hkk]
   exact uN hnb hlv
  rw[hidx]
  refine wpAny_bind (wpAny_dictEntries hob hdb ?_)
  rw[hf']
  refine wpAny_holding ?_
  have hv1:kv.2 = .int n k1:=hv1
  have hv2:lv.2 = .int m k2:=hv2
  rw[hev,hfv,hv1,hv2]
  refine wpAny_eqBool_int ?_
  by_cases c:n=m
  ·subst c
   rw[beq_self_eq_true,if_neg (by decide)]
   refine wpAny_bind (wpAny_dictEpoch hoa hda ?_)
   rw[if_neg (by simp)]
   refine wpAny_pure ⟨rfl,rfl,x+1,hrest,hlt,?_⟩
   rw[take_snoc hn1,take_snoc hn2,htu]
  ·have hne:(n == m)=false:=beq_eq_false_iff_ne.mpr c
   rw[hne,if_pos (by decide)]
   refine wpAny_pure (wpAny_pure ?_)
   have:t≠u:=fun z=>by
    rw[z,hn2]at hn1
    exact c (Option.some.inj hn1).symm
   rw[decide_eq_false this]at h
   exact h
 ·rintro st s' ⟨rfl,rfl,i,hr,hi,htu⟩
  have:i=ea.size:=by
   rcases Nat.lt_or_ge i ea.size with h | h
   ·have e:ea.size - i=(ea.size - (i+1))+1:=by omega
    rw[e,List.range'_succ]at hr
    cases hr
   ·omega
  subst this
  rw[List.take_of_length_le (by omega),List.take_of_length_le (by omega)]at htu
  refine wpAny_pure ?_
  rw[decide_eq_true htu]at h
  exact h
theorem rM (knd:KeyKind prog w κ) (a b:Addr) (ha:(a == sysModules)=false) (hb:(b == sysModules)=false) :
  MeetsIn prog w (Builtin.«dict.__eq__» ⟨[.ref a,.ref b],[]⟩) (fun _ R s=>∃ (kvs lvs:List (κ×Value)) (t u:List Int),s.heap.DictOf knd a kvs∧s.heap.DictOf knd b lvs∧kvs.map (·.1)=lvs.map (·.1)∧IntsAre (kvs.map (·.2)) t∧IntsAre (lvs.map (·.2)) u∧R (.ok (.ret (.bool (decide (t=u))))) s):=
 .of_wp fun A R s ⟨kvs,lvs,t,u,da,db,hk,ia,ib,h⟩=>by
  show wpAny _ _ (Builtin.Dict.dictSlotArgs "__eq__" ⟨[.ref a,.ref b],[]⟩ >>= _) _ _ s
  refine wpAny_bind ?_
  unfold Builtin.Dict.dictSlotArgs
  refine wpAny_bind (wpAny_notOrdered_dict da.typeIs ?_)
  show wpAny _ _ (pure (Value.ref a,Value.ref b)) _ _ s
  refine wpAny_pure ?_
  refine wpAny_bind (wpAny_isInstance db.typeIs isSubtype_dict_dict ?_)
  simp only[Bool.not_true,Bool.false_eq_true,if_false]
  refine wpAny_bind (wpAny_pure (wpAny_bind (wpAny_pure (wpAny_bind (xH (knd:=knd) ha hb da db hk ia ib ?_)))))
  refine wpAny_pure ⟨_,rfl,?_⟩
  rw[beq_true]
  exact h
end
section
variable {X:Cx}
theorem ud:∀ {t:List (Int×Int)}{vs:List (Key×Value)},KV (t.map fun p=>((Sum.inl p.1:Key),V.int p.2)) vs→vs.map (·.1)=t.map (fun p=>(Sum.inl p.1:Key))∧IntsAre (vs.map (·.2)) (t.map fun p=>p.2)
 | [],vs,h=>by
  rw[List.map_nil]at h
  cases h
  exact⟨rfl,.nil⟩
 |p :: t,vs,h=>by
  rw[List.map_cons]at h
  cases h with
  |cons h1 h2=>
   obtain⟨e1,k,e2⟩:=h1
   obtain⟨i1,i2⟩:=ud h2
   refine⟨?_,?_⟩
   ·rw[List.map_cons,List.map_cons,i1,←e1]
   ·rw[List.map_cons,List.map_cons,e2]
    exact .cons _ _ i2
theorem Ai (hu:X.A.units+1 < cLine):OpR X (compareOp .Eq) (fun x y H Q=>∃ a b,∃ t u:List (Int×Int),x = .ref a∧y = .ref b∧H a=some (.dK (t.map fun p=>((Sum.inl p.1:Key),V.int p.2)))∧H b=some (.dK (u.map fun p=>((Sum.inl p.1:Key),V.int p.2)))∧(t.map fun p=>p.1)=(u.map fun p=>p.1)∧Q (.bl (decide (t=u))) H):=by
 intro pins s σ H x y v v' Q I rx ry h
 obtain⟨a,b,t,u,rfl,rfl,ha,hb,hk,q⟩:=h
 cases rx
 cases ry
 obtain⟨_,hSa,va,ra,ma⟩:_∧(a == sysModules)=false∧∃ vs,KV _ vs∧s.heap.DictOf (aY X.prog X.w) a vs:=I.hok a _ ha
 obtain⟨_,hSb,vb,rb,mb⟩:_∧(b == sysModules)=false∧∃ vs,KV _ vs∧s.heap.DictOf (aY X.prog X.w) b vs:=I.hok b _ hb
 obtain⟨ka,ia⟩:=ud ra
 obtain⟨kb,ib⟩:=ud rb
 have kk:va.map (·.1)=vb.map (·.1):=by
  rw[ka,kb]
  have:=congrArg (List.map (fun k:Int=>(Sum.inl k:Key))) hk
  rw[List.map_map,List.map_map]at this
  exact this
 have same:decide ((t.map fun p=>p.2)=u.map fun p=>p.2)=decide (t=u):=by
  have go:∀ (t u:List (Int×Int)),(t.map fun p=>p.1)=(u.map fun p=>p.1)→(t.map fun p=>p.2)=(u.map fun p=>p.2)→t=u:=by
   intro t
   induction t with
   |nil=>intro u h1 h2;cases u with
    |nil=>rfl
    |cons _ _=>cases h1
   |cons p t ih=>
    intro u h1 h2
    cases u with
    |nil=>cases h1
    |cons q u=>
     rw[List.map_cons,List.map_cons]at h1 h2
     injection h1 with a1 a2
     injection h2 with b1 b2
     rw[ih u a2 b2,show p=q from Prod.ext a1 b1]
  by_cases c:t=u
  ·subst c;simp
  ·rw[decide_eq_false c,decide_eq_false fun z=>c (go t u hk z)]
 show wpAny _ _ (richCompare .Eq _ _) _ _ s
 refine wpAny_richCompare_same_room ma.typeIs mb.typeIs F.slot_dict_eq (call_meetsIn F.slot_dict_eq ma.typeIs F.entry_dict_eq (F.args_dict_eq_2 _ _) (rM (aY X.prog X.w) a b hSa hSb) ⟨va,vb,_,_,ma,mb,kk,ia,ib,?_⟩) (by omega)
 rw[same]
 exact⟨(fun z=>nomatch z),V.bl _,H,I,rfl,q⟩
end
end Dw
namespace Dw
open PySem PySem.Spec PyProof.Rows L2
open Vbnlaa WayM RepM
section
variable {P:Program}{w:World}{K:PySem.W.Frag}{mg:Str→Option Value}{base:Heap}
theorem qh (T:Txt K mg) (Ht:OkD P w K mg base 1 "outer_days" ["works","evidence"] kl) (HJ:OkD P w K mg base 1 "drawn_in" ["latest","evidence"] nR):OkD P w K mg base 2 "latest_days" ["works","evidence"] bx:=by
 obtain⟨f,fd,hm,F,b⟩:=T.sf
 refine⟨f,fd,hm,F.kp,b,F.ok cV (fun vs H Q E h=>?_) (fun cdv A outer s H vs Q E hr h=>?_)⟩
 ·obtain⟨a,b,ws,es,rfl,_⟩:=h
  rfl
 ·obtain⟨a,b,ws,es,rfl,hW,hE,nd,ei,hw,he,k⟩:=h
  have hu:=bR hr
  refine⟨_,(ae (aI (i:=2) cV.nd rfl (Or.inl rfl) (aB Ht hr rfl (aa (pv 0) (aa (pv 1) ah))))
   (ae (bE PassesOwn.never rfl (sY rfl T.uH (aa (aU bh (aS gZ (by rfl) T.dB PySem.boot_len (aa (pv 0) ah)) aj) ah)) (aJ (i:=3) cV.nd rfl (Or.inl rfl)) (ae (aI (i:=4) cV.nd rfl (Or.inl rfl) (aB HJ hr rfl (aa (pv 2) (aa (pv 1) ah))))
   (ae (aK (aA (Ai (bR hr)) (pv 4) (pv 2) (aD _)) (ag (aq (pv 2))) az)
   (ag (aI (i:=2) cV.nd rfl (Or.inl rfl) (pv 4))))))
   (ag (aq jr)))),?_⟩
  simp![tC]
  refine⟨a,b,ws,es,rfl,hW,hE,nd,ei,hw,he,fun H1 l s1 hl0 hl=>?_⟩
  have ko:aN (WayM.outer ws (es.map fun e=>e.2))=ws.map fun w=>w.1:=gk
  obtain⟨lw,ew,hd,htup⟩:=id hW
  have hlw:lw.length=ws.length:=by rw[ew,List.length_map]
  refine⟨_,rfl,a,rfl,_,s1 _ _ hd,_,_,rfl,rfl,_,rfl,by rw[List.length_map];omega,by rw[List.length_map];omega,
   tQ (lo:=0) (fun i σ H'=>ao H H'∧∃ l t x y,σ=[some (V.ref a),some (V.ref b),some (V.ref l),x,y]∧H l=Option.none∧H' l=some (.dK (aR t))∧aN t=(ws.map fun w=>w.1)∧bo ws (es.map fun e=>e.2)=turns (es.map fun e=>e.2) (ws.length+1 - i) t) ⟨s1,l,_,_,_,rfl,hl0,hl,ko,rfl⟩ ?_ ?_⟩
  ·rintro i σ H' hi ⟨s2,l2,t,x,y,rfl,Kz,hl2,kt,hT⟩
   rw[List.length_map]at hi
   have hi':i < ws.length+1:=by omega
   have lt:t.length=ws.length:=by
    have:=congrArg List.length kt
    unfold aN at this
    rw[List.length_map,List.length_map]at this
    exact this
   simp![tC]
   refine⟨l2,b,t,es,rfl,hl2,hE.same s2,by rw[kt];exact nd,by rw[kt];exact ei,by omega,he,fun H3 l3 s3 K7 hl3=>?_⟩
   refine⟨l3,rfl,drawn (es.map fun e:Int×E4=>e.2) t,hl3,t,s3 _ _ hl2,c9 _ _,?_⟩
   have e:ws.length+1 - i=(ws.length+1 - (i+1))+1:=by omega
   rw[e]at hT
   unfold turns at hT
   by_cases c:drawn (es.map fun e=>e.2) t=t
   ·rw[if_pos c]
    rw[if_pos c]at hT
    refine k H3 (.ref l2) (s2.trans s3) ?_
    rw[hT]
    exact⟨l2,rfl,Kz,s3 _ _ hl2⟩
   ·rw[if_neg c]
    rw[if_neg c]at hT
    rw[show ws.length+1 - (i+1)=ws.length - i by omega]at hT
    exact⟨s2.trans s3,l3,rfl,s2.free K7,drawn (es.map fun e:Int×E4=>e.2) t,hl3,(c9 _ _).trans kt,hT⟩
  ·rintro σ H' ⟨s2,l2,t,x,y,rfl,Kz,hl2,kt,hT⟩
   simp![tC]
   refine k H' .non s2 ?_
   rw[hT,show ws.length+1 - _=0 by rw[List.length_map];omega]
   rfl
end
end Dw
namespace Dw
open PySem PySem.Spec PyProof.Rows L2
open Vbnlaa StM WayM RepM
section
variable {X:Cx}{pos apos:Pos}
theorem fv {j k:Nat}{C:Addr}{m:Str}{ps:List Str}{sp:Sp}{o e:Expr}{es:List Expr}{ta:TE}{t:TA}{pl:Sem Bool}(he:PE X o ta) (c:Cls X.K C) (G:OkM X.prog X.w X.K X.mg X.base C j m ps sp) (hr:dD k X.A) (ha:PA X (e :: es) t) (hjk:j≤k:=by decide)
  (hst:starEach (e :: es) X.env=(false,eval e X.env) :: starEach es X.env:=by rfl) (hpl:(backTo pos (starEach es X.env)).any (·.1)=false:=by rfl)
  (ht:eval (.Call (.Attribute o m apos) (e :: es) [] pos) X.env=(do
   let ov ←eval o X.env
   standAt apos.atName
   let (f,first) ←holding [ov] (getMethod ov m pl)
   callWith pos f first (backTo pos (starEach (e :: es) X.env)) (backToKw pos (keywordEach [] X.env))):=by rfl) :
  PE X (.Call (.Attribute o m apos) (e :: es) [] pos) (Bl C m sp ta t):=by
 obtain⟨f,fd,hm,hb,F⟩:=G
 refine PE.weak (Dj he c hm F (hr.mono hjk) hb .nil BD ha hst hpl ht) fun σ H Q q=>?_
 show ta σ H _
 unfold Bl at q
 simp only[List.append_nil]
 exact q
end
structure Cat (K:PySem.W.Frag) (mg:Str→Option Value) (C:Addr):Prop where
 cl:Cls K C
 nW:jO K C "works"
 nE:jO K C "evidence"
 yi:MethAt K C "__init__" "Catalogue.__init__" bB ["self"]
 yh:MethAt K C "add_work" "Catalogue.add_work" bA ["self","key","text"]
 Ap:MethAt K C "restate" "Catalogue.restate" bD ["self","key","text"]
 EG:MethAt K C "drop" "Catalogue.drop" cD ["self","key"]
 oU:MethAt K C "claim_refusal" "Catalogue.claim_refusal" a7 ["self","kind","u","v","amount"]
 qu:MethAt K C "add_evidence" "Catalogue.add_evidence" a8 ["self","key","kind","u","v","amount"]
 yg:MethAt K C "withdraw" "Catalogue.withdraw" bz ["self","key"]
def rh (dw de:Addr):List (Str×V):=[("works",.ref dw),("evidence",.ref de)]
theorem E5 (dw de:Addr):(rh dw de).lookup ("works" : Str)=some (.ref dw):=by
 unfold rh
 rw[List.lookup_cons,show (("works" : Str) == "works")=true by decide +kernel]
theorem CB (dw de:Addr):(rh dw de).lookup ("evidence" : Str)=some (.ref de):=by
 unfold rh
 rw[List.lookup_cons,show (("evidence" : Str) == "works")=false by decide +kernel]
 show List.lookup ("evidence" : Str) [(("evidence" : Str),V.ref de)]=_
 rw[List.lookup_cons,show (("evidence" : Str) == "evidence")=true by decide +kernel]
theorem zK (dw de:Addr) {m:Str}(h1:(m == ("works" : Str))=false) (h2:(m == ("evidence" : Str))=false):(rh dw de).lookup m=none:=by
 unfold rh
 rw[List.lookup_cons,h1]
 show List.lookup m [(("evidence" : Str),V.ref de)]=_
 rw[List.lookup_cons,h2]
 rfl
theorem A0 (dw de d:Addr):ig "works" (.ref d) (rh dw de)=rh d de:=by
 show (if ("works" : Str)="works" then _ else _)=_
 rw[if_pos rfl]
 rfl
theorem A1 (dw de d:Addr):ig "evidence" (.ref d) (rh dw de)=rh dw d:=by
 show (if ("works" : Str)="evidence" then _ else _)=_
 rw[if_neg (by decide +kernel)]
 show _ :: (if ("evidence" : Str)="evidence" then _ else _)=_
 rw[if_pos rfl]
 rfl
structure oH (C:Addr) (H:Hp) (c:Addr) (dw de:Addr) (ws:List W3) (es:List (Int×E4)):Prop where
 ins:∃ dx,H c=some (.ins C dx (rh dw de))
 wk:cx H dw ws
 ev:Evs H de es
 ne:dw≠de
def bb (C:Addr) (H:Hp) (c:Addr) (s:State):Prop:=∃ dw de ws es,oH C H c dw de ws es∧Rep ws es s
def bC (c:Addr) (H H':Hp):Prop:=∀ b o,H b=some o→b≠c→(∀ kvs,o ≠ .dK kvs)→H' b=some o
theorem bC.of {c:Addr}{H H':Hp}(s:ao H H'):bC c H H':=fun b o e _ _=>s b o e
theorem bC.trans {c:Addr}{H H1 H2:Hp}(a:bC c H H1) (b:bC c H1 H2):bC c H H2:=fun x o e n k=>b x o (a x o e n k) n k
theorem oH.same {C:Addr}{H H':Hp}{c dw de:Addr}{ws:List W3}{es:List (Int×E4)}(h:oH C H c dw de ws es) (s:ao H H'):oH C H' c dw de ws es:=by
 obtain⟨⟨dx,h1⟩,h2,h3,h4⟩:=h
 exact⟨⟨dx,s _ _ h1⟩,h2.same s,h3.same s,h4⟩
def one (a:Ans):V:=.int (a.headD 0)
def nS (K:PySem.W.Frag) (C:Addr):Sp:=fun vs H Q _=>∃ (c:Addr) (k:Int) (a:Addr) (t:List Nat) (s:State),vs=[.ref c,.int k,.ref a]∧SqL K H a (t.map nV)∧t.length≤60∧bb C H c s∧∀ H',bb C H' c (step s (.work k t)).1→bC c H H'→Q (one (step s (.work k t)).2) H'
def pD (K:PySem.W.Frag) (C:Addr):Sp:=fun vs H Q _=>∃ (c:Addr) (k:Int) (a:Addr) (t:List Nat) (s:State),vs=[.ref c,.int k,.ref a]∧SqL K H a (t.map nV)∧t.length≤60∧bb C H c s∧∀ H',bb C H' c (step s (.restate k t)).1→bC c H H'→Q (one (step s (.restate k t)).2) H'
def za (_K:PySem.W.Frag) (C:Addr):Sp:=fun vs H Q _=>∃ (c:Addr) (k:Int) (s:State),vs=[.ref c,.int k]∧bb C H c s∧∀ H',bb C H' c (step s (.drop k)).1→bC c H H'→Q (one (step s (.drop k)).2) H'
def nN (_K:PySem.W.Frag) (C:Addr):Sp:=fun vs H Q _=>∃ (c:Addr) (k:Int) (s:State),vs=[.ref c,.int k]∧bb C H c s∧∀ H',bb C H' c (step s (.withdraw k)).1→bC c H H'→Q (one (step s (.withdraw k)).2) H'
def er (_K:PySem.W.Frag) (C:Addr):Sp:=fun vs H Q _=>∃ (c:Addr) (kind u v g:Int) (s:State),vs=[.ref c,.int kind,.int u,.int v,.int g]∧bb C H c s∧0≤kind∧kind≤3∧∀ H',ao H H'→Q (.int (fault s kind u v g)) H'
def iF (_K:PySem.W.Frag) (C:Addr):Sp:=fun vs H Q _=>∃ (c:Addr) (e:Ev) (s:State),vs=[.ref c,.int e.key,.int e.kind,.int e.a,.int e.b,.int e.g]∧bb C H c s∧0≤e.kind∧e.kind≤3∧(e.kind≤1→e.b=0)∧∀ H',bb C H' c (addEv s e).1→bC c H H'→Q (one (addEv s e).2) H'
def mQ:Sp:=spV (fun n:Int=>[.int n]) (fun _=>True) (fun n=>.bl (keyOk n))
def mR:Sp:=spV (fun n:Int=>[.int n]) (fun _=>True) (fun n=>.bl (gapOk n))
theorem oH.fw {K:PySem.W.Frag}{mg:Str→Option Value}{C:Addr}{H:Hp}{c dw de:Addr}{ws:List W3}{es:List (Int×E4)}{σ:L2.St}{Q:VK}(O:oH C H c dw de ws es) (Z:Cat K mg C) (h0:σ[0]? = some (some (.ref c))) (q:Q (.ref dw) H):En K (kT 0) "works" σ H Q:=by
 obtain⟨dx,h⟩:=O.ins
 exact⟨_,h0,c,C,dx,_,_,rfl,h,Z.cl,Z.nW,E5 dw de,q⟩
theorem oH.fe {K:PySem.W.Frag}{mg:Str→Option Value}{C:Addr}{H:Hp}{c dw de:Addr}{ws:List W3}{es:List (Int×E4)}{σ:L2.St}{Q:VK}(O:oH C H c dw de ws es) (Z:Cat K mg C) (h0:σ[0]? = some (some (.ref c))) (q:Q (.ref de) H):En K (kT 0) "evidence" σ H Q:=by
 obtain⟨dx,h⟩:=O.ins
 exact⟨_,h0,c,C,dx,_,_,rfl,h,Z.cl,Z.nE,CB dw de,q⟩
def ay {α:Type}(f:α→Int) (l:List (Addr×α)):List (Key×V):=l.map fun p=>(iK (f p.2),V.ref p.1)
theorem lS {α:Type}{f:α→Int}:∀ {l:List (Addr×α)}{k:Int},k∉(l.map fun p=>f p.2)→cp (ay f l) (iK k)=none
 | [],_,_=>rfl
 |p :: l,k,h=>by
  show cp ((iK (f p.2),V.ref p.1) :: ay f l) (iK k)=none
  rw[bW (fun z=>h (by rw[←Sum.inl.inj z];exact List.mem_cons_self ..))]
  exact lS fun m=>h (List.mem_cons_of_mem _ m)
theorem gH {α:Type}{f:α→Int}:∀ {l:List (Addr×α)}{p:Addr×α},(l.map fun p=>f p.2).Nodup→p∈l→cp (ay f l) (iK (f p.2))=some (.ref p.1)
 |q :: l,p,nd,h=>by
  show cp ((iK (f q.2),V.ref q.1) :: ay f l) (iK (f p.2))=_
  have nd:(f q.2 :: l.map fun p=>f p.2).Nodup:=nd
  rcases List.mem_cons.mp h with e | e
  ·subst e
   rw[cB rfl]
  ·have hne:¬ f q.2=f p.2:=fun z=>(List.nodup_cons.mp nd).1 (by rw[z];exact List.mem_map.mpr ⟨p,e,rfl⟩)
   rw[bW (fun z=>hne (Sum.inl.inj z))]
   exact gH (List.nodup_cons.mp nd).2 e
theorem xN {α:Type}{f:α→Int}{l:List (Addr×α)}{k:Int}(nd:(l.map fun p=>f p.2).Nodup):(cp (ay f l) (iK k)).isSome=decide (k∈l.map fun p=>f p.2):=by
 by_cases h:k∈l.map fun p=>f p.2
 ·obtain⟨p,hp,e⟩:=List.mem_map.mp h
  rw[←e,gH nd hp]
  simp
  exact⟨p.1,p.2,hp,rfl⟩
 ·rw[lS h,decide_eq_false h]
  rfl
theorem uw {α:Type}{f:α→Int}{l:List (Addr×α)}{k:Int}{a:Addr}{x:α}(h:k∉l.map fun p=>f p.2) (e:f x=k):putK (ay f l) (iK k) (.ref a)=ay f (l ++ [(a,x)]):=by
 rw[vT _ (lS h)]
 unfold ay
 rw[List.map_append,←e]
 rfl
theorem ze {α:Type}{f:α→Int}{l:List (Addr×α)}{k:Int}{a:Addr}{x:α}(h:k∈l.map fun p=>f p.2) (e:f x=k):putK (ay f l) (iK k) (.ref a)=ay f (l.map fun p=>if f p.2=k then (a,x) else p):=by
 unfold putK
 have:((ay f l).any fun kv=>decide (kv.1=iK k))=true:=by
  obtain⟨p,hp,e⟩:=List.mem_map.mp h
  refine List.any_eq_true.mpr ⟨(iK (f p.2),V.ref p.1),List.mem_map.mpr ⟨p,hp,rfl⟩,decide_eq_true ?_⟩
  show iK (f p.2)=iK k
  rw[show f p.2=k from e]
 rw[if_pos this]
 unfold ay
 rw[List.map_map,List.map_map]
 apply List.map_congr_left
 intro p _
 show (if iK (f p.2)=iK k then (iK (f p.2),V.ref a) else (iK (f p.2),V.ref p.1))=(iK (f (if f p.2=k then (a,x) else p).2),V.ref (if f p.2=k then (a,x) else p).1)
 by_cases c:f p.2=k
 ·rw[if_pos (by rw[c]),if_pos c,c,e]
 ·rw[if_neg (show ¬ iK (f p.2)=iK k from fun z=>c (Sum.inl.inj z)),if_neg c]
theorem pV {α:Type}{f:α→Int}(l:List (Addr×α)) (k:Int):qR (ay f l) (iK k)=ay f (l.filter fun p=>decide (f p.2≠k)):=by
 unfold qR ay
 rw[List.filter_map]
 congr 1
 apply List.filter_congr
 intro p _
 show decide (iK (f p.2)≠iK k)=decide (f p.2≠k)
 by_cases c:f p.2=k
 ·simp[c]
 ·have:¬ iK (f p.2)=iK k:=fun z=>c (Sum.inl.inj z)
  simp[c,this]
theorem cn {α:Type}{f:α→Int}{l:List (Addr×α)}{H:Hp}{d:Addr}{k:Int}(h:H d=some (.dK (ay f l))):fT H d (.int k) (cp (ay f l) (iK k)):=fT.k (k:=iK k) h
theorem vN {t:List Nat}{r:Int}(h:readDate t = .error r):r < 0:=by
 unfold readDate at h
 repeat' split at h
 all_goals first
  |(cases h;decide)
  |cases h
theorem DQ (c:Cal):yearStart c (lastYear c+1)≤474815:=by
 have e:=CalM.kh c (y:=lastYear c+1) (by cases c<;>decide)
 cases c
 ·have:(CalM.lyu .greg (lastYear .greg+1 - 1) - CalM.lyu .greg (firstYear .greg - 1))=315:=by decide
  rw[this]at e
  simp only[origin,lastYear,firstYear]at e ⊢
  omega
 ·have:(CalM.lyu .jul (lastYear .jul+1 - 1) - CalM.lyu .jul (firstYear .jul - 1))=75:=by decide
  rw[this]at e
  simp only[origin,lastYear,firstYear]at e ⊢
  omega
 ·have:(CalM.lyu .rep (lastYear .rep+1 - 1) - CalM.lyu .rep (firstYear .rep - 1))=3:=by decide
  rw[this]at e
  simp only[origin,lastYear,firstYear]at e ⊢
  omega
theorem DN (p:Part) (h:there p=true) (hd:p.month=none→p.day=none):lastDay p≤474814:=by
 obtain⟨c,y,m,d⟩:=p
 simp only[there,Bool.and_eq_true,decide_eq_true_eq]at h
 obtain⟨h1,h2,h3⟩:=h
 have Ls:=DQ c
 have hy:yearStart c (y+1)≤yearStart c (lastYear c+1):=by
  have:=CalM.iU c (y:=y+1) (z:=lastYear c+1) (by omega) (by omega)
  omega
 have hm:∀ m dd,1≤m→m≤months c→dd≤monthDays c y m→monthStart c y m+(dd - 1) < yearStart c (y+1):=by
  intro m dd m1 m2 hd
  have e1:=CalM.cP c y m1
  have e2:=CalM.fc c y (m:=m+1) (n:=months c+1) (by omega) (by omega)
  rw[CalM.dW c h1]at e2
  have:=CalM.eN c y m
  omega
 cases m with
 |none=>
  have mp:=CalM.qp c
  have hh:monthStart c y (months c)+(d.getD (monthDays c y (months c)) - 1)=lastDay ⟨c,y,none,d⟩:=rfl
  cases d with
  |none=>
   have:=hm (months c) (monthDays c y (months c)) (by omega) (Nat.le_refl _) (Nat.le_refl _)
   simp at hh
   omega
  |some dd=>cases hd rfl
 |some m=>
  simp only[Bool.and_eq_true,decide_eq_true_eq]at h3
  obtain⟨m1,m2,h4⟩:=h3
  have hh:monthStart c y m+(d.getD (monthDays c y m) - 1)=lastDay ⟨c,y,some m,d⟩:=rfl
  cases d with
  |none=>
   have:=hm m (monthDays c y m) m1 m2 (Nat.le_refl _)
   simp at hh
   omega
  |some dd=>
   simp only[Bool.and_eq_true,decide_eq_true_eq]at h4
   have:=hm m dd m1 m2 h4.2
   simp at hh
   omega
theorem bC.dict {c:Addr}{H H2:Hp}{d:Addr}{kvs:List (Key×V)}{o:HO}(s:ao H H2) (h:H2 d=some (.dK kvs)):bC c H (upd H2 d o):=fun b u e _ k=>by
 have hb:b≠d:=fun z=>by
  subst z
  rw[s _ _ e]at h
  exact k _ (Option.some.inj h)
 rw[ak hb]
 exact s _ _ e
theorem wx {α:Type}{a:α}:∀ {l:List α},l≠[]→l.getLastD a∈l
 | [],h=>absurd rfl h
 | [x],_=>by simp
 |x :: y :: r,_=>by
  have:=wx (a:=a) (l:=y :: r) (by simp)
  rw[show (x :: y :: r).getLastD a=(y :: r).getLastD a by simp[List.getLastD]]
  exact List.mem_cons_of_mem _ this
theorem zf {t:List Nat}{x:Nat×Nat}(h:readDate t = .ok x):x.1≤x.2∧x.2≤474814:=by
 rw[←TextM.vO]at h
 unfold TextM.readM at h
 cases hm:(TextM.parts t).mapM TextM.parse with
 |none=>rw[hm]at h;cases h
 |some xs=>
  rw[hm]at h
  simp only at h
  split at h
  ·rename_i hall
   split at h
   ·rename_i hle
    cases h
    have hne:xs≠[]:=by
     intro e
     subst e
     have:=(tq t).2
     cases hp:TextM.parts t with
     |nil=>rw[hp]at this;simp at this
     |cons p ps=>
      rw[hp]at hm
      rw[List.mapM_cons]at hm
      cases h1:TextM.parse p with
      |none=>rw[h1]at hm;cases hm
      |some q=>
       rw[h1]at hm
       cases h2:ps.mapM TextM.parse with
       |none=>simp[h2]at hm
       |some r=>simp[h2]at hm
    refine⟨hle,DN _ (List.all_eq_true.mp hall _ (wx hne)) fun e=>?_⟩
    show (xs.getLastD (.greg,[])).2[2]? = none
    have e:(xs.getLastD (.greg,[])).2[1]? = none:=e
    rw[List.getElem?_eq_none_iff]at e ⊢
    omega
   ·cases h
  ·cases h
section
variable {P:Program}{w:World}{K:PySem.W.Frag}{mg:Str→Option Value}{base:Heap}{C:Addr}
theorem Aj (T:Txt K mg):OkD P w K mg base 1 "is_key" ["number"] mQ:=by
 obtain⟨f,fd,hm,F,b⟩:=T.Cu
 refine⟨f,fd,hm,F.kp,b,F.ok z0 (fun vs H Q E h=>?_) (fun cdv A outer s H vs Q E hr h=>?_)⟩
 ·obtain⟨n,rfl,_⟩:=h
  rfl
 ·obtain⟨n,rfl,_,k⟩:=h
  have k:=k H (ao.refl H)
  refine⟨_,(ag (aq (eU cG cG aj (pv 0) (aQ rfl T.rT)))),?_⟩
  simp![tC]
  by_cases c:1≤n
  ·rw[if_pos c]
   refine vq k (congrArg V.bl ?_)
   rw[Bool.eq_iff_iff]
   simp[keyOk,MOSTKEY,c]
   exact decide_eq_true_iff
  ·rw[if_neg c]
   exact vq k (by simp[keyOk,MOSTKEY,c])
theorem Ak (T:Txt K mg):OkD P w K mg base 1 "is_gap" ["number"] mR:=by
 obtain⟨f,fd,hm,F,b⟩:=T.Cv
 refine⟨f,fd,hm,F.kp,b,F.ok z5 (fun vs H Q E h=>?_) (fun cdv A outer s H vs Q E hr h=>?_)⟩
 ·obtain⟨n,rfl,_⟩:=h
  rfl
 ·obtain⟨n,rfl,_,k⟩:=h
  have k:=k H (ao.refl H)
  refine⟨_,(ag (aq (eU cG cG aj (pv 0) (aQ rfl T.rV)))),?_⟩
  simp![tC]
  by_cases c:0≤n
  ·rw[if_pos c]
   refine vq k (congrArg V.bl ?_)
   rw[Bool.eq_iff_iff]
   simp[gapOk,MOSTGAP,c]
   exact decide_eq_true_iff
  ·rw[if_neg c]
   exact vq k (by simp[gapOk,MOSTGAP,c])
theorem wd (T:Txt K mg) (Z:Cat K mg C) (Hq:OkD P w K mg base 1 "is_key" ["number"] mQ) (GC:OkD P w K mg base 6 "read_text" ["text"] (fq K)):OkM P w K mg base C 7 "add_work" ["self","key","text"] (nS K C):=by
 obtain⟨f,fd,hm,F,b⟩:=Z.yh
 refine⟨f,fd,hm,b,F.ok d9 (fun vs H Q E h=>?_) (fun cdv A outer s H vs Q E hr h=>?_)⟩
 ·obtain⟨c,k,a,t,s,rfl,_⟩:=h
  rfl
 ·obtain⟨c,key,a,t,st,rfl,hS,hl,hC,k⟩:=h
  have hu:=bR hr
  refine⟨_,(ae (aK (dQ (cE (aB Hq hr rfl (aa (pv 1) ah)))) (ag (aq (aQ rfl T.tP))) az)
   (ae (aI (i:=3) d9.nd rfl (Or.inl rfl) (aB GC hr rfl (aa (pv 2) ah)))
   (ae (aK (aA kK (aH (aE (K:=K) rfl) (pv 3) aj (fun _ _=>rfl)) aj (aD _)) (ag (aq (aH (aE (K:=K) rfl) (pv 3) aj (fun _ _=>rfl)))) az)
   (ae (aK (cR (xQ hu (pv 1) (cq (pv 0) rfl)) rfl) (ag (aq (aQ rfl T.ox))) az)
   (ae (aK (aA tE (aS gZ (by rfl) T.dB PySem.boot_len (aa (cq (pv 0) rfl) ah)) (aQ rfl T.uS) (aD _)) (ag (aq (aQ rfl T.Cf))) az)
   (ae (b9 hu (cq (pv 0) rfl) (pv 1) (cK (aa (aH (aE (K:=K) rfl) (pv 3) aj (fun _ _=>rfl)) (aa (aH (aE (K:=K) rfl) (pv 3) aj (fun _ _=>rfl)) ah))) rfl)
   (ag (aq aj)))))))),?_⟩
  simp![uk,bP,dP]
  have h16:sizeLine=16777216:=sizeLine_eq
  obtain⟨dw,de,ws,es,O,R⟩:=hC
  refine⟨key,rfl,trivial,fun H1 s1=>?_⟩
  cases hk:keyOk key with
  |false=>
   have e:Vbnlaa.step st (.work key t)=(st,[-4]):=if_pos hk
   rw[e]at k
   exact .inl ⟨congrArg V.bl hk,k H1 ⟨dw,de,ws,es,O.same s1,R⟩ (bC.of s1)⟩
  |true=>
   refine .inr ⟨congrArg V.bl hk,a,t,rfl,s1.seq hS,hl,fun H2 l s2 _ h2=>?_⟩
   have s12:=s1.trans s2
   have O2:=O.same s12
   have e0:Vbnlaa.step st (.work key t)=match readDate t with | .error r=>(st,[r]) | .ok x=>if known st key=true then (st,[-5]) else if WORKS≤st.works.length then (st,[-8]) else ({ st with works:=putWork ⟨key,x.1,x.2⟩ st.works },[0]):=if_neg (by rw[hk];decide)
   cases hrd:readDate t with
   |error r=>
    rw[hrd]at h2 e0
    have e:Vbnlaa.step st (.work key t)=(st,[r]):=e0
    rw[e]at k
    refine ixl (SqL.of h2) (ax (j:=0) rfl) ⟨r,rfl,?_⟩
    rw[if_pos (vN hrd)]
    exact ixl (SqL.of h2) (ax (j:=0) rfl) (k H2 ⟨dw,de,ws,es,O2,R⟩ (bC.of s12))
   |ok x=>
    rw[hrd]at h2 e0
    have e0:Vbnlaa.step st (.work key t)=if known st key=true then (st,[-5]) else if WORKS≤st.works.length then (st,[-8]) else ({ st with works:=putWork ⟨key,x.1,x.2⟩ st.works },[0]):=e0
    refine ixl (SqL.of h2) (ax (j:=0) rfl) ⟨0,rfl,?_⟩
    rw[if_neg (by decide)]
    obtain⟨lw,ew,hd,htup⟩:=id O2.wk
    have hd:H2 dw=some (.dK (ay (fun w:W3=>w.1) lw)):=hd
    have kw:(lw.map fun p=>(fun w:W3=>w.1) p.2)=ws.map fun w=>w.1:=by rw[ew,List.map_map];rfl
    have nd:(lw.map fun p=>(fun w:W3=>w.1) p.2).Nodup:=by rw[kw];exact R.wnd
    have JL:lw.length=ws.length:=by rw[ew,List.length_map]
    refine O2.fw Z rfl ⟨dw,rfl,_,cn hd,?_⟩
    rw[xN nd,kw]
    by_cases ck:key∈ws.map fun w=>w.1
    ·rw[if_pos (decide_eq_true ck)]
     rw[if_pos (R.known.mpr ck)]at e0
     rw[e0]at k
     exact k H2 ⟨dw,de,ws,es,O2,R⟩ (bC.of s12)
    ·rw[if_neg (by rw[decide_eq_false ck];decide)]
     rw[if_neg (fun z=>ck (R.known.mp z))]at e0
     refine O2.fw Z rfl ⟨dw,rfl,_,hd,?_⟩
     have l2:(ay (fun w:W3=>w.1) lw).length=st.works.length:=by unfold ay;rw[List.length_map,JL,R.lz]
     rw[l2]
     by_cases c40:40≤st.works.length
     ·rw[if_pos (by omega)]
      rw[if_pos (show WORKS≤st.works.length from c40)]at e0
      rw[e0]at k
      exact k H2 ⟨dw,de,ws,es,O2,R⟩ (bC.of s12)
     ·rw[if_neg (by omega)]
      rw[if_neg (show ¬ WORKS≤st.works.length from c40)]at e0
      rw[e0]at k
      refine ixl (SqL.of h2) (ax (j:=1) rfl) (ixl (SqL.of h2) (ax (j:=2) rfl) ⟨by decide,fun p hp=>?_⟩)
      have s3:ao H2 (upd H2 p (.tup [.int x.1,.int x.2])):=ao.new hp
      refine(O2.same s3).fw Z rfl ⟨dw,rfl,_,gx.k (k:=iK key) (s3 _ _ hd) (by rw[l2];omega),?_⟩
      obtain⟨b1,b2⟩:=zf hrd
      have hkk:1≤key∧key≤1000000000:=by
       unfold keyOk at hk
       rw[Bool.and_eq_true]at hk
       exact⟨of_decide_eq_true hk.1,of_decide_eq_true hk.2⟩
      have npw:p≠dw:=fun z=>by rw[z,hd]at hp;cases hp
      refine k _ ⟨dw,de,ws ++ [(key,(x.1:Int),(x.2:Int))],es,?_,R.work hkk.1 hkk.2 (by omega) (by omega) (by omega) ck (by rw[R.lz];omega)⟩ (bC.dict (s12.trans s3) (s3 _ _ hd))
      obtain⟨dx,hin⟩:=O2.ins
      have ncw:c≠dw:=bJ hin hd (by intro z;cases z)
      refine⟨⟨dx,by rw[ak ncw];exact s3 _ _ hin⟩,⟨lw ++ [(p,key,(x.1:Int),(x.2:Int))],by rw[List.map_append,←ew];rfl,?_,fun q hq=>?_⟩,?_,O2.ne⟩
      ·rw[ab,uw (by rw[kw];exact ck) (x:=(key,(x.1:Int),(x.2:Int))) rfl]
       rfl
      ·rcases List.mem_append.mp hq with m | m
       ·rw[ak (bJ (htup q m) hd (by intro z;cases z))]
        exact s3 _ _ (htup q m)
       ·rw[List.mem_singleton.mp m,ak npw]
        exact ab
      ·obtain⟨le,ee,hde,hte⟩:=O2.ev
       refine⟨le,ee,by rw[ak (Ne.symm O2.ne)];exact s3 _ _ hde,fun q hq=>?_⟩
       rw[ak (bJ (hte q hq) hd (by intro z;cases z))]
       exact s3 _ _ (hte q hq)
end
abbrev fW:W3→Int:=fun w=>w.1
abbrev fE:Int×E4→Int:=fun e=>e.1
theorem cx.upd {H:Hp}{d c C dx:Addr}{fs:List (Str×V)}{ws:List W3}{o:HO}(h:cx H d ws) (hc:H c=some (.ins C dx fs)):cx (L2.upd H c o) d ws:=by
 obtain⟨l,e,h1,h2⟩:=h
 refine⟨l,e,?_,fun p hp=>?_⟩
 ·rw[ak (bJ h1 hc (by intro z;cases z))];exact h1
 ·rw[ak (bJ (h2 p hp) hc (by intro z;cases z))];exact h2 p hp
theorem Evs.upd {H:Hp}{d c C dx:Addr}{fs:List (Str×V)}{es:List (Int×E4)}{o:HO}(h:Evs H d es) (hc:H c=some (.ins C dx fs)):Evs (L2.upd H c o) d es:=by
 obtain⟨l,e,h1,h2⟩:=h
 refine⟨l,e,?_,fun p hp=>?_⟩
 ·rw[ak (bJ h1 hc (by intro z;cases z))];exact h1
 ·rw[ak (bJ (h2 p hp) hc (by intro z;cases z))];exact h2 p hp
theorem cx.dict {H:Hp}{d d2:Addr}{kvs:List (Key×V)}{ws:List W3}{o:HO}(h:cx H d ws) (hd:H d2=some (.dK kvs)) (ne:d≠d2):cx (L2.upd H d2 o) d ws:=by
 obtain⟨l,e,h1,h2⟩:=h
 refine⟨l,e,?_,fun p hp=>?_⟩
 ·rw[ak ne];exact h1
 ·rw[ak (bJ (h2 p hp) hd (by intro z;cases z))];exact h2 p hp
theorem Evs.dict {H:Hp}{d d2:Addr}{kvs:List (Key×V)}{es:List (Int×E4)}{o:HO}(h:Evs H d es) (hd:H d2=some (.dK kvs)) (ne:d≠d2):Evs (L2.upd H d2 o) d es:=by
 obtain⟨l,e,h1,h2⟩:=h
 refine⟨l,e,?_,fun p hp=>?_⟩
 ·rw[ak ne];exact h1
 ·rw[ak (bJ (h2 p hp) hd (by intro z;cases z))];exact h2 p hp
theorem bL {ws:List W3}{es:List (Int×E4)}{st:State}{lw:List (Addr×W3)}(R:Rep ws es st) (ew:ws=lw.map fun p=>p.2) (x:Int):cp (ay fW lw) (iK x)=none↔known st x=false:=by
 have kw:(lw.map fun p=>fW p.2)=ws.map fun w=>w.1:=by rw[ew,List.map_map];rfl
 have h1:=xN (f:=fW) (l:=lw) (k:=x) (by rw[kw];exact R.wnd)
 rw[kw]at h1
 by_cases c:x∈ws.map fun w=>w.1
 ·rw[R.known.mpr c]
  rw[decide_eq_true c]at h1
  constructor
  ·intro z;rw[z]at h1;cases h1
  ·intro z;cases z
 ·have:known st x=false:=by
   cases hk:known st x with
   |false=>rfl
   |true=>exact absurd (R.known.mp hk) c
  rw[this]
  rw[decide_eq_false c]at h1
  constructor
  ·intro _;rfl
  ·intro _
   cases hv:cp (ay fW lw) (iK x) with
   |none=>rfl
   |some y=>rw[hv]at h1;cases h1
theorem yC {ws:List W3}{es:List (Int×E4)}{st:State}{le:List (Addr×Int×E4)}(R:Rep ws es st) (ee:es=le.map fun p=>p.2) (x:Int):(cp (ay fE le) (iK x)).isSome=(evOf st x).isSome:=by
 have kw:(le.map fun p=>fE p.2)=es.map fun w=>w.1:=by rw[ee,List.map_map];rfl
 have h1:=xN (f:=fE) (l:=le) (k:=x) (by rw[kw];exact R.end_)
 rw[kw]at h1
 rw[h1]
 by_cases c:x∈es.map fun w=>w.1
 ·rw[R.EV.mpr c,decide_eq_true c]
 ·rw[decide_eq_false c]
  cases hk:(evOf st x).isSome with
  |false=>rfl
  |true=>exact absurd (R.EV.mp hk) c
section
variable {P:Program}{w:World}{K:PySem.W.Frag}{mg:Str→Option Value}{base:Heap}{C:Addr}
theorem xX (T:Txt K mg) (Z:Cat K mg C) (GC:OkD P w K mg base 6 "read_text" ["text"] (fq K)) (G7:OkD P w K mg base 3 "has_way" ["works","evidence"] kW):OkM P w K mg base C 7 "restate" ["self","key","text"] (pD K C):=by
 obtain⟨f,fd,hm,F,b⟩:=Z.Ap
 refine⟨f,fd,hm,b,F.ok cZ (fun vs H Q E h=>?_) (fun cdv A outer s H vs Q E hr h=>?_)⟩
 ·obtain⟨c,k,a,t,s,rfl,_⟩:=h
  rfl
 ·obtain⟨c,key,a,t,st,rfl,hS,hl,hC,k⟩:=h
  have hu:=bR hr
  refine⟨_,(ae (aK (cR (bu hu (pv 1) (cq (pv 0) rfl)) rfl) (ag (aq (aQ rfl T.cH))) az)
   (ae (aI (i:=3) cZ.nd rfl (Or.inl rfl) (aB GC hr rfl (aa (pv 2) ah)))
   (ae (aK (aA kK (aH (aE (K:=K) rfl) (pv 3) aj (fun _ _=>rfl)) aj (aD _)) (ag (aq (aH (aE (K:=K) rfl) (pv 3) aj (fun _ _=>rfl)))) az)
   (ae (aI (i:=4) cZ.nd rfl (Or.inl rfl) (dj eI (by rfl) T.m5 boot_dict (aa (cq (pv 0) rfl) ah)))
   (ae (b9 hu (pv 4) (pv 1) (cK (aa (aH (aE (K:=K) rfl) (pv 3) aj (fun _ _=>rfl)) (aa (aH (aE (K:=K) rfl) (pv 3) aj (fun _ _=>rfl)) ah))) rfl)
   (ae (aK (dQ (cE (aB G7 hr rfl (aa (pv 4) (aa (cq (pv 0) rfl) ah))))) (ag (aq (aQ rfl T.wG))) az)
   (ae (uz (pv 0) (pv 4) rfl)
   (ag (aq aj))))))))),?_⟩
  simp![uk,bP,dP,Dd]
  have h16:sizeLine=16777216:=sizeLine_eq
  obtain⟨dw,de,ws,es,O,R⟩:=hC
  obtain⟨lw,ew,hd,htup⟩:=id O.wk
  have hd:H dw=some (.dK (ay fW lw)):=hd
  have kw:(lw.map fun p=>fW p.2)=ws.map fun w=>w.1:=by rw[ew,List.map_map];rfl
  have JL:lw.length=ws.length:=by rw[ew,List.length_map]
  have w40:=R.wf.wn
  have Hn:=R.wf.en
  refine O.fw Z rfl ⟨dw,rfl,_,cn hd,?_⟩
  cases hkn:known st key with
  |false=>
   rw[if_pos ((bL R ew key).mpr hkn)]
   have e:Vbnlaa.step st (.restate key t)=(st,[-6]):=if_pos hkn
   rw[e]at k
   exact k H ⟨dw,de,ws,es,O,R⟩ (bC.of (ao.refl H))
  |true=>
   rw[if_neg (fun z=>by rw[(bL R ew key).mp z]at hkn;cases hkn)]
   refine⟨a,t,rfl,hS,hl,fun H1 l s1 _ h1=>?_⟩
   have O1:=O.same s1
   have e0:Vbnlaa.step st (.restate key t)=match readDate t with | .error r=>(st,[r]) | .ok x=>if feasible (bg st key x.1 x.2)=true then (bg st key x.1 x.2,[0]) else (st,[-7]):=if_neg (by rw[hkn];decide)
   cases hrd:readDate t with
   |error r=>
    rw[hrd]at h1 e0
    have e:Vbnlaa.step st (.restate key t)=(st,[r]):=e0
    rw[e]at k
    refine ixl (SqL.of h1) (ax (j:=0) rfl) ⟨r,rfl,?_⟩
    rw[if_pos (vN hrd)]
    exact ixl (SqL.of h1) (ax (j:=0) rfl) (k H1 ⟨dw,de,ws,es,O1,R⟩ (bC.of s1))
   |ok x=>
    rw[hrd]at h1 e0
    have e0:Vbnlaa.step st (.restate key t)=if feasible (bg st key x.1 x.2)=true then (bg st key x.1 x.2,[0]) else (st,[-7]):=e0
    refine ixl (SqL.of h1) (ax (j:=0) rfl) ⟨0,rfl,?_⟩
    rw[if_neg (by decide)]
    refine O1.fw Z rfl ⟨dw,rfl,_,s1 _ _ hd,fun p hp=>?_⟩
    have s2:ao H1 (L2.upd H1 p (.dK (ay fW lw))):=ao.new hp
    refine ixl (SqL.of (s2 _ _ h1)) (ax (j:=1) rfl) (ixl (SqL.of (s2 _ _ h1)) (ax (j:=2) rfl) ⟨by decide,fun q hq=>?_⟩)
    have s3:=ao.new (o:=HO.tup [.int x.1,.int x.2]) hq
    have npq:p≠q:=fun z=>by rw[←z,ab]at hq;cases hq
    have len:(ay fW lw).length < sizeLine:=by unfold ay;rw[List.length_map,JL,R.lz];omega
    refine⟨_,gx.k (k:=iK key) (s3 _ _ ab) len,?_⟩
    have kin:key∈lw.map fun p=>fW p.2:=by rw[kw];exact R.known.mp hkn
    have Kh:=ze (f:=fW) (a:=q) (x:=(key,(x.1:Int),(x.2:Int))) kin rfl
    have s13:ao H1 (L2.upd (L2.upd (L2.upd H1 p (.dK (ay fW lw))) q (.tup [.int x.1,.int x.2])) p (.dK (putK (ay fW lw) (iK key) (.ref q)))):=fun b o e=>by
     rw[ak (aF e hp)]
     exact s3 _ _ (s2 _ _ e)
    have O4:=O1.same s13
    have s14:=s1.trans s13
    have L:=R.rN key (x.1:Int) (x.2:Int)
    have hW:cx (L2.upd (L2.upd (L2.upd H1 p (.dK (ay fW lw))) q (.tup [.int x.1,.int x.2])) p (.dK (putK (ay fW lw) (iK key) (.ref q)))) p (ws.map fun w=>if w.1=key then (key,(x.1:Int),(x.2:Int)) else w):=by
     refine⟨lw.map fun z=>if fW z.2=key then (q,key,(x.1:Int),(x.2:Int)) else z,?_,?_,fun z hz=>?_⟩
     ·rw[ew,List.map_map,List.map_map]
      apply List.map_congr_left
      intro z _
      show (if z.2.1=key then _ else z.2)=(if z.2.1=key then _ else z).2
      split<;>rfl
     ·rw[ab,Kh]
      rfl
     ·obtain⟨y,hy,ey⟩:=List.mem_map.mp hz
      subst ey
      by_cases cy:fW y.2=key
      ·rw[if_pos cy,ak (Ne.symm npq)]
       exact ab
      ·rw[if_neg cy]
       exact s13 _ _ (s1 _ _ (htup y hy))
    have way:=yW L (e9 R.wf key _ _)
    refine O4.fe Z rfl ⟨p,de,_,es,rfl,hW,O4.ev,L.wnd,L.ein,by rw[List.length_map,R.lz];exact w40,by rw[R.oZ];exact Hn,fun H5 s5=>?_⟩
    have O5:=O4.same s5
    have s15:=s14.trans s5
    rw[←way]
    cases hf:feasible (bg st key x.1 x.2) with
    |false=>
     rw[if_neg (by rw[hf];decide)]at e0
     rw[e0]at k
     exact .inl ⟨rfl,k H5 ⟨dw,de,ws,es,O5,R⟩ (bC.of s15)⟩
    |true=>
     rw[if_pos hf]at e0
     rw[e0]at k
     obtain⟨dx,hin⟩:=O5.ins
     obtain⟨b1,b2⟩:=zf hrd
     refine .inr ⟨rfl,C,dx,_,hin,Z.cl,Z.nW,by show 2 < 1000;decide,k _ ⟨p,de,_,es,⟨⟨dx,?_⟩,(hW.same s5).upd hin,O5.ev.upd hin,?_⟩,R.restate (by omega) (by omega) (by omega) hf⟩ ?_⟩
     ·rw[ab,A0]
     ·obtain⟨le,ee,hde,_⟩:=O1.ev
      exact fun z=>by rw[z,hde]at hp;cases hp
     ·intro b o e nb _
      rw[ak nb]
      exact s15 _ _ e
theorem Dv (T:Txt K mg) (Z:Cat K mg C):OkM P w K mg base C 1 "drop" ["self","key"] (za K C):=by
 obtain⟨f,fd,hm,F,b⟩:=Z.EG
 refine⟨f,fd,hm,b,F.ok b8 (fun vs H Q E h=>?_) (fun cdv A outer s H vs Q E hr h=>?_)⟩
 ·obtain⟨c,k,s,rfl,_⟩:=h
  rfl
 ·obtain⟨c,key,st,rfl,hC,k⟩:=h
  have hu:=bR hr
  refine⟨_,(ae (aK (cR (bu hu (pv 1) (cq (pv 0) rfl)) rfl) (ag (aq (aQ rfl T.cH))) az)
   (ae (dR (bE PassesOwn.never rfl (jU (cq (pv 0) rfl)) (cj (K:=K) (n:=4) rfl rfl (aM (aJ (i:=2) b8.nd rfl (Or.inl rfl)) (aM (aJ (i:=3) b8.nd rfl (Or.inl rfl)) (aM (aJ (i:=4) b8.nd rfl (Or.inl rfl)) (aM (aJ (i:=5) b8.nd rfl (Or.inl rfl)) cg))))) (ag (aK (PW.pt (n8 (aA aT (pv 1) (pv 3) (aD _)) (jl (aA aT (pv 1) (pv 4) (aD _))))) (ag (aq (aQ rfl T.Ce))) az))))
   (ae (eL (qb (cq (pv 0) rfl) (pv 1) ⟨rfl,rfl,rfl,rfl⟩))
   (ag (aq aj))))),?_⟩
  simp![uk,bP,dP]
  obtain⟨dw,de,ws,es,O,R⟩:=hC
  obtain⟨lw,ew,hd,htup⟩:=id O.wk
  have hd:H dw=some (.dK (ay fW lw)):=hd
  have kw:(lw.map fun p=>fW p.2)=ws.map fun w=>w.1:=by rw[ew,List.map_map];rfl
  refine O.fw Z rfl ⟨dw,rfl,_,cn hd,?_⟩
  cases hkn:known st key with
  |false=>
   rw[if_pos ((bL R ew key).mpr hkn)]
   have e:Vbnlaa.step st (.drop key)=(st,[-6]):=if_pos hkn
   rw[e]at k
   exact k H ⟨dw,de,ws,es,O,R⟩ (bC.of (ao.refl H))
  |true=>
   rw[if_neg (fun z=>by rw[(bL R ew key).mp z]at hkn;cases hkn)]
   have e0:Vbnlaa.step st (.drop key)=if st.evs.any (fun e=>e.a == key || (decide (2≤e.kind) && e.b == key))=true then (st,[-11]) else ({ st with works:=st.works.filter fun w=>w.key != key },[0]):=if_neg (by rw[hkn];decide)
   have hk0:key≠0:=by
    obtain⟨v,hv,ev⟩:=List.mem_map.mp (bM.mp hkn)
    have:=(R.wf.wk v hv).1
    have ev:v.key=key:=ev
    omega
   obtain⟨le,ee,hde,hte⟩:=id O.ev
   have hde:H de=some (.dK (ay fE le)):=hde
   obtain⟨dx,hin⟩:=O.ins
   have nce:c≠de:=bJ hin hde (by intro z;cases z)
   refine qv (kvs:=ay fE le) (d:=de) (fun od Rr r=>⟨_,rfl,c,C,dx,_,_,rfl,by rw[ak nce];exact hin,Z.cl,Z.nE,CB dw de,r⟩) hde (fun i σ U=>U=H∧(∀ e∈(es.map fun e=>e.2).take i,key≠e.u∧key≠e.v)∧∃ x2 x3 x4 x5,σ=[some (V.ref c),some (V.int key),x2,x3,x4,x5]) ⟨rfl,fun e he=>absurd he (by simp),_,_,_,_,rfl⟩ (fun i σ U p=>by rw[p.1];exact hde) ?_ ?_
   ·rintro i ky v σ U od hi ⟨rfl,hn,x2,x3,x4,x5,rfl⟩
    unfold ay at hi
    rw[List.getElem?_map]at hi
    cases hp:le[i]? with
    |none=>rw[hp]at hi;cases hi
    |some p=>
     rw[hp]at hi
     obtain⟨e1,e2⟩:=Prod.mk.inj (Option.some.inj hi)
     subst e1 e2
     have mp:=List.mem_of_getElem? hp
     have hv:(es.map fun e=>e.2)[i]? = some p.2.2:=by rw[ee,List.map_map,List.getElem?_map,hp];rfl
     have hpb:p.1≠de:=bJ (hte p mp) hde (by intro z;cases z)
     refine⟨p.1,_,rfl,SqT.of (by rw[ak hpb];exact hte p mp),rfl,_,_,rfl,_,_,rfl,_,_,rfl,_,_,rfl,rfl,?_⟩
     simp![tC]
     obtain⟨ev,hev,eev⟩:=R.AH.mp (show p.2∈es by rw[ee];exact List.mem_map.mpr ⟨p,mp,rfl⟩)
     have eu:p.2.2.u=ev.a:=by rw[←eev];rfl
     have evv:p.2.2.v=ev.b:=by rw[←eev];rfl
     have hit:(ev.a == key || (decide (2≤ev.kind) && ev.b == key))=true→Q (V.int (-11)) U:=by
      intro hh
      rw[if_pos (List.any_eq_true.mpr ⟨ev,hev,hh⟩)]at e0
      rw[e0]at k
      exact k U ⟨dw,de,ws,es,O,R⟩ (bC.of (ao.refl U))
     by_cases c1:key=p.2.2.u
     ·rw[if_pos c1]
      refine⟨ab,?_⟩
      rw[fH hde]
      exact hit (by simp[←eu,←c1])
     ·rw[if_neg c1]
      by_cases c2:key=p.2.2.v
      ·rw[if_pos c2]
       refine⟨ab,?_⟩
       rw[fH hde]
       refine hit ?_
       have k2:2≤ev.kind:=by
        apply Classical.byContradiction
        intro z
        have:=(R.wf.ev ev hev).lo (by omega)
        omega
       simp[k2]
       right
       omega
      ·rw[if_neg c2]
       refine⟨U,rfl,rfl,?_⟩
       have goal:∀ e∈(es.map fun e=>e.2).take (i+1),key≠e.u∧key≠e.v:=fun e he=>by
        rw[take_snoc hv]at he
        rcases List.mem_append.mp he with m | m
        ·exact hn e m
        ·rw[List.mem_singleton.mp m]
         exact⟨c1,c2⟩
       simpa using goal
   ·rintro σ U ⟨rfl,hn,x2,x3,x4,x5,rfl⟩
    unfold ay at hn
    rw[List.length_map,show le.length=(es.map fun e=>e.2).length by rw[ee,List.length_map,List.length_map],List.take_length]at hn
    have none_:∀ e∈es,e.2.u≠key∧e.2.v≠key:=fun e he=>by
     have:=hn e.2 (List.mem_map.mpr ⟨e,he,rfl⟩)
     exact⟨fun z=>this.1 z.symm,fun z=>this.2 z.symm⟩
    rw[if_neg (by
     intro z
     obtain⟨ev,hev,hh⟩:=List.any_eq_true.mp z
     have:=none_ _ (R.AH.mpr ⟨ev,hev,rfl⟩)
     simp at hh
     rcases hh with q | q
     ·exact this.1 q
     ·exact this.2 q.2)]at e0
    rw[e0]at k
    simp![uj]
    obtain⟨y,hy,ey⟩:=List.mem_map.mp (show key∈lw.map fun p=>fW p.2 by rw[kw];exact R.known.mp hkn)
    refine O.fw Z rfl ⟨dw,rfl,.inl ⟨_,.inl hd⟩,_,hd,iK key,rfl,?_,?_⟩
    ·rw[←ey]
     exact⟨_,gH (by rw[kw];exact R.wnd) hy⟩
    ·have ncw:c≠dw:=bJ hin hd (by intro z;cases z)
     refine k _ ⟨dw,de,_,es,⟨⟨dx,by rw[ak ncw];exact hin⟩,⟨lw.filter fun p=>decide (fW p.2≠key),?_,?_,fun z hz=>?_⟩,O.ev.dict hd (Ne.symm O.ne),O.ne⟩,R.drop none_ hk0⟩ (bC.dict (ao.refl U) hd)
     ·rw[ew,List.filter_map]
      rfl
     ·rw[ab,pV]
      rfl
     ·have mz:=(List.mem_filter.mp hz).1
      rw[ak (bJ (htup z mz) hd (by intro q;cases q))]
      exact htup z mz
theorem vY (T:Txt K mg) (Z:Cat K mg C):OkM P w K mg base C 1 "withdraw" ["self","key"] (nN K C):=by
 obtain⟨f,fd,hm,F,b⟩:=Z.yg
 refine⟨f,fd,hm,b,F.ok iO (fun vs H Q E h=>?_) (fun cdv A outer s H vs Q E hr h=>?_)⟩
 ·obtain⟨c,k,s,rfl,_⟩:=h
  rfl
 ·obtain⟨c,key,st,rfl,hC,k⟩:=h
  have hu:=bR hr
  refine⟨_,(ae (aK (cR (bu hu (pv 1) (cq (pv 0) rfl)) rfl) (ag (aq (aQ rfl T.cH))) az)
   (ae (eL (qb (cq (pv 0) rfl) (pv 1) ⟨rfl,rfl,rfl,rfl⟩))
   (ag (aq aj)))),?_⟩
  simp![uk,bP,dP,uj]
  obtain⟨dw,de,ws,es,O,R⟩:=hC
  obtain⟨le,ee,hde,hte⟩:=id O.ev
  have hde:H de=some (.dK (ay fE le)):=hde
  have kw:(le.map fun p=>fE p.2)=es.map fun w=>w.1:=by rw[ee,List.map_map];rfl
  obtain⟨dx,hin⟩:=O.ins
  refine O.fe Z rfl ⟨de,rfl,_,cn hde,?_⟩
  have ev:=yC R ee key
  cases hv:cp (ay fE le) (iK key) with
  |none=>
   rw[if_pos rfl]
   rw[hv]at ev
   have e:Vbnlaa.step st (.withdraw key)=(st,[-6]):=if_pos ev.symm
   rw[e]at k
   exact k H ⟨dw,de,ws,es,O,R⟩ (bC.of (ao.refl H))
  |some y=>
   rw[if_neg (by intro z;cases z)]
   rw[hv]at ev
   have e:Vbnlaa.step st (.withdraw key)=(withoutEv st key,[0]):=if_neg (by rw[←ev];simp)
   rw[e]at k
   refine O.fe Z rfl ⟨de,rfl,.inl ⟨_,.inl hde⟩,_,hde,iK key,rfl,⟨y,hv⟩,?_⟩
   have nce:c≠de:=bJ hin hde (by intro z;cases z)
   refine k _ ⟨dw,de,ws,_,⟨⟨dx,by rw[ak nce];exact hin⟩,O.wk.dict hde O.ne,⟨le.filter fun p=>decide (fE p.2≠key),?_,?_,fun z hz=>?_⟩,O.ne⟩,R.without key⟩ (bC.dict (ao.refl H) hde)
   ·rw[ee,List.filter_map]
    rfl
   ·rw[ab,pV]
    rfl
   ·have mz:=(List.mem_filter.mp hz).1
    rw[ak (bJ (hte z mz) hde (by intro q;cases q))]
    exact hte z mz
end
section
variable {P:Program}{w:World}{K:PySem.W.Frag}{mg:Str→Option Value}{base:Heap}{C:Addr}
theorem mX (T:Txt K mg) (Z:Cat K mg C) (IK:OkD P w K mg base 1 "is_gap" ["number"] mR) (GW:OkD P w K mg base 1 "is_day" ["number"] gA):OkM P w K mg base C 2 "claim_refusal" ["self","kind","u","v","amount"] (er K C):=by
 obtain⟨f,fd,hm,F,b⟩:=Z.oU
 refine⟨f,fd,hm,b,F.ok bO (fun vs H Q E h=>?_) (fun cdv A outer s H vs Q E hr h=>?_)⟩
 ·obtain⟨c,kind,u,v,g,s,rfl,_⟩:=h
  rfl
 ·obtain⟨c,kind,u,v,g,st,rfl,hC,k0,k3,k⟩:=h
  have hu:=bR hr
  obtain⟨dw,de,ws,es,O,R⟩:=hC
  obtain⟨lw,ew,hd,htup⟩:=id O.wk
  have hd:H dw=some (.dK (ay fW lw)):=hd
  have kn:=bL R ew
  have kq:∀ z:Int,fault st kind u v g=z→Q (.int z) H:=fun z e=>by rw[←e];exact k H (ao.refl H)
  have kS:∀ (z:Int) H1,ao H H1→fault st kind u v g=z→Q (.int z) H1:=fun z H1 s e=>by rw[←e];exact k H1 s
  have low:kind≤1→known st u=true→gA [V.int g] H (fun x H1=>x=V.bl false∧Q (V.int (-9)) H1∨x=V.bl true∧Q (V.int 0) H1) E0:=by
   intro hk hu'
   refine⟨g,rfl,trivial,fun H1 s1=>?_⟩
   cases hg:dayOk g with
   |false=>exact .inl ⟨congrArg V.bl hg,kS _ H1 s1 (by unfold fault;rw[if_neg (by rw[hu'];decide),if_pos hk,if_pos hg])⟩
   |true=>exact .inr ⟨congrArg V.bl hg,kS _ H1 s1 (by unfold fault;rw[if_neg (by rw[hu'];decide),if_pos hk,if_neg (by rw[hg];decide)])⟩
  have high:¬ kind≤1→known st u=true→known st v=true→u≠v→mR [V.int g] H (fun x H1=>x=V.bl false∧Q (V.int (-9)) H1∨x=V.bl true∧Q (V.int 0) H1) E0:=by
   intro hk hu' hv' huv
   refine⟨g,rfl,trivial,fun H1 s1=>?_⟩
   cases hg:gapOk g with
   |false=>exact .inl ⟨congrArg V.bl hg,kS _ H1 s1 (by unfold fault;rw[if_neg (by rw[hu'];decide),if_neg hk,if_neg (by rw[hv'];decide),if_neg huv,if_pos hg])⟩
   |true=>exact .inr ⟨congrArg V.bl hg,kS _ H1 s1 (by unfold fault;rw[if_neg (by rw[hu'];decide),if_neg hk,if_neg (by rw[hv'];decide),if_neg huv,if_neg (by rw[hg];decide)])⟩
  have hkind:kind=0∨kind=1∨kind=2∨kind=3:=by omega
  refine⟨_,(ae (aI (i:=5) bO.nd rfl (Or.inl rfl) (BA (cz aT (pv 1) (aQ rfl T.fF) (aD _)) (mU (cz aT (pv 1) (aQ rfl T.gQ) (aD _)))))
   (ae (aK (PW.pt (n8 (cR (bu hu (pv 2) (cq (pv 0) rfl)) rfl) (jl (PW.pt (ie (cE (pv 5)) (fu (cR (bu hu (pv 3) (cq (pv 0) rfl)) rfl))))))) (ag (aq (aQ rfl T.cH))) az)
   (ae (aK (PW.pt (ie (cE (pv 5)) (fu (aA aT (pv 2) (pv 3) (aD _))))) (ag (aq (aQ rfl T.wF))) az)
   (ae (aI (i:=6) bO.nd rfl (Or.inl rfl) (cF (cE (pv 5)) (aB IK hr rfl (aa (pv 4) ah)) (aB GW hr rfl (aa (pv 4) ah))))
   (ag (aq (cF (cE (pv 6)) aj (aQ rfl T.fQ)))))))),?_⟩
  have uno:known st u=false→fault st kind u v g = -6:=fun h=>by unfold fault;rw[if_pos h]
  have vno:¬ kind≤1→known st u=true→known st v=false→fault st kind u v g = -6:=fun hk h h2=>by unfold fault;rw[if_neg (by rw[h];decide),if_neg hk,if_pos h2]
  have same:¬ kind≤1→known st u=true→known st v=true→u=v→fault st kind u v g = -10:=fun hk h h2 h3=>by unfold fault;rw[if_neg (by rw[h];decide),if_neg hk,if_neg (by rw[h2];decide),if_pos h3]
  simp![uk,bP,dP]
  by_cases h2:kind=2
  ·rw[if_pos h2]
   refine O.fw Z rfl ⟨dw,rfl,_,cn hd,?_⟩
   cases hku:known st u with
   |false=>
    rw[if_pos ((kn u).mpr hku)]
    exact kq _ (uno hku)
   |true=>
    rw[if_neg (fun z=>by rw[(kn u).mp z]at hku;cases hku)]
    refine O.fw Z rfl ⟨dw,rfl,_,cn hd,?_⟩
    cases hkv:known st v with
    |false=>
     rw[if_pos ((kn v).mpr hkv)]
     exact kq _ (vno (by omega) hku hkv)
    |true=>
     rw[if_neg (fun z=>by rw[(kn v).mp z]at hkv;cases hkv)]
     by_cases huv:u=v
     ·rw[if_pos huv]
      exact kq _ (same (by omega) hku hkv huv)
     ·rw[if_neg huv]
      exact high (by omega) hku hkv huv
  ·rw[if_neg h2]
   refine O.fw Z rfl ⟨dw,rfl,_,cn hd,?_⟩
   cases hku:known st u with
   |false=>
    rw[if_pos ((kn u).mpr hku)]
    exact kq _ (uno hku)
   |true=>
    rw[if_neg (fun z=>by rw[(kn u).mp z]at hku;cases hku)]
    by_cases h3:kind=3
    ·refine .inr ⟨h3,O.fw Z rfl ⟨dw,rfl,_,cn hd,?_⟩⟩
     cases hkv:known st v with
     |false=>
      rw[if_pos ((kn v).mpr hkv)]
      exact kq _ (vno (by omega) hku hkv)
     |true=>
      rw[if_neg (fun z=>by rw[(kn v).mp z]at hkv;cases hkv)]
      refine .inr ⟨h3,?_⟩
      by_cases huv:u=v
      ·rw[if_pos huv]
       exact kq _ (same (by omega) hku hkv huv)
      ·rw[if_neg huv]
       exact .inr ⟨h3,high (by omega) hku hkv huv⟩
    ·exact .inl ⟨h3,.inl ⟨h3,.inl ⟨h3,low (by omega) hku⟩⟩⟩
theorem yA (s:State) (kind a b g:Int):fault s kind a b g=0∨fault s kind a b g < 0:=by
 unfold fault
 repeat' split
 all_goals first | exact .inl rfl | exact .inr (by decide)
theorem DK {st:State}{e:Ev}(k0:0≤e.kind) (k3:e.kind≤3) (kb:e.kind≤1→e.b=0) (h:fault st e.kind e.a e.b e.g=0):nL (aO st) e:=by
 unfold fault at h
 split at h
 ·cases h
 ·rename_i ha
  have ha:e.a∈aO st:=bM.mp (by simpa using ha)
  split at h
  ·rename_i hk
   split at h
   ·cases h
   ·rename_i hg
    have hg:dayOk e.g=true:=by simpa using hg
    unfold dayOk at hg
    rw[Bool.and_eq_true]at hg
    exact⟨k0,k3,ha,fun _=>⟨kb hk,of_decide_eq_true hg.1,of_decide_eq_true hg.2⟩,fun z=>absurd z (by omega)⟩
  ·rename_i hk
   split at h
   ·cases h
   ·rename_i hb
    have hb:e.b∈aO st:=bM.mp (by simpa using hb)
    split at h
    ·cases h
    ·rename_i hab
     split at h
     ·cases h
     ·rename_i hg
      have hg:gapOk e.g=true:=by simpa using hg
      unfold gapOk at hg
      rw[Bool.and_eq_true]at hg
      exact⟨k0,k3,ha,fun z=>absurd z hk,fun _=>⟨hb,hab,of_decide_eq_true hg.1,of_decide_eq_true hg.2⟩⟩
theorem oT (T:Txt K mg) (Z:Cat K mg C) (Hq:OkD P w K mg base 1 "is_key" ["number"] mQ) (GB:OkM P w K mg base C 2 "claim_refusal" ["self","kind","u","v","amount"] (er K C)) (G7:OkD P w K mg base 3 "has_way" ["works","evidence"] kW):OkM P w K mg base C 4 "add_evidence" ["self","key","kind","u","v","amount"] (iF K C):=by
 obtain⟨f,fd,hm,F,b⟩:=Z.qu
 refine⟨f,fd,hm,b,F.ok bT (fun vs H Q E h=>?_) (fun cdv A outer s H vs Q E hr h=>?_)⟩
 ·obtain⟨c,e,s,rfl,_⟩:=h
  rfl
 ·obtain⟨c,e,st,rfl,hC,k0,k3,kb,k⟩:=h
  have hu:=bR hr
  refine⟨_,(ae (aK (dQ (cE (aB Hq hr rfl (aa (pv 1) ah)))) (ag (aq (aQ rfl T.tP))) az)
   (ae (aK (cR (xQ hu (pv 1) (cq (pv 0) rfl)) rfl) (ag (aq (aQ rfl T.ox))) az)
   (ae (aI (i:=6) bT.nd rfl (Or.inl rfl) (fv (pv 0) Z.cl GB hr (aa (pv 2) (aa (pv 3) (aa (pv 4) (aa (pv 5) ah))))))
   (ae (aK (aA kK (pv 6) aj (aD _)) (ag (aq (pv 6))) az)
   (ae (aK (aA tE (aS gZ (by rfl) T.dB PySem.boot_len (aa (cq (pv 0) rfl) ah)) (aQ rfl T.oW) (aD _)) (ag (aq (aQ rfl T.Cf))) az)
   (ae (aI (i:=7) bT.nd rfl (Or.inl rfl) (dj eI (by rfl) T.m5 boot_dict (aa (cq (pv 0) rfl) ah)))
   (ae (b9 hu (pv 7) (pv 1) (cK (aa (pv 2) (aa (pv 3) (aa (pv 4) (aa (pv 5) ah))))) rfl)
   (ae (aK (dQ (cE (aB G7 hr rfl (aa (cq (pv 0) rfl) (aa (pv 7) ah))))) (ag (aq (aQ rfl T.wG))) az)
   (ae (uz (pv 0) (pv 7) rfl)
   (ag (aq aj))))))))))),?_⟩
  simp![uk,bP,dP,Dd,-List.lookup_eq_none_iff]
  have h16:sizeLine=16777216:=sizeLine_eq
  obtain⟨dw,de,ws,es,O,R⟩:=hC
  have w40:=R.wf.wn
  have Hn:=R.wf.en
  have stop:∀ z,early st e=z→z≠0→addEv st e=(st,[z]):=fun z e1 e2=>by
   unfold addEv
   rw[e1,if_pos e2]
  refine⟨e.key,rfl,trivial,fun H1 s1=>?_⟩
  have O1:=O.same s1
  cases hk:keyOk e.key with
  |false=>
   rw[stop (-4) (by unfold early;rw[if_pos hk]) (by decide)]at k
   exact .inl ⟨congrArg V.bl hk,k H1 ⟨dw,de,ws,es,O1,R⟩ (bC.of s1)⟩
  |true=>
   refine .inr ⟨congrArg V.bl hk,?_⟩
   obtain⟨le,ee,hde,hte⟩:=id O1.ev
   have hde:H1 de=some (.dK (ay fE le)):=hde
   have kw:(le.map fun p=>fE p.2)=es.map fun w=>w.1:=by rw[ee,List.map_map];rfl
   have KY:le.length=es.length:=by rw[ee,List.length_map]
   refine O1.fe Z rfl ⟨de,rfl,_,cn hde,?_⟩
   rw[yC R ee e.key]
   cases hev:(evOf st e.key).isSome with
   |true=>
    rw[if_pos rfl]
    rw[stop (-5) (by unfold early;rw[if_neg (by rw[hk];decide),if_pos hev]) (by decide)]at k
    exact k H1 ⟨dw,de,ws,es,O1,R⟩ (bC.of s1)
   |false=>
    rw[if_neg (by decide)]
    obtain⟨dx,hin⟩:=O1.ins
    refine⟨dx,_,hin,zK dw de (by decide +kernel) (by decide +kernel),c,e.kind,e.a,e.b,e.g,st,rfl,⟨dw,de,ws,es,O1,R⟩,k0,k3,fun H2 s2=>?_⟩
    have s12:=s1.trans s2
    have O2:=O1.same s2
    have KC:=s2 _ _ hde
    refine⟨_,rfl,?_⟩
    rcases yA st e.kind e.a e.b e.g with hf | hf
    ·rw[if_neg (by omega)]
     refine O2.fe Z rfl ⟨de,rfl,_,KC,?_⟩
     have Kp:(ay fE le).length=st.evs.length:=by unfold ay;rw[List.length_map,KY,R.oZ]
     rw[Kp]
     by_cases KL:100≤st.evs.length
     ·rw[if_pos (by omega)]
      rw[stop (-8) (by unfold early;rw[if_neg (by rw[hk];decide),if_neg (by rw[hev];decide),if_neg (by rw[hf];decide),if_pos (show EVS≤st.evs.length from KL)]) (by decide)]at k
      exact k H2 ⟨dw,de,ws,es,O2,R⟩ (bC.of s12)
     ·rw[if_neg (by omega)]
      have Ki:early st e=0:=by unfold early;rw[if_neg (by rw[hk];decide),if_neg (by rw[hev];decide),if_neg (by rw[hf];decide),if_neg (show ¬ EVS≤st.evs.length from KL)]
      have add:addEv st e=if feasible (withEv st e)=true then (withEv st e,[0]) else (st,[-7]):=by
       unfold addEv
       rw[Ki]
       rfl
      have ok:=DK k0 k3 kb hf
      have hkk:1≤e.key∧e.key≤1000000000:=by
       unfold keyOk at hk
       rw[Bool.and_eq_true]at hk
       exact⟨of_decide_eq_true hk.1,of_decide_eq_true hk.2⟩
      have Kq:e.key∉es.map fun e=>e.1:=fun z=>by rw[R.EV.mpr z]at hev;cases hev
      refine O2.fe Z rfl ⟨de,rfl,_,KC,fun p hp=>⟨by decide,fun q hq=>?_⟩⟩
      have t1:ao H2 (L2.upd H2 p (.dK (ay fE le))):=ao.new hp
      have t2:=ao.new (o:=HO.tup [.int e.kind,.int e.a,.int e.b,.int e.g]) hq
      have npq:p≠q:=fun z=>by rw[←z,ab]at hq;cases hq
      refine⟨_,gx.k (k:=iK e.key) (t2 _ _ ab) (by rw[Kp];omega),?_⟩
      have s23:ao H2 (L2.upd (L2.upd (L2.upd H2 p (.dK (ay fE le))) q (.tup [.int e.kind,.int e.a,.int e.b,.int e.g])) p (.dK (putK (ay fE le) (iK e.key) (.ref q)))):=fun b o h=>by
       rw[ak (aF h hp)]
       exact t2 _ _ (t1 _ _ h)
      have O3:=O2.same s23
      have L:=R.Au ok
      have hE:Evs (L2.upd (L2.upd (L2.upd H2 p (.dK (ay fE le))) q (.tup [.int e.kind,.int e.a,.int e.b,.int e.g])) p (.dK (putK (ay fE le) (iK e.key) (.ref q)))) p (es ++ [e5 e]):=by
       refine⟨le ++ [(q,e5 e)],by rw[List.map_append,←ee];rfl,?_,fun z hz=>?_⟩
       ·rw[ab,uw (f:=fE) (k:=e.key) (x:=e5 e) (by rw[kw];exact Kq) rfl]
        rfl
       ·rcases List.mem_append.mp hz with m | m
        ·exact s23 _ _ (s2 _ _ (hte z m))
        ·rw[List.mem_singleton.mp m,ak (Ne.symm npq)]
         exact ab
      have way:=yW L R.wf.ws
      refine O3.fw Z rfl ⟨dw,p,ws,_,rfl,O3.wk,hE,L.wnd,L.ein,by rw[R.lz];exact w40,by rw[List.length_append,R.oZ];simp;omega,fun H4 s4=>?_⟩
      rw[←way]
      have O4:=O3.same s4
      have s14:=(s12.trans s23).trans s4
      cases hfe:feasible (withEv st e) with
      |false=>
       rw[add,if_neg (by rw[hfe];decide)]at k
       exact .inl ⟨rfl,k H4 ⟨dw,de,ws,es,O4,R⟩ (bC.of s14)⟩
      |true=>
       rw[add,if_pos hfe]at k
       obtain⟨dx4,Ke⟩:=O4.ins
       refine .inr ⟨rfl,C,dx4,_,Ke,Z.cl,Z.nE,by show 2 < 1000;decide,k _ ⟨dw,p,ws,_,⟨⟨dx4,?_⟩,O4.wk.upd Ke,(hE.same s4).upd Ke,?_⟩,R.with ok hkk.1 hkk.2 Kq (by rw[R.oZ];omega) hfe⟩ ?_⟩
       ·rw[ab,A1]
       ·obtain⟨lw,ew,hdw,_⟩:=O2.wk
        exact fun z=>by rw[←z,hdw]at hp;cases hp
       ·intro b o h nb _
        rw[ak nb]
        exact s14 _ _ h
    ·rw[if_pos hf]
     rw[stop _ (by unfold early;rw[if_neg (by rw[hk];decide),if_neg (by rw[hev];decide),if_pos (show fault st e.kind e.a e.b e.g≠0 by omega)]) (by omega)]at k
     exact k H2 ⟨dw,de,ws,es,O2,R⟩ (bC.of s12)
end
def y6 (C:Addr):Sp:=fun vs H Q _=>∃ p dx:Addr,vs=[.ref p]∧H p=some (.ins C dx [])∧∀ H',bb C H' p Vbnlaa.start→(∀ b o,H b=some o→b≠p→H' b=some o)→Q .non H'
section
variable {P:Program}{w:World}{K:PySem.W.Frag}{mg:Str→Option Value}{base:Heap}{C:Addr}
theorem Ds (Z:Cat K mg C):OkM P w K mg base C 1 "__init__" ["self"] (y6 C):=by
 obtain⟨f,fd,hm,F,b⟩:=Z.yi
 refine⟨f,fd,hm,b,F.ok iP (fun vs H Q E h=>?_) (fun cdv A outer s H vs Q E hr h=>?_)⟩
 ·obtain⟨p,dx,rfl,_⟩:=h
  rfl
 ·obtain⟨p,dx,rfl,hp,k⟩:=h
  refine⟨_,(ae (uz (pv 0) dS rfl)
   (ag (uz (pv 0) dS rfl))),?_⟩
  simp![Dd,g6]
  intro d1 h1
  have n1:p≠d1:=fun z=>by rw[←z,hp]at h1;cases h1
  refine⟨C,dx,[],by rw[ak n1];exact hp,Z.cl,Z.nW,by decide,fun d2 h2=>?_⟩
  have n2:d2≠p:=fun z=>by rw[z,ab]at h2;cases h2
  rw[ak n2]at h2
  have n3:d2≠d1:=fun z=>by rw[z,ab]at h2;cases h2
  rw[ak n3]at h2
  refine⟨C,dx,[("works",.ref d1)],by rw[ak (Ne.symm n2)];exact ab,Z.cl,Z.nE,by show 1 < 1000;decide,?_⟩
  refine k _ ⟨d1,d2,[],[],⟨⟨dx,?_⟩,⟨[],rfl,?_,fun q hq=>absurd hq (by simp)⟩,⟨[],rfl,?_,fun q hq=>absurd hq (by simp)⟩,Ne.symm n3⟩,Aa⟩ ?_
  ·rw[ab]
   show some (HO.ins C dx (ig "evidence" (.ref d2) [("works",.ref d1)]))=_
   congr 2
  ·rw[ak (Ne.symm n1),ak (Ne.symm n3),ak (Ne.symm n1)]
   exact ab
  ·rw[ak n2]
   exact ab
  ·intro b o e hb
   rw[ak hb,ak (aF e h2),ak hb,ak (aF e h1)]
   exact e
end
section
variable {X:Cx}{x:Str}{pos p:Pos}
def Fj (C:Addr) (sp:Sp):TE:=fun _ H Q=>∀ x dx,H x=none→H dx=none→dx≠x→sp [.ref x] (upd (upd H dx (.own x)) x (.ins C dx [])) (fun v H2=>v = .non∧Q (.ref x) H2) E0
theorem Di {C:Addr}{j k:Nat}{ps:List Str}{sp:Sp}(zk:PySem.W.makesIn X.K C=true) (zp:PySem.W.keepIn X.K (.ref C)=true) (zm:X.mg x=some (.ref C)) (G:OkM X.prog X.w X.K X.mg X.base C j "__init__" ps sp) (hr:dD k X.A) (hg:Gl X x) (hjk:j+1≤k:=by decide)
  (hdb:(x == ("__debug__" : Str))=false:=by decide):PE X (.Call (.Name x p) [] [] pos) (Fj C sp):=by
 obtain⟨f,fd,hm,hb,F⟩:=G
 exact BB ⟨zk,hm.1,hm.2,zp⟩ F (hr.mono hjk) hg zm hb .nil BD hdb
end
theorem bC.seq {K:PySem.W.Frag}{C c a:Addr}{H H':Hp}{s:State}{xs:List V}(k:bC c H H') (hC:bb C H c s) (h:SqL K H a xs):SqL K H' a xs:=by
 obtain⟨dw,de,ws,es,⟨⟨dx,hc⟩,_⟩,_⟩:=hC
 rcases h with h | h
 ·refine .inl ?_
  rcases h with h | ⟨o,h⟩
  ·exact .inl (k _ _ h (fun z=>by rw[z,hc]at h;cases h) (fun kvs z=>by cases z))
  ·exact .inr ⟨o,k _ _ h (fun z=>by rw[z,hc]at h;cases h) (fun kvs z=>by cases z)⟩
 ·exact .inr h
def fV:Sp:=spV (fun n:Int=>[.int n]) (fun _=>True) (fun n=>.int (if dayOk n=false then -9 else (Vbnlaa.weekday n.toNat:Int)))
def iE (K:PySem.W.Frag) (C:Addr):Sp:=fun vs H Q _=>∃ (c na ra:Addr) (p k:Int) (t:List Nat) (cl:Vbnlaa.Call) (s:State),vs=[.ref c,.int p,.ref na,.ref ra]∧SqL K H na [V.int k]∧bb C H c s ∧
 ((SqL K H ra (t.map nV)∧t.length≤60∧(p=3∧cl = .work k t∨p=4∧cl = .restate k t))∨p=5∧cl = .drop k)∧∀ H',bb C H' c (step s cl).1→bC c H H'→Q (one (step s cl).2) H'
def fZ (K:PySem.W.Frag) (C:Addr):Sp:=fun vs H Q _=>∃ (c na:Addr) (p:Int) (ns:List Int) (e:Ev) (s:State),vs=[.ref c,.int p,.ref na]∧SqL K H na (ns.map V.int)∧bb C H c s ∧
 (p=6∧e.kind=0∧e.b=0∧ns=[e.key,e.a,e.g]∨p=7∧e.kind=1∧e.b=0∧ns=[e.key,e.a,e.g]∨p=8∧e.kind=2∧ns=[e.key,e.a,e.b,e.g]∨p=9∧e.kind=3∧ns=[e.key,e.a,e.b,e.g])∧∀ H',bb C H' c (addEv s e).1→bC c H H'→Q (one (addEv s e).2) H'
section
variable {P:Program}{w:World}{K:PySem.W.Frag}{mg:Str→Option Value}{base:Heap}{C:Addr}
theorem bb.obj {C c:Addr}{H:Hp}{s:State}(h:bb C H c s) {m:Str}(h1:(m == ("works" : Str))=false) (h2:(m == ("evidence" : Str))=false):∃ dx fs,H c=some (.ins C dx fs)∧fs.lookup m=none:=by
 obtain⟨dw,de,ws,es,⟨⟨dx,hc⟩,_⟩,_⟩:=h
 exact⟨dx,_,hc,zK dw de h1 h2⟩
theorem l5 (T:Txt K mg) (GW:OkD P w K mg base 1 "is_day" ["number"] gA) (Hr:OkD P w K mg base 1 "weekday_of" ["day"] ki):OkD P w K mg base 2 "weekday_answer" ["day"] fV:=by
 obtain⟨f,fd,hm,F,b⟩:=T.nr
 refine⟨f,fd,hm,F.kp,b,F.ok lL (fun vs H Q E h=>?_) (fun cdv A outer s H vs Q E hr h=>?_)⟩
 ·obtain⟨n,rfl,_⟩:=h
  rfl
 ·obtain⟨d,rfl,_,k⟩:=h
  refine⟨_,(ag (aq (cF (cE (aB GW hr rfl (aa (pv 0) ah))) (aB Hr hr rfl (aa (pv 0) ah)) (aQ rfl T.fQ)))),?_⟩
  simp![tC]
  refine⟨d,rfl,trivial,fun H1 s1=>?_⟩
  cases hd:dayOk d with
  |false=>
   simp only[hd]at k
   exact .inl ⟨congrArg V.bl hd,k H1 s1⟩
  |true=>
   obtain⟨n,rfl⟩:∃ n:Nat,d=n:=by
    unfold dayOk at hd
    rw[Bool.and_eq_true]at hd
    exact⟨d.toNat,by have:=of_decide_eq_true hd.1;omega⟩
   simp only[hd]at k
   refine .inr ⟨congrArg V.bl hd,n,rfl,trivial,fun H2 s2=>?_⟩
   exact k H2 (s1.trans s2)
theorem oS (T:Txt K mg) (Z:Cat K mg C) (HK:OkM P w K mg base C 7 "add_work" ["self","key","text"] (nS K C)) (Ia:OkM P w K mg base C 7 "restate" ["self","key","text"] (pD K C)) (JI:OkM P w K mg base C 1 "drop" ["self","key"] (za K C)):OkD P w K mg base 8 "change_works" ["catalogue","call","numbers","row"] (iE K C):=by
 obtain⟨f,fd,hm,F,b⟩:=T.qY
 refine⟨f,fd,hm,F.kp,b,F.ok oK (fun vs H Q E h=>?_) (fun cdv A outer s H vs Q E hr h=>?_)⟩
 ·obtain⟨c,na,ra,p,k,t,cl,s,rfl,_⟩:=h
  rfl
 ·obtain⟨c,na,ra,p,key,t,cl,st,rfl,hn,hC,hp,k⟩:=h
  refine⟨_,(ae (aK (aA aT (pv 1) (aQ rfl T.oz) (aD _)) (ag (aq (fv (pv 0) Z.cl HK hr (aa (aH (aE (K:=K) rfl) (pv 2) aj (fun _ _=>rfl)) (aa (pv 3) ah))))) az)
   (ae (aK (aA aT (pv 1) (aQ rfl T.jD) (aD _)) (ag (aq (fv (pv 0) Z.cl Ia hr (aa (aH (aE (K:=K) rfl) (pv 2) aj (fun _ _=>rfl)) (aa (pv 3) ah))))) az)
   (ag (aq (fv (pv 0) Z.cl JI hr (aa (aH (aE (K:=K) rfl) (pv 2) aj (fun _ _=>rfl)) ah)))))),?_⟩
  rcases hp with ⟨hS,hl,⟨rfl,rfl⟩ | ⟨rfl,rfl⟩⟩ | ⟨rfl,rfl⟩
  ·simp![-List.lookup_eq_none_iff]
   obtain⟨dx,fs,h1,h2⟩:=hC.obj (m:="add_work") (by decide +kernel) (by decide +kernel)
   refine⟨dx,fs,h1,h2,ixl hn (ax (j:=0) rfl) ⟨c,key,ra,t,st,rfl,hS,hl,hC,k⟩⟩
  ·simp![-List.lookup_eq_none_iff]
   obtain⟨dx,fs,h1,h2⟩:=hC.obj (m:="restate") (by decide +kernel) (by decide +kernel)
   refine⟨dx,fs,h1,h2,ixl hn (ax (j:=0) rfl) ⟨c,key,ra,t,st,rfl,hS,hl,hC,k⟩⟩
  ·simp![-List.lookup_eq_none_iff]
   obtain⟨dx,fs,h1,h2⟩:=hC.obj (m:="drop") (by decide +kernel) (by decide +kernel)
   refine⟨dx,fs,h1,h2,ixl hn (ax (j:=0) rfl) ⟨c,key,st,rfl,hC,k⟩⟩
theorem l8 (T:Txt K mg) (Z:Cat K mg C) (GN:OkM P w K mg base C 4 "add_evidence" ["self","key","kind","u","v","amount"] (iF K C)):OkD P w K mg base 5 "add_evidence" ["catalogue","call","numbers"] (fZ K C):=by
 obtain⟨f,fd,hm,F,b⟩:=T.qZ
 refine⟨f,fd,hm,F.kp,b,F.ok iI (fun vs H Q E h=>?_) (fun cdv A outer s H vs Q E hr h=>?_)⟩
 ·obtain⟨c,na,p,ns,e,s,rfl,_⟩:=h
  rfl
 ·obtain⟨c,na,p,ns,e,st,rfl,hn,hC,hp,k⟩:=h
  obtain⟨ek,kd,ea,eb,eg⟩:=e
  refine⟨_,(ae (aK (aA aT (pv 1) (aQ rfl T.gi) (aD _)) (ag (aq (fv (pv 0) Z.cl GN hr (aa (aH (aE (K:=K) rfl) (pv 2) aj (fun _ _=>rfl)) (aa (aQ rfl T.dm) (aa (aH (aE (K:=K) rfl) (pv 2) aj (fun _ _=>rfl)) (aa aj (aa (aH (aE (K:=K) rfl) (pv 2) aj (fun _ _=>rfl)) ah)))))))) az)
   (ae (aK (aA aT (pv 1) (aQ rfl T.gS) (aD _)) (ag (aq (fv (pv 0) Z.cl GN hr (aa (aH (aE (K:=K) rfl) (pv 2) aj (fun _ _=>rfl)) (aa (aQ rfl T.eX) (aa (aH (aE (K:=K) rfl) (pv 2) aj (fun _ _=>rfl)) (aa aj (aa (aH (aE (K:=K) rfl) (pv 2) aj (fun _ _=>rfl)) ah)))))))) az)
   (ae (aI (i:=3) iI.nd rfl (Or.inl rfl) (cF (aA aT (pv 1) (aQ rfl T.kN) (aD _)) (aQ rfl T.gQ) (aQ rfl T.fF)))
   (ag (aq (fv (pv 0) Z.cl GN hr (aa (aH (aE (K:=K) rfl) (pv 2) aj (fun _ _=>rfl)) (aa (pv 3) (aa (aH (aE (K:=K) rfl) (pv 2) aj (fun _ _=>rfl)) (aa (aH (aE (K:=K) rfl) (pv 2) aj (fun _ _=>rfl)) (aa (aH (aE (K:=K) rfl) (pv 2) aj (fun _ _=>rfl)) ah))))))))))),?_⟩
  obtain⟨dx,fs,h1,h2⟩:=hC.obj (m:="add_evidence") (by decide +kernel) (by decide +kernel)
  simp only at hp
  simp![-List.lookup_eq_none_iff]
  rcases hp with ⟨rfl,rfl,rfl,rfl⟩ | ⟨rfl,rfl,rfl,rfl⟩ | ⟨rfl,rfl,rfl⟩ | ⟨rfl,rfl,rfl⟩
  ·exact⟨dx,fs,h1,h2,ixl hn (ax (j:=0) rfl) (ixl hn (ax (j:=1) rfl) (ixl hn (ax (j:=2) rfl) ⟨c,⟨ek,0,ea,0,eg⟩,st,rfl,hC,(show (0:Int)≤0 by decide),(show (0:Int)≤3 by decide),(fun _=>rfl),k⟩))⟩
  ·exact⟨dx,fs,h1,h2,ixl hn (ax (j:=0) rfl) (ixl hn (ax (j:=1) rfl) (ixl hn (ax (j:=2) rfl) ⟨c,⟨ek,1,ea,0,eg⟩,st,rfl,hC,(show (0:Int)≤1 by decide),(show (1:Int)≤3 by decide),(fun _=>rfl),k⟩))⟩
  ·exact⟨dx,fs,h1,h2,ixl hn (ax (j:=0) rfl) (ixl hn (ax (j:=1) rfl) (ixl hn (ax (j:=2) rfl) (ixl hn (ax (j:=3) rfl) ⟨c,⟨ek,2,ea,eb,eg⟩,st,rfl,hC,(show (0:Int)≤2 by decide),(show (2:Int)≤3 by decide),(fun z=>absurd (show (2:Int)≤1 from z) (by decide)),k⟩)))⟩
  ·exact⟨dx,fs,h1,h2,ixl hn (ax (j:=0) rfl) (ixl hn (ax (j:=1) rfl) (ixl hn (ax (j:=2) rfl) (ixl hn (ax (j:=3) rfl) ⟨c,⟨ek,3,ea,eb,eg⟩,st,rfl,hC,(show (0:Int)≤3 by decide),(show (3:Int)≤3 by decide),(fun z=>absurd (show (3:Int)≤1 from z) (by decide)),k⟩)))⟩
end
end Dw
namespace Dw
open PySem PySem.Spec PyProof.Rows L2
theorem jV {α β:Type}{f:α→β}{l' m:List β}(p:l'.Perm m):∀ {l:List α},m=l.map f→∃ l'':List α,l''.Perm l∧l''.map f=l':=by
 induction p with
 |nil=>intro l e;cases l with
  |nil=>exact⟨[],.nil,rfl⟩
  |cons a l=>cases e
 |cons x p ih=>
  intro l e
  cases l with
  |nil=>cases e
  |cons a l=>
   rw[List.map_cons]at e
   injection e with e1 e2
   obtain⟨l'',h1,h2⟩:=ih e2
   exact⟨a :: l'',h1.cons a,by rw[List.map_cons,h2,e1]⟩
 |swap x y t=>
  intro l e
  match l,e with
  | [],e=>cases e
  | [a],e=>rw[List.map_cons]at e;injection e with _ e2;cases e2
  |a :: b :: c,e=>
   rw[List.map_cons,List.map_cons]at e
   injection e with e1 e2
   injection e2 with e3 e4
   exact⟨b :: a :: c,.swap a b c,by rw[List.map_cons,List.map_cons,e1,e3,e4]⟩
 |trans p q ihp ihq=>
  intro l e
  obtain⟨l1,h1,h2⟩:=ihq e
  obtain⟨l2,h3,h4⟩:=ihp h2.symm
  exact⟨l2,h3.trans h1,h4⟩
def DY (m:Addr→Option Int):Value→Option Int
 | .ref a=>m a
 |_=>none
@[reducible] def rn (m:Addr→Option Int):PyProof.Rows.KeyKind where
 toKeyOrd:=PyProof.Rows.intKind.toKeyOrd
 keyOf:=DY m
 dflt:=(0:Int)
section
variable {prog:Program}{w:World}{A:Around}{E:Value→Shared→Prop}{s:Shared}
theorem DX {m:Addr→Option Int}(hm:∀ a i,m a=some i→∃ o t x n,s.heap.get? a=some o∧o.data = .seq #[Value.int i t,x] n) (inj:∀ a b i,m a=some i→m b=some i→a=b) :
  PyProof.Rows.G.LtAt prog w s (rn m) (tuples' true):=by
 intro A E x y i j Q hx hy hq
 cases x with
 |ref a=>
  cases y with
  |ref b=>
   have hx:m a=some i:=hx
   have hy:m b=some j:=hy
   obtain⟨o,t,x,n,h1,h2⟩:=hm a i hx
   obtain⟨o',t',x',n',h1',h2'⟩:=hm b j hy
   refine PySem.W.kat_lt h1 h2 h1' h2' ?_
   refine PySem.W.kat_cons (wpAny_eqBool_int ?_)
   refine PySem.W.kat_go (fun e=>PySem.W.kat_yes ?_) (fun e=>PySem.W.kat_no ?_)
   ·have hij:i=j:=by simpa using e
    subst hij
    have:=inj a b i hx hy
    subst this
    rw[h1]at h1'
    cases h1'
    rw[h2]at h2'
    injection h2' with e1 e2
    have e3:x=x':=by
     have:=congrArg (fun z:Array Value=>z.toList) e1
     simp at this
     exact this.2
    subst e3
    refine PySem.W.kat_cons (SeqAt.EqAt.same x prog w _ _ (PySem.W.kat_yes (PySem.W.kat_nil ?_)))
    have:(decide (i < i))=false:=by simp
    have hq:Q (decide (i < i)) s:=hq
    rw[this]at hq
    exact hq
   ·exact oneLt_any_int hq
  |_=>cases (show none=some j from hy)
 |_=>cases (show none=some i from hx)
theorem xB {a:Addr}{n:Nat}{tb:List (Addr×Int×Value)}{P:Fin→Shared→Prop}(ho:s.heap.get? a=some (seqObj "list" (tb.map fun t=>Value.ref t.1).toArray n)) (hL:tb.length≤sizeLine)
  (ht:∀ t∈tb,∃ k,s.heap.get? t.1=some { cls:=.type "tuple",data:=.seq #[Value.int t.2.1 k,t.2.2] }) (nda:(tb.map fun t=>t.1).Nodup) (ndk:(tb.map fun t=>t.2.1).Nodup)
  (h:∀ ts:List (Addr×Int×Value),ts.Perm tb→(ts.map fun t=>t.2.1).Pairwise (· < ·)→P (.done (.ret .none)) { s with heap:=sortedHeap s.heap a (tb.map fun t=>Value.ref t.1) (ts.map fun t=>Value.ref t.1).toArray }) :
  wpAny (model prog w) A (Builtin.«list.sort» ⟨[.ref a],[]⟩) P E s:=by
 let m:Addr→Option Int:=fun b=>(tb.find? fun t=>t.1 == b).map fun t=>t.2.1
 have mem:∀ b i,m b=some i→∃ t∈tb,t.1=b∧t.2.1=i:=by
  intro b i e
  cases q:tb.find? fun t=>t.1 == b with
  |none=>
   have e:(tb.find? fun t=>t.1 == b).map (fun t=>t.2.1)=some i:=e
   rw[q]at e;cases e
  |some t=>
   have e:(tb.find? fun t=>t.1 == b).map (fun t=>t.2.1)=some i:=e
   rw[q]at e
   have:=List.find?_some q
   exact⟨t,List.mem_of_find?_eq_some q,by simpa using this,Option.some.inj e⟩
 have Ko:∀ t∈tb,m t.1=some t.2.1:=by
  intro t hm
  show (tb.find? fun u=>u.1 == t.1).map (fun t=>t.2.1)=some t.2.1
  have:tb.find? (fun u=>u.1 == t.1)=some t:=by
   clear h ho ht ndk mem hL
   induction tb with
   |nil=>cases hm
   |cons x r ih=>
    rw[List.map_cons,List.nodup_cons]at nda
    rw[List.find?_cons]
    rcases List.mem_cons.mp hm with q | q
    ·subst q;rw[beq_self_eq_true]
    ·have:(x.1 == t.1)=false:=by
      have:x.1≠t.1:=fun z=>nda.1 (by rw[z];exact List.mem_map.mpr ⟨t,q,rfl⟩)
      simpa using this
     rw[this]
     exact ih nda.2 q
  rw[this]
  rfl
 have JZ:∀ t∈tb,∀ u∈tb,t.2.1=u.2.1→t=u:=by
  intro t h1 u h2 e
  obtain⟨i,hi⟩:=List.getElem?_of_mem h1
  obtain⟨j,hj⟩:=List.getElem?_of_mem h2
  have e1:(tb.map fun t=>t.2.1)[i]? = some t.2.1:=by rw[List.getElem?_map,hi];rfl
  have e2:(tb.map fun t=>t.2.1)[j]? = some t.2.1:=by rw[List.getElem?_map,hj,e];rfl
  obtain⟨l1,f1⟩:=List.getElem?_eq_some_iff.mp e1
  obtain⟨l2,f2⟩:=List.getElem?_eq_some_iff.mp e2
  have:=(List.getElem_inj ndk).mp (f1.trans f2.symm)
  subst this
  rw[hi]at hj
  exact Option.some.inj hj
 have k6:∀ t∈tb,∀ o,s.heap.get? t.1=some o→o.cls = .type "tuple"→(PyProof.Rows.G.sortHeap6 s.heap a (tb.map fun t=>Value.ref t.1)).get? t.1=some o:=fun t _ o e c=>PyProof.Rows.G.keeps_sort6 (vs:=tb.map fun t=>Value.ref t.1) ho t.1 o e c
 refine PyProof.Rows.G.list_sort_treeG (κ:=rn m) (kd:=tuples' true) ho ?_ ?_ ?_ (by rw[List.length_map];exact hL) ?_
 ·intro p hp
  rw[pairsOf_toList]at hp
  obtain⟨e,hmem⟩:=mem_zip_self hp
  obtain⟨t,htm,et⟩:=List.mem_map.mp hmem
  exact⟨t.2.1,by rw[←et];exact Ko t htm⟩
 ·refine DX (fun b i e=>?_) fun b c i e1 e2=>?_
  ·obtain⟨t,htm,e1,e2⟩:=mem b i e
   obtain⟨k,hk⟩:=ht t htm
   subst e1 e2
   exact⟨_,k,t.2.2,0,k6 t htm _ hk rfl,rfl⟩
  ·obtain⟨t,h1,h2,h3⟩:=mem b i e1
   obtain⟨u,h4,h5,h6⟩:=mem c i e2
   have:=JZ t h1 u h4 (by rw[h3,h6])
   rw[←h2,←h5,this]
 ·intro h2 Q hq
  have i4:∀ l:List (Addr×Int×Value),(∀ t∈l,t∈tb)→∃ fs,TupsOf (PyProof.Rows.G.sortHeap6 s.heap a (tb.map fun t=>Value.ref t.1)) (fun _=>false) (l.map fun t=>Value.ref t.1) fs∧fs.length=l.length:=by
   intro l
   induction l with
   |nil=>intro _;exact⟨[],.nil,rfl⟩
   |cons t l ih=>
    intro hl
    obtain⟨fs,h1,h2⟩:=ih fun u hu=>hl u (List.mem_cons_of_mem _ hu)
    obtain⟨k,hk⟩:=ht t (hl t List.mem_cons_self)
    exact⟨Value.int t.2.1 k :: fs,.cons ⟨t.1,_,_,_,rfl,k6 t (hl t List.mem_cons_self) _ hk rfl,rfl,rfl,rfl,fun _=>⟨_,_,rfl⟩,fun z=>by cases z⟩ h1,by rw[List.length_cons,List.length_cons,h2]⟩
  obtain⟨fs,hf,hfl⟩:=i4 tb fun _ h=>h
  rw[List.length_map]at h2
  exact tup_kind (s:={ s with heap:=PyProof.Rows.G.sortHeap6 s.heap a (tb.map fun t=>Value.ref t.1) }) (by omega) hf hq
 ·intro st' h1 h2 _
  have hp:(arrOf st').toList.Perm ((tb.map fun t=>Value.ref t.1).zip (tb.map fun t=>Value.ref t.1)):=by
   have e:=Array.perm_iff_toList_perm.mp h1
   rw[pairsOf_toList]at e
   exact e
  have hz:(tb.map fun t=>Value.ref t.1).zip (tb.map fun t=>Value.ref t.1)=tb.map fun t=>(Value.ref t.1,Value.ref t.1):=by
   rw[List.zip_map']
  rw[hz]at hp
  obtain⟨ts,q1,q2⟩:=jV hp rfl
  have out:(arrOf st').map (·.2)=(ts.map fun t=>Value.ref t.1).toArray:=by
   apply Array.toList_inj.mp
   rw[Array.toList_map,←q2,List.map_map]
   rfl
  rw[out]
  refine h ts q1 ?_
  have at_:∀ (i:Nat) (t:Addr×Int×Value),ts[i]? = some t→KK (rn m) (arrOf st') i=t.2.1:=by
   intro i t e
   have:(arrOf st')[i]? = some (Value.ref t.1,Value.ref t.1):=by
    rw[←Array.getElem?_toList,←q2,List.getElem?_map,e]
    rfl
   unfold KK
   rw[this]
   show ((m t.1).getD 0:Int)=t.2.1
   rw[Ko t (q1.mem_iff.mp (List.mem_of_getElem? e))]
   rfl
  have len:(pairsOf (tb.map fun t=>Value.ref t.1)).size=ts.length:=by
   rw[pairsOf_size,List.length_map,q1.length_eq]
  rw[List.pairwise_map,List.pairwise_iff_getElem]
  intro i j hi hj hij
  have e1:=at_ i ts[i] (List.getElem?_eq_getElem hi)
  have e2:=at_ j ts[j] (List.getElem?_eq_getElem hj)
  have:=h2 i j (Nat.le_of_lt hij) (by rw[len];exact hj)
  rw[e1,e2]at this
  have le:¬ ts[j].2.1 < ts[i].2.1:=of_decide_eq_false this
  have ne:ts[i].2.1≠ts[j].2.1:=by
   intro e
   have ndt:(ts.map fun t=>t.2.1).Nodup:=((q1.map fun t=>t.2.1).nodup_iff).mpr ndk
   have f1:(ts.map fun t=>t.2.1)[i]'(by rw[List.length_map];exact hi)=ts[i].2.1:=by simp
   have f2:(ts.map fun t=>t.2.1)[j]'(by rw[List.length_map];exact hj)=ts[j].2.1:=by simp
   have:=(List.getElem_inj ndt).mp (f1.trans (e.trans f2.symm))
   omega
  omega
end
theorem Ci {α:Type}{f:α→Addr}{l:List α}(nd:(l.map f).Nodup) {a:α}(h:a∈l):l.find? (fun b=>f b == f a)=some a:=by
 induction l with
 |nil=>cases h
 |cons x r ih=>
  rw[List.map_cons,List.nodup_cons]at nd
  rw[List.find?_cons]
  rcases List.mem_cons.mp h with q | q
  ·subst q
   rw[beq_self_eq_true]
  ·have:(f x == f a)=false:=by
    have:f x≠f a:=fun z=>nd.1 (by rw[z];exact List.mem_map.mpr ⟨a,q,rfl⟩)
    simpa using this
   rw[this]
   exact ih nd.2 q
section
variable {X:Cx}{pins:List (Addr×Obj)}{σ:L2.St}{H H':Hp}{s:Shared}{h':Heap}
theorem gL {P:Program}{w:World}{H:Hp}{h:Heap}{a:Addr}{o:HO}(x:bS P w H h a o):∃ u,h.get? a=some u:=by
 cases o with
 |lst xs=>obtain⟨_,_,_,_,e⟩:=x;exact⟨_,e⟩
 |tup xs=>obtain⟨_,_,_,_,e,_⟩:=x;exact⟨_,e⟩
 |dK kvs=>obtain⟨_,_,_,_,o,_,_,e,_⟩:=x;exact⟨_,e⟩
 |dT kvs=>obtain⟨_,_,_,_,o,_,_,e,_⟩:=x;exact⟨_,e⟩
 |set S n=>obtain⟨o,_,_,_,e,_⟩:=x;exact⟨_,e⟩
 |ins C dx fs=>obtain⟨_,_,_,e,_⟩:=x;exact⟨_,e⟩
 |own y=>obtain⟨_,e⟩:=x;exact⟨_,e⟩
 |xd fs=>obtain⟨_,⟨_,_,_,e,_⟩,_⟩:=x;exact⟨_,e⟩
 |rng lo hi=>obtain⟨_,_,_,e⟩:=x;exact⟨_,e⟩
 |frz ob u=>obtain⟨e,_⟩:=x;exact⟨_,e⟩
 |tbl ps=>exact⟨_,x⟩
 |met f y=>exact⟨_,x⟩
 |ext φ=>obtain⟨_,⟨_,e⟩,_⟩:=x;exact⟨_,e⟩
theorem B8 {t':Nat}(I:Inv X pins σ H s) (k:∀ b u,s.heap.get? b=some u→h'.get? b=some u) (old:∀ b u,s.heap.get? b=some u→H' b=H b) (new:∀ b o,s.heap.get? b=none→H' b=some o→bS X.prog X.w H' h' b o) :
  Inv X pins σ H' { s with heap:=h',toks:=t' }:=by
 have lt:∀ b o,H b=some o→H' b=H b:=fun b o e=>by
  obtain⟨u,hu⟩:=gL (I.hok b o e)
  exact old b u hu
 refine I.un (t':=t') ⟨fun b o e _ _ _=>k b o e,fun b o e _ _ _=>⟨o.slots,k b o e⟩,fun b o e n _=>?_,fun b o e _=>⟨o,k b o e⟩,fun b xs e=>?_,fun b o u e=>?_,fun b ps e=>⟨#[],?_⟩⟩ fun b o e=>?_
 ·rw[old b o e];exact n
 ·rw[lt b _ e];exact e
 ·rw[lt b _ e];exact e
 ·rw[lt b _ e,e];simp
 ·cases c:s.heap.get? b with
  |some u=>
   rw[old b u c]at e
   exact(I.hok b o e).g7 (fun c v _ q=>k c v q) (fun c q=>by rw[lt c _ q];exact q) fun c xs q=>by rw[lt c _ q];exact q
  |none=>exact new b o c e
def vj (v d:Addr):HO:=.ext fun h=>h.get? v=some { cls:=.type "dict_items",data:=.fields #[.ref d] }
def ui (td:TE):TE:=fun σ H Q=>td σ H fun x H1=>∃ d kvs,x = .ref d∧H1 d=some (.dK kvs)∧∀ v,H1 v=none→Q (.ref v) (upd H1 v (vj v d))
theorem u0 {d:Addr}{kvs:List (Key×V)}(I:Inv X pins σ H s) (hd:H d=some (.dK kvs)):kvs.length≤sizeLine∧(d == sysModules)=false∧∃ vs ep,KV kvs vs∧s.heap.DictAt (aY X.prog X.w) d vs ep:=by
 obtain⟨h1,h2,vs,h3,o,es,ep,h4⟩:kvs.length≤sizeLine∧(d == sysModules)=false∧∃ vs,KV kvs vs∧s.heap.DictOf (aY X.prog X.w) d vs:=I.hok d _ hd
 exact⟨h1,h2,vs,ep,h3,o,es,h4⟩
theorem lX {e:Expr}{td:TE}{apos cpos:Pos}(he:PE X e td) (hbase:attributeBase e "items" X.env (eval e X.env)=eval e X.env:=by rfl) (hline:(apos.endLine == cpos.line)=true:=by rfl) :
  PE X (.Call (.Attribute e "items" apos) [] [] cpos) (ui td):=by
 intro pins s σ H Q I h
 refine wpAny_Call_method (T:="dict") (id:="dict.items") hbase rfl hline F.plainAttrs_dict F.slot_dict_items F.type_dict_items (thn (he pins s σ H _ I h) fun u s1 ⟨x,H1,I1,rx,d,kvs,ex,hd,q⟩=>?_)
 subst ex
 obtain rfl:u=Value.ref d:=rx
 obtain⟨hz,hs,vs,ep,kv,hm⟩:=u0 I1 hd
 refine⟨hm.dictOf.typeIs,hm.dictOf.mapOf.noDict,?_⟩
 have hn:H1 s1.heap.objs.size=none:=I1.hok.fresh (Nat.le_refl _)
 have I2:Inv X pins σ (upd H1 s1.heap.objs.size (vj s1.heap.objs.size d)) { s1 with heap:=s1.heap.push { cls:=.type "dict_items",data:=.fields #[.ref d] } }:=
  I1.laid (t':=s1.toks) (fun b ob q=>Heap.get?_push_of_some _ q) (Nat.le_refl _) ⟨Heap.get?_push_size _ rfl,⟨_,Heap.get?_push_size _ rfl⟩,fun h1 h2 p k=>k _ p⟩
 have fin:EP X pins σ Q (.ref s1.heap.objs.size) { s1 with heap:=s1.heap.push { cls:=.type "dict_items",data:=.fields #[.ref d] } }:=⟨.ref _,_,I2,rfl,q _ hn⟩
 show wpAny _ _ (callWith cpos (.builtin "dict.items") [.ref d] [] []) _ X.xe s1
 exact method_meetsIn F.slot_dict_items F.entry_dict_items rfl (PySem.evalArgs_none ⟨rfl,hm.dictOf.typeIs,F.args_dict_items_1 _,_,meets_dict_items (aY X.prog X.w) d hs,⟨vs,hm.dictOf⟩,fin⟩)
def pW:List V→Hp→VK→Prop:=fun vs H Q=>∃ (v d:Addr) (ls:List (Int×V)),vs=[V.ref v]∧H v=some (vj v d)∧H d=some (.dK (ls.map fun p=>(iK p.1,p.2))) ∧
 ∀ (H':Hp) (D:Addr) (ts:List (Addr×Int×V)),ao H H'→H D=none→H' D=some (.lst (ts.map fun t=>V.ref t.1))→(ts.map fun t=>t.2).Perm ls→(ts.map fun t=>t.2.1).Pairwise (· < ·) →
  (∀ t∈ts,H' t.1=some (.tup [.int t.2.1,t.2.2]))→Q (.ref D) H'
theorem B5:∀ {kvs:List (Key×V)}{vs:List (Key×Value)},KV kvs vs→∀ {j:Nat}{k:Key}{u:Value},vs[j]? = some (k,u)→∃ v,kvs[j]? = some (k,v)∧RelV v u
 |_,_,.nil,_,_,_,e=>by simp at e
 |_,_,.cons (a:=p) (b:=q) r t,0,k,u,e=>by
  have e:q=(k,u):=by simpa using e
  subst e
  exact⟨p.2,by show some p=some (k,p.2);rw[show k=p.1 from r.1.symm],r.2⟩
 |_,_,.cons r t,j+1,k,u,e=>by
  obtain⟨v,h1,h2⟩:=B5 t (j:=j) (by simpa using e)
  exact⟨v,by simpa using h1,h2⟩
theorem fA (hc:X.calm=true):g5 X (.builtin "sorted") pW:=by
 intro pins s σ H vs us Q I r h
 obtain⟨v,d,ls,rfl,hv,hd,q⟩:=h
 rw[Vals.De r]
 obtain⟨hz,hs,vs,ep,kv,hm⟩:=u0 I hd
 obtain⟨Ks,_,_⟩:s.heap.get? v=some { cls:=.type "dict_items",data:=.fields #[.ref d] }∧_∧_:=I.hok v _ hv
 have hl:ls.length=vs.length:=by have:=Paired.length kv;rw[List.length_map]at this;exact this
 rw[List.length_map]at hz
 obtain⟨_,_,_,_,_,_,_,hnd⟩:=id hm
 refine Calls.call_function_entry kind_sorted plain_sorted entry_sorted (args_sorted1 _) ?_
 unfold Builtin.«sorted»
 refine wpAny_bind (m:=checkCount "sorted" 1 1 _) (wpAny_pure ?_)
 refine wpAny_bind (PySem.W.kdx_collect (A:=X.A.in1) (I.ok.hd hc) ⟨_,Ks,rfl,rfl⟩ hm (by omega) fun h1 tk as hk1 hla hG=>?_)
 refine wpAny_bind (wpAny_newList ?_ (by rw[List.length_map];omega))
 have row:∀ (j:Nat) (a:Addr),as[j]? = some a→∃ (c:Int×V) (u:Value),ls[j]? = some c∧(∃ t,h1.get? a=some { cls:=.type "tuple",data:=.seq #[Value.int c.1 t,u] })∧RelV c.2 u:=by
  intro j a e
  obtain⟨key,k,x,e1,e2,e3⟩:=hG.pairs j a e
  obtain⟨y,h3,h4⟩:=B5 kv e1
  rw[List.getElem?_map]at h3
  cases hc:ls[j]? with
  |none=>rw[hc]at h3;cases h3
  |some c=>
   rw[hc]at h3
   obtain⟨f1,f2⟩:=Prod.mk.inj (Option.some.inj h3)
   have f1:iK c.1=k:=f1
   subst f1 f2
   obtain⟨t,et⟩:RelV (.int c.1) key:=lR (show jB (iK c.1) key=true from e2)
   subst et
   exact⟨c,x,rfl,⟨t,e3⟩,h4⟩
 obtain⟨cb,JR,JQ⟩:∃ cb:List (Addr×(Int×V)×Value),(cb.map fun c=>c.1)=as∧(cb.map fun c=>c.2.1)=ls∧∀ c∈cb,(∃ t,h1.get? c.1=some { cls:=.type "tuple",data:=.seq #[Value.int c.2.1.1 t,c.2.2] })∧RelV c.2.1.2 c.2.2:=by
  have gen:∀ (as:List Addr) (ls:List (Int×V)),as.length=ls.length→(∀ (j:Nat) (a:Addr),as[j]? = some a→∃ (c:Int×V) (u:Value),ls[j]? = some c∧(∃ t,h1.get? a=some { cls:=.type "tuple",data:=.seq #[Value.int c.1 t,u] })∧RelV c.2 u) →
    ∃ cb:List (Addr×(Int×V)×Value),(cb.map fun c=>c.1)=as∧(cb.map fun c=>c.2.1)=ls∧∀ c∈cb,(∃ t,h1.get? c.1=some { cls:=.type "tuple",data:=.seq #[Value.int c.2.1.1 t,c.2.2] })∧RelV c.2.1.2 c.2.2:=by
   intro as
   induction as with
   |nil=>
    intro ls e _
    cases ls with
    |nil=>exact⟨[],rfl,rfl,fun c hc=>by cases hc⟩
    |cons _ _=>simp at e
   |cons a as ih=>
    intro ls e rw_
    cases ls with
    |nil=>simp at e
    |cons c ls=>
     obtain⟨cb,g1,g2,g3⟩:=ih ls (by simpa using e) fun j b eb=>by
      obtain⟨c',u,h1,h2⟩:=rw_ (j+1) b (by simpa using eb)
      exact⟨c',u,by simpa using h1,h2⟩
     obtain⟨c',u,h1,h2⟩:=rw_ 0 a rfl
     have h1:c=c':=by simpa using h1
     subst h1
     exact⟨(a,c,u) :: cb,by rw[List.map_cons,g1],by rw[List.map_cons,g2],fun x hx=>by
      rcases List.mem_cons.mp hx with e | e
      ·subst e;exact h2
      ·exact g3 x e⟩
  exact gen as ls (by omega) row
 have nda:(cb.map fun c=>c.1).Nodup:=by
  rw[JR,List.nodup_iff_pairwise_ne]
  exact hG.rise.imp fun h=>Nat.ne_of_lt h
 have ndk:(cb.map fun c=>c.2.1.1).Nodup:=by
  have e:(cb.map fun c=>c.2.1.1)=ls.map fun p=>p.1:=by rw[←JQ.1,List.map_map];rfl
  rw[e]
  have e2:(vs.map (·.1))=(ls.map fun p=>p.1).map Sum.inl:=by
   have:∀ {kvs:List (Key×V)}{vs:List (Key×Value)},KV kvs vs→vs.map (·.1)=kvs.map (·.1):=by
    intro kvs vs h
    induction h with
    |nil=>rfl
    |cons r _ ih=>rw[List.map_cons,List.map_cons,ih,r.1]
   rw[this kv,List.map_map,List.map_map]
   rfl
  rw[e2]at hnd
  exact List.Pairwise.of_map _ (fun a b h=>fun z=>h (by rw[z])) hnd
 have hD1:(h1.push { cls:=.type "list",data:=.seq (as.map Value.ref).toArray }).get? h1.objs.size=some (seqObj "list" (as.map Value.ref).toArray 0):=Heap.get?_push_size _ rfl
 have ev:as.map Value.ref=(cb.map fun c=>(c.1,c.2.1.1,c.2.2)).map fun t=>Value.ref t.1:=by rw[←JR,List.map_map,List.map_map];rfl
 refine wpAny_bind (wpAny_holding (wpAny_call_entry slot_list_sort ⟨_,hD1,rfl⟩ entry_list_sort (xB (tb:=cb.map fun c=>(c.1,c.2.1.1,c.2.2)) (n:=0) ?ho ?hL ?ht ?nda ?ndk fun ts pt st=>⟨_,rfl,?fin⟩) (args_list_sort _)))
 case ho=>rw[←ev];exact hD1
 case hL=>rw[List.length_map,←List.length_map (f:=fun c:Addr×(Int×V)×Value=>c.1) (as:=cb),JR];omega
 case ht=>
  intro t ht
  obtain⟨c,hc',rfl⟩:=List.mem_map.mp ht
  obtain⟨⟨t,e⟩,_⟩:=JQ.2 c hc'
  exact⟨t,Heap.get?_push_of_some _ e⟩
 case nda=>rw[List.map_map];exact nda
 case ndk=>rw[List.map_map];exact ndk
 case fin=>
  refine wpAny_pure ⟨_,rfl,?_⟩
  obtain⟨cs,pc,ec⟩:=jV pt rfl
  rw[←ev]
  let H':Hp:=fun b=>if b=h1.objs.size then some (.lst (cs.map fun c=>V.ref c.1)) else match cs.find? fun c=>c.1 == b with
   |some c=>some (.tup [.int c.2.1.1,c.2.1.2])
   |none=>H b
  have nD:s.heap.get? h1.objs.size=none:=by
   cases z:s.heap.get? h1.objs.size with
   |none=>rfl
   |some o=>
    have:=hk1 _ _ z
    rw[Heap.get?_none_of_le (Nat.le_refl _)]at this
    cases this
  have low:∀ c∈cs,s.heap.get? c.1=none∧c.1≠h1.objs.size∧∃ t,h1.get? c.1=some { cls:=.type "tuple",data:=.seq #[Value.int c.2.1.1 t,c.2.2] }:=fun c hc'=>by
   have m:=pc.mem_iff.mp hc'
   have ma:c.1∈as:=by rw[←JR];exact List.mem_map.mpr ⟨c,m,rfl⟩
   obtain⟨⟨t,e⟩,_⟩:=JQ.2 c m
   exact⟨Heap.get?_none_of_le (Nat.le_of_lt (hG.above _ ma)),Nat.ne_of_lt (Heap.lt_size e),t,e⟩
  have ndc:(cs.map fun c=>c.1).Nodup:=((pc.map fun c=>c.1).nodup_iff).mpr nda
  have Kc:∀ c∈cs,cs.find? (fun x=>x.1 == c.1)=some c:=fun c hc'=>Ci (f:=fun c:Addr×(Int×V)×Value=>c.1) ndc hc'
  have hkeep:∀ b u,s.heap.get? b=some u→(sortedHeap (h1.push { cls:=.type "list",data:=.seq (as.map Value.ref).toArray }) h1.objs.size (as.map Value.ref) (ts.map fun t=>Value.ref t.1).toArray).get? b=some u:=fun b u e=>by
   have e1:=hk1 b u e
   have hlt:=Heap.lt_size e1
   rw[sortedHeap_old (Nat.ne_of_lt hlt) (by rw[Heap.size_push];exact Nat.lt_succ_of_lt hlt)]
   exact Heap.get?_push_of_some _ e1
  have hat:∀ c∈cs,H' c.1=some (.tup [.int c.2.1.1,c.2.1.2]):=fun c hc'=>by
   show (if c.1=h1.objs.size then _ else _)=_
   rw[if_neg (low c hc').2.1,Kc c hc']
  have hDn:H' h1.objs.size=some (.lst (cs.map fun c=>V.ref c.1)):=if_pos rfl
  have hold:∀ b u,s.heap.get? b=some u→H' b=H b:=fun b u e=>by
   have n1:b≠h1.objs.size:=fun z=>by rw[z,nD]at e;cases e
   show (if b=h1.objs.size then _ else _)=_
   rw[if_neg n1,List.find?_eq_none.mpr fun c hc' z=>?_]
   have z:c.1=b:=by simpa using z
   have:=(low c hc').1
   rw[z,e]at this
   cases this
  have Kt:∃ e,(sortedHeap (h1.push { cls:=.type "list",data:=.seq (as.map Value.ref).toArray }) h1.objs.size (as.map Value.ref) (ts.map fun t=>Value.ref t.1).toArray).get? h1.objs.size=some (seqObj "list" (ts.map fun t=>Value.ref t.1).toArray e):=sortedHeap_at (n:=0) hD1
  have len:cs.length≤sizeLine:=by
   rw[pc.length_eq,←List.length_map (f:=fun c:Addr×(Int×V)×Value=>c.1) (as:=cb),JR]
   omega
  have I2:Inv X pins σ H' { s with heap:=sortedHeap (h1.push { cls:=.type "list",data:=.seq (as.map Value.ref).toArray }) h1.objs.size (as.map Value.ref) (ts.map fun t=>Value.ref t.1).toArray,toks:=tk }:=by
   refine B8 I hkeep hold fun b o hb ho=>?_
   by_cases c:b=h1.objs.size
   ·subst c
    rw[hDn]at ho
    cases ho
    obtain⟨e,he⟩:=Kt
    refine⟨by rw[List.length_map];exact len,ts.map fun t=>Value.ref t.1,e,?_,he⟩
    rw[←ec,List.map_map]
    clear hDn hat hold Kc low ndc pc ec I len
    induction cs with
    |nil=>exact .nil
    |cons c cs ih=>exact .cons rfl ih
   ·have ho:(if b=h1.objs.size then _ else match cs.find? fun c=>c.1 == b with | some c=>some (HO.tup [.int c.2.1.1,c.2.1.2]) | none=>H b)=some o:=ho
    rw[if_neg c]at ho
    cases hf:cs.find? fun c=>c.1 == b with
    |none=>
     rw[hf]at ho
     obtain⟨u,hu⟩:=gL (I.hok b o ho)
     rw[hu]at hb
     cases hb
    |some y=>
     rw[hf]at ho
     have ey:y.1=b:=by simpa using List.find?_some hf
     have my:=List.mem_of_find?_eq_some hf
     obtain⟨n1,n2,t,et⟩:=low y my
     cases ho
     rw[←ey]
     obtain⟨_,ry⟩:=JQ.2 y (pc.mem_iff.mp my)
     refine⟨by show 2≤sizeLine;decide,[Value.int y.2.1.1 t,y.2.2],.cons ⟨t,rfl⟩ (.cons ry .nil),⟨{ cls:=.type "tuple",data:=.seq #[Value.int y.2.1.1 t,y.2.2] },?_,rfl,0,rfl⟩⟩
     rw[sortedHeap_old (Nat.ne_of_lt (Heap.lt_size et)) (by rw[Heap.size_push];exact Nat.lt_succ_of_lt (Heap.lt_size et))]
     exact Heap.get?_push_of_some _ et
  refine⟨.ref _,H',I2,rfl,q H' _ (cs.map fun c=>(c.1,c.2.1.1,c.2.1.2)) (fun b o e=>?_) ?_ ?_ ?_ ?_ ?_⟩
  ·obtain⟨u,hu⟩:=gL (I.hok b o e)
   rw[hold b u hu];exact e
  ·cases z:H h1.objs.size with
   |none=>rfl
   |some o=>
    obtain⟨u,hu⟩:=gL (I.hok _ o z)
    rw[nD]at hu;cases hu
  ·rw[hDn,List.map_map];rfl
  ·rw[List.map_map,←JQ.1]
   exact pc.map _
  ·rw[←ec,List.map_map]at st
   rw[List.map_map]
   exact st
  ·intro t ht
   obtain⟨c,hc',rfl⟩:=List.mem_map.mp ht
   exact hat c hc'
end
def lt2 (x y:Int×Int):Prop:=x.2 < y.2∨(x.2=y.2∧x.1 < y.1)
section
variable {prog:Program}{w:World}{A:Around}{E:Value→Shared→Prop}{s:Shared}
def yR (h:Heap) (a:Addr) (i j:Int):Prop:=∃ (o:Obj) (t u:Tok) (n:Nat),h.get? a=some o∧o.cls = .type "tuple"∧o.data = .seq #[Value.int i t,Value.int j u] n
abbrev tF:Nat→Bool:=fun _=>false
abbrev rO (c:Addr×Int×Tok):Keyed:=(Value.ref c.1,Value.int c.2.1 c.2.2)
theorem yX {h:Heap}{a:Addr}{i j:Int}(e:yR h a i j):PyProof.Rows.G.tupKeyC h tF (.ref a)=some [Sum.inl i,Sum.inl j]:=by
 obtain⟨o,t,u,n,e,ec,ed⟩:=e
 unfold PyProof.Rows.G.tupKeyC
 have e1:PyProof.Rows.G.isTupObj h (.ref a)=true:=by simp[PyProof.Rows.G.isTupObj,e,ec]
 rw[if_pos e1]
 simp only[tupKey,e,ed]
 rfl
theorem yo {cb:List (Addr×Int×Tok)}{val:Int→Int}{R:SortSt→Prop}(hc:∀ c∈cb,yR s.heap c.1 (val c.2.1) c.2.1) (nd:(cb.map fun c=>c.2.1).Nodup) (h2:2≤cb.length)
  (h:∀ (st:SortSt) (cs:List (Addr×Int×Tok)),failedOf st=none→cs.Perm cb→(cs.map fun c=>c.2.1).Pairwise (fun a b=>lt2 (a,val a) (b,val b))→arrOf st=(cs.map rO).toArray→R st) :
  wpAny (model prog w) A (keyKind' (cb.map fun c=>Value.ref c.1).toArray) (fun kd s'=>s'=s ∧
   wpAny (model prog w) A (sortRuns'.run (SortSt.mk' kd ((cb.map fun c=>Value.ref c.1).toArray.zip (cb.map fun c=>Value.int c.2.1 c.2.2).toArray) #[] 7 none)) (fun r s''=>s''=s∧R r.2) E s) E s:=by
 have i4:∀ l:List (Addr×Int×Tok),(∀ c∈l,c∈cb)→∃ fs,TupsOf s.heap tF (l.map fun c=>Value.ref c.1) fs∧fs.length=l.length:=by
  intro l
  induction l with
  |nil=>intro _;exact⟨[],.nil,rfl⟩
  |cons t l ih=>
   intro hl
   obtain⟨fs,h1,h2⟩:=ih fun u hu=>hl u (List.mem_cons_of_mem _ hu)
   obtain⟨o1,t1,u1,n1,hk,hkc,hkd⟩:=hc t (hl t List.mem_cons_self)
   exact⟨Value.int (val t.2.1) t1 :: fs,.cons ⟨t.1,_,_,_,rfl,hk,hkc,hkd,rfl,fun _=>⟨_,_,rfl⟩,fun z=>by cases z⟩ h1,by rw[List.length_cons,List.length_cons,h2]⟩
 obtain⟨fs,hf,hfl⟩:=i4 cb fun _ h=>h
 refine tup_kind (s:=s) (by omega) hf ⟨rfl,?_⟩
 have hz:(cb.map fun c=>Value.ref c.1).toArray.zip (cb.map fun c=>Value.int c.2.1 c.2.2).toArray=(cb.map rO).toArray:=by
  apply Array.toList_inj.mp
  simp[List.zip_map']
 rw[hz]
 have sz:(cb.map rO).toArray.size=cb.length:=by simp
 refine wpAny_mono (PyProof.Rows.G.wpS_sortRunsSt (prog:=prog) (w:=w) (A:=A) (E:=E) (s:=s) (κ:=PyProof.Rows.G.tupKindC s.heap tF) (kd:=tuples' true) (a₀:=(cb.map rO).toArray) (st:=SortSt.mk' (tuples' true) (cb.map rO).toArray #[] 7 none)
   (Q:=fun _ st'=>(arrOf st').Perm (cb.map rO).toArray∧failedOf st'=none∧SortedToK (PyProof.Rows.G.tupKindC s.heap tF) (arrOf st') cb.length)
   (PyProof.Rows.G.tupC_ltAt (s:=s) true (PyProof.Rows.G.KeepsTups.refl _)) ?keys ⟨Array.Perm.refl _,rfl,rfl⟩ rfl (Stable.refl _) (by rw[sz];exact h2) fun st' a1 a2 a3 _=>⟨a1,a2,by rw[sz]at a3;exact a3⟩) ?_ fun _ _ e=>e
 case keys=>
  intro p hp
  rw[List.toList_toArray]at hp
  obtain⟨c,hcm,rfl⟩:=List.mem_map.mp hp
  exact⟨_,yX (hc c hcm)⟩
 ·rintro⟨⟨⟩,st'⟩ s' ⟨rfl,hp,hfl,hs⟩
  refine⟨rfl,?_⟩
  have hp':(arrOf st').toList.Perm (cb.map rO):=by
   have e:=Array.perm_iff_toList_perm.mp hp
   rw[List.toList_toArray]at e
   exact e
  obtain⟨cs,q1,q2⟩:=jV hp' rfl
  refine h st' cs hfl q1 ?_ (by apply Array.toList_inj.mp;rw[List.toList_toArray];exact q2.symm)
  have at_:∀ (i:Nat) (c:Addr×Int×Tok),cs[i]? = some c→KK (PyProof.Rows.G.tupKindC s'.heap tF) (arrOf st') i=[Sum.inl (val c.2.1),Sum.inl c.2.1]:=by
   intro i c e
   have:(arrOf st')[i]? = some (Value.ref c.1,Value.int c.2.1 c.2.2):=by
    rw[←Array.getElem?_toList,←q2,List.getElem?_map,e]
    rfl
   unfold KK
   rw[this]
   have e3:=hc c (q1.mem_iff.mp (List.mem_of_getElem? e))
   show (PyProof.Rows.G.tupKeyC s'.heap tF (Value.ref c.1)).getD []=_
   rw[yX e3]
   rfl
  rw[List.pairwise_map,List.pairwise_iff_getElem]
  intro i j hi hj hij
  have e1:=at_ i cs[i] (List.getElem?_eq_getElem hi)
  have e2:=at_ j cs[j] (List.getElem?_eq_getElem hj)
  have:=hs i j (Nat.le_of_lt hij) (by rw[←q1.length_eq];exact hj)
  rw[e1,e2]at this
  have le:PyProof.Rows.lexLt itemOrd [Sum.inl (val cs[j].2.1),Sum.inl cs[j].2.1] [Sum.inl (val cs[i].2.1),Sum.inl cs[i].2.1]=false:=this
  rw[PyProof.Rows.lex_cons,PyProof.Rows.lex_cons]at le
  have b1:itemOrd.blt (Sum.inl (val cs[j].2.1)) (Sum.inl (val cs[i].2.1))=decide (val cs[j].2.1 < val cs[i].2.1):=rfl
  have b2:itemOrd.blt (Sum.inl (val cs[i].2.1)) (Sum.inl (val cs[j].2.1))=decide (val cs[i].2.1 < val cs[j].2.1):=rfl
  have b3:itemOrd.blt (Sum.inl cs[j].2.1) (Sum.inl cs[i].2.1)=decide (cs[j].2.1 < cs[i].2.1):=rfl
  have b4:itemOrd.blt (Sum.inl cs[i].2.1) (Sum.inl cs[j].2.1)=decide (cs[i].2.1 < cs[j].2.1):=rfl
  have b5:PyProof.Rows.lexLt itemOrd [] []=false:=rfl
  rw[b1,b2,b3,b4,b5]at le
  have ne:cs[i].2.1≠cs[j].2.1:=by
   intro e
   have ndt:(cs.map fun t=>t.2.1).Nodup:=((q1.map fun t=>t.2.1).nodup_iff).mpr nd
   have f1:(cs.map fun t=>t.2.1)[i]'(by rw[List.length_map];exact hi)=cs[i].2.1:=by simp
   have f2:(cs.map fun t=>t.2.1)[j]'(by rw[List.length_map];exact hj)=cs[j].2.1:=by simp
   have:=(List.getElem_inj ndt).mp (f1.trans (e.trans f2.symm))
   omega
  simp at le
  unfold lt2
  show val cs[i].2.1 < val cs[j].2.1∨(val cs[i].2.1=val cs[j].2.1∧cs[i].2.1 < cs[j].2.1)
  omega
end
section
variable {X:Cx}{pins:List (Addr×Obj)}{σ:L2.St}{H:Hp}{s:Shared}
theorem Ej {H':Hp}{T:Addr}{i j:Int}(hok:HOk X.prog X.w H' s.heap) (h:H' T=some (.tup [.int i,.int j])):yR s.heap T i j:=by
 obtain⟨_,its,r,o,e,c,n,d⟩:=hok T _ h
 cases r with
 |cons r1 r=>
  cases r with
  |cons r2 r=>
   cases r
   obtain⟨t,rfl⟩:=r1
   obtain⟨u,rfl⟩:=r2
   exact⟨o,t,u,n,e,c,d⟩
theorem jo {p:Addr×Obj}(I:Inv X pins σ H s) (hp:p∈pins):s.heap.get? p.1=some p.2∧H p.1=none∧p.1≠X.env.locals∧p.1∉X.fs∧∀ v,p.2.data ≠ .cell v:=I.pin p (List.mem_append_right _ hp)
theorem C8 {A:Around}{fa D:Addr}{of:Obj}{vs:List Value}{ks:List Int}{n:Nat}{val:Int→Int}{E:Value→Shared→Prop}(I:Inv X ((fa,of) :: pins) σ H s) (fD:lr X ((fa,of) :: pins) H D)
  (hD:s.heap.get? D=some (seqObj "list" vs.toArray n)) (hi:IntsAre vs ks) (nd:ks.Nodup) (hz:ks.length≤1000)
  (hcall:∀ k∈ks,∀ (t:Tok) (Iz:List (Addr×Obj)) (s':Shared) (H':Hp),(fa,of)∈Iz→Inv X Iz σ H' s'→ao H H' →
   wpAny (model X.prog X.w) A (call (.ref fa) [.int k t]) (fun v s''=>∃ (H'':Hp) (T:Addr),Inv X Iz σ H'' s''∧ao H' H''∧v = .ref T∧H'' T=some (.tup [.int (val k),.int k])) (fun _ _=>False) s') :
  wpAny (model X.prog X.w) A (ksk_tree D (.ref fa) false) (fun fin s'=>fin = .done (.ret .none)∧∃ (H':Hp) (ks':List Int),Inv X pins σ H' s'∧ao H H'∧H' D=some (.lst (ks'.map V.int))∧ks'.Perm ks∧ks'.Pairwise (fun a b=>lt2 (a,val a) (b,val b))) E s:=by
 have h16:sizeLine=16777216:=sizeLine_eq
 have hlen:=hi.length
 have s1:=Heap.SameBut.update s.heap D (Obj.mapSeq fun _=>(#[]:Array Value))
 obtain⟨e1,ho1⟩:∃ e1,(s.heap.update D (Obj.mapSeq fun _=>(#[]:Array Value))).get? D=some (seqObj "list" #[] e1):=⟨_,get?_update_seq hD fun _=>#[]⟩
 obtain⟨d1,d2,d3,d4,d5,d6⟩:=id fD
 have La:D < s.heap.objs.size:=Heap.lt_size hD
 unfold ksk_tree
 refine wpAny_bind (listItems_at hD rfl ?_)
 refine wpAny_bind (listUpdate_at hD rfl ?_ (by rw[List.size_toArray];omega) (Nat.zero_le _))
 refine wpAny_bind (seqEpoch_at ho1 rfl ?_)
 refine wpAny_bind (wpAny_newTuple ?_ (by show vs.length≤_;omega))
 refine wpAny_bind (wpAny_newList ?_ (Nat.zero_le _))
 refine wpAny_holding ?_
 have I1:Inv X ((fa,of) :: pins) σ H { s with heap:=s.heap.update D (Obj.mapSeq fun _=>(#[]:Array Value)) }:=I.turned (t':=s.toks) (fun b o hb e=>(s1.2 b hb).trans e) d1 d2 d4 d5 d6
 have I2:Inv X ((fa,of) :: pins) σ H { s with heap:=((s.heap.update D (Obj.mapSeq fun _=>(#[]:Array Value))).push (seqObj "tuple" vs.toArray 0)).push (seqObj "list" #[] 0) }:=
  I1.kept (t':=s.toks) fun b u e=>Heap.get?_push_of_some _ (Heap.get?_push_of_some _ e)
 have hks:((s.heap.update D (Obj.mapSeq fun _=>(#[]:Array Value))).push (seqObj "tuple" vs.toArray 0)).objs.size=s.heap.objs.size+1:=by rw[size_push',Heap.size_update]
 have hkS:(((s.heap.update D (Obj.mapSeq fun _=>(#[]:Array Value))).push (seqObj "tuple" vs.toArray 0)).push (seqObj "list" #[] 0)).get? (s.heap.objs.size+1)=some (seqObj "list" #[] 0):=by
  rw[←hks];exact Heap.get?_push_size _ rfl
 have fK:lr X ((fa,of) :: pins) H (s.heap.objs.size+1):=I.AF (Nat.le_succ _) (I.hok.fresh (Nat.le_succ _))
 obtain⟨k1,k2,k3,k4,k5,k6⟩:=id fK
 have hDk:D≠s.heap.objs.size+1:=Nat.ne_of_lt (Nat.lt_succ_of_lt La)
 have hfk:fa≠s.heap.objs.size+1:=k6 (fa,of) (List.mem_append_right _ List.mem_cons_self)
 have hfD:fa≠D:=d6 (fa,of) (List.mem_append_right _ List.mem_cons_self)
 show wpAny (model X.prog X.w) A (ksk_rest D (.ref fa) false vs.toArray e1 (.ref ((s.heap.update D (Obj.mapSeq fun _=>(#[]:Array Value))).push (seqObj "tuple" vs.toArray 0)).objs.size)) _ E
  { s with heap:=((s.heap.update D (Obj.mapSeq fun _=>(#[]:Array Value))).push (seqObj "tuple" vs.toArray 0)).push (seqObj "list" #[] 0) }
 rw[hks]
 have hD2:(((s.heap.update D (Obj.mapSeq fun _=>(#[]:Array Value))).push (seqObj "tuple" vs.toArray 0)).push (seqObj "list" #[] 0)).get? D=some (seqObj "list" #[] e1):=Heap.get?_push_of_some _ (Heap.get?_push_of_some _ ho1)
 have I3:Inv X ((s.heap.objs.size+1,seqObj "list" #[] 0) :: (D,seqObj "list" #[] e1) :: (fa,of) :: pins) σ H { s with heap:=((s.heap.update D (Obj.mapSeq fun _=>(#[]:Array Value))).push (seqObj "tuple" vs.toArray 0)).push (seqObj "list" #[] 0) }:=
  I2.gf fun p hp=>by
   rcases List.mem_cons.mp hp with e | hp
   ·subst e;exact⟨hkS,k1,k2,k3,fun v z=>nomatch z⟩
   ·rcases List.mem_cons.mp hp with e | hp
    ·subst e;exact⟨hD2,d1,d2,d3,fun v z=>nomatch z⟩
    ·exact I2.pin p (List.mem_append_right _ hp)
 generalize ((s.heap.update D (Obj.mapSeq fun _=>(#[]:Array Value))).push (seqObj "tuple" vs.toArray 0)).push (seqObj "list" #[] 0)=h2 at I3
 generalize s.heap.objs.size+1=kS at I3 k1 k2 k3 k4 k5 k6 hDk hfk
 clear I2 I1 hkS fK hks hD2 ho1 s1
 have Kb:∀ (H':Hp) (s':Shared) (o:Obj),Inv X ((kS,o) :: (D,seqObj "list" #[] e1) :: (fa,of) :: pins) σ H' s'→Inv X ((D,seqObj "list" #[] e1) :: (fa,of) :: pins) σ H' s'∧lr X ((D,seqObj "list" #[] e1) :: (fa,of) :: pins) H' kS:=by
  intro H' s' o J
  refine⟨J.gf fun p hp=>J.pin p (List.mem_append_right _ (List.mem_cons_of_mem _ hp)),(jo J List.mem_cons_self).2.1,k2,k3,k4,k5,fun p hp=>?_⟩
  rcases List.mem_append.mp hp with hp | hp
  ·exact k6 p (List.mem_append_left _ hp)
  ·rcases List.mem_cons.mp hp with e | hp
   ·subst e;exact hDk
   ·exact k6 p (List.mem_append_right _ hp)
 unfold ksk_rest
 refine wpAny_bind (wpAny_rule ?_)
 first
  |rw[List.forIn_toArray]
  |(rw[←Array.forIn_toList];simp only[List.toList_toArray])
  |rw[←Array.forIn_toList]
 refine wpAny_bind (ksk_fold (fun i s'=>∃ (H':Hp) (cb:List (Addr×Int×Tok)) (c:Nat),Inv X ((kS,seqObj "list" (cb.map fun c=>Value.ref c.1).toArray c) :: (D,seqObj "list" #[] e1) :: (fa,of) :: pins) σ H' s'∧ao H H' ∧
   (cb.map fun c=>Value.int c.2.1 c.2.2)=vs.take i∧∀ c∈cb,H' c.1=some (.tup [.int (val c.2.1),.int c.2.1])) vs 0 _ ⟨H,[],0,I3,ao.refl _,by simp,fun c hc=>by cases hc⟩ ?step ?done)
 case step=>
  rintro j x s' hx ⟨H',cb,c,J,sm,hcb,ht⟩
  simp only[Nat.zero_add]at hcb ⊢
  have hj:j < vs.length:=(List.getElem?_eq_some_iff.mp hx).1
  obtain⟨k,hkj⟩:∃ k,ks[j]? = some k:=⟨_,List.getElem?_eq_getElem (by omega)⟩
  obtain⟨t,ht'⟩:=hi.get j k hkj
  rw[ht']at hx
  cases hx
  refine wpAny_bind (wpAny_attempt (wpAny_mono (hcall k (List.mem_of_getElem? hkj) t _ s' H' (List.mem_cons_of_mem _ (List.mem_cons_of_mem _ List.mem_cons_self)) J sm) (fun v s'' he=>?_) fun _ _ hF=>hF.elim))
  obtain⟨H2,T,J2,sm2,rfl,hT⟩:=he
  try dsimp only
  obtain⟨J3,fk⟩:=Kb H2 s'' _ J2
  have hob:=(jo J2 List.mem_cons_self).1
  have sb:=Heap.SameBut.update s''.heap kS (Obj.mapSeq (·.push (Value.ref T)))
  obtain⟨c2,hc2⟩:∃ c2,(s''.heap.update kS (Obj.mapSeq (·.push (Value.ref T)))).get? kS=some (seqObj "list" ((cb.map fun c=>Value.ref c.1).toArray.push (Value.ref T)) c2):=⟨_,get?_update_seq hob (·.push (Value.ref T))⟩
  have hcl:cb.length≤j:=by
   have:=congrArg List.length hcb
   rw[List.length_map,List.length_take]at this
   omega
  refine wpAny_bind (listUpdate_at hob rfl ?_ (by rw[List.size_toArray,List.length_map];omega) (by rw[Array.size_push,List.size_toArray,List.length_map];omega))
  obtain⟨f1,f2,f3,f4,f5,f6⟩:=fk
  have J4:Inv X ((D,seqObj "list" #[] e1) :: (fa,of) :: pins) σ H2 { s'' with heap:=s''.heap.update kS (Obj.mapSeq (·.push (Value.ref T))) }:=J3.turned (t':=s''.toks) (fun b o hb e=>(sb.2 b hb).trans e) f1 f2 f4 f5 f6
  refine wpAny_pure ⟨rfl,H2,cb ++ [(T,k,t)],c2,J4.gf fun p hp=>?_,sm.trans sm2,?_,fun c hc=>?_⟩
  ·rcases List.mem_cons.mp hp with e | hp
   ·subst e
    refine⟨?_,f1,f2,f3,fun v z=>nomatch z⟩
    show (s''.heap.update kS (Obj.mapSeq (·.push (Value.ref T)))).get? kS=_
    rw[hc2]
    congr 2
    apply Array.toList_inj.mp
    simp
   ·exact J4.pin p (List.mem_append_right _ hp)
  ·rw[List.map_append,hcb,take_snoc ht']
   rfl
  ·rcases List.mem_append.mp hc with e | e
   ·exact sm2 _ _ (ht c e)
   ·rw[List.mem_singleton.mp e];exact hT
 case done=>
  rintro s' ⟨H',cb,c,J,sm,hcb,ht⟩
  rw[Nat.zero_add,List.take_length]at hcb
  have hob:=(jo J List.mem_cons_self).1
  have hoD:s'.heap.get? D=some (seqObj "list" #[] e1):=(jo J (List.mem_cons_of_mem _ List.mem_cons_self)).1
  try dsimp only
  refine wpAny_bind (listItems_at hob rfl ?_)
  have hcl:cb.length=vs.length:=by rw[←hcb,List.length_map]
  have hck:cb.map (fun c=>c.2.1)=ks:=by
   have:∀ (cb:List (Addr×Int×Tok)) (vs:List Value) (ks:List Int),IntsAre vs ks→(cb.map fun c=>Value.int c.2.1 c.2.2)=vs→cb.map (fun c=>c.2.1)=ks:=by
    intro cb
    induction cb with
    |nil=>
     intro vs ks h e
     subst e
     cases h
     rfl
    |cons c cb ih=>
     intro vs ks h e
     subst e
     rw[List.map_cons]at h
     cases h with
     |cons n t h=>rw[List.map_cons,ih _ _ h rfl]
   exact this cb vs ks hi hcb
  have tail:∀ (st:SortSt) (cs:List (Addr×Int×Tok)),failedOf st=none→cs.Perm cb→(cs.map fun c=>c.2.1).Pairwise (fun a b=>lt2 (a,val a) (b,val b))→arrOf st=(cs.map rO).toArray →
    wpAny (model X.prog X.w) A (ksk_tail D false e1 (.ref kS) st) (fun fin s'=>fin = .done (.ret .none)∧∃ (H':Hp) (ks':List Int),Inv X pins σ H' s'∧ao H H'∧H' D=some (.lst (ks'.map V.int))∧ks'.Perm ks∧ks'.Pairwise (fun a b=>lt2 (a,val a) (b,val b))) E s':=by
   intro st cs hf hp hs ha
   have hlc:cs.length=vs.length:=by rw[hp.length_eq,hcl]
   obtain⟨J3,fk⟩:=Kb H' s' _ J
   obtain⟨f1,f2,f3,f4,f5,f6⟩:=fk
   have sb:=Heap.SameBut.update s'.heap kS (Obj.mapSeq fun _=>(#[]:Array Value))
   have J4:Inv X ((D,seqObj "list" #[] e1) :: (fa,of) :: pins) σ H' { s' with heap:=s'.heap.update kS (Obj.mapSeq fun _=>(#[]:Array Value)) }:=J3.turned (t':=s'.toks) (fun b o hb e=>(sb.2 b hb).trans e) f1 f2 f4 f5 f6
   have oD4:=(jo J4 List.mem_cons_self).1
   have oD4:(s'.heap.update kS (Obj.mapSeq fun _=>(#[]:Array Value))).get? D=some (seqObj "list" #[] e1):=oD4
   have sb2:=Heap.SameBut.update (s'.heap.update kS (Obj.mapSeq fun _=>(#[]:Array Value))) D (Obj.mapSeq fun _=>(arrOf st).map (·.2))
   obtain⟨c3,hc3⟩:∃ c3,((s'.heap.update kS (Obj.mapSeq fun _=>(#[]:Array Value))).update D (Obj.mapSeq fun _=>(arrOf st).map (·.2))).get? D=some (seqObj "list" ((arrOf st).map (·.2)) c3):=⟨_,get?_update_seq oD4 fun _=>(arrOf st).map (·.2)⟩
   have hsz:((arrOf st).map (·.2)).size=vs.length:=by rw[ha,Array.size_map,List.size_toArray,List.length_map,hlc]
   unfold ksk_tail
   try dsimp only
   refine wpAny_bind (listUpdate_at hob rfl ?_ (by rw[List.size_toArray,List.length_map];omega) (Nat.zero_le _))
   refine wpAny_bind (wpAny_letGo ?_)
   refine wpAny_bind (seqEpoch_at oD4 rfl ?_)
   refine wpAny_bind (listUpdate_at oD4 rfl ?_ (Nat.zero_le _) (by
    show (if false=true then ((arrOf st).map (·.2)).reverse else (arrOf st).map (·.2)).size≤_
    rw[if_neg (by decide),hsz];omega))
   rw[hf]
   simp only[bne_self_eq_false,Bool.false_eq_true,if_false]
   refine wpAny_pure ⟨rfl,upd H' D (.lst ((cs.map fun c=>c.2.1).map V.int)),cs.map fun c=>c.2.1,?_,?_,ab,?_,hs⟩
   ·have J5:Inv X pins σ H' { s' with heap:=s'.heap.update kS (Obj.mapSeq fun _=>(#[]:Array Value)) }:=J4.gf fun p hp=>J4.pin p (List.mem_append_right _ (List.mem_cons_of_mem _ (List.mem_cons_of_mem _ hp)))
    have nD:H' D=none:=(jo J4 List.mem_cons_self).2.1
    refine Inv.step (s:={ s' with heap:=s'.heap.update kS (Obj.mapSeq fun _=>(#[]:Array Value)) }) (g':=s'.gens) (d':=s'.drawn) (t':=s'.toks) (ch:=[D]) J5 (fun b hb=>?_) (fun b o _ _ hc e _=>(sb2.2 b (by simpa using hc)).trans e) (fun b o _ _ hc e _=>⟨o.slots,(sb2.2 b (by simpa using hc)).trans e⟩) (fun b o hc e n=>by rw[ak (by simpa using hc)];exact n)
     (fun b o hc e=>⟨o,(sb2.2 b (by simpa using hc)).trans e⟩) (fun b xs e=>by rw[ak (aF e nD)];exact e) (fun b o u e=>by rw[ak (aF e nD)];exact e) (fun b ps e=>⟨#[],by rw[ak (aF e nD),e];simp⟩) (fun m hm=>?_) (fun b u e=>?_) J5.bare
    ·have e:b=D:=by simpa using hb
     subst e
     exact⟨d4,d2,d5,fun p hp=>by
      rcases List.mem_append.mp hp with hp | hp
      ·exact d6 p (List.mem_append_left _ hp)
      ·exact d6 p (List.mem_append_right _ (List.mem_cons_of_mem _ hp))⟩
    ·obtain⟨o,es,ep,ho,r⟩:=hm
     exact⟨o,es,ep,(sb2.2 _ (Ne.symm d2)).trans ho,r⟩
    ·by_cases hb:b=D
     ·subst hb
      rw[ab]at e
      cases e
      refine⟨by rw[List.length_map,List.length_map];omega,((arrOf st).map (·.2)).toList,c3,?_,by rw[hc3]⟩
      rw[ha,Array.toList_map,List.toList_toArray]
      have:∀ l:List (Addr×Int×Tok),Vals ((l.map fun c=>c.2.1).map V.int) ((l.map rO).map fun x:Keyed=>x.2):=by
       intro l
       induction l with
       |nil=>exact .nil
       |cons c l ih=>exact .cons ⟨c.2.2,rfl⟩ ih
      exact this cs
     ·rw[ak hb]at e
      refine(J5.hok b u e).g7 (fun c v hc q=>(sb2.2 c ?_).trans q) (fun c q=>by rw[ak (aF q nD)];exact q) fun c xs q=>by rw[ak (aF q nD)];exact q
      rcases hc with z | z
      ·rw[z];exact hb
      ·exact aF z nD
   ·intro b o e
    have:=sm _ _ e
    rw[ak (aF this (jo J4 List.mem_cons_self).2.1)]
    exact this
   ·rw[←hck]
    exact hp.map fun c=>c.2.1
  unfold ksk_end
  try dsimp only
  simp only[Bool.false_eq_true,if_false]
  rw[←hcb]
  by_cases h2:(cb.map fun c=>Value.int c.2.1 c.2.2).toArray.size < 2
  ·rw[if_pos h2,if_pos h2]
   refine wpAny_bind (wpAny_pure ?_)
   rw[StateT.run_pure]
   refine wpAny_bind (wpAny_pure ?_)
   try dsimp only
   refine tail _ cb rfl (List.Perm.refl _) ?_ ?_
   ·rw[List.size_toArray,List.length_map]at h2
    match cb,h2 with
    | [],_=>exact .nil
    | [c],_=>exact List.pairwise_singleton _ _
    |a :: b :: r,h2=>exact absurd h2 (by rw[List.length_cons,List.length_cons];omega)
   ·show (cb.map fun c=>Value.ref c.1).toArray.zip (cb.map fun c=>Value.int c.2.1 c.2.2).toArray=_
    apply Array.toList_inj.mp
    simp[List.zip_map',rO]
  ·rw[if_neg h2,if_neg h2]
   rw[List.size_toArray,List.length_map]at h2
   refine wpAny_bind (wpAny_mono (yo (cb:=cb) (val:=val) (R:=fun st=>wpAny (model X.prog X.w) A (ksk_tail D false e1 (.ref kS) st) (fun fin s'=>fin = .done (.ret .none)∧∃ (H':Hp) (ks':List Int),Inv X pins σ H' s'∧ao H H'∧H' D=some (.lst (ks'.map V.int))∧ks'.Perm ks∧ks'.Pairwise (fun a b=>lt2 (a,val a) (b,val b))) E s')
    (fun c hc=>Ej J.hok (ht c hc)) (by rw[hck];exact nd) (by omega) tail) (fun kd s2 q=>?_) fun _ _ e=>e)
   obtain⟨rfl,q⟩:=q
   refine wpAny_bind (wpAny_mono q (fun r s3 q3=>?_) fun _ _ e=>e)
   obtain⟨rfl,q3⟩:=q3
   obtain⟨u,st⟩:=r
   exact q3
end
def rq (c:Addr) (q:Str):HO:=.ext fun h=>∃ (o:Obj) (vs:Array Value) (t:Tok),h.get? c=some o∧o.data = .fields vs∧vs[1]? = some (.str q t)
def TabAt (P:Addr) (pos:Pos) (q:Str) (H:Hp):Prop:=H P=some (.tbl #[])∨∃ c,H P=some (.tbl #[rawInt pos.line,rawInt pos.col,.ref c])∧H c=some (rq c q)
structure Fc (mg:Str→Option Value) (base:Heap) (cdv:Value) (P:Addr):Prop where
 code:∃ c,cdv = .ref c∧PySem.W.CodeHd base c P
 gP:mainGlobals≠P
 bt:base.BuiltinsAt mg P
def EK (X:Cx) (A:Around) (env:Env) (s:Shared) (H:Hp) (x y:Str):Cx where
 prog:=X.prog
 w:=X.w
 K:=X.K
 mg:=X.mg
 base:=X.base
 A:=A.deeper env
 N:=[x,y]
 s_0:=s
 H_0:=H
 env:=env
 outer:=X.stack
 stack:=env :: X.stack
 ex:=[]
 fn:=fun _=>false
 calm:=true
 pn:=[]
 xe:=fun _ _=>False
section
variable {X:Cx}{pins:List (Addr×Obj)}{σ:L2.St}{H:Hp}{s:Shared}{x y:Str}
theorem DD {A:Around}{scope:Scope}{qual:Str}{fa c:Addr}{cdv:Value}{v:V}{u:Value}{ld:Addr}{j:Nat}{h₁:Heap}{tk:Nat}(I:Inv X pins σ H s) (hA:A.frames=X.A.frames) (hh:A.handled=none) (hsk:scope.kind = .function)
  (n1:scope.names.lookup x=some .local) (n2:scope.names.lookup y=some .free) (n3:∀ z,scope.names.lookup z=some .cell∨scope.names.lookup z=some .free→z=y) (hxy:x≠y)
  (hcell:X.env.cells.lookup y=some c) (hj:X.N[j]? = some y) (hσ:σ[j]? = some (some (.ref ld))) (hv:X.env.scope.names.lookup y=some .cell) (r:RelV v u)
  (hns:h₁.Ns s.heap.objs.size (fun z=>[(x,u)].reverse.lookup z)) (hk:∀ b o,s.heap.get? b=some o→h₁.get? b=some o) :
  Inv (EK X A (PySem.W.envX qual scope s.heap.objs.size fa cdv [(y,c)]) s H x y) [] [some v,some (.ref ld)] H { s with heap:=h₁,toks:=tk }:=by
 have hck:s.heap.IsCell c (some (.ref ld)):=by
  obtain⟨m,_,hl⟩:=I.loc
  obtain⟨u',r',l⟩:=hl j y (.ref ld) hj hσ (.inr (.inl hv))
  have r':u' = .ref ld:=r'
  subst r'
  rcases l with ⟨z,_⟩ | ⟨_,c',e,z⟩
  ·have z:X.env.scope.names.lookup y=some .local:=z
   rw[hv]at z;cases z
  ·rw[hcell]at e
   cases e
   exact z
 have JJ:∀ z c',([(y,c)]:List (Str×Addr)).lookup z=some c'→z=y∧c'=c:=fun z c' e=>by
  rw[List.lookup_cons]at e
  cases hz:z == y with
  |true=>rw[hz]at e;exact⟨eq_of_beq hz,(Option.some.inj e).symm⟩
  |false=>rw[hz]at e;cases e
 have J9:([(y,c)]:List (Str×Addr)).lookup y=some c:=by rw[List.lookup_cons,beq_self_eq_true]
 have hcc:h₁.IsCell c (some (.ref ld)):=let ⟨o,ho,hd⟩:=hck;⟨o,hk c o ho,hd⟩
 refine⟨⟨I.ok.mod,hsk,rfl,rfl,Nat.le_refl _,fun z z' c' h1 h2=>?_,fun z hz=>⟨c,?_⟩,fun z c' hf _=>(by cases hf),fun _=>hh,?_,.inr ⟨rfl,rfl⟩,fun b hb=>(by cases hb),I.bs,Nat.le_trans I.ok.bsz I.sz,fun b _ _ hb=>(by cases hb),fun b hb=>(by cases hb),I.stack,I.um⟩,
  rfl,I.bare,Un.kept hk,⟨_,hns,fun i z w h1 h2 h3=>?_⟩,fun z c' e=>⟨some (.ref ld),?_⟩,I.hok.fresh (Nat.le_refl _),fun z c' e=>?_,fun p hp=>(by cases hp),I.hok.kept hk,rfl⟩
 ·exact(JJ z c' h1).1.trans (JJ z' c' h2).1.symm
 ·have:=n3 z hz
  subst this
  exact J9
 ·exact Around.frames_deeper (hA.trans I.ok.frames)
 ·match i with
  |0=>
   have h1:x=z:=Option.some.inj h1
   have h2:v=w:=Option.some.inj (Option.some.inj h2)
   subst h1 h2
   refine⟨u,r,.inl ⟨n1,?_⟩⟩
   show ([(x,u)]:List (Str×Value)).reverse.lookup x=some u
   rw[List.reverse_singleton,List.lookup_cons,beq_self_eq_true]
  |1=>
   have h1:y=z:=Option.some.inj h1
   have h2:V.ref ld=w:=Option.some.inj (Option.some.inj h2)
   subst h1 h2
   exact⟨.ref ld,rfl,.inr ⟨.inr n2,c,J9,hcc⟩⟩
  |i+2=>cases h1
 ·rw[(JJ z c' e).2]
  exact hcc
 ·rw[(JJ z c' e).2]
  exact I.gj y c hcell
theorem B4 {A:Around}{scope:Scope}{qual:Str}{params:Arguments}{body:Expr}{fa c c':Addr}{pm ctv:Value}{v:V}{u:Value}{ld:Addr}{j:Nat}{tb:TE}{Q:VK}(I:Inv X pins σ H s) (hA:A.frames=X.A.frames) (hr:dD 2 A)
  (hsk:scope.kind = .function) (hco:scope.isCoroutine=false) (hgen:scope.isGenerator=false) (hcl:∀ z∈scope.names,z.2 ≠ .cell)
  (n1:scope.names.lookup x=some .local) (n2:scope.names.lookup y=some .free) (n3:∀ z,scope.names.lookup z=some .cell∨scope.names.lookup z=some .free→z=y) (hxy:x≠y)
  (hcell:X.env.cells.lookup y=some c) (hj:X.N[j]? = some y) (hσ:σ[j]? = some (some (.ref ld))) (hv:X.env.scope.names.lookup y=some .cell) (r:RelV v u)
  (ho:s.heap.get? fa=some (PySem.W.kla_obj "<lambda>" qual params body scope [(y,c)] pm c' ctv)) (hcd:s.heap.CodeRec (.ref c') qual)
  (hbind:bindArgs (PySem.W.kla_fn "<lambda>" qual params body scope [(y,c)] pm (.ref c') ctv) ⟨[u],[]⟩=pure [(x,u)])
  (hb:PE (EK X A (PySem.W.envX qual scope s.heap.objs.size fa (.ref c') [(y,c)]) s H x y) body tb) (htb:tb [some v,some (.ref ld)] H Q) :
  wpAny (model X.prog X.w) A (call (.ref fa) [u]) (EP X pins σ Q) (fun _ _=>False) s:=by
 refine wpAny_call (PySem.W.kla_callFunE hr.depth ho rfl hco hgen rfl hcd ?_)
 rw[hbind]
 refine wpAny_pure (wpAny_newFunctionEnv hcl (fun z hz=>?_) (fun h₁ hns hsb=>⟨(I.nolimit).fresh _ hsb,?_⟩) hsk)
 ·rw[List.mem_singleton.mp hz];exact n1
 ·have hk₁:∀ b o,s.heap.get? b=some o→h₁.get? b=some o:=fun b o e=>hsb.extBut b o (Nat.ne_of_lt (Heap.lt_size e)) (Heap.get?_push_of_some _ e)
  show codeAny _ _ (.expr body (PySem.W.envX qual scope s.heap.objs.size fa (.ref c') [(y,c)])) _ _
  refine PySem.W.kla_codeExpr (wpAny_mono (hb [] _ _ H _ (DD I hA hr.hd hsk n1 n2 n3 hxy hcell hj hσ hv r hns hk₁) htb) (fun v' s' q=>?_) fun e s' z=>z.elim)
  obtain⟨w,H',J,r',q⟩:=q
  exact I.after ⟨w,H',J.os,J.bare,J.base,J.hok,r',q⟩
theorem B3 {scope:Scope}{params:Arguments}{body:Expr}{pos:Pos}{P:Addr}{cl:List (Str×Addr)}(I:Inv X pins σ H s) (B:Fc X.mg X.base X.env.code P) (ht:TabAt P pos (X.env.qual ++ "<lambda>") H)
  (hdef:defaultsOf params X.env=([],[])) (hcl:closureFor scope X.env=pure cl) :
  wpAny (model X.prog X.w) X.A (eval (.Lambda params body scope pos) X.env) (fun v s'=>∃ (H':Hp) (fa c':Addr) (pm ctv:Value),v = .ref fa∧Inv X ((fa,PySem.W.kla_obj "<lambda>" (X.env.qual ++ "<lambda>") params body scope cl pm c' ctv) :: pins) σ H' s' ∧
   (∀ b o,b≠P→H b=some o→H' b=some o)∧H' P=some (.tbl #[rawInt pos.line,rawInt pos.col,.ref c'])∧H' c'=some (rq c' (X.env.qual ++ "<lambda>"))) X.xe s:=by
 obtain⟨⟨c,hcode,C⟩,gP,bm,ob,b1,b2,b3,b4,b5,b6⟩:=B
 have hg:s.heap.Ns mainGlobals X.mg:=I.ok.mod.glob.keeps I.bk
 have hb:s.heap.BuiltinsAt X.mg P:=⟨bm,ob,b1,b2,b3,b4,I.bk _ _ b5,b6⟩
 rcases ht with hP | ⟨c',hP,hc'⟩
 ·have hPo:s.heap.get? P=some (PySem.W.tabObj #[]):=I.hok P _ hP
  refine PySem.W.kla_eval hdef (PySem.W.kla_makeFunction (mg:=X.mg) hcl I.ok.glob hg hcode (C.keeps I.bk) hPo trivial rfl gP hb fun c' ctv h' tk hx hge hlt hrec htb=>?_)
  have hPlt:P < s.heap.objs.size:=Heap.lt_size hPo
  have hcn:H c'=none:=I.hok.fresh hge
  have hcP:c'≠P:=Nat.ne_of_gt (Nat.lt_of_lt_of_le hPlt hge)
  have neP:∀ b,H b=none→b≠P:=fun b n z=>by rw[z,hP]at n;cases n
  have eqH:∀ b o,b≠P→H b=some o→upd (upd H P (.tbl #[rawInt pos.line,rawInt pos.col,.ref c'])) c' (rq c' (X.env.qual ++ "<lambda>")) b=some o:=fun b o hb e=>by
   rw[ak (aF e hcn),ak hb];exact e
  have atP:upd (upd H P (.tbl #[rawInt pos.line,rawInt pos.col,.ref c'])) c' (rq c' (X.env.qual ++ "<lambda>")) P=some (.tbl #[rawInt pos.line,rawInt pos.col,.ref c']):=by rw[ak (Ne.symm hcP),ab]
  have push:∀ b o,h'.get? b=some o→(h'.push (PySem.W.kla_obj "<lambda>" (X.env.qual ++ "<lambda>") params body scope cl ((X.mg "__name__").getD .none) c' ctv)).get? b=some o:=fun b o e=>Heap.get?_push_of_some _ e
  have J:Inv X pins σ (upd (upd H P (.tbl #[rawInt pos.line,rawInt pos.col,.ref c'])) c' (rq c' (X.env.qual ++ "<lambda>"))) { s with heap:=h'.push (PySem.W.kla_obj "<lambda>" (X.env.qual ++ "<lambda>") params body scope cl ((X.mg "__name__").getD .none) c' ctv),toks:=tk }:=by
   refine I.step (g':=s.gens) (d':=s.drawn) (t':=tk) (ch:=[]) (fun b hb=>(by cases hb)) (fun b o _ _ _ e n=>push _ _ (hx b o (neP b n) e)) (fun b o _ _ _ e n=>⟨o.slots,push _ _ (hx b o (neP b n) e)⟩) (fun b o _ e n=>?_) (fun b o _ e=>?_) (fun b xs e=>?_) (fun b o u e=>?_) (fun b ps e=>?_) (fun m hm=>?_) (fun b u e=>?_) I.bare
   ·rw[ak (Nat.ne_of_lt (Nat.lt_of_lt_of_le (Heap.lt_size e) hge)),ak (neP b n)];exact n
   ·by_cases z:b=P
    ·rw[z];exact⟨_,push _ _ htb⟩
    ·exact⟨o,push _ _ (hx b o z e)⟩
   ·exact eqH b _ (fun z=>by rw[z,hP]at e;cases e) e
   ·exact eqH b _ (fun z=>by rw[z,hP]at e;cases e) e
   ·by_cases z:b=P
    ·subst z
     rw[hP]at e
     cases e
     exact⟨#[rawInt pos.line,rawInt pos.col,.ref c'],by rw[atP];rfl⟩
    ·exact⟨#[],by rw[eqH b _ z e];simp⟩
   ·obtain⟨o,es,ep,ho,r⟩:=hm
    exact⟨o,es,ep,push _ _ (hx _ o (neP _ I.free) ho),r⟩
   ·by_cases zc:b=c'
    ·subst zc
     rw[ab]at e
     cases e
     obtain⟨c2,o,vs,t,e2,hoc,hd,hv⟩:=hrec
     cases e2
     refine⟨⟨o,vs,t,push _ _ hoc,hd,hv⟩,⟨o,push _ _ hoc⟩,fun h1 h2 p k=>?_⟩
     obtain⟨o',vs',t',p1,p2⟩:=p
     exact⟨o',vs',t',k _ p1,p2⟩
    ·by_cases z:b=P
     ·subst z
      rw[atP]at e
      cases e
      exact push _ _ htb
     ·rw[ak zc,ak z]at e
      refine(I.hok b u e).g7 (fun d w' hd q=>push _ _ (hx d w' ?_ q)) (fun d q=>eqH d _ (fun z=>by rw[z,hP]at q;cases q) q) fun d xs q=>eqH d _ (fun z=>by rw[z,hP]at q;cases q) q
      rcases hd with zz | zz
      ·rw[zz];exact z
      ·intro zzz;rw[zzz,hP]at zz;cases zz
  have hfa:s.heap.objs.size≤h'.objs.size:=Nat.le_trans hge (Nat.le_of_lt hlt)
  refine⟨_,h'.objs.size,c',(X.mg "__name__").getD .none,ctv,rfl,J.gf fun p hp=>?_,fun b o hb e=>eqH b o hb e,atP,ab⟩
  rcases List.mem_cons.mp hp with e | hp
  ·subst e
   refine⟨Heap.get?_push_size _ rfl,?_,Nat.ne_of_gt (Nat.lt_of_lt_of_le I.lt hfa),I.ED hfa,fun v z=>nomatch z⟩
   show upd (upd H P _) c' _ h'.objs.size=none
   rw[ak (Nat.ne_of_gt hlt),ak (Nat.ne_of_gt (Nat.lt_of_lt_of_le hPlt hfa))]
   exact I.hok.fresh hfa
  ·exact J.pin p (List.mem_append_right _ hp)
 ·have hPo:s.heap.get? P=some (PySem.W.tabObj #[rawInt pos.line,rawInt pos.col,.ref c']):=I.hok P _ hP
  have hf:codeAmong pos (#[rawInt pos.line,rawInt pos.col,Value.ref c']:Array Value).toList=some (.ref c'):=by
   show (if ((pos.line:Int) == pos.line && (pos.col:Int) == pos.col)=true then some (Value.ref c') else _)=_
   rw[if_pos (by simp)]
  refine PySem.W.kla_eval hdef (PySem.W.kla_makeFunctionHit (mg:=X.mg) (cv:=.ref c') hcl I.ok.glob hg hcode (C.keeps I.bk) hPo trivial hf hb fun ctv h' tk hk hsz=>?_)
  have J:Inv X pins σ H { s with heap:=h'.push (PySem.W.kla_obj "<lambda>" (X.env.qual ++ "<lambda>") params body scope cl ((X.mg "__name__").getD .none) c' ctv),toks:=tk }:=I.kept (t':=tk) fun b o e=>Heap.get?_push_of_some _ (hk b o e)
  refine⟨H,h'.objs.size,c',(X.mg "__name__").getD .none,ctv,rfl,J.gf fun p hp=>?_,fun b o _ e=>e,hP,hc'⟩
  rcases List.mem_cons.mp hp with e | hp
  ·subst e
   exact⟨Heap.get?_push_size _ rfl,I.hok.fresh hsz,Nat.ne_of_gt (Nat.lt_of_lt_of_le I.lt hsz),I.ED hsz,fun v z=>nomatch z⟩
  ·exact J.pin p (List.mem_append_right _ hp)
end
end Dw
namespace Dw
open PySem PySem.Spec PyProof.Rows L2
open WayM
section
variable {X:Cx}{pins:List (Addr×Obj)}{σ:L2.St}{H:Hp}{s:Shared}
theorem AZ {P:Program}{w:World}{H:Hp}{h:Heap}{c:Addr}{q:Str}(x:bS P w H h c (rq c q)):h.CodeRec (.ref c) q:=by
 unfold rq at x
 obtain⟨⟨o,vs,t,h1,h2,h3⟩,_,_⟩:=x
 exact⟨c,o,vs,t,rfl,h1,h2,h3⟩
theorem EU {h1:Heap}(I:Inv X pins σ H s) (k:∀ b o,s.heap.get? b=some o→h1.get? b=some o):lr X pins H h1.objs.size:=by
 have no:∀ b o,s.heap.get? b=some o→b≠h1.objs.size:=fun b o e=>Nat.ne_of_lt (Heap.lt_size (k b o e))
 obtain⟨m,⟨oL,_,_,hL,_⟩,_⟩:=I.loc
 have hlt:X.env.locals < h1.objs.size:=Heap.lt_size (k _ _ hL)
 refine⟨?_,Nat.ne_of_gt hlt,fun z=>?_,.inr (Nat.le_of_lt (Nat.lt_of_le_of_lt I.ok.above hlt)),fun x c e=>?_,fun p hp=>no _ _ (I.pin p hp).1⟩
 ·cases z:H h1.objs.size with
  |none=>rfl
  |some o=>
   obtain⟨u,hu⟩:=gL (I.hok _ o z)
   exact absurd rfl (no _ _ hu)
 ·obtain⟨_,o,ho,_⟩:=I.ng.mem z
  exact absurd rfl (no _ _ ho)
 ·obtain⟨v,o,ho,_⟩:=I.cell x c e
  exact no _ _ ho
def uy (P:Addr) (IP:Pos) (q:Str) (j:Nat) (σ:L2.St) (Q:VK) (x:V) (H1:Hp):Prop:=∃ (d ld:Addr) (ls:List (Int×V)) (t:aZ),x = .ref d∧H1 d=some (.dK (ls.map fun p=>(iK p.1,p.2)))∧ls.length≤1000 ∧
 σ[j]? = some (some (.ref ld))∧H1 ld=some (.dK (aR t))∧ld≠P∧(∀ p∈ls,∃ b,a4 t p.1=some b)∧TabAt P IP q H1 ∧
 ∀ (H':Hp) (D:Addr) (ks:List Int),(∀ b o,b≠P→H1 b=some o→H' b=some o)→H1 D=none→H' D=some (.lst (ks.map V.int))→ks.Perm (ls.map fun p=>p.1)→ks.Pairwise (fun a b=>lt2 (a,(a4 t a).getD 0) (b,(a4 t b).getD 0))→TabAt P IP q H'→Q (.ref D) H'
def C3 (P:Addr) (IP:Pos) (q:Str) (j:Nat) (te:TE):TE:=fun σ H Q=>te σ H fun x H1=>uy P IP q j σ Q x H1
def F1 (R:V→Hp→Prop):List V→Hp→Prop
 | [x],H=>R x H
 |_,_=>False
theorem Ac {e:Expr}{te:TE}{params:Arguments}{body:Expr}{scope:Scope}{p pos IP DE:Pos}{P c:Addr}{j k:Nat}{x y:Str}(ha:PA X [e] (sJ te uh)) (hc:X.calm=true) (hr:dD (k+4) X.A) (B:Fc X.mg X.base X.env.code P)
  (hg:Gl X "sorted") (hm:X.mg "sorted"=none) (hdef:defaultsOf params X.env=([],[])) (hcl:closureFor scope X.env=pure [(y,c)])
  (hsk:scope.kind = .function) (hco:scope.isCoroutine=false) (hgen:scope.isGenerator=false) (hnc:∀ z∈scope.names,z.2 ≠ .cell)
  (n1:scope.names.lookup x=some .local) (n2:scope.names.lookup y=some .free) (n3:∀ z,scope.names.lookup z=some .cell∨scope.names.lookup z=some .free→z=y) (hxy:x≠y)
  (hcell:X.env.cells.lookup y=some c) (hj:X.N[j]? = some y) (hv:X.env.scope.names.lookup y=some .cell)
  (hbind:∀ (q:Str) (pm:Value) (c':Addr) (ctv u:Value),bindArgs (PySem.W.kla_fn "<lambda>" q params body scope [(y,c)] pm (.ref c') ctv) ⟨[u],[]⟩=pure [(x,u)])
  (hb:∀ (s:Shared) (H:Hp) (fa:Addr) (cd:Value),PE (EK X X.A.in1.in1 (PySem.W.envX (X.env.qual ++ "<lambda>") scope s.heap.objs.size fa cd [(y,c)]) s H x y) body (Em (sJ (dJ (kT 1) (kT 0)) (sJ (kT 0) uh))))
  (hs1:backTo pos (starEach [e] X.env)=(false,eval e X.env) :: backTo pos (starEach [] X.env):=by rfl) (hs2:(backTo pos (starEach [e] X.env)).any (·.1)=false:=by rfl) :
  PE X (.Call (.Name "sorted" p) [e] [⟨some "key",.Lambda params body scope IP,DE⟩] pos) (C3 P IP (X.env.qual ++ "<lambda>") j te):=by
 intro pins s σ H Q I h
 have h16:sizeLine=16777216:=sizeLine_eq
 refine wpAny_Call_Name_kw (qw I hg hm boot_sorted ?_ (by decide) (by decide))
 refine callWith_kw (thn (ha pos pins s σ H (F1 (uy P IP (X.env.qual ++ "<lambda>") j σ Q)) I h) fun us s1 ⟨vs,H1,I1,r1,q1⟩=>?_) hs1 hs2
 obtain⟨x0,rfl⟩:∃ x0,vs=[x0]:=by
  match vs,q1 with
  | [x0],_=>exact⟨x0,rfl⟩
  | [],q1=>cases q1
  |_ :: _ :: _,q1=>cases q1
 obtain⟨d,ld,ls,t,e1,hd,hz,hσ,hld,hlP,hin,htab,q⟩:uy P IP (X.env.qual ++ "<lambda>") j σ Q x0 H1:=q1
 subst e1
 rw[Vals.De r1]
 refine kws_cons (thn (B3 I1 B htab hdef hcl) fun v s2 ⟨H2,fa,c',pm,ctv,ev,I2,k2,hP2,hc2⟩=>kws_nil ?_)
 subst ev
 have hdP:d≠P:=fun z=>by
  rcases htab with w | ⟨_,w,_⟩<;>(rw[z,w]at hd;cases hd)
 have hd2:=k2 d _ hdP hd
 have K6:=k2 ld _ hlP hld
 obtain⟨_,hs,vs,ep,kv,hm2⟩:=u0 I2 hd2
 have hl:ls.length=vs.length:=by have:=Paired.length kv;rw[List.length_map]at this;exact this
 obtain⟨_,_,_,_,_,_,_,hnd⟩:=id hm2
 have keysOf:∀ {kvs:List (Key×V)}{vs:List (Key×Value)},KV kvs vs→vs.map (·.1)=kvs.map (·.1):=by
  intro kvs vs h
  induction h with
  |nil=>rfl
  |cons r _ ih=>rw[List.map_cons,List.map_cons,ih,r.1]
 have ndk:(ls.map fun p=>p.1).Nodup:=by
  have e2:(vs.map (·.1))=(ls.map fun p=>p.1).map Sum.inl:=by
   rw[keysOf kv,List.map_map,List.map_map]
   rfl
  rw[e2]at hnd
  exact List.Pairwise.of_map _ (fun a b h=>fun z=>h (by rw[z])) hnd
 show wpAny (model X.prog X.w) X.A (call (.builtin "sorted") [.ref d] [(Str.ofString "key",.ref fa)]) _ X.xe s2
 refine call_function_entry_kw kind_sorted plain_sorted entry_sorted (ksk_s1 _ _) ?_
 unfold Builtin.«sorted»
 refine wpAny_bind (m:=checkCount "sorted" 1 1 _) (wpAny_pure ?_)
 refine wpAny_bind (PySem.W.kdu_collect (A:=X.A.in1) (PySem.W.kdl_dict (knd:=aY X.prog X.w) (kvs:=vs) (ep:=ep) hs) (I2.ok.hd hc) hm2 (by omega) fun h1 tk acc hk1 hacc=>?_)
 have hal:acc.toList.length=ls.length:=by rw[Array.length_toList,hacc.1,hl]
 refine wpAny_bind (wpAny_newList ?_ (by rw[hal];omega))
 have KI:IntsAre acc.toList (ls.map fun p=>p.1):=by
  have at_:∀ (i:Nat) (v:Value),acc.toList[i]? = some v→∃ pr t,ls[i]? = some pr∧v = .int pr.1 t:=by
   intro i v e
   obtain⟨k,x,e1,e2⟩:=hacc.2 i v (by rw[←Array.getElem?_toList];exact e)
   obtain⟨y,h3,_⟩:=B5 kv e1
   rw[List.getElem?_map]at h3
   cases hc:ls[i]? with
   |none=>rw[hc]at h3;cases h3
   |some pr=>
    rw[hc]at h3
    obtain⟨f1,_⟩:=Prod.mk.inj (Option.some.inj h3)
    have f1:iK pr.1=k:=f1
    subst f1
    obtain⟨t,et⟩:RelV (.int pr.1) v:=lR (show jB (iK pr.1) v=true from e2)
    exact⟨pr,t,rfl,et⟩
  have gen:∀ (vs:List Value) (ls:List (Int×V)),vs.length=ls.length→(∀ (i:Nat) (v:Value),vs[i]? = some v→∃ pr t,ls[i]? = some pr∧v = .int pr.1 t)→IntsAre vs (ls.map fun p=>p.1):=by
   intro vs
   induction vs with
   |nil=>
    intro ls e _
    cases ls with
    |nil=>exact .nil
    |cons _ _=>simp at e
   |cons v vs ih=>
    intro ls e f
    cases ls with
    |nil=>simp at e
    |cons pr ls=>
     obtain⟨pr',t,g1,g2⟩:=f 0 v rfl
     have g1:pr=pr':=by simpa using g1
     subst g1 g2
     exact .cons _ _ (ih ls (by simpa using e) fun i v h=>by
      obtain⟨pr,t,h1,h2⟩:=f (i+1) v (by simpa using h)
      exact⟨pr,t,by simpa using h1,h2⟩)
  exact gen _ _ hal at_
 have fD:=EU I2 hk1
 have hD:(h1.push { cls:=.type "list",data:=.seq acc.toList.toArray }).get? h1.objs.size=some (seqObj "list" acc.toList.toArray 0):=Heap.get?_push_size _ rfl
 have I3:Inv X ((fa,PySem.W.kla_obj "<lambda>" (X.env.qual ++ "<lambda>") params body scope [(y,c)] pm c' ctv) :: pins) σ H2 { s2 with heap:=h1.push { cls:=.type "list",data:=.seq acc.toList.toArray },toks:=tk }:=
  I2.kept (t':=tk) fun b o e=>Heap.get?_push_of_some _ (hk1 b o e)
 refine wpAny_bind (wpAny_holding (wpAny_call_entry_kw slot_list_sort ⟨_,hD,rfl⟩ entry_list_sort ?body (ksk_l1 _ _)))
 case body=>
  show wpAny (model X.prog X.w) X.A.in1.in1 (Builtin.«list.sort» ⟨[.ref h1.objs.size],[(Str.ofString "key",.ref fa)]⟩) _ _ _
  rw[ksk_t1]
  refine wpAny_mono (C8 (A:=X.A.in1.in1) (val:=fun k=>(a4 t k).getD 0) I3 fD hD KI ndk (by rw[List.length_map];exact hz) ?hcall) (fun fin s' q2=>?_) fun _ _ e=>e
  case hcall=>
   intro k hk tok Iz s' H' mem J sm
   obtain⟨pr,hpr,ek⟩:=List.mem_map.mp hk
   obtain⟨b,hb'⟩:=hin pr hpr
   have ek:pr.1=k:=ek
   rw[ek]at hb'
   have ho:=(jo J mem).1
   have hcd:s'.heap.CodeRec (.ref c') (X.env.qual ++ "<lambda>"):=AZ (J.hok c' _ (sm _ _ hc2))
   refine wpAny_mono (B4 (x:=x) (y:=y) (A:=X.A.in1.in1) (v:=.int k) (u:=.int k tok) (ld:=ld) (j:=j) (Q:=fun v H''=>∃ T,v = .ref T∧ao H' H''∧H'' T=some (.tup [.int ((a4 t k).getD 0),.int k])) J rfl ((hr.in1.in1).mono (by omega)) hsk hco hgen hnc n1 n2 n3 hxy hcell hj hσ hv ⟨tok,rfl⟩ ho hcd (hbind _ _ _ _ _) (hb s' H' fa (.ref c')) ?_) (fun v s'' w=>?_) fun _ _ e=>e
   ·refine⟨.ref ld,rfl,.int k,rfl,ld,.int b,rfl,a6 (sm _ _ K6) hb',.int k,rfl,by show 2≤sizeLine;decide,fun T hT=>⟨T,rfl,ao.new hT,?_⟩⟩
    rw[ab,hb']
    rfl
   ·obtain⟨v',H'',J',r',T,rfl,sm',hT⟩:=w
    have r':v = .ref T:=r'
    exact⟨H'',T,J',sm',r',hT⟩
  ·obtain⟨rfl,H',ks,J,sm,hDl,pk,sk⟩:=q2
   refine⟨_,rfl,wpAny_pure ⟨_,rfl,.ref h1.objs.size,H',J,rfl,q H' h1.objs.size ks (fun b o hb e=>sm _ _ (k2 b o hb e)) ?_ hDl pk sk (.inr ⟨c',sm _ _ hP2,sm _ _ hc2⟩)⟩⟩
   cases z:H1 h1.objs.size with
   |none=>rfl
   |some o=>
    by_cases zP:h1.objs.size=P
    ·have:=I2.hok P _ hP2
     obtain⟨u,hu⟩:=gL this
     exact absurd (Heap.lt_size (hk1 _ _ hu)) (by rw[zP];exact Nat.lt_irrefl _)
    ·have:=k2 _ o zP z
     rw[fD.1]at this
     cases this
end
end Dw
namespace Dw
open PySem PySem.Spec PyProof.Rows L2
open Vbnlaa StM WayM RepM UpM VerM
def DH (td:TE):TI:=fun σ H R=>td σ H fun x H1=>∃ d kvs,x = .ref d∧H1 d=some (.dK kvs)∧∀ o,R (Iti d o kvs) (upd H1 d (.frz o (.dK kvs)))
theorem tm {X:Cx}{e:Expr}{td:TE}{apos cpos:Pos}{elts:List Expr}{kk:Nat}{tpos:Pos}(he:PE X e td) (hbase:attributeBase e "items" X.env (eval e X.env)=eval e X.env:=by rfl) (hline:(apos.endLine == cpos.line)=true:=by rfl) :
  PI X (.Tuple elts kk tpos) (.Call (.Attribute e "items" apos) [] [] cpos) (DH td):=by
 intro pins s σ H R I h
 refine wpAny_Call_method (T:="dict") (id:="dict.items") hbase rfl hline F.plainAttrs_dict F.slot_dict_items F.type_dict_items (thn (he pins s σ H _ I h) fun u s1 ⟨x,H1,I1,rx,d,kvs,ex,hd0,q⟩=>?_)
 subst ex
 obtain rfl:u=Value.ref d:=rx
 obtain⟨od,I1'⟩:=I1.lock hd0 trivial
 have hd:upd H1 d (.frz od (.dK kvs)) d=some (.frz od (.dK kvs)):=ab
 obtain⟨hs,hgd,hx,es,ep,vs,hdt,hsz,kv,hm⟩:=I1'.rX hd
 have hl:kvs.length=vs.length:=Paired.length kv
 refine⟨hm.dictOf.typeIs,hm.dictOf.mapOf.noDict,?_⟩
 have I2:Inv X pins σ (upd H1 d (.frz od (.dK kvs))) { s1 with heap:=s1.heap.push { cls:=.type "dict_items",data:=.fields #[.ref d] } }:=I1'.kept (t':=s1.toks) fun b ob q=>Heap.get?_push_of_some _ q
 have fin:wpAny (model X.prog X.w) X.A (pyIter (.ref s1.heap.objs.size)) (PIE X pins σ (.Tuple elts kk tpos) R) X.xe { s1 with heap:=s1.heap.push { cls:=.type "dict_items",data:=.fields #[.ref d] } }:=by
  refine wpAny_pyIter_items (d:=d) (knd:=aY X.prog X.w) ⟨_,Heap.get?_push_size _ rfl,rfl,rfl⟩ (hm.push _) (k7 (tk:=s1.toks) I2 _ (pA _ hdt) ⟨.none,.none,?_⟩ (q od))
  rw[hl]
  exact Heap.get?_push_size _ rfl
 show wpAny _ _ (callWith cpos (.builtin "dict.items") [.ref d] [] []) _ X.xe s1
 exact method_meetsIn F.slot_dict_items F.entry_dict_items rfl (PySem.evalArgs_none ⟨rfl,hm.dictOf.typeIs,F.args_dict_items_1 _,_,meets_dict_items (aY X.prog X.w) d hs,⟨vs,hm.dictOf⟩,fin⟩)
theorem FG {d:Addr}{od:Obj}{kvs:List (Key×V)}{g:TG}{tb:TS}{D:Ends}{σ:L2.St}{H:Hp}(hd:H d=some (.frz od (.dK kvs))) (Pv:Nat→L2.St→Hp→Prop) (h0:Pv 0 σ H) (hP:∀ i σ U,Pv i σ U→U d=some (.frz od (.dK kvs)))
  (hs:∀ (i:Nat) k v σ U T,kvs[i]? = some (k,v)→Pv i σ U→U T=Option.none→g (.ref T) σ (upd U T (.tup [kV k,v])) fun σ2 H2=>tb { D with nx:=Pv (i+1),ct:=Pv (i+1),bk:=D.nx } σ2 H2)
  (he:∀ σ U,Pv kvs.length σ U→D.nx σ U):∃ W:Nat→Nat→L2.St→Hp→Prop,(∃ m,W 0 m σ H)∧∀ i m σ H,W i m σ H →
   ((Iti d od kvs).stop i H∧D.nx σ H)∨((Iti d od kvs).go i H∧∃ N:L2.St→Hp→Prop,(∀ σ' H',N σ' H'→∃ m',m' < m∧W (i+1) m' σ' H')∧∀ x H',(Iti d od kvs).yld i H x H'→g x σ H' fun σ2 H2=>tb { D with nx:=N,ct:=N,bk:=D.nx } σ2 H2):=by
 refine⟨fun i m σ H'=>m=kvs.length - i∧i≤kvs.length∧Pv i σ H',⟨_,rfl,Nat.zero_le _,h0⟩,?_⟩
 rintro i m σ H' ⟨rfl,hi,p⟩
 have hU:=hP i σ H' p
 by_cases hlt:i < kvs.length
 ·refine .inr ⟨⟨hU,hlt⟩,Pv (i+1),fun σ' H' p'=>⟨kvs.length - (i+1),by omega,rfl,hlt,p'⟩,fun x H' y=>?_⟩
  obtain⟨T,k,v,hk,ex,hT,e⟩:=y
  subst ex e
  exact hs i k v σ _ T hk p hT
 ·have e:i=kvs.length:=by omega
  subst e
  exact .inl ⟨⟨hU,Nat.le_refl _⟩,he σ H' p⟩
theorem Ar {j:Nat}{d:Addr}{kvs:List (Key×V)}{g:TG}{tb:TS}{D:Ends}{σ:L2.St}{H:Hp}(hj:σ[j]? = some (some (.ref d))) (hd:H d=some (.dK kvs)) (Pv:Nat→L2.St→Hp→Prop) (h0:Pv 0 σ H) (hP:∀ i σ U,Pv i σ U→U d=some (.dK kvs))
  (hs:∀ (i:Nat) k v σ U od,kvs[i]? = some (k,v)→Pv i σ U→g (kV k) σ (upd U d (.frz od (.dK kvs))) fun σ2 H2=>tb { nx:=fun σ' H'=>∃ U',H'=upd U' d (.frz od (.dK kvs))∧Pv (i+1) σ' U',ct:=fun σ' H'=>∃ U',H'=upd U' d (.frz od (.dK kvs))∧Pv (i+1) σ' U',rt:=fun v H'=>H' d=some (.frz od (.dK kvs))∧D.rt v (upd H' d (.dK kvs)),bk:=fun σ' H'=>H' d=some (.frz od (.dK kvs))∧D.nx σ' (upd H' d (.dK kvs)) } σ2 H2)
  (he:∀ σ U,Pv kvs.length σ U→D.nx σ U):vw (xw (Ec (kT j)) g tb) D σ H:=by
 refine⟨d,.dK kvs,hd,trivial,fun od=>⟨_,hj,d,od,rfl,.inl ⟨kvs,ab,fun i m σ H'=>m=kvs.length - i∧i≤kvs.length∧∃ U,H'=upd U d (.frz od (.dK kvs))∧Pv i σ U,⟨_,rfl,Nat.zero_le _,H,rfl,h0⟩,?_⟩⟩⟩
 rintro i m σ H' ⟨rfl,hi,U,rfl,p⟩
 have hU:=hP i σ U p
 by_cases hlt:i < kvs.length
 ·refine .inr ⟨⟨ab,hlt⟩,fun σ' H'=>∃ U',H'=upd U' d (.frz od (.dK kvs))∧Pv (i+1) σ' U',fun σ' H' p'=>⟨kvs.length - (i+1),by omega,rfl,hlt,p'⟩,fun x H' y=>?_⟩
  obtain⟨e,k,v,hk,ex⟩:=y
  subst e ex
  exact hs i k v σ U od hk p
 ·have e:i=kvs.length:=by omega
  subst e
  refine .inl ⟨⟨ab,Nat.le_refl _⟩,ab,?_⟩
  rw[fH hU]
  exact he σ U p
def eK (e:E4):List V:=[.int e.kind,.int e.u,.int e.v,.int e.g]
def pK (p:Int×E4):List V:=eK p.2
def wK (w:W3):List V:=[.int w.2.1,.int w.2.2]
def meE (p:Int×E4):Int×E4:=(p.1,me p.2)
def fX:Sp:=fun vs H Q _=>∃ (a:Addr) (ws:List W3),vs=[.ref a]∧cx H a ws∧(ws.map fun w=>w.1).Nodup∧ws.length≤40∧∀ H' l,ao H H'→H l=Option.none→cx H' l (ws.map mw)→Q (.ref l) H'
def fY:Sp:=fun vs H Q _=>∃ e:E4,vs=eK e∧∀ H' l,ao H H'→H l=Option.none→H' l=some (.tup (eK (me e)))→Q (.ref l) H'
def eP:Sp:=fun vs H Q _=>∃ (b:Addr) (es:List (Int×E4)),vs=[.ref b]∧Evs H b es∧(es.map fun e=>e.1).Nodup∧es.length≤100∧∀ H' l,ao H H'→H l=Option.none→Evs H' l (es.map meE)→Q (.ref l) H'
def df:Sp:=fun vs H Q _=>∃ (a b:Addr) (ws:List W3) (es:List (Int×E4)) (s:State),vs=[.ref a,.ref b]∧cx H a ws∧Evs H b es∧Rep ws es s∧∀ H' l t,ao H H'→H l=Option.none→Bot ws (e4s es) t→H' l=some (.dK (aR (ba t)))→Q (.ref l) H'
theorem cT {U:Hp}{a q:Addr}{f:HO}(h:upd U a f q=none):q≠a∧U q=none:=by
 have n:q≠a:=fun z=>by rw[z,ab]at h;cases h
 rw[ak n]at h
 exact⟨n,h⟩
theorem zy {ws:List W3}{i:Nat}{p:W3}(nd:(ws.map fun w=>w.1).Nodup) (hv:ws[i]? = some p):p.1∉(ws.take i).map fun w=>w.1:=by
 intro m
 obtain⟨q,hq,eq⟩:=List.mem_map.mp m
 obtain⟨j,hj⟩:=List.getElem?_of_mem hq
 have hji:j < i:=by
  have:=(List.getElem?_eq_some_iff.mp hj).1
  rw[List.length_take]at this
  omega
 rw[List.getElem?_take_of_lt hji]at hj
 have:=wj nd (i:=j) (j:=i) (x:=p.1) (by rw[List.getElem?_map,hj];exact congrArg some eq) (by rw[List.getElem?_map,hv];rfl)
 omega
theorem qA {es:List (Int×E4)}{i:Nat}{p:Int×E4}(nd:(es.map fun w=>w.1).Nodup) (hv:es[i]? = some p):p.1∉(es.take i).map fun w=>w.1:=by
 intro m
 obtain⟨q,hq,eq⟩:=List.mem_map.mp m
 obtain⟨j,hj⟩:=List.getElem?_of_mem hq
 have hji:j < i:=by
  have:=(List.getElem?_eq_some_iff.mp hj).1
  rw[List.length_take]at this
  omega
 rw[List.getElem?_take_of_lt hji]at hj
 have:=wj nd (i:=j) (j:=i) (x:=p.1) (by rw[List.getElem?_map,hj];exact congrArg some eq) (by rw[List.getElem?_map,hv];rfl)
 omega
def nJ {α:Type}(f:α→Int) (tv:α→List V) (U:Hp) (l:Addr) (xs:List α):Prop:=∃ lm:List (Addr×α),U l=some (.dK (ay f lm))∧(lm.map fun p=>p.2)=xs∧∀ p∈lm,U p.1=some (.tup (tv p.2))
theorem nJ.nil {α:Type}{f:α→Int}{tv:α→List V}{U:Hp}{l:Addr}(h:U l=some (.dK [])):nJ f tv U l []:=⟨[],h,rfl,fun p hp=>by cases hp⟩
theorem nJ.put {α:Type}{f:α→Int}{tv:α→List V}{U:Hp}{l:Addr}{xs:List α}{x:α}(h:nJ f tv U l xs) (nk:f x∉xs.map f):∃ lm:List (Addr×α),U l=some (.dK (ay f lm))∧(ay f lm).length=xs.length ∧
  ∀ (V:Hp) (q:Addr),q≠l→V q=some (.tup (tv x))→(∀ b o,b≠l→U b=some o→V b=some o)→nJ f tv (upd V l (.dK (putK (ay f lm) (iK (f x)) (.ref q)))) l (xs ++ [x]):=by
 obtain⟨lm,hU,e,ht⟩:=h
 refine⟨lm,hU,by unfold ay;rw[←e,List.length_map,List.length_map],fun V q nq hq hs=>⟨lm ++ [(q,x)],?_,?_,fun p hp=>?_⟩⟩
 ·rw[ab,uw (x:=x) (by intro m;apply nk;rw[←e,List.map_map];exact m) rfl]
 ·rw[List.map_append,e];rfl
 ·rcases List.mem_append.mp hp with m | m
  ·have:=ht p m
   have n:p.1≠l:=fun z=>by rw[z,hU]at this;cases this
   rw[ak n]
   exact hs _ _ n this
  ·rw[List.mem_singleton.mp m,ak nq]
   exact hq
section
variable {P:Program}{w:World}{K:PySem.W.Frag}{mg:Str→Option Value}{base:Heap}
theorem l6 (T:Txt K mg):OkD P w K mg base 1 "mirrored_works" ["works"] fX:=by
 obtain⟨f,fd,hm,F,b⟩:=T.nt
 refine⟨f,fd,hm,F.kp,b,F.ok cS (fun vs H Q E h=>?_) (fun cdv A outer s H vs Q E hr h=>?_)⟩
 ·obtain⟨a,ws,rfl,_⟩:=h
  rfl
 ·obtain⟨a,ws,rfl,hW,nd,hw,k⟩:=h
  have hu:=bR hr
  refine⟨_,(ae (aI (i:=1) cS.nd rfl (Or.inl rfl) dS)
   (ae (dR (bE PassesOwn.never rfl (gI (pv 0)) (cj (K:=K) (n:=2) rfl rfl (aM (aJ (i:=2) cS.nd rfl (Or.inl rfl)) (aM (aJ (i:=3) cS.nd rfl (Or.inl rfl)) cg))) (ag (b9 hu (pv 1) (pv 2) (cK (aa (gJ eh (aH (aL (K:=K) rfl) (pv 3) aj (fun _ _=>rfl))) (aa (gJ eh (aH (aL (K:=K) rfl) (pv 3) aj (fun _ _=>rfl))) ah))) rfl))))
   (ag (aq (pv 1))))),?_⟩
  simp![g6]
  have h16:sizeLine=16777216:=sizeLine_eq
  intro l hl
  obtain⟨lw,ew,hd,ht⟩:=hW
  have s0:ao H (upd H l (.dK [])):=ao.new hl
  have hlw:lw.length≤40:=by rw[ew,List.length_map]at hw;exact hw
  have nla:l≠a:=fun e=>by rw[e,hd]at hl;cases hl
  have keep:∀ (U:Hp) (o:HO),ao H U→ao H (upd U l o):=fun U o s b u e=>by
   rw[ak (aF e hl)]
   exact s _ _ e
  refine eF (j:=0) (kvs:=lw.map fun p=>(iK p.2.1,V.ref p.1)) rfl (s0 _ _ hd) (fun i σ U=>ao H U∧nJ fW wK U l ((ws.take i).map mw)∧∃ x y,σ=[some (V.ref a),some (V.ref l),x,y]) ⟨s0,.nil ab,_,_,rfl⟩ (fun i σ U p=>p.1 _ _ hd) ?_ ?_
  ·rintro i key v σ U od T' hi ⟨s1,hR,x,y,rfl⟩ hT nTa
   rw[List.getElem?_map]at hi
   cases hp:lw[i]? with
   |none=>rw[hp]at hi;cases hi
   |some p=>
    rw[hp]at hi
    obtain⟨e1,e2⟩:=Prod.mk.inj (Option.some.inj hi)
    subst e1 e2
    have mp:=List.mem_of_getElem? hp
    have nk:fW (mw p.2)∉((ws.take i).map mw).map fW:=by
     rw[List.map_map]
     exact zy (p:=p.2) nd (show ws[i]? = some p.2 by rw[ew,List.getElem?_map,hp];rfl)
    obtain⟨lm,hU,hll,put⟩:=hR.put nk
    rw[List.length_map,List.length_take]at hll
    have hv:ws[i]? = some p.2:=by rw[ew,List.getElem?_map,hp];rfl
    have sT:ao U (upd U T' (.tup [.int p.2.1,.ref p.1])):=ao.new hT
    have hpa:p.1≠a:=bJ (ht p mp) hd (by intro z;cases z)
    have nlT:l≠T':=aF hU hT
    refine⟨T',_,rfl,SqT.of (by rw[ak nTa];exact ab),rfl,_,_,rfl,_,_,rfl,rfl,?_⟩
    simp![dP]
    have hq1:(upd (upd U T' (.tup [.int p.2.1,.ref p.1])) a (.frz od (.dK (lw.map fun p=>(iK p.2.1,V.ref p.1))))) p.1=some (.tup [.int p.2.2.1,.int p.2.2.2]):=by rw[ak hpa];exact sT _ _ (s1 _ _ (ht p mp))
    refine ixt (SqT.of hq1) (ax (j:=1) rfl) ⟨_,rfl,ixt (SqT.of hq1) (ax (j:=0) rfl) ⟨_,rfl,by decide,fun q hq=>?_⟩⟩
    obtain⟨nqa,hq2⟩:=cT hq
    obtain⟨nqT,hq3⟩:=cT hq2
    have nql:q≠l:=fun z=>by rw[z,hU]at hq3;cases hq3
    refine⟨_,gx.k (k:=iK p.2.1) (by rw[ak (Ne.symm nql),ak nla];exact sT _ _ hU) (by omega),upd (upd (upd U T' (.tup [.int p.2.1,.ref p.1])) q (.tup [.int (-p.2.2.2),.int (-p.2.2.1)])) l (.dK (putK (ay fW lm) (iK (fW (mw p.2))) (.ref q))),?_,?_,?_⟩
    ·rw[cN nqa,cN nla]
     rfl
    ·exact keep _ _ ((s1.trans sT).trans (ao.new hq2))
    ·rw[←List.map_take,take_snoc hv,List.map_append]
     exact put _ q nql ab fun b o _ e=>(ao.new hq2) _ _ (sT _ _ e)
  ·rintro σ U ⟨s1,hR,x,y,rfl⟩
   rw[List.length_map,show lw.length=ws.length by rw[ew,List.length_map],List.take_length]at hR
   obtain⟨lm,hU,hlm,htm⟩:=hR
   simp![tC]
   exact k U l s1 hl ⟨lm,hlm.symm,hU,htm⟩
theorem l7 (T:Txt K mg):OkD P w K mg base 1 "mirrored_piece" ["kind","u","v","amount"] fY:=by
 obtain⟨f,fd,hm,F,b⟩:=T.ny
 refine⟨f,fd,hm,F.kp,b,F.ok lN (fun vs H Q E h=>?_) (fun cdv A outer s H vs Q E hr h=>?_)⟩
 ·obtain⟨e,rfl,_⟩:=h
  rfl
 ·obtain⟨e,rfl,k⟩:=h
  refine⟨_,(ae (aK (aA aT (pv 0) (aQ rfl T.dm) (aD _)) (ag (aq (cK (aa (aQ rfl T.eX) (aa (pv 1) (aa (pv 2) (aa (gJ eh (pv 3)) ah))))))) az)
   (ae (aK (aA aT (pv 0) (aQ rfl T.eX) (aD _)) (ag (aq (cK (aa (aQ rfl T.dm) (aa (pv 1) (aa (pv 2) (aa (gJ eh (pv 3)) ah))))))) az)
   (ag (aq (cK (aa (pv 0) (aa (pv 2) (aa (pv 1) (aa (pv 3) ah))))))))),?_⟩
  simp![eK]
  by_cases c0:e.kind=0
  ·rw[if_pos c0]
   exact⟨by decide,fun p hp=>k _ p (ao.new hp) hp (by rw[ab,me0 c0];rfl)⟩
  ·rw[if_neg c0]
   by_cases c1:e.kind=1
   ·rw[if_pos c1]
    exact⟨by decide,fun p hp=>k _ p (ao.new hp) hp (by rw[ab,me1 c1];rfl)⟩
   ·rw[if_neg c1]
    refine⟨by decide,fun p hp=>k _ p (ao.new hp) hp ?_⟩
    rw[ab]
    unfold me eK
    rw[if_neg c0,if_neg c1]
theorem ju (T:Txt K mg) (G0:OkD P w K mg base 1 "mirrored_piece" ["kind","u","v","amount"] fY):OkD P w K mg base 2 "mirrored_evidence" ["evidence"] eP:=by
 obtain⟨f,fd,hm,F,b⟩:=T.j8
 refine⟨f,fd,hm,F.kp,b,F.ok bZ (fun vs H Q E h=>?_) (fun cdv A outer s H vs Q E hr h=>?_)⟩
 ·obtain⟨a,ws,rfl,_⟩:=h
  rfl
 ·obtain⟨b,es,rfl,hE,nd,hw,k⟩:=h
  have hu:=bR hr
  refine⟨_,(ae (aI (i:=1) bZ.nd rfl (Or.inl rfl) dS)
   (ae (dR (bE PassesOwn.never rfl (gI (pv 0)) (cj (K:=K) (n:=2) rfl rfl (aM (aJ (i:=2) bZ.nd rfl (Or.inl rfl)) (aM (aJ (i:=3) bZ.nd rfl (Or.inl rfl)) cg))) (ag (b9 hu (pv 1) (pv 2) (aB G0 hr rfl (aa (aH (aL (K:=K) rfl) (pv 3) aj (fun _ _=>rfl)) (aa (aH (aL (K:=K) rfl) (pv 3) aj (fun _ _=>rfl)) (aa (aH (aL (K:=K) rfl) (pv 3) aj (fun _ _=>rfl)) (aa (aH (aL (K:=K) rfl) (pv 3) aj (fun _ _=>rfl)) ah))))) rfl))))
   (ag (aq (pv 1))))),?_⟩
  simp![g6]
  have h16:sizeLine=16777216:=sizeLine_eq
  intro l hl
  obtain⟨lw,ew,hd,ht⟩:=hE
  have s0:ao H (upd H l (.dK [])):=ao.new hl
  have hlw:lw.length≤100:=by rw[ew,List.length_map]at hw;exact hw
  have nla:l≠b:=fun e=>by rw[e,hd]at hl;cases hl
  have keep:∀ (U:Hp) (o:HO),ao H U→ao H (upd U l o):=fun U o s b u e=>by
   rw[ak (aF e hl)]
   exact s _ _ e
  refine eF (j:=0) (kvs:=lw.map fun p=>(iK p.2.1,V.ref p.1)) rfl (s0 _ _ hd) (fun i σ U=>ao H U∧nJ fE pK U l ((es.take i).map meE)∧∃ x y,σ=[some (V.ref b),some (V.ref l),x,y]) ⟨s0,.nil ab,_,_,rfl⟩ (fun i σ U p=>p.1 _ _ hd) ?_ ?_
  ·rintro i key v σ U od T' hi ⟨s1,hR,x,y,rfl⟩ hT nTa
   rw[List.getElem?_map]at hi
   cases hp:lw[i]? with
   |none=>rw[hp]at hi;cases hi
   |some p=>
    rw[hp]at hi
    obtain⟨e1,e2⟩:=Prod.mk.inj (Option.some.inj hi)
    subst e1 e2
    have mp:=List.mem_of_getElem? hp
    have nk:fE (meE p.2)∉((es.take i).map meE).map fE:=by
     rw[List.map_map]
     exact qA (p:=p.2) nd (show es[i]? = some p.2 by rw[ew,List.getElem?_map,hp];rfl)
    obtain⟨lm,hU,hll,put⟩:=hR.put nk
    rw[List.length_map,List.length_take]at hll
    have hv:es[i]? = some p.2:=by rw[ew,List.getElem?_map,hp];rfl
    have sT:ao U (upd U T' (.tup [.int p.2.1,.ref p.1])):=ao.new hT
    have hpa:p.1≠b:=bJ (ht p mp) hd (by intro z;cases z)
    have nlT:l≠T':=aF hU hT
    refine⟨T',_,rfl,SqT.of (by rw[ak nTa];exact ab),rfl,_,_,rfl,_,_,rfl,rfl,?_⟩
    simp![dP]
    have hq1:(upd (upd U T' (.tup [.int p.2.1,.ref p.1])) b (.frz od (.dK (lw.map fun p=>(iK p.2.1,V.ref p.1))))) p.1=some (.tup [.int p.2.2.kind,.int p.2.2.u,.int p.2.2.v,.int p.2.2.g]):=by rw[ak hpa];exact sT _ _ (s1 _ _ (ht p mp))
    refine ixt (SqT.of hq1) (ax (j:=0) rfl) (ixt (SqT.of hq1) (ax (j:=1) rfl) (ixt (SqT.of hq1) (ax (j:=2) rfl) (ixt (SqT.of hq1) (ax (j:=3) rfl) ⟨p.2.2,rfl,fun H2 q s2 hq hq2=>?_⟩)))
    obtain⟨nqa,hq3⟩:=cT hq
    obtain⟨nqT,hq4⟩:=cT hq3
    have hU2:H2 l=some (.dK (ay fE lm)):=s2 _ _ (by rw[ak nla];exact sT _ _ hU)
    have nql:q≠l:=fun z=>by rw[z,hU]at hq4;cases hq4
    have hb2:H2 b=some (.frz od (.dK (lw.map fun p=>(iK p.2.1,V.ref p.1)))):=s2 _ _ ab
    have hU':H2=upd (upd H2 b (.dK (lw.map fun p=>(iK p.2.1,V.ref p.1)))) b (.frz od (.dK (lw.map fun p=>(iK p.2.1,V.ref p.1)))):=by
     rw[o5]
     funext z
     by_cases c:z=b
     ·rw[c,ab];exact hb2
     ·rw[ak c]
    have sU:ao U (upd H2 b (.dK (lw.map fun p=>(iK p.2.1,V.ref p.1)))):=fun z o e=>by
     by_cases c:z=b
     ·subst c
      rw[s1 _ _ hd]at e
      cases e
      exact ab
     ·rw[ak c]
      exact s2 _ _ (by rw[ak c];exact sT _ _ e)
    refine⟨_,gx.k (k:=iK p.2.1) hU2 (by omega),upd (upd H2 b (.dK (lw.map fun p=>(iK p.2.1,V.ref p.1)))) l (.dK (putK (ay fE lm) (iK (fE (meE p.2))) (.ref q))),?_,?_,?_⟩
    ·conv=>lhs;rw[hU']
     rw[cN nla]
     rfl
    ·exact keep _ _ (s1.trans sU)
    ·rw[←List.map_take,take_snoc hv,List.map_append]
     exact put _ q nql (by rw[ak nqa];exact hq2) fun b o _ e=>sU _ _ e
  ·rintro σ U ⟨s1,hR,x,y,rfl⟩
   rw[List.length_map,show lw.length=es.length by rw[ew,List.length_map],List.take_length]at hR
   obtain⟨lm,hU,hlm,htm⟩:=hR
   simp![tC]
   exact k U l s1 hl ⟨lm,hlm.symm,hU,htm⟩
theorem mV (T:Txt K mg) (Gx:OkD P w K mg base 2 "latest_days" ["works","evidence"] bx) (GZ:OkD P w K mg base 1 "mirrored_works" ["works"] fX) (GP:OkD P w K mg base 2 "mirrored_evidence" ["evidence"] eP):OkD P w K mg base 3 "earliest_days" ["works","evidence"] df:=by
 obtain⟨f,fd,hm,F,b⟩:=T.o2
 refine⟨f,fd,hm,F.kp,b,F.ok cC (fun vs H Q E h=>?_) (fun cdv A outer s H vs Q E hr h=>?_)⟩
 ·obtain⟨a,b,ws,es,s,rfl,_⟩:=h
  rfl
 ·obtain⟨a,b,ws,es,st,rfl,hW,hE,R,k⟩:=h
  have hu:=bR hr
  refine⟨_,(ae (aI (i:=2) cC.nd rfl (Or.inl rfl) (aB Gx hr rfl (aa (aB GZ hr rfl (aa (pv 0) ah)) (aa (aB GP hr rfl (aa (pv 1) ah)) ah))))
   (ae (aI (i:=3) cC.nd rfl (Or.inl rfl) dS)
   (ae (dR (bE PassesOwn.never rfl (gI (pv 2)) (cj (K:=K) (n:=2) rfl rfl (aM (aJ (i:=4) cC.nd rfl (Or.inl rfl)) (aM (aJ (i:=5) cC.nd rfl (Or.inl rfl)) cg))) (ag (b9 hu (pv 3) (pv 4) (gJ eh (pv 5)) rfl))))
   (ag (aq (pv 3)))))),?_⟩
  simp![g6]
  have h16:sizeLine=16777216:=sizeLine_eq
  obtain⟨x,x0,D⟩:=vA R
  obtain⟨t,B⟩:=CK (knd R) (ein R) (kok R) ((jJ R x0).mp D).1
  have w40:ws.length≤40:=by rw[R.lz];exact R.wf.wn
  have Hn:es.length≤100:=by rw[R.oZ];exact R.wf.en
  have em:((es.map meE).map fun e=>e.2)=(e4s es).map me:=by rw[List.map_map,List.map_map];rfl
  refine⟨a,ws,rfl,hW,R.wnd,w40,fun H1 a1 s1 ha1 hW1=>⟨b,es,rfl,hE.same s1,R.end_,Hn,fun H2 b1 s2 hb1 hE1=>⟨a1,b1,ws.map mw,es.map meE,rfl,hW1.same s2,hE1,by have:=knd R;rw[←tK]at this;exact this,by rw[em];have:=Co (ein R) (kok R);rw[←tK]at this;exact this,by rw[List.length_map];exact w40,by rw[List.length_map];exact Hn,fun H3 v s3 hv=>?_⟩⟩⟩
  rw[em,B.at_]at hv
  obtain⟨ld,rfl,Lq,hld⟩:=hv
  intro l hl
  have lt:t.length≤40:=by
   have:=congrArg List.length B.keys
   unfold aN ky at this
   rw[List.length_map,List.length_map]at this
   omega
  have ndt:(aN t).Nodup:=by rw[B.keys];exact knd R
  have s13:=(s1.trans s2).trans s3
  have nll:l≠ld:=fun e=>by rw[e,hld]at hl;cases hl
  have s0:ao H3 (upd H3 l (.dK [])):=ao.new hl
  have keep:∀ (U:Hp) (o:HO),ao H3 U→ao H3 (upd U l o):=fun U o s b u e=>by
   rw[ak (aF e hl)]
   exact s _ _ e
  refine eF (j:=2) (kvs:=aR t) rfl (s0 _ _ hld) (fun i σ U=>ao H3 U∧U l=some (.dK (aR (ba (t.take i))))∧∃ x y,σ=[some (V.ref a),some (V.ref b),some (V.ref ld),some (V.ref l),x,y]) ⟨s0,ab,_,_,rfl⟩ (fun i σ U p=>p.1 _ _ hld) ?_ ?_
  ·rintro i key v σ U od T' hi ⟨s4,hU,x,y,rfl⟩ hT nTa
   have hi:(t.map fun p=>(iK p.1,V.int p.2))[i]? = some (key,v):=hi
   rw[List.getElem?_map]at hi
   cases hp:t[i]? with
   |none=>rw[hp]at hi;cases hi
   |some p=>
    rw[hp]at hi
    obtain⟨e1,e2⟩:=Prod.mk.inj (Option.some.inj hi)
    subst e1 e2
    have sT:ao U (upd U T' (.tup [.int p.1,.int p.2])):=ao.new hT
    refine⟨T',_,rfl,SqT.of (by rw[ak nTa];exact ab),rfl,_,_,rfl,_,_,rfl,rfl,?_⟩
    simp![dP]
    have nk:p.1∉aN (ba (t.take i)):=by
     rw[tT]
     unfold aN
     intro m
     obtain⟨q,hq,eq⟩:=List.mem_map.mp m
     obtain⟨j,hj⟩:=List.getElem?_of_mem hq
     have hji:j < i:=by
      have:=(List.getElem?_eq_some_iff.mp hj).1
      rw[List.length_take]at this
      omega
     rw[List.getElem?_take_of_lt hji]at hj
     have:=wj ndt (i:=j) (j:=i) (x:=p.1) (by unfold aN;rw[List.getElem?_map,hj];exact congrArg some eq) (by unfold aN;rw[List.getElem?_map,hp];rfl)
     omega
    refine⟨_,gx.k (k:=iK p.1) (by rw[ak nll];exact sT _ _ hU) (by rw[eV];unfold ba;rw[List.length_map,List.length_take];omega),upd (upd U T' (.tup [.int p.1,.int p.2])) l (.dK (aR (ba (t.take (i+1))))),?_,?_,ab⟩
    ·rw[cN nll,qo nk,take_snoc hp]
     unfold ba
     rw[List.map_append]
     rfl
    ·exact keep _ _ (s4.trans sT)
  ·rintro σ U ⟨s4,hU,x,y,rfl⟩
   rw[eV,List.take_length]at hU
   simp![tC]
   exact k U l t (s13.trans s4) (s13.free hl) B hU
end
def eQ:Sp:=fun vs H Q _=>∃ (a b:Addr) (ws:List W3) (es:List (Int×E4)) (s:State) (u v:Int),vs=[.ref a,.ref b,.int u,.int v]∧cx H a ws∧Evs H b es∧Rep ws es s∧u∈ky ws∧v∈ky ws∧∀ H' g,ao H H'→greatest s u v=some g→Q (.int g) H'
def ft:Sp:=fun vs H Q _=>∃ (a b:Addr) (ws:List W3) (es:List (Int×E4)) (s:State) (u v:Int),vs=[.ref a,.ref b,.int u,.int v]∧cx H a ws∧Evs H b es∧Rep ws es s∧u∈ky ws∧v∈ky ws∧∀ H' l x y,ao H H'→greatest s v u=some x→greatest s u v=some y→H' l=some (.tup [.int (-x),.int y])→Q (.ref l) H'
def nQ:Sp:=spV (fun x:Int×Int=>[.int x.1,.int x.2]) (fun _=>True) (fun x=>.int (orderOf x))
def lF:Sp:=fun vs H Q _=>∃ (a b:Addr) (ws:List W3) (es:List (Int×E4)) (s:State) (kind u v:Int),vs=[.ref a,.ref b,.int kind,.int u,.int v]∧cx H a ws∧Evs H b es∧Rep ws es s∧0≤kind∧kind≤3∧u∈ky ws∧(2≤kind→v∈ky ws) ∧
 ∀ H' l lo hi,ao H H'→(∀ g,vd s kind u v g=zQ kind g lo hi)→H' l=some (.tup [.int lo,.int hi])→Q (.ref l) H'
def kU:Sp:=fun vs H Q _=>∃ (a b:Addr) (ws:List W3) (es:List (Int×E4)) (s:State) (kind u v g:Int),vs=[.ref a,.ref b,.int kind,.int u,.int v,.int g]∧cx H a ws∧Evs H b es∧Rep ws es s∧0≤kind∧kind≤3∧u∈ky ws∧(2≤kind→v∈ky ws)∧∀ H',ao H H'→Q (.int (vd s kind u v g)) H'
section
variable {P:Program}{w:World}{K:PySem.W.Frag}{mg:Str→Option Value}{base:Heap}
theorem jv (T:Txt K mg) (Gx:OkD P w K mg base 2 "latest_days" ["works","evidence"] bx) (Gz:OkD P w K mg base 3 "earliest_days" ["works","evidence"] df):OkD P w K mg base 4 "greatest_distance" ["works","evidence","u","v"] eQ:=by
 obtain⟨f,fd,hm,F,b⟩:=T.j9
 refine⟨f,fd,hm,F.kp,b,F.ok cX (fun vs H Q E h=>?_) (fun cdv A outer s H vs Q E hr h=>?_)⟩
 ·obtain⟨a,b,ws,es,s,u,v,rfl,_⟩:=h
  rfl
 ·obtain⟨a,b,ws,es,st,u,v,rfl,hW,hE,R,hu',hv',k⟩:=h
  have hu:=bR hr
  refine⟨_,(ae (aI (i:=4) cX.nd rfl (Or.inl rfl) (a9 hu (aB Gz hr rfl (aa (pv 0) (aa (pv 1) ah))) (pv 2) (fun _ _=>rfl)))
   (ae (aI (i:=5) cX.nd rfl (Or.inl rfl) (dj eI (by rfl) T.m5 boot_dict (aa (pv 0) ah)))
   (ae (b9 hu (pv 5) (pv 2) (cK (aa (pv 4) (aa (pv 4) ah))) rfl)
   (ag (aq (aU du (a9 hu (aB Gx hr rfl (aa (pv 5) (aa (pv 1) ah))) (pv 3) (fun _ _=>rfl)) (pv 4))))))),?_⟩
  simp![dJ,dP]
  have h16:sizeLine=16777216:=sizeLine_eq
  have w40:ws.length≤40:=by rw[R.lz];exact R.wf.wn
  have Hn:es.length≤100:=by rw[R.oZ];exact R.wf.en
  refine⟨a,b,ws,es,st,rfl,hW,hE,R,fun H1 l t s1 hl B hl1=>?_⟩
  obtain⟨t2,T2,hg⟩:=Cc R B hu' hv'
  obtain⟨lw,ew,hd,htup⟩:=hW.same s1
  have hd:H1 a=some (.dK (ay fW lw)):=hd
  refine⟨l,rfl,_,a6 hl1 (B.get hu'),_,hd,fun p hp=>⟨by decide,fun q hq=>?_⟩⟩
  have s2:ao H1 (L2.upd H1 p (.dK (ay fW lw))):=ao.new hp
  have s3:=ao.new (o:=HO.tup [.int (tf (ba t) u),.int (tf (ba t) u)]) hq
  have npq:p≠q:=fun z=>by rw[←z,ab]at hq;cases hq
  have JL:lw.length=ws.length:=by rw[ew,List.length_map]
  have len:(ay fW lw).length < sizeLine:=by unfold ay;rw[List.length_map,JL];omega
  have kw:(lw.map fun p=>fW p.2)=ws.map fun w=>w.1:=by rw[ew,List.map_map];rfl
  refine⟨_,gx.k (k:=iK u) (s3 _ _ ab) len,?_⟩
  have kin:u∈lw.map fun p=>fW p.2:=by rw[kw];exact hu'
  have Kh:=ze (f:=fW) (a:=q) (x:=(u,tf (ba t) u,tf (ba t) u)) kin rfl
  have s13:ao H1 (L2.upd (L2.upd (L2.upd H1 p (.dK (ay fW lw))) q (.tup [.int (tf (ba t) u),.int (tf (ba t) u)])) p (.dK (putK (ay fW lw) (iK u) (.ref q)))):=fun b o e=>by
   rw[ak (aF e hp)]
   exact s3 _ _ (s2 _ _ e)
  have hWf:cx (L2.upd (L2.upd (L2.upd H1 p (.dK (ay fW lw))) q (.tup [.int (tf (ba t) u),.int (tf (ba t) u)])) p (.dK (putK (ay fW lw) (iK u) (.ref q)))) p (qO ws u (tf (ba t) u)):=by
   refine⟨lw.map fun z=>if fW z.2=u then (q,u,tf (ba t) u,tf (ba t) u) else z,?_,?_,fun z hz=>?_⟩
   ·unfold qO
    rw[ew,List.map_map,List.map_map]
    apply List.map_congr_left
    intro z _
    show (if z.2.1=u then _ else z.2)=(if z.2.1=u then _ else z).2
    split<;>rfl
   ·rw[ab,Kh]
    rfl
   ·obtain⟨y,hy,ey⟩:=List.mem_map.mp hz
    subst ey
    by_cases cy:fW y.2=u
    ·rw[if_pos cy,ak (Ne.symm npq)]
     exact ab
    ·rw[if_neg cy]
     exact s13 _ _ (htup y hy)
  refine⟨p,b,_,es,rfl,hWf,(hE.same s1).same s13,(by have:=knd R;rw[←jA ws u (tf (ba t) u)]at this;exact this),(by have:=ein R;rw[←jA ws u (tf (ba t) u)]at this;exact this),by unfold qO;rw[List.length_map];exact w40,Hn,fun H4 x s4 hx=>?_⟩
  rw[show bo (qO ws u (tf (ba t) u)) (es.map fun e=>e.2)=some t2 from T2.at_]at hx
  obtain⟨ld,rfl,_,hld⟩:=hx
  refine⟨ld,rfl,_,a6 hld (T2.get (by rw[jA];exact hv')),_,rfl,?_⟩
  exact⟨_,rfl,k H4 _ ((s1.trans s13).trans s4) hg⟩
theorem uE (T:Txt K mg) (GD:OkD P w K mg base 4 "greatest_distance" ["works","evidence","u","v"] eQ):OkD P w K mg base 5 "distances" ["works","evidence","u","v"] ft:=by
 obtain⟨f,fd,hm,F,b⟩:=T.xc
 refine⟨f,fd,hm,F.kp,b,F.ok ur (fun vs H Q E h=>?_) (fun cdv A outer s H vs Q E hr h=>?_)⟩
 ·obtain⟨a,b,ws,es,s,u,v,rfl,_⟩:=h
  rfl
 ·obtain⟨a,b,ws,es,st,u,v,rfl,hW,hE,R,hu',hv',k⟩:=h
  refine⟨_,(ag (aq (cK (aa (gJ eh (aB GD hr rfl (aa (pv 0) (aa (pv 1) (aa (pv 3) (aa (pv 2) ah)))))) (aa (aB GD hr rfl (aa (pv 0) (aa (pv 1) (aa (pv 2) (aa (pv 3) ah))))) ah))))),?_⟩
  simp![tC]
  refine⟨a,b,ws,es,st,v,u,rfl,hW,hE,R,hv',hu',fun H1 x s1 hx=>⟨x,rfl,a,b,ws,es,st,u,v,rfl,hW.same s1,hE.same s1,R,hu',hv',fun H2 y s2 hy=>⟨by decide,fun p hp=>?_⟩⟩⟩
  exact k _ p x y ((s1.trans s2).trans (ao.new hp)) hx hy ab
theorem wa (T:Txt K mg):OkD P w K mg base 1 "order_of" ["least","greatest"] nQ:=by
 obtain⟨f,fd,hm,F,b⟩:=T.yG
 refine⟨f,fd,hm,F.kp,b,F.ok vD (fun vs H Q E h=>?_) (fun cdv A outer s H vs Q E hr h=>?_)⟩
 ·obtain⟨x,rfl,_⟩:=h
  rfl
 ·obtain⟨⟨x,y⟩,rfl,_,k⟩:=h
  have k:=k H (ao.refl H)
  refine⟨_,(ae (aK (PW.pt (ie (aA aT (pv 0) aj (aD _)) (fu (aA aT (pv 1) aj (aD _))))) (ag (aq (aQ rfl T.AE))) az)
   (ae (aK (aA BK (pv 0) aj (aD _)) (ag (aq (aQ rfl T.qH))) az)
   (ae (aK (aA aT (pv 0) aj (aD _)) (ag (aq (aQ rfl T.rS))) az)
   (ae (aK (aA kK (pv 1) aj (aD _)) (ag (aq (aQ rfl T.m9))) az)
   (ag (aq (cF (aA aT (pv 1) aj (aD _)) (aQ rfl T.wH) (aQ rfl T.uR)))))))),?_⟩
  simp![tC]
  have k:Q (V.int (if x=0∧y=0 then 3 else if 0 < x then 1 else if x=0 then 2 else if y < 0 then 5 else if y=0 then 4 else 6)) H:=k
  by_cases c1:x=0
  ·subst c1
   rw[if_pos rfl]
   by_cases c2:y=0
   ·subst c2
    rw[if_pos rfl]
    exact k
   ·rw[if_neg c2,if_neg (by omega),if_pos rfl]
    rw[if_neg (fun z=>c2 z.2),if_neg (by omega),if_pos rfl]at k
    exact k
  ·rw[if_neg c1]
   rw[if_neg (fun z=>c1 z.1)]at k
   by_cases c2:0 < x
   ·rw[if_pos c2]at k ⊢
    exact k
   ·rw[if_neg c2,if_neg c1]at k ⊢
    by_cases c3:y < 0
    ·rw[if_pos c3]at k ⊢
     exact k
    ·rw[if_neg c3]at k ⊢
     by_cases c4:y=0
     ·rw[if_pos c4]at k ⊢
      exact k
     ·rw[if_neg c4]at k ⊢
      exact k
theorem uB (T:Txt K mg) (GU:OkD P w K mg base 5 "distances" ["works","evidence","u","v"] ft) (Gx:OkD P w K mg base 2 "latest_days" ["works","evidence"] bx) (Gz:OkD P w K mg base 3 "earliest_days" ["works","evidence"] df):OkD P w K mg base 6 "spoken_of" ["works","evidence","kind","u","v"] lF:=by
 obtain⟨f,fd,hm,F,b⟩:=T.wZ
 refine⟨f,fd,hm,F.kp,b,F.ok uq (fun vs H Q E h=>?_) (fun cdv A outer s H vs Q E hr h=>?_)⟩
 ·obtain⟨a,b,ws,es,s,kind,u,v,rfl,_⟩:=h
  rfl
 ·obtain⟨a,b,ws,es,st,kind,u,v,rfl,hW,hE,R,k0,k3,hu',hv',k⟩:=h
  have hu:=bR hr
  refine⟨_,(ae (aK (PW.pt (n8 (aA aT (pv 2) (aQ rfl T.fF) (aD _)) (jl (aA aT (pv 2) (aQ rfl T.gQ) (aD _))))) (ag (aq (aB GU hr rfl (aa (pv 0) (aa (pv 1) (aa (pv 3) (aa (pv 4) ah))))))) az)
   (ag (aq (cK (aa (a9 hu (aB Gz hr rfl (aa (pv 0) (aa (pv 1) ah))) (pv 3) (fun _ _=>rfl)) (aa (a9 hu (aB Gx hr rfl (aa (pv 0) (aa (pv 1) ah))) (pv 3) (fun _ _=>rfl)) ah)))))),?_⟩
  simp![dJ]
  have w40:ws.length≤40:=by rw[R.lz];exact R.wf.wn
  have Hn:es.length≤100:=by rw[R.oZ];exact R.wf.en
  have far:kind=2∨kind=3→ft [V.ref a,V.ref b,V.int u,V.int v] H Q E0:=fun hk=>
   have hv2:=hv' (by omega)
   ⟨a,b,ws,es,st,u,v,rfl,hW,hE,R,hu',hv2,fun H1 l x y s1 hx hy hl=>k H1 l (-x) y s1 (fun g=>C0 R.wf hk ((dC R).mpr hu') ((dC R).mpr hv2) hx hy) hl⟩
  by_cases c2:kind=2
  ·rw[if_pos c2]
   exact far (.inl c2)
  ·rw[if_neg c2]
   by_cases c3:kind=3
   ·rw[if_pos c3]
    exact far (.inr c3)
   ·rw[if_neg c3]
    refine⟨a,b,ws,es,st,rfl,hW,hE,R,fun H1 l t s1 hl B hl1=>⟨l,rfl,_,a6 hl1 (B.get hu'),a,b,ws,es,rfl,hW.same s1,hE.same s1,R.wnd,ein R,w40,Hn,fun H2 x s2 hx=>?_⟩⟩
    obtain⟨t2,b2,T2,_⟩:=tops R
    rw[show bo ws (es.map fun e=>e.2)=some t2 from T2.at_]at hx
    obtain⟨ld,rfl,_,hld⟩:=hx
    refine⟨ld,rfl,_,a6 hld (T2.get hu'),by decide,fun p hp=>k _ p _ _ ((s1.trans s2).trans (ao.new hp)) (fun g=>Eh R.wf (by omega) ((dC R).mpr hu') (oF R B hu') (gN R T2 hu')) ab⟩
theorem xV (T:Txt K mg) (Hz:OkD P w K mg base 6 "spoken_of" ["works","evidence","kind","u","v"] lF):OkD P w K mg base 7 "verdict" ["works","evidence","kind","u","v","amount"] kU:=by
 obtain⟨f,fd,hm,F,b⟩:=T.AM
 refine⟨f,fd,hm,F.kp,b,F.ok eA (fun vs H Q E h=>?_) (fun cdv A outer s H vs Q E hr h=>?_)⟩
 ·obtain⟨a,b,ws,es,s,kind,u,v,g,rfl,_⟩:=h
  rfl
 ·obtain⟨a,b,ws,es,st,kind,u,v,g,rfl,hW,hE,R,k0,k3,hu',hv',k⟩:=h
  refine⟨_,(ae (aI (i:=6) eA.nd rfl (Or.inl rfl) (aB Hz hr rfl (aa (pv 0) (aa (pv 1) (aa (pv 2) (aa (pv 3) (aa (pv 4) ah)))))))
   (ae (aK (PW.pt (n8 (aA aT (pv 2) (aQ rfl T.dm) (aD _)) (jl (aA aT (pv 2) (aQ rfl T.fF) (aD _))))) (ae (aI (i:=7) eA.nd rfl (Or.inl rfl) (cz tE (aH (aL (K:=K) rfl) (pv 6) aj (fun _ _=>rfl)) (pv 5) (aD _)))
   (ag (aI (i:=8) eA.nd rfl (Or.inl rfl) (cz tE (aH (aL (K:=K) rfl) (pv 6) aj (fun _ _=>rfl)) (pv 5) (aD _))))) (ae (aI (i:=7) eA.nd rfl (Or.inl rfl) (cz cG (aH (aL (K:=K) rfl) (pv 6) aj (fun _ _=>rfl)) (pv 5) (aD _)))
   (ag (aI (i:=8) eA.nd rfl (Or.inl rfl) (cz cG (aH (aL (K:=K) rfl) (pv 6) aj (fun _ _=>rfl)) (pv 5) (aD _))))))
   (ae (aK (cE (pv 7)) (ag (aq (aQ rfl T.gR))) az)
   (ag (aq (cF (cE (pv 8)) (aQ rfl T.nc) (aQ rfl T.qI))))))),?_⟩
  simp![tC]
  refine⟨a,b,ws,es,st,kind,u,v,rfl,hW,hE,R,k0,k3,hu',hv',fun H1 l lo hi s1 hvd hl=>?_⟩
  have k:=k H1 s1
  rw[hvd g]at k
  unfold zQ at k
  have low:(kind=0∨kind=2)→∃ i,V.int lo=V.int i∧vQ K (V.ref l) (V.int 1) H1 fun x H1=>∃ i_1,x=V.int i_1∧(i < g∧(i_1 < g∧Q (V.int 0) H1∨g≤i_1∧Q (V.int 2) H1)∨g≤i∧Q (V.int 1) H1):=by
   intro hk
   rw[if_pos hk]at k
   refine⟨lo,rfl,ixt (SqT.of hl) (ax (j:=1) rfl) ⟨hi,rfl,?_⟩⟩
   by_cases c1:g≤lo
   ·rw[if_pos c1]at k
    exact .inr ⟨c1,k⟩
   ·rw[if_neg c1]at k
    refine .inl ⟨by omega,?_⟩
    by_cases c2:g≤hi
    ·rw[if_pos c2]at k
     exact .inr ⟨c2,k⟩
    ·rw[if_neg c2]at k
     exact .inl ⟨by omega,k⟩
  dsimp only
  by_cases c0:kind=0
  ·rw[if_pos c0]
   exact ixt (SqT.of hl) (ax (j:=0) rfl) (low (.inl c0))
  ·rw[if_neg c0]
   by_cases c2:kind=2
   ·rw[if_pos c2]
    exact ixt (SqT.of hl) (ax (j:=0) rfl) (low (.inr c2))
   ·rw[if_neg c2]
    rw[if_neg (fun z=>z.elim c0 c2)]at k
    refine ixt (SqT.of hl) (ax (j:=1) rfl) ⟨hi,rfl,ixt (SqT.of hl) (ax (j:=0) rfl) ⟨lo,rfl,?_⟩⟩
    by_cases c1:hi≤g
    ·rw[if_pos c1]at k
     exact .inr ⟨c1,k⟩
    ·rw[if_neg c1]at k
     refine .inl ⟨by omega,?_⟩
     by_cases c3:lo≤g
     ·rw[if_pos c3]at k
      exact .inr ⟨c3,k⟩
     ·rw[if_neg c3]at k
      exact .inl ⟨by omega,k⟩
end
end Dw
namespace Dw
open PySem PySem.Spec PyProof.Rows L2
open Vbnlaa StM WayM RepM UpM ChM SrtM
def lK (l:Lk):List V:=[.int l.2.1,.int l.2.2.1,.int l.2.2.2]
abbrev fL:Lk→Int:=fun l=>l.1
def yQ (H:Hp) (d:Addr) (ws:List W3):Prop:=∃ l:List (Addr×W3),ws=l.map (fun p=>p.2)∧Rd H d (.dK (ay fW l))∧∀ p∈l,H p.1=some (.tup [.int p.2.2.1,.int p.2.2.2])
theorem cx.rd {H:Hp}{d:Addr}{ws:List W3}(h:cx H d ws):yQ H d ws:=by
 obtain⟨l,e,h1,h2⟩:=h
 exact⟨l,e,.inl h1,h2⟩
def But (m:Addr) (H H':Hp):Prop:=∀ c o,c≠m→H c=some o→H' c=some o
theorem But.same {m:Addr}{H U V:Hp}(h:But m H U) (s:ao U V):But m H V:=fun c o n e=>s _ _ (h c o n e)
theorem But.upd {m:Addr}{H U:Hp}{o:HO}(h:But m H U):But m H (L2.upd U m o):=fun c u n e=>by rw[ak n];exact h c u n e
theorem ir {α:Type}{f:α→Int}{tv:α→List V}{K:PySem.W.Frag}{j:Nat}{b m:Addr}{om:HO}{l:List (Addr×α)}{xs:List α}{g:TG}{tb:TS}{D:Ends}{σ:L2.St}{H:Hp}(hj:σ[j]? = some (some (.ref b))) (hd:H b=some (.dK (ay f l))) (ht:∀ p∈l,H p.1=some (.tup (tv p.2)))
  (hu:∀ l':List α,l'.Perm (l.map fun p=>p.2)→(l'.map f).Pairwise (· < ·)→l'=xs) (hm:H m=some om) (hmt:∀ ys,om ≠ .tup ys) (Pv:Nat→L2.St→Hp→Prop) (h0:∀ H1,ao H H1→Pv 0 σ H1)
  (hs:∀ (i:Nat) e pa σ U T H1,xs[i]? = some e→Pv i σ U→U T=some (.tup [.int (f e),.ref pa])→U pa=some (.tup (tv e))→T≠m→pa≠m→But m H1 U →
   g (.ref T) σ U fun σ2 H2=>tb { D with nx:=fun σ' U'=>But m H1 U'∧Pv (i+1) σ' U',ct:=fun σ' U'=>But m H1 U'∧Pv (i+1) σ' U',bk:=D.nx } σ2 H2)
  (he:∀ σ U,Pv xs.length σ U→D.nx σ U):xw (Eb K (tCB pW (sJ (ui (kT j)) uh))) g tb D σ H:=by
 refine⟨_,hj,b,_,rfl,hd,fun v hv=>?_⟩
 have sv:ao H (upd H v (vj v b)):=ao.new hv
 dsimp only[uh]
 refine⟨v,b,l.map fun p=>(f p.2,V.ref p.1),rfl,ab,by rw[List.map_map];exact sv _ _ hd,fun H1 Dl ts s1 hD hD1 pt st htt=>?_⟩
 obtain⟨cs,pc,ec⟩:=jV (f:=fun p:Addr×α=>(f p.2,V.ref p.1)) pt rfl
 have hlen:ts.length=cs.length:=by
  have:=congrArg List.length ec
  rw[List.length_map,List.length_map]at this
  exact this.symm
 have exs:(cs.map fun p=>p.2)=xs:=by
  refine hu _ (pc.map fun p=>p.2) ?_
  have e2:(cs.map fun p=>p.2).map f=ts.map fun t=>t.2.1:=by
   have:=congrArg (List.map fun q:Int×V=>q.1) ec
   rw[List.map_map,List.map_map]at this
   rw[List.map_map]
   exact this
  rw[e2]
  exact st
 have sH:ao H H1:=sv.trans s1
 have hm1:=sH _ _ hm
 have nDm:Dl≠m:=fun z=>by
  rw[z]at hD
  rw[sv _ _ hm]at hD
  cases hD
 have hxl:xs.length=ts.length:=by rw[←exs,List.length_map,hlen]
 refine⟨Dl,rfl,⟨_,SqL.of hD1⟩,jE (xs:=ts.map fun t=>V.ref t.1) (fun i σ U=>But m H1 U∧Pv i σ U) ⟨fun c o _ e=>e,h0 H1 sH⟩ (fun i σ U _ p=>SqL.of (p.1 _ _ nDm hD1)) ?_ ?_⟩
 ·rintro i x σ U hi ⟨kp,pv⟩
  rw[List.getElem?_map]at hi
  cases hti:ts[i]? with
  |none=>rw[hti]at hi;cases hi
  |some t=>
   rw[hti]at hi
   cases hi
   have hil:i < cs.length:=by rw[←hlen];exact(List.getElem?_eq_some_iff.mp hti).1
   have hci:cs[i]? = some cs[i]:=List.getElem?_eq_getElem hil
   have K4:t.2=(f cs[i].2,V.ref cs[i].1):=by
    have e1:(cs.map fun p:Addr×α=>(f p.2,V.ref p.1))[i]? = some (f cs[i].2,V.ref cs[i].1):=by rw[List.getElem?_map,hci];rfl
    rw[ec,List.getElem?_map,hti]at e1
    exact Option.some.inj e1
   have q1:=htt t (List.mem_of_getElem? hti)
   rw[K4]at q1
   have q2:=sH _ _ (ht cs[i] (pc.mem_iff.mp (List.mem_of_getElem? hci)))
   have n1:t.1≠m:=fun z=>by rw[z,hm1]at q1;exact hmt _ (Option.some.inj q1)
   have n2:cs[i].1≠m:=fun z=>by rw[z,hm1]at q2;exact hmt _ (Option.some.inj q2)
   exact hs i cs[i].2 cs[i].1 σ U t.1 H1 (by rw[←exs,List.getElem?_map,hci];rfl) pv (kp _ _ n1 q1) (kp _ _ n2 q2) n1 n2 kp
 ·rintro σ U ⟨_,pv⟩
  rw[List.length_map,←hxl]at pv
  exact he σ U pv
def eC (s:State):List (Int×E4):=s.evs.map e5
def i7:Sp:=fun vs H Q _=>∃ (b:Addr) (ws:List W3) (es:List (Int×E4)) (s:State),vs=[.ref b]∧Evs H b es∧Rep ws es s∧∀ H' l,ao H H'→H l=Option.none→nJ fL lK H' l (bj s)→Q (.ref l) H'
def i6:Sp:=fun vs H Q _=>∃ (a b:Addr) (ws:List W3) (es:List (Int×E4)) (s:State) (k lo hi:Int),vs=[.ref a,.ref b,.int k]∧yQ H a ws∧Evs H b es∧Rep ws es s∧(k,lo,hi)∈ws∧∀ H' l,ao H H'→H l=Option.none→H' l=some (.dK (aR (bq s k hi)))→Q (.ref l) H'
section
variable {P:Program}{w:World}{K:PySem.W.Frag}{mg:Str→Option Value}{base:Heap}
theorem wb (T:Txt K mg):OkD P w K mg base 1 "links_of" ["evidence"] i7:=by
 obtain⟨f,fd,hm,F,b⟩:=T.yH
 refine⟨f,fd,hm,F.kp,b,F.ok gb (fun vs H Q E h=>?_) (fun cdv A outer s H vs Q E hr h=>?_)⟩
 ·obtain⟨b,ws,es,s,rfl,_⟩:=h
  rfl
 ·obtain⟨b,ws,es,st,rfl,hE,R,k⟩:=h
  have hu:=bR hr
  refine⟨_,(ae (aI (i:=1) gb.nd rfl (Or.inl rfl) dS)
   (ae (bE PassesOwn.never rfl (di (aS (fA rfl) (by rfl) T.jx boot_sorted (aa (lX (pv 0)) ah))) (cj (K:=K) (n:=2) rfl rfl (aM (aJ (i:=2) gb.nd rfl (Or.inl rfl)) (aM (aJ (i:=3) gb.nd rfl (Or.inl rfl)) cg))) (ag (aK (aA aT (aH (aL (K:=K) rfl) (pv 3) aj (fun _ _=>rfl)) (aQ rfl T.fF) (aD _)) (ag (b9 hu (pv 1) (pv 2) (cK (aa (aH (aL (K:=K) rfl) (pv 3) aj (fun _ _=>rfl)) (aa (aH (aL (K:=K) rfl) (pv 3) aj (fun _ _=>rfl)) (aa (gJ eh (aH (aL (K:=K) rfl) (pv 3) aj (fun _ _=>rfl))) ah)))) rfl)) (ag (aK (aA aT (aH (aL (K:=K) rfl) (pv 3) aj (fun _ _=>rfl)) (aQ rfl T.gQ) (aD _)) (ag (b9 hu (pv 1) (pv 2) (cK (aa (aH (aL (K:=K) rfl) (pv 3) aj (fun _ _=>rfl)) (aa (aH (aL (K:=K) rfl) (pv 3) aj (fun _ _=>rfl)) (aa (aH (aL (K:=K) rfl) (pv 3) aj (fun _ _=>rfl)) ah)))) rfl)) az)))))
   (ag (aq (pv 1))))),?_⟩
  simp![g6,ui]
  have h16:sizeLine=16777216:=sizeLine_eq
  intro l hl
  have s0:ao H (upd H l (.dK [])):=ao.new hl
  have keep:∀ (U:Hp) (o:HO),ao H U→ao H (upd U l o):=fun U o s b u e=>by
   rw[ak (aF e hl)]
   exact s _ _ e
  obtain⟨le,ee,hd,htup⟩:=hE.same s0
  have Hn:=R.wf.en
  refine ir (f:=fE) (tv:=pK) (m:=l) (xs:=eC st) rfl hd htup (fun l' p1 p2=>yB R (by rw[ee];exact p1) p2) ab (fun ys z=>by cases z) (fun i σ U=>ao H U∧nJ fL lK U l (((eC st).take i).filterMap lk5)∧∃ x y,σ=[some (V.ref b),some (V.ref l),x,y]) (fun H1 s1=>⟨s0.trans s1,.nil (s1 _ _ ab),_,_,rfl⟩) ?_ ?_
  ·rintro i e pa σ U T' H1 hi ⟨sU,hR,x2,x3,rfl⟩ hT hpa nT npa hB
   refine⟨T',_,rfl,SqT.of hT,rfl,_,_,rfl,_,_,rfl,rfl,?_⟩
   simp![dP]
   have hT2:SqT K U pa (pK e):=SqT.of hpa
   refine ixt hT2 (ax (j:=0) rfl) ?_
   have snoc:((eC st).take (i+1)).filterMap lk5=((eC st).take i).filterMap lk5 ++ (lk5 e).toList:=by
    rw[take_snoc hi,List.filterMap_append]
    cases z:lk5 e<;>simp[z]
   have nk:∀ x,lk5 e=some x→fL x∉(((eC st).take i).filterMap lk5).map fL:=by
    intro x hx m
    have:=(nh (g:=fun l:Lk=>l.1) (g':=fun p:Int×E4=>p.1) (fun _ _ h=>pd h) ((eC st).take i)).subset m
    have nd:((eC st).map fun w=>w.1).Nodup:=by
     unfold eC
     rw[List.nodup_iff_pairwise_ne]
     exact(ni R.wf).imp fun h=>by omega
    have h2:=qA nd hi
    exact h2 (by rw[←pd hx];exact this)
   have hln:(((eC st).take i).filterMap lk5).length≤100:=by
    have h1:=List.length_filterMap_le lk5 ((eC st).take i)
    have h2:(eC st).length≤100:=by unfold eC;rw[List.length_map];exact Hn
    rw[List.length_take]at h1
    omega
   have lay:∀ (x:Lk) (U2:Hp) (q:Addr),lk5 e=some x→U2=upd U q (.tup (lK x))→U q=none→∃ H4,gx U2 l (V.int e.1) (V.ref q) H4∧(But l H1 H4∧ao H H4∧nJ fL lK H4 l (((eC st).take (i+1)).filterMap lk5)):=by
    intro x U2 q hx e2 hq
    subst e2
    obtain⟨lm,hU,hll,put⟩:=hR.put (nk x hx)
    have nql:q≠l:=fun z=>by rw[z,hU]at hq;cases hq
    refine⟨_,gx.k (k:=iK e.1) (by rw[ak (Ne.symm nql)];exact hU) (by omega),(hB.same (ao.new hq)).upd,keep _ _ (sU.trans (ao.new hq)),?_⟩
    have:=put (upd U q (.tup (lK x))) q nql ab fun b o _ e=>(ao.new hq) _ _ e
    rw[snoc,hx]
    rw[←pd hx]
    exact this
   refine⟨rfl,?_⟩
   by_cases c2:e.2.kind=2
   ·rw[if_pos (by rw[c2])]
    have hx:lk5 e=some (e.1,e.2.u,e.2.v,-e.2.g):=by unfold lk5;rw[if_pos c2]
    refine ixt hT2 (ax (j:=1) rfl) (ixt hT2 (ax (j:=2) rfl) (ixt hT2 (ax (j:=3) rfl) ⟨_,rfl,by decide,fun q hq=>?_⟩))
    obtain⟨H4,p1,p2⟩:=lay _ _ q hx rfl hq
    exact⟨H4,p1,p2⟩
   ·rw[if_neg (fun z=>c2 (V.int.inj z))]
    refine ixt hT2 (ax (j:=0) rfl) ⟨rfl,?_⟩
    by_cases c3:e.2.kind=3
    ·rw[if_pos (by rw[c3])]
     have hx:lk5 e=some (e.1,e.2.v,e.2.u,e.2.g):=by unfold lk5;rw[if_neg c2,if_pos c3]
     refine ixt hT2 (ax (j:=2) rfl) (ixt hT2 (ax (j:=1) rfl) (ixt hT2 (ax (j:=3) rfl) ⟨by decide,fun q hq=>?_⟩))
     obtain⟨H4,p1,p2⟩:=lay _ _ q hx rfl hq
     exact⟨H4,p1,p2⟩
    ·rw[if_neg (fun z=>c3 (V.int.inj z))]
     have hx:lk5 e=none:=by unfold lk5;rw[if_neg c2,if_neg c3]
     refine⟨hB,sU,?_⟩
     rw[snoc,hx]
     simpa using hR
  ·rintro σ U ⟨sU,hR,x2,x3,rfl⟩
   rw[List.take_length]at hR
   simp![tC]
   exact k U l sU hl hR
theorem v3 (T:Txt K mg):OkD P w K mg base 1 "rests_of" ["works","evidence","work"] i6:=by
 obtain⟨f,fd,hm,F,b⟩:=T.yF
 refine⟨f,fd,hm,F.kp,b,F.ok f9 (fun vs H Q E h=>?_) (fun cdv A outer s H vs Q E hr h=>?_)⟩
 ·obtain⟨a,b,ws,es,s,k,lo,hi,rfl,_⟩:=h
  rfl
 ·obtain⟨a,b,ws,es,st,key,lo,hi,rfl,hW,hE,R,hk,k⟩:=h
  have hu:=bR hr
  refine⟨_,(ae (aI (i:=3) f9.nd rfl (Or.inl rfl) (Dk (Bx (aQ rfl T.rR) (aH (aL (K:=K) rfl) (a9 hu (pv 0) (pv 2) (fun _ _=>rfl)) aj (fun _ _=>rfl)) Dg) rfl rfl (by simp) (by decide)))
   (ae (bE PassesOwn.never rfl (di (aS (fA rfl) (by rfl) T.jx boot_sorted (aa (lX (pv 1)) ah))) (cj (K:=K) (n:=2) rfl rfl (aM (aJ (i:=4) f9.nd rfl (Or.inl rfl)) (aM (aJ (i:=5) f9.nd rfl (Or.inl rfl)) cg))) (ag (aK (PW.pt (ie (aA aT (aH (aL (K:=K) rfl) (pv 5) aj (fun _ _=>rfl)) (aQ rfl T.eX) (aD _)) (fu (aA aT (aH (aL (K:=K) rfl) (pv 5) aj (fun _ _=>rfl)) (pv 2) (aD _))))) (ag (b9 hu (pv 3) (pv 4) (aH (aL (K:=K) rfl) (pv 5) aj (fun _ _=>rfl)) rfl)) az)))
   (ag (aq (pv 3))))),?_⟩
  simp![D6,ug,dJ,ui]
  have h16:sizeLine=16777216:=sizeLine_eq
  intro l hl
  have s0:ao H (upd H l (.dK [])):=ao.new hl
  have keep:∀ (U:Hp) (o:HO),ao H U→ao H (upd U l o):=fun U o s b u e=>by
   rw[ak (aF e hl)]
   exact s _ _ e
  obtain⟨lw,ew,hdw,htw⟩:=hW
  obtain⟨p0,hp0,ep0⟩:∃ p0∈lw,p0.2=(key,lo,hi):=by
   rw[ew]at hk
   obtain⟨p0,h1,h2⟩:=List.mem_map.mp hk
   exact⟨p0,h1,h2⟩
  have ndw:(lw.map fun p=>fW p.2).Nodup:=by
   have:=R.wnd
   rw[ew,List.map_map]at this
   exact this
  have hval:cp (ay fW lw) (iK key)=some (.ref p0.1):=by
   have:=gH ndw hp0
   rw[ep0]at this
   exact this
  have hrd:Rd (upd H l (.dK [])) a (.dK (ay fW lw)):=by
   rcases hdw with z | ⟨o,z⟩
   ·exact .inl (s0 _ _ z)
   ·exact .inr ⟨o,s0 _ _ z⟩
  have ht0:H p0.1=some (.tup [.int lo,.int hi]):=by
   have:=htw p0 hp0
   rw[ep0]at this
   exact this
  refine⟨_,.inl ⟨_,iK key,hrd,rfl,hval.symm⟩,ixt (SqT.of (s0 _ _ ht0)) (ax (j:=1) rfl) ⟨ab,[(iK 0,V.int hi)],rfl,(by show 1≤15;decide),?_⟩⟩
  rw[o5]
  have s1:ao H (upd H l (.dK (aR [(0,hi)]))):=ao.new hl
  show xw _ _ _ _ _ (upd H l (.dK (aR [(0,hi)])))
  obtain⟨le,ee,hd,htup⟩:=hE.same s1
  have Hn:=R.wf.en
  refine ir (f:=fE) (tv:=pK) (m:=l) (xs:=eC st) rfl hd htup (fun l' p1 p2=>yB R (by rw[ee];exact p1) p2) ab (fun ys z=>by cases z) (fun i σ U=>ao H U∧U l=some (.dK (aR ((0,hi) :: ((eC st).take i).filterMap (rs5 key))))∧∃ x y,σ=[some (V.ref a),some (V.ref b),some (V.int key),some (V.ref l),x,y]) (fun H1 s2=>⟨s1.trans s2,s2 _ _ ab,_,_,rfl⟩) ?_ ?_
  ·rintro i e pa σ U T' H1 hi' ⟨sU,hU,x2,x3,rfl⟩ hT hpa nT npa hB
   refine⟨T',_,rfl,SqT.of hT,rfl,_,_,rfl,_,_,rfl,rfl,?_⟩
   simp![dP]
   have hT2:SqT K U pa (pK e):=SqT.of hpa
   refine ixt hT2 (ax (j:=0) rfl) ⟨rfl,?_⟩
   have snoc:((eC st).take (i+1)).filterMap (rs5 key)=((eC st).take i).filterMap (rs5 key) ++ (rs5 key e).toList:=by
    rw[take_snoc hi',List.filterMap_append]
    cases z:rs5 key e<;>simp[z]
   have nxt:rs5 key e=none→U l=some (.dK (aR ((0,hi) :: ((eC st).take (i+1)).filterMap (rs5 key)))):=fun hx=>by
    rw[snoc,hx,hU]
    simp
   by_cases c1:e.2.kind=1
   ·rw[if_pos (by rw[c1])]
    refine ixt hT2 (ax (j:=1) rfl) ⟨rfl,?_⟩
    by_cases c2:e.2.u=key
    ·rw[if_pos (by rw[c2])]
     have hx:rs5 key e=some (e.1,e.2.g):=by unfold rs5;rw[if_pos ⟨c1,c2⟩]
     have nk:e.1∉aN ((0,hi) :: ((eC st).take i).filterMap (rs5 key)):=by
      have nd:((eC st).map fun w=>w.1).Nodup:=by
       unfold eC
       rw[List.nodup_iff_pairwise_ne]
       exact(ni R.wf).imp fun h=>by omega
      intro m
      rcases List.mem_cons.mp m with z | z
      ·have me:e∈eC st:=List.mem_of_getElem? hi'
       obtain⟨e',he',rfl⟩:=List.mem_map.mp me
       have:=(R.wf.ek e' he').1
       have z:e'.key=0:=z
       omega
      ·have:=(nh (g:=fun l:Int×Int=>l.1) (g':=fun p:Int×E4=>p.1) (fun _ _ h=>uv (k:=key) h) ((eC st).take i)).subset z
       exact qA nd hi' this
     have hln:(((eC st).take i).filterMap (rs5 key)).length≤100:=by
      have h1:=List.length_filterMap_le (rs5 key) ((eC st).take i)
      have h2:(eC st).length≤100:=by unfold eC;rw[List.length_map];exact Hn
      rw[List.length_take]at h1
      omega
     refine ixt hT2 (ax (j:=3) rfl) ⟨_,gx.k (k:=iK e.1) hU (by rw[eV,List.length_cons];omega),hB.upd,keep _ _ sU,?_⟩
     rw[ab,qo nk,snoc,hx]
     rfl
    ·rw[if_neg (fun z=>c2 (V.int.inj z))]
     exact⟨hB,sU,nxt (by unfold rs5;rw[if_neg (fun z=>c2 z.2)])⟩
   ·rw[if_neg (fun z=>c1 (V.int.inj z))]
    exact⟨hB,sU,nxt (by unfold rs5;rw[if_neg (fun z=>c1 z.1)])⟩
  ·rintro σ U ⟨sU,hU,x2,x3,rfl⟩
   rw[List.take_length]at hU
   simp![tC]
   exact k U l sU hl hU
end
def ChD (H:Hp) (d:Addr) (n m:Nat) (f:Int→Option (List Int)):Prop:=∃ kvs:List (Key×V),H d=some (.dK kvs)∧kvs.length≤n∧∀ k,(f k=none→cp kvs (iK k)=none)∧∀ xs,f k=some xs→xs.length≤m∧∃ a,cp kvs (iK k)=some (.ref a)∧H a=some (.lst (xs.map V.int))
def lG (K:PySem.W.Frag):Sp:=fun vs H Q _=>∃ (a b c:Addr) (ws:List W3) (es:List (Int×E4)) (s:State) (k:Int) (l:List Int),vs=[.ref a,.ref b,.int k,.ref c]∧cx H a ws∧Evs H b es∧Rep ws es s∧k∈ky ws∧SqL K H c (l.map V.int)∧l.length≤60∧∀ H',ao H H'→Q (match bound s k l with | none=>.non | some n=>.int n) H'
def dG:Sp:=fun vs H Q _=>∃ (a b d:Addr) (ws:List W3) (es:List (Int×E4)) (s:State) (t:aZ),vs=[.ref a,.ref b,.ref d]∧cx H a ws∧Evs H b es∧Rep ws es s∧Top ws (e4s es) t∧H d=some (.dK (aR t))∧a≠b∧a≠d∧∀ H' l,ao H H'→H l=Option.none→ChD H' l 5000 1 (chF s 0)→Q (.ref l) H'
def gC:Sp:=fun vs H Q _=>∃ (b d:Addr) (ws:List W3) (es:List (Int×E4)) (s:State) (t:aZ),vs=[.ref b,.ref d]∧Evs H b es∧Rep ws es s∧Top ws (e4s es) t∧H d=some (.dK (aR t))∧∀ H' l,ao H H'→H l=Option.none→nJ fL lK H' l (j4 s)→Q (.ref l) H'
def d7:Sp:=fun vs H Q _=>∃ (c d:Addr) (n m:Nat) (f:Int→Option (List Int)) (ls:List Lk),vs=[.ref c,.ref d]∧ChD H c n m f∧nJ fL lK H d ls∧ls.length≤100∧c≠d∧n≤100000∧m≤1000∧∀ H' l,ao H H'→H l=Option.none→ChD H' l (n+100) (m+1) (longer f ls)→Q (.ref l) H'
def i8:Sp:=fun vs H Q _=>∃ (a b:Addr) (ws:List W3) (es:List (Int×E4)) (s:State) (k:Int),vs=[.ref a,.ref b,.int k]∧cx H a ws∧Evs H b es∧Rep ws es s∧a≠b∧k∈ky ws∧∀ H' l,ao H H'→H' l=some (.lst ((why s k).map V.int))→(why s k).length≤1000→Q (.ref l) H'
theorem zb {K:PySem.W.Frag}{H H':Hp}{a:Addr}{xs:List V}(e:ao H H') (h:SqT K H a xs):SqT K H' a xs:=by
 rcases h with (h | ⟨o,h⟩) | h
 ·exact .inl (.inl (e _ _ h))
 ·exact .inl (.inr ⟨o,e _ _ h⟩)
 ·exact .inr h
theorem ChD.same {H H':Hp}{d:Addr}{n m:Nat}{f:Int→Option (List Int)}(h:ChD H d n m f) (s:ao H H'):ChD H' d n m f:=by
 obtain⟨kvs,h1,h2,h3⟩:=h
 refine⟨kvs,s _ _ h1,h2,fun k=>⟨(h3 k).1,fun xs e=>?_⟩⟩
 obtain⟨l,a,h4,h5⟩:=(h3 k).2 xs e
 exact⟨l,a,h4,s _ _ h5⟩
theorem ChD.put {H:Hp}{d:Addr}{n m m':Nat}{f:Int→Option (List Int)}{k:Int}{xs:List Int}(h:ChD H d n m f) (hk:f k=none) (hx:xs.length≤m') (hm:m≤m'):∃ kvs:List (Key×V),H d=some (.dK kvs)∧kvs.length≤n ∧
  ∀ (V:Hp) (q:Addr),q≠d→V q=some (.lst (xs.map L2.V.int))→But d H V→ChD (upd V d (.dK (putK kvs (iK k) (.ref q)))) d (n+1) m' (fun j=>if j=k then some xs else f j):=by
 obtain⟨kvs,h1,h2,h3⟩:=h
 refine⟨kvs,h1,h2,fun V q nq hq hB=>⟨_,ab,Nat.le_trans (gg _ _ _) (by omega),fun j=>?_⟩⟩
 dsimp only
 rw[Bc]
 by_cases c:j=k
 ·rw[if_pos (show iK j=iK k by rw[c]),if_pos c]
  refine⟨fun z=>(by cases z),fun ys e=>?_⟩
  cases e
  exact⟨hx,q,rfl,by rw[ak nq];exact hq⟩
 ·rw[if_neg (show ¬ iK j=iK k from fun z=>c (Sum.inl.inj z)),if_neg c]
  refine⟨(h3 j).1,fun ys e=>?_⟩
  obtain⟨l,a,h4,h5⟩:=(h3 j).2 ys e
  have na:a≠d:=fun z=>by rw[z,h1]at h5;cases h5
  exact⟨Nat.le_trans l hm,a,h4,by rw[ak na];exact hB _ _ na h5⟩
theorem ChD.weak {H:Hp}{d:Addr}{n n' m m':Nat}{f g:Int→Option (List Int)}(h:ChD H d n m f) (hn:n≤n') (hm:m≤m') (e:∀ k,g k=f k):ChD H d n' m' g:=by
 obtain⟨kvs,h1,h2,h3⟩:=h
 refine⟨kvs,h1,by omega,fun k=>?_⟩
 rw[e k]
 refine⟨(h3 k).1,fun xs q=>?_⟩
 obtain⟨l,r⟩:=(h3 k).2 xs q
 exact⟨by omega,r⟩
theorem CP {ws:List W3}{es:List (Int×E4)}{s:State}{t:aZ}(R:Rep ws es s) (T:Top ws (e4s es) t) {k:Int}(hk:k∈ky ws):a4 t k=some (Lt s k):=by
 have h1:=gN R T hk
 rw[Ee R.wf ((dC R).mpr hk)]at h1
 rw[T.get hk]
 exact h1.symm
theorem zt {ws:List W3}{es:List (Int×E4)}{s:State}(R:Rep ws es s) {l:Lk}(hl:l∈bj s):l.2.1∈ky ws∧l.2.2.1∈ky ws:=by
 obtain⟨p,hp,el⟩:=List.mem_filterMap.mp hl
 obtain⟨e,he,rfl⟩:=List.mem_map.mp hp
 have q:=R.wf.ev e he
 unfold lk5 at el
 split at el
 ·rename_i c
  have c:e.kind=2:=c
  rw[←Option.some.inj el]
  exact⟨(dC R).mp q.a,(dC R).mp (q.hi (by omega)).1⟩
 ·split at el
  ·rename_i c
   have c:e.kind=3:=c
   rw[←Option.some.inj el]
   exact⟨(dC R).mp (q.hi (by omega)).1,(dC R).mp q.a⟩
  ·cases el
section
variable {P:Program}{w:World}{K:PySem.W.Frag}{mg:Str→Option Value}{base:Heap}
theorem mY (T:Txt K mg) (G1:OkD P w K mg base 1 "links_of" ["evidence"] i7):OkD P w K mg base 2 "binding_links" ["evidence","latest"] gC:=by
 obtain⟨f,fd,hm,F,b⟩:=T.o4
 refine⟨f,fd,hm,F.kp,b,F.ok dh (fun vs H Q E h=>?_) (fun cdv A outer s H vs Q E hr h=>?_)⟩
 ·obtain⟨b,d,ws,es,s,t,rfl,_⟩:=h
  rfl
 ·obtain⟨b,d,ws,es,st,t,rfl,hE,R,Tp,hd,k⟩:=h
  have hu:=bR hr
  refine⟨_,(ae (aI (i:=2) dh.nd rfl (Or.inl rfl) dS)
   (ae (bE PassesOwn.never rfl (tm (aB G1 hr rfl (aa (pv 0) ah))) (cj (K:=K) (n:=2) rfl rfl (aM (aJ (i:=3) dh.nd rfl (Or.inl rfl)) (aM (aJ (i:=4) dh.nd rfl (Or.inl rfl)) cg))) (ag (aK (aA aT (a9 hu (pv 1) (aH (aL (K:=K) rfl) (pv 4) aj (fun _ _=>rfl)) (fun _ _=>rfl)) (aU bh (a9 hu (pv 1) (aH (aL (K:=K) rfl) (pv 4) aj (fun _ _=>rfl)) (fun _ _=>rfl)) (aH (aL (K:=K) rfl) (pv 4) aj (fun _ _=>rfl))) (aD _)) (ag (b9 hu (pv 2) (pv 3) (pv 4) rfl)) az)))
   (ag (aq (pv 2))))),?_⟩
  simp![g6]
  have h16:sizeLine=16777216:=sizeLine_eq
  intro l hl
  have s0:ao H (upd H l (.dK [])):=ao.new hl
  have keep:∀ (U:Hp) (o:HO),ao H U→ao H (upd U l o):=fun U o s b u e=>by
   rw[ak (aF e hl)]
   exact s _ _ e
  refine⟨_,rfl,?_⟩
  dsimp only[uh]
  refine⟨b,ws,es,st,rfl,hE.same s0,R,fun H1 r s1 hr1 hR1=>?_⟩
  obtain⟨lm,hrd,elm,htm⟩:=hR1
  refine⟨r,_,rfl,hrd,fun o=>?_⟩
  have hl1:H1 l=some (.dK []):=s1 _ _ ab
  have nlr:l≠r:=fun z=>by rw[←z,ab]at hr1;cases hr1
  have hrH:H r=none:=s0.free hr1
  have sF:ao H (upd H1 r (.frz o (.dK (ay fL lm)))):=fun b u e=>by
   rw[ak (aF e hrH)]
   exact s1 _ _ (s0 _ _ e)
  refine FG (D:={ nx:=Bk (kT 2) { nx:=fun _ H'=>Q V.non H',rt:=Q },rt:=Q }) ab (fun i σ U=>But l (upd H1 r (.frz o (.dK (ay fL lm)))) U∧ao H U∧nJ fL lK U l (((bj st).take i).filter fun l=>decide (Lt st l.2.1=Lt st l.2.2.1+l.2.2.2))∧∃ x y,σ=[some (V.ref b),some (V.ref d),some (V.ref l),x,y]) ⟨fun c o _ e=>e,sF,.nil (by rw[ak nlr];exact hl1),_,_,rfl⟩ (fun i σ U p=>p.1 _ _ (Ne.symm nlr) ab) ?_ ?_
  ·rintro i key v σ U T' hi ⟨hB,sU,hR,x,y,rfl⟩ hT
   have hi:(lm.map fun p=>(iK (fL p.2),V.ref p.1))[i]? = some (key,v):=hi
   rw[List.getElem?_map]at hi
   cases hp:lm[i]? with
   |none=>rw[hp]at hi;cases hi
   |some p=>
    rw[hp]at hi
    obtain⟨e1,e2⟩:=Prod.mk.inj (Option.some.inj hi)
    subst e1 e2
    have mp:=List.mem_of_getElem? hp
    have hv:(bj st)[i]? = some p.2:=by rw[←elm,List.getElem?_map,hp];rfl
    have hml:=List.mem_of_getElem? hv
    obtain⟨in1,in2⟩:=zt R hml
    have sT:ao U (upd U T' (.tup [.int (fL p.2),.ref p.1])):=ao.new hT
    have gp:=htm p mp
    have npr:p.1≠r:=fun z=>by rw[z,hrd]at gp;cases gp
    have npl:p.1≠l:=fun z=>by rw[z,hl1]at gp;cases gp
    have gU:U p.1=some (.tup (lK p.2)):=hB _ _ npl (by rw[ak npr];exact gp)
    have hT2:SqT K (upd U T' (.tup [.int (fL p.2),.ref p.1])) p.1 (lK p.2):=SqT.of (sT _ _ gU)
    have hdU:(upd U T' (.tup [.int (fL p.2),.ref p.1])) d=some (.dK (aR t)):=sT _ _ (sU _ _ hd)
    refine⟨T',_,rfl,SqT.of ab,rfl,_,_,rfl,_,_,rfl,rfl,?_⟩
    simp![dP,dJ]
    refine ixt hT2 (ax (j:=0) rfl) ⟨_,a6 hdU (CP R Tp in1),ixt hT2 (ax (j:=1) rfl) ⟨_,a6 hdU (CP R Tp in2),ixt hT2 (ax (j:=2) rfl) ⟨_,rfl,_,rfl,?_⟩⟩⟩
    have snoc:((bj st).take (i+1)).filter (fun l=>decide (Lt st l.2.1=Lt st l.2.2.1+l.2.2.2))=((bj st).take i).filter (fun l=>decide (Lt st l.2.1=Lt st l.2.2.1+l.2.2.2)) ++ (if Lt st p.2.2.1=Lt st p.2.2.2.1+p.2.2.2.2 then [p.2] else []):=by
     rw[take_snoc hv,List.filter_append]
     congr 1
     rw[List.filter_cons]
     by_cases c:Lt st p.2.2.1=Lt st p.2.2.2.1+p.2.2.2.2
     ·rw[if_pos (decide_eq_true c),if_pos c];rfl
     ·rw[if_neg (by simpa using c),if_neg c];rfl
    refine⟨rfl,?_⟩
    by_cases c:Lt st p.2.2.1=Lt st p.2.2.2.1+p.2.2.2.2
    ·rw[if_pos (by rw[c])]
     have nk:fL p.2∉(((bj st).take i).filter fun l=>decide (Lt st l.2.1=Lt st l.2.2.1+l.2.2.2)).map fL:=by
      intro m
      obtain⟨q,hq,eq⟩:=List.mem_map.mp m
      obtain⟨j,hj⟩:=List.getElem?_of_mem (List.mem_filter.mp hq).1
      have hji:j < i:=by
       have:=(List.getElem?_eq_some_iff.mp hj).1
       rw[List.length_take]at this
       omega
      rw[List.getElem?_take_of_lt hji]at hj
      have:=wj (mj R.wf) (i:=j) (j:=i) (x:=fL p.2) (by rw[List.getElem?_map,hj];exact congrArg some eq) (by rw[List.getElem?_map,hv];rfl)
      omega
     obtain⟨lm2,hU2,Lp,put⟩:=hR.put nk
     have hlen:(((bj st).take i).filter fun l=>decide (Lt st l.2.1=Lt st l.2.2.1+l.2.2.2)).length≤100:=by
      have h1:=List.length_filter_le (fun l:Lk=>decide (Lt st l.2.1=Lt st l.2.2.1+l.2.2.2)) ((bj st).take i)
      have h2:=tG R.wf
      rw[List.length_take]at h1
      omega
     refine⟨_,gx.k (k:=iK (fL p.2)) (sT _ _ hU2) (by omega),(hB.same sT).upd,keep _ _ (sU.trans sT),?_⟩
     rw[snoc,if_pos c]
     exact put _ p.1 npl (sT _ _ gU) fun b o _ e=>sT _ _ e
    ·rw[if_neg (fun z=>c (V.int.inj z))]
     refine⟨hB.same sT,sU.trans sT,?_⟩
     rw[snoc,if_neg c,List.append_nil]
     obtain⟨lm2,h1,h2,h3⟩:=hR
     exact⟨lm2,sT _ _ h1,h2,fun q hq=>sT _ _ (h3 q hq)⟩
  ·rintro σ U ⟨hB,sU,hR,x,y,rfl⟩
   have hll:(ay fL lm).length=(bj st).length:=by unfold ay;rw[List.length_map,←elm,List.length_map]
   rw[hll,List.take_length]at hR
   simp![tC]
   exact k U l sU hl hR
theorem iR (T:Txt K mg):OkD P w K mg base 1 "with_one_link_more" ["chains","links"] d7:=by
 obtain⟨f,fd,hm,F,b⟩:=T.jK
 refine⟨f,fd,hm,F.kp,b,F.ok bQ (fun vs H Q E h=>?_) (fun cdv A outer s H vs Q E hr h=>?_)⟩
 ·obtain⟨c,d,n,m,f,ls,rfl,_⟩:=h
  rfl
 ·obtain⟨c,d,n,m,f',ls,rfl,hC,hL,hls,ncd,hn,hm',k⟩:=h
  have hu:=bR hr
  refine⟨_,(ae (aI (i:=2) bQ.nd rfl (Or.inl rfl) (dj eI (by rfl) T.m5 boot_dict (aa (pv 0) ah)))
   (ae (dR (bE PassesOwn.never rfl (gI (pv 1)) (cj (K:=K) (n:=2) rfl rfl (aM (aJ (i:=3) bQ.nd rfl (Or.inl rfl)) (aM (aJ (i:=4) bQ.nd rfl (Or.inl rfl)) cg))) (ag (aK (PW.pt (ie (cR (xQ hu (aH (aL (K:=K) rfl) (pv 4) aj (fun _ _=>rfl)) (pv 0)) rfl) (fu (cR (bu hu (aH (aL (K:=K) rfl) (pv 4) aj (fun _ _=>rfl)) (pv 2)) rfl)))) (ag (b9 hu (pv 2) (aH (aL (K:=K) rfl) (pv 4) aj (fun _ _=>rfl)) (aU jt (aX (aa (pv 3) ah)) (a9 hu (pv 0) (aH (aL (K:=K) rfl) (pv 4) aj (fun _ _=>rfl)) (fun _ _=>rfl))) rfl)) az))))
   (ag (aq (pv 2))))),?_⟩
  simp![tC]
  have h16:sizeLine=16777216:=sizeLine_eq
  obtain⟨kvs,hc,hkn,hck⟩:=id hC
  refine⟨kvs,hc,fun l hl=>?_⟩
  have s0:ao H (upd H l (.dK kvs)):=ao.new hl
  have keep:∀ (U:Hp) (o:HO),ao H U→ao H (upd U l o):=fun U o s b u e=>by
   rw[ak (aF e hl)]
   exact s _ _ e
  obtain⟨lm,hd,elm,htm⟩:=hL
  have nld:l≠d:=fun z=>by rw[z,hd]at hl;cases hl
  have ncl:c≠l:=fun z=>by rw[←z,hc]at hl;cases hl
  have hC0:ChD (upd H l (.dK kvs)) l n m f':=⟨kvs,ab,hkn,fun j=>⟨(hck j).1,fun xs e=>by
   obtain⟨z,a,h4,h5⟩:=(hck j).2 xs e
   exact⟨z,a,h4,s0 _ _ h5⟩⟩⟩
  refine eF (j:=1) (kvs:=ay fL lm) rfl (s0 _ _ hd) (fun i σ U=>ao H U∧ChD U l (n+i) (m+1) (longer f' (ls.take i))∧∃ x y,σ=[some (V.ref c),some (V.ref d),some (V.ref l),x,y]) ⟨s0,hC0.weak (by omega) (by omega) (fun j=>by unfold longer;cases f' j<;>rfl),_,_,rfl⟩ (fun i σ U p=>p.1 _ _ hd) ?_ ?_
  ·rintro i key v σ U od T' hi ⟨s1,hU,x,y,rfl⟩ hT nTa
   have hi:(lm.map fun p=>(iK (fL p.2),V.ref p.1))[i]? = some (key,v):=hi
   rw[List.getElem?_map]at hi
   cases hp:lm[i]? with
   |none=>rw[hp]at hi;cases hi
   |some p=>
    rw[hp]at hi
    obtain⟨e1,e2⟩:=Prod.mk.inj (Option.some.inj hi)
    subst e1 e2
    have mp:=List.mem_of_getElem? hp
    have hv:ls[i]? = some p.2:=by rw[←elm,List.getElem?_map,hp];rfl
    have hil:i < ls.length:=(List.getElem?_eq_some_iff.mp hv).1
    have sT:ao U (upd U T' (.tup [.int (fL p.2),.ref p.1])):=ao.new hT
    have hpd:p.1≠d:=bJ (htm p mp) hd (by intro z;cases z)
    refine⟨T',_,rfl,SqT.of (by rw[ak nTa];exact ab),rfl,_,_,rfl,_,_,rfl,rfl,?_⟩
    simp![dP,uk,bP,dJ]
    have hT2:SqT K (upd (upd U T' (.tup [.int (fL p.2),.ref p.1])) d (.frz od (.dK (ay fL lm)))) p.1 (lK p.2):=SqT.of (by rw[ak hpd];exact sT _ _ (s1 _ _ (htm p mp)))
    have hcU:∀ W:Hp,W=upd (upd U T' (.tup [.int (fL p.2),.ref p.1])) d (.frz od (.dK (ay fL lm)))→W c=some (.dK kvs):=fun W e=>by rw[e,ak ncd];exact sT _ _ (s1 _ _ hc)
    have g7:longer f' (ls.take (i+1))=longer f' (ls.take i)→∃ U',upd (upd U T' (.tup [.int (fL p.2),.ref p.1])) d (.frz od (.dK (ay fL lm)))=upd U' d (.frz od (.dK (ay fL lm)))∧ao H U'∧ChD U' l (n+(i+1)) (m+1) (longer f' (ls.take (i+1))):=fun e=>
     ⟨upd U T' (.tup [.int (fL p.2),.ref p.1]),rfl,s1.trans sT,by rw[e];exact(hU.same sT).weak (by omega) (Nat.le_refl _) fun _=>rfl⟩
    have step:∀ j,longer f' (ls.take (i+1)) j=if j=p.2.2.1∧longer f' (ls.take i) j=none∧(f' p.2.2.2.1).isSome=true then (f' p.2.2.2.1).map fun c=>p.2.1 :: c else longer f' (ls.take i) j:=fun j=>by rw[take_snoc hv,wq]
    refine ixt hT2 (ax (j:=1) rfl) ⟨_,fT.k (k:=iK p.2.2.2.1) (hcU _ rfl),?_⟩
    cases hf:f' p.2.2.2.1 with
    |none=>
     rw[(hck _).1 hf,if_neg (by simp)]
     refine g7 (funext fun j=>?_)
     rw[step,if_neg (fun z=>by rw[hf]at z;cases z.2.2)]
    |some xs=>
     obtain⟨hxl,av,hav,hal⟩:=(hck _).2 xs hf
     rw[hav,if_pos (show (some (V.ref av)).isSome=true from rfl)]
     obtain⟨kv2,hl2,Lr,KD⟩:=id hU
     have hlU:(upd (upd U T' (.tup [.int (fL p.2),.ref p.1])) d (.frz od (.dK (ay fL lm)))) l=some (.dK kv2):=by rw[ak nld];exact sT _ _ hl2
     refine ixt hT2 (ax (j:=0) rfl) ⟨_,fT.k (k:=iK p.2.2.1) hlU,?_⟩
     cases hg:longer f' (ls.take i) p.2.2.1 with
     |some ys=>
      obtain⟨_,aw,haw,_⟩:=(KD _).2 ys hg
      rw[haw,if_neg (by simp)]
      refine g7 (funext fun j=>?_)
      rw[step]
      by_cases c:j=p.2.2.1
      ·rw[if_neg (fun z=>by rw[c,hg]at z;cases z.2.1)]
      ·rw[if_neg (fun z=>c z.1)]
     |none=>
      rw[(KD _).1 hg,if_pos (show (none:Option V)=none from rfl)]
      refine⟨by decide,fun q hq=>?_⟩
      obtain⟨nqd,hq2⟩:=cT hq
      obtain⟨nqT,hq3⟩:=cT hq2
      have sq:=ao.new (o:=HO.lst [.int (fL p.2)]) hq
      have K9:(upd (upd U T' (.tup [.int (fL p.2),.ref p.1])) d (.frz od (.dK (ay fL lm)))) av=some (.lst (xs.map V.int)):=by
       have h1:=s1 _ _ hal
       rw[ak (fun z=>by rw[z,s1 _ _ hd]at h1;cases h1)]
       exact sT _ _ h1
      refine ixt (zb sq hT2) (ax (j:=1) rfl) ⟨V.ref av,?_,?_⟩
      ·have:=fT.k (k:=iK p.2.2.2.1) (sq _ _ (hcU _ rfl))
       rw[hav]at this
       exact this
      refine⟨q,av,_,_,rfl,rfl,ab,sq _ _ K9,by rw[List.length_map];show 1+xs.length≤_;omega,fun q2 hqq=>?_⟩
      obtain⟨KQ,K1⟩:=cT hqq
      obtain⟨KS,Kv⟩:=cT K1
      obtain⟨Lj,Ku⟩:=cT Kv
      have sq2:=ao.new (o:=HO.lst ([V.int (fL p.2)] ++ xs.map V.int)) hqq
      obtain⟨kv3,hl3,K8,put⟩:=hU.put (k:=p.2.2.1) (xs:=p.2.1 :: xs) (m':=m+1) hg (by simp;omega) (Nat.le_refl _)
      rw[hl2]at hl3
      cases hl3
      have KR:q2≠l:=fun z=>by rw[z,hl2]at Ku;cases Ku
      have nql:q≠l:=fun z=>by rw[z,hl2]at hq3;cases hq3
      have s4:ao U (upd (upd (upd U T' (.tup [.int (fL p.2),.ref p.1])) q (.lst [.int (fL p.2)])) q2 (.lst ((p.2.1 :: xs).map V.int))):=(sT.trans (ao.new hq2)).trans (ao.new (by rw[ak KQ];exact Kv))
      refine ixt (zb sq2 (zb sq hT2)) (ax (j:=0) rfl) ⟨_,gx.k (k:=iK p.2.2.1) (sq2 _ _ (sq _ _ hlU)) (by omega),upd (upd (upd (upd U T' (.tup [.int (fL p.2),.ref p.1])) q (.lst [.int (fL p.2)])) q2 (.lst ((p.2.1 :: xs).map V.int))) l (.dK (putK kv2 (iK p.2.2.1) (.ref q2))),?_,keep _ _ (s1.trans s4),?_⟩
      ·rw[cN nqd,cN KS,cN nld]
       rfl
      ·refine(put _ q2 KR ab fun c o _ e=>s4 _ _ e).weak (by omega) (Nat.le_refl _) fun j=>?_
       rw[step]
       by_cases c:j=p.2.2.1
       ·rw[if_pos ⟨c,by rw[c];exact hg,by rw[hf];rfl⟩,if_pos c,hf]
        rfl
       ·rw[if_neg (fun z=>c z.1),if_neg c]
  ·rintro σ U ⟨s1,hU,x,y,rfl⟩
   have hll:(ay fL lm).length=ls.length:=by unfold ay;rw[List.length_map,←elm,List.length_map]
   rw[hll,List.take_length]at hU
   simp![tC]
   exact k U l s1 hl (hU.weak (by omega) (Nat.le_refl _) fun _=>rfl)
end
def cw0 (s:State) (ks:List Int) (k:Int) (l:aZ) (m:Int):Option (List Int):=if m∈ks then chF s 0 m else if m=k then (kI s k l).map fun n=>[n] else none
theorem xM (s:State) (k:Int) (l:aZ) (p:Int×Int):kI s k (l ++ [p])=match kI s k l with | some n=>some n | none=>if p.2=Lt s k then some p.1 else none:=by
 unfold kI
 rw[List.find?_append]
 cases l.find? fun p=>decide (p.2=Lt s k) with
 |some q=>rfl
 |none=>
  show Option.map (fun p=>p.1) ([p].find? fun p=>decide (p.2=Lt s k))=if p.2=Lt s k then some p.1 else none
  rw[List.find?_cons]
  by_cases c:p.2=Lt s k
  ·rw[decide_eq_true c,if_pos c];rfl
  ·rw[decide_eq_false c,if_neg c];rfl
def CwO (st:State) (H:Hp) (a b d l:Addr) (ks:List Int) (i:Nat) (σ:L2.St) (U:Hp):Prop:=ao H U∧ChD U l (101*i) 1 (fun m=>if m∈ks then chF st 0 m else none)∧∃ x y z,σ=[some (V.ref a),some (V.ref b),some (V.ref d),some (V.ref l),x,y,z]
def CwI (st:State) (H:Hp) (a b d l r:Addr) (oa or:HO) (ks:List Int) (key:Int) (n:Nat) (rs:aZ) (σ:L2.St) (U:Hp):Prop:=U a=some oa∧U r=some or∧But a H U∧ChD U l n 1 (cw0 st ks key rs)∧∃ y z,σ=[some (V.ref a),some (V.ref b),some (V.ref d),some (V.ref l),some (V.int key),y,z]
section
variable {P:Program}{w:World}{K:PySem.W.Frag}{mg:Str→Option Value}{base:Heap}
theorem gM (T:Txt K mg) (GY:OkD P w K mg base 1 "rests_of" ["works","evidence","work"] i6):OkD P w K mg base 2 "chains_without_links" ["works","evidence","latest"] dG:=by
 obtain⟨f,fd,hm,F,b⟩:=T.iw
 refine⟨f,fd,hm,F.kp,b,F.ok bf (fun vs H Q E h=>?_) (fun cdv A outer s H vs Q E hr h=>?_)⟩
 ·obtain⟨a,b,d,ws,es,s,t,rfl,_⟩:=h
  rfl
 ·obtain⟨a,b,d,ws,es,st,t,rfl,hW,hE,R,Tp,hd,nab,nad,k⟩:=h
  have hu:=bR hr
  refine⟨_,(ae (aI (i:=3) bf.nd rfl (Or.inl rfl) dS)
   (ae (dR (bE PassesOwn.never rfl (Dh (pv 0)) (aJ (i:=4) bf.nd rfl (Or.inl rfl)) (ag (bE PassesOwn.never rfl (tm (aB GY hr rfl (aa (pv 0) (aa (pv 1) (aa (pv 4) ah))))) (cj (K:=K) (n:=2) rfl rfl (aM (aJ (i:=5) bf.nd rfl (Or.inl rfl)) (aM (aJ (i:=6) bf.nd rfl (Or.inl rfl)) cg))) (ag (aK (PW.pt (ie (aA aT (pv 6) (a9 hu (pv 2) (pv 4) (fun _ _=>rfl)) (aD _)) (fu (cR (bu hu (pv 4) (pv 3)) rfl)))) (ag (b9 hu (pv 3) (pv 4) (aX (aa (pv 5) ah)) rfl)) az))))))
   (ag (aq (pv 3))))),?_⟩
  simp![g6]
  have h16:sizeLine=16777216:=sizeLine_eq
  have w40:ws.length≤40:=by rw[R.lz];exact R.wf.wn
  intro l hl
  have s0:ao H (upd H l (.dK [])):=ao.new hl
  obtain⟨lw,ew,hdw,htw⟩:=id hW
  have hdw:H a=some (.dK (ay fW lw)):=hdw
  have nla:l≠a:=fun z=>by rw[z,hdw]at hl;cases hl
  have ndl:d≠l:=fun z=>by rw[←z,hd]at hl;cases hl
  refine Ar (j:=0) (kvs:=ay fW lw) rfl (s0 _ _ hdw) (fun i σ U=>CwO st H a b d l ((ws.take i).map fun w=>w.1) i σ U) ⟨s0,⟨[],ab,Nat.zero_le _,fun k=>⟨fun _=>rfl,fun xs e=>by simp at e⟩⟩,_,_,_,rfl⟩ (fun i σ U p=>p.1 _ _ hdw) ?_ ?_
  ·rintro i key v σ U od hi ⟨s1,hC,x,y,z,rfl⟩
   have hi:(lw.map fun p=>(iK (fW p.2),V.ref p.1))[i]? = some (key,v):=hi
   rw[List.getElem?_map]at hi
   cases hp:lw[i]? with
   |none=>rw[hp]at hi;cases hi
   |some p=>
    rw[hp]at hi
    obtain⟨e1,e2⟩:=Prod.mk.inj (Option.some.inj hi)
    subst e1 e2
    have mp:=List.mem_of_getElem? hp
    have hv:ws[i]? = some p.2:=by rw[ew,List.getElem?_map,hp];rfl
    have hmw:=List.mem_of_getElem? hv
    have hkey:p.2.1∈ky ws:=List.mem_map.mpr ⟨p.2,hmw,rfl⟩
    have hil:i < ws.length:=(List.getElem?_eq_some_iff.mp hv).1
    have nkt:p.2.1∉(ws.take i).map fun w=>w.1:=zy R.wnd hv
    refine⟨_,rfl,_,rfl,_,rfl,?_⟩
    dsimp only[uh]
    have bF:But a H (upd U a (.frz od (.dK (ay fW lw)))):=fun c o n e=>by rw[ak n];exact s1 _ _ e
    have hWR:yQ (upd U a (.frz od (.dK (ay fW lw)))) a ws:=⟨lw,ew,.inr ⟨od,ab⟩,fun q hq=>bF _ _ (fun z=>by have:=htw q hq;rw[z,hdw]at this;cases this) (htw q hq)⟩
    have hEF:Evs (upd U a (.frz od (.dK (ay fW lw)))) b es:=by
     obtain⟨le,ee,h1,h2⟩:=hE
     exact⟨le,ee,bF _ _ (Ne.symm nab) h1,fun q hq=>bF _ _ (fun z=>by have:=h2 q hq;rw[z,hdw]at this;cases this) (h2 q hq)⟩
    refine⟨a,b,ws,es,st,p.2.1,p.2.2.1,p.2.2.2,rfl,hWR,hEF,R,hmw,fun H1 r s2 hr1 hrd=>?_⟩
    refine⟨r,_,rfl,hrd,fun o=>?_⟩
    have nra:r≠a:=fun z=>by rw[z,ab]at hr1;cases hr1
    have hrU:U r=none:=(cT hr1).2
    have nrl:r≠l:=fun z=>by
     obtain⟨kvs,h1,_⟩:=hC
     rw[z,h1]at hrU;cases hrU
    have bU:But a U H1:=fun c o n e=>s2 _ _ (by rw[ak n];exact e)
    have bU2:But a U (upd H1 r (.frz o (.dK (aR (bq st p.2.1 p.2.2.2))))):=fun c u n e=>by rw[ak (aF e hrU)];exact bU c u n e
    have hC1:ChD (upd H1 r (.frz o (.dK (aR (bq st p.2.1 p.2.2.2))))) l (101*i) 1 (fun m=>if m∈(ws.take i).map (fun w=>w.1) then chF st 0 m else none):=by
     obtain⟨kvs,h1,h2,h3⟩:=hC
     refine⟨kvs,bU2 _ _ nla h1,h2,fun j=>⟨(h3 j).1,fun xs e=>?_⟩⟩
     obtain⟨q1,q2,q3,q4⟩:=(h3 j).2 xs e
     exact⟨q1,q2,q3,bU2 _ _ (fun z=>by rw[z,s1 _ _ hdw]at q4;cases q4) q4⟩
    have rl:=z9 R.wf p.2.1 p.2.2.2
    obtain⟨wk,hwk,ewk⟩:∃ wk∈st.works,w3 wk=p.2:=R.CV.mp hmw
    refine FG (D:={ nx:=fun σ' H'=>∃ U',H'=upd U' a (.frz od (.dK (ay fW lw)))∧CwO st H a b d l ((ws.take (i+1)).map fun w=>w.1) (i+1) σ' U',rt:=fun v H'=>H' a=some (.frz od (.dK (ay fW lw)))∧Q v (upd H' a (.dK (ay fW lw))),bk:=fun σ' H'=>H' a=some (.frz od (.dK (ay fW lw)))∧Bk (kT 3) { nx:=fun _ H'=>Q V.non H',rt:=Q } σ' (upd H' a (.dK (ay fW lw))),ct:=fun σ' H'=>∃ U',H'=upd U' a (.frz od (.dK (ay fW lw)))∧CwO st H a b d l ((ws.take (i+1)).map fun w=>w.1) (i+1) σ' U' }) ab
     (fun j σ G=>CwI st H a b d l r (.frz od (.dK (ay fW lw))) (.frz o (.dK (aR (bq st p.2.1 p.2.2.2)))) ((ws.take i).map fun w=>w.1) p.2.1 (101*i+j) ((bq st p.2.1 p.2.2.2).take j) σ G) ⟨(by rw[ak (Ne.symm nra)];exact s2 _ _ ab),ab,(fun c u n e=>bU2 _ _ n (s1 _ _ e)),hC1.weak (by omega) (Nat.le_refl _) (fun m=>?_),_,_,rfl⟩ (fun j σ G q=>q.2.1) ?_ ?_
    ·unfold cw0
     by_cases c:m∈(ws.take i).map fun w=>w.1
     ·rw[if_pos c,if_pos c]
     ·rw[if_neg c,if_neg c]
      split<;>rfl
    ·rintro j key' v' σ G T' hj ⟨hVa,hVr,bV,hCV,y',z',rfl⟩ hT
     have hj:((bq st p.2.1 p.2.2.2).map fun q=>(iK q.1,V.int q.2))[j]? = some (key',v'):=hj
     rw[List.getElem?_map]at hj
     cases hq:(bq st p.2.1 p.2.2.2)[j]? with
     |none=>rw[hq]at hj;cases hj
     |some q=>
      rw[hq]at hj
      obtain⟨e3,e4⟩:=Prod.mk.inj (Option.some.inj hj)
      subst e3 e4
      have hjl:j < (bq st p.2.1 p.2.2.2).length:=(List.getElem?_eq_some_iff.mp hq).1
      have sT:ao G (upd G T' (.tup [.int q.1,.int q.2])):=ao.new hT
      have nTa:T'≠a:=fun z=>by rw[z,hVa]at hT;cases hT
      have hdV:(upd G T' (.tup [.int q.1,.int q.2])) d=some (.dK (aR t)):=sT _ _ (bV _ _ (Ne.symm nad) hd)
      obtain⟨kvs,hl1,hkn,hck⟩:=id hCV
      refine⟨T',_,rfl,SqT.of ab,rfl,_,_,rfl,_,_,rfl,rfl,?_⟩
      simp![dP,dJ,bP,-List.map_take]
      have cwk:∀ rs,cw0 st ((ws.take i).map fun w=>w.1) p.2.1 rs p.2.1=(kI st p.2.1 rs).map fun n=>[n]:=fun rs=>by unfold cw0;rw[if_neg nkt,if_pos rfl]
      have bn:But a H (upd G T' (.tup [.int q.1,.int q.2])):=bV.same sT
      have g7:cw0 st ((ws.take i).map fun w=>w.1) p.2.1 ((bq st p.2.1 p.2.2.2).take (j+1)) p.2.1=cw0 st ((ws.take i).map fun w=>w.1) p.2.1 ((bq st p.2.1 p.2.2.2).take j) p.2.1→CwI st H a b d l r (.frz od (.dK (ay fW lw))) (.frz o (.dK (aR (bq st p.2.1 p.2.2.2)))) ((ws.take i).map fun w=>w.1) p.2.1 (101*i+(j+1)) ((bq st p.2.1 p.2.2.2).take (j+1)) [some (V.ref a),some (V.ref b),some (V.ref d),some (V.ref l),some (V.int p.2.1),some (V.int q.1),some (V.int q.2)] (upd G T' (.tup [.int q.1,.int q.2])):=fun e=>
       ⟨sT _ _ hVa,sT _ _ hVr,bn,(hCV.same sT).weak (by omega) (Nat.le_refl _) (fun m=>by
        by_cases c:m=p.2.1
        ·rw[c];exact e
        ·unfold cw0;rw[if_neg c,if_neg c]),_,_,rfl⟩
      have rs:=xM st p.2.1 ((bq st p.2.1 p.2.2.2).take j) q
      rw[←take_snoc hq]at rs
      refine⟨_,a6 hdV (CP R Tp hkey),rfl,?_⟩
      by_cases c:q.2=Lt st p.2.1
      ·rw[if_pos (by rw[c])]
       refine⟨_,fT.k (k:=iK p.2.1) (sT _ _ hl1),?_⟩
       cases hf:kI st p.2.1 ((bq st p.2.1 p.2.2.2).take j) with
       |some n0=>
        rw[hf]at rs
        obtain⟨_,a1,ha1,_⟩:=(hck p.2.1).2 [n0] (by rw[cwk,hf];rfl)
        rw[ha1,if_neg (by simp)]
        exact g7 (by rw[cwk,cwk,rs,hf])
       |none=>
        rw[hf]at rs
        rw[(hck p.2.1).1 (by rw[cwk,hf];rfl),if_pos (show (none:Option V)=none from rfl)]
        refine⟨by decide,fun g hg=>?_⟩
        obtain⟨ngT,hg2⟩:=cT hg
        have ngl:g≠l:=fun z=>by rw[z,hl1]at hg2;cases hg2
        have nga:g≠a:=fun z=>by rw[z,hVa]at hg2;cases hg2
        have sg:ao G (upd (upd G T' (.tup [.int q.1,.int q.2])) g (.lst [.int q.1])):=sT.trans (ao.new hg)
        obtain⟨kv3,hl3,K8,put⟩:=hCV.put (k:=p.2.1) (xs:=[q.1]) (m':=1) (by rw[cwk,hf];rfl) (by simp) (Nat.le_refl _)
        rw[hl1]at hl3
        cases hl3
        refine⟨_,gx.k (k:=iK p.2.1) (sg _ _ hl1) (by omega),(by rw[ak (Ne.symm nla)];exact sg _ _ hVa),(by rw[ak nrl];exact sg _ _ hVr),(fun c u n e=>by rw[ak (aF e hl)];exact sg _ _ (bV _ _ n e)),(put _ g ngl ab fun c o _ e=>sg _ _ e).weak (by omega) (Nat.le_refl _) (fun m=>?_),_,_,rfl⟩
        by_cases cm:m=p.2.1
        ·rw[if_pos cm,cm,cwk,rs,if_pos c]
         rfl
        ·rw[if_neg cm]
         unfold cw0
         rw[if_neg cm,if_neg cm]
      ·rw[if_neg (fun z=>c (V.int.inj z))]
       refine g7 ?_
       rw[cwk,cwk,rs]
       cases kI st p.2.1 ((bq st p.2.1 p.2.2.2).take j) with
       |some n0=>rfl
       |none=>rw[if_neg c]
    ·rintro σ G ⟨hVa,hVr,bV,hCV,y',z',rfl⟩
     rw[eV]at hCV
     rw[List.take_length]at hCV
     refine⟨upd G a (.dK (ay fW lw)),?_,fun c u e=>?_,?_,_,_,_,rfl⟩
     ·rw[o5]
      funext c
      by_cases z:c=a
      ·rw[z,ab];exact hVa
      ·rw[ak z]
     ·by_cases z:c=a
      ·subst z
       rw[hdw]at e
       cases e
       exact ab
      ·rw[ak z];exact bV _ _ z e
     ·obtain⟨kvs,h1,h2,h3⟩:=hCV
      have Lf:ChD (upd G a (.dK (ay fW lw))) l (101*i+(bq st p.2.1 p.2.2.2).length) 1 (cw0 st ((ws.take i).map fun w=>w.1) p.2.1 (bq st p.2.1 p.2.2.2)):=by
       refine⟨kvs,by rw[ak nla];exact h1,h2,fun j=>⟨(h3 j).1,fun xs e=>?_⟩⟩
       obtain⟨q1,q2,q3,q4⟩:=(h3 j).2 xs e
       exact⟨q1,q2,q3,by rw[ak (fun z=>by rw[z,hVa]at q4;cases q4)];exact q4⟩
      refine Lf.weak (by omega) (Nat.le_refl _) fun m=>?_
      have ez:=Cz R hwk
      have e1:wk.key=p.2.1:=by rw[←ewk];rfl
      have e2:wk.hi=p.2.2.2:=by rw[←ewk];rfl
      rw[e1,e2]at ez
      rw[take_snoc hv,List.map_append]
      unfold cw0
      by_cases c:m∈(ws.take i).map fun w=>w.1
      ·rw[if_pos (List.mem_append_left _ c),if_pos c]
      ·rw[if_neg c]
       by_cases c2:m=p.2.1
       ·rw[if_pos (List.mem_append_right _ (by rw[c2];simp)),if_pos c2,c2]
        exact ez
       ·rw[if_neg (fun z=>by
         rcases List.mem_append.mp z with y | y
         ·exact c y
         ·simp at y;exact c2 y),if_neg c2]
  ·rintro σ U ⟨s1,hC,x,y,z,rfl⟩
   have hll:(ay fW lw).length=ws.length:=by unfold ay;rw[List.length_map,ew,List.length_map]
   rw[hll,List.take_length]at hC
   simp![tC]
   refine k U l s1 hl (hC.weak (by omega) (Nat.le_refl _) fun j=>?_)
   by_cases c:j∈ws.map fun w=>w.1
   ·rw[if_pos c]
   ·rw[if_neg c]
    unfold chF
    rw[if_neg (fun z=>c ((dC R).mp z.1))]
end
end Dw
namespace Dw
open PySem PySem.Spec PyProof.Rows L2
open Vbnlaa StM WayM RepM UpM ChM SrtM WhyM
theorem CA {ws:List W3}{es:List (Int×E4)}{s:State}(R:Rep ws es s) {k:Int}{xs:List Int}:∀ {i j:Nat},i≤j→chF s i k=some xs→chF s j k=some xs:=by
 intro i j h e
 induction j with
 |zero=>
  have:i=0:=by omega
  rw[←this];exact e
 |succ j ih=>
  by_cases c:i=j+1
  ·rw[←c];exact e
  ·rw[xj R]
   unfold longer
   rw[ih (by omega)]
def LcW (st:State) (H3:Hp) (a b d ll:Addr) (key:Int) (m:Nat) (σ:L2.St) (U:Hp):Prop:=∃ (j:Nat) (c:Addr),j≤st.works.length∧m=st.works.length - j∧ao H3 U∧ChD U c (5000+100*j) (1+j) (chF st j)∧c≠ll∧σ=[some (V.ref a),some (V.ref b),some (V.int key),some (V.ref d),some (V.ref ll),some (V.ref c)]
section
variable {P:Program}{w:World}{K:PySem.W.Frag}{mg:Str→Option Value}{base:Heap}
theorem qg (T:Txt K mg) (Gx:OkD P w K mg base 2 "latest_days" ["works","evidence"] bx) (G5:OkD P w K mg base 2 "binding_links" ["evidence","latest"] gC) (GH:OkD P w K mg base 2 "chains_without_links" ["works","evidence","latest"] dG) (GK:OkD P w K mg base 1 "with_one_link_more" ["chains","links"] d7):OkD P w K mg base 3 "least_chain" ["works","evidence","work"] i8:=by
 obtain⟨f,fd,hm,F,b⟩:=T.r9
 refine⟨f,fd,hm,F.kp,b,F.ok cU (fun vs H Q E h=>?_) (fun cdv A outer s H vs Q E hr h=>?_)⟩
 ·obtain⟨a,b,ws,es,s,k,rfl,_⟩:=h
  rfl
 ·obtain⟨a,b,ws,es,st,key,rfl,hW,hE,R,nab,hk,k⟩:=h
  have hu:=bR hr
  refine⟨_,(ae (aI (i:=3) cU.nd rfl (Or.inl rfl) (aB Gx hr rfl (aa (pv 0) (aa (pv 1) ah))))
   (ae (aI (i:=4) cU.nd rfl (Or.inl rfl) (aB G5 hr rfl (aa (pv 1) (aa (pv 3) ah))))
   (ae (aI (i:=5) cU.nd rfl (Or.inl rfl) (aB GH hr rfl (aa (pv 0) (aa (pv 1) (aa (pv 3) ah)))))
   (ae (lW PassesOwn.never (cR (bu hu (pv 2) (pv 5)) rfl) (ag (aI (i:=5) cU.nd rfl (Or.inl rfl) (aB GK hr rfl (aa (pv 5) (aa (pv 4) ah))))))
   (ag (aq (a9 hu (pv 5) (pv 2) (fun _ _=>rfl)))))))),?_⟩
  simp![dJ,bP]
  have h16:sizeLine=16777216:=sizeLine_eq
  have w40:ws.length≤40:=by rw[R.lz];exact R.wf.wn
  have Hn:es.length≤100:=by rw[R.oZ];exact R.wf.en
  obtain⟨t,b2,Tp,_⟩:=tops R
  refine⟨a,b,ws,es,rfl,hW,hE,R.wnd,ein R,w40,Hn,fun H1 x s1 hx=>?_⟩
  rw[show bo ws (es.map fun e=>e.2)=some t from Tp.at_]at hx
  obtain⟨d,rfl,hd0,hd⟩:=hx
  have nad:a≠d:=by
   obtain⟨_,_,hh,_⟩:=id hW
   exact aF hh hd0
  refine⟨b,d,ws,es,st,t,rfl,hE.same s1,R,Tp,hd,fun H2 ll s2 K5 hL=>?_⟩
  refine⟨a,b,d,ws,es,st,t,rfl,(hW.same s1).same s2,(hE.same s1).same s2,R,Tp,s2 _ _ hd,nab,nad,fun H3 c s3 hc0 hC=>?_⟩
  have hkw:=(dC R).mpr hk
  have N40:st.works.length≤40:=R.wf.wn
  have bl:(j4 st).length≤100:=Nat.le_trans (List.length_filter_le _ _) (tG R.wf)
  have s13:=(s1.trans s2).trans s3
  obtain⟨lmL,hLd,_⟩:=id hL
  refine⟨LcW st H3 a b d ll key,⟨_,0,c,Nat.zero_le _,rfl,ao.refl _,hC,(fun z=>by rw[z,hLd]at hc0;cases hc0),rfl⟩,?_⟩
  rintro m σ U ⟨j,c',hj,rfl,sU,hCj,ncl,rfl⟩
  obtain⟨kvs,hcd,hkn,hck⟩:=id hCj
  simp![dJ,bP]
  refine⟨_,fT.k (k:=iK key) hcd,?_⟩
  cases hf:chF st j key with
  |none=>
   rw[(hck key).1 hf,if_pos (show (none:Option V)=none from rfl)]
   have hjl:j < st.works.length:=by
    rcases Nat.lt_or_ge j st.works.length with z | z
    ·exact z
    ·have:j=st.works.length:=by omega
     rw[this,zJ hkw]at hf
     cases hf
   refine⟨fun σ' U'=>∃ m',m' < st.works.length - j∧LcW st H3 a b d ll key m' σ' U',fun _ _ h=>h,?_⟩
   ·refine⟨c',ll,_,_,_,_,rfl,hCj,?_,bl,ncl,by omega,by omega,fun H4 c2 s4 KG hC2=>?_⟩
    ·obtain⟨lm2,g1,g2,g3⟩:=hL
     exact⟨lm2,sU _ _ (s3 _ _ g1),g2,fun p hp=>sU _ _ (s3 _ _ (g3 p hp))⟩
    ·refine⟨st.works.length - (j+1),by omega,j+1,c2,hjl,rfl,sU.trans s4,hC2.weak (by omega) (by omega) (fun k=>xj R j k),fun z=>?_,rfl⟩
     rw[z,sU _ _ (s3 _ _ hLd)]at KG
     cases KG
  |some xs=>
   obtain⟨hxl,av,hav,hal⟩:=(hck key).2 xs hf
   rw[hav,if_neg (by simp)]
   have e:why st key=xs:=by
    have h1:=CA R hj hf
    rw[zJ hkw]at h1
    rw[Ef R.wf hkw]
    exact Option.some.inj h1
   refine⟨V.ref av,?_,?_⟩
   ·have:=fT.k (k:=iK key) hcd
    rw[hav]at this
    exact this
   ·refine k U av (s13.trans sU) ?_ ?_
    ·rw[e];exact hal
    ·rw[e];omega
end
end Dw
namespace Dw
open PySem PySem.Spec PyProof.Rows L2
open Vbnlaa StM WayM RepM UpM ChM SrtM
theorem g0 (ys:List V) (v:V):atI (ys ++ [v]) (-1)=some v:=by
 unfold atI ixN
 simp
 rw[if_pos (by omega)]
 have:((-1:Int)+((ys.length:Int)+1)).toNat=ys.length:=by omega
 rw[this]
 simp
theorem Cy (ys:List V) (v:V):iT (ys ++ [v]) none (some (-1))=ys:=by
 unfold iT HT.sIx
 simp
 have:((-1:Int)+((ys.length:Int)+1)).toNat=ys.length:=by omega
 rw[this]
 simp
theorem AG {s:State}{lm:List (Addr×Lk)}(W:WF s) (e:(lm.map fun p=>p.2)=bj s) (n:Int):(cp (ay fL lm) (iK n)=none∧(bj s).find? (fun l=>l.1 == n)=none)∨∃ p∈lm,p.2.1=n∧cp (ay fL lm) (iK n)=some (.ref p.1)∧(bj s).find? (fun l=>l.1 == n)=some p.2:=by
 have nd:(lm.map fun p=>fL p.2).Nodup:=by
  have:=mj W
  rw[←e,List.map_map]at this
  exact this
 by_cases c:n∈lm.map fun p=>fL p.2
 ·obtain⟨p,hp,ep⟩:=List.mem_map.mp c
  have ep:p.2.1=n:=ep
  refine .inr ⟨p,hp,ep,by rw[←ep];exact gH nd hp,?_⟩
  have:=zD (f:=fun l:Lk=>l.1) (mj W) (a:=p.2) (by rw[←e];exact List.mem_map.mpr ⟨p,hp,rfl⟩)
  rw[ep]at this
  exact this
 ·refine .inl ⟨lS c,List.find?_eq_none.mpr fun l hl z=>?_⟩
  have z:l.1=n:=by simpa using z
  rw[←e]at hl
  obtain⟨p,hp,rfl⟩:=List.mem_map.mp hl
  exact c (List.mem_map.mpr ⟨p,hp,z⟩)
def CdI (st:State) (H2:Hp) (a b c ll:Addr) (ws:List W3) (key:Int) (l:List Int) (i:Nat) (σ:L2.St) (U:Hp):Prop:=ao H2 U∧∃ (reached added:Int) (x:Option V),reached∈ky ws∧bound st key l=(bound st reached (l.drop i)).map (fun v=>v+added)∧σ=[some (V.ref a),some (V.ref b),some (V.int key),some (V.ref c),some (V.ref ll),some (V.int reached),some (V.int added),x,none]
section
variable {P:Program}{w:World}{K:PySem.W.Frag}{mg:Str→Option Value}{base:Heap}
theorem uF (T:Txt K mg) (G1:OkD P w K mg base 1 "links_of" ["evidence"] i7) (GY:OkD P w K mg base 1 "rests_of" ["works","evidence","work"] i6):OkD P w K mg base 2 "chain_day" ["works","evidence","work","chain"] (lG K):=by
 obtain⟨f,fd,hm,F,b⟩:=T.xf
 refine⟨f,fd,hm,F.kp,b,F.ok b0 (fun vs H Q E h=>?_) (fun cdv A outer s H vs Q E hr h=>?_)⟩
 ·obtain⟨a,b,c,ws,es,s,k,l,rfl,_⟩:=h
  rfl
 ·obtain⟨a,b,c,ws,es,st,key,l,rfl,hW,hE,R,hk,hc,hl,k⟩:=h
  have hu:=bR hr
  refine⟨_,(ae (aK (aA aT (aS (aW (K:=K) rfl) (by rfl) T.dB PySem.boot_len (aa (pv 3) ah)) aj (aD _)) (ag (aq jr)) az)
   (ae (aI (i:=4) b0.nd rfl (Or.inl rfl) (aB G1 hr rfl (aa (pv 1) ah)))
   (ae (aI (i:=5) b0.nd rfl (Or.inl rfl) (pv 2))
   (ae (aI (i:=6) b0.nd rfl (Or.inl rfl) aj)
   (ae (bE PassesOwn.never rfl (di (eT f7 (pv 3) jT (eM (gJ eh aj)))) (aJ (i:=7) b0.nd rfl (Or.inl rfl)) (ae (aK (PW.pt (n8 (cR (bu hu (pv 7) (pv 4)) rfl) (jl (aA BH (aH (aL (K:=K) rfl) (a9 hu (pv 4) (pv 7) (fun _ _=>rfl)) aj (fun _ _=>rfl)) (pv 5) (aD _))))) (ag (aq jr)) az)
   (ae (aI (i:=5) b0.nd rfl (Or.inl rfl) (aH (aL (K:=K) rfl) (a9 hu (pv 4) (pv 7) (fun _ _=>rfl)) aj (fun _ _=>rfl)))
   (ag (aI (i:=6) b0.nd rfl (Or.inl rfl) (aU bh (pv 6) (aH (aL (K:=K) rfl) (a9 hu (pv 4) (pv 7) (fun _ _=>rfl)) aj (fun _ _=>rfl))))))))
   (ae (aI (i:=8) b0.nd rfl (Or.inl rfl) (aB GY hr rfl (aa (pv 0) (aa (pv 1) (aa (pv 5) ah)))))
   (ae (aK (cR (bu hu (aH (aE (K:=K) rfl) (pv 3) (gJ eh aj) (fun _ _=>rfl)) (pv 8)) rfl) (ag (aq jr)) az)
   (ag (aq (aU bh (a9 hu (pv 8) (aH (aE (K:=K) rfl) (pv 3) (gJ eh aj) (fun _ _=>rfl)) (fun _ _=>rfl)) (pv 6))))))))))),?_⟩
  simp![dJ,uk,bP]
  refine⟨_,.inl hc,?_⟩
  by_cases hnil:l=[]
  ·rw[if_pos (by rw[hnil];rfl)]
   have k:=k H (ao.refl _)
   rw[hnil]at k
   exact k
  rw[if_neg (fun z=>hnil (by cases l with | nil=>rfl | cons _ _=>cases z))]
  refine⟨b,ws,es,st,rfl,hE,R,fun H1 ll s1 K5 hL=>?_⟩
  obtain⟨lm,hld,elm,htm⟩:=hL
  obtain⟨ini,z,rfl⟩:∃ ini z,l=ini ++ [z]:=⟨l.dropLast,l.getLast hnil,(List.dropLast_concat_getLast hnil).symm⟩
  have hmap:(ini ++ [z]).map V.int=ini.map V.int ++ [V.int z]:=by rw[List.map_append];rfl
  rw[List.length_append]at hl
  have hl:ini.length+1≤60:=hl
  refine⟨_,rfl,_,rfl,_,rfl,?_⟩
  refine⟨c,_,rfl,s1.seq hc,fun D hD=>?_⟩
  rw[hmap,Cy]
  have s2:=ao.new (o:=HO.lst (ini.map V.int)) hD
  have s12:=s1.trans s2
  refine⟨D,rfl,⟨_,SqL.of ab⟩,jE (D:={ nx:=_,rt:=Q }) (xs:=ini.map V.int) (fun i σ U=>CdI st (upd H1 D (.lst (ini.map V.int))) a b c ll ws key (ini ++ [z]) i σ U) ⟨ao.refl _,key,0,none,hk,?_,rfl⟩ (fun i σ U _ p=>SqL.of (p.1 _ _ ab)) ?_ ?_⟩
  ·rw[List.drop_zero]
   cases bound st key (ini ++ [z]) with
   |none=>rfl
   |some v=>show some v=some (v+0);rw[Int.add_zero]
  ·rintro i x σ U hi ⟨sU,reached,added,x7,hin,hb,rfl⟩
   rw[List.getElem?_map]at hi
   cases he:ini[i]? with
   |none=>rw[he]at hi;cases hi
   |some e=>
    rw[he]at hi
    cases hi
    have hil:i < ini.length:=(List.getElem?_eq_some_iff.mp he).1
    obtain⟨f0,r0,hd0⟩:∃ f0 r0,(ini ++ [z]).drop (i+1)=f0 :: r0:=by
     cases hdr:(ini ++ [z]).drop (i+1) with
     |nil=>
      have:=congrArg List.length hdr
      rw[List.length_drop,List.length_append]at this
      simp at this
      omega
     |cons f0 r0=>exact⟨f0,r0,rfl⟩
    have hd1:(ini ++ [z]).drop i=e :: f0 :: r0:=by
     rw[←hd0]
     have h2:(ini ++ [z])[i]? = some e:=by rw[List.getElem?_append_left hil];exact he
     have hi2:i < (ini ++ [z]).length:=by rw[List.length_append];omega
     rw[List.drop_eq_getElem_cons hi2]
     rw[List.getElem?_eq_getElem hi2]at h2
     rw[Option.some.inj h2]
    rw[hd1,yO R.wf]at hb
    have Ky:U ll=some (.dK (ay fL lm)):=sU _ _ (s2 _ _ hld)
    have s3:ao H U:=s12.trans sU
    show Bj _ _ _ _ _
    simp![dJ,bP]
    refine⟨_,fT.k (k:=iK e) Ky,?_⟩
    rcases AG R.wf elm e with ⟨hv,hf⟩ | ⟨p,hp,ep,hv,hf⟩
    ·rw[hv,if_pos (show (none:Option V)=none from rfl)]
     rw[hf]at hb
     have k:=k U s3
     rw[hb]at k
     exact k
    ·rw[hv,if_neg (by simp)]
     rw[hf]at hb
     have hg:fT U ll (V.int e) (some (.ref p.1)):=by
      have:=fT.k (k:=iK e) Ky
      rw[hv]at this
      exact this
     have hT2:SqT K U p.1 (lK p.2):=SqT.of (sU _ _ (s2 _ _ (htm p hp)))
     refine⟨_,hg,ixt hT2 (ax (j:=0) rfl) ⟨rfl,?_⟩⟩
     by_cases cr:p.2.2.1=reached
     ·have hb:bound st key (ini ++ [z])=Option.map (fun v=>v+added) (if p.2.2.1=reached then (bound st p.2.2.2.1 (f0 :: r0)).map fun v=>v+p.2.2.2.2 else none):=hb
      rw[if_pos cr]at hb
      refine .inl ⟨by rw[cr],_,hg,ixt hT2 (ax (j:=1) rfl) ⟨_,hg,ixt hT2 (ax (j:=2) rfl) ⟨_,rfl,?_⟩⟩⟩
      refine⟨sU,p.2.2.2.1,added+p.2.2.2.2,_,(zt R (by rw[←elm];exact List.mem_map.mpr ⟨p,hp,rfl⟩)).2,?_,rfl⟩
      rw[hb,hd0]
      cases bound st p.2.2.2.1 (f0 :: r0) with
      |none=>rfl
      |some v=>
       show some (v+p.2.2.2.2+added)=some (v+(added+p.2.2.2.2))
       congr 1
       omega
     ·have hb:bound st key (ini ++ [z])=Option.map (fun v=>v+added) (if p.2.2.1=reached then (bound st p.2.2.2.1 (f0 :: r0)).map fun v=>v+p.2.2.2.2 else none):=hb
      rw[if_neg cr]at hb
      have k:=k U s3
      rw[hb]at k
      exact .inr ⟨fun z=>cr (V.int.inj z),k⟩
  ·rintro σ U ⟨sU,reached,added,x7,hin,hb,rfl⟩
   rw[List.length_map,List.drop_left]at hb
   have s3:ao H U:=s12.trans sU
   obtain⟨w0,hw0,ew0⟩:=List.mem_map.mp hin
   have ew0:w0.1=reached:=ew0
   obtain⟨wk,hwk,ewk⟩:∃ wk∈st.works,w3 wk=w0:=R.CV.mp hw0
   have e1:wk.key=reached:=by rw[←ew0,←ewk];rfl
   have hbl:=yN R.wf hwk z
   rw[e1]at hbl
   show Bj _ _ _ _ _
   simp![dJ,bP]
   refine⟨a,b,ws,es,st,reached,w0.2.1,w0.2.2,rfl,(hW.same s3).rd,hE.same s3,R,by rw[←ew0];exact hw0,fun H4 r s4 hr0 hr4=>?_⟩
   have hc4:SqL K H4 c (ini.map V.int ++ [V.int z]):=by
    have:=s4.seq (s3.seq hc)
    rw[hmap]at this
    exact this
   have e2:wk.hi=w0.2.2:=by rw[←ewk];rfl
   rw[e2]at hbl
   have k:=k H4 (s3.trans s4)
   rw[hb,hbl]at k
   refine ixl hc4 (g0 _ _) ⟨r,rfl,_,fT.k (k:=iK z) hr4,?_⟩
   rw[lA]
   cases hg:a4 (bq st reached w0.2.2) z with
   |none=>
    rw[hg]at k
    rw[if_pos (show Option.map V.int none=none from rfl)]
    exact k
   |some v=>
    rw[hg]at k
    rw[if_neg (by simp)]
    exact ixl hc4 (g0 _ _) ⟨r,rfl,_,a6 hr4 hg,_,rfl,k⟩
end
end Dw
namespace Dw
open PySem PySem.Spec PyProof.Rows L2
open Vbnlaa StM WayM RepM UpM VerM ChM SrtM
def WE (H:Hp) (a b:Addr) (s:State):Prop:=∃ ws es,cx H a ws∧Evs H b es∧Rep ws es s∧a≠b
theorem WE.same {H H':Hp}{a b:Addr}{s:State}(h:WE H a b s) (k:ao H H'):WE H' a b s:=by
 obtain⟨ws,es,h1,h2,h3⟩:=h
 exact⟨ws,es,h1.same k,h2.same k,h3⟩
def rz (H:Hp) (Q:VK) (a:Ans):Prop:=∀ H' l,ao H H'→H l=none→H' l=some (.lst (a.map V.int))→Q (.ref l) H'
def jb:Sp:=fun vs H Q _=>∃ (a b:Addr) (s:State) (p k:Int) (cl:Vbnlaa.Call),vs=[.ref a,.ref b,.int p,.int k]∧WE H a b s∧(p=11∧cl = .latest k∨p=12∧cl = .earliest k∨p=15∧cl = .why k)∧rz H Q (step s cl).2
def vy (K:PySem.W.Frag):Sp:=fun vs H Q _=>∃ (a b c:Addr) (s:State) (k:Int) (l:List Int),vs=[.ref a,.ref b,.int k,.ref c]∧WE H a b s∧SqL K H c (l.map V.int)∧l.length≤60∧rz H Q (step s (.bound k l)).2
def fh:Sp:=fun vs H Q _=>∃ (a b:Addr) (s:State) (p u v:Int) (cl:Vbnlaa.Call),vs=[.ref a,.ref b,.int p,.int u,.int v]∧WE H a b s∧(p=13∧cl = .apart u v∨p=14∧cl = .order u v)∧rz H Q (step s cl).2
def yZ:Sp:=fun vs H Q _=>∃ (a b:Addr) (s:State),vs=[.ref a,.ref b]∧WE H a b s∧rz H Q (step s .told).2
def y8:Sp:=fun vs H Q _=>∃ (a b:Addr) (s:State) (k:Int),vs=[.ref a,.ref b,.int k]∧WE H a b s∧rz H Q (step s (.idle k)).2
def pC (_K:PySem.W.Frag) (C:Addr):Sp:=fun vs H Q _=>∃ (c:Addr) (s:State) (kind u v g:Int),vs=[.ref c,.int kind,.int u,.int v,.int g]∧bb C H c s∧rz H Q (step s (.test kind u v g)).2
section
variable {P:Program}{w:World}{K:PySem.W.Frag}{mg:Str→Option Value}{base:Heap}{C:Addr}
theorem ql (T:Txt K mg) (Gx:OkD P w K mg base 2 "latest_days" ["works","evidence"] bx) (Gz:OkD P w K mg base 3 "earliest_days" ["works","evidence"] df) (Hh:OkD P w K mg base 3 "least_chain" ["works","evidence","work"] i8):OkD P w K mg base 4 "ask_of_work" ["works","evidence","call","key"] jb:=by
 obtain⟨f,fd,hm,F,b⟩:=T.so
 refine⟨f,fd,hm,F.kp,b,F.ok pO (fun vs H Q E h=>?_) (fun cdv A outer s H vs Q E hr h=>?_)⟩
 ·obtain⟨a,b,s,p,k,cl,rfl,_⟩:=h
  rfl
 ·obtain⟨a,b,st,p,key,cl,rfl,⟨ws,es,hW,hE,R,nab⟩,hp,k⟩:=h
  have hu:=bR hr
  refine⟨_,(ae (aK (cR (bu hu (pv 3) (pv 0)) rfl) (ag (aq (aX (aa (aQ rfl T.cH) ah)))) az)
   (ae (aK (aA aT (pv 2) (aQ rfl T.kO) (aD _)) (ag (aq (aX (aa (a9 hu (aB Gx hr rfl (aa (pv 0) (aa (pv 1) ah))) (pv 3) (fun _ _=>rfl)) ah)))) az)
   (ae (aK (aA aT (pv 2) (aQ rfl T.iN) (aD _)) (ag (aq (aX (aa (a9 hu (aB Gz hr rfl (aa (pv 0) (aa (pv 1) ah))) (pv 3) (fun _ _=>rfl)) ah)))) az)
   (ag (aq (aU jt (aX (aa aj ah)) (aB Hh hr rfl (aa (pv 0) (aa (pv 1) (aa (pv 3) ah)))))))))),?_⟩
  have h16:sizeLine=16777216:=sizeLine_eq
  have w40:ws.length≤40:=by rw[R.lz];exact R.wf.wn
  have Hn:es.length≤100:=by rw[R.oZ];exact R.wf.en
  obtain⟨lw,ew,hd,htup⟩:=id hW
  have hd:H a=some (.dK (ay fW lw)):=hd
  simp![dJ,bP]
  refine⟨_,cn hd,?_⟩
  cases hkn:known st key with
  |false=>
   rw[if_pos ((bL R ew key).mpr hkn)]
   have e:(step st cl).2=[-6]:=by
    rcases hp with ⟨_,rfl⟩ | ⟨_,rfl⟩ | ⟨_,rfl⟩
    ·show (match latest st key with | none=>(st,[-6]) | some n=>(st,[n])).2=_
     unfold latest
     rw[if_neg (by rw[hkn];decide)]
    ·show (match earliest st key with | none=>(st,[-6]) | some n=>(st,[n])).2=_
     unfold earliest
     rw[if_neg (by rw[hkn];decide)]
    ·show (if known st key=false then (st,[-6]) else _).2=_
     rw[if_pos hkn]
   rw[e]at k
   exact⟨by decide,fun q hq=>k _ q (ao.new hq) hq ab⟩
  |true=>
   rw[if_neg (fun z=>by rw[(bL R ew key).mp z]at hkn;cases hkn)]
   have hk:key∈ky ws:=R.known.mp hkn
   rcases hp with ⟨rfl,rfl⟩ | ⟨rfl,rfl⟩ | ⟨rfl,rfl⟩
   ·rw[if_pos rfl]
    obtain⟨t,b2,Tp,_⟩:=tops R
    have e:(step st (.latest key)).2=[tf t key]:=by
     show (match latest st key with | none=>(st,[-6]) | some n=>(st,[n])).2=_
     rw[gN R Tp hk]
    rw[e]at k
    refine⟨a,b,ws,es,rfl,hW,hE,R.wnd,ein R,w40,Hn,fun H1 x s1 hx=>?_⟩
    rw[show bo ws (es.map fun e=>e.2)=some t from Tp.at_]at hx
    obtain⟨d,rfl,hd0,hdd⟩:=hx
    exact⟨d,rfl,_,a6 hdd (Tp.get hk),by decide,fun q hq=>k _ q (s1.trans (ao.new hq)) (s1.free hq) ab⟩
   ·rw[if_neg (by decide),if_pos rfl]
    refine⟨a,b,ws,es,st,rfl,hW,hE,R,fun H1 d t s1 hd0 B hdd=>?_⟩
    have e:(step st (.earliest key)).2=[tf (ba t) key]:=by
     show (match earliest st key with | none=>(st,[-6]) | some n=>(st,[n])).2=_
     rw[oF R B hk]
    rw[e]at k
    exact⟨d,rfl,_,a6 hdd (B.get hk),by decide,fun q hq=>k _ q (s1.trans (ao.new hq)) (s1.free hq) ab⟩
   ·rw[if_neg (by decide),if_neg (by decide)]
    have e:(step st (.why key)).2=0 :: why st key:=by
     show (if known st key=false then (st,[-6]) else (st,0 :: why st key)).2=_
     rw[if_neg (by rw[hkn];decide)]
    rw[e]at k
    refine⟨by decide,fun q hq=>?_⟩
    have sq:=ao.new (o:=HO.lst [V.int 0]) hq
    refine⟨a,b,ws,es,st,key,rfl,hW.same sq,hE.same sq,R,nab,hk,fun H1 d s1 hdl hwl=>?_⟩
    refine⟨q,d,_,_,rfl,rfl,s1 _ _ ab,hdl,by rw[List.length_map];show 1+_≤_;omega,fun q2 hq2=>k _ q2 ((sq.trans s1).trans (ao.new hq2)) ((sq.trans s1).free hq2) ab⟩
theorem BL (T:Txt K mg) (HA:OkD P w K mg base 2 "chain_day" ["works","evidence","work","chain"] (lG K)):OkD P w K mg base 3 "bound" ["works","evidence","key","chain"] (vy K):=by
 obtain⟨f,fd,hm,F,b⟩:=T.DP
 refine⟨f,fd,hm,F.kp,b,F.ok vE (fun vs H Q E h=>?_) (fun cdv A outer s H vs Q E hr h=>?_)⟩
 ·obtain⟨a,b,c,s,k,l,rfl,_⟩:=h
  rfl
 ·obtain⟨a,b,c,st,key,l,rfl,⟨ws,es,hW,hE,R,nab⟩,hc,hl,k⟩:=h
  have hu:=bR hr
  refine⟨_,(ae (aK (cR (bu hu (pv 2) (pv 0)) rfl) (ag (aq (aX (aa (aQ rfl T.cH) ah)))) az)
   (ae (aI (i:=4) vE.nd rfl (Or.inl rfl) (aB HA hr rfl (aa (pv 0) (aa (pv 1) (aa (pv 2) (aa (pv 3) ah))))))
   (ag (aq (cF (aA BJ (pv 4) jr (aD _)) (aX (aa (aQ rfl T.yt) ah)) (aX (aa aj (aa (pv 4) ah)))))))),?_⟩
  obtain⟨lw,ew,hd,htup⟩:=id hW
  have hd:H a=some (.dK (ay fW lw)):=hd
  simp![bP]
  refine⟨_,cn hd,?_⟩
  cases hkn:known st key with
  |false=>
   rw[if_pos ((bL R ew key).mpr hkn)]
   have e:(step st (.bound key l)).2=[-6]:=by
    show (if known st key=false then (st,[-6]) else _).2=_
    rw[if_pos hkn]
   rw[e]at k
   exact⟨by decide,fun q hq=>k _ q (ao.new hq) hq ab⟩
  |true=>
   rw[if_neg (fun z=>by rw[(bL R ew key).mp z]at hkn;cases hkn)]
   have hk:key∈ky ws:=R.known.mp hkn
   have e:(step st (.bound key l)).2=match Vbnlaa.bound st key l with | none=>[-12] | some n=>[0,n]:=by
    show (if known st key=false then (st,[-6]) else match Vbnlaa.bound st key l with | none=>(st,[-12]) | some n=>(st,[0,n])).2=_
    rw[if_neg (by rw[hkn];decide)]
    cases Vbnlaa.bound st key l<;>rfl
   rw[e]at k
   refine⟨a,b,c,ws,es,st,key,l,rfl,hW,hE,R,hk,hc,hl,fun H1 s1=>?_⟩
   cases hb:Vbnlaa.bound st key l with
   |none=>
    rw[hb]at k
    rw[if_pos rfl]
    exact⟨by decide,fun q hq=>k _ q (s1.trans (ao.new hq)) (s1.free hq) ab⟩
   |some n=>
    rw[hb]at k
    rw[if_neg (fun z=>by cases z)]
    exact⟨by decide,fun q hq=>k _ q (s1.trans (ao.new hq)) (s1.free hq) ab⟩
theorem j7 (T:Txt K mg) (GU:OkD P w K mg base 5 "distances" ["works","evidence","u","v"] ft) (HI:OkD P w K mg base 1 "order_of" ["least","greatest"] nQ):OkD P w K mg base 6 "ask_of_two_works" ["works","evidence","call","u","v"] fh:=by
 obtain⟨f,fd,hm,F,b⟩:=T.lq
 refine⟨f,fd,hm,F.kp,b,F.ok fi (fun vs H Q E h=>?_) (fun cdv A outer s H vs Q E hr h=>?_)⟩
 ·obtain⟨a,b,s,p,u,v,cl,rfl,_⟩:=h
  rfl
 ·obtain⟨a,b,st,p,u,v,cl,rfl,⟨ws,es,hW,hE,R,nab⟩,hp,k⟩:=h
  have hu:=bR hr
  refine⟨_,(ae (aK (PW.pt (n8 (cR (bu hu (pv 3) (pv 0)) rfl) (jl (cR (bu hu (pv 4) (pv 0)) rfl)))) (ag (aq (aX (aa (aQ rfl T.cH) ah)))) az)
   (ae (aI (i:=5) fi.nd rfl (Or.inl rfl) (aB GU hr rfl (aa (pv 0) (aa (pv 1) (aa (pv 3) (aa (pv 4) ah))))))
   (ae (aK (aA aT (pv 2) (aQ rfl T.mD) (aD _)) (ag (aq (aX (aa aj (aa (aH (aL (K:=K) rfl) (pv 5) aj (fun _ _=>rfl)) (aa (aH (aL (K:=K) rfl) (pv 5) aj (fun _ _=>rfl)) ah)))))) az)
   (ag (aq (aX (aa (aB HI hr rfl (aa (aH (aL (K:=K) rfl) (pv 5) aj (fun _ _=>rfl)) (aa (aH (aL (K:=K) rfl) (pv 5) aj (fun _ _=>rfl)) ah))) ah))))))),?_⟩
  obtain⟨lw,ew,hd,htup⟩:=id hW
  have hd:H a=some (.dK (ay fW lw)):=hd
  simp![bP]
  have no:(known st u=false∨known st v=false)→(1≤sizeLine∧∀ (p:Addr),H p=none→Q (V.ref p) (upd H p (HO.lst [V.int (-6)]))):=by
   intro hn
   have ea:apart st u v=none:=by
    unfold apart
    rw[if_neg (fun z=>by
     rw[Bool.and_eq_true]at z
     rcases hn with y | y
     ·rw[y]at z;cases z.1
     ·rw[y]at z;cases z.2)]
   have e:(step st cl).2=[-6]:=by
    rcases hp with ⟨_,rfl⟩ | ⟨_,rfl⟩
    ·show (match apart st u v with | none=>(st,[-6]) | some x=>(st,[0,x.1,x.2])).2=_
     rw[ea]
    ·show (match apart st u v with | none=>(st,[-6]) | some x=>(st,[orderOf x])).2=_
     rw[ea]
   rw[e]at k
   exact⟨by decide,fun q hq=>k _ q (ao.new hq) hq ab⟩
  refine⟨_,cn hd,?_⟩
  cases hku:known st u with
  |false=>
   rw[if_pos ((bL R ew u).mpr hku)]
   exact no (.inl hku)
  |true=>
   rw[if_neg (fun z=>by rw[(bL R ew u).mp z]at hku;cases hku)]
   refine⟨_,cn hd,?_⟩
   cases hkv:known st v with
   |false=>
    rw[if_pos ((bL R ew v).mpr hkv)]
    exact no (.inr hkv)
   |true=>
    rw[if_neg (fun z=>by rw[(bL R ew v).mp z]at hkv;cases hkv)]
    have hu':u∈ky ws:=R.known.mp hku
    have hv':v∈ky ws:=R.known.mp hkv
    refine⟨a,b,ws,es,st,u,v,rfl,hW,hE,R,hu',hv',fun H1 l x y s1 hx hy hl=>?_⟩
    have ea:=CN R.wf ((dC R).mpr hu') ((dC R).mpr hv') hx hy
    dsimp only
    rcases hp with ⟨rfl,rfl⟩ | ⟨rfl,rfl⟩
    ·rw[if_pos rfl]
     have e:(step st (.apart u v)).2=[0,-x,y]:=by
      show (match apart st u v with | none=>(st,[-6]) | some x=>(st,[0,x.1,x.2])).2=_
      rw[ea]
     rw[e]at k
     exact ixt (SqT.of hl) (ax (j:=0) rfl) (ixt (SqT.of hl) (ax (j:=1) rfl) ⟨by decide,fun q hq=>k _ q (s1.trans (ao.new hq)) (s1.free hq) ab⟩)
    ·rw[if_neg (by decide)]
     have e:(step st (.order u v)).2=[orderOf (-x,y)]:=by
      show (match apart st u v with | none=>(st,[-6]) | some x=>(st,[orderOf x])).2=_
      rw[ea]
     rw[e]at k
     exact ixt (SqT.of hl) (ax (j:=0) rfl) (ixt (SqT.of hl) (ax (j:=1) rfl) ⟨(-x,y),rfl,trivial,fun H2 s2=>⟨by decide,fun q hq=>k _ q ((s1.trans s2).trans (ao.new hq)) ((s1.trans s2).free hq) ab⟩⟩)
def twW (w:W3):List Int:=[w.1,w.2.1,w.2.2]
def twE (e:Int×E4):List Int:=[e.1,e.2.kind,e.2.u,e.2.v,e.2.g]
theorem Bg (s:State):tellWorks s=(s.works.map w3).flatMap twW:=by
 unfold tellWorks
 rw[List.flatMap_map]
 rfl
theorem Ek (s:State):tellEvs s=(s.evs.map e5).flatMap twE:=by
 unfold tellEvs
 rw[List.flatMap_map]
 rfl
theorem jF {α:Type}{f:α→List Int}{n:Nat}(hf:∀ a,(f a).length=n):∀ l:List α,(l.flatMap f).length=n*l.length
 | []=>by simp
 |a :: l=>by
  rw[List.flatMap_cons,List.length_append,hf,jF hf l,List.length_cons,Nat.mul_succ]
  omega
theorem Dr (T:Txt K mg):OkD P w K mg base 1 "told" ["works","evidence"] yZ:=by
 obtain⟨f,fd,hm,F,b⟩:=T.EY
 refine⟨f,fd,hm,F.kp,b,F.ok jR (fun vs H Q E h=>?_) (fun cdv A outer s H vs Q E hr h=>?_)⟩
 ·obtain⟨a,b,s,rfl,_⟩:=h
  rfl
 ·obtain⟨a,b,st,rfl,⟨ws,es,hW,hE,R,nab⟩,k⟩:=h
  refine⟨_,(ae (aI (i:=2) jR.nd rfl (Or.inl rfl) (aX (aa aj (aa (aS gZ (by rfl) T.dB PySem.boot_len (aa (pv 0) ah)) ah))))
   (ae (bE PassesOwn.never rfl (di (aS (fA rfl) (by rfl) T.jx boot_sorted (aa (lX (pv 0)) ah))) (cj (K:=K) (n:=2) rfl rfl (aM (aJ (i:=3) jR.nd rfl (Or.inl rfl)) (aM (aJ (i:=4) jR.nd rfl (Or.inl rfl)) cg))) (ag (eL (oe PySem.F.plainAttrs_list PySem.F.slot_list_extend PySem.F.type_list_extend jX (pv 2) (aa (aX (aa (pv 3) (aa (aH (aL (K:=K) rfl) (pv 4) aj (fun _ _=>rfl)) (aa (aH (aL (K:=K) rfl) (pv 4) aj (fun _ _=>rfl)) ah)))) ah)))))
   (ae (eL (oe PySem.F.plainAttrs_list PySem.F.slot_list_append PySem.F.type_list_append jY (pv 2) (aa (aS gZ (by rfl) T.dB PySem.boot_len (aa (pv 1) ah)) ah)))
   (ae (bE PassesOwn.never rfl (di (aS (fA rfl) (by rfl) T.jx boot_sorted (aa (lX (pv 1)) ah))) (cj (K:=K) (n:=2) rfl rfl (aM (aJ (i:=3) jR.nd rfl (Or.inl rfl)) (aM (aJ (i:=5) jR.nd rfl (Or.inl rfl)) cg))) (ag (eL (oe PySem.F.plainAttrs_list PySem.F.slot_list_extend PySem.F.type_list_extend jX (pv 2) (aa (aX (aa (pv 3) (aa (aH (aL (K:=K) rfl) (pv 5) aj (fun _ _=>rfl)) (aa (aH (aL (K:=K) rfl) (pv 5) aj (fun _ _=>rfl)) (aa (aH (aL (K:=K) rfl) (pv 5) aj (fun _ _=>rfl)) (aa (aH (aL (K:=K) rfl) (pv 5) aj (fun _ _=>rfl)) ah)))))) ah)))))
   (ag (aq (pv 2))))))),?_⟩
  simp![tC]
  have h16:sizeLine=16777216:=sizeLine_eq
  have w40:=R.wf.wn
  have Hn:=R.wf.en
  obtain⟨lw,ew,hdw,htw⟩:=id hW
  have hdw:H a=some (.dK (ay fW lw)):=hdw
  have hlw:(ay fW lw).length=st.works.length:=by unfold ay;rw[List.length_map,←R.lz,ew,List.length_map]
  refine⟨_,hdw,by decide,fun p hp=>?_⟩
  rw[hlw]
  have s0:=ao.new (o:=HO.lst [V.int 0,V.int (st.works.length:Int)]) hp
  have keep:∀ (U:Hp) (o:HO),ao H U→ao H (upd U p o):=fun U o s b u e=>by
   rw[ak (aF e hp)]
   exact s _ _ e
  refine ir (f:=fW) (tv:=wK) (m:=p) (xs:=st.works.map w3) rfl (s0 _ _ hdw) (fun q hq=>s0 _ _ (htw q hq)) (fun l' p1 p2=>A7 R (by rw[ew];exact p1) p2) ab (fun ys z=>by cases z)
   (fun i σ U=>ao H U∧U p=some (.lst ((0 :: (st.works.length:Int) :: ((st.works.map w3).take i).flatMap twW).map V.int))∧∃ x y z,σ=[some (V.ref a),some (V.ref b),some (V.ref p),x,y,z]) (fun H1 s1=>⟨s0.trans s1,s1 _ _ ab,_,_,_,rfl⟩) ?_ ?_
  ·rintro i e pa σ U T' H1 hi ⟨sU,hU,x,y,z,rfl⟩ hT hpa nT npa hB
   refine⟨T',_,rfl,SqT.of hT,rfl,_,_,rfl,_,_,rfl,rfl,?_⟩
   simp![tBM,lT,-List.map_take]
   have hT2:SqT K U pa (wK e):=SqT.of hpa
   have hil:i < st.works.length:=by
    have:=(List.getElem?_eq_some_iff.mp hi).1
    rw[List.length_map]at this
    exact this
   refine⟨.inl ⟨rfl,_,SqL.of hU⟩,ixt hT2 (ax (j:=0) rfl) (ixt hT2 (ax (j:=1) rfl) ⟨by decide,fun q hq=>?_⟩)⟩
   have nqp:q≠p:=fun z=>by rw[z,hU]at hq;cases hq
   refine⟨_,by rw[ak (Ne.symm nqp)];exact hU,_,ab,?_,(hB.same (ao.new hq)).upd,keep _ _ (sU.trans (ao.new hq)),?_⟩
   ·have:=jF (f:=twW) (n:=3) (fun _=>rfl) ((st.works.map w3).take i)
    rw[List.length_take,List.length_map]at this
    simp only[List.length_map,List.length_cons,List.length_nil]
    omega
   ·rw[ab,take_snoc hi,List.flatMap_append]
    simp[twW]
  ·rintro σ U ⟨sU,hU,x,y,z,rfl⟩
   rw[List.take_length]at hU
   obtain⟨le,ee,hde,hte⟩:=hE.same sU
   have hde:U b=some (.dK (ay fE le)):=hde
   have hle:(ay fE le).length=st.evs.length:=by unfold ay;rw[List.length_map,←R.oZ,ee,List.length_map]
   show Bj _ _ _ _ _
   simp![tBM,o9]
   have flw:=jF (f:=twW) (n:=3) (fun _=>rfl) (st.works.map w3)
   rw[List.length_map]at flw
   refine⟨.inl ⟨rfl,_,SqL.of hU⟩,_,hde,_,hU,by simp only[List.length_map,List.length_cons];omega,?_⟩
   rw[hle]
   have hbp:b≠p:=fun z=>by rw[z,hU]at hde;cases hde
   have su:ao H (upd U p (.lst ((0 :: (st.works.length:Int) :: (st.works.map w3).flatMap twW).map V.int ++ [V.int (st.evs.length:Int)]))):=keep _ _ sU
   have tup_ne:∀ q∈le,q.1≠p:=fun q hq z=>by have:=hte q hq;rw[z,hU]at this;cases this
   refine ir (f:=fE) (tv:=pK) (m:=p) (xs:=st.evs.map e5) rfl (by rw[ak hbp];exact hde) (fun q hq=>by rw[ak (tup_ne q hq)];exact hte q hq) (fun l' p1 p2=>yB R (by rw[ee];exact p1) p2) ab (fun ys z=>by cases z)
    (fun i σ U=>ao H U∧U p=some (.lst ((0 :: (st.works.length:Int) :: (tellWorks st ++ ((st.evs.length:Int) :: ((st.evs.map e5).take i).flatMap twE))).map V.int))∧∃ x y z,σ=[some (V.ref a),some (V.ref b),some (V.ref p),x,y,z]) (fun H1 s1=>⟨su.trans s1,?_,_,_,_,rfl⟩) ?_ ?_
   ·rw[s1 _ _ ab,Bg]
    simp
   ·rintro i e pa σ U T' H1 hi ⟨sU,hU,x,y,z,rfl⟩ hT hpa nT npa hB
    refine⟨T',_,rfl,SqT.of hT,rfl,_,_,rfl,_,_,rfl,rfl,?_⟩
    simp![tBM,lT,-List.map_take]
    have hT2:SqT K U pa (pK e):=SqT.of hpa
    have hil:i < st.evs.length:=by
     have:=(List.getElem?_eq_some_iff.mp hi).1
     rw[List.length_map]at this
     exact this
    refine⟨.inl ⟨rfl,_,SqL.of hU⟩,ixt hT2 (ax (j:=0) rfl) (ixt hT2 (ax (j:=1) rfl) (ixt hT2 (ax (j:=2) rfl) (ixt hT2 (ax (j:=3) rfl) ⟨by decide,fun q hq=>?_⟩)))⟩
    have nqp:q≠p:=fun z=>by rw[z,hU]at hq;cases hq
    refine⟨_,by rw[ak (Ne.symm nqp)];exact hU,_,ab,?_,(hB.same (ao.new hq)).upd,keep _ _ (sU.trans (ao.new hq)),?_⟩
    ·have h1:=jF (f:=twE) (n:=5) (fun _=>rfl) ((st.evs.map e5).take i)
     rw[List.length_take,List.length_map]at h1
     have h2:(tellWorks st).length=3*st.works.length:=by rw[Bg];exact flw
     simp only[List.length_map,List.length_cons,List.length_nil,List.length_append]
     omega
    ·rw[ab,take_snoc hi,List.flatMap_append]
     simp[twE]
   ·rintro σ U ⟨sU,hU,x,y,z,rfl⟩
    rw[List.take_length,←Ek]at hU
    simp![tC]
    exact k U p sU hp hU
theorem Du (T:Txt K mg) (G6:OkD P w K mg base 7 "verdict" ["works","evidence","kind","u","v","amount"] kU):OkD P w K mg base 8 "idle" ["works","evidence","key"] y8:=by
 obtain⟨f,fd,hm,F,b⟩:=T.EZ
 refine⟨f,fd,hm,F.kp,b,F.ok o7 (fun vs H Q E h=>?_) (fun cdv A outer s H vs Q E hr h=>?_)⟩
 ·obtain⟨a,b,s,k,rfl,_⟩:=h
  rfl
 ·obtain⟨a,b,st,key,rfl,⟨ws,es,hW,hE,R,nab⟩,k⟩:=h
  have hu:=bR hr
  refine⟨_,(ae (aK (cR (bu hu (pv 2) (pv 1)) rfl) (ag (aq (aX (aa (aQ rfl T.cH) ah)))) az)
   (ae (aI (i:=3) o7.nd rfl (Or.inl rfl) (dj eI (by rfl) T.m5 boot_dict (aa (pv 1) ah)))
   (ae (aI (i:=4) o7.nd rfl (Or.inl rfl) (qb (pv 3) (pv 2) ⟨rfl,rfl,rfl,rfl⟩))
   (ae (aI (i:=5) o7.nd rfl (Or.inl rfl) (cz aT (aB G6 hr rfl (aa (pv 0) (aa (pv 3) (aa (aH (aL (K:=K) rfl) (pv 4) aj (fun _ _=>rfl)) (aa (aH (aL (K:=K) rfl) (pv 4) aj (fun _ _=>rfl)) (aa (aH (aL (K:=K) rfl) (pv 4) aj (fun _ _=>rfl)) (aa (aH (aL (K:=K) rfl) (pv 4) aj (fun _ _=>rfl)) ah))))))) (aQ rfl T.gR) (aD _)))
   (ag (aq (aX (aa (cF (cE (pv 5)) aj aj) ah)))))))),?_⟩
  simp![bP,uj]
  obtain⟨le,ee,hd,htup⟩:=id hE
  have hd:H b=some (.dK (ay fE le)):=hd
  refine⟨_,cn hd,?_⟩
  have hev:=yC R ee key
  cases hf:evOf st key with
  |none=>
   rw[hf]at hev
   have hv:cp (ay fE le) (iK key)=none:=by
    cases z:cp (ay fE le) (iK key) with
    |none=>rfl
    |some _=>rw[z]at hev;cases hev
   rw[if_pos hv]
   have e:(step st (.idle key)).2=[-6]:=by
    show (match evOf st key with | none=>(st,[-6]) | some x=>_).2=_
    rw[hf]
   rw[e]at k
   exact⟨by decide,fun q hq=>k _ q (ao.new hq) hq ab⟩
  |some x=>
   have hxm:=List.mem_of_find?_eq_some hf
   have hxk:x.key=key:=by simpa using List.find?_some hf
   obtain⟨p,hp,ep⟩:∃ p∈le,p.2=e5 x:=by
    have:e5 x∈es:=R.AH.mpr ⟨x,hxm,rfl⟩
    rw[ee]at this
    obtain⟨p,hp,e⟩:=List.mem_map.mp this
    exact⟨p,hp,e⟩
   have nde:(le.map fun p=>fE p.2).Nodup:=by
    have:=R.end_
    rw[ee,List.map_map]at this
    exact this
   have hv:cp (ay fE le) (iK key)=some (.ref p.1):=by
    have:=gH nde hp
    rw[ep]at this
    rw[←hxk]
    exact this
   rw[hv,if_neg (by simp)]
   refine⟨_,hd,fun q hq=>?_⟩
   have sq:ao H (upd H q (.dK (ay fE le))):=ao.new hq
   refine⟨.inl ⟨_,.inl ab⟩,_,ab,iK key,rfl,_,hv,?_⟩
   rw[o5,pV]
   have s1:ao H (upd H q (.dK (ay fE (le.filter fun p=>decide (fE p.2≠key))))):=ao.new hq
   have hT2:SqT K (upd H q (.dK (ay fE (le.filter fun p=>decide (fE p.2≠key))))) p.1 [.int x.kind,.int x.a,.int x.b,.int x.g]:=SqT.of (by
    have:=htup p hp
    rw[ep]at this
    exact s1 _ _ this)
   have R2:=R.without key
   have hE2:Evs (upd H q (.dK (ay fE (le.filter fun p=>decide (fE p.2≠key))))) q (es.filter fun e=>decide (e.1≠key)):=by
    refine⟨le.filter fun p=>decide (fE p.2≠key),?_,ab,fun z hz=>s1 _ _ (htup z (List.mem_filter.mp hz).1)⟩
    rw[ee,List.filter_map]
    rfl
   have ok:=R.wf.ev x hxm
   have k0:=ok.k0
   have k3:=ok.k3
   refine ixt hT2 (ax (j:=0) rfl) (ixt hT2 (ax (j:=1) rfl) (ixt hT2 (ax (j:=2) rfl) (ixt hT2 (ax (j:=3) rfl) ?_)))
   refine⟨a,q,ws,_,withoutEv st key,x.kind,x.a,x.b,x.g,rfl,hW.same s1,hE2,R2,k0,k3,(dC R).mp ok.a,fun h2=>(dC R).mp (ok.hi h2).1,fun H2 s2=>⟨rfl,?_⟩⟩
   have el:limOf ⟨0,x.kind,x.a,x.b,x.g⟩=limOf x:=rfl
   have ends:=mn ok
   have hone:vd (withoutEv st key) x.kind x.a x.b x.g=1↔implied (withoutEv st key) (limOf x)=true:=by
    have:=Eg (s:=withoutEv st key) R2.wf (kind:=x.kind) (u:=x.a) (v:=x.b) (g:=x.g) (by rw[el];exact ends.1) (by rw[el];exact ends.2)
    rw[el]at this
    exact this
   have e:(step st (.idle key)).2=[if implied (withoutEv st key) (limOf x)=true then 1 else 0]:=by
    show (match evOf st key with | none=>(st,[-6]) | some x=>(st,[if implied (withoutEv st key) (limOf x)=true then 1 else 0])).2=_
    rw[hf]
   rw[e]at k
   have s12:=s1.trans s2
   by_cases c:implied (withoutEv st key) (limOf x)=true
   ·rw[if_pos c]at k
    exact .inr ⟨by rw[hone.mpr c],by decide,fun g hg=>k _ g (s12.trans (ao.new hg)) (s12.free hg) ab⟩
   ·rw[if_neg c]at k
    exact .inl ⟨fun z=>c (hone.mp (V.int.inj z)),by decide,fun g hg=>k _ g (s12.trans (ao.new hg)) (s12.free hg) ab⟩
theorem xW (T:Txt K mg) (Z:Cat K mg C) (GB:OkM P w K mg base C 2 "claim_refusal" ["self","kind","u","v","amount"] (er K C)) (G6:OkD P w K mg base 7 "verdict" ["works","evidence","kind","u","v","amount"] kU):OkD P w K mg base 8 "try_out" ["catalogue","kind","u","v","amount"] (pC K C):=by
 obtain⟨f,fd,hm,F,b⟩:=T.AN
 refine⟨f,fd,hm,F.kp,b,F.ok pL (fun vs H Q E h=>?_) (fun cdv A outer s H vs Q E hr h=>?_)⟩
 ·obtain⟨c,s,kind,u,v,g,rfl,_⟩:=h
  rfl
 ·obtain⟨c,st,kind,u,v,g,rfl,hC,k⟩:=h
  refine⟨_,(ae (aK (dQ (pZ cG cG (aQ rfl T.dm) (pv 1) (aQ rfl T.gQ))) (ag (aq (aX (aa (aQ rfl T.yx) ah)))) az)
   (ae (aI (i:=5) pL.nd rfl (Or.inl rfl) (fv (pv 0) Z.cl GB hr (aa (pv 1) (aa (pv 2) (aa (pv 3) (aa (pv 4) ah))))))
   (ae (aK (aA kK (pv 5) aj (aD _)) (ag (aq (aX (aa (pv 5) ah)))) az)
   (ag (aq (aX (aa (aB G6 hr rfl (aa (cq (pv 0) rfl) (aa (cq (pv 0) rfl) (aa (pv 1) (aa (pv 2) (aa (pv 3) (aa (pv 4) ah))))))) ah))))))),?_⟩
  simp![-List.lookup_eq_none_iff]
  have bad:(kind < 0∨3 < kind)→(1≤sizeLine∧∀ (p:Addr),H p=none→Q (V.ref p) (upd H p (HO.lst [V.int (-13)]))):=by
   intro hb
   have e:(step st (.test kind u v g)).2=[-13]:=by
    show (if kind < 0∨3 < kind then (st,[-13]) else _).2=_
    rw[if_pos hb]
   rw[e]at k
   exact⟨by decide,fun q hq=>k _ q (ao.new hq) hq ab⟩
  by_cases c0:0≤kind
  ·rw[if_pos c0]
   by_cases c3:kind≤3
   ·rw[if_pos c3]
    obtain⟨dx,fs,h1,h2⟩:=hC.obj (m:="claim_refusal") (by decide +kernel) (by decide +kernel)
    refine⟨dx,fs,h1,h2,c,kind,u,v,g,st,rfl,hC,c0,c3,fun H1 s1=>⟨_,rfl,?_⟩⟩
    have e0:(step st (.test kind u v g)).2=if fault st kind u v g≠0 then [fault st kind u v g] else [vd st kind u v g]:=by
     show (if kind < 0∨3 < kind then (st,[-13]) else if fault st kind u v g≠0 then (st,[fault st kind u v g]) else if against st (limOf ⟨0,kind,u,v,g⟩)=true then (st,[0]) else if implied st (limOf ⟨0,kind,u,v,g⟩)=true then (st,[1]) else (st,[2])).2=_
     rw[if_neg (by omega)]
     unfold vd
     repeat' split
     all_goals rfl
    have fl:fault st kind u v g≠0↔fault st kind u v g < 0:=by
     unfold fault
     repeat' split
     all_goals omega
    by_cases cf:fault st kind u v g < 0
    ·rw[if_pos cf]
     rw[e0,if_pos (fl.mpr cf)]at k
     exact⟨by decide,fun q hq=>k _ q (s1.trans (ao.new hq)) (s1.free hq) ab⟩
    ·rw[if_neg cf]
     have f0:fault st kind u v g=0:=by
      by_cases z:fault st kind u v g=0
      ·exact z
      ·exact absurd (fl.mp z) cf
     rw[e0,if_neg (by rw[f0];simp)]at k
     obtain⟨dw,de,ws,es,O0,R⟩:=hC
     have O:=O0.same s1
     have hku:known st u=true:=by
      cases z:known st u with
      |true=>rfl
      |false=>
       exfalso
       unfold fault at f0
       rw[if_pos z]at f0
       omega
     have hkv:2≤kind→known st v=true:=fun h2=>by
      cases z:known st v with
      |true=>rfl
      |false=>
       exfalso
       unfold fault at f0
       rw[if_neg (by rw[hku];decide),if_neg (by omega),if_pos z]at f0
       omega
     refine O.fw Z rfl (O.fe Z rfl ⟨dw,de,ws,es,st,kind,u,v,g,rfl,O.wk,O.ev,R,c0,c3,R.known.mp hku,fun h2=>R.known.mp (hkv h2),fun H2 s2=>⟨by decide,fun q hq=>k _ q ((s1.trans s2).trans (ao.new hq)) ((s1.trans s2).free hq) ab⟩⟩)
   ·rw[if_neg c3]
    exact bad (.inr (by omega))
  ·rw[if_neg c0]
   exact bad (.inl (by omega))
end
def eZ (K:PySem.W.Frag):Addr:=match PySem.W.tabIn K "list_of" with
 |some (_,p)=>p
 |none=>0
def EL:Pos:=⟨452,33,452,66⟩
def F6:Str:=("list_of" : Str) ++ ".<locals>." ++ "<lambda>"
def Tab (K:PySem.W.Frag) (H:Hp):Prop:=TabAt (eZ K) EL F6 H
structure A6 (K:PySem.W.Frag) (mg:Str→Option Value) (base:Heap):Prop where
 ex:∃ c,PySem.W.tabIn K "list_of"=some (c,eZ K)∧PySem.W.CodeHd base c (eZ K)
 gP:mainGlobals≠eZ K
 bt:base.BuiltinsAt mg (eZ K)
 kin:K.In base
 ns:base.Ns mainGlobals mg
theorem F7 {K:PySem.W.Frag}{mg:Str→Option Value}{base:Heap}{f:Addr}{oc:Value}{od:Option Addr}{fd:FuncData}{osl:Array (Option Value)}(L:A6 K mg base) (hm:mg "list_of"=some (.ref f)) (lk:K.lookup f=some ⟨oc,od,.func fd,osl⟩):Fc mg base fd.code (eZ K):=by
 obtain⟨c,h1,h2⟩:=L.ex
 exact⟨⟨c,PySem.W.law_code L.kin L.ns h1 hm (L.kin _ _ lk) rfl,h2⟩,L.gP,L.bt⟩
theorem EJ {names:List (Str×NameKind)}{y:Str}(h:(names.all fun p=>(p.1 == y) || !(p.2 == .cell || p.2 == .free))=true):∀ z,names.lookup z=some .cell∨names.lookup z=some .free→z=y:=by
 intro z hz
 have key:∀ k,names.lookup z=some k→(k == NameKind.cell || k == NameKind.free)=true→z=y:=by
  intro k e hk
  have:=List.all_eq_true.mp h _ (PySem.mem_of_lookup e)
  rw[hk]at this
  simpa using this
 rcases hz with e | e
 ·exact key _ e rfl
 ·exact key _ e rfl
theorem Tab.same {K:PySem.W.Frag}{H H':Hp}(h:Tab K H) (s:ao H H'):Tab K H':=by
 rcases h with h | ⟨c,h1,h2⟩
 ·exact .inl (s _ _ h)
 ·exact .inr ⟨c,s _ _ h1,s _ _ h2⟩
theorem Tab.tbl {K:PySem.W.Frag}{H:Hp}(h:Tab K H):∃ ps,H (eZ K)=some (.tbl ps):=by
 rcases h with h | ⟨c,h1,h2⟩
 ·exact⟨_,h⟩
 ·exact⟨_,h1⟩
def pF (K:PySem.W.Frag):Sp:=fun vs H Q _=>∃ (a b:Addr) (s:State),vs=[.ref a,.ref b]∧WE H a b s∧Tab K H∧∀ H' l,But (eZ K) H H'→H l=none→H' l=some (.lst ((step s .list).2.map V.int))→Tab K H'→Q (.ref l) H'
def LoI (H2:Hp) (a b d p:Addr) (ks:List Int) (t:aZ) (i:Nat) (σ:L2.St) (U:Hp):Prop:=But p H2 U∧U p=some (.lst ((0 :: (ks.take i).flatMap fun k=>[k,tf t k]).map V.int))∧∃ x,σ=[some (V.ref a),some (V.ref b),some (V.ref d),some (V.ref p),x]
section
variable {P:Program}{w:World}{K:PySem.W.Frag}{mg:Str→Option Value}{base:Heap}{C:Addr}
theorem x9 (T:Txt K mg) (LT:A6 K mg base) (Gx:OkD P w K mg base 2 "latest_days" ["works","evidence"] bx):OkD P w K mg base 7 "list_of" ["works","evidence"] (pF K):=by
 obtain⟨f,fd,hm,F,b⟩:=T.AS
 obtain⟨oc,od,kV_,doc,pm,an,cdv,ct,osl,rfl,lk,hcd⟩:=id F.ex
 have LB:=F7 LT hm lk
 refine⟨f,_,hm,F.kp,b,Ed lk hcd hJ (fun vs H Q E h=>?_) (fun A outer s H vs Q E hr h=>?_)⟩
 ·obtain⟨a,b,s,rfl,_⟩:=h
  rfl
 ·obtain⟨a,b,st,rfl,⟨ws,es,hW,hE,R,nab⟩,HU,k⟩:=h
  have hu:=bR hr
  suffices hh:∃ t,PSs (u7 CX0 P w K mg base ["works","evidence","latest","answer","key"] "list_of" (au jS) f cdv A outer s H E).nox (cM jS) t∧t { nx:=fun _ H'=>Q .non H',rt:=Q } (L2.start ["works","evidence","latest","answer","key"] [.ref a,.ref b]) H by
   obtain⟨t,h1,h2⟩:=hh
   exact⟨t,h1.nox,h2⟩
  refine⟨_,(ae (aI (i:=2) hJ.nd rfl (Or.inr rfl) (aB Gx hr rfl (aa (pv 0) (aa (pv 1) ah))))
   (ae (aI (i:=3) hJ.nd rfl (Or.inl rfl) (aX (aa aj ah)))
   (ae (bE PassesOwn.never rfl (di (Ac (x:="work") (y:="latest") (j:=2) (aa (pv 0) ah) rfl hr LB rfl T.jx rfl rfl rfl rfl rfl (by decide +kernel) rfl rfl (EJ (by decide +kernel)) (by decide) rfl rfl rfl (fun _ _ _ _ _=>rfl) (fun _ _ _ _=>cK (aa (a9 (bR (hr.in1.in1.deeper _)) (pv 1) (pv 0) (fun _ _=>rfl)) (aa (pv 0) ah))))) (aJ (i:=4) hJ.nd rfl (Or.inl rfl)) (ag (eL (oe PySem.F.plainAttrs_list PySem.F.slot_list_extend PySem.F.type_list_extend jX (pv 3) (aa (aX (aa (pv 4) (aa (a9 hu (pv 2) (pv 4) (fun _ _=>rfl)) ah))) ah)))))
   (ag (aq (pv 3)))))),?_⟩
  simp![tC]
  have h16:sizeLine=16777216:=sizeLine_eq
  have w40:ws.length≤40:=by rw[R.lz];exact R.wf.wn
  have Hn:es.length≤100:=by rw[R.oZ];exact R.wf.en
  obtain⟨ps,hps⟩:=HU.tbl
  obtain⟨t,b2,Tp,_⟩:=tops R
  refine⟨a,b,ws,es,rfl,hW,hE,R.wnd,ein R,w40,Hn,fun H1 x s1 hx=>?_⟩
  rw[show bo ws (es.map fun e=>e.2)=some t from Tp.at_]at hx
  obtain⟨d,rfl,hd0,hd⟩:=hx
  refine⟨by decide,fun p hp=>?_⟩
  have s2:=ao.new (o:=HO.lst [V.int 0]) hp
  have s12:=s1.trans s2
  obtain⟨lw,ew,hdw,htw⟩:=hW.same s12
  have hdw:(upd H1 p (.lst [V.int 0])) a=some (.dK (ay fW lw)):=hdw
  have hdP:d≠eZ K:=fun z=>by rw[z,hps]at hd0;cases hd0
  have hpP:p≠eZ K:=fun z=>by rw[z,s1 _ _ hps]at hp;cases hp
  have JL:lw.length=ws.length:=by rw[ew,List.length_map]
  have ekw:(lw.map fun q=>q.2.1)=ky ws:=by unfold ky;rw[ew,List.map_map];rfl
  refine⟨_,rfl,a,d,lw.map fun q=>(q.2.1,V.ref q.1),t,rfl,by rw[List.map_map];exact hdw,by rw[List.length_map];omega,rfl,s2 _ _ hd,hdP,fun q hq=>?_,HU.same s12,fun H2 D ks hB hD hD2 pk sk KH=>?_⟩
  ·obtain⟨q',hq',rfl⟩:=List.mem_map.mp hq
   exact⟨_,Tp.get (by rw[←ekw];exact List.mem_map.mpr ⟨q',hq',rfl⟩)⟩
  rw[List.map_map]at pk
  have pk:ks.Perm (ky ws):=by rw[←ekw];exact pk
  have hp2:H2 p=some (.lst [V.int 0]):=hB _ _ hpP ab
  have nDp:D≠p:=fun z=>by rw[z,ab]at hD;cases hD
  have bH:But (eZ K) H H2:=fun c o n e=>hB _ _ n (s12 _ _ e)
  have hpH:H p=none:=s1.free hp
  have hkl:ks.length≤40:=by rw[pk.length_eq];unfold ky;rw[List.length_map];exact w40
  have el:=As R Tp pk sk
  refine⟨D,rfl,⟨_,SqL.of hD2⟩,jE (D:={ nx:=Bk (kT 3) { nx:=fun _ H'=>Q V.non H',rt:=Q },rt:=Q }) (xs:=ks.map V.int) (fun i σ U=>LoI H2 a b d p ks t i σ U) ⟨fun c o _ e=>e,hp2,none,rfl⟩ (fun i σ U _ q=>SqL.of (q.1 _ _ nDp hD2)) ?_ ?_⟩
  ·rintro i x σ U hi ⟨hBU,hU,x4,rfl⟩
   rw[List.getElem?_map]at hi
   cases he:ks[i]? with
   |none=>rw[he]at hi;cases hi
   |some e=>
    rw[he]at hi
    cases hi
    have hil:i < ks.length:=(List.getElem?_eq_some_iff.mp he).1
    have hek:e∈ky ws:=pk.mem_iff.mp (List.mem_of_getElem? he)
    have hdp:d≠p:=fun z=>by rw[z,hp]at hd;cases hd
    have hdU:U d=some (.dK (aR t)):=hBU _ _ hdp (hB _ _ hdP (s2 _ _ hd))
    show Bm _ _ _ _
    simp![tBM,lT,dJ]
    refine⟨.inl ⟨rfl,_,SqL.of hU⟩,_,a6 hdU (Tp.get hek),by decide,fun q hq=>?_⟩
    have nqp:q≠p:=fun z=>by rw[z,hU]at hq;cases hq
    refine⟨_,by rw[ak (Ne.symm nqp)];exact hU,_,ab,?_,(hBU.same (ao.new hq)).upd,?_,_,rfl⟩
    ·have:=jF (f:=fun k=>[k,tf t k]) (n:=2) (fun _=>rfl) (ks.take i)
     rw[List.length_take]at this
     simp only[List.length_map,List.length_cons,List.length_nil]
     omega
    ·rw[ab,take_snoc he,List.flatMap_append]
     simp
  ·rintro σ U ⟨hBU,hU,x4,rfl⟩
   rw[List.length_map,List.take_length]at hU
   simp![tC]
   refine k U p (fun c o n e=>hBU _ _ (aF e hpH) (bH _ _ n e)) hpH ?_ ?_
   ·rw[hU]
    show _=some (HO.lst ((0 :: (listed st).flatMap fun p=>[p.1,p.2]).map V.int))
    rw[el,List.flatMap_map]
   ·rcases KH with z | ⟨c,z1,z2⟩
    ·exact .inl (hBU _ _ (Ne.symm hpP) z)
    ·exact .inr ⟨c,hBU _ _ (Ne.symm hpP) z1,hBU _ _ (fun y=>by rw[y,hp2]at z2;cases z2) z2⟩
end
end Dw
namespace Dw
open PySem PySem.Spec PyProof.Rows L2
open Vbnlaa StM WayM RepM UpM VerM ChM SrtM FlatM
theorem bb.same {C c:Addr}{H H':Hp}{s:State}(h:bb C H c s) (k:ao H H'):bb C H' c s:=by
 obtain⟨dw,de,ws,es,O,R⟩:=h
 exact⟨dw,de,ws,es,O.same k,R⟩
theorem bb.but {C c m:Addr}{H H':Hp}{s:State}{ps:Array Value}(h:bb C H c s) (hm:H m=some (.tbl ps)) (k:But m H H'):bb C H' c s:=by
 obtain⟨dw,de,ws,es,⟨⟨dx,h1⟩,⟨lw,ew,hw,tw⟩,⟨le,ee,he,te⟩,hne⟩,R⟩:=h
 have f:∀ c o,H c=some o→(∀ ps,o ≠ .tbl ps)→H' c=some o:=fun c o e n=>k _ _ (fun z=>by rw[z,hm]at e;exact n _ (Option.some.inj e).symm) e
 exact⟨dw,de,ws,es,⟨⟨dx,f _ _ h1 (fun ps z=>by cases z)⟩,⟨lw,ew,f _ _ hw (fun ps z=>by cases z),fun q hq=>f _ _ (tw q hq) (fun ps z=>by cases z)⟩,⟨le,ee,f _ _ he (fun ps z=>by cases z),fun q hq=>f _ _ (te q hq) (fun ps z=>by cases z)⟩,hne⟩,R⟩
theorem vF (s:State) (k:Int):(step s (.latest k)).1=s:=by
 unfold Vbnlaa.step
 simp only
 repeat' split
 all_goals rfl
theorem rE (s:State) (k:Int):(step s (.earliest k)).1=s:=by
 unfold Vbnlaa.step
 simp only
 repeat' split
 all_goals rfl
theorem xK (s:State) (u v:Int):(step s (.apart u v)).1=s:=by
 unfold Vbnlaa.step
 simp only
 repeat' split
 all_goals rfl
theorem xI (s:State) (u v:Int):(step s (.order u v)).1=s:=by
 unfold Vbnlaa.step
 simp only
 repeat' split
 all_goals rfl
theorem Bp (s:State) (k:Int):(step s (.why k)).1=s:=by
 unfold Vbnlaa.step
 simp only
 repeat' split
 all_goals rfl
theorem xJ (s:State) (k:Int) (l:List Int):(step s (.bound k l)).1=s:=by
 unfold Vbnlaa.step
 simp only
 repeat' split
 all_goals rfl
theorem z8 (s:State) (k:Int):(step s (.idle k)).1=s:=by
 unfold Vbnlaa.step
 simp only
 repeat' split
 all_goals rfl
theorem z7 (s:State) (q u v g:Int):(step s (.test q u v g)).1=s:=by
 unfold Vbnlaa.step
 simp only
 repeat' split
 all_goals rfl
def xA (K:PySem.W.Frag) (C:Addr):Sp:=fun vs H Q _=>∃ (c na ra:Addr) (p:Int) (ns row:List Int) (x:List (List Int)) (y:Vbnlaa.Call) (s:State),vs=[.ref c,.int p,.ref na,.ref ra]∧SqL K H na (ns.map V.int)∧SqL K H ra (row.map V.int)∧bb C H c s∧(x=[p :: ns]∨x=[p :: ns,row])∧bG x y∧11≤p∧Tab K H ∧
 ∀ H' l,bb C H' c (step s y).1→But (eZ K) H H'→Tab K H'→H l=none→H' l=some (.lst ((step s y).2.map V.int))→Q (.ref l) H'
section
variable {P:Program}{w:World}{K:PySem.W.Frag}{mg:Str→Option Value}{base:Heap}{C:Addr}
theorem EC (T:Txt K mg) (Z:Cat K mg C) (Hl:OkD P w K mg base 4 "ask_of_work" ["works","evidence","call","key"] jb) (GR:OkD P w K mg base 6 "ask_of_two_works" ["works","evidence","call","u","v"] fh) (IQ:OkD P w K mg base 3 "bound" ["works","evidence","key","chain"] (vy K)) (Ic:OkD P w K mg base 7 "list_of" ["works","evidence"] (pF K))
  (JG:OkD P w K mg base 1 "told" ["works","evidence"] yZ) (JH:OkD P w K mg base 8 "idle" ["works","evidence","key"] y8) (HZ:OkD P w K mg base 8 "try_out" ["catalogue","kind","u","v","amount"] (pC K C)):OkD P w K mg base 9 "ask" ["catalogue","call","numbers","row"] (xA K C):=by
 obtain⟨f,fd,hm,F,b⟩:=T.FP
 refine⟨f,fd,hm,F.kp,b,F.ok xG (fun vs H Q E h=>?_) (fun cdv A outer s H vs Q E hr h=>?_)⟩
 ·obtain⟨c,na,ra,p,ns,row,x,y,s,rfl,_⟩:=h
  rfl
 ·obtain⟨c,na,ra,p,ns,row,x,y,st,rfl,hn,hrow,hC,hx,hA,h11,HU,k⟩:=h
  refine⟨_,(ae (aI (i:=4) xG.nd rfl (Or.inl rfl) (cq (pv 0) rfl))
   (ae (aI (i:=5) xG.nd rfl (Or.inl rfl) (cq (pv 0) rfl))
   (ae (aK (aA gK (pv 1) (cK (aa (aQ rfl T.kO) (aa (aQ rfl T.iN) (aa (aQ rfl T.yw) ah)))) rfl) (ag (aq (aB Hl hr rfl (aa (pv 4) (aa (pv 5) (aa (pv 1) (aa (aH (aE (K:=K) rfl) (pv 2) aj (fun _ _=>rfl)) ah))))))) az)
   (ae (aK (aA gK (pv 1) (cK (aa (aQ rfl T.mD) (aa (aQ rfl T.uU) ah))) rfl) (ag (aq (aB GR hr rfl (aa (pv 4) (aa (pv 5) (aa (pv 1) (aa (aH (aE (K:=K) rfl) (pv 2) aj (fun _ _=>rfl)) (aa (aH (aE (K:=K) rfl) (pv 2) aj (fun _ _=>rfl)) ah)))))))) az)
   (ae (aK (aA aT (pv 1) (aQ rfl T.uV) (aD _)) (ag (aq (aB IQ hr rfl (aa (pv 4) (aa (pv 5) (aa (aH (aE (K:=K) rfl) (pv 2) aj (fun _ _=>rfl)) (aa (pv 3) ah))))))) az)
   (ae (aK (aA aT (pv 1) (aQ rfl T.qM) (aD _)) (ag (aq (aB Ic hr rfl (aa (pv 4) (aa (pv 5) ah))))) az)
   (ae (aK (aA aT (pv 1) (aQ rfl T.wI) (aD _)) (ag (aq (aB JG hr rfl (aa (pv 4) (aa (pv 5) ah))))) az)
   (ae (aK (aA aT (pv 1) (aQ rfl T.wM) (aD _)) (ag (aq (aB JH hr rfl (aa (pv 4) (aa (pv 5) (aa (aH (aE (K:=K) rfl) (pv 2) aj (fun _ _=>rfl)) ah)))))) az)
   (ag (aq (aB HZ hr rfl (aa (pv 0) (aa (aH (aE (K:=K) rfl) (pv 2) aj (fun _ _=>rfl)) (aa (aH (aE (K:=K) rfl) (pv 2) aj (fun _ _=>rfl)) (aa (aH (aE (K:=K) rfl) (pv 2) aj (fun _ _=>rfl)) (aa (aH (aE (K:=K) rfl) (pv 2) aj (fun _ _=>rfl)) ah)))))))))))))))),?_⟩
  obtain⟨ps,hps⟩:=HU.tbl
  obtain⟨dw,de,ws,es,O,R⟩:=id hC
  have hWE:WE H dw de st:=⟨ws,es,O.wk,O.ev,R,O.ne⟩
  have fin:(step st y).1=st→∀ H2,ao H H2→rz H2 Q (step st y).2:=fun e H2 s2 H3 l s3 hl0 hl=>k H3 l (by rw[e];exact hC.same (s2.trans s3)) (fun c o _ z=>s3 _ _ (s2 _ _ z)) (HU.same (s2.trans s3)) (s2.free hl0) hl
  simp![-List.lookup_eq_none_iff]
  cases hA with
  |read ht=>rcases hx with hx | hx<;>cases hx;exact absurd h11 (by decide)
  |show_ c' d=>rcases hx with hx | hx<;>cases hx;exact absurd h11 (by decide)
  |weekday d=>rcases hx with hx | hx<;>cases hx;exact absurd h11 (by decide)
  |work ht=>rcases hx with hx | hx<;>cases hx;exact absurd h11 (by decide)
  |restate ht=>rcases hx with hx | hx<;>cases hx;exact absurd h11 (by decide)
  |drop key=>rcases hx with hx | hx<;>cases hx;exact absurd h11 (by decide)
  |notBefore e u d=>rcases hx with hx | hx<;>cases hx;exact absurd h11 (by decide)
  |notAfter e u d=>rcases hx with hx | hx<;>cases hx;exact absurd h11 (by decide)
  |follows e u v g=>rcases hx with hx | hx<;>cases hx;exact absurd h11 (by decide)
  |within e u v g=>rcases hx with hx | hx<;>cases hx;exact absurd h11 (by decide)
  |withdraw e=>rcases hx with hx | hx<;>cases hx;exact absurd h11 (by decide)
  |latest key=>
   rcases hx with hx | hx<;>cases hx
   refine O.fw Z rfl (O.fe Z rfl ⟨by decide,fun q hq=>⟨q,_,rfl,.inr (SqT.of ab),rfl,rfl,?_⟩⟩)
   have t1:=ao.new (o:=HO.tup [V.int 11,V.int 12,V.int 15]) hq
   exact .inr ⟨rfl,ixl (t1.seq hn) (ax (j:=0) rfl) ⟨dw,de,st,11,key,_,rfl,hWE.same t1,.inl ⟨rfl,rfl⟩,fin (vF _ _) _ t1⟩⟩
  |earliest key=>
   rcases hx with hx | hx<;>cases hx
   refine O.fw Z rfl (O.fe Z rfl ⟨by decide,fun q hq=>⟨q,_,rfl,.inr (SqT.of ab),rfl,rfl,?_⟩⟩)
   have t1:=ao.new (o:=HO.tup [V.int 11,V.int 12,V.int 15]) hq
   exact .inr ⟨rfl,ixl (t1.seq hn) (ax (j:=0) rfl) ⟨dw,de,st,12,key,_,rfl,hWE.same t1,.inr (.inl ⟨rfl,rfl⟩),fin (rE _ _) _ t1⟩⟩
  |apart u v=>
   rcases hx with hx | hx<;>cases hx
   refine O.fw Z rfl (O.fe Z rfl ⟨by decide,fun q hq=>⟨q,_,rfl,.inr (SqT.of ab),rfl,rfl,?_⟩⟩)
   have t1:=ao.new (o:=HO.tup [V.int 11,V.int 12,V.int 15]) hq
   refine .inl ⟨rfl,by decide,fun q2 hq2=>⟨q2,_,rfl,.inr (SqT.of ab),rfl,rfl,?_⟩⟩
   have t2:=t1.trans (ao.new (o:=HO.tup [V.int 13,V.int 14]) hq2)
   exact .inr ⟨rfl,ixl (t2.seq hn) (ax (j:=0) rfl) (ixl (t2.seq hn) (ax (j:=1) rfl) ⟨dw,de,st,13,u,v,_,rfl,hWE.same t2,.inl ⟨rfl,rfl⟩,fin (xK _ _ _) _ t2⟩)⟩
  |order u v=>
   rcases hx with hx | hx<;>cases hx
   refine O.fw Z rfl (O.fe Z rfl ⟨by decide,fun q hq=>⟨q,_,rfl,.inr (SqT.of ab),rfl,rfl,?_⟩⟩)
   have t1:=ao.new (o:=HO.tup [V.int 11,V.int 12,V.int 15]) hq
   refine .inl ⟨rfl,by decide,fun q2 hq2=>⟨q2,_,rfl,.inr (SqT.of ab),rfl,rfl,?_⟩⟩
   have t2:=t1.trans (ao.new (o:=HO.tup [V.int 13,V.int 14]) hq2)
   exact .inr ⟨rfl,ixl (t2.seq hn) (ax (j:=0) rfl) (ixl (t2.seq hn) (ax (j:=1) rfl) ⟨dw,de,st,14,u,v,_,rfl,hWE.same t2,.inr ⟨rfl,rfl⟩,fin (xI _ _ _) _ t2⟩)⟩
  |why key=>
   rcases hx with hx | hx<;>cases hx
   refine O.fw Z rfl (O.fe Z rfl ⟨by decide,fun q hq=>⟨q,_,rfl,.inr (SqT.of ab),rfl,rfl,?_⟩⟩)
   have t1:=ao.new (o:=HO.tup [V.int 11,V.int 12,V.int 15]) hq
   exact .inr ⟨rfl,ixl (t1.seq hn) (ax (j:=0) rfl) ⟨dw,de,st,15,key,_,rfl,hWE.same t1,.inr (.inr ⟨rfl,rfl⟩),fin (Bp _ _) _ t1⟩⟩
  |bound hl=>
   rcases hx with hx | hx<;>cases hx
   refine O.fw Z rfl (O.fe Z rfl ⟨by decide,fun q hq=>⟨q,_,rfl,.inr (SqT.of ab),rfl,rfl,?_⟩⟩)
   have t1:=ao.new (o:=HO.tup [V.int 11,V.int 12,V.int 15]) hq
   refine .inl ⟨rfl,by decide,fun q2 hq2=>⟨q2,_,rfl,.inr (SqT.of ab),rfl,rfl,?_⟩⟩
   have t2:=t1.trans (ao.new (o:=HO.tup [V.int 13,V.int 14]) hq2)
   refine .inl ⟨rfl,?_⟩
   rw[if_pos rfl]
   exact(ixl (t2.seq hn) (ax (j:=0) rfl) ⟨dw,de,ra,st,_,row,rfl,hWE.same t2,t2.seq hrow,hl,fin (xJ _ _ _) _ t2⟩)
  |list=>
   rcases hx with hx | hx<;>cases hx
   refine O.fw Z rfl (O.fe Z rfl ⟨by decide,fun q hq=>⟨q,_,rfl,.inr (SqT.of ab),rfl,rfl,?_⟩⟩)
   have t1:=ao.new (o:=HO.tup [V.int 11,V.int 12,V.int 15]) hq
   refine .inl ⟨rfl,by decide,fun q2 hq2=>⟨q2,_,rfl,.inr (SqT.of ab),rfl,rfl,?_⟩⟩
   have t2:=t1.trans (ao.new (o:=HO.tup [V.int 13,V.int 14]) hq2)
   refine .inl ⟨rfl,dw,de,st,rfl,hWE.same t2,HU.same t2,fun H3 l hB hl0 hl hT3=>k H3 l ?_ (fun c o n e=>hB c o n (t2 _ _ e)) hT3 (t2.free hl0) hl⟩
   exact(hC.same t2).but (t2 _ _ hps) hB
  |told=>
   rcases hx with hx | hx<;>cases hx
   refine O.fw Z rfl (O.fe Z rfl ⟨by decide,fun q hq=>⟨q,_,rfl,.inr (SqT.of ab),rfl,rfl,?_⟩⟩)
   have t1:=ao.new (o:=HO.tup [V.int 11,V.int 12,V.int 15]) hq
   refine .inl ⟨rfl,by decide,fun q2 hq2=>⟨q2,_,rfl,.inr (SqT.of ab),rfl,rfl,?_⟩⟩
   have t2:=t1.trans (ao.new (o:=HO.tup [V.int 13,V.int 14]) hq2)
   exact .inl ⟨rfl,dw,de,st,rfl,hWE.same t2,fin rfl _ t2⟩
  |idle e=>
   rcases hx with hx | hx<;>cases hx
   refine O.fw Z rfl (O.fe Z rfl ⟨by decide,fun q hq=>⟨q,_,rfl,.inr (SqT.of ab),rfl,rfl,?_⟩⟩)
   have t1:=ao.new (o:=HO.tup [V.int 11,V.int 12,V.int 15]) hq
   refine .inl ⟨rfl,by decide,fun q2 hq2=>⟨q2,_,rfl,.inr (SqT.of ab),rfl,rfl,?_⟩⟩
   have t2:=t1.trans (ao.new (o:=HO.tup [V.int 13,V.int 14]) hq2)
   refine .inl ⟨rfl,?_⟩
   rw[if_neg (by decide),if_neg (by decide),if_neg (by decide),if_pos rfl]
   exact(ixl (t2.seq hn) (ax (j:=0) rfl) ⟨dw,de,st,e,rfl,hWE.same t2,fin (z8 _ _) _ t2⟩)
  |test kind u v g=>
   rcases hx with hx | hx<;>cases hx
   refine O.fw Z rfl (O.fe Z rfl ⟨by decide,fun q hq=>⟨q,_,rfl,.inr (SqT.of ab),rfl,rfl,?_⟩⟩)
   have t1:=ao.new (o:=HO.tup [V.int 11,V.int 12,V.int 15]) hq
   refine .inl ⟨rfl,by decide,fun q2 hq2=>⟨q2,_,rfl,.inr (SqT.of ab),rfl,rfl,?_⟩⟩
   have t2:=t1.trans (ao.new (o:=HO.tup [V.int 13,V.int 14]) hq2)
   refine .inl ⟨rfl,?_⟩
   rw[if_neg (by decide),if_neg (by decide),if_neg (by decide),if_neg (by decide)]
   exact(ixl (t2.seq hn) (ax (j:=0) rfl) (ixl (t2.seq hn) (ax (j:=1) rfl) (ixl (t2.seq hn) (ax (j:=2) rfl) (ixl (t2.seq hn) (ax (j:=3) rfl) ⟨c,st,kind,u,v,g,rfl,hC.same t2,fin (z7 _ _ _ _ _) _ t2⟩))))
end
end Dw
namespace Dw
open PySem PySem.Spec PyProof.Rows L2
open Vbnlaa StM WayM RepM FlatM
def ua (K:PySem.W.Frag) (c:Addr) (H H':Hp):Prop:=∀ b o,H b=some o→b≠c→b≠eZ K→(∀ kvs,o ≠ .dK kvs)→H' b=some o
theorem ua.of {K:PySem.W.Frag}{c:Addr}{H H':Hp}(k:bC c H H'):ua K c H H':=fun b o e n _ d=>k b o e n d
theorem Tab.keep {K:PySem.W.Frag}{C c:Addr}{H H':Hp}{s:State}(h:Tab K H) (hC:bb C H c s) (k:bC c H H'):Tab K H':=by
 obtain⟨dw,de,ws,es,⟨⟨dx,hc⟩,_⟩,_⟩:=hC
 rcases h with h | ⟨q,h1,h2⟩
 ·exact .inl (k _ _ h (fun z=>by rw[z,hc]at h;cases h) (fun kvs z=>by cases z))
 ·exact .inr ⟨q,k _ _ h1 (fun z=>by rw[z,hc]at h1;cases h1) (fun kvs z=>by cases z),k _ _ h2 (fun z=>by rw[z,hc]at h2;cases h2) (fun kvs z=>by cases z)⟩
theorem ue {t:List Int}(h:VbnlaaNeutral.text60 t=true):t.map V.int=(VbnlaaNeutral.text t).map nV:=by
 rw[m6,(lC h).2.2]
theorem text_len {t:List Int}(h:VbnlaaNeutral.text60 t=true):(VbnlaaNeutral.text t).length≤60:=by
 unfold VbnlaaNeutral.text
 rw[List.length_map]
 exact(lC h).1
def lH (K:PySem.W.Frag) (C:Addr):Sp:=fun vs H Q _=>∃ (c na ra:Addr) (p:Int) (ns row:List Int) (x:List (List Int)) (y:Vbnlaa.Call) (s:State),vs=[.ref c,.int p,.ref na,.ref ra]∧SqL K H na (ns.map V.int)∧SqL K H ra (row.map V.int)∧bb C H c s∧(x=[p :: ns]∨x=[p :: ns,row])∧bG x y∧Tab K H ∧
 ∀ H' l,bb C H' c (step s y).1→ua K c H H'→Tab K H'→(∀ xs,H l≠some (.lst xs))→H' l=some (.lst ((step s y).2.map V.int))→Q (.ref l) H'
theorem BP {C c l:Addr}{H H':Hp}{s:State}(hC:bb C H c s) (k:bC c H H') (h:H' l=none):∀ xs,H l≠some (.lst xs):=by
 intro xs e
 obtain⟨dw,de,ws,es,⟨⟨dx,hc⟩,_⟩,_⟩:=hC
 rw[k _ _ e (fun z=>by rw[z,hc]at e;cases e) (fun kvs z=>by cases z)]at h
 cases h
theorem vM (s:State) (t:List Nat):step s (.read t)=(s,ux (readDate t)):=by
 unfold Vbnlaa.step ux
 simp only
 cases readDate t<;>rfl
theorem vC (s:State) (c d:Int):step s (.show_ c d)=(s,g9 c d):=by
 unfold Vbnlaa.step g9
 simp only
 cases calAt c with
 |none=>rfl
 |some q=>
  simp only
  split
  ·rfl
  ·cases Vbnlaa.shown q d.toNat<;>rfl
theorem add_one (s:State) (e:Ev):(addEv s e).2=[(addEv s e).2.headD 0]:=by
 unfold addEv
 repeat' split
 all_goals rfl
theorem A8 (s:State) (k:Int) (t:List Nat):(step s (.work k t)).2=[(step s (.work k t)).2.headD 0]:=by
 unfold Vbnlaa.step
 simp only
 repeat' split
 all_goals rfl
theorem vK (s:State) (k:Int) (t:List Nat):(step s (.restate k t)).2=[(step s (.restate k t)).2.headD 0]:=by
 unfold Vbnlaa.step
 simp only
 repeat' split
 all_goals rfl
theorem drop_one (s:State) (k:Int):(step s (.drop k)).2=[(step s (.drop k)).2.headD 0]:=by
 unfold Vbnlaa.step
 simp only
 repeat' split
 all_goals rfl
theorem uc (s:State) (k:Int):(step s (.withdraw k)).2=[(step s (.withdraw k)).2.headD 0]:=by
 unfold Vbnlaa.step
 simp only
 repeat' split
 all_goals rfl
section
variable {P:Program}{w:World}{K:PySem.W.Frag}{mg:Str→Option Value}{base:Heap}{C:Addr}
theorem uG (T:Txt K mg) (Z:Cat K mg C) (GC:OkD P w K mg base 6 "read_text" ["text"] (fq K)) (HH:OkD P w K mg base 5 "show_day" ["calendar","day"] nO) (GX:OkD P w K mg base 2 "weekday_answer" ["day"] fV)
  (Hf:OkD P w K mg base 8 "change_works" ["catalogue","call","numbers","row"] (iE K C)) (G2:OkD P w K mg base 5 "add_evidence" ["catalogue","call","numbers"] (fZ K C)) (HG:OkM P w K mg base C 1 "withdraw" ["self","key"] (nN K C)) (JT:OkD P w K mg base 9 "ask" ["catalogue","call","numbers","row"] (xA K C)):OkD P w K mg base 10 "answer_of" ["catalogue","call","numbers","row"] (lH K C):=by
 obtain⟨f,fd,hm,F,b⟩:=T.xg
 refine⟨f,fd,hm,F.kp,b,F.ok uu (fun vs H Q E h=>?_) (fun cdv A outer s H vs Q E hr h=>?_)⟩
 ·obtain⟨c,na,ra,p,ns,row,x,y,s,rfl,_⟩:=h
  rfl
 ·obtain⟨c,na,ra,p,ns,row,x,y,st,rfl,hn,hrow,hC,hx,hA,HU,k0⟩:=h
  have k:∀ H' l,bb C H' c (step st y).1→bC c H H'→(∀ xs,H l≠some (.lst xs))→H' l=some (.lst ((step st y).2.map V.int))→Q (.ref l) H':=fun H' l h1 h2 h3 h4=>k0 H' l h1 (.of h2) (HU.keep hC h2) h3 h4
  have HC:11≤p→∀ H2,ao H H2→xA K C [.ref c,.int p,.ref na,.ref ra] H2 Q E0:=fun h11 H2 s2=>⟨c,na,ra,p,ns,row,x,y,st,rfl,s2.seq hn,s2.seq hrow,hC.same s2,hx,hA,h11,HU.same s2,fun H3 l hC3 hB hT3 hl0 hl3=>k0 H3 l hC3 (fun b o e _ n _=>hB b o n (s2 _ _ e)) hT3 (fun xs z=>by rw[s2 _ _ z]at hl0;cases hl0) hl3⟩
  have fin:(step st y).2=[(step st y).2.headD 0]→∀ H1,bb C H1 c (step st y).1→bC c H H1→(1≤sizeLine∧∀ p,H1 p=none→Q (.ref p) (upd H1 p (.lst [one (step st y).2]))):=by
   intro e H1 h1 h2
   refine⟨by decide,fun p hp=>k _ p (h1.same (ao.new hp)) (h2.trans (bC.of (ao.new hp))) (BP hC h2 hp) ?_⟩
   rw[ab]
   show _=some (HO.lst (((step st y).2).map V.int))
   rw[e]
   rfl
  refine⟨_,(ae (aK (aA aT (pv 1) (aQ rfl T.wL) (aD _)) (ag (aq (aB GC hr rfl (aa (pv 3) ah)))) az)
   (ae (aK (aA aT (pv 1) (aQ rfl T.wJ) (aD _)) (ag (aq (aB HH hr rfl (aa (aH (aE (K:=K) rfl) (pv 2) aj (fun _ _=>rfl)) (aa (aH (aE (K:=K) rfl) (pv 2) aj (fun _ _=>rfl)) ah))))) az)
   (ae (aK (aA aT (pv 1) (aQ rfl T.qL) (aD _)) (ag (aq (aX (aa (aB GX hr rfl (aa (aH (aE (K:=K) rfl) (pv 2) aj (fun _ _=>rfl)) ah)) ah)))) az)
   (ae (aK (aA gK (pv 1) (cK (aa (aQ rfl T.oz) (aa (aQ rfl T.jD) (aa (aQ rfl T.wN) ah)))) rfl) (ag (aq (aX (aa (aB Hf hr rfl (aa (pv 0) (aa (pv 1) (aa (pv 2) (aa (pv 3) ah))))) ah)))) az)
   (ae (aK (aA gK (pv 1) (cK (aa (aQ rfl T.gi) (aa (aQ rfl T.gS) (aa (aQ rfl T.qN) (aa (aQ rfl T.kN) ah))))) rfl) (ag (aq (aX (aa (aB G2 hr rfl (aa (pv 0) (aa (pv 1) (aa (pv 2) ah)))) ah)))) az)
   (ae (aK (aA aT (pv 1) (aQ rfl T.oY) (aD _)) (ag (aq (aX (aa (fv (pv 0) Z.cl HG hr (aa (aH (aE (K:=K) rfl) (pv 2) aj (fun _ _=>rfl)) ah)) ah)))) az)
   (ag (aq (aB JT hr rfl (aa (pv 0) (aa (pv 1) (aa (pv 2) (aa (pv 3) ah))))))))))))),?_⟩
  simp![-List.lookup_eq_none_iff]
  cases hA with
  |read ht=>
   rcases hx with hx | hx<;>cases hx
   rw[if_pos rfl]
   refine⟨ra,_,rfl,by rw[←ue ht];exact hrow,text_len ht,fun H1 l s1 hl h1=>k H1 l (by rw[vM];exact hC.same s1) (bC.of s1) (fun xs=>by rw[hl];intro z;cases z) ?_⟩
   rw[vM]
   exact h1
  |show_ c' d=>
   rcases hx with hx | hx<;>cases hx
   rw[if_neg (by decide),if_pos rfl]
   refine ixl hn (ax (j:=0) rfl) (ixl hn (ax (j:=1) rfl) ⟨c',d,rfl,fun H1 l s1 hl h1=>k H1 l (by rw[vC];exact hC.same s1) (bC.of s1) (fun xs=>by rw[hl];intro z;cases z) ?_⟩)
   rw[vC]
   exact h1
  |weekday d=>
   rcases hx with hx | hx<;>cases hx
   rw[if_neg (by decide),if_neg (by decide),if_pos rfl]
   have e:step st (.weekday d)=(st,[if dayOk d=false then -9 else (Vbnlaa.weekday d.toNat:Int)]):=by
    show (if dayOk d=false then _ else _)=_
    split<;>rfl
   rw[e]at fin
   exact ixl hn (ax (j:=0) rfl) ⟨d,rfl,trivial,fun H1 s1=>fin rfl H1 (hC.same s1) (bC.of s1)⟩
  |work ht=>
   rcases hx with hx | hx<;>cases hx
   rw[if_neg (by decide),if_neg (by decide),if_neg (by decide)]
   refine⟨by decide,fun q hq=>⟨q,_,rfl,.inr (SqT.of ab),rfl,rfl,.inr ⟨rfl,?_⟩⟩⟩
   have s1:=ao.new (o:=HO.tup [V.int 3,V.int 4,V.int 5]) hq
   refine⟨c,na,ra,3,_,_,_,st,rfl,s1.seq hn,hC.same s1,.inl ⟨(by rw[←ue ht];exact s1.seq hrow),text_len ht,.inl ⟨rfl,rfl⟩⟩,fun H2 h2 k2=>fin (A8 _ _ _) H2 h2 ((bC.of s1).trans k2)⟩
  |restate ht=>
   rcases hx with hx | hx<;>cases hx
   rw[if_neg (by decide),if_neg (by decide),if_neg (by decide)]
   refine⟨by decide,fun q hq=>⟨q,_,rfl,.inr (SqT.of ab),rfl,rfl,.inr ⟨rfl,?_⟩⟩⟩
   have s1:=ao.new (o:=HO.tup [V.int 3,V.int 4,V.int 5]) hq
   refine⟨c,na,ra,4,_,_,_,st,rfl,s1.seq hn,hC.same s1,.inl ⟨(by rw[←ue ht];exact s1.seq hrow),text_len ht,.inr ⟨rfl,rfl⟩⟩,fun H2 h2 k2=>fin (vK _ _ _) H2 h2 ((bC.of s1).trans k2)⟩
  |drop key=>
   rcases hx with hx | hx<;>cases hx
   rw[if_neg (by decide),if_neg (by decide),if_neg (by decide)]
   refine⟨by decide,fun q hq=>⟨q,_,rfl,.inr (SqT.of ab),rfl,rfl,.inr ⟨rfl,?_⟩⟩⟩
   have s1:=ao.new (o:=HO.tup [V.int 3,V.int 4,V.int 5]) hq
   refine⟨c,na,ra,5,_,[],_,st,rfl,s1.seq hn,hC.same s1,.inr ⟨rfl,rfl⟩,fun H2 h2 k2=>fin (drop_one _ _) H2 h2 ((bC.of s1).trans k2)⟩
  |notBefore e u d=>
   rcases hx with hx | hx<;>cases hx
   rw[if_neg (by decide),if_neg (by decide),if_neg (by decide)]
   refine⟨by decide,fun q hq=>⟨q,_,rfl,.inr (SqT.of ab),rfl,rfl,.inl ⟨rfl,?_⟩⟩⟩
   have s1:=ao.new (o:=HO.tup [V.int 3,V.int 4,V.int 5]) hq
   refine⟨by decide,fun q2 hq2=>⟨q2,_,rfl,.inr (SqT.of ab),rfl,rfl,.inr ⟨rfl,?_⟩⟩⟩
   have s2:=s1.trans (ao.new (o:=HO.tup [V.int 6,V.int 7,V.int 8,V.int 9]) hq2)
   refine⟨c,na,6,_,⟨e,0,u,0,d⟩,st,rfl,s2.seq hn,hC.same s2,.inl ⟨rfl,rfl,rfl,rfl⟩,fun H2 h2 k2=>fin (add_one _ _) H2 h2 ((bC.of s2).trans k2)⟩
  |notAfter e u d=>
   rcases hx with hx | hx<;>cases hx
   rw[if_neg (by decide),if_neg (by decide),if_neg (by decide)]
   refine⟨by decide,fun q hq=>⟨q,_,rfl,.inr (SqT.of ab),rfl,rfl,.inl ⟨rfl,?_⟩⟩⟩
   have s1:=ao.new (o:=HO.tup [V.int 3,V.int 4,V.int 5]) hq
   refine⟨by decide,fun q2 hq2=>⟨q2,_,rfl,.inr (SqT.of ab),rfl,rfl,.inr ⟨rfl,?_⟩⟩⟩
   have s2:=s1.trans (ao.new (o:=HO.tup [V.int 6,V.int 7,V.int 8,V.int 9]) hq2)
   refine⟨c,na,7,_,⟨e,1,u,0,d⟩,st,rfl,s2.seq hn,hC.same s2,.inr (.inl ⟨rfl,rfl,rfl,rfl⟩),fun H2 h2 k2=>fin (add_one _ _) H2 h2 ((bC.of s2).trans k2)⟩
  |follows e u v g=>
   rcases hx with hx | hx<;>cases hx
   rw[if_neg (by decide),if_neg (by decide),if_neg (by decide)]
   refine⟨by decide,fun q hq=>⟨q,_,rfl,.inr (SqT.of ab),rfl,rfl,.inl ⟨rfl,?_⟩⟩⟩
   have s1:=ao.new (o:=HO.tup [V.int 3,V.int 4,V.int 5]) hq
   refine⟨by decide,fun q2 hq2=>⟨q2,_,rfl,.inr (SqT.of ab),rfl,rfl,.inr ⟨rfl,?_⟩⟩⟩
   have s2:=s1.trans (ao.new (o:=HO.tup [V.int 6,V.int 7,V.int 8,V.int 9]) hq2)
   refine⟨c,na,8,_,⟨e,2,u,v,g⟩,st,rfl,s2.seq hn,hC.same s2,.inr (.inr (.inl ⟨rfl,rfl,rfl⟩)),fun H2 h2 k2=>fin (add_one _ _) H2 h2 ((bC.of s2).trans k2)⟩
  |within e u v g=>
   rcases hx with hx | hx<;>cases hx
   rw[if_neg (by decide),if_neg (by decide),if_neg (by decide)]
   refine⟨by decide,fun q hq=>⟨q,_,rfl,.inr (SqT.of ab),rfl,rfl,.inl ⟨rfl,?_⟩⟩⟩
   have s1:=ao.new (o:=HO.tup [V.int 3,V.int 4,V.int 5]) hq
   refine⟨by decide,fun q2 hq2=>⟨q2,_,rfl,.inr (SqT.of ab),rfl,rfl,.inr ⟨rfl,?_⟩⟩⟩
   have s2:=s1.trans (ao.new (o:=HO.tup [V.int 6,V.int 7,V.int 8,V.int 9]) hq2)
   refine⟨c,na,9,_,⟨e,3,u,v,g⟩,st,rfl,s2.seq hn,hC.same s2,.inr (.inr (.inr ⟨rfl,rfl,rfl⟩)),fun H2 h2 k2=>fin (add_one _ _) H2 h2 ((bC.of s2).trans k2)⟩
  |withdraw e=>
   rcases hx with hx | hx<;>cases hx
   rw[if_neg (by decide),if_neg (by decide),if_neg (by decide)]
   refine⟨by decide,fun q hq=>⟨q,_,rfl,.inr (SqT.of ab),rfl,rfl,.inl ⟨rfl,?_⟩⟩⟩
   have s1:=ao.new (o:=HO.tup [V.int 3,V.int 4,V.int 5]) hq
   refine⟨by decide,fun q2 hq2=>⟨q2,_,rfl,.inr (SqT.of ab),rfl,rfl,.inl ⟨rfl,?_⟩⟩⟩
   have s2:=s1.trans (ao.new (o:=HO.tup [V.int 6,V.int 7,V.int 8,V.int 9]) hq2)
   obtain⟨dx,fs,h1,h2⟩:=(hC.same s2).obj (m:="withdraw") (by decide +kernel) (by decide +kernel)
   refine⟨dx,fs,h1,h2,ixl (s2.seq hn) (ax (j:=0) rfl) ⟨c,e,st,rfl,hC.same s2,fun H2 h2 k2=>fin (uc _ _) H2 h2 ((bC.of s2).trans k2)⟩⟩
  |latest _=>
   rcases hx with hx | hx<;>cases hx
   rw[if_neg (by decide),if_neg (by decide),if_neg (by decide)]
   refine⟨by decide,fun q hq=>⟨q,_,rfl,.inr (SqT.of ab),rfl,rfl,.inl ⟨rfl,?_⟩⟩⟩
   have s1:=ao.new (o:=HO.tup [V.int 3,V.int 4,V.int 5]) hq
   refine⟨by decide,fun q2 hq2=>⟨q2,_,rfl,.inr (SqT.of ab),rfl,rfl,.inl ⟨rfl,?_⟩⟩⟩
   exact HC (by decide) _ (s1.trans (ao.new (o:=HO.tup [V.int 6,V.int 7,V.int 8,V.int 9]) hq2))
  |earliest _=>
   rcases hx with hx | hx<;>cases hx
   rw[if_neg (by decide),if_neg (by decide),if_neg (by decide)]
   refine⟨by decide,fun q hq=>⟨q,_,rfl,.inr (SqT.of ab),rfl,rfl,.inl ⟨rfl,?_⟩⟩⟩
   have s1:=ao.new (o:=HO.tup [V.int 3,V.int 4,V.int 5]) hq
   refine⟨by decide,fun q2 hq2=>⟨q2,_,rfl,.inr (SqT.of ab),rfl,rfl,.inl ⟨rfl,?_⟩⟩⟩
   exact HC (by decide) _ (s1.trans (ao.new (o:=HO.tup [V.int 6,V.int 7,V.int 8,V.int 9]) hq2))
  |apart _ _=>
   rcases hx with hx | hx<;>cases hx
   rw[if_neg (by decide),if_neg (by decide),if_neg (by decide)]
   refine⟨by decide,fun q hq=>⟨q,_,rfl,.inr (SqT.of ab),rfl,rfl,.inl ⟨rfl,?_⟩⟩⟩
   have s1:=ao.new (o:=HO.tup [V.int 3,V.int 4,V.int 5]) hq
   refine⟨by decide,fun q2 hq2=>⟨q2,_,rfl,.inr (SqT.of ab),rfl,rfl,.inl ⟨rfl,?_⟩⟩⟩
   exact HC (by decide) _ (s1.trans (ao.new (o:=HO.tup [V.int 6,V.int 7,V.int 8,V.int 9]) hq2))
  |order _ _=>
   rcases hx with hx | hx<;>cases hx
   rw[if_neg (by decide),if_neg (by decide),if_neg (by decide)]
   refine⟨by decide,fun q hq=>⟨q,_,rfl,.inr (SqT.of ab),rfl,rfl,.inl ⟨rfl,?_⟩⟩⟩
   have s1:=ao.new (o:=HO.tup [V.int 3,V.int 4,V.int 5]) hq
   refine⟨by decide,fun q2 hq2=>⟨q2,_,rfl,.inr (SqT.of ab),rfl,rfl,.inl ⟨rfl,?_⟩⟩⟩
   exact HC (by decide) _ (s1.trans (ao.new (o:=HO.tup [V.int 6,V.int 7,V.int 8,V.int 9]) hq2))
  |why _=>
   rcases hx with hx | hx<;>cases hx
   rw[if_neg (by decide),if_neg (by decide),if_neg (by decide)]
   refine⟨by decide,fun q hq=>⟨q,_,rfl,.inr (SqT.of ab),rfl,rfl,.inl ⟨rfl,?_⟩⟩⟩
   have s1:=ao.new (o:=HO.tup [V.int 3,V.int 4,V.int 5]) hq
   refine⟨by decide,fun q2 hq2=>⟨q2,_,rfl,.inr (SqT.of ab),rfl,rfl,.inl ⟨rfl,?_⟩⟩⟩
   exact HC (by decide) _ (s1.trans (ao.new (o:=HO.tup [V.int 6,V.int 7,V.int 8,V.int 9]) hq2))
  |bound _=>
   rcases hx with hx | hx<;>cases hx
   rw[if_neg (by decide),if_neg (by decide),if_neg (by decide)]
   refine⟨by decide,fun q hq=>⟨q,_,rfl,.inr (SqT.of ab),rfl,rfl,.inl ⟨rfl,?_⟩⟩⟩
   have s1:=ao.new (o:=HO.tup [V.int 3,V.int 4,V.int 5]) hq
   refine⟨by decide,fun q2 hq2=>⟨q2,_,rfl,.inr (SqT.of ab),rfl,rfl,.inl ⟨rfl,?_⟩⟩⟩
   exact HC (by decide) _ (s1.trans (ao.new (o:=HO.tup [V.int 6,V.int 7,V.int 8,V.int 9]) hq2))
  |list =>
   rcases hx with hx | hx<;>cases hx
   rw[if_neg (by decide),if_neg (by decide),if_neg (by decide)]
   refine⟨by decide,fun q hq=>⟨q,_,rfl,.inr (SqT.of ab),rfl,rfl,.inl ⟨rfl,?_⟩⟩⟩
   have s1:=ao.new (o:=HO.tup [V.int 3,V.int 4,V.int 5]) hq
   refine⟨by decide,fun q2 hq2=>⟨q2,_,rfl,.inr (SqT.of ab),rfl,rfl,.inl ⟨rfl,?_⟩⟩⟩
   exact HC (by decide) _ (s1.trans (ao.new (o:=HO.tup [V.int 6,V.int 7,V.int 8,V.int 9]) hq2))
  |told =>
   rcases hx with hx | hx<;>cases hx
   rw[if_neg (by decide),if_neg (by decide),if_neg (by decide)]
   refine⟨by decide,fun q hq=>⟨q,_,rfl,.inr (SqT.of ab),rfl,rfl,.inl ⟨rfl,?_⟩⟩⟩
   have s1:=ao.new (o:=HO.tup [V.int 3,V.int 4,V.int 5]) hq
   refine⟨by decide,fun q2 hq2=>⟨q2,_,rfl,.inr (SqT.of ab),rfl,rfl,.inl ⟨rfl,?_⟩⟩⟩
   exact HC (by decide) _ (s1.trans (ao.new (o:=HO.tup [V.int 6,V.int 7,V.int 8,V.int 9]) hq2))
  |idle _=>
   rcases hx with hx | hx<;>cases hx
   rw[if_neg (by decide),if_neg (by decide),if_neg (by decide)]
   refine⟨by decide,fun q hq=>⟨q,_,rfl,.inr (SqT.of ab),rfl,rfl,.inl ⟨rfl,?_⟩⟩⟩
   have s1:=ao.new (o:=HO.tup [V.int 3,V.int 4,V.int 5]) hq
   refine⟨by decide,fun q2 hq2=>⟨q2,_,rfl,.inr (SqT.of ab),rfl,rfl,.inl ⟨rfl,?_⟩⟩⟩
   exact HC (by decide) _ (s1.trans (ao.new (o:=HO.tup [V.int 6,V.int 7,V.int 8,V.int 9]) hq2))
  |test _ _ _ _=>
   rcases hx with hx | hx<;>cases hx
   rw[if_neg (by decide),if_neg (by decide),if_neg (by decide)]
   refine⟨by decide,fun q hq=>⟨q,_,rfl,.inr (SqT.of ab),rfl,rfl,.inl ⟨rfl,?_⟩⟩⟩
   have s1:=ao.new (o:=HO.tup [V.int 3,V.int 4,V.int 5]) hq
   refine⟨by decide,fun q2 hq2=>⟨q2,_,rfl,.inr (SqT.of ab),rfl,rfl,.inl ⟨rfl,?_⟩⟩⟩
   exact HC (by decide) _ (s1.trans (ao.new (o:=HO.tup [V.int 6,V.int 7,V.int 8,V.int 9]) hq2))
end
theorem zI (xs:List V) (lo hi:Int) (a b:Nat) (e1:lo=a) (e2:hi=b) (h1:a≤b) (h2:b≤xs.length):iT xs (some lo) (some hi)=(xs.drop a).take (b - a):=by
 subst e1 e2
 unfold iT
 rw[HT.o8,HT.o8,show min a xs.length=a by omega,show min b xs.length=b by omega]
theorem bb.BM {C c b:Addr}{H:Hp}{s:State}{xs:List V}{o:HO}(h:bb C H c s) (hb:H b=some (.lst xs)):bb C (upd H b o) c s:=by
 obtain⟨dw,de,ws,es,⟨⟨dx,hc⟩,⟨l,e,h1,h2⟩,⟨l',e',h1',h2'⟩,hne⟩,R⟩:=h
 refine⟨dw,de,ws,es,⟨⟨dx,?_⟩,⟨l,e,?_,fun p hp=>?_⟩,⟨l',e',?_,fun p hp=>?_⟩,hne⟩,R⟩
 ·rw[ak (bJ hc hb (by intro z;cases z))];exact hc
 ·rw[ak (bJ h1 hb (by intro z;cases z))];exact h1
 ·rw[ak (bJ (h2 p hp) hb (by intro z;cases z))];exact h2 p hp
 ·rw[ak (bJ h1' hb (by intro z;cases z))];exact h1'
 ·rw[ak (bJ (h2' p hp) hb (by intro z;cases z))];exact h2' p hp
def SqA (K:PySem.W.Frag) (H:Hp) (b a:Addr) (xs:List V):Prop:=(SqL K H a xs∧a≠b)∨∀ H',SqL K H' a xs
theorem SqA.sq {K:PySem.W.Frag}{H:Hp}{b a:Addr}{xs:List V}(h:SqA K H b a xs):SqL K H a xs:=by
 rcases h with h | h
 ·exact h.1
 ·exact h H
theorem SqA.start {K:PySem.W.Frag}{H:Hp}{b a:Addr}{xs:List V}(h:SqL K H a xs) (hb:H b=none):SqA K H b a xs:=by
 rcases h with h | h
 ·refine .inl ⟨.inl h,fun z=>?_⟩
  rcases h with h | ⟨o,h⟩<;>(rw[z,hb]at h;cases h)
 ·exact .inr fun H'=>.inr h
theorem SqA.to {K:PySem.W.Frag}{H H':Hp}{b a:Addr}{xs:List V}(h:SqA K H b a xs) (k:SqL K H a xs→a≠b→SqL K H' a xs):SqA K H' b a xs:=by
 rcases h with h | h
 ·exact .inl ⟨k h.1 h.2,h.2⟩
 ·exact .inr h
theorem Bo {K:PySem.W.Frag}{H:Hp}{b a:Addr}{xs:List V}{o:HO}(h:SqL K H a xs) (n:a≠b):SqL K (upd H b o) a xs:=by
 rcases h with h | h
 ·refine .inl ?_
  rcases h with h | ⟨u,h⟩
  ·exact .inl (by rw[ak n];exact h)
  ·exact .inr ⟨u,by rw[ak n];exact h⟩
 ·exact .inr h
def F2:List V:=[V.int 0,V.int 2,V.int 1,V.int 1,V.int 1,V.int 1,V.int 3,V.int 3,V.int 4,V.int 4,V.int 1,V.int 1,V.int 1,V.int 2,V.int 2,V.int 1,V.int 1,V.int 0,V.int 0,V.int 1,V.int 4]
def FV:List V:=[V.int 1,V.int 0,V.int 0,V.int 1,V.int 1,V.int 0,V.int 0,V.int 0,V.int 0,V.int 0,V.int 0,V.int 0,V.int 0,V.int 0,V.int 0,V.int 0,V.int 1,V.int 0,V.int 0,V.int 0,V.int 0]
theorem C9 {p:Int}{n k:Nat}(h:PyVbnlaa.shape p=some (n,k)):k=0∨k=1:=by
 by_cases h0:p=0
 ·subst h0
  have h:some (0,1)=some (n,k):=h
  cases h
  exact .inr rfl
 by_cases h1:p=1
 ·subst h1
  have h:some (2,0)=some (n,k):=h
  cases h
  exact .inl rfl
 by_cases h2:p=2
 ·subst h2
  have h:some (1,0)=some (n,k):=h
  cases h
  exact .inl rfl
 by_cases h3:p=3
 ·subst h3
  have h:some (1,1)=some (n,k):=h
  cases h
  exact .inr rfl
 by_cases h4:p=4
 ·subst h4
  have h:some (1,1)=some (n,k):=h
  cases h
  exact .inr rfl
 by_cases h5:p=5
 ·subst h5
  have h:some (1,0)=some (n,k):=h
  cases h
  exact .inl rfl
 by_cases h6:p=6
 ·subst h6
  have h:some (3,0)=some (n,k):=h
  cases h
  exact .inl rfl
 by_cases h7:p=7
 ·subst h7
  have h:some (3,0)=some (n,k):=h
  cases h
  exact .inl rfl
 by_cases h8:p=8
 ·subst h8
  have h:some (4,0)=some (n,k):=h
  cases h
  exact .inl rfl
 by_cases h9:p=9
 ·subst h9
  have h:some (4,0)=some (n,k):=h
  cases h
  exact .inl rfl
 by_cases h10:p=10
 ·subst h10
  have h:some (1,0)=some (n,k):=h
  cases h
  exact .inl rfl
 by_cases h11:p=11
 ·subst h11
  have h:some (1,0)=some (n,k):=h
  cases h
  exact .inl rfl
 by_cases h12:p=12
 ·subst h12
  have h:some (1,0)=some (n,k):=h
  cases h
  exact .inl rfl
 by_cases h13:p=13
 ·subst h13
  have h:some (2,0)=some (n,k):=h
  cases h
  exact .inl rfl
 by_cases h14:p=14
 ·subst h14
  have h:some (2,0)=some (n,k):=h
  cases h
  exact .inl rfl
 by_cases h15:p=15
 ·subst h15
  have h:some (1,0)=some (n,k):=h
  cases h
  exact .inl rfl
 by_cases h16:p=16
 ·subst h16
  have h:some (1,1)=some (n,k):=h
  cases h
  exact .inr rfl
 by_cases h17:p=17
 ·subst h17
  have h:some (0,0)=some (n,k):=h
  cases h
  exact .inl rfl
 by_cases h18:p=18
 ·subst h18
  have h:some (0,0)=some (n,k):=h
  cases h
  exact .inl rfl
 by_cases h19:p=19
 ·subst h19
  have h:some (1,0)=some (n,k):=h
  cases h
  exact .inl rfl
 by_cases h20:p=20
 ·subst h20
  have h:some (4,0)=some (n,k):=h
  cases h
  exact .inl rfl
 unfold PyVbnlaa.shape at h
 rw[if_neg h0,if_neg h1,if_neg h2,if_neg h3,if_neg h4,if_neg h5,if_neg h6,if_neg h7,if_neg h8,if_neg h9,if_neg h10,if_neg h11,if_neg h12,if_neg h13,if_neg h14,if_neg h15,if_neg h16,if_neg h17,if_neg h18,if_neg h19,if_neg h20]at h
 cases h
theorem zZ {p:Int}{n k:Nat}(h:PyVbnlaa.shape p=some (n,k)):atI F2 p=some (V.int n)∧atI FV p=some (V.int k):=by
 by_cases h0:p=0
 ·subst h0
  have h:some (0,1)=some (n,k):=h
  cases h
  exact⟨rfl,rfl⟩
 by_cases h1:p=1
 ·subst h1
  have h:some (2,0)=some (n,k):=h
  cases h
  exact⟨rfl,rfl⟩
 by_cases h2:p=2
 ·subst h2
  have h:some (1,0)=some (n,k):=h
  cases h
  exact⟨rfl,rfl⟩
 by_cases h3:p=3
 ·subst h3
  have h:some (1,1)=some (n,k):=h
  cases h
  exact⟨rfl,rfl⟩
 by_cases h4:p=4
 ·subst h4
  have h:some (1,1)=some (n,k):=h
  cases h
  exact⟨rfl,rfl⟩
 by_cases h5:p=5
 ·subst h5
  have h:some (1,0)=some (n,k):=h
  cases h
  exact⟨rfl,rfl⟩
 by_cases h6:p=6
 ·subst h6
  have h:some (3,0)=some (n,k):=h
  cases h
  exact⟨rfl,rfl⟩
 by_cases h7:p=7
 ·subst h7
  have h:some (3,0)=some (n,k):=h
  cases h
  exact⟨rfl,rfl⟩
 by_cases h8:p=8
 ·subst h8
  have h:some (4,0)=some (n,k):=h
  cases h
  exact⟨rfl,rfl⟩
 by_cases h9:p=9
 ·subst h9
  have h:some (4,0)=some (n,k):=h
  cases h
  exact⟨rfl,rfl⟩
 by_cases h10:p=10
 ·subst h10
  have h:some (1,0)=some (n,k):=h
  cases h
  exact⟨rfl,rfl⟩
 by_cases h11:p=11
 ·subst h11
  have h:some (1,0)=some (n,k):=h
  cases h
  exact⟨rfl,rfl⟩
 by_cases h12:p=12
 ·subst h12
  have h:some (1,0)=some (n,k):=h
  cases h
  exact⟨rfl,rfl⟩
 by_cases h13:p=13
 ·subst h13
  have h:some (2,0)=some (n,k):=h
  cases h
  exact⟨rfl,rfl⟩
 by_cases h14:p=14
 ·subst h14
  have h:some (2,0)=some (n,k):=h
  cases h
  exact⟨rfl,rfl⟩
 by_cases h15:p=15
 ·subst h15
  have h:some (1,0)=some (n,k):=h
  cases h
  exact⟨rfl,rfl⟩
 by_cases h16:p=16
 ·subst h16
  have h:some (1,1)=some (n,k):=h
  cases h
  exact⟨rfl,rfl⟩
 by_cases h17:p=17
 ·subst h17
  have h:some (0,0)=some (n,k):=h
  cases h
  exact⟨rfl,rfl⟩
 by_cases h18:p=18
 ·subst h18
  have h:some (0,0)=some (n,k):=h
  cases h
  exact⟨rfl,rfl⟩
 by_cases h19:p=19
 ·subst h19
  have h:some (1,0)=some (n,k):=h
  cases h
  exact⟨rfl,rfl⟩
 by_cases h20:p=20
 ·subst h20
  have h:some (4,0)=some (n,k):=h
  cases h
  exact⟨rfl,rfl⟩
 unfold PyVbnlaa.shape at h
 rw[if_neg h0,if_neg h1,if_neg h2,if_neg h3,if_neg h4,if_neg h5,if_neg h6,if_neg h7,if_neg h8,if_neg h9,if_neg h10,if_neg h11,if_neg h12,if_neg h13,if_neg h14,if_neg h15,if_neg h16,if_neg h17,if_neg h18,if_neg h19,if_neg h20]at h
 cases h
theorem ua.seq {K:PySem.W.Frag}{C c a:Addr}{H H':Hp}{s:State}{xs:List V}(k:ua K c H H') (hC:bb C H c s) (hT:Tab K H) (h:SqL K H a xs):SqL K H' a xs:=by
 obtain⟨dw,de,ws,es,⟨⟨dx,hc⟩,_⟩,_⟩:=hC
 obtain⟨ps,hps⟩:=hT.tbl
 rcases h with h | h
 ·refine .inl ?_
  rcases h with h | ⟨o,h⟩
  ·exact .inl (k _ _ h (fun z=>by rw[z,hc]at h;cases h) (fun z=>by rw[z,hps]at h;cases h) (fun kvs z=>by cases z))
  ·exact .inr ⟨o,k _ _ h (fun z=>by rw[z,hc]at h;cases h) (fun z=>by rw[z,hps]at h;cases h) (fun kvs z=>by cases z)⟩
 ·exact .inr h
theorem Tab.BM {K:PySem.W.Frag}{H:Hp}{b:Addr}{xs:List V}{o:HO}(h:Tab K H) (hb:H b=some (.lst xs)):Tab K (upd H b o):=by
 rcases h with h | ⟨q,h1,h2⟩
 ·exact .inl (by rw[ak (bJ h hb (by intro z;cases z))];exact h)
 ·exact .inr ⟨q,by rw[ak (bJ h1 hb (by intro z;cases z))];exact h1,by rw[ak (bJ h2 hb (by intro z;cases z))];exact h2⟩
def kX (K:PySem.W.Frag):Sp:=fun vs H Q _=>∃ (a:Addr) (ns:List Int),vs=[.ref a]∧SqL K H a (ns.map V.int)∧ns.length≤24000∧PyVbnlaa.answers_asked ns=true∧Tab K H∧∀ (H':Hp) (p:Addr),H' p=some (.lst ((PyVbnlaa.answers ns).map V.int))→Q (.ref p) H'
def CS (K:PySem.W.Frag) (C:Addr) (ns:List Int) (a c an:Addr) (m:Nat) (σ:L2.St) (H1:Hp):Prop:=∃ (j:Nat) (ds:List (List (List Int))) (s:State) (acc:List Int) (f:Nat) (v4 v5 v6 v7 v8 v9:Option V),σ=[some (V.ref a),some (V.ref c),some (V.ref an),some (V.int j),v4,v5,v6,v7,v8,v9]∧SqA K H1 an a (ns.map V.int)∧bb C H1 c s∧H1 an=some (.lst (acc.map V.int))∧j≤ns.length∧m=ns.length - j ∧
 PyFlat.calls PyVbnlaa.shape f (ns.drop j)=some ds∧(∀ x∈ds,VbnlaaNeutral.asked1 x=true)∧Tab K H1∧acc.length+701*ds.length≤280400∧acc ++ PyFlat.told (PyFlat.played VbnlaaNeutral.step s ds)=PyVbnlaa.answers ns
theorem bb.FA {C c:Addr}{H:Hp}{s:State}(h:bb C H c s):s.works.length≤40∧s.evs.length≤100:=by
 obtain⟨dw,de,ws,es,_,R⟩:=h
 exact⟨R.wf.wn,R.wf.en⟩
section
variable {P:Program}{w:World}{K:PySem.W.Frag}{mg:Str→Option Value}{base:Heap}{C:Addr}
theorem yz {f:Addr}{fd:FuncData}(F:Fun K "answers" "answers" mT f fd) (T:Txt K mg) (Z:Cat K mg C) (zm:mg "Catalogue"=some (.ref C)) (zk:PySem.W.makesIn K C=true) (zp:PySem.W.keepIn K (.ref C)=true) (HL:OkM P w K mg base C 1 "__init__" ["self"] (y6 C))
  (HB:OkD P w K mg base 10 "answer_of" ["catalogue","call","numbers","row"] (lH K C)):kg P w K mg base CX0 11 f fd ["calls"] (kX K):=by
 refine F.ok br (fun vs H Q E h=>?_) (fun cdv A outer s H vs Q E hr h=>?_)
 ·obtain⟨a,ns,rfl,_⟩:=h
  rfl
 ·obtain⟨a,ns,rfl,hS,hl,Kg,HU,k⟩:=h
  obtain⟨cs,hcs,hall,Lu,due⟩:=A5 Kg
  have h16:sizeLine=16777216:=sizeLine_eq
  refine⟨_,(ae (aI (i:=1) br.nd rfl (Or.inl rfl) (Di zk zp zm HL hr rfl))
   (ae (aI (i:=2) br.nd rfl (Or.inl rfl) (aX ah))
   (ae (aI (i:=3) br.nd rfl (Or.inl rfl) aj)
   (ae (lW PassesOwn.never (aA kK (pv 3) (aS (aW (K:=K) rfl) (by rfl) T.dB PySem.boot_len (aa (pv 0) ah)) (aD _)) (ae (aI (i:=4) br.nd rfl (Or.inl rfl) (aH (aE (K:=K) rfl) (pv 0) (pv 3) (fun _ _=>rfl)))
   (ae (aI (i:=5) br.nd rfl (Or.inl rfl) (aU bh (pv 3) aj))
   (ae (aI (i:=3) br.nd rfl (Or.inl rfl) (aU bh (pv 5) (fb rfl T.oV (pv 4) (fun _ _=>rfl) (fun _ _ _ _ h ⟨v,e,q⟩=>⟨v,e,h _ _ q⟩))))
   (ae (aI (i:=6) br.nd rfl (Or.inl rfl) (eT f7 (pv 0) (eM (pv 5)) (eM (pv 3))))
   (ae (aI (i:=7) br.nd rfl (Or.inl rfl) (aX ah))
   (ae (aK (aA aT (fb rfl T.uQ (pv 4) (fun _ _=>rfl) (fun _ _ _ _ h ⟨v,e,q⟩=>⟨v,e,h _ _ q⟩)) aj (aD _)) (ae (aI (i:=8) br.nd rfl (Or.inl rfl) (aU bh (pv 3) aj))
   (ae (aI (i:=3) br.nd rfl (Or.inl rfl) (aU bh (pv 8) (aH (aE (K:=K) rfl) (pv 0) (pv 3) (fun _ _=>rfl))))
   (ag (aI (i:=7) br.nd rfl (Or.inl rfl) (eT f7 (pv 0) (eM (pv 8)) (eM (pv 3))))))) az)
   (ae (aI (i:=9) br.nd rfl (Or.inl rfl) (aB HB hr rfl (aa (pv 1) (aa (pv 4) (aa (pv 6) (aa (pv 7) ah))))))
   (ae (eL (oe PySem.F.plainAttrs_list PySem.F.slot_list_append PySem.F.type_list_append jY (pv 2) (aa (aS (aW (K:=K) rfl) (by rfl) T.dB PySem.boot_len (aa (pv 9) ah)) ah)))
   (ag (eL (oe PySem.F.plainAttrs_list PySem.F.slot_list_extend PySem.F.type_list_extend jX (pv 2) (aa (pv 9) ah)))))))))))))
   (ag (aq (pv 2))))))),?_⟩
  simp![Fj,-List.lookup_eq_none_iff]
  intro c dx hc hdx hne
  refine⟨c,dx,rfl,ab,fun H2 hC2 kp=>⟨rfl,fun an han=>?_⟩⟩
  have s2:ao H H2:=fun b o e=>by
   have n1:b≠c:=fun z=>by rw[z,hc]at e;cases e
   have n2:b≠dx:=fun z=>by rw[z,hdx]at e;cases e
   exact kp b o (by rw[ak n1,ak n2];exact e) n1
  have s3:ao H2 (upd H2 an (.lst [])):=ao.new han
  refine⟨CS K C ns a c an,⟨_,0,cs,_,[],ns.length,_,_,_,_,_,_,rfl,(SqA.start (s2.seq hS) han).to fun h _=>s3.seq h,hC2.same s3,ab,Nat.zero_le _,rfl,hcs,hall,HU.same (s2.trans s3),by simp only[List.length_nil];omega,due.symm⟩,?_⟩
  rintro m σ H1 ⟨j,ds,s,acc,f,v4,v5,v6,v7,v8,v9,rfl,hS1,hC1,hA1,hj,rfl,Jz,Ka,hsm,hlen,Kf⟩
  simp![tBM,o9,lT,-List.lookup_eq_none_iff]
  refine⟨_,.inl hS1.sq,?_⟩
  rw[List.length_map]
  by_cases hlt:j < ns.length
  ·rw[if_pos hlt]
   refine⟨fun σ' H'=>∃ m',m' < ns.length - j∧CS K C ns a c an m' σ' H',fun _ _ h=>h,?_⟩
   obtain⟨x,t,ds',g,hcall,J1,rfl⟩:=yM Jz (fun z=>by have:=congrArg List.length z;rw[List.length_drop]at this;simp at this;omega)
   obtain⟨p,r,n,kk,hdr,hshape,hn,hk0,hk1⟩:=CH hcall
   have hr1:ns.drop (j+1)=r:=by rw[←List.drop_drop,hdr];rfl
   have hrl:r.length=ns.length - (j+1):=by rw[←hr1,List.length_drop]
   have hjp:ns[j]? = some p:=by
    have:=List.getElem?_drop (xs:=ns) (i:=j) (j:=0)
    rw[hdr]at this
    simpa using this.symm
   obtain⟨y,hA,hy⟩:=DT (Ka x (List.mem_cons_self ..))
   have hm:∀ i:Nat,i≤ns.length→(ns.map V.int).drop i=(ns.drop i).map V.int:=fun i _=>(List.map_drop ..).symm
   have fin:∀ (j':Nat) (H2 H3:Hp) (l:Addr) (w4 w5 w6 w7 w8 w9:Option V),j < j'→j'≤ns.length→ns.drop j'=t→ao H1 H2→bb C H3 c (step s y).1→ua K c H2 H3→Tab K H3→(∀ xs,H2 l≠some (.lst xs))→H3 l=some (.lst ((step s y).2.map V.int)) →
     tyV K "list" (V.ref an) H3∧∃ p_1,V.ref l=V.ref p_1∧∃ x_6,(SqL K H3 p_1 x_6∨SqT K H3 p_1 x_6)∧∃ x_7,H3 an=some (HO.lst x_7)∧x_7.length < sizeLine∧tyV K "list" (V.ref an) (upd H3 an (HO.lst (x_7 ++ [V.int x_6.length]))) ∧
      ∃ x_8,V.ref l=V.ref x_8∧∃ x_9,upd H3 an (HO.lst (x_7 ++ [V.int x_6.length])) an=some (HO.lst x_9)∧∃ JO,upd H3 an (HO.lst (x_7 ++ [V.int x_6.length])) x_8=some (HO.lst JO)∧x_9.length+JO.length≤sizeLine ∧
       (fun σ' H'=>∃ m',m' < ns.length - j∧CS K C ns a c an m' σ' H') [some (V.ref a),some (V.ref c),some (V.ref an),some (V.int j'),w4,w5,w6,w7,w8,w9] (upd (upd H3 an (HO.lst (x_7 ++ [V.int x_6.length]))) an (HO.lst (x_9 ++ JO))):=by
    intro j' H2 H3 l w4 w5 w6 w7 w8 w9 hj1 hj2 ht sQ hC3 hK hT3 hl2 hl3
    have hT2:=hsm.same sQ
    obtain⟨pst,K2⟩:=hT2.tbl
    have KJ:=hC1.same sQ
    have hA2:=sQ _ _ hA1
    obtain⟨dw,de,ws,es,⟨⟨dx',hc2⟩,_⟩,_⟩:=id KJ
    have hA3:H3 an=some (.lst (acc.map V.int)):=hK _ _ hA2 (fun z=>by rw[z,hc2]at hA2;cases hA2) (fun z=>by rw[z,K2]at hA2;cases hA2) (fun kvs z=>by cases z)
    have nl:l≠an:=fun z=>hl2 _ (by rw[z];exact hA2)
    have la:=AnsM.DV hC1.FA.1 hC1.FA.2 y
    simp only[List.length_cons]at hlen
    refine⟨.inl ⟨rfl,_,SqL.of hA3⟩,l,rfl,_,.inl (SqL.of hl3),_,hA3,by rw[List.length_map];omega,.inl ⟨rfl,_,SqL.of ab⟩,l,rfl,_,ab,_,by rw[ak nl];exact hl3,?_,ns.length - j',by omega,j',ds',(step s y).1,acc ++ (((step s y).2.length:Int) :: (step s y).2),g,_,_,_,_,_,_,rfl,?_,?_,?_,hj2,rfl,by rw[ht];exact J1,fun x hx=>Ka x (List.mem_cons_of_mem _ hx),(hT3.BM hA3).BM ab,?_,?_⟩
    ·simp only[List.length_append,List.length_map,List.length_cons,List.length_nil]
     omega
    ·refine hS1.to fun h n=>Bo (Bo (hK.seq KJ hT2 (sQ.seq h)) n) n
    ·exact(hC3.BM hA3).BM ab
    ·rw[ab]
     simp
    ·simp only[List.length_append,List.length_cons]
     omega
    ·rw[←Kf]
     show _=acc ++ PyFlat.told ((VbnlaaNeutral.step s x).2 :: PyFlat.played VbnlaaNeutral.step (VbnlaaNeutral.step s x).1 ds')
     rw[told_cons,hy s]
     simp
   have hkk:=C9 hshape
   obtain⟨tn,tr⟩:=zZ hshape
   have q0:(ns.map V.int)[j]? = some (V.int p):=by rw[List.getElem?_map,hjp];rfl
   refine ixl hS1.sq (ax q0) ⟨p,rfl,_,tn,_,rfl,?_⟩
   refine⟨a,_,rfl,hS1.sq,fun q hq p2 hp2=>⟨p,rfl,_,tr,rfl,?_⟩⟩
   have Lg:iT (ns.map V.int) (some ((j:Int)+1)) (some ((j:Int)+1+(n:Int)))=(r.take n).map V.int:=by
    rw[zI (ns.map V.int) _ _ (j+1) (j+1+n) (by omega) (by omega) (by omega) (by rw[List.length_map];omega),hm _ (by omega),hr1,List.map_take,show j+1+n - (j+1)=n by omega]
   rw[Lg]at hp2 ⊢
   have t1:=ao.new (o:=HO.lst ((r.take n).map V.int)) hq
   have t2:=ao.new (o:=HO.lst []) hp2
   have t12:=t1.trans t2
   rcases hkk with rfl | rfl
   ·obtain⟨ex,et⟩:=hk0 rfl
    rw[if_neg (by intro z;cases z)]
    refine⟨c,q,p2,p,r.take n,[],x,y,s,rfl,SqL.of (t2 _ _ ab),SqL.of ab,hC1.same t12,.inl ex,hA,hsm.same t12,fun H3 l hC3 hK hT3 hl2 hl3=>?_⟩
    have:=fin (j+1+n) _ H3 l (some (V.int p)) (some (V.int ((j:Int)+1))) (some (V.ref q)) (some (V.ref p2)) v8 (some (V.ref l)) (by omega) (by omega) (by rw[et,←hr1,List.drop_drop]) t12 hC3 hK hT3 hl2 hl3
    exact this
   ·obtain⟨m,r2,e1,e2,e3,ex,et⟩:=hk1 rfl
    rw[if_pos (show V.int ((1:Nat):Int)=V.int 1 from rfl)]
    obtain⟨mm,rfl⟩:∃ mm:Nat,m=mm:=⟨m.toNat,by omega⟩
    rw[Int.toNat_natCast]at e3 ex et
    have hd2:ns.drop (j+1+n)=(mm:Int) :: r2:=by rw[←List.drop_drop,hr1,e1]
    have hr2:ns.drop (j+1+n+1)=r2:=by rw[←List.drop_drop,hd2];rfl
    have hl2:r2.length=ns.length - (j+1+n+1):=by rw[←hr2,List.length_drop]
    have hlt2:j+1+n < ns.length:=by
     have:=congrArg List.length hd2
     rw[List.length_drop,List.length_cons]at this
     omega
    have hjm:(ns.map V.int)[j+1+n]? = some (V.int mm):=by
     have:=List.getElem?_drop (xs:=ns) (i:=j+1+n) (j:=0)
     rw[hd2]at this
     rw[List.getElem?_map,show ns[j+1+n]? = some (mm:Int) by simpa using this.symm]
     rfl
    have hSq:SqL K (upd (upd H1 q (.lst ((r.take n).map V.int))) p2 (.lst [])) a (ns.map V.int):=t12.seq hS1.sq
    refine ixl hSq (ax (j:=j+1+n) hjm) ⟨mm,rfl,a,_,rfl,hSq,fun q3 hq3=>?_⟩
    have gX:iT (ns.map V.int) (some ((j:Int)+1+(n:Int)+1)) (some ((j:Int)+1+(n:Int)+1+(mm:Int)))=(r2.take mm).map V.int:=by
     rw[zI (ns.map V.int) _ _ (j+1+n+1) (j+1+n+1+mm) (by omega) (by omega) (by omega) (by rw[List.length_map];omega),hm _ (by omega),hr2,List.map_take,show j+1+n+1+mm - (j+1+n+1)=mm by omega]
    rw[gX]
    have t3:=ao.new (o:=HO.lst ((r2.take mm).map V.int)) hq3
    have t13:=t12.trans t3
    refine⟨c,q,q3,p,r.take n,r2.take mm,x,y,s,rfl,SqL.of (t3 _ _ (t2 _ _ ab)),SqL.of ab,hC1.same t13,.inr ex,hA,hsm.same t13,fun H3 l hC3 hK hT3 hl2 hl3=>?_⟩
    have:=fin (j+1+n+1+mm) _ H3 l (some (V.int p)) (some (V.int ((j:Int)+1))) (some (V.ref q)) (some (V.ref q3)) (some (V.int ((j:Int)+1+(n:Int)+1))) (some (V.ref l)) (by omega) (by omega) (by rw[et,←hr2,List.drop_drop]) t13 hC3 hK hT3 hl2 hl3
    exact this
  ·rw[if_neg hlt]
   have:ns.drop j=[]:=List.drop_eq_nil_of_le (by omega)
   rw[this]at Jz
   rw[A2 Jz]at Kf
   refine k H1 an ?_
   rw[←Kf,hA1]
   simp[PyFlat.played,PyFlat.told]
theorem E9 {P:Program}{w:World}{K:PySem.W.Frag}{mg:Str→Option Value}(T:Txt K mg) (CC:∃ C,mg "Catalogue"=some (.ref C)∧Cat K mg C∧PySem.W.makesIn K C=true∧PySem.W.keepIn K (.ref C)=true):∃ fa fd,mg "answers"=some (.ref fa)∧(∀ (s:Shared) (us:List Value),us.length=(["calls"]:List Str).length→BindsTo s fd ⟨us,[]⟩ ((["calls"]:List Str).zip us))∧∀ base:Heap,A6 K mg base→kg P w K mg base CX0 12 fa fd ["calls"] (kX K):=by
 obtain⟨f,fd,hm,F,b⟩:=T.AY
 obtain⟨C,zm,Z,zk,zp⟩:=CC
 refine⟨f,fd,hm,fun s us hl=>?_,fun base LT=>?_⟩
 ·obtain⟨oc,od,kV,doc,pm,an,cdv,ct,osl,rfl,lk,hcd⟩:=F.ex
  match us,hl with
  | [_],_=>exact .of_eq rfl
 have HL:=Ds (P:=P) (w:=w) (base:=base) Z
 have Hg:=qf (P:=P) (w:=w) (base:=base) T
 have GO:=xZ (P:=P) (w:=w) (base:=base) T
 have Hk:=qk (P:=P) (w:=w) (base:=base) T GO
 have GQ:=j5 (P:=P) (w:=w) (base:=base) T
 have GS:=uD (P:=P) (w:=w) (base:=base) T
 have Hc:=oO (P:=P) (w:=w) (base:=base) T GS
 have He:=oQ (P:=P) (w:=w) (base:=base) T GS Hc
 have G4:=mW (P:=P) (w:=w) (base:=base) T
 have Hs:=rH (P:=P) (w:=w) (base:=base) T Hk GQ GO He G4
 have Hd:=oP (P:=P) (w:=w) (base:=base) T
 have Gy:=oN (P:=P) (w:=w) (base:=base) T Hd
 have Ie:=ya (P:=P) (w:=w) (base:=base) T Gy
 have GG:=j6 (P:=P) (w:=w) (base:=base) T
 have Gw:=jw (P:=P) (w:=w) (base:=base) T GG
 have GL:=iS (P:=P) (w:=w) (base:=base) T Gy Gw
 have GA:=oR (P:=P) (w:=w) (base:=base) T GL Gw
 have Hi:=qi (P:=P) (w:=w) (base:=base) T GA Gy Gw
 have GC:=uC (P:=P) (w:=w) (base:=base) T Hg Hs Ie GA Hi
 have Hj:=qj (P:=P) (w:=w) (base:=base) T
 have GW:=Al (P:=P) (w:=w) (base:=base) T
 have Ib:=xY (P:=P) (w:=w) (base:=base) T Gw
 have HY:=xU (P:=P) (w:=w) (base:=base) T Gw
 have Ig:=yc (P:=P) (w:=w) (base:=base) T HY Gy Gw
 have GF:=l9 (P:=P) (w:=w) (base:=base) T
 have HH:=vZ (P:=P) (w:=w) (base:=base) T Hj GW Ib Ig GF GO
 have Hr:=rG (P:=P) (w:=w) (base:=base) T
 have GX:=l5 (P:=P) (w:=w) (base:=base) T GW Hr
 have Hq:=Aj (P:=P) (w:=w) (base:=base) T
 have HK:=wd (P:=P) (w:=w) (base:=base) T Z Hq GC
 have Ht:=rJ (P:=P) (w:=w) (base:=base) T
 have HJ:=wc (P:=P) (w:=w) (base:=base) T
 have Gx:=qh (P:=P) (w:=w) (base:=base) T Ht HJ
 have G7:=yb (P:=P) (w:=w) (base:=base) T Gx
 have Ia:=xX (P:=P) (w:=w) (base:=base) T Z GC G7
 have JI:=Dv (P:=P) (w:=w) (base:=base) T Z
 have Hf:=oS (P:=P) (w:=w) (base:=base) T Z HK Ia JI
 have IK:=Ak (P:=P) (w:=w) (base:=base) T
 have GB:=mX (P:=P) (w:=w) (base:=base) T Z IK GW
 have GN:=oT (P:=P) (w:=w) (base:=base) T Z Hq GB G7
 have G2:=l8 (P:=P) (w:=w) (base:=base) T Z GN
 have HG:=vY (P:=P) (w:=w) (base:=base) T Z
 have GZ:=l6 (P:=P) (w:=w) (base:=base) T
 have G0:=l7 (P:=P) (w:=w) (base:=base) T
 have GP:=ju (P:=P) (w:=w) (base:=base) T G0
 have Gz:=mV (P:=P) (w:=w) (base:=base) T Gx GZ GP
 have G1:=wb (P:=P) (w:=w) (base:=base) T
 have G5:=mY (P:=P) (w:=w) (base:=base) T G1
 have GY:=v3 (P:=P) (w:=w) (base:=base) T
 have GH:=gM (P:=P) (w:=w) (base:=base) T GY
 have GK:=iR (P:=P) (w:=w) (base:=base) T
 have Hh:=qg (P:=P) (w:=w) (base:=base) T Gx G5 GH GK
 have Hl:=ql (P:=P) (w:=w) (base:=base) T Gx Gz Hh
 have GD:=jv (P:=P) (w:=w) (base:=base) T Gx Gz
 have GU:=uE (P:=P) (w:=w) (base:=base) T GD
 have HI:=wa (P:=P) (w:=w) (base:=base) T
 have GR:=j7 (P:=P) (w:=w) (base:=base) T GU HI
 have HA:=uF (P:=P) (w:=w) (base:=base) T G1 GY
 have IQ:=BL (P:=P) (w:=w) (base:=base) T HA
 have Ic:=x9 (P:=P) (w:=w) (base:=base) T LT Gx
 have JG:=Dr (P:=P) (w:=w) (base:=base) T
 have Hz:=uB (P:=P) (w:=w) (base:=base) T GU Gx Gz
 have G6:=xV (P:=P) (w:=w) (base:=base) T Hz
 have JH:=Du (P:=P) (w:=w) (base:=base) T G6
 have HZ:=xW (P:=P) (w:=w) (base:=base) T Z GB G6
 have JT:=EC (P:=P) (w:=w) (base:=base) T Z Hl GR IQ Ic JG JH HZ
 have HB:=uG (P:=P) (w:=w) (base:=base) T Z GC HH GX Hf G2 HG JT
 exact(yz F T Z zm zk zp HL HB).mono (by decide)
end
end Dw
namespace DwG
open PySem PySem.Spec PyProof.Rows L2
open PySem.W (WData Codec OpenSpec Well WellAll ReadsW ReadsAllW)
mutual
theorem FJ {K:PySem.W.Frag}{H H':Hp}(s:ao H H'):∀ (d:WData) (v:V),L2.Dw K H v d→L2.Dw K H' v d
 | .none,_,x=>by cases x;exact .non
 | .bool b,_,x=>by cases x;exact .bl b
 | .int i,_,x=>by cases x;exact .int i
 | .str z,_,x=>by cases x;exact .str z
 | .bytes b,_,x=>by cases x;exact .byt _
 | .list ds,_,x=>by
  cases x with
  |lst h1 h2=>exact .lst (s.seq h1) (uX s ds _ h2)
 | .tuple ds,_,x=>by
  cases x with
  |tup h1 h2=>exact .tup (Dw.zb s h1) (uX s ds _ h2)
 | .float ..,_,x=>by cases x
 | .dict ..,_,x=>by cases x
 | .bytearray ..,_,x=>by cases x
 | .set ..,_,x=>by cases x
 | .frozenset ..,_,x=>by cases x
 | .obj ..,_,x=>by cases x
theorem uX {K:PySem.W.Frag}{H H':Hp}(s:ao H H'):∀ (ds:List WData) (vs:List V),g4 K H vs ds→g4 K H' vs ds
 | [],_,x=>by cases x;exact .nil
 |d :: ds,_,x=>by
  cases x with
  |cons h1 h2=>exact .cons (FJ s d _ h1) (uX s ds _ h2)
end
theorem CF {Pg:Program}{w:World}{K:PySem.W.Frag}{mg mb:Str→Option Value}{k:Nat}{fa c:Addr}{fd:FuncData}{ps:List Str}{sp:Sp}{s₁:Shared}{vals:List Value}{ds:List WData}{R:PySem.W.WRecords}{cl:Str→Option Addr}{d0:WData}
  (KX:K.In s₁.heap) (hns:s₁.heap.Ns mainGlobals mg) (hb:s₁.heap.Ns builtinsNs mb) (hbb:∀ x:Str,x≠"__name__"→mb x=bootBuiltins x) (hlim:s₁.heap.NoLimit) (hg:s₁.gens = #[])
  (hwl:WellAll w.params s₁.heap vals ds) (hpl:oM ds=true) (hwt:∀ d∈ds,d.weight≤1048576) (hr:dD k callerA)
  (ht:PySem.W.tabIn K "list_of"=some (c,Dw.eZ K)) (hcd:PySem.W.CodeHd s₁.heap c (Dw.eZ K)) (hPo:s₁.heap.get? (Dw.eZ K)=some (PySem.W.tabObj #[])) (hPK:K.lookup (Dw.eZ K)=none) (hgP:mainGlobals≠Dw.eZ K) (hbt:s₁.heap.BuiltinsAt mg (Dw.eZ K))
  (F:∀ base:Heap,Dw.A6 K mg base→kg Pg w K mg base CX0 k fa fd ps sp) (hbind:∀ (s:Shared) (us:List Value),us.length=ps.length→BindsTo s fd ⟨us,[]⟩ (ps.zip us)) (hlen:ds.length=ps.length)
  (hsp:∀ (H:Hp) (xs:List V),Dw.Tab K H→g4 K H xs ds→sp xs H (fun v H'=>L2.Dw K H' v d0) fun _ _ _=>False) :
  codeAny (model Pg w) callerA (.call (.ref fa) ⟨vals,[]⟩) (fun r s'=>∃ u as,r = .ok (.ret u)∧ReadsW R cl s'.heap u d0 as∧OldK s₁.heap s'.heap∧s'.os=s₁.os∧AllBare s'.gens) s₁:=by
 obtain⟨A,ho,ar⟩:=mN ds vals hwl hpl hwt
 have Kw:HOk Pg w (mM K s₁.heap A) s₁.heap:=DU ar
 have hS0:=uZ KX ar ds vals hwl hpl ho
 have hV:=gz ho
 have is0:∀ b u,mM K s₁.heap A b=some u→K.lookup b=none∧∃ o,s₁.heap.get? b=some o∧(o.cls = .type "list"∨o.cls = .type "tuple")∧(∃ z n,o.data = .seq z n)∧∃ u',u = .frz o u':=fun b u q=>by
  obtain⟨h1,vs,_,_,⟨e,e2⟩ | ⟨e,e2⟩⟩:=zM ar q
  ·exact⟨h1,_,e,.inl rfl,⟨_,_,rfl⟩,_,e2⟩
  ·exact⟨h1,_,e,.inr rfl,⟨_,_,rfl⟩,_,e2⟩
 generalize mM K s₁.heap A=H0 at Kw hS0 is0
 generalize hPe:Dw.eZ K=P at *
 have nP:H0 P=none:=by
  cases q:H0 P with
  |none=>rfl
  |some u=>
   obtain⟨_,o,e,hc,_⟩:=is0 P u q
   rw[hPo]at e
   cases e
   rcases hc with z | z<;>cases z
 have sU:ao H0 (upd H0 P (.tbl #[])):=Dw.ao.new nP
 have hok:HOk Pg w (upd H0 P (.tbl #[])) s₁.heap:=fun b u q=>by
  by_cases z:b=P
  ·subst z
   rw[ab]at q
   cases q
   exact hPo
  ·rw[ak z]at q
   exact(Kw b u q).g7 (fun c v _ q=>q) (fun c q=>sU _ _ q) fun c xs q=>sU _ _ q
 have hS:=uX sU ds _ hS0
 have HU:Dw.Tab K (upd H0 P (.tbl #[])):=.inl (by rw[hPe];exact ab)
 have hK:∀ b u,upd H0 P (.tbl #[]) b=some u→K.lookup b=none:=fun b u q=>by
  by_cases z:b=P
  ·rw[z];exact hPK
  ·rw[ak z]at q
   exact(is0 b u q).1
 have noA:∀ {b:Addr}{o:Obj},s₁.heap.get? b=some o→o.cls ≠ .type "list"→o.cls ≠ .type "tuple"→b≠P→upd H0 P (.tbl #[]) b=none:=fun {b o} e h1 h2 n=>by
  rw[ak n]
  cases q:H0 b with
  |none=>rfl
  |some u=>
   obtain⟨_,o',e2,hc,_⟩:=is0 b u q
   rw[e]at e2
   cases e2
   exact absurd hc (fun z=>z.elim h1 h2)
 have noD:∀ {b:Addr}{o:Obj}{es:Array DictEntry}{ep:Nat},s₁.heap.get? b=some o→o.data = .dict es ep→upd H0 P (.tbl #[]) b=none:=fun {b o es ep} e d=>by
  have n:b≠P:=fun z=>by
   rw[z,hPo]at e
   cases e
   cases d
  rw[ak n]
  cases q:H0 b with
  |none=>rfl
  |some u=>
   obtain⟨_,o',e2,hc,⟨z1,z2,z3⟩,u',hu'⟩:=is0 b u q
   rw[e]at e2
   cases e2
   rw[z3]at d
   cases d
 generalize hH:upd H0 P (.tbl #[])=H at *
 have Iy:∀ {b:Addr}{o:Obj},s₁.heap.get? b=some o→H b=none→(rP s₁.heap H).get? b=some o:=fun e n=>Cb e n
 have nsK:∀ {b:Addr}{m:Str→Option Value},s₁.heap.Ns b m→(rP s₁.heap H).Ns b m:=fun {b m} ⟨o,es,ep,e,d,r⟩=>⟨o,es,ep,Iy e (noD e d),d,r⟩
 have nK:∀ b o,K.lookup b=some o→H b=none:=fun b o e=>by
  cases q:H b with
  |none=>rfl
  |some u=>
   rw[hK b u q]at e
   cases e
 have hKb:K.In (rP s₁.heap H):=fun b o e=>Iy (KX b o e) (nK b o e)
 have hM:Mod K mg (rP s₁.heap H):=⟨hKb,nsK hns,⟨mb,nsK hb,hbb⟩,let ⟨mc,h1,h2⟩:=hlim;⟨mc,nsK h1,h2⟩⟩
 have e0:yV Pg w K mg (rP s₁.heap H) callerA [] s₁ H:=⟨rfl,hM,fun b o e=>Dx e,Nat.le_of_eq (AA _ _),trivial,fun b hb=>absurd (show b∈([]:List Addr) from hb) (by simp),hok,.of_eq hg⟩
 have hl:vals.length=ps.length:=by rw[fU hwl];exact hlen
 have LT:Dw.A6 K mg (rP s₁.heap H):=by
  refine⟨⟨c,by rw[hPe];exact ht,?_⟩,by rw[hPe];exact hgP,?_,hKb,nsK hns⟩
  ·rw[hPe]
   obtain⟨o,vs,file,tf,flags,tg,inF,text,tt,e1,r1,r2,r3,r4,r5,r6,r7,r8,hne⟩:=hcd
   exact⟨o,vs,file,tf,flags,tg,inF,text,tt,Iy e1 (noA e1 (by rw[r1];decide) (by rw[r1];decide) hne),r1,r2,r3,r4,r5,r6,r7,r8,hne⟩
  ·rw[hPe]
   obtain⟨bm,ob,b1,b2,b3,b4,b5,b6,b7⟩:=hbt
   exact⟨bm,ob,b1,b2,b3,b4,Iy b5 (noA b5 (by rw[b6];decide) (by rw[b6];decide) b4),b6,b7⟩
 refine codeAny_mono ((F _ LT).run callerA [] s₁ H ⟨vals,[]⟩ vals (vals.map toV) _ _ hr e0 (hbind s₁ vals hl) hV (hsp H _ HU hS)) fun r s' x=>?_
 cases r with
 |error e=>exact False.elim x
 |ok fl=>
  cases fl with
  |next=>exact False.elim x
  |brk=>exact False.elim x
  |cont=>exact False.elim x
  |ret u=>
   obtain⟨v,H',os,bare,un,hok',r',q⟩:=x
   have kept:∀ b o,b≠P→s₁.heap.get? b=some o→s'.heap.get? b=some o:=fun b o n e=>by
    cases q2:H b with
    |none=>exact un.keep b o e q2 (by intro z;exact absurd (show b∈([]:List Addr) from z) (by simp)) (by simp)
    |some u2=>
     rw[←hH,ak n]at q2
     obtain⟨_,o',e2,_,_,u',hu'⟩:=is0 b u2 q2
     subst hu'
     rw[e]at e2
     cases e2
     have z2:=un.lg b o u' (by rw[←hH,ak n];exact q2)
     exact(hok' b _ z2).1
   have KX':K.In s'.heap:=fun b o e=>kept b o (fun z=>by rw[z,hPK]at e;cases e) (KX b o e)
   obtain⟨as,hrd⟩:=L2.Dw.reads (R:=R) (cl:=cl) hok' KX' d0 v u q r'
   obtain⟨more,hmore⟩:=un.lE P #[] (by rw[←hH];exact ab)
   have hP':s'.heap.get? P=some (PySem.W.tabObj (#[] ++ more)):=hok' P _ hmore
   refine⟨u,as,rfl,hrd,⟨fun b o e=>?_,fun b o e=>?_⟩,os,bare⟩
   ·by_cases z:b=P
    ·subst z
     rw[hPo]at e
     cases e
     exact .inr (.inl ⟨(hcd.tab hPo).isCodeTable,rfl,#[],more,rfl,hP'⟩)
    ·exact .inl (kept b o z e)
   ·by_cases z:b=P
    ·rw[z];exact⟨_,hP'⟩
    ·exact⟨o,kept b o z e⟩
theorem C2 {K:PySem.W.Frag}(h:(PySem.W.tabIn K "list_of").isSome=true):∃ c,PySem.W.tabIn K "list_of"=some (c,Dw.eZ K):=by
 unfold Dw.eZ
 cases e:PySem.W.tabIn K "list_of" with
 |none=>rw[e]at h;cases h
 |some x=>exact⟨x.1,rfl⟩
theorem Bb {r:OpenSpec}{k:Nat}{q:Program}{loose:List Str}{XP:(Str→Option Value)→Heap→Prop}{YP:World→Heap→Prop}{d dl:DefRec}{K:Params→PySem.W.Frag}{ps:List Str}{sp:PySem.W.Frag→Sp}
  (Kr:r.wellSaid=true) (hlen:r.args.length=ps.length) (hr:dD k callerA)
  (hY:∀ (w:World) (h:Heap),YP w h→(K w.params).In h)
  (hl:(recsOf q).find? (fun e=>e.name == Str.ofString "list_of")=some dl) (ht:∀ p:Params,(PySem.W.tabIn (K p) "list_of").isSome=true) (hPK:∀ p:Params,(K p).lookup (Dw.eZ (K p))=none)
  (F:∀ (w:World) (mg:Str→Option Value) (fa:Addr) (h:Heap),YP w h→(K w.params).In h→h.Ns mainGlobals mg→mg d.name=some (.ref fa) →
   ∃ fd:FuncData,(∀ (s:Shared) (us:List Value),us.length=ps.length→BindsTo s fd ⟨us,[]⟩ (ps.zip us)) ∧
    ∀ base:Heap,Dw.A6 (K w.params) mg base→kg r.prog w (K w.params) mg base CX0 k fa fd ps (sp (K w.params)))
  (hsp:∀ (K:PySem.W.Frag) (H:Hp) (xs:List V) (a:Codec.denoteAll r.args),Dw.Tab K H→Codec.withinAll r.args a=true→Codec.app r.args r.asked a=true→g4 K H xs (Codec.encAll r.args a) →
   sp K xs H (fun v H'=>L2.Dw K H' v (r.ret.enc (Codec.app r.args r.f a))) fun _ _ _=>False) :
  PySem.W.WalkOS q loose XP YP r d [] (fun f vs=>PySem.call f vs):=by
 intro w s_0 s₁ mg mb G Y fa o pm cd doc dV kV ho hd hcd hD hmg hg args vals as hpre hlay hrd hwl hlo
 obtain⟨a,e1,e2⟩:=PySem.W.os_pre_some hpre
 obtain⟨e3,hwi⟩:=Codec.encAll_of_decAll r.args args a e1
 subst e3
 have KX:=hY w _ Y
 obtain⟨fd,hb,hF⟩:=F w mg fa _ Y KX G.T.g hmg
 obtain⟨c,hc⟩:=C2 (ht w.params)
 obtain⟨hC,hP⟩:=PySem.W.tab_of G.T KX hl hc
 obtain⟨bm,ob,b1,b2,b3,b4,b5,b6⟩:=G.T.bmain
 have hgP:mainGlobals≠Dw.eZ (K w.params):=fun q=>by
  obtain⟨o,es,ep,e,hd,_⟩:=G.T.g
  rw[q,hP]at e;cases e;cases hd
 have hbP:bm≠Dw.eZ (K w.params):=fun q=>by
  have e:=b3
  rw[q,hP]at e;cases e;cases b4
 have hbG:bm≠mainGlobals:=fun q=>by
  obtain⟨o,es,ep,e,hd,_⟩:=G.T.g
  rw[q,e]at b3;cases b3;rw[hd]at b6;cases b6
 refine PySem.W.enter_call (codeAny_mono (CF (R:=[]) (cl:=classAt s_0.heap) (d0:=r.ret.enc (Codec.app r.args r.f a)) KX G.T.g G.T.b G.T.builtins G.T.nolimit hg hwl (sX _ _) (qx hlay) hr hc hC hP (hPK w.params) hgP ⟨bm,ob,b1,b2,hbG,hbP,b3,b4,b5,b6⟩ hF hb (by rw[qQ];exact hlen)
  (fun H xs hO hS=>hsp _ H xs a hO hwi e2 hS)) fun r' s' hq=>?_)
 obtain⟨u,as',rfl,h1,h2,h3,h4⟩:=hq
 exact⟨.inl ⟨u,_,as',rfl,fun _=>rfl,h1,(OpenSpec.post_iff Kr hwi _ _).mpr rfl,fun z=>Bool.noConfusion (show false=true from z)⟩,h2,h3,h4⟩
end DwG
namespace Dw
open PySem PySem.Spec PyProof.Rows L2
theorem mkI {K:PySem.W.Frag}{h:Heap}{mg:Str→Option Value}{x:Str}{v:Int}{t:Tok}(X:K.In h) (G:h.Ns mainGlobals mg) (e:PySem.W.nsIn K mainGlobals x=some (some (.int v t))):GV mg x (.int v):=⟨_,PySem.W.mg_of X G e,⟨t,rfl⟩⟩
theorem mkT {K:PySem.W.Frag}{h:Heap}{mg:Str→Option Value}{x:Str}{xs:List V}{a:Addr}{od:Option Addr}{its:Array Value}{n:Nat}{sl:Array (Option Value)}(X:K.In h) (G:h.Ns mainGlobals mg) (e:PySem.W.nsIn K mainGlobals x=some (some (.ref a)))
  (l:K.lookup a=some ⟨.type "tuple",od,.seq its n,sl⟩) (z:its.size≤sizeLine) (r:Vals xs its.toList):nI K mg x xs:=⟨a,PySem.W.mg_of X G e,fun _=>.inr ⟨_,its,n,l,rfl,rfl,z,r⟩⟩
theorem ar1 {F:List Value→Prop}(h:∀ a,F [a]):∀ us:List Value,us.length=1→F us
 | [_],_=>h _
theorem ar2 {F:List Value→Prop}(h:∀ a b,F [a,b]):∀ us:List Value,us.length=2→F us
 | [_,_],_=>h _ _
theorem ar3 {F:List Value→Prop}(h:∀ a b c,F [a,b,c]):∀ us:List Value,us.length=3→F us
 | [_,_,_],_=>h _ _ _
theorem ar4 {F:List Value→Prop}(h:∀ a b c d,F [a,b,c,d]):∀ us:List Value,us.length=4→F us
 | [_,_,_,_],_=>h _ _ _ _
theorem ar5 {F:List Value→Prop}(h:∀ a b c d e,F [a,b,c,d,e]):∀ us:List Value,us.length=5→F us
 | [_,_,_,_,_],_=>h _ _ _ _ _
theorem ar6 {F:List Value→Prop}(h:∀ a b c d e f,F [a,b,c,d,e,f]):∀ us:List Value,us.length=6→F us
 | [_,_,_,_,_,_],_=>h _ _ _ _ _ _
theorem mkD {K:PySem.W.Frag}{h:Heap}{mg:Str→Option Value}{a:Addr}{od an:Option Addr}{sl:Array (Option Value)}{oc kV dc pm cd ct:Value}{x:Str}{st:Stmt}{ps:List Str}(b:∀ (kV doc pm:Value) (an:Option Addr) (cdv ct:Value) (us:List Value),us.length=ps.length→bindArgs (PySem.W.fnOf x x (dq st) (cM st) (au st) .none kV doc pm an cdv ct) ⟨us,[]⟩=pure (ps.zip us)) (X:K.In h) (G:h.Ns mainGlobals mg)
  (g:PySem.W.nsIn K mainGlobals x=some (some (.ref a))) (l:K.lookup a=some ⟨oc,od,.func (PySem.W.fnOf x x (dq st) (cM st) (au st) .none kV dc pm an cd ct),sl⟩) (c:PySem.W.codeIn K cd x=true) (k:PySem.W.keepIn K (.ref a)=true):aV K mg x st ps:=
 ⟨a,_,PySem.W.mg_of X G g,dv l c k,(dv l c k).binds b⟩
theorem E3 {K:PySem.W.Frag}{h:Heap}{mg:Str→Option Value}{C:Addr}{Hb:Addr}{I0 Jp:Option Addr}{IU:Array (Option Value)}{Jc Jf Jj IX Ij Jm:Value}{Ha:Addr}{IZ Jo:Option Addr}{IT:Array (Option Value)}{Jb Je Ji IW Ii Jl:Value}{Hm:Addr}{Js JC:Option Addr}{Jq:Array (Option Value)}{Jt Jv JA Jr IF JB:Value}{IE:Addr}{JW J8:Option Addr}{JU:Array (Option Value)}{JX J0 J6 JV JK J7:Value}{GI:Addr}{HP HX:Option Addr}{HM:Array (Option Value)}{HQ HS HV HN Ho HW:Value}{GJ:Addr}{Im Iv:Option Addr}{Ik:Array (Option Value)}{Io Ip Ir Il Hv Iu:Value}{G9:Addr}{IY Jn:Option Addr}{IS:Array (Option Value)}{Ja Jd Jh IV Ih Jk:Value}(X:K.In h) (G:h.Ns mainGlobals mg)
  (aC:PySem.W.nsIn K mainGlobals "Catalogue"=some (some (.ref C))) (pg:PySem.W.plainGet K C Str.empty=true) (hd:PySem.W.hasDictIn K C=true) (po:PySem.W.plainOver K C=true) (sa:PySem.W.findIn K (.ref C) "__setattr__"=some (some (.builtin "object.__setattr__"))) (mk:PySem.W.makesIn K C=true) (kc:PySem.W.keepIn K (.ref C)=true)
  (JY:PySem.W.findIn K (.ref C) "works"=some none) (Ju:PySem.W.findIn K (.ref C) "evidence"=some none)
  (JF:PySem.W.findIn K (.ref C) "__init__"=some (some (.ref Hb))) (Jy:PySem.W.isFn K (.ref Hb)=true) (IC:K.lookup Hb=some ⟨Jc,I0,.func (PySem.W.fnOf "__init__" "Catalogue.__init__" (dq bB) (cM bB) (au bB) .none Jf Jj IX Jp Ij Jm),IU⟩) (II:PySem.W.codeIn K Ij "Catalogue.__init__"=true) (HF:PySem.W.keepIn K (.ref Hb)=true)
  (JE:PySem.W.findIn K (.ref C) "add_work"=some (some (.ref Ha))) (Jx:PySem.W.isFn K (.ref Ha)=true) (IB:K.lookup Ha=some ⟨Jb,IZ,.func (PySem.W.fnOf "add_work" "Catalogue.add_work" (dq bA) (cM bA) (au bA) .none Je Ji IW Jo Ii Jl),IT⟩) (IH:PySem.W.codeIn K Ii "Catalogue.add_work"=true) (HE:PySem.W.keepIn K (.ref Ha)=true)
  (JN:PySem.W.findIn K (.ref C) "restate"=some (some (.ref Hm))) (JM:PySem.W.isFn K (.ref Hm)=true) (IL:K.lookup Hm=some ⟨Jt,Js,.func (PySem.W.fnOf "restate" "Catalogue.restate" (dq bD) (cM bD) (au bD) .none Jv JA Jr JC IF JB),Jq⟩) (IM:PySem.W.codeIn K IF "Catalogue.restate"=true) (HR:PySem.W.keepIn K (.ref Hm)=true)
  (Kj:PySem.W.findIn K (.ref C) "drop"=some (some (.ref IE))) (Kd:PySem.W.isFn K (.ref IE)=true) (JP:K.lookup IE=some ⟨JX,JW,.func (PySem.W.fnOf "drop" "Catalogue.drop" (dq cD) (cM cD) (au cD) .none J0 J6 JV J8 JK J7),JU⟩) (JS:PySem.W.codeIn K JK "Catalogue.drop"=true) (k_drop:PySem.W.keepIn K (.ref IE)=true)
  (Iw:PySem.W.findIn K (.ref C) "claim_refusal"=some (some (.ref GI))) (Iq:PySem.W.isFn K (.ref GI)=true) (Hu:K.lookup GI=some ⟨HQ,HP,.func (PySem.W.fnOf "claim_refusal" "Catalogue.claim_refusal" (dq a7) (cM a7) (au a7) .none HS HV HN HX Ho HW),HM⟩) (Hw:PySem.W.codeIn K Ho "Catalogue.claim_refusal"=true) (G3:PySem.W.keepIn K (.ref GI)=true)
  (IJ:PySem.W.findIn K (.ref C) "add_evidence"=some (some (.ref GJ))) (ID:PySem.W.isFn K (.ref GJ)=true) (Hx:K.lookup GJ=some ⟨Io,Im,.func (PySem.W.fnOf "add_evidence" "Catalogue.add_evidence" (dq a8) (cM a8) (au a8) .none Ip Ir Il Iv Hv Iu),Ik⟩) (Hy:PySem.W.codeIn K Hv "Catalogue.add_evidence"=true) (G8:PySem.W.keepIn K (.ref GJ)=true)
  (JD:PySem.W.findIn K (.ref C) "withdraw"=some (some (.ref G9))) (Jw:PySem.W.isFn K (.ref G9)=true) (IA:K.lookup G9=some ⟨Ja,IY,.func (PySem.W.fnOf "withdraw" "Catalogue.withdraw" (dq bz) (cM bz) (au bz) .none Jd Jh IV Jn Ih Jk),IS⟩) (IG:PySem.W.codeIn K Ih "Catalogue.withdraw"=true) (HD:PySem.W.keepIn K (.ref G9)=true):∃ C,mg "Catalogue"=some (.ref C)∧Cat K mg C∧PySem.W.makesIn K C=true∧PySem.W.keepIn K (.ref C)=true:=
 ⟨C,PySem.W.mg_of X G aC,⟨⟨pg,hd,po,sa⟩,JY,Ju,⟨Hb,_,⟨JF,Jy,HF⟩,dv IC II HF,(dv IC II HF).binds fun _ _ _ _ _ _=>ar1 fun _=>rfl⟩,⟨Ha,_,⟨JE,Jx,HE⟩,dv IB IH HE,(dv IB IH HE).binds fun _ _ _ _ _ _=>ar3 fun _ _ _=>rfl⟩,⟨Hm,_,⟨JN,JM,HR⟩,dv IL IM HR,(dv IL IM HR).binds fun _ _ _ _ _ _=>ar3 fun _ _ _=>rfl⟩,⟨IE,_,⟨Kj,Kd,k_drop⟩,dv JP JS k_drop,(dv JP JS k_drop).binds fun _ _ _ _ _ _=>ar2 fun _ _=>rfl⟩,⟨GI,_,⟨Iw,Iq,G3⟩,dv Hu Hw G3,(dv Hu Hw G3).binds fun _ _ _ _ _ _=>ar5 fun _ _ _ _ _=>rfl⟩,⟨GJ,_,⟨IJ,ID,G8⟩,dv Hx Hy G8,(dv Hx Hy G8).binds fun _ _ _ _ _ _=>ar6 fun _ _ _ _ _ _=>rfl⟩,⟨G9,_,⟨JD,Jw,HD⟩,dv IA IG HD,(dv IA IG HD).binds fun _ _ _ _ _ _=>ar2 fun _ _=>rfl⟩⟩,mk,kc⟩
end Dw
namespace PySem.W.Fast
def tw236224422159785523:=0
def tw10084694341174713930:=0
def tw1903240983083669982:=0
def tw14155082477706580520:=0
def tw4437022280583448933:=0
def tw14306128791015635869:=0
def tw11349126659924828177:=0
def tw6811135116658132620:=0
def tw16303497282607121462:=0
def tw2167352631851922400:=0
def tw13751849220688778211:=0
def tw10532573924123404098:=0
def tw8073878646544968330:=0
def tw14097785536700811476:=0
def tw6814924829054658947:=0
def tw13018691163275947900:=0
def tw7360415437102729393:=0
def tw3357588559317844471:=0
def tw6898616438605156108:=0
def tw15389858529638554429:=0
def tw16669198788740175214:=0
def tw2324799800785950141:=0
def tw1101879290465457577:=0
def tw15715957675734822315:=0
def tw14512545591862331693:=0
def tw13855885059361983866:=0
def tw18421654671835189567:=0
def tw16898410732344381627:=0
def tw13403649126269161082:=0
def tw17388400558747122861:=0
def tw4380233527701810591:=0
def tw13858013148122593:=0
def tw14033650831022582259:=0
def tw1318767715961874725:=0
def tw3470852358930897323:=0
def tw13820243598253296445:=0
def tw1282138913033404446:=0
def tw14758871485368900886:=0
def tw8131030194663531430:=0
def tw8172131445169628223:=0
def tw8770595036803966187:=0
def tw15812304181757523447:=0
def tw1472967026563023097:=0
def tw2824150875499855306:=0
def tw2743171036118371832:=0
def tw12652241988491756152:=0
def tw11940792739549152898:=0
def tw8713455497316318859:=0
def tw16193229848812908544:=0
def tw5153385311281774688:=0
def tw922173774832637389:=0
def tw11605408078140359699:=0
def tw4039450974932303510:=0
def tw12676030075233718061:=0
def tw8373797380964484323:=0
def tw9981631626917203675:=0
def tw8756444044844960522:=0
def tw17969365329177282574:=0
def tw10433271077481671233:=0
def tw65302439688927886:=0
def tw15260713907262654859:=0
def tw8813983778469697804:=0
def tw9557404322771798572:=0
def tw3179251531450911849:=0
def tw6328054309211464373:=0
def tw16513169018335065675:=0
def tw4142722299373482434:=0
def tw14469435739655092480:=0
def tw1004727817268228963:=0
def tw17954267250236440976:=0
def tw8934868686452461341:=0
def tw10436533115153157638:=0
def tw7486057052282470046:=0
def tw3064419432383734989:=0
def tw11545766654993005899:=0
def tw121447826270932041:=0
def tw746811869987758327:=0
def tw1673225994700858581:=0
def tw10224283931605416659:=0
def tw1572176550592178271:=0
def tw5531256299515297666:=0
def tw15377203042049906710:=0
def tw2638927786330343787:=0
def tw3331574991501128416:=0
def tw8484258241290503655:=0
def tw9226826361340287802:=0
def tw8924736778522082455:=0
def tw1063323792366993570:=0
def tw16069982251829050516:=0
def tw16469026487907695218:=0
def tw17151014493921567971:=0
def tw11276109418992930776:=0
def tw14912431040543161733:=0
def tw271529511452550298:=0
def tw9220225441728549472:=0
def tw11785625047687369419:=0
def tw8744535328899576079:=0
def tw4918948634568151188:=0
def tw7191651806962585897:=0
def tw9493250386515180656:=0
def tw786782055465403835:=0
def tw4260105458795232610:=0
def tw15711423297271381040:=0
def tw4118767035453191491:=0
def tw2311318354627338673:=0
def tw13702317269501718791:=0
def tw5528143966947089543:=0
def tw17907717537103162790:=0
def tw9256902817300001546:=0
def tw10403131545804919627:=0
def tw16236874127318424008:=0
def tw15856859451888186782:=0
def tw9073108077260126751:=0
def tw7770516159873700011:=0
def tw3247081755121836614:=0
def tw9286044949789150057:=0
def tw12376680050302113995:=0
def tw3834975449992472695:=0
def tw12722672427289980297:=0
def tw10081791074636034423:=0
def tw4126981397430515676:=0
def tw7249450676805985148:=0
def tw10707159353434507716:=0
def tw2686773970502712945:=0
def tw1813494079331926169:=0
def tw16957889398380343854:=0
def tw17317870628637459800:=0
def tw2342817119032711871:=0
def tw2728176142409835430:=0
def tw7924251573119812591:=0
def tw10171601068177664596:=0
def tw6248359203037100566:=0
def tw5785718691621464107:=0
def tw7590453814598389246:=0
def tw12784983202512283612:=0
def tw16525313901741034757:=0
def tw7337787567965609209:=0
def tw10074156907632182259:=0
def tw9999508061118471495:=0
def tw2620702220881626723:=0
def tw16511336276062518960:=0
def tw4489481882461128264:=0
def tw16487406195411926035:=0
def tw2381807244994748239:=0
def tw13248562285624102510:=0
def tw6602168931097448751:=0
def tw8344941944275384397:=0
def tw1277944798684086311:=0
def tw12552227806547491197:=0
def tw13519163811950595575:=0
def tw12287310414635669997:=0
def tw13029876334013110545:=0
def tw15161461856808870914:=0
def tw4510256815119346653:=0
def tw17891776775447873499:=0
def tw3827684163889888014:=0
def tw2563669710090079560:=0
def tw13230257982317084387:=0
def tw16781844056000324616:=0
def tw5201046566019713168:=0
def tw3195620084543331348:=0
def tw12539946519846979783:=0
def tw5829659452986135995:=0
def tw4362174067689109749:=0
def tw15516781032532830033:=0
def tw9679262462098539288:=0
def tw8900713036001240618:=0
def tw895307148561093909:=0
def tw10402949566243218211:=0
def tw9597775876617595766:=0
def tw5115700380689366321:=0
def tw8490856959184012282:=0
def tw17410497346287691778:=0
def tw1242077887870732362:=0
def tw16104066327400172707:=0
def tw15494778518251964994:=0
def tw14141142076588469328:=0
def tw7421810392677871662:=0
def tw8621556110349806021:=0
def tw10273989788269716345:=0
def tw9569174266361439813:=0
def tw9053489537261387327:=0
def tw3893565788100227709:=0
def tw7688040566949353359:=0
def tw4760964622198647022:=0
def tw1357322986404287589:=0
def tw15917810882592183915:=0
def tw13687272186673661726:=0
def tw8623321798413457773:=0
def tw6365452283459414852:=0
def tw16239595156483959850:=0
def tw9456442959677805018:=0
def tw2001859391870524092:=0
def tw12369839130200431708:=0
def tw17218414213518241037:=0
def tw13069983352327016740:=0
def tw15417811697654186828:=0
def tw17934926013053343956:=0
def tw6776647365523582269:=0
def tw5728370691553169718:=0
def tw7207198784640883912:=0
def tw8060159356421253875:=0
def tw15675836907712953061:=0
def tw9784720562387495721:=0
def tw10497991347142462513:=0
def tw3436244071994662431:=0
def tw15183637862299811573:=0
def tw8514092499208192761:=0
def tw12483324677119896231:=0
def tw5172755895245948679:=0
def tw11929499158699437406:=0
def tw1701929154576512575:=0
def tw1841420542605821095:=0
def tw1447447899038317814:=0
def tw9639753785039405012:=0
def tw9794792476382806961:=0
def tw2853640061983058146:=0
def tw15621403474557093637:=0
def tw4522979930455320422:=0
def tw8773001292738198571:=0
def tw839228200583585878:=0
def tw4883238296246837493:=0
def tw7781316533200377805:=0
def tw5505661313389710134:=0
def tw5223293148595417126:=0
def tw15830653440072750368:=0
def tw3765554774089373775:=0
def tw14506654252825423462:=0
def tw3124579055853182560:=0
def tw14156935031972153442:=0
def tw11338744432852328981:=0
def tw13821442718592490997:=0
def tw733211162564751291:=0
def tw7584380722070934920:=0
def tw12219487237990711419:=0
def tw7344048261683917038:=0
def tw15138489702121933474:=0
def tw14770190510531190813:=0
def tw7535869956168573440:=0
def tw11036027413313388116:=0
def tw17658666298336259068:=0
def tw14125279874616495540:=0
def tw13254709227672866753:=0
def tw14552631191922546715:=0
def tw7589201531739167239:=0
def tw10124083360749884296:=0
def tw6000818118500956470:=0
def tw4330214614494487107:=0
def tw9851502127099811755:=0
def tw18423143891419618238:=0
def tw2727342530598551220:=0
def tw10843068495401728323:=0
def tw8331049703768085995:=0
def tw8752742536029419272:=0
def tw16300621646686024840:=0
def tw8467281219286991214:=0
def tw11647922942863790092:=0
def tw16571564419641755483:=0
def tw7955046067137249785:=0
def tw11454607699806183895:=0
def tw12442545867217067762:=0
def tw460278920564794814:=0
def tw14616531535587630066:=0
def tw16245541678616891757:=0
def tw7201362878179961673:=0
def tw8288709136176634265:=0
def tw890056484082474502:=0
def tw13082767493826931547:=0
def tw10076021967778316943:=0
def tw9530463329599860717:=0
def tw546399709993122324:=0
def tw15425874577752509522:=0
def tw14588733393977973289:=0
def tw17457879900907533339:=0
def tw2555645541117151977:=0
def tw414038820651621186:=0
def tw6790053069330441346:=0
def tw5981166746159538638:=0
def tw9963494340928335758:=0
def tw1449550634562207667:=0
def tw6582422318872327727:=0
def tw16713801336750342388:=0
def tw1253542056889463908:=0
def tw10481719949478560429:=0
def tw7248637084637625653:=0
def tw7783403955883614024:=0
def tw12590165512081112246:=0
def tw11169475309996047491:=0
def tw12137771630064753440:=0
def tw4677713859961804022:=0
def tw11084767759613070107:=0
def tw7393116894440224105:=0
def tw3169024962333523899:=0
def tw7720529642188405865:=0
def tw18295336176102242589:=0
def tw5838981012664265592:=0
def tw15680419989578405658:=0
def tw6983781667653627033:=0
def tw3593515712385892071:=0
def tw13791319666825426661:=0
def tw2952109382407078548:=0
def tw15539088408144354488:=0
def tw17839160247325784706:=0
def tw18084597969833481480:=0
def tw15683688156172497691:=0
def tw9564310533047044641:=0
def tw6764093158662950910:=0
def tw2831660146814982455:=0
def tw3989518356125039288:=0
def tw12093162639412860578:=0
def tw15616849602322217201:=0
def tw645883532511493287:=0
def tw15227001905181964207:=0
def tw12401709927789329662:=0
def tw6078564136257255345:=0
def tw1900978099533834561:=0
def tw5020238173018510194:=0
def tw10713977280747838910:=0
def tw4968375073987473571:=0
def tw6757618970623489783:=0
def tw1739587013583148178:=0
def tw17563753547896497082:=0
def tw5585039113300884975:=0
def tw18243316435654404686:=0
def tw3265497545057828292:=0
def tw7165360038868286878:=0
def tw10388058372588417686:=0
def tw876329487855443896:=0
def tw1702377354619918340:=0
def tw17438105446164977529:=0
def tw8911094939739165720:=0
def tw3876665851081801990:=0
def tw3897212068374413342:=0
def tw14420922211177453256:=0
def tw18022281991956381635:=0
def tw13869437271431842807:=0
def tw877363648189347436:=0
def tw16331163314211586007:=0
def tw5046549735035607656:=0
end PySem.W.Fast
open PySem PySem.W PyProof.Rows
set_option maxRecDepth 100000 in
set_option maxHeartbeats 0 in
theorem PySem.Challenge.cw_datedworks_s01_answers_holds : PySem.Challenge.rw_datedworks_s01_answers.Holds := by
 w_on;k_headS;(case hw=>exact⟨[.list [.int 18]],by decide +kernel,by decide +kernel⟩)
 k_fillS
 refine DwG.Bb (r:=PySem.Challenge.rw_datedworks_s01_answers) (k:=12) (ps:=["calls"]) (sp:=Dw.kX) (by decide +kernel) rfl ⟨rfl,by decide,by decide⟩ (fun w h Y=>PySem.W.kIn_of Y) (hl:=rfl) ?hT ?hP ?F ?S
 case hT=>exact fun p=>by kernel_rfl
 case hP=>exact fun p=>by kernel_rfl
 case F=>
  intro w mg fa h Y KX G hmg
  have T:Dw.Txt (L2.KOf KX) mg:=by
   dsimp only[L2.KOf]
   constructor
   all_goals first
    |(refine' Dw.mkI KX G ?k;(case k=>k_is))
    |(refine' PySem.W.mg_none_of KX G ?k;(case k=>k_is))
    |(refine' Dw.mkD ?e KX G ?a ?b ?c ?d;(case e=>first | exact fun _ _ _ _ _ _=>Dw.ar1 fun _=>rfl | exact fun _ _ _ _ _ _=>Dw.ar2 fun _ _=>rfl | exact fun _ _ _ _ _ _=>Dw.ar3 fun _ _ _=>rfl | exact fun _ _ _ _ _ _=>Dw.ar4 fun _ _ _ _=>rfl | exact fun _ _ _ _ _ _=>Dw.ar5 fun _ _ _ _ _=>rfl | exact fun _ _ _ _ _ _=>Dw.ar6 fun _ _ _ _ _ _=>rfl);(case a=>k_is);(case b=>k_is);(case c=>k_is);(case d=>k_is))
    |(refine' Dw.mkT KX G ?a ?b ?c ?d;(case a=>k_is);(case b=>k_is);(case c=>decide);(case d=>repeat' first | exact .nil | refine .cons ⟨_,rfl⟩ ?_))
  have CC:∃ C,mg "Catalogue"=some (.ref C)∧Dw.Cat (L2.KOf KX) mg C∧PySem.W.makesIn (L2.KOf KX) C=true∧PySem.W.keepIn (L2.KOf KX) (.ref C)=true:=by
   dsimp only[L2.KOf]
   apply Dw.E3 KX G<;>k_is
  obtain⟨fa',fd,h1,h2,h3⟩:=Dw.E9 (P:=PySem.Challenge.rw_datedworks_s01_answers.prog) (w:=w) T CC
  have e:=hmg.symm.trans h1
  cases e
  exact⟨fd,h2,h3⟩
 case S=>
  intro K H xs a hO hwi Kg hx
  cases hx with
  |cons h1 h2=>
   cases h2
   cases h1 with
   |lst hs ha=>
    have e:=L2.zA a.1 _ ha
    subst e
    have q:((Codec.inLen 0 24000 a.1 && a.1.all (Codec.inInt (-1000000000000) 1000000000000)) && true)=true:=hwi
    rw[Bool.and_eq_true,Bool.and_eq_true]at q
    exact⟨_,a.1,rfl,hs,(Codec.inNat_iff.mp q.1.1).2,Kg,hO,fun H' p hp=>.lst (L2.SqL.of hp) (L2.zE _)⟩
