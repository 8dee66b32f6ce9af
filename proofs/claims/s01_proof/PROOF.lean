import PyProof.Rows.All
import Wide.All
import OpenK.AllK
import Wide.FinOn
import PyProof.EqAt
import PyProof.EqKinds
import PyProof.TupleCall
import KE.BitLaws
import Open.SpecLaws
import KE.OsHead
import KE.OsGo
import PyProof.StationsW
import PyProof.ExcInit
import PyProof.InstStore
import PyProof.ExcAttrAll.Exception
import PyProof.RulesAs
import PyProof.PassesOwn
import PyProof.InstStoreFacts
import PyProof.NsDelKeeps
import PyProof.FactsAll.tuple_2
import PyProof.FactsAll.tuple_3
import PySem.Challenge.RW_lensrows_s01_answers
import LnText
import PySem.Str
import WrlnsbSpec
import KE.KRevIter
import PyProof.ZipIter
set_option linter.all false
set_option maxRecDepth 100000
set_option Elab.async false
set_option maxHeartbeats 8000000
namespace L2
open PySem PySem.Spec PyProof.Rows
abbrev Key:=Sum Int Str
def FN:Key→Value→Bool
 |.inl k,v=>Value.isInt k v
 |.inr x,v=>Value.isStrOf x v
def NT(w:World):Key→Int
 |.inl k=>hashInt k
 |.inr x=>hashStr w x
theorem lN:∀{k:Key} {v:Value},FN k v=true→(∃i t,k=Sum.inl i∧v=Value.int i t)∨(∃x t,k=Sum.inr x∧v=Value.str x t)
 |.inl i,v,h=>by
  obtain⟨t,e⟩:=Value.isInt_shape (k:=i) (v:=v) h
  exact .inl ⟨i,t,rfl,e⟩
 |.inr x,v,h=>by
  obtain⟨t,e⟩:=Value.isStrOf_shape (x:=x) (v:=v) h
  exact .inr ⟨x,t,rfl,e⟩
theorem NU(a b:Int):decide ((Sum.inl a:Key)=Sum.inl b)=(a==b):=by
 by_cases e:a=b
 ·subst e;simp
 ·have h:¬(Sum.inl a:Key)=Sum.inl b:=λq=>e (Sum.inl.inj q)
  rw[decide_eq_false h]
  exact(beq_eq_false_iff_ne.mpr e).symm
theorem NV(a b:Str):decide ((Sum.inr a:Key)=Sum.inr b)=decide (a=b):=by
 by_cases e:a=b
 ·subst e;simp
 ·have h:¬(Sum.inr a:Key)=Sum.inr b:=λq=>e (Sum.inr.inj q)
  rw[decide_eq_false h,decide_eq_false e]
theorem NW(a:Int)(b:Str):decide ((Sum.inl a:Key)=Sum.inr b)=false:=decide_eq_false (λq=>nomatch q)
theorem NX(a:Str)(b:Int):decide ((Sum.inr a:Key)=Sum.inl b)=false:=decide_eq_false (λq=>nomatch q)
def FO(prog:Program)(w:World):PySem.KeyKind prog w Key where
 is:=FN
 hash:=NT w
 inj:=λv a b ha hb=>by
  rcases lN ha with⟨i,t,rfl,rfl⟩|⟨x,t,rfl,rfl⟩
  ·rcases lN hb with⟨j,u,rfl,e⟩|⟨y,u,rfl,e⟩
   ·injection e with e1 _;rw[e1]
   ·exact nomatch e
  ·rcases lN hb with⟨j,u,rfl,e⟩|⟨y,u,rfl,e⟩
   ·exact nomatch e
   ·injection e with e1 _;rw[e1]
 byValue:=λk v h=>by
  rcases lN h with⟨i,t,rfl,rfl⟩|⟨x,t,rfl,rfl⟩<;>rfl
 pyHash:=λhv h=>by
  rcases lN hv with⟨i,t,rfl,rfl⟩|⟨x,t,rfl,rfl⟩
  ·exact wpAny_pyHash_int h
  ·exact wpAny_pyHash_str h
 eqBool:=λhu hv h=>by
  rcases lN hu with⟨i,t,rfl,rfl⟩|⟨x,t,rfl,rfl⟩
  ·rcases lN hv with⟨j,u,rfl,rfl⟩|⟨y,u,rfl,rfl⟩
   ·rw[NU]at h;exact wpAny_eqBool_int h
   ·rw[NW]at h;exact SeqAt.EqAt.int_str i t y u _ _ _ _ h
  ·rcases lN hv with⟨j,u,rfl,rfl⟩|⟨y,u,rfl,rfl⟩
   ·rw[NX]at h;exact SeqAt.EqAt.str_int x t j u _ _ _ _ h
   ·rw[NV]at h;exact wpAny_eqBool_str h
 «strs»:=λk x t v h=>by
  rcases lN h with⟨i,u,rfl,e⟩|⟨y,u,rfl,e⟩
  ·exact nomatch e
  ·injection e with e1 _
   subst e1
   cases v<;>rfl
end L2
namespace L2
open PySem PySem.Spec PyProof.Rows
inductive V where
 |aJ|bl (b:Bool)|int (i:Int)|str (x:Str)|g9 (b:Array UInt8)|vE (b:UInt64)|ref (a:Addr)|ty (n:String)
 deriving DecidableEq
def RelV:V→Value→Prop
 |.aJ,u=>u=Value.none
 |.bl b,u=>u=Value.bool b
 |.int i,u=>∃t,u=Value.int i t
 |.str x,u=>∃t,u=Value.str x t
 |.g9 b,u=>∃t,u=Value.bytes b t
 |.vE b,u=>∃t,u=Value.float b t
 |.ref a,u=>u=Value.ref a
 |.ty n,u=>u=Value.type n
abbrev Vals:List V→List Value→Prop:=Paired RelV
theorem Vals.length{xs:List V}{us:List Value}(r:Vals xs us):xs.length=us.length:=Paired.length r
theorem Vals.get:∀{xs:List V} {us:List Value} {i:Nat} {x:V},Vals xs us→xs[i]?=some x→∃u,us[i]?=some u∧RelV x u
 |_,_,_,_,.nil,e=>by simp at e
 |_,_,0,_,.cons r _,e=>by simp at e;subst e;exact⟨_,rfl,r⟩
 |_,_,i+1,x,.cons _ t,e=>by
  obtain⟨u,h1,h2⟩:=Vals.get (i:=i) (x:=x) t (by simpa using e)
  exact⟨u,by simpa using h1,h2⟩
theorem Vals.append:∀{xs ys:List V} {us ws:List Value},Vals xs us→Vals ys ws→Vals (xs++ys) (us++ws)
 |_,_,_,_,.nil,s=>s
 |_,_,_,_,.cons r t,s=>.cons r (Vals.append t s)
theorem Vals.take:∀{xs:List V} {us:List Value} (n:Nat),Vals xs us→Vals (xs.take n) (us.take n)
 |_,_,0,_=>.nil
 |_,_,_+1,.nil=>.nil
 |_,_,n+1,.cons r t=>.cons r (Vals.take n t)
theorem Vals.drop:∀{xs:List V} {us:List Value} (n:Nat),Vals xs us→Vals (xs.drop n) (us.drop n)
 |_,_,0,r=>r
 |_,_,_+1,.nil=>.nil
 |_,_,n+1,.cons _ t=>Vals.drop n t
def i8:Option V→Option Value→Prop
 |some v,some u=>RelV v u
 |none,none=>True
 |_,_=>False
def KV{κ:Type}:List (κ×V)→List (κ×Value)→Prop:=Paired λ(p:κ×V) (q:κ×Value)=>p.1=q.1∧RelV p.2 q.2
def kV:Key→V
 |.inl i=>.int i
 |.inr x=>.str x
inductive HO where
 |lst (xs:List V)
 |tup (xs:List V)
 |dK (fD:List (Key×V))|dT (fD:List (List Key×V))
 |set (S:Int→Bool) (n:Nat)
 |ins (C dx:Addr) (fs:List (Str×V))
 |own (x:Addr)
 |xd (fs:List (Str×V))
 |met (f x:Addr)
 |vF (lo hi:Int)
 |fE (o:Obj) (u:HO)
 |mR (ps:Array Value)
 |ext (φ:Heap→Prop)
abbrev Hp:=Addr→Option HO
def upd(H:Hp)(a:Addr)(o:HO):Hp:=λb=>if b=a then some o else H b
theorem aw{H:Hp}{a:Addr}{o:HO}:upd H a o a=some o:=by unfold upd;rw[if_pos rfl]
theorem aG{H:Hp}{a b:Addr}{o:HO}(h:b≠a):upd H a o b=H b:=by unfold upd;rw[if_neg h]
theorem eP{H:Hp}{a:Addr}{o u:HO}:upd (upd H a o) a u=upd H a u:=by
 funext b;unfold upd;split<;>rfl
theorem bY{H:Hp}{a b:Addr}{o u:HO}(h:H a=some o)(h':H b=some u)(d:o≠u):a≠b:=by
 intro e;subst e;rw[h]at h';exact d (Option.some.inj h')
theorem cp{H:Hp}{a b:Addr}{o:HO}(h:H a=some o)(h':H b=none):a≠b:=by
 intro e;subst e;rw[h]at h';cases h'
section
variable(P:Program)(w:World)
def dI(H:Hp)(h:Heap)(a:Addr):HO→Prop
 |.lst xs=>xs.length≤sizeLine∧∃(aq:List Value) (n:Nat),Vals xs aq∧h.get? a=some {cls:=.type "list",data:=.seq aq.toArray n}
 |.tup xs=>xs.length≤sizeLine∧∃aq:List Value,Vals xs aq∧IsTup h a aq.toArray
 |.dK fD=>fD.length≤sizeLine∧(a==sysModules)=false∧∃vs,KV fD vs∧h.DictOf (FO P w) a vs
 |.dT fD=>fD.length≤sizeLine∧(a==sysModules)=false∧∃xs:List (List Key×Addr×Value),
   Paired (λ(p:List Key×V) (q:List Key×Addr×Value)=>p.1=q.1∧H q.2.1=some (.tup (p.1.map kV))∧RelV p.2 q.2.2) fD xs∧
   ∃o es ep,h.get? a=some o∧o.ExactDict∧o.data=.dict es ep∧es.toList=xs.map (entryOfKey (tupleKind (FO P w)))∧(xs.map (·.1)).Nodup
 |.set S n=>h.SetOf (intKind P w) a S n
 |.ins C dx fs=>H dx=some (.own a)∧fs.length≤1000∧dx≠a∧h.get? a=some (PySem.W.instObj C dx)∧
   ∃mA,h.Ns1 dx mA∧(∀f,i8 (fs.lookup f) (mA f))∧PySem.Within mA (fs.map (·.1))
 |.own _=>∃o,h.get? a=some o
 |.xd fs=>∃mA,h.Ns1 a mA∧∀f,i8 (fs.lookup f) (mA f)
 |.vF lo hi=>∃t u v,h.get? a=some {cls:=.type "range",data:=.fields #[.int lo t,.int hi u,.int 1 v]}
 |.fE o u=>h.get? a=some o∧dI H h a u
 |.mR ps=>h.get? a=some {cls:=.none,data:=.fields ps}
 |.met f x=>h.get? a=some (PySem.W.methodObj (.ref f) (.ref x))
 |.ext φ=>φ h∧(∃o,h.get? a=some o)∧∀h1 h2:Heap,φ h1→(∀o,h1.get? a=some o→h2.get? a=some o)→φ h2
def cu(H:Hp)(h:Heap):Prop:=∀a o,H a=some o→dI P w H h a o
end
section
variable{P:Program}{w:World}{H U:Hp}{h h':Heap}{a:Addr}{o:HO}
theorem dI.lt(x:dI P w H h a o):a<h.objs.size:=by
 cases o with
 |lst xs=>obtain⟨_,_,_,_,e⟩:=x;exact Heap.lt_size e
 |tup xs=>obtain⟨_,_,_,p⟩:=x;exact p.lt
 |dK fD=>obtain⟨_,_,_,_,o,_,_,e,_⟩:=x;exact Heap.lt_size e
 |dT fD=>obtain⟨_,_,_,_,o,_,_,e,_⟩:=x;exact Heap.lt_size e
 |set S n=>obtain⟨o,_,_,_,e,_⟩:=x;exact Heap.lt_size e
 |ins C dx fs=>obtain⟨_,_,_,e,_⟩:=x;exact Heap.lt_size e
 |own y=>obtain⟨_,e⟩:=x;exact Heap.lt_size e
 |xd fs=>obtain⟨_,⟨_,_,_,e,_⟩,_⟩:=x;exact Heap.lt_size e
 |vF lo hi=>obtain⟨_,_,_,e⟩:=x;exact Heap.lt_size e
 |fE ob u=>obtain⟨e,_⟩:=x;exact Heap.lt_size e
 |mR ps=>exact Heap.lt_size (show h.get? a=some _ from x)
 |met f y=>exact Heap.lt_size (show h.get? a=some _ from x)
 |ext φ=>obtain⟨_,⟨_,e⟩,_⟩:=x;exact Heap.lt_size e
theorem Paired.FP{α β:Type}{F G:α→β→Prop}:∀{FQ:List α} {FR:List β},Paired F FQ FR→(∀a b,F a b→G a b)→Paired G FQ FR
 |_,_,.nil,_=>.nil
 |_,_,.cons r t,f=>.cons (f _ _ r) (Paired.FP t f)
theorem dI.g_(x:dI P w H h a o)(k:∀b u,(b=a∨H b=some (.own a))→h.get? b=some u→h'.get? b=some u)(ho:∀b,H b=some (.own a)→U b=some (.own a))(ht:∀b xs,H b=some (.tup xs)→U b=some (.tup xs)):dI P w U h' a o:=by
 induction o with
 |lst xs=>obtain⟨z,aq,n,r,e⟩:=x;exact⟨z,aq,n,r,k _ _ (.inl rfl) e⟩
 |tup xs=>obtain⟨z,aq,r,ob,e,c⟩:=x;exact⟨z,aq,r,ob,k _ _ (.inl rfl) e,c⟩
 |dK fD=>obtain⟨z,y,vs,r,ob,es,ep,e,c⟩:=x;exact⟨z,y,vs,r,ob,es,ep,k _ _ (.inl rfl) e,c⟩
 |dT fD=>
  obtain⟨z,y,xs,r,ob,es,ep,e,c⟩:=x
  exact⟨z,y,xs,Paired.FP r λp q z=>⟨z.1,ht _ _ z.2.1,z.2.2⟩,ob,es,ep,k _ _ (.inl rfl) e,c⟩
 |set S n=>obtain⟨ob,es,ep,t,e,c⟩:=x;exact⟨ob,es,ep,t,k _ _ (.inl rfl) e,c⟩
 |ins C dx fs=>
  obtain⟨d,z,ne,e,mA,⟨od,es,ep,e2,c⟩,r⟩:=x
  exact⟨ho _ d,z,ne,k _ _ (.inl rfl) e,mA,⟨od,es,ep,k _ _ (.inr d) e2,c⟩,r⟩
 |own y=>obtain⟨ob,e⟩:=x;exact⟨ob,k _ _ (.inl rfl) e⟩
 |xd fs=>obtain⟨mA,⟨od,es,ep,e,c⟩,r⟩:=x;exact⟨mA,⟨od,es,ep,k _ _ (.inl rfl) e,c⟩,r⟩
 |vF lo hi=>obtain⟨t,u,v,e⟩:=x;exact⟨t,u,v,k _ _ (.inl rfl) e⟩
 |fE ob u ih=>obtain⟨e,q⟩:=x;exact⟨k _ _ (.inl rfl) e,ih q⟩
 |mR ps=>
  have e:h.get? a=some {cls:=.none,data:=.fields ps}:=x
  show h'.get? a=some {cls:=.none,data:=.fields ps}
  exact k a _ (.inl rfl) e
 |met f y=>
  have e:h.get? a=some (PySem.W.methodObj (.ref f) (.ref y)):=x
  show h'.get? a=some (PySem.W.methodObj (.ref f) (.ref y))
  exact k a _ (.inl rfl) e
 |ext φ=>obtain⟨p,⟨o,e⟩,st⟩:=x;exact⟨st _ _ p λo q=>k _ _ (.inl rfl) q,⟨o,k _ _ (.inl rfl) e⟩,st⟩
theorem cu.lt(x:cu P w H h)(e:H a=some o):a<h.objs.size:=(x a o e).lt
theorem cu.fresh(x:cu P w H h)(e:h.objs.size≤a):H a=none:=by
 cases q:H a with
 |none=>rfl
 |some u=>exact absurd (Nat.lt_of_lt_of_le (x.lt q) e) (Nat.lt_irrefl _)
theorem cu.kept(x:cu P w H h)(k:∀b u,h.get? b=some u→h'.get? b=some u):cu P w H h':=λa o e=>
 (x a o e).g_ (λb u _ q=>k b u q) (λ_ q=>q) λ_ _ q=>q
theorem cu.laid(x:cu P w H h)(k:∀b u,h.get? b=some u→h'.get? b=some u)(hp:h.objs.size≤a)(new:dI P w (upd H a o) h' a o):cu P w (upd H a o) h':=λb u e=>by
 have hn:=x.fresh hp
 by_cases hb:b=a
 ·subst hb;rw[aw]at e;cases e;exact new
 ·rw[aG hb]at e
  exact(x b u e).g_ (λc v _ q=>k c v q) (λc q=>by rw[aG (cp q hn)];exact q) λc xs q=>by rw[aG (cp q hn)];exact q
end
def Rd(H:Hp)(a:Addr)(u:HO):Prop:=H a=some u∨∃o,H a=some (.fE o u)
theorem Rd.ok{P:Program}{w:World}{H:Hp}{h:Heap}{a:Addr}{u:HO}(r:Rd H a u)(x:cu P w H h):dI P w H h a u:=by
 rcases r with r|⟨o,r⟩
 ·exact x a u r
 ·obtain⟨_,q⟩:=x a _ r
  exact q
def vG:Option HO→Prop
 |some (.lst _)=>True
 |some (.dK _)=>True
 |some (.dT _)=>True
 |some (.set _ _)=>True
 |some (.ins _ _ _)=>True
 |some (.ext _)=>True
 |_=>False
section
variable{P:Program}{w:World}{H:Hp}{h h':Heap}{x e:Addr}{o':HO}
theorem cu.write(ok:cu P w H h)(mu:vG (H x))(he:e=x∨H e=some (.own x))(k:∀b u,b≠e→h.get? b=some u→h'.get? b=some u)(p_:∃u,h'.get? e=some u)(new:dI P w (upd H x o') h' x o'):cu P w (upd H x o') h':=λb u q=>by
 have FT:∀c y,H c=some (.own y)→c≠x:=λc y r z=>by subst z;rw[r]at mu;exact mu
 have NY:∀c xs,H c=some (.tup xs)→c≠x:=λc xs r z=>by subst z;rw[r]at mu;exact mu
 by_cases hb:b=x
 ·subst hb;rw[aw]at q;cases q;exact new
 ·rw[aG hb]at q
  by_cases gA:b=e
  ·have q':H b=some (.own x):=by
    rcases he with z|z
    ·exact absurd (gA.trans z) hb
    ·rw[gA];exact z
   rw[q]at q';cases q'
   obtain⟨v,hv⟩:=p_
   exact⟨v,by rw[gA];exact hv⟩
  ·refine(ok b u q).g_ (λc v hc r=>k c v ?_ r) (λc r=>by rw[aG (FT c b r)];exact r) λc xs r=>by rw[aG (NY c xs r)];exact r
   rcases hc with rfl|hc
   ·exact gA
   ·rintro rfl
    rcases he with z|z
    ·exact FT c b hc z
    ·rw[hc]at z;cases z;exact hb rfl
end
structure Un(fs ex:List Addr)(H U:Hp)(h h':Heap):Prop where
 keep:∀b o,h.get? b=some o→H b=none→b∉fs→b∉ex→h'.get? b=some o
 slot:∀b o,h.get? b=some o→H b=none→b∈fs→b∉ex→∃sl,h'.get? b=some {o with slots:=sl}
 free:∀b o,h.get? b=some o→H b=none→b∉ex→U b=none
 there:∀b o,h.get? b=some o→b∉ex→∃o',h'.get? b=some o'
 i9:∀b xs,H b=some (.tup xs)→U b=some (.tup xs)
 iJ:∀b o u,H b=some (.fE o u)→U b=some (.fE o u)
 i_:∀b ps,H b=some (.mR ps)→∃more,U b=some (.mR (ps++more))
section
variable{fs kT ex ex':List Addr}{H H1 H2:Hp}{h h1 h2 h':Heap}{a x e:Addr}{o:HO}
theorem Un.any(u:Un fs ex H H1 h h1){b:Addr}{ob:Obj}(q:h.get? b=some ob)(n:H b=none)(hx:b∉ex):∃sl,h1.get? b=some {ob with slots:=sl}:=by
 by_cases hb:b∈fs
 ·exact u.slot b ob q n hb hx
 ·exact⟨ob.slots,u.keep b ob q n hb hx⟩
theorem Un.kept(k:∀b u,h.get? b=some u→h'.get? b=some u):Un fs ex H H h h':=
 ⟨λb ob q _ _ _=>k b ob q,λb ob q _ _ _=>⟨ob.slots,k b ob q⟩,λ_ _ _ n _=>n,λb ob q _=>⟨ob,k b ob q⟩,λ_ _ q=>q,λ_ _ _ q=>q,λ_ ps q=>⟨#[],by rw[q];simp⟩⟩
theorem Un.refl:Un fs ex H H h h:=Un.kept λ_ _ q=>q
theorem Un.laid(k:∀b u,h.get? b=some u→h'.get? b=some u)(hp:h.objs.size≤a)(hn:H a=none):Un fs ex H (upd H a o) h h' where
 keep:=λb u q _ _ _=>k b u q
 slot:=λb u q _ _ _=>⟨u.slots,k b u q⟩
 free:=λb u q n _=>by rw[aG (Nat.ne_of_lt (Nat.lt_of_lt_of_le (Heap.lt_size q) hp))];exact n
 there:=λb u q _=>⟨u,k b u q⟩
 i9:=λb xs q=>by rw[aG (cp q hn)];exact q
 iJ:=λb u xs q=>by rw[aG (cp q hn)];exact q
 i_:=λb ps q=>⟨#[],by rw[aG (cp q hn),q];simp⟩
theorem Un.write(mu:vG (H x))(he:e=x∨H e=some (.own x))(k:∀b u,b≠e→h.get? b=some u→h'.get? b=some u)(p_:∃u,h'.get? e=some u):Un fs ex H (upd H x o) h h':=by
 have hx:∀b,H b=none→b≠x:=λb n z=>by subst z;rw[n]at mu;exact mu
 have hb:∀b,H b=none→b≠e:=λb n z=>by
  subst z
  rcases he with r|r
  ·exact hx b n r
  ·rw[n]at r;cases r
 have hm:∀b u,H b=some u→¬vG (some u)→b≠x:=λb u q nm z=>by subst z;rw[q]at mu;exact nm mu
 refine⟨λb u q n _ _=>k b u (hb b n) q,λb u q n _ _=>⟨u.slots,k b u (hb b n) q⟩,λb u q n _=>by rw[aG (hx b n)];exact n,λb u q _=>?_,
  λb xs q=>by rw[aG (hm b _ q λz=>z)];exact q,λb u xs q=>by rw[aG (hm b _ q λz=>z)];exact q,λb ps q=>⟨#[],by rw[aG (hm b _ q λz=>z),q];simp⟩⟩
 by_cases gA:b=e
 ·subst gA;exact p_
 ·exact⟨u,k b u gA q⟩
end
def vH(h:Heap)(H:Hp):List Addr:=(List.range h.objs.size).filter λa=>(H a).isSome
def lO(h:Heap)(H:Hp):Heap:=PySem.W.hideAll h (vH h H)
theorem NZ(h:Heap)(H:Hp):(lO h H).objs.size=h.objs.size:=PySem.W.hideAll_size _ _
theorem N0{h:Heap}{H:Hp}{b:Addr}{o:Obj}(e:h.get? b=some o)(n:H b=none):(lO h H).get? b=some o:=
 PySem.W.hideAll_get _ e λhm=>by
  have q:(H b).isSome=true:=(List.mem_filter.mp hm).2
  rw[n]at q;simp at q
theorem N1{h:Heap}{H:Hp}{b:Addr}{o:Obj}(e:(lO h H).get? b=some o):h.get? b=some o∧H b=none:=by
 have e':h.get? b=some o:=PySem.W.of_hideAll (vH h H) e
 refine⟨e',?_⟩
 cases q:H b with
 |none=>rfl
 |some x=>
  have hm:b∈vH h H:=List.mem_filter.mpr ⟨List.mem_range.mpr (Heap.lt_size e'),by simp[q]⟩
  have z:(lO h H).get? b=none:=PySem.W.hideAll_none (vH h H) hm
  rw[z]at e;cases e
end L2
namespace L2
open PySem PySem.Spec PyProof.Rows
structure Mod(K:PySem.W.Frag)(mg:Str→Option Value)(base:Heap):Prop where
 qd:K.In base
 glob:base.Ns mainGlobals mg
 blt:∃mb,base.Ns builtinsNs mb∧∀x:Str,x≠"__name__"→mb x=bootBuiltins x
 nolimit:base.NoLimit
structure Cx where
 prog:Program
 w:World
 K:PySem.W.Frag
 mg:Str→Option Value
 base:Heap
 A:Around
 N:List Str
 d4:Shared
 H_0:Hp
 env:Env
 outer:List Env
 stack:List Env
 ex:List Addr
 fn:Str→Bool
 calm:Bool
 pn:List (Addr×Obj)
 xe:Value→Shared→Prop
def hJ(l:List Env):List Addr:=l.filterMap (·.frame)
abbrev Cx.fs(X:Cx):List Addr:=hJ X.outer
def qe(sc:Scope)(x:Str):Prop:=sc.names.lookup x=some .local∨sc.names.lookup x=some .cell∨sc.names.lookup x=some .free
def Loc(sc:Scope)(x:Str):Prop:=sc.names.lookup x=some .local∨sc.names.lookup x=some .cell
def Look(env:Env)(h:Heap)(m:Str→Option Value)(x:Str)(u:Value):Prop:=
 (env.kindOf x=some .local∧m x=some u)∨((env.kindOf x=some .cell∨env.kindOf x=some .free)∧∃c,env.cells.lookup x=some c∧h.IsCell c (some u))
structure Cx.Ok(X:Cx):Prop where
 mod:Mod X.K X.mg X.base
 kind:X.env.scope.kind=.function
 glob:X.env.globals=mainGlobals
 blt:X.env.builtins=builtinsNs
 above:X.d4.heap.objs.size≤X.env.locals
 inj:∀x y c,X.env.cells.lookup x=some c→X.env.cells.lookup y=some c→x=y
 has:∀x,(X.env.kindOf x=some .cell∨X.env.kindOf x=some .free)→∃c,X.env.cells.lookup x=some c
 oH:∀x c,X.fn x=true→X.env.cells.lookup x=some c→X.d4.heap.objs.size≤c
 hd:X.calm=true→X.A.handled=none
 frames:X.A.frames=some X.stack
 qf:X.stack=X.outer∨(X.stack=X.env::X.outer∧X.env.frame=some X.env.locals)
 qg:∀b∈X.ex,b≠X.env.locals∧∀x c,X.env.cells.lookup x=some c→c≠b
 bs:∀b o,X.base.get? b=some o→X.d4.heap.get? b=some o∧X.H_0 b=none
 jR:X.base.objs.size≤X.d4.heap.objs.size
 oJ:∀b o,X.base.get? b=some o→b∉X.ex
 oK:∀b∈X.ex,b∉X.fs
 ir:X.d4.heap.FunFrames X.base X.outer
 lP:∀b∈X.fs,X.H_0 b=none
structure Inv(X:Cx)(pins:List (Addr×Obj))(σ:List (Option V))(H:Hp)(s:Shared):Prop where
 ok:X.Ok
 os:s.os=X.d4.os
 bare:AllBare s.gens
 base:Un X.fs X.ex X.H_0 H X.d4.heap s.heap
 loc:∃m,s.heap.Ns X.env.locals m∧∀(i:Nat) (x:Str) (v:V),X.N[i]?=some x→σ[i]?=some (some v)→qe X.env.scope x→∃u,RelV v u∧Look X.env s.heap m x u
 cell:∀x c,X.env.cells.lookup x=some c→∃v,s.heap.IsCell c v
 free:H X.env.locals=none
 fW:∀x c,X.env.cells.lookup x=some c→H c=none
 pin:∀p∈X.pn++pins,s.heap.get? p.1=some p.2∧H p.1=none∧p.1≠X.env.locals∧p.1∉X.fs∧∀v,p.2.data≠.cell v
 aK:cu X.prog X.w H s.heap
 len:σ.length=X.N.length
section
variable{X:Cx}{pins:List (Addr×Obj)}{σ:List (Option V)}{H U:Hp}{s:Shared}{h':Heap}
theorem Cx.Ok.N2(ok:X.Ok){b:Addr}{o:Obj}(e:X.base.get? b=some o):b∉X.fs:=λhb=>by
 have:=(ok.ir.mem hb).1
 rw[e]at this;cases this
theorem Inv.bs(I:Inv X pins σ H s):∀b o,X.base.get? b=some o→s.heap.get? b=some o∧H b=none:=λb o e=>
 ⟨I.base.keep b o (I.ok.bs b o e).1 (I.ok.bs b o e).2 (I.ok.N2 e) (I.ok.oJ b o e),I.base.free b o (I.ok.bs b o e).1 (I.ok.bs b o e).2 (I.ok.oJ b o e)⟩
theorem Inv.bk(I:Inv X pins σ H s):∀b o,X.base.get? b=some o→s.heap.get? b=some o:=λb o e=>(I.bs b o e).1
theorem Inv.mod(I:Inv X pins σ H s):Mod X.K X.mg X.base:=I.ok.mod
theorem Inv.eY(I:Inv X pins σ H s):X.K.In s.heap:=I.ok.mod.qd.keeps I.bk
theorem Inv.lt(I:Inv X pins σ H s):X.env.locals<s.heap.objs.size:=let⟨_,hn,_⟩:=I.loc;hn.lt
theorem Inv.sz(I:Inv X pins σ H s):X.d4.heap.objs.size≤s.heap.objs.size:=Nat.le_trans I.ok.above (Nat.le_of_lt I.lt)
theorem Inv.N3(I:Inv X pins σ H s){a:Addr}(h:s.heap.objs.size≤a):a∉X.fs:=λhb=>by
 obtain⟨_,o,ho,_⟩:=I.ok.ir.mem hb
 exact absurd (Nat.lt_of_lt_of_le (Heap.lt_size ho) (Nat.le_trans I.sz h)) (Nat.lt_irrefl _)
theorem Inv.lQ(I:Inv X pins σ H s):∀x c,X.env.cells.lookup x=some c→c≠X.env.locals:=λx c e z=>by
 obtain⟨v,o,ho,hd⟩:=I.cell x c e
 obtain⟨m,⟨o',es,ep,iK,yW,_⟩,_⟩:=I.loc
 rw[z,iK]at ho;cases ho;rw[yW]at hd;cases hd
theorem Inv.ir(I:Inv X pins σ H s):s.heap.FunFrames X.base X.outer:=by
 have all:∀(l:List Env),(∀b∈hJ l,b∈X.fs)→X.d4.heap.FunFrames X.base l→s.heap.FunFrames X.base l:=by
  intro l
  induction l with
  |nil=>intro _ _;trivial
  |cons env r ih=>
   intro hs hl
   obtain⟨hk,⟨L,o,hf,hn,ho,hd⟩,hr⟩:=hl
   have hL:L∈X.fs:=hs L (by unfold hJ;rw[List.filterMap_cons,hf];exact List.mem_cons_self)
   obtain⟨sl,e⟩:=I.base.slot L o ho (I.ok.lP L hL) hL λz=>I.ok.oK L z hL
   exact⟨hk,⟨L,_,hf,hn,e,hd⟩,ih (λb hb=>hs b (by unfold hJ;rw[List.filterMap_cons,hf];exact List.mem_cons_of_mem _ hb)) hr⟩
 exact all X.outer (λ_ hb=>hb) I.ok.ir
theorem Inv.stack(I:Inv X pins σ H s):s.heap.FunFrames X.base X.stack:=by
 rcases I.ok.qf with e|⟨e,hf⟩
 ·rw[e];exact I.ir
 ·rw[e]
  obtain⟨m,hn,_⟩:=I.loc
  refine .cons (by rw[I.ok.kind];decide) hf hn ?_ I.ir
  exact Heap.get?_none_of_le (Nat.le_trans I.ok.jR I.ok.above)
theorem Inv.sG(I:Inv X pins σ H s):∀b∈hJ X.stack,b∈X.env.locals::X.fs:=λb hb=>by
 rcases I.ok.qf with e|⟨e,hf⟩
 ·rw[e]at hb;exact List.mem_cons_of_mem _ hb
 ·rw[e]at hb
  unfold hJ at hb
  rw[List.filterMap_cons,hf]at hb
  exact hb
theorem Inv.yX(I:Inv X pins σ H s):∀b∈hJ X.stack,H b=none:=λb hb=>by
 rcases List.mem_cons.mp (I.sG b hb)with e|hb
 ·rw[e];exact I.free
 ·obtain⟨_,o,ho,_⟩:=I.ok.ir.mem hb
  exact I.base.free b o ho (I.ok.lP b hb) λz=>I.ok.oK b z hb
theorem Inv.step{g':Array GenState}{t':Nat}{d':Drawn}{ch:List Addr}(I:Inv X pins σ H s)(kU:∀b∈ch,(b∈X.ex∨X.d4.heap.objs.size≤b)∧b≠X.env.locals∧(∀x c,X.env.cells.lookup x=some c→c≠b)∧∀p∈X.pn++pins,p.1≠b)(keep:∀b o,b≠X.env.locals→b∉X.fs→b∉ch→s.heap.get? b=some o→H b=none→h'.get? b=some o)(slot:∀b o,b≠X.env.locals→b∈X.fs→b∉ch→s.heap.get? b=some o→H b=none→∃sl,h'.get? b=some {o with slots:=sl})(free:∀b o,b∉ch→s.heap.get? b=some o→H b=none→U b=none)(there:∀b o,b∉ch→s.heap.get? b=some o→∃o',h'.get? b=some o')(i9:∀b xs,H b=some (.tup xs)→U b=some (.tup xs))(iJ:∀b o u,H b=some (.fE o u)→U b=some (.fE o u))(i_:∀b ps,H b=some (.mR ps)→∃more,U b=some (.mR (ps++more)))(ns:∀m,s.heap.Ns X.env.locals m→h'.Ns X.env.locals m)(aK:cu X.prog X.w U h')(hg:AllBare g'):
  Inv X pins σ U {s with heap:=h',gens:=g',drawn:=d',toks:=t'}:=by
 have FU:∀b o,X.d4.heap.get? b=some o→b≠X.env.locals:=λb o e=>Nat.ne_of_lt (Nat.lt_of_lt_of_le (Heap.lt_size e) I.ok.above)
 have vI:∀b o,X.d4.heap.get? b=some o→b∉X.ex→b∉ch:=λb o e hx hb=>by
  rcases(kU b hb).1 with z|z
  ·exact hx z
  ·exact absurd (Nat.lt_of_lt_of_le (Heap.lt_size e) z) (Nat.lt_irrefl _)
 have cellK:∀x c,X.env.cells.lookup x=some c→∀v,s.heap.IsCell c v→h'.IsCell c v:=λx c e v ⟨o,ho,hd⟩=>by
  have sH:c∉ch:=λz=>(kU c z).2.2.1 x c e rfl
  by_cases hc:c∈X.fs
  ·obtain⟨sl,q⟩:=slot c o (I.lQ x c e) hc sH ho (I.fW x c e)
   exact⟨_,q,hd⟩
  ·exact⟨o,keep c o (I.lQ x c e) hc sH ho (I.fW x c e),hd⟩
 refine⟨I.ok,I.os,hg,⟨λb o e n hb hx=>?_,λb o e n hb hx=>?_,λb o e n hx=>?_,λb o e hx=>?_,λb xs e=>i9 b xs (I.base.i9 b xs e),λb o xs e=>iJ b o xs (I.base.iJ b o xs e),λb ps e=>?_⟩,?_,λx c e=>?_,?_,λx c e=>?_,λp hp=>?_,aK,I.len⟩
 ·exact keep b o (FU b o e) hb (vI b o e hx) (I.base.keep b o e n hb hx) (I.base.free b o e n hx)
 ·obtain⟨sl,e1⟩:=I.base.slot b o e n hb hx
  obtain⟨N4,e2⟩:=slot b _ (FU b o e) hb (vI b o e hx) e1 (I.base.free b o e n hx)
  exact⟨N4,e2⟩
 ·obtain⟨o',e1⟩:=I.base.there b o e hx
  exact free b o' (vI b o e hx) e1 (I.base.free b o e n hx)
 ·obtain⟨o',e1⟩:=I.base.there b o e hx
  exact there b o' (vI b o e hx) e1
 ·obtain⟨m1,e1⟩:=I.base.i_ b ps e
  obtain⟨m2,e2⟩:=i_ b _ e1
  exact⟨m1++m2,by rw[e2,Array.append_assoc]⟩
 ·obtain⟨m,hn,hl⟩:=I.loc
  refine⟨m,ns m hn,λi x v e1 e2 e3=>?_⟩
  obtain⟨u,r,l⟩:=hl i x v e1 e2 e3
  refine⟨u,r,?_⟩
  rcases l with l|⟨k,c,e,z⟩
  ·exact .inl l
  ·exact .inr ⟨k,c,e,cellK x c e _ z⟩
 ·obtain⟨v,z⟩:=I.cell x c e
  exact⟨v,cellK x c e v z⟩
 ·obtain⟨m,⟨o,_,_,ho,_⟩,_⟩:=I.loc
  exact free _ o (λz=>(kU _ z).2.1 rfl) ho I.free
 ·obtain⟨v,o,ho,hd⟩:=I.cell x c e
  exact free c o (λz=>(kU c z).2.2.1 x c e rfl) ho (I.fW x c e)
 ·obtain⟨e,n,ne,nf,d⟩:=I.pin p hp
  have sH:p.1∉ch:=λz=>(kU p.1 z).2.2.2 p hp rfl
  exact⟨keep p.1 p.2 ne nf sH e n,free p.1 p.2 sH e n,ne,nf,d⟩
theorem Inv.un{t':Nat}(I:Inv X pins σ H s)(u:Un X.fs [] H U s.heap h')(aK:cu X.prog X.w U h'):Inv X pins σ U {s with heap:=h',toks:=t'}:=by
 obtain⟨m,⟨o,es,ep,ho,r⟩,_⟩:=id I.loc
 obtain⟨sl,hL⟩:=u.any ho I.free (by simp)
 exact I.step (g':=s.gens) (d':=s.drawn) (ch:=[]) (λ_ z=>nomatch z) (λb o _ hb _ e n=>u.keep b o e n hb (by simp)) (λb o _ hb _ e n=>u.slot b o e n hb (by simp)) (λb o _ e n=>u.free b o e n (by simp)) (λb o _ e=>u.there b o e (by simp)) u.i9 u.iJ u.i_ (λm' hm=>by
  obtain⟨o',gB,yY,iK,r'⟩:=hm
  rw[ho]at iK;cases iK
  exact⟨_,gB,yY,hL,r'⟩) aK I.bare
theorem Inv.call{g':Array GenState}{t':Nat}{d':Drawn}{ch:List Addr}(I:Inv X pins σ H s)(u:Un (hJ X.stack) ch H U s.heap h')(aK:cu X.prog X.w U h')(hg:AllBare g')(kU:∀b∈ch,(b∈X.ex∨X.d4.heap.objs.size≤b)∧b≠X.env.locals∧(∀x c,X.env.cells.lookup x=some c→c≠b)∧∀p∈X.pn++pins,p.1≠b):
  Inv X pins σ U {s with heap:=h',gens:=g',drawn:=d',toks:=t'}:=by
 obtain⟨m,⟨o,es,ep,ho,r⟩,_⟩:=id I.loc
 obtain⟨sl,hL⟩:=u.any ho I.free λz=>(kU _ z).2.1 rfl
 exact I.step (ch:=ch) kU (λb o hL hb hc e n=>u.keep b o e n (λz=>(List.mem_cons.mp (I.sG b z)).elim hL hb) hc) (λb o _ _ hc e n=>u.any e n hc) (λb o hc e n=>u.free b o e n hc) (λb o hc e=>u.there b o e hc) u.i9 u.iJ u.i_ (λm' hm=>by
  obtain⟨o',gB,yY,iK,r'⟩:=hm
  rw[ho]at iK;cases iK
  exact⟨_,gB,yY,hL,r'⟩) aK hg
theorem Inv.turned{t':Nat}{it:Addr}(I:Inv X pins σ H s)(k:∀b o,b≠it→s.heap.get? b=some o→h'.get? b=some o)(hn:H it=none)(hL:it≠X.env.locals)(h1:it∈X.ex∨X.d4.heap.objs.size≤it)(h2:∀x c,X.env.cells.lookup x=some c→c≠it)(h3:∀p∈X.pn++pins,p.1≠it):Inv X pins σ H {s with heap:=h',toks:=t'}:=by
 have mS:∀b u,H b=some u→b≠it:=λb u e z=>by rw[z,hn]at e;cases e
 refine I.step (g':=s.gens) (d':=s.drawn) (ch:=[it]) (λb hb=>?_) (λb o _ _ hc e _=>k b o (λz=>hc (by simp[z])) e) (λb o _ _ hc e _=>⟨o.slots,k b o (λz=>hc (by simp[z])) e⟩) (λ_ _ _ _ n=>n)
  (λb o hc e=>⟨o,k b o (λz=>hc (by simp[z])) e⟩) (λ_ _ e=>e) (λ_ _ _ e=>e) (λb ps e=>⟨#[],by rw[e];simp⟩) (λm hm=>?_) (λb u e=>?_) I.bare
 ·have e:b=it:=by simpa using hb
  subst e
  exact⟨h1,hL,h2,h3⟩
 ·obtain⟨o,es,ep,ho,r⟩:=hm
  exact⟨o,es,ep,k _ o (Ne.symm hL) ho,r⟩
 ·refine(I.aK b u e).g_ (λc v hc q=>k c v ?_ q) (λ_ q=>q) λ_ _ q=>q
  rcases hc with z|z
  ·rw[z];exact mS b u e
  ·exact mS c _ z
theorem Inv.tok(I:Inv X pins σ H s)(t:Nat):Inv X pins σ H {s with toks:=t}:=I.un (h':=s.heap) (t':=t) Un.refl I.aK
theorem Inv.kept{t':Nat}(I:Inv X pins σ H s)(k:∀b u,s.heap.get? b=some u→h'.get? b=some u):Inv X pins σ H {s with heap:=h',toks:=t'}:=I.un (Un.kept k) (I.aK.kept k)
theorem Inv.laid{a:Addr}{o:HO}{t':Nat}(I:Inv X pins σ H s)(k:∀b u,s.heap.get? b=some u→h'.get? b=some u)(hp:s.heap.objs.size≤a)(new:dI X.prog X.w (upd H a o) h' a o):
  Inv X pins σ (upd H a o) {s with heap:=h',toks:=t'}:=I.un (Un.laid k hp (I.aK.fresh hp)) (I.aK.laid k hp new)
theorem Inv.write{x e:Addr}{o:HO}{t':Nat}(I:Inv X pins σ H s)(mu:vG (H x))(he:e=x∨H e=some (.own x))(k:∀b u,b≠e→s.heap.get? b=some u→h'.get? b=some u)(p_:∃u,h'.get? e=some u)(new:dI X.prog X.w (upd H x o) h' x o):Inv X pins σ (upd H x o) {s with heap:=h',toks:=t'}:=I.un (Un.write mu he k p_) (I.aK.write mu he k p_ new)
theorem Inv.weak{az:List (Option V)}(I:Inv X pins σ H s)(hl:az.length=σ.length)(w:∀(i:Nat) v,az[i]?=some (some v)→σ[i]?=some (some v)):Inv X pins az H s:=
 ⟨I.ok,I.os,I.bare,I.base,let⟨m,hn,N6⟩:=I.loc;⟨m,hn,λi x v e1 e2 e3=>N6 i x v e1 (w i v e2) e3⟩,I.cell,I.free,I.fW,I.pin,I.aK,hl.trans I.len⟩
theorem Inv.FV{qh:List (Addr×Obj)}(I:Inv X pins σ H s)(h:∀p∈qh,s.heap.get? p.1=some p.2∧H p.1=none∧p.1≠X.env.locals∧p.1∉X.fs∧∀v,p.2.data≠.cell v):Inv X qh σ H s:=
 ⟨I.ok,I.os,I.bare,I.base,I.loc,I.cell,I.free,I.fW,λp hp=>(List.mem_append.mp hp).elim (λz=>I.pin p (List.mem_append_left _ z)) (h p),I.aK,I.len⟩
theorem vJ{N:List Str}(hN:N.Nodup){i j:Nat}{x:Str}(a:N[i]?=some x)(b:N[j]?=some x):i=j:=by
 obtain⟨h1,e1⟩:=List.getElem?_eq_some_iff.mp a
 obtain⟨h2,e2⟩:=List.getElem?_eq_some_iff.mp b
 exact(List.getElem_inj hN).mp (e1.trans e2.symm)
theorem FW{M:Model}{A:Around}{E:Value→Shared→Prop}{i:Nat}{x:Str}{v:V}{u:Value}{Q:Unit→Shared→Prop}(I:Inv X pins σ H s)(hN:X.N.Nodup)(hi:X.N[i]?=some x)(hx:Loc X.env.scope x)(r:RelV v u)(h:∀s',Inv X pins (σ.set i (some v)) H s'→(∃a,Heap.SameBut a s.heap s'.heap∧(a=X.env.locals∨X.env.cells.lookup x=some a))→Q () s')(hf:X.fn x=true∨X.env.scope.names.lookup x=some .local:=by first|exact .inl rfl|exact .inr rfl|assumption):wpAny M A (storeName X.env x u) Q E s:=by
 obtain⟨m,hn,hl⟩:=id I.loc
 have N7:(X.env.scope.kind==.class||(X.env.scope.kind==.module&&X.env.locals !=X.env.globals))=false:=by rw[I.ok.kind];rfl
 have FX:i<σ.length:=by rw[I.len];exact(List.getElem?_eq_some_iff.mp hi).1
 have lQ:=I.lQ
 have tracked:∀{a:Addr} {h':Heap},(∃o,s.heap.get? a=some o∧H a=none)→Heap.SameBut a s.heap h'→cu X.prog X.w H h':=λ{a h'} ha hs b ob e=>by
  obtain⟨_,_,qi⟩:=ha
  refine(I.aK b ob e).g_ (λc w' hc q=>(hs.2 c ?_).trans q) (λ_ q=>q) λ_ _ q=>q
  rintro rfl
  rcases hc with rfl|hc
  ·rw[qi]at e;cases e
  ·rw[qi]at hc;cases hc
 rcases hx with hk|hk
 ·refine wpAny_storeName_local hk hn (λh' oM hs=>?_) N7
  obtain⟨oL,_,_,N8,_⟩:=id hn
  refine h _ ⟨I.ok,I.os,I.bare,⟨λb o e n hb hx=>?_,λb o e n hb hx=>?_,I.base.free,λb o e hx=>?_,I.base.i9,I.base.iJ,I.base.i_⟩,⟨_,oM,λj y v' e1 e2 e3=>?_⟩,λy c e=>?_,I.free,I.fW,λp hp=>?_,tracked ⟨oL,N8,I.free⟩ hs,by simpa using I.len⟩ ⟨_,hs,.inl rfl⟩
  ·exact(hs.2 b (Nat.ne_of_lt (Nat.lt_of_lt_of_le (Heap.lt_size e) I.ok.above))).trans (I.base.keep b o e n hb hx)
  ·obtain⟨sl,e1⟩:=I.base.slot b o e n hb hx
   exact⟨sl,(hs.2 b (Nat.ne_of_lt (Nat.lt_of_lt_of_le (Heap.lt_size e) I.ok.above))).trans e1⟩
  ·obtain⟨o',e1⟩:=I.base.there b o e hx
   exact⟨o',(hs.2 b (Nat.ne_of_lt (Nat.lt_of_lt_of_le (Heap.lt_size e) I.ok.above))).trans e1⟩
  ·by_cases hj:j=i
   ·subst hj
    rw[hi]at e1;cases e1
    rw[List.getElem?_set_self FX]at e2
    cases e2
    exact⟨u,r,.inl ⟨hk,by simp⟩⟩
   ·rw[List.getElem?_set_ne (Ne.symm hj)]at e2
    obtain⟨u',r',q⟩:=hl j y v' e1 e2 e3
    refine⟨u',r',?_⟩
    rcases q with⟨k,e⟩|⟨k,c,e,z⟩
    ·refine .inl ⟨k,?_⟩
     have:y≠x:=λe=>hj (vJ hN e1 (e▸hi))
     simp[this,e]
    ·exact .inr ⟨k,c,e,z.sameBut hs (lQ y c e)⟩
  ·obtain⟨w',z⟩:=I.cell y c e
   exact⟨w',z.sameBut hs (lQ y c e)⟩
  ·obtain⟨e,n,ne,nf,d⟩:=I.pin p hp
   exact⟨(hs.2 p.1 ne).trans e,n,ne,nf,d⟩
 ·have yZ:X.fn x=true:=by
   rcases hf with z|z
   ·exact z
   ·rw[z]at hk;cases hk
  obtain⟨c,hc⟩:=I.ok.has x (.inl hk)
  obtain⟨w',z⟩:=I.cell x c hc
  refine wpAny_storeName_cell I.ok.kind hk hc z (λh' qj hs=>?_)
  obtain⟨oc,FY,N9⟩:=id z
  refine h {s with heap:=h'} ⟨I.ok,I.os,I.bare,⟨λb o e n hb hx=>?_,λb o e n hb hx=>?_,I.base.free,λb o e hx=>?_,I.base.i9,I.base.iJ,I.base.i_⟩,⟨m,hn.sameBut hs (Ne.symm (lQ x c hc)),λj y v' e1 e2 e3=>?_⟩,λy c' e=>?_,I.free,I.fW,λp hp=>?_,tracked ⟨oc,FY,I.fW x c hc⟩ hs,by simpa using I.len⟩ ⟨c,hs,.inr hc⟩
  ·exact(hs.2 b (Nat.ne_of_lt (Nat.lt_of_lt_of_le (Heap.lt_size e) (I.ok.oH x c yZ hc)))).trans (I.base.keep b o e n hb hx)
  ·obtain⟨sl,e1⟩:=I.base.slot b o e n hb hx
   exact⟨sl,(hs.2 b (Nat.ne_of_lt (Nat.lt_of_lt_of_le (Heap.lt_size e) (I.ok.oH x c yZ hc)))).trans e1⟩
  ·obtain⟨o',e1⟩:=I.base.there b o e hx
   exact⟨o',(hs.2 b (Nat.ne_of_lt (Nat.lt_of_lt_of_le (Heap.lt_size e) (I.ok.oH x c yZ hc)))).trans e1⟩
  ·by_cases hj:j=i
   ·subst hj
    rw[hi]at e1;cases e1
    rw[List.getElem?_set_self FX]at e2
    cases e2
    exact⟨u,r,.inr ⟨.inl hk,c,hc,qj⟩⟩
   ·rw[List.getElem?_set_ne (Ne.symm hj)]at e2
    obtain⟨u',r',q⟩:=hl j y v' e1 e2 e3
    refine⟨u',r',?_⟩
    rcases q with q|⟨k,c',e,z'⟩
    ·exact .inl q
    ·refine .inr ⟨k,c',e,z'.sameBut hs ?_⟩
     rintro rfl
     exact hj (vJ hN e1 (I.ok.inj _ _ _ e hc▸hi))
  ·by_cases fj:c'=c
   ·subst fj;exact⟨_,qj⟩
   ·obtain⟨w2,z2⟩:=I.cell y c' e
    exact⟨w2,z2.sameBut hs fj⟩
  ·obtain⟨e,n,ne,nf,d⟩:=I.pin p hp
   refine⟨(hs.2 p.1 ?_).trans e,n,ne,nf,d⟩
   intro q
   rw[q,FY]at e
   have q':oc=p.2:=Option.some.inj e
   exact d w' (by rw[←q'];exact N9)
theorem vK{M:Model}{A:Around}{E:Value→Shared→Prop}{i:Nat}{x:Str}{v:V}{u:Value}{Q:Unit→Shared→Prop}(I:Inv X pins σ H s)(hN:X.N.Nodup)(hi:X.N[i]?=some x)(hx:Loc X.env.scope x)(r:RelV v u)(h:∀s',Inv X pins (σ.set i (some v)) H s'→Q () s')(hf:X.fn x=true∨X.env.scope.names.lookup x=some .local:=by first|exact .inl rfl|exact .inr rfl|assumption):wpAny M A (storeName X.env x u) Q E s:=
 FW I hN hi hx r (λs' I' _=>h s' I') hf
theorem Inv.FZ{s':Shared}{ch:List Addr}(I:Inv X pins σ H s)(ho:s'.os=s.os)(u:Un (hJ X.stack) ch H U s.heap s'.heap)(aK:cu X.prog X.w U s'.heap)(hg:AllBare s'.gens)(kU:∀b∈ch,(b∈X.ex∨X.d4.heap.objs.size≤b)∧b≠X.env.locals∧(∀x c,X.env.cells.lookup x=some c→c≠b)∧∀p∈X.pn++pins,p.1≠b):Inv X pins σ U s':=by
 obtain⟨h',g',d',t',o'⟩:=s'
 have e:o'=s.os:=ho
 subst e
 exact I.call (g':=g') (t':=t') (d':=d') u aK hg kU
end
abbrev XK:=Value→Option Addr→Hp→Prop
abbrev St:=List (Option V)
abbrev VK:=V→Hp→Prop
abbrev TE:=St→Hp→VK→Prop
abbrev TT:=St→Hp→(Bool→Hp→Prop)→Prop
abbrev TA:=St→Hp→(List V→Hp→Prop)→Prop
structure Ends where
 nx:St→Hp→Prop
 rt:VK
 bk:St→Hp→Prop:=λ_ _=>False
 ct:St→Hp→Prop:=λ_ _=>False
abbrev TS:=Ends→St→Hp→Prop
def EP(X:Cx)(pins:List (Addr×Obj))(σ:St)(Q:VK)(u:Value)(s':Shared):Prop:=∃v U,Inv X pins σ U s'∧RelV v u∧Q v U
def TP(X:Cx)(pins:List (Addr×Obj))(σ:St)(Q:Bool→Hp→Prop)(b:Bool)(s':Shared):Prop:=∃U,Inv X pins σ U s'∧Q b U
def AP(X:Cx)(pins:List (Addr×Obj))(σ:St)(Q:List V→Hp→Prop)(us:List Value)(s':Shared):Prop:=∃vs U,Inv X pins σ U s'∧Vals vs us∧Q vs U
def SP(X:Cx)(pins:List (Addr×Obj))(D:Ends)(f:Flow)(s':Shared):Prop:=
 match f with
 |.next=>∃az U,Inv X pins az U s'∧D.nx az U
 |.brk=>∃az U,Inv X pins az U s'∧D.bk az U
 |.cont=>∃az U,Inv X pins az U s'∧D.ct az U
 |.ret u=>∃v az U,Inv X pins az U s'∧RelV v u∧D.rt v U
def PE(X:Cx)(e:Expr)(t:TE):Prop:=
 ∀(pins:List (Addr×Obj)) (s:Shared) (σ:St) (H:Hp) (Q:VK),Inv X pins σ H s→t σ H Q→wpAny (model X.prog X.w) X.A (eval e X.env) (EP X pins σ Q) X.xe s
def PT(X:Cx)(e:Expr)(t:TT):Prop:=
 ∀(pins:List (Addr×Obj)) (s:Shared) (σ:St) (H:Hp) (Q:Bool→Hp→Prop),Inv X pins σ H s→t σ H Q→wpAny (model X.prog X.w) X.A (isTrue e X.env (eval e X.env)) (TP X pins σ Q) X.xe s
def PW(X:Cx)(e:Expr)(t:TT):Prop:=
 ∀(whole:Sem Value) (pins:List (Addr×Obj)) (s:Shared) (σ:St) (H:Hp) (Q:Bool→Hp→Prop),Inv X pins σ H s→t σ H Q→wpAny (model X.prog X.w) X.A (isTrue e X.env whole) (TP X pins σ Q) X.xe s
theorem PW.pt{X:Cx}{e:Expr}{t:TT}(h:PW X e t):PT X e t:=h _
def PA(X:Cx)(es:List Expr)(t:TA):Prop:=
 ∀(pos:Pos) (pins:List (Addr×Obj)) (s:Shared) (σ:St) (H:Hp) (Q:List V→Hp→Prop),Inv X pins σ H s→t σ H Q→wpAny (model X.prog X.w) X.A (spliced (backTo pos (starEach es X.env))) (AP X pins σ Q) X.xe s
def PS(X:Cx)(st:Stmt)(t:TS):Prop:=
 ∀(pins:List (Addr×Obj)) (s:Shared) (σ:St) (H:Hp) (D:Ends),Inv X pins σ H s→t D σ H→wpAny (model X.prog X.w) X.A (exec st X.env) (SP X pins D) X.xe s
def gC(X:Cx)(st:List Stmt)(t:TS):Prop:=
 ∀(pins:List (Addr×Obj)) (s:Shared) (σ:St) (H:Hp) (D:Ends),Inv X pins σ H s→t D σ H→wpAny (model X.prog X.w) X.A (execs st X.env) (SP X pins D) X.xe s
theorem a8{α:Type}{t:Sem α}{Q Q':α→Shared→Prop}{M:Model}{A:Around}{E:Value→Shared→Prop}{s:Shared}(h:wpAny M A t Q E s)(hQ:∀a s,Q a s→Q' a s):wpAny M A t Q' E s:=wpAny_mono h hQ λ_ _ x=>x
end L2
namespace L2
open PySem PySem.Spec PyProof.Rows
section
variable{X:Cx}
def hU(i:Nat):TE:=λσ H Q=>∃v,σ[i]?=some (some v)∧Q v H
def tC(v:V):TE:=λ_ H Q=>Q v H
theorem N_{i:Nat}{x:Str}{pos:Pos}(hN:X.N[i]?=some x)(hv:qe X.env.scope x)(hd:(x==("__debug__":Str))=false:=by decide)(jS:(x==("__classdict__":Str))=false:=by decide):PE X (.Name x pos) (hU i):=by
 intro pins s σ H Q I h
 obtain⟨v,e,h⟩:=h
 obtain⟨m,hn,hl⟩:=I.loc
 obtain⟨u,r,l⟩:=hl i x v hN e hv
 have fin:EP X pins σ Q u s:=⟨v,H,I,r,h⟩
 rcases l with⟨hk,hm⟩|⟨hk,c,hc,vL⟩
 ·exact wpAny_Name (wpAny_loadName_local I.ok.kind hk hn hm fin) hd
 ·rcases hk with hk|hk
  ·exact wpAny_Name (wpAny_loadName_cell I.ok.kind hk hc vL fin) hd
  ·exact wpAny_Name (wpAny_loadName_free I.ok.kind hk hc vL fin jS) hd
theorem aM{i j pos}:PE X (.Constant (.int i) j pos) (tC (.int i)):=λ_ _ _ H _ I h=>wpAny_Constant_int ⟨.int i,H,I.tok _,⟨_,rfl⟩,h⟩
theorem F0{b j pos}:PE X (.Constant (.bool b) j pos) (tC (.bl b)):=λ_ _ _ H _ I h=>Constant_bool ⟨.bl b,H,I,rfl,h⟩
theorem lR{j pos}:PE X (.Constant .none j pos) (tC .aJ):=λ_ _ _ H _ I h=>Constant_none ⟨.aJ,H,I,rfl,h⟩
theorem bS{x j pos}:PE X (.Constant (.str x) j pos) (tC (.str x)):=λ_ _ _ H _ I h=>Calls.Constant_str ⟨.str x,H,I.tok _,⟨_,rfl⟩,h⟩
def Gl(X:Cx)(x:Str):Prop:=X.env.kindOf x=some .globalImplicit
theorem qk{E:Value→Shared→Prop}{pins:List (Addr×Obj)}{s:Shared}{σ:St}{H:Hp}{x:Str}{u:Value}{pos:Pos}{Q:Value→Shared→Prop}(I:Inv X pins σ H s)(hg:Gl X x)(hm:X.mg x=some u)(h:Q u s)(hd:(x==("__debug__":Str))=false:=by decide):wpAny (model X.prog X.w) X.A (eval (.Name x pos) X.env) Q E s:=
 Calls.Name_function_global I.ok.kind hg (Calls.loadGlobal_global (by rw[I.ok.glob];exact I.mod.glob.keeps I.bk) hm h) hd
theorem mT{E:Value→Shared→Prop}{pins:List (Addr×Obj)}{s:Shared}{σ:St}{H:Hp}{x:Str}{u:Value}{pos:Pos}{Q:Value→Shared→Prop}(I:Inv X pins σ H s)(hg:Gl X x)(hm:X.mg x=none)(hv:bootBuiltins x=some u)(h:Q u s)(hn:x≠"__name__":=by decide)(hd:(x==("__debug__":Str))=false:=by decide):wpAny (model X.prog X.w) X.A (eval (.Name x pos) X.env) Q E s:=by
 obtain⟨mb,h1,h2⟩:=I.mod.blt
 exact Calls.Name_function_global I.ok.kind hg (Calls.loadGlobal_builtin (by rw[I.ok.glob];exact I.mod.glob.keeps I.bk) hm (by rw[I.ok.blt];exact h1.keeps I.bk) ((h2 x hn).trans hv) h) hd
theorem Oa{x:Str}{v:V}{u:Value}{pos:Pos}(hg:Gl X x)(hm:X.mg x=some u)(r:RelV v u)(hd:(x==("__debug__":Str))=false:=by decide):PE X (.Name x pos) (tC v):=
 λ_ _ _ H _ I h=>qk I hg hm ⟨v,H,I,r,h⟩ hd
variable{a b:Expr}{ta tb:TE}{pos:Pos}
def tB(t:TE):TT:=λσ H Q=>t σ H λx H1=>∃c,x=.bl c∧Q c H1
theorem iu{e:Expr}{t:TE}(h:PE X e t)(he:∀whole,isTrue e X.env whole=(do let v ←whole;standAt e.pos;holding [v] (truthy v)):=by intro _;rfl):PT X e (tB t):=by
 intro pins s σ H Q I hw
 refine isTrue_plain (a8 (h pins s σ H _ I hw) λv s1 ⟨x,H1,I1,r1,q1⟩=>?_) (he _)
 obtain⟨d,rfl,q⟩:=q1
 cases r1
 exact wpAny_truthy_bool ⟨H1,I1,q⟩
variable{tA vM:TT}{rest:List Expr}
def F1(t u:TT):TT:=λσ H Q=>t σ H λc H1=>if c=true then u σ H1 Q else Q false H1
def F2(t u:TT):TT:=λσ H Q=>t σ H λc H1=>if c=true then Q true H1 else u σ H1 Q
def F3(t:TT):TT:=λσ H Q=>t σ H λc H1=>Q (!c) H1
theorem F4(ha:PT X a tA):PW X (.BoolOp .And [a] pos) tA:=by
 intro wh pins s σ H Q I h
 refine isTrue_and (a8 (ha pins s σ H Q I h) λc s1 e=>?_)
 cases c with
 |true=>exact isTrue_and_nil e
 |false=>exact e
theorem mU(ha:PT X a tA):PW X (.BoolOp .Or [a] pos) tA:=by
 intro wh pins s σ H Q I h
 refine isTrue_or (a8 (ha pins s σ H Q I h) λc s1 e=>?_)
 cases c with
 |false=>exact isTrue_or_nil e
 |true=>exact e
theorem F5(ha:PT X a tA)(hb:PW X (.BoolOp .And (b::rest) pos) vM):PW X (.BoolOp .And (a::b::rest) pos) (F1 tA vM):=by
 intro wh pins s σ H Q I h
 refine isTrue_and (a8 (ha pins s σ H _ I h) λc s1 ⟨H1,I1,q1⟩=>?_)
 cases c with
 |true=>exact hb wh pins s1 σ H1 Q I1 q1
 |false=>exact⟨H1,I1,q1⟩
theorem kW(ha:PT X a tA)(hb:PW X (.BoolOp .Or (b::rest) pos) vM):PW X (.BoolOp .Or (a::b::rest) pos) (F2 tA vM):=by
 intro wh pins s σ H Q I h
 refine isTrue_or (a8 (ha pins s σ H _ I h) λc s1 ⟨H1,I1,q1⟩=>?_)
 cases c with
 |true=>exact⟨H1,I1,q1⟩
 |false=>exact hb wh pins s1 σ H1 Q I1 q1
theorem y8(ha:PT X a tA):PT X (.UnaryOp .Not a pos) (F3 tA):=by
 intro pins s σ H Q I h
 exact isTrue_not (ha pins s σ H (λc H1=>Q (!c) H1) I h)
def y9(ta tb:TE):TE:=λσ H Q=>ta σ H λx H1=>∃c,x=.bl c∧if c=true then Q (.bl true) H1 else tb σ H1 Q
theorem vN{op}{t:TE}(h:PE X a t):PE X (.BoolOp op [a] pos) t:=λpins s σ H Q I hw=>BoolOp_one (h pins s σ H Q I hw)
theorem sI(ha:PE X a ta)(hb:PE X (.BoolOp .Or (b::rest) pos) tb):PE X (.BoolOp .Or (a::b::rest) pos) (y9 ta tb):=by
 intro pins s σ H Q I h
 refine BoolOp_or (a8 (ha pins s σ H _ I h) λv s1 ⟨x,H1,I1,r1,q1⟩=>?_)
 obtain⟨c,rfl,q1⟩:=q1
 cases r1
 refine wpAny_truthy_bool ?_
 cases c with
 |false=>exact hb pins s1 σ H1 Q I1 q1
 |true=>exact⟨.bl true,H1,I1,rfl,q1⟩
def F6(t:TT)(ta tb:TE):TE:=λσ H Q=>t σ H λc H1=>if c=true then ta σ H1 Q else tb σ H1 Q
theorem ql{c:Expr}(hc:PT X c tA)(ha:PE X a ta)(hb:PE X b tb):PE X (.IfExp c a b pos) (F6 tA ta tb):=by
 intro pins s σ H Q I h
 refine wpAny_IfExp (a8 (hc pins s σ H _ I h) λd s1 ⟨H1,I1,q1⟩=>?_)
 cases d with
 |true=>exact ha pins s1 σ H1 Q I1 q1
 |false=>exact hb pins s1 σ H1 Q I1 q1
end
end L2
namespace L2
open PySem PySem.Spec PyProof.Rows
def ah(K:PySem.W.Frag)(H:Hp)(a:Addr)(xs:List V):Prop:=
 Rd H a (.lst xs)∨
  ∃(o:Obj) (aq:Array Value) (n:Nat),K.lookup a=some o∧o.cls=.type "list"∧o.dict=none∧o.data=.seq aq n∧aq.size≤sizeLine∧Vals xs aq.toList
def aY(K:PySem.W.Frag)(H:Hp)(a:Addr)(xs:List V):Prop:=
 Rd H a (.tup xs)∨
  ∃(o:Obj) (aq:Array Value) (n:Nat),K.lookup a=some o∧o.cls=.type "tuple"∧o.data=.seq aq n∧aq.size≤sizeLine∧Vals xs aq.toList
def Ob:Value→Option V
 |.none=>some .aJ
 |.bool b=>some (.bl b)
 |.int i _=>some (.int i)
 |.str x _=>some (.str x)
 |.bytes b _=>some (.g9 b)
 |.float b _=>some (.vE b)
 |.ref a=>some (.ref a)
 |.type n=>some (.ty n)
 |_=>none
theorem RelV.abs{x:V}{u:Value}(r:RelV x u):Ob u=some x:=by
 cases x with
 |aJ=>cases r;rfl
 |bl _=>cases r;rfl
 |int _=>obtain⟨t,rfl⟩:=r;rfl
 |str _=>obtain⟨t,rfl⟩:=r;rfl
 |g9 _=>obtain⟨t,rfl⟩:=r;rfl
 |vE _=>obtain⟨t,rfl⟩:=r;rfl
 |ref _=>cases r;rfl
 |ty _=>cases r;rfl
theorem RelV.inj{x y:V}{u:Value}(r:RelV x u)(q:RelV y u):x=y:=Option.some.inj (r.abs.symm.trans q.abs)
theorem Vals.inj:∀{xs ys:List V} {us:List Value},Vals xs us→Vals ys us→xs=ys
 |_,_,_,.nil,.nil=>rfl
 |_,_,_,.cons r t,.cons r' t'=>by rw[r.inj r',Vals.inj t t']
section
variable{X:Cx}{pins:List (Addr×Obj)}{σ:St}{H:Hp}{s:Shared}{a:Addr}{xs ys:List V}
theorem ah.of{K:PySem.W.Frag}(h:H a=some (.lst xs)):ah K H a xs:=.inl (.inl h)
theorem aY.of{K:PySem.W.Frag}(h:H a=some (.tup xs)):aY K H a xs:=.inl (.inl h)
theorem Inv.list(I:Inv X pins σ H s)(h:ah X.K H a xs):∃aq:List Value,Vals xs aq∧PlainL s.heap a aq.toArray∧xs.length≤sizeLine:=by
 rcases h with h|⟨o,aq,n,hk,hc,hd,hs,hz,r⟩
 ·obtain⟨z,aq,n,r,e⟩:=h.ok I.aK
  exact⟨aq,r,⟨_,n,e,rfl,rfl,rfl⟩,z⟩
 ·refine⟨aq.toList,r,⟨o,n,I.eY a o hk,hc,hd,by simpa using hs⟩,?_⟩
  have e:=r.length
  simp only[Array.length_toList]at e
  omega
theorem Inv.tuple(I:Inv X pins σ H s)(h:aY X.K H a xs):∃aq:List Value,Vals xs aq∧IsTup s.heap a aq.toArray∧xs.length≤sizeLine:=by
 rcases h with h|⟨o,aq,n,hk,hc,hs,hz,r⟩
 ·obtain⟨z,aq,r,p⟩:=h.ok I.aK
  exact⟨aq,r,p,z⟩
 ·refine⟨aq.toList,r,⟨o,I.eY a o hk,hc,n,by simpa using hs⟩,?_⟩
  have e:=r.length
  simp only[Array.length_toList]at e
  omega
theorem Inv.mV(I:Inv X pins σ H s)(h:ah X.K H a xs)(h':ah X.K H a ys):xs=ys:=by
 obtain⟨aq,r,⟨o,n,e,_,_,d⟩,_⟩:=I.list h
 obtain⟨its',r',⟨o',n',e',_,_,d'⟩,_⟩:=I.list h'
 rw[e]at e';cases e'
 rw[d]at d'
 injection d' with d1 _
 have:aq=its':=by simpa using congrArg Array.toList d1
 subst this
 exact r.inj r'
theorem Inv.F7(I:Inv X pins σ H s)(h:aY X.K H a xs)(h':aY X.K H a ys):xs=ys:=by
 obtain⟨aq,r,⟨o,e,_,n,d⟩,_⟩:=I.tuple h
 obtain⟨its',r',⟨o',e',_,n',d'⟩,_⟩:=I.tuple h'
 rw[e]at e';cases e'
 rw[d]at d'
 injection d' with d1 _
 have:aq=its':=by simpa using congrArg Array.toList d1
 subst this
 exact r.inj r'
end
abbrev Cx.jT(X:Cx)(E:Value→Shared→Prop):Cx:={X with xe:=E}
abbrev Cx.lS(X:Cx):Cx:=X.jT λ_ _=>False
theorem Cx.Ok.jT{X:Cx}(ok:X.Ok)(E:Value→Shared→Prop):(X.jT E).Ok:=
 ⟨ok.mod,ok.kind,ok.glob,ok.blt,ok.above,ok.inj,ok.has,ok.oH,ok.hd,ok.frames,ok.qf,ok.qg,ok.bs,ok.jR,ok.oJ,ok.oK,ok.ir,ok.lP⟩
theorem Cx.Ok.lT{X:Cx}{E:Value→Shared→Prop}(ok:(X.jT E).Ok):X.Ok:=
 ⟨ok.mod,ok.kind,ok.glob,ok.blt,ok.above,ok.inj,ok.has,ok.oH,ok.hd,ok.frames,ok.qf,ok.qg,ok.bs,ok.jR,ok.oJ,ok.oK,ok.ir,ok.lP⟩
section
variable{X:Cx}{pins:List (Addr×Obj)}{σ:St}{H:Hp}{s:Shared}{E:Value→Shared→Prop}
theorem Inv.jT(I:Inv X pins σ H s)(E:Value→Shared→Prop):Inv (X.jT E) pins σ H s:=⟨I.ok.jT E,I.os,I.bare,I.base,I.loc,I.cell,I.free,I.fW,I.pin,I.aK,I.len⟩
theorem Inv.lT(I:Inv (X.jT E) pins σ H s):Inv X pins σ H s:=⟨I.ok.lT,I.os,I.bare,I.base,I.loc,I.cell,I.free,I.fW,I.pin,I.aK,I.len⟩
theorem SP.lT{D:Ends}{f:Flow}{s':Shared}(h:SP (X.jT E) pins D f s'):SP X pins D f s':=by
 cases f with
 |next=>obtain⟨az,U,I,q⟩:=h;exact⟨az,U,I.lT,q⟩
 |brk=>obtain⟨az,U,I,q⟩:=h;exact⟨az,U,I.lT,q⟩
 |cont=>obtain⟨az,U,I,q⟩:=h;exact⟨az,U,I.lT,q⟩
 |ret u=>obtain⟨v,az,U,I,r,q⟩:=h;exact⟨v,az,U,I.lT,r,q⟩
theorem gC.lS{st:List Stmt}{t:TS}(h:gC X.lS st t):gC X st t:=λpins s σ H D I hw=>
 wpAny_mono (h pins s σ H D (I.jT _) hw) (λ_ _ q=>q.lT) λ_ _ z=>False.elim z
end
section
variable{X:Cx}{st:Stmt}{rest:List Stmt}{t u:TS}{e:Expr}{te:TE}{pos:Pos}
def F8:TS:=λD σ H=>D.nx σ H
def ba(t u:TS):TS:=λD σ H=>t {D with nx:=u D} σ H
theorem bo:gC X [] F8:=λ_ _ σ H _ I h=>wpAny_execs_nil ⟨σ,H,I,h⟩
theorem af(h1:PS X st t)(h2:gC X rest u):gC X (st::rest) (ba t u):=by
 intro pins s σ H D I h
 refine wpAny_execs_cons (a8 (h1 pins s σ H {D with nx:=u D} I h) λf s1 q=>?_)
 cases f with
 |next=>
  obtain⟨az,U,I',q⟩:=q
  exact h2 pins s1 az U D I' q
 |ret v=>exact q
 |brk=>exact q
 |cont=>exact q
theorem ai(h1:PS X st t):gC X [st] t:=by
 intro pins s σ H D I h
 refine wpAny_execs_cons (a8 (h1 pins s σ H D I h) λf s1 q=>?_)
 cases f with
 |next=>exact wpAny_execs_nil q
 |ret v=>exact q
 |brk=>exact q
 |cont=>exact q
theorem Inv.quiet{pins:List (Addr×Obj)}{σ:St}{H:Hp}{s:Shared}(I:Inv X pins σ H s):interactive X.env=false:=by simp[interactive,I.ok.kind]
def F9(te:TE):TS:=λD σ H=>te σ H λ_ H1=>D.nx σ H1
theorem bq(he:PE X e te)(hs:swapsWith e none pos.line X.env=pure false:=by rfl):PS X (.Expr e pos) (F9 te):=by
 intro pins s σ H D I h
 exact wpAny_Expr_any (a8 (he pins s σ H _ I h) λv s1 ⟨x,H1,I1,r1,q1⟩=>⟨σ,H1,I1,q1⟩) I.quiet hs
def eZ(te:TE):TS:=λD σ H=>te σ H D.rt
theorem aH(he:PE X e te):PS X (.Return (some e) pos) (eZ te):=by
 intro pins s σ H D I h
 exact wpAny_Return_some (a8 (he pins s σ H _ I h) λv s1 ⟨x,H1,I1,r1,q1⟩=>⟨x,σ,H1,I1,r1,q1⟩)
def vO(c:TT)(t u:TS):TS:=λD σ H=>c σ H λb H1=>if b=true then t D σ H1 else u D σ H1
theorem bb{c:Expr}{a b:List Stmt}{tc:TT}(hc:PT X c tc)(ha:gC X a t)(hb:gC X b u):PS X (.If c a b pos) (vO tc t u):=by
 intro pins s σ H D I h
 refine wpAny_If (a8 (hc pins s σ H _ I h) λd s1 ⟨H1,I1,q1⟩=>?_)
 cases d with
 |true=>exact ha pins s1 σ H1 D I1 q1
 |false=>exact hb pins s1 σ H1 D I1 q1
end
abbrev TG:=V→St→Hp→(St→Hp→Prop)→Prop
abbrev mW:=List V→St→Hp→(St→Hp→Prop)→Prop
def PG(X:Cx)(target:Expr)(t:TG):Prop:=
 ∀(pins:List (Addr×Obj)) (s:Shared) (σ:St) (H:Hp) (v:V) (u:Value) (Q:St→Hp→Prop),Inv X pins σ H s→RelV v u→t v σ H Q→
  wpAny (model X.prog X.w) X.A (assign target X.env u) (λ_ s'=>∃az U,Inv X pins az U s'∧Q az U) X.xe s
def vP(X:Cx)(ts:List Expr)(t:mW):Prop:=
 ∀(pins:List (Addr×Obj)) (s:Shared) (σ:St) (H:Hp) (vs:List V) (us:List Value) (Q:St→Hp→Prop),Inv X pins σ H s→Vals vs us→t vs σ H Q→
  wpAny (model X.prog X.w) X.A (assignInOrder ((assignEach ts X.env).map (·.2)) us) (λ_ s'=>∃az U,Inv X pins az U s'∧Q az U) X.xe s
abbrev vQ:=V→V→Hp→VK→Prop
def F_(X:Cx)(op:Operator)(t:vQ):Prop:=
 ∀(pins:List (Addr×Obj)) (s:Shared) (σ:St) (H:Hp) (x y:V) (v u:Value) (Q:VK),Inv X pins σ H s→RelV x v→RelV y u→t x y H Q→
  wpAny (model X.prog X.w) X.A (inplaceOp op v u) (EP X pins σ Q) X.xe s
section
variable{X:Cx}{pos:Pos}
def gD(i:Nat):TG:=λv σ H Q=>Q (σ.set i (some v)) H
theorem eA{i:Nat}{x:Str}(hN:X.N.Nodup)(hi:X.N[i]?=some x)(hx:Loc X.env.scope x)(hf:X.fn x=true∨X.env.scope.names.lookup x=some .local:=by first|exact .inl rfl|exact .inr rfl|assumption):PG X (.Name x pos) (gD i):=by
 intro pins s σ H v u Q I r h
 exact wpAny_assign_Name (vK I hN hi hx r (λs' I'=>⟨_,H,I',h⟩) hf)
def vR:mW:=λvs σ H Q=>vs=[]∧Q σ H
def oN(t:TG)(u:mW):mW:=λvs σ H Q=>∃v r,vs=v::r∧t v σ H λaz U=>u r az U Q
theorem sJ:vP X [] vR:=by
 intro pins s σ H vs us Q I r h
 obtain⟨e,h⟩:=h
 subst e
 cases r
 exact assignInOrder_nil ⟨σ,H,I,h⟩
theorem jU{e:Expr}{es:List Expr}{t:TG}{u:mW}(h1:PG X e t)(h2:vP X es u)(hs:(assignEach (e::es) X.env).map (·.2)=assign e X.env::(assignEach es X.env).map (·.2):=by rfl):vP X (e::es) (oN t u):=by
 intro pins s σ H vs us Q I r h
 obtain⟨v,vr,e1,h⟩:=h
 subst e1
 cases r with
 |cons r rr=>
  rw[hs]
  refine assignInOrder_cons (a8 (h1 pins s σ H _ _ _ I r h) λ_ s1 ⟨qm,H1,I1,q1⟩=>?_)
  exact h2 pins s1 qm H1 _ _ Q I1 rr q1
def y_(K:PySem.W.Frag)(n:Nat)(t:mW):TG:=λv σ H Q=>∃a xs,v=.ref a∧aY K H a xs∧xs.length=n∧t xs σ H Q
theorem sL{es:List Expr}{k:Nat}{t:mW}{n:Nat}(hc:X.calm=true)(h:vP X es t)(hn:(assignEach es X.env).length=n:=by rfl)(fG:(assignEach es X.env).findIdx? (·.1)=none:=by rfl):PG X (.Tuple es k pos) (y_ X.K n t):=by
 intro pins s σ H v u Q I r hw
 obtain⟨a,xs,e1,hq,hl,hw⟩:=hw
 subst e1
 cases r
 obtain⟨aq,rv,ht,hz⟩:=I.tuple hq
 refine assign_Tuple_tuple (I.ok.hd hc) ht (by simp[hn,←hl,rv.length]) fG λh' hx=>?_
 have I1:Inv X pins σ H {s with heap:=h'}:=I.kept (t':=s.toks) λb o e=>hx b o (Nat.ne_of_lt (Heap.lt_size e)) e
 exact h pins _ σ H xs _ Q I1 (by simpa using rv) hw
def za(te:TE)(g:TG):TS:=λD σ H=>te σ H λx H1=>g x σ H1 D.nx
theorem a9{i:Nat}{x:Str}{e:Expr}{te:TE}{pos':Pos}(hN:X.N.Nodup)(hi:X.N[i]?=some x)(hx:Loc X.env.scope x)(he:PE X e te)(hs:swapsWith e (some (.Name x pos')) pos.line X.env=pure false:=by rfl)(hf:X.fn x=true∨X.env.scope.names.lookup x=some .local:=by first|exact .inl rfl|exact .inr rfl|assumption):
  PS X (.Assign [.Name x pos'] e pos) (za te (gD i)):=by
 intro pins s σ H D I h
 refine wpAny_Assign_Name (a8 (he pins s σ H _ I h) λv s1 ⟨y,H1,I1,r1,q1⟩=>?_) hs
 exact vK I1 hN hi hx r1 (λs2 I2=>⟨_,H1,I2,q1⟩) hf
def Oc(i:Nat)(te:TE)(ti:vQ):TS:=λD σ H=>∃x,σ[i]?=some (some x)∧te σ H λy H1=>ti x y H1 λz H2=>D.nx (σ.set i (some z)) H2
theorem vS{i:Nat}{x:Str}{e:Expr}{te:TE}{op:Operator}{ti:vQ}{pos':Pos}(hN:X.N.Nodup)(hi:X.N[i]?=some x)(hx:Loc X.env.scope x)(he:PE X e te)(ho:F_ X op ti)(hf:X.fn x=true∨X.env.scope.names.lookup x=some .local:=by first|exact .inl rfl|exact .inr rfl|assumption):
  PS X (.AugAssign (.Name x pos') op e pos) (Oc i te ti):=by
 intro pins s σ H D I h
 obtain⟨v,e1,h⟩:=h
 obtain⟨m,hn,hl⟩:=I.loc
 have Od:qe X.env.scope x:=by rcases hx with k|k;exact .inl k;exact .inr (.inl k)
 obtain⟨u,r,l⟩:=hl i x v hi e1 Od
 refine wpAny_AugAssign_Name ?_
 have go:wpAny (model X.prog X.w) X.A (eval e X.env) (λw jr=>wpAny (model X.prog X.w) X.A (inplaceOp op u w) (λr sM=>wpAny (model X.prog X.w) X.A (storeName X.env x r) (λ_=>SP X pins D .next) X.xe sM) X.xe jr) X.xe s:=by
  refine a8 (he pins s σ H _ I h) λw s1 ⟨y,H1,I1,r1,q1⟩=>?_
  refine a8 (ho pins s1 σ H1 v y u w _ I1 r r1 q1) λz s2 ⟨zv,H2,I2,r2,q2⟩=>?_
  exact vK I2 hN hi hx r2 (λs3 I3=>⟨_,H2,I3,q2⟩) hf
 rcases l with⟨hk,hm⟩|⟨hk,c,hc,vL⟩
 ·exact wpAny_loadName_local I.ok.kind hk hn hm go
 ·rcases hk with hk|hk
  ·exact wpAny_loadName_cell I.ok.kind hk hc vL go
  ·rcases hx with k|k
   ·have:X.env.scope.names.lookup x=some .free:=hk
    rw[k]at this;cases this
   ·have:X.env.scope.names.lookup x=some .free:=hk
    rw[k]at this;cases this
def Oe(f:Int→Int→Int):vQ:=λx y H Q=>∃i j,x=.int i∧y=.int j∧Q (.int (f i j)) H
theorem vT:F_ X .Add (Oe λi j=>i+j):=by
 intro pins s σ H x y v u Q I r1 r2 h
 obtain⟨i,j,e1,e2,q⟩:=h
 subst e1;subst e2
 obtain⟨t,rfl⟩:=r1
 obtain⟨t',rfl⟩:=r2
 exact iadd_int ⟨.int _,H,I.tok _,⟨_,rfl⟩,q⟩
end
section
variable{X:Cx}{pos:Pos}
def Ga(c:TT)(tb:TS):TS:=λD σ H=>∃W:Nat→St→Hp→Prop,(∃m,W m σ H)∧∀m σ H,W m σ H→
 c σ H λb H1=>if b=true then∃N:St→Hp→Prop,(∀az U,N az U→∃m',m'<m∧W m' az U)∧tb {D with nx:=N,ct:=N,bk:=D.nx} σ H1 else D.nx σ H1
theorem mX{c:Expr}{body:List Stmt}{tc:TT}{tb:TS}(hp:PassesOwn (model X.prog X.w) X.A X.env X.xe)(hc:PT X c tc)(hb:gC X body tb):PS X (.While c body [] pos) (Ga tc tb):=by
 intro pins s σ H D I h
 obtain⟨W,⟨m0,w0⟩,turn⟩:=h
 refine wpAny_While (codeAny_whileLoop (λn s'=>∃az U,Inv X pins az U s'∧W n az U) ?_ m0 ⟨σ,H,I,w0⟩)
 rintro n s1 ⟨qm,H1,I1,w1⟩
 refine wpAny_passesOwn hp (a8 (hc pins s1 qm H1 _ I1 (turn n qm H1 w1)) λb s2 ⟨H2,I2,q2⟩=>?_)
 cases b with
 |true=>
  obtain⟨N,hN,q2⟩:=q2
  rw[if_pos rfl]
  refine wpAny_passesOwn hp (a8 (hb pins s2 qm H2 _ I2 q2) λf s3 q3=>?_)
  cases f with
  |next=>
   obtain⟨jV,H3,I3,n3⟩:=q3
   obtain⟨m',hm,w3⟩:=hN jV H3 n3
   exact⟨m',hm,jV,H3,I3,w3⟩
  |cont=>
   obtain⟨jV,H3,I3,n3⟩:=q3
   obtain⟨m',hm,w3⟩:=hN jV H3 n3
   exact⟨m',hm,jV,H3,I3,w3⟩
  |brk=>exact q3
  |ret v=>exact q3
 |false=>
  rw[if_neg Bool.false_ne_true]
  exact wpAny_execs_nil ⟨qm,H2,I2,q2⟩
end
structure It where
 go:Nat→Hp→Prop
 iL:Nat→Hp→V→Hp→Prop
 stop:Nat→Hp→Prop
def js(X:Cx)(pins:List (Addr×Obj))(H:Hp)(b:Addr):Prop:=
 H b=none∧b≠X.env.locals∧b∉X.fs∧(b∈X.ex∨X.d4.heap.objs.size≤b)∧(∀x c,X.env.cells.lookup x=some c→c≠b)∧∀p∈X.pn++pins,p.1≠b
theorem Inv.mY{X:Cx}{pins:List (Addr×Obj)}{σ:St}{H U:Hp}{s:Shared}{b:Addr}(I:Inv X pins σ H s)(hb:s.heap.objs.size≤b)(hn:U b=none):js X pins U b:=by
 refine⟨hn,Nat.ne_of_gt (Nat.lt_of_lt_of_le I.lt hb),I.N3 hb,.inr (Nat.le_trans I.sz hb),λx c e z=>?_,λp hp z=>?_⟩
 ·obtain⟨v,q⟩:=I.cell x c e
  exact absurd (Nat.lt_of_lt_of_le q.lt (by rw[z];exact hb)) (Nat.lt_irrefl _)
 ·exact absurd (Nat.lt_of_lt_of_le (Heap.lt_size (I.pin p hp).1) (by rw[z];exact hb)) (Nat.lt_irrefl _)
structure Turn(P:Program)(w:World)(K:PySem.W.Frag)(tg:Expr)(J:It)(fp:List Addr)(it:Addr)(tn:Nat→Heap→Prop):Prop where
 mem:it∈fp
 obj:∀i h,tn i h→∀b∈fp,∃o,h.get? b=some o∧∀v,o.data≠.cell v
 keep:∀i h h',tn i h→(∀b∈fp,∀o,h.get? b=some o→h'.get? b=some o)→tn i h'
 item:∀(X:Cx),X.prog=P→X.w=w→X.K=K→X.calm=true→∀(i:Nat) (pins:List (Addr×Obj)) (s:Shared) (σ:St) (H:Hp) (E:Value→Shared→Prop),Inv X pins σ H s→(∀b∈fp,js X pins H b)→tn i s.heap→J.go i H→
  wpAny (model P w) X.A (pyNext (.ref it)) (λr s1=>∃u,r=some u∧
   wpAny (model P w) X.A (letOwnedTupleGo tg (.ref it) u) (λ_ s2=>∃x U,Inv X pins σ U s2∧RelV x u∧J.iL i H x U∧tn (i+1) s2.heap∧∀b∈fp,U b=none) E s1) E s
 done:∀(X:Cx),X.prog=P→X.w=w→X.K=K→X.calm=true→∀(i:Nat) (pins:List (Addr×Obj)) (s:Shared) (σ:St) (H:Hp) (E:Value→Shared→Prop),Inv X pins σ H s→(∀b∈fp,js X pins H b)→tn i s.heap→J.stop i H→
  wpAny (model P w) X.A (pyNext (.ref it)) (λr s1=>r=none∧Inv X pins σ H s1) E s
 self:∀(A:Around) (i:Nat) (s:Shared) (Q:Value→Shared→Prop) (E:Value→Shared→Prop),tn i s.heap→Q (.ref it) s→wpAny (model P w) A (pyIter (.ref it)) Q E s
abbrev TI:=St→Hp→(It→Hp→Prop)→Prop
def Gb(X:Cx)(pins:List (Addr×Obj))(σ:St)(tg:Expr)(R:It→Hp→Prop)(zb:Value)(s2:Shared):Prop:=
 ∃(it:Addr) (fp:List Addr) (tn:Nat→Heap→Prop) (J:It) (U:Hp),zb=.ref it∧Inv X pins σ U s2∧Turn X.prog X.w X.K tg J fp it tn∧tn 0 s2.heap∧(∀b∈fp,js X pins U b)∧R J U
def PI(X:Cx)(tg iter:Expr)(wi:TI):Prop:=
 ∀(pins:List (Addr×Obj)) (s:Shared) (σ:St) (H:Hp) (R:It→Hp→Prop),Inv X pins σ H s→wi σ H R→
  wpAny (model X.prog X.w) X.A (eval iter X.env) (λv s1=>wpAny (model X.prog X.w) X.A (pyIter v) (Gb X pins σ tg R) X.xe s1) X.xe s
theorem ze{M:Model}{A:Around}{E:Value→Shared→Prop}{s:Shared}{tg:Expr}{it:Addr}{u:Value}{o:Obj}{n:String}{vs:Array Value}{Q:Unit→Shared→Prop}(ho:s.heap.get? it=some o)(hc:o.cls=.type n)(hd:o.data=.fields vs)(hn:["enumerate","zip","dict_itemiterator","dict_reverseitemiterator","odict_iterator","itertools.zip_longest","itertools.pairwise"].contains n=false)(hQ:Q () s):wpAny M A (letOwnedTupleGo tg (.ref it) u) Q E s:=by
 unfold letOwnedTupleGo
 cases tg<;>first
  |exact wpAny_pure hQ
  |(cases u<;>first
    |exact wpAny_pure hQ
    |(refine wpAny_bind (wpAny_load ho ?_)
      rw[hc,hd]
      show wpAny M A (if(["enumerate","zip","dict_itemiterator","dict_reverseitemiterator","odict_iterator","itertools.zip_longest","itertools.pairwise"].contains n&&vs[0]?==some (rawInt _))=true then _ else _) Q E s
      rw[if_neg (by intro h;rw[hn,Bool.false_and]at h;cases h)]
      exact wpAny_pure hQ))
def lU(K:PySem.W.Frag)(a:Addr):It:=
 ⟨λi H=>∃xs x,ah K H a xs∧xs[i]?=some x,λi H x U=>U=H∧∀xs,ah K H a xs→xs[i]?=some x,λi H=>∃xs,ah K H a xs∧xs.length≤i⟩
def lV(K:PySem.W.Frag)(a:Addr):It:=
 ⟨λi H=>∃xs x,aY K H a xs∧xs[i]?=some x,λi H x U=>U=H∧∀xs,aY K H a xs→xs[i]?=some x,λi H=>∃xs,aY K H a xs∧xs.length≤i⟩
theorem Of{P:Program}{w:World}{K:PySem.W.Frag}{tg:Expr}(a it:Addr):Turn P w K tg (lU K a) [it] it (λi h=>h.IsListIter it a i) where
 mem:=by simp
 obj:=λi h st b hb=>by
  have e:b=it:=by simpa using hb
  subst e
  obtain⟨o,e,c,d⟩:=st
  exact⟨o,e,λv z=>by rw[d]at z;cases z⟩
 keep:=λi h h' st k=>st.at λo e=>k it (by simp) o e
 item:=by
  intro X hP hw hK hc i pins s σ H E I hf st hg
  subst hP hw hK
  obtain⟨xs,x,hq,hx⟩:=hg
  obtain⟨aq,rv,p,hz⟩:=I.list hq
  obtain⟨u,hu,ru⟩:=rv.get hx
  obtain⟨f0,f1,f2,f3,f4,f5⟩:=hf it (by simp)
  refine wpAny_pyNext_list_item st p.isList (x:=u) (by simpa using hu) λh' mZ sb=>?_
  have I1:Inv X pins σ H {s with heap:=h'}:=I.turned (t':=s.toks) (λb o hb e=>(sb.2 b hb).trans e) f0 f1 f3 f4 f5
  obtain⟨o,e,c,d⟩:=id mZ
  exact⟨u,rfl,ze (s:={s with heap:=h'}) e c d (by decide) ⟨x,H,I1,ru,⟨rfl,λys hy=>by rw[I.mV hy hq];exact hx⟩,mZ,λb hb=>(hf b hb).1⟩⟩
 done:=by
  intro X hP hw hK hc i pins s σ H E I hf st hg
  subst hP hw hK
  obtain⟨xs,hq,hx⟩:=hg
  obtain⟨aq,rv,p,hz⟩:=I.list hq
  obtain⟨f0,f1,f2,f3,f4,f5⟩:=hf it (by simp)
  have hl:=rv.length
  exact wpAny_pyNext_list_end (I.ok.hd hc) st p.isList (by simp;omega) λh' eb=>⟨rfl,I.turned (t':=s.toks) (λb o hb e=>eb b o hb e) f0 f1 f3 f4 f5⟩
 self:=λ_ _ _ _ _ st h=>wpAny_pyIter_listiter st h
theorem Og{P:Program}{w:World}{K:PySem.W.Frag}{tg:Expr}(a it:Addr):Turn P w K tg (lV K a) [it] it (λi h=>h.IsTupleIter it a i) where
 mem:=by simp
 obj:=λi h st b hb=>by
  have e:b=it:=by simpa using hb
  subst e
  obtain⟨o,e,c,d⟩:=st
  exact⟨o,e,λv z=>by rw[d]at z;cases z⟩
 keep:=λi h h' st k=>st.at λo e=>k it (by simp) o e
 item:=by
  intro X hP hw hK hc i pins s σ H E I hf st hg
  subst hP hw hK
  obtain⟨xs,x,hq,hx⟩:=hg
  obtain⟨aq,rv,p,hz⟩:=I.tuple hq
  obtain⟨u,hu,ru⟩:=rv.get hx
  obtain⟨f0,f1,f2,f3,f4,f5⟩:=hf it (by simp)
  refine wpAny_pyNext_tuple_item st (show s.heap.IsTuple a aq.toArray from p) (x:=u) (by simpa using hu) λh' mZ sb=>?_
  have I1:Inv X pins σ H {s with heap:=h'}:=I.turned (t':=s.toks) (λb o hb e=>(sb.2 b hb).trans e) f0 f1 f3 f4 f5
  obtain⟨o,e,c,d⟩:=id mZ
  exact⟨u,rfl,ze (s:={s with heap:=h'}) e c d (by decide) ⟨x,H,I1,ru,⟨rfl,λys hy=>by rw[I.F7 hy hq];exact hx⟩,mZ,λb hb=>(hf b hb).1⟩⟩
 done:=by
  intro X hP hw hK hc i pins s σ H E I hf st hg
  subst hP hw hK
  obtain⟨xs,hq,hx⟩:=hg
  obtain⟨aq,rv,p,hz⟩:=I.tuple hq
  obtain⟨f0,f1,f2,f3,f4,f5⟩:=hf it (by simp)
  have hl:=rv.length
  exact wpAny_pyNext_tuple_end (I.ok.hd hc) st (show s.heap.IsTuple a aq.toArray from p) (by simp;omega) λh' eb=>⟨rfl,I.turned (t':=s.toks) (λb o hb e=>eb b o hb e) f0 f1 f3 f4 f5⟩
 self:=λ_ _ _ _ _ st h=>wpAny_pyIter_tupleiter st h
end L2
namespace L2
open PySem PySem.Spec PyProof.Rows
section
variable{X:Cx}{tg:Expr}
def Gd(K:PySem.W.Frag)(tl:TE):TI:=λσ H R=>tl σ H λx H1=>∃a,x=.ref a∧(∃xs,ah K H1 a xs)∧R (lU K a) H1
def Ge(K:PySem.W.Frag)(tl:TE):TI:=λσ H R=>tl σ H λx H1=>∃a,x=.ref a∧(∃xs,aY K H1 a xs)∧R (lV K a) H1
theorem kX{l:Expr}{tl:TE}(hl:PE X l tl):PI X tg l (Gd X.K tl):=by
 intro pins s σ H R I h
 refine a8 (hl pins s σ H _ I h) λv s1 ⟨x,H1,I1,r1,q1⟩=>?_
 obtain⟨a,e,⟨xs,hq⟩,q⟩:=q1
 subst e
 cases r1
 obtain⟨aq,rv,p,hz⟩:=I1.list hq
 refine wpAny_pyIter_list p.isList ?_
 refine⟨s1.heap.objs.size,[s1.heap.objs.size],_,_,H1,rfl,I1.kept (t':=s1.toks) λb o e=>Heap.get?_push_of_some _ e,Of a _,⟨_,Heap.get?_push_size _ rfl,rfl,rfl⟩,λb hb=>?_,q⟩
 have e:b=s1.heap.objs.size:=by simpa using hb
 subst e
 exact I1.mY (Nat.le_refl _) (I1.aK.fresh (Nat.le_refl _))
theorem qo{l:Expr}{tl:TE}(hl:PE X l tl):PI X tg l (Ge X.K tl):=by
 intro pins s σ H R I h
 refine a8 (hl pins s σ H _ I h) λv s1 ⟨x,H1,I1,r1,q1⟩=>?_
 obtain⟨a,e,⟨xs,hq⟩,q⟩:=q1
 subst e
 cases r1
 obtain⟨aq,rv,p,hz⟩:=I1.tuple hq
 refine wpAny_pyIter_tuple (show s1.heap.IsTuple a aq.toArray from p) ?_
 refine⟨s1.heap.objs.size,[s1.heap.objs.size],_,_,H1,rfl,I1.kept (t':=s1.toks) λb o e=>Heap.get?_push_of_some _ e,Og a _,⟨_,Heap.get?_push_size _ rfl,rfl,rfl⟩,λb hb=>?_,q⟩
 have e:b=s1.heap.objs.size:=by simpa using hb
 subst e
 exact I1.mY (Nat.le_refl _) (I1.aK.fresh (Nat.le_refl _))
def Gf(wi:TI)(g:TG)(tb:TS):TS:=λD σ H=>wi σ H λJ H1=>∃W:Nat→Nat→St→Hp→Prop,(∃m,W 0 m σ H1)∧∀i m σ H,W i m σ H→
 (J.stop i H∧D.nx σ H)∨(J.go i H∧∃N:St→Hp→Prop,(∀az U,N az U→∃m',m'<m∧W (i+1) m' az U)∧∀x U,J.iL i H x U→g x σ U λbr H2=>tb {D with nx:=N,ct:=N,bk:=D.nx} br H2)
def sN(fp:List Addr)(h:Heap):List (Addr×Obj):=fp.filterMap λb=>(h.get? b).map λo=>(b,o)
theorem zf{fp:List Addr}{h:Heap}{b:Addr}{o:Obj}(hb:b∈fp)(e:h.get? b=some o):(b,o)∈sN fp h:=List.mem_filterMap.mpr ⟨b,hb,by rw[e];rfl⟩
theorem Oh{fp:List Addr}{h:Heap}{p:Addr×Obj}(hp:p∈sN fp h):p.1∈fp∧h.get? p.1=some p.2:=by
 obtain⟨b,hb,e⟩:=List.mem_filterMap.mp hp
 cases q:h.get? b with
 |none=>rw[q]at e;cases e
 |some o=>
  rw[q]at e
  have e':(b,o)=p:=Option.some.inj e
  subst e'
  exact⟨hb,q⟩
theorem Inv.pinned{pins:List (Addr×Obj)}{σ:St}{H:Hp}{s:Shared}{fp:List Addr}(I:Inv X pins σ H s)(hf:∀b∈fp,js X pins H b)(ho:∀b∈fp,∃o,s.heap.get? b=some o∧∀v,o.data≠.cell v):Inv X (pins++sN fp s.heap) σ H s:=
 I.FV λp hp=>(List.mem_append.mp hp).elim (λz=>I.pin p (List.mem_append_right _ z)) λz=>by
  obtain⟨hb,e⟩:=Oh z
  obtain⟨f0,f1,f2,_⟩:=hf p.1 hb
  obtain⟨o,e',d⟩:=ho p.1 hb
  rw[e]at e';cases e'
  exact⟨e,f0,f1,f2,d⟩
theorem Inv.vU{pins pl:List (Addr×Obj)}{σ:St}{H:Hp}{s:Shared}(I:Inv X (pins++pl) σ H s):Inv X pins σ H s:=I.FV λp hp=>I.pin p (List.mem_append_right _ (List.mem_append_left _ hp))
theorem hX{iter:Expr}{body:List Stmt}{wi:TI}{g:TG}{tb:TS}{pos:Pos}(hp:PassesOwn (model X.prog X.w) X.A X.env X.xe)(hc:X.calm=true)(hi:PI X tg iter wi)(hg:PG X tg g)(hb:gC X body tb)(hs:∀x,foldedSetIterable iter X.env x=pure x:=by intro _;rfl):PS X (.For tg iter body [] pos) (Gf wi g tb):=by
 intro pins s σ H D I h
 refine wpAny_For (a8 (hi pins s σ H _ I h) λv s1 h1=>a8 h1 λzb s2 h2=>?_) hs
 obtain⟨it,fp,tn,J,H2,e,I2,T,vV,f2,W,⟨m0,w0⟩,turn⟩:=h2
 subst e
 have oO:∀{U:Hp},(∀b∈fp,U b=none)→∀b∈fp,js X pins U b:=λhn b hb=>⟨hn b hb,(f2 b hb).2⟩
 refine codeAny_forLoop_any (λn s'=>∃i az U,Inv X pins az U s'∧tn i s'.heap∧(∀b∈fp,U b=none)∧W i n az U) ?_ m0 ⟨0,σ,H2,I2,vV,λb hb=>(f2 b hb).1,w0⟩
 rintro n s3 ⟨i,jV,H3,I3,vW,Gg,w3⟩
 rcases turn i n jV H3 w3 with⟨stop,qn⟩|⟨go,N,hN,step⟩
 ·refine wpAny_passesOwn hp (a8 (T.done X rfl rfl rfl hc i pins s3 jV H3 X.xe I3 (oO Gg) vW stop) λr s4 ⟨hr,I4⟩=>?_)
  subst hr
  exact wpAny_execs_nil ⟨jV,H3,I4,qn⟩
 ·refine wpAny_passesOwn hp (a8 (T.item X rfl rfl rfl hc i pins s3 jV H3 X.xe I3 (oO Gg) vW go) λr s4 ⟨u,hr,h4⟩=>?_)
  subst hr
  refine wpAny_passesOwn hp (a8 h4 λ_ s5 ⟨x,H5,I5,r5,y5,m3,Oi⟩=>?_)
  have Oj:=I5.pinned (oO Oi) (T.obj _ _ m3)
  refine wpAny_passesOwn hp (a8 (hg _ s5 jV H5 x u _ Oj r5 (step x H5 y5)) λ_ s6 ⟨ja,H6,I6,q6⟩=>?_)
  refine wpAny_passesOwn hp (a8 (hb _ s6 ja H6 _ I6 q6) λf s7 q7=>?_)
  have again:∀{jW:St} {H7:Hp},Inv X (pins++sN fp s5.heap) jW H7 s7→N jW H7→∃m,m<n∧∃i az U,Inv X pins az U s7∧tn i s7.heap∧(∀b∈fp,U b=none)∧W i m az U:=λ{jW H7} I7 n7=>by
   obtain⟨m',hm,w7⟩:=hN jW H7 n7
   refine⟨m',hm,i+1,jW,H7,I7.vU,T.keep _ _ _ m3 λb hb o e=>(I7.pin (b,o) (List.mem_append_right _ (List.mem_append_right _ (zf hb e)))).1,λb hb=>?_,w7⟩
   obtain⟨o,e,d⟩:=T.obj _ _ m3 b hb
   exact(I7.pin (b,o) (List.mem_append_right _ (List.mem_append_right _ (zf hb e)))).2.1
  cases f with
  |next=>obtain⟨jW,H7,I7,n7⟩:=q7;exact again I7 n7
  |cont=>obtain⟨jW,H7,I7,n7⟩:=q7;exact again I7 n7
  |brk=>obtain⟨jW,H7,I7,q7⟩:=q7;exact⟨jW,H7,I7.vU,q7⟩
  |ret v=>obtain⟨x7,jW,H7,I7,r7,q7⟩:=q7;exact⟨x7,jW,H7,I7.vU,r7,q7⟩
end
theorem qp{K:PySem.W.Frag}{a:Addr}{xs:List V}{g:TG}{tb:TS}{D:Ends}{σ:St}{H:Hp}(Pv:Nat→St→Hp→Prop)(h0:Pv 0 σ H)(hl:∀i σ H,i≤xs.length→Pv i σ H→ah K H a xs)(hs:∀i x σ H,xs[i]?=some x→Pv i σ H→g x σ H λbr H2=>tb {D with nx:=Pv (i+1),ct:=Pv (i+1),bk:=D.nx} br H2)(hd:∀σ H,Pv xs.length σ H→D.nx σ H):
  ∃W:Nat→Nat→St→Hp→Prop,(∃m,W 0 m σ H)∧∀i m σ H,W i m σ H→
   ((lU K a).stop i H∧D.nx σ H)∨((lU K a).go i H∧∃N:St→Hp→Prop,(∀az U,N az U→∃m',m'<m∧W (i+1) m' az U)∧∀x U,(lU K a).iL i H x U→g x σ U λbr H2=>tb {D with nx:=N,ct:=N,bk:=D.nx} br H2):=by
 refine⟨λi m σ H=>m=xs.length-i∧i≤xs.length∧Pv i σ H,⟨xs.length,by simp,Nat.zero_le _,h0⟩,?_⟩
 rintro i m σ H ⟨rfl,hi,p⟩
 have q:=hl i σ H hi p
 by_cases bw:i<xs.length
 ·refine .inr ⟨⟨xs,xs[i],q,by simp[bw]⟩,Pv (i+1),λaz U p'=>⟨xs.length-(i+1),by omega,rfl,bw,p'⟩,λx U y=>?_⟩
  obtain⟨e,y⟩:=y
  subst e
  exact hs i x σ _ (y xs q) p
 ·have e:i=xs.length:=by omega
  subst e
  exact .inl ⟨⟨xs,q,Nat.le_refl _⟩,hd σ H p⟩
theorem sO{K:PySem.W.Frag}{a:Addr}{xs:List V}{g:TG}{tb:TS}{D:Ends}{σ:St}{H:Hp}(Pv:Nat→St→Hp→Prop)(h0:Pv 0 σ H)(hl:∀i σ H,i≤xs.length→Pv i σ H→aY K H a xs)(hs:∀i x σ H,xs[i]?=some x→Pv i σ H→g x σ H λbr H2=>tb {D with nx:=Pv (i+1),ct:=Pv (i+1),bk:=D.nx} br H2)(hd:∀σ H,Pv xs.length σ H→D.nx σ H):
  ∃W:Nat→Nat→St→Hp→Prop,(∃m,W 0 m σ H)∧∀i m σ H,W i m σ H→
   ((lV K a).stop i H∧D.nx σ H)∨((lV K a).go i H∧∃N:St→Hp→Prop,(∀az U,N az U→∃m',m'<m∧W (i+1) m' az U)∧∀x U,(lV K a).iL i H x U→g x σ U λbr H2=>tb {D with nx:=N,ct:=N,bk:=D.nx} br H2):=by
 refine⟨λi m σ H=>m=xs.length-i∧i≤xs.length∧Pv i σ H,⟨xs.length,by simp,Nat.zero_le _,h0⟩,?_⟩
 rintro i m σ H ⟨rfl,hi,p⟩
 have q:=hl i σ H hi p
 by_cases bw:i<xs.length
 ·refine .inr ⟨⟨xs,xs[i],q,by simp[bw]⟩,Pv (i+1),λaz U p'=>⟨xs.length-(i+1),by omega,rfl,bw,p'⟩,λx U y=>?_⟩
  obtain⟨e,y⟩:=y
  subst e
  exact hs i x σ _ (y xs q) p
 ·have e:i=xs.length:=by omega
  subst e
  exact .inl ⟨⟨xs,q,Nat.le_refl _⟩,hd σ H p⟩
end L2
namespace L2
open PySem PySem.Spec PyProof.Rows
abbrev R2:=V→V→Hp→VK→Prop
def eQ(X:Cx)(f:Value→Value→Sem Value)(r:R2):Prop:=
 ∀(pins:List (Addr×Obj)) (s:Shared) (σ:St) (H:Hp) (x y:V) (v u:Value) (Q:VK),Inv X pins σ H s→RelV x v→RelV y u→r x y H Q→
  wpAny (model X.prog X.w) X.A (f v u) (EP X pins σ Q) X.xe s
def zg(X:Cx)(f:Value→Sem Value)(r:V→Hp→VK→Prop):Prop:=
 ∀(pins:List (Addr×Obj)) (s:Shared) (σ:St) (H:Hp) (x:V) (v:Value) (Q:VK),Inv X pins σ H s→RelV x v→r x H Q→
  wpAny (model X.prog X.w) X.A (f v) (EP X pins σ Q) X.xe s
def oP(X:Cx)(f:Value)(r:List V→Hp→VK→Prop):Prop:=
 ∀(pins:List (Addr×Obj)) (s:Shared) (σ:St) (H:Hp) (xs:List V) (us:List Value) (Q:VK),Inv X pins σ H s→Vals xs us→r xs H Q→
  wpAny (model X.prog X.w) X.A (call f us) (EP X pins σ Q) X.xe s
def qr(r:R2)(ta tb:TE):TE:=λσ H Q=>ta σ H λx H1=>tb σ H1 λy H2=>r x y H2 Q
def Gh(r:V→Hp→VK→Prop)(ta:TE):TE:=λσ H Q=>ta σ H λx H1=>r x H1 Q
def rI(C:Int→Int→Prop)(g:Int→Int→V):R2:=λx y H Q=>∃i j,x=.int i∧y=.int j∧C i j∧Q (g i j) H
def jX(g:Int→Int→V):R2:=λx y H Q=>∃i j,x=.int i∧y=.int j∧Q (g i j) H
def rU(g:Int→V):V→Hp→VK→Prop:=λx H Q=>∃i,x=.int i∧Q (g i) H
section
variable{X:Cx}{a b c:Expr}{ta tb tc:TE}{pos:Pos}
theorem zh(ha:PE X a ta)(hb:PE X b tb){pins:List (Addr×Obj)}{s:Shared}{σ:St}{H:Hp}{R:V→V→Hp→Prop}(I:Inv X pins σ H s)(h:ta σ H λx H1=>tb σ H1 λy H2=>R x y H2){Q:Value→Shared→Prop}{f:Value→Value→Sem Value}(hf:∀v u s2 x y H2,Inv X pins σ H2 s2→RelV x v→RelV y u→R x y H2→wpAny (model X.prog X.w) X.A (f v u) Q X.xe s2):
  wpAny (model X.prog X.w) X.A (eval a X.env) (λv cb=>wpAny (model X.prog X.w) X.A (eval b X.env) (λu jr=>wpAny (model X.prog X.w) X.A (f v u) Q X.xe jr) X.xe cb) X.xe s:=by
 refine a8 (ha pins s σ H _ I h) λv s1 ⟨x,H1,I1,r1,q1⟩=>?_
 refine a8 (hb pins s1 σ H1 _ I1 q1) λu s2 ⟨y,H2,I2,r2,q2⟩=>?_
 exact hf v u s2 x y H2 I2 r1 r2 q2
theorem dY{op:Operator}{r:R2}(ho:eQ X (binaryOp op) r)(ha:PE X a ta)(hb:PE X b tb):PE X (.BinOp a op b pos) (qr r ta tb):=by
 intro pins s σ H Q I h
 exact wpAny_BinOp (zh ha hb I h λv u s2 x y H2 I2 rx ry q=>ho pins s2 σ H2 x y v u Q I2 rx ry q)
theorem kY{op:UnaryOp}{r:V→Hp→VK→Prop}(ho:zg X (unaryOp op) r)(ha:PE X a ta):PE X (.UnaryOp op a pos) (Gh r ta):=by
 intro pins s σ H Q I h
 exact UnaryOp_ (a8 (ha pins s σ H _ I h) λv s1 ⟨x,H1,I1,r1,q1⟩=>ho pins s1 σ H1 x v Q I1 r1 q1)
theorem zi{f:Value→Value→Sem Value}{C:Int→Int→Prop}{g:Int→Int→Int}(rule:∀(i j:Int) (t u:Tok) (s:Shared) (Q:Value→Shared→Prop) (E:Value→Shared→Prop),C i j→Q (.int (g i j) s.toks) {s with toks:=s.toks+1}→wpAny (model X.prog X.w) X.A (f (.int i t) (.int j u)) Q E s):
  eQ X f (rI C λi j=>.int (g i j)):=by
 intro pins s σ H x y v u Q I rx ry h
 obtain⟨i,j,rfl,rfl,hc,q⟩:=h
 obtain⟨t,rfl⟩:=rx
 obtain⟨t',rfl⟩:=ry
 exact rule i j t t' s _ _ hc ⟨.int (g i j),H,I.tok _,⟨_,rfl⟩,q⟩
theorem Gi{f:Value→Value→Sem Value}{g:Int→Int→Int}(rule:∀(i j:Int) (t u:Tok) (s:Shared) (Q:Value→Shared→Prop) (E:Value→Shared→Prop),Q (.int (g i j) s.toks) {s with toks:=s.toks+1}→wpAny (model X.prog X.w) X.A (f (.int i t) (.int j u)) Q E s):
  eQ X f (jX λi j=>.int (g i j)):=by
 intro pins s σ H x y v u Q I rx ry h
 obtain⟨i,j,rfl,rfl,q⟩:=h
 obtain⟨t,rfl⟩:=rx
 obtain⟨t',rfl⟩:=ry
 exact rule i j t t' s _ _ ⟨.int (g i j),H,I.tok _,⟨_,rfl⟩,q⟩
theorem vX{f:Value→Value→Sem Value}{g:Int→Int→Bool}(rule:∀(i j:Int) (t u:Tok) (s:Shared) (Q:Value→Shared→Prop) (E:Value→Shared→Prop),Q (.bool (g i j)) s→wpAny (model X.prog X.w) X.A (f (.int i t) (.int j u)) Q E s):
  eQ X f (jX λi j=>.bl (g i j)):=by
 intro pins s σ H x y v u Q I rx ry h
 obtain⟨i,j,rfl,rfl,q⟩:=h
 obtain⟨t,rfl⟩:=rx
 obtain⟨t',rfl⟩:=ry
 exact rule i j t t' s _ _ ⟨.bl (g i j),H,I,rfl,q⟩
def sP(i j:Int):Prop:=(-(2^64)<i∧i<2^64)∨(-(2^64)<j∧j<2^64)
theorem sP.ok{i j:Int}(h:sP i j):IntMulOk i j:=by
 rcases h with⟨h1,h2⟩|⟨h1,h2⟩
 ·exact .of_left (intBits_le_64 h1 h2)
 ·exact .of_right (intBits_le_64 h1 h2)
theorem kZ:eQ X (binaryOp .Add) (jX λi j=>.int (i+j)):=Gi λ_ _ _ _ _ _ _ q=>add_int q
theorem oQ:eQ X (binaryOp .Sub) (jX λi j=>.int (i-j)):=Gi λ_ _ _ _ _ _ _ q=>sub_int q
theorem m4:eQ X (binaryOp .Mult) (rI sP λi j=>.int (i*j)):=zi λ_ _ _ _ _ _ _ hc q=>mul_int q hc.ok
theorem Ol:eQ X (binaryOp .Mod) (rI (λ_ j=>0<j) λi j=>.int (i%j)):=zi λi j _ _ _ _ _ hc q=>by
 have h1:(0:Int)<j:=hc
 exact mod_int' (by omega) (by rw[Int.fmod_eq_emod_of_nonneg i (by omega)];exact q)
theorem Om{f:Value→Sem Value}{g:Int→Int}(rule:∀(i:Int) (t:Tok) (s:Shared) (Q:Value→Shared→Prop) (E:Value→Shared→Prop),Q (.int (g i) s.toks) {s with toks:=s.toks+1}→wpAny (model X.prog X.w) X.A (f (.int i t)) Q E s):
  zg X f (rU λi=>.int (g i)):=by
 intro pins s σ H x v Q I rx h
 obtain⟨i,rfl,q⟩:=h
 obtain⟨t,rfl⟩:=rx
 exact rule i t s _ _ ⟨.int (g i),H,I.tok _,⟨_,rfl⟩,q⟩
theorem k_:zg X (unaryOp .USub) (rU λi=>.int (-i)):=Om λ_ _ _ _ _ q=>neg_int q
end
def Gj:V→V→Bool
 |.aJ,.aJ=>true|.aJ,.int _=>true|.int _,.aJ=>true|.aJ,.bl _=>true|.bl _,.aJ=>true|.aJ,.str _=>true|.str _,.aJ=>true
 |.int _,.int _=>true|.bl _,.bl _=>true|.str _,.str _=>true|.g9 _,.g9 _=>true
 |.int _,.str _=>true|.str _,.int _=>true|.bl _,.str _=>true|.str _,.bl _=>true
 |_,_=>false
def vY:R2:=λx y H Q=>Gj x y=true∧Q (.bl (decide (x=y))) H
def zj:R2:=λx y H Q=>Gj x y=true∧Q (.bl (!decide (x=y))) H
theorem Gk{i j:Int}:decide (V.int i=V.int j)=(i==j):=by
 rw[Bool.eq_iff_iff]
 simp
theorem Gm{i j:Bool}:decide (V.bl i=V.bl j)=(i==j):=by
 rw[Bool.eq_iff_iff]
 simp
theorem Gn{i j:Str}:decide (V.str i=V.str j)=(i==j):=by
 rw[Bool.eq_iff_iff]
 simp
theorem Gp{i j:Array UInt8}:decide (V.g9 i=V.g9 j)=(i.toList==j.toList):=by
 rw[Bool.eq_iff_iff]
 cases i
 cases j
 simp
section
variable{X:Cx}{a b c:Expr}{ta tb tc:TE}{pos:Pos}
theorem d7{pins:List (Addr×Obj)}{σ:St}{H:Hp}{s:Shared}{Q:VK}{k k':Bool}(I:Inv X pins σ H s)(q:Q (.bl k) H)(e:k=k'):EP X pins σ Q (.bool k') s:=by
 subst e
 exact⟨.bl k,H,I,rfl,q⟩
theorem bU:eQ X (compareOp .Eq) vY:=by
 intro pins s σ H x y v u Q I rx ry h
 obtain⟨hs,q⟩:=h
 cases x with
 |aJ=>
  cases rx
  cases y with
  |aJ=>cases ry;exact PySem.EqNone.eq_none_none (d7 I q (by simp))
  |bl j=>cases ry;exact PySem.EqNone.eq_none_bool (d7 I q (by simp))
  |int j=>obtain⟨t',rfl⟩:=ry;exact PySem.EqNone.eq_none_int (d7 I q (by simp))
  |str j=>obtain⟨t',rfl⟩:=ry;exact PySem.EqNone.eq_none_str (d7 I q (by simp))
  |_=>exact absurd (show false=true from hs) Bool.false_ne_true
 |bl i=>
  cases rx
  cases y with
  |aJ=>cases ry;exact PySem.EqNone.eq_bool_none (d7 I q (by simp))
  |bl j=>cases ry;exact eq_bool (d7 I q Gm)
  |str j=>obtain⟨t',rfl⟩:=ry;exact PySem.EqMixed.eq_bool_str (d7 I q (by simp))
  |_=>exact absurd (show false=true from hs) Bool.false_ne_true
 |int i=>
  obtain⟨t,rfl⟩:=rx
  cases y with
  |aJ=>cases ry;exact PySem.EqNone.eq_int_none (d7 I q (by simp))
  |int j=>obtain⟨t',rfl⟩:=ry;exact eq_int (d7 I q Gk)
  |str j=>obtain⟨t',rfl⟩:=ry;exact PySem.EqMixed.eq_int_str (d7 I q (by simp))
  |_=>exact absurd (show false=true from hs) Bool.false_ne_true
 |str i=>
  obtain⟨t,rfl⟩:=rx
  cases y with
  |aJ=>cases ry;exact PySem.EqNone.eq_str_none (d7 I q (by simp))
  |bl j=>cases ry;exact PySem.EqMixed.eq_str_bool (d7 I q (by simp))
  |int j=>obtain⟨t',rfl⟩:=ry;exact PySem.EqMixed.eq_str_int (d7 I q (by simp))
  |str j=>obtain⟨t',rfl⟩:=ry;exact eq_str (d7 I q Gn)
  |_=>exact absurd (show false=true from hs) Bool.false_ne_true
 |g9 i=>
  obtain⟨t,rfl⟩:=rx
  cases y with
  |g9 j=>obtain⟨t',rfl⟩:=ry;exact PySem.W.eq_bytes (d7 I q Gp)
  |_=>exact absurd (show false=true from hs) Bool.false_ne_true
 |_=>cases y<;>exact absurd (show false=true from hs) Bool.false_ne_true
theorem lg:eQ X (compareOp .NotEq) zj:=by
 intro pins s σ H x y v u Q I rx ry h
 obtain⟨hs,q⟩:=h
 cases x with
 |aJ=>
  cases rx
  cases y with
  |aJ=>cases ry;exact PySem.EqNone.ne_none_none (d7 I q (by simp))
  |bl j=>cases ry;exact PySem.EqNone.ne_none_bool (d7 I q (by simp))
  |int j=>obtain⟨t',rfl⟩:=ry;exact PySem.EqNone.ne_none_int (d7 I q (by simp))
  |str j=>obtain⟨t',rfl⟩:=ry;exact PySem.EqNone.ne_none_str (d7 I q (by simp))
  |_=>exact absurd (show false=true from hs) Bool.false_ne_true
 |bl i=>
  cases rx
  cases y with
  |aJ=>cases ry;exact PySem.EqNone.ne_bool_none (d7 I q (by simp))
  |bl j=>cases ry;exact ne_bool (d7 I q (congrArg not Gm))
  |str j=>obtain⟨t',rfl⟩:=ry;exact PySem.EqMixed.ne_bool_str (d7 I q (by simp))
  |_=>exact absurd (show false=true from hs) Bool.false_ne_true
 |int i=>
  obtain⟨t,rfl⟩:=rx
  cases y with
  |aJ=>cases ry;exact PySem.EqNone.ne_int_none (d7 I q (by simp))
  |int j=>obtain⟨t',rfl⟩:=ry;exact ne_int (d7 I q (congrArg not Gk))
  |str j=>obtain⟨t',rfl⟩:=ry;exact PySem.EqMixed.ne_int_str (d7 I q (by simp))
  |_=>exact absurd (show false=true from hs) Bool.false_ne_true
 |str i=>
  obtain⟨t,rfl⟩:=rx
  cases y with
  |aJ=>cases ry;exact PySem.EqNone.ne_str_none (d7 I q (by simp))
  |bl j=>cases ry;exact PySem.EqMixed.ne_str_bool (d7 I q (by simp))
  |int j=>obtain⟨t',rfl⟩:=ry;exact PySem.EqMixed.ne_str_int (d7 I q (by simp))
  |str j=>obtain⟨t',rfl⟩:=ry;exact ne_str (d7 I q (congrArg not Gn))
  |_=>exact absurd (show false=true from hs) Bool.false_ne_true
 |g9 i=>
  obtain⟨t,rfl⟩:=rx
  cases y with
  |g9 j=>obtain⟨t',rfl⟩:=ry;exact PySem.W.ne_bytes (d7 I q (congrArg not Gp))
  |_=>exact absurd (show false=true from hs) Bool.false_ne_true
 |_=>cases y<;>exact absurd (show false=true from hs) Bool.false_ne_true
theorem oR:eQ X (compareOp .Lt) (jX λi j=>.bl (decide (i<j))):=vX λ_ _ _ _ _ _ _ q=>lt_int q
theorem m5:eQ X (compareOp .LtE) (jX λi j=>.bl (decide (i≤j))):=vX λ_ _ _ _ _ _ _ q=>le_int q
theorem qt:eQ X (compareOp .Gt) (jX λi j=>.bl (decide (j<i))):=vX λ_ _ _ _ _ _ _ q=>gt_int q
theorem jY:eQ X (compareOp .GtE) (jX λi j=>.bl (decide (j≤i))):=vX λ_ _ _ _ _ _ _ q=>ge_int q
theorem vZ:eQ X (compareOp .Is) (λx y H Q=>y=.aJ∧Q (.bl (decide (x=.aJ))) H):=by
 intro pins s σ H x y v u Q I rx ry h
 obtain⟨rfl,q⟩:=h
 cases ry
 refine is_none_gen (d7 I q ?_)
 cases x<;>first
  |(cases rx;rfl)
  |(obtain⟨t,rfl⟩:=rx;rfl)
theorem aR(b:Expr){op:CmpOp}(h:op≠.In:=by decide)(h2:op≠.NotIn:=by decide):behindInMarks op b=false:=by
 have e1:(op==CmpOp.In)=false:=by cases op<;>first|rfl|exact absurd rfl h
 have e2:(op==CmpOp.NotIn)=false:=by cases op<;>first|rfl|exact absurd rfl h2
 cases b<;>simp[behindInMarks,e1,e2]
theorem jt{op:CmpOp}{r:R2}(ho:eQ X (compareOp op) r)(ha:PE X a ta)(hb:PE X b tb)(hm:behindInMarks op b=false):PE X (.Compare a [op] [b] pos) (qr r ta tb):=by
 intro pins s σ H Q I h
 exact wpAny_Compare1 (zh ha hb I h λv u s2 x y H2 I2 rx ry q=>ho pins s2 σ H2 x y v u Q I2 rx ry q) hm
def Gq(t:TE):TT:=λσ H Q=>t σ H λx U=>∃k,x=.bl k∧Q k U
theorem aW{op:CmpOp}{r:R2}(ho:eQ X (compareOp op) r)(ha:PE X a ta)(hb:PE X b tb)(hm:behindInMarks op b=false):PT X (.Compare a [op] [b] pos) (Gq (qr r ta tb)):=by
 intro pins s σ H Q I h
 refine wpAny_isTrue_Compare1 (a8 (ha pins s σ H _ I h) λv s1 ⟨x,H1,I1,r1,q1⟩=>a8 (hb pins s1 σ H1 _ I1 q1) λu s2 ⟨y,H2,I2,r2,q2⟩=>
  a8 (ho pins s2 σ H2 x y v u _ I2 r1 r2 q2) λc s3 ⟨z,H3,I3,r3,k,e,q3⟩=>?_) hm
 subst e
 cases r3
 exact wpAny_truthy_bool ⟨H3,I3,q3⟩
def Gr(r r':R2)(ta tb tc:TE):TE:=λσ H Q=>ta σ H λx H1=>tb σ H1 λy H2=>r x y H2 λz H3=>∃k,z=.bl k∧
 (if k=true then tc σ H3 λw' H4=>r' y w' H4 Q else Q (.bl false) H3)
theorem zk{op zm:CmpOp}{r r':R2}(ho:eQ X (compareOp op) r)(iK:eQ X (compareOp zm) r')(ha:PE X a ta)(hb:PE X b tb)(hc:PE X c tc)(hm:lastMarks [op,zm] [b,c]=false:=by with_unfolding_all rfl):PE X (.Compare a [op,zm] [b,c] pos) (Gr r r' ta tb tc):=by
 intro pins s σ H Q I h
 refine Compare_chain (a8 (ha pins s σ H _ I h) λv s1 ⟨x,H1,I1,r1,q1⟩=>chain_link (a8 (hb pins s1 σ H1 _ I1 q1) λu s2 ⟨y,H2,I2,r2,q2⟩=>
  a8 (ho pins s2 σ H2 x y v u _ I2 r1 r2 q2) λd s3 ⟨z,H3,I3,r3,k,e,q3⟩=>?_)) hm
 subst e
 cases r3
 refine wpAny_truthy_bool ?_
 cases k with
 |false=>exact ite_ff ⟨.bl false,H3,I3,rfl,q3⟩
 |true=>exact ite_tt (chain_last (a8 (hc pins s3 σ H3 _ I3 q3) λw' s4 ⟨z',H4,I4,r4,q4⟩=>iK pins s4 σ H4 y z' u w' Q I4 r2 r4 q4))
theorem zo:(sizeLine:Nat)<2^63:=by rw[sizeLine_eq];decide
theorem vals1{x:V}{us:List Value}(r:Vals [x] us):∃u,us=[u]∧RelV x u:=by
 cases r with
 |cons r1 r2=>cases r2;exact⟨_,rfl,r1⟩
theorem zq:oP X (.builtin "abs") (λxs H Q=>∃i,xs=[.int i]∧Q (.int (if i<0 then -i else i)) H):=by
 intro pins s σ H xs us Q I r h
 obtain⟨i,rfl,q⟩:=h
 obtain⟨u,rfl,t,rfl⟩:=vals1 r
 exact call_abs_int λu tk=>⟨.int (if i<0 then -i else i),H,I.tok _,⟨_,rfl⟩,q⟩
theorem Gs:oP X (.type "str") (λxs H Q=>∃i,xs=[.int i]∧i.natAbs.log2<1920∧Q (.str (toString i)) H):=by
 intro pins s σ H xs us Q I r h
 obtain⟨i,rfl,hz,q⟩:=h
 obtain⟨u,rfl,t,rfl⟩:=vals1 r
 exact PySem.P.str_of_int hz ⟨.str _,H,I.tok _,⟨_,rfl⟩,q⟩
theorem Gu:oP X (.builtin "ord") (λxs H Q=>∃x,xs=[.str x]∧x.length=1∧Q (.int (x.cps.getD 0 0:Nat)) H):=by
 intro pins s σ H xs us Q I r h
 obtain⟨x,rfl,hz,q⟩:=h
 obtain⟨u,rfl,t,rfl⟩:=vals1 r
 exact ord_of_one hz ⟨.int _,H,I.tok _,⟨_,rfl⟩,q⟩
end
end L2
namespace L2
open PySem PySem.Spec PyProof.Rows
structure oS(h:Heap)(x dx C:Addr)(mA:Str→Option Value):Prop where
 obj:h.get? x=some (PySem.W.instObj C dx)
 ns:h.Ns1 dx mA
 ne:dx≠x
theorem Oo{h:Heap}{dx:Addr}{mA:Str→Option Value}(n:h.Ns1 dx mA):∃od,h.get? dx=some od∧∀name,PySem.W.lookIn name od=some (mA name):=by
 obtain⟨o,es,ep,ho,hd,hk,_,hm⟩:=n
 refine⟨o,ho,λname=>?_⟩
 have e:=hm name
 unfold nsFind findBy at e
 rw[←Array.find?_toList]at e
 unfold PySem.W.lookIn
 rw[hd]
 dsimp only
 split
 ·rename_i y q
  rw[q]at e
  exact congrArg some e
 ·rename_i q
  rw[q]at e
  have a:es.toList.any (·.refKey)=false:=by
   rw[List.any_eq_false]
   intro y hy
   obtain⟨z,t,Oq⟩:=hk y (Array.mem_toList_iff.mp hy)
   simp[DictEntry.refKey,Oq]
  have a':¬es.toList.any (·.refKey)=true:=by rw[a];exact Bool.false_ne_true
  rw[if_neg a']
  exact congrArg some e
theorem oS.look{h:Heap}{x dx C:Addr}{mA:Str→Option Value}(I:oS h x dx C mA):∃od,PySem.W.InstAt h x (PySem.W.instObj C dx) C (some od)∧∀name,PySem.W.lookIn name od=some (mA name):=
 let⟨od,ho,hl⟩:=Oo I.ns
 ⟨od,⟨I.obj,rfl,rfl,ho⟩,hl⟩
section
variable{prog:Program}{w:World}{A:Around}{E:Value→Shared→Prop}{s:Shared}{K:PySem.W.Frag}{x dx C f:Addr}{mA:Str→Option Value}{name:Str}{v:Value}
theorem get_map{expr:Bool}{Q:Value→Shared→Prop}(X:K.In s.heap)(I:oS s.heap x dx C mA)(hg:PySem.W.plainGet K C name=true)(hh:PySem.W.hasDictIn K C=true)(ha:PySem.W.findIn K (.ref C) name=some none)(hv:mA name=some v)(m6:PySem.W.handedIn v=true)(h:Q v {s with toks:=s.toks+1}):
  wpAny (model prog w) A (getAttr (.ref x) name expr) Q E s:=by
 obtain⟨od,J,hl⟩:=I.look
 exact PySem.W.get_value X J (PySem.W.plainGet_of hg).1 (PySem.W.findObj_own hh ha rfl (by rw[hl,hv])) m6 h
theorem Ot{pl:Sem Bool}{Q:Value×List Value→Shared→Prop}(X:K.In s.heap)(I:oS s.heap x dx C mA)(hg:PySem.W.plainGet K C name=true)(hf:PySem.W.findIn K (.ref C) name=some (some (.ref f)))(ht:PySem.W.isFn K (.ref f)=true)(hv:mA name=none)(h:Q (.ref f,[.ref x]) s):
  wpAny (model prog w) A (getMethod (.ref x) name pl) Q E s:=by
 obtain⟨od,J,hl⟩:=I.look
 exact PySem.W.method_fn X J (PySem.W.plainGet_of hg).1 (PySem.W.plainGet_of hg).2 hf (beq_iff_eq.mp ht) (by show(PySem.W.lookIn name od).map (·.isSome)=some false;rw[hl,hv];rfl) h
theorem Ou{ns:List Str}{Q:Unit→Shared→Prop}(X:K.In s.heap)(I:oS s.heap x dx C mA)(hs:PySem.W.findIn K (.ref C) "__setattr__"=some (some (.builtin "object.__setattr__")))(hp:PySem.W.plainOver K C=true)(ht:PySem.W.takerIn K C name=some none)(hh:PySem.W.hasDictIn K C=true)(hw:PySem.Within mA ns)(hsz:ns.length≤sizeLine)(h:∀h',oS h' x dx C (λy=>if y=name then some v else mA y)→Heap.SameBut dx s.heap h'→Q () {s with heap:=h',toks:=s.toks+2}):
  wpAny (model prog w) A (setAttr (.ref x) name v) Q E s:=by
 obtain⟨od,J,hl⟩:=I.look
 refine PySem.W.set_plain X J hs (PySem.W.osa_open (s:={s with toks:=s.toks+1}) (r:=none) X J hp ht λb=>?_)
 obtain⟨cd,hc,yW⟩:=PySem.W.any_some hh
 have hx:s.heap.get? x=some ⟨.ref C,some dx,.plain,#[]⟩:=I.obj
 refine wpAny_bind (wpAny_pure (wpAny_bind (wpAny_bind (wpAny_loadPart hx (wpAny_bind (PySem.W.Looks.here (s:={s with toks:=s.toks+1}) (PySem.W.looks_clsIn X hc) ?_))))))
 rw[yW]
 refine wpAny_pure (a:=some dx) (wpAny_bind (wpAny_pure (wpAny_bind ?_)))
 refine wpAny_nsSet1 (s:={s with toks:=s.toks+1}) I.ns λh' oU oV=>?_
 obtain⟨oD,Ov,Ow,zr,zt,zu⟩:=oU.count (PySem.Within.cons name v hw)
 refine wpAny_bind (wpAny_lookBehind zr (by rw[zt];exact pastItsLine_dict (Nat.le_trans zu (by rw[List.length_cons];omega))) ?_)
 exact wpAny_pure (h _ ⟨(oV.2 _ (Ne.symm I.ne)).trans I.obj,oU,I.ne⟩ oV)
theorem Ox{R:Result→Shared→Prop}{vs:List Value}{kw:List (Str×Value)}(X:K.In s.heap)(hm:PySem.W.makesIn K C=true)(hi:PySem.W.findIn K (.ref C) "__init__"=some (some (.ref f)))(hf:PySem.W.typeIn K (.ref f)=some (.type "function"))(h:codeAny (model prog w) (A.under (.builtin "type.__call__" ⟨.ref C::vs,kw⟩)) (.call (.ref f) ⟨.ref (s.heap.objs.size+1)::vs,kw⟩) (PySem.W.InitBack (s.heap.objs.size+1) R) {s with heap:=(s.heap.push PySem.W.emptyDict).push (PySem.W.instObj C s.heap.objs.size)}):
  codeAny (model prog w) A (.call (.ref C) ⟨vs,kw⟩) R s:=by
 obtain⟨hh,g,d,t,os⟩:=s
 exact PySem.W.make_core (PySem.W.makes_of X hm) (PySem.W.looks_findIn X hi) (λself=>PySem.W.bind_fn X self hf) (.inl rfl) h
end
def d5(f:Str)(v:V):List (Str×V)→List (Str×V)
 |[]=>[(f,v)]
 |(g,x)::r=>if g=f then(g,v)::r else(g,x)::d5 f v r
theorem zw(f g:Str)(v:V):∀fs:List (Str×V),(d5 f v fs).lookup g=if g=f then some v else fs.lookup g
 |[]=>by
  show List.lookup g [(f,v)]=_
  by_cases h:g=f
  ·have hb:(g==f)=true:=beq_iff_eq.mpr h
   simp only[List.lookup,hb,if_pos h]
  ·have hb:(g==f)=false:=beq_eq_false_iff_ne.mpr h
   simp only[List.lookup,hb,if_neg h]
 |(k,x)::r=>by
  have ih:=zw f g v r
  rw[show d5 f v ((k,x)::r)=(if k=f then(k,v)::r else(k,x)::d5 f v r)from rfl]
  by_cases hk:k=f
  ·rw[if_pos hk]
   by_cases h:g=k
   ·have hb:(g==k)=true:=beq_iff_eq.mpr h
    simp only[List.lookup,hb,if_pos (h.trans hk)]
   ·have hb:(g==k)=false:=beq_eq_false_iff_ne.mpr h
    simp only[List.lookup,hb,if_neg (λe:g=f=>h (e.trans hk.symm))]
  ·rw[if_neg hk]
   by_cases h:g=k
   ·have hb:(g==k)=true:=beq_iff_eq.mpr h
    simp only[List.lookup,hb,if_neg (λe:g=f=>hk (h.symm.trans e))]
   ·have hb:(g==k)=false:=beq_eq_false_iff_ne.mpr h
    simp only[List.lookup,hb]
    exact ih
theorem sQ(f:Str)(v:V):∀fs:List (Str×V),f∈(d5 f v fs).map (·.1)∧∀g,g∈fs.map (·.1)→g∈(d5 f v fs).map (·.1)
 |[]=>⟨by simp[d5],λg h=>by simp at h⟩
 |(k,x)::r=>by
  obtain⟨i1,i2⟩:=sQ f v r
  rw[show d5 f v ((k,x)::r)=(if k=f then(k,v)::r else(k,x)::d5 f v r)from rfl]
  by_cases hk:k=f
  ·rw[if_pos hk]
   subst hk
   exact⟨by simp,λg h=>by simpa using h⟩
  ·rw[if_neg hk]
   refine⟨?_,λg h=>?_⟩
   ·rw[List.map_cons]
    exact List.mem_cons_of_mem _ i1
   ·rw[List.map_cons]at h⊢
    rcases List.mem_cons.mp h with e|e
    ·exact List.mem_cons.mpr (.inl e)
    ·exact List.mem_cons_of_mem _ (i2 g e)
theorem Gv(f:Str)(v:V):∀fs:List (Str×V),(d5 f v fs).length≤fs.length+1
 |[]=>by simp[d5]
 |(k,x)::r=>by
  have ih:=Gv f v r
  rw[show d5 f v ((k,x)::r)=(if k=f then(k,v)::r else(k,x)::d5 f v r)from rfl]
  by_cases hk:k=f
  ·rw[if_pos hk,List.length_cons,List.length_cons];omega
  ·rw[if_neg hk,List.length_cons,List.length_cons];omega
theorem i8.some_of{v:V}{o:Option Value}(r:i8 (some v) o):∃u,o=some u∧RelV v u:=by
 cases o with
 |none=>exact(show False from r).elim
 |some u=>exact⟨u,rfl,r⟩
theorem i8.none_of{o:Option Value}(r:i8 none o):o=none:=by
 cases o with
 |none=>rfl
 |some u=>exact(show False from r).elim
theorem Gw{v:V}{u:Value}(r:RelV v u):PySem.W.handedIn u=true:=by
 cases v with
 |aJ=>cases(show u=Value.none from r);rfl
 |bl b=>cases(show u=Value.bool b from r);rfl
 |int i=>obtain⟨t,e⟩:=(show∃t,u=Value.int i t from r);cases e;rfl
 |str x=>obtain⟨t,e⟩:=(show∃t,u=Value.str x t from r);cases e;rfl
 |g9 b=>obtain⟨t,e⟩:=(show∃t,u=Value.bytes b t from r);cases e;rfl
 |vE b=>obtain⟨t,e⟩:=(show∃t,u=Value.float b t from r);cases e;rfl
 |ref a=>cases(show u=Value.ref a from r);rfl
 |ty n=>cases(show u=Value.type n from r);rfl
section
variable{P:Program}{w:World}{H U:Hp}{h h':Heap}{a C dx:Addr}{fs kT:List (Str×V)}
theorem zx(aK:cu P w H h)(e:H a=some (.ins C dx fs)):∃mA,oS h a dx C mA∧(∀f,i8 (fs.lookup f) (mA f))∧PySem.Within mA (fs.map (·.1))∧fs.length≤1000∧H dx=some (.own a):=by
 obtain⟨d,z,ne,ob,mA,n,r,q⟩:=(show dI P w H h a (.ins C dx fs)from aK a _ e)
 exact⟨mA,⟨ob,n,ne⟩,r,q,z,d⟩
end
structure gc(K:PySem.W.Frag)(C:Addr):Prop where
 pg:PySem.W.plainGet K C Str.empty=true
 hd:PySem.W.hasDictIn K C=true
 po:PySem.W.plainOver K C=true
 sa:PySem.W.findIn K (.ref C) "__setattr__"=some (some (.builtin "object.__setattr__"))
theorem gc.get{K:PySem.W.Frag}{C:Addr}(c:gc K C)(f:Str):PySem.W.plainGet K C f=true:=c.pg
def iv(K:PySem.W.Frag)(C:Addr)(f:Str):Prop:=PySem.W.findIn K (.ref C) f=some none
theorem iv.Oy{K:PySem.W.Frag}{C:Addr}{f:Str}(n:iv K C f):PySem.W.takerIn K C f=some none:=by
 unfold PySem.W.takerIn
 rw[show PySem.W.findIn K (.ref C) f=some none from n]
 rfl
structure Meth(K:PySem.W.Frag)(C:Addr)(m:Str)(f:Addr):Prop where
 at_:PySem.W.findIn K (.ref C) m=some (some (.ref f))
 fn:PySem.W.isFn K (.ref f)=true
 kp:PySem.W.keepIn K (.ref f)=true
section
variable{X:Cx}{pins:List (Addr×Obj)}{σ:St}{H:Hp}{s:Shared}{a C dx:Addr}{fs:List (Str×V)}{f:Str}{v:V}{A:Around}{E:Value→Shared→Prop}
theorem Gx{b:Bool}{Q:Value→Shared→Prop}(I:Inv X pins σ H s)(e:H a=some (.ins C dx fs))(c:gc X.K C)(n:iv X.K C f)(l:fs.lookup f=some v)(h:∀u s',Inv X pins σ H s'→RelV v u→Q u s'):wpAny (model X.prog X.w) A (getAttr (.ref a) f b) Q E s:=by
 obtain⟨mA,O,r,_,_,_⟩:=zx I.aK e
 obtain⟨u,hu,ru⟩:=i8.some_of (v:=v) (o:=mA f) (by rw[←l];exact r f)
 exact get_map I.eY O (c.get f) c.hd n hu (Gw ru) (h u _ (I.tok _) ru)
theorem Gy{m:Str}{g:Addr}{pl:Sem Bool}{Q:Value×List Value→Shared→Prop}(I:Inv X pins σ H s)(e:H a=some (.ins C dx fs))(c:gc X.K C)(k:Meth X.K C m g)(l:fs.lookup m=none)(h:Q (.ref g,[.ref a]) s):wpAny (model X.prog X.w) A (getMethod (.ref a) m pl) Q E s:=by
 obtain⟨mA,O,r,_,_,_⟩:=zx I.aK e
 have hn:mA m=none:=i8.none_of (by rw[←l];exact r m)
 exact Ot I.eY O (c.get m) k.at_ k.fn hn h
theorem Gz{y:V}{u:Value}{Q:Unit→Shared→Prop}(I:Inv X pins σ H s)(e:H a=some (.ins C dx fs))(c:gc X.K C)(n:iv X.K C f)(hl:fs.length<1000)(ry:RelV y u)(h:∀s',Inv X pins σ (upd H a (.ins C dx (d5 f y fs))) s'→Q () s'):wpAny (model X.prog X.w) A (setAttr (.ref a) f u) Q E s:=by
 obtain⟨mA,O,r,wi,_,ho⟩:=zx I.aK e
 have hz:(fs.map (·.1)).length≤sizeLine:=by rw[List.length_map,sizeLine_eq];omega
 refine Ou I.eY O c.sa c.po n.Oy c.hd wi hz λh' O' sb=>h _ ?_
 have hd:∃o,h'.get? dx=some o:=let⟨o,_,_,e',_⟩:=O'.ns;⟨o,e'⟩
 refine I.write (x:=a) (e:=dx) (by rw[e];exact True.intro) (.inr ho) (λb q hb z=>(sb.2 b hb).trans z) hd ?_
 refine⟨by rw[aG O.ne];exact ho,?_,O.ne,O'.obj,_,O'.ns,λg=>?_,λg hg=>?_⟩
 ·have:=Gv f y fs;omega
 ·show i8 ((d5 f y fs).lookup g) (if g=f then some u else mA g)
  rw[zw]
  by_cases q:g=f
  ·rw[if_pos q,if_pos q];exact ry
  ·rw[if_neg q,if_neg q];exact r g
 ·by_cases q:g=f
  ·rw[q];exact(sQ f y fs).1
  ·refine(sQ f y fs).2 g (wi g λz=>hg ?_)
   show(if g=f then some u else mA g)=none
   rw[if_neg q];exact z
theorem Inv.made(I:Inv X pins σ H s):Inv X pins σ (upd (upd H s.heap.objs.size (.own (s.heap.objs.size+1))) (s.heap.objs.size+1) (.ins C s.heap.objs.size []))
  {s with heap:=(s.heap.push PySem.W.emptyDict).push (PySem.W.instObj C s.heap.objs.size)}:=by
 have e1:(s.heap.push PySem.W.emptyDict).get? s.heap.objs.size=some PySem.W.emptyDict:=Heap.get?_push_size s.heap rfl
 have e2:((s.heap.push PySem.W.emptyDict).push (PySem.W.instObj C s.heap.objs.size)).get? (s.heap.objs.size+1)=some (PySem.W.instObj C s.heap.objs.size):=by
  have:=Heap.get?_push_size (s.heap.push PySem.W.emptyDict) (o:=PySem.W.instObj C s.heap.objs.size) rfl
  rwa [Heap.size_push]at this
 have e3:(s.heap.push PySem.W.emptyDict).Ns s.heap.objs.size (λ_=>none):=⟨PySem.W.emptyDict,#[],_,e1,rfl,(λe he=>absurd he (by simp)),λ_=>rfl⟩
 have I1:=I.laid (a:=s.heap.objs.size) (o:=.own (s.heap.objs.size+1)) (h':=s.heap.push PySem.W.emptyDict) (t':=s.toks) (λb u q=>Heap.get?_push_of_some _ q) (Nat.le_refl _) ⟨_,e1⟩
 refine I1.laid (a:=s.heap.objs.size+1) (o:=.ins C s.heap.objs.size []) (t':=s.toks) (λb u q=>Heap.get?_push_of_some _ q) (Nat.le_of_eq (Heap.size_push _ _)) ?_
 have ne:s.heap.objs.size≠s.heap.objs.size+1:=Nat.ne_of_lt (Nat.lt_succ_self _)
 refine⟨by rw[aG ne,aw],Nat.zero_le _,ne,e2,λ_=>none,(Heap.Ns1.of_empty e3).at λo q=>Heap.get?_push_of_some _ q,λ_=>True.intro,λy hy=>absurd rfl hy⟩
theorem GB{prog:Program}{w:World}{env:Env}{e:Expr}{f:Str}{pos:Pos}{s:Shared}{Q:Value→Shared→Prop}(hb:attributeBase e f env (eval e env)=eval e env)(h:wpAny (model prog w) A (eval e env) (λo cb=>wpAny (model prog w) A (getAttr o f true) Q E cb) E s):wpAny (model prog w) A (eval (.Attribute e f pos) env) Q E s:=
 Attribute_any_ h (by rw[arm_eval_Attribute,hb])
end
def zy(K:PySem.W.Frag)(ta:TE)(f:Str):TE:=λσ H Q=>ta σ H λx H1=>∃a C dx fs v,x=.ref a∧H1 a=some (.ins C dx fs)∧gc K C∧iv K C f∧fs.lookup f=some v∧Q v H1
def v8(K:PySem.W.Frag)(ta tv:TE)(f:Str):TS:=λD σ H=>tv σ H λy H1=>ta σ H1 λx H2=>∃a C dx fs,x=.ref a∧H2 a=some (.ins C dx fs)∧gc K C∧iv K C f∧fs.length<1000∧
 D.nx σ (upd H2 a (.ins C dx (d5 f y fs)))
def GC(X:Cx)(op:Operator)(rd:V→V→Hp→VK→Prop):Prop:=
 ∀(pins:List (Addr×Obj)) (s:Shared) (σ:St) (H:Hp) (x y:V) (u v:Value) (Q:VK),Inv X pins σ H s→RelV x u→RelV y v→rd x y H Q→wpAny (model X.prog X.w) X.A (inplaceOp op u v) (EP X pins σ Q) X.xe s
def GD(K:PySem.W.Frag)(ta tv:TE)(rd:V→V→Hp→VK→Prop)(f:Str):TS:=λD σ H=>ta σ H λx H1=>∃a C dx fs v,x=.ref a∧H1 a=some (.ins C dx fs)∧gc K C∧iv K C f∧fs.lookup f=some v∧
 tv σ H1 λy H2=>rd v y H2 λz H3=>∃bQ kT,H3 a=some (.ins C bQ kT)∧kT.length<1000∧D.nx σ (upd H3 a (.ins C bQ (d5 f z kT)))
section
variable{X:Cx}{o e value:Expr}{f:Str}{pos pos' gf:Pos}{ta tv:TE}
theorem aB(he:PE X e ta)(hb:attributeBase e f X.env (eval e X.env)=eval e X.env):PE X (.Attribute e f pos) (zy X.K ta f):=by
 intro pins s σ H Q I h
 refine GB hb (a8 (he pins s σ H _ I h) λu s1 ⟨x,H1,I1,rx,a,C,dx,fs,v,ex,ea,c,n,l,q⟩=>?_)
 subst ex
 obtain rfl:u=Value.ref a:=rx
 exact Gx I1 ea c n l λu' s2 I2 ru=>⟨v,H1,I2,ru,q⟩
theorem bI(ha:PE X o ta)(hv:PE X value tv)(hs:swapsWith value (some (.Attribute o f pos')) pos.line X.env=pure false):PS X (.Assign [.Attribute o f pos'] value pos) (v8 X.K ta tv f):=by
 intro pins s σ H D I h
 refine plainObj_wpAny_Assign_Attribute (a8 (hv pins s σ H _ I h) λu s1 ⟨y,H1,I1,ry,q⟩=>a8 (ha pins s1 σ H1 _ I1 q) λov s2 ⟨x,H2,I2,rx,a,C,dx,fs,ex,ea,c,n,l,q2⟩=>?_) hs
 subst ex
 obtain rfl:ov=Value.ref a:=rx
 exact Gz I2 ea c n l ry λs3 I3=>⟨σ,_,I3,q2⟩
theorem GG{op:Operator}{rd:V→V→Hp→VK→Prop}(ha:PE X o ta)(hv:PE X value tv)(Oz:GC X op rd):PS X (.AugAssign (.Attribute o f gf) op value pos) (GD X.K ta tv rd f):=by
 intro pins s σ H D I h
 refine wpAny_AugAssign_AttributeAny (a8 (ha pins s σ H _ I h) λov s1 ⟨x,H1,I1,rx,a,C,dx,fs,v,ex,ea,c,n,l,q⟩=>?_)
 subst ex
 obtain rfl:ov=Value.ref a:=rx
 refine Gx I1 ea c n l λu s2 I2 ru=>a8 (hv pins s2 σ H1 _ I2 q) λw3 s3 ⟨y,H2,I3,ry,q3⟩=>a8 (Oz pins s3 σ H2 v y u w3 _ I3 ru ry q3) λw4 s4 ⟨z,H3,I4,rz,bQ,kT,OA,l',q4⟩=>?_
 exact Gz I4 OA c n l' rz λs5 I5=>⟨σ,_,I5,q4⟩
def OB:V→V→Hp→VK→Prop:=λx y H Q=>∃i j,x=.int i∧y=.int j∧Q (.int (i+j)) H
theorem GH:GC X .Add OB:=by
 rintro pins s σ H x y u v Q I rx ry ⟨i,j,rfl,rfl,q⟩
 obtain⟨t,rfl⟩:=(show∃t,u=Value.int i t from rx)
 obtain⟨t',rfl⟩:=(show∃t',v=Value.int j t' from ry)
 exact PyProof.Rows.iadd_int ⟨.int (i+j),H,I.tok _,⟨_,rfl⟩,q⟩
end
section
variable{X:Cx}{pins:List (Addr×Obj)}{σ:St}{H:Hp}{s:Shared}{A:Around}{E:Value→Shared→Prop}{Q:Value→Shared→Prop}{c:Value}{b:Bool}
end
end L2
namespace L2
open PySem PySem.Spec PyProof.Rows
structure dJ(k:Nat)(A:Around):Prop where
 hd:A.handled=none
 dp:A.depth+3*k+5<recursionLimit
 un:A.units+16*k+200<cLine
theorem dJ.mono{j k:Nat}{A:Around}(r:dJ k A)(h:j≤k):dJ j A:=⟨r.hd,by have:=r.dp;omega,by have:=r.un;omega⟩
theorem dJ.deeper{k:Nat}{A:Around}(r:dJ (k+1) A)(env:Env):dJ k (A.deeper env):=
 ⟨r.hd,by have:=r.dp;show A.depth+1+3*k+5<_;omega,by have:=r.un;show A.units+3+16*k+200<_;omega⟩
theorem OC{A:Around}{C:Addr}{us:List Value}{kw:List (Str×Value)}:(A.under (.builtin "type.__call__" ⟨.ref C::us,kw⟩)).depth=A.depth+1:=by
 first|rfl|simp[Around.under,Code.weight,Code.isCreation,Code.isGuard,Code.isCaller,Code.frames,Code.isFrame,guardIds]
theorem OD{A:Around}{C:Addr}{us:List Value}{kw:List (Str×Value)}:(A.under (.builtin "type.__call__" ⟨.ref C::us,kw⟩)).units=A.units+1:=by
 first|rfl|simp[Around.under,Code.cUnits,Code.frames,Code.isFrame]
theorem dJ.make{k:Nat}{A:Around}(r:dJ (k+1) A)(C:Addr)(us:List Value)(kw:List (Str×Value)):dJ k (A.under (.builtin "type.__call__" ⟨.ref C::us,kw⟩)):=
 ⟨r.hd,by have:=r.dp;rw[OC];omega,by have:=r.un;rw[OD];omega⟩
theorem dJ.depth{k:Nat}{A:Around}(r:dJ k A):A.depth<recursionLimit:=by have:=r.dp;omega
theorem dJ.units{k:Nat}{A:Around}(r:dJ k A):A.units+64<cLine:=by have:=r.un;omega
def oW:TA:=λ_ H Q=>Q [] H
def oX(ta:TE)(tr:TA):TA:=λσ H Q=>ta σ H λx H1=>tr σ H1 λxs H2=>Q (x::xs) H2
section
variable{X:Cx}{e:Expr}{es:List Expr}{te:TE}{t:TA}{pos:Pos}
theorem ae:PA X [] oW:=λ_ _ _ _ H Q I h=>Calls.spliced_nil ⟨[],H,I,.nil,h⟩
theorem aa(ha:PE X e te)(hr:PA X es t)(hs:starEach (e::es) X.env=(false,eval e X.env)::starEach es X.env:=by rfl):PA X (e::es) (oX te t):=by
 intro pos pins s σ H Q I h
 rw[hs]
 show wpAny _ _ (spliced ((false,eval e X.env)::backTo pos (starEach es X.env))) _ _ s
 refine Calls.spliced_cons (a8 (ha pins s σ H _ I h) λu s1 ⟨x,H1,I1,r1,q1⟩=>?_)
 exact a8 (hr pos pins s1 σ H1 _ I1 q1) λus s2 ⟨xs,H2,I2,r2,q2⟩=>⟨x::xs,H2,I2,.cons r1 r2,q2⟩
def GI(t:TA):TE:=λσ H Q=>t σ H λxs H1=>xs.length≤sizeLine∧∀p,H1 p=none→Q (.ref p) (upd H1 p (.tup xs))
def GJ(t:TA):TE:=λσ H Q=>t σ H λxs H1=>xs.length≤sizeLine∧∀p,H1 p=none→Q (.ref p) (upd H1 p (.lst xs))
theorem gR{x1}(h:PA X es t):PE X (.Tuple es x1 pos) (GI t):=by
 intro pins s σ H Q I hq
 refine wpAny_Tuple_spliced (a8 (h pos pins s σ H _ I hq) λus s1 ⟨xs,H1,I1,r,z,q⟩=>⟨by rw[←r.length];exact z,?_⟩)
 have hf:H1 s1.heap.objs.size=none:=I1.aK.fresh (Nat.le_refl _)
 refine⟨.ref s1.heap.objs.size,upd H1 s1.heap.objs.size (.tup xs),I1.laid (t':=s1.toks) (λb u e=>Heap.get?_push_of_some _ e) (Nat.le_refl _) ?_,rfl,q _ hf⟩
 exact⟨z,us,r,⟨_,Heap.get?_push_size _ rfl,rfl,_,rfl⟩⟩
theorem bK(h:PA X es t):PE X (.List es pos) (GJ t):=by
 intro pins s σ H Q I hq
 refine wpAny_List_spliced (a8 (h pos pins s σ H _ I hq) λus s1 ⟨xs,H1,I1,r,z,q⟩=>⟨by rw[←r.length];exact z,?_⟩)
 have hf:H1 s1.heap.objs.size=none:=I1.aK.fresh (Nat.le_refl _)
 refine⟨.ref s1.heap.objs.size,upd H1 s1.heap.objs.size (.lst xs),I1.laid (t':=s1.toks) (λb u e=>Heap.get?_push_of_some _ e) (Nat.le_refl _) ?_,rfl,q _ hf⟩
 exact⟨z,us,0,r,Heap.get?_push_size _ rfl⟩
end
abbrev Sp:=List V→Hp→VK→XK→Prop
abbrev gS:=List Env→Hp→Shared→XK→Value→Shared→Prop
structure oY(P:Program)(w:World)(K:PySem.W.Frag)(mg:Str→Option Value)(base:Heap)(A:Around)(outer:List Env)(s:Shared)(H:Hp):Prop where
 frames:A.frames=some outer
 mod:Mod K mg base
 bs:∀b o,base.get? b=some o→s.heap.get? b=some o∧H b=none
 jR:base.objs.size≤s.heap.objs.size
 ir:s.heap.FunFrames base outer
 lP:∀b∈hJ outer,H b=none
 aK:cu P w H s.heap
 bare:AllBare s.gens
def CE(outer:List Env)(P:Program)(w:World)(H:Hp)(s:Shared)(Q:VK)(u:Value)(s':Shared):Prop:=
 ∃v U,s'.os=s.os∧AllBare s'.gens∧Un (hJ outer) [] H U s.heap s'.heap∧cu P w U s'.heap∧RelV v u∧Q v U
def CR(CX:gS)(outer:List Env)(P:Program)(w:World)(H:Hp)(s:Shared)(Q:VK)(E:XK)(r:Result)(s':Shared):Prop:=
 match r with
 |.ok (.ret u)=>CE outer P w H s Q u s'
 |.ok _=>False
 |.error e=>CX outer H s E e s'
structure fH(P:Program)(w:World)(K:PySem.W.Frag)(mg:Str→Option Value)(base:Heap)(CX:gS)(k:Nat)(f:Addr)(fd:FuncData)(ps:List Str)(sp:Sp):Prop where
 len:∀vs H Q E,sp vs H Q E→vs.length=ps.length
 run:∀(A:Around) (outer:List Env) (s:Shared) (H:Hp) (args:Args) (us:List Value) (vs:List V) (Q:VK) (E:XK),dJ k A→oY P w K mg base A outer s H→BindsTo s fd args (ps.zip us)→Vals vs us→sp vs H Q E→
  codeAny (model P w) A (.call (.ref f) args) (CR CX outer P w H s Q E) s
theorem oY.make{P:Program}{w:World}{K:PySem.W.Frag}{mg:Str→Option Value}{base:Heap}{A:Around}{outer:List Env}{s:Shared}{H:Hp}(e:oY P w K mg base A outer s H)(C:Addr)(us:List Value)(kw:List (Str×Value)):
  oY P w K mg base (A.under (.builtin "type.__call__" ⟨.ref C::us,kw⟩)) outer s H:=⟨by first|exact e.frames|(simpa[Around.under,Code.envs,Code.isFrame,pushEnvs]using e.frames),e.mod,e.bs,e.jR,e.ir,e.lP,e.aK,e.bare⟩
section
variable{X:Cx}{pins:List (Addr×Obj)}{σ:St}{H:Hp}{s s':Shared}
theorem Inv.zA(I:Inv X pins σ H s):oY X.prog X.w X.K X.mg X.base X.A X.stack s H:=
 ⟨I.ok.frames,I.ok.mod,I.bs,Nat.le_trans I.ok.jR I.sz,I.stack,I.yX,I.aK,I.bare⟩
theorem Inv.after{Q:VK}{u:Value}(I:Inv X pins σ H s)(h:CE X.stack X.prog X.w H s Q u s'):EP X pins σ Q u s':=by
 obtain⟨v,U,os,bare,un,aK,r,q⟩:=h
 obtain⟨hh,g,d,t,OE⟩:=s'
 obtain rfl:OE=s.os:=os
 exact⟨v,U,I.call (h':=hh) (g':=g) (d':=d) (t':=t) (ch:=[]) un aK bare (λb z=>absurd z (by simp)),r,q⟩
end
def zB(sp:Sp)(fe:List V)(E:XK)(t:TA):TE:=λσ H Q=>t σ H λvs H1=>sp (vs++fe) H1 Q E
def sR(C:Addr)(m:Str)(sp:Sp)(fe:List V)(E:XK)(ta:TE)(t:TA):TE:=λσ H Q=>ta σ H λx H1=>∃a dx fs,x=.ref a∧H1 a=some (.ins C dx fs)∧fs.lookup m=none∧
 t σ H1 λvs H2=>sp (x::(vs++fe)) H2 Q E
def qu(C:Addr)(sp:Sp)(fe:List V)(E:XK)(t:TA):TE:=λσ H Q=>t σ H λvs H1=>∀x dx,H1 x=none→H1 dx=none→dx≠x→
 sp (.ref x::(vs++fe)) (upd (upd H1 dx (.own x)) x (.ins C dx [])) (λv H2=>v=.aJ∧Q (.ref x) H2) E
def Binds(K:PySem.W.Frag)(fd:FuncData)(ps:List Str)(ds:List Value):Prop:=
 ∀(s:Shared) (us:List Value),K.In s.heap→(us++ds).length=ps.length→BindsTo s fd ⟨us,[]⟩ (ps.zip (us++ds))
theorem Binds.all{K:PySem.W.Frag}{fd:FuncData}{ps:List Str}(h:∀us:List Value,us.length=ps.length→bindArgs fd ⟨us,[]⟩=pure (ps.zip us)):Binds K fd ps []:=λs us _ hl=>by
 rw[List.append_nil]at hl⊢
 exact .of_eq (h us hl)
def Passes(CX:gS)(X:Cx)(E:XK):Prop:=∀(pins:List (Addr×Obj)) (σ:St) (H:Hp) (s:Shared) (e:Value) (s':Shared),Inv X pins σ H s→CX X.stack H s E e s'→X.xe e s'
section
variable{X:Cx}{CX:gS}{k:Nat}{f C:Addr}{fd:FuncData}{ps:List Str}{sp:Sp}{fe:List V}{ds:List Value}{E:XK}{x m:Str}{p pos apos:Pos}{e o:Expr}{es:List Expr}{ta:TE}{t:TA}
theorem zC{pins:List (Addr×Obj)}{σ:St}{H:Hp}{s:Shared}{Q:VK}{us:List Value}{vs:List V}(F:fH X.prog X.w X.K X.mg X.base CX k f fd ps sp)(hr:dJ k X.A)(hb:Binds X.K fd ps ds)(hd:Vals fe ds)(hx:Passes CX X E)(I:Inv X pins σ H s)(r:Vals vs us)(h:sp (vs++fe) H Q E):wpAny (model X.prog X.w) X.A (call (.ref f) us) (EP X pins σ Q) X.xe s:=by
 have r2:Vals (vs++fe) (us++ds):=r.append hd
 have hl:(us++ds).length=ps.length:=by rw[←r2.length];exact F.len _ _ _ _ h
 refine wpAny_call (codeAny_mono (F.run X.A X.stack s H ⟨us,[]⟩ (us++ds) (vs++fe) Q E hr I.zA (hb s us I.eY hl) r2 h) λr s' hq=>?_)
 cases r with
 |error e=>exact hx pins σ H s e s' I hq
 |ok fl=>
  cases fl with
  |ret u=>exact I.after hq
  |next=>exact False.elim hq
  |brk=>exact False.elim hq
  |cont=>exact False.elim hq
theorem OF(F:fH X.prog X.w X.K X.mg X.base CX k f fd ps sp)(hr:dJ k X.A)(hg:Gl X x)(hm:X.mg x=some (.ref f))(hk:PySem.W.keepIn X.K (.ref f)=true)(hb:Binds X.K fd ps ds)(hd:Vals fe ds)(hx:Passes CX X E)(ha:PA X (e::es) t)(fJ:(x==("__debug__":Str))=false:=by decide)(he:starEach (e::es) X.env=(false,eval e X.env)::starEach es X.env:=by rfl)(eG:(backTo pos (starEach es X.env)).any (·.1)=false:=by rfl):
  PE X (.Call (.Name x p) (e::es) [] pos) (zB sp fe E t):=by
 intro pins s σ H Q I h
 refine wpAny_Call_Name_kw (qk I hg hm ?_ fJ)
 refine PySem.W.callWith_K (h₀:=X.base) I.ok.mod.qd hk (a8 (ha pos pins s σ H _ I h) λus s1 ⟨vs,H1,I1,r,q⟩=>⟨I1.eY,?_⟩) he eG
 exact zC F hr hb hd hx I1 r q
theorem OG{pl:Sem Bool}(he:PE X o ta)(c:gc X.K C)(hm:Meth X.K C m f)(F:fH X.prog X.w X.K X.mg X.base CX k f fd ps sp)(hr:dJ k X.A)(hb:Binds X.K fd ps ds)(hd:Vals fe ds)(hx:Passes CX X E)(ha:PA X (e::es) t)(fG:starEach (e::es) X.env=(false,eval e X.env)::starEach es X.env:=by rfl)(eG:(backTo pos (starEach es X.env)).any (·.1)=false:=by rfl)(ht:eval (.Call (.Attribute o m apos) (e::es) [] pos) X.env=(do let ov ←eval o X.env;standAt apos.atName;let (f,first) ←holding [ov] (getMethod ov m pl);callWith pos f first (backTo pos (starEach (e::es) X.env)) (backToKw pos (keywordEach [] X.env))):=by rfl):
  PE X (.Call (.Attribute o m apos) (e::es) [] pos) (sR C m sp fe E ta t):=by
 intro pins s σ H Q I h
 refine PySem.W.methodCall_KW (pl:=pl) (a8 (he pins s σ H _ I h) λu s1 ⟨x,H1,I1,rx,a,dx,fs,ex,ea,l,q⟩=>?_) ht
 subst ex
 obtain rfl:u=Value.ref a:=rx
 refine Gy I1 ea c hm l ?_
 refine PySem.W.callWith_K (first:=[.ref a]) (h₀:=X.base) I.ok.mod.qd hm.kp (a8 (ha pos pins s1 σ H1 _ I1 q) λus s2 ⟨vs,H2,I2,r,q2⟩=>⟨I2.eY,?_⟩) fG eG
 exact zC (us:=.ref a::us) (vs:=.ref a::vs) F hr hb hd hx I2 (.cons rfl r) q2
theorem OH{pl:Sem Bool}(he:PE X o ta)(c:gc X.K C)(hm:Meth X.K C m f)(F:fH X.prog X.w X.K X.mg X.base CX k f fd ps sp)(hr:dJ k X.A)(hb:Binds X.K fd ps ds)(hd:Vals fe ds)(hx:Passes CX X E)(ht:eval (.Call (.Attribute o m apos) [] [] pos) X.env=(do let ov ←eval o X.env;standAt apos.atName;let (f,first) ←holding [ov] (getMethod ov m pl);callWith pos f first (backTo pos (starEach [] X.env)) (backToKw pos (keywordEach [] X.env))):=by rfl):
  PE X (.Call (.Attribute o m apos) [] [] pos) (sR C m sp fe E ta oW):=by
 intro pins s σ H Q I h
 refine PySem.W.methodCall_KW (pl:=pl) (a8 (he pins s σ H _ I h) λu s1 ⟨x,H1,I1,rx,a,dx,fs,ex,ea,l,q⟩=>?_) ht
 subst ex
 obtain rfl:u=Value.ref a:=rx
 refine Gy I1 ea c hm l ?_
 exact PySem.W.callWith_K0 (first:=[.ref a]) I1.eY hm.kp (zC (us:=[.ref a]) (vs:=[.ref a]) F hr hb hd hx I1 (.cons rfl .nil) q)
structure Mk(K:PySem.W.Frag)(C f:Addr):Prop where
 makes:PySem.W.makesIn K C=true
 init:PySem.W.findIn K (.ref C) "__init__"=some (some (.ref f))
 fn:PySem.W.isFn K (.ref f)=true
 kp:PySem.W.keepIn K (.ref C)=true
theorem GK{pins:List (Addr×Obj)}{σ:St}{H:Hp}{s:Shared}{Q:VK}{us:List Value}{vs:List V}(M:Mk X.K C f)(F:fH X.prog X.w X.K X.mg X.base CX k f fd ps sp)(hr:dJ (k+1) X.A)(hb:Binds X.K fd ps ds)(hd:Vals fe ds)(hx:Passes CX X E)(I:Inv X pins σ H s)(r:Vals vs us)(h:∀x dx,H x=none→H dx=none→dx≠x→sp (.ref x::(vs++fe)) (upd (upd H dx (.own x)) x (.ins C dx [])) (λv H2=>v=.aJ∧Q (.ref x) H2) E):
  wpAny (model X.prog X.w) X.A (call (.ref C) us) (EP X pins σ Q) X.xe s:=by
 have hq:=h (s.heap.objs.size+1) s.heap.objs.size (I.aK.fresh (Nat.le_succ _)) (I.aK.fresh (Nat.le_refl _)) (Nat.ne_of_lt (Nat.lt_succ_self _))
 have I2:=Inv.made (C:=C) I
 have r2:Vals (V.ref (s.heap.objs.size+1)::(vs++fe)) (Value.ref (s.heap.objs.size+1)::(us++ds)):=.cons rfl (r.append hd)
 have hl:(Value.ref (s.heap.objs.size+1)::us++ds).length=ps.length:=by
  have e:=r2.length
  rw[F.len _ _ _ _ hq]at e
  exact e.symm
 refine wpAny_call (Ox (f:=f) I.eY M.makes M.init (beq_iff_eq.mp M.fn) (codeAny_mono (F.run _ X.stack _ _ ⟨Value.ref (s.heap.objs.size+1)::us,[]⟩ (Value.ref (s.heap.objs.size+1)::(us++ds)) _ _ E (hr.make C us [])
  (I2.zA.make C us []) (hb _ (Value.ref (s.heap.objs.size+1)::us) I2.eY hl) r2 hq) λr s' iM=>?_))
 cases r with
 |error e=>exact hx pins σ _ _ e s' I2 iM
 |ok fl=>
  cases fl with
  |ret u=>
   obtain⟨v,U,I3,rv,ev,q3⟩:=I2.after iM
   subst ev
   exact⟨rv,⟨V.ref (s.heap.objs.size+1),U,I3,rfl,q3⟩⟩
  |next=>exact False.elim iM
  |brk=>exact False.elim iM
  |cont=>exact False.elim iM
theorem OI(M:Mk X.K C f)(F:fH X.prog X.w X.K X.mg X.base CX k f fd ps sp)(hr:dJ (k+1) X.A)(hg:Gl X x)(hm:X.mg x=some (.ref C))(hb:Binds X.K fd ps ds)(hd:Vals fe ds)(hx:Passes CX X E)(ha:PA X (e::es) t)(fJ:(x==("__debug__":Str))=false:=by decide)(he:starEach (e::es) X.env=(false,eval e X.env)::starEach es X.env:=by rfl)(eG:(backTo pos (starEach es X.env)).any (·.1)=false:=by rfl):
  PE X (.Call (.Name x p) (e::es) [] pos) (qu C sp fe E t):=by
 intro pins s σ H Q I h
 refine wpAny_Call_Name_kw (qk I hg hm ?_ fJ)
 refine PySem.W.callWith_K (h₀:=X.base) I.ok.mod.qd M.kp (a8 (ha pos pins s σ H _ I h) λus s1 ⟨vs,H1,I1,r,q⟩=>⟨I1.eY,?_⟩) he eG
 exact GK M F hr hb hd hx I1 r q
theorem OJ(M:Mk X.K C f)(F:fH X.prog X.w X.K X.mg X.base CX k f fd ps sp)(hr:dJ (k+1) X.A)(hg:Gl X x)(hm:X.mg x=some (.ref C))(hb:Binds X.K fd ps ds)(hd:Vals fe ds)(hx:Passes CX X E)(fJ:(x==("__debug__":Str))=false:=by decide):PE X (.Call (.Name x p) [] [] pos) (qu C sp fe E oW):=by
 intro pins s σ H Q I h
 refine wpAny_Call_Name_kw (qk I hg hm ?_ fJ)
 exact PySem.W.callWith_K0 I.eY M.kp (GK (us:=[]) M F hr hb hd hx I .nil h)
end
section
variable{X:Cx}{CX:gS}{k:Nat}{f C:Addr}{fd:FuncData}{ps ks:List Str}{sp:Sp}{E:XK}{x m:Str}{p pos apos acQ:Pos}{e o:Expr}{es:List Expr}{kws:List Keyword}{te ta:TE}{t tk:TA}{nm:Option Str}
variable{g:List Value→List Value→List Value}{gV:List V→List V→List V}
end
structure aN(N P:List Str)(sc:Scope):Prop where
 kind:sc.kind=.function
 co:sc.isCoroutine=false
 gen:sc.isGenerator=false
 nd:N.Nodup
 pre:N.take P.length=P
 par:∀x∈P,sc.names.lookup x=some .local∨sc.names.lookup x=some .cell
 OK:∀y∈sc.names,y.2≠.free
theorem GL{kindOf:Str→Option NameKind}{x:Str}:∀{binds:List (Str×Value)} {m:Str→Option Value},(∀v,(x,v)∉binds)→bindL kindOf binds m x=m x
 |[],_,_=>rfl
 |(n,v)::r,m,h=>by
  unfold bindL
  rw[GL λw hw=>h w (List.mem_cons_of_mem _ hw)]
  split
  ·have:x≠n:=by rintro rfl;exact h v List.mem_cons_self
   simp[this]
  ·rfl
theorem GN{kindOf:Str→Option NameKind}{x:Str}:∀{binds:List (Str×Value)} {m:Str→Option Value},(∀v,(x,v)∉binds)→bindC kindOf binds m x=m x
 |[],_,_=>rfl
 |(n,v)::r,m,h=>by
  unfold bindC
  rw[GN λw hw=>h w (List.mem_cons_of_mem _ hw)]
  split
  ·rfl
  ·have:x≠n:=by rintro rfl;exact h v List.mem_cons_self
   simp[this]
theorem GO{kindOf:Str→Option NameKind}{x:Str}{v:Value}:∀{P:List Str} {vs:List Value} {i:Nat} {m:Str→Option Value},P.Nodup→P[i]?=some x→vs[i]?=some v→kindOf x=some .local→
  bindL kindOf (P.zip vs) m x=some v
 |[],_,_,_,_,h,_,_=>by simp at h
 |_::_,[],_,_,_,_,h,_=>by simp at h
 |p::P,w::vs,0,m,nd,h1,h2,hk=>by
  simp at h1 h2;subst h1;subst h2
  show bindL kindOf ((p,w)::P.zip vs) m p=_
  unfold bindL
  rw[GL λv hv=>(List.nodup_cons.mp nd).1 (List.of_mem_zip hv).1,if_pos hk]
  simp
 |p::P,w::vs,i+1,m,nd,h1,h2,hk=>by
  show bindL kindOf ((p,w)::P.zip vs) m x=_
  unfold bindL
  exact GO (i:=i) (List.nodup_cons.mp nd).2 (by simpa using h1) (by simpa using h2) hk
theorem GP{kindOf:Str→Option NameKind}{x:Str}{v:Value}:∀{P:List Str} {vs:List Value} {i:Nat} {m:Str→Option Value},P.Nodup→P[i]?=some x→vs[i]?=some v→kindOf x≠some .local→
  bindC kindOf (P.zip vs) m x=some v
 |[],_,_,_,_,h,_,_=>by simp at h
 |_::_,[],_,_,_,_,h,_=>by simp at h
 |p::P,w::vs,0,m,nd,h1,h2,hk=>by
  simp at h1 h2;subst h1;subst h2
  show bindC kindOf ((p,w)::P.zip vs) m p=_
  unfold bindC
  rw[GN λv hv=>(List.nodup_cons.mp nd).1 (List.of_mem_zip hv).1,if_neg hk]
  simp
 |p::P,w::vs,i+1,m,nd,h1,h2,hk=>by
  show bindC kindOf ((p,w)::P.zip vs) m x=_
  unfold bindC
  exact GP (i:=i) (List.nodup_cons.mp nd).2 (by simpa using h1) (by simpa using h2) hk
def start(N:List Str)(vs:List V):St:=vs.map some++List.replicate (N.length-vs.length) none
def jZ(CX:gS)(P:Program)(w:World)(K:PySem.W.Frag)(mg:Str→Option Value)(base:Heap)(N:List Str)(qual:Str)(scope:Scope)(f:Addr)(cd:Value)(A:Around)(outer:List Env)(s:Shared)(H:Hp)(E:XK):Cx where
 prog:=P
 w:=w
 K:=K
 mg:=mg
 base:=base
 A:=A.deeper (envOfC qual scope s.heap.objs.size f cd)
 N:=N
 d4:=s
 H_0:=H
 env:=envOfC qual scope s.heap.objs.size f cd
 outer:=outer
 stack:=envOfC qual scope s.heap.objs.size f cd::outer
 ex:=[]
 calm:=true
 fn:=λ_=>true
 pn:=[]
 xe:=λe s'=>wpAny (model P w) (A.deeper (envOfC qual scope s.heap.objs.size f cd)) (leaving (envOfC qual scope s.heap.objs.size f cd) e) (λ_ zD=>CX outer H s E e zD) (λe' zD=>CX outer H s E e' zD) s'
theorem GQ{sc:Scope}{n:Nat}{x:Str}(h:sc.names.lookup x=some .cell):∃c,(cellsFrom n sc.names []).lookup x=some c:=by
 have q:=PySem.W.cellsFrom_some sc.names n [] (.inl h)
 exact Option.isSome_iff_exists.mp q
theorem OL{CX:gS}{P:Program}{w:World}{K:PySem.W.Frag}{mg:Str→Option Value}{base:Heap}{N ps:List Str}{qual:Str}{scope:Scope}{f:Addr}{cd:Value}{A:Around}{outer:List Env}{s s1:Shared}{H:Hp}{E:XK}{us:List Value}{vs:List V}(S:aN N ps scope)(hd:A.handled=none)(e0:oY P w K mg base A outer s H)(hl:vs.length=ps.length)(r:Vals vs us)(x:InCallC s s.heap.objs.size (bindL (envOfC qual scope s.heap.objs.size f cd).kindOf (ps.zip us) λ_=>none) (cellsFrom (s.heap.objs.size+1) scope.names []) (bindC (envOfC qual scope s.heap.objs.size f cd).kindOf (ps.zip us) λ_=>none) s1):
  Inv (jZ CX P w K mg base N qual scope f cd A outer s H E) [] (start N vs) H s1:=by
 have eG:ps.length≤N.length:=by have:=congrArg List.length S.pre;rw[List.length_take]at this;omega
 obtain⟨h1,tk,rfl,hk⟩:=x.done
 have qw:∀b:Addr,b∉(jZ CX P w K mg base N qual scope f cd A outer s H E).ex:=λb z=>absurd (show b∈([]:List Addr)from z) (by simp)
 refine⟨⟨e0.mod,S.kind,rfl,rfl,Nat.le_refl _,λy z c h1 h2=>?_,λy hy=>?_,λy c _ h=>?_,λ_=>hd,Around.frames_deeper e0.frames,.inr ⟨rfl,rfl⟩,λb z=>absurd z (qw b),e0.bs,e0.jR,λb _ _=>qw b,λb z=>absurd z (qw b),e0.ir,e0.lP⟩,
  rfl,e0.bare,Un.kept hk,⟨_,x.toInCall.ns,λi y v h1 h2 h3=>?_⟩,λy c h=>⟨_,x.cell y c h⟩,e0.aK.fresh (Nat.le_refl _),λy c h=>?_,λp hp=>absurd (show p∈([]:List (Addr×Obj))from hp) (by simp),e0.aK.kept hk,?_⟩
 ·exact name_of_addr x.apart (PySem.mem_of_lookup h1) (PySem.mem_of_lookup h2)
 ·have hy:scope.names.lookup y=some .cell∨scope.names.lookup y=some .free:=hy
  rcases hy with hy|hy
  ·exact GQ hy
  ·exact absurd rfl (S.OK _ (PySem.mem_of_lookup hy))
 ·exact Nat.le_of_lt (x.above y c (PySem.mem_of_lookup h))
 ·have hi:i<vs.length:=by
   unfold start at h2
   by_cases hi:i<vs.length
   ·exact hi
   ·rw[List.getElem?_append_right (by simpa using hi)]at h2
    rw[List.getElem?_replicate]at h2
    split at h2<;>cases h2
  have ha:vs[i]?=some v:=by
   unfold start at h2
   rw[List.getElem?_append_left (by simpa using hi),List.getElem?_map]at h2
   cases e:vs[i]? with
   |none=>rw[e]at h2;cases h2
   |some a=>rw[e]at h2;cases h2;rfl
  obtain⟨u,hu,rv⟩:=r.get ha
  have hp:ps[i]?=some y:=by
   rw[←S.pre,List.getElem?_take_of_lt (by omega)];exact h1
  have GR:ps.Nodup:=by rw[←S.pre];exact S.nd.sublist (List.take_sublist _ _)
  refine⟨u,rv,?_⟩
  rcases S.par y (List.mem_of_getElem? hp)with k|k
  ·exact .inl ⟨k,GO GR hp hu k⟩
  ·obtain⟨c,e⟩:=GQ (n:=s.heap.objs.size+1) k
   refine .inr ⟨.inl k,c,e,?_⟩
   have q:=x.cell y c e
   rw[GP GR hp hu (by show scope.names.lookup y≠_;rw[k];decide)]at q
   exact q
 ·exact e0.aK.fresh (Nat.le_of_lt (x.above y c (PySem.mem_of_lookup h)))
 ·unfold start
  show _=N.length
  rw[List.length_append,List.length_map,List.length_replicate]
  omega
theorem GS{CX:gS}{P:Program}{w:World}{K:PySem.W.Frag}{mg:Str→Option Value}{base:Heap}{k:Nat}{f:Addr}{name qual:Str}{params:Arguments}{body:List Stmt}{scope:Scope}{dV kV doc pm ay ct oc:Value}{an od:Option Addr}{gE:Array (Option Value)}{N ps:List Str}{sp:Sp}(lk:K.lookup f=some ⟨oc,od,.func (PySem.W.fnOf name qual params body scope dV kV doc pm an ay ct),gE⟩)(jS:PySem.W.codeIn K ay qual=true)(S:aN N ps scope)(len:∀vs H Q E,sp vs H Q E→vs.length=ps.length)(sS:∀(A:Around) (outer:List Env) (s:Shared) (H:Hp) (vs:List V) (Q:VK) (E:XK),dJ k (A.deeper (envOfC qual scope s.heap.objs.size f ay))→sp vs H Q E→∃t,gC (jZ CX P w K mg base N qual scope f ay A outer s H E) body t∧t {nx:=λ_ U=>Q .aJ U,rt:=Q} (start N vs) H):
  fH P w K mg base CX (k+1) f (PySem.W.fnOf name qual params body scope dV kV doc pm an ay ct) ps sp:=by
 refine⟨len,λA outer s H args us vs Q E hr e0 hb r ju=>?_⟩
 have hl:=len _ _ _ _ ju
 have KX:K.In s.heap:=e0.mod.qd.keeps λb o e=>(e0.bs b o e).1
 have lim:s.heap.NoLimit:=e0.mod.nolimit.keeps λb o e=>(e0.bs b o e).1
 have OM:∀y∈ps.zip us,scope.names.lookup y.1=some .local∨(scope.names.lookup y.1=some .cell∧((cellsFrom (s.heap.objs.size+1) scope.names []).lookup y.1).isSome=true):=λ⟨n,v⟩ hy=>by
  rcases S.par n (List.of_mem_zip hy).1 with q|q
  ·exact .inl q
  ·exact .inr ⟨q,PySem.W.cellsFrom_some _ _ _ (.inl q)⟩
 refine codeAny_call_function hr.depth (KX _ _ lk) rfl S.co S.gen rfl (PySem.W.codeRec_of KX jS) (hb _ _ _ _ ?_)
 refine wpAny_newFunctionEnv_cells S.kind OM λenv he s1 x=>?_
 subst he
 refine⟨lim.keeps x.toInCall.keep,codeAny_func ?_⟩
 obtain⟨t,ht,hq⟩:=sS A outer s H vs Q E (hr.deeper _) ju
 have I:Inv (jZ CX P w K mg base N qual scope f ay A outer s H E) [] (start N vs) H s1:=OL S hr.hd e0 hl r x
 refine wpAny_mono (ht [] s1 (start N vs) H _ I hq) (λfl s' hs=>?_) λe s' hs=>hs
 have fin:∀{az:St} {U:Hp} {v:V} {u:Value},Inv (jZ CX P w K mg base N qual scope f ay A outer s H E) [] az U s'→RelV v u→Q v U→CE outer P w H s Q u s':=
  λ{az U v u} J rv q=>⟨v,U,J.os,J.bare,J.base,J.aK,rv,q⟩
 cases fl with
 |ret u=>
  obtain⟨v,az,U,J,rv,q⟩:=hs
  exact fin J rv q
 |next=>
  obtain⟨az,U,J,q⟩:=hs
  exact fin (v:=V.aJ) (u:=Value.none) J rfl q
 |brk=>
  obtain⟨_,_,_,q⟩:=hs
  exact False.elim q
 |cont=>
  obtain⟨_,_,_,q⟩:=hs
  exact False.elim q
end L2
namespace L2
open PySem PySem.Spec PyProof.Rows
section
variable{X:Cx}{x:Str}{p pos:Pos}{e:Expr}{es:List Expr}{t:TA}{id T:String}{r:List V→Hp→VK→Prop}
def zE(r:List V→Hp→VK→Prop)(t:TA):TE:=λσ H Q=>t σ H λvs H1=>r vs H1 Q
theorem eB(hc:oP X (.builtin id) r)(hg:Gl X x)(hm:X.mg x=none)(hv:bootBuiltins x=some (.builtin id))(ha:PA X (e::es) t)(hn:x≠"__name__":=by decide)(fJ:(x==("__debug__":Str))=false:=by decide)(he:starEach (e::es) X.env=(false,eval e X.env)::starEach es X.env:=by rfl)(eG:(backTo pos (starEach es X.env)).any (·.1)=false:=by rfl):PE X (.Call (.Name x p) (e::es) [] pos) (zE r t):=by
 intro pins s σ H Q I h
 refine wpAny_Call_Name_kw (mT I hg hm hv ?_ hn fJ)
 exact PyProof.Rows.callWith_builtin1 (a8 (ha pos pins s σ H _ I h) λus s1 ⟨vs,H1,I1,r1,q1⟩=>hc pins s1 σ H1 vs us Q I1 r1 q1) he eG
theorem GU(hc:oP X (.type T) r)(hg:Gl X x)(hm:X.mg x=none)(hv:bootBuiltins x=some (.type T))(ha:PA X (e::es) t)(hn:x≠"__name__":=by decide)(fJ:(x==("__debug__":Str))=false:=by decide)(he:starEach (e::es) X.env=(false,eval e X.env)::starEach es X.env:=by rfl)(eG:(backTo pos (starEach es X.env)).any (·.1)=false:=by rfl):PE X (.Call (.Name x p) (e::es) [] pos) (zE r t):=by
 intro pins s σ H Q I h
 refine wpAny_Call_Name_kw (mT I hg hm hv ?_ hn fJ)
 exact PyProof.Rows.callWith_type1 (a8 (ha pos pins s σ H _ I h) λus s1 ⟨vs,H1,I1,r1,q1⟩=>hc pins s1 σ H1 vs us Q I1 r1 q1) he eG
end
end L2
namespace HT
open PySem PyProof.Rows
section
open PySem.SeqAt
open PySem.AutoSeq1 (wpAny_loadPart')
open PySem.MeetsSeq PySem.MeetsSeq2 PySem.MeetsSeq3
end
section
variable{prog:Program}{w:World}{A:Around}{E:Value→Shared→Prop}{s:Shared}
def gh(n d:Nat):Option Int→Nat
 |none=>d
 |some v=>if v<0 then(v+(n:Int)).toNat else min v.toNat n
theorem GV(n d:Nat):gh n d none=d:=rfl
theorem GW(n d k:Nat):gh n d (some (k:Int))=min k n:=by
 show(if(k:Int)<0 then((k:Int)+(n:Int)).toNat else min (k:Int).toNat n)=min k n
 rw[if_neg (by omega),Int.toNat_natCast]
end
end HT
namespace L2
open PySem PySem.Spec PyProof.Rows
abbrev TO:=St→Hp→(Option Int→Hp→Prop)→Prop
def PO(X:Cx)(e:Option Expr)(t:TO):Prop:=
 ∀(pins:List (Addr×Obj)) (s:Shared) (σ:St) (H:Hp) (Q:Option Int→Hp→Prop),Inv X pins σ H s→t σ H Q→
  wpAny (model X.prog X.w) X.A (evalPart e X.env) (λu s'=>∃o U,Inv X pins σ U s'∧IsPart u o∧Q o U) X.xe s
def GX:TO:=λ_ H Q=>Q none H
def GY(t:TE):TO:=λσ H Q=>t σ H λx H1=>∃i,x=.int i∧Q (some i) H1
section
variable{X:Cx}{e:Expr}{te:TE}{lo hi:Option Expr}{tl th:TO}{pos p2:Pos}
theorem GZ:PO X none GX:=by
 intro pins s σ H Q I h
 rw[evalPart_none]
 exact wpAny_pure ⟨none,H,I,.none,h⟩
theorem m7(h:PE X e te):PO X (some e) (GY te):=by
 intro pins s σ H Q I hw
 rw[evalPart_some]
 refine a8 (h pins s σ H _ I hw) λu s1 ⟨x,H1,I1,r1,q1⟩=>?_
 obtain⟨i,rfl,q⟩:=q1
 obtain⟨t,rfl⟩:=r1
 exact⟨some i,H1,I1,.int i t,q⟩
def G0(X:Cx)(r:V→Option Int→Option Int→Hp→VK→Prop):Prop:=
 ∀(pins:List (Addr×Obj)) (s:Shared) (σ:St) (H:Hp) (x:V) (v vl vu:Value) (lo hi:Option Int) (sl:Addr) (Q:VK),Inv X pins σ H s→RelV x v→s.heap.IsSliceOf sl vl vu .none→IsPart vl lo→IsPart vu hi→r x lo hi H Q→
  ∃T id,typeLookup (.type T) "__getitem__"=pure (some (.builtin id))∧s.TypeIs v T∧wpAny (model X.prog X.w) X.A (getItem v (.ref sl)) (EP X pins σ Q) X.xe s
def G1(r:V→Option Int→Option Int→Hp→VK→Prop)(te:TE)(tl th:TO):TE:=λσ H Q=>te σ H λx H1=>tl σ H1 λl H2=>th σ H2 λu H3=>r x l u H3 Q
theorem sU{r:V→Option Int→Option Int→Hp→VK→Prop}(hr:G0 X r)(he:PE X e te)(hl:PO X lo tl)(hu:PO X hi th):PE X (.Subscript e (.Slice lo hi none p2) pos) (G1 r te tl th):=by
 intro pins s σ H Q I h
 refine Subscript_ (a8 (he pins s σ H _ I h) λv s1 ⟨x,H1,I1,r1,q1⟩=>?_)
 refine wpAny_Slice (a8 (hl pins s1 σ H1 _ I1 q1) λvl s2 ⟨l,H2,I2,pl,q2⟩=>a8 (hu pins s2 σ H2 _ I2 q2) λvu s3 ⟨u,H3,I3,pu,q3⟩=>?_)
 rw[evalPart_none]
 refine wpAny_pure ?_
 have I4:Inv X pins σ H3 {s3 with heap:=s3.heap.push {cls:=.type "slice",data:=.fields #[vl,vu,.none]}}:=I3.kept (t':=s3.toks) λb ob q=>Heap.get?_push_of_some _ q
 obtain⟨T,id,hT,ht,hg⟩:=hr pins {s3 with heap:=s3.heap.push {cls:=.type "slice",data:=.fields #[vl,vu,.none]}} σ H3 x v vl vu l u s3.heap.objs.size Q I4 r1 (Heap.IsSliceOf.new ..) pl pu q3
 show wpAny (model X.prog X.w) X.A (subscriptTail e (.Slice lo hi none p2) v (.ref s3.heap.objs.size)) (EP X pins σ Q) X.xe {s3 with heap:=s3.heap.push {cls:=.type "slice",data:=.fields #[vl,vu,.none]}}
 exact tail_any (ops:=[.ref s3.heap.objs.size,v]) ht hT hg (by with_unfolding_all rfl)
def iw(xs:List V)(lo hi:Option Int):List V:=(xs.drop (HT.gh xs.length 0 lo)).take (HT.gh xs.length xs.length hi-HT.gh xs.length 0 lo)
theorem ON(xs:List V)(lo hi:Option Int):(iw xs lo hi).length≤xs.length:=by
 unfold iw
 rw[List.length_take,List.length_drop]
 omega
end
end L2
namespace L2
open PySem PySem.Spec PyProof.Rows
def m8(n:Nat)(i:Int):Option Nat:=if 0≤i then(if i<n then some i.toNat else none)else if -(n:Int)≤i then some (i+n).toNat else none
def jv{α:Type}(xs:List α)(i:Int):Option α:=(m8 xs.length i).bind λj=>xs[j]?
theorem G2{n:Nat}{i:Int}{j:Nat}(h:m8 n i=some j):seqIndex? i n=some j∧j<n∧ -(n:Int)≤i∧i<n:=by
 unfold m8 at h
 by_cases h0:0≤i
 ·rw[if_pos h0]at h
  by_cases h1:i<n
  ·rw[if_pos h1]at h
   have e:i.toNat=j:=Option.some.inj h
   exact⟨by rw[seqIndex_of h0 h1,e],by omega,by omega,h1⟩
  ·rw[if_neg h1]at h;cases h
 ·rw[if_neg h0]at h
  by_cases h1: -(n:Int)≤i
  ·rw[if_pos h1]at h
   have e:(i+n).toNat=j:=Option.some.inj h
   exact⟨by rw[seqIndex_neg (by omega) h1,e],by omega,h1,by omega⟩
  ·rw[if_neg h1]at h;cases h
theorem G3{α:Type}{xs:List α}{i:Int}{v:α}(h:jv xs i=some v):∃j,seqIndex? i xs.length=some j∧xs[j]?=some v∧j<xs.length∧ -(xs.length:Int)≤i∧i<xs.length:=by
 unfold jv at h
 cases e:m8 xs.length i with
 |none=>rw[e]at h;cases h
 |some j=>
  rw[e]at h
  obtain⟨h1,h2,h3,h4⟩:=G2 e
  exact⟨j,h1,h,h2,h3,h4⟩
theorem hZ{α:Type}{xs:List α}{j:Nat}{v:α}(h:xs[j]?=some v):jv xs (j:Int)=some v:=by
 have hj:j<xs.length:=(List.getElem?_eq_some_iff.mp h).1
 have e:m8 xs.length (j:Int)=some j:=by
  unfold m8
  rw[if_pos (by omega),if_pos (by omega)];simp
 unfold jv;rw[e];exact h
def OO(b:Expr):Prop:=∀o i,subscripted b false o i=operate [o,i] (getItem o i)
def v_(X:Cx)(r:R2):Prop:=
 ∀(value slice:Expr) (pins:List (Addr×Obj)) (s:Shared) (σ:St) (H:Hp) (x y:V) (v u:Value) (Q:VK),Inv X pins σ H s→RelV x v→RelV y u→r x y H Q→
  subscripted slice false v u=operate [v,u] (getItem v u)→wpAny (model X.prog X.w) X.A (subscriptTail value slice v u) (EP X pins σ Q) X.xe s
def G4(X:Cx)(id:String)(r:V→List V→Hp→VK→Prop):Prop:=
 ∀(pins:List (Addr×Obj)) (s:Shared) (σ:St) (H:Hp) (x:V) (xs:List V) (v:Value) (us:List Value) (Q:VK),Inv X pins σ H s→RelV x v→Vals xs us→r x xs H Q→
  wpAny (model X.prog X.w) X.A (call (.builtin id) (v::us)) (EP X pins σ Q) X.xe s
section
variable{X:Cx}{a b:Expr}{ta tb:TE}{pos:Pos}
theorem a_{r:R2}(hr:v_ X r)(ha:PE X a ta)(hb:PE X b tb)(hs:OO b):PE X (.Subscript a b pos) (qr r ta tb):=by
 intro pins s σ H Q I h
 exact Subscript_ (zh ha hb I h λv u s2 x y H2 I2 rx ry q=>hr a b pins s2 σ H2 x y v u Q I2 rx ry q (hs _ _))
def zF(K:PySem.W.Frag):R2:=λx y H Q=>∃p xs i v,x=.ref p∧y=.int i∧ah K H p xs∧jv xs i=some v∧Q v H
def G5(K:PySem.W.Frag):R2:=λx y H Q=>∃p xs i v,x=.ref p∧y=.int i∧aY K H p xs∧jv xs i=some v∧Q v H
theorem cf:v_ X (zF X.K):=by
 intro value slice pins s σ H x y v u Q I rx ry h hs
 obtain⟨p,xs,i,z,rfl,rfl,hq,he,q⟩:=h
 cases rx
 obtain⟨t,rfl⟩:=ry
 obtain⟨aq,r,pl,hz⟩:=I.list hq
 obtain⟨j,h1,h2,h3,h4,h5⟩:=G3 he
 obtain⟨w,ew,fk⟩:=r.get h2
 have hl:=r.length
 have hn:=zo
 have fin:EP X pins σ Q w s:=⟨z,H,I,fk,q⟩
 by_cases h0:0≤i
 ·have hj:i.toNat=j:=by
   rw[seqIndex_of h0 h5]at h1
   exact Option.some.inj h1
  exact item_listR pl.isList h0 (by omega) (by rw[hj];simpa using ew) fin hs
 ·have hj:(i+(aq.toArray.size:Int)).toNat=j:=by
   rw[seqIndex_neg (by omega) h4]at h1
   rw[List.size_toArray,←hl]
   exact Option.some.inj h1
  exact subscriptTail_builtinR (x:=w) pl.isList.typeIs slot_list_getitem.lookup
   (wpAny_getItem_list_neg (Q:=λr s'=>r=w∧EP X pins σ Q r s') pl.isList (by omega) (by rw[List.size_toArray]<;>omega) (by omega) (by rw[hj];simpa using ew) ⟨rfl,fin⟩) hs
theorem dM:v_ X (G5 X.K):=by
 intro value slice pins s σ H x y v u Q I rx ry h hs
 obtain⟨p,xs,i,z,rfl,rfl,hq,he,q⟩:=h
 cases rx
 obtain⟨t,rfl⟩:=ry
 obtain⟨aq,r,pl,hz⟩:=I.tuple hq
 obtain⟨j,h1,h2,h3,h4,h5⟩:=G3 he
 obtain⟨w,ew,fk⟩:=r.get h2
 have hl:=r.length
 have hn:=zo
 have fin:EP X pins σ Q w s:=⟨z,H,I,fk,q⟩
 exact subscriptTail_builtinR (x:=w) pl.typeIs slot_tuple_getitem.lookup
  (getItem_tuple (j:=j) (Q:=λr s'=>r=w∧EP X pins σ Q r s') pl (by omega) (by omega) (by rw[List.size_toArray,←hl];exact h1) (by simpa using ew) ⟨rfl,fin⟩) hs
theorem OP(lo hi:Option Int)(n:Nat):(sliceBounds lo hi none n).1=((HT.gh n 0 lo:Nat):Int)∧(sliceBounds lo hi none n).2.1=((HT.gh n n hi:Nat):Int)∧(sliceBounds lo hi none n).2.2=1:=by
 refine⟨?_,?_,rfl⟩
 ·cases lo with
  |none=>simp[sliceBounds,HT.gh]
  |some i=>
   simp only[sliceBounds,HT.gh,Option.getD_none,show(1:Int)>0 by decide,if_true]
   by_cases h:i<0
   ·simp only[h,if_true]<;>omega
   ·simp only[h,if_false]<;>omega
 ·cases hi with
  |none=>simp[sliceBounds,HT.gh]
  |some i=>
   simp only[sliceBounds,HT.gh,Option.getD_none,show(1:Int)>0 by decide,if_true]
   by_cases h:i<0
   ·simp only[h,if_true]<;>omega
   ·simp only[h,if_false]<;>omega
theorem OQ(aq:List Value)(lo hi:Option Int):slicePick aq.toArray lo hi none=((aq.drop (HT.gh aq.length 0 lo)).take (HT.gh aq.length aq.length hi-HT.gh aq.length 0 lo)).toArray:=by
 obtain⟨h1,h2,h3⟩:=OP lo hi aq.toArray.size
 unfold slicePick
 rw[h1,h2,h3]
 simp only[sliceRange_one,pick_run,List.size_toArray]<;>rfl
def G6(K:PySem.W.Frag):V→Option Int→Option Int→Hp→VK→Prop:=λx lo hi H Q=>∃a xs,x=.ref a∧ah K H a xs∧∀p,H p=none→Q (.ref p) (upd H p (.lst (iw xs lo hi)))
theorem sV:G0 X (G6 X.K):=by
 intro pins s σ H x v vl vu lo hi sl Q I rx hs pl pu h
 obtain⟨a,xs,rfl,hx,q⟩:=h
 cases rx
 obtain⟨aq,r,ht,hz⟩:=I.list hx
 have hlen:=r.length
 refine⟨"list",_,slot_list_getitem.lookup,ht.isList.typeIs,?_⟩
 refine wpAny_getItem_list_slice ht.isList hs pl pu .none (by simp) ?_ (by rw[List.size_toArray]<;>omega)
 rw[OQ,←hlen]
 refine⟨.ref s.heap.objs.size,_,I.laid (t':=s.toks) (o:=.lst (iw xs lo hi)) (λb ob q=>Heap.get?_push_of_some _ q) (Nat.le_refl _) ?_,rfl,q _ (I.aK.fresh (Nat.le_refl _))⟩
 exact⟨Nat.le_trans (ON xs lo hi) hz,_,0,(r.drop (HT.gh xs.length 0 lo)).take (HT.gh xs.length xs.length hi-HT.gh xs.length 0 lo),Heap.get?_push_size _ rfl⟩
def m9:V→Bool
 |.aJ=>true
 |.bl _=>true
 |.int _=>true
 |.str _=>true
 |_=>false
def lW:V→V→Bool
 |.aJ,.aJ=>true
 |.bl a,.bl b=>a==b
 |.bl a,.int b=>(if a then 1 else 0)==b
 |.int a,.bl b=>a==(if b then 1 else 0)
 |.int a,.int b=>a==b
 |.str a,.str b=>a==b
 |_,_=>false
theorem OR{A:Around}{s:Shared}{y x:V}{u v:Value}(ry:RelV y u)(rx:RelV x v)(fy:m9 y=true)(fx:m9 x=true):SeqAt.EqAt A s u v (lW y x):=by
 cases y with
 |aJ=>
  cases ry
  cases x with
  |aJ=>cases rx;exact SeqAt.EqAt.same _
  |bl b=>cases rx;exact SeqAt.EqAt.none_bool b
  |int b=>obtain⟨t,rfl⟩:=rx;exact SeqAt.EqAt.none_int b t
  |str b=>obtain⟨t,rfl⟩:=rx;exact SeqAt.EqAt.none_str b t
  |_=>exact absurd (show false=true from fx) Bool.false_ne_true
 |bl a=>
  cases ry
  cases x with
  |aJ=>cases rx;exact SeqAt.EqAt.bool_none a
  |bl b=>cases rx;exact SeqAt.EqAt.bool_bool a b
  |int b=>obtain⟨t,rfl⟩:=rx;exact SeqAt.EqAt.bool_int a b t
  |str b=>obtain⟨t,rfl⟩:=rx;exact SeqAt.EqAt.bool_str a b t
  |_=>exact absurd (show false=true from fx) Bool.false_ne_true
 |int a=>
  obtain⟨t',rfl⟩:=ry
  cases x with
  |aJ=>cases rx;exact SeqAt.EqAt.int_none a t'
  |bl b=>cases rx;exact SeqAt.EqAt.int_bool a t' b
  |int b=>obtain⟨t,rfl⟩:=rx;exact SeqAt.EqAt.int_int a t' b t
  |str b=>obtain⟨t,rfl⟩:=rx;exact SeqAt.EqAt.int_str a t' b t
  |_=>exact absurd (show false=true from fx) Bool.false_ne_true
 |str a=>
  obtain⟨t',rfl⟩:=ry
  cases x with
  |aJ=>cases rx;exact SeqAt.EqAt.str_none a t'
  |bl b=>cases rx;exact SeqAt.EqAt.str_bool a t' b
  |int b=>obtain⟨t,rfl⟩:=rx;exact SeqAt.EqAt.str_int a t' b t
  |str b=>obtain⟨t,rfl⟩:=rx;exact SeqAt.EqAt.str_str a t' b t
  |_=>exact absurd (show false=true from fx) Bool.false_ne_true
 |_=>exact absurd (show false=true from fy) Bool.false_ne_true
def iy(x:V)(u:Value):Bool:=match u with
 |.none=>lW .aJ x
 |.bool b=>lW (.bl b) x
 |.int i _=>lW (.int i) x
 |.str z _=>lW (.str z) x
 |_=>false
theorem G7{x y:V}{u:Value}(r:RelV y u)(f:m9 y=true):iy x u=lW y x:=by
 cases y with
 |aJ=>cases r;rfl
 |bl b=>cases r;rfl
 |int i=>obtain⟨t,rfl⟩:=r;rfl
 |str z=>obtain⟨t,rfl⟩:=r;rfl
 |_=>exact absurd (show false=true from f) Bool.false_ne_true
theorem sW{x:V}:∀{xs:List V} {us:List Value},Vals xs us→xs.all m9=true→us.any (iy x)=xs.any λy=>lW y x
 |_,_,.nil,_=>rfl
 |y::xs,u::us,.cons r t,f=>by
  rw[List.all_cons,Bool.and_eq_true]at f
  rw[List.any_cons,List.any_cons,G7 r f.1,sW t f.2]
theorem sX{A:Around}{s:Shared}{x:V}{v:Value}(rx:RelV x v)(fx:m9 x=true):∀{xs:List V} {us:List Value},Vals xs us→xs.all m9=true→∀u∈us,SeqAt.EqAt A s u v (iy x u)
 |_,_,.nil,_=>λu hu=>by cases hu
 |y::xs,u::us,.cons r t,f=>λu' hu=>by
  rw[List.all_cons,Bool.and_eq_true]at f
  rcases List.mem_cons.mp hu with rfl|hu
  ·rw[G7 r f.1];exact OR r rx f.1 fx
  ·exact sX rx fx t f.2 u' hu
def lX(x:V)(xs:List V):Bool:=xs.any λy=>lW y x
def G8(K:PySem.W.Frag)(neg:Bool):R2:=λx y H Q=>∃p xs,y=.ref p∧(ah K H p xs∨aY K H p xs)∧m9 x=true∧xs.all m9=true∧Q (.bl (if neg then !lX x xs else lX x xs)) H
theorem G9:eQ X (compareOp .In) (G8 X.K false):=by
 intro pins s σ H x y v u Q I rx ry h
 obtain⟨p,xs,rfl,hq,fx,fs,q⟩:=h
 cases ry
 rcases hq with hq|hq
 ·obtain⟨aq,r,pl,hz⟩:=I.list hq
  refine SeqAt.in_listAt (iy x) pl.isList (λw hw=>sX rx fx r fs w (by simpa using hw)) ⟨.bl _,H,I,rfl,?_⟩
  rw[show aq.toArray.any (iy x)=aq.any (iy x) by simp,sW r fs]
  exact q
 ·obtain⟨aq,r,pl,hz⟩:=I.tuple hq
  refine SeqAt.in_tupleAt (iy x) pl (λw hw=>sX rx fx r fs w (by simpa using hw)) ⟨.bl _,H,I,rfl,?_⟩
  rw[show aq.toArray.any (iy x)=aq.any (iy x) by simp,sW r fs]
  exact q
theorem OS:eQ X (compareOp .NotIn) (G8 X.K true):=by
 intro pins s σ H x y v u Q I rx ry h
 obtain⟨p,xs,rfl,hq,fx,fs,q⟩:=h
 cases ry
 rcases hq with hq|hq
 ·obtain⟨aq,r,pl,hz⟩:=I.list hq
  refine SeqAt.notIn_listAt (iy x) pl.isList (λw hw=>sX rx fx r fs w (by simpa using hw)) ⟨.bl _,H,I,rfl,?_⟩
  rw[show aq.toArray.any (iy x)=aq.any (iy x) by simp,sW r fs]
  exact q
 ·obtain⟨aq,r,pl,hz⟩:=I.tuple hq
  refine SeqAt.notIn_tupleAt (iy x) pl (λw hw=>sX rx fx r fs w (by simpa using hw)) ⟨.bl _,H,I,rfl,?_⟩
  rw[show aq.toArray.any (iy x)=aq.any (iy x) by simp,sW r fs]
  exact q
theorem fK:oP X (.builtin "len") (λxs H Q=>∃p ys,xs=[.ref p]∧(ah X.K H p ys∨aY X.K H p ys)∧Q (.int ys.length) H):=by
 intro pins s σ H xs us Q I r h
 obtain⟨p,ys,rfl,hq,q⟩:=h
 obtain⟨u,rfl,rx⟩:=vals1 r
 cases rx
 have hn:=zo
 rcases hq with hq|hq
 ·obtain⟨aq,r',pl,hz⟩:=I.list hq
  have hlen:=r'.length
  exact Calls.call_len_list pl.isList (by simp only[List.size_toArray]<;>omega) ⟨.int ys.length,H,I.tok _,⟨s.toks+1,by rw[List.size_toArray,hlen]⟩,q⟩
 ·obtain⟨aq,r',pl,hz⟩:=I.tuple hq
  have hlen:=r'.length
  exact len_tuple pl (by simp only[List.size_toArray]<;>omega) ⟨.int ys.length,H,I.tok _,⟨s.toks+1,by rw[List.size_toArray,hlen]⟩,q⟩
def zG(K:PySem.W.Frag)(T:String)(x:V)(H:Hp):Prop:=match x with
 |.str _=>T="str"
 |.int _=>T="int"
 |.ref p=>(T="list"∧∃xs,ah K H p xs)∨(T="tuple"∧∃o,K.lookup p=some o∧o.cls=.type "tuple"∧o.dict=none)∨
   (T="dict"∧((∃fD,H p=some (.dK fD))∨∃fD,H p=some (.dT fD)))∨(T="set"∧∃S n,H p=some (.set S n))
 |_=>False
theorem OT{pins:List (Addr×Obj)}{σ:St}{H:Hp}{s:Shared}{T:String}{x:V}{v:Value}(I:Inv X pins σ H s)(r:RelV x v)(ty:zG X.K T x H):
  s.TypeIs v T∧∀a,v=.ref a→∃ob,s.heap.get? a=some ob∧ob.dict=none:=by
 cases x with
 |str z=>
  obtain⟨t,rfl⟩:=r
  cases(show T="str" from ty)
  exact⟨typeIs_str s z t,λ_ e=>nomatch e⟩
 |int i=>
  obtain⟨t,rfl⟩:=r
  cases(show T="int" from ty)
  exact⟨typeIs_int s i t,λ_ e=>nomatch e⟩
 |ref p=>
  cases r
  rcases ty with⟨rfl,xs,hq⟩|⟨rfl,o,hk,hc,hd⟩|⟨rfl,hk⟩|⟨rfl,S,n,hk⟩
  ·obtain⟨aq,_,pl,_⟩:=I.list hq
   refine⟨pl.isList.typeIs,λa e=>?_⟩
   cases e
   obtain⟨o,n,e,c,hd,_⟩:=pl
   exact⟨o,e,hd⟩
  ·refine⟨⟨o,I.eY p o hk,hc⟩,λa e=>?_⟩
   cases e
   exact⟨o,I.eY _ o hk,hd⟩
  ·have z:∃o,s.heap.get? p=some o∧o.ExactDict:=by
    rcases hk with⟨fD,hk⟩|⟨fD,hk⟩
    ·obtain⟨_,_,_,_,o,_,_,e,ex,_⟩:=I.aK p _ hk
     exact⟨o,e,ex⟩
    ·obtain⟨_,_,_,_,o,_,_,e,ex,_⟩:=I.aK p _ hk
     exact⟨o,e,ex⟩
   obtain⟨o,e,ex⟩:=z
   refine⟨⟨o,e,ex.1⟩,λa e2=>?_⟩
   cases e2
   exact⟨o,e,ex.2.1⟩
  ·obtain⟨o,_,_,_,e,ex,_⟩:=I.aK p _ hk
   refine⟨⟨o,e,ex.1⟩,λa e2=>?_⟩
   cases e2
   exact⟨o,e,ex.2.1⟩
 |_=>exact False.elim ty
def G_(K:PySem.W.Frag)(T:String)(r:V→List V→Hp→VK→Prop)(to:TE)(t:TA):TE:=λσ H Q=>to σ H λx H1=>zG K T x H1∧t σ H1 λxs H2=>r x xs H2 Q
variable{o e:Expr}{es:List Expr}{to:TE}{t:TA}{name:Str}{apos jb:Pos}{T id:String}{r:V→List V→Hp→VK→Prop}
theorem gT(pa:PlainAttrs T)(slot:Slot T name id)(m_:typeOf (.builtin id)=pure (.type "method_descriptor"))(hm:G4 X id r)(ho:PE X o to)(ha:PA X (e::es) t)(sY:attributeBase o name X.env (eval o X.env)=eval o X.env:=by rfl)(OU:((backTo jb (starEach (e::es) X.env)).all (λx=>!x.1)&&(backToKw jb (keywordEach [] X.env)).all (λx=>x.1.isSome)&&decide ((e::es).length+([]:List Keyword).length+(if([]:List Keyword).isEmpty then 0 else 1)<30))=true:=by rfl)(OV:(apos.endLine==jb.line)=true:=by rfl)(hs:starEach (e::es) X.env=(false,eval e X.env)::starEach es X.env:=by rfl)(OW:(backTo jb (starEach es X.env)).any (·.1)=false:=by rfl):
  PE X (.Call (.Attribute o name apos) (e::es) [] jb) (G_ X.K T r to t):=by
 intro pins s σ H Q I h
 refine wpAny_Call_method_late sY OU OV rfl (a8 (ho pins s σ H _ I h) λv s1 ⟨x,H1,I1,r1,ty,q1⟩=>?_)
 obtain⟨h1,h2⟩:=OT I1 r1 ty
 refine⟨T,id,pa,slot,m_,h1,h2,?_⟩
 have hA:=ha jb pins s1 σ H1 _ I1 q1
 rw[hs]at hA⊢
 refine Calls.callWith_builtin (by show(false||(backTo jb (starEach es X.env)).any (·.1))=false;rw[OW]<;>rfl) (Calls.evalArgs_plain ?_)
 exact a8 hA λus s2 ⟨vs,H2,I2,r2,q2⟩=>hm pins s2 σ H2 x vs v us Q I2 r1 r2 q2
end
end L2
namespace L2
open PySem PySem.Spec PyProof.Rows
def sZ(X:Cx)(id:String)(r:V→List V→Hp→VK→Prop):Prop:=
 ∀(pins:List (Addr×Obj)) (s:Shared) (σ:St) (H:Hp) (x:V) (xs:List V) (v:Value) (us:List Value) (Q:VK),Inv X pins σ H s→RelV x v→Vals xs us→r x xs H Q→
  wpAny (model X.prog X.w) X.A (call (.builtin id) (v::us)) (EP X pins σ Q) X.xe s
theorem Vals.one:∀{x:V} {us:List Value},Vals [x] us→∃u,us=[u]∧RelV x u
 |_,_,.cons r .nil=>⟨_,rfl,r⟩
theorem Vals.two:∀{x y:V} {us:List Value},Vals [x,y] us→∃u v,us=[u,v]∧RelV x u∧RelV y v
 |_,_,_,.cons r (.cons q .nil)=>⟨_,_,rfl,r,q⟩
theorem Vals.eraseIdx:∀{xs:List V} {us:List Value} (i:Nat),Vals xs us→Vals (xs.eraseIdx i) (us.eraseIdx i)
 |_,_,_,.nil=>.nil
 |_,_,0,.cons _ t=>t
 |_,_,i+1,.cons r t=>.cons r (Vals.eraseIdx i t)
theorem Ha{α:Type}:∀(l:List α) (i:Nat),(l.eraseIdx i).length≤l.length
 |[],_=>Nat.le_refl _
 |_::_,0=>Nat.le_succ _
 |_::r,i+1=>Nat.succ_le_succ (Ha r i)
section
variable{X:Cx}{pins:List (Addr×Obj)}{σ:St}{H:Hp}{s:Shared}{l b:Addr}{xs ys zs:List V}
theorem Inv.s_{aq its':List Value}{n:Nat}{f:Array Value→Array Value}{t':Nat}(I:Inv X pins σ H s)(hH:H l=some (.lst xs))(e:s.heap.get? l=some {cls:=.type "list",data:=.seq aq.toArray n})(hf:f aq.toArray=its'.toArray)(hv:Vals ys its')(hz:ys.length≤sizeLine):
  Inv X pins σ (upd H l (.lst ys)) {s with heap:=s.heap.update l (Obj.mapSeq f),toks:=t'}:=by
 have q:=PySem.IsL.update e f
 rw[hf]at q
 refine I.write (x:=l) (e:=l) (by rw[hH];exact trivial) (.inl rfl) (λb' u hb hu=>(Heap.get?_update_other s.heap (Obj.mapSeq f) (Ne.symm hb)).trans hu) ⟨_,q⟩ ?_
 exact⟨hz,its',_,hv,q⟩
theorem Inv.OX{aq:List Value}{t':Nat}(I:Inv X pins σ H s)(hv:Vals ys aq)(hz:ys.length≤sizeLine):
  Inv X pins σ (upd H s.heap.objs.size (.lst ys)) {s with heap:=s.heap.push {cls:=.type "list",data:=.seq aq.toArray},toks:=t'}:=
 I.laid (λ_ _ q=>Heap.get?_push_of_some _ q) (Nat.le_refl _) ⟨hz,aq,0,hv,Heap.get?_push_size _ rfl⟩
theorem Inv.fresh(I:Inv X pins σ H s):H s.heap.objs.size=none:=I.aK.fresh (Nat.le_refl _)
theorem Inv.nh(I:Inv X pins σ H s)(hH:H l=some (.lst xs)):xs.length≤sizeLine∧∃(aq:List Value) (n:Nat),Vals xs aq∧xs.length=aq.length∧s.heap.get? l=some {cls:=.type "list",data:=.seq aq.toArray n}:=by
 obtain⟨z,aq,n,r,e⟩:=I.aK l _ hH
 exact⟨z,aq,n,r,r.length,e⟩
theorem Hb{n:Nat}(h:n≤sizeLine):Builtin.List.listTooLong n=false:=by
 unfold Builtin.List.listTooLong
 exact decide_eq_false (by omega)
end
section
variable{X:Cx}
def tf:V→List V→Hp→VK→Prop:=λx vs H Q=>∃l xs y,x=.ref l∧vs=[y]∧H l=some (.lst xs)∧xs.length<sizeLine∧Q .aJ (upd H l (.lst (xs++[y])))
theorem ni:sZ X "list.append" tf:=by
 intro pins s σ H x vs v us Q I rx rv h
 obtain⟨l,xs,y,rfl,rfl,hH,hz,q⟩:=h
 cases rx
 obtain⟨u,rfl,ru⟩:=rv.one
 obtain⟨z,aq,n,r,hl,e⟩:=I.nh hH
 refine call_meets F.slot_list_append ⟨_,e,rfl⟩ F.entry_list_append (F.args_list_append_2 _ _) (PySem.list_append l aq.toArray n u (by rw[List.size_toArray];omega)) ⟨e,?_⟩
 refine⟨.aJ,_,I.s_ (its':=aq++[u]) hH e (by simp) (r.append (.cons ru .nil)) ?_,rfl,q⟩
 rw[List.length_append,List.length_singleton]
 omega
def Hc:V→List V→Hp→VK→Prop:=λx vs H Q=>∃l b xs zs,x=.ref l∧vs=[.ref b]∧H l=some (.lst xs)∧H b=some (.lst zs)∧xs.length+zs.length≤sizeLine∧Q .aJ (upd H l (.lst (xs++zs)))
theorem wa:sZ X "list.extend" Hc:=by
 intro pins s σ H x vs v us Q I rx rv h
 obtain⟨l,b,xs,zs,rfl,rfl,hH,hB,hz,q⟩:=h
 cases rx
 obtain⟨u,rfl,ru⟩:=rv.one
 cases ru
 obtain⟨z,aq,n,r,hl,e⟩:=I.nh hH
 obtain⟨z2,gj,n2,r2,wb,e2⟩:=I.nh hB
 have hsz:aq.toArray.size+gj.toArray.size≤sizeLine:=by rw[List.size_toArray,List.size_toArray];omega
 have zI:¬(!aq.toArray.isEmpty&&Builtin.List.listTooLong (aq.toArray.size+gj.toArray.size))=true:=by
  rw[Hb hsz,Bool.and_false]
  exact Bool.false_ne_true
 refine call_meets F.slot_list_extend ⟨_,e,rfl⟩ F.entry_list_extend (F.args_list_extend_2 _ _)
  (AutoSeq1.list_extend_list_list_0 l aq.toArray n b gj.toArray n2 zI (by rw[List.size_toArray];omega) (by omega)) ⟨e,e2,?_⟩
 refine⟨.aJ,_,I.s_ (its':=aq++gj) hH e (by simp) (r.append r2) ?_,rfl,q⟩
 rw[List.length_append]
 omega
def Hd:V→List V→Hp→VK→Prop:=λx vs H Q=>∃l xs i k y,x=.ref l∧vs=[.int i]∧H l=some (.lst xs)∧ -(2^63)≤i∧i<2^63∧seqIndex? i xs.length=some k∧xs[k]?=some y∧Q y (upd H l (.lst (xs.eraseIdx k)))
theorem OY:sZ X "list.pop" Hd:=by
 intro pins s σ H x vs v us Q I rx rv h
 obtain⟨l,xs,i,k,y,rfl,rfl,hH,h1,h2,hk,hy,q⟩:=h
 cases rx
 obtain⟨u,rfl,ru⟩:=rv.one
 obtain⟨t,rfl⟩:=ru
 obtain⟨z,aq,n,r,hl,e⟩:=I.nh hH
 obtain⟨w,hw,fk⟩:=r.get hy
 refine call_meets F.slot_list_pop ⟨_,e,rfl⟩ F.entry_list_pop (F.args_list_pop_2 _ _)
  (MeetsSeq.list_pop_at l aq.toArray n i t k w (fitsIndex_both h1 h2) (by rw[List.size_toArray,←hl];exact hk) (by rw[←Array.getElem?_toList];exact hw) (by rw[List.size_toArray];omega)) ⟨e,?_⟩
 refine⟨y,_,I.s_ (its':=aq.eraseIdx k) hH e ?_ (r.eraseIdx k) ?_,fk,q⟩
 ·show aq.toArray.eraseIdxIfInBounds k=(aq.eraseIdx k).toArray
  rw[List.eraseIdxIfInBounds_toArray]
 ·have:=Ha xs k
  omega
def He:R2:=λx y H Q=>∃l b xs zs,x=.ref l∧y=.ref b∧H l=some (.lst xs)∧H b=some (.lst zs)∧xs.length+zs.length≤sizeLine∧∀p,H p=none→Q (.ref p) (upd H p (.lst (xs++zs)))
theorem qx:eQ X (binaryOp .Add) He:=by
 intro pins s σ H x y v u Q I rx ry h
 obtain⟨l,b,xs,zs,rfl,rfl,hH,hB,hz,q⟩:=h
 cases rx
 cases ry
 obtain⟨z,aq,n,r,hl,e⟩:=I.nh hH
 obtain⟨z2,gj,n2,r2,wb,e2⟩:=I.nh hB
 refine PySem.P.add_list e e2 ?_ (by rw[List.size_toArray,List.size_toArray];omega)
 have ea:aq.toArray++gj.toArray=(aq++gj).toArray:=by simp
 rw[ea]
 exact⟨.ref _,_,I.OX (t':=s.toks) (r.append r2) (by rw[List.length_append];omega),rfl,q _ I.fresh⟩
end
section
variable{prog:Program}{w:World}{A:Around}{E:Value→Shared→Prop}{s:Shared}
set_option maxRecDepth 100000 in
end
section
variable{X:Cx}
end
end L2
namespace L2
open PySem PySem.Spec PyProof.Rows
theorem Vals.Hf:∀{bs:List Bool} {us:List Value},Vals (bs.map V.bl) us→us=bs.map Value.bool
 |[],us,h=>by
  rw[List.map_nil]at h
  cases h
  rfl
 |b::bs,us,h=>by
  rw[List.map_cons]at h
  cases h with
  |cons r t=>
   cases r
   rw[Vals.Hf t,List.map_cons]
theorem Vals.OZ{a:Addr}{us:List Value}(r:Vals [V.ref a] us):us=[Value.ref a]:=by
 cases r with
 |cons r t=>
  cases t
  cases r
  rfl
section
variable{prog:Program}{w:World}{A:Around}{E:Value→Shared→Prop}{s:Shared}{l:Addr}{aq:List Value}{ns:List Int}{Q:Value→Shared→Prop}
end
section
variable{X:Cx}
end
section
variable{X:Cx}
end
section
variable{X:Cx}
end
theorem O0{prog:Program}{w:World}{A:Around}{E:Value→Shared→Prop}{s:Shared}{l:Addr}{items:Array Value}{Q:Value→Shared→Prop}(hl:s.heap.IsList l items)(h:∀jr:Shared,jr={s with heap:=s.heap.push {cls:=.type "list_iterator",data:=.fields #[.ref l,.int 0 0]}}→(jr.heap.IsListIter s.heap.objs.size l 0∧jr.heap.IsList l items)→l≠s.heap.objs.size→Q (.ref s.heap.objs.size) jr):wpAny (model prog w) A (pyIter (.ref l)) Q E s:=by
 have bw:l<s.heap.objs.size:=by obtain⟨_,e,_⟩:=hl;exact Heap.lt_size e
 exact wpAny_pyIter_list hl (h _ rfl ⟨⟨_,Heap.get?_push_size _ rfl,rfl,rfl⟩,hl.push _⟩ (Nat.ne_of_lt bw))
theorem O1{prog:Program}{w:World}{A:Around}{bs:List Bool}{aq:List Value}(e:aq=bs.map Value.bool):
  TruthOf prog w A (λi v=>aq.toArray[i]?=some v) (λi=>bs.getD i false):=λi v s Q E hv hq=>by
 have m6:aq[i]?=some v:=by simpa using hv
 rw[e,List.getElem?_map]at m6
 obtain⟨b,hb,rfl⟩:=Option.map_eq_some_iff.mp m6
 have hg:bs.getD i false=b:=by rw[List.getD_eq_getElem?_getD,hb]<;>rfl
 have iM:Q (bs.getD i false) s:=hq
 rw[hg]at iM
 exact wpAny_truthy_bool iM
theorem any_range:∀bs:List Bool,(List.range bs.length).any (λi=>bs.getD i false)=bs.any id
 |[]=>rfl
 |b::bs=>by
  rw[List.length_cons,List.range_succ_eq_map,List.any_cons,List.any_map,List.any_cons,←any_range bs]
  all_goals rfl
section
variable{X:Cx}
def O2(K:PySem.W.Frag):List V→Hp→VK→Prop:=λvs H Q=>∃(a:Addr) (bs:List Bool),vs=[V.ref a]∧ah K H a (bs.map V.bl)∧Q (.bl (bs.any id)) H
theorem Hg(hc:X.calm=true):oP X (.builtin "any") (O2 X.K):=by
 intro pins s σ H vs us Q I r h
 obtain⟨a,bs,rfl,hs,q⟩:=h
 obtain⟨aq,rv,hl,_⟩:=I.list hs
 rw[Vals.OZ r]
 have hb:=rv.Hf
 refine call_any_walk (O0 hl.isList λjr e2 st iz=>?_)
 subst e2
 refine⟨_,_,_,_,_,_,_,rfl,Walks.list (A:=X.A.in1) (I.ok.hd hc) _ a iz aq.toArray,st,O1 hb,λh' tk hk=>?_⟩
 refine⟨.bl _,H,I.kept λb o eo=>hk b o (λzJ=>?_) (Heap.get?_push_of_some _ eo),?_,q⟩
 ·rcases List.mem_cons.mp zJ with e1|zJ
  ·exact absurd (e1▸Heap.lt_size eo) (Nat.lt_irrefl _)
  ·cases zJ
 ·show Value.bool _=Value.bool _
  rw[←any_range,hb,List.size_toArray,List.length_map]
end
mutual
inductive Dp(K:PySem.W.Frag)(H:Hp):V→PyData→Prop
 |aJ:Dp K H .aJ .none
 |bl (b:Bool):Dp K H (.bl b) (.bool b)
 |int (i:Int):Dp K H (.int i) (.int i)
 |str (x:Str):Dp K H (.str x) (.str x)
 |lst {a:Addr} {xs:List V} {ds:List PyData}:ah K H a xs→oZ K H xs ds→Dp K H (.ref a) (.list ds)
 |tup {a:Addr} {xs:List V} {ds:List PyData}:aY K H a xs→oZ K H xs ds→Dp K H (.ref a) (.tuple ds)
inductive oZ(K:PySem.W.Frag)(H:Hp):List V→List PyData→Prop
 |nil:oZ K H [] []
 |cons {v:V} {vs:List V} {d:PyData} {ds:List PyData}:Dp K H v d→oZ K H vs ds→oZ K H (v::vs) (d::ds)
end
section
variable{X:Cx}{pins:List (Addr×Obj)}{σ:St}{H:Hp}{s:Shared}
mutual
theorem Dp.reads(I:Inv X pins σ H s):∀(d:PyData) (v:V) (u:Value),Dp X.K H v d→RelV v u→∃as,Reads s.heap u d as
 |.none,_,_,h,r=>by
  cases h
  cases r
  exact⟨_,Reads.none⟩
 |.bool b,_,_,h,r=>by
  cases h
  cases r
  exact⟨_,Reads.bool b⟩
 |.int i,_,_,h,r=>by
  cases h
  obtain⟨t,rfl⟩:=r
  exact⟨_,Reads.int i t⟩
 |.str x,_,_,h,r=>by
  cases h
  obtain⟨t,rfl⟩:=r
  exact⟨_,Reads.str x t⟩
 |.list ds,_,_,h,r=>by
  cases h with
  |lst hs ha=>
   cases r
   obtain⟨aq,rv,⟨o,n,ho,hc,_,hd⟩,_⟩:=I.list hs
   obtain⟨as,hr⟩:=Dp.readsAll I ds _ aq ha rv
   exact⟨_,Reads.list ho hc hd hr⟩
 |.tuple ds,_,_,h,r=>by
  cases h with
  |tup hs ha=>
   cases r
   obtain⟨aq,rv,⟨o,ho,hc,n,hd⟩,_⟩:=I.tuple hs
   obtain⟨as,hr⟩:=Dp.readsAll I ds _ aq ha rv
   exact⟨_,Reads.tuple ho hc hd hr⟩
 |.dict _,_,_,h,_=>by cases h
theorem Dp.readsAll(I:Inv X pins σ H s):∀(ds:List PyData) (vs:List V) (us:List Value),oZ X.K H vs ds→Vals vs us→∃as,ReadsAll s.heap us ds as
 |[],_,_,h,r=>by
  cases h
  cases r
  exact⟨_,ReadsAll.nil⟩
 |d::ds,_,_,h,r=>by
  cases h with
  |cons h1 h2=>
   cases r with
   |cons r1 r2=>
    obtain⟨as,q1⟩:=Dp.reads I d _ _ h1 r1
    obtain⟨bs,q2⟩:=Dp.readsAll I ds _ _ h2 r2
    exact⟨_,ReadsAll.cons q1 q2⟩
end
end
section
variable{X:Cx}
def zK(K:PySem.W.Frag):R2:=λx y H Q=>∃d e,Dp K H x d∧Dp K H y e∧SeqAt.shaped d=true∧SeqAt.shaped e=true∧Q (.bl (PyData.eqv d e)) H
def Hh(K:PySem.W.Frag):R2:=λx y H Q=>∃d e,Dp K H x d∧Dp K H y e∧SeqAt.shaped d=true∧SeqAt.shaped e=true∧Q (.bl (!PyData.eqv d e)) H
theorem tj(hu:X.A.units+64<cLine):eQ X (compareOp .Eq) (zK X.K):=by
 intro pins s σ H x y v u Q I rx ry h
 obtain⟨d,e,hd,he,sd,se,q⟩:=h
 obtain⟨as,r1⟩:=Dp.reads I d x v hd rx
 obtain⟨bs,r2⟩:=Dp.reads I e y u he ry
 exact SeqAt.compareEq_shaped r1 r2 sd se hu ⟨.bl _,H,I,rfl,q⟩
theorem zL(hu:X.A.units+64<cLine):eQ X (compareOp .NotEq) (Hh X.K):=by
 intro pins s σ H x y v u Q I rx ry h
 obtain⟨d,e,hd,he,sd,se,q⟩:=h
 obtain⟨as,r1⟩:=Dp.reads I d x v hd rx
 obtain⟨bs,r2⟩:=Dp.reads I e y u he ry
 exact SeqAt.compareNe_shaped r1 r2 sd se hu ⟨.bl _,H,I,rfl,q⟩
end
end L2
namespace L2
open PySem PySem.Spec PyProof.Rows
abbrev Hi(h:Heap)(c:Addr)(v:Option Value):Prop:=h.IsCell c v
def O3(scope sc:Scope):Scope:=
 {scope with names:=scope.names.map λ(n,k)=>if(k==.free&&sc.kind==.function&&sc.names.lookup n==some .cell)then(n,.cell)else(n,k)}
def fL(cells:List (Str×Addr)):List (Str×NameKind)→List (Str×Addr)→List (Str×Addr)
 |[],acc=>acc
 |(n,k)::r,acc=>if k==.free then fL cells r ((n,(cells.lookup n).getD 0)::acc)else fL cells r acc
theorem Hj(env:Env)(f:Str×NameKind→List (Str×Addr)→Sem (ForInStep (List (Str×Addr))))(hf:∀n k c,f (n,k) c=if k==.free then(do let a ←cellOf env n;pure (.yield ((n,a)::c)))else pure (.yield c)):
  ∀(names:List (Str×NameKind)) (acc:List (Str×Addr)),(∀y∈names,y.2=.free→∃c,env.cells.lookup y.1=some c)→forIn names acc f=pure (fL env.cells names acc)
 |[],acc,_=>by rw[List.forIn_nil];rfl
 |(n,k)::r,acc,h=>by
  rw[List.forIn_cons,hf]
  have ih:=λacc=>Hj env f hf r acc λy hy=>h y (List.mem_cons_of_mem _ hy)
  unfold fL
  by_cases hk:(k==NameKind.free)=true
  ·rw[if_pos hk,if_pos hk]
   obtain⟨c,hc⟩:=h (n,k) List.mem_cons_self (by simpa using hk)
   have e:cellOf env n=pure c:=by unfold cellOf;rw[hc]
   rw[e]
   have e2:(env.cells.lookup n).getD 0=c:=by rw[hc];rfl
   rw[e2]
   exact ih _
  ·rw[if_neg hk,if_neg hk]
   exact ih _
theorem O4{scope:Scope}{env:Env}(h:∀y∈scope.names,y.2=.free→∃c,env.cells.lookup y.1=some c):closureFor scope env=pure (fL env.cells scope.names []):=by
 simp only[closureFor]
 rw[Hj env _ (λn k c=>rfl) scope.names [] h]
 rfl
theorem mem_lookup{α:Type}:∀{l:List (Str×α)} {n:Str} {c:α},(n,c)∈l→∃c',l.lookup n=some c'
 |(k,v)::r,n,c,h=>by
  rw[List.lookup_cons]
  cases hb:n==k with
  |true=>exact⟨_,rfl⟩
  |false=>
   rcases List.mem_cons.mp h with e|h
   ·cases e;simp at hb
   ·exact mem_lookup h
theorem wc{cells:List (Str×Addr)}:∀{names:List (Str×NameKind)} {acc:List (Str×Addr)} {n:Str} {c:Addr},(n,c)∈fL cells names acc→(n,c)∈acc∨((n,.free)∈names∧c=(cells.lookup n).getD 0)
 |[],_,_,_,h=>.inl h
 |(m,k)::r,acc,n,c,h=>by
  unfold fL at h
  split at h
  ·rename_i hk
   have hk:k=.free:=by simpa using hk
   rcases wc h with h|⟨h1,h2⟩
   ·rcases List.mem_cons.mp h with e|h
    ·cases e;exact .inr ⟨hk▸List.mem_cons_self,rfl⟩
    ·exact .inl h
   ·exact .inr ⟨List.mem_cons_of_mem _ h1,h2⟩
  ·rcases wc h with h|⟨h1,h2⟩
   ·exact .inl h
   ·exact .inr ⟨List.mem_cons_of_mem _ h1,h2⟩
theorem zM{cells:List (Str×Addr)}:∀{names:List (Str×NameKind)} {acc:List (Str×Addr)} {p:Str×Addr},p∈acc→p∈fL cells names acc
 |[],_,_,h=>h
 |(m,k)::r,acc,p,h=>by
  unfold fL
  split
  ·exact zM (List.mem_cons_of_mem _ h)
  ·exact zM h
theorem zN{cells:List (Str×Addr)}:∀{names:List (Str×NameKind)} {acc:List (Str×Addr)} {n:Str},(n,.free)∈names→(n,(cells.lookup n).getD 0)∈fL cells names acc
 |(m,k)::r,acc,n,h=>by
  unfold fL
  rcases List.mem_cons.mp h with e|h
  ·cases e
   exact zM List.mem_cons_self
  ·split
   ·exact zN h
   ·exact zN h
theorem tm:∀{names:List (Str×NameKind)} {h:Heap} {acc:List (Str×Addr)} {x:Str} {c:Addr},(x,c)∈cellsFrom h.objs.size names acc→
  (x,c)∈acc∨((x,.cell)∈names∧h.objs.size≤c∧Hi (pushCells h names) c none)
 |[],_,_,_,_,h=>.inl h
 |(n,k)::r,h,acc,x,c,hm=>by
  unfold cellsFrom at hm
  unfold pushCells
  split at hm
  ·rename_i hk
   rw[if_pos hk]
   have hk:k=.cell:=by simpa using hk
   rw[←Heap.size_push h {cls:=.type "cell",data:=.cell none}]at hm
   rcases tm hm with hm|⟨h1,h2,h3⟩
   ·rcases List.mem_cons.mp hm with e|hm
    ·cases e
     exact .inr ⟨hk▸List.mem_cons_self,Nat.le_refl _,_,pushCells_keeps r _ _ _ (Heap.get?_push_size _ rfl),rfl⟩
    ·exact .inl hm
   ·rw[Heap.size_push]at h2
    exact .inr ⟨List.mem_cons_of_mem _ h1,Nat.le_of_succ_le h2,h3⟩
  ·rename_i hk
   rw[if_neg hk]
   rcases tm hm with hm|⟨h1,h2,h3⟩
   ·exact .inl hm
   ·exact .inr ⟨List.mem_cons_of_mem _ h1,h2,h3⟩
theorem wd:∀{names:List (Str×NameKind)} {n:Nat} {acc:List (Str×Addr)} {p:Str×Addr},p∈acc→p∈cellsFrom n names acc
 |[],_,_,_,h=>h
 |(m,k)::r,n,acc,p,h=>by
  unfold cellsFrom
  split
  ·exact wd (List.mem_cons_of_mem _ h)
  ·exact wd h
theorem zO:∀{names:List (Str×NameKind)} {n:Nat} {acc:List (Str×Addr)} {x:Str},(x,.cell)∈names→∃c,(x,c)∈cellsFrom n names acc
 |(m,k)::r,n,acc,x,h=>by
  unfold cellsFrom
  rcases List.mem_cons.mp h with e|h
  ·cases e
   exact⟨n,wd List.mem_cons_self⟩
  ·split
   ·exact zO h
   ·exact zO h
theorem zP:∀{names:List (Str×NameKind)} {h:Heap} {acc:List (Str×Addr)} {x y:Str} {c:Addr},(∀p∈acc,p.2<h.objs.size)→(∀x y c,(x,c)∈acc→(y,c)∈acc→x=y)→
  (x,c)∈cellsFrom h.objs.size names acc→(y,c)∈cellsFrom h.objs.size names acc→x=y
 |[],_,_,_,_,_,_,hi,h1,h2=>hi _ _ _ h1 h2
 |(n,k)::r,h,acc,x,y,c,hl,hi,h1,h2=>by
  unfold cellsFrom at h1 h2
  split at h1
  ·rename_i hk
   rw[if_pos hk]at h2
   rw[←Heap.size_push h {cls:=.type "cell",data:=.cell none}]at h1 h2
   refine zP (h:=h.push _) (λp hp=>?_) (λx y c a b=>?_) h1 h2
   ·rw[Heap.size_push]
    rcases List.mem_cons.mp hp with rfl|hp
    ·exact Nat.lt_succ_self _
    ·exact Nat.lt_succ_of_lt (hl p hp)
   ·rcases List.mem_cons.mp a with e|a<;>rcases List.mem_cons.mp b with e'|b
    ·cases e;cases e';rfl
    ·cases e;exact absurd (hl _ b) (Nat.lt_irrefl _)
    ·cases e';exact absurd (hl _ a) (Nat.lt_irrefl _)
    ·exact hi _ _ _ a b
  ·rename_i hk
   rw[if_neg hk]at h2
   exact zP hl hi h1 h2
theorem O5{M:Model}{A:Around}{E:Value→Shared→Prop}{s:Shared}{scope:Scope}{globals:Addr}{closure:List (Str×Addr)}{qual:Str}{func:Option Addr}{code:Value}{around:Env}{builtins:Addr}{Q:Env→Shared→Prop}(h:Q (newEnv scope s.heap.objs.size globals (cellsFrom (s.heap.objs.size+1) scope.names closure) qual func code (some around) builtins) {s with heap:=pushCells (s.heap.push {cls:=.type "dict",data:=.dict #[]}) scope.names}):
  wpAny M A (newFunctionEnv scope globals closure [] qual func code (some around) builtins) Q E s:=by
 simp only[newFunctionEnv,Option.isSome_some,if_true]
 refine wpAny_bind (wpAny_alloc ?_)
 refine wpAny_bind (wpAny_layCells _ (λn k c=>rfl) scope.names closure _ _ ?_)
 rw[show({s with heap:=s.heap.push {cls:=.type "dict",data:=.dict #[]}}:Shared).heap.objs.size=s.heap.objs.size+1 from Heap.size_push ..]
 rw[List.forIn_nil]
 exact wpAny_bind (wpAny_pure (wpAny_pure h))
theorem zQ{sc:Scope}:∀{names:List (Str×NameKind)} {x:Str} {k:NameKind},
  (names.map λ(n,k)=>if(k==NameKind.free&&sc.kind==.function&&sc.names.lookup n==some .cell)then(n,NameKind.cell)else(n,k)).lookup x=some k→
  ∃k',names.lookup x=some k'∧(k=k'∨(k'=.free∧k=.cell))
 |[],_,_,h=>by simp at h
 |(n,tq)::r,x,k,h=>by
  have ih:=@zQ sc r x k
  have h':List.lookup x ((if(tq==NameKind.free&&sc.kind==.function&&sc.names.lookup n==some .cell)=true then(n,NameKind.cell)else(n,tq))::(r.map _))=some k:=h
  cases hx:x==n with
  |true=>
   simp only[List.lookup_cons,hx]
   by_cases hc:(tq==NameKind.free&&sc.kind==.function&&sc.names.lookup n==some .cell)=true
   ·rw[if_pos hc]at h'
    simp only[List.lookup_cons,hx]at h'
    cases h'
    simp only[Bool.and_eq_true,beq_iff_eq]at hc
    exact⟨tq,rfl,.inr ⟨hc.1.1,rfl⟩⟩
   ·rw[if_neg hc]at h'
    simp only[List.lookup_cons,hx]at h'
    cases h'
    exact⟨_,rfl,.inl rfl⟩
  |false=>
   simp only[List.lookup_cons,hx]
   by_cases hc:(tq==NameKind.free&&sc.kind==.function&&sc.names.lookup n==some .cell)=true
   ·rw[if_pos hc]at h'
    simp only[List.lookup_cons,hx]at h'
    exact ih h'
   ·rw[if_neg hc]at h'
    simp only[List.lookup_cons,hx]at h'
    exact ih h'
structure tw(N:List Str)(sc scope:Scope)(own:List (Str×Nat)):Prop where
 kind:scope.kind=.function
 uniq:∀y∈scope.names,scope.names.lookup y.1=some y.2
 ix:∀p∈own,N[p.2]?=some p.1
 free:∀y∈scope.names,y.2=.free→sc.names.lookup y.1=some .cell∨sc.names.lookup y.1=some .free
 own:∀y∈scope.names,y.2=.local∨y.2=.cell→y.1∈own.map (·.1)∨y.1∉N
def wipe(σ:St):List Nat→St
 |[]=>σ
 |v::vs=>(wipe σ vs).set v none
theorem zR(σ:St):∀vs:List Nat,(wipe σ vs).length=σ.length
 |[]=>rfl
 |v::vs=>by unfold wipe;rw[List.length_set,zR σ vs]
theorem zS{σ:St}{i:Nat}{x:V}:∀{vs:List Nat},(wipe σ vs)[i]?=some (some x)→σ[i]?=some (some x)∧i∉vs
 |[],h=>⟨h,by simp⟩
 |v::vs,h=>by
  unfold wipe at h
  by_cases hi:v=i
  ·subst hi
   by_cases hv:v<(wipe σ vs).length
   ·rw[List.getElem?_set_self hv]at h;cases h
   ·rw[List.getElem?_eq_none (by simpa using hv)]at h;cases h
  ·rw[List.getElem?_set_ne hi]at h
   obtain⟨h1,h2⟩:=zS h
   exact⟨h1,by simp only[List.mem_cons,not_or];exact⟨λe=>hi e.symm,h2⟩⟩
abbrev Cx.gk(X:Cx)(s:Shared)(H:Hp)(scope:Scope)(d9:Env)(fp:List Addr):Cx:={X with d4:=s,H_0:=H,env:=d9,outer:=X.stack,ex:=fp,fn:=λx=>scope.names.lookup x==some .cell,pn:=[],xe:=λ_ _=>False}
section
variable{X:Cx}{pins:List (Addr×Obj)}{σ:St}{H:Hp}{s:Shared}
theorem O6{scope:Scope}{own:List (Str×Nat)}{fp:List Addr}(I:Inv X pins σ H s)(ok:tw X.N X.env.scope scope own)(hN:X.N.Nodup)(qy:∀b∈fp,js X pins H b∧b<s.heap.objs.size):
  Inv (X.gk s H scope (compEnvC scope (cellsFrom (s.heap.objs.size+1) scope.names (fL X.env.cells scope.names [])) s.heap.objs.size X.env) fp) [] (wipe σ (own.map (·.2))) H {s with heap:=pushCells (s.heap.push {cls:=.type "dict",data:=.dict #[]}) scope.names}:=by
 have qi:∀y∈scope.names,y.2=.free→∃c,X.env.cells.lookup y.1=some c:=λy hy e=>by
  rcases ok.free y hy e with k|k
  ·exact I.ok.has _ (.inl k)
  ·exact I.ok.has _ (.inr k)
 generalize tD:compEnvC scope (cellsFrom (s.heap.objs.size+1) scope.names (fL X.env.cells scope.names [])) s.heap.objs.size X.env=d9
 have kp:∀b o,s.heap.get? b=some o→(pushCells (s.heap.push {cls:=.type "dict",data:=.dict #[]}) scope.names).get? b=some o:=λb o e=>pushCells_keeps _ _ _ _ (Heap.get?_push_of_some _ e)
 have hL:d9.locals=s.heap.objs.size:=by rw[←tD];rfl
 have iA:d9.cells=cellsFrom (s.heap.objs.size+1) scope.names (fL X.env.cells scope.names []):=by rw[←tD];rfl
 have zT:d9.scope=O3 scope X.env.scope:=by rw[←tD];rfl
 rw[←Heap.size_push s.heap {cls:=.type "dict",data:=.dict #[]}]at iA
 have cm:∀{y c},(y,c)∈fL X.env.cells scope.names []→X.env.cells.lookup y=some c∧c<s.heap.objs.size:=λ{y c} hm=>by
  rcases wc hm with hm|⟨h1,rfl⟩
  ·cases hm
  ·obtain⟨c,hc⟩:=qi _ h1 rfl
   rw[hc]
   obtain⟨w,z⟩:=I.cell _ _ hc
   exact⟨rfl,z.lt⟩
 have mem:∀{y c},d9.cells.lookup y=some c→(X.env.cells.lookup y=some c∧c<s.heap.objs.size)∨(s.heap.objs.size+1≤c∧Hi (pushCells (s.heap.push {cls:=.type "dict",data:=.dict #[]}) scope.names) c none):=λ{y c} e=>by
  rw[iA]at e
  rcases tm (PySem.mem_of_lookup e)with hm|⟨_,h2,h3⟩
  ·exact .inl (cm hm)
  ·rw[Heap.size_push]at h2;exact .inr ⟨h2,h3⟩
 have look:∀{y},scope.names.lookup y=some .free→∃c,d9.cells.lookup y=some c∧X.env.cells.lookup y=some c:=λ{y} hl=>by
  have hy:(y,NameKind.free)∈scope.names:=PySem.mem_of_lookup hl
  obtain⟨c',e'⟩:=mem_lookup (wd (names:=scope.names) (n:=(s.heap.push {cls:=.type "dict",data:=.dict #[]}).objs.size) (zN (cells:=X.env.cells) (acc:=[]) hy))
  rw[←iA]at e'
  refine⟨c',e',?_⟩
  rw[iA]at e'
  rcases tm (PySem.mem_of_lookup e')with hm|⟨h1,_,_⟩
  ·exact(cm hm).1
  ·have:=ok.uniq _ h1
   rw[hl]at this;cases this
 have O7:(X.gk s H scope d9 fp).Ok:=by
  refine⟨I.ok.mod,by show d9.scope.kind=_;rw[zT];exact ok.kind,by show d9.globals=_;rw[←tD];exact I.ok.glob,by show d9.builtins=_;rw[←tD];exact I.ok.blt,by show s.heap.objs.size≤d9.locals;rw[hL];exact Nat.le_refl _,
   λy z c e1 e2=>?_,λy hy=>?_,λy c z e=>?_,I.ok.hd,I.ok.frames,.inl rfl,λb hb=>⟨?_,λy c e z=>?_⟩,I.bs,Nat.le_trans I.ok.jR I.sz,λb o e hb=>?_,λb hb z=>?_,I.stack,I.yX⟩
  ·have e1:d9.cells.lookup y=some c:=e1
   have e2:d9.cells.lookup z=some c:=e2
   rw[iA]at e1 e2
   refine zP (λp hp=>?_) (λy z c a b=>I.ok.inj y z c (cm a).1 (cm b).1) (PySem.mem_of_lookup e1) (PySem.mem_of_lookup e2)
   rw[Heap.size_push]
   exact Nat.lt_succ_of_lt (cm (y:=p.1) (c:=p.2) hp).2
  ·show∃c,d9.cells.lookup y=some c
   have key:∀k,d9.kindOf y=some k→(k=.cell∨k=.free)→∃c,d9.cells.lookup y=some c:=λk hk zU=>by
    unfold Env.kindOf at hk
    rw[zT]at hk
    obtain⟨k',e,r⟩:=zQ hk
    have:k'=.cell∨k'=.free:=by
     rcases r with rfl|⟨rfl,_⟩
     ·exact zU
     ·exact .inr rfl
    rcases this with rfl|rfl
    ·obtain⟨c,hm⟩:=zO (n:=(s.heap.push {cls:=.type "dict",data:=.dict #[]}).objs.size) (acc:=fL X.env.cells scope.names []) (PySem.mem_of_lookup e)
     obtain⟨c',e'⟩:=mem_lookup hm
     exact⟨c',by rw[iA];exact e'⟩
    ·obtain⟨c,h1,_⟩:=look e
     exact⟨c,h1⟩
   rcases hy with hy|hy
   ·exact key _ hy (.inl rfl)
   ·exact key _ hy (.inr rfl)
  ·have z:(scope.names.lookup y==some NameKind.cell)=true:=z
   have z:scope.names.lookup y=some .cell:=by simpa using z
   have e:d9.cells.lookup y=some c:=e
   rw[iA]at e
   rcases tm (PySem.mem_of_lookup e)with hm|⟨_,h2,_⟩
   ·rcases wc hm with hm|⟨h1,_⟩
    ·cases hm
    ·have q:=ok.uniq _ h1
     rw[z]at q;cases q
   ·rw[Heap.size_push]at h2
    exact Nat.le_of_succ_le h2
  ·show b≠d9.locals
   rw[hL];exact Nat.ne_of_lt (qy b hb).2
  ·have e:d9.cells.lookup y=some c:=e
   rcases mem e with⟨h1,_⟩|⟨h1,_⟩
   ·exact(qy b hb).1.2.2.2.2.1 y c h1 z
   ·have h2:s.heap.objs.size+1≤b:=by rw[←z];exact h1
    exact absurd (Nat.lt_of_lt_of_le (qy b hb).2 (Nat.le_of_succ_le h2)) (Nat.lt_irrefl _)
  ·rcases(qy b hb).1.2.2.2.1 with z|z
   ·exact I.ok.oJ b o e z
   ·exact absurd (Nat.lt_of_lt_of_le (Heap.lt_size e) (Nat.le_trans I.ok.jR z)) (Nat.lt_irrefl _)
  ·rcases List.mem_cons.mp (I.sG b z)with z|z
   ·exact(qy b hb).1.2.1 z
   ·exact(qy b hb).1.2.2.1 z
 refine⟨O7,rfl,I.bare,Un.kept kp,⟨λ_=>none,?_,λi y av e1 e2 e3=>?_⟩,λy c e=>?_,?_,λy c e=>?_,λp hp=>?_,I.aK.kept kp,by rw[zR];exact I.len⟩
 ·show Heap.Ns _ d9.locals _
  rw[hL]
  exact Heap.Ns.keeps (Heap.Ns.new ..) λb o e=>pushCells_keeps _ _ _ _ e
 ·obtain⟨e2,iz⟩:=zS e2
  have nj:scope.names.lookup y=some .free∧(d9.kindOf y=some .cell∨d9.kindOf y=some .free):=by
   have key:∀k,d9.scope.names.lookup y=some k→k=.local∨k=.cell∨k=.free→scope.names.lookup y=some .free∧(d9.kindOf y=some .cell∨d9.kindOf y=some .free):=λk hk zU=>by
    have iN:=hk
    rw[zT]at hk
    obtain⟨k',e,r⟩:=zQ hk
    have no:¬(k'=.local∨k'=.cell):=λhh=>by
     rcases ok.own _ (PySem.mem_of_lookup e) hh with e'|e'
     ·obtain⟨p,hp,O8⟩:=List.mem_map.mp e'
      have e3:=ok.ix p hp
      have:p.1=y:=O8
      rw[this]at e3
      exact iz (List.mem_map.mpr ⟨p,hp,vJ hN e3 e1⟩)
     ·exact e' (List.mem_of_getElem? e1)
    rcases r with rfl|⟨rfl,rfl⟩
    ·rcases zU with rfl|rfl|rfl
     ·exact absurd (.inl rfl) no
     ·exact absurd (.inr rfl) no
     ·exact⟨e,.inr iN⟩
    ·exact⟨e,.inl iN⟩
   have e3:qe d9.scope y:=e3
   rcases e3 with e3|e3|e3
   ·exact key _ e3 (.inl rfl)
   ·exact key _ e3 (.inr (.inl rfl))
   ·exact key _ e3 (.inr (.inr rfl))
  obtain⟨m,hn,hl⟩:=I.loc
  have O9:qe X.env.scope y:=(ok.free _ (PySem.mem_of_lookup nj.1) rfl).elim (λk=>.inr (.inl k)) (λk=>.inr (.inr k))
  obtain⟨w,r,q⟩:=hl i y av e1 e2 O9
  refine⟨w,r,.inr ⟨nj.2,?_⟩⟩
  obtain⟨c,h1,h2⟩:=look nj.1
  rcases q with⟨k,_⟩|⟨_,c',e',z⟩
  ·have k:X.env.scope.names.lookup y=some .local:=k
   rcases ok.free _ (PySem.mem_of_lookup nj.1) rfl with k'|k'<;>rw[show X.env.scope.names.lookup y=_ from k']at k<;>cases k
  ·rw[h2]at e';cases e'
   exact⟨c,h1,z.keeps kp⟩
 ·have e:d9.cells.lookup y=some c:=e
  rcases mem e with⟨h1,_⟩|⟨_,z⟩
  ·obtain⟨w,z⟩:=I.cell y c h1
   exact⟨w,z.keeps kp⟩
  ·exact⟨_,z⟩
 ·show H d9.locals=none
  rw[hL];exact I.aK.fresh (Nat.le_refl _)
 ·have e:d9.cells.lookup y=some c:=e
  rcases mem e with⟨h1,_⟩|⟨h1,_⟩
  ·exact I.fW y c h1
  ·exact I.aK.fresh (Nat.le_of_succ_le h1)
 ·exact absurd (show p∈([]:List (Addr×Obj))++[]from hp) (by simp)
theorem O_{E:Value→Shared→Prop}{D:Addr}{xs:List V}{y:V}{v:Value}{Q:Value→Shared→Prop}(I:Inv X pins σ H s)(hD:H D=some (.lst xs))(hz:xs.length<sizeLine)(r:RelV y v)(h:∀s',Inv X pins σ (upd H D (.lst (xs++[y]))) s'→Q .none s'):wpAny (model X.prog X.w) X.A (call (.builtin "list.append") [.ref D,v]) Q E s:=by
 obtain⟨we,aq,n,ri,e⟩:=I.aK D _ hD
 have hl:=ri.length
 refine append_at (hsz:=by rw[List.size_toArray];omega) e λh' sb iK=>?_
 refine h {s with heap:=h'} (I.write (t':=s.toks) (by rw[hD];trivial) (.inl rfl) (λb u hb q=>(sb.2 b hb).trans q) ⟨_,iK⟩ ⟨by rw[List.length_append];exact hz,aq++[v],n+1,ri.append (.cons r .nil),?_⟩)
 rw[iK]
 simp
def wg(X:Cx)(ifs:List Expr)(t:TT):Prop:=
 ∀(pins:List (Addr×Obj)) (s:Shared) (σ:St) (H:Hp) (Q:Bool→Hp→Prop),Inv X pins σ H s→t σ H Q→
  wpAny (model X.prog X.w) X.A (forIn ifs true λc r=>if r=true then do let ok ←isTrue c X.env (eval c X.env);pure (ForInStep.yield ok)else pure (ForInStep.yield r)) (TP X pins σ Q) X.xe s
def Hk:TT:=λ_ H Q=>Q true H
theorem qz:wg X [] Hk:=λ_ _ _ H _ I h=>wpAny_tests_nil ⟨H,I,h⟩
end
theorem qA{α:Type}{t:Sem α}{Q Q':α→Shared→Prop}{M:Model}{A:Around}{E:Value→Shared→Prop}{s:Shared}(h:wpAny M A t Q (λ_ _=>False) s)(hQ:∀a s,Q a s→Q' a s):wpAny M A t Q' E s:=wpAny_mono h hQ λ_ _ z=>False.elim z
theorem Pa{prog:Program}{w:World}{A:Around}{R:Result→Shared→Prop}{s:Shared}{elt target iter:Expr}{ifs:List Expr}{scope:Scope}{pos:Pos}{it acc:Value}{env:Env}(I:Nat→Shared→Prop)(turn:∀n s,I n s→wpAny (model prog w) A (pyNext it) (λr cb=>match r with|none=>R (.ok .next) cb|some v=>wpAny (model prog w) A (letOwnedTupleGo target it v) (λ_ Hl=>wpAny (model prog w) A (assign target env v) (λ_ jr=>wpAny (model prog w) A (forIn ifs true λc r=>if r=true then do let ok ←isTrue c env (eval c env);pure (ForInStep.yield ok)else pure (ForInStep.yield r)) (λok sM=>if ok=true then wpAny (model prog w) A (eval elt env) (λx Hm=>wpAny (model prog w) A (call (.builtin "list.append") [acc,x]) (λ_ Hn=>∃m,m<n∧I m Hn) (notedBy (model prog w) A env λe s'=>R (.error e) s') Hm) (notedBy (model prog w) A env λe s'=>R (.error e) s') sM else∃m,m<n∧I m sM) (notedBy (model prog w) A env λe s'=>R (.error e) s') jr) (notedBy (model prog w) A env λe s'=>R (.error e) s') Hl) (notedBy (model prog w) A env λe s'=>R (.error e) s') cb) (notedBy (model prog w) A env λe s'=>R (.error e) s') s)(n:Nat)(h:I n s):
  codeAny (model prog w) A (.compLoop (.ListComp elt [⟨target,iter,ifs,0⟩] scope pos) 0 it acc env) R s:=by
 refine codeAny_loop rfl I (λn s hI=>?_) n h
 show wpAny _ A ((compTurn (.ListComp elt [⟨target,iter,ifs,0⟩] scope pos) 0 it acc env).onRaise (λx=>do noteFrame x env;theTreesLotGoes x)) _ _ s
 refine wpAny_noted ?_
 rw[compTurn_list]
 refine wpAny_bind (wpAny_standAt (wpAny_bind (wpAny_mono (turn n s hI) (λr cb Ho=>?_) λ_ _ h'=>h')))
 cases r with
 |none=>exact wpAny_pure Ho
 |some v=>
  refine wpAny_bind (wpAny_mono Ho (λ_ Hl Pb=>?_) λ_ _ h'=>h')
  refine wpAny_bind (wpAny_mono Pb (λ_ jr Pc=>wpAny_bind (wpAny_mono Pc (λok sM Hq=>?_) λ_ _ h'=>h')) λ_ _ h'=>h')
  cases ok with
  |false=>exact wpAny_pure ⟨rfl,Hq⟩
  |true=>
   exact wpAny_bind (wpAny_bind (wpAny_mono Hq (λx Hm Pd=>wpAny_bind (wpAny_mono Pd (λ_ Hn Pe=>wpAny_pure (wpAny_pure ⟨rfl,Pe⟩)) λ_ _ h'=>h')) λ_ _ h'=>h'))
section
variable{X:Cx}
def tE(wi:TI)(g:TG)(tt:TT)(te:TE)(vs:List Nat):TE:=λσ H Q=>wi σ H λJ H1=>∀D,H1 D=none→∃W:Nat→Nat→Hp→Prop,(∃m,W 0 m (upd H1 D (.lst [])))∧∀i m H,W i m H→
 (J.stop i H∧Q (.ref D) H)∨(J.go i H∧∃Nx:Hp→Prop,(∀U,Nx U→∃m',m'<m∧W (i+1) m' U)∧∀x U,J.iL i H x U→g x (wipe σ vs) U λbr H2=>wipe br vs=wipe σ vs∧tt br H2 λb H3=>
  if b=true then te br H3 λy H4=>∃acc,H4 D=some (.lst acc)∧acc.length<sizeLine∧Nx (upd H4 D (.lst (acc++[y])))else Nx H3)
theorem Hr{pins:List (Addr×Obj)}{s:Shared}{σ:St}{H:Hp}{Q:VK}{elt tg iter:Expr}{ifs:List Expr}{scope:Scope}{own:List (Str×Nat)}{pos pos':Pos}{wi:TI}{g:TG}{tt:TT}{te:TE}{use:Option (Value→Sem Unit)}{Qf:Value→Shared→Prop}(hc:X.calm=true)(hN:X.N.Nodup)(I:Inv X pins σ H s)(hi:PI X tg iter wi)(ok:tw X.N X.env.scope scope own)(hg:∀(s:Shared) (H:Hp) (C:Addr) (cl:List (Str×Addr)) (fp:List Addr),PG (X.gk s H scope (compEnvC scope cl C X.env) fp) tg g)(ht:∀(s:Shared) (H:Hp) (C:Addr) (cl:List (Str×Addr)) (fp:List Addr),wg (X.gk s H scope (compEnvC scope cl C X.env) fp) ifs tt)(he:∀(s:Shared) (H:Hp) (C:Addr) (cl:List (Str×Addr)) (fp:List Addr),PE (X.gk s H scope (compEnvC scope cl C X.env) fp) elt te)(hs:∀x,foldedSetIterable iter X.env x=pure x)(h:tE wi g tt te (own.map (·.2)) σ H Q)(Pf:∀D C s' m U,Inv X pins σ U s'→Q (.ref D) U→s'.heap.Ns C m→js X pins U C→compPost (model X.prog X.w) X.A X.xe use Qf (.ref D) C (.ok .next) s'):
  wpAny (model X.prog X.w) X.A (comprehension (.ListComp elt [⟨tg,iter,ifs,0⟩] scope pos) scope X.env pos' (newList []) false (eval iter X.env) use) Qf X.xe s:=by
 have qi:∀y∈scope.names,y.2=.free→∃c,X.env.cells.lookup y.1=some c:=λy hy e=>by
  rcases ok.free y hy e with k|k
  ·exact I.ok.has _ (.inl k)
  ·exact I.ok.has _ (.inr k)
 refine wpAny_comprehension_free (use:=use) rfl hs (O4 qi) ok.kind (λy hy e=>by rw[ok.uniq y hy,e])
  (a8 (hi pins s σ H _ I h) λxv s1 hx=>a8 hx λzb s2 h2=>?_)
 obtain⟨it,fp,tn,J,H2,e,I2,T,vV,f2,q⟩:=h2
 subst e
 refine wpAny_newObj_type (O5 ?_) (by show 0≤sizeLine;decide)
 generalize hD:s2.heap.objs.size=D
 have Pg:H2 D=none:=I2.aK.fresh (Nat.le_of_eq hD)
 obtain⟨W,⟨m0,w0⟩,turn⟩:=q D Pg
 generalize Hs:({s2 with heap:=s2.heap.push {cls:=.type "list",data:=.seq ([]:List Value).toArray}}:Shared)=s3
 have I3:Inv X pins σ (upd H2 D (.lst [])) s3:=by
  rw[←Hs]
  refine I2.laid (t':=s2.toks) (λb o e=>Heap.get?_push_of_some _ e) (Nat.le_of_eq hD) ⟨Nat.zero_le _,[],0,.nil,?_⟩
  rw[←hD]
  exact Heap.get?_push_size _ rfl
 have h3:s3.heap=s2.heap.push {cls:=.type "list",data:=.seq ([]:List Value).toArray}:=by rw[←Hs]
 have sz:∀b∈fp,b<s2.heap.objs.size:=λb hb=>by
  obtain⟨o,e,_⟩:=T.obj _ _ vV b hb
  exact Heap.lt_size e
 have f3:∀b∈fp,js X pins (upd H2 D (.lst [])) b∧b<s3.heap.objs.size:=λb hb=>by
  have bw:=sz b hb
  refine⟨⟨?_,(f2 b hb).2⟩,by rw[h3,Heap.size_push];exact Nat.lt_succ_of_lt bw⟩
  rw[aG (by rw[←hD];exact Nat.ne_of_lt bw)]
  exact(f2 b hb).1
 have vW:tn 0 s3.heap:=T.keep _ _ _ vV λb _ o e=>by rw[h3];exact Heap.get?_push_of_some _ e
 have I4:=O6 I3 ok hN f3
 have pg:=hg s3 (upd H2 D (.lst [])) s3.heap.objs.size (cellsFrom (s3.heap.objs.size+1) scope.names (fL X.env.cells scope.names [])) fp
 have pt:=ht s3 (upd H2 D (.lst [])) s3.heap.objs.size (cellsFrom (s3.heap.objs.size+1) scope.names (fL X.env.cells scope.names [])) fp
 have pe:=he s3 (upd H2 D (.lst [])) s3.heap.objs.size (cellsFrom (s3.heap.objs.size+1) scope.names (fL X.env.cells scope.names [])) fp
 show codeAny _ _ (.compStart (.ListComp elt [⟨tg,iter,ifs,0⟩] scope pos) 0 (.ref it) (.ref D) (compEnvC scope (cellsFrom (s3.heap.objs.size+1) scope.names (fL X.env.cells scope.names [])) s3.heap.objs.size X.env)) (compPost (model X.prog X.w) X.A X.xe use Qf (.ref D) s3.heap.objs.size) {s3 with heap:=pushCells (s3.heap.push {cls:=.type "dict",data:=.dict #[]}) scope.names}
 have Ht:∀b∈fp,(upd H2 D (.lst [])) b=none:=λb hb=>(f3 b hb).1.1
 generalize lY:compEnvC scope (cellsFrom (s3.heap.objs.size+1) scope.names (fL X.env.cells scope.names [])) s3.heap.objs.size X.env=ce at I4 pg pt pe⊢
 have cL:ce.locals=s3.heap.objs.size:=by subst lY;rfl
 generalize hH3:upd H2 D (.lst [])=H3 at I3 I4 pg pt pe w0 Ht f3
 generalize Ph:({s3 with heap:=pushCells (s3.heap.push {cls:=.type "dict",data:=.dict #[]}) scope.names}:Shared)=s4 at I4⊢
 have wj:tn 0 s4.heap:=T.keep _ _ _ vW λb _ o e=>by rw[←Ph];exact pushCells_keeps _ _ _ _ (Heap.get?_push_of_some _ e)
 have oO:∀{az:St} {U:Hp} {s':Shared},Inv (X.gk s3 H3 scope ce fp) [] az U s'→(∀b∈fp,U b=none)→∀b∈fp,js (X.gk s3 H3 scope ce fp) [] U b:=λ{az U s'} I' hn b hb=>
  ⟨hn b hb,(I'.ok.qg b hb).1,I'.ok.oK b hb,.inl hb,λx c e=>(I'.ok.qg b hb).2 x c e,λp hp=>absurd (show p∈([]:List (Addr×Obj))++[]from hp) (by simp)⟩
 have loop:codeAny (model X.prog X.w) X.A (.compLoop (.ListComp elt [⟨tg,iter,ifs,0⟩] scope pos) 0 (.ref it) (.ref D) ce) (compPost (model X.prog X.w) X.A X.xe use Qf (.ref D) s3.heap.objs.size) s4:=by
  refine Pa (λn s'=>∃i U,Inv (X.gk s3 H3 scope ce fp) [] (wipe σ (own.map (·.2))) U s'∧tn i s'.heap∧(∀b∈fp,U b=none)∧W i n U) ?_ m0 ⟨0,H3,I4,wj,Ht,w0⟩
  rintro n s5 ⟨i,H5,I5,m3,n5,w5⟩
  rcases turn i n H5 w5 with⟨stop,qq⟩|⟨go,Nx,Pj,step⟩
  ·have td:=T.done (X.gk s3 H3 scope ce fp) rfl rfl rfl hc i [] s5 _ H5 (λ_ _=>False) I5 (oO I5 n5) m3 stop
   refine qA td λr s6 ⟨hr,I6⟩=>?_
   subst hr
   have I7:Inv X pins σ H5 s6:=I3.FZ (ch:=fp) I6.os I6.base I6.aK I6.bare λb hb=>⟨(f3 b hb).1.2.2.2.1,(f3 b hb).1.2.1,(f3 b hb).1.2.2.2.2.1,(f3 b hb).1.2.2.2.2.2⟩
   have nC:H5 s3.heap.objs.size=none:=by
    have z:H5 ce.locals=none:=I6.free
    rw[cL]at z
    exact z
   obtain⟨m,hn,_⟩:=I6.loc
   have hn:s6.heap.Ns ce.locals m:=hn
   rw[cL]at hn
   exact Pf D s3.heap.objs.size s6 m H5 I7 qq hn (I3.mY (Nat.le_refl _) nC)
  ·have ti:=T.item (X.gk s3 H3 scope ce fp) rfl rfl rfl hc i [] s5 _ H5 (λ_ _=>False) I5 (oO I5 n5) m3 go
   refine qA ti λr s6 ⟨u,hr,h6⟩=>?_
   subst hr
   refine qA h6 λ_ s7 ⟨x,H7,I7,r7,y7,zV,n7⟩=>?_
   have Pk:=I7.pinned (oO I7 n7) (T.obj _ _ zV)
   refine qA (pg _ s7 _ H7 x u _ Pk r7 (step x H7 y7)) λ_ s8 ⟨wk,H8,I8,Hu,q8⟩=>?_
   refine qA (pt _ s8 wk H8 _ I8 q8) λb s9 ⟨H9,I9,q9⟩=>?_
   have fin:∀{s':Shared} {U:Hp},Inv (X.gk s3 H3 scope ce fp) ([]++sN fp s7.heap) wk U s'→Nx U→∃m,m<n∧∃i U,Inv (X.gk s3 H3 scope ce fp) [] (wipe σ (own.map (·.2))) U s'∧tn i s'.heap∧(∀b∈fp,U b=none)∧W i m U:=λ{s' U} I' nx=>by
    obtain⟨m',hm,w'⟩:=Pj U nx
    have Hv:∀b∈fp,∀o,s7.heap.get? b=some o→s'.heap.get? b=some o∧U b=none:=λb hb o e=>
     let z:=I'.pin (b,o) (List.mem_append_right _ (List.mem_append_right _ (zf hb e)))
     ⟨z.1,z.2.1⟩
    have hl:(wipe σ (own.map (·.2))).length=wk.length:=by rw[←Hu,zR]
    refine⟨m',hm,i+1,U,(I'.vU (pins:=[])).weak hl (λj v e=>?_),T.keep _ _ _ zV λb hb o e=>(Hv b hb o e).1,λb hb=>?_,w'⟩
    ·rw[←Hu]at e
     exact(zS e).1
    ·obtain⟨o,e,_⟩:=T.obj _ _ zV b hb
     exact(Hv b hb o e).2
   cases b with
   |false=>
    simp only[Bool.false_eq_true,if_false]at q9⊢
    exact fin I9 q9
   |true=>
    simp only[if_true]at q9⊢
    refine qA (pe _ s9 wk H9 _ I9 q9) λz s10 ⟨yv,Pl,Pn,Po,acc,Pp,Pq,nx⟩=>?_
    exact O_ (X:=X.gk s3 H3 scope ce fp) Pn Pp Pq Po λs11 Pr=>fin Pr nx
 exact codeAny_compStart_list loop (T.self X.A 0 _ _ _ wj loop)
theorem tF{elt tg iter:Expr}{ifs:List Expr}{scope:Scope}{own:List (Str×Nat)}{pos:Pos}{wi:TI}{g:TG}{tt:TT}{te:TE}(hc:X.calm=true)(hN:X.N.Nodup)(hi:PI X tg iter wi)(ok:tw X.N X.env.scope scope own)(hg:∀(s:Shared) (H:Hp) (C:Addr) (cl:List (Str×Addr)) (fp:List Addr),PG (X.gk s H scope (compEnvC scope cl C X.env) fp) tg g)(ht:∀(s:Shared) (H:Hp) (C:Addr) (cl:List (Str×Addr)) (fp:List Addr),wg (X.gk s H scope (compEnvC scope cl C X.env) fp) ifs tt)(he:∀(s:Shared) (H:Hp) (C:Addr) (cl:List (Str×Addr)) (fp:List Addr),PE (X.gk s H scope (compEnvC scope cl C X.env) fp) elt te)(hs:∀x,foldedSetIterable iter X.env x=pure x:=by intro _;rfl):
  PE X (.ListComp elt [⟨tg,iter,ifs,0⟩] scope pos) (tE wi g tt te (own.map (·.2))):=by
 intro pins s σ H Q I h
 rw[eval_ListComp]
 refine Hr hc hN I hi ok hg ht he hs h λD C s' m U I' q hn f=>⟨m,hn,λh7 sb=>?_⟩
 obtain⟨f0,f1,f2,f3,f4,f5⟩:=f
 exact⟨.ref D,U,I'.turned (t':=s'.toks) (λb o hb e=>(sb.2 b hb).trans e) f0 f1 f3 f4 f5,rfl,q⟩
theorem Pt{i:Nat}{y:Str}{py:Pos}{elt tg iter:Expr}{ifs:List Expr}{scope:Scope}{own:List (Str×Nat)}{pos Hw:Pos}{wi:TI}{g:TG}{tt:TT}{te:TE}(hc:X.calm=true)(hN:X.N.Nodup)(hy:X.N[i]?=some y)(Hx:X.env.scope.names.lookup y=some .local)(Pu:swapsWith (.ListComp elt [⟨tg,iter,ifs,0⟩] scope pos) (some (.Name y py)) Hw.line X.env=pure true)(hi:PI X tg iter wi)(ok:tw X.N X.env.scope scope own)(hg:∀(s:Shared) (H:Hp) (C:Addr) (cl:List (Str×Addr)) (fp:List Addr),PG (X.gk s H scope (compEnvC scope cl C X.env) fp) tg g)(ht:∀(s:Shared) (H:Hp) (C:Addr) (cl:List (Str×Addr)) (fp:List Addr),wg (X.gk s H scope (compEnvC scope cl C X.env) fp) ifs tt)(he:∀(s:Shared) (H:Hp) (C:Addr) (cl:List (Str×Addr)) (fp:List Addr),PE (X.gk s H scope (compEnvC scope cl C X.env) fp) elt te)(hs:∀x,foldedSetIterable iter X.env x=pure x:=by intro _;rfl):
  PS X (.Assign [.Name y py] (.ListComp elt [⟨tg,iter,ifs,0⟩] scope pos) Hw) (za (tE wi g tt te (own.map (·.2))) (gD i)):=by
 intro pins s σ H D I h
 rw[exec_Assign_Name_used _ _ _ _ Pu]
 refine wpAny_bind (wpAny_standAt (wpAny_bind ?_))
 show wpAny _ X.A (do let _ ←comprehension (.ListComp elt [⟨tg,iter,ifs,0⟩] scope pos) scope X.env (firstIterPos [⟨tg,iter,ifs,0⟩] pos) (newList []) false (eval iter X.env) (some (assign (.Name y py) X.env))) _ _ s
 have h:tE wi g tt te (own.map (·.2)) σ H (λx H1=>gD i x σ H1 D.nx):=h
 refine wpAny_bind (a8 (Hr (Qf:=λ_ s'=>SP X pins D .next s') hc hN I hi ok hg ht he hs h λL C s' m U I' q hn f=>?_) λ_ s' hq=>wpAny_pure (wpAny_pure hq))
 show wpAny _ _ (assign (.Name y py) X.env (.ref L)) _ _ _
 refine wpAny_assign_Name (FW (v:=V.ref L) I' hN hy (.inl Hx) rfl (λs2 I2 ⟨a,sb,ha⟩=>?_) (.inr Hx))
 obtain⟨f0,f1,f2,f3,f4,f5⟩:=f
 have Pw:C≠a:=by
  rcases ha with z|z
  ·rw[z];exact f1
  ·exactλe=>f4 y a z e.symm
 refine⟨m,hn.sameBut sb Pw,λh3 Px=>?_⟩
 exact⟨_,U,I2.turned (t':=s2.toks) (λb o hb e=>(Px.2 b hb).trans e) f0 f1 f3 f4 f5,q⟩
theorem Py{elt:Expr}{gs:List Comprehension}{scope:Scope}{pos py:Pos}{y:Str}{l:Nat}{env:Env}(hk:env.scope.kind=.function)(hy:env.scope.names.lookup y=some .local)(hl:(py.line==pos.line)=true)(ha:(scope.names.any λ(n,k)=>n==y&&(k==.local||k==.cell))=false):swapsWith (.ListComp elt gs scope pos) (some (.Name y py)) l env=pure true:=by
 have ky:env.kindOf y=some .local:=hy
 have hb:env.blockKind=.function:=by unfold Env.blockKind;rw[hk];rfl
 unfold swapsWith
 simp only[hb,ky,ha,Expr.pos,hl]
 rfl
end
theorem wm{K:PySem.W.Frag}{a:Addr}{xs:List V}{g:TG}{tt:TT}{te:TE}{vs:List Nat}{σ:St}{H1:Hp}{D:Addr}{Qd:Hp→Prop}(Pv:Nat→Hp→Prop)(h0:Pv 0 (upd H1 D (.lst [])))(hl:∀i H,i≤xs.length→Pv i H→ah K H a xs)(hs:∀i x H,xs[i]?=some x→Pv i H→g x (wipe σ vs) H λbr H2=>wipe br vs=wipe σ vs∧tt br H2 λb H3=>if b=true then te br H3 λy H4=>∃acc,H4 D=some (.lst acc)∧acc.length<sizeLine∧Pv (i+1) (upd H4 D (.lst (acc++[y])))else Pv (i+1) H3)(hd:∀H,Pv xs.length H→Qd H):
  ∃W:Nat→Nat→Hp→Prop,(∃m,W 0 m (upd H1 D (.lst [])))∧∀i m H,W i m H→
   ((lU K a).stop i H∧Qd H)∨((lU K a).go i H∧∃Nx:Hp→Prop,(∀U,Nx U→∃m',m'<m∧W (i+1) m' U)∧∀x U,(lU K a).iL i H x U→g x (wipe σ vs) U λbr H2=>wipe br vs=wipe σ vs∧tt br H2 λb H3=>
    if b=true then te br H3 λy H4=>∃acc,H4 D=some (.lst acc)∧acc.length<sizeLine∧Nx (upd H4 D (.lst (acc++[y])))else Nx H3):=by
 refine⟨λi m H=>m=xs.length-i∧i≤xs.length∧Pv i H,⟨xs.length,by simp,Nat.zero_le _,h0⟩,?_⟩
 rintro i m H ⟨rfl,hi,p⟩
 have q:=hl i H hi p
 by_cases bw:i<xs.length
 ·refine .inr ⟨⟨xs,xs[i],q,by simp[bw]⟩,Pv (i+1),λU p'=>⟨xs.length-(i+1),by omega,rfl,bw,p'⟩,λx U y=>?_⟩
  obtain⟨e,y⟩:=y
  subst e
  exact hs i x _ (y xs q) p
 ·have e:i=xs.length:=by omega
  subst e
  exact .inl ⟨⟨xs,q,Nat.le_refl _⟩,hd H p⟩
theorem Pz{K:PySem.W.Frag}{a:Addr}{xs:List V}{g:TG}{tt:TT}{te:TE}{vs:List Nat}{σ:St}{H1:Hp}{D:Addr}{Qd:Hp→Prop}(Pv:Nat→Hp→Prop)(h0:Pv 0 (upd H1 D (.lst [])))(hl:∀i H,i≤xs.length→Pv i H→aY K H a xs)(hs:∀i x H,xs[i]?=some x→Pv i H→g x (wipe σ vs) H λbr H2=>wipe br vs=wipe σ vs∧tt br H2 λb H3=>if b=true then te br H3 λy H4=>∃acc,H4 D=some (.lst acc)∧acc.length<sizeLine∧Pv (i+1) (upd H4 D (.lst (acc++[y])))else Pv (i+1) H3)(hd:∀H,Pv xs.length H→Qd H):
  ∃W:Nat→Nat→Hp→Prop,(∃m,W 0 m (upd H1 D (.lst [])))∧∀i m H,W i m H→
   ((lV K a).stop i H∧Qd H)∨((lV K a).go i H∧∃Nx:Hp→Prop,(∀U,Nx U→∃m',m'<m∧W (i+1) m' U)∧∀x U,(lV K a).iL i H x U→g x (wipe σ vs) U λbr H2=>wipe br vs=wipe σ vs∧tt br H2 λb H3=>
    if b=true then te br H3 λy H4=>∃acc,H4 D=some (.lst acc)∧acc.length<sizeLine∧Nx (upd H4 D (.lst (acc++[y])))else Nx H3):=by
 refine⟨λi m H=>m=xs.length-i∧i≤xs.length∧Pv i H,⟨xs.length,by simp,Nat.zero_le _,h0⟩,?_⟩
 rintro i m H ⟨rfl,hi,p⟩
 have q:=hl i H hi p
 by_cases bw:i<xs.length
 ·refine .inr ⟨⟨xs,xs[i],q,by simp[bw]⟩,Pv (i+1),λU p'=>⟨xs.length-(i+1),by omega,rfl,bw,p'⟩,λx U y=>?_⟩
  obtain⟨e,y⟩:=y
  subst e
  exact hs i x _ (y xs q) p
 ·have e:i=xs.length:=by omega
  subst e
  exact .inl ⟨⟨xs,q,Nat.le_refl _⟩,hd H p⟩
def Hy(N:List Str)(sc scope:Scope)(own:List (Str×Nat)):Bool:=
 (match scope.kind with|.function=>true|_=>false)&&(scope.names.all λy=>decide (scope.names.lookup y.1=some y.2))&&(own.all λp=>decide (N[p.2]?=some p.1))&&
  (scope.names.all λy=>match y.2 with
   |.free=>(match sc.names.lookup y.1 with|some .cell=>true|some .free=>true|_=>false)
   |.local=>decide (y.1∈own.map (·.1))||decide (y.1∉N)
   |.cell=>decide (y.1∈own.map (·.1))||decide (y.1∉N)
   |_=>true)
theorem qB{N:List Str}{sc scope:Scope}{own:List (Str×Nat)}(h:Hy N sc scope own=true):tw N sc scope own:=by
 unfold Hy at h
 simp only[Bool.and_eq_true,List.all_eq_true,decide_eq_true_eq]at h
 obtain⟨⟨⟨h1,h2⟩,h3⟩,h4⟩:=h
 refine⟨?_,h2,h3,λy hy e=>?_,λy hy e=>?_⟩
 ·split at h1
  ·assumption
  ·cases h1
 ·have q:=h4 y hy
  simp only[e]at q
  split at q<;>first|exact .inl (by assumption)|exact .inr (by assumption)|cases q
 ·have q:=h4 y hy
  rcases e with e|e<;>(simp only[e,Bool.or_eq_true,decide_eq_true_eq]at q;exact q)
end L2
namespace L2
open PySem PySem.Spec PyProof.Rows
section
variable{prog:Program}{w:World}{A:Around}{R:Result→Shared→Prop}{s:Shared}{elt t0 i0 t1 i1:Expr}{acR acS:List Expr}{scope:Scope}{pos:Pos}{it acc:Value}{env:Env}
end
section
variable{X:Cx}
end
end L2
namespace L2
open PySem PySem.Spec PyProof.Rows
section
variable{κ:Type}[DecidableEq κ]
end
section
variable{P:Program}{w:World}{H:Hp}{h:Heap}{a:Addr}
end
section
variable{X:Cx}{pins:List (Addr×Obj)}{σ:St}{H:Hp}{s:Shared}{a:Addr}{y v:V}{u r:Value}{o:Option V}{A:Around}{E:Value→Shared→Prop}
end
section
variable{X:Cx}{pins:List (Addr×Obj)}{σ:St}{H:Hp}{s:Shared}{a:Addr}{fD:List (Key×V)}{k:Key}{u:Value}{A:Around}{E:Value→Shared→Prop}
end
section
variable{X:Cx}{o i e value:Expr}{pos pos' gf:Pos}{td ty tv:TE}
end
section
variable{X:Cx}{pos:Pos}
end
section
variable{X:Cx}{pins:List (Addr×Obj)}{σ:St}{H:Hp}{s:Shared}{a:Addr}{y d:V}{u r:Value}{o:Option V}{A:Around}{E:Value→Shared→Prop}
end
section
variable{X:Cx}{o e f:Expr}{apos jb:Pos}{td ty tx:TE}
end
section
variable{X:Cx}{pins:List (Addr×Obj)}{σ:St}{H:Hp}{s:Shared}{a:Addr}{fD:List (Key×V)}{A:Around}{E:Value→Shared→Prop}
end
section
variable{X:Cx}{pins:List (Addr×Obj)}{σ:St}{H:Hp}{s:Shared}{a:Addr}{y:V}{u:Value}{A:Around}{E:Value→Shared→Prop}
end
end L2
namespace L2
open PySem PySem.Spec PyProof.Rows
section
variable{prog:Program}{w:World}{A:Around}{E:Value→Shared→Prop}
end
section
variable{X:Cx}
end
end L2
namespace L2
open PySem PySem.Spec PyProof.Rows
theorem PB:bootBuiltins "reversed"=some (.type "reversed"):=by decide +kernel
section
variable{X:Cx}{pins:List (Addr×Obj)}{σ:St}{H:Hp}{s:Shared}{h':Heap}
theorem Inv.zW{t':Nat}{ch:List Addr}(I:Inv X pins σ H s)(k:∀b o,b∉ch→s.heap.get? b=some o→h'.get? b=some o)(hf:∀b∈ch,js X pins H b):Inv X pins σ H {s with heap:=h',toks:=t'}:=by
 have mS:∀b u,H b=some u→b∉ch:=λb u e z=>by
  have q:=(hf b z).1
  rw[q]at e;cases e
 refine I.step (g':=s.gens) (d':=s.drawn) (ch:=ch) (λb hb=>⟨(hf b hb).2.2.2.1,(hf b hb).2.1,(hf b hb).2.2.2.2.1,(hf b hb).2.2.2.2.2⟩) (λb o _ _ hc e _=>k b o hc e) (λb o _ _ hc e _=>⟨o.slots,k b o hc e⟩)
  (λ_ _ _ _ n=>n) (λb o hc e=>⟨o,k b o hc e⟩) (λ_ _ e=>e) (λ_ _ _ e=>e) (λb ps e=>⟨#[],by rw[e];simp⟩) (λm hm=>?_) (λb u e=>?_) I.bare
 ·obtain⟨o,es,ep,ho,r⟩:=hm
  exact⟨o,es,ep,k _ o (λz=>(hf _ z).2.1 rfl) ho,r⟩
 ·refine(I.aK b u e).g_ (λc v hc q=>k c v ?_ q) (λ_ q=>q) λ_ _ q=>q
  rcases hc with z|z
  ·rw[z];exact mS b u e
  ·exact mS c _ z
theorem Inv.wo{t':Nat}{ch:List Addr}{T:Addr}{ob:HO}(I:Inv X pins σ H s)(k:∀b o,b∉ch→s.heap.get? b=some o→h'.get? b=some o)(hf:∀b∈ch,js X pins H b)(hT:s.heap.objs.size≤T)(new:dI X.prog X.w (upd H T ob) h' T ob):Inv X pins σ (upd H T ob) {s with heap:=h',toks:=t'}:=by
 have hn:H T=none:=I.aK.fresh hT
 have mS:∀b u,H b=some u→b∉ch:=λb u e z=>by
  have q:=(hf b z).1
  rw[q]at e;cases e
 refine I.step (g':=s.gens) (d':=s.drawn) (ch:=ch) (λb hb=>⟨(hf b hb).2.2.2.1,(hf b hb).2.1,(hf b hb).2.2.2.2.1,(hf b hb).2.2.2.2.2⟩) (λb o _ _ hc e _=>k b o hc e) (λb o _ _ hc e _=>⟨o.slots,k b o hc e⟩)
  (λb o _ e n=>?_) (λb o hc e=>⟨o,k b o hc e⟩) (λb xs e=>?_) (λb o u e=>?_) (λb ps e=>⟨#[],?_⟩) (λm hm=>?_) (λb u e=>?_) I.bare
 ·rw[aG (Nat.ne_of_lt (Nat.lt_of_lt_of_le (Heap.lt_size e) hT))];exact n
 ·rw[aG (cp e hn)];exact e
 ·rw[aG (cp e hn)];exact e
 ·rw[aG (cp e hn),e];simp
 ·obtain⟨o,es,ep,ho,r⟩:=hm
  exact⟨o,es,ep,k _ o (λz=>(hf _ z).2.1 rfl) ho,r⟩
 ·by_cases hb:b=T
  ·subst hb
   rw[aw]at e
   cases e
   exact new
  ·rw[aG hb]at e
   refine(I.aK b u e).g_ (λc v hc q=>k c v ?_ q) (λc q=>by rw[aG (cp q hn)];exact q) λc xs q=>by rw[aG (cp q hn)];exact q
   rcases hc with z|z
   ·rw[z];exact mS b u e
   ·exact mS c _ z
end
section
variable{X:Cx}
theorem Hz{tg:Expr}{pins:List (Addr×Obj)}{σ:St}{H:Hp}{s:Shared}{R:It→Hp→Prop}{J:It}{tn:Nat→Heap→Prop}{tk:Nat}(I:Inv X pins σ H s)(o:Obj)(T:Turn X.prog X.w X.K tg J [s.heap.objs.size] s.heap.objs.size tn)(st:tn 0 (s.heap.push o))(q:R J H):Gb X pins σ tg R (.ref s.heap.objs.size) {s with heap:=s.heap.push o,toks:=tk}:=by
 refine⟨s.heap.objs.size,[s.heap.objs.size],tn,J,H,rfl,I.kept λb ob e=>Heap.get?_push_of_some _ e,T,st,λb hb=>?_,q⟩
 have e:b=s.heap.objs.size:=by simpa using hb
 subst e
 exact I.mY (Nat.le_refl _) (I.aK.fresh (Nat.le_refl _))
end
section
variable{X:Cx}{tg:Expr}
end
section
variable{X:Cx}{tg:Expr}
end
def qC(x:Str):It:=⟨λi _=>i<x.cps.size,λi H v U=>U=H∧∃c,x.cps[i]?=some c∧v=.str ⟨#[c]⟩,λi _=>x.cps.size≤i⟩
theorem HA{P:Program}{w:World}{K:PySem.W.Frag}{tg:Expr}(it:Addr)(x:Str)(t:Tok)(ty:String)(m_:ty="str_ascii_iterator"∨ty="str_iterator"):
  Turn P w K tg (qC x) [it] it (λi h=>h.IsStrIter it ty x t i) where
 mem:=by simp
 obj:=λi h st b hb=>by
  have e:b=it:=by simpa using hb
  subst e
  obtain⟨o,e,c,d⟩:=st
  exact⟨o,e,λv z=>by rw[d]at z;cases z⟩
 keep:=λi h h' st k=>let⟨o,ho,r⟩:=st;⟨o,k it (by simp) o ho,r⟩
 item:=by
  intro X hP hw hK hc i pins s σ H E I hf st hg
  subst hP hw hK
  obtain⟨f0,f1,f2,f3,f4,f5⟩:=hf it (by simp)
  have W:Walks X.prog X.w X.A it [it] [it] x.cps.size (SignAt x) (λi h=>h.IsStrIter it ty x t i):=by
   rcases m_ with e|e
   ·rw[e];exact Walks.strAscii (I.ok.hd hc) it x t
   ·rw[e];exact Walks.strWide (I.ok.hd hc) it x t
  have aZ:["enumerate","zip","dict_itemiterator","dict_reverseitemiterator","odict_iterator","itertools.zip_longest","itertools.pairwise"].contains ty=false:=by
   rcases m_ with e|e
   ·rw[e];decide
   ·rw[e];decide
  refine W.item i s _ _ hg st λv h' tk hv mZ kk=>?_
  obtain⟨c,u,PC,rfl⟩:=hv
  have I1:Inv X pins σ H {s with heap:=h',toks:=tk}:=I.turned (λb o hb e=>kk b o (by simpa using hb) e) f0 f1 f3 f4 f5
  obtain⟨oi,e,cc,dd⟩:=id mZ
  exact⟨_,rfl,ze (s:={s with heap:=h',toks:=tk}) e cc dd aZ ⟨.str ⟨#[c]⟩,H,I1,⟨u,rfl⟩,⟨rfl,c,PC,rfl⟩,mZ,λb hb=>(hf b hb).1⟩⟩
 done:=by
  intro X hP hw hK hc i pins s σ H E I hf st hg
  subst hP hw hK
  obtain⟨f0,f1,f2,f3,f4,f5⟩:=hf it (by simp)
  have hx:x.cps[i]?=none:=Array.getElem?_eq_none hg
  rcases m_ with e|e
  ·rw[e]at st
   exact wpAny_pyNext_ascii_end (I.ok.hd hc) st hx λh' eb=>⟨rfl,I.turned (t':=s.toks) (λb o hb e=>eb b o hb e) f0 f1 f3 f4 f5⟩
  ·rw[e]at st
   exact wpAny_pyNext_wide_end (I.ok.hd hc) st hx λh' eb=>⟨rfl,I.turned (t':=s.toks) (λb o hb e=>eb b o hb e) f0 f1 f3 f4 f5⟩
 self:=λA i s Q E st h=>by
  rcases m_ with e|e
  ·rw[e]at st;exact wpAny_pyIter_striter_ascii st h
  ·rw[e]at st;exact wpAny_pyIter_striter_wide st h
def HB(te:TE):TI:=λσ H R=>te σ H λv H1=>∃x,v=.str x∧R (qC x) H1
theorem PD{X:Cx}{tg e:Expr}{te:TE}(he:PE X e te):PI X tg e (HB te):=by
 intro pins s σ H R I h
 refine a8 (he pins s σ H _ I h) λv s1 ⟨y,H1,I1,r1,x,ex,q⟩=>?_
 subst ex
 obtain⟨t,rfl⟩:=r1
 cases ha:x.cps.all (· <128)
 ·exact wpAny_pyIter_wide ha (Hz (tk:=s1.toks) I1 _ (HA _ x t "str_iterator" (.inr rfl)) ⟨_,Heap.get?_push_size _ rfl,rfl,rfl⟩ q)
 ·exact wpAny_pyIter_ascii ha (Hz (tk:=s1.toks) I1 _ (HA _ x t "str_ascii_iterator" (.inl rfl)) ⟨_,Heap.get?_push_size _ rfl,rfl,rfl⟩ q)
section
variable{prog:Program}{w:World}{A:Around}{E:Value→Shared→Prop}{s:Shared}
end
section
variable{X:Cx}{pins:List (Addr×Obj)}{σ:St}{H:Hp}{s:Shared}{d:Addr}{o:Obj}
end
section
variable{P:Program}{w:World}{K:PySem.W.Frag}{tg:Expr}{d:Addr}{o:Obj}{es:Array DictEntry}{ep:Nat}
end
section
variable{X:Cx}{tg e:Expr}{td:TE}{apos jb:Pos}
end
def qD(K:PySem.W.Frag)(a:Addr):It:=
 ⟨λi H=>∃(xs:List V) (x:V),ah K H a xs∧xs[i]?=some x,λi H v U=>∃T x,v=.ref T∧H T=none∧U=upd H T (.tup [.int (i:Nat),x])∧∀xs,ah K H a xs→xs[i]?=some x,λi H=>∃xs:List V,ah K H a xs∧xs.length≤i⟩
theorem PF{P:Program}{w:World}{K:PySem.W.Frag}{elts:List Expr}{kk:Nat}{gf:Pos}(a e it:Addr):
  Turn P w K (.Tuple elts kk gf) (qD K a) [e,it] e (λi h=>(∃old,IsEnum h e it ((i:Nat):Int) old)∧h.IsListIter it a i∧e≠it) where
 mem:=by simp
 obj:=λi h st b hb=>by
  obtain⟨⟨old,he⟩,⟨o,ho,hc,hd⟩,_⟩:=st
  have e':b=e∨b=it:=by simpa using hb
  rcases e' with z|z
  ·rw[z];exact⟨_,he,λv q=>nomatch q⟩
  ·rw[z];exact⟨o,ho,λv q=>by rw[hd]at q;cases q⟩
 keep:=λi h h' st k=>let⟨⟨old,he⟩,hi,iz⟩:=st;⟨⟨old,k e (by simp) _ he⟩,hi.at λo q=>k it (by simp) o q,iz⟩
 item:=by
  intro X hP hw hK hc i pins s σ H E I hf st hg
  subst hP hw hK
  obtain⟨⟨old,he⟩,hit,iz⟩:=st
  obtain⟨xs,x,hq,hx⟩:=hg
  obtain⟨aq,rv,p,hz⟩:=I.list hq
  obtain⟨u,hu,ru⟩:=rv.get hx
  have HC:e<s.heap.objs.size:=Heap.lt_size he
  have gF:it<s.heap.objs.size:=by obtain⟨_,q,_⟩:=hit;exact Heap.lt_size q
  refine wpAny_pyNext_enum_item he hit p.isList (x:=u) (by simpa using hu) iz λh' ho PH hT hsz hk=>?_
  refine⟨_,rfl,wpAny_letOwnedTupleGo_enum (s:={s with heap:=h',toks:=s.toks+1}) ho λh7 qE sb=>?_⟩
  have lZ:h7.get? s.heap.objs.size=some {cls:=.type "tuple",data:=.seq #[.int i s.toks,u]}:=(sb.2 _ (Nat.ne_of_gt HC)).trans hT
  have new:dI X.prog X.w (upd H s.heap.objs.size (.tup [.int (i:Nat),x])) h7 s.heap.objs.size (.tup [.int (i:Nat),x]):=
   ⟨by show 2≤sizeLine;decide,[.int i s.toks,u],.cons ⟨_,rfl⟩ (.cons ru .nil),⟨_,lZ,rfl,_,rfl⟩⟩
  have I1:Inv X pins σ (upd H s.heap.objs.size (.tup [.int (i:Nat),x])) {s with heap:=h7,toks:=s.toks+1}:=
   I.wo (ch:=[e,it]) (λb ob hb q=>(sb.2 b (λz=>hb (by simp[z]))).trans (hk b ob (λz=>hb (by simp[z])) (λz=>hb (by simp[z])) q)) hf (Nat.le_refl _) new
  refine⟨.ref s.heap.objs.size,_,I1,rfl,⟨_,x,rfl,I.aK.fresh (Nat.le_refl _),rfl,λys hy=>by rw[I.mV hy hq];exact hx⟩,⟨⟨u,?_⟩,PH.at λo q=>(sb.2 it (Ne.symm iz)).trans q,iz⟩,λb hb=>?_⟩
  ·have e1:((i+1:Nat):Int)=(i:Int)+1:=by omega
   rw[e1];exact qE
  ·have tG:b<s.heap.objs.size:=by
    have e':b=e∨b=it:=by simpa using hb
    rcases e' with z|z
    ·rw[z];exact HC
    ·rw[z];exact gF
   rw[aG (Nat.ne_of_lt tG)]
   exact(hf b hb).1
 done:=by
  intro X hP hw hK hc i pins s σ H E I hf st hg
  subst hP hw hK
  obtain⟨⟨old,he⟩,hit,iz⟩:=st
  obtain⟨xs,hq,hx⟩:=hg
  obtain⟨aq,rv,p,hz⟩:=I.list hq
  obtain⟨f0,f1,f2,f3,f4,f5⟩:=hf it (by simp)
  have hl:=rv.length
  exact wpAny_pyNext_enum_end (I.ok.hd hc) he hit p.isList (by simp;omega) λh' eb=>⟨rfl,I.turned (t':=s.toks) (λb o hb q=>eb b o hb q) f0 f1 f3 f4 f5⟩
 self:=λA i s Q E st h=>let⟨⟨_,he⟩,_⟩:=st;wpAny_pyIter_enum he h
def HD(K:PySem.W.Frag)(ta:TA):TI:=λσ H R=>ta σ H λvs H1=>∃a xs,vs=[.ref a]∧ah K H1 a xs∧R (qD K a) H1
theorem PJ{X:Cx}{e:Expr}{ta:TA}{p pos gf:Pos}{elts:List Expr}{kk:Nat}(hg:Gl X "enumerate")(hm:X.mg "enumerate"=none)(ha:PA X [e] ta)(hs:starEach [e] X.env=[(false,eval e X.env)]:=by rfl):
  PI X (.Tuple elts kk gf) (.Call (.Name "enumerate" p) [e] [] pos) (HD X.K ta):=by
 intro pins s σ H R I h
 refine Call_ (mT I hg hm boot_enumerate (PyProof.Rows.callWith_type1 (a8 (ha pos pins s σ H _ I h) λus s1 ⟨vs,H1,I1,r1,q1⟩=>?_) hs rfl))
 obtain⟨a,xs,ex,hq,q⟩:=q1
 subst ex
 cases r1 with
 |cons r rr=>
  cases rr
  cases r
  obtain⟨aq,rv,p',hz⟩:=I1.list hq
  refine call_enumerate_list p'.isList λh' he hit hsz hk=>wpAny_pyIter_enum he ?_
  have I2:Inv X pins σ H1 {s1 with heap:=h'}:=I1.kept (t':=s1.toks) hk
  refine⟨s1.heap.objs.size+1,[s1.heap.objs.size+1,s1.heap.objs.size],_,_,H1,rfl,I2,PF a (s1.heap.objs.size+1) s1.heap.objs.size,⟨⟨.none,he⟩,hit,Nat.succ_ne_self _⟩,λb hb=>?_,q⟩
  have e':b=s1.heap.objs.size+1∨b=s1.heap.objs.size:=by simpa using hb
  have hle:s1.heap.objs.size≤b:=by
   rcases e' with z|z
   ·rw[z];exact Nat.le_add_right _ _
   ·rw[z];exact Nat.le_refl _
  exact I1.mY hle (I1.aK.fresh hle)
theorem zX:bootBuiltins "zip"=some (.type "zip"):=by decide +kernel
def qG(K:PySem.W.Frag)(a b:Addr):It:=
 ⟨λi H=>∃(xs ys:List V) (x y:V),ah K H a xs∧ah K H b ys∧xs[i]?=some x∧ys[i]?=some y,
  λi H v U=>∃T x y,v=.ref T∧H T=none∧U=upd H T (.tup [x,y])∧(∀xs,ah K H a xs→xs[i]?=some x)∧∀ys,ah K H b ys→ys[i]?=some y,
  λi H=>∃xs ys:List V,ah K H a xs∧ah K H b ys∧(xs.length≤i∨ys.length≤i)⟩
theorem PK{P:Program}{w:World}{K:PySem.W.Frag}{elts:List Expr}{kk:Nat}{gf:Pos}{a b z TI TO i1 i2:Addr}(D:ZipApart z TI TO i1 i2 a b):
  Turn P w K (.Tuple elts kk gf) (qG K a b) [z,TI,TO,i1,i2] z (λi h=>IsZip h z TI TO .none∧IsPair h TI (.ref i1) (.ref i2)∧(∃x y,IsPair h TO x y)∧h.IsListIter i1 a i∧h.IsListIter i2 b i) where
 mem:=by simp
 obj:=λi h st c hc=>by
  obtain⟨hz,dN,⟨x,y,eh⟩,⟨o1,e1,_,d1⟩,⟨o2,e2,_,d2⟩⟩:=st
  have e':c=z∨c=TI∨c=TO∨c=i1∨c=i2:=by simpa using hc
  rcases e' with q|q|q|q|q
  ·rw[q];exact⟨_,hz,λv q=>nomatch q⟩
  ·rw[q];exact⟨_,dN,λv q=>nomatch q⟩
  ·rw[q];exact⟨_,eh,λv q=>nomatch q⟩
  ·rw[q];exact⟨o1,e1,λv q=>by rw[d1]at q;cases q⟩
  ·rw[q];exact⟨o2,e2,λv q=>by rw[d2]at q;cases q⟩
 keep:=λi h h' st k=>by
  obtain⟨hz,dN,⟨x,y,eh⟩,h1,h2⟩:=st
  exact⟨k z (by simp) _ hz,k TI (by simp) _ dN,⟨x,y,k TO (by simp) _ eh⟩,h1.at λo q=>k i1 (by simp) o q,h2.at λo q=>k i2 (by simp) o q⟩
 item:=by
  intro X hP hw hK hc i pins s σ H E I hf st hg
  subst hP hw hK
  obtain⟨hz,dN,⟨x0,y0,eh⟩,h1,h2⟩:=st
  obtain⟨xs,ys,x,y,fX,h8,hx,hy⟩:=hg
  obtain⟨aq,rv,p,_⟩:=I.list fX
  obtain⟨gj,lh,p2,_⟩:=I.list h8
  obtain⟨u,hu,ru⟩:=rv.get hx
  obtain⟨u2,tH,tI⟩:=lh.get hy
  have nu:z<s.heap.objs.size:=Heap.lt_size hz
  refine wpAny_pyNext_zip_item D hz dN eh h1 h2 p.isList p2.isList (x:=u) (y:=u2) (by simpa using hu) (by simpa using tH) λh' z' tJ tK tL hT hsz hk=>?_
  refine⟨_,rfl,wpAny_letOwnedTupleGo_zip (s:={s with heap:=h'}) z' λh7 zY sb=>?_⟩
  have lZ:h7.get? s.heap.objs.size=some {cls:=.type "tuple",data:=.seq #[u,u2]}:=(sb.2 _ (Nat.ne_of_gt nu)).trans hT
  have new:dI X.prog X.w (upd H s.heap.objs.size (.tup [x,y])) h7 s.heap.objs.size (.tup [x,y]):=
   ⟨by show 2≤sizeLine;decide,[u,u2],.cons ru (.cons tI .nil),⟨_,lZ,rfl,_,rfl⟩⟩
  have I1:Inv X pins σ (upd H s.heap.objs.size (.tup [x,y])) {s with heap:=h7}:=
   I.wo (t':=s.toks) (ch:=[z,TI,TO,i1,i2]) (λc o hb q=>(sb.2 c (λq'=>hb (by simp[q']))).trans (hk c o (λq'=>hb (by simp[q'])) (λq'=>hb (by simp[q'])) (λq'=>hb (by simp[q'])) (λq'=>hb (by simp[q'])) q)) hf (Nat.le_refl _) new
  refine⟨.ref s.heap.objs.size,_,I1,rfl,⟨_,x,y,rfl,I.aK.fresh (Nat.le_refl _),rfl,λl hl=>by rw[I.mV hl fX];exact hx,λl hl=>by rw[I.mV hl h8];exact hy⟩,⟨zY,?_,⟨u,u2,?_⟩,?_,?_⟩,λc iO=>?_⟩
  ·exact(sb.2 _ D.TIz).trans (hk _ _ D.TIz D.TITO D.TIi1 D.TIi2 dN)
  ·exact(sb.2 _ D.TOz).trans tJ
  ·exact tK.at λo q=>(sb.2 _ D.i1z).trans q
  ·exact tL.at λo q=>(sb.2 _ D.i2z).trans q
  ·have bw:c<s.heap.objs.size:=by
    have e':c=z∨c=TI∨c=TO∨c=i1∨c=i2:=by simpa using iO
    rcases e' with q|q|q|q|q
    ·rw[q];exact nu
    ·rw[q];exact Heap.lt_size dN
    ·rw[q];exact Heap.lt_size eh
    ·rw[q];obtain⟨_,e1,_⟩:=h1;exact Heap.lt_size e1
    ·rw[q];obtain⟨_,e2,_⟩:=h2;exact Heap.lt_size e2
   rw[aG (Nat.ne_of_lt bw)]
   exact(hf c iO).1
 done:=by
  intro X hP hw hK hc i pins s σ H E I hf st hg
  subst hP hw hK
  obtain⟨hz,dN,⟨x0,y0,eh⟩,h1,h2⟩:=st
  obtain⟨xs,ys,fX,h8,zZ⟩:=hg
  obtain⟨aq,rv,p,_⟩:=I.list fX
  obtain⟨gj,lh,p2,_⟩:=I.list h8
  have l1:=rv.length
  have l2:=lh.length
  have he:aq.toArray[i]?=none∨gj.toArray[i]?=none:=by
   rcases zZ with q|q
   ·exact .inl (by simp;omega)
   ·exact .inr (by simp;omega)
  exact wpAny_pyNext_zip_end (I.ok.hd hc) D hz dN eh h1 h2 p.isList p2.isList he λh' hk=>⟨rfl,I.zW (t':=s.toks) (ch:=[z,TI,TO,i1,i2]) (λc o hb q=>
   hk c o (λq'=>hb (by simp[q'])) (λq'=>hb (by simp[q'])) (λq'=>hb (by simp[q'])) (λq'=>hb (by simp[q'])) q) hf⟩
 self:=λA i s Q E st h=>wpAny_pyIter_zip st.1 h
def HE(K:PySem.W.Frag)(ta:TA):TI:=λσ H R=>ta σ H λvs H1=>∃a b xs ys,vs=[.ref a,.ref b]∧ah K H1 a xs∧ah K H1 b ys∧R (qG K a b) H1
theorem HF{X:Cx}{e e2:Expr}{ta:TA}{p pos gf:Pos}{elts:List Expr}{kk:Nat}(hg:Gl X "zip")(hm:X.mg "zip"=none)(ha:PA X [e,e2] ta)(hs:starEach [e,e2] X.env=(false,eval e X.env)::starEach [e2] X.env:=by rfl)(eG:(backTo pos (starEach [e2] X.env)).any (·.1)=false:=by rfl):
  PI X (.Tuple elts kk gf) (.Call (.Name "zip" p) [e,e2] [] pos) (HE X.K ta):=by
 intro pins s σ H R I h
 refine Call_ (mT I hg hm zX (PyProof.Rows.callWith_type1 (a8 (ha pos pins s σ H _ I h) λus s1 ⟨vs,H1,I1,r1,q1⟩=>?_) hs eG))
 obtain⟨a,b,xs,ys,ex,fX,h8,q⟩:=q1
 subst ex
 cases r1 with
 |cons r rr=>
  cases rr with
  |cons r' rr=>
   cases rr
   cases r
   cases r'
   obtain⟨aq,rv,p1,_⟩:=I1.list fX
   obtain⟨gj,lh,p2,_⟩:=I1.list h8
   have la:a<s1.heap.objs.size:=p1.lt
   have lb:b<s1.heap.objs.size:=p2.lt
   refine call_zip_2 p1.isList p2.isList λh' hz dN eh h1 h2 hsz hk=>wpAny_pyIter_zip hz ?_
   have I2:Inv X pins σ H1 {s1 with heap:=h'}:=I1.kept (t':=s1.toks) hk
   refine⟨s1.heap.objs.size+4,[s1.heap.objs.size+4,s1.heap.objs.size+2,s1.heap.objs.size+3,s1.heap.objs.size,s1.heap.objs.size+1],_,_,H1,rfl,I2,PK (PySem.W.ktu_apart s1.heap.objs.size a b la lb),⟨hz,dN,⟨_,_,eh⟩,h1,h2⟩,λc iO=>?_,q⟩
   have e':c=s1.heap.objs.size+4∨c=s1.heap.objs.size+2∨c=s1.heap.objs.size+3∨c=s1.heap.objs.size∨c=s1.heap.objs.size+1:=by simpa using iO
   have hle:s1.heap.objs.size≤c:=by
    rcases e' with z|z|z|z|z
    ·rw[z];exact Nat.le_add_right _ _
    ·rw[z];exact Nat.le_add_right _ _
    ·rw[z];exact Nat.le_add_right _ _
    ·rw[z];exact Nat.le_refl _
    ·rw[z];exact Nat.le_add_right _ _
   exact I1.mY hle (I1.aK.fresh hle)
end L2
section
namespace PL
open PySem PyProof.Rows
end PL
end
section
namespace TL
open PySem PySem.Builtin PySem.Builtin.Str PySem.StrLaws
end TL
end
namespace L2
open PySem PySem.Spec PyProof.Rows
section
variable{X:Cx}{pins:List (Addr×Obj)}{σ:St}{H:Hp}{s:Shared}{Q:VK}
end
section
variable{X:Cx}
end
section
variable{X:Cx}{o e:Expr}{to te:TE}
end
end L2
namespace L2
open PySem PySem.Spec PyProof.Rows
section
variable{X:Cx}
end
end L2
namespace PM
open PySem PySem.W PySem.Calls PyProof.Rows
section
variable{prog:Program}{w:World}{A:Around}{E:Value→Shared→Prop}{s:Shared}{K:Frag}
end
end PM
namespace L2
open PySem PySem.Spec PyProof.Rows
end L2
namespace L2
open PySem PySem.Spec PyProof.Rows
end L2
namespace L2
open PySem PySem.Spec PyProof.Rows
def inClass(s:Stmt)(j:Nat):Stmt:=match s with
 |.ClassDef _ _ _ body _ _ _ _ _ _ _=>body.getD j (.Pass ⟨0,0,0,0⟩)
 |_=>.Pass ⟨0,0,0,0⟩
def jc(s:Stmt):Arguments:=match s with
 |.FunctionDef _ a _ _ _ _ _ _ _ _=>a
 |_=>{posonlyargs:=[],args:=[],vararg:=none,kwonlyargs:=[],kw_defaults:=[],kwarg:=none,defaults:=[]}
def gU(s:Stmt):List Stmt:=match s with
 |.FunctionDef _ _ b _ _ _ _ _ _ _=>b
 |_=>[]
def aE(s:Stmt):Scope:=match s with
 |.FunctionDef _ _ _ _ _ _ sc _ _ _=>sc
 |_=>{kind:=.function,names:=[],isGenerator:=false,isCoroutine:=false}
abbrev ao:gS:=λ_ _ _ _ _ _=>False
abbrev E0:XK:=λ_ _ _=>False
theorem aD{X:Cx}:Passes ao X E0:=λ_ _ _ _ _ _ _ h=>h.elim
structure jw(K:PySem.W.Frag)(x qual:Str)(st:Stmt)(f:Addr)(fd:FuncData):Prop where
 ex:∃(oc:Value) (od:Option Addr) (kV doc pm:Value) (an:Option Addr) (ay ct:Value) (gE:Array (Option Value)),
  fd=PySem.W.fnOf x qual (jc st) (gU st) (aE st) .none kV doc pm an ay ct∧K.lookup f=some ⟨oc,od,.func fd,gE⟩∧PySem.W.codeIn K ay qual=true
 kp:PySem.W.keepIn K (.ref f)=true
section
variable{P:Program}{w:World}{K:PySem.W.Frag}{mg:Str→Option Value}{base:Heap}
theorem jw.ok{x qual:Str}{st:Stmt}{f:Addr}{fd:FuncData}{N ps:List Str}{k:Nat}{sp:Sp}(F:jw K x qual st f fd)(S:aN N ps (aE st))(len:∀vs H Q E,sp vs H Q E→vs.length=ps.length)(sS:∀(ay:Value) (A:Around) (outer:List Env) (s:Shared) (H:Hp) (vs:List V) (Q:VK) (E:XK),dJ k (A.deeper (envOfC qual (aE st) s.heap.objs.size f ay))→sp vs H Q E→∃t,gC (jZ ao P w K mg base N qual (aE st) f ay A outer s H E).lS (gU st) t∧t {nx:=λ_ U=>Q .aJ U,rt:=Q} (start N vs) H):fH P w K mg base ao (k+1) f fd ps sp:=by
 obtain⟨oc,od,kV,doc,pm,an,ay,ct,gE,rfl,lk,jS⟩:=F.ex
 refine GS lk jS S len λA outer s H vs Q E hr ju=>?_
 obtain⟨t,h,q⟩:=sS ay A outer s H vs Q E hr ju
 exact⟨t,h.lS,q⟩
theorem jw.binds{x qual:Str}{st:Stmt}{f:Addr}{fd:FuncData}{ps:List Str}(F:jw K x qual st f fd)(h:∀(kV doc pm:Value) (an:Option Addr) (ay ct:Value) (us:List Value),us.length=ps.length→bindArgs (PySem.W.fnOf x qual (jc st) (gU st) (aE st) .none kV doc pm an ay ct) ⟨us,[]⟩=pure (ps.zip us)):Binds K fd ps []:=by
 obtain⟨oc,od,kV,doc,pm,an,ay,ct,gE,rfl,lk,jS⟩:=F.ex
 exact .all (h kV doc pm an ay ct)
theorem nv{x qual:Str}{st:Stmt}{f:Addr}{oc:Value}{od an:Option Addr}{gE:Array (Option Value)}{kV doc pm ay ct:Value}(l:K.lookup f=some ⟨oc,od,.func (PySem.W.fnOf x qual (jc st) (gU st) (aE st) .none kV doc pm an ay ct),gE⟩)(c:PySem.W.codeIn K ay qual=true)(k:PySem.W.keepIn K (.ref f)=true):jw K x qual st f (PySem.W.fnOf x qual (jc st) (gU st) (aE st) .none kV doc pm an ay ct):=⟨⟨oc,od,kV,doc,pm,an,ay,ct,gE,rfl,l,c⟩,k⟩
end
section
variable{X:Cx}
theorem pv(i:Nat){x:Str}{pos:Pos}(hN:X.N[i]?=some x:=by rfl)(hv:qe X.env.scope x:=by first|exact Or.inl rfl|exact Or.inr (Or.inl rfl)|exact Or.inr (Or.inr rfl))(hd:(x==("__debug__":Str))=false:=by decide)(jS:(x==("__classdict__":Str))=false:=by decide):PE X (.Name x pos) (hU i):=N_ hN hv hd jS
end
theorem fm{c A B:Prop}[Decidable c](h1:c→A)(h2:¬c→B):if c then A else B:=by
 by_cases h:c
 ·rw[if_pos h]
  exact h1 h
 ·rw[if_neg h]
  exact h2 h
def au(H U:Hp):Prop:=∀b o,H b=some o→U b=some o
theorem au.refl(H:Hp):au H H:=λ_ _ h=>h
theorem au.trans{H H1 H2:Hp}(a:au H H1)(b:au H1 H2):au H H2:=λc o h=>b c o (a c o h)
theorem au.free{H U:Hp}(e:au H U){l:Addr}(h:U l=Option.none):H l=Option.none:=by
 cases q:H l with
 |none=>rfl
 |some o=>
  rw[e l o q]at h
  cases h
section
variable{κ:Type}[DecidableEq κ]
end
end L2
section
namespace L2
open PySem PySem.Spec PyProof.Rows
open PySem.W (WData Codec OpenSpec Well WellAll ReadsW ReadsAllW)
mutual
inductive Dw(K:PySem.W.Frag)(H:Hp):V→WData→Prop
 |aJ:Dw K H .aJ .none
 |bl (b:Bool):Dw K H (.bl b) (.bool b)
 |int (i:Int):Dw K H (.int i) (.int i)
 |str (x:Str):Dw K H (.str x) (.str x)
 |g9 (b:Array UInt8):Dw K H (.g9 b) (.bytes b.toList)
 |lst {a:Addr} {xs:List V} {ds:List WData}:ah K H a xs→jO K H xs ds→Dw K H (.ref a) (.list ds)
 |tup {a:Addr} {xs:List V} {ds:List WData}:aY K H a xs→jO K H xs ds→Dw K H (.ref a) (.tuple ds)
inductive jO(K:PySem.W.Frag)(H:Hp):List V→List WData→Prop
 |nil:jO K H [] []
 |cons {v:V} {vs:List V} {d:WData} {ds:List WData}:Dw K H v d→jO K H vs ds→jO K H (v::vs) (d::ds)
end
theorem aaP{K:PySem.W.Frag}{H:Hp}:∀ns:List Int,jO K H (ns.map V.int) (ns.map WData.int)
 |[]=>.nil
 |n::r=>.cons (.int n) (aaP r)
theorem aaQ{K:PySem.W.Frag}{H:Hp}:∀(ns:List Int) (xs:List V),jO K H xs (ns.map WData.int)→xs=ns.map V.int
 |[],xs,h=>by
  cases h
  rfl
 |n::r,xs,h=>by
  cases h with
  |cons h1 h2=>
   cases h1
   rw[aaQ r _ h2]<;>rfl
section
variable{P:Program}{w:World}{K:PySem.W.Frag}{H:Hp}{h:Heap}{R:PySem.W.WRecords}{cl:Str→Option Addr}
theorem aaR{a:Addr}{xs:List V}(aK:cu P w H h)(KX:K.In h)(q:ah K H a xs):∃(aq:List Value) (o:Obj) (n:Nat),Vals xs aq∧h.get? a=some o∧o.cls=.type "list"∧o.data=.seq aq.toArray n:=by
 rcases q with q|⟨o,aq,n,e,hc,_,hd,_,hv⟩
 ·obtain⟨_,aq,n,hv,e⟩:=(show dI P w H h a (.lst xs)from q.ok aK)
  exact⟨aq,_,n,hv,e,rfl,rfl⟩
 ·exact⟨aq.toList,o,n,hv,KX _ _ e,hc,by simp[hd]⟩
theorem aaS{a:Addr}{xs:List V}(aK:cu P w H h)(KX:K.In h)(q:aY K H a xs):∃(aq:List Value) (o:Obj) (n:Nat),Vals xs aq∧h.get? a=some o∧o.cls=.type "tuple"∧o.data=.seq aq.toArray n:=by
 rcases q with q|⟨o,aq,n,e,hc,hd,_,hv⟩
 ·obtain⟨_,aq,hv,o,e,hc,n,hd⟩:=(show dI P w H h a (.tup xs)from q.ok aK)
  exact⟨aq,o,n,hv,e,hc,hd⟩
 ·exact⟨aq.toList,o,n,hv,KX _ _ e,hc,by simp[hd]⟩
mutual
theorem Dw.reads(aK:cu P w H h)(KX:K.In h):∀(d:WData) (v:V) (u:Value),Dw K H v d→RelV v u→∃as,ReadsW R cl h u d as
 |.none,_,_,x,r=>by
  cases x
  cases r
  exact⟨_,ReadsW.none⟩
 |.bool b,_,_,x,r=>by
  cases x
  cases r
  exact⟨_,ReadsW.bool b⟩
 |.int i,_,_,x,r=>by
  cases x
  obtain⟨t,rfl⟩:=r
  exact⟨_,ReadsW.int i t⟩
 |.str s,_,_,x,r=>by
  cases x
  obtain⟨t,rfl⟩:=r
  exact⟨_,ReadsW.str s t⟩
 |.bytes b,_,_,x,r=>by
  cases x
  obtain⟨t,rfl⟩:=r
  exact⟨_,ReadsW.bytes _ t⟩
 |.list ds,_,_,x,r=>by
  cases x with
  |lst hs ha=>
   cases r
   obtain⟨aq,o,n,rv,ho,hc,hd⟩:=aaR aK KX hs
   obtain⟨as,hr⟩:=Dw.readsAll aK KX ds _ aq ha rv
   exact⟨_,ReadsW.list ho hc hd hr⟩
 |.tuple ds,_,_,x,r=>by
  cases x with
  |tup hs ha=>
   cases r
   obtain⟨aq,o,n,rv,ho,hc,hd⟩:=aaS aK KX hs
   obtain⟨as,hr⟩:=Dw.readsAll aK KX ds _ aq ha rv
   exact⟨_,ReadsW.tuple ho hc hd hr⟩
 |.float _,_,_,x,_=>by cases x
 |.dict _,_,_,x,_=>by cases x
 |.bytearray _,_,_,x,_=>by cases x
 |.set _,_,_,x,_=>by cases x
 |.frozenset _,_,_,x,_=>by cases x
 |.obj _ _,_,_,x,_=>by cases x
theorem Dw.readsAll(aK:cu P w H h)(KX:K.In h):∀(ds:List WData) (vs:List V) (us:List Value),jO K H vs ds→Vals vs us→∃as,ReadsAllW R cl h us ds as
 |[],_,_,x,r=>by
  cases x
  cases r
  exact⟨_,ReadsAllW.nil⟩
 |d::ds,_,_,x,r=>by
  cases x with
  |cons h1 h2=>
   cases r with
   |cons r1 r2=>
    obtain⟨as,q1⟩:=Dw.reads aK KX d _ _ h1 r1
    obtain⟨bs,q2⟩:=Dw.readsAll aK KX ds _ _ h2 r2
    exact⟨_,ReadsAllW.cons q1 q2⟩
end
end
mutual
def i7:WData→Bool
 |.none=>true
 |.bool _=>true
 |.int _=>true
 |.str _=>true
 |.bytes _=>true
 |.list xs=>jP xs
 |.tuple xs=>jP xs
 |_=>false
def jP:List WData→Bool
 |[]=>true
 |x::r=>i7 x&&jP r
end
theorem ND{α:Type}{f:α→WData}(h:∀a,i7 (f a)=true):∀l:List α,jP (l.map f)=true
 |[]=>rfl
 |x::r=>by
  show(i7 (f x)&&jP (r.map f))=true
  rw[h x,ND h r]<;>rfl
theorem oG:∀(c:Codec) (a:c.denote),i7 (c.enc a)=true
 |.unit,_=>rfl
 |.bool,_=>rfl
 |.int _ _,_=>rfl
 |.nat _ _,_=>rfl
 |.u8,_=>rfl
 |.bytes _ _,_=>rfl
 |.text _ _ _ _,_=>rfl
 |.list _ _ c,a=>ND (λx=>oG c x) a
 |.pair c d,a=>by
  show(i7 (c.enc a.1)&&(i7 (d.enc a.2)&&true))=true
  rw[oG c a.1,oG d a.2]<;>rfl
 |.triple c d e,a=>by
  show(i7 (c.enc a.1)&&(i7 (d.enc a.2.1)&&(i7 (e.enc a.2.2)&&true)))=true
  rw[oG c a.1,oG d a.2.1,oG e a.2.2]<;>rfl
 |.option c,none=>rfl
 |.option c,some x=>oG c x
theorem NF:∀(cs:List Codec) (a:Codec.denoteAll cs),jP (Codec.encAll cs a)=true
 |[],_=>rfl
 |c::cs,a=>by
  show(i7 (c.enc a.1)&&jP (Codec.encAll cs a.2))=true
  rw[oG c a.1,NF cs a.2]<;>rfl
theorem FK:∀{xs:List WData} {d:WData},d∈xs→d.weight≤WData.weightAll xs
 |[],d,h=>absurd h (by simp)
 |x::r,d,h=>by
  show d.weight≤x.weight+1+WData.weightAll r
  rcases List.mem_cons.mp h with e|m
  ·rw[e]
   omega
  ·have z:=FK m
   omega
def toV:Value→V
 |.none=>.aJ
 |.bool b=>.bl b
 |.int i _=>.int i
 |.str x _=>.str x
 |.bytes b _=>.g9 b
 |.ref a=>.ref a
 |_=>.aJ
def jq(A:List Addr):Value→Prop
 |.none=>True
 |.bool _=>True
 |.int _ _=>True
 |.str _ _=>True
 |.bytes _ _=>True
 |.ref a=>a∈A
 |_=>False
theorem jq.mono{A B:List Addr}(h:∀a∈A,a∈B):∀{u:Value},jq A u→jq B u:=λ{u} x=>by
 cases u with
 |ref a=>exact h a x
 |none=>trivial
 |bool b=>trivial
 |int i t=>trivial
 |str s t=>trivial
 |bytes b t=>trivial
 |_=>exact False.elim x
theorem aaT{A:List Addr}{u:Value}(x:jq A u):RelV (toV u) u:=by
 cases u with
 |ref a=>rfl
 |none=>rfl
 |bool b=>rfl
 |int i t=>exact⟨t,rfl⟩
 |str s t=>exact⟨t,rfl⟩
 |bytes b t=>exact⟨t,rfl⟩
 |_=>exact False.elim x
theorem sF{A:List Addr}:∀{vs:List Value},(∀u∈vs,jq A u)→Vals (vs.map toV) vs
 |[],_=>.nil
 |u::r,h=>.cons (aaT (h u (List.mem_cons_self ..))) (sF λx hx=>h x (List.mem_cons_of_mem _ hx))
def jQ(h:Heap)(A:List Addr)(a:Addr):Prop:=∃vs:List Value,vs.length≤sizeLine∧(∀u∈vs,jq A u)∧
 (h.get? a=some {cls:=.type "list",data:=.seq vs.toArray}∨h.get? a=some {cls:=.type "tuple",data:=.seq vs.toArray})
theorem jQ.mono{h:Heap}{A B:List Addr}{a:Addr}(k:∀a∈A,a∈B)(x:jQ h A a):jQ h B a:=by
 obtain⟨vs,h1,h2,h3⟩:=x
 exact⟨vs,h1,λu hu=>(h2 u hu).mono k,h3⟩
theorem yO{P:Params}{h:Heap}:∀{vs:List Value} {ds:List WData},WellAll P h vs ds→vs.length=ds.length
 |_,_,.nil=>rfl
 |_,_,.cons _ b=>by
  show _+1=_+1
  rw[yO b]
theorem NG{P:Params}{h:Heap}{v:Value}{ds:List WData}(x:Well P h v (.list ds)):∃(a:Addr) (vs:List Value),v=.ref a∧h.get? a=some {cls:=.type "list",data:=.seq vs.toArray}∧WellAll P h vs ds:=by
 cases x with
 |list ho gy=>exact⟨_,_,rfl,ho,gy⟩
theorem NH{P:Params}{h:Heap}{v:Value}{ds:List WData}(x:Well P h v (.tuple ds)):∃(a:Addr) (vs:List Value),v=.ref a∧h.get? a=some {cls:=.type "tuple",data:=.seq vs.toArray}∧WellAll P h vs ds:=by
 cases x with
 |tuple ho gy=>exact⟨_,_,rfl,ho,gy⟩
theorem NI{P:Params}{h:Heap}{us:List Value}{d:WData}{ds:List WData}(x:WellAll P h us (d::ds)):∃(v:Value) (vs:List Value),us=v::vs∧Well P h v d∧WellAll P h vs ds:=by
 cases x with
 |cons a b=>exact⟨_,_,rfl,a,b⟩
theorem NJ{n:Nat}(h:n≤1048576):n≤sizeLine:=Nat.le_trans h (by decide)
section
variable{P:Params}{h:Heap}
mutual
theorem aaU:∀(d:WData) (v:Value),Well P h v d→i7 d=true→d.weight≤1048576→∃A:List Addr,jq A v∧∀a∈A,jQ h A a
 |.none,_,x,_,_=>by
  cases x
  exact⟨[],trivial,λa m=>absurd m (by simp)⟩
 |.bool b,_,x,_,_=>by
  cases x
  exact⟨[],trivial,λa m=>absurd m (by simp)⟩
 |.int i,_,x,_,_=>by
  cases x
  exact⟨[],trivial,λa m=>absurd m (by simp)⟩
 |.str s,_,x,_,_=>by
  cases x
  exact⟨[],trivial,λa m=>absurd m (by simp)⟩
 |.bytes b,_,x,_,_=>by
  cases x
  exact⟨[],trivial,λa m=>absurd m (by simp)⟩
 |.list ds,_,x,p,z=>by
  obtain⟨a,vs,rfl,ho,gy⟩:=NG x
  have z2:WData.weightAll ds≤1048576:=z
  obtain⟨A,h1,h2⟩:=yP ds _ gy p λd hd=>Nat.le_trans (FK hd) z2
  have k:∀b∈A,b∈a::A:=λb hb=>List.mem_cons_of_mem _ hb
  refine⟨a::A,List.mem_cons_self ..,λb hb=>?_⟩
  rcases List.mem_cons.mp hb with e|m
  ·rw[e]
   exact⟨vs,NJ (by rw[yO gy];exact Nat.le_trans (PySem.W.length_le_weightAllW ds) z2),λu hu=>(h1 u hu).mono k,.inl ho⟩
  ·exact(h2 b m).mono k
 |.tuple ds,_,x,p,z=>by
  obtain⟨a,vs,rfl,ho,gy⟩:=NH x
  have z2:WData.weightAll ds≤1048576:=z
  obtain⟨A,h1,h2⟩:=yP ds _ gy p λd hd=>Nat.le_trans (FK hd) z2
  have k:∀b∈A,b∈a::A:=λb hb=>List.mem_cons_of_mem _ hb
  refine⟨a::A,List.mem_cons_self ..,λb hb=>?_⟩
  rcases List.mem_cons.mp hb with e|m
  ·rw[e]
   exact⟨vs,NJ (by rw[yO gy];exact Nat.le_trans (PySem.W.length_le_weightAllW ds) z2),λu hu=>(h1 u hu).mono k,.inr ho⟩
  ·exact(h2 b m).mono k
 |.float _,_,_,p,_=>Bool.noConfusion (show false=true from p)
 |.dict _,_,_,p,_=>Bool.noConfusion (show false=true from p)
 |.bytearray _,_,_,p,_=>Bool.noConfusion (show false=true from p)
 |.set _,_,_,p,_=>Bool.noConfusion (show false=true from p)
 |.frozenset _,_,_,p,_=>Bool.noConfusion (show false=true from p)
 |.obj _ _,_,_,p,_=>Bool.noConfusion (show false=true from p)
theorem yP:∀(ds:List WData) (vs:List Value),WellAll P h vs ds→jP ds=true→(∀d∈ds,d.weight≤1048576)→∃A:List Addr,(∀u∈vs,jq A u)∧∀a∈A,jQ h A a
 |[],_,x,_,_=>by
  cases x
  exact⟨[],λu m=>absurd m (by simp),λa m=>absurd m (by simp)⟩
 |d::ds,_,x,p,z=>by
  obtain⟨v,vs,rfl,x1,x2⟩:=NI x
  have q:i7 d=true∧jP ds=true:=Bool.and_eq_true_iff.mp p
  obtain⟨A,a1,a2⟩:=aaU d v x1 q.1 (z d (List.mem_cons_self ..))
  obtain⟨B,b1,b2⟩:=yP ds vs x2 q.2 λe he=>z e (List.mem_cons_of_mem _ he)
  have kA:∀b∈A,b∈A++B:=λb hb=>List.mem_append.mpr (.inl hb)
  have kB:∀b∈B,b∈A++B:=λb hb=>List.mem_append.mpr (.inr hb)
  refine⟨A++B,λu hu=>?_,λb hb=>?_⟩
  ·rcases List.mem_cons.mp hu with e|m
   ·rw[e]
    exact a1.mono kA
   ·exact(b1 u m).mono kB
  ·rcases List.mem_append.mp hb with m|m
   ·exact(a2 b m).mono kA
   ·exact(b2 b m).mono kB
end
end
def yQ(o:Obj):Option HO:=match o.data with
 |.seq vs _=>if(o.cls==Value.type "list")=true then some (.fE o (.lst (vs.toList.map toV)))else some (.fE o (.tup (vs.toList.map toV)))
 |_=>none
def gz(K:PySem.W.Frag)(h:Heap)(A:List Addr):Hp:=λb=>if b∈A then(if(K.lookup b).isNone=true then(h.get? b).bind yQ else none)else none
def vC(H:Hp):Prop:=∀b,H b=none∨∃o u,H b=some (.fE o u)
theorem NK(vs:List Value):yQ {cls:=.type "list",data:=.seq vs.toArray}=some (.fE {cls:=.type "list",data:=.seq vs.toArray} (.lst (vs.map toV))):=by
 show(if(Value.type "list"==Value.type "list")=true then some (HO.fE {cls:=.type "list",data:=.seq vs.toArray} (.lst (vs.toArray.toList.map toV)))else some (HO.fE {cls:=.type "list",data:=.seq vs.toArray} (.tup (vs.toArray.toList.map toV))))=_
 rw[if_pos (beq_self_eq_true _)]
theorem NL(vs:List Value):yQ {cls:=.type "tuple",data:=.seq vs.toArray}=some (.fE {cls:=.type "tuple",data:=.seq vs.toArray} (.tup (vs.map toV))):=by
 show(if(Value.type "tuple"==Value.type "list")=true then some (HO.fE {cls:=.type "tuple",data:=.seq vs.toArray} (.lst (vs.toArray.toList.map toV)))else some (HO.fE {cls:=.type "tuple",data:=.seq vs.toArray} (.tup (vs.toArray.toList.map toV))))=_
 rw[if_neg (by decide)]
section
variable{P:Program}{w:World}{K:PySem.W.Frag}{h:Heap}{A:List Addr}
theorem yR{b:Addr}{o:Obj}(hb:b∈A)(hk:K.lookup b=none)(e:h.get? b=some o):gz K h A b=yQ o:=by
 unfold gz
 rw[if_pos hb,hk,if_pos (show(none:Option Obj).isNone=true from rfl),e]<;>rfl
theorem aaV{b:Addr}{u:HO}(q:gz K h A b=some u):b∈A∧K.lookup b=none:=by
 unfold gz at q
 by_cases hb:b∈A
 ·rw[if_pos hb]at q
  cases hk:K.lookup b with
  |none=>exact⟨hb,rfl⟩
  |some o=>
   rw[hk,if_neg (by simp)]at q
   cases q
 ·rw[if_neg hb]at q
  cases q
theorem yS(ar:∀a∈A,jQ h A a){b:Addr}{u:HO}(q:gz K h A b=some u):K.lookup b=none∧∃vs:List Value,vs.length≤sizeLine∧(∀u∈vs,jq A u)∧
  ((h.get? b=some {cls:=.type "list",data:=.seq vs.toArray}∧u=.fE {cls:=.type "list",data:=.seq vs.toArray} (.lst (vs.map toV)))∨
   (h.get? b=some {cls:=.type "tuple",data:=.seq vs.toArray}∧u=.fE {cls:=.type "tuple",data:=.seq vs.toArray} (.tup (vs.map toV)))):=by
 obtain⟨hb,hk⟩:=aaV q
 obtain⟨vs,h1,h2,h3⟩:=ar b hb
 refine⟨hk,vs,h1,h2,?_⟩
 rcases h3 with e|e
 ·rw[yR hb hk e,NK]at q
  exact .inl ⟨e,(Option.some.inj q).symm⟩
 ·rw[yR hb hk e,NL]at q
  exact .inr ⟨e,(Option.some.inj q).symm⟩
theorem aaW(ar:∀a∈A,jQ h A a):vC (gz K h A):=λb=>by
 cases q:gz K h A b with
 |none=>exact .inl rfl
 |some u=>
  obtain⟨_,vs,_,_,⟨_,e⟩|⟨_,e⟩⟩:=yS ar q
  ·exact .inr ⟨_,_,by rw[e]⟩
  ·exact .inr ⟨_,_,by rw[e]⟩
theorem aaX(ar:∀a∈A,jQ h A a):cu P w (gz K h A) h:=λb u q=>by
 obtain⟨_,vs,h1,h2,⟨e,rfl⟩|⟨e,rfl⟩⟩:=yS ar q
 ·exact⟨e,by rw[List.length_map];exact h1,vs,_,sF h2,e⟩
 ·exact⟨e,by rw[List.length_map];exact h1,vs,sF h2,_,e,rfl,_,rfl⟩
theorem yT{c c':Value}{vs us:List Value}(e:(some {cls:=c,data:=.seq vs.toArray}:Option Obj)=some {cls:=c',data:=.seq us.toArray}):c=c'∧vs=us:=by
 have e1:=Option.some.inj e
 have e2:c=c':=congrArg Obj.cls e1
 have e3:Data.seq vs.toArray=Data.seq us.toArray:=congrArg Obj.data e1
 injection e3 with e4
 refine⟨e2,?_⟩
 have e5:=congrArg Array.toList e4
 simpa using e5
theorem aaY(KX:K.In h)(ar:∀a∈A,jQ h A a){a:Addr}{vs:List Value}(ha:a∈A)(e:h.get? a=some {cls:=.type "list",data:=.seq vs.toArray}):(∀u∈vs,jq A u)∧ah K (gz K h A) a (vs.map toV):=by
 obtain⟨us,h1,h2,h3⟩:=ar a ha
 have hu:us=vs:=by
  rcases h3 with q|q
  ·rw[e]at q
   exact(yT q).2.symm
  ·rw[e]at q
   exact absurd (Value.type.inj (yT q).1) (by decide)
 subst hu
 refine⟨h2,?_⟩
 cases hk:K.lookup a with
 |none=>exact .inl (.inr ⟨_,by rw[yR ha hk e,NK]⟩)
 |some o=>
  have e2:=KX a o hk
  rw[e]at e2
  obtain rfl:=Option.some.inj e2
  exact .inr ⟨_,us.toArray,_,hk,rfl,rfl,rfl,by rw[List.size_toArray];exact h1,by simpa using sF h2⟩
theorem aaZ(KX:K.In h)(ar:∀a∈A,jQ h A a){a:Addr}{vs:List Value}(ha:a∈A)(e:h.get? a=some {cls:=.type "tuple",data:=.seq vs.toArray}):(∀u∈vs,jq A u)∧aY K (gz K h A) a (vs.map toV):=by
 obtain⟨us,h1,h2,h3⟩:=ar a ha
 have hu:us=vs:=by
  rcases h3 with q|q
  ·rw[e]at q
   exact absurd (Value.type.inj (yT q).1) (by decide)
  ·rw[e]at q
   exact(yT q).2.symm
 subst hu
 refine⟨h2,?_⟩
 cases hk:K.lookup a with
 |none=>exact .inl (.inr ⟨_,by rw[yR ha hk e,NL]⟩)
 |some o=>
  have e2:=KX a o hk
  rw[e]at e2
  obtain rfl:=Option.some.inj e2
  exact .inr ⟨_,us.toArray,_,hk,rfl,rfl,by rw[List.size_toArray];exact h1,by simpa using sF h2⟩
mutual
theorem aa0{Pm:Params}(KX:K.In h)(ar:∀a∈A,jQ h A a):∀(d:WData) (v:Value),Well Pm h v d→i7 d=true→jq A v→Dw K (gz K h A) (toV v) d
 |.none,_,x,_,_=>by
  cases x
  exact .aJ
 |.bool b,_,x,_,_=>by
  cases x
  exact .bl b
 |.int i,_,x,_,_=>by
  cases x
  exact .int i
 |.str s,_,x,_,_=>by
  cases x
  exact .str s
 |.bytes b,_,x,_,_=>by
  cases x
  have z:=Dw.g9 (K:=K) (H:=gz K h A) b.toArray
  exact z
 |.list ds,_,x,p,hu=>by
  obtain⟨a,vs,rfl,ho,gy⟩:=NG x
  obtain⟨h2,hs⟩:=aaY KX ar hu ho
  exact .lst hs (yU KX ar ds _ gy p h2)
 |.tuple ds,_,x,p,hu=>by
  obtain⟨a,vs,rfl,ho,gy⟩:=NH x
  obtain⟨h2,hs⟩:=aaZ KX ar hu ho
  exact .tup hs (yU KX ar ds _ gy p h2)
 |.float _,_,_,p,_=>Bool.noConfusion (show false=true from p)
 |.dict _,_,_,p,_=>Bool.noConfusion (show false=true from p)
 |.bytearray _,_,_,p,_=>Bool.noConfusion (show false=true from p)
 |.set _,_,_,p,_=>Bool.noConfusion (show false=true from p)
 |.frozenset _,_,_,p,_=>Bool.noConfusion (show false=true from p)
 |.obj _ _,_,_,p,_=>Bool.noConfusion (show false=true from p)
theorem yU{Pm:Params}(KX:K.In h)(ar:∀a∈A,jQ h A a):∀(ds:List WData) (vs:List Value),WellAll Pm h vs ds→jP ds=true→(∀u∈vs,jq A u)→jO K (gz K h A) (vs.map toV) ds
 |[],_,x,_,_=>by
  cases x
  exact .nil
 |d::ds,_,x,p,hu=>by
  obtain⟨v,vs,rfl,x1,x2⟩:=NI x
  have q:i7 d=true∧jP ds=true:=Bool.and_eq_true_iff.mp p
  exact .cons (aa0 KX ar d v x1 q.1 (hu _ (List.mem_cons_self ..))) (yU KX ar ds vs x2 q.2 λu m=>hu u (List.mem_cons_of_mem _ m))
end
end
theorem aa1{P:Program}{w:World}{K:PySem.W.Frag}{mg mb:Str→Option Value}{CX:gS}{k:Nat}{fa:Addr}{fd:FuncData}{ps:List Str}{sp:Sp}{cb:Shared}{vals:List Value}{ds:List WData}{R:PySem.W.WRecords}{cl:Str→Option Addr}{d0:WData}(KX:K.In cb.heap)(wO:cb.heap.Ns mainGlobals mg)(hb:cb.heap.Ns builtinsNs mb)(wV:∀x:Str,x≠"__name__"→mb x=bootBuiltins x)(aa2:cb.heap.NoLimit)(hg:cb.gens=#[])(lz:WellAll w.params cb.heap vals ds)(eG:jP ds=true)(hwt:∀d∈ds,d.weight≤1048576)(hr:dJ k callerA)(F:∀base:Heap,K.In base→base.Ns mainGlobals mg→fH P w K mg base CX k fa fd ps sp)(aa3:∀(s:Shared) (us:List Value),us.length=ps.length→BindsTo s fd ⟨us,[]⟩ (ps.zip us))(hlen:ds.length=ps.length)(ju:∀(H:Hp) (xs:List V),vC H→jO K H xs ds→sp xs H (λv U=>Dw K U v d0) λ_ _ _=>False)(vD:∀H e s',CX [] H cb (λ_ _ _=>False) e s'→False):
  codeAny (model P w) callerA (.call (.ref fa) ⟨vals,[]⟩) (λr s'=>∃u as,r=.ok (.ret u)∧ReadsW R cl s'.heap u d0 as∧OldK cb.heap s'.heap∧s'.os=cb.os∧AllBare s'.gens) cb:=by
 obtain⟨A,ho,ar⟩:=yP ds vals lz eG hwt
 have hO:vC (gz K cb.heap A):=aaW ar
 have aK:cu P w (gz K cb.heap A) cb.heap:=aaX ar
 have hS:=yU KX ar ds vals lz eG ho
 have hV:=sF ho
 have hK:∀b u,gz K cb.heap A b=some u→K.lookup b=none:=λb u q=>(yS ar q).1
 have qw:∀{b:Addr} {o:Obj} {es:Array DictEntry} {ep:Nat},cb.heap.get? b=some o→o.data=.dict es ep→gz K cb.heap A b=none:=λ{b o es ep} e d=>by
  cases q:gz K cb.heap A b with
  |none=>rfl
  |some u=>
   obtain⟨_,vs,_,_,⟨e2,_⟩|⟨e2,_⟩⟩:=yS ar q
   ·rw[e2]at e
    cases e
    have d':Data.seq vs.toArray _=Data.dict es ep:=d
    cases d'
   ·rw[e2]at e
    cases e
    have d':Data.seq vs.toArray _=Data.dict es ep:=d
    cases d'
 generalize gz K cb.heap A=H at hO aK hS hK qw
 have NM:∀{b:Addr} {o:Obj},cb.heap.get? b=some o→H b=none→(lO cb.heap H).get? b=some o:=λe n=>N0 e n
 have yV:∀{b:Addr} {m:Str→Option Value},cb.heap.Ns b m→(lO cb.heap H).Ns b m:=λ{b m} ⟨o,es,ep,e,d,r⟩=>⟨o,es,ep,NM e (qw e d),d,r⟩
 have nK:∀b o,K.lookup b=some o→H b=none:=λb o e=>by
  cases q:H b with
  |none=>rfl
  |some u=>
   rw[hK b u q]at e
   cases e
 have NN:K.In (lO cb.heap H):=λb o e=>NM (KX b o e) (nK b o e)
 have hM:Mod K mg (lO cb.heap H):=⟨NN,yV wO,⟨mb,yV hb,wV⟩,let⟨mc,h1,h2⟩:=aa2;⟨mc,yV h1,h2⟩⟩
 have e0:oY P w K mg (lO cb.heap H) callerA [] cb H:=⟨rfl,hM,λb o e=>N1 e,Nat.le_of_eq (NZ _ _),trivial,λb hb=>absurd (show b∈([]:List Addr)from hb) (by simp),aK,.of_eq hg⟩
 have hl:vals.length=ps.length:=by rw[yO lz];exact hlen
 refine codeAny_mono ((F _ NN (yV wO)).run callerA [] cb H ⟨vals,[]⟩ vals (vals.map toV) _ _ hr e0 (aa3 cb vals hl) hV (ju H _ hO hS)) λr s' x=>?_
 cases r with
 |error e=>exact(vD H e s' x).elim
 |ok fl=>
  cases fl with
  |next=>exact False.elim x
  |brk=>exact False.elim x
  |cont=>exact False.elim x
  |ret u=>
   obtain⟨v,U,os,bare,un,NO,r',q⟩:=x
   have kept:∀b o,cb.heap.get? b=some o→s'.heap.get? b=some o:=λb o e=>by
    cases q2:H b with
    |none=>exact un.keep b o e q2 (by intro z;exact absurd (show b∈([]:List Addr)from z) (by simp)) (by simp)
    |some u2=>
     rcases hO b with z|⟨ob,u3,z⟩
     ·rw[q2]at z
      cases z
     ·have z2:=un.iJ b ob _ z
      obtain⟨e1,_⟩:=aK b _ z
      obtain⟨e2,_⟩:=NO b _ z2
      rw[e]at e1
      cases e1
      exact e2
   have KX':K.In s'.heap:=λb o e=>kept b o (KX b o e)
   obtain⟨as,sD⟩:=Dw.reads (R:=R) (cl:=cl) NO KX' d0 v u q r'
   exact⟨u,as,rfl,sD,OldK.of_keep kept,os,bare⟩
theorem aa4{ds:List WData}(h:WData.layableAll ds=true):∀d∈ds,d.weight≤1048576:=λd hd=>
 (PySem.W.layableW_iff.mp (List.all_eq_true.mp h d hd)).2.2
theorem NP:∀(cs:List Codec) (a:Codec.denoteAll cs),(Codec.encAll cs a).length=cs.length
 |[],_=>rfl
 |c::cs,a=>by
  show(Codec.encAll cs a.2).length+1=cs.length+1
  rw[NP cs a.2]
theorem aa5{r:OpenSpec}{k:Nat}{q:Program}{loose:List Str}{XP:(Str→Option Value)→Heap→Prop}{YP:World→Heap→Prop}{d:DefRec}{K:Params→PySem.W.Frag}{CX:World→gS}{ps:List Str}{sp:World→Sp}(FL:r.wellSaid=true)(NQ:d.params.defaults=[])(hlen:r.args.length=ps.length)(hr:dJ k callerA)(hY:∀(w:World) (h:Heap),YP w h→(K w.params).In h)(F:∀(w:World) (mg:Str→Option Value) (fa:Addr) (h:Heap),YP w h→(K w.params).In h→h.Ns mainGlobals mg→mg d.name=some (.ref fa)→∃fd:FuncData,(∀(s:Shared) (us:List Value),us.length=ps.length→BindsTo s fd ⟨us,[]⟩ (ps.zip us))∧∀base:Heap,(K w.params).In base→base.Ns mainGlobals mg→fH r.prog w (K w.params) mg base (CX w) k fa fd ps (sp w))(ju:∀(w:World) (H:Hp) (xs:List V) (a:Codec.denoteAll r.args),vC H→Codec.withinAll r.args a=true→Codec.app r.args r.asked a=true→jO (K w.params) H xs (Codec.encAll r.args a)→sp w xs H (λv U=>Dw (K w.params) U v (r.ret.enc (Codec.app r.args r.f a))) λ_ _ _=>False)(vD:∀(w:World) (H:Hp) (s:Shared) (e:Value) (s':Shared),CX w [] H s (λ_ _ _=>False) e s'→False):
  PySem.W.WalkOS q loose XP YP r d [] (λf vs=>PySem.call f vs):=by
 intro w d4 cb mg mb G Y fa o pm cd doc dV kV ho hd jS hD hmg hg args vals as aa6 aa7 sD lz hlo
 obtain⟨a,e1,e2⟩:=PySem.W.os_pre_some aa6
 obtain⟨e3,NR⟩:=Codec.encAll_of_decAll r.args args a e1
 subst e3
 have KX:=hY w _ Y
 obtain⟨fd,hb,hF⟩:=F w mg fa _ Y KX G.T.g hmg
 refine PySem.W.enter_call (codeAny_mono (aa1 (R:=[]) (cl:=classAt d4.heap) (d0:=r.ret.enc (Codec.app r.args r.f a)) KX G.T.g G.T.b G.T.builtins G.T.nolimit hg lz (NF _ _) (aa4 aa7) hr hF hb (by rw[NP];exact hlen)
  (λH xs hO hS=>ju w H xs a hO NR e2 hS) λH e s'=>vD w H cb e s') λr' s' hq=>?_)
 obtain⟨u,xT,rfl,h1,h2,h3,h4⟩:=hq
 exact⟨.inl ⟨u,_,xT,rfl,λ_=>rfl,h1,(OpenSpec.post_iff FL NR _ _).mpr rfl,λz=>Bool.noConfusion (show false=true from z)⟩,h2,h3,h4⟩
theorem ad1{r:OpenSpec}{k:Nat}{q:Program}{loose:List Str}{XP:(Str→Option Value)→Heap→Prop}{YP:World→Heap→Prop}{d:DefRec}{K:Params→PySem.W.Frag}{CX:gS}{ps:List Str}{sp:PySem.W.Frag→Sp}(FL:r.wellSaid=true)(NQ:d.params.defaults=[])(hlen:r.args.length=ps.length)(hr:dJ k callerA)(hY:∀(w:World) (h:Heap),YP w h→(K w.params).In h)(F:∀(w:World) (mg:Str→Option Value) (fa:Addr) (h:Heap),YP w h→(K w.params).In h→h.Ns mainGlobals mg→mg d.name=some (.ref fa)→∃fd:FuncData,(∀(s:Shared) (us:List Value),us.length=ps.length→BindsTo s fd ⟨us,[]⟩ (ps.zip us))∧∀base:Heap,(K w.params).In base→base.Ns mainGlobals mg→fH r.prog w (K w.params) mg base CX k fa fd ps (sp (K w.params)))(ju:∀(K:PySem.W.Frag) (H:Hp) (xs:List V) (a:Codec.denoteAll r.args),vC H→Codec.withinAll r.args a=true→Codec.app r.args r.asked a=true→jO K H xs (Codec.encAll r.args a)→sp K xs H (λv U=>Dw K U v (r.ret.enc (Codec.app r.args r.f a))) λ_ _ _=>False)(vD:∀(H:Hp) (s:Shared) (e:Value) (s':Shared),CX [] H s (λ_ _ _=>False) e s'→False):
  PySem.W.WalkOS q loose XP YP r d [] (λf vs=>PySem.call f vs):=
 aa5 (K:=K) (CX:=λ_=>CX) (sp:=λw=>sp (K w.params)) FL NQ hlen hr hY F (λw H xs a h1 h2 h3 h4=>ju (K w.params) H xs a h1 h2 h3 h4) λ_ H s e s'=>vD H s e s'
end L2
end
namespace LX
open PySem
theorem Rt(o:Obj)(f):(o.mapFields f).dict=o.dict:=by
 obtain⟨c,d,dt,sl⟩:=o
 cases dt<;>rfl
def l9(h:Heap)(e C dx T:Addr)(fl:Value):Prop:=
 ∃oe vs oT ts,h.get? e=some oe∧oe.cls=.ref C∧oe.dict=some dx∧oe.data=.fields vs∧vs[1]?=some (.ref T)∧T≠e∧h.get? T=some oT∧oT.data=.fields ts∧ts[3]?=some fl
def wM(h:Heap)(e C dx:Addr):Prop:=
 ∃oe vs,h.get? e=some oe∧oe.cls=.ref C∧oe.dict=some dx∧oe.data=.fields vs∧vs[1]?=some .none
def qP(h:Heap)(e C dx:Addr):Option Addr→Prop
 |none=>wM h e C dx
 |some T=>l9 h e C dx T .none
section
variable{M:Model}{A:Around}{E:Value→Shared→Prop}{s:Shared}
theorem Au{e C dx T:Addr}{fl:Value}{Q:Unit→Shared→Prop}(x:l9 s.heap e C dx T fl)(hQ:∀h',l9 h' e C dx T .none→(∀b,b≠T→h'.get? b=s.heap.get? b)→Q () {s with heap:=h'}):wpAny M A (setFlight (.ref e) none) Q E s:=by
 obtain⟨oe,vs,oT,ts,he,hc,gK,hd,h1,iz,hT,nI,h3⟩:=x
 have Jc:3<ts.size:=(Array.getElem?_eq_some_iff.mp h3).1
 refine wpAny_setFlight_none he hd h1 hT nI Jc (hQ _ ?_ λb hb=>Heap.get?_update_other _ _ (Ne.symm hb))
 exact⟨oe,vs,_,_,(Heap.get?_update_other _ _ iz).trans he,hc,gK,hd,h1,iz,Heap.get?_update_self _ hT (Obj.isFreed_of_fields (Obj.data_mapFields nI _)),Obj.data_mapFields nI _,by simp[Jc]⟩
structure uc(fr:List Addr)(e:Addr)(T:Option Addr)(h h':Heap):Prop where
 keep:∀b o,h.get? b=some o→b≠e→T≠some b→b∉fr→h'.get? b=some o
 slot:∀b o,h.get? b=some o→b∈fr→∃sl,h'.get? b=some {o with slots:=sl}
 there:∀b o,h.get? b=some o→∃o',h'.get? b=some o'
theorem Jd{base:Heap}{env:Env}{outer:List Env}{L e C dx:Addr}{oe:Obj}{vs:Array Value}{head:Value}{more:Bool}{Q:Unit→Shared→Prop}(jA:A.frames=some (env::outer))(nJ:s.heap.FunFrames base (env::outer))(hL:env.frame=some L)(he:s.heap.get? e=some oe)(hc:oe.cls=.ref C)(gK:oe.dict=some dx)(hd:oe.data=.fields vs)(hsz:1<vs.size)(hQ:∀h' T,l9 h' e C dx T (rawInt L)→s.heap.get? T=none→uc ((env::outer).filterMap (·.frame)) e none s.heap h'→Q () {s with heap:=h'}):
  wpAny M A (do let a ←frameOf env;let pl ←entryPlaceOf L more;let b ←EntryCells.newEntry head a .none (rawInt L) .none pl;setField (.ref e) 1 b) Q E s:=by
 have Je:e∉(env::outer).filterMap (·.frame):=λmem=>by
  obtain⟨_,o,ho,nf⟩:=nJ.mem mem
  rw[he]at ho
  cases ho
  exact nf vs hd
 refine wpAny_bind (wpAny_frameOf_fun jA nJ hL λg1 k1=>?_)
 refine wpAny_bind (wpAny_entryPlaceOf λpl Jf=>?_)
 unfold EntryCells.newEntry newFields
 refine wpAny_bind (wpAny_newObj_type ?_ (Jf.sizeOk5 _ _ _ _ _))
 have Jg:g1.get? e=some oe:=(k1.2.1 e Je).trans he
 have eT:g1.objs.size≠e:=Nat.ne_of_gt (Heap.lt_size Jg)
 have Av:=Heap.get?_push_of_some {cls:=.type "traceback",dict:=none,data:=.fields ([head,.ref L,.none,rawInt L,.none]++(if pl.isEmpty then List.replicate 6 Value.none else pl)).toArray} Jg
 refine wpAny_setField Av hd hsz (hQ _ g1.objs.size ?_ (Heap.get?_none_of_le (by rw[k1.1];exact Nat.le_refl _)) ?_)
 ·have lZ:=Heap.get?_push_size g1 (o:={cls:=.type "traceback",dict:=none,data:=.fields ([head,.ref L,.none,rawInt L,.none]++(if pl.isEmpty then List.replicate 6 Value.none else pl)).toArray}) rfl
  refine⟨_,_,_,_,Heap.get?_update_self _ Av (Obj.isFreed_of_fields (Obj.data_mapFields hd _)),(Obj.cls_mapFields _ _).trans hc,(Rt _ _).trans gK,Obj.data_mapFields hd _,by simp[hsz],eT,
   (Heap.get?_update_other _ _ (Ne.symm eT)).trans lZ,rfl,?_⟩
  first|(simp;done)|(rcases Jf with rfl|⟨_,_,_,_,_,_,_,rfl⟩<;>simp)
 ·have Aw:∀b o,g1.get? b=some o→b≠e→((g1.push {cls:=.type "traceback",dict:=none,data:=.fields ([head,.ref L,.none,rawInt L,.none]++(if pl.isEmpty then List.replicate 6 Value.none else pl)).toArray}).update e (Obj.mapFields (·.setIfInBounds 1 (Value.ref g1.objs.size)))).get? b=some o:=λb o hb gA=>by
   rw[Heap.get?_update_other _ _ (Ne.symm gA)]
   exact Heap.get?_push_of_some _ hb
  refine⟨λb o hb gA _ iV=>Aw b o ((k1.2.1 b iV).trans hb) gA,λb o hb iV=>?_,λb o hb=>?_⟩
  ·obtain⟨sl,q⟩:=k1.2.2 b o hb
   exact⟨sl,Aw b _ q λz=>Je (z▸iV)⟩
  ·obtain⟨sl,q⟩:=k1.2.2 b o hb
   by_cases gA:b=e
   ·subst gA
    exact⟨_,Heap.get?_update_self _ Av (Obj.isFreed_of_fields (Obj.data_mapFields hd _))⟩
   ·exact⟨_,Aw b _ q gA⟩
theorem Jh{base:Heap}{env:Env}{outer:List Env}{L e C dx:Addr}{T:Option Addr}{Q:Unit→Shared→Prop}(jA:A.frames=some (env::outer))(nJ:s.heap.FunFrames base (env::outer))(hL:env.frame=some L)(x:qP s.heap e C dx T)(hQ:∀h' T',l9 h' e C dx T' (rawInt L)→s.heap.get? T'=none→uc ((env::outer).filterMap (·.frame)) e T s.heap h'→Q () {s with heap:=h'}):
  wpAny M A (noteFrame (.ref e) env) Q E s:=by
 unfold noteFrame
 simp only[hL]
 cases T with
 |none=>
  obtain⟨oe,vs,he,hc,gK,hd,h1⟩:=x
  refine wpAny_bind (wpAny_field he hd h1 ?_)
  rw[if_neg (by decide)]
  refine Jd jA nJ hL he hc gK hd (Array.getElem?_eq_some_iff.mp h1).1 λh' T' x' n' k=>hQ h' T' x' n' k
 |some T=>
  obtain⟨oe,vs,oT,ts,he,hc,gK,hd,h1,iz,hT,nI,h3⟩:=x
  refine wpAny_bind (wpAny_field he hd h1 ?_)
  rw[if_pos (show(Value.ref T !=Value.none)=true by simp)]
  refine wpAny_bind (wpAny_field hT nI h3 ?_)
  rw[if_neg (show¬(Value.none==rawInt L)=true by simp[rawInt])]
  refine wpAny_bind (wpAny_setField hT nI (Array.getElem?_eq_some_iff.mp h3).1 ?_)
  have qQ:∀b,b≠T→(s.heap.update T (Obj.mapFields (·.setIfInBounds 3 Value.none))).get? b=s.heap.get? b:=λb hb=>Heap.get?_update_other _ _ (Ne.symm hb)
  have Ji:=Heap.get?_update_self (Obj.mapFields (·.setIfInBounds 3 Value.none)) hT (Obj.isFreed_of_fields (Obj.data_mapFields nI _))
  have nT:∀b o,s.heap.get? b=some o→(∀ws,o.data≠.fields ws)→b≠T:=λb o hb nf z=>by
   rw[z,hT]at hb
   cases hb
   exact nf ts nI
  refine Jd (s:={s with heap:=s.heap.update T (Obj.mapFields (·.setIfInBounds 3 Value.none))}) jA (nJ.of_keeps λb o hb nf=>⟨o,(qQ b (nT b o hb nf)).trans hb,rfl⟩) hL ((qQ e (Ne.symm iz)).trans he) hc gK hd (Array.getElem?_eq_some_iff.mp h1).1 λh' T' x' n' k=>hQ h' T' x' ?_ ⟨λb o hb gA Ax iV=>k.keep b o ((qQ b λz=>Ax (by rw[z])).trans hb) gA (by simp) iV,λb o hb iV=>?_,λb o hb=>?_⟩
  ·by_cases z:T'=T
   ·rw[z]at n'
    have n':(s.heap.update T (Obj.mapFields (·.setIfInBounds 3 Value.none))).get? T=none:=n'
    rw[Ji]at n'
    cases n'
   ·exact(qQ T' z).symm.trans n'
  ·obtain⟨_,o1,Ru,nf⟩:=nJ.mem iV
   have e1:o1=o:=Option.some.inj (Ru.symm.trans hb)
   subst e1
   exact k.slot b o1 ((qQ b (nT b o1 hb nf)).trans hb) iV
  ·by_cases z:b=T
   ·rw[z]
    exact k.there T _ Ji
   ·exact k.there b o ((qQ b z).trans hb)
theorem Rv{base:Heap}{env:Env}{outer:List Env}{L e C dx:Addr}{T:Option Addr}{Q:Unit→Shared→Prop}(jA:A.frames=some (env::outer))(nJ:s.heap.FunFrames base (env::outer))(hL:env.frame=some L)(x:qP s.heap e C dx T)(hQ:∀h' T',l9 h' e C dx T' .none→s.heap.get? T'=none→uc ((env::outer).filterMap (·.frame)) e T s.heap h'→Q () {s with heap:=h'}):
  wpAny M A (leaving env (.ref e)) Q E s:=by
 unfold leaving
 refine wpAny_bind (Jh jA nJ hL x λh1 T' x1 n1 k1=>?_)
 refine Au (s:={s with heap:=h1}) x1 λh2 x2 k2=>hQ h2 T' x2 n1 ⟨λb o hb gA Ax iV=>?_,λb o hb iV=>?_,λb o hb=>?_⟩
 ·have ne:b≠T':=λz=>by rw[z,n1]at hb;cases hb
  exact(k2 b ne).trans (k1.keep b o hb gA Ax iV)
 ·have ne:b≠T':=λz=>by rw[z,n1]at hb;cases hb
  obtain⟨sl,q⟩:=k1.slot b o hb iV
  exact⟨sl,(k2 b ne).trans q⟩
 ·have ne:b≠T':=λz=>by rw[z,n1]at hb;cases hb
  obtain⟨o',q⟩:=k1.there b o hb
  exact⟨o',(k2 b ne).trans q⟩
theorem Rw{env:Env}{ev:Sem Value}{Q:Flow→Shared→Prop}{nm q:Str}{C N:Addr}{bs bm:List Value}{hdct:Bool}{sn:List Str}{sub:List Value}{ab:Bool}{col:Option Bool}{dd:Option Addr}{k0 k1 k2 k3 k5:Option Value}{newId:String}(sY:bm.contains (.type "BaseException")=true)(hh:A.handled=none)(h:wpAny M A ev (λv s1=>∃e dx,v=.ref e∧s1.heap.get? C=some (excClassObj nm q C N bs bm hdct sn sub ab col dd k0 k1 k2 k3 k5 newId)∧wM s1.heap e C dx∧E (.ref e) s1) E s):
  wpAny M A (raiseStmt env (some ev) none) Q E s:=by
 have Ay:(Value.ref C::bm).contains (.type "BaseException")=true:=by rw[List.contains_cons,sY,Bool.or_true]
 unfold raiseStmt
 refine wpAny_bind (wpAny_mono h (λv s1 h1=>?_) λ_ _ z=>z)
 obtain⟨e,dx,rfl,hC,⟨oe,vs,he,hc,gK,hd,Az⟩,hE⟩:=h1
 obtain⟨hp,g,d,tk,os⟩:=s1
 repeat (first|(with_reducible refine wpAny_loadPart_at he ?_;rw[hc])|with_reducible refine wpAny_loadPart_at hC ?_|(with_reducible refine wpAny_isSubtype_exc hC ?_;rw[Ay])|with_reducible refine wpAny_field he hd Az ?_|wp_step)
 all_goals (first|exact wpAny_raiseNew_none hh hE|skip)
end
end LX
namespace LX
open PySem
open Builtin Builtin.ObjectAttr
section
variable{prog:Program}{w:World}{A:Around}{E:Value→Shared→Prop}{h:Heap}{g:Array GenState}{d:Drawn}{t:Nat}{os:OsState}
variable{nm q:Str}{C N x:Addr}{bs bm:List Value}{sn:List Str}{sub:List Value}{ab:Bool}{col:Option Bool}{dd:Option Addr}{k0 k1 k2 k3 k5:Option Value}{B newId sa owner:String}{mN mA:Str→Option Value}{name:Str}{v:Value}
theorem Rx{o:Obj}{tk:Tok}{Q:Fin→Shared→Prop}(SF:StoreFacts B bm sa owner)(hC:h.get? C=some (excClassObj nm q C N bs bm true sn sub ab col dd k0 k1 k2 k3 k5 newId))(hn:h.Ns N mN)(l_:mN name=none)(hB:typeLookup (.type B) name=pure none)(hx:h.get? x=some o)(hc:o.cls=.ref C)(o_:∀c,o.data≠.cls c)(nH:o.dict=none)(hq:∀h' ke,h'.get? x=some {o with dict:=some h.objs.size}→h'.Ns1 h.objs.size (λy=>if y=name then some v else none)→(∀b ob,b≠x→h.get? b=some ob→h'.get? b=some ob)→Q (.done (.ret .none)) ⟨h',g,d,ke,os⟩):
  wpAny (model prog w) A (Builtin.«object.__setattr__» ⟨[.ref x,.str name tk,v],[]⟩) Q E ⟨h,g,d,t,os⟩:=by
 have pass:=SF.passes (.ref x)
 unfold Builtin.«object.__setattr__»
 repeat (first|rw[refuse_eq]|(rw[refuseLoop_ref,pass])|(with_reducible refine wpAny_loadPart_at hx ?_;rw[hc])|with_reducible refine wpAny_mroOf_exc hC ?_|(with_reducible refine wpAny_typeLookup_exc hC hn SF.mro hB ?_;rw[l_])|wp_step)
 rw[nH,if_neg (by simp[typeHasDict])]
 split
 ·rename_i z
  cases z
 split
 ·rename_i c z
  exact absurd z (o_ c)
 have up:(h.push {cls:=.type "dict",data:=.dict #[]}).get? x=some o:=Heap.get?_push_of_some _ hx
 have ne:x≠h.objs.size:=Nat.ne_of_lt (Heap.lt_size hx)
 refine wpAny_bind (wpAny_alloc' ?_)
 refine wpAny_bind (wpAny_update' up ?_)
 refine wpAny_pure ?_
 have Ry:((h.push {cls:=.type "dict",data:=.dict #[]}).update x λo=>{cls:=o.cls,dict:=some h.objs.size,data:=o.data,slots:=o.slots}).get? h.objs.size=some {cls:=.type "dict",data:=.dict #[]}:=
  (Heap.get?_update_ne _ _ _ _ ne.symm).trans (Heap.get?_push_at rfl rfl)
 have Rz:((h.push {cls:=.type "dict",data:=.dict #[]}).update x λo=>{cls:=o.cls,dict:=some h.objs.size,data:=o.data,slots:=o.slots}).Ns h.objs.size (λ_=>none):=
  ⟨_,#[],_,Ry,rfl,λe he=>absurd he (by simp),λ_=>rfl⟩
 show wpAny _ _ (storeInDict h.objs.size (.str name tk) name v) _ _ _
 unfold storeInDict newKeyGuard
 refine wpAny_bind (wpAny_pure (wpAny_bind (wpAny_nsSet1 (Heap.Ns1.of_empty Rz) λh2 n2 s2=>?_)))
 obtain⟨oD,Ov,Ow,zr,zt,zu⟩:=n2.count (Within.cons name v Within.nil)
 refine wpAny_bind (wpAny_lookBehind zr (by rw[zt];exact pastItsLine_dict (Nat.le_trans zu (by rw[List.length_cons,List.length_nil,sizeLine_eq];omega))) ?_)
 wp_walk
 refine hq h2 _ ((s2.2 x ne).trans (Heap.get?_update_self _ up ?_)) n2 λb ob wN hb=>?_
 ·have fr:=(Heap.get?_some_iff.mp hx).2
  obtain⟨oc,od,uf,gE⟩:=o
  cases uf<;>first|rfl|exact fr
 ·exact(s2.2 b (Nat.ne_of_lt (Heap.lt_size hb))).trans ((Heap.get?_update_ne _ _ _ _ wN).trans (Heap.get?_push_of_some _ hb))
theorem RB{o:Obj}{Q:Unit→Shared→Prop}(SF:StoreFacts B bm sa owner)(hC:h.get? C=some (excClassObj nm q C N bs bm true sn sub ab col dd k0 k1 k2 k3 k5 newId))(hn:h.Ns N mN)(wO:mN "__setattr__"=none)(l_:mN name=none)(hB:typeLookup (.type B) name=pure none)(hx:h.get? x=some o)(hc:o.cls=.ref C)(o_:∀c,o.data≠.cls c)(nH:o.dict=none)(hq:∀h' ke,h'.get? x=some {o with dict:=some h.objs.size}→h'.Ns1 h.objs.size (λy=>if y=name then some v else none)→(∀b ob,b≠x→h.get? b=some ob→h'.get? b=some ob)→Q () ⟨h',g,d,ke,os⟩):
  wpAny (model prog w) A (setAttr (.ref x) name v) Q E ⟨h,g,d,t,os⟩:=by
 have RC:=SF.slot.bind (.ref x)
 unfold setAttr callSpecial? specialOf
 repeat (any_goals (first|assumption|(with_reducible refine wpAny_loadPart_at hx ?_;rw[hc])|(with_reducible refine wpAny_typeLookup_exc hC hn SF.mro SF.slot.lookup ?_;rw[wO])|wp_step))
 refine codeAny_call_builtin SF.slot.plain SF.entry (wpAny_check_sa SF hC hx hc (Rx SF hC hn l_ hB hx hc o_ nH λh' ke a1 a2 a3=>?_))
 repeat (any_goals (first|assumption|wp_step))
 exact hq h' ke a1 a2 a3
theorem RE{o:Obj}{dx:Addr}{tk:Tok}{Q:Fin→Shared→Prop}(RF:mroOf (.type B)=pure bm)(hC:h.get? C=some (excClassObj nm q C N bs bm true sn sub ab col dd k0 k1 k2 k3 k5 newId))(hn:h.Ns N mN)(l_:mN name=none)(hB:typeLookup (.type B) name=pure none)(hx:h.get? x=some o)(hc:o.cls=.ref C)(o_:∀c,o.data≠.cls c)(gK:o.dict=some dx)(hA:h.Ns1 dx mA)(hv:mA name=some v)(hq:Q (.done (.ret v)) ⟨h,g,d,t,os⟩):
  wpAny (model prog w) A (Builtin.«object.__getattribute__» ⟨[.ref x,.str name tk],[]⟩) Q E ⟨h,g,d,t,os⟩:=by
 unfold Builtin.«object.__getattribute__»
 repeat (first|(with_reducible refine wpAny_loadPart_at hx ?_;rw[hc])|(with_reducible refine wpAny_typeLookup_exc hC hn RF hB ?_;rw[l_])|wp_step)
 split
 ·rename_i c z
  exact absurd z (o_ c)
 unfold instanceDict
 repeat (first|(with_reducible refine wpAny_loadPart_at hx ?_;rw[hc])|with_reducible refine wpAny_loadPart_at hC ?_|wp_step)
 rw[gK]
 repeat (first|(with_reducible refine wpAny_nsGet hA.ns ?_;rw[hv])|wp_step)
 exact hq
theorem RG{M:Model}{o:Obj}{Jj:Value}{Q:Unit→Shared→Prop}(sY:bm.contains (.type "BaseException")=true)(hC:h.get? C=some (excClassObj nm q C N bs bm true sn sub ab col dd k0 k1 k2 k3 k5 newId))(hx:h.get? x=some o)(hc:o.cls=.ref C)(hq:Q () ⟨h,g,d,t,os⟩):
  wpAny M A (checkBuiltinCall "BaseException.__getattribute__" ⟨[.ref x,Jj],[]⟩) Q E ⟨h,g,d,t,os⟩:=by
 have kd:builtinKind "BaseException.__getattribute__"=some .slot:=by decide +kernel
 have sp:splitId "BaseException.__getattribute__"=some ("BaseException","__getattribute__"):=by decide +kernel
 have Ay:(Value.ref C::bm).contains (.type "BaseException")=true:=by rw[List.contains_cons,sY,Bool.or_true]
 have ag:=F.args_bexc_ga (.ref x) Jj
 simp only[checkBuiltinCall,kd,sp]
 refine wpAny_bind ?_
 unfold isInstance
 repeat (first|(with_reducible refine wpAny_loadPart_at hx ?_;rw[hc])|(with_reducible refine wpAny_isSubtype_exc hC ?_;rw[Ay])|wp_step)
 exact hq
theorem RH{o:Obj}{dx:Addr}{expr:Bool}{Q:Value→Shared→Prop}(FB:ExcAttrBase B bm)(hC:h.get? C=some (excClassObj nm q C N bs bm true sn sub ab col dd k0 k1 k2 k3 k5 newId))(hn:h.Ns N mN)(RI:mN "__getattribute__"=none)(RJ:mN "__getattr__"=none)(l_:mN name=none)(hB:typeLookup (.type B) name=pure none)(hx:h.get? x=some o)(hc:o.cls=.ref C)(o_:∀c,o.data≠.cls c)(gK:o.dict=some dx)(hA:h.Ns1 dx mA)(hv:mA name=some v)(hh:handedOut v=pure v)(hq:Q v ⟨h,g,d,t+1,os⟩):
  wpAny (model prog w) A (getAttr (.ref x) name expr) Q E ⟨h,g,d,t,os⟩:=by
 have RC:=FB.ga.bind (.ref x)
 have e0:(expr&&onTheHeap (Value.builtin "BaseException.__getattribute__"))=false:=by cases expr<;>rfl
 have e2:(Value.builtin "BaseException.__getattribute__"==Value.builtin "object.__getattribute__")=false:=by decide +kernel
 have e1:(onTheHeap (Value.ref C)&&Value.builtin "BaseException.__getattribute__"==Value.builtin "object.__getattribute__")=false:=by rw[e2];rfl
 unfold getAttr getAttrBy
 repeat (any_goals (first|assumption|(with_reducible refine wpAny_loadPart_at hx ?_;rw[hc])|(with_reducible refine wpAny_typeLookup_exc hC hn FB.mro FB.ga.lookup ?_;rw[RI])|(with_reducible refine wpAny_typeLookup_exc hC hn FB.mro FB.noGetattr ?_;rw[RJ])|wp_step))
 refine codeAny_call_builtin FB.ga.plain F.entry_bexc_ga (RG FB.hasBase hC hx hc (RE FB.mro hC hn l_ hB hx hc o_ gK hA hv ?_))
 repeat (any_goals (first|assumption|wp_step))
 all_goals (first|(rw[hh];exact wpAny_pure hq)|(show wpAny _ _ (handedOut v) _ _ _;rw[hh];exact wpAny_pure hq)|skip)
end
end LX
namespace L2
open PySem PySem.Spec PyProof.Rows LX
def nL(e C:Addr):HO:=.ext λh=>∃oe vs,h.get? e=some oe∧oe.cls=.ref C∧oe.dict=none∧oe.data=.fields vs∧vs[1]?=some .none
def XO(e C dx:Addr):HO:=.ext λh=>wM h e C dx
def XC(e C dx:Addr):HO:=.ext λh=>∃oe vs,h.get? e=some oe∧oe.cls=.ref C∧oe.dict=some dx∧oe.data=.fields vs
def XD(dx:Addr)(fs:List (Str×V)):HO:=.ext λh=>∃mA,h.Ns1 dx mA∧(∀f,i8 (fs.lookup f) (mA f))∧PySem.Within mA (fs.map (·.1))
def del(H:Hp)(a:Addr):Hp:=λb=>if b=a then none else H b
theorem AA{H:Hp}{a:Addr}:del H a a=none:=by unfold del;rw[if_pos rfl]
theorem ma{H:Hp}{a b:Addr}(h:b≠a):del H a b=H b:=by unfold del;rw[if_neg h]
section
variable{P:Program}{w:World}{H:Hp}{h h':Heap}{a:Addr}{o:HO}
theorem dI.here(x:dI P w H h a o):∃u,h.get? a=some u:=by
 cases o with
 |lst xs=>obtain⟨_,_,_,_,e⟩:=x;exact⟨_,e⟩
 |tup xs=>obtain⟨_,_,_,ob,e,_⟩:=x;exact⟨_,e⟩
 |dK fD=>obtain⟨_,_,_,_,o,_,_,e,_⟩:=x;exact⟨_,e⟩
 |dT fD=>obtain⟨_,_,_,_,o,_,_,e,_⟩:=x;exact⟨_,e⟩
 |set S n=>obtain⟨o,_,_,_,e,_⟩:=x;exact⟨_,e⟩
 |ins C dx fs=>obtain⟨_,_,_,e,_⟩:=x;exact⟨_,e⟩
 |own y=>exact x
 |xd fs=>obtain⟨_,⟨_,_,_,e,_⟩,_⟩:=x;exact⟨_,e⟩
 |vF lo hi=>obtain⟨_,_,_,e⟩:=x;exact⟨_,e⟩
 |fE ob u=>obtain⟨e,_⟩:=x;exact⟨_,e⟩
 |mR ps=>exact⟨_,(show h.get? a=some _ from x)⟩
 |met f y=>exact⟨_,(show h.get? a=some _ from x)⟩
 |ext φ=>obtain⟨_,e,_⟩:=x;exact e
theorem cu.gone(x:cu P w H h)(e:h.get? a=none):H a=none:=by
 cases q:H a with
 |none=>rfl
 |some u=>
  obtain⟨v,hv⟩:=(x a u q).here
  rw[e]at hv
  cases hv
theorem cu.del{φ:Heap→Prop}(x:cu P w H h)(e:H a=some (.ext φ)):cu P w (del H a) h:=λb u q=>by
 have hb:b≠a:=λz=>by rw[z,AA]at q;cases q
 rw[ma hb]at q
 refine(x b u q).g_ (λ_ _ _ r=>r) (λc r=>?_) λc xs r=>?_
 ·rw[ma (λz=>by rw[z,e]at r;cases r)];exact r
 ·rw[ma (λz=>by rw[z,e]at r;cases r)];exact r
theorem cu.wQ(x:cu P w H h)(n:H a=none)(new:dI P w (upd H a o) h a o):cu P w (upd H a o) h:=λb u e=>by
 by_cases hb:b=a
 ·subst hb;rw[aw]at e;cases e;exact new
 ·rw[aG hb]at e
  exact(x b u e).g_ (λ_ _ _ r=>r) (λc r=>by rw[aG (cp r n)];exact r) λc xs r=>by rw[aG (cp r n)];exact r
end
section
variable{X:Cx}{pins:List (Addr×Obj)}{σ:St}{H:Hp}{s:Shared}
theorem Inv.old(I:Inv X pins σ H s)(hex:X.ex=[]){a:Addr}(e:s.heap.get? a=none):X.d4.heap.get? a=none:=by
 cases q:X.d4.heap.get? a with
 |none=>rfl
 |some o=>
  obtain⟨o',z⟩:=I.base.there a o q (by rw[hex];simp)
  rw[e]at z
  cases z
theorem Inv.del{a:Addr}{φ:Heap→Prop}(I:Inv X pins σ H s)(e:H a=some (.ext φ)):Inv X pins σ (del H a) s:=by
 have nn:∀b,H b=none→L2.del H a b=none:=λb q=>by
  by_cases z:b=a
  ·rw[z];exact AA
  ·rw[ma z];exact q
 refine⟨I.ok,I.os,I.bare,⟨I.base.keep,I.base.slot,λb o q n hx=>nn b (I.base.free b o q n hx),I.base.there,λb xs q=>?_,λb o u q=>?_,λb ps q=>?_⟩,I.loc,I.cell,nn _ I.free,λx c q=>nn c (I.fW x c q),λp hp=>?_,I.aK.del e,I.len⟩
 ·have r:=I.base.i9 b xs q
  rw[ma (λz=>by rw[z,e]at r;cases r)];exact r
 ·have r:=I.base.iJ b o u q
  rw[ma (λz=>by rw[z,e]at r;cases r)];exact r
 ·obtain⟨more,r⟩:=I.base.i_ b ps q
  exact⟨more,by rw[ma (λz=>by rw[z,e]at r;cases r)];exact r⟩
 ·obtain⟨q1,q2,q3,q4,q5⟩:=I.pin p hp
  exact⟨q1,nn _ q2,q3,q4,q5⟩
theorem Inv.wQ{a:Addr}{o:HO}{oa:Obj}{vs:Array Value}(I:Inv X pins σ H s)(n:H a=none)(n0:X.d4.heap.get? a=none)(ha:s.heap.get? a=some oa)(hd:oa.data=.fields vs)(hp:∀p∈X.pn++pins,p.1≠a)(new:dI X.prog X.w (upd H a o) s.heap a o):Inv X pins σ (upd H a o) s:=by
 refine⟨I.ok,I.os,I.bare,⟨I.base.keep,I.base.slot,λb q1 q2 q3 q4=>?_,I.base.there,λb xs q=>?_,λb q1 q2 q=>?_,λb ps q=>?_⟩,I.loc,I.cell,?_,λx c q=>?_,λp gL=>?_,I.aK.wQ n new,I.len⟩
 ·rw[aG (λz=>by rw[z,n0]at q2;cases q2)];exact I.base.free b q1 q2 q3 q4
 ·have r:=I.base.i9 b xs q
  rw[aG (cp r n)];exact r
 ·have r:=I.base.iJ b q1 q2 q
  rw[aG (cp r n)];exact r
 ·obtain⟨more,r⟩:=I.base.i_ b ps q
  exact⟨more,by rw[aG (cp r n)];exact r⟩
 ·obtain⟨m,⟨oL,es,ep,hL,ug,_⟩,_⟩:=I.loc
  rw[aG (λz=>by rw[z,ha]at hL;cases hL;rw[hd]at ug;cases ug)];exact I.free
 ·obtain⟨v,oc,hc,jf⟩:=I.cell x c q
  rw[aG (λz=>by rw[z,ha]at hc;cases hc;rw[hd]at jf;cases jf)];exact I.fW x c q
 ·obtain⟨q1,q2,q3,q4,q5⟩:=I.pin p gL
  exact⟨q1,by rw[aG (hp p gL)];exact q2,q3,q4,q5⟩
theorem Inv.RK{a:Addr}{o:HO}{h':Heap}{t':Nat}(I:Inv X pins σ H s)(hex:X.ex=[])(k:∀b u,s.heap.get? b=some u→h'.get? b=some u)(ha:s.heap.get? a=none)(new:dI X.prog X.w (upd H a o) h' a o):
  Inv X pins σ (upd H a o) {s with heap:=h',toks:=t'}:=by
 have hn:H a=none:=I.aK.gone ha
 have J:=I.kept (h':=h') (t':=t') k
 have n0:=I.old hex ha
 have nl:X.env.locals≠a:=λz=>by
  obtain⟨m,⟨oL,es,ep,hL,_⟩,_⟩:=I.loc
  rw[z,ha]at hL;cases hL
 refine⟨J.ok,J.os,J.bare,⟨J.base.keep,J.base.slot,λb q1 q2 q3 q4=>?_,J.base.there,λb xs q=>?_,λb q1 q2 q=>?_,λb ps q=>?_⟩,J.loc,J.cell,by rw[aG nl];exact J.free,λx c q=>?_,λp gL=>?_,J.aK.wQ hn new,J.len⟩
 ·rw[aG (λz=>by rw[z,n0]at q2;cases q2)];exact J.base.free b q1 q2 q3 q4
 ·have r:=J.base.i9 b xs q
  rw[aG (cp r hn)];exact r
 ·have r:=J.base.iJ b q1 q2 q
  rw[aG (cp r hn)];exact r
 ·obtain⟨more,r⟩:=J.base.i_ b ps q
  exact⟨more,by rw[aG (cp r hn)];exact r⟩
 ·obtain⟨v,oc,hc,jf⟩:=I.cell x c q
  rw[aG (λz=>by rw[z,ha]at hc;cases hc)];exact J.fW x c q
 ·obtain⟨q1,q2,q3,q4,q5⟩:=I.pin p gL
  exact⟨k _ _ q1,by rw[aG (λz=>by rw[z,ha]at q1;cases q1)];exact q2,q3,q4,q5⟩
theorem Inv.AB{e:Addr}{T:Option Addr}{h':Heap}(I:Inv X pins σ H s)(hex:X.ex=[])(k:uc (hJ X.stack) e T s.heap h')(he:H e=none)(n0:X.d4.heap.get? e=none)(hT:∀t,T=some t→X.d4.heap.get? t=none∧H t=none)(hp:∀p∈X.pn++pins,p.1≠e∧∀t,T=some t→p.1≠t)(de:∀o,s.heap.get? e=some o→∃vs,o.data=.fields vs)(dT:∀t o,T=some t→s.heap.get? t=some o→∃vs,o.data=.fields vs):Inv X pins σ H {s with heap:=h'}:=by
 have any:∀b o,s.heap.get? b=some o→(∀vs,o.data≠.fields vs)→∃sl,h'.get? b=some {o with slots:=sl}:=λb o q nd=>by
  by_cases hb:b∈hJ X.stack
  ·exact k.slot b o q hb
  ·refine⟨o.slots,k.keep b o q (λz=>?_) (λz=>?_) hb⟩
   ·obtain⟨vs,w⟩:=de o (z▸q);exact nd vs w
   ·obtain⟨vs,w⟩:=dT b o z q;exact nd vs w
 refine⟨I.ok,I.os,I.bare,⟨λb o q n hf hx=>?_,λb o q n hf hx=>?_,I.base.free,λb o q hx=>?_,I.base.i9,I.base.iJ,I.base.i_⟩,?_,λx c q=>?_,I.free,I.fW,λp gL=>?_,λa o q=>?_,I.len⟩
 ·have z:=I.base.keep b o q n hf hx
  refine k.keep b o z (λy=>by rw[y,n0]at q;cases q) (λy=>by rw[(hT b y).1]at q;cases q) λy=>?_
  rcases List.mem_cons.mp (I.sG b y)with r|r
  ·exact absurd (Nat.lt_of_lt_of_le (Heap.lt_size q) (r▸I.ok.above)) (Nat.lt_irrefl _)
  ·exact hf r
 ·obtain⟨sl,z⟩:=I.base.slot b o q n hf hx
  obtain⟨oF,nd⟩:∃oF,(X.d4.heap.get? b=some oF)∧∀vs,oF.data≠.fields vs:=(I.ok.ir.mem hf).2
  obtain⟨RL,z2⟩:=any b _ z (by have e1:oF=o:=Option.some.inj (nd.1.symm.trans q);rw[←e1];exact nd.2)
  exact⟨RL,z2⟩
 ·obtain⟨o',z⟩:=I.base.there b o q hx
  exact k.there b o' z
 ·obtain⟨m,⟨oL,es,ep,hL,ug,r⟩,hl⟩:=I.loc
  obtain⟨sl,z⟩:=any _ oL hL (λvs y=>by rw[ug]at y;cases y)
  refine⟨m,⟨_,es,ep,z,ug,r⟩,λi x v e1 e2 e3=>?_⟩
  obtain⟨u,ru,l⟩:=hl i x v e1 e2 e3
  refine⟨u,ru,?_⟩
  rcases l with l|⟨kd,c,ec,oc,hc,jf⟩
  ·exact .inl l
  ·obtain⟨sl,y⟩:=any c oc hc (λvs y=>by rw[jf]at y;cases y)
   exact .inr ⟨kd,c,ec,_,y,jf⟩
 ·obtain⟨v,oc,hc,jf⟩:=I.cell x c q
  obtain⟨sl,y⟩:=any c oc hc (λvs y=>by rw[jf]at y;cases y)
  exact⟨v,_,y,jf⟩
 ·obtain⟨q1,q2,q3,q4,q5⟩:=I.pin p gL
  refine⟨k.keep _ _ q1 (hp p gL).1 (λy=>(hp p gL).2 _ y rfl) λy=>?_,q2,q3,q4,q5⟩
  rcases List.mem_cons.mp (I.sG _ y)with r|r
  ·exact q3 r
  ·exact q4 r
 ·refine(I.aK a o q).g_ (λb u hb z=>?_) (λ_ r=>r) λ_ _ r=>r
  have AD:H b≠none:=by
   rcases hb with rfl|hb
   ·rw[q];simp
   ·rw[hb];simp
  exact k.keep b u z (λy=>AD (y▸he)) (λy=>AD (hT b y).2) λy=>AD (I.yX b y)
end
def aX(P:Program)(w:World):gS:=λouter H s E ev s'=>∃(e C dx T:Addr) (U:Hp),ev=.ref e∧s'.os=s.os∧AllBare s'.gens∧Un (hJ outer) [] H U s.heap s'.heap∧cu P w U s'.heap∧
 U e=none∧U T=none∧s.heap.get? e=none∧s.heap.get? T=none∧l9 s'.heap e C dx T .none∧E (.ref C) (some dx) U
def Raises(X:Cx)(E:XK):Prop:=∀(pins:List (Addr×Obj)) (σ:St) (H:Hp) (s:Shared) (e C dx:Addr) (T:Option Addr),Inv X pins σ H s→qP s.heap e C dx T→X.d4.heap.get? e=none→H e=none→
 (∀t,T=some t→X.d4.heap.get? t=none∧H t=none)→(∀p∈X.pn++pins,p.1≠e∧∀t,T=some t→p.1≠t)→E (.ref C) (some dx) H→X.xe (.ref e) s
theorem Jl{h:Heap}{e C dx:Addr}{T:Option Addr}(x:qP h e C dx T):∀o,h.get? e=some o→∃vs,o.data=.fields vs:=λo q=>by
 cases T with
 |none=>
  obtain⟨oe,vs,he,_,_,hd,_⟩:=x
  rw[he]at q;cases q;exact⟨vs,hd⟩
 |some T=>
  obtain⟨oe,vs,_,_,he,_,_,hd,_⟩:=x
  rw[he]at q;cases q;exact⟨vs,hd⟩
theorem Jm{h:Heap}{e C dx:Addr}{T:Option Addr}(x:qP h e C dx T):∀t o,T=some t→h.get? t=some o→∃vs,o.data=.fields vs:=λt o z q=>by
 subst z
 obtain⟨_,_,oT,ts,_,_,_,_,_,_,hT,hd,_⟩:=x
 rw[hT]at q;cases q;exact⟨ts,hd⟩
theorem Raises.passes{X:Cx}{E:XK}(hR:Raises X E)(hex:X.ex=[]):Passes (aX X.prog X.w) X E:=by
 rintro pins σ H s ev s' I ⟨e,C,dx,T,U,rfl,ho,hb,un,aK,he,hT,ne,nT,x,hE⟩
 have J:=I.FZ ho un aK hb (λb z=>absurd z (by simp))
 refine hR pins σ U s' e C dx (some T) J x (I.old hex ne) he (λt z=>?_) (λp hp=>⟨λz=>?_,λt y z=>?_⟩) hE
 ·cases z;exact⟨I.old hex nT,hT⟩
 ·have q:=(I.pin p hp).1
  rw[z,ne]at q;cases q
 ·cases y
  have q:=(I.pin p hp).1
  rw[z,nT]at q;cases q
theorem kh{P:Program}{w:World}{K:PySem.W.Frag}{mg:Str→Option Value}{base:Heap}{N:List Str}{qual:Str}{scope:Scope}{f:Addr}{cd:Value}{A:Around}{outer:List Env}{s0:Shared}{H0:Hp}{E:XK}:
  Raises (jZ (aX P w) P w K mg base N qual scope f cd A outer s0 H0 E) E:=by
 intro pins σ H s e C dx T I x n0 he hT hp hE
 show wpAny _ _ (leaving _ (.ref e)) _ _ s
 refine Rv (base:=base) I.ok.frames I.stack rfl x λh' T' x' Jn k=>?_
 have J:Inv _ pins σ H {s with heap:=h'}:=I.AB rfl k he n0 hT hp (Jl x) (Jm x)
 exact⟨e,C,dx,T',H,rfl,J.os,J.bare,J.base,J.aK,he,I.aK.gone Jn,n0,I.old rfl Jn,x',hE⟩
theorem jw.eH{P:Program}{w:World}{K:PySem.W.Frag}{mg:Str→Option Value}{base:Heap}{x qual:Str}{st:Stmt}{f:Addr}{fd:FuncData}{N ps:List Str}{k:Nat}{sp:Sp}(F:jw K x qual st f fd)(S:aN N ps (aE st))(len:∀vs H Q E,sp vs H Q E→vs.length=ps.length)(sS:∀(ay:Value) (A:Around) (outer:List Env) (s:Shared) (H:Hp) (vs:List V) (Q:VK) (E:XK),dJ k (A.deeper (envOfC qual (aE st) s.heap.objs.size f ay))→sp vs H Q E→∃t,gC (jZ (aX P w) P w K mg base N qual (aE st) f ay A outer s H E) (gU st) t∧t {nx:=λ_ U=>Q .aJ U,rt:=Q} (start N vs) H):fH P w K mg base (aX P w) (k+1) f fd ps sp:=by
 obtain⟨oc,od,kV,doc,pm,an,ay,ct,gE,rfl,lk,jS⟩:=F.ex
 exact GS lk jS S len λA outer s H vs Q E hr ju=>sS ay A outer s H vs Q E hr ju
theorem bC{P:Program}{w:World}{K:PySem.W.Frag}{mg:Str→Option Value}{base:Heap}{N:List Str}{qual:Str}{scope:Scope}{f:Addr}{cd:Value}{A:Around}{outer:List Env}{s0:Shared}{H0:Hp}{E:XK}:
  Passes (aX P w) (jZ (aX P w) P w K mg base N qual scope f cd A outer s0 H0 E) E:=Raises.passes kh rfl
abbrev uh:List Value:=[.type "Exception",.type "BaseException",.type "object"]
structure AE(K:PySem.W.Frag)(C fI:Addr)(names:List Str)(nm q:Str)(N:Addr)(bs:List Value)(sn:List Str)(sub:List Value)(ab:Bool)(col:Option Bool)(dd:Option Addr)(k0 k1 k2 k3 k5:Option Value):Prop where
 lk:K.lookup C=some (excClassObj nm q C N bs uh true sn sub ab col dd k0 k1 k2 k3 k5 "Exception.__new__")
 ok:PySem.W.nsOkIn K N=true
 init:PySem.W.nsIn K N "__init__"=some (some (.ref fI))
 wR:PySem.W.nsIn K N "__setattr__"=some none
 AF:PySem.W.nsIn K N "__getattribute__"=some none
 noGet:PySem.W.nsIn K N "__getattr__"=some none
 no:∀n∈names,PySem.W.nsIn K N n=some none
structure ki(K:PySem.W.Frag)(C fI:Addr)(names:List Str):Prop where
 obj:∃(nm q:Str) (N:Addr) (bs:List Value) (sn:List Str) (sub:List Value) (ab:Bool) (col:Option Bool) (dd:Option Addr) (k0 k1 k2 k3 k5:Option Value),AE K C fI names nm q N bs sn sub ab col dd k0 k1 k2 k3 k5
 fn:∃oI,K.lookup fI=some oI∧oI.cls=.type "function"
 kp:PySem.W.keepIn K (.ref C)=true
 base:∀n∈names,typeLookup (.type "Exception") n=pure none
structure Jo(h:Heap)(C fI:Addr)(names:List Str)(nm q:Str)(N:Addr)(bs:List Value)(sn:List Str)(sub:List Value)(ab:Bool)(col:Option Bool)(dd:Option Addr)(k0 k1 k2 k3 k5:Option Value)(mN:Str→Option Value):Prop where
 obj:h.get? C=some (excClassObj nm q C N bs uh true sn sub ab col dd k0 k1 k2 k3 k5 "Exception.__new__")
 ns:h.Ns N mN
 init:mN "__init__"=some (.ref fI)
 wR:mN "__setattr__"=none
 AF:mN "__getattribute__"=none
 noGet:mN "__getattr__"=none
 no:∀n∈names,mN n=none
theorem RM{K:PySem.W.Frag}{h:Heap}{N:Addr}{mg:Str→Option Value}{n:Str}{v:Value}(X:K.In h)(G:h.Ns N mg)(e:PySem.W.nsIn K N n=some (some v)):mg n=some v:=by
 obtain⟨o,es,ep,ho,hd,_,hf⟩:=G
 unfold PySem.W.nsIn at e
 split at e
 ·rename_i c d gB n' sl q
  have:=X _ _ q
  rw[ho]at this
  cases this
  cases hd
  split at e
  ·rename_i en he
   cases e
   refine(hf n).symm.trans ?_
   unfold nsFind findBy
   rw[←Array.find?_toList (xs:=es),he]<;>rfl
  ·split at e
   ·cases e
   ·cases e
 ·cases e
theorem AE.here{K:PySem.W.Frag}{C fI:Addr}{names:List Str}{nm q:Str}{N:Addr}{bs:List Value}{sn:List Str}{sub:List Value}{ab:Bool}{col:Option Bool}{dd:Option Addr}{k0 k1 k2 k3 k5:Option Value}{h:Heap}(c:AE K C fI names nm q N bs sn sub ab col dd k0 k1 k2 k3 k5)(X:K.In h):Jo h C fI names nm q N bs sn sub ab col dd k0 k1 k2 k3 k5 (h.nsMap N):=by
 have G:h.Ns N (h.nsMap N):=.of_isNs (PySem.W.isNs_of_in X c.ok)
 exact⟨X _ _ c.lk,G,RM X G c.init,PySem.W.nsMap_none_of_in X c.ok c.wR,PySem.W.nsMap_none_of_in X c.ok c.AF,PySem.W.nsMap_none_of_in X c.ok c.noGet,λn hn=>PySem.W.nsMap_none_of_in X c.ok (c.no n hn)⟩
theorem ki.here{K:PySem.W.Frag}{C fI:Addr}{names:List Str}{h:Heap}(c:ki K C fI names)(X:K.In h):
  ∃nm q N bs sn sub ab col dd k0 k1 k2 k3 k5 mN,Jo h C fI names nm q N bs sn sub ab col dd k0 k1 k2 k3 k5 mN:=by
 obtain⟨nm,q,N,bs,sn,sub,ab,col,dd,k0,k1,k2,k3,k5,z⟩:=c.obj
 exact⟨nm,q,N,bs,sn,sub,ab,col,dd,k0,k1,k2,k3,k5,_,z.here X⟩
section
variable{X:Cx}{o e value:Expr}{f:Str}{pos pos' gf:Pos}{ta tv:TE}{C fI:Addr}{names:List Str}
def Jp(C:Addr)(ta tv:TE)(f:Str):TS:=λD σ H=>tv σ H λy H1=>ta σ H1 λx H2=>∃e,x=.ref e∧H2 e=some (nL e C)∧∀dx,H2 dx=none→dx≠e→D.nx σ (upd (upd H2 dx (XD dx [(f,y)])) e (XO e C dx))
def Jq(C:Addr)(ta tv:TE)(f:Str):TS:=λD σ H=>tv σ H λy H1=>ta σ H1 λx H2=>∃e dx fs,x=.ref e∧H2 e=some (XO e C dx)∧H2 dx=some (XD dx fs)∧fs.length<1000∧dx≠e∧D.nx σ (upd H2 dx (XD dx (d5 f y fs)))
def Jr(C:Addr)(ta:TE)(f:Str):TE:=λσ H Q=>ta σ H λx H1=>∃e dx fs v,x=.ref e∧H1 e=some (XC e C dx)∧H1 dx=some (XD dx fs)∧fs.lookup f=some v∧Q v H1
theorem RN(c:ki X.K C fI names)(hf:f∈names)(hex:X.ex=[])(ha:PE X o ta)(hv:PE X value tv)(hs:swapsWith value (some (.Attribute o f pos')) pos.line X.env=pure false):PS X (.Assign [.Attribute o f pos'] value pos) (Jp C ta tv f):=by
 intro pins s σ H D I h
 refine plainObj_wpAny_Assign_Attribute (a8 (hv pins s σ H _ I h) λu s1 ⟨y,H1,I1,ry,q⟩=>a8 (ha pins s1 σ H1 _ I1 q) λov s2 ⟨x,H2,I2,rx,e,ex,ee,q2⟩=>?_) hs
 subst ex
 obtain rfl:ov=Value.ref e:=rx
 obtain⟨nm,qn,N,bs,sn,sub,ab,col,dd,k0,k1,k2,k3,k5,mN,Z⟩:=c.here I2.eY
 obtain⟨⟨oe,vs,he,hc,nH,hd,h1⟩,_,_⟩:=(I2.aK e _ ee:dI _ _ _ _ e (nL e C))
 have hn:=I2.aK.fresh (Nat.le_refl s2.heap.objs.size)
 obtain⟨hp,g,d,tk,os⟩:=s2
 refine RB PySem.F.store_Exception Z.obj Z.ns Z.wR (Z.no f hf) (c.base f hf) he hc (λcd z=>by rw[hd]at z;cases z) nH λh' ke a1 a2 a3=>?_
 have ne:hp.objs.size≠e:=Nat.ne_of_gt (Heap.lt_size he)
 have nd:hp.get? hp.objs.size=none:=Heap.get?_none_of_le (Nat.le_refl _)
 refine⟨σ,_,?_,q2 hp.objs.size hn ne⟩
 have AG:dI X.prog X.w (upd (upd H2 hp.objs.size (XD hp.objs.size [(f,y)])) e (XO e C hp.objs.size)) h' e (XO e C hp.objs.size):=
  ⟨⟨_,vs,a1,hc,rfl,hd,h1⟩,⟨_,a1⟩,λg1 g2 z k=>by obtain⟨ui,uj,y1,y2⟩:=z;exact⟨ui,uj,k _ y1,y2⟩⟩
 have AH:dI X.prog X.w (upd (upd H2 hp.objs.size (XD hp.objs.size [(f,y)])) e (XO e C hp.objs.size)) h' hp.objs.size (XD hp.objs.size [(f,y)]):=by
  refine⟨⟨_,a2,λn=>?_,λn oM=>?_⟩,let⟨o',_,_,z,_⟩:=a2;⟨o',z⟩,λg1 g2 z k=>by obtain⟨mA,y1,y2⟩:=z;exact⟨mA,y1.at k,y2⟩⟩
  ·rw[show List.lookup n [(f,y)]=if(n==f)=true then some y else none by simp only[List.lookup];cases(n==f)<;>rfl]
   by_cases z:n=f
   ·rw[if_pos (by rw[z];exact beq_self_eq_true f),if_pos z];exact ry
   ·rw[if_neg (by intro k;exact z (eq_of_beq k)),if_neg z];exact True.intro
  ·by_cases z:n=f
   ·rw[z];exact List.mem_cons_self
   ·exact absurd (if_neg z) oM
 have un:Un X.fs [] H2 (upd (upd H2 hp.objs.size (XD hp.objs.size [(f,y)])) e (XO e C hp.objs.size)) hp h':=by
  have same:∀b,b≠e→b≠hp.objs.size→upd (upd H2 hp.objs.size (XD hp.objs.size [(f,y)])) e (XO e C hp.objs.size) b=H2 b:=λb b1 b2=>by rw[aG b1,aG b2]
  have old:∀b ob,hp.get? b=some ob→b≠hp.objs.size:=λb ob q=>Nat.ne_of_lt (Heap.lt_size q)
  have tr:∀b ho,H2 b=some ho→b≠hp.objs.size:=λb ho q z=>by rw[z,hn]at q;cases q
  have AI:∀b,H2 b=none→b≠e:=λb q z=>by rw[z,ee]at q;cases q
  refine⟨λb ob q n _ _=>a3 b ob (AI b n) q,λb ob q n _ _=>⟨ob.slots,a3 b ob (AI b n) q⟩,λb ob q n _=>by rw[same b (AI b n) (old b ob q)];exact n,λb ob q _=>?_,λb xs q=>?_,λb ob uo q=>?_,λb ps q=>⟨#[],?_⟩⟩
  ·by_cases z:b=e
   ·rw[z];exact⟨_,a1⟩
   ·exact⟨_,a3 b ob z q⟩
  ·rw[same b (λz=>by rw[z,ee]at q;cases q) (tr b _ q)];exact q
  ·rw[same b (λz=>by rw[z,ee]at q;cases q) (tr b _ q)];exact q
  ·rw[same b (λz=>by rw[z,ee]at q;cases q) (tr b _ q),q];simp
 refine I2.un (h':=h') (t':=ke) un λb ho q=>?_
 by_cases be:b=e
 ·subst be
  rw[aw]at q;cases q;exact AG
 ·rw[aG be]at q
  by_cases bd:b=hp.objs.size
  ·subst bd
   rw[aw]at q;cases q;exact AH
  ·rw[aG bd]at q
   refine(I2.aK b ho q).g_ (λcc uo fj z=>a3 cc uo (λy1=>?_) z) (λcc r=>?_) λcc xs r=>?_
   ·rcases fj with fj|fj
    ·exact be (fj.symm.trans y1)
    ·rw[y1,ee]at fj;cases fj
   ·rw[aG (λz=>by rw[z,ee]at r;cases r),aG (λz=>by rw[z,hn]at r;cases r)];exact r
   ·rw[aG (λz=>by rw[z,ee]at r;cases r),aG (λz=>by rw[z,hn]at r;cases r)];exact r
theorem RO(c:ki X.K C fI names)(hf:f∈names)(ha:PE X o ta)(hv:PE X value tv)(hs:swapsWith value (some (.Attribute o f pos')) pos.line X.env=pure false):PS X (.Assign [.Attribute o f pos'] value pos) (Jq C ta tv f):=by
 intro pins s σ H D I h
 refine plainObj_wpAny_Assign_Attribute (a8 (hv pins s σ H _ I h) λu s1 ⟨y,H1,I1,ry,q⟩=>a8 (ha pins s1 σ H1 _ I1 q) λov s2 ⟨x,H2,I2,rx,e,dx,fs,ex,ee,ed,lf,RP,q2⟩=>?_) hs
 subst ex
 obtain rfl:ov=Value.ref e:=rx
 obtain⟨nm,qn,N,bs,sn,sub,ab,col,dd,k0,k1,k2,k3,k5,mN,Z⟩:=c.here I2.eY
 obtain⟨⟨oe,vs,he,hc,gK,hd,h1⟩,_,_⟩:=(I2.aK e _ ee:dI _ _ _ _ e (XO e C dx))
 obtain⟨⟨mA,hA,rA,wA⟩,_,_⟩:=(I2.aK dx _ ed:dI _ _ _ _ dx (XD dx fs))
 have eC:e≠C:=λz=>by
  have zc:=Z.obj
  rw[←z,he]at zc
  cases zc
  cases hd
 have hz:(fs.map (·.1)).length≤sizeLine:=by rw[List.length_map,sizeLine_eq];omega
 obtain⟨hp,g,d,tk,os⟩:=s2
 refine store_attr PySem.F.store_Exception Z.obj Z.ns Z.wR (Z.no f hf) (c.base f hf) eC ⟨oe,he,hc,(λcd z=>by rw[hd]at z;cases z),.inr ⟨dx,gK,RP,hA⟩⟩ (λh' ke a1 a2 a3=>?_) wA hz
 have a2:∀b ob,b≠e→b≠dx→hp.get? b=some ob→h'.get? b=some ob:=λb ob b1 b2 z=>a2 b ob b1 (λo0 d0 z1 z2=>by rw[he]at z1;cases z1;rw[gK]at z2;cases z2;exact b2) z
 obtain⟨o1,e1,c1,d1,_,x1⟩:=a3 oe he
 have x1:=x1 dx gK
 obtain⟨o2,z2,_,_,z5⟩:=a1
 have eo:o2=o1:=Option.some.inj (z2.symm.trans e1)
 subst eo
 rcases z5 with⟨z5,_⟩|⟨d2,z5,_,n2⟩
 ·rw[x1]at z5;cases z5
 have RQ:d2=dx:=Option.some.inj (z5.symm.trans x1)
 subst RQ
 refine⟨σ,_,?_,q2⟩
 have AG:dI X.prog X.w (upd H2 d2 (XD d2 (d5 f y fs))) h' e (XO e C d2):=
  ⟨⟨_,vs,e1,c1.trans hc,x1,d1.trans hd,h1⟩,⟨_,e1⟩,λg1 g2 z k=>by obtain⟨ui,uj,y1,y2⟩:=z;exact⟨ui,uj,k _ y1,y2⟩⟩
 have AH:dI X.prog X.w (upd H2 d2 (XD d2 (d5 f y fs))) h' d2 (XD d2 (d5 f y fs)):=by
  refine⟨⟨_,n2,λn=>?_,λn oM=>?_⟩,let⟨o',_,_,z,_⟩:=n2;⟨o',z⟩,λg1 g2 z k=>by obtain⟨mA,y1,y2⟩:=z;exact⟨mA,y1.at k,y2⟩⟩
  ·show i8 ((d5 f y fs).lookup n) (if n=f then some u else mA n)
   rw[zw]
   by_cases z:n=f
   ·rw[if_pos z,if_pos z];exact ry
   ·rw[if_neg z,if_neg z];exact rA n
  ·by_cases z:n=f
   ·rw[z];exact(sQ f y fs).1
   ·refine(sQ f y fs).2 n (wA n λzz=>oM ?_)
    show(if n=f then some u else mA n)=none
    rw[if_neg z];exact zz
 have un:Un X.fs [] H2 (upd H2 d2 (XD d2 (d5 f y fs))) hp h':=by
  have ue:∀b,H2 b=none→b≠e:=λb q z=>by rw[z,ee]at q;cases q
  have ud:∀b,H2 b=none→b≠d2:=λb q z=>by rw[z,ed]at q;cases q
  refine⟨λb ob q n _ _=>a2 b ob (ue b n) (ud b n) q,λb ob q n _ _=>⟨ob.slots,a2 b ob (ue b n) (ud b n) q⟩,λb ob q n _=>by rw[aG (ud b n)];exact n,λb ob q _=>?_,λb xs q=>?_,λb ob uo q=>?_,λb ps q=>⟨#[],?_⟩⟩
  ·by_cases z:b=e
   ·rw[z];exact⟨_,e1⟩
   ·by_cases zd:b=d2
    ·obtain⟨o',_,_,z',_⟩:=n2;rw[zd];exact⟨o',z'⟩
    ·exact⟨_,a2 b ob z zd q⟩
  ·rw[aG (λz=>by rw[z,ed]at q;cases q)];exact q
  ·rw[aG (λz=>by rw[z,ed]at q;cases q)];exact q
  ·rw[aG (λz=>by rw[z,ed]at q;cases q),q];simp
 refine I2.un (h':=h') (t':=ke) un λb ho q=>?_
 by_cases bd:b=d2
 ·subst bd
  rw[aw]at q;cases q;exact AH
 ·rw[aG bd]at q
  by_cases be:b=e
  ·subst be
   rw[ee]at q;cases q;exact AG
  ·refine(I2.aK b ho q).g_ (λcc uo fj z=>a2 cc uo (λy1=>?_) (λy1=>?_) z) (λcc r=>?_) λcc xs r=>?_
   ·rcases fj with fj|fj
    ·exact be (fj.symm.trans y1)
    ·rw[y1,ee]at fj;cases fj
   ·rcases fj with fj|fj
    ·exact bd (fj.symm.trans y1)
    ·rw[y1,ed]at fj;cases fj
   ·rw[aG (λz=>by rw[z,ed]at r;cases r)];exact r
   ·rw[aG (λz=>by rw[z,ed]at r;cases r)];exact r
theorem wU(c:ki X.K C fI names)(hf:f∈names)(he:PE X e ta)(hb:attributeBase e f X.env (eval e X.env)=eval e X.env):PE X (.Attribute e f pos) (Jr C ta f):=by
 intro pins s σ H Q I h
 refine GB hb (a8 (he pins s σ H _ I h) λu s1 ⟨x,H1,I1,rx,a,dx,fs,v,ex,ea,ed,l,q⟩=>?_)
 subst ex
 obtain rfl:u=Value.ref a:=rx
 obtain⟨nm,qn,N,bs,sn,sub,ab,col,dd,k0,k1,k2,k3,k5,mN,Z⟩:=c.here I1.eY
 obtain⟨⟨oe,vs,kj,hc,gK,hd⟩,_,_⟩:=(I1.aK a _ ea:dI _ _ _ _ a (XC a C dx))
 obtain⟨⟨mA,hA,rA,wA⟩,_,_⟩:=(I1.aK dx _ ed:dI _ _ _ _ dx (XD dx fs))
 obtain⟨u',hu,ru⟩:=i8.some_of (v:=v) (o:=mA f) (by rw[←l];exact rA f)
 obtain⟨hp,g,d,tk,os⟩:=s1
 exact RH PySem.F.attrBase_Exception Z.obj Z.ns Z.AF Z.noGet (Z.no f hf) (c.base f hf) kj hc (λcd z=>by rw[hd]at z;cases z) gK hA hu (PySem.W.handedOut_of (Gw ru)) ⟨v,H1,I1.tok _,ru,q⟩
end
def Js(C:Addr)(sp:Sp)(E:XK)(t:TA):TS:=λ_ σ H=>t σ H λvs H1=>∀e,H1 e=none→sp (.ref e::vs) (upd H1 e (nL e C)) (λv H2=>v=.aJ∧∃dx,H2 e=some (XO e C dx)∧E (.ref C) (some dx) (del H2 e)) E0
section
variable{X:Cx}{C fI:Addr}{names ps:List Str}{k:Nat}{fd:FuncData}{sp:Sp}{E:XK}{x:Str}{np jb pos:Pos}{a0:Expr}{as:List Expr}{t:TA}
theorem lr(c:ki X.K C fI names)(F:fH X.prog X.w X.K X.mg X.base ao k fI fd ps sp)(hr:dJ (k+1) X.A)(hg:Gl X x)(hm:X.mg x=some (.ref C))(hb:Binds X.K fd ps [])(hex:X.ex=[])(hR:Raises X E)(ha:PA X (a0::as) t)(hps:ps.length≤100:=by decide)(fJ:(x==("__debug__":Str))=false:=by decide)(he:starEach (a0::as) X.env=(false,eval a0 X.env)::starEach as X.env:=by rfl)(eG:(backTo jb (starEach as X.env)).any (·.1)=false:=by rfl):
  PS X (.Raise (some (.Call (.Name x np) (a0::as) [] jb)) none pos) (Js C sp E t):=by
 intro pins s σ H D I h
 rw[arm_exec_Raise]
 obtain⟨nm,qn,N,bs,sn,sub,ab,col,dd,k0,k1,k2,k3,k5,Z⟩:=c.obj
 obtain⟨oI,lI,cI⟩:=c.fn
 refine wpAny_bind (wpAny_standAt (Rw (C:=C) (nm:=nm) (q:=qn) (N:=N) (bs:=bs) (bm:=uh) (hdct:=true) (sn:=sn) (sub:=sub) (ab:=ab) (col:=col) (dd:=dd) (k0:=k0) (k1:=k1) (k2:=k2) (k3:=k3) (k5:=k5) (newId:="Exception.__new__") PySem.F.excBase_Exception.hasBase hr.hd ?_))
 refine wpAny_bind (a8 (Q:=λv s1=>∃e dx,v=.ref e∧s1.heap.get? C=some (excClassObj nm qn C N bs uh true sn sub ab col dd k0 k1 k2 k3 k5 "Exception.__new__")∧wM s1.heap e C dx∧X.xe (.ref e) s1) ?_ λv s1 q=>wpAny_bind (wpAny_standAt (wpAny_pure q)))
 refine wpAny_Call_Name_kw (qk I hg hm ?_ fJ)
 refine PySem.W.callWith_K (h₀:=X.base) I.ok.mod.qd c.kp (a8 (ha jb pins s σ H _ I h) λus s1 ⟨vs,H1,I1,r,q⟩=>⟨I1.eY,?_⟩) he eG
 have Z1:=Z.here I1.eY
 have hlen:us.length+1=ps.length:=by
  have e1:=F.len _ _ _ _ (q s1.heap.objs.size (I1.aK.fresh (Nat.le_refl _)))
  rw[List.length_cons,r.length]at e1
  exact e1
 obtain⟨hp,g,d,tk,os⟩:=s1
 refine wpAny_call_exc_init PySem.F.excBase_Exception Z1.obj Z1.ns Z1.init (I1.eY _ _ lI) cI (λh' e me=>?_) (show([]++us).length≤sizeLine from Nat.le_trans (by rw[List.nil_append];omega) (show 100≤sizeLine by decide))
 obtain⟨t0,Jt,nt,atT⟩:=me.there
 have hn:H1 e=none:=I1.aK.gone me.new
 have I2:Inv X pins σ (upd H1 e (nL e C)) ⟨h',g,d,tk,os⟩:=I1.RK (t':=tk) hex me.keeps me.new ⟨⟨_,_,Jt,rfl,rfl,rfl,rfl⟩,⟨_,Jt⟩,λg1 g2 z kk=>by obtain⟨ui,uj,y1,y2⟩:=z;exact⟨ui,uj,kk _ y1,y2⟩⟩
 have hq:=q e hn
 have r2:Vals (V.ref e::vs) (Value.ref e::us):=.cons rfl r
 have wV:=hb ⟨h',g,d,tk,os⟩ (Value.ref e::us) I2.eY (by rw[List.append_nil,List.length_cons];exact hlen)
 rw[List.append_nil]at wV
 refine wpAny_call (codeAny_mono (F.run _ X.stack _ _ ⟨Value.ref e::us,[]⟩ (Value.ref e::us) _ _ E0 (hr.make C us []) (I2.zA.make C us []) wV r2 hq) λrr s' iM=>?_)
 cases rr with
 |error ev=>exact False.elim iM
 |ok fl=>
  cases fl with
  |ret u=>
   obtain⟨v,H3,I3,rv,ev,dx,ee,hE⟩:=I2.after iM
   subst ev
   refine⟨rv,e,dx,rfl,I3.eY _ _ Z.lk,(I3.aK e _ ee).1,?_⟩
   refine hR pins σ (del H3 e) s' e C dx none (I3.del ee) (I3.aK e _ ee).1 (I1.old hex me.new) AA (λt z=>by cases z) (λp RR=>⟨λz=>?_,λt z=>by cases z⟩) hE
   have pp:=(I1.pin p RR).1
   rw[z]at pp
   have pp:hp.get? e=some p.2:=pp
   rw[me.new]at pp
   cases pp
  |next=>exact False.elim iM
  |brk=>exact False.elim iM
  |cont=>exact False.elim iM
end
end L2
namespace L2
open PySem PySem.Spec PyProof.Rows LX
section
variable{X:Cx}{pins:List (Addr×Obj)}{σ:St}{H:Hp}{s:Shared}
theorem Cx.Ok.turn{X:Cx}(ok:X.Ok)(qR:List (Addr×Obj))(ia:Value→Shared→Prop):({X with pn:=qR,xe:=ia}:Cx).Ok:=
 ⟨ok.mod,ok.kind,ok.glob,ok.blt,ok.above,ok.inj,ok.has,ok.oH,ok.hd,ok.frames,ok.qf,ok.qg,ok.bs,ok.jR,ok.oJ,ok.oK,ok.ir,ok.lP⟩
theorem Inv.RT(I:Inv X pins σ H s)(ia:Value→Shared→Prop):Inv {X with pn:=X.pn++pins,xe:=ia} [] σ H s:=
 ⟨I.ok.turn _ _,I.os,I.bare,I.base,I.loc,I.cell,I.free,I.fW,λp hp=>I.pin p (by rw[List.append_nil]at hp;exact hp),I.aK,I.len⟩
theorem Inv.nM{qh:List (Addr×Obj)}{ia:Value→Shared→Prop}(ok:X.Ok)(I:Inv {X with pn:=X.pn++pins,xe:=ia} qh σ H s):Inv X pins σ H s:=
 ⟨ok,I.os,I.bare,I.base,I.loc,I.cell,I.free,I.fW,λp hp=>I.pin p (List.mem_append_left _ hp),I.aK,I.len⟩
abbrev Cx.wW(X:Cx)(e:Addr)(ia:Value→Shared→Prop):Cx:={X with A:=X.A.mark (some (.ref e)),calm:=false,xe:=ia}
theorem Inv.marked(I:Inv X pins σ H s)(e:Addr)(ia:Value→Shared→Prop):Inv (X.wW e ia) pins σ H s:=
 ⟨⟨I.ok.mod,I.ok.kind,I.ok.glob,I.ok.blt,I.ok.above,I.ok.inj,I.ok.has,I.ok.oH,(λz=>nomatch z),I.ok.frames,I.ok.qf,I.ok.qg,I.ok.bs,I.ok.jR,I.ok.oJ,I.ok.oK,I.ok.ir,I.ok.lP⟩,I.os,I.bare,I.base,I.loc,I.cell,I.free,I.fW,I.pin,I.aK,I.len⟩
theorem Inv.unmarked{e:Addr}{ia:Value→Shared→Prop}(ok:X.Ok)(I:Inv (X.wW e ia) pins σ H s):Inv X pins σ H s:=
 ⟨ok,I.os,I.bare,I.base,I.loc,I.cell,I.free,I.fW,I.pin,I.aK,I.len⟩
theorem wX{M:Model}{A:Around}{E:Value→Shared→Prop}{i:Nat}{n:Str}{pos:Pos}{Q:Unit→Shared→Prop}(I:Inv X pins σ H s)(nd:X.N.Nodup)(hi:X.N[i]?=some n)(hl:X.env.scope.names.lookup n=some .local)(h:∀s',Inv X pins (σ.set i none) H s'→Q () s'):wpAny M A (do bindName X.env n .none;unbindBehindTheSuite X.env n pos) Q E s:=by
 obtain⟨m,hn,RU⟩:=id I.loc
 have kd:(X.env.scope.kind==.class||(X.env.scope.kind==.module&&X.env.locals !=X.env.globals))=false:=by rw[I.ok.kind];rfl
 refine wpAny_nameGoes_keeps hl hn kd λh' v oM sb=>h _ ?_
 have old:∀b o,X.d4.heap.get? b=some o→b≠X.env.locals:=λb o q=>Nat.ne_of_lt (Nat.lt_of_lt_of_le (Heap.lt_size q) I.ok.above)
 refine⟨I.ok,I.os,I.bare,⟨λb o q n' hf hx=>?_,λb o q n' hf hx=>?_,I.base.free,λb o q hx=>?_,I.base.i9,I.base.iJ,I.base.i_⟩,⟨_,oM,λj y u e1 e2 e3=>?_⟩,λy c q=>?_,I.free,I.fW,λp hp=>?_,λb ho q=>?_,by rw[List.length_set];exact I.len⟩
 ·exact(sb.2 b (old b o q)).trans (I.base.keep b o q n' hf hx)
 ·obtain⟨sl,z⟩:=I.base.slot b o q n' hf hx
  exact⟨sl,(sb.2 b (old b o q)).trans z⟩
 ·obtain⟨o',z⟩:=I.base.there b o q hx
  exact⟨o',(sb.2 b (old b o q)).trans z⟩
 ·have hj:j≠i:=λz=>by
   rw[z]at e2
   by_cases bw:i<σ.length
   ·rw[List.getElem?_set_self bw]at e2;cases e2
   ·rw[List.getElem?_eq_none (by rw[List.length_set];omega)]at e2;cases e2
  rw[List.getElem?_set_ne (Ne.symm hj)]at e2
  obtain⟨u',ru,l⟩:=RU j y u e1 e2 e3
  refine⟨u',ru,?_⟩
  rcases l with⟨k1,k2⟩|⟨k1,c,k2,z⟩
  ·refine .inl ⟨k1,?_⟩
   have ny:y≠n:=λz=>hj (vJ nd e1 (z▸hi))
   show(if y=n then v else m y)=some u'
   rw[if_neg ny];exact k2
  ·exact .inr ⟨k1,c,k2,z.sameBut sb (I.lQ y c k2)⟩
 ·obtain⟨w',z⟩:=I.cell y c q
  exact⟨w',z.sameBut sb (I.lQ y c q)⟩
 ·obtain⟨q1,q2,q3,q4,q5⟩:=I.pin p hp
  exact⟨(sb.2 p.1 q3).trans q1,q2,q3,q4,q5⟩
 ·refine(I.aK b ho q).g_ (λc u hc z=>(sb.2 c ?_).trans z) (λ_ r=>r) λ_ _ r=>r
  intro y
  rcases hc with hc|hc
  ·rw[←hc,y,I.free]at q;cases q
  ·rw[y,I.free]at hc;cases hc
end
def RV(C:Addr)(i:Nat)(E1:XK)(tb th:TS):TS:=λD σ H=>tb D σ H∧∀(az:St) (U:Hp) (dx e:Addr),az.length=σ.length→U e=none→E1 (.ref C) (some dx) U→
 th {nx:=λbr H2=>D.nx (br.set i none) H2,rt:=D.rt,bk:=λbr H2=>D.bk (br.set i none) H2,ct:=λbr H2=>D.ct (br.set i none) H2} (az.set i (some (.ref e))) (upd U e (XC e C dx))
section
variable{X:Cx}{C fI:Addr}{names:List Str}{E1:XK}{x n:Str}{i:Nat}{np wY pos:Pos}{body uk:List Stmt}{b0:Stmt}{tb th:TS}
theorem RW{pins:List (Addr×Obj)}{σ:St}{H:Hp}{s:Shared}{e dx:Addr}{T:Option Addr}{Q:Flow→Shared→Prop}{E:Value→Shared→Prop}(c:ki X.K C fI names)(hg:Gl X x)(hm:X.mg x=some (.ref C))(hex:X.ex=[])(nd:X.N.Nodup)(hi:X.N[i]?=some n)(nN:X.env.scope.names.lookup n=some .local)(fG:X.stack=X.env::X.outer)(nj:X.env.frame=some X.env.locals)(J:Inv X pins σ H s)(xo:qP s.heap e C dx T)(n0:X.d4.heap.get? e=none)(he:H e=none)(hT:∀t,T=some t→X.d4.heap.get? t=none∧H t=none)(hp:∀p∈X.pn++pins,p.1≠e∧∀t,T=some t→p.1≠t)(k:∀s4,Inv X pins (σ.set i (some (.ref e))) (upd H e (XC e C dx)) s4→wpAny (model X.prog X.w) (X.A.mark (some (.ref e))) (execs (b0::uk) X.env) (λf s5=>wpAny (model X.prog X.w) X.A (do bindName X.env n .none;unbindBehindTheSuite X.env n wY) (λ_ s6=>Q f s6) E s5) (λ_ _=>False) s4)(fJ:(x==("__debug__":Str))=false:=by decide):
  wpAny (model X.prog X.w) X.A (noteFrame (.ref e) X.env) (λ_ s2=>wpAny (model X.prog X.w) X.A (setFlight (.ref e) none) (λ_ s3=>
   wpAny (model X.prog X.w) X.A (handleBy (.ref e) X.env [.ExceptHandler (some (.Name x np)) (some n) (b0::uk) wY]) Q E s3) E s2) E s:=by
 refine Jh (base:=X.base) (by have z:=J.ok.frames;rw[fG]at z;exact z) (by have z:=J.stack;rw[fG]at z;exact z) nj xo λg1 T1 x1 wZ k1=>?_
 have RX:uc (hJ X.stack) e T s.heap g1:=by rw[fG];exact k1
 have J1:=J.AB hex RX he n0 hT hp (Jl xo) (Jm xo)
 have z0:X.d4.heap.get? T1=none:=J.old hex wZ
 have zH:H T1=none:=J.aK.gone wZ
 have pT:∀p∈X.pn++pins,p.1≠e∧∀t,some T1=some t→p.1≠t:=λp gL=>⟨(hp p gL).1,λt z y=>by
  cases z
  have q:=(J.pin p gL).1
  rw[y,wZ]at q
  cases q⟩
 have fT:∀b∈hJ X.stack,b≠T1:=λb tG z=>by
  obtain⟨_,o,ho,_⟩:=J.stack.mem tG
  rw[z,wZ]at ho
  cases ho
 have turn:∀(ga gb:Heap) (fl:Value),l9 ga e C dx T1 fl→l9 gb e C dx T1 .none→(∀b,b≠T1→gb.get? b=ga.get? b)→Inv X pins σ H {s with heap:=ga}→Inv X pins σ H {s with heap:=gb}:=λga gb fl xa xb kk Ja=>by
  refine Inv.AB (s:={s with heap:=ga}) (T:=some T1) Ja hex ⟨λb o q _ q2 _=>(kk b λz=>q2 (by rw[z])).trans q,λb o q iV=>⟨o.slots,(kk b (fT b iV)).trans q⟩,λb o q=>?_⟩ he n0 (λt z=>by cases z;exact⟨z0,zH⟩) pT ?_ ?_
  ·by_cases z:b=T1
   ·obtain⟨_,_,oT,_,_,_,_,_,_,_,RY,_⟩:=xb
    rw[z];exact⟨oT,RY⟩
   ·exact⟨o,(kk b z).trans q⟩
  ·intro o q
   obtain⟨oe,vs,_,_,q1,_,_,q2,_⟩:=xa
   have q:ga.get? e=some o:=q
   rw[q1]at q;cases q;exact⟨vs,q2⟩
  ·intro t o z q
   cases z
   obtain⟨_,_,oT,ts,_,_,_,_,_,_,q1,q2,_⟩:=xa
   have q:ga.get? T1=some o:=q
   rw[q1]at q;cases q;exact⟨ts,q2⟩
 refine Au (s:={s with heap:=g1}) x1 λg2 x2 k2=>?_
 have J2:=turn g1 g2 _ x1 x2 k2 J1
 refine wpAny_handleBy_cons (codeAny_handlers_test ?_) (by intro q;cases q)
 refine qk (X:=X.wW e λ_ _=>False) (J2.marked e _) hg hm ?_ fJ
 obtain⟨nm,qn,N,bs,sn,sub,ab,col,dd,k0,k1,k2,k3,k5,Z⟩:=c.obj
 have hC:=J2.eY _ _ Z.lk
 obtain⟨oe,vs,_,_,kj,lY,ac6,hde,_⟩:=id x2
 refine wpAny_excMatches_sub_self (h:=g2) (g:=s.gens) (d:=s.drawn) (t:=s.toks) (os:=s.os) hC kj lY PySem.F.excBase_Exception.hasBase ?_
 refine codeAny_handlers_suite_as ?_
 refine Au (s:={s with heap:=g2}) x2 λg3 x3 k3=>?_
 have J3:=turn g2 g3 _ x2 x3 k3 J2
 obtain⟨RZ,R0,_,_,AJ,R_,Sa,Ju,_⟩:=id x3
 have J4:=J3.wQ (o:=XC e C dx) he n0 AJ Ju (λp gL=>(hp p gL).1) ⟨⟨RZ,R0,AJ,R_,Sa,Ju⟩,⟨_,AJ⟩,λa1 a2 z kk=>by obtain⟨o',v',y1,y2⟩:=z;exact⟨o',v',kk _ y1,y2⟩⟩
 refine vK J4 nd hi (.inl nN) (v:=.ref e) rfl (λs4 J5=>?_) (.inr nN)
 exact wpAny_mono (k s4 J5) (λf s5 q=>q) λ_ _ z=>z.elim
theorem Jv(c:ki X.K C fI names)(hg:Gl X x)(hm:X.mg x=some (.ref C))(hex:X.ex=[])(nd:X.N.Nodup)(hi:X.N[i]?=some n)(nN:X.env.scope.names.lookup n=some .local)(fG:X.stack=X.env::X.outer)(nj:X.env.frame=some X.env.locals)(um:∀cls dx U,E1 cls dx U→cls=.ref C)(hb:∀(qR:List (Addr×Obj)) (ia:Value→Shared→Prop),Raises {X with pn:=qR,xe:=ia} E1→gC {X with pn:=qR,xe:=ia} body tb)(hh:∀(e:Addr) (qR:List (Addr×Obj)) (ia:Value→Shared→Prop),gC (Cx.wW {X with pn:=qR,xe:=ia} e λ_ _=>False) (b0::uk) th)(fJ:(x==("__debug__":Str))=false:=by decide):
  PS X (.Try body [.ExceptHandler (some (.Name x np)) (some n) (b0::uk) wY] [] [] pos) (RV C i E1 tb th):=by
 intro pins s σ H D I ⟨h1,h2⟩
 refine wpAny_Try_except ?_
 let w8:Value→Shared→Prop:=λev s1=>wpAny (model X.prog X.w) X.A (noteFrame ev X.env) (λ_ s2=>wpAny (model X.prog X.w) X.A (setFlight ev none) (λ_ s3=>
  wpAny (model X.prog X.w) X.A (handleBy ev X.env [.ExceptHandler (some (.Name x np)) (some n) (b0::uk) wY]) (SP X pins D) X.xe s3) X.xe s2) X.xe s1
 have I1:=I.RT w8
 refine wpAny_mono (hb (X.pn++pins) w8 ?_ [] s σ H D I1 h1) (λf s1 q=>?_) λev s1 q=>q
 ·intro qh az U s' e C' dx T J xo n0 he hT hp hE
  obtain rfl:C'=C:=by have z:=um _ _ _ hE;cases z;rfl
  have sl:az.length=σ.length:=J.len.trans I.len.symm
  refine RW (X:={X with pn:=X.pn++pins,xe:=w8}) c hg hm hex nd hi nN fG nj J xo n0 he hT hp (λs4 J4=>?_) fJ
  refine wpAny_mono (hh e (X.pn++pins) w8 qh s4 _ _ _ (J4.marked e λ_ _=>False) (h2 az U dx e sl he hE)) (λf s5 q=>?_) λ_ _ z=>z.elim
  cases f with
  |next=>
   obtain⟨ja,H6,I6,q6⟩:=q
   exact wX (I6.unmarked J4.ok) nd hi nN λs7 I7=>⟨_,_,I7.nM I.ok,q6⟩
  |brk=>
   obtain⟨ja,H6,I6,q6⟩:=q
   exact wX (I6.unmarked J4.ok) nd hi nN λs7 I7=>⟨_,_,I7.nM I.ok,q6⟩
  |cont=>
   obtain⟨ja,H6,I6,q6⟩:=q
   exact wX (I6.unmarked J4.ok) nd hi nN λs7 I7=>⟨_,_,I7.nM I.ok,q6⟩
  |ret u=>
   obtain⟨v,ja,H6,I6,r6,q6⟩:=q
   exact wX (I6.unmarked J4.ok) nd hi nN λs7 I7=>⟨_,_,_,I7.nM I.ok,r6,q6⟩
 ·cases f with
  |next=>
   obtain⟨ja,H6,I6,q6⟩:=q
   exact wpAny_execs_nil ⟨ja,H6,I6.nM I.ok,q6⟩
  |brk=>
   obtain⟨ja,H6,I6,q6⟩:=q
   exact⟨ja,H6,I6.nM I.ok,q6⟩
  |cont=>
   obtain⟨ja,H6,I6,q6⟩:=q
   exact⟨ja,H6,I6.nM I.ok,q6⟩
  |ret u=>
   obtain⟨v,ja,H6,I6,r6,q6⟩:=q
   exact⟨v,ja,H6,I6.nM I.ok,r6,q6⟩
end
end L2
namespace L2
open PySem PySem.Spec PyProof.Rows
theorem Sd(l:Addr)(items:Array Value)(n:Nat)(b:Addr)(uq:Array Value)(n2:Nat)(dd:Option Addr)(sl:Array (Option Value))(hs0:¬(!items.isEmpty&&Builtin.List.listTooLong (items.size+uq.size))=true)(AK:items.size≤sizeLine)(oV:items.size+uq.size≤sizeLine+1):
  Meets (Builtin.«list.extend» ⟨[.ref l,.ref b],[]⟩) (λ_ R s=>s.heap.get? l=some {cls:=.type "list",dict:=none,data:=.seq items n,slots:=#[]}∧s.heap.get? b=some {cls:=.type "tuple",dict:=dd,data:=.seq uq n2,slots:=sl}∧R (.ok (.ret Value.none)) {s with heap:=s.heap.update l (Obj.mapSeq λx=>x++uq),toks:=s.toks}):=
 .of_wp λprog w A R s h=>by
  obtain⟨hp,g,d,tk,os⟩:=s
  obtain⟨hl,hb,h⟩:=h
  have f2:=AutoSeq1.sub_tuple_tuple
  have f3:=AutoSeq1.sub_list_list
  have f4:=AutoSeq1.sub_tuple_list
  have f5:=AutoSeq1.sub_list_tuple
  have we:(items++uq).size≤sizeLine+1:=by rw[Array.size_append];exact oV
  wp_walk using(wpAny_updateSeq hl rfl (hz:=AK) (_hz':=we)),wpAny_loadPart' hl,wpAny_loadPart' hb
  exact⟨_,rfl,h⟩
theorem Se(t:Addr)(p q r k:Str)(a b c u:Tok)(n:Nat)(dd:Option Addr)(sl:Array (Option Value))(j:Nat)(hj:(k=p∧j=0)∨(k≠p∧k=q∧j=1)∨(k≠p∧k≠q∧k=r∧j=2)):
  Meets (Builtin.«tuple.index» ⟨[.ref t,.str k u],[]⟩) (λA R s=>s.heap.get? t=some {cls:=.type "tuple",dict:=dd,data:=.seq #[.str p a,.str q b,.str r c] n,slots:=sl}∧R (.ok (.ret (.int j s.toks))) {s with toks:=s.toks+1}):=
 .of_wp λprog w A R s h=>by
  obtain⟨hp,g,d,tk,os⟩:=s
  obtain⟨hl,h⟩:=h
  have f2:=AutoSeq1.sub_tuple_tuple
  unfold Builtin.«tuple.index»
  simp only[Std.Legacy.Range.forIn_eq_forIn_range']
  repeat (first|with_reducible refine AutoSeq1.wpAny_loadPart' hl ?_|wp_step)
  have e:List.range' 0 [:min (#[Value.str p a,Value.str q b,Value.str r c]:Array Value).size (#[Value.str p a,Value.str q b,Value.str r c]:Array Value).size].size=[0,1,2]:=by
   simp[Std.Legacy.Range.size,List.range'_succ]
  revert e
  generalize List.range' 0 [:min (#[Value.str p a,Value.str q b,Value.str r c]:Array Value).size (#[Value.str p a,Value.str q b,Value.str r c]:Array Value).size].size=L
  rintro rfl
  simp only[List.forIn'.loop]
  refine wpAny_bind ?_
  show wpAny _ _ (eqBool (.str p a) (.str k u)>>=_) _ _ _
  refine wpAny_bind (wpAny_eqBool_str ?_)
  rcases hj with⟨rfl,rfl⟩|⟨n1,rfl,rfl⟩|⟨n1,n2,rfl,rfl⟩
  ·rw[decide_eq_true rfl]
   repeat wp_step
   exact⟨_,rfl,h⟩
  ·rw[decide_eq_false (λz=>n1 z.symm)]
   rw[if_neg (by simp)]
   refine wpAny_pure ?_
   refine wpAny_bind ?_
   show wpAny _ _ (eqBool (.str k b) (.str k u)>>=_) _ _ _
   refine wpAny_bind (wpAny_eqBool_str ?_)
   rw[decide_eq_true rfl]
   repeat wp_step
   exact⟨_,rfl,h⟩
  ·rw[decide_eq_false (λz=>n1 z.symm)]
   rw[if_neg (by simp)]
   refine wpAny_pure ?_
   refine wpAny_bind ?_
   show wpAny _ _ (eqBool (.str q b) (.str k u)>>=_) _ _ _
   refine wpAny_bind (wpAny_eqBool_str ?_)
   rw[decide_eq_false (λz=>n2 z.symm)]
   rw[if_neg (by simp)]
   refine wpAny_pure ?_
   refine wpAny_bind ?_
   show wpAny _ _ (eqBool (.str k c) (.str k u)>>=_) _ _ _
   refine wpAny_bind (wpAny_eqBool_str ?_)
   rw[decide_eq_true rfl]
   repeat wp_step
   exact⟨_,rfl,h⟩
section
variable{X:Cx}
def Jw(i j:Int):Prop:=0<j∧j.natAbs.log2<9000
theorem Jx:eQ X (binaryOp .FloorDiv) (rI Jw λi j=>.int (i/j)):=zi λi j _ _ _ _ _ hc q=>by
 have h1:(0:Int)<j:=hc.1
 exact floordiv_int (by omega) (by rw[Int.fdiv_eq_ediv_of_nonneg i (by omega)];exact q) (.inl (PyProof.noPylong_of_log2 hc.2))
def AL(K:PySem.W.Frag):V→List V→Hp→VK→Prop:=λx vs H Q=>∃l b xs zs,x=.ref l∧vs=[.ref b]∧H l=some (.lst xs)∧aY K H b zs∧xs.length+zs.length≤sizeLine∧Q .aJ (upd H l (.lst (xs++zs)))
theorem Sg{K:PySem.W.Frag}{H:Hp}{Q:VK}{l b:Addr}{xs zs:List V}(h:H l=some (.lst xs))(h2:aY K H b zs)(z:xs.length+zs.length≤sizeLine)(k:Q .aJ (upd H l (.lst (xs++zs)))):AL K (.ref l) [.ref b] H Q:=⟨l,b,xs,zs,rfl,rfl,h,h2,z,k⟩
theorem Jy:sZ X "list.extend" (AL X.K):=by
 intro pins s σ H x vs v us Q I rx rv h
 obtain⟨l,b,xs,zs,rfl,rfl,hH,hB,hz,q⟩:=h
 cases rx
 obtain⟨u,rfl,ru⟩:=rv.one
 cases ru
 obtain⟨z,aq,n,r,hl,e⟩:=I.nh hH
 obtain⟨gj,r2,⟨o,e2,c2,n2,d2⟩,z2⟩:=I.tuple hB
 have wb:=r2.length
 have hsz:aq.toArray.size+gj.toArray.size≤sizeLine:=by rw[List.size_toArray,List.size_toArray];omega
 have zI:¬(!aq.toArray.isEmpty&&Builtin.List.listTooLong (aq.toArray.size+gj.toArray.size))=true:=by
  rw[Hb hsz,Bool.and_false]
  exact Bool.false_ne_true
 obtain⟨oc,od,uf,gE⟩:=o
 obtain rfl:oc=.type "tuple":=c2
 obtain rfl:uf=.seq gj.toArray n2:=d2
 refine call_meets F.slot_list_extend ⟨_,e,rfl⟩ F.entry_list_extend (F.args_list_extend_2 _ _)
  (Sd l aq.toArray n b gj.toArray n2 od gE zI (by rw[List.size_toArray];omega) (by omega)) ⟨e,e2,?_⟩
 refine⟨.aJ,_,I.s_ (its':=aq++gj) hH e (by simp) (r.append r2) ?_,rfl,q⟩
 rw[List.length_append]
 omega
def Jz:V→List V→Hp→VK→Prop:=λx vs H Q=>∃l xs y,∃i:Nat,x=.ref l∧vs=[.int i,y]∧H l=some (.lst xs)∧i≤xs.length∧i≤1000000∧xs.length<sizeLine∧Q .aJ (upd H l (.lst (xs.take i++y::xs.drop i)))
theorem Si{H:Hp}{Q:VK}{l:Addr}{xs:List V}{y:V}{i:Nat}(h:H l=some (.lst xs))(hi:i≤xs.length)(h2:i≤1000000)(z:xs.length<sizeLine)(k:Q .aJ (upd H l (.lst (xs.take i++y::xs.drop i)))):Jz (.ref l) [.int i,y] H Q:=⟨l,xs,y,i,rfl,rfl,h,hi,h2,z,k⟩
theorem Sj{α:Type}(aq:List α)(w:α)(i:Nat):(aq.toArray.extract 0 i).push w++aq.toArray.extract i=(aq.take i++w::aq.drop i).toArray:=by
 apply Array.toList_inj.mp
 rw[Array.toList_append,Array.toList_push,Array.toList_extract,Array.toList_extract,List.extract_eq_take_drop,List.extract_eq_take_drop]
 simp
 exact List.take_of_length_le (by rw[List.length_drop]<;>omega)
theorem Sl(i:Nat)(h:i≤1000000):¬(!Builtin.List.listFitsIndex (i:Int))=true:=by
 rw[fitsIndex_both (k:=(i:Int)) (Int.le_trans (by decide) (Int.natCast_nonneg i)) (Int.lt_of_le_of_lt (show(i:Int)≤1000000 by omega) (by decide))]
 decide
theorem Sm:sZ X "list.insert" Jz:=by
 intro pins s σ H x vs v us Q I rx rv h
 obtain⟨l,xs,y,i,rfl,rfl,hH,hi,h2,hz,q⟩:=h
 cases rx
 obtain⟨u,w,rfl,ru,fk⟩:=rv.two
 obtain⟨t,rfl⟩:=ru
 obtain⟨z,aq,n,r,hl,e⟩:=I.nh hH
 have hsz:aq.toArray.size≤sizeLine:=by rw[List.size_toArray];omega
 have Sn:¬(!Builtin.List.listFitsIndex (i:Int))=true:=Sl i h2
 have M:=@AutoListH.list_insert_list_int_val_1 l aq.toArray n (i:Int) t w Sn hsz
 generalize So:(i:Int)=ii at M⊢
 refine call_meets F.slot_list_insert ⟨_,e,rfl⟩ F.entry_list_insert (F.args_list_insert_3 _ _ _) M ⟨e,?_⟩
 subst So
 refine⟨.aJ,_,I.s_ (its':=aq.take i++w::aq.drop i) hH e ?_ ((r.take i).append (.cons fk (r.drop i))) ?_,rfl,q⟩
 ·have hk:(if(i:Int)<0 then((i:Int)+((aq.toArray.size:Nat):Int)).toNat else min (i:Int).toNat aq.toArray.size)=i:=by
   rw[if_neg (by omega),List.size_toArray]
   omega
  show(have k:=if(i:Int)<0 then((i:Int)+((aq.toArray.size:Nat):Int)).toNat else min (i:Int).toNat aq.toArray.size;(aq.toArray.extract 0 k).push w++aq.toArray.extract k)=_
  rw[hk]
  exact Sj aq w i
 ·rw[List.length_append,List.length_take,List.length_cons,List.length_drop]
  omega
def Sq(K:PySem.W.Frag):V→List V→Hp→VK→Prop:=λx xs H Q=>∃(a:Addr) (p q r k:Str) (j:Nat),x=.ref a∧xs=[.str k]∧aY K H a [.str p,.str q,.str r]∧((k=p∧j=0)∨(k≠p∧k=q∧j=1)∨(k≠p∧k≠q∧k=r∧j=2))∧Q (.int (j:Int)) H
theorem Sr:G4 X "tuple.index" (Sq X.K):=by
 intro pins s σ H x xs v us Q I rx Ss h
 obtain⟨t,p,q,r,k,j,rfl,rfl,hs,hj,hq⟩:=h
 cases rx
 obtain⟨uy,rfl,ru⟩:=Vals.one Ss
 obtain⟨u,rfl⟩:=ru
 obtain⟨aq,rv,⟨⟨oc,od,uf,gE⟩,e2,c2,n2,d2⟩,z2⟩:=I.tuple hs
 obtain rfl:oc=.type "tuple":=c2
 obtain rfl:uf=.seq aq.toArray n2:=d2
 cases rv with
 |cons r1 rv=>
  cases rv with
  |cons r2 rv=>
   cases rv with
   |cons r3 rv=>
    cases rv
    obtain⟨a1,rfl⟩:=r1
    obtain⟨a2,rfl⟩:=r2
    obtain⟨a3,rfl⟩:=r3
    exact call_meets F.slot_tuple_index ⟨_,e2,rfl⟩ F.entry_tuple_index (F.args_tuple_index_2 _ _) (Se t p q r k a1 a2 a3 u n2 od gE j hj) ⟨e2,.int (j:Int),H,I.tok _,⟨_,rfl⟩,hq⟩
end
end L2
namespace L2
open PySem PySem.Spec PyProof.Rows LX
def bB(mg:Str→Option Value)(x:Str)(v:V):Prop:=∃u,mg x=some u∧RelV v u
structure bg(K:PySem.W.Frag)(C:Addr)(names:List Str):Prop where
 cl:gc K C
 no:∀n∈names,iv K C n
theorem bg.at{K:PySem.W.Frag}{C:Addr}{names:List Str}(c:bg K C names)(i:Nat){n:Str}(h:names[i]?=some n):iv K C n:=c.no n (List.mem_of_getElem? h)
def aI(K:PySem.W.Frag)(mg:Str→Option Value)(x:Str)(st:Stmt)(ps:List Str):Prop:=∃f fd,jw K x x st f fd∧Binds K fd ps []∧mg x=some (.ref f)
def bx(K:PySem.W.Frag)(C:Addr)(m qual:Str)(st:Stmt)(ps:List Str):Prop:=∃f fd,jw K m qual st f fd∧Binds K fd ps []∧Meth K C m f
def gn(K:PySem.W.Frag)(mg:Str→Option Value)(C:Addr)(x qual:Str)(st:Stmt)(ps:List Str):Prop:=∃f fd,jw K "__init__" qual st f fd∧Binds K fd ps []∧Mk K C f∧mg x=some (.ref C)
def Callee(P:Program)(w:World)(K:PySem.W.Frag)(mg:Str→Option Value)(base:Heap)(CX:gS)(k:Nat)(x:Str)(ps:List Str)(sp:Sp):Prop:=
 ∃f fd,fH P w K mg base CX k f fd ps sp∧Binds K fd ps []∧mg x=some (.ref f)∧PySem.W.keepIn K (.ref f)=true
def aP(P:Program)(w:World)(K:PySem.W.Frag)(mg:Str→Option Value)(base:Heap)(CX:gS)(k:Nat)(C:Addr)(m:Str)(ps:List Str)(sp:Sp):Prop:=
 ∃f fd,fH P w K mg base CX k f fd ps sp∧Binds K fd ps []∧Meth K C m f
def Maker(P:Program)(w:World)(K:PySem.W.Frag)(mg:Str→Option Value)(base:Heap)(CX:gS)(k:Nat)(C:Addr)(x:Str)(ps:List Str)(sp:Sp):Prop:=
 ∃f fd,fH P w K mg base CX k f fd ps sp∧Binds K fd ps []∧Mk K C f∧mg x=some (.ref C)
def aU{δ:Type}(args:δ→List V)(body:δ→Hp→VK→XK→Prop):Sp:=λvs H Q E=>∃d,vs=args d∧body d H Q E
abbrev AV(P:Program)(w:World)(K:PySem.W.Frag)(mg:Str→Option Value)(base:Heap)(k:Nat)(f:Addr)(N:List Str)(qual:Str)(st:Stmt){δ:Type}(args:δ→List V)(body:δ→Hp→VK→XK→Prop):Prop:=
 ∀(ay:Value) (A:Around) (outer:List Env) (s:Shared) (H:Hp) (d:δ) (Q:VK) (E:XK),dJ k (A.deeper (envOfC qual (aE st) s.heap.objs.size f ay))→body d H Q E→
   ∃t,gC (jZ ao P w K mg base N qual (aE st) f ay A outer s H E).lS (gU st) t∧t {nx:=λ_ U=>Q .aJ U,rt:=Q} (start N (args d)) H
abbrev JR(P:Program)(w:World)(K:PySem.W.Frag)(mg:Str→Option Value)(base:Heap)(k:Nat)(f:Addr)(N:List Str)(qual:Str)(st:Stmt){δ:Type}(args:δ→List V)(body:δ→Hp→VK→XK→Prop):Prop:=
 ∀(ay:Value) (A:Around) (outer:List Env) (s:Shared) (H:Hp) (d:δ) (Q:VK) (E:XK),dJ k (A.deeper (envOfC qual (aE st) s.heap.objs.size f ay))→body d H Q E→
   ∃t,gC (jZ (aX P w) P w K mg base N qual (aE st) f ay A outer s H E) (gU st) t∧t {nx:=λ_ U=>Q .aJ U,rt:=Q} (start N (args d)) H
section
variable{P:Program}{w:World}{K:PySem.W.Frag}{mg:Str→Option Value}{base:Heap}{x m qual:Str}{st:Stmt}{C:Addr}{N ps:List Str}{k:Nat}{δ:Type}{args:δ→List V}{body:δ→Hp→VK→XK→Prop}
theorem aI.ok(D:aI K mg x st ps)(S:aN N ps (aE st))(len:∀d,(args d).length=ps.length)(h:∀f,AV P w K mg base k f N x st args body):Callee P w K mg base ao (k+1) x ps (aU args body):=by
 obtain⟨f,fd,F,B,g⟩:=D
 refine⟨f,fd,F.ok S (λvs H Q E q=>?_) (λay A outer s H vs Q E hr q=>?_),B,g,F.kp⟩
 ·obtain⟨d,rfl,_⟩:=q
  exact len d
 ·obtain⟨d,rfl,q⟩:=q
  exact h f ay A outer s H d Q E hr q
theorem aI.eH(D:aI K mg x st ps)(S:aN N ps (aE st))(len:∀d,(args d).length=ps.length)(h:∀f,JR P w K mg base k f N x st args body):Callee P w K mg base (aX P w) (k+1) x ps (aU args body):=by
 obtain⟨f,fd,F,B,g⟩:=D
 refine⟨f,fd,F.eH S (λvs H Q E q=>?_) (λay A outer s H vs Q E hr q=>?_),B,g,F.kp⟩
 ·obtain⟨d,rfl,_⟩:=q
  exact len d
 ·obtain⟨d,rfl,q⟩:=q
  exact h f ay A outer s H d Q E hr q
theorem bx.ok(D:bx K C m qual st ps)(S:aN N ps (aE st))(len:∀d,(args d).length=ps.length)(h:∀f,AV P w K mg base k f N qual st args body):aP P w K mg base ao (k+1) C m ps (aU args body):=by
 obtain⟨f,fd,F,B,g⟩:=D
 refine⟨f,fd,F.ok S (λvs H Q E q=>?_) (λay A outer s H vs Q E hr q=>?_),B,g⟩
 ·obtain⟨d,rfl,_⟩:=q
  exact len d
 ·obtain⟨d,rfl,q⟩:=q
  exact h f ay A outer s H d Q E hr q
theorem bx.eH(D:bx K C m qual st ps)(S:aN N ps (aE st))(len:∀d,(args d).length=ps.length)(h:∀f,JR P w K mg base k f N qual st args body):aP P w K mg base (aX P w) (k+1) C m ps (aU args body):=by
 obtain⟨f,fd,F,B,g⟩:=D
 refine⟨f,fd,F.eH S (λvs H Q E q=>?_) (λay A outer s H vs Q E hr q=>?_),B,g⟩
 ·obtain⟨d,rfl,_⟩:=q
  exact len d
 ·obtain⟨d,rfl,q⟩:=q
  exact h f ay A outer s H d Q E hr q
theorem gn.ok(D:gn K mg C x qual st ps)(S:aN N ps (aE st))(len:∀d,(args d).length=ps.length)(h:∀f,AV P w K mg base k f N qual st args body):Maker P w K mg base ao (k+1) C x ps (aU args body):=by
 obtain⟨f,fd,F,B,g⟩:=D
 refine⟨f,fd,F.ok S (λvs H Q E q=>?_) (λay A outer s H vs Q E hr q=>?_),B,g⟩
 ·obtain⟨d,rfl,_⟩:=q
  exact len d
 ·obtain⟨d,rfl,q⟩:=q
  exact h f ay A outer s H d Q E hr q
end
section
variable{X:Cx}{CX:gS}{k:Nat}{C:Addr}{ps:List Str}{sp:Sp}{E:XK}{x m:Str}{p pos apos:Pos}{e o:Expr}{es:List Expr}{ta:TE}{t:TA}{v:V}
theorem aF(h:bB X.mg x v)(hg:Gl X x:=by rfl)(hd:(x==("__debug__":Str))=false:=by decide):PE X (.Name x pos) (tC v):=by
 obtain⟨u,hm,r⟩:=h
 exact Oa hg hm r hd
theorem aT(G:Callee X.prog X.w X.K X.mg X.base CX k x ps sp)(hr:dJ k X.A)(hx:Passes CX X E)(ha:PA X (e::es) t)(hg:Gl X x:=by rfl)(fJ:(x==("__debug__":Str))=false:=by decide)(he:starEach (e::es) X.env=(false,eval e X.env)::starEach es X.env:=by rfl)(eG:(backTo pos (starEach es X.env)).any (·.1)=false:=by rfl):
  PE X (.Call (.Name x p) (e::es) [] pos) (zB sp [] E t):=by
 obtain⟨f,fd,F,B,g,kp⟩:=G
 exact OF F hr hg g kp B .nil hx ha fJ he eG
theorem bD{pl:Sem Bool}(he:PE X o ta)(c:gc X.K C)(G:aP X.prog X.w X.K X.mg X.base CX k C m ps sp)(hr:dJ k X.A)(hx:Passes CX X E)(ha:PA X (e::es) t)(fG:starEach (e::es) X.env=(false,eval e X.env)::starEach es X.env:=by rfl)(eG:(backTo pos (starEach es X.env)).any (·.1)=false:=by rfl)(ht:eval (.Call (.Attribute o m apos) (e::es) [] pos) X.env=(do let ov ←eval o X.env;standAt apos.atName;let (f,first) ←holding [ov] (getMethod ov m pl);callWith pos f first (backTo pos (starEach (e::es) X.env)) (backToKw pos (keywordEach [] X.env))):=by rfl):
  PE X (.Call (.Attribute o m apos) (e::es) [] pos) (sR C m sp [] E ta t):=by
 obtain⟨f,fd,F,B,g⟩:=G
 exact OG he c g F hr B .nil hx ha fG eG ht
theorem d_{pl:Sem Bool}(he:PE X o ta)(c:gc X.K C)(G:aP X.prog X.w X.K X.mg X.base CX k C m ps sp)(hr:dJ k X.A)(hx:Passes CX X E)(ht:eval (.Call (.Attribute o m apos) [] [] pos) X.env=(do let ov ←eval o X.env;standAt apos.atName;let (f,first) ←holding [ov] (getMethod ov m pl);callWith pos f first (backTo pos (starEach [] X.env)) (backToKw pos (keywordEach [] X.env))):=by rfl):
  PE X (.Call (.Attribute o m apos) [] [] pos) (sR C m sp [] E ta oW):=by
 obtain⟨f,fd,F,B,g⟩:=G
 exact OH he c g F hr B .nil hx ht
theorem lu(G:Maker X.prog X.w X.K X.mg X.base CX k C x ps sp)(hr:dJ (k+1) X.A)(hx:Passes CX X E)(ha:PA X (e::es) t)(hg:Gl X x:=by rfl)(fJ:(x==("__debug__":Str))=false:=by decide)(he:starEach (e::es) X.env=(false,eval e X.env)::starEach es X.env:=by rfl)(eG:(backTo pos (starEach es X.env)).any (·.1)=false:=by rfl):
  PE X (.Call (.Name x p) (e::es) [] pos) (qu C sp [] E t):=by
 obtain⟨f,fd,F,B,M,g⟩:=G
 exact OI M F hr hg g B .nil hx ha fJ he eG
theorem AW(G:Maker X.prog X.w X.K X.mg X.base CX k C x ps sp)(hr:dJ (k+1) X.A)(hx:Passes CX X E)(hg:Gl X x:=by rfl)(fJ:(x==("__debug__":Str))=false:=by decide):PE X (.Call (.Name x p) [] [] pos) (qu C sp [] E oW):=by
 obtain⟨f,fd,F,B,M,g⟩:=G
 exact OJ M F hr hg g B .nil hx fJ
theorem PS.lS{st:Stmt}{t:TS}(h:PS X.lS st t):PS X st t:=λpins s σ H D I hw=>
 wpAny_mono (h pins s σ H D (I.jT _) hw) (λ_ _ q=>q.lT) λ_ _ z=>False.elim z
end
theorem eu:∀{fs:List (Str×V)} {ks:List Str} {m:Str},fs.map (·.1)=ks→ks.contains m=false→fs.lookup m=none
 |[],_,_,_,_=>rfl
 |(k,v)::r,_,m,h,n=>by
  subst h
  rw[List.map_cons,List.contains_cons,Bool.or_eq_false_iff]at n
  show(match m==k with|true=>some v|false=>r.lookup m)=none
  rw[n.1]
  exact eu rfl n.2
theorem ef:∀{fs:List (Str×V)} {ks:List Str} {m:Str} {v:V} (i:Nat),fs.map (·.1)=ks→fs[i]?=some (m,v)→(ks.take i).contains m=false→fs.lookup m=some v
 |[],_,_,_,_,_,h,_=>by simp at h
 |(k,v)::r,_,m,_,0,_,h,_=>by
  simp at h
  obtain⟨rfl,rfl⟩:=h
  show(match k==k with|true=>some v|false=>_)=some v
  rw[beq_self_eq_true]
 |(k,v)::r,_,m,u,i+1,e,h,n=>by
  subst e
  rw[List.map_cons,List.take_succ_cons,List.contains_cons,Bool.or_eq_false_iff]at n
  show(match m==k with|true=>some v|false=>r.lookup m)=some u
  rw[n.1]
  exact ef i rfl (by simpa using h) n.2
theorem eI:∀{fs:List (Str×V)} {ks:List Str} {m:Str} (v:V),fs.map (·.1)=ks→ks.contains m=false→d5 m v fs=fs++[(m,v)]
 |[],_,_,_,_,_=>rfl
 |(k,x)::r,_,m,v,h,n=>by
  subst h
  rw[List.map_cons,List.contains_cons,Bool.or_eq_false_iff]at n
  show(if k=m then(k,v)::r else(k,x)::d5 m v r)=_
  rw[if_neg (λe=>by rw[e,beq_self_eq_true]at n;exact absurd n.1 (by decide)),eI v rfl n.2]
  rfl
theorem jB:∀{fs:List (Str×V)} {ks:List Str} {m:Str} {u:V} (v:V) (i:Nat),fs.map (·.1)=ks→fs[i]?=some (m,u)→(ks.take i).contains m=false→d5 m v fs=fs.set i (m,v)
 |[],_,_,_,_,_,_,h,_=>by simp at h
 |(k,x)::r,_,m,_,v,0,_,h,_=>by
  simp at h
  obtain⟨rfl,rfl⟩:=h
  show(if k=k then(k,v)::r else _)=_
  rw[if_pos rfl]
  rfl
 |(k,x)::r,_,m,u,v,i+1,e,h,n=>by
  subst e
  rw[List.map_cons,List.take_succ_cons,List.contains_cons,Bool.or_eq_false_iff]at n
  show(if k=m then(k,v)::r else(k,x)::d5 m v r)=(k,x)::r.set i (m,v)
  rw[if_neg (λe=>by rw[e,beq_self_eq_true]at n;exact absurd n.1 (by decide)),jB v i rfl (by simpa using h) n.2]
def mf:HO→Bool
 |.lst _=>true
 |.ins _ _ _=>true
 |_=>false
structure ax(S:List Addr)(H U:Hp):Prop where
 mu:∀s∈S,∃o,H s=some o∧mf o=true
 eq:∀b o,H b=some o→b∉S→U b=some o
section
variable{S S':List Addr}{H H1 H2 U:Hp}{a b l p:Addr}{o:HO}{xs:List V}{K:PySem.W.Frag}
theorem ax.refl(m:∀s∈S,∃o,H s=some o∧mf o=true):ax S H H:=⟨m,λ_ _ h _=>h⟩
theorem ax.nil:ax [] H H:=⟨λ_ h=>absurd h (by simp),λ_ _ h _=>h⟩
theorem ax.trans(x:ax S H H1)(y:ax S H1 H2):ax S H H2:=⟨x.mu,λb o h n=>y.eq b o (x.eq b o h n) n⟩
theorem ax.same(x:ax [] H H1):au H H1:=λb o h=>x.eq b o h (by simp)
theorem au.keep(x:au H H1)(m:∀s∈S,∃o,H s=some o∧mf o=true):ax S H H1:=⟨m,λb o h _=>x b o h⟩
theorem au.eV(x:au H H1):ax [] H H1:=⟨λ_ h=>absurd h (by simp),λb o h _=>x b o h⟩
theorem ax.d6(x:ax S H H1)(y:au H1 H2):ax S H H2:=⟨x.mu,λb o h n=>y b o (x.eq b o h n)⟩
theorem au.uz(x:au H H1)(y:ax S H1 H2)(m:∀s∈S,∃o,H s=some o∧mf o=true):ax S H H2:=⟨m,λb o h n=>y.eq b o (x b o h) n⟩
theorem au.bc(h:H p=none):au H (upd H p o):=λb u e=>by rw[aG (cp e h)];exact e
theorem ax.sub(x:ax S H H1)(y:ax S' H1 H2)(sub:∀s∈S',s∈S∨H s=none):ax S H H2:=
 ⟨x.mu,λb o e n=>y.eq b o (x.eq b o e n) λz=>by
  rcases sub b z with q|q
  ·exact n q
  ·rw[q]at e;cases e⟩
theorem au.sub(x:au H H1)(y:ax S' H1 H2)(sub:∀s∈S',H s=none):au H H2:=λb o e=>y.eq b o (x b o e) λz=>by rw[sub b z]at e;cases e
theorem ax.T2(k:ax S H U)(h:Rd H a (.tup xs)):a∉S:=λz=>by
 obtain⟨o,e,m⟩:=k.mu a z
 rcases h with h|⟨u,h⟩<;>(rw[h]at e;cases e;cases m)
theorem aY.keep(h:aY K H a xs)(k:ax S H U):aY K U a xs:=by
 rcases h with h|h
 ·have n:=k.T2 h
  rcases h with h|⟨u,h⟩
  ·exact .inl (.inl (k.eq a _ h n))
  ·exact .inl (.inr ⟨u,k.eq a _ h n⟩)
 ·exact .inr h
theorem ah.keep(h:ah K H a xs)(k:ax S H U)(n:a∉S):ah K U a xs:=by
 rcases h with h|h
 ·rcases h with h|⟨u,h⟩
  ·exact .inl (.inl (k.eq a _ h n))
  ·exact .inl (.inr ⟨u,k.eq a _ h n⟩)
 ·exact .inr h
theorem aY.same(h:aY K H a xs)(k:au H U):aY K U a xs:=h.keep k.eV
theorem ah.same(h:ah K H a xs)(k:au H U):ah K U a xs:=h.keep k.eV (by simp)
end
section
variable{σ:St}{H:Hp}{Q:VK}{D:Ends}{K:PySem.W.Frag}{ta tb tc:TE}{t u:TS}{v x y:V}{i j:Int}{E:XK}{sp:Sp}{a C dx:Addr}{f m:Str}{fs:List (Str×V)}
theorem b5(k:Q x H):hU 0 (some x::σ) H Q:=⟨x,rfl,k⟩
theorem cE{z:Option V}{R:St→Hp→Prop}(k:R (some x::σ) H):gD 0 x (z::σ) H R:=k
theorem cF{y0:Option V}(k:Q x H):hU 1 (y0::some x::σ) H Q:=⟨x,rfl,k⟩
theorem cG{y0:Option V}{z:Option V}{R:St→Hp→Prop}(k:R (y0::some x::σ) H):gD 1 x (y0::z::σ) H R:=k
theorem cH{y0 y1:Option V}(k:Q x H):hU 2 (y0::y1::some x::σ) H Q:=⟨x,rfl,k⟩
theorem cJ{y0 y1:Option V}{z:Option V}{R:St→Hp→Prop}(k:R (y0::y1::some x::σ) H):gD 2 x (y0::y1::z::σ) H R:=k
theorem cK{y0 y1 y2:Option V}(k:Q x H):hU 3 (y0::y1::y2::some x::σ) H Q:=⟨x,rfl,k⟩
theorem cy{y0 y1 y2:Option V}{z:Option V}{R:St→Hp→Prop}(k:R (y0::y1::y2::some x::σ) H):gD 3 x (y0::y1::y2::z::σ) H R:=k
theorem cM{y0 y1 y2 y3:Option V}(k:Q x H):hU 4 (y0::y1::y2::y3::some x::σ) H Q:=⟨x,rfl,k⟩
theorem cN{y0 y1 y2 y3:Option V}{z:Option V}{R:St→Hp→Prop}(k:R (y0::y1::y2::y3::some x::σ) H):gD 4 x (y0::y1::y2::y3::z::σ) H R:=k
theorem cO{y0 y1 y2 y3 y4:Option V}(k:Q x H):hU 5 (y0::y1::y2::y3::y4::some x::σ) H Q:=⟨x,rfl,k⟩
theorem cP{y0 y1 y2 y3 y4:Option V}{z:Option V}{R:St→Hp→Prop}(k:R (y0::y1::y2::y3::y4::some x::σ) H):gD 5 x (y0::y1::y2::y3::y4::z::σ) H R:=k
theorem cQ{y0 y1 y2 y3 y4 y5:Option V}(k:Q x H):hU 6 (y0::y1::y2::y3::y4::y5::some x::σ) H Q:=⟨x,rfl,k⟩
theorem cR{y0 y1 y2 y3 y4 y5:Option V}{z:Option V}{R:St→Hp→Prop}(k:R (y0::y1::y2::y3::y4::y5::some x::σ) H):gD 6 x (y0::y1::y2::y3::y4::y5::z::σ) H R:=k
theorem cS{y0 y1 y2 y3 y4 y5 y6:Option V}(k:Q x H):hU 7 (y0::y1::y2::y3::y4::y5::y6::some x::σ) H Q:=⟨x,rfl,k⟩
theorem cT{y0 y1 y2 y3 y4 y5 y6:Option V}{z:Option V}{R:St→Hp→Prop}(k:R (y0::y1::y2::y3::y4::y5::y6::some x::σ) H):gD 7 x (y0::y1::y2::y3::y4::y5::y6::z::σ) H R:=k
theorem bT(k:Q v H):tC v σ H Q:=k
theorem cz{r:R2}(k:ta σ H λx H1=>tb σ H1 λy H2=>r x y H2 Q):qr r ta tb σ H Q:=k
theorem cU{r:V→Hp→VK→Prop}(k:ta σ H λx H1=>r x H1 Q):Gh r ta σ H Q:=k
theorem bW{g:Int→Int→V}(k:Q (g i j) H):jX g (.int i) (.int j) H Q:=⟨i,j,rfl,rfl,k⟩
theorem km{c:Int→Int→Prop}{g:Int→Int→V}(h:c i j)(k:Q (g i j) H):rI c g (.int i) (.int j) H Q:=⟨i,j,rfl,rfl,h,k⟩
theorem cV{g:Int→V}(k:Q (g i) H):rU g (.int i) H Q:=⟨i,rfl,k⟩
theorem cA(k:Q (.bl (decide (i=j))) H):vY (.int i) (.int j) H Q:=⟨rfl,by rw[show decide (V.int i=V.int j)=decide (i=j) by simp];exact k⟩
theorem cW(k:Q (.bl (!decide (i=j))) H):zj (.int i) (.int j) H Q:=⟨rfl,by rw[show decide (V.int i=V.int j)=decide (i=j) by simp];exact k⟩
theorem cX{p q:Str}(k:Q (.bl (decide (p=q))) H):vY (.str p) (.str q) H Q:=⟨rfl,by rw[show decide (V.str p=V.str q)=decide (p=q) by simp];exact k⟩
theorem cY{p q:Str}(k:Q (.bl (!decide (p=q))) H):zj (.str p) (.str q) H Q:=⟨rfl,by rw[show decide (V.str p=V.str q)=decide (p=q) by simp];exact k⟩
theorem cZ{c:TT}(k:c σ H λb H1=>if b=true then ta σ H1 Q else tb σ H1 Q):F6 c ta tb σ H Q:=k
theorem c6{R:Bool→Hp→Prop}(k:ta σ H λx U=>∃k,x=.bl k∧R k U):Gq ta σ H R:=k
theorem c9{R:Bool→Hp→Prop}(k:ta σ H λx U=>∃k,x=.bl k∧R k U):tB ta σ H R:=k
theorem c_{c d:TT}{R:Bool→Hp→Prop}(k:c σ H λb H1=>if b=true then d σ H1 R else R false H1):F1 c d σ H R:=k
theorem da{c d:TT}{R:Bool→Hp→Prop}(k:c σ H λb H1=>if b=true then R true H1 else d σ H1 R):F2 c d σ H R:=k
theorem df{c:TT}{R:Bool→Hp→Prop}(k:c σ H λb H1=>R (!b) H1):F3 c σ H R:=k
theorem cw(k:ta σ H λx H1=>∃c,x=.bl c∧if c=true then Q (.bl true) H1 else tb σ H1 Q):y9 ta tb σ H Q:=k
theorem bX(k:t {D with nx:=u D} σ H):ba t u D σ H:=k
theorem cB(k:D.nx σ H):F8 D σ H:=k
theorem dh(k:ta σ H λ_ H1=>D.nx σ H1):F9 ta D σ H:=k
theorem cg(k:ta σ H D.rt):eZ ta D σ H:=k
theorem di{c:TT}(k:c σ H λb H1=>if b=true then t D σ H1 else u D σ H1):vO c t u D σ H:=k
theorem dj{g:TG}(k:ta σ H λx H1=>g x σ H1 D.nx):za ta g D σ H:=k
theorem dk{tr:TA}{R:List V→Hp→Prop}(k:ta σ H λx H1=>tr σ H1 λxs H2=>R (x::xs) H2):oX ta tr σ H R:=k
theorem dm{R:List V→Hp→Prop}(k:R [] H):oW σ H R:=k
theorem dq{t:TA}(k:t σ H λvs H1=>sp (vs++[]) H1 Q E):zB sp [] E t σ H Q:=k
def JS(C:Addr)(m:Str)(sp:Sp)(E:XK)(t:TA)(σ:St)(x:V)(H:Hp)(Q:VK):Prop:=∃a dx fs,x=.ref a∧H a=some (.ins C dx fs)∧fs.lookup m=none∧t σ H λvs H2=>sp (x::(vs++[])) H2 Q E
theorem dr{t:TA}(k:ta σ H λx H1=>JS C m sp E t σ x H1 Q):sR C m sp [] E ta t σ H Q:=k
theorem aV{t:TA}(h:H a=some (.ins C dx fs))(l:fs.lookup m=none)(k:t σ H λvs H2=>sp (.ref a::(vs++[])) H2 Q E):JS C m sp E t σ (.ref a) H Q:=⟨a,dx,fs,rfl,h,l,k⟩
theorem du{t:TA}(k:t σ H λvs H1=>∀x dx,H1 x=none→H1 dx=none→dx≠x→sp (.ref x::(vs++[])) (upd (upd H1 dx (.own x)) x (.ins C dx [])) (λv H2=>v=.aJ∧Q (.ref x) H2) E):qu C sp [] E t σ H Q:=k
def eJ(K:PySem.W.Frag)(f:Str)(x:V)(H:Hp)(Q:VK):Prop:=∃a C dx fs v,x=.ref a∧H a=some (.ins C dx fs)∧gc K C∧iv K C f∧fs.lookup f=some v∧Q v H
theorem dv(k:ta σ H λx H1=>eJ K f x H1 Q):zy K ta f σ H Q:=k
theorem eM(h:H a=some (.ins C dx fs))(c:gc K C)(n:iv K C f)(l:fs.lookup f=some v)(k:Q v H):eJ K f (.ref a) H Q:=⟨a,C,dx,fs,v,rfl,h,c,n,l,k⟩
def cC(K:PySem.W.Frag)(f:Str)(y x:V)(D:Ends)(σ:St)(H:Hp):Prop:=∃a C dx fs,x=.ref a∧H a=some (.ins C dx fs)∧gc K C∧iv K C f∧fs.length<1000∧D.nx σ (upd H a (.ins C dx (d5 f y fs)))
theorem dw(k:tb σ H λy H1=>ta σ H1 λx H2=>cC K f y x D σ H2):v8 K ta tb f D σ H:=k
theorem dP{gs:List (Str×V)}(h:H a=some (.ins C dx fs))(c:gc K C)(n:iv K C f)(l:fs.length<1000)(e:d5 f y fs=gs)(k:D.nx σ (upd H a (.ins C dx gs))):cC K f y (.ref a) D σ H:=⟨a,C,dx,fs,rfl,h,c,n,l,by rw[e];exact k⟩
theorem dy{t:TA}(k:t σ H λxs H1=>xs.length≤sizeLine∧∀p,H1 p=none→Q (.ref p) (upd H1 p (.lst xs))):GJ t σ H Q:=k
theorem dz{t:TA}(k:t σ H λxs H1=>xs.length≤sizeLine∧∀p,H1 p=none→Q (.ref p) (upd H1 p (.tup xs))):GI t σ H Q:=k
theorem dA{r:List V→Hp→VK→Prop}{t:TA}(k:t σ H λvs H1=>r vs H1 Q):zE r t σ H Q:=k
theorem dB{p:Addr}{xs:List V}(h:aY K H p xs)(l:jv xs i=some v)(k:Q v H):G5 K (.ref p) (.int i) H Q:=⟨p,xs,i,v,rfl,rfl,h,l,k⟩
theorem b9{p:Addr}{xs:List V}(h:ah K H p xs)(l:jv xs i=some v)(k:Q v H):zF K (.ref p) (.int i) H Q:=⟨p,xs,i,v,rfl,rfl,h,l,k⟩
theorem dC{r:V→Option Int→Option Int→Hp→VK→Prop}{tl th:TO}(k:ta σ H λx H1=>tl σ H1 λl H2=>th σ H2 λu H3=>r x l u H3 Q):G1 r ta tl th σ H Q:=k
theorem dD{R:Option Int→Hp→Prop}(k:ta σ H λx H1=>∃i,x=.int i∧R (some i) H1):GY ta σ H R:=k
theorem dF{R:Option Int→Hp→Prop}(k:R none H):GX σ H R:=k
theorem dG{T:String}{r:V→List V→Hp→VK→Prop}{t:TA}(k:ta σ H λx H1=>zG K T x H1∧t σ H1 λxs H2=>r x xs H2 Q):G_ K T r ta t σ H Q:=k
theorem nP{l:Addr}{xs:List V}(h:H l=some (.lst xs))(z:xs.length<sizeLine)(k:Q .aJ (upd H l (.lst (xs++[y])))):tf (.ref l) [y] H Q:=⟨l,xs,y,rfl,rfl,h,z,k⟩
theorem xy{l b:Addr}{xs zs:List V}(h:H l=some (.lst xs))(h2:H b=some (.lst zs))(z:xs.length+zs.length≤sizeLine)(k:Q .aJ (upd H l (.lst (xs++zs)))):Hc (.ref l) [.ref b] H Q:=⟨l,b,xs,zs,rfl,rfl,h,h2,z,k⟩
theorem rb{l b:Addr}{xs zs:List V}(h:H l=some (.lst xs))(h2:H b=some (.lst zs))(z:xs.length+zs.length≤sizeLine)(k:∀p,H p=none→Q (.ref p) (upd H p (.lst (xs++zs)))):He (.ref l) (.ref b) H Q:=⟨l,b,xs,zs,rfl,rfl,h,h2,z,k⟩
theorem rf{wi:TI}{g:TG}{tt:TT}{te:TE}{vs:List Nat}(k:wi σ H λJ H1=>∀D,H1 D=none→∃W:Nat→Nat→Hp→Prop,(∃m,W 0 m (upd H1 D (.lst [])))∧∀i m H,W i m H→(J.stop i H∧Q (.ref D) H)∨(J.go i H∧∃Nx:Hp→Prop,(∀U,Nx U→∃m',m'<m∧W (i+1) m' U)∧∀x U,J.iL i H x U→g x (wipe σ vs) U λbr H2=>wipe br vs=wipe σ vs∧tt br H2 λb H3=>if b=true then te br H3 λy H4=>∃acc,H4 D=some (.lst acc)∧acc.length<sizeLine∧Nx (upd H4 D (.lst (acc++[y])))else Nx H3)):tE wi g tt te vs σ H Q:=k
theorem T_{R:It→Hp→Prop}(k:ta σ H λv H1=>∃x,v=.str x∧R (qC x) H1):HB ta σ H R:=k
theorem lx{R:It→Hp→Prop}(k:ta σ H λx H1=>∃a,x=.ref a∧(∃xs,ah K H1 a xs)∧R (lU K a) H1):Gd K ta σ H R:=k
theorem uA{R:It→Hp→Prop}(k:ta σ H λx H1=>∃a,x=.ref a∧(∃xs,aY K H1 a xs)∧R (lV K a) H1):Ge K ta σ H R:=k
theorem iD{wi:TI}{g:TG}{tb:TS}(k:wi σ H λJ H1=>∃W:Nat→Nat→St→Hp→Prop,(∃m,W 0 m σ H1)∧∀i m σ H,W i m σ H→(J.stop i H∧D.nx σ H)∨(J.go i H∧∃N:St→Hp→Prop,(∀az U,N az U→∃m',m'<m∧W (i+1) m' az U)∧∀x U,J.iL i H x U→g x σ U λbr H2=>tb {D with nx:=N,ct:=N,bk:=D.nx} br H2)):Gf wi g tb D σ H:=k
theorem ph{lo hi:Option Int}{p:Addr}{xs:List V}(h:ah K H p xs)(k:∀q,H q=none→Q (.ref q) (upd H q (.lst (iw xs lo hi)))):G6 K (.ref p) lo hi H Q:=⟨p,xs,rfl,h,k⟩
end
end L2
namespace LN
open PySem PySem.Spec PyProof.Rows L2 LX
def top(i:Nat):Stmt:=PySem.Challenge.pw_lensrows_s01_answers.main.body.getD i (.Pass ⟨0,0,0,0⟩)
abbrev rg:Stmt:=inClass (top 7) 0
abbrev AX:Stmt:=top 11
abbrev AY:Stmt:=top 12
abbrev AZ:Stmt:=top 13
abbrev A0:Stmt:=top 14
abbrev A1:Stmt:=top 15
abbrev A2:Stmt:=top 16
abbrev A3:Stmt:=top 17
abbrev A4:Stmt:=inClass (top 25) 0
abbrev A5:Stmt:=inClass (top 26) 0
abbrev A6:Stmt:=inClass (top 27) 0
abbrev A7:Stmt:=top 28
abbrev A8:Stmt:=inClass (top 45) 0
abbrev xA:Stmt:=top 46
abbrev A9:Stmt:=top 47
abbrev A_:Stmt:=top 48
abbrev Ba:Stmt:=top 49
abbrev Bb:Stmt:=top 50
abbrev Bc:Stmt:=top 51
abbrev Bd:Stmt:=top 52
abbrev Be:Stmt:=top 53
abbrev Bf:Stmt:=top 54
abbrev Bg:Stmt:=top 55
abbrev Bh:Stmt:=top 56
abbrev Bi:Stmt:=top 57
abbrev Bj:Stmt:=top 58
abbrev Bk:Stmt:=top 59
abbrev Bm:Stmt:=inClass (top 61) 0
abbrev Bn:Stmt:=inClass (top 61) 1
abbrev Bo:Stmt:=inClass (top 61) 2
abbrev Bp:Stmt:=inClass (top 61) 3
abbrev Bq:Stmt:=inClass (top 61) 4
abbrev Br:Stmt:=inClass (top 61) 5
abbrev Bs:Stmt:=inClass (top 61) 6
abbrev Bt:Stmt:=inClass (top 61) 7
abbrev Bu:Stmt:=inClass (top 61) 8
abbrev Bv:Stmt:=inClass (top 61) 9
abbrev Bw:Stmt:=inClass (top 61) 10
abbrev Bx:Stmt:=inClass (top 61) 11
abbrev By:Stmt:=inClass (top 61) 12
abbrev Bz:Stmt:=inClass (top 61) 13
abbrev BA:Stmt:=inClass (top 61) 14
abbrev BB:Stmt:=inClass (top 61) 15
abbrev BC:Stmt:=inClass (top 61) 16
abbrev BD:Stmt:=inClass (top 61) 17
abbrev BE:Stmt:=top 62
abbrev BF:Stmt:=top 63
abbrev BG:Stmt:=top 73
abbrev BH:Stmt:=top 74
abbrev BI:Stmt:=top 75
abbrev BJ:Stmt:=top 76
abbrev xB:Stmt:=top 77
abbrev BK:Stmt:=top 83
abbrev BL:Stmt:=top 84
abbrev BM:Stmt:=top 85
abbrev BN:Stmt:=top 86
abbrev BO:Stmt:=top 87
abbrev BP:Stmt:=top 88
abbrev xC:Stmt:=top 89
abbrev uB:Stmt:=top 90
abbrev xD:Stmt:=top 91
abbrev BQ:Stmt:=inClass (top 94) 0
abbrev BR:Stmt:=inClass (top 94) 1
abbrev BS:Stmt:=inClass (top 94) 2
abbrev BU:Stmt:=inClass (top 94) 3
abbrev BV:Stmt:=inClass (top 94) 4
abbrev BW:Stmt:=inClass (top 94) 5
abbrev BX:Stmt:=inClass (top 94) 6
abbrev BY:Stmt:=inClass (top 94) 7
abbrev BZ:Stmt:=top 95
abbrev B0:Stmt:=inClass (top 113) 0
abbrev B1:Stmt:=inClass (top 114) 0
abbrev B2:Stmt:=inClass (top 114) 1
abbrev B3:Stmt:=inClass (top 114) 2
abbrev B4:Stmt:=inClass (top 114) 3
abbrev B5:Stmt:=inClass (top 114) 4
abbrev B6:Stmt:=top 115
abbrev B7:Stmt:=top 116
abbrev B8:Stmt:=top 117
abbrev B9:Stmt:=top 118
abbrev B_:Stmt:=top 119
abbrev Ca:Stmt:=top 120
abbrev Cb:Stmt:=top 121
abbrev Cc:Stmt:=top 122
abbrev Cd:Stmt:=top 123
abbrev Ce:Stmt:=top 124
abbrev Cf:Stmt:=top 125
abbrev Cg:Stmt:=top 126
abbrev Ci:Stmt:=top 127
abbrev Cj:Stmt:=top 128
abbrev Ck:Stmt:=top 129
abbrev mh:Stmt:=top 130
theorem Ua:aN ["self","fault","place"] ["self","fault","place"] (aE rg):=⟨rfl,rfl,rfl,by decide +kernel,rfl,by decide +kernel,by decide +kernel⟩
theorem xE:aN ["a","b","rest"] ["a","b"] (aE AX):=⟨rfl,rfl,rfl,by decide +kernel,rfl,by decide +kernel,by decide +kernel⟩
theorem JT:aN ["upper","lower","divisor"] ["upper","lower"] (aE AY):=⟨rfl,rfl,rfl,by decide +kernel,rfl,by decide +kernel,by decide +kernel⟩
theorem Ub:aN ["rational"] ["rational"] (aE AZ):=⟨rfl,rfl,rfl,by decide +kernel,rfl,by decide +kernel,by decide +kernel⟩
theorem Uc:aN ["rational"] ["rational"] (aE A0):=⟨rfl,rfl,rfl,by decide +kernel,rfl,by decide +kernel,by decide +kernel⟩
theorem Ud:aN ["one","other"] ["one","other"] (aE A1):=⟨rfl,rfl,rfl,by decide +kernel,rfl,by decide +kernel,by decide +kernel⟩
theorem Ue:aN ["one","other"] ["one","other"] (aE A2):=⟨rfl,rfl,rfl,by decide +kernel,rfl,by decide +kernel,by decide +kernel⟩
theorem Ug:aN ["rational"] ["rational"] (aE A3):=⟨rfl,rfl,rfl,by decide +kernel,rfl,by decide +kernel,by decide +kernel⟩
theorem Uh:aN ["self","name","indices"] ["self","name","indices"] (aE A4):=⟨rfl,rfl,rfl,by decide +kernel,rfl,by decide +kernel,by decide +kernel⟩
theorem Ui:aN ["self","kind","name"] ["self","kind","name"] (aE A5):=⟨rfl,rfl,rfl,by decide +kernel,rfl,by decide +kernel,by decide +kernel⟩
theorem Uj:aN ["self"] ["self"] (aE A6):=⟨rfl,rfl,rfl,by decide +kernel,rfl,by decide +kernel,by decide +kernel⟩
theorem Cm:aN ["named","name","place","one"] ["named","name"] (aE A7):=⟨rfl,rfl,rfl,by decide +kernel,rfl,by decide +kernel,by decide +kernel⟩
theorem Uk:aN ["self","kind","place","end","row","value"] ["self","kind","place","end","row","value"] (aE A8):=⟨rfl,rfl,rfl,by decide +kernel,rfl,by decide +kernel,by decide +kernel⟩
theorem Cn:aN ["text","sign"] ["text"] (aE xA):=⟨rfl,rfl,rfl,by decide +kernel,rfl,by decide +kernel,by decide +kernel⟩
theorem Ul:aN ["text","place"] ["text","place"] (aE A9):=⟨rfl,rfl,rfl,by decide +kernel,rfl,by decide +kernel,by decide +kernel⟩
theorem Um:aN ["byte"] ["byte"] (aE A_):=⟨rfl,rfl,rfl,by decide +kernel,rfl,by decide +kernel,by decide +kernel⟩
theorem Uo:aN ["byte"] ["byte"] (aE Ba):=⟨rfl,rfl,rfl,by decide +kernel,rfl,by decide +kernel,by decide +kernel⟩
theorem Up:aN ["byte"] ["byte"] (aE Bb):=⟨rfl,rfl,rfl,by decide +kernel,rfl,by decide +kernel,by decide +kernel⟩
theorem JU:aN ["text","place"] ["text","place"] (aE Bc):=⟨rfl,rfl,rfl,by decide +kernel,rfl,by decide +kernel,by decide +kernel⟩
theorem Co:aN ["text","place"] ["text","place"] (aE Bd):=⟨rfl,rfl,rfl,by decide +kernel,rfl,by decide +kernel,by decide +kernel⟩
theorem JV:aN ["text","place"] ["text","place"] (aE Be):=⟨rfl,rfl,rfl,by decide +kernel,rfl,by decide +kernel,by decide +kernel⟩
theorem JW:aN ["text","place"] ["text","place"] (aE Bf):=⟨rfl,rfl,rfl,by decide +kernel,rfl,by decide +kernel,by decide +kernel⟩
theorem xG:aN ["text","place","end","row","word"] ["text","place"] (aE Bg):=⟨rfl,rfl,rfl,by decide +kernel,rfl,by decide +kernel,by decide +kernel⟩
theorem nQ:aN ["row","upper","lower","behind_point","byte"] ["row"] (aE Bh):=⟨rfl,rfl,rfl,by decide +kernel,rfl,by decide +kernel,by decide +kernel⟩
theorem nR:aN ["text","place","kind","end","digits","behind"] ["text","place"] (aE Bi):=⟨rfl,rfl,rfl,by decide +kernel,rfl,by decide +kernel,by decide +kernel⟩
theorem JX:aN ["text","place","mark"] ["text","place"] (aE Bj):=⟨rfl,rfl,rfl,by decide +kernel,rfl,by decide +kernel,by decide +kernel⟩
theorem JY:aN ["text","place","begin"] ["text","place"] (aE Bk):=⟨rfl,rfl,rfl,by decide +kernel,rfl,by decide +kernel,by decide +kernel⟩
theorem Uq:aN ["self","text","system"] ["self","text","system"] (aE Bm):=⟨rfl,rfl,rfl,by decide +kernel,rfl,by decide +kernel,by decide +kernel⟩
theorem Ur:aN ["self"] ["self"] (aE Bn):=⟨rfl,rfl,rfl,by decide +kernel,rfl,by decide +kernel,by decide +kernel⟩
theorem JZ:aN ["self","kinds","token"] ["self","kinds"] (aE Bo):=⟨rfl,rfl,rfl,by decide +kernel,rfl,by decide +kernel,by decide +kernel⟩
theorem J0:aN ["self","kinds","token"] ["self","kinds"] (aE Bp):=⟨rfl,rfl,rfl,by decide +kernel,rfl,by decide +kernel,by decide +kernel⟩
theorem Us:aN ["self","kind"] ["self","kind"] (aE Bq):=⟨rfl,rfl,rfl,by decide +kernel,rfl,by decide +kernel,by decide +kernel⟩
theorem J6:aN ["self","named","token"] ["self","named"] (aE Br):=⟨rfl,rfl,rfl,by decide +kernel,rfl,by decide +kernel,by decide +kernel⟩
theorem Cp:aN ["self","token","glass"] ["self"] (aE Bs):=⟨rfl,rfl,rfl,by decide +kernel,rfl,by decide +kernel,by decide +kernel⟩
theorem Cq:aN ["self","upper","lower"] ["self"] (aE Bt):=⟨rfl,rfl,rfl,by decide +kernel,rfl,by decide +kernel,by decide +kernel⟩
theorem Ut:aN ["self"] ["self"] (aE Bu):=⟨rfl,rfl,rfl,by decide +kernel,rfl,by decide +kernel,by decide +kernel⟩
theorem J7:aN ["self","stands","kinds","token"] ["self","stands","kinds"] (aE Bv):=⟨rfl,rfl,rfl,by decide +kernel,rfl,by decide +kernel,by decide +kernel⟩
theorem rh:aN ["self","word","name","indices","mark","value"] ["self"] (aE Bw):=⟨rfl,rfl,rfl,by decide +kernel,rfl,by decide +kernel,by decide +kernel⟩
theorem Uu:aN ["self"] ["self"] (aE Bx):=⟨rfl,rfl,rfl,by decide +kernel,rfl,by decide +kernel,by decide +kernel⟩
theorem Uv:aN ["self"] ["self"] (aE By):=⟨rfl,rfl,rfl,by decide +kernel,rfl,by decide +kernel,by decide +kernel⟩
theorem Cr:aN ["self","word","value"] ["self"] (aE Bz):=⟨rfl,rfl,rfl,by decide +kernel,rfl,by decide +kernel,by decide +kernel⟩
theorem Uw:aN ["self"] ["self"] (aE BA):=⟨rfl,rfl,rfl,by decide +kernel,rfl,by decide +kernel,by decide +kernel⟩
theorem J8:aN ["self","value"] ["self"] (aE BB):=⟨rfl,rfl,rfl,by decide +kernel,rfl,by decide +kernel,by decide +kernel⟩
theorem xH:aN ["self","word","name","thing"] ["self"] (aE BC):=⟨rfl,rfl,rfl,by decide +kernel,rfl,by decide +kernel,by decide +kernel⟩
theorem Ux:aN ["self"] ["self"] (aE BD):=⟨rfl,rfl,rfl,by decide +kernel,rfl,by decide +kernel,by decide +kernel⟩
theorem J9:aN ["text","reader"] ["text"] (aE BE):=⟨rfl,rfl,rfl,by decide +kernel,rfl,by decide +kernel,by decide +kernel⟩
theorem Cs:aN ["text","system","reader","thing"] ["text","system"] (aE BF):=⟨rfl,rfl,rfl,by decide +kernel,rfl,by decide +kernel,by decide +kernel⟩
theorem Ct:aN ["system","media","thing"] ["system"] (aE BG):=⟨rfl,rfl,rfl,by decide +kernel,rfl,by decide +kernel,by decide +kernel⟩
theorem Cu:aN ["things","ways","thing"] ["things"] (aE BH):=⟨rfl,rfl,rfl,by decide +kernel,rfl,by decide +kernel,by decide +kernel⟩
theorem Uy:aN ["rational","way"] ["rational","way"] (aE BI):=⟨rfl,rfl,rfl,by decide +kernel,rfl,by decide +kernel,by decide +kernel⟩
theorem uC:aN ["things","number","place","thing","way"] ["things","number"] (aE BJ):=⟨rfl,rfl,rfl,by decide +kernel,rfl,by decide +kernel,by decide +kernel⟩
theorem nS:aN ["system","number","media","ways","indices","side","glass","index"] ["system","number"] (aE xB):=⟨rfl,rfl,rfl,by decide +kernel,rfl,by decide +kernel,by decide +kernel⟩
theorem Cv:aN ["system","number","text","thing","e"] ["system","number","text"] (aE BK):=⟨rfl,rfl,rfl,by decide +kernel,rfl,by decide +kernel,by decide +kernel⟩
theorem Cw:aN ["system","number","things","gap"] ["system","number"] (aE BL):=⟨rfl,rfl,rfl,by decide +kernel,rfl,by decide +kernel,by decide +kernel⟩
theorem Uz:aN ["kind","what","value"] ["kind","what","value"] (aE BM):=⟨rfl,rfl,rfl,by decide +kernel,rfl,by decide +kernel,by decide +kernel⟩
theorem UA:aN ["thing","what","value"] ["thing","what","value"] (aE BN):=⟨rfl,rfl,rfl,by decide +kernel,rfl,by decide +kernel,by decide +kernel⟩
theorem Cy:aN ["system","number","what","upper","lower","thing","value"] ["system","number","what","upper","lower"] (aE BO):=⟨rfl,rfl,rfl,by decide +kernel,rfl,by decide +kernel,by decide +kernel⟩
theorem UB:aN ["thing","factor"] ["thing","factor"] (aE BP):=⟨rfl,rfl,rfl,by decide +kernel,rfl,by decide +kernel,by decide +kernel⟩
theorem Cz:aN ["values","value"] ["values"] (aE xC):=⟨rfl,rfl,rfl,by decide +kernel,rfl,by decide +kernel,by decide +kernel⟩
theorem nU:aN ["system","upper","lower","factor","rows","thing","row"] ["system","upper","lower"] (aE uB):=⟨rfl,rfl,rfl,by decide +kernel,rfl,by decide +kernel,by decide +kernel⟩
theorem mi:aN ["system","media","turns_axis","gaps","thing","gap","medium"] ["system"] (aE xD):=⟨rfl,rfl,rfl,by decide +kernel,rfl,by decide +kernel,by decide +kernel⟩
theorem UC:aN ["self"] ["self"] (aE BQ):=⟨rfl,rfl,rfl,by decide +kernel,rfl,by decide +kernel,by decide +kernel⟩
theorem UD:aN ["self","name"] ["self","name"] (aE BR):=⟨rfl,rfl,rfl,by decide +kernel,rfl,by decide +kernel,by decide +kernel⟩
theorem UE:aN ["self","text"] ["self","text"] (aE BS):=⟨rfl,rfl,rfl,by decide +kernel,rfl,by decide +kernel,by decide +kernel⟩
theorem UG:aN ["self","rational"] ["self","rational"] (aE BU):=⟨rfl,rfl,rfl,by decide +kernel,rfl,by decide +kernel,by decide +kernel⟩
theorem CA:aN ["self","glass","mark","value"] ["self","glass"] (aE BV):=⟨rfl,rfl,rfl,by decide +kernel,rfl,by decide +kernel,by decide +kernel⟩
theorem UH:aN ["self","word","value"] ["self","word","value"] (aE BW):=⟨rfl,rfl,rfl,by decide +kernel,rfl,by decide +kernel,by decide +kernel⟩
theorem UI:aN ["self","thing"] ["self","thing"] (aE BX):=⟨rfl,rfl,rfl,by decide +kernel,rfl,by decide +kernel,by decide +kernel⟩
theorem UJ:aN ["self","thing","glasses"] ["self","thing","glasses"] (aE BY):=⟨rfl,rfl,rfl,by decide +kernel,rfl,by decide +kernel,by decide +kernel⟩
theorem xI:aN ["system","form","glass","thing"] ["system"] (aE BZ):=⟨rfl,rfl,rfl,by decide +kernel,rfl,by decide +kernel,by decide +kernel⟩
theorem UK:aN ["self"] ["self"] (aE B0):=⟨rfl,rfl,rfl,by decide +kernel,rfl,by decide +kernel,by decide +kernel⟩
theorem UL:aN ["self","numbers"] ["self","numbers"] (aE B1):=⟨rfl,rfl,rfl,by decide +kernel,rfl,by decide +kernel,by decide +kernel⟩
theorem UM:aN ["self"] ["self"] (aE B2):=⟨rfl,rfl,rfl,by decide +kernel,rfl,by decide +kernel,by decide +kernel⟩
theorem UN:aN ["self"] ["self"] (aE B3):=⟨rfl,rfl,rfl,by decide +kernel,rfl,by decide +kernel,by decide +kernel⟩
theorem UO:aN ["self","many"] ["self","many"] (aE B4):=⟨rfl,rfl,rfl,by decide +kernel,rfl,by decide +kernel,by decide +kernel⟩
theorem UP:aN ["self"] ["self"] (aE B5):=⟨rfl,rfl,rfl,by decide +kernel,rfl,by decide +kernel,by decide +kernel⟩
theorem CB:aN ["kept","text","system","e"] ["kept","text"] (aE B6):=⟨rfl,rfl,rfl,by decide +kernel,rfl,by decide +kernel,by decide +kernel⟩
theorem UQ:aN ["kept"] ["kept"] (aE B7):=⟨rfl,rfl,rfl,by decide +kernel,rfl,by decide +kernel,by decide +kernel⟩
theorem UR:aN ["row"] ["row"] (aE B8):=⟨rfl,rfl,rfl,by decide +kernel,rfl,by decide +kernel,by decide +kernel⟩
theorem US:aN ["system"] ["system"] (aE B9):=⟨rfl,rfl,rfl,by decide +kernel,rfl,by decide +kernel,by decide +kernel⟩
theorem UT:aN ["system","sort"] ["system","sort"] (aE B_):=⟨rfl,rfl,rfl,by decide +kernel,rfl,by decide +kernel,by decide +kernel⟩
theorem J_:aN ["system","sort","number","named"] ["system","sort","number"] (aE Ca):=⟨rfl,rfl,rfl,by decide +kernel,rfl,by decide +kernel,by decide +kernel⟩
theorem CC:aN ["system","sort","name","named","number"] ["system","sort","name"] (aE Cb):=⟨rfl,rfl,rfl,by decide +kernel,rfl,by decide +kernel,by decide +kernel⟩
theorem uD:aN ["values","told","value"] ["values"] (aE Cc):=⟨rfl,rfl,rfl,by decide +kernel,rfl,by decide +kernel,by decide +kernel⟩
theorem Ka:aN ["system","number","thing"] ["system","number"] (aE Cd):=⟨rfl,rfl,rfl,by decide +kernel,rfl,by decide +kernel,by decide +kernel⟩
theorem UU:aN ["system","number"] ["system","number"] (aE Ce):=⟨rfl,rfl,rfl,by decide +kernel,rfl,by decide +kernel,by decide +kernel⟩
theorem Kb:aN ["system","number","place"] ["system","number"] (aE Cf):=⟨rfl,rfl,rfl,by decide +kernel,rfl,by decide +kernel,by decide +kernel⟩
theorem UW:aN ["system","call","wholes","row"] ["system","call","wholes","row"] (aE Cg):=⟨rfl,rfl,rfl,by decide +kernel,rfl,by decide +kernel,by decide +kernel⟩
theorem UX:aN ["system","call","wholes","row"] ["system","call","wholes","row"] (aE Ci):=⟨rfl,rfl,rfl,by decide +kernel,rfl,by decide +kernel,by decide +kernel⟩
theorem UY:aN ["call"] ["call"] (aE Cj):=⟨rfl,rfl,rfl,by decide +kernel,rfl,by decide +kernel,by decide +kernel⟩
theorem xJ:aN ["kept","calls","call","wholes","row"] ["kept","calls"] (aE Ck):=⟨rfl,rfl,rfl,by decide +kernel,rfl,by decide +kernel,by decide +kernel⟩
theorem uE:aN ["calls","kept","left","told","answer"] ["calls"] (aE mh):=⟨rfl,rfl,rfl,by decide +kernel,rfl,by decide +kernel,by decide +kernel⟩
def nV(v0 v1:V):List (Str×V):=[("name",v0),("indices",v1)]
section
variable{K:PySem.W.Frag}{C a dx:Addr}{H:Hp}{Q:VK}{D:Ends}{σ:L2.St}{v0 v1 y:V}
theorem xK(h:H a=some (.ins C dx (nV v0 v1)))(c:bg K C ["name","indices"])(k:Q v0 H):eJ K "name" (.ref a) H Q:=eM h c.cl (c.at 0 rfl) (ef (ks:=["name","indices"]) 0 rfl rfl (by decide +kernel)) k
theorem UZ(h:H a=some (.ins C dx []))(c:bg K C ["name","indices"])(k:D.nx σ (upd H a (.ins C dx [("name",v0)]))):cC K "name" v0 (.ref a) D σ H:=dP h c.cl (c.at 0 rfl) (by show 0<1000;decide) ((eI (ks:=[]) v0 rfl (by decide +kernel)).trans rfl) k
theorem CF(h:H a=some (.ins C dx (nV v0 v1)))(c:bg K C ["name","indices"])(k:Q v1 H):eJ K "indices" (.ref a) H Q:=eM h c.cl (c.at 1 rfl) (ef (ks:=["name","indices"]) 1 rfl rfl (by decide +kernel)) k
theorem U0(h:H a=some (.ins C dx [("name",v0)]))(c:bg K C ["name","indices"])(k:D.nx σ (upd H a (.ins C dx [("name",v0),("indices",v1)]))):cC K "indices" v1 (.ref a) D σ H:=dP h c.cl (c.at 1 rfl) (by show 1<1000;decide) ((eI (ks:=["name"]) v1 rfl (by decide +kernel)).trans rfl) k
end
def bN(v0 v1 v2 v3 v4 v5 v6:V):List (Str×V):=[("kind",v0),("name",v1),("gap",v2),("glass",v3),("curve",v4),("conic",v5),("reach",v6)]
section
variable{K:PySem.W.Frag}{C a dx:Addr}{H:Hp}{Q:VK}{D:Ends}{σ:L2.St}{v0 v1 v2 v3 v4 v5 v6 y:V}
theorem ko(h:H a=some (.ins C dx (bN v0 v1 v2 v3 v4 v5 v6)))(c:bg K C ["kind","name","gap","glass","curve","conic","reach"])(k:Q v0 H):eJ K "kind" (.ref a) H Q:=eM h c.cl (c.at 0 rfl) (ef (ks:=["kind","name","gap","glass","curve","conic","reach"]) 0 rfl rfl (by decide +kernel)) k
theorem U1(h:H a=some (.ins C dx []))(c:bg K C ["kind","name","gap","glass","curve","conic","reach"])(k:D.nx σ (upd H a (.ins C dx [("kind",v0)]))):cC K "kind" v0 (.ref a) D σ H:=dP h c.cl (c.at 0 rfl) (by show 0<1000;decide) ((eI (ks:=[]) v0 rfl (by decide +kernel)).trans rfl) k
theorem Kc(h:H a=some (.ins C dx (bN v0 v1 v2 v3 v4 v5 v6)))(c:bg K C ["kind","name","gap","glass","curve","conic","reach"])(k:Q v1 H):eJ K "name" (.ref a) H Q:=eM h c.cl (c.at 1 rfl) (ef (ks:=["kind","name","gap","glass","curve","conic","reach"]) 1 rfl rfl (by decide +kernel)) k
theorem U2(h:H a=some (.ins C dx [("kind",v0)]))(c:bg K C ["kind","name","gap","glass","curve","conic","reach"])(k:D.nx σ (upd H a (.ins C dx [("kind",v0),("name",v1)]))):cC K "name" v1 (.ref a) D σ H:=dP h c.cl (c.at 1 rfl) (by show 1<1000;decide) ((eI (ks:=["kind"]) v1 rfl (by decide +kernel)).trans rfl) k
theorem pj(h:H a=some (.ins C dx (bN v0 v1 v2 v3 v4 v5 v6)))(c:bg K C ["kind","name","gap","glass","curve","conic","reach"])(k:Q v2 H):eJ K "gap" (.ref a) H Q:=eM h c.cl (c.at 2 rfl) (ef (ks:=["kind","name","gap","glass","curve","conic","reach"]) 2 rfl rfl (by decide +kernel)) k
theorem uF(h:H a=some (.ins C dx (bN v0 v1 v2 v3 v4 v5 v6)))(c:bg K C ["kind","name","gap","glass","curve","conic","reach"])(k:D.nx σ (upd H a (.ins C dx (bN v0 v1 y v3 v4 v5 v6)))):cC K "gap" y (.ref a) D σ H:=dP h c.cl (c.at 2 rfl) (by show 7<1000;decide) ((jB (ks:=["kind","name","gap","glass","curve","conic","reach"]) y 2 rfl rfl (by decide +kernel)).trans rfl) k
theorem U3(h:H a=some (.ins C dx [("kind",v0),("name",v1)]))(c:bg K C ["kind","name","gap","glass","curve","conic","reach"])(k:D.nx σ (upd H a (.ins C dx [("kind",v0),("name",v1),("gap",v2)]))):cC K "gap" v2 (.ref a) D σ H:=dP h c.cl (c.at 2 rfl) (by show 2<1000;decide) ((eI (ks:=["kind","name"]) v2 rfl (by decide +kernel)).trans rfl) k
theorem CG(h:H a=some (.ins C dx (bN v0 v1 v2 v3 v4 v5 v6)))(c:bg K C ["kind","name","gap","glass","curve","conic","reach"])(k:Q v3 H):eJ K "glass" (.ref a) H Q:=eM h c.cl (c.at 3 rfl) (ef (ks:=["kind","name","gap","glass","curve","conic","reach"]) 3 rfl rfl (by decide +kernel)) k
theorem Kd(h:H a=some (.ins C dx (bN v0 v1 v2 v3 v4 v5 v6)))(c:bg K C ["kind","name","gap","glass","curve","conic","reach"])(k:D.nx σ (upd H a (.ins C dx (bN v0 v1 v2 y v4 v5 v6)))):cC K "glass" y (.ref a) D σ H:=dP h c.cl (c.at 3 rfl) (by show 7<1000;decide) ((jB (ks:=["kind","name","gap","glass","curve","conic","reach"]) y 3 rfl rfl (by decide +kernel)).trans rfl) k
theorem U4(h:H a=some (.ins C dx [("kind",v0),("name",v1),("gap",v2)]))(c:bg K C ["kind","name","gap","glass","curve","conic","reach"])(k:D.nx σ (upd H a (.ins C dx [("kind",v0),("name",v1),("gap",v2),("glass",v3)]))):cC K "glass" v3 (.ref a) D σ H:=dP h c.cl (c.at 3 rfl) (by show 3<1000;decide) ((eI (ks:=["kind","name","gap"]) v3 rfl (by decide +kernel)).trans rfl) k
theorem uG(h:H a=some (.ins C dx (bN v0 v1 v2 v3 v4 v5 v6)))(c:bg K C ["kind","name","gap","glass","curve","conic","reach"])(k:Q v4 H):eJ K "curve" (.ref a) H Q:=eM h c.cl (c.at 4 rfl) (ef (ks:=["kind","name","gap","glass","curve","conic","reach"]) 4 rfl rfl (by decide +kernel)) k
theorem xM(h:H a=some (.ins C dx (bN v0 v1 v2 v3 v4 v5 v6)))(c:bg K C ["kind","name","gap","glass","curve","conic","reach"])(k:D.nx σ (upd H a (.ins C dx (bN v0 v1 v2 v3 y v5 v6)))):cC K "curve" y (.ref a) D σ H:=dP h c.cl (c.at 4 rfl) (by show 7<1000;decide) ((jB (ks:=["kind","name","gap","glass","curve","conic","reach"]) y 4 rfl rfl (by decide +kernel)).trans rfl) k
theorem U5(h:H a=some (.ins C dx [("kind",v0),("name",v1),("gap",v2),("glass",v3)]))(c:bg K C ["kind","name","gap","glass","curve","conic","reach"])(k:D.nx σ (upd H a (.ins C dx [("kind",v0),("name",v1),("gap",v2),("glass",v3),("curve",v4)]))):cC K "curve" v4 (.ref a) D σ H:=dP h c.cl (c.at 4 rfl) (by show 4<1000;decide) ((eI (ks:=["kind","name","gap","glass"]) v4 rfl (by decide +kernel)).trans rfl) k
theorem Ke(h:H a=some (.ins C dx (bN v0 v1 v2 v3 v4 v5 v6)))(c:bg K C ["kind","name","gap","glass","curve","conic","reach"])(k:Q v5 H):eJ K "conic" (.ref a) H Q:=eM h c.cl (c.at 5 rfl) (ef (ks:=["kind","name","gap","glass","curve","conic","reach"]) 5 rfl rfl (by decide +kernel)) k
theorem Kf(h:H a=some (.ins C dx (bN v0 v1 v2 v3 v4 v5 v6)))(c:bg K C ["kind","name","gap","glass","curve","conic","reach"])(k:D.nx σ (upd H a (.ins C dx (bN v0 v1 v2 v3 v4 y v6)))):cC K "conic" y (.ref a) D σ H:=dP h c.cl (c.at 5 rfl) (by show 7<1000;decide) ((jB (ks:=["kind","name","gap","glass","curve","conic","reach"]) y 5 rfl rfl (by decide +kernel)).trans rfl) k
theorem U6(h:H a=some (.ins C dx [("kind",v0),("name",v1),("gap",v2),("glass",v3),("curve",v4)]))(c:bg K C ["kind","name","gap","glass","curve","conic","reach"])(k:D.nx σ (upd H a (.ins C dx [("kind",v0),("name",v1),("gap",v2),("glass",v3),("curve",v4),("conic",v5)]))):cC K "conic" v5 (.ref a) D σ H:=dP h c.cl (c.at 5 rfl) (by show 5<1000;decide) ((eI (ks:=["kind","name","gap","glass","curve"]) v5 rfl (by decide +kernel)).trans rfl) k
theorem CH(h:H a=some (.ins C dx (bN v0 v1 v2 v3 v4 v5 v6)))(c:bg K C ["kind","name","gap","glass","curve","conic","reach"])(k:Q v6 H):eJ K "reach" (.ref a) H Q:=eM h c.cl (c.at 6 rfl) (ef (ks:=["kind","name","gap","glass","curve","conic","reach"]) 6 rfl rfl (by decide +kernel)) k
theorem CI(h:H a=some (.ins C dx (bN v0 v1 v2 v3 v4 v5 v6)))(c:bg K C ["kind","name","gap","glass","curve","conic","reach"])(k:D.nx σ (upd H a (.ins C dx (bN v0 v1 v2 v3 v4 v5 y)))):cC K "reach" y (.ref a) D σ H:=dP h c.cl (c.at 6 rfl) (by show 7<1000;decide) ((jB (ks:=["kind","name","gap","glass","curve","conic","reach"]) y 6 rfl rfl (by decide +kernel)).trans rfl) k
theorem U7(h:H a=some (.ins C dx [("kind",v0),("name",v1),("gap",v2),("glass",v3),("curve",v4),("conic",v5)]))(c:bg K C ["kind","name","gap","glass","curve","conic","reach"])(k:D.nx σ (upd H a (.ins C dx [("kind",v0),("name",v1),("gap",v2),("glass",v3),("curve",v4),("conic",v5),("reach",v6)]))):cC K "reach" v6 (.ref a) D σ H:=dP h c.cl (c.at 6 rfl) (by show 6<1000;decide) ((eI (ks:=["kind","name","gap","glass","curve","conic"]) v6 rfl (by decide +kernel)).trans rfl) k
end
def fN(v0 v1 v2:V):List (Str×V):=[("glasses",v0),("first",v1),("things",v2)]
section
variable{K:PySem.W.Frag}{C a dx:Addr}{H:Hp}{Q:VK}{D:Ends}{σ:L2.St}{v0 v1 v2 y:V}
theorem jC(h:H a=some (.ins C dx (fN v0 v1 v2)))(c:bg K C ["glasses","first","things"])(k:Q v0 H):eJ K "glasses" (.ref a) H Q:=eM h c.cl (c.at 0 rfl) (ef (ks:=["glasses","first","things"]) 0 rfl rfl (by decide +kernel)) k
theorem U8(h:H a=some (.ins C dx []))(c:bg K C ["glasses","first","things"])(k:D.nx σ (upd H a (.ins C dx [("glasses",v0)]))):cC K "glasses" v0 (.ref a) D σ H:=dP h c.cl (c.at 0 rfl) (by show 0<1000;decide) ((eI (ks:=[]) v0 rfl (by decide +kernel)).trans rfl) k
theorem CJ(h:H a=some (.ins C dx (fN v0 v1 v2)))(c:bg K C ["glasses","first","things"])(k:Q v1 H):eJ K "first" (.ref a) H Q:=eM h c.cl (c.at 1 rfl) (ef (ks:=["glasses","first","things"]) 1 rfl rfl (by decide +kernel)) k
theorem Kg(h:H a=some (.ins C dx (fN v0 v1 v2)))(c:bg K C ["glasses","first","things"])(k:D.nx σ (upd H a (.ins C dx (fN v0 y v2)))):cC K "first" y (.ref a) D σ H:=dP h c.cl (c.at 1 rfl) (by show 3<1000;decide) ((jB (ks:=["glasses","first","things"]) y 1 rfl rfl (by decide +kernel)).trans rfl) k
theorem U9(h:H a=some (.ins C dx [("glasses",v0)]))(c:bg K C ["glasses","first","things"])(k:D.nx σ (upd H a (.ins C dx [("glasses",v0),("first",v1)]))):cC K "first" v1 (.ref a) D σ H:=dP h c.cl (c.at 1 rfl) (by show 1<1000;decide) ((eI (ks:=["glasses"]) v1 rfl (by decide +kernel)).trans rfl) k
theorem eW(h:H a=some (.ins C dx (fN v0 v1 v2)))(c:bg K C ["glasses","first","things"])(k:Q v2 H):eJ K "things" (.ref a) H Q:=eM h c.cl (c.at 2 rfl) (ef (ks:=["glasses","first","things"]) 2 rfl rfl (by decide +kernel)) k
theorem U_(h:H a=some (.ins C dx (fN v0 v1 v2)))(c:bg K C ["glasses","first","things"])(k:D.nx σ (upd H a (.ins C dx (fN v0 v1 y)))):cC K "things" y (.ref a) D σ H:=dP h c.cl (c.at 2 rfl) (by show 3<1000;decide) ((jB (ks:=["glasses","first","things"]) y 2 rfl rfl (by decide +kernel)).trans rfl) k
theorem Va(h:H a=some (.ins C dx [("glasses",v0),("first",v1)]))(c:bg K C ["glasses","first","things"])(k:D.nx σ (upd H a (.ins C dx [("glasses",v0),("first",v1),("things",v2)]))):cC K "things" v2 (.ref a) D σ H:=dP h c.cl (c.at 2 rfl) (by show 2<1000;decide) ((eI (ks:=["glasses","first"]) v2 rfl (by decide +kernel)).trans rfl) k
end
def nW(v0 v1 v2 v3 v4:V):List (Str×V):=[("kind",v0),("place",v1),("end",v2),("row",v3),("value",v4)]
section
variable{K:PySem.W.Frag}{C a dx:Addr}{H:Hp}{Q:VK}{D:Ends}{σ:L2.St}{v0 v1 v2 v3 v4 y:V}
theorem ku(h:H a=some (.ins C dx (nW v0 v1 v2 v3 v4)))(c:bg K C ["kind","place","end","row","value"])(k:Q v0 H):eJ K "kind" (.ref a) H Q:=eM h c.cl (c.at 0 rfl) (ef (ks:=["kind","place","end","row","value"]) 0 rfl rfl (by decide +kernel)) k
theorem Vb(h:H a=some (.ins C dx []))(c:bg K C ["kind","place","end","row","value"])(k:D.nx σ (upd H a (.ins C dx [("kind",v0)]))):cC K "kind" v0 (.ref a) D σ H:=dP h c.cl (c.at 0 rfl) (by show 0<1000;decide) ((eI (ks:=[]) v0 rfl (by decide +kernel)).trans rfl) k
theorem pq(h:H a=some (.ins C dx (nW v0 v1 v2 v3 v4)))(c:bg K C ["kind","place","end","row","value"])(k:Q v1 H):eJ K "place" (.ref a) H Q:=eM h c.cl (c.at 1 rfl) (ef (ks:=["kind","place","end","row","value"]) 1 rfl rfl (by decide +kernel)) k
theorem Vc(h:H a=some (.ins C dx [("kind",v0)]))(c:bg K C ["kind","place","end","row","value"])(k:D.nx σ (upd H a (.ins C dx [("kind",v0),("place",v1)]))):cC K "place" v1 (.ref a) D σ H:=dP h c.cl (c.at 1 rfl) (by show 1<1000;decide) ((eI (ks:=["kind"]) v1 rfl (by decide +kernel)).trans rfl) k
theorem Vd(h:H a=some (.ins C dx (nW v0 v1 v2 v3 v4)))(c:bg K C ["kind","place","end","row","value"])(k:Q v2 H):eJ K "end" (.ref a) H Q:=eM h c.cl (c.at 2 rfl) (ef (ks:=["kind","place","end","row","value"]) 2 rfl rfl (by decide +kernel)) k
theorem Ve(h:H a=some (.ins C dx [("kind",v0),("place",v1)]))(c:bg K C ["kind","place","end","row","value"])(k:D.nx σ (upd H a (.ins C dx [("kind",v0),("place",v1),("end",v2)]))):cC K "end" v2 (.ref a) D σ H:=dP h c.cl (c.at 2 rfl) (by show 2<1000;decide) ((eI (ks:=["kind","place"]) v2 rfl (by decide +kernel)).trans rfl) k
theorem CK(h:H a=some (.ins C dx (nW v0 v1 v2 v3 v4)))(c:bg K C ["kind","place","end","row","value"])(k:Q v3 H):eJ K "row" (.ref a) H Q:=eM h c.cl (c.at 3 rfl) (ef (ks:=["kind","place","end","row","value"]) 3 rfl rfl (by decide +kernel)) k
theorem Vf(h:H a=some (.ins C dx [("kind",v0),("place",v1),("end",v2)]))(c:bg K C ["kind","place","end","row","value"])(k:D.nx σ (upd H a (.ins C dx [("kind",v0),("place",v1),("end",v2),("row",v3)]))):cC K "row" v3 (.ref a) D σ H:=dP h c.cl (c.at 3 rfl) (by show 3<1000;decide) ((eI (ks:=["kind","place","end"]) v3 rfl (by decide +kernel)).trans rfl) k
theorem uH(h:H a=some (.ins C dx (nW v0 v1 v2 v3 v4)))(c:bg K C ["kind","place","end","row","value"])(k:Q v4 H):eJ K "value" (.ref a) H Q:=eM h c.cl (c.at 4 rfl) (ef (ks:=["kind","place","end","row","value"]) 4 rfl rfl (by decide +kernel)) k
theorem Vg(h:H a=some (.ins C dx [("kind",v0),("place",v1),("end",v2),("row",v3)]))(c:bg K C ["kind","place","end","row","value"])(k:D.nx σ (upd H a (.ins C dx [("kind",v0),("place",v1),("end",v2),("row",v3),("value",v4)]))):cC K "value" v4 (.ref a) D σ H:=dP h c.cl (c.at 4 rfl) (by show 4<1000;decide) ((eI (ks:=["kind","place","end","row"]) v4 rfl (by decide +kernel)).trans rfl) k
end
def cx(v0 v1 v2 v3:V):List (Str×V):=[("text",v0),("system",v1),("place",v2),("token",v3)]
section
variable{K:PySem.W.Frag}{C a dx:Addr}{H:Hp}{Q:VK}{D:Ends}{σ:L2.St}{v0 v1 v2 v3 y:V}
theorem Vh(h:H a=some (.ins C dx (cx v0 v1 v2 v3)))(c:bg K C ["text","system","place","token"])(k:Q v0 H):eJ K "text" (.ref a) H Q:=eM h c.cl (c.at 0 rfl) (ef (ks:=["text","system","place","token"]) 0 rfl rfl (by decide +kernel)) k
theorem Vi(h:H a=some (.ins C dx []))(c:bg K C ["text","system","place","token"])(k:D.nx σ (upd H a (.ins C dx [("text",v0)]))):cC K "text" v0 (.ref a) D σ H:=dP h c.cl (c.at 0 rfl) (by show 0<1000;decide) ((eI (ks:=[]) v0 rfl (by decide +kernel)).trans rfl) k
theorem mj(h:H a=some (.ins C dx (cx v0 v1 v2 v3)))(c:bg K C ["text","system","place","token"])(k:Q v1 H):eJ K "system" (.ref a) H Q:=eM h c.cl (c.at 1 rfl) (ef (ks:=["text","system","place","token"]) 1 rfl rfl (by decide +kernel)) k
theorem Vj(h:H a=some (.ins C dx [("text",v0)]))(c:bg K C ["text","system","place","token"])(k:D.nx σ (upd H a (.ins C dx [("text",v0),("system",v1)]))):cC K "system" v1 (.ref a) D σ H:=dP h c.cl (c.at 1 rfl) (by show 1<1000;decide) ((eI (ks:=["text"]) v1 rfl (by decide +kernel)).trans rfl) k
theorem Vk(h:H a=some (.ins C dx (cx v0 v1 v2 v3)))(c:bg K C ["text","system","place","token"])(k:Q v2 H):eJ K "place" (.ref a) H Q:=eM h c.cl (c.at 2 rfl) (ef (ks:=["text","system","place","token"]) 2 rfl rfl (by decide +kernel)) k
theorem Vl(h:H a=some (.ins C dx (cx v0 v1 v2 v3)))(c:bg K C ["text","system","place","token"])(k:D.nx σ (upd H a (.ins C dx (cx v0 v1 y v3)))):cC K "place" y (.ref a) D σ H:=dP h c.cl (c.at 2 rfl) (by show 4<1000;decide) ((jB (ks:=["text","system","place","token"]) y 2 rfl rfl (by decide +kernel)).trans rfl) k
theorem Vm(h:H a=some (.ins C dx [("text",v0),("system",v1)]))(c:bg K C ["text","system","place","token"])(k:D.nx σ (upd H a (.ins C dx [("text",v0),("system",v1),("place",v2)]))):cC K "place" v2 (.ref a) D σ H:=dP h c.cl (c.at 2 rfl) (by show 2<1000;decide) ((eI (ks:=["text","system"]) v2 rfl (by decide +kernel)).trans rfl) k
theorem CL(h:H a=some (.ins C dx (cx v0 v1 v2 v3)))(c:bg K C ["text","system","place","token"])(k:Q v3 H):eJ K "token" (.ref a) H Q:=eM h c.cl (c.at 3 rfl) (ef (ks:=["text","system","place","token"]) 3 rfl rfl (by decide +kernel)) k
theorem Kh(h:H a=some (.ins C dx (cx v0 v1 v2 v3)))(c:bg K C ["text","system","place","token"])(k:D.nx σ (upd H a (.ins C dx (cx v0 v1 v2 y)))):cC K "token" y (.ref a) D σ H:=dP h c.cl (c.at 3 rfl) (by show 4<1000;decide) ((jB (ks:=["text","system","place","token"]) y 3 rfl rfl (by decide +kernel)).trans rfl) k
theorem Vn(h:H a=some (.ins C dx [("text",v0),("system",v1),("place",v2)]))(c:bg K C ["text","system","place","token"])(k:D.nx σ (upd H a (.ins C dx [("text",v0),("system",v1),("place",v2),("token",v3)]))):cC K "token" v3 (.ref a) D σ H:=dP h c.cl (c.at 3 rfl) (by show 3<1000;decide) ((eI (ks:=["text","system","place"]) v3 rfl (by decide +kernel)).trans rfl) k
end
theorem pw(v0 v1 v2 v3:V):(cx v0 v1 v2 v3).lookup ("ahead":Str)=none:=eu (ks:=["text","system","place","token"]) rfl (by decide +kernel)
theorem Ki(v0 v1 v2 v3:V):(cx v0 v1 v2 v3).lookup ("ahead_among":Str)=none:=eu (ks:=["text","system","place","token"]) rfl (by decide +kernel)
theorem xN(v0 v1 v2 v3:V):(cx v0 v1 v2 v3).lookup ("take_among":Str)=none:=eu (ks:=["text","system","place","token"]) rfl (by decide +kernel)
theorem ib(v0 v1 v2 v3:V):(cx v0 v1 v2 v3).lookup ("take":Str)=none:=eu (ks:=["text","system","place","token"]) rfl (by decide +kernel)
theorem Kj(v0 v1 v2 v3:V):(cx v0 v1 v2 v3).lookup ("take_new_name":Str)=none:=eu (ks:=["text","system","place","token"]) rfl (by decide +kernel)
theorem Kk(v0 v1 v2 v3:V):(cx v0 v1 v2 v3).lookup ("take_glass_number":Str)=none:=eu (ks:=["text","system","place","token"]) rfl (by decide +kernel)
theorem uI(v0 v1 v2 v3:V):(cx v0 v1 v2 v3).lookup ("take_number":Str)=none:=eu (ks:=["text","system","place","token"]) rfl (by decide +kernel)
theorem Kl(v0 v1 v2 v3:V):(cx v0 v1 v2 v3).lookup ("take_value":Str)=none:=eu (ks:=["text","system","place","token"]) rfl (by decide +kernel)
theorem CM(v0 v1 v2 v3:V):(cx v0 v1 v2 v3).lookup ("judge":Str)=none:=eu (ks:=["text","system","place","token"]) rfl (by decide +kernel)
theorem Km(v0 v1 v2 v3:V):(cx v0 v1 v2 v3).lookup ("read_glass":Str)=none:=eu (ks:=["text","system","place","token"]) rfl (by decide +kernel)
theorem Vo(v0 v1 v2 v3:V):(cx v0 v1 v2 v3).lookup ("read_glasses":Str)=none:=eu (ks:=["text","system","place","token"]) rfl (by decide +kernel)
theorem Vp(v0 v1 v2 v3:V):(cx v0 v1 v2 v3).lookup ("read_start":Str)=none:=eu (ks:=["text","system","place","token"]) rfl (by decide +kernel)
theorem Vq(v0 v1 v2 v3:V):(cx v0 v1 v2 v3).lookup ("take_curve":Str)=none:=eu (ks:=["text","system","place","token"]) rfl (by decide +kernel)
theorem Vr(v0 v1 v2 v3:V):(cx v0 v1 v2 v3).lookup ("take_conic":Str)=none:=eu (ks:=["text","system","place","token"]) rfl (by decide +kernel)
theorem Vs(v0 v1 v2 v3:V):(cx v0 v1 v2 v3).lookup ("take_reach":Str)=none:=eu (ks:=["text","system","place","token"]) rfl (by decide +kernel)
theorem Kn(v0 v1 v2 v3:V):(cx v0 v1 v2 v3).lookup ("take_thing":Str)=none:=eu (ks:=["text","system","place","token"]) rfl (by decide +kernel)
theorem Vt(v0 v1 v2 v3:V):(cx v0 v1 v2 v3).lookup ("read_things":Str)=none:=eu (ks:=["text","system","place","token"]) rfl (by decide +kernel)
def jg(v0:V):List (Str×V):=[("row",v0)]
section
variable{K:PySem.W.Frag}{C a dx:Addr}{H:Hp}{Q:VK}{D:Ends}{σ:L2.St}{v0 y:V}
theorem uJ(h:H a=some (.ins C dx (jg v0)))(c:bg K C ["row"])(k:Q v0 H):eJ K "row" (.ref a) H Q:=eM h c.cl (c.at 0 rfl) (ef (ks:=["row"]) 0 rfl rfl (by decide +kernel)) k
theorem Vu(h:H a=some (.ins C dx []))(c:bg K C ["row"])(k:D.nx σ (upd H a (.ins C dx [("row",v0)]))):cC K "row" v0 (.ref a) D σ H:=dP h c.cl (c.at 0 rfl) (by show 0<1000;decide) ((eI (ks:=[]) v0 rfl (by decide +kernel)).trans rfl) k
end
theorem xO(v0:V):(jg v0).lookup ("put_name":Str)=none:=eu (ks:=["row"]) rfl (by decide +kernel)
theorem iE(v0:V):(jg v0).lookup ("put":Str)=none:=eu (ks:=["row"]) rfl (by decide +kernel)
theorem CN(v0:V):(jg v0).lookup ("put_rational":Str)=none:=eu (ks:=["row"]) rfl (by decide +kernel)
theorem Vv(v0:V):(jg v0).lookup ("put_glass":Str)=none:=eu (ks:=["row"]) rfl (by decide +kernel)
theorem CO(v0:V):(jg v0).lookup ("put_unless_zero":Str)=none:=eu (ks:=["row"]) rfl (by decide +kernel)
theorem Vw(v0:V):(jg v0).lookup ("put_shape":Str)=none:=eu (ks:=["row"]) rfl (by decide +kernel)
theorem Vx(v0:V):(jg v0).lookup ("put_thing":Str)=none:=eu (ks:=["row"]) rfl (by decide +kernel)
def fw(v0:V):List (Str×V):=[("system",v0)]
section
variable{K:PySem.W.Frag}{C a dx:Addr}{H:Hp}{Q:VK}{D:Ends}{σ:L2.St}{v0 y:V}
theorem rj(h:H a=some (.ins C dx (fw v0)))(c:bg K C ["system"])(k:Q v0 H):eJ K "system" (.ref a) H Q:=eM h c.cl (c.at 0 rfl) (ef (ks:=["system"]) 0 rfl rfl (by decide +kernel)) k
theorem Ko(h:H a=some (.ins C dx (fw v0)))(c:bg K C ["system"])(k:D.nx σ (upd H a (.ins C dx (fw y)))):cC K "system" y (.ref a) D σ H:=dP h c.cl (c.at 0 rfl) (by show 1<1000;decide) ((jB (ks:=["system"]) y 0 rfl rfl (by decide +kernel)).trans rfl) k
theorem Vy(h:H a=some (.ins C dx []))(c:bg K C ["system"])(k:D.nx σ (upd H a (.ins C dx [("system",v0)]))):cC K "system" v0 (.ref a) D σ H:=dP h c.cl (c.at 0 rfl) (by show 0<1000;decide) ((eI (ks:=[]) v0 rfl (by decide +kernel)).trans rfl) k
end
def gY(v0 v1:V):List (Str×V):=[("numbers",v0),("place",v1)]
section
variable{K:PySem.W.Frag}{C a dx:Addr}{H:Hp}{Q:VK}{D:Ends}{σ:L2.St}{v0 v1 y:V}
theorem CP(h:H a=some (.ins C dx (gY v0 v1)))(c:bg K C ["numbers","place"])(k:Q v0 H):eJ K "numbers" (.ref a) H Q:=eM h c.cl (c.at 0 rfl) (ef (ks:=["numbers","place"]) 0 rfl rfl (by decide +kernel)) k
theorem Vz(h:H a=some (.ins C dx []))(c:bg K C ["numbers","place"])(k:D.nx σ (upd H a (.ins C dx [("numbers",v0)]))):cC K "numbers" v0 (.ref a) D σ H:=dP h c.cl (c.at 0 rfl) (by show 0<1000;decide) ((eI (ks:=[]) v0 rfl (by decide +kernel)).trans rfl) k
theorem xP(h:H a=some (.ins C dx (gY v0 v1)))(c:bg K C ["numbers","place"])(k:Q v1 H):eJ K "place" (.ref a) H Q:=eM h c.cl (c.at 1 rfl) (ef (ks:=["numbers","place"]) 1 rfl rfl (by decide +kernel)) k
theorem VA(h:H a=some (.ins C dx [("numbers",v0)]))(c:bg K C ["numbers","place"])(k:D.nx σ (upd H a (.ins C dx [("numbers",v0),("place",v1)]))):cC K "place" v1 (.ref a) D σ H:=dP h c.cl (c.at 1 rfl) (by show 1<1000;decide) ((eI (ks:=["numbers"]) v1 rfl (by decide +kernel)).trans rfl) k
end
theorem VB(v0 v1:V):(gY v0 v1).lookup ("at_end":Str)=none:=eu (ks:=["numbers","place"]) rfl (by decide +kernel)
theorem Kp(v0 v1:V):(gY v0 v1).lookup ("next_number":Str)=none:=eu (ks:=["numbers","place"]) rfl (by decide +kernel)
theorem Kq(v0 v1:V):(gY v0 v1).lookup ("next_numbers":Str)=none:=eu (ks:=["numbers","place"]) rfl (by decide +kernel)
theorem VC(v0 v1:V):(gY v0 v1).lookup ("next_row":Str)=none:=eu (ks:=["numbers","place"]) rfl (by decide +kernel)
structure Ad where
 (eN eE aQ bf bG aj aS cj bE bz mm px nX rk rm:Addr)
structure Txt(K:PySem.W.Frag)(mg:Str→Option Value)(A:Ad):Prop where
 CQ:bB mg "NO_TOKEN" (.int 1)
 VD:bB mg "CANT_STAND" (.int 2)
 VE:bB mg "NAME_TAKEN" (.int 3)
 VF:bB mg "NO_GLASS" (.int 4)
 Kr:bB mg "TOO_MANY" (.int 5)
 Ks:bB mg "BAD_NUMBER" (.int 6)
 gq:bB mg "ZERO" (.ref A.bz)
 VG:∀H:Hp,aY K H A.bz [.int 0,.int 1]
 Kt:bB mg "TOO_LONG_FROM" (.int 1000000000000000000)
 VH:bB mg "MOST_GLASSES" (.int 16)
 VI:bB mg "MOST_THINGS" (.int 16)
 CS:bB mg "KIND_WORDS" (.ref A.mm)
 CT:∀H:Hp,aY K H A.mm [.str "surface",.str "mirror",.str "stop"]
 xQ:bB mg "SURFACE" (.int 0)
 VJ:bB mg "MIRROR" (.int 1)
 CU:bB mg "STOP" (.int 2)
 WORDS:bB mg "WORDS" (.ref A.px)
 Ku:∀H:Hp,aY K H A.px [.str "after",.str "clear",.str "conic",.str "curve",.str "flat",.str "glass",.str "into",.str "mirror",.str "radius",.str "start",.str "stop",.str "surface"]
 VL:bB mg "MARKS" (.ref A.nX)
 VM:∀H:Hp,aY K H A.nX [.str ":",.str ",",.str ";",.str "/",.str "-"]
 VN:bB mg "LONGEST_NAME" (.int 32)
 VO:bB mg "MOST_DIGITS" (.int 18)
 CV:bB mg "NAME_tokens" (.str "name")
 CW:bB mg "WHOLE" (.str "whole")
 CY:bB mg "POINTED" (.str "pointed")
 CZ:bB mg "END" (.str "end")
 Kv:bB mg "LINE_FEED" (.int 10)
 VP:bB mg "BLANKS" (.ref A.rk)
 VQ:∀H:Hp,aY K H A.rk [.int 32,.int 9,.int 10,.int 13]
 Kw:bB mg "HASH" (.int 35)
 C0:bB mg "POINT" (.int 46)
 VR:bB mg "DIGIT_ZERO" (.int 48)
 VS:bB mg "UNDERSCORE" (.int 95)
 VT:bB mg "NO_BYTE" (.int (-1))
 ly:bB mg "OUT_OF_BOUNDS" (.int (-1))
 VU:bB mg "NO_SYSTEM" (.int (-2))
 VV:bB mg "NOT_FOUND" (.int (-4))
 VW:bB mg "CANT_BE" (.int (-5))
 C1:bB mg "TOO_LONG" (.int (-6))
 Kx:bB mg "FAULTY" (.int (-7))
 Ky:bB mg "MOST_BYTES" (.int 16384)
 Kz:bB mg "FORWARD" (.int 1)
 KA:bB mg "GAP" (.int 0)
 VX:bB mg "CURVE" (.int 1)
 VY:bB mg "CONIC" (.int 2)
 KC:bB mg "CLEAR" (.int 3)
 KD:bB mg "BLANK" (.int 32)
 KG:bB mg "READ" (.int 0)
 VZ:bB mg "FORGET" (.int 1)
 V0:bB mg "PRINT" (.int 2)
 V1:bB mg "COUNT" (.int 3)
 V2:bB mg "NAME_systems" (.int 4)
 KH:bB mg "FIND" (.int 5)
 V3:bB mg "LOOK" (.int 6)
 V4:bB mg "INDEX" (.int 7)
 V5:bB mg "THING" (.int 8)
 KI:bB mg "PUT" (.int 9)
 V6:bB mg "DROP" (.int 10)
 V7:bB mg "SET" (.int 11)
 V8:bB mg "SCALE" (.int 12)
 V9:bB mg "WHOLES" (.ref A.rm)
 V_:∀H:Hp,aY K H A.rm [.int 0,.int 0,.int 0,.int 0,.int 2,.int 1,.int 1,.int 1,.int 1,.int 1,.int 1,.int 4,.int 2,.int 0]
 GLASSES:bB mg "GLASSES" (.int 0)
 Wa:bB mg "THINGS" (.int 1)
 eE:bg K A.eE ["name","indices"]
 aQ:bg K A.aQ ["kind","name","gap","glass","curve","conic","reach"]
 bf:bg K A.bf ["glasses","first","things"]
 bG:bg K A.bG ["kind","place","end","row","value"]
 aj:bg K A.aj ["text","system","place","token"]
 aS:bg K A.aS ["row"]
 cj:bg K A.cj ["system"]
 bE:bg K A.bE ["numbers","place"]
 Wb:∃o,K.lookup A.mm=some o∧o.cls=.type "tuple"∧o.dict=none
 fO:mg "len"=none
 C2:mg "abs"=none
 KJ:mg "ord"=none
 KL:mg "str"=none
 KN:mg "any"=none
 Wc:mg "list"=none
 Wd:mg "reversed"=none
 We:mg "enumerate"=none
 xR:mg "zip"=none
theorem C3:bootBuiltins "abs"=some (.builtin "abs"):=by decide +kernel
theorem KO:bootBuiltins "ord"=some (.builtin "ord"):=by decide +kernel
theorem KP:bootBuiltins "any"=some (.builtin "any"):=by decide +kernel
theorem KQ:bootBuiltins "str"=some (.type "str"):=by decide +kernel
end LN
namespace LN
open PySem PySem.Spec PyProof.Rows L2 LX
def kP(K:PySem.W.Frag)(H:Hp)(a:Addr)(xs:List V):Prop:=(∃o,H a=some (.fE o (.lst xs)))∨
  ∃(o:Obj) (aq:Array Value) (n:Nat),K.lookup a=some o∧o.cls=.type "list"∧o.dict=none∧o.data=.seq aq n∧aq.size≤sizeLine∧Vals xs aq.toList
section
variable{K:PySem.W.Frag}{h:Heap}{mg:Str→Option Value}{x m qual:Str}{st:Stmt}{C f:Addr}{ps:List Str}{oc:Value}{od an:Option Addr}{gE:Array (Option Value)}{kV doc pm ay ct:Value}
theorem ad4(X:K.In h)(G:h.Ns mainGlobals mg)(a:PySem.W.nsIn K mainGlobals x=some (some (.ref f)))(l:K.lookup f=some ⟨oc,od,.func (PySem.W.fnOf x x (jc st) (gU st) (aE st) .none kV doc pm an ay ct),gE⟩)(c:PySem.W.codeIn K ay x=true)(k:PySem.W.keepIn K (.ref f)=true)(b:∀(kV doc pm:Value) (an:Option Addr) (ay ct:Value) (us:List Value),us.length=ps.length→bindArgs (PySem.W.fnOf x x (jc st) (gU st) (aE st) .none kV doc pm an ay ct) ⟨us,[]⟩=pure (ps.zip us)):aI K mg x st ps:=⟨f,_,nv l c k,(nv l c k).binds b,PySem.W.mg_of X G a⟩
theorem ad5(a:PySem.W.findIn K (.ref C) m=some (some (.ref f)))(i:PySem.W.isFn K (.ref f)=true)(l:K.lookup f=some ⟨oc,od,.func (PySem.W.fnOf m qual (jc st) (gU st) (aE st) .none kV doc pm an ay ct),gE⟩)(c:PySem.W.codeIn K ay qual=true)(k:PySem.W.keepIn K (.ref f)=true)(b:∀(kV doc pm:Value) (an:Option Addr) (ay ct:Value) (us:List Value),us.length=ps.length→bindArgs (PySem.W.fnOf m qual (jc st) (gU st) (aE st) .none kV doc pm an ay ct) ⟨us,[]⟩=pure (ps.zip us)):bx K C m qual st ps:=⟨f,_,nv l c k,(nv l c k).binds b,⟨a,i,k⟩⟩
theorem ad6(X:K.In h)(G:h.Ns mainGlobals mg)(aC:PySem.W.nsIn K mainGlobals x=some (some (.ref C)))(mk:PySem.W.makesIn K C=true)(a:PySem.W.findIn K (.ref C) "__init__"=some (some (.ref f)))(i:PySem.W.isFn K (.ref f)=true)(kc:PySem.W.keepIn K (.ref C)=true)(l:K.lookup f=some ⟨oc,od,.func (PySem.W.fnOf "__init__" qual (jc st) (gU st) (aE st) .none kV doc pm an ay ct),gE⟩)(c:PySem.W.codeIn K ay qual=true)(k:PySem.W.keepIn K (.ref f)=true)(b:∀(kV doc pm:Value) (an:Option Addr) (ay ct:Value) (us:List Value),us.length=ps.length→bindArgs (PySem.W.fnOf "__init__" qual (jc st) (gU st) (aE st) .none kV doc pm an ay ct) ⟨us,[]⟩=pure (ps.zip us)):gn K mg C x qual st ps:=⟨f,_,nv l c k,(nv l c k).binds b,⟨mk,a,i,kc⟩,PySem.W.mg_of X G aC⟩
end
theorem aa8:typeLookup (.type "Exception") "fault"=pure none:=by rw[typeLookup_type,builtinLookup_eq_fast];kernel_rfl
theorem aa9:typeLookup (.type "Exception") "place"=pure none:=by rw[typeLookup_type,builtinLookup_eq_fast];kernel_rfl
def aba(K:PySem.W.Frag):Sp:=aU (λ(d:Addr×List Int)=>[.ref d.1]) λd H Q _=>kP K H d.1 (d.2.map V.int)∧PyWrlnsb.answers_asked d.2=true∧∀U p,U p=some (.lst ((PyWrlnsb.answers d.2).map V.int))→Q (.ref p) U
theorem afn{K:PySem.W.Frag}{h:Heap}{mg:Str→Option Value}{C fF nF:Addr}{od1 an1 ddF:Option Addr}{sl1:Array (Option Value)}{kV1 dc1 pm1 NS ct1:Value}{nmF qF:Str}{bsF abc:List Value}{snF:List Str}{abF:Bool}{abd:Option Bool}{k0F k1F k2F k3F k5F:Option Value}(X:K.In h)(G:h.Ns mainGlobals mg)(aF:PySem.W.nsIn K mainGlobals "Fault"=some (some (.ref C)))(lkF:K.lookup C=some (excClassObj nmF qF C nF bsF uh true snF abc abF abd ddF k0F k1F k2F k3F k5F "Exception.__new__"))(iF:PySem.W.nsIn K nF "__init__"=some (some (.ref fF)))(fh:PySem.W.nsOkIn K nF=true)(n1:PySem.W.nsIn K nF "__setattr__"=some none)(n2:PySem.W.nsIn K nF "__getattribute__"=some none)(n3:PySem.W.nsIn K nF "__getattr__"=some none)(n4:PySem.W.nsIn K nF "fault"=some none)(n5:PySem.W.nsIn K nF "place"=some none)(lF:K.lookup fF=some ⟨.type "function",od1,.func (PySem.W.fnOf "__init__" "Fault.__init__" (jc rg) (gU rg) (aE rg) .none kV1 dc1 pm1 an1 NS ct1),sl1⟩)(cdF:PySem.W.codeIn K NS "Fault.__init__"=true)(kF:PySem.W.keepIn K (.ref fF)=true)(kcF:PySem.W.keepIn K (.ref C)=true):
  ∃fF fd,jw K "__init__" "Fault.__init__" rg fF fd∧ki K C fF ["fault","place"]∧mg "Fault"=some (.ref C)∧Binds K fd ["self","fault","place"] []:=
 have FF:=nv (st:=rg) lF cdF kF
 ⟨fF,_,FF,⟨⟨_,_,_,_,_,_,_,_,_,_,_,_,_,_,⟨lkF,fh,iF,n1,n2,n3,by simp only[List.mem_cons,List.mem_nil_iff,or_false,forall_eq_or_imp,forall_eq];exact⟨n4,n5⟩⟩⟩,⟨_,lF,rfl⟩,kcF,by simp only[List.mem_cons,List.mem_nil_iff,or_false,forall_eq_or_imp,forall_eq];exact⟨aa8,aa9⟩⟩,PySem.W.mg_of X G aF,FF.binds (λ_ _ _ _ _ _ us hl=>match us,hl with|[_,_,_],_=>rfl)⟩
theorem afo{K:PySem.W.Frag}{h:Heap}{mg:Str→Option Value}{fA:Addr}{od an:Option Addr}{sl:Array (Option Value)}{oc kV dc pm cd ct:Value}(X:K.In h)(G:h.Ns mainGlobals mg)(aA:PySem.W.nsIn K mainGlobals "answers"=some (some (.ref fA)))(lA:K.lookup fA=some ⟨oc,od,.func (PySem.W.fnOf "answers" "answers" (jc mh) (gU mh) (aE mh) .none kV dc pm an cd ct),sl⟩)(cdA:PySem.W.codeIn K cd "answers"=true)(kA:PySem.W.keepIn K (.ref fA)=true):
  ∃f fd,jw K "answers" "answers" mh f fd∧(∀(s:Shared) (us:List Value),us.length=(["calls"]:List Str).length→BindsTo s fd ⟨us,[]⟩ ((["calls"]:List Str).zip us))∧mg "answers"=some (.ref f):=
 ⟨fA,PySem.W.fnOf "answers" "answers" (jc mh) (gU mh) (aE mh) .none kV dc pm an cd ct,nv (st:=mh) lA cdA kA,λs us hu=>match us,hu with|[_],_=>.of_eq rfl,PySem.W.mg_of X G aA⟩
structure Facts(K:PySem.W.Frag)(mg:Str→Option Value)(eN eE aQ bf bG aj aS cj bE bz mm px nX rk rm:Addr):Prop where
 T:Txt K mg ⟨eN,eE,aQ,bf,bG,aj,aS,cj,bE,bz,mm,px,nX,rk,rm⟩
 vE:∃fF fd,jw K "__init__" "Fault.__init__" rg fF fd∧ki K eN fF ["fault","place"]∧mg "Fault"=some (.ref eN)∧Binds K fd ["self","fault","place"] []
 ans:∃f fd,jw K "answers" "answers" mh f fd∧(∀(s:Shared) (us:List Value),us.length=(["calls"]:List Str).length→BindsTo s fd ⟨us,[]⟩ ((["calls"]:List Str).zip us))∧mg "answers"=some (.ref f)
 ac9:aI K mg "common_divisor" AX ["a","b"]
 ael:aI K mg "quotient" AY ["upper","lower"]
 negative:aI K mg "negative" AZ ["rational"]
 inverse:aI K mg "inverse" A0 ["rational"]
 plus:aI K mg "plus" A1 ["one","other"]
 times:aI K mg "times" A2 ["one","other"]
 aem:aI K mg "is_too_long" A3 ["rational"]
 Token:gn K mg bG "Token" "Token.__init__" A8 ["self","kind","place","end","row","value"]
 spelled:aI K mg "spelled" xA ["text"]
 byte_at:aI K mg "byte_at" A9 ["text","place"]
 aen:aI K mg "is_digit" A_ ["byte"]
 aeo:aI K mg "begins_name" Ba ["byte"]
 aep:aI K mg "continues_name" Bb ["byte"]
 aeq:aI K mg "comment_end" Bc ["text","place"]
 aer:aI K mg "blanks_end" Bd ["text","place"]
 aes:aI K mg "name_end" Be ["text","place"]
 aet:aI K mg "digits_end" Bf ["text","place"]
 aeu:aI K mg "name_token" Bg ["text","place"]
 aev:aI K mg "value_of_digits" Bh ["row"]
 aew:aI K mg "number_token" Bi ["text","place"]
 aex:aI K mg "mark_token" Bj ["text","place"]
 aey:aI K mg "token_from" Bk ["text","place"]
 aez:aI K mg "place_of_name" A7 ["named","name"]
 Reader:gn K mg aj "Reader" "Reader.__init__" Bm ["self","text","system"]
 aeA:bx K aj "ahead" "Reader.ahead" Bn ["self"]
 aeB:bx K aj "ahead_among" "Reader.ahead_among" Bo ["self","kinds"]
 aeC:bx K aj "take_among" "Reader.take_among" Bp ["self","kinds"]
 aeD:bx K aj "take" "Reader.take" Bq ["self","kind"]
 aeE:bx K aj "judge" "Reader.judge" Bv ["self","stands","kinds"]
 aeF:bx K aj "take_number" "Reader.take_number" Bt ["self"]
 aeG:bx K aj "take_value" "Reader.take_value" Bu ["self"]
 aeH:bx K aj "take_conic" "Reader.take_conic" BA ["self"]
 aeI:bx K aj "take_reach" "Reader.take_reach" BB ["self"]
 aeJ:bx K aj "take_curve" "Reader.take_curve" Bz ["self"]
 Glass:gn K mg eE "Glass" "Glass.__init__" A4 ["self","name","indices"]
 Element:gn K mg aQ "Element" "Element.__init__" A5 ["self","kind","name"]
 System:gn K mg bf "System" "System.__init__" A6 ["self"]
 aeK:bx K aj "take_new_name" "Reader.take_new_name" Br ["self","named"]
 aeL:bx K aj "take_glass_number" "Reader.take_glass_number" Bs ["self"]
 aeM:bx K aj "read_glass" "Reader.read_glass" Bw ["self"]
 aeN:bx K aj "read_glasses" "Reader.read_glasses" Bx ["self"]
 aeO:bx K aj "read_start" "Reader.read_start" By ["self"]
 aeP:bx K aj "take_thing" "Reader.take_thing" BC ["self"]
 aeQ:bx K aj "read_things" "Reader.read_things" BD ["self"]
 aeR:aI K mg "system_of" BE ["text"]
 aeS:aI K mg "thing_of" BF ["text","system"]
 aeT:aI K mg "media_of" BG ["system"]
 aeU:aI K mg "ways_of" BH ["things"]
 along:aI K mg "along" BI ["rational","way"]
 aeV:aI K mg "place_of" BJ ["things","number"]
 aeW:aI K mg "indices_beside" xB ["system","number"]
 aeX:aI K mg "can_be" BM ["kind","what","value"]
 give:aI K mg "give" BN ["thing","what","value"]
 aeY:aI K mg "set_number" BO ["system","number","what","upper","lower"]
 drop:aI K mg "drop" BL ["system","number"]
 scaled:aI K mg "scaled" BP ["thing","factor"]
 aeZ:aI K mg "has_too_long" xC ["values"]
 scale:aI K mg "scale" uB ["system","upper","lower"]
 put:aI K mg "put" BK ["system","number","text"]
 ae0:aI K mg "turn_round" xD ["system"]
 Form:gn K mg aS "Form" "Form.__init__" BQ ["self"]
 ae1:bx K aS "put_name" "Form.put_name" BR ["self","name"]
 ae2:bx K aS "put" "Form.put" BS ["self","text"]
 ae3:bx K aS "put_rational" "Form.put_rational" BU ["self","rational"]
 ae4:bx K aS "put_unless_zero" "Form.put_unless_zero" BW ["self","word","value"]
 ae5:bx K aS "put_shape" "Form.put_shape" BX ["self","thing"]
 ae6:bx K aS "put_glass" "Form.put_glass" BV ["self","glass"]
 ae7:bx K aS "put_thing" "Form.put_thing" BY ["self","thing","glasses"]
 ae8:aI K mg "one_form" BZ ["system"]
 ae9:aI K mg "bytes_told" B8 ["row"]
 count:aI K mg "count" B9 ["system"]
 afa:aI K mg "named_of_sort" B_ ["system","sort"]
 afb:aI K mg "name_told" Ca ["system","sort","number"]
 find:aI K mg "find" Cb ["system","sort","name"]
 afc:aI K mg "fractions_told" Cc ["values"]
 look:aI K mg "look" Cd ["system","number"]
 afd:aI K mg "index_told" Ce ["system","number"]
 afe:aI K mg "thing_told" Cf ["system","number"]
 Kept:gn K mg cj "Kept" "Kept.__init__" B0 ["self"]
 Calls:gn K mg bE "Calls" "Calls.__init__" B1 ["self","numbers"]
 aff:bx K bE "at_end" "Calls.at_end" B2 ["self"]
 afg:bx K bE "next_number" "Calls.next_number" B3 ["self"]
 afh:bx K bE "next_numbers" "Calls.next_numbers" B4 ["self","many"]
 afi:bx K bE "next_row" "Calls.next_row" B5 ["self"]
 afj:aI K mg "has_row" Cj ["call"]
 asked:aI K mg "asked" Cg ["system","call","wholes","row"]
 afk:aI K mg "edited" Ci ["system","call","wholes","row"]
 forget:aI K mg "forget" B7 ["kept"]
 read:aI K mg "read" B6 ["kept","text"]
 afl:aI K mg "next_answer" Ck ["kept","calls"]
def Goal(P:Program)(w:World)(K:PySem.W.Frag)(mg:Str→Option Value)(fa:Addr):Prop:=∃fd:FuncData,(∀(s:Shared) (us:List Value),us.length=(["calls"]:List Str).length→BindsTo s fd ⟨us,[]⟩ ((["calls"]:List Str).zip us))∧∀base:Heap,K.In base→base.Ns mainGlobals mg→fH P w K mg base ao 18 fa fd ["calls"] (aba K)
theorem afp{P:Program}{w:World}{K:PySem.W.Frag}{mg:Str→Option Value}{fa eN eE aQ bf bG aj aS cj bE bz mm px nX rk rm:Addr}(hF:∀(P:Program) (w:World) (K:PySem.W.Frag) (mg:Str→Option Value) (fa eN eE aQ bf bG aj aS cj bE bz mm px nX rk rm:Addr),Facts K mg eN eE aQ bf bG aj aS cj bE bz mm px nX rk rm→mg "answers"=some (.ref fa)→Goal P w K mg fa)(hfa:mg "answers"=some (.ref fa))(abb:PySem.W.nsIn K mainGlobals "Fault"=some (some (.ref eN)))(ad7:PySem.W.nsIn K mainGlobals "Glass"=some (some (.ref eE)))(ad8:PySem.W.nsIn K mainGlobals "Element"=some (some (.ref aQ)))(ad9:PySem.W.nsIn K mainGlobals "System"=some (some (.ref bf)))(aea:PySem.W.nsIn K mainGlobals "Token"=some (some (.ref bG)))(aeb:PySem.W.nsIn K mainGlobals "Reader"=some (some (.ref aj)))(aec:PySem.W.nsIn K mainGlobals "Form"=some (some (.ref aS)))(aed:PySem.W.nsIn K mainGlobals "Kept"=some (some (.ref cj)))(aee:PySem.W.nsIn K mainGlobals "Calls"=some (some (.ref bE)))(aef:PySem.W.nsIn K mainGlobals "ZERO"=some (some (.ref bz)))(aeg:PySem.W.nsIn K mainGlobals "KIND_WORDS"=some (some (.ref mm)))(aeh:PySem.W.nsIn K mainGlobals "WORDS"=some (some (.ref px)))(aei:PySem.W.nsIn K mainGlobals "MARKS"=some (some (.ref nX)))(aej:PySem.W.nsIn K mainGlobals "BLANKS"=some (some (.ref rk)))(aek:PySem.W.nsIn K mainGlobals "WHOLES"=some (some (.ref rm)))(fx:Facts K mg eN eE aQ bf bG aj aS cj bE bz mm px nX rk rm):∃fd:FuncData,(∀(s:Shared) (us:List Value),us.length=(["calls"]:List Str).length→BindsTo s fd ⟨us,[]⟩ ((["calls"]:List Str).zip us))∧∀base:Heap,K.In base→base.Ns mainGlobals mg→fH P w K mg base ao 18 fa fd ["calls"] (aba K):=hF _ _ _ _ _ _ _ _ _ _ _ _ _ _ _ _ _ _ _ _ fx hfa
end LN
namespace LR
open Ln
def runEnd(p:UInt8→Bool)(b:Bytes)(i:Nat):Nat:=i+((b.drop i).takeWhile p).length
theorem wq(p:UInt8→Bool)(b:Bytes){i:Nat}(h:i≤b.length):runEnd p b i≤b.length:=by
 unfold runEnd
 have h1:=(List.takeWhile_sublist (p:=p) (l:=b.drop i)).length_le
 rw[List.length_drop]at h1
 omega
theorem nz(p:UInt8→Bool)(b:Bytes)(i:Nat):i≤runEnd p b i:=Nat.le_add_right _ _
theorem jx{α:Type}{b:List α}{i:Nat}{c:α}(h:b[i]?=some c):b.drop i=c::b.drop (i+1):=by
 obtain⟨hl,e⟩:=List.getElem?_eq_some_iff.mp h
 rw[List.drop_eq_getElem_cons hl,e]
theorem z6{p:UInt8→Bool}{b:Bytes}{i:Nat}{c:UInt8}(h:b[i]?=some c)(hp:p c=true):runEnd p b i=runEnd p b (i+1):=by
 unfold runEnd
 rw[jx h,List.takeWhile_cons,if_pos hp,List.length_cons]
 omega
theorem HG{p:UInt8→Bool}{b:Bytes}{i:Nat}{c:UInt8}(h:b[i]?=some c)(hp:p c=false):runEnd p b i=i:=by
 unfold runEnd
 rw[jx h,List.takeWhile_cons,hp]
 rfl
theorem HH{p:UInt8→Bool}{b:Bytes}{i:Nat}(h:b[i]?=none):runEnd p b i=i:=by
 unfold runEnd
 have:=List.getElem?_eq_none_iff.mp h
 rw[List.drop_eq_nil_of_le this]
 rfl
theorem tM(p:UInt8→Bool)(b:Bytes)(i:Nat):(b.drop i).takeWhile p=(b.drop i).take (runEnd p b i-i):=by
 unfold runEnd
 rw[Nat.add_sub_cancel_left]
 generalize b.drop i=l
 induction l with
 |nil=>rfl
 |cons c r ih=>
  rw[List.takeWhile_cons]
  split
  ·rw[List.length_cons,List.take_succ_cons,←ih]
  ·rfl
theorem HI(p:UInt8→Bool)(b:Bytes)(i:Nat):∀c,b[runEnd p b i]?=some c→p c=false:=by
 intro c h
 unfold runEnd at h
 rw[←List.getElem?_drop]at h
 revert h
 generalize b.drop i=l
 induction l with
 |nil=>intro h;simp at h
 |cons d r ih=>
  intro h
  rw[List.takeWhile_cons]at h
  cases hd:p d with
  |true=>rw[hd]at h;simp at h;exact ih (by simpa using h)
  |false=>rw[hd]at h;simp at h;rw[←h];exact hd
def isBlank(c:UInt8):Bool:=c==32||c==9||c==10||c==13
theorem z7:∀(n:Nat) (f g:Nat) (l:Bytes),l.length≤n→l.length<f→l.length<g→blanks f l=blanks g l
 |_,0,_,_,_,h,_=>absurd h (Nat.not_lt_zero _)
 |_,_,0,_,_,_,h=>absurd h (Nat.not_lt_zero _)
 |n,f+1,g+1,[],_,_,_=>rfl
 |0,f+1,g+1,c::r,hn,_,_=>absurd hn (by simp)
 |n+1,f+1,g+1,c::r,hn,h1,h2=>by
  simp only[List.length_cons]at hn h1 h2
  unfold blanks
  dsimp only
  have hd:(r.drop ((r.takeWhile λ(x:UInt8)=>x !=10).length)).length≤r.length:=by rw[List.length_drop];omega
  rw[z7 n f g (r.drop ((r.takeWhile λ(x:UInt8)=>x !=10).length)) (by omega) (by omega) (by omega),z7 n f g r (by omega) (by omega) (by omega)]
def bR(b:Bytes)(i:Nat):Nat:=i+blanks ((b.drop i).length+1) (b.drop i)
theorem PN(b:Bytes)(i:Nat):i≤bR b i:=Nat.le_add_right _ _
theorem wt:∀(f:Nat) (l:Bytes),blanks f l≤l.length
 |0,l=>Nat.zero_le _
 |f+1,[]=>Nat.le_refl _
 |f+1,c::r=>by
  unfold blanks
  dsimp only
  have h1:=wt f r
  have h2:=wt f (r.drop ((r.takeWhile λ(x:UInt8)=>x !=10).length))
  have h3:=(List.takeWhile_sublist (p:=λ(x:UInt8)=>x !=10) (l:=r)).length_le
  rw[List.length_drop]at h2
  rw[List.length_cons]
  split
  ·omega
  ·split<;>omega
theorem z8{b:Bytes}{i:Nat}(h:i≤b.length):bR b i≤b.length:=by
 unfold bR
 have:=wt ((b.drop i).length+1) (b.drop i)
 rw[List.length_drop]at this⊢
 omega
theorem PQ{b:Bytes}{i:Nat}(h:b[i]?=none):bR b i=i:=by
 unfold bR
 rw[List.drop_eq_nil_of_le (List.getElem?_eq_none_iff.mp h)]
 rfl
def lj(b:Bytes)(i:Nat):Nat:=runEnd (λx=>x !=10) b i
theorem PR{b:Bytes}{i:Nat}(h:b[i]?=some 35):bR b i=bR b (lj b i):=by
 have e:=jx h
 have ec:lj b i=i+(1+((b.drop (i+1)).takeWhile λ(x:UInt8)=>x !=10).length):=by
  unfold lj runEnd
  rw[e,List.takeWhile_cons,if_pos (by decide),List.length_cons]
  omega
 have e2:b.drop (lj b i)=(b.drop (i+1)).drop ((b.drop (i+1)).takeWhile λ(x:UInt8)=>x !=10).length:=by
  rw[List.drop_drop,ec]
  congr 1
  omega
 unfold bR
 rw[e]
 conv=>lhs;unfold blanks
 dsimp only
 rw[if_pos rfl,e2,z7 (b.drop (i+1)).length (35::b.drop (i+1)).length ((List.drop ((b.drop (i+1)).takeWhile λ(x:UInt8)=>x !=10).length (b.drop (i+1))).length+1) _ (by rw[List.length_drop];omega) (by rw[List.length_drop,List.length_cons];omega) (by omega),ec]
 omega
theorem PU{b:Bytes}{i:Nat}{c:UInt8}(h:b[i]?=some c)(hc:isBlank c=true):bR b i=bR b (i+1):=by
 have e:=jx h
 have hb:c=32∨c=9∨c=10∨c=13:=by
  unfold isBlank at hc
  simp only[Bool.or_eq_true,beq_iff_eq]at hc
  rcases hc with((h|h)|h)|h
  ·exact .inl h
  ·exact .inr (.inl h)
  ·exact .inr (.inr (.inl h))
  ·exact .inr (.inr (.inr h))
 have tN:¬c=35:=by
  rintro rfl
  revert hc
  decide
 unfold bR
 rw[e]
 conv=>lhs;unfold blanks
 dsimp only
 rw[if_neg tN,if_pos hb,List.length_cons]
 omega
theorem PV{b:Bytes}{i:Nat}{c:UInt8}(h:b[i]?=some c)(tN:¬c=35)(hc:isBlank c=false):bR b i=i:=by
 have e:=jx h
 have hb:¬(c=32∨c=9∨c=10∨c=13):=by
  rintro (rfl|rfl|rfl|rfl)<;>revert hc<;>decide
 unfold bR
 rw[e]
 unfold blanks
 dsimp only
 rw[if_neg tN,if_neg hb]
 rfl
def aL(b:Bytes)(i:Nat):Lex:=⟨bR b i,(tokenIn (b.drop (bR b i))).1⟩
def bp(b:Bytes)(i:Nat):Nat:=bR b i+(tokenIn (b.drop (bR b i))).2
def gG:Ln.Tok→Bool
 |.end_=>true
 |.broken=>true
 |_=>false
theorem PX{b:Bytes}{c:UInt8}{r:Bytes}(e:b=c::r)(hc:isDigit c=true):(gG (numberIn b).1=true)∨(1≤(numberIn b).2∧(numberIn b).2≤b.length):=by
 have h1:1≤(b.takeWhile isDigit).length:=by rw[e,List.takeWhile_cons,if_pos hc,List.length_cons];omega
 have h2:=(List.takeWhile_sublist (p:=isDigit) (l:=b)).length_le
 have h3:=(List.takeWhile_sublist (p:=isDigit) (l:=(b.drop (b.takeWhile isDigit).length).drop 1)).length_le
 unfold numberIn
 cases hp:(b.drop (b.takeWhile isDigit).length).head?==some 46 with
 |false=>
  simp only[hp,Bool.false_eq_true,if_false]
  split
  ·right;exact⟨h1,h2⟩
  ·left;rfl
 |true=>
  have h4:1≤(b.drop (b.takeWhile isDigit).length).length:=by
   cases hd:b.drop (b.takeWhile isDigit).length with
   |nil=>rw[hd]at hp;simp at hp
   |cons x y=>simp
  simp only[hp,if_true]
  split
  ·right
   simp only[List.length_drop]at h3 h4⊢
   omega
  ·left;rfl
theorem z9(b:Bytes):(gG (tokenIn b).1=true)∨(1≤(tokenIn b).2∧(tokenIn b).2≤b.length):=by
 cases b with
 |nil=>left;rfl
 |cons c r=>
  unfold tokenIn
  dsimp only
  split
  ·split
   ·left;rfl
   ·rename_i h1 h2
    have h3:1≤((c::r).takeWhile λ(x:UInt8)=>isLetter x||isDigit x).length:=by
     rw[List.takeWhile_cons,if_pos (by rw[h1];rfl),List.length_cons];omega
    have h4:=(List.takeWhile_sublist (p:=λ(x:UInt8)=>isLetter x||isDigit x) (l:=c::r)).length_le
    split<;>exact .inr ⟨h3,h4⟩
  ·split
   ·rename_i h
    exact PX rfl h
   ·split
    ·right;simp
    ·left;rfl
theorem qH:∀(n f g i:Nat) (l:Bytes),l.length≤n→l.length<f→l.length<g→lexes f i l=lexes g i l
 |_,0,_,_,_,_,h,_=>absurd h (Nat.not_lt_zero _)
 |_,_,0,_,_,_,_,h=>absurd h (Nat.not_lt_zero _)
 |n,f+1,g+1,i,l,hn,h1,h2=>by
  unfold lexes
  dsimp only
  have hl:=z9 (l.drop (blanks (l.length+1) l))
  have hk:=wt (l.length+1) l
  rw[List.length_drop]at hl
  congr 1
  cases ht:(tokenIn (l.drop (blanks (l.length+1) l))).1 with
  |end_=>rfl
  |broken=>rfl
  |word w=>
   rw[ht]at hl
   have hl:=hl.resolve_left (by simp[gG])
   cases n with
   |zero=>omega
   |succ n=>exact qH n f g _ _ (by simp only[List.length_drop];omega) (by simp only[List.length_drop];omega) (by simp only[List.length_drop];omega)
  |name w=>
   rw[ht]at hl
   have hl:=hl.resolve_left (by simp[gG])
   cases n with
   |zero=>omega
   |succ n=>exact qH n f g _ _ (by simp only[List.length_drop];omega) (by simp only[List.length_drop];omega) (by simp only[List.length_drop];omega)
  |num a k p=>
   rw[ht]at hl
   have hl:=hl.resolve_left (by simp[gG])
   cases n with
   |zero=>omega
   |succ n=>exact qH n f g _ _ (by simp only[List.length_drop];omega) (by simp only[List.length_drop];omega) (by simp only[List.length_drop];omega)
  |mark c=>
   rw[ht]at hl
   have hl:=hl.resolve_left (by simp[gG])
   cases n with
   |zero=>omega
   |succ n=>exact qH n f g _ _ (by simp only[List.length_drop];omega) (by simp only[List.length_drop];omega) (by simp only[List.length_drop];omega)
def rest(b:Bytes)(i:Nat):List Lex:=lexes ((b.drop i).length+1) i (b.drop i)
theorem HJ(b:Bytes):tokens b=rest b 0:=by
 unfold tokens rest
 rw[List.drop_zero]
 exact qH b.length _ _ _ _ (Nat.le_refl _) (by omega) (by omega)
theorem rest_eq(b:Bytes)(i:Nat):rest b i=aL b i::(if gG (aL b i).tok=true then[]else rest b (bp b i)):=by
 unfold rest
 conv=>lhs;unfold lexes
 dsimp only
 have hd:(b.drop i).drop (blanks ((b.drop i).length+1) (b.drop i))=b.drop (bR b i):=by
  rw[List.drop_drop];rfl
 rw[hd]
 show(⟨bR b i,(tokenIn (b.drop (bR b i))).1⟩:Lex)::_=aL b i::_
 congr 1
 have go:∀t,(tokenIn (b.drop (bR b i))).1=t→gG t=false→
   lexes (b.drop i).length (i+blanks ((b.drop i).length+1) (b.drop i)+(tokenIn (b.drop (bR b i))).2) ((b.drop (bR b i)).drop (tokenIn (b.drop (bR b i))).2)=
    lexes ((b.drop (bp b i)).length+1) (bp b i) (b.drop (bp b i)):=by
  intro t ht hs
  have hl:=z9 (b.drop (bR b i))
  rw[ht,hs]at hl
  have hl:=hl.resolve_left (by simp)
  have hk:=PN b i
  rw[List.drop_drop]
  show lexes (b.drop i).length (bp b i) (b.drop (bp b i))=_
  simp only[List.length_drop]at hl⊢
  refine qH _ _ _ _ _ (Nat.le_refl _) ?_ ?_
  ·rw[List.length_drop];unfold bp;omega
  ·rw[List.length_drop];omega
 unfold aL
 dsimp only
 cases ht:(tokenIn (b.drop (bR b i))).1 with
 |end_=>rfl
 |broken=>rfl
 |word w=>simp only[gG,Bool.false_eq_true,if_false];exact go _ ht rfl
 |name w=>simp only[gG,Bool.false_eq_true,if_false];exact go _ ht rfl
 |num a k p=>simp only[gG,Bool.false_eq_true,if_false];exact go _ ht rfl
 |mark c=>simp only[gG,Bool.false_eq_true,if_false];exact go _ ht rfl
theorem PY{b:Bytes}{i:Nat}(h:i≤b.length)(hs:gG (aL b i).tok=false):bp b i≤b.length:=by
 have hl:=z9 (b.drop (bR b i))
 rcases hl with hl|hl
 ·rw[show(tokenIn (b.drop (bR b i))).1=(aL b i).tok from rfl,hs]at hl;cases hl
 ·have:=z8 h
  unfold bp
  rw[List.length_drop]at hl
  omega
end LR
namespace LR
open Ln
theorem tO(n:Int){d:Nat}(hd:d≠0):((n:Rat)/(d:Rat)).num=n/((Nat.gcd n.natAbs d:Nat):Int):=by
 rw[←Rat.mkRat_eq_div,Rat.num_mkRat,if_neg hd,Nat.gcd_comm]
theorem wu(n:Int){d:Nat}(hd:d≠0):((n:Rat)/(d:Rat)).den=d/Nat.gcd n.natAbs d:=by
 rw[←Rat.mkRat_eq_div,Rat.den_mkRat,if_neg hd,Nat.gcd_comm]
theorem PZ{a b:Nat}(h:b≠0):Nat.gcd a b=Nat.gcd b (a%b):=by
 rw[Nat.gcd_comm a b,Nat.gcd_rec b a,Nat.gcd_comm]
theorem HK(q:Rat)(h:q≠0):(1/q).num=if q.num<0 then -(q.den:Int)else(q.den:Int):=by
 have hn:q.num≠0:=λe=>h (Rat.num_eq_zero.mp e)
 rw[Rat.div_def,Rat.one_mul,Rat.num_inv]
 split
 ·rename_i hl
  rw[Int.sign_eq_neg_one_of_neg hl];omega
 ·rename_i hl
  rw[Int.sign_eq_one_of_pos (by omega)];omega
theorem z_(q:Rat)(h:q≠0):(((1/q).den:Nat):Int)=if q.num<0 then -q.num else q.num:=by
 have hn:q.num≠0:=λe=>h (Rat.num_eq_zero.mp e)
 rw[Rat.div_def,Rat.one_mul,Rat.den_inv,if_neg hn]
 split<;>omega
theorem P0(q:Rat):(1≤q)↔((q.den:Int)≤q.num):=by
 rw[Rat.le_iff]
 show 1*(q.den:Int)≤q.num*1↔_
 rw[Int.one_mul,Int.mul_one]
def digitsVal(n:Nat)(b:Bytes):Nat:=b.foldl (λ(n:Nat) (c:UInt8)=>10*n+(c.toNat-48)) n
theorem digitsVal_zero(b:Bytes):digitsVal 0 b=natural b:=rfl
theorem HL:∀(b:Bytes) (n k:Nat),(∀c∈b,isDigit c=true)→n<10^k→digitsVal n b<10^(k+b.length)
 |[],n,k,_,h=>by simpa[digitsVal]using h
 |c::r,n,k,hd,h=>by
  have hc:isDigit c=true:=hd c (by simp)
  unfold isDigit at hc
  simp only[Bool.and_eq_true,decide_eq_true_eq]at hc
  have h1:c.toNat≤57:=by have:=UInt8.le_iff_toNat_le.mp hc.2;simpa using this
  have h2:10*n+(c.toNat-48)<10^(k+1):=by rw[Nat.pow_succ];omega
  have h3:=HL r _ (k+1) (λc hc=>hd c (by simp[hc])) h2
  show digitsVal (10*n+(c.toNat-48)) r<_
  rw[List.length_cons,Nat.add_comm r.length 1,←Nat.add_assoc]
  exact h3
def isAt(p:UInt8→Bool)(b:Bytes)(i:Nat):Bool:=(b[i]?).any p
theorem iP{p:UInt8→Bool}{b:Bytes}{i:Nat}{c:UInt8}(h:b[i]?=some c):isAt p b i=p c:=by unfold isAt;rw[h];rfl
theorem tP{p:UInt8→Bool}{b:Bytes}{i:Nat}(h:b[i]?=none):isAt p b i=false:=by unfold isAt;rw[h];rfl
theorem tQ(p:UInt8→Bool)(b:Bytes)(i:Nat):((b.drop i).takeWhile p).length=runEnd p b i-i:=by
 unfold runEnd;omega
def tR(b:Bytes)(i:Nat):Ln.Tok×Nat:=
 let e1:=runEnd isDigit b i
 let pointed:=isAt (· ==46) b e1&&isAt isDigit b (e1+1)
 let e2:=if pointed=true then runEnd isDigit b (e1+1)else e1
 let digits:=if pointed=true then e2-i-1 else e2-i
 if DIGITS<digits∨isAt (λc=>isLetter c||isDigit c) b e2=true∨isAt (· ==46) b e2=true then(.broken,0)
 else(.num (natural ((b.drop i).takeWhile isDigit++(if pointed=true then(b.drop (e1+1)).takeWhile isDigit else[]))) (if pointed=true then e2-(e1+1)else 0) pointed,e2-i)
theorem head_drop(b:Bytes)(i:Nat):(b.drop i).head?=b[i]?:=by rw[List.head?_drop]
theorem HM(b:Bytes)(i:Nat):numberIn (b.drop i)=tR b i:=by
 have hr:(b.drop i).drop ((b.drop i).takeWhile isDigit).length=b.drop (runEnd isDigit b i):=by rw[List.drop_drop];rfl
 have hz:(b.drop (runEnd isDigit b i)).drop 1=b.drop (runEnd isDigit b i+1):=by rw[List.drop_drop]
 have g1:=nz isDigit b i
 have g2:=nz isDigit b (runEnd isDigit b i+1)
 unfold numberIn tR
 simp only[hr,hz,head_drop]
 cases hp:b[runEnd isDigit b i]? with
 |none=>
  have e0:isAt (λx=>x==46) b (runEnd isDigit b i)=false:=tP hp
  have e3:isAt (λc=>isLetter c||isDigit c) b (runEnd isDigit b i)=false:=tP hp
  have hh:((none:Option UInt8)==some 46)=false:=rfl
  simp only[e0,e3,hh,Bool.false_and,Bool.false_eq_true,if_false,List.drop_drop,tQ,head_drop,List.getElem?_drop,List.length_nil,Nat.add_zero,List.append_nil,true_or,and_true,or_false]
  have e4:i+(runEnd isDigit b i-i)=runEnd isDigit b i:=by omega
  rw[e4,hp]
  by_cases h:runEnd isDigit b i-i≤DIGITS
  ·rw[if_pos ⟨rfl,h⟩,if_neg (Nat.not_lt.mpr h)]
  ·rw[if_neg (λq=>h q.2),if_pos (Nat.lt_of_not_le h)]
 |some c=>
  have nd:isDigit c=false:=HI isDigit b i c hp
  by_cases hc:c=46
  ·subst hc
   have e0:isAt (λx=>x==46) b (runEnd isDigit b i)=true:=by rw[iP hp];rfl
   have hh:((some 46:Option UInt8)==some 46)=true:=rfl
   simp only[e0,hh,Bool.true_and,if_true,List.drop_drop,tQ,head_drop,List.getElem?_drop,Bool.false_eq_true,Bool.true_eq_false,false_or]
   cases hd:isAt isDigit b (runEnd isDigit b i+1)with
   |false=>
    have e5:(b.drop (runEnd isDigit b i+1)).takeWhile isDigit=[]:=by
     cases h1:b[runEnd isDigit b i+1]? with
     |none=>rw[List.drop_eq_nil_of_le (List.getElem?_eq_none_iff.mp h1)];rfl
     |some d=>rw[iP h1]at hd;rw[jx h1,List.takeWhile_cons,hd];rfl
    simp only[e5,ne_eq,not_true_eq_false,and_false,if_false,Bool.false_eq_true,e0,or_true,if_true]
   |true=>
    have e5:(b.drop (runEnd isDigit b i+1)).takeWhile isDigit≠[]:=by
     cases h1:b[runEnd isDigit b i+1]? with
     |none=>rw[tP h1]at hd;cases hd
     |some d=>rw[iP h1]at hd;rw[jx h1,List.takeWhile_cons,hd];simp
    have e6:i+(runEnd isDigit b i-i+(1+(runEnd isDigit b (runEnd isDigit b i+1)-(runEnd isDigit b i+1))))=runEnd isDigit b (runEnd isDigit b i+1):=by omega
    have e7:runEnd isDigit b i-i+(1+(runEnd isDigit b (runEnd isDigit b i+1)-(runEnd isDigit b i+1)))=runEnd isDigit b (runEnd isDigit b i+1)-i:=by omega
    have e8:runEnd isDigit b i-i+(runEnd isDigit b (runEnd isDigit b i+1)-(runEnd isDigit b i+1))=runEnd isDigit b (runEnd isDigit b i+1)-i-1:=by omega
    have hb:isAt (λc=>isLetter c||isDigit c) b (runEnd isDigit b (runEnd isDigit b i+1))=isAt isLetter b (runEnd isDigit b (runEnd isDigit b i+1)):=by
     cases h1:b[runEnd isDigit b (runEnd isDigit b i+1)]? with
     |none=>rw[tP h1,tP h1]
     |some d=>rw[iP h1,iP h1,HI isDigit b _ d h1,Bool.or_false]
    have hf:(b[runEnd isDigit b (runEnd isDigit b i+1)]?.any λc=>isLetter c||c==46)=(isAt isLetter b (runEnd isDigit b (runEnd isDigit b i+1))||isAt (· ==46) b (runEnd isDigit b (runEnd isDigit b i+1))):=by
     unfold isAt
     cases b[runEnd isDigit b (runEnd isDigit b i+1)]?<;>rfl
    rw[e6,e7,e8,hf]
    simp only[if_true,hb]
    by_cases h:DIGITS<runEnd isDigit b (runEnd isDigit b i+1)-i-1
    ·rw[if_neg (λq=>absurd q.2.1 (Nat.not_le.mpr h)),if_pos (.inl h)]
    ·cases hl:isAt isLetter b (runEnd isDigit b (runEnd isDigit b i+1))with
     |true=>rw[if_neg (λq=>by simp at q),if_pos (.inr (.inl rfl))]
     |false=>
      cases hq:isAt (· ==46) b (runEnd isDigit b (runEnd isDigit b i+1))with
      |true=>rw[if_neg (λq=>by simp at q),if_pos (.inr (.inr rfl))]
      |false=>rw[if_pos ⟨rfl,Nat.le_of_not_lt h,e5⟩,if_neg (λq=>q.elim h λq=>by simp at q)]
  ·have e0:isAt (λx=>x==46) b (runEnd isDigit b i)=false:=by rw[iP hp];simpa using hc
   have hh:((some c:Option UInt8)==some 46)=false:=by simpa using hc
   have e3:isAt (λc=>isLetter c||isDigit c) b (runEnd isDigit b i)=isLetter c:=by rw[iP hp,nd,Bool.or_false]
   simp only[e0,e3,hh,Bool.false_and,Bool.false_eq_true,if_false,List.drop_drop,tQ,head_drop,List.getElem?_drop,List.length_nil,Nat.add_zero,List.append_nil,true_or,and_true,or_false]
   have e4:i+(runEnd isDigit b i-i)=runEnd isDigit b i:=by omega
   have qj:(c==46)=false:=by simpa using hc
   rw[e4,hp]
   simp only[Option.any_some,qj,Bool.or_false]
   cases hl:isLetter c with
   |true=>rw[if_neg (λq=>by simp at q),if_pos (.inr rfl)]
   |false=>
    by_cases h:runEnd isDigit b i-i≤DIGITS
    ·rw[if_pos ⟨rfl,h⟩,if_neg (λq=>q.elim (Nat.not_lt.mpr h) λq=>by simp at q)]
    ·rw[if_neg (λq=>h q.2),if_pos (.inl (Nat.lt_of_not_le h))]
end LR
namespace LR
open Ln PySem
def strOf(b:Bytes):Str:=⟨(b.map (·.toNat)).toArray⟩
theorem wx{a b:Bytes}(h:strOf a=strOf b):a=b:=by
 unfold strOf at h
 injection h with h
 have h1:a.map (·.toNat)=b.map (·.toNat):=by
  have:=congrArg Array.toList h
  simpa using this
 clear h
 induction a generalizing b with
 |nil=>cases b with
  |nil=>rfl
  |cons c r=>simp at h1
 |cons c r ih=>cases b with
  |nil=>simp at h1
  |cons d q=>
   simp only[List.map_cons,List.cons.injEq]at h1
   rw[UInt8.toNat_inj.mp h1.1,ih h1.2]
def aO:Ln.Tok→Str
 |.word b=>strOf b
 |.name _=>Str.ofString "name"
 |.num _ _ p=>if p then Str.ofString "pointed" else Str.ofString "whole"
 |.mark c=>strOf [c]
 |.end_=>Str.ofString "end"
 |.broken=>Str.ofString ""
def h_:Ln.Tok→Prop
 |.word b=>b∈WORDS
 |.mark c=>isMark c=true
 |_=>True
theorem Aa(b:Bytes):h_ (tokenIn b).1:=by
 cases b with
 |nil=>trivial
 |cons c r=>
  unfold tokenIn
  dsimp only
  split
  ·split
   ·trivial
   ·split
    ·rename_i h
     exact List.contains_iff_mem.mp h
    ·trivial
  ·split
   ·have e:=HM (c::r) 0
    rw[List.drop_zero]at e
    rw[e]
    unfold tR
    dsimp only
    split<;>split<;>trivial
   ·split
    ·rename_i h;exact h
    ·trivial
theorem nA(b:Bytes)(i:Nat):h_ (aL b i).tok:=Aa _
theorem nB(c:UInt8):isMark c=true↔c∈([58,44,59,47,45]:List UInt8):=by
 unfold isMark
 rw[List.contains_iff_mem]
 have:ascii ":,;/-"=[58,44,59,47,45]:=by decide
 rw[this]
def fY:List String:=["after","clear","conic","curve","flat","glass","into","mirror","radius","start","stop","surface"]
theorem HN:WORDS=fY.map ascii:=rfl
theorem Ab:∀w∈fY,strOf (ascii w)=Str.ofString w:=by decide +kernel
theorem j0{x:Lex}(h:h_ x.tok){w:String}(hw:w∈fY):x.isWord w=decide (aO x.tok=Str.ofString w):=by
 unfold Lex.isWord
 cases ht:x.tok with
 |word b=>
  show(b==ascii w)=decide (strOf b=Str.ofString w)
  rw[←Ab w hw]
  by_cases e:b=ascii w
  ·rw[e,beq_self_eq_true,decide_eq_true rfl]
  ·rw[decide_eq_false (λq=>e (wx q))]
   exact beq_eq_false_iff_ne.mpr e
 |name b=>revert w;show∀{w},w∈fY→false=decide (Str.ofString "name"=Str.ofString w);decide +kernel
 |num a k p=>
  cases p with
  |true=>revert w;show∀{w},w∈fY→false=decide (Str.ofString "pointed"=Str.ofString w);decide +kernel
  |false=>revert w;show∀{w},w∈fY→false=decide (Str.ofString "whole"=Str.ofString w);decide +kernel
 |mark c=>
  rw[ht]at h
  have hc:=(nB c).mp h
  revert c
  revert w
  show∀{w},w∈fY→∀c,_→_→c∈([58,44,59,47,45]:List UInt8)→false=decide (strOf [c]=Str.ofString w)
  intro w hw c _ _ hc
  have key:∀w∈fY,∀c∈([58,44,59,47,45]:List UInt8),false=decide (strOf [c]=Str.ofString w):=by decide +kernel
  exact key w hw c hc
 |end_=>revert w;show∀{w},w∈fY→false=decide (Str.ofString "end"=Str.ofString w);decide +kernel
 |broken=>revert w;show∀{w},w∈fY→false=decide (Str.ofString ""=Str.ofString w);decide +kernel
def marks:List UInt8:=[58,44,59,47,45]
def HP:List Str:=[Str.ofString "name",Str.ofString "pointed",Str.ofString "whole",Str.ofString "end",Str.ofString ""]
theorem P4:∀c∈marks,∀w∈WORDS,strOf w≠strOf [c]:=by decide +kernel
theorem j_:∀c∈marks,∀k∈HP,k≠strOf [c]:=by decide +kernel
theorem wz:∀w∈WORDS,∀k∈HP,strOf w≠k:=by decide +kernel
theorem Ac{x:Lex}(h:h_ x.tok){c:UInt8}(hc:c∈marks):x.isMark c=decide (aO x.tok=strOf [c]):=by
 unfold Lex.isMark
 cases ht:x.tok with
 |word b=>
  rw[ht]at h
  exact(decide_eq_false (P4 c hc b h)).symm
 |name b=>exact(decide_eq_false (j_ c hc (Str.ofString "name") (by decide +kernel))).symm
 |num a k p=>cases p with
  |true=>exact(decide_eq_false (j_ c hc (Str.ofString "pointed") (by decide +kernel))).symm
  |false=>exact(decide_eq_false (j_ c hc (Str.ofString "whole") (by decide +kernel))).symm
 |mark d=>
  show(d==c)=decide (strOf [d]=strOf [c])
  by_cases e:d=c
  ·rw[e,beq_self_eq_true,decide_eq_true rfl]
  ·rw[decide_eq_false (λq=>e (List.cons.inj (wx q)).1)]
   exact beq_eq_false_iff_ne.mpr e
 |end_=>exact(decide_eq_false (j_ c hc _ (by decide +kernel))).symm
 |broken=>exact(decide_eq_false (j_ c hc _ (by decide +kernel))).symm
theorem Ae{t:Ln.Tok}(h:h_ t)(e:aO t=Str.ofString "name"):∃b,t=.name b:=by
 cases t with
 |word b=>exact absurd e (wz b h _ (by decide +kernel))
 |name b=>exact⟨b,rfl⟩
 |num a k p=>cases p with
  |true=>exact absurd (show Str.ofString "pointed"=Str.ofString "name" from e) (by decide +kernel)
  |false=>exact absurd (show Str.ofString "whole"=Str.ofString "name" from e) (by decide +kernel)
 |mark d=>exact absurd e.symm (j_ d ((nB d).mp h) _ (by decide +kernel))
 |end_=>exact absurd e (by decide +kernel)
 |broken=>exact absurd e (by decide +kernel)
theorem Af{t:Ln.Tok}(h:h_ t)(e:aO t=Str.ofString "whole"):∃a k,t=.num a k false:=by
 cases t with
 |word b=>exact absurd e (wz b h _ (by decide +kernel))
 |name b=>exact absurd (show Str.ofString "name"=Str.ofString "whole" from e) (by decide +kernel)
 |num a k p=>cases p with
  |true=>exact absurd (show Str.ofString "pointed"=Str.ofString "whole" from e) (by decide +kernel)
  |false=>exact⟨a,k,rfl⟩
 |mark d=>exact absurd e.symm (j_ d ((nB d).mp h) _ (by decide +kernel))
 |end_=>exact absurd e (by decide +kernel)
 |broken=>exact absurd e (by decide +kernel)
theorem P5{t:Ln.Tok}(h:h_ t)(e:aO t=Str.ofString "pointed"):∃a k,t=.num a k true:=by
 cases t with
 |word b=>exact absurd e (wz b h _ (by decide +kernel))
 |name b=>exact absurd (show Str.ofString "name"=Str.ofString "pointed" from e) (by decide +kernel)
 |num a k p=>cases p with
  |true=>exact⟨a,k,rfl⟩
  |false=>exact absurd (show Str.ofString "whole"=Str.ofString "pointed" from e) (by decide +kernel)
 |mark d=>exact absurd e.symm (j_ d ((nB d).mp h) _ (by decide +kernel))
 |end_=>exact absurd e (by decide +kernel)
 |broken=>exact absurd e (by decide +kernel)
theorem HQ{x:Lex}(h:h_ x.tok):x.isEnd=decide (aO x.tok=Str.ofString "end"):=by
 unfold Lex.isEnd
 cases ht:x.tok with
 |word b=>
  rw[ht]at h
  exact(decide_eq_false (wz b h _ (by decide +kernel))).symm
 |name b=>show false=decide (Str.ofString "name"=Str.ofString "end");decide +kernel
 |num a k p=>cases p with
  |true=>show false=decide (Str.ofString "pointed"=Str.ofString "end");decide +kernel
  |false=>show false=decide (Str.ofString "whole"=Str.ofString "end");decide +kernel
 |mark d=>
  rw[ht]at h
  exact(decide_eq_false (λe=>j_ d ((nB d).mp h) _ (by decide +kernel) e.symm)).symm
 |end_=>show true=decide (Str.ofString "end"=Str.ofString "end");decide +kernel
 |broken=>show false=decide (Str.ofString ""=Str.ofString "end");decide +kernel
end LR
namespace LR
open Ln
theorem HR(a b:Rat):((a.num*(b.den:Int)+b.num*(a.den:Int):Int):Rat)/((a.den*b.den:Nat):Rat)=a+b:=by
 rw[←Rat.mkRat_eq_div,Rat.add_def,Rat.normalize_eq_mkRat]
theorem P6(a b:Rat):((a.num*b.num:Int):Rat)/((a.den*b.den:Nat):Rat)=a*b:=by
 rw[←Rat.mkRat_eq_div,Rat.mul_def,Rat.normalize_eq_mkRat]
theorem qI(q:Rat):fits q=true↔(q.num.natAbs<10^18∧q.den<10^18):=by
 unfold fits LONGEST
 rw[Bool.and_eq_true,decide_eq_true_eq,decide_eq_true_eq]
theorem log2_lt{n k:Nat}(h:n<2^k)(hk:0<k):n.log2<k:=by
 by_cases h0:n=0
 ·subst h0;simpa using hk
 ·exact(Nat.log2_lt h0).mpr h
end LR
namespace LR
open Ln PySem
def bj{α:Type}(p:P α)(l:List Lex)(Qo:α→List Lex→Prop)(Qe:Ln.Fault→Prop):Prop:=match p l with
 |.ok y=>Qo y.1 y.2
 |.error e=>Qe e
theorem bj.mono{α:Type}{p:P α}{l:List Lex}{Qo HS:α→List Lex→Prop}{Qe HU:Ln.Fault→Prop}(h:bj p l Qo Qe)(ho:∀a r,Qo a r→HS a r)(he:∀e,Qe e→HU e):bj p l HS HU:=by
 unfold bj at h⊢
 split
 ·rename_i y e;rw[e]at h;exact ho _ _ h
 ·rename_i y e;rw[e]at h;exact he _ h
theorem bJ{α β:Type}{p:P α}{f:α→P β}{l:List Lex}{Qo:β→List Lex→Prop}{Qe:Ln.Fault→Prop}:bj (andThen p f) l Qo Qe↔bj p l (λa r=>bj (f a) r Qo Qe) Qe:=by
 unfold bj andThen
 cases p l with
 |error e=>exact Iff.rfl
 |ok y=>exact Iff.rfl
theorem gH{b:Bool}{k p:Nat}{l:List Lex}{Qo:Unit→List Lex→Prop}{Qe:Ln.Fault→Prop}:bj (need b k p) l Qo Qe↔if b=true then Qo () l else Qe (k,p):=by
 unfold need
 split
 ·exact Iff.rfl
 ·exact Iff.rfl
theorem gI{α:Type}{p q:P α}{l:List Lex}(h:p l=q l){Qo:α→List Lex→Prop}{Qe:Ln.Fault→Prop}:bj p l Qo Qe↔bj q l Qo Qe:=by
 unfold bj;rw[h]
theorem eD{α β γ:Type}(p:P α)(f:α→P β)(g:β→P γ):andThen (andThen p f) g=andThen p λa=>andThen (f a) g:=by
 funext l
 unfold andThen
 cases p l with
 |error e=>rfl
 |ok y=>rfl
theorem HV{α β:Type}(x:α)(f:α→P β):andThen (done x) f=f x:=rfl
def Toks(l:List Lex):Prop:=∀x∈l,h_ x.tok
theorem gW(b:Bytes)(i:Nat):Toks (rest b i):=by
 have go:∀(f j:Nat) (l:Bytes),Toks (lexes f j l):=by
  intro f
  induction f with
  |zero=>intro j l x hx;unfold lexes at hx;simp at hx
  |succ f ih=>
   intro j l x hx
   unfold lexes at hx
   dsimp only at hx
   rcases List.mem_cons.mp hx with rfl|hx
   ·exact Aa _
   ·split at hx
    ·simp at hx
    ·simp at hx
    ·exact ih _ _ x hx
 exact go _ _ _
theorem Toks.tail{x:Lex}{r:List Lex}(h:Toks (x::r)):Toks r:=λy hy=>h y (List.mem_cons_of_mem _ hy)
theorem Toks.drop{l:List Lex}(h:Toks l)(n:Nat):Toks (l.drop n):=λy hy=>h y (List.mem_of_mem_drop hy)
theorem jy{β:Type}{f g:Lex→P β}{l:List Lex}(h:∀x r,l=x::r→f x l=g x l):andThen peek f l=andThen peek g l:=by
 unfold andThen peek
 cases l with
 |nil=>rfl
 |cons x r=>
  have:=h x r rfl
  cases ht:x.tok<;>simp only[ht]<;>first|rfl|exact this
def et(ks:List Str):P Lex:=andThen peek λx=>andThen (need (ks.contains (aO x.tok)) 2 x.at_) λ_=>done x
def bL(ks:List Str):P Lex:=andThen (et ks) λx=>andThen pass λ_=>done x
theorem l0{β:Type}(ks:List Str)(f:Lex→P β):andThen (bL ks) f=andThen peek λx=>andThen (need (ks.contains (aO x.tok)) 2 x.at_) λ_=>andThen pass λ_=>f x:=by
 unfold bL et
 rw[eD,eD]
 congr 1
 funext x
 rw[eD]
 congr 1
theorem fM(a k:Str):([a]:List Str).contains k=decide (k=a):=by
 simp[Bool.beq_eq_decide_eq,eq_comm]
theorem tS{β:Type}{w:String}(hw:w∈fY)(f:Nat→P β){l:List Lex}(h:Toks l):andThen (word w) f l=andThen (bL [Str.ofString w]) (λx=>f x.at_) l:=by
 rw[l0]
 unfold word
 rw[eD]
 refine jy λx r e=>?_
 rw[eD,fM,j0 (h x (by rw[e];simp)) hw]
 rfl
theorem wB{β:Type}{c:UInt8}(hc:c∈marks)(f:Nat→P β){l:List Lex}(h:Toks l):andThen (mark c) f l=andThen (bL [strOf [c]]) (λx=>f x.at_) l:=by
 rw[l0]
 unfold mark
 rw[eD]
 refine jy λx r e=>?_
 rw[eD,fM,Ac (h x (by rw[e];simp)) hc]
 rfl
def nameOf:Ln.Tok→Bytes
 |.name b=>b
 |_=>[]
def valOf:Ln.Tok→Rat
 |.num n k true=>(n:Rat)/((10^k:Nat):Rat)
 |.num n _ false=>(n:Rat)
 |_=>0
def isName:Ln.Tok→Bool
 |.name _=>true
 |_=>false
theorem P7{t:Ln.Tok}(h:h_ t):decide (aO t=Str.ofString "name")=isName t:=by
 cases t with
 |name b=>exact decide_eq_true rfl
 |_=>exact decide_eq_false λe=>by obtain⟨b,z⟩:=Ae h e;cases z
theorem HW{β:Type}(f:Nat×Bytes→P β){l:List Lex}(h:Toks l):andThen name f l=andThen (bL [Str.ofString "name"]) (λx=>f (x.at_,nameOf x.tok)) l:=by
 rw[l0]
 unfold name
 rw[eD]
 refine jy λx r e=>?_
 rw[fM,P7 (h x (by rw[e];simp))]
 cases x.tok<;>first|rfl|(rw[eD];rfl)
def o4:Str:=strOf [47]
def Ag:P Rat:=andThen (bL [Str.ofString "whole",Str.ofString "pointed"]) λu=>if aO u.tok=Str.ofString "pointed" then done (valOf u.tok)else andThen peek λy=>
 if aO y.tok=o4 then andThen (bL [o4]) λ_=>andThen (bL [Str.ofString "whole"]) λlo=>andThen (need (valOf lo.tok !=0) 6 lo.at_) λ_=>done (valOf u.tok/valOf lo.tok)else done (valOf u.tok)
theorem o5{α β:Type}{p:P α}{f g:α→P β}{l:List Lex}(h:∀a r,p l=.ok (a,r)→f a r=g a r):andThen p f l=andThen p g l:=by
 unfold andThen
 cases hp:p l with
 |error e=>rfl
 |ok y=>exact h y.1 y.2 hp
theorem HX{b:Bool}{k p:Nat}{l r:List Lex}{a:Unit}(h:need b k p l=.ok (a,r)):r=l∧b=true:=by
 unfold need at h
 split at h
 ·rename_i hb;cases h;exact⟨rfl,hb⟩
 ·cases h
theorem P8{l r:List Lex}{a:Unit}(h:pass l=.ok (a,r)):r=l.drop 1:=by
 unfold pass at h;cases h;rfl
theorem P9{ks:List Str}{l r:List Lex}{x:Lex}(h:bL ks l=.ok (x,r)):l=x::r∧x.tok≠.broken∧ks.contains (aO x.tok)=true:=by
 cases l with
 |nil=>cases h
 |cons y t=>
  obtain⟨ya,yt⟩:=y
  cases c:ks.contains (aO yt)with
  |true=>
   cases yt with
   |broken=>cases h
   |_=>
    simp[bL,et,andThen,peek,need,pass,done,halt,c,-List.contains_eq_mem]at h
    obtain⟨rfl,rfl⟩:=h
    exact⟨rfl,by simp,c⟩
  |false=>
   cases yt with
   |broken=>cases h
   |_=>simp[bL,et,andThen,peek,need,pass,done,halt,c,-List.contains_eq_mem]at h
theorem HY{α:Type}{c:UInt8}(hc:c∈marks)(p q:P α){l:List Lex}(h:Toks l):ifMark c p q l=andThen peek (λy=>if aO y.tok=strOf [c]then andThen (bL [strOf [c]]) (λ_=>p)else q) l:=by
 unfold ifMark
 refine jy λx r e=>?_
 have hx:=h x (by rw[e];simp)
 rw[Ac hx hc]
 by_cases k:aO x.tok=strOf [c]
 ·rw[decide_eq_true k,if_pos rfl,if_pos k,l0,e]
  unfold andThen peek
  dsimp only
  cases ht:x.tok with
  |broken=>
   rw[ht]at k
   exact absurd k (j_ c hc _ (by decide +kernel))
  |_=>
   dsimp only
   rw[k,fM,decide_eq_true rfl]
   rfl
 ·rw[decide_eq_false k,if_neg (by simp),if_neg k]
theorem tT{α:Type}{w:String}(hw:w∈fY)(p q:P α){l:List Lex}(h:Toks l):ifWord w p q l=andThen peek (λy=>if aO y.tok=Str.ofString w then andThen (bL [Str.ofString w]) (λ_=>p)else q) l:=by
 unfold ifWord
 refine jy λx r e=>?_
 have hx:=h x (by rw[e];simp)
 rw[j0 hx hw]
 by_cases k:aO x.tok=Str.ofString w
 ·rw[decide_eq_true k,if_pos rfl,if_pos k,l0,e]
  unfold andThen peek
  dsimp only
  cases ht:x.tok with
  |broken=>
   rw[ht]at k
   have key:∀w∈fY,Str.ofString ""≠Str.ofString w:=by decide +kernel
   exact absurd k (key w hw)
  |_=>
   dsimp only
   rw[k,fM,decide_eq_true rfl]
   rfl
 ·rw[decide_eq_false k,if_neg (by simp),if_neg k]
theorem P_(n:Nat){l:List Lex}(h:Toks l):below n l=andThen (bL [Str.ofString "whole"]) (λlo=>andThen (need (valOf lo.tok !=0) 6 lo.at_) λ_=>done ((n:Rat)/valOf lo.tok)) l:=by
 rw[l0]
 unfold below
 refine jy λx r e=>?_
 have hx:=h x (by rw[e];simp)
 rw[fM]
 by_cases k:aO x.tok=Str.ofString "whole"
 ·obtain⟨a,j,ht⟩:=Af hx k
  rw[decide_eq_true k,ht]
  have e1:(valOf (.num a j false)!=0)=(a !=0):=by
   show(((a:Nat):Rat)!=0)=(a !=0)
   by_cases ha:a=0
   ·subst ha;rfl
   ·have:((a:Nat):Rat)≠0:=by
     intro z
     exact ha (by exact_mod_cast z)
    rw[bne_iff_ne.mpr this,bne_iff_ne.mpr ha]
  show andThen pass (λ_=>andThen (need (a !=0) 6 x.at_) λ_=>done ((n:Rat)/((a:Nat):Rat))) l=andThen pass (λ_=>andThen (need (valOf (.num a j false)!=0) 6 x.at_) λ_=>done ((n:Rat)/((a:Nat):Rat))) l
  rw[e1]
 ·rw[decide_eq_false k]
  have:∀a j,x.tok≠.num a j false:=λa j ht=>k (by rw[ht];rfl)
  cases ht:x.tok with
  |num a j p=>
   cases p with
   |true=>rfl
   |false=>exact absurd ht (this a j)
  |_=>rfl
theorem Qa{l:List Lex}(h:Toks l):number l=Ag l:=by
 unfold Ag
 rw[l0]
 unfold number
 refine jy λx r e=>?_
 have hx:=h x (by rw[e];simp)
 have tl:Toks (l.drop 1):=h.drop 1
 cases ht:x.tok with
 |num a j p=>
  cases p with
  |true=>
   show andThen pass (λ_=>done _) l=andThen (need true 2 x.at_) (λ_=>andThen pass λ_=>if Str.ofString "pointed"=Str.ofString "pointed" then _ else _) l
   rw[if_pos rfl]
   rfl
  |false=>
   have n1:¬(Str.ofString "whole"=Str.ofString "pointed"):=by decide +kernel
   show andThen pass (λ_=>ifMark 47 (below a) (done _)) l=andThen (need true 2 x.at_) (λ_=>andThen pass λ_=>if Str.ofString "whole"=Str.ofString "pointed" then _ else _) l
   rw[if_neg n1]
   show ifMark 47 (below a) (done _) (l.drop 1)=andThen peek _ (l.drop 1)
   rw[HY (by decide) _ _ tl]
   refine jy λy r' e'=>?_
   by_cases kk:aO y.tok=strOf [47]
   ·rw[if_pos kk,if_pos (show aO y.tok=o4 from kk)]
    refine o5 λa' r2 hp=>?_
    refine P_ a ?_
    obtain⟨z,_⟩:=P9 hp
    rw[z]at tl
    exact tl.tail
   ·rw[if_neg kk,if_neg (show¬aO y.tok=o4 from kk)]
    rfl
 |word b=>
  rw[ht]at hx
  have k1:([Str.ofString "whole",Str.ofString "pointed"]:List Str).contains (strOf b)=false:=by
   have key:∀w∈WORDS,([Str.ofString "whole",Str.ofString "pointed"]:List Str).contains (strOf w)=false:=by decide +kernel
   exact key b hx
  show halt 2 x.at_ l=andThen (need (([Str.ofString "whole",Str.ofString "pointed"]:List Str).contains (strOf b)) 2 x.at_) _ l
  rw[k1]
  rfl
 |name b=>rfl
 |mark c=>
  rw[ht]at hx
  have k1:([Str.ofString "whole",Str.ofString "pointed"]:List Str).contains (strOf [c])=false:=by
   have key:∀c∈marks,([Str.ofString "whole",Str.ofString "pointed"]:List Str).contains (strOf [c])=false:=by decide +kernel
   exact key c ((nB c).mp hx)
  show halt 2 x.at_ l=andThen (need (([Str.ofString "whole",Str.ofString "pointed"]:List Str).contains (strOf [c])) 2 x.at_) _ l
  rw[k1]
  rfl
 |end_=>rfl
 |broken=>rfl
end LR
namespace LR
open Ln PySem
def qJ:Ln.Tok→Prop
 |.num n k p=>n<10^18∧k<18∧(p=false→k=0)
 |.name b=>b.length≤32∧b≠[59]
 |_=>True
theorem takeWhile_all(p:UInt8→Bool)(l:Bytes):∀c∈l.takeWhile p,p c=true:=by
 intro c hc
 induction l with
 |nil=>simp at hc
 |cons d r ih=>
  rw[List.takeWhile_cons]at hc
  split at hc
  ·rename_i h
   rcases List.mem_cons.mp hc with rfl|hc
   ·exact h
   ·exact ih hc
  ·simp at hc
theorem Qc{c:UInt8}{r:Bytes}(hc:isDigit c=true):qJ (numberIn (c::r)).1:=by
 have h1:1≤((c::r).takeWhile isDigit).length:=by rw[List.takeWhile_cons,if_pos hc,List.length_cons];omega
 unfold numberIn
 dsimp only
 have fin:∀(z:Bytes) (pt:Bool),(∀x∈z,isDigit x=true)→((c::r).takeWhile isDigit).length+z.length≤DIGITS→(pt=false→z=[])→qJ (.num (natural ((c::r).takeWhile isDigit++z)) z.length pt):=by
  intro z pt hz h2 hp
  have hd:∀x∈(c::r).takeWhile isDigit++z,isDigit x=true:=by
   intro x hx
   rcases List.mem_append.mp hx with hx|hx
   ·exact takeWhile_all _ _ x hx
   ·exact hz x hx
  unfold DIGITS at h2
  refine⟨?_,by omega,λq=>by rw[hp q];rfl⟩
  have:=HL ((c::r).takeWhile isDigit++z) 0 0 hd (by decide)
  rw[digitsVal_zero]at this
  refine Nat.lt_of_lt_of_le this (Nat.pow_le_pow_right (by decide) ?_)
  rw[List.length_append]
  omega
 generalize hpt:(((c::r).drop ((c::r).takeWhile isDigit).length).head?==some 46)=pt
 cases pt with
 |true=>
  simp only[if_true]
  split
  ·rename_i h
   exact fin _ true (takeWhile_all _ _) h.2.1 (λz=>by cases z)
  ·trivial
 |false=>
  simp only[Bool.false_eq_true,if_false]
  split
  ·rename_i h
   exact fin [] false (λx hx=>by simp at hx) h.2.1 (λ_=>rfl)
  ·trivial
theorem HZ(b:Bytes):qJ (tokenIn b).1:=by
 cases b with
 |nil=>trivial
 |cons c r=>
  unfold tokenIn
  dsimp only
  split
  ·rename_i hl
   split
   ·trivial
   ·rename_i h
    split
    ·trivial
    ·refine⟨Nat.le_of_not_lt h,?_⟩
     rw[List.takeWhile_cons,if_pos (by rw[hl];rfl)]
     intro z
     injection z with z _
     rw[z]at hl
     exact absurd hl (by decide)
  ·split
   ·rename_i h
    exact Qc h
   ·split<;>trivial
def Nums(l:List Lex):Prop:=∀x∈l,qJ x.tok∧h_ x.tok
theorem Nums.toks{l:List Lex}(h:Nums l):Toks l:=λx hx=>(h x hx).2
theorem H_:∀(f j:Nat) (l:Bytes),Nums (lexes f j l):=by
 intro f
 induction f with
 |zero=>intro j l x hx;unfold lexes at hx;simp at hx
 |succ f ih=>
  intro j l x hx
  unfold lexes at hx
  dsimp only at hx
  rcases List.mem_cons.mp hx with rfl|hx
  ·exact⟨HZ _,Aa _⟩
  ·split at hx
   ·simp at hx
   ·simp at hx
   ·exact ih _ _ x hx
theorem Ia(b:Bytes):Nums (tokens b):=H_ _ _ _
theorem Qg(b:Bytes)(i:Nat):qJ (aL b i).tok:=HZ _
def Gives{α:Type}(p:P α)(C:α→Prop):Prop:=∀l a r,Nums l→p l=.ok (a,r)→C a∧Nums r
theorem Gives.then{α β:Type}{p:P α}{f:α→P β}{C:α→Prop}{D:β→Prop}(hp:Gives p C)(hf:∀a,C a→Gives (f a) D):Gives (andThen p f) D:=by
 intro l y r hl h
 unfold andThen at h
 cases e:p l with
 |error z=>rw[e]at h;cases h
 |ok q=>
  rw[e]at h
  obtain⟨c,n⟩:=hp l q.1 q.2 hl e
  exact hf q.1 c q.2 y r n h
theorem Gives.imp{α:Type}{p:P α}{C D:α→Prop}(hp:Gives p C)(h:∀a,C a→D a):Gives p D:=λl a r hl e=>⟨h a (hp l a r hl e).1,(hp l a r hl e).2⟩
theorem eU{α:Type}{x:α}{C:α→Prop}(h:C x):Gives (done x) C:=by
 intro l a r hl e
 cases e
 exact⟨h,hl⟩
theorem tU{α:Type}{k p:Nat}{C:α→Prop}:Gives (halt k p:P α) C:=by
 intro l a r hl e
 cases e
theorem jd{b:Bool}{k p:Nat}:Gives (need b k p) λ_=>b=true:=by
 intro l a r hl e
 obtain⟨rfl,h⟩:=HX e
 exact⟨h,hl⟩
theorem l4:Gives pass λ_=>True:=by
 intro l a r hl e
 rw[P8 e]
 exact⟨trivial,λx hx=>hl x (List.mem_of_mem_drop hx)⟩
theorem jz:Gives peek λx=>qJ x.tok:=by
 intro l a r hl e
 unfold peek at e
 cases l with
 |nil=>cases e
 |cons x t=>
  dsimp only at e
  split at e
  ·cases e
  ·cases e
   exact⟨(hl _ (by simp)).1,hl⟩
theorem Ib{α:Type}{c:UInt8}{p q:P α}{C:α→Prop}(hp:Gives p C)(hq:Gives q C):Gives (ifMark c p q) C:=by
 unfold ifMark
 refine jz.then λx _=>?_
 split
 ·exact l4.then λ_ _=>hp
 ·exact hq
theorem wC{α:Type}{c:String}{p q:P α}{C:α→Prop}(hp:Gives p C)(hq:Gives q C):Gives (ifWord c p q) C:=by
 unfold ifWord
 refine jz.then λx _=>?_
 split
 ·exact l4.then λ_ _=>hp
 ·exact hq
theorem tV{w:String}:Gives (word w) λ_=>True:=by
 unfold word
 exact jz.then λx _=>jd.then λ_ _=>l4.then λ_ _=>eU trivial
theorem tW{w:UInt8}:Gives (mark w) λ_=>True:=by
 unfold mark
 exact jz.then λx _=>jd.then λ_ _=>l4.then λ_ _=>eU trivial
theorem Ah:Gives name λn=>n.2.length≤32∧n.2≠[59]:=by
 unfold name
 refine jz.then λx hx=>?_
 cases ht:x.tok with
 |name b=>
  rw[ht]at hx
  exact l4.then λ_ _=>eU hx
 |_=>exact tU
theorem Qh{n:Int}{d:Nat}(hn:n.natAbs<10^18)(hd:d≠0)(hd2:d<10^18):fits ((n:Rat)/(d:Rat))=true:=by
 rw[qI,tO n hd,wu n hd]
 refine⟨?_,Nat.lt_of_le_of_lt (Nat.div_le_self _ _) hd2⟩
 refine Nat.lt_of_le_of_lt ?_ hn
 rw[Int.natAbs_ediv_of_dvd (Int.ofNat_dvd_left.mpr (Nat.gcd_dvd_left _ _))]
 exact Nat.div_le_self _ _
theorem Ic(n d:Nat):(0:Rat)≤(n:Rat)/(d:Rat):=by
 by_cases hd:d=0
 ·subst hd
  rw[Rat.div_def]
  simp[Rat.inv_zero]
 ·rw[←Rat.num_nonneg]
  have:=tO (n:Int) hd
  rw[show((n:Nat):Rat)=((n:Int):Rat)from rfl,this]
  exact Int.ediv_nonneg (by omega) (by omega)
def NumV(q:Rat):Prop:=0≤q∧fits q=true
theorem Ai{n d:Nat}(hn:n<10^18)(hd:d≠0)(hd2:d<10^18):NumV ((n:Rat)/(d:Rat)):=⟨Ic n d,Qh (n:=(n:Int)) (by simpa using hn) hd hd2⟩
theorem Qi{n:Nat}(hn:n<10^18):NumV (n:Rat):=by
 have:=Ai (d:=1) hn (by decide) (by decide)
 rwa [show((1:Nat):Rat)=1 from rfl,Rat.div_def,show(1:Rat)⁻¹=1 by decide +kernel,Rat.mul_one]at this
theorem o6:Gives number NumV:=by
 unfold number
 refine jz.then λx hx=>?_
 cases ht:x.tok with
 |num n k p=>
  rw[ht]at hx
  obtain⟨h1,h2,h3⟩:=hx
  cases p with
  |true=>exact l4.then λ_ _=>eU (Ai h1 (by have:=Nat.pow_pos (n:=k) (show 0<10 by decide);omega) (Nat.pow_lt_pow_right (by decide) h2))
  |false=>
   refine l4.then λ_ _=>Ib ?_ (eU (Qi h1))
   unfold below
   refine jz.then λy hy=>?_
   cases m_:y.tok with
   |num m j q=>
    rw[m_]at hy
    cases q with
    |true=>exact tU
    |false=>exact l4.then λ_ _=>jd.then λ_ hm=>eU (Ai h1 (by simpa using hm) hy.1)
   |_=>exact tU
 |_=>exact tU
theorem Ie{q:Rat}(h:fits q=true):fits (-q)=true:=by
 rw[qI]at h⊢
 rw[Rat.neg_num,Rat.neg_den,Int.natAbs_neg]
 exact h
theorem wD:Gives value λq=>fits q=true:=by
 unfold value
 exact Ib (o6.then λq hq=>eU (Ie hq.2)) (o6.imp λq hq=>hq.2)
theorem Qj{q:Rat}(h:fits q=true)(h0:q≠0):fits (1/q)=true:=by
 rw[qI]at h⊢
 have h1:=HK q h0
 have h2:=z_ q h0
 constructor
 ·rw[h1];split<;>omega
 ·split at h2<;>omega
structure fg(n:Nat)(e:Elem):Prop where
 name:e.name.length≤32∧e.name≠[59]
 gap:0≤e.gap
 iB:fits e.gap=true
 iQ:fits e.curve=true
 je:fits e.conic=true
 clear:∀q,e.clear=some q→0<q∧fits q=true
 halt_:e.kind=.halt_→e.curve=0∧e.conic=0
 into:∀m,e.kind=.surface m→m<n
structure GoodG(g:Glass):Prop where
 name:g.name.length≤32∧g.name≠[59]
 index:∃a b c,g.index=[a,b,c]∧(1≤a∧fits a=true)∧(1≤b∧fits b=true)∧(1≤c∧fits c=true)
structure Good(s:System_):Prop where
 gl:s.glasses.length≤16
 glasses:∀g∈s.glasses,GoodG g
 start:s.start<s.glasses.length
 el:s.elems.length≤16
 elems:∀e∈s.elems,fg s.glasses.length e
theorem Qk:Gives curveIn λq=>fits q=true:=by
 unfold curveIn
 refine wC (eU (by decide +kernel)) (wC wD (tV.then λ_ _=>wD.then λr hr=>jz.then λx _=>jd.then λ_ _=>jd.then λ_ h=>eU (Qj hr (by simpa using h))))
theorem Ig:Gives shape λs=>fits s.1=true∧fits s.2=true:=by
 unfold shape
 exact Qk.then λc hc=>wC (wD.then λk hk=>eU ⟨hc,hk⟩) (eU ⟨hc,by show fits 0=true;decide +kernel⟩)
theorem Aj:Gives clearEnd λc=>∀q,c=some q→0<q∧fits q=true:=by
 unfold clearEnd
 refine wC (o6.then λq hq=>tW.then λ_ _=>jd.then λ_ h=>eU λq' e=>?_) (tW.then λ_ _=>eU λq e=>by cases e)
 cases e
 exact⟨of_decide_eq_true h,hq.2⟩
theorem Ql{α:Type}[BEq α][LawfulBEq α]{l:List α}{a:α}{i:Nat}(h:l.idxOf? a=some i):i<l.length:=by
 have:=List.idxOf?_eq_some_iff.mp h
 exact this.1
theorem Ih{gl:List Glass}:Gives (glassNamed gl) λm=>m<gl.length:=by
 unfold glassNamed
 refine Ah.then λn _=>?_
 split
 ·rename_i i h
  have:=Ql h
  rw[List.length_map]at this
  exact eU this
 ·exact tU
theorem Ii{gl:List Glass}{others:List Elem}:Gives (elem gl others) λe=>fg gl.length e∧others.length<16:=by
 unfold elem
 refine jz.then λx _=>jd.then λ_ _=>jd.then λ_ hn=>l4.then λ_ _=>Ah.then λn bZ=>jd.then λ_ _=>tV.then λ_ _=>o6.then λg hg=>?_
 have hn:=of_decide_eq_true hn
 unfold elemRest
 split
 ·exact tV.then λ_ _=>Ih.then λm hm=>Ig.then λs hs=>Aj.then λc hc=>eU ⟨⟨bZ,hg.1,hg.2,hs.1,hs.2,hc,(λz=>by cases z),λm' z=>by cases z;exact hm⟩,hn⟩
 ·split
  ·exact Ig.then λs hs=>Aj.then λc hc=>eU ⟨⟨bZ,hg.1,hg.2,hs.1,hs.2,hc,(λz=>by cases z),λm' z=>by cases z⟩,hn⟩
  ·exact Aj.then λc hc=>eU ⟨⟨bZ,hg.1,hg.2,by show fits 0=true;decide +kernel,by show fits 0=true;decide +kernel,hc,λ_=>⟨rfl,rfl⟩,λm' z=>by cases z⟩,hn⟩
theorem Ak{c:UInt8}:Gives (index c) λq=>1≤q∧fits q=true:=by
 unfold index
 exact o6.then λq hq=>tW.then λ_ _=>jd.then λ_ h=>eU ⟨of_decide_eq_true h,hq.2⟩
theorem Ij{l:List Glass}:Gives (glass l) λg=>GoodG g∧l.length<16:=by
 unfold glass
 refine tV.then λw _=>jd.then λ_ hn=>Ah.then λn bZ=>jd.then λ_ _=>tW.then λ_ _=>Ak.then λa ha=>Ak.then λb hb=>Ak.then λc hc=>eU ⟨⟨bZ,a,b,c,rfl,ha,hb,hc⟩,of_decide_eq_true hn⟩
theorem Ik:∀(f:Nat) (l:List Glass),(1≤l.length∧l.length≤16∧∀g∈l,GoodG g)→Gives (glassesIn f l) λl=>1≤l.length∧l.length≤16∧∀g∈l,GoodG g
 |0,l,h=>eU h
 |f+1,l,h=>by
  unfold glassesIn
  refine jz.then λx _=>?_
  split
  ·refine Ij.then λg hg=>Ik f _ ⟨by simp,by rw[List.length_append,List.length_singleton];exact hg.2,λg' o7=>?_⟩
   rcases List.mem_append.mp o7 with q|q
   ·exact h.2.2 g' q
   ·rw[List.mem_singleton.mp q];exact hg.1
  ·exact eU h
theorem Il{gl:List Glass}:∀(f:Nat) (l:List Elem),(l.length≤16∧∀e∈l,fg gl.length e)→Gives (elemsIn gl f l) λl=>l.length≤16∧∀e∈l,fg gl.length e
 |0,l,h=>eU h
 |f+1,l,h=>by
  unfold elemsIn
  refine jz.then λx _=>?_
  split
  ·exact eU h
  ·refine Ii.then λg hg=>Il f _ ⟨by rw[List.length_append,List.length_singleton];exact hg.2,λg' o7=>?_⟩
   rcases List.mem_append.mp o7 with q|q
   ·exact h.2 g' q
   ·rw[List.mem_singleton.mp q];exact hg.1
theorem Qm:Gives Ln.system Good:=by
 unfold Ln.system
 refine Ij.then λg hg=>(Ik _ _ ⟨by simp,by simp,λg' o7=>by rw[List.mem_singleton.mp o7];exact hg.1⟩).then λl hl=>tV.then λ_ _=>Ih.then λm hm=>tW.then λ_ _=>(Il _ _ ⟨by simp,λe he=>by simp at he⟩).then λes Im=>eU ⟨hl.2.1,hl.2.2,hm,Im.1,Im.2⟩
theorem Io{α:Type}{x:Except Ln.Fault (α×List Lex)}{a:α}(h:had x=.ok a):∃r,x=.ok (a,r):=by
 unfold had at h
 split at h
 ·cases h
 ·rename_i y;cases h;exact⟨y.2,rfl⟩
theorem Qn{b:Bytes}{s:System_}(h:read b=.ok s):Good s:=by
 obtain⟨r,e⟩:=Io h
 exact(Qm _ _ _ (Ia b) e).1
theorem Qp{s:System_}{b:Bytes}{e:Elem}(h:readElem s b=.ok e):fg s.glasses.length e∧s.elems.length<16:=by
 obtain⟨r,q⟩:=Io h
 have g:Gives (andThen (elem s.glasses s.elems) λ(e:Elem)=>andThen peek λ(x:Lex)=>andThen (need x.isEnd 2 x.at_) λ_=>done e) λe=>fg s.glasses.length e∧s.elems.length<16:=
  Ii.then λe he=>jz.then λx _=>jd.then λ_ _=>eU he
 exact(g _ _ _ (Ia b) q).1
end LR
namespace LR
open Ln PySem Wrlnsb
theorem Qq{n:Nat}{e:Elem}(h:fg n e):elemFits e=true:=by
 unfold elemFits
 rw[h.iB,h.iQ,h.je]
 cases hc:e.clear with
 |none=>rfl
 |some q=>simp[(h.clear q hc).2]
theorem Qr{s:System_}(h:Good s):(s.glasses.all λ(g:Glass)=>g.index.all fits)=true:=by
 rw[List.all_eq_true]
 intro g hg
 obtain⟨a,b,c,e,ha,hb,hc⟩:=(h.glasses g hg).index
 rw[e]
 simp[ha.2,hb.2,hc.2]
theorem tX{s t:System_}(h:Good s)(e:t.glasses=s.glasses):systemFits t=t.elems.all elemFits:=by
 unfold systemFits
 rw[e,Qr h,Bool.true_and]
theorem tY{s:System_}(h:Good s)(l:List Elem)(sub:∀e∈l,e∈s.elems):l.all elemFits=true:=by
 rw[List.all_eq_true]
 exactλe he=>Qq (h.elems e (sub e he))
theorem Good.wF{s:System_}(h:Good s){es:List Elem}(hl:es.length≤16)(he:∀e∈es,fg s.glasses.length e):Good {s with elems:=es}:=⟨h.gl,h.glasses,h.start,hl,he⟩
theorem Qs{s:System_}(h:Good s){e:Elem}(he:fg s.glasses.length e)(hn:s.elems.length<16)(i:Nat):Good (Ln.put s i e):=by
 refine h.wF ?_ λx hx=>?_
 ·rw[List.length_append,List.length_cons,List.length_take,List.length_drop];omega
 ·rcases List.mem_append.mp hx with q|q
  ·exact h.elems x (List.mem_of_mem_take q)
  ·rcases List.mem_cons.mp q with q|q
   ·rw[q];exact he
   ·exact h.elems x (List.mem_of_mem_drop q)
theorem Qt{s:System_}(h:Good s){e:Elem}(he:fg s.glasses.length e){i:Nat}(hi:i<s.elems.length):Good (setElem s i e):=by
 refine h.wF ?_ λx hx=>?_
 ·have:=h.el
  rw[List.length_append,List.length_cons,List.length_take,List.length_drop];omega
 ·rcases List.mem_append.mp hx with q|q
  ·exact h.elems x (List.mem_of_mem_take q)
  ·rcases List.mem_cons.mp q with q|q
   ·rw[q];exact he
   ·exact h.elems x (List.mem_of_mem_drop q)
theorem Ip{s:System_}(h:Good s)(e:Elem)(i:Nat):systemFits (setElem s i e)=elemFits e:=by
 rw[tX (t:=setElem s i e) h rfl]
 show(s.elems.take i++e::s.elems.drop (i+1)).all elemFits=_
 rw[List.all_append,List.all_cons,tY h _ λx hx=>List.mem_of_mem_take hx,tY h _ λx hx=>List.mem_of_mem_drop hx]
 simp
theorem Iq{n:Nat}{e:Elem}(h:fg n e){bM:Nat}(hw:bM≤3)(q:Rat):elemFits (setNum e bM q)=fits q:=by
 have hc:(match e.clear with|some q=>fits q|none=>true)=true:=by
  cases hc:e.clear with
  |none=>rfl
  |some q=>exact(h.clear q hc).2
 match bM,hw with
 |0,_=>simp[setNum,elemFits,h.iQ,h.je];exactλ_=>hc
 |1,_=>simp[setNum,elemFits,h.iB,h.je];exactλ_=>hc
 |2,_=>simp[setNum,elemFits,h.iB,h.iQ];exactλ_=>hc
 |3,_=>
  simp only[setNum,elemFits,h.iB,h.je,h.iQ,Bool.true_and]
  by_cases hq:q=0
  ·rw[if_pos hq,hq];show true=fits 0;decide +kernel
  ·rw[if_neg hq]
theorem Qu{n:Nat}{e:Elem}(h:fg n e){bM:Nat}(hw:bM≤3){q:Rat}(hm:maySet e bM q=true)(hf:fits q=true):fg n (setNum e bM q):=by
 unfold maySet at hm
 match bM,hw with
 |0,_=>exact⟨h.name,of_decide_eq_true hm,hf,h.iQ,h.je,h.clear,h.halt_,h.into⟩
 |1,_=>
  refine⟨h.name,h.gap,h.iB,hf,h.je,h.clear,λz=>?_,h.into⟩
  have z:e.kind=.halt_:=z
  rw[if_neg (by omega),z]at hm
  exact⟨by show q=0;simpa[Ln.Kind.isStop]using hm,(h.halt_ z).2⟩
 |2,_=>
  refine⟨h.name,h.gap,h.iB,h.iQ,hf,h.clear,λz=>?_,h.into⟩
  have z:e.kind=.halt_:=z
  rw[if_neg (by omega),z]at hm
  exact⟨(h.halt_ z).1,by show q=0;simpa[Ln.Kind.isStop]using hm⟩
 |3,_=>
  refine⟨h.name,h.gap,h.iB,h.iQ,h.je,λq' e'=>?_,h.halt_,h.into⟩
  have e':(if q=0 then none else some q)=some q':=e'
  have hm:0≤q:=of_decide_eq_true hm
  split at e'
  ·cases e'
  ·rename_i n0
   cases e'
   exact⟨Rat.lt_of_le_of_ne hm (Ne.symm n0),hf⟩
theorem Ir{s:System_}(h:Good s){i:Nat}(hi:s.elems.length≤i+1):Ln.drop s i={s with elems:=s.elems.take i}:=by
 unfold Ln.drop
 rw[List.drop_eq_nil_of_le hi]
 simp
theorem Iu{s:System_}{i:Nat}{e e':Elem}(hi:s.elems[i]?=some e)(hj:s.elems[i+1]?=some e'):Ln.drop s i={s with elems:=s.elems.take i++{e' with gap:=e'.gap+e.gap}::s.elems.drop (i+2)}:=by
 unfold Ln.drop
 rw[jx hj]
 have:s.elem i=e:=by unfold System_.elem;rw[List.getD_eq_getElem?_getD,hi];rfl
 rw[this]
theorem Qv{s:System_}(h:Good s){i:Nat}:Good {s with elems:=s.elems.take i}:=by
 have:=h.el
 exact h.wF (by rw[List.length_take];omega) λx hx=>h.elems x (List.mem_of_mem_take hx)
theorem Qw{s:System_}(h:Good s){i:Nat}:systemFits {s with elems:=s.elems.take i}=true:=by
 rw[tX (t:={s with elems:=s.elems.take i}) h rfl]
 exact tY h _ λx hx=>List.mem_of_mem_take hx
theorem Iv{s:System_}(h:Good s){i:Nat}{e e':Elem}(hi:s.elems[i]?=some e)(hj:s.elems[i+1]?=some e'):systemFits {s with elems:=s.elems.take i++{e' with gap:=e'.gap+e.gap}::s.elems.drop (i+2)}=fits (e'.gap+e.gap):=by
 rw[tX (t:={s with elems:=s.elems.take i++{e' with gap:=e'.gap+e.gap}::s.elems.drop (i+2)}) h rfl]
 show(s.elems.take i++{e' with gap:=e'.gap+e.gap}::s.elems.drop (i+2)).all elemFits=_
 rw[List.all_append,List.all_cons,tY h _ λx hx=>List.mem_of_mem_take hx,tY h _ λx hx=>List.mem_of_mem_drop hx]
 have g:=h.elems e' (List.mem_of_getElem? hj)
 have hc:(match e'.clear with|some q=>fits q|none=>true)=true:=by
  cases hc:e'.clear with
  |none=>rfl
  |some q=>exact(g.clear q hc).2
 simp[elemFits,g.iQ,g.je]
 exactλ_=>hc
theorem Qx{s:System_}(h:Good s){i:Nat}{e e':Elem}(hi:s.elems[i]?=some e)(hj:s.elems[i+1]?=some e')(hf:fits (e'.gap+e.gap)=true):Good {s with elems:=s.elems.take i++{e' with gap:=e'.gap+e.gap}::s.elems.drop (i+2)}:=by
 have hl:=h.el
 have bw:i+1<s.elems.length:=(List.getElem?_eq_some_iff.mp hj).1
 have g:=h.elems e' (List.mem_of_getElem? hj)
 have g0:=h.elems e (List.mem_of_getElem? hi)
 refine h.wF (by rw[List.length_append,List.length_cons,List.length_take,List.length_drop];omega) λx hx=>?_
 rcases List.mem_append.mp hx with q|q
 ·exact h.elems x (List.mem_of_mem_take q)
 ·rcases List.mem_cons.mp q with q|q
  ·rw[q];exact⟨g.name,Rat.add_nonneg g.gap g0.gap,hf,g.iQ,g.je,g.clear,g.halt_,g.into⟩
  ·exact h.elems x (List.mem_of_mem_drop q)
theorem Qy{s:System_}(h:Good s)(f:Rat):systemFits (scale f s)=s.elems.all λe=>fits (e.gap*f)&&(fits (e.curve*(1/f))&&fits (e.clear.getD 0*f)):=by
 rw[tX (t:=scale f s) h rfl]
 show(s.elems.map (scaleElem f)).all elemFits=_
 rw[List.all_map]
 have go:∀l:List Elem,(∀e∈l,e∈s.elems)→l.all (elemFits∘scaleElem f)=l.all λe=>fits (e.gap*f)&&(fits (e.curve*(1/f))&&fits (e.clear.getD 0*f)):=by
  intro l hl
  induction l with
  |nil=>rfl
  |cons e r ih=>
   rw[List.all_cons,List.all_cons,ih λx hx=>hl x (List.mem_cons_of_mem _ hx)]
   congr 1
   have g:=h.elems e (hl e (by simp))
   show elemFits (scaleElem f e)=_
   simp only[elemFits,scaleElem,g.je,Bool.true_and]
   rw[Rat.mul_comm f e.gap,show e.curve/f=e.curve*(1/f) by rw[Rat.div_def,Rat.div_def,Rat.one_mul]]
   cases hc:e.clear with
   |none=>simp only[Option.map_none,Option.getD_none,Rat.zero_mul,show fits 0=true by decide +kernel]
   |some q=>simp only[Option.map_some,Option.getD_some,Rat.mul_comm f q]
 exact go _ λ_ h=>h
theorem Qz{s:System_}(h:Good s){f:Rat}(hf:0<f)(ht:systemFits (scale f s)=true):Good (scale f s):=by
 rw[tX (t:=scale f s) h rfl]at ht
 have ht:(s.elems.map (scaleElem f)).all elemFits=true:=ht
 refine⟨h.gl,h.glasses,h.start,by show(s.elems.map _).length≤16;rw[List.length_map];exact h.el,λx hx=>?_⟩
 obtain⟨e,he,rfl⟩:=List.mem_map.mp (show x∈s.elems.map (scaleElem f)from hx)
 have g:=h.elems e he
 have ft:=List.all_eq_true.mp ht _ hx
 simp only[elemFits,scaleElem,Bool.and_eq_true]at ft
 refine⟨g.name,Rat.mul_nonneg (Rat.le_of_lt hf) g.gap,ft.1,ft.2.1,ft.2.2.1,λq e'=>?_,λz=>?_,g.into⟩
 ·have e':e.clear.map (λq=>f*q)=some q:=e'
  obtain⟨q0,h0,h1⟩:=Option.map_eq_some_iff.mp e'
  have fq:=ft.2.2.2
  rw[e']at fq
  subst h1
  exact⟨Rat.mul_pos hf (g.clear q0 h0).1,fq⟩
 ·have:=g.halt_ z
  exact⟨by show e.curve/f=0;rw[this.1,Rat.div_def,Rat.zero_mul],this.2⟩
theorem tZ{s:System_}(h:Good s):∀i,s.medium i<s.glasses.length
 |0=>h.start
 |i+1=>by
  unfold System_.medium
  cases hk:(s.elem i).kind with
  |surface g=>
   dsimp only
   unfold System_.elem at hk
   rw[List.getD_eq_getElem?_getD]at hk
   cases he:s.elems[i]? with
   |none=>rw[he]at hk;cases hk
   |some e=>
    rw[he]at hk
    exact(h.elems e (List.mem_of_getElem? he)).into g hk
  |mirror=>exact tZ h i
  |halt_=>exact tZ h i
theorem QB{s:System_}(h:Good s):Good (Ln.reverse s):=by
 refine⟨h.gl,h.glasses,tZ h _,?_,λx hx=>?_⟩
 ·show((List.range s.count).reverse.map (turned s)).length≤16
  rw[List.length_map,List.length_reverse,List.length_range]
  exact h.el
 ·obtain⟨i,hi,rfl⟩:=List.mem_map.mp (show x∈(List.range s.count).reverse.map (turned s)from hx)
  have hi:i<s.elems.length:=List.mem_range.mp (List.mem_reverse.mp hi)
  have el:∀j,j<s.elems.length→fg s.glasses.length (s.elem j):=λj hj=>by
   have:s.elem j=s.elems[j]:=by unfold System_.elem;rw[List.getD_eq_getElem?_getD,List.getElem?_eq_getElem hj];rfl
   rw[this]
   exact h.elems _ (List.getElem_mem hj)
  have g:=el i hi
  unfold turned
  dsimp only
  refine⟨g.name,?_,?_,?_,g.je,g.clear,λz=>?_,λm z=>?_⟩
  ·show 0≤(if i+1<s.count then(s.elem (i+1)).gap else 0)
   split
   ·rename_i q;exact(el _ q).gap
   ·exact Rat.le_refl
  ·show fits (if i+1<s.count then(s.elem (i+1)).gap else 0)=true
   split
   ·rename_i q;exact(el _ q).iB
   ·decide +kernel
  ·show fits (if s.mirrors s.count%2=0 then -(s.elem i).curve else(s.elem i).curve)=true
   split
   ·exact Ie g.iQ
   ·exact g.iQ
  ·have hk:(s.elem i).kind=.halt_:=by
    cases hk:(s.elem i).kind with
    |surface _=>simp only[hk]at z;cases z
    |mirror=>simp only[hk]at z;cases z
    |halt_=>rfl
   have q:=g.halt_ hk
   refine⟨?_,q.2⟩
   show(if s.mirrors s.count%2=0 then -(s.elem i).curve else(s.elem i).curve)=0
   rw[q.1]
   split
   ·rfl
   ·rfl
  ·cases hk:(s.elem i).kind with
   |surface _=>simp only[hk]at z;cases z;exact tZ h i
   |mirror=>simp only[hk]at z;cases z
   |halt_=>simp only[hk]at z;cases z
end LR
namespace LR
open Ln
def dO(b:Bytes)(i:Nat):Int:=match b[i]? with
 |some c=>(c.toNat:Int)
 |none=> -1
def gJ(z:Int):Bool:=decide (48≤z∧z≤57)
def gX(z:Int):Bool:=decide ((65≤z∧z≤90)∨(97≤z∧z≤122)∨z=95)
theorem Iy(c:UInt8):gJ (c.toNat:Int)=isDigit c:=by
 unfold gJ isDigit
 rw[Bool.eq_iff_iff,Bool.and_eq_true,decide_eq_true_eq,decide_eq_true_eq,decide_eq_true_eq,UInt8.le_iff_toNat_le,UInt8.le_iff_toNat_le]
 show _↔(48≤c.toNat∧c.toNat≤57)
 omega
theorem Iz(c:UInt8):gX (c.toNat:Int)=isLetter c:=by
 unfold gX isLetter
 rw[Bool.eq_iff_iff,Bool.or_eq_true,Bool.or_eq_true,Bool.and_eq_true,Bool.and_eq_true]
 simp only[decide_eq_true_eq,UInt8.le_iff_toNat_le,beq_iff_eq]
 rw[show(c=95)↔c.toNat=95 from⟨λh=>by rw[h];rfl,λh=>UInt8.toNat_inj.mp h⟩]
 show _↔(c.toNat=95∨(65≤c.toNat∧c.toNat≤90)∨(97≤c.toNat∧c.toNat≤122))
 omega
theorem Al(b:Bytes)(i:Nat):gJ (dO b i)=isAt isDigit b i:=by
 unfold dO isAt
 cases h:b[i]? with
 |none=>rfl
 |some c=>exact Iy c
theorem QC(b:Bytes)(i:Nat):gX (dO b i)=isAt isLetter b i:=by
 unfold dO isAt
 cases h:b[i]? with
 |none=>rfl
 |some c=>exact Iz c
theorem nG(b:Bytes)(i:Nat)(k:UInt8):decide (dO b i=(k.toNat:Int))=isAt (· ==k) b i:=by
 unfold dO isAt
 cases h:b[i]? with
 |none=>
  show decide ((-1:Int)=(k.toNat:Int))=false
  exact decide_eq_false (by omega)
 |some c=>
  show decide ((c.toNat:Int)=(k.toNat:Int))=(c==k)
  rw[Bool.eq_iff_iff,decide_eq_true_eq,beq_iff_eq,←UInt8.toNat_inj]
  omega
theorem QD(p q:UInt8→Bool)(b:Bytes)(i:Nat):(isAt p b i||isAt q b i)=isAt (λc=>p c||q c) b i:=by
 unfold isAt
 cases b[i]?<;>rfl
theorem qK{p:UInt8→Bool}{b:Bytes}{i:Nat}(h:isAt p b i=true):∃c,b[i]?=some c∧p c=true:=by
 unfold isAt at h
 cases e:b[i]? with
 |none=>rw[e]at h;cases h
 |some c=>rw[e]at h;exact⟨c,rfl,h⟩
theorem Am{p:UInt8→Bool}{b:Bytes}{i:Nat}(h:isAt p b i=true):i<b.length∧runEnd p b i=runEnd p b (i+1):=by
 obtain⟨c,e,hp⟩:=qK h
 exact⟨(List.getElem?_eq_some_iff.mp e).1,z6 e hp⟩
theorem IA{p:UInt8→Bool}{b:Bytes}{i:Nat}(h:isAt p b i=false):runEnd p b i=i:=by
 cases e:b[i]? with
 |none=>exact HH e
 |some c=>rw[iP e]at h;exact HG e h
theorem QE{b:Bytes}{i:Nat}(h:i≤b.length):lj b i≤b.length:=wq _ _ h
def iR(x:(Nat×Nat)×Bool)(c:UInt8):(Nat×Nat)×Bool:=if c=46 then(x.1,true)else((x.1.1*10+(c.toNat-48),if x.2=true then x.1.2*10 else x.1.2),x.2)
theorem wG:∀(a:Bytes) (n d:Nat) (pt:Bool),(∀c∈a,isDigit c=true)→a.foldl iR ((n,d),pt)=((digitsVal n a,if pt=true then d*10^a.length else d),pt)
 |[],n,d,pt,_=>by cases pt<;>simp[digitsVal]
 |c::r,n,d,pt,h=>by
  have hc:=h c (by simp)
  have ll:¬c=46:=by rintro rfl;revert hc;decide
  rw[List.foldl_cons]
  show r.foldl iR (iR ((n,d),pt) c)=_
  rw[show iR ((n,d),pt) c=((n*10+(c.toNat-48),if pt=true then d*10 else d),pt) by unfold iR;rw[if_neg ll],wG r _ _ pt λc hc=>h c (List.mem_cons_of_mem _ hc)]
  show((digitsVal (n*10+(c.toNat-48)) r,_),pt)=((digitsVal (10*n+(c.toNat-48)) r,_),pt)
  rw[Nat.mul_comm n 10]
  cases pt with
  |true=>simp only[if_true,List.length_cons,Nat.pow_succ];rw[Nat.mul_assoc,Nat.mul_comm 10 (10^r.length)]
  |false=>rfl
theorem QF(a:Bytes)(h:∀c∈a,isDigit c=true):a.foldl iR ((0,1),false)=((natural a,1),false):=by
 rw[wG a 0 1 false h]
 rfl
theorem QG(a z:Bytes)(h:∀c∈a,isDigit c=true)(hz:∀c∈z,isDigit c=true):(a++46::z).foldl iR ((0,1),false)=((natural (a++z),10^z.length),true):=by
 rw[List.foldl_append,wG a 0 1 false h,List.foldl_cons]
 show z.foldl iR ((digitsVal 0 a,1),true)=_
 rw[wG z _ _ true hz]
 show((digitsVal (digitsVal 0 a) z,1*10^z.length),true)=_
 rw[Nat.one_mul]
 unfold digitsVal natural
 rw[List.foldl_append]
end LR
namespace LR
open Ln
def o8(r:Bytes):Rat:=(((r.foldl iR ((0,1),false)).1.1:Nat):Rat)/(((r.foldl iR ((0,1),false)).1.2:Nat):Rat)
theorem QI(b:Bytes)(i:Nat):∀c∈(b.drop i).take (runEnd isDigit b i-i),isDigit c=true:=by
 rw[←tM]
 exact takeWhile_all _ _
theorem IB{b:Bytes}{i:Nat}(ll:isAt (· ==46) b (runEnd isDigit b i)=true):
  (b.drop i).take (runEnd isDigit b (runEnd isDigit b i+1)-i)=(b.drop i).takeWhile isDigit++46::(b.drop (runEnd isDigit b i+1)).takeWhile isDigit:=by
 obtain⟨c,hc,e⟩:=qK ll
 have e:c=46:=by simpa using e
 subst e
 have g1:=nz isDigit b i
 have g2:=nz isDigit b (runEnd isDigit b i+1)
 rw[tM isDigit b i,tM isDigit b (runEnd isDigit b i+1)]
 have e1:runEnd isDigit b (runEnd isDigit b i+1)-i=(runEnd isDigit b i-i)+(1+(runEnd isDigit b (runEnd isDigit b i+1)-(runEnd isDigit b i+1))):=by omega
 rw[e1,List.take_add,List.drop_drop,show i+(runEnd isDigit b i-i)=runEnd isDigit b i by omega,jx hc,Nat.add_comm 1,List.take_succ_cons]
theorem QJ{b:Bytes}{i:Nat}(ll:isAt (· ==46) b (runEnd isDigit b i)=true):
  o8 ((b.drop i).take (runEnd isDigit b (runEnd isDigit b i+1)-i))=(natural ((b.drop i).takeWhile isDigit++(b.drop (runEnd isDigit b i+1)).takeWhile isDigit):Rat)/((10^(runEnd isDigit b (runEnd isDigit b i+1)-(runEnd isDigit b i+1)):Nat):Rat):=by
 unfold o8
 rw[IB ll,QG _ _ (takeWhile_all _ _) (takeWhile_all _ _),tQ]
theorem QK(b:Bytes)(i:Nat):o8 ((b.drop i).take (runEnd isDigit b i-i))=(natural ((b.drop i).takeWhile isDigit++[]):Rat):=by
 unfold o8
 rw[←tM,QF _ (takeWhile_all _ _),List.append_nil]
 show((natural _:Nat):Rat)/((1:Nat):Rat)=_
 rw[show((1:Nat):Rat)=1 from rfl,Rat.div_def,show(1:Rat)⁻¹=1 by decide +kernel,Rat.mul_one]
theorem QL{b:Bytes}{i:Nat}{c:UInt8}(hc:b[i]?=some c)(hd:isDigit c=true):tokenIn (b.drop i)=tR b i:=by
 rw[←HM,jx hc]
 unfold tokenIn
 dsimp only
 have hl:isLetter c=false:=by
  unfold isDigit at hd
  unfold isLetter
  simp only[Bool.and_eq_true,decide_eq_true_eq,UInt8.le_iff_toNat_le]at hd
  have h1:48≤c.toNat:=hd.1
  have h2:c.toNat≤57:=hd.2
  rw[Bool.or_eq_false_iff,Bool.or_eq_false_iff]
  refine⟨?_,?_,?_⟩
  ·rw[beq_eq_false_iff_ne]
   rintro rfl
   revert h2
   decide
  ·rw[Bool.and_eq_false_iff]
   left
   refine decide_eq_false λz=>?_
   have:65≤c.toNat:=UInt8.le_iff_toNat_le.mp z
   omega
  ·rw[Bool.and_eq_false_iff]
   left
   refine decide_eq_false λz=>?_
   have:97≤c.toNat:=UInt8.le_iff_toNat_le.mp z
   omega
 rw[hl,if_neg (by simp),if_pos hd]
theorem QM{b:Bytes}{i:Nat}{c:UInt8}(hc:b[i]?=some c)(hl:isLetter c=false)(hd:isDigit c=false):tokenIn (b.drop i)=if isMark c=true then(.mark c,1)else(.broken,0):=by
 rw[jx hc]
 unfold tokenIn
 dsimp only
 rw[hl,if_neg (by simp),hd,if_neg (by simp)]
end LR
namespace LR
open Ln PySem
theorem wH{b:Bytes}{i:Nat}{Qo:Lex→List Lex→Prop}{Qe:Ln.Fault→Prop}:bj peek (rest b i) Qo Qe↔((aL b i).tok=.broken→Qe (1,(aL b i).at_))∧((aL b i).tok≠.broken→Qo (aL b i) (rest b i)):=by
 obtain⟨tl,iS⟩:∃tl,rest b i=aL b i::tl:=⟨_,rest_eq b i⟩
 unfold bj peek
 rw[iS]
 dsimp only
 cases ht:(aL b i).tok<;>simp
theorem IC{b:Bytes}{i:Nat}(h:gG (aL b i).tok=false):(rest b i).drop 1=rest b (bp b i):=by
 rw[rest_eq b i,if_neg (by rw[h];simp)]
 rfl
theorem An{ks:List Str}{b:Bytes}{i:Nat}{Qo:Lex→List Lex→Prop}{Qe:Ln.Fault→Prop}:bj (et ks) (rest b i) Qo Qe↔((aL b i).tok=.broken→Qe (1,(aL b i).at_))∧((aL b i).tok≠.broken→if ks.contains (aO (aL b i).tok)=true then Qo (aL b i) (rest b i)else Qe (2,(aL b i).at_)):=by
 unfold et
 rw[bJ,wH]
 refine and_congr_right λ_=>?_
 refine imp_congr_right λ_=>?_
 rw[bJ,gH]
 rfl
theorem ID{ks:List Str}{b:Bytes}{i:Nat}{Qo:Lex→List Lex→Prop}{Qe:Ln.Fault→Prop}:bj (bL ks) (rest b i) Qo Qe↔((aL b i).tok=.broken→Qe (1,(aL b i).at_))∧((aL b i).tok≠.broken→if ks.contains (aO (aL b i).tok)=true then Qo (aL b i) ((rest b i).drop 1)else Qe (2,(aL b i).at_)):=by
 unfold bL
 rw[bJ,An]
 rfl
theorem QO(t:Ln.Tok)(h:gG t=true):aO t=Str.ofString "end"∨aO t=Str.ofString "":=by
 cases t<;>first|(exact .inl rfl)|(exact .inr rfl)|cases h
theorem QP{b:Bytes}{i:Nat}(h:i≤b.length)(hb:(aL b i).tok≠.broken):bp b i≤b.length:=by
 cases hs:gG (aL b i).tok with
 |false=>exact PY h hs
 |true=>
  have he:(tokenIn (b.drop (bR b i))).1=.end_:=by
   have:(aL b i).tok=.end_:=by
    cases ht:(aL b i).tok<;>first|rfl|(exact absurd ht hb)|(rw[ht]at hs;cases hs;done)
   exact this
  have h0:(tokenIn (b.drop (bR b i))).2=0:=by
   cases hd:b.drop (bR b i)with
   |nil=>rfl
   |cons c r=>
    exfalso
    rw[hd]at he
    unfold tokenIn at he
    dsimp only at he
    split at he
    ·split at he
     ·cases he
     ·split at he<;>cases he
    ·split at he
     ·unfold numberIn at he
      dsimp only at he
      split at he<;>(split at he<;>cases he)
     ·split at he<;>cases he
  unfold bp
  rw[h0]
  exact z8 h
theorem IE{ks:List Str}{t:Ln.Tok}(h:ks.contains (aO t)=true)(h1:ks.contains (Str.ofString "end")=false)(h2:ks.contains (Str.ofString "")=false):gG t=false:=by
 cases hs:gG t with
 |false=>rfl
 |true=>
  rcases QO t hs with e|e
  ·rw[e,h1]at h;cases h
  ·rw[e,h2]at h;cases h
end LR
namespace LR
open Ln PySem
def wI(names:List Bytes):P Bytes:=andThen (bL [Str.ofString "name"]) λx=>andThen (need (!names.contains (nameOf x.tok)) 3 x.at_) λ_=>done (nameOf x.tok)
def t5(names:List Bytes):P Nat:=andThen (bL [Str.ofString "name"]) λx=>match names.idxOf? (nameOf x.tok)with
 |some i=>done i
 |none=>halt 4 x.at_
theorem IF(l:List Glass){t:List Lex}(h:Toks t):glassNamed l t=t5 (l.map λ(g:Glass)=>g.name) t:=by
 unfold glassNamed t5
 rw[HW _ h]<;>rfl
theorem QR{α:Type}(f:α→Bytes)(l:List α)(n:Bytes):(l.all λg=>f g !=n)=!(l.map f).contains n:=by
 induction l with
 |nil=>rfl
 |cons a r ih=>
  rw[List.all_cons,List.map_cons,List.contains_cons,ih,Bool.not_or]
  congr 1
  show(!(f a==n))=!(n==f a)
  rw[show(f a==n)=(n==f a)from BEq.comm]
theorem IG{α β:Type}(nm:α→Bytes)(l:List α)(f:Bytes→P β){t:List Lex}(h:Toks t):andThen name (λn=>andThen (need (l.all λg=>nm g !=n.2) 3 n.1) λ_=>f n.2) t=andThen (wI (l.map nm)) f t:=by
 rw[HW _ h]
 unfold wI
 rw[eD]
 congr 1
 funext x
 rw[eD,QR]
 rfl
def t6:P Rat:=ifWord "conic" value (done 0)
theorem QS:shape=andThen curveIn λc=>andThen t6 λk=>done (c,k):=by
 unfold shape t6
 congr 1
 funext c l
 unfold ifWord andThen
 cases peek l with
 |error e=>rfl
 |ok y=>
  dsimp only
  split
  ·dsimp only
   unfold pass
   first
    |(dsimp only
      cases value (List.drop 1 y.2)<;>rfl)
    |(cases value (List.drop 1 y.2)<;>rfl)
  ·rfl
def semi:Str:=strOf [59]
def t8:P Rat:=ifWord "clear" (andThen number λq=>andThen (et [semi]) λx=>andThen (need (q !=0) 6 x.at_) λ_=>done q) (done 0)
def o9(q:Rat):Option Rat:=if q=0 then none else some q
theorem IH(b:Bytes)(i:Nat):Nums (rest b i):=H_ _ _ _
theorem QT{l r:List Lex}{q:Rat}(h:Nums l)(e:number l=.ok (q,r)):Toks r:=(o6 _ _ _ h e).2.toks
theorem II{α:Type}{c:UInt8}(hc:c∈marks)(ok:Bool)(f:P α){l:List Lex}(h:Toks l):andThen (mark c) (λe=>andThen (need ok 6 e) λ_=>f) l=andThen (et [strOf [c]]) (λx=>andThen (need ok 6 x.at_) λ_=>andThen (bL [strOf [c]]) λ_=>f) l:=by
 rw[wB hc _ h,l0]
 unfold et
 rw[eD]
 refine jy λx r e=>?_
 rw[eD]
 refine o5 λu r' hn=>?_
 obtain⟨er,hk⟩:=HX hn
 rw[er,HV]
 cases ok with
 |false=>rfl
 |true=>
  show f (l.drop 1)=andThen (bL [strOf [c]]) (λ_=>f) l
  have tk:bL [strOf [c]] l=.ok (x,l.drop 1):=by
   subst e
   obtain⟨xa,xt⟩:=x
   cases xt with
   |broken=>
    exfalso
    rw[fM,decide_eq_true_eq]at hk
    exact j_ c hc (Str.ofString "") (by decide +kernel) hk
   |_=>simp[bL,et,andThen,peek,need,pass,done,halt,hk,-List.contains_eq_mem]
  unfold andThen
  rw[tk]
theorem QU{l:List Lex}(h:Toks l)(hn:Nums l):clearEnd l=andThen t8 (λq=>andThen (bL [semi]) λ_=>done (o9 q)) l:=by
 unfold clearEnd t8
 rw[tT (by decide) _ _ h]
 unfold ifWord
 rw[eD]
 refine jy λx r e=>?_
 have hx:=h x (by rw[e];simp)
 rw[j0 hx (by decide)]
 by_cases k:aO x.tok=Str.ofString "clear"
 ·rw[if_pos k,decide_eq_true k,if_pos rfl,eD]
  have nb:x.tok≠.broken:=λz=>by
   rw[z]at k
   exact absurd k (by decide +kernel)
  have tk:bL [Str.ofString "clear"] l=.ok (x,l.drop 1):=by
   subst e
   obtain⟨xa,xt⟩:=x
   have hk:([Str.ofString "clear"]:List Str).contains (aO xt)=true:=by rw[fM,decide_eq_true k]
   cases xt with
   |broken=>exact absurd rfl nb
   |_=>simp[bL,et,andThen,peek,need,pass,done,halt,hk,-List.contains_eq_mem]
  have hd:Toks (l.drop 1):=h.drop 1
  have nH:Nums (l.drop 1):=λy hy=>hn y (List.mem_of_mem_drop hy)
  have lhs:andThen (bL [Str.ofString "clear"]) (λ_=>andThen number λq=>andThen (mark 59) λe=>andThen (need (decide (0<q)) 6 e) λ_=>done (some q)) l=andThen number (λq=>andThen (mark 59) λe=>andThen (need (decide (0<q)) 6 e) λ_=>done (some q)) (l.drop 1):=by
   conv=>lhs;unfold andThen
   rw[tk]
   rfl
  rw[lhs]
  show _=andThen (andThen number λq=>andThen (et [semi]) λx=>andThen (need (q !=0) 6 x.at_) λ_=>done q) (λq=>andThen (bL [semi]) λ_=>done (o9 q)) (l.drop 1)
  rw[eD]
  refine o5 λq r2 hq=>?_
  have gv:=(o6 _ _ _ nH hq).1
  rw[II (by decide) _ _ (QT nH hq),eD]
  have e0:decide (0<q)=(q !=0):=by
   rw[Bool.eq_iff_iff,decide_eq_true_eq,bne_iff_ne]
   exact⟨λz=>(Rat.ne_of_gt z),λz=>Rat.lt_of_le_of_ne gv.1 (Ne.symm z)⟩
  rw[e0]
  congr 1
  funext y
  rw[eD]
  by_cases q0:q=0
  ·subst q0
   rfl
  ·show _=andThen (need (q !=0) 6 y.at_) λ_=>andThen (bL [semi]) λ_=>done (o9 q)
   rw[show o9 q=some q from if_neg q0]
   rfl
 ·rw[if_neg k,decide_eq_false k,if_neg (by simp),HV,wB (by decide) _ h]
  rfl
def t_:P Rat:=andThen (bL [Str.ofString "flat",Str.ofString "curve",Str.ofString "radius"]) λx=>if aO x.tok=Str.ofString "flat" then done 0 else andThen value λq=>if aO x.tok=Str.ofString "curve" then done q else
 andThen (et [Str.ofString "conic",Str.ofString "clear",semi]) λy=>andThen (need (q !=0) 6 y.at_) λ_=>done (1/q)
theorem QV{ks:List Str}{x:Lex}{r:List Lex}(nb:x.tok≠.broken)(hk:ks.contains (aO x.tok)=true):bL ks (x::r)=.ok (x,r):=by
 obtain⟨xa,xt⟩:=x
 cases xt with
 |broken=>exact absurd rfl nb
 |_=>simp[bL,et,andThen,peek,need,pass,done,halt,hk,-List.contains_eq_mem]
theorem qL{β:Type}{ks:List Str}{x:Lex}{r:List Lex}(nb:x.tok≠.broken)(hk:ks.contains (aO x.tok)=true)(f:Lex→P β):andThen (bL ks) f (x::r)=f x r:=by
 conv=>lhs;unfold andThen
 rw[QV nb hk]
theorem IJ{β:Type}{ks:List Str}{x:Lex}{r:List Lex}(nb:x.tok≠.broken)(hk:ks.contains (aO x.tok)=false)(f:Lex→P β):andThen (bL ks) f (x::r)=.error (2,x.at_):=by
 obtain⟨xa,xt⟩:=x
 cases xt with
 |broken=>exact absurd rfl nb
 |_=>simp[bL,et,andThen,peek,need,pass,done,halt,hk,-List.contains_eq_mem]
theorem QW{l r:List Lex}{q:Rat}(h:Nums l)(e:value l=.ok (q,r)):Toks r:=(wD _ _ _ h e).2.toks
theorem QX{x:Lex}(h:h_ x.tok):(x.isWord "conic"||(x.isWord "clear"||x.isMark 59))=([Str.ofString "conic",Str.ofString "clear",semi]:List Str).contains (aO x.tok):=by
 rw[j0 h (by decide),j0 h (by decide),Ac h (by decide),List.contains_cons,List.contains_cons,fM]
 simp only[Bool.beq_eq_decide_eq,beq_iff_eq]
 first
  |rfl
  |(congr 1;rw[Bool.beq_eq_decide_eq])
  |(simp[Bool.eq_iff_iff];done)
theorem QY{l:List Lex}(hn:Nums l):curveIn l=t_ l:=by
 have h:=hn.toks
 unfold curveIn
 rw[tT (by decide) _ _ h]
 cases l with
 |nil=>rfl
 |cons x r=>
  have hx:=h x (by simp)
  by_cases nb:x.tok=.broken
  ·obtain⟨xa,xt⟩:=x
   obtain rfl:xt=.broken:=nb
   rfl
  ·have pk:∀{β:Type} (f:Lex→P β),andThen peek f (x::r)=f x (x::r):=λf=>by
    obtain⟨xa,xt⟩:=x
    cases xt with
    |broken=>exact absurd rfl nb
    |_=>rfl
   have QZ:Nums r:=λy hy=>hn y (List.mem_cons_of_mem _ hy)
   rw[pk]
   unfold t_
   by_cases kf:aO x.tok=Str.ofString "flat"
   ·rw[if_pos kf,qL nb (by rw[fM,decide_eq_true kf]),qL nb (by rw[kf];decide +kernel),if_pos kf]
   ·rw[if_neg kf,tT (by decide) _ _ h,pk]
    by_cases kc:aO x.tok=Str.ofString "curve"
    ·rw[if_pos kc,qL nb (by rw[fM,decide_eq_true kc]),qL nb (by rw[kc];decide +kernel),if_neg kf]
     show value r=andThen value _ r
     unfold andThen
     cases hv:value r with
     |error e=>rfl
     |ok y=>
      dsimp only
      rw[if_pos kc]
      rfl
    ·rw[if_neg kc,tS (by decide) _ h]
     by_cases kr:aO x.tok=Str.ofString "radius"
     ·rw[qL nb (by rw[fM,decide_eq_true kr]),qL nb (by rw[kr];decide +kernel),if_neg kf]
      refine o5 λq r2 hq=>?_
      rw[if_neg kc]
      unfold et
      rw[eD]
      refine jy λy r3 e3=>?_
      rw[eD,QX (QW QZ hq y (by rw[e3];simp))]
      rfl
     ·rw[IJ nb (by rw[fM,decide_eq_false kr]),IJ nb ?_]
      rw[List.contains_cons,List.contains_cons,fM,decide_eq_false kr,Bool.or_false,Bool.or_eq_false_iff]
      exact⟨beq_eq_false_iff_ne.mpr kf,beq_eq_false_iff_ne.mpr kc⟩
end LR
namespace LR
open Ln PySem
def ua(n:Bytes):List Rat→P Glass
 |[]=>andThen (index 44) λa=>andThen (index 44) λb=>andThen (index 59) λc=>done ⟨n,[a,b,c]⟩
 |[a]=>andThen (index 44) λb=>andThen (index 59) λc=>done ⟨n,[a,b,c]⟩
 |[a,b]=>andThen (index 59) λc=>done ⟨n,[a,b,c]⟩
 |l=>done ⟨n,l⟩
def ka(k:Nat):UInt8:=if k<2 then 44 else 59
theorem Q1(n:Bytes)(qs:List Rat)(h:qs.length<3):ua n qs=andThen (index (ka qs.length)) λq=>ua n (qs++[q]):=by
 match qs,h with
 |[],_=>rfl
 |[a],_=>rfl
 |[a,b],_=>rfl
theorem Q2(n:Bytes)(qs:List Rat)(h:qs.length=3):ua n qs=done ⟨n,qs⟩:=by
 match qs,h with
 |[a,b,c],_=>rfl
theorem IK(k:Nat):ka k∈marks:=by
 unfold ka
 split<;>decide
end LR
namespace LR
open Ln PySem
def qM:List Str:=[Str.ofString "surface",Str.ofString "mirror",Str.ofString "stop"]
theorem Q4{x:Lex}(h:h_ x.tok):(x.isWord "surface"||(x.isWord "mirror"||x.isWord "stop"))=qM.contains (aO x.tok):=by
 unfold qM
 rw[j0 h (by decide),j0 h (by decide),j0 h (by decide),List.contains_cons,List.contains_cons,fM]
 simp only[Bool.beq_eq_decide_eq,beq_iff_eq]
theorem Q5{β:Type}(c:Bool)(f:Lex→P β){l:List Lex}(h:Toks l):andThen peek (λx=>andThen (need (x.isWord "surface"||(x.isWord "mirror"||x.isWord "stop")) 2 x.at_) λ_=>andThen (need c 5 x.at_) λ_=>andThen pass λ_=>f x) l=andThen (bL qM) (λx=>andThen (need c 5 x.at_) λ_=>f x) l:=by
 rw[l0]
 refine jy λx r e=>?_
 rw[Q4 (h x (by rw[e];simp))]
 cases c with
 |true=>rfl
 |false=>
  refine o5 λu r' hn=>?_
  rfl
def qN(n:Bytes)(g:Rat)(kd:Ln.Kind):P Elem:=if kd.isStop=true then andThen clearEnd λc=>done ⟨n,g,kd,0,0,c⟩else andThen shape λs=>andThen clearEnd λc=>done ⟨n,g,kd,s.1,s.2,c⟩
def IL(gl:List Glass)(n:Bytes)(g:Rat):P Elem:=andThen (word "into") λ_=>andThen (glassNamed gl) λm=>qN n g (.surface m)
theorem IM(gl:List Glass){x:Lex}(h:h_ x.tok)(hk:qM.contains (aO x.tok)=true)(n:Bytes)(g:Rat):
  (aO x.tok=Str.ofString "surface"∧elemRest gl x n g=IL gl n g)∨(aO x.tok≠Str.ofString "surface"∧aO x.tok=Str.ofString "mirror"∧elemRest gl x n g=qN n g .mirror)∨
  (aO x.tok≠Str.ofString "surface"∧aO x.tok≠Str.ofString "mirror"∧aO x.tok=Str.ofString "stop"∧elemRest gl x n g=qN n g .halt_):=by
 unfold elemRest
 rw[j0 h (by decide),j0 h (by decide)]
 by_cases c1:aO x.tok=Str.ofString "surface"
 ·exact .inl ⟨c1,by rw[if_pos (decide_eq_true c1)];rfl⟩
 by_cases c2:aO x.tok=Str.ofString "mirror"
 ·exact .inr (.inl ⟨c1,c2,by rw[if_neg (by rw[decide_eq_true_eq];exact c1),if_pos (decide_eq_true c2)];rfl⟩)
 have c3:aO x.tok=Str.ofString "stop":=by
  unfold qM at hk
  rw[List.contains_cons,List.contains_cons,fM,beq_eq_false_iff_ne.mpr c1,beq_eq_false_iff_ne.mpr c2]at hk
  simpa using hk
 exact .inr (.inr ⟨c1,c2,c3,by rw[if_neg (by rw[decide_eq_true_eq];exact c1),if_neg (by rw[decide_eq_true_eq];exact c2)];rfl⟩)
theorem IP(q:Rat):(o9 q).getD 0=q:=by
 unfold o9
 split
 ·rename_i h;rw[h];rfl
 ·rfl
end LR
namespace LR
open Ln PySem
def b4(s:System_)(i:Nat):Int:=if s.mirrors i%2=0 then 1 else -1
theorem wJ(s:System_)(i:Nat):b4 s i=1∨b4 s i= -1:=by
 unfold b4
 split
 ·exact .inl rfl
 ·exact .inr rfl
theorem Q7(s:System_):b4 s 0=1:=by
 unfold b4 System_.mirrors
 simp
theorem IQ(s:System_)(i:Nat):s.sign i=((b4 s i:Int):Rat):=by
 unfold System_.sign b4
 split
 ·rfl
 ·rfl
theorem Q8{s:System_}{i:Nat}{e:Elem}(h:s.elems[i]?=some e):s.mirrors (i+1)=s.mirrors i+if e.kind.isMirror=true then 1 else 0:=by
 unfold System_.mirrors
 rw[List.take_add_one,h,List.filter_append,List.length_append]
 congr 1
 show(List.filter (λe=>e.kind.isMirror) [e]).length=_
 rw[List.filter_cons]
 split<;>rfl
theorem Q9{s:System_}{i:Nat}{e:Elem}(h:s.elems[i]?=some e):b4 s (i+1)=if e.kind.isMirror=true then -b4 s i else b4 s i:=by
 unfold b4
 rw[Q8 h]
 by_cases k:e.kind.isMirror=true
 ·rw[if_pos k,if_pos k]
  by_cases z:s.mirrors i%2=0
  ·rw[if_pos z,if_neg (by omega)]
  ·rw[if_neg z,if_pos (by omega)];rfl
 ·rw[if_neg k,if_neg k,Nat.add_zero]
theorem l7{s:System_}{i:Nat}{e:Elem}(h:s.elems[i]?=some e):s.elem i=e:=by
 unfold System_.elem
 rw[List.getD_eq_getElem?_getD,h];rfl
theorem Q_{s:System_}{i:Nat}{e:Elem}(h:s.elems[i]?=some e):s.medium (i+1)=match e.kind with
  |.surface g=>g
  |_=>s.medium i:=by
 conv=>lhs;unfold System_.medium
 rw[l7 h]
 cases e.kind<;>rfl
def iT(s:System_)(k:Nat):Rat:=((List.range k).map λ(j:Nat)=>s.gap j).foldl (λ(a b:Rat)=>a+b) 0
theorem IS(s:System_)(k:Nat):iT s (k+1)=iT s k+s.gap k:=by
 unfold iT
 rw[List.range_succ,List.map_append,List.foldl_append]
 rfl
theorem Ra(a b:Rat):(((a.num*(b.den:Int)+b.num*(a.den:Int):Int):Rat)/((a.den*b.den:Nat):Rat))=a+b:=HR a b
theorem Rb(a b:Rat):(a+b).den≤a.den*b.den:=by
 rw[←Ra a b,wu _ (Nat.mul_ne_zero a.den_nz b.den_nz)]
 exact Nat.div_le_self _ _
theorem IT(s:System_)(i:Nat)(q:Rat):(((b4 s i:Int):Rat)*q).den=q.den∧(((b4 s i:Int):Rat)*q).num=b4 s i*q.num:=by
 rcases wJ s i with h|h
 ·rw[h]
  have e:(((1:Int):Rat)*q)=q:=Rat.one_mul q
  rw[e]
  exact⟨rfl,by omega⟩
 ·rw[h]
  have e:(((-1:Int):Rat)*q)= -q:=by
   rw[show(((-1:Int):Rat))= -1 from rfl,Rat.neg_mul,Rat.one_mul]
  rw[e]
  exact⟨rfl,by show -q.num= -1*q.num;omega⟩
theorem IU{s:System_}{i:Nat}{e:Elem}(h:s.elems[i]?=some e):(s.gap i).den=e.gap.den∧s.gap i=((b4 s i:Int):Rat)*e.gap:=by
 unfold System_.gap
 rw[l7 h,IQ]
 exact⟨(IT s i _).1,rfl⟩
theorem IV{s:System_}(g:Good s):∀k,k≤s.elems.length→(iT s k).den≤(10^18)^k
 |0,_=>Nat.le_refl 1
 |k+1,h=>by
  have e:s.elems[k]?=some s.elems[k]:=List.getElem?_eq_getElem (by omega)
  rw[IS,Nat.pow_succ]
  refine Nat.le_trans (Rb _ _) (Nat.mul_le_mul (IV g k (by omega)) ?_)
  rw[(IU e).1]
  have:=(g.elems _ (List.mem_of_getElem? e)).iB
  unfold fits at this
  rw[Bool.and_eq_true,decide_eq_true_eq,decide_eq_true_eq]at this
  exact Nat.le_of_lt this.2
theorem Rc{s:System_}(g:Good s){k:Nat}(h:k≤s.elems.length):(iT s k).den<2^7000:=by
 have iU:s.elems.length≤16:=g.el
 refine Nat.lt_of_le_of_lt (Nat.le_trans (IV g k h) (Nat.pow_le_pow_right (by decide) (show k≤16 by omega))) ?_
 decide +kernel
end LR
namespace LR
open Ln PySem
theorem Rf{s:System_}{i:Nat}{g:Glass}{a b c:Rat}(h:s.glasses[s.medium i]?=some g)(e:g.index=[a,b,c]):indices s i=g.index.map λq=>((b4 s i:Int):Rat)*q:=by
 unfold indices LINES
 have gi:∀l,s.index l i=((b4 s i:Int):Rat)*(g.index.getD l 1):=λl=>by
  unfold System_.index System_.glassIndex
  rw[IQ,List.getD_eq_getElem?_getD (l:=s.glasses.map _),List.getElem?_map,h]
  rfl
 rw[show List.range 3=[0,1,2]from rfl]
 simp only[List.map_cons,List.map_nil]
 rw[gi,gi,gi,e]
 rfl
theorem Rg{s:System_}{i:Nat}{q:Rat}(h:fits q=true):(((b4 s i:Int):Rat)*q).num.natAbs<10^18∧(((b4 s i:Int):Rat)*q).den<10^18:=by
 unfold fits at h
 rw[Bool.and_eq_true,decide_eq_true_eq,decide_eq_true_eq]at h
 obtain⟨h1,h2⟩:=IT s i q
 rw[h1,h2]
 refine⟨?_,h.2⟩
 rcases wJ s i with z|z
 ·rw[z,Int.one_mul];exact h.1
 ·rw[z,show(-1:Int)*q.num= -q.num by omega,Int.natAbs_neg];exact h.1
end LR
namespace LR
open Ln PySem
theorem Ri(f:Rat)(e:Elem):(scaleElem f e).gap=e.gap*f:=Rat.mul_comm _ _
theorem Rj(f:Rat)(e:Elem):(scaleElem f e).curve=e.curve*(1/f):=by
 show e.curve/f=e.curve*(1/f)
 rw[Rat.div_def,Rat.div_def,Rat.one_mul]
theorem Rk(f:Rat)(e:Elem):(scaleElem f e).clear.getD 0=e.clear.getD 0*f:=by
 show(e.clear.map λq=>f*q).getD 0=_
 cases e.clear with
 |none=>exact(Rat.zero_mul f).symm
 |some q=>exact Rat.mul_comm _ _
def kb(f:Rat)(l:List Elem)(k:Nat):List Elem:=(l.take k).map (scaleElem f)++l.drop k
theorem Rl{f:Rat}{l:List Elem}{k:Nat}{e:Elem}(h:l[k]?=some e):(kb f l k)[k]?=some e:=by
 have hk:=(List.getElem?_eq_some_iff.mp h).1
 unfold kb
 rw[List.getElem?_append_right (by rw[List.length_map,List.length_take];omega),List.length_map,List.length_take,List.getElem?_drop,show k+(k-min k l.length)=k by omega]
 exact h
theorem Rm{f:Rat}{l:List Elem}{k:Nat}{e:Elem}(h:l[k]?=some e):(kb f l k).set k (scaleElem f e)=kb f l (k+1):=by
 have hk:=(List.getElem?_eq_some_iff.mp h).1
 unfold kb
 rw[List.set_append_right _ _ (by rw[List.length_map,List.length_take];omega),List.length_map,List.length_take,show k-min k l.length=0 by omega,List.take_add_one,h,List.map_append,List.append_assoc]
 congr 1
 rw[List.drop_eq_getElem_cons hk]
 rfl
theorem Rn(f:Rat)(l:List Elem):kb f l l.length=l.map (scaleElem f):=by
 unfold kb
 rw[List.take_length,List.drop_length,List.append_nil]
theorem IW{p:Int}{q:Nat}(hp:0<p)(hq:q≠0):(p:Rat)/(q:Rat)≠0:=λz=>by
 have h:=tO p hq
 rw[z]at h
 have h0:(0:Rat).num=0:=rfl
 rw[h0]at h
 have hd:(Nat.gcd p.natAbs q:Int)∣p:=Int.ofNat_dvd_left.mpr (Nat.gcd_dvd_left _ _)
 have:p=0:=by
  have e:=Int.ediv_mul_cancel hd
  rw[←h,Int.zero_mul]at e
  exact e.symm
 omega
theorem Ro{p:Int}{q:Nat}(hp:p.natAbs<2^64)(hq:q≠0)(l8:q<2^64):((p:Rat)/(q:Rat)).num.natAbs<2^64∧((p:Rat)/(q:Rat)).den<2^64:=by
 rw[tO p hq,wu p hq]
 refine⟨?_,Nat.lt_of_le_of_lt (Nat.div_le_self _ _) l8⟩
 rw[Int.natAbs_ediv_of_dvd (Int.ofNat_dvd_left.mpr (Nat.gcd_dvd_left _ _))]
 exact Nat.lt_of_le_of_lt (Nat.div_le_self _ _) hp
end LR
namespace LR
open Ln PySem
theorem lp(a b:Row):textOf (a++b)=textOf a++textOf b:=List.flatMap_append
theorem wK(t:Bytes):textOf [t]=t++[if t=[59]then 10 else 32]:=by
 unfold textOf
 simp
theorem Rq{c:Char}(h:c.isDigit=true):c.toNat<256:=by
 unfold Char.isDigit at h
 rw[Bool.and_eq_true,decide_eq_true_eq,decide_eq_true_eq]at h
 have h2:c.val.toNat≤57:=UInt32.le_iff_toNat_le.mp h.2
 exact Nat.lt_of_le_of_lt h2 (by decide)
theorem IX(n:Nat):Str.ofString (toString ((n:Nat):Int))=strOf (decimal n):=by
 rw[Str.ofString_eq_toList]
 unfold strOf decimal
 congr 2
 show(Nat.repr n).toList.map Char.toNat=_
 rw[show(Nat.repr n).toList=Nat.toDigits 10 n by simp[Nat.repr],List.map_map]
 refine List.map_congr_left λc hc=>?_
 show c.toNat=(UInt8.ofNat c.toNat).toNat
 have:=Rq (Nat.isDigit_of_mem_toDigits (by decide) (by decide) hc)
 rw[UInt8.toNat_ofNat',Nat.mod_eq_of_lt (by exact this)]
theorem IY{n:Nat}(h:n<10^18):(decimal n).length≤32:=by
 unfold decimal
 rw[List.length_map]
 exact Nat.le_trans ((Nat.length_toDigits_le_iff (by decide) (by decide)).mpr h) (by decide)
def Sh(r:Row)(n:Nat):Prop:=r.length≤n∧∀t∈r,t.length≤32
theorem Sh.nil:Sh [] 0:=⟨Nat.le_refl _,λt h=>by simp at h⟩
theorem Sh.one{t:Bytes}(h:t.length≤32):Sh [t] 1:=⟨Nat.le_refl _,λu hu=>by rw[List.mem_singleton.mp hu];exact h⟩
theorem Sh.app{a b:Row}{m n:Nat}(h:Sh a m)(h':Sh b n):Sh (a++b) (m+n):=⟨by rw[List.length_append];exact Nat.add_le_add h.1 h'.1,λt ht=>(List.mem_append.mp ht).elim (h.2 t) (h'.2 t)⟩
theorem Sh.le{a:Row}{m n:Nat}(h:Sh a m)(l:m≤n):Sh a n:=⟨Nat.le_trans h.1 l,h.2⟩
theorem Sh.flat{α:Type}{f:α→Row}{n:Nat}:∀(l:List α),(∀x∈l,Sh (f x) n)→Sh (l.flatMap f) (l.length*n)
 |[],_=>by rw[List.length_nil,Nat.zero_mul];exact Sh.nil
 |x::r,h=>by
  rw[List.flatMap_cons,List.length_cons,Nat.succ_mul,Nat.add_comm]
  exact(h x List.mem_cons_self).app (Sh.flat r λy hy=>h y (List.mem_cons_of_mem _ hy))
theorem Sh.text:∀{r:Row} {n:Nat},Sh r n→(textOf r).length≤33*n
 |[],n,_=>by unfold textOf;simp
 |t::r,n,h=>by
  have h1:(textOf r).length≤33*(n-1):=Sh.text (n:=n-1) ⟨by have:=h.1;rw[List.length_cons]at this;omega,λu hu=>h.2 u (List.mem_cons_of_mem _ hu)⟩
  have h2:=h.2 t List.mem_cons_self
  have h3:=h.1
  rw[List.length_cons]at h3
  rw[show t::r=[t]++r from rfl,lp,wK,List.length_append,List.length_append]
  show t.length+1+(textOf r).length≤_
  omega
theorem gm{s:String}(h:(ascii s).length≤32):Sh (w s) 1:=Sh.one h
theorem Ao{q:Rat}(h:fits q=true):q.num.natAbs<10^18∧q.den<10^18:=by
 unfold fits at h
 rw[Bool.and_eq_true,decide_eq_true_eq,decide_eq_true_eq]at h
 exact h
theorem qO{q:Rat}(h:fits q=true):Sh (numberRow q) 3:=by
 unfold numberRow
 refine(Sh.one (IY (Ao h).1)).app (n:=2) ?_
 split
 ·exact Sh.nil.le (by decide)
 ·exact(gm (by decide)).app (Sh.one (IY (Ao h).2))
theorem IZ{q:Rat}(h:fits q=true):Sh (valueRow q) 4:=by
 unfold valueRow
 refine Sh.app (m:=1) ?_ (qO h)
 split
 ·exact gm (by decide)
 ·exact Sh.nil.le (by decide)
theorem wL{g:Glass}(h:GoodG g):Sh g.row 15:=by
 obtain⟨a,b,c,e,ha,hb,hc⟩:=h.index
 unfold Glass.row
 rw[e]
 exact(gm (by decide)).app ((Sh.one h.name.1).app ((gm (by decide)).app ((qO ha.2).app ((gm (by decide)).app ((qO hb.2).app ((gm (by decide)).app ((qO hc.2).app (gm (by decide)))))))))
theorem I0{n:Nat}{e:Elem}(h:fg n e):Sh (shapeRow e) 10:=by
 unfold shapeRow
 refine Sh.app (m:=5) (n:=5) ?_ ?_
 ·split
  ·exact(gm (by decide)).le (by decide)
  ·exact(gm (by decide)).app (IZ h.iQ)
 ·split
  ·exact Sh.nil.le (by decide)
  ·exact(gm (by decide)).app (IZ h.je)
theorem Ap{n:Nat}{e:Elem}(h:fg n e):Sh (clearRow e) 5:=by
 unfold clearRow
 refine Sh.app (m:=4) ?_ (gm (by decide))
 cases hc:e.clear with
 |some q=>exact(gm (by decide)).app (qO (h.clear q hc).2)
 |none=>exact Sh.nil.le (by decide)
theorem Aq{n:Nat}{e:Elem}(h:fg n e):Sh (afterRow e) 5:=by
 unfold afterRow
 exact(Sh.one h.name.1).app ((gm (by decide)).app (qO h.iB))
theorem I_{gl:List Glass}(h:∀g∈gl,GoodG g)(m:Nat):Sh [((gl[m]?).map λ(g:Glass)=>g.name).getD []] 1:=by
 refine Sh.one ?_
 cases hm:gl[m]? with
 |none=>exact Nat.zero_le _
 |some g=>exact(h g (List.mem_of_getElem? hm)).name.1
theorem As{gl:List Glass}{n:Nat}(hg:∀g∈gl,GoodG g){e:Elem}(h:fg n e):Sh (elemRow gl e) 24:=by
 unfold elemRow
 split
 ·exact((gm (by decide)).app ((Aq h).app ((gm (by decide)).app ((I_ hg _).app ((I0 h).app (Ap h)))))).le (by decide)
 ·exact((gm (by decide)).app ((Aq h).app ((I0 h).app (Ap h)))).le (by decide)
 ·exact((gm (by decide)).app ((Aq h).app (Ap h))).le (by decide)
theorem Jb{s:System_}(h:Good s):(print s).length≤40000:=by
 unfold print
 have q:=((Sh.flat s.glasses λg hg=>wL (h.glasses g hg)).app ((gm (s:="start") (by decide)).app ((I_ h.glasses s.start).app ((gm (s:=";") (by decide)).app (Sh.flat s.elems λe he=>As h.glasses (h.elems e he)))))).text
 have h1:=h.gl
 have h2:=h.el
 refine Nat.le_trans q ?_
 omega
theorem Rr(q:Rat):decide (q.num<0)=decide (q<0):=decide_eq_decide.mpr ⟨λh=>Rat.not_le.mp λz=>absurd (Rat.num_nonneg.mpr z) (by omega),λh=>Int.not_le.mp λz=>Rat.not_le.mpr h (Rat.num_nonneg.mp z)⟩
theorem ub{q:Rat}(h:0≤q):valueRow q=numberRow q:=by
 unfold valueRow
 rw[if_neg (Rat.not_lt.mpr h)]
 rfl
end LR
namespace LX
open PySem PySem.Spec PyProof.Rows L2
theorem Sv:typeLookup (.type "list_reverseiterator") "__len__"=pure none:=by
 rw[typeLookup_type,builtinLookup_eq_fast];kernel_rfl
theorem Sw:typeLookup (.type "list_reverseiterator") "__length_hint__"=pure (some (.builtin "list_reverseiterator.__length_hint__")):=by
 rw[typeLookup_type,builtinLookup_eq_fast];kernel_rfl
section
variable{P:Program}{w:World}{Ar:Around}{Ex:Value→Shared→Prop}{z:Shared}
theorem Sx{it l:Addr}{i:Int}{Q:Bool→Shared→Prop}(hit:z.heap.IsRevIter it l i)(k:Q false z):wpAny (model P w) Ar (Builtin.List.listLengthHint (.ref it)) Q Ex z:=by
 unfold Builtin.List.listLengthHint
 refine wpAny_bind (wpAny_specialOf hit.typeIs Sv ?_)
 show wpAny _ _ (specialOf (Value.ref it) (Str.ofString "__length_hint__")>>=_) _ _ z
 refine wpAny_bind (wpAny_specialOf hit.typeIs Sw ?_)
 generalize JA:("list_reverseiterator.__length_hint__":String)=Sy
 wp_delta
 rw[show splitId Sy=some ("list_reverseiterator","__length_hint__")from by subst JA;decide +kernel]
 subst JA
 refine wpAny_bind (wpAny_isInstance (T:="list_reverseiterator") (b:=true) hit.typeIs (by rw[isSubtype_type];kernel_rfl) ?_)
 refine wpAny_ite_split (λc=>absurd c (by decide)) λ_=>?_
 refine wpAny_ite_split (λ_=>?_) λc=>absurd (by first|rfl|decide +kernel) c
 refine wpAny_ite_split (λc=>absurd c (by decide +kernel)) λ_=>?_
 exact wpAny_pure k
variable{R:Result→Shared→Prop}
theorem Sz{it l:Addr}{items:Array Value}(hh:Ar.handled=none)(hit:z.heap.IsRevIter it l ((items.size:Int)-1))(hl:z.heap.IsList l items)(hlen:items.size≤sizeLine)(D:Addr)(nl:D≠l)(c0:Nat)(hD:z.heap.get? D=some {cls:=.type "list",data:=.seq #[] c0})(k:∀h' tk acc c,(∀b o,b≠D→b≠it→z.heap.get? b=some o→h'.get? b=some o)→h'.get? D=some {cls:=.type "list",dict:=none,data:=.seq acc c,slots:=#[]}→ItemsOf (λi v=>items[items.size-1-i]?=some v) acc items.size→R (.ok (.ret .none)) {z with heap:=h',toks:=tk}):
  wpAny (model P w) Ar.in1 (Builtin.List.listExtendWith (.ref D) (.ref it) .none) (λfin z'=>match fin with|.done f=>R (.ok f) z'|.again c=>c.quiet=true∧codeAny (model P w) Ar c R z') (λe z'=>R (.error e) z') z:=by
 have n1:D≠it:=λe=>by
  obtain⟨o,ho,hc,_⟩:=hit
  rw[←e,hD]at ho
  cases ho
  simp at hc
 have SA:l≠it:=λe=>by
  obtain⟨o,ho,hc,_⟩:=hit
  obtain⟨o',iK,qj,_⟩:=hl
  rw[←e,iK]at ho
  cases ho
  rw[qj]at hc
  simp at hc
 have W:=(Walks.listRev (prog:=P) (w:=w) (A:=Ar.in1) hh it l SA items).toS
 unfold Builtin.List.listExtendWith
 refine wpAny_bind (wpAny_typeOf hit.typeIs ?_)
 have e1:Builtin.List.listSameRef (.ref D) (.ref it)=false:=by simp[Builtin.List.listSameRef,n1]
 have e2:(Value.type "list_reverseiterator"==Value.type "list")=false:=by decide
 have e3:(Value.type "list_reverseiterator"==Value.type "tuple")=false:=by decide
 simp only[e1,e2,e3,Bool.or_false,Bool.false_eq_true,if_false]
 refine wpAny_bind (wpAny_pyIter_revIter hit ?_)
 refine wpAny_bind (wpAny_holding (Sx hit ?_))
 refine wpAny_ite_split (λc=>absurd c (by decide +kernel)) λ_=>wpAny_pure ⟨plainId_quiet F.plain_extend_loop _,?_⟩
 refine codeAny_extend_loopS W hlen D (λm=>?_) .none items.size 0 z #[] c0 rfl (Nat.zero_le _) ⟨Nat.zero_le _,by rw[show(items.size:Int)-1-((0:Nat):Int)=(items.size:Int)-1 by omega];exact hit,hl⟩ hD (ItemsOf.nil _) λz' acc c mv ur ha=>?_
 ·rcases List.mem_cons.mp m with q|q
  ·exact n1 q
  ·exact nl (List.mem_singleton.mp q)
 ·rw[Moved.eq_with mv]
  refine k z'.heap z'.toks acc c (λb o h1 h2 e=>mv.heap b o (λm=>?_) e) ur ha
  rcases List.mem_cons.mp m with q|q
  ·exact h1 q
  ·exact h2 (List.mem_singleton.mp q)
end
section
variable{P:Program}{w:World}{Ar:Around}{Ex:Value→Shared→Prop}{z:Shared}
theorem SE{it l:Addr}{items:Array Value}{Q:Value→Shared→Prop}(hh:Ar.handled=none)(hit:z.heap.IsRevIter it l ((items.size:Int)-1))(hl:z.heap.IsList l items)(hlen:items.size≤sizeLine)(k:∀h' tk acc c,(∀b o,b≠it→z.heap.get? b=some o→h'.get? b=some o)→h'.get? z.heap.objs.size=some {cls:=.type "list",dict:=none,data:=.seq acc c,slots:=#[]}→ItemsOf (λi v=>items[items.size-1-i]?=some v) acc items.size→Q (.ref z.heap.objs.size) {z with heap:=h',toks:=tk}):
  wpAny (model P w) Ar (call (.type "list") [.ref it]) Q Ex z:=by
 refine callType_codes (Q₁:=λobj JB=>obj=.ref z.heap.objs.size∧JB={z with heap:=z.heap.push {cls:=.type "list",data:=.seq #[]}}) F.called_list (F.typeCall_list_1 _) F.entry_list_init (code_list_new _ ⟨rfl,rfl⟩) ?_
 rintro obj JB ⟨rfl,rfl⟩
 have hD:(z.heap.push {cls:=.type "list",data:=.seq #[]}).get? z.heap.objs.size=some {cls:=.type "list",data:=.seq #[]}:=Heap.get?_push_size _ rfl
 have up:∀b o,z.heap.get? b=some o→(z.heap.push {cls:=.type "list",data:=.seq #[]}).get? b=some o:=λb o e=>Heap.get?_push_of_some _ e
 have ne:∀b o,z.heap.get? b=some o→b≠z.heap.objs.size:=λb o e=>Nat.ne_of_lt (Heap.lt_size e)
 refine⟨⟨_,hD,rfl⟩,F.args_list_init_2 _ _,?_⟩
 show wpAny _ _ (do let old ←Builtin.List.listItems (.ref z.heap.objs.size);Builtin.List.listUpdate (.ref z.heap.objs.size) (λ_=>#[]);letGo old.toList.reverse;Builtin.List.listExtendWith (.ref z.heap.objs.size) (.ref it) .none) _ _ _
 refine wpAny_bind ?_
 unfold Builtin.List.listItems
 refine wpAny_bind (wpAny_seqItems hD rfl (wpAny_pure ?_))
 show wpAny _ _ (updateSeq z.heap.objs.size (λ_=>#[])>>=λ_=>letGo (#[]:Array Value).toList.reverse>>=λ_=>Builtin.List.listExtendWith (.ref z.heap.objs.size) (.ref it) .none) _ _ _
 refine wpAny_bind (wpAny_updateSeq hD rfl ?_)
 have SG:=Heap.get?_update_self (Obj.mapSeq (λ_=>(#[]:Array Value))) hD rfl
 have AM:∀b o,z.heap.get? b=some o→((z.heap.push {cls:=.type "list",data:=.seq #[]}).update z.heap.objs.size (Obj.mapSeq (λ_=>(#[]:Array Value)))).get? b=some o:=λb o e=>(Heap.get?_update_other _ _ (Ne.symm (ne b o e))).trans (up b o e)
 refine wpAny_bind (wpAny_letGo ?_)
 refine Sz (Ar:=Ar.in1) hh (hit.at λo e=>AM _ o e) (hl.at λo e=>AM _ o e) hlen _ (λe=>?_) _ SG λh' tk acc c kp ur ha=>⟨rfl,k h' tk acc c (λb o h1 e=>kp b o (ne b o e) h1 (AM b o e)) ur ha⟩
 obtain⟨o,ho,_⟩:=hl
 exact ne _ _ ho e.symm
end
end LX
namespace L2
open PySem PySem.Spec PyProof.Rows LX
theorem Vals.rev{xs:List V}{us:List Value}(h:Vals xs us):Vals xs.reverse us.reverse:=by
 induction h with
 |nil=>exact .nil
 |cons r _ ih=>
  rw[List.reverse_cons,List.reverse_cons]
  exact ih.append (.cons r .nil)
theorem SH{aq:List Value}{acc:Array Value}(h:ItemsOf (λi v=>aq.toArray[aq.toArray.size-1-i]?=some v) acc aq.toArray.size):acc.toList=aq.reverse:=by
 obtain⟨h1,h2⟩:=h
 apply List.ext_getElem?
 intro j
 by_cases hj:j<acc.size
 ·have q:=h2 j acc[j] (Array.getElem?_eq_getElem hj)
  rw[Array.getElem?_toList,Array.getElem?_eq_getElem hj,←q]
  simp only[List.size_toArray]at h1⊢
  rw[List.getElem?_toArray,List.getElem?_reverse (by omega)]
 ·rw[Array.getElem?_toList,Array.getElem?_eq_none (by omega),List.getElem?_eq_none (by rw[List.length_reverse];simp only[List.size_toArray]at h1;omega)]
def JC(K:PySem.W.Frag)(ta:TA):TE:=λσ H Q=>ta σ H λvs H1=>∃a xs,vs=[.ref a]∧ah K H1 a xs∧∀l,H1 l=none→Q (.ref l) (upd H1 l (.lst xs.reverse))
theorem SI:bootBuiltins "list"=some (.type "list"):=by decide +kernel
section
variable{X:Cx}
theorem SJ{e:Expr}{ta:TA}{p p2 pos uu:Pos}(hc:X.calm=true)(md:Gl X "list")(w9:X.mg "list"=none)(SK:Gl X "reversed")(SM:X.mg "reversed"=none)(ha:PA X [e] ta)(hs:starEach [e] X.env=[(false,eval e X.env)]:=by rfl)(oV:starEach [.Call (.Name "reversed" p2) [e] [] uu] X.env=[(false,eval (.Call (.Name "reversed" p2) [e] [] uu) X.env)]:=by rfl):PE X (.Call (.Name "list" p) [.Call (.Name "reversed" p2) [e] [] uu] [] pos) (JC X.K ta):=by
 intro pins s σ H Q I h
 refine Call_ (mT I md w9 SI (PyProof.Rows.callWith_type1 ?_ oV rfl))
 rw[oV]
 show wpAny _ _ (spliced ((false,eval (.Call (.Name "reversed" p2) [e] [] uu) X.env)::[])) _ _ s
 refine Calls.spliced_cons ?_
 refine Call_ (mT I SK SM PB (PyProof.Rows.callWith_type1 (a8 (ha uu pins s σ H _ I h) λus s1 ⟨vs,H1,I1,r1,q1⟩=>?_) hs rfl))
 obtain⟨a,xs,e',hq,q⟩:=q1
 subst e'
 cases r1 with
 |cons r rr=>
  cases rr
  cases r
  obtain⟨aq,rv,pl,hz⟩:=I1.list hq
  have hl:=rv.length
  refine call_reversed_list pl.isList (Calls.spliced_nil ?_)
  refine SE (I1.ok.hd hc) ⟨_,Heap.get?_push_size _ rfl,rfl,rfl⟩ (pl.isList.push _) (by simp only[List.size_toArray];omega) λh' tk acc c kp hD qS=>?_
  have sz:(s1.heap.push (revObj a (((aq.toArray.size:Nat):Int)-1))).objs.size=s1.heap.objs.size+1:=Heap.size_push ..
  have ea:=SH qS
  have SN:acc=aq.reverse.toArray:=by rw[←ea]
  subst SN
  rw[sz]at hD⊢
  have le:s1.heap.objs.size≤s1.heap.objs.size+1:=Nat.le_succ _
  refine⟨.ref (s1.heap.objs.size+1),_,I1.laid (t':=tk) (λb o hb=>kp b o (Nat.ne_of_lt (Heap.lt_size hb)) (Heap.get?_push_of_some _ hb)) le (show dI X.prog X.w _ h' _ (.lst xs.reverse)from⟨by rw[List.length_reverse];exact hz,aq.reverse,c,rv.rev,hD⟩),rfl,q _ (I1.aK.fresh le)⟩
end
end L2
namespace LX
open PySem PySem.Spec PyProof.Rows L2
section
variable{P:Program}{w:World}{Ar:Around}{Ex:Value→Shared→Prop}{z:Shared}
theorem SO{j t:Addr}{n:Nat}{aq:Array Value}{u:Value}{Q:Value→Shared→Prop}(hj:z.heap.IsTupleIter j t n)(ht:z.heap.IsTuple t aq)(hu:aq[n]?=some u)(k:∀g,g.IsTupleIter j t (n+1)→Heap.SameBut j z.heap g→Q u {z with heap:=g}):wpAny (model P w) Ar (Builtin.SmallTypes.nextOf (.ref j)) Q Ex z:=by
 obtain⟨b,hb,c1,d1⟩:=id hj
 obtain⟨bt,AN,_,m,d2⟩:=ht
 unfold Builtin.SmallTypes.nextOf
 refine wpAny_bind (wpAny_callSpecial?_slot (name:=Str.ofString "__next__") hj.typeIs F.slot_tuple_iterator_next (wpAny_call_entry F.slot_tuple_iterator_next hj.typeIs F.entry_tuple_iterator_next ?_ (F.args_tuple_iterator_next_1 _)))
 show wpAny _ _ (field (.ref j) 0>>=_) _ _ z
 refine wpAny_bind (wpAny_field hb d1 (x:=.ref t) rfl ?_)
 show wpAny _ _ (if(Value.ref t==Value.none)=true then _ else _) _ _ z
 rw[if_neg (by exact Bool.false_ne_true)]
 show wpAny _ _ (field (.ref j) 1>>=_) _ _ z
 refine wpAny_bind (wpAny_field hb d1 (x:=.int n 0) rfl ?_)
 show wpAny _ _ (seqItems? (.ref t)>>=_) _ _ z
 refine wpAny_bind (wpAny_seqItems AN d2 ?_)
 simp only[Int.toNat_natCast,hu]
 refine wpAny_bind (wpAny_setField hb d1 (by simp) (wpAny_pure ⟨u,rfl,wpAny_pure (k _ ?_ (Heap.SameBut.update ..))⟩))
 refine⟨_,Heap.get?_update_self _ hb (Obj.isFreed_of_fields (Obj.data_mapFields d1 _)),(Obj.cls_mapFields ..).trans c1,?_⟩
 rw[Obj.data_mapFields d1]
 simp[rawInt]
theorem SQ{j t:Addr}{n:Nat}{aq:Array Value}{Q:Value→Shared→Prop}(hh:Ar.handled=none)(hj:z.heap.IsTupleIter j t n)(ht:z.heap.IsTuple t aq)(hu:aq[n]?=none)(k:∀g e,Heap.ExtBut j z.heap g→(∃o,g.get? e=some o∧o.cls=.type "StopIteration")→Ex (.ref e) {z with heap:=g}):wpAny (model P w) Ar (Builtin.SmallTypes.nextOf (.ref j)) Q Ex z:=by
 obtain⟨b,hb,c1,d1⟩:=id hj
 obtain⟨bt,AN,_,m,d2⟩:=ht
 unfold Builtin.SmallTypes.nextOf
 refine wpAny_bind (wpAny_callSpecial?_slot (name:=Str.ofString "__next__") hj.typeIs F.slot_tuple_iterator_next (wpAny_call_entry F.slot_tuple_iterator_next hj.typeIs F.entry_tuple_iterator_next ?_ (F.args_tuple_iterator_next_1 _)))
 show wpAny _ _ (field (.ref j) 0>>=_) _ _ z
 refine wpAny_bind (wpAny_field hb d1 (x:=.ref t) rfl ?_)
 show wpAny _ _ (if(Value.ref t==Value.none)=true then _ else _) _ _ z
 rw[if_neg (by exact Bool.false_ne_true)]
 show wpAny _ _ (field (.ref j) 1>>=_) _ _ z
 refine wpAny_bind (wpAny_field hb d1 (x:=.int n 0) rfl ?_)
 show wpAny _ _ (seqItems? (.ref t)>>=_) _ _ z
 refine wpAny_bind (wpAny_seqItems AN d2 ?_)
 simp only[Int.toNat_natCast,hu]
 refine wpAny_bind (wpAny_rule (wpAny_bind (wpAny_setField hb d1 (by simp) ?_)))
 show wpAny _ _ (newExc (.type "StopIteration") ([]:List Value)>>=_) _ _ _
 refine wpAny_bind (by
  simp only[newExc,newTuple]
  refine(wpAny_bind<|wpAny_newObj_type ?_ (by size_fits))
  refine(wpAny_bind (m:=firstArgMember _ _)<|wpAny_of_eq (a:=Value.none) (by first|rfl|(simp only[firstArgMember];rfl)) ?_)
  refine(wpAny_newObj_type ?_<|by size_fits)
  simp only[raiseNew]
  refine(wpAny_bind<|wpAny_handled ?_)
  first|rw[show Ar.in1.handled=none from hh]|rw[hh]
  refine(wpAny_bind<|wpAny_pure<|wpAny_throw ?_)
  exact k _ _ (((Heap.SameBut.update ..).extBut.push _).push _) ⟨_,Heap.get?_push_size _ rfl,rfl⟩)
theorem SR{q TI TO j1 j2 t l:Addr}{n m:Nat}{as bs:Array Value}{a b o1 o2:Value}{Q:Value→Shared→Prop}(D:ZipApart q TI TO j1 j2 t l)(hq:IsZip z.heap q TI TO .none)(hI:IsPair z.heap TI (.ref j1) (.ref j2))(hO:IsPair z.heap TO o1 o2)(g1:z.heap.IsTupleIter j1 t n)(g2:z.heap.IsListIter j2 l m)(ht:z.heap.IsTuple t as)(hl:z.heap.IsList l bs)(ha:as[n]?=some a)(hb:bs[m]?=some b)(k:∀g,IsZip g q TI TO (rawInt z.heap.objs.size)→IsPair g TO a b→g.IsTupleIter j1 t (n+1)→g.IsListIter j2 l (m+1)→IsPair g z.heap.objs.size a b→g.objs.size=z.heap.objs.size+1→(∀c o,c≠q→c≠TO→c≠j1→c≠j2→z.heap.get? c=some o→g.get? c=some o)→Q (.ref z.heap.objs.size) {z with heap:=g}):wpAny (model P w) Ar (Builtin.«zip.__next__» ⟨[.ref q],[]⟩) (λfin z'=>∃v,fin=.done (.ret v)∧Q v z') Ex z:=by
 show wpAny _ _ (field (.ref q) 2>>=_) _ _ _
 refine wpAny_bind (wpAny_field hq rfl (x:=.bool false) rfl ?_)
 show wpAny _ _ (field (.ref q) 3>>=_) _ _ _
 refine wpAny_bind (wpAny_field hq rfl (x:=.ref TI) rfl ?_)
 refine wpAny_bind (wpAny_seqItems hI rfl ?_)
 show wpAny _ _ (Builtin.SmallTypes.ownedTupleIsFree (.ref q)>>=_) _ _ _
 refine wpAny_bind ?_
 delta Builtin.SmallTypes.ownedTupleIsFree
 refine wpAny_bind (wpAny_field hq rfl (x:=.none) rfl (wpAny_pure ?_))
 simp only[if_true]
 refine wpAny_bind (wpAny_rule ?_)
 refine wpAny_bind (wpAny_field hq rfl (x:=.ref TO) rfl ?_)
 refine wpAny_bind (wpAny_setField_rec hq (by simp) λe1 iC s1=>?_)
 replace iC:IsZip e1 q TI TO .ellipsis:=iC
 refine wpAny_bind ?_
 simp only[List.forIn_cons,List.forIn_nil,List.zipIdx_cons,List.zipIdx_nil]
 refine(wpAny_bind<|wpAny_bind<|wpAny_onRaise ?_)
 show wpAny _ _ (Builtin.SmallTypes.nextOf (.ref j1)>>=_) _ _ _
 refine wpAny_bind (SO (g1.extBut s1.extBut D.i1z) (ht.extBut s1.extBut D.l1z) ha λe2 AO s2=>wpAny_pure ?_)
 have uv:IsPair e2 TO o1 o2:=s2.extBut _ _ D.TOi1 (s1.extBut _ _ D.TOz hO)
 refine wpAny_bind (wpAny_seqItems uv rfl ?_)
 refine wpAny_bind (wpAny_updateSeq_pair uv λe3 pb s3=>?_)
 replace pb:IsPair e3 TO a o2:=pb
 refine(wpAny_bind<|wpAny_letGo<|wpAny_pure ?_)
 refine(wpAny_bind<|wpAny_bind<|wpAny_onRaise ?_)
 show wpAny _ _ (Builtin.SmallTypes.nextOf (.ref j2)>>=_) _ _ _
 refine wpAny_bind (wpAny_nextOf_list_item (((g2.extBut s1.extBut D.i2z).extBut s2.extBut D.i12.symm).extBut s3.extBut D.TOi2.symm) (((hl.extBut s1.extBut D.l2z).extBut s2.extBut D.l2i1).extBut s3.extBut D.l2TO) hb λe4 AQ s4=>wpAny_pure ?_)
 have uw:IsPair e4 TO a o2:=s4.extBut _ _ D.TOi2 pb
 refine wpAny_bind (wpAny_seqItems uw rfl ?_)
 refine wpAny_bind (wpAny_updateSeq_pair uw λe5 nO s5=>?_)
 replace nO:IsPair e5 TO a b:=nO
 refine(wpAny_bind<|wpAny_letGo<|wpAny_pure<|wpAny_pure ?_)
 refine wpAny_bind (wpAny_seqItems nO rfl ?_)
 refine(wpAny_bind<|wpAny_newTuple ?_)
 have sz:e5.objs.size=z.heap.objs.size:=by rw[s5.1,s4.1,s3.1,s2.1,s1.1]
 have qT:IsZip e5 q TI TO .ellipsis:=s5.extBut _ _ D.TOz.symm (s4.extBut _ _ D.i2z.symm (s3.extBut _ _ D.TOz.symm (s2.extBut _ _ D.i1z.symm iC)))
 have w_:∀c o,c≠q→c≠TO→c≠j1→c≠j2→z.heap.get? c=some o→e5.get? c=some o:=λc o c1 c2 c3 c4 y=>s5.extBut _ _ c2 (s4.extBut _ _ c4 (s3.extBut _ _ c2 (s2.extBut _ _ c3 (s1.extBut _ _ c1 y))))
 have SS:e5.IsTupleIter j1 t (n+1):=((AO.extBut s3.extBut D.TOi1.symm).extBut s4.extBut D.i12).extBut s5.extBut D.TOi1.symm
 have SU:e5.IsListIter j2 l (m+1):=AQ.extBut s5.extBut D.TOi2.symm
 have lq:q<e5.objs.size:=Heap.lt_size qT
 show wpAny _ _ (Builtin.SmallTypes.ownedTupleHandOut (.ref q) (.ref e5.objs.size)>>=_) _ _ _
 refine wpAny_bind ?_
 delta Builtin.SmallTypes.ownedTupleHandOut
 have SV:IsZip (e5.push {cls:=.type "tuple",data:=.seq #[a,b]}) q TI TO .ellipsis:=Heap.get?_push_of_some _ qT
 refine wpAny_bind (wpAny_setField_rec SV (by simp) λe7 qU s7=>?_)
 replace qU:IsZip e7 q TI TO (rawInt e5.objs.size):=qU
 refine wpAny_setField_rec qU (by simp) λe8 qV s8=>?_
 replace qV:IsZip e8 q TI TO (rawInt e5.objs.size):=qV
 have up:∀c o,c≠q→e5.get? c=some o→e8.get? c=some o:=λc o c1 y=>s8.extBut _ _ c1 (s7.extBut _ _ c1 (Heap.get?_push_of_some _ y))
 have JD:IsPair e8 e5.objs.size a b:=s8.extBut _ _ (Nat.ne_of_gt lq) (s7.extBut _ _ (Nat.ne_of_gt lq) (Heap.get?_push_size _ rfl))
 have JE:e8.objs.size=e5.objs.size+1:=by rw[s8.1,s7.1,Heap.size_push]
 rw[sz]at qV JD JE
 refine wpAny_pure ⟨_,rfl,?_⟩
 show Q (.ref e5.objs.size) _
 rw[sz]
 exact k e8 qV (up _ _ D.TOz nO) (SS.at λo y=>up _ o D.i1z y) (SU.at λo y=>up _ o D.i2z y) JD JE λc o c1 c2 c3 c4 y=>up c o c1 (w_ c o c1 c2 c3 c4 y)
theorem SW{q TI TO j1 j2 t l:Addr}{n:Nat}{as:Array Value}{Q:Fin→Shared→Prop}(hh:Ar.handled=none)(D:ZipApart q TI TO j1 j2 t l)(hq:IsZip z.heap q TI TO .none)(hI:IsPair z.heap TI (.ref j1) (.ref j2))(g1:z.heap.IsTupleIter j1 t n)(ht:z.heap.IsTuple t as)(ha:as[n]?=none)(k:∀g e,(∀c o,c≠q→c≠j1→z.heap.get? c=some o→g.get? c=some o)→(∃o,g.get? e=some o∧o.cls=.type "StopIteration")→Ex (.ref e) {z with heap:=g}):wpAny (model P w) Ar (Builtin.«zip.__next__» ⟨[.ref q],[]⟩) Q Ex z:=by
 show wpAny _ _ (field (.ref q) 2>>=_) _ _ _
 refine wpAny_bind (wpAny_field hq rfl (x:=.bool false) rfl ?_)
 show wpAny _ _ (field (.ref q) 3>>=_) _ _ _
 refine wpAny_bind (wpAny_field hq rfl (x:=.ref TI) rfl ?_)
 refine wpAny_bind (wpAny_seqItems hI rfl ?_)
 show wpAny _ _ (Builtin.SmallTypes.ownedTupleIsFree (.ref q)>>=_) _ _ _
 refine wpAny_bind ?_
 delta Builtin.SmallTypes.ownedTupleIsFree
 refine wpAny_bind (wpAny_field hq rfl (x:=.none) rfl (wpAny_pure ?_))
 simp only[if_true]
 refine wpAny_bind (wpAny_rule ?_)
 refine wpAny_bind (wpAny_field hq rfl (x:=.ref TO) rfl ?_)
 refine wpAny_bind (wpAny_setField_rec hq (by simp) λe1 iC s1=>?_)
 replace iC:IsZip e1 q TI TO .ellipsis:=iC
 refine wpAny_bind ?_
 simp only[List.forIn_cons,List.forIn_nil,List.zipIdx_cons,List.zipIdx_nil]
 refine(wpAny_bind<|wpAny_bind<|wpAny_onRaise ?_)
 show wpAny _ _ (Builtin.SmallTypes.nextOf (.ref j1)>>=_) _ _ _
 refine wpAny_bind (SQ hh (g1.extBut s1.extBut D.i1z) (ht.extBut s1.extBut D.l1z) ha λe2 e s2 he=>?_)
 obtain⟨oe,kj,lY⟩:=he
 have l8:IsZip e2 q TI TO .ellipsis:=s2 _ _ D.i1z.symm iC
 have nq:e≠q:=λy=>by subst y;rw[l8]at kj;cases kj;simp at lY
 exact wpAny_setField_rec l8 (by simp) λe3 _ s3=>k e3 e (λc o c1 c3 y=>s3.extBut _ _ c1 (s2 _ _ c3 (s1.extBut _ _ c1 y))) ⟨oe,s3.extBut _ _ nq kj,lY⟩
theorem SX{q TI TO j1 j2 t l:Addr}{n m:Nat}{as bs:Array Value}{a b o1 o2:Value}{Q:Option Value→Shared→Prop}(D:ZipApart q TI TO j1 j2 t l)(hq:IsZip z.heap q TI TO .none)(hI:IsPair z.heap TI (.ref j1) (.ref j2))(hO:IsPair z.heap TO o1 o2)(g1:z.heap.IsTupleIter j1 t n)(g2:z.heap.IsListIter j2 l m)(ht:z.heap.IsTuple t as)(hl:z.heap.IsList l bs)(ha:as[n]?=some a)(hb:bs[m]?=some b)(k:∀g,IsZip g q TI TO (rawInt z.heap.objs.size)→IsPair g TO a b→g.IsTupleIter j1 t (n+1)→g.IsListIter j2 l (m+1)→IsPair g z.heap.objs.size a b→g.objs.size=z.heap.objs.size+1→(∀c o,c≠q→c≠TO→c≠j1→c≠j2→z.heap.get? c=some o→g.get? c=some o)→Q (some (.ref z.heap.objs.size)) {z with heap:=g}):wpAny (model P w) Ar (pyNext (.ref q)) Q Ex z:=by
 have hT:z.TypeIs (.ref q) "zip":=⟨_,hq,rfl⟩
 unfold pyNext
 exact wpAny_bind (wpAny_attempt (wpAny_callSpecial?_slot (name:=Str.ofString "__next__") hT F.slot_zip_next (wpAny_call_entry F.slot_zip_next hT F.entry_zip_next (SR D hq hI hO g1 g2 ht hl ha hb λg a1 a2 a3 a4 a5 a6 a7=>wpAny_pure (k g a1 a2 a3 a4 a5 a6 a7)) (F.args_zip_next_1 _))))
theorem SY{q TI TO j1 j2 t l:Addr}{n:Nat}{as:Array Value}{Q:Option Value→Shared→Prop}(hh:Ar.handled=none)(D:ZipApart q TI TO j1 j2 t l)(hq:IsZip z.heap q TI TO .none)(hI:IsPair z.heap TI (.ref j1) (.ref j2))(g1:z.heap.IsTupleIter j1 t n)(ht:z.heap.IsTuple t as)(ha:as[n]?=none)(k:∀g,(∀c o,c≠q→c≠j1→z.heap.get? c=some o→g.get? c=some o)→Q none {z with heap:=g}):wpAny (model P w) Ar (pyNext (.ref q)) Q Ex z:=by
 have hT:z.TypeIs (.ref q) "zip":=⟨_,hq,rfl⟩
 unfold pyNext
 refine wpAny_bind (wpAny_attempt (wpAny_callSpecial?_slot (name:=Str.ofString "__next__") hT F.slot_zip_next (wpAny_call_entry F.slot_zip_next hT F.entry_zip_next (SW hh D hq hI g1 ht ha λg e kp he=>?_) (F.args_zip_next_1 _))))
 obtain⟨o,ho,hc⟩:=he
 exact wpAny_bind (wpAny_isInstance (T:="StopIteration") (b:=true) ⟨o,ho,hc⟩ isSubtype_stop (wpAny_pure (k _ kp)))
abbrev xc(h:Heap)(t:Addr):Heap:=h.push {cls:=.type "tuple_iterator",data:=.fields #[.ref t,.int 0 0]}
abbrev xf(h:Heap)(t l:Addr):Heap:=(xc h t).push {cls:=.type "list_iterator",data:=.fields #[.ref l,.int 0 0]}
abbrev xh(h:Heap)(t l:Addr):Heap:=(xf h t l).push {cls:=.type "tuple",data:=.seq #[.ref h.objs.size,.ref (xc h t).objs.size]}
abbrev xi(h:Heap)(t l:Addr):Heap:=(xh h t l).push {cls:=.type "tuple",data:=.seq #[.none,.none]}
abbrev qW(h:Heap)(t l:Addr):Heap:=(xi h t l).push {cls:=.type "zip",data:=.fields #[.none,.bool false,.bool false,.ref (xf h t l).objs.size,.ref (xh h t l).objs.size]}
theorem S0(t l:Addr)(as bs:Array Value):Meets (Builtin.«zip.__new__» ⟨[.type "zip",.ref t,.ref l],[]⟩) (λ_ R s=>s.heap.IsTuple t as∧s.heap.IsList l bs∧R (.ok (.ret (.ref (xi s.heap t l).objs.size))) {s with heap:=qW s.heap t l}):=
 .of_wp λprog w A R s h=>by
  obtain⟨hp,g,d,tk,os⟩:=s
  obtain⟨h1,h2,h⟩:=h
  have S_:=sub_zip
  have L1:Heap.IsTuple (Shared.heap ⟨hp,g,d,tk,os⟩) t as:=h1
  have L2:Heap.IsList (Shared.heap ⟨hp.push {cls:=.type "tuple_iterator",data:=.fields #[.ref t,.int 0 0]},g,d,tk,os⟩) l bs:=Heap.IsList.push h2 _
  wp_walk using wpAny_pyIter_tuple L1,wpAny_pyIter_list L2
  exact⟨_,rfl,h⟩
theorem Ta{t l:Addr}{as bs:Array Value}{Q:Value→Shared→Prop}(ht:z.heap.IsTuple t as)(hl:z.heap.IsList l bs)(k:∀g,IsZip g (z.heap.objs.size+4) (z.heap.objs.size+2) (z.heap.objs.size+3) .none→IsPair g (z.heap.objs.size+2) (.ref z.heap.objs.size) (.ref (z.heap.objs.size+1))→IsPair g (z.heap.objs.size+3) .none .none→g.IsTupleIter z.heap.objs.size t 0→g.IsListIter (z.heap.objs.size+1) l 0→(∀c o,z.heap.get? c=some o→g.get? c=some o)→Q (.ref (z.heap.objs.size+4)) {z with heap:=g}):wpAny (model P w) Ar (call (.type "zip") [.ref t,.ref l]) Q Ex z:=by
 refine callType_new F.called_zip (by decide) (F.typeCall_zip_2 _ _) (F.newCall_zip_2 _ _) (λobj=>F.args_object_init_3 obj _ _) F.entry_zip_new (S0 t l as bs) ⟨ht,hl,?_⟩
 have y1:(xc z.heap t).objs.size=z.heap.objs.size+1:=Heap.size_push ..
 have y2:(xf z.heap t l).objs.size=z.heap.objs.size+2:=by rw[Heap.size_push,y1]
 have y3:(xh z.heap t l).objs.size=z.heap.objs.size+3:=by rw[Heap.size_push,y2]
 have y4:(xi z.heap t l).objs.size=z.heap.objs.size+4:=by rw[Heap.size_push,y3]
 have p5:(qW z.heap t l).get? (xi z.heap t l).objs.size=some _:=Heap.get?_push_size _ rfl
 have p4:(qW z.heap t l).get? (xh z.heap t l).objs.size=some _:=Heap.get?_push_of_some _ (Heap.get?_push_size _ rfl)
 have p3:(qW z.heap t l).get? (xf z.heap t l).objs.size=some _:=Heap.get?_push_of_some _ (Heap.get?_push_of_some _ (Heap.get?_push_size _ rfl))
 have p2:(qW z.heap t l).get? (xc z.heap t).objs.size=some _:=Heap.get?_push_of_some _ (Heap.get?_push_of_some _ (Heap.get?_push_of_some _ (Heap.get?_push_size _ rfl)))
 have p1:(qW z.heap t l).get? z.heap.objs.size=some _:=Heap.get?_push_of_some _ (Heap.get?_push_of_some _ (Heap.get?_push_of_some _ (Heap.get?_push_of_some _ (Heap.get?_push_size _ rfl))))
 show _∧_
 rw[y2,y3,y4]at p5
 rw[y1,y2]at p3
 rw[y3]at p4
 rw[y1]at p2
 rw[y4]
 exact⟨⟨_,p5,rfl⟩,k _ p5 p3 p4 ⟨_,p1,rfl,rfl⟩ ⟨_,p2,rfl,rfl⟩ λc o y=>Heap.get?_push_of_some _ (Heap.get?_push_of_some _ (Heap.get?_push_of_some _ (Heap.get?_push_of_some _ (Heap.get?_push_of_some _ y))))⟩
end
end LX
namespace L2
open PySem PySem.Spec PyProof.Rows LX
def qX(K:PySem.W.Frag)(a b:Addr):It:=
 ⟨λi H=>∃(xs ys:List V) (x y:V),aY K H a xs∧ah K H b ys∧xs[i]?=some x∧ys[i]?=some y,
  λi H v U=>∃T x y,v=.ref T∧H T=none∧U=upd H T (.tup [x,y])∧(∀xs,aY K H a xs→xs[i]?=some x)∧∀ys,ah K H b ys→ys[i]?=some y,
  λi H=>∃xs:List V,aY K H a xs∧xs.length≤i⟩
theorem Tb{P:Program}{w:World}{K:PySem.W.Frag}{elts:List Expr}{kk:Nat}{gf:Pos}{a b z TI TO i1 i2:Addr}(D:ZipApart z TI TO i1 i2 a b):
  Turn P w K (.Tuple elts kk gf) (qX K a b) [z,TI,TO,i1,i2] z (λi h=>IsZip h z TI TO .none∧IsPair h TI (.ref i1) (.ref i2)∧(∃x y,IsPair h TO x y)∧h.IsTupleIter i1 a i∧h.IsListIter i2 b i) where
 mem:=by simp
 obj:=λi h st c hc=>by
  obtain⟨hz,dN,⟨x,y,eh⟩,⟨o1,e1,_,d1⟩,⟨o2,e2,_,d2⟩⟩:=st
  have e':c=z∨c=TI∨c=TO∨c=i1∨c=i2:=by simpa using hc
  rcases e' with q|q|q|q|q
  ·rw[q];exact⟨_,hz,λv q=>nomatch q⟩
  ·rw[q];exact⟨_,dN,λv q=>nomatch q⟩
  ·rw[q];exact⟨_,eh,λv q=>nomatch q⟩
  ·rw[q];exact⟨o1,e1,λv q=>by rw[d1]at q;cases q⟩
  ·rw[q];exact⟨o2,e2,λv q=>by rw[d2]at q;cases q⟩
 keep:=λi h h' st k=>by
  obtain⟨hz,dN,⟨x,y,eh⟩,h1,h2⟩:=st
  exact⟨k z (by simp) _ hz,k TI (by simp) _ dN,⟨x,y,k TO (by simp) _ eh⟩,h1.at λo q=>k i1 (by simp) o q,h2.at λo q=>k i2 (by simp) o q⟩
 item:=by
  intro X hP hw hK hc i pins s σ H E I hf st hg
  subst hP hw hK
  obtain⟨hz,dN,⟨x0,y0,eh⟩,h1,h2⟩:=st
  obtain⟨xs,ys,x,y,fX,h8,hx,hy⟩:=hg
  obtain⟨aq,rv,p,_⟩:=I.tuple fX
  obtain⟨gj,lh,p2,_⟩:=I.list h8
  obtain⟨u,hu,ru⟩:=rv.get hx
  obtain⟨u2,tH,tI⟩:=lh.get hy
  have nu:z<s.heap.objs.size:=Heap.lt_size hz
  refine SX D hz dN eh h1 h2 (show s.heap.IsTuple a aq.toArray from p) p2.isList (a:=u) (b:=u2) (by simpa using hu) (by simpa using tH) λh' z' tJ tK tL hT hsz hk=>?_
  refine⟨_,rfl,wpAny_letOwnedTupleGo_zip (s:={s with heap:=h'}) z' λh7 zY sb=>?_⟩
  have lZ:h7.get? s.heap.objs.size=some {cls:=.type "tuple",data:=.seq #[u,u2]}:=(sb.2 _ (Nat.ne_of_gt nu)).trans hT
  have new:dI X.prog X.w (upd H s.heap.objs.size (.tup [x,y])) h7 s.heap.objs.size (.tup [x,y]):=
   ⟨by show 2≤sizeLine;decide,[u,u2],.cons ru (.cons tI .nil),⟨_,lZ,rfl,_,rfl⟩⟩
  have I1:Inv X pins σ (upd H s.heap.objs.size (.tup [x,y])) {s with heap:=h7}:=
   I.wo (t':=s.toks) (ch:=[z,TI,TO,i1,i2]) (λc o hb q=>(sb.2 c (λq'=>hb (by simp[q']))).trans (hk c o (λq'=>hb (by simp[q'])) (λq'=>hb (by simp[q'])) (λq'=>hb (by simp[q'])) (λq'=>hb (by simp[q'])) q)) hf (Nat.le_refl _) new
  refine⟨.ref s.heap.objs.size,_,I1,rfl,⟨_,x,y,rfl,I.aK.fresh (Nat.le_refl _),rfl,λl hl=>by rw[I.F7 hl fX];exact hx,λl hl=>by rw[I.mV hl h8];exact hy⟩,⟨zY,?_,⟨u,u2,?_⟩,?_,?_⟩,λc iO=>?_⟩
  ·exact(sb.2 _ D.TIz).trans (hk _ _ D.TIz D.TITO D.TIi1 D.TIi2 dN)
  ·exact(sb.2 _ D.TOz).trans tJ
  ·exact tK.at λo q=>(sb.2 _ D.i1z).trans q
  ·exact tL.at λo q=>(sb.2 _ D.i2z).trans q
  ·have bw:c<s.heap.objs.size:=by
    have e':c=z∨c=TI∨c=TO∨c=i1∨c=i2:=by simpa using iO
    rcases e' with q|q|q|q|q
    ·rw[q];exact nu
    ·rw[q];exact Heap.lt_size dN
    ·rw[q];exact Heap.lt_size eh
    ·rw[q];obtain⟨_,e1,_⟩:=h1;exact Heap.lt_size e1
    ·rw[q];obtain⟨_,e2,_⟩:=h2;exact Heap.lt_size e2
   rw[aG (Nat.ne_of_lt bw)]
   exact(hf c iO).1
 done:=by
  intro X hP hw hK hc i pins s σ H E I hf st hg
  subst hP hw hK
  obtain⟨hz,dN,⟨x0,y0,eh⟩,h1,h2⟩:=st
  obtain⟨xs,fX,zZ⟩:=hg
  obtain⟨aq,rv,p,_⟩:=I.tuple fX
  have l1:=rv.length
  exact SY (I.ok.hd hc) D hz dN h1 (show s.heap.IsTuple a aq.toArray from p) (by simp;omega) λh' hk=>⟨rfl,I.zW (t':=s.toks) (ch:=[z,TI,TO,i1,i2]) (λc o hb q=>
   hk c o (λq'=>hb (by simp[q'])) (λq'=>hb (by simp[q'])) q) hf⟩
 self:=λA i s Q E st h=>wpAny_pyIter_zip st.1 h
def JF(K:PySem.W.Frag)(ta:TA):TI:=λσ H R=>ta σ H λvs H1=>∃a b xs ys,vs=[.ref a,.ref b]∧aY K H1 a xs∧ah K H1 b ys∧R (qX K a b) H1
theorem Tc{X:Cx}{e e2:Expr}{ta:TA}{p pos gf:Pos}{elts:List Expr}{kk:Nat}(hg:Gl X "zip")(hm:X.mg "zip"=none)(ha:PA X [e,e2] ta)(hs:starEach [e,e2] X.env=(false,eval e X.env)::starEach [e2] X.env:=by rfl)(eG:(backTo pos (starEach [e2] X.env)).any (·.1)=false:=by rfl):
  PI X (.Tuple elts kk gf) (.Call (.Name "zip" p) [e,e2] [] pos) (JF X.K ta):=by
 intro pins s σ H R I h
 refine Call_ (mT I hg hm zX (PyProof.Rows.callWith_type1 (a8 (ha pos pins s σ H _ I h) λus s1 ⟨vs,H1,I1,r1,q1⟩=>?_) hs eG))
 obtain⟨a,b,xs,ys,ex,fX,h8,q⟩:=q1
 subst ex
 cases r1 with
 |cons r rr=>
  cases rr with
  |cons r' rr=>
   cases rr
   cases r
   cases r'
   obtain⟨aq,rv,p1,_⟩:=I1.tuple fX
   obtain⟨gj,lh,p2,_⟩:=I1.list h8
   have la:a<s1.heap.objs.size:=by obtain⟨o,ho,_⟩:=p1;exact Heap.lt_size ho
   have lb:b<s1.heap.objs.size:=p2.lt
   refine Ta (show s1.heap.IsTuple a aq.toArray from p1) p2.isList λh' hz dN eh h1 h2 hk=>wpAny_pyIter_zip hz ?_
   have I2:Inv X pins σ H1 {s1 with heap:=h'}:=I1.kept (t':=s1.toks) hk
   refine⟨s1.heap.objs.size+4,[s1.heap.objs.size+4,s1.heap.objs.size+2,s1.heap.objs.size+3,s1.heap.objs.size,s1.heap.objs.size+1],_,_,H1,rfl,I2,Tb (PySem.W.ktu_apart s1.heap.objs.size a b la lb),⟨hz,dN,⟨_,_,eh⟩,h1,h2⟩,λc iO=>?_,q⟩
   have e':c=s1.heap.objs.size+4∨c=s1.heap.objs.size+2∨c=s1.heap.objs.size+3∨c=s1.heap.objs.size∨c=s1.heap.objs.size+1:=by simpa using iO
   have hle:s1.heap.objs.size≤c:=by
    rcases e' with z|z|z|z|z
    ·rw[z];exact Nat.le_add_right _ _
    ·rw[z];exact Nat.le_add_right _ _
    ·rw[z];exact Nat.le_add_right _ _
    ·rw[z];exact Nat.le_refl _
    ·rw[z];exact Nat.le_add_right _ _
   exact I1.mY hle (I1.aK.fresh hle)
end L2
namespace LX
open PySem PySem.Spec PyProof.Rows L2
structure qY(q TI TO j1 j2 j3 l1 l2 l3:Addr):Prop where
 JG:TI≠q
 qZ:TO≠q
 TITO:TI≠TO
 q_:j1≠q
 Td:TI≠j1
 xj:TO≠j1
 xk:j2≠q
 Te:TI≠j2
 xl:TO≠j2
 xm:j3≠q
 Tf:TI≠j3
 xn:TO≠j3
 JH:j1≠j2
 JI:j1≠j3
 JJ:j2≠j3
 JK:l1≠q
 l1TO:l1≠TO
 ade:l1≠j1
 adf:l1≠j2
 adg:l1≠j3
 Tg:l2≠q
 l2TO:l2≠TO
 Th:l2≠j1
 adh:l2≠j2
 adi:l2≠j3
 Ti:l3≠q
 JL:l3≠TO
 Tj:l3≠j1
 Tn:l3≠j2
 adj:l3≠j3
theorem To(n a b c:Nat)(h1:a<n)(h2:b<n)(h3:c<n):qY (n+5) (n+3) (n+4) n (n+1) (n+2) a b c:=by
 constructor<;>(refine PySem.W.neN ?_;omega)
abbrev fu(h:Heap)(T:Addr)(a b c:Value):Prop:=h.get? T=some {cls:=.type "tuple",data:=.seq #[a,b,c]}
theorem Tp(a b c:Value):checkTypeCall "zip" ⟨[a,b,c],[]⟩=pure ():=by kernel_rfl
theorem Tq(a b c:Value):checkBuiltinCall "zip.__new__" ⟨[.type "zip",a,b,c],[]⟩=pure ():=by kernel_rfl
section
variable{P:Program}{w:World}{Ar:Around}{Ex:Value→Shared→Prop}{z:Shared}
theorem AR{T:Addr}{a b c x:Value}{k:Nat}{Q:Unit→Shared→Prop}(hT:fu z.heap T a b c)(h:∀g,g.get? T=some {cls:=.type "tuple",data:=.seq ((#[a,b,c]:Array Value).setIfInBounds k x)}→Heap.SameBut T z.heap g→Q () {z with heap:=g}):wpAny (model P w) Ar (updateSeq T (·.setIfInBounds k x)) Q Ex z:=by
 refine wpAny_updateSeq hT rfl (h _ (by rw[Heap.get?_update_self _ hT rfl];simp[Obj.mapSeq]) (Heap.SameBut.update ..))
theorem Tr{q TI TO j1 j2 j3 l1 l2 l3:Addr}{n:Nat}{as bs cs:Array Value}{a b c o1 o2 o3:Value}{Q:Value→Shared→Prop}(D:qY q TI TO j1 j2 j3 l1 l2 l3)(hq:IsZip z.heap q TI TO .none)(hI:fu z.heap TI (.ref j1) (.ref j2) (.ref j3))(hO:fu z.heap TO o1 o2 o3)(g1:z.heap.IsListIter j1 l1 n)(g2:z.heap.IsListIter j2 l2 n)(g3:z.heap.IsListIter j3 l3 n)(h1:z.heap.IsList l1 as)(h2:z.heap.IsList l2 bs)(h3:z.heap.IsList l3 cs)(ha:as[n]?=some a)(hb:bs[n]?=some b)(hc:cs[n]?=some c)(k:∀g,IsZip g q TI TO (rawInt z.heap.objs.size)→fu g TO a b c→g.IsListIter j1 l1 (n+1)→g.IsListIter j2 l2 (n+1)→g.IsListIter j3 l3 (n+1)→fu g z.heap.objs.size a b c→(∀y o,y≠q→y≠TO→y≠j1→y≠j2→y≠j3→z.heap.get? y=some o→g.get? y=some o)→Q (.ref z.heap.objs.size) {z with heap:=g}):wpAny (model P w) Ar (Builtin.«zip.__next__» ⟨[.ref q],[]⟩) (λfin z'=>∃v,fin=.done (.ret v)∧Q v z') Ex z:=by
 show wpAny _ _ (field (.ref q) 2>>=_) _ _ _
 refine wpAny_bind (wpAny_field hq rfl (x:=.bool false) rfl ?_)
 show wpAny _ _ (field (.ref q) 3>>=_) _ _ _
 refine wpAny_bind (wpAny_field hq rfl (x:=.ref TI) rfl ?_)
 refine wpAny_bind (wpAny_seqItems hI rfl ?_)
 show wpAny _ _ (Builtin.SmallTypes.ownedTupleIsFree (.ref q)>>=_) _ _ _
 refine wpAny_bind ?_
 delta Builtin.SmallTypes.ownedTupleIsFree
 refine wpAny_bind (wpAny_field hq rfl (x:=.none) rfl (wpAny_pure ?_))
 simp only[if_true]
 refine wpAny_bind (wpAny_rule ?_)
 refine wpAny_bind (wpAny_field hq rfl (x:=.ref TO) rfl ?_)
 refine wpAny_bind (wpAny_setField_rec hq (by simp) λe1 iC s1=>?_)
 replace iC:IsZip e1 q TI TO .ellipsis:=iC
 refine wpAny_bind ?_
 simp only[List.forIn_cons,List.forIn_nil,List.zipIdx_cons,List.zipIdx_nil]
 refine(wpAny_bind<|wpAny_bind<|wpAny_onRaise ?_)
 show wpAny _ _ (Builtin.SmallTypes.nextOf (.ref j1)>>=_) _ _ _
 refine wpAny_bind (wpAny_nextOf_list_item (g1.extBut s1.extBut D.q_) (h1.extBut s1.extBut D.JK) ha λe2 AO s2=>wpAny_pure ?_)
 have uv:fu e2 TO o1 o2 o3:=s2.extBut _ _ D.xj (s1.extBut _ _ D.qZ hO)
 refine wpAny_bind (wpAny_seqItems uv rfl ?_)
 refine wpAny_bind (AR uv λe3 pb s3=>?_)
 replace pb:fu e3 TO a o2 o3:=pb
 refine(wpAny_bind<|wpAny_letGo<|wpAny_pure ?_)
 refine(wpAny_bind<|wpAny_bind<|wpAny_onRaise ?_)
 show wpAny _ _ (Builtin.SmallTypes.nextOf (.ref j2)>>=_) _ _ _
 refine wpAny_bind (wpAny_nextOf_list_item (((g2.extBut s1.extBut D.xk).extBut s2.extBut D.JH.symm).extBut s3.extBut D.xl.symm) (((h2.extBut s1.extBut D.Tg).extBut s2.extBut D.Th).extBut s3.extBut D.l2TO) hb λe4 AQ s4=>wpAny_pure ?_)
 have uw:fu e4 TO a o2 o3:=s4.extBut _ _ D.xl pb
 refine wpAny_bind (wpAny_seqItems uw rfl ?_)
 refine wpAny_bind (AR uw λe5 nO s5=>?_)
 replace nO:fu e5 TO a b o3:=nO
 refine(wpAny_bind<|wpAny_letGo<|wpAny_pure ?_)
 refine(wpAny_bind<|wpAny_bind<|wpAny_onRaise ?_)
 show wpAny _ _ (Builtin.SmallTypes.nextOf (.ref j3)>>=_) _ _ _
 refine wpAny_bind (wpAny_nextOf_list_item (((((g3.extBut s1.extBut D.xm).extBut s2.extBut D.JI.symm).extBut s3.extBut D.xn.symm).extBut s4.extBut D.JJ.symm).extBut s5.extBut D.xn.symm) (((((h3.extBut s1.extBut D.Ti).extBut s2.extBut D.Tj).extBut s3.extBut D.JL).extBut s4.extBut D.Tn).extBut s5.extBut D.JL) hc λe6 Ts s6=>wpAny_pure ?_)
 have JM:fu e6 TO a b o3:=s6.extBut _ _ D.xn nO
 refine wpAny_bind (wpAny_seqItems JM rfl ?_)
 refine wpAny_bind (AR JM λe7 xp s7=>?_)
 replace xp:fu e7 TO a b c:=xp
 refine(wpAny_bind<|wpAny_letGo<|wpAny_pure<|wpAny_pure ?_)
 refine wpAny_bind (wpAny_seqItems xp rfl ?_)
 refine(wpAny_bind<|wpAny_newTuple ?_)
 have sz:e7.objs.size=z.heap.objs.size:=by rw[s7.1,s6.1,s5.1,s4.1,s3.1,s2.1,s1.1]
 have qU:IsZip e7 q TI TO .ellipsis:=s7.extBut _ _ D.qZ.symm (s6.extBut _ _ D.xm.symm (s5.extBut _ _ D.qZ.symm (s4.extBut _ _ D.xk.symm (s3.extBut _ _ D.qZ.symm (s2.extBut _ _ D.q_.symm iC)))))
 have Tt:∀y o,y≠q→y≠TO→y≠j1→y≠j2→y≠j3→z.heap.get? y=some o→e7.get? y=some o:=λy o c1 c2 c3 c4 c5 h=>s7.extBut _ _ c2 (s6.extBut _ _ c5 (s5.extBut _ _ c2 (s4.extBut _ _ c4 (s3.extBut _ _ c2 (s2.extBut _ _ c3 (s1.extBut _ _ c1 h))))))
 have Tu:e7.IsListIter j1 l1 (n+1):=((((AO.extBut s3.extBut D.xj.symm).extBut s4.extBut D.JH).extBut s5.extBut D.xj.symm).extBut s6.extBut D.JI).extBut s7.extBut D.xj.symm
 have Tv:e7.IsListIter j2 l2 (n+1):=((AQ.extBut s5.extBut D.xl.symm).extBut s6.extBut D.JJ).extBut s7.extBut D.xl.symm
 have Tw:e7.IsListIter j3 l3 (n+1):=Ts.extBut s7.extBut D.xn.symm
 have lq:q<e7.objs.size:=Heap.lt_size qU
 show wpAny _ _ (Builtin.SmallTypes.ownedTupleHandOut (.ref q) (.ref e7.objs.size)>>=_) _ _ _
 refine wpAny_bind ?_
 delta Builtin.SmallTypes.ownedTupleHandOut
 have qV:IsZip (e7.push {cls:=.type "tuple",data:=.seq #[a,b,c]}) q TI TO .ellipsis:=Heap.get?_push_of_some _ qU
 refine wpAny_bind (wpAny_setField_rec qV (by simp) λe9 AS s9=>?_)
 replace AS:IsZip e9 q TI TO (rawInt e7.objs.size):=AS
 refine wpAny_setField_rec AS (by simp) λf xq sf=>?_
 replace xq:IsZip f q TI TO (rawInt e7.objs.size):=xq
 have up:∀y o,y≠q→e7.get? y=some o→f.get? y=some o:=λy o c1 h=>sf.extBut _ _ c1 (s9.extBut _ _ c1 (Heap.get?_push_of_some _ h))
 have JN:fu f e7.objs.size a b c:=sf.extBut _ _ (Nat.ne_of_gt lq) (s9.extBut _ _ (Nat.ne_of_gt lq) (Heap.get?_push_size _ rfl))
 rw[sz]at xq JN
 refine wpAny_pure ⟨_,rfl,?_⟩
 show Q (.ref e7.objs.size) _
 rw[sz]
 exact k f xq (up _ _ D.qZ xp) (Tu.at λo y=>up _ o D.q_ y) (Tv.at λo y=>up _ o D.xk y) (Tw.at λo y=>up _ o D.xm y) JN λy o c1 c2 c3 c4 c5 h=>up y o c1 (Tt y o c1 c2 c3 c4 c5 h)
theorem Tx{q TI TO j1 j2 j3 l1 l2 l3:Addr}{n:Nat}{as:Array Value}{Q:Fin→Shared→Prop}(hh:Ar.handled=none)(D:qY q TI TO j1 j2 j3 l1 l2 l3)(hq:IsZip z.heap q TI TO .none)(hI:fu z.heap TI (.ref j1) (.ref j2) (.ref j3))(g1:z.heap.IsListIter j1 l1 n)(h1:z.heap.IsList l1 as)(ha:as[n]?=none)(k:∀g e,(∀y o,y≠q→y≠j1→z.heap.get? y=some o→g.get? y=some o)→(∃o,g.get? e=some o∧o.cls=.type "StopIteration")→Ex (.ref e) {z with heap:=g}):wpAny (model P w) Ar (Builtin.«zip.__next__» ⟨[.ref q],[]⟩) Q Ex z:=by
 show wpAny _ _ (field (.ref q) 2>>=_) _ _ _
 refine wpAny_bind (wpAny_field hq rfl (x:=.bool false) rfl ?_)
 show wpAny _ _ (field (.ref q) 3>>=_) _ _ _
 refine wpAny_bind (wpAny_field hq rfl (x:=.ref TI) rfl ?_)
 refine wpAny_bind (wpAny_seqItems hI rfl ?_)
 show wpAny _ _ (Builtin.SmallTypes.ownedTupleIsFree (.ref q)>>=_) _ _ _
 refine wpAny_bind ?_
 delta Builtin.SmallTypes.ownedTupleIsFree
 refine wpAny_bind (wpAny_field hq rfl (x:=.none) rfl (wpAny_pure ?_))
 simp only[if_true]
 refine wpAny_bind (wpAny_rule ?_)
 refine wpAny_bind (wpAny_field hq rfl (x:=.ref TO) rfl ?_)
 refine wpAny_bind (wpAny_setField_rec hq (by simp) λe1 iC s1=>?_)
 replace iC:IsZip e1 q TI TO .ellipsis:=iC
 refine wpAny_bind ?_
 simp only[List.forIn_cons,List.forIn_nil,List.zipIdx_cons,List.zipIdx_nil]
 refine(wpAny_bind<|wpAny_bind<|wpAny_onRaise ?_)
 show wpAny _ _ (Builtin.SmallTypes.nextOf (.ref j1)>>=_) _ _ _
 refine wpAny_bind (wpAny_nextOf_list_end hh (g1.extBut s1.extBut D.q_) (h1.extBut s1.extBut D.JK) ha λe2 e s2 he=>?_)
 obtain⟨oe,kj,lY⟩:=he
 have l8:IsZip e2 q TI TO .ellipsis:=s2 _ _ D.q_.symm iC
 have nq:e≠q:=λy=>by subst y;rw[l8]at kj;cases kj;simp at lY
 exact wpAny_setField_rec l8 (by simp) λe3 _ s3=>k e3 e (λc o c1 c3 y=>s3.extBut _ _ c1 (s2 _ _ c3 (s1.extBut _ _ c1 y))) ⟨oe,s3.extBut _ _ nq kj,lY⟩
theorem Tz{q TI TO j1 j2 j3 l1 l2 l3:Addr}{n:Nat}{as bs cs:Array Value}{a b c o1 o2 o3:Value}{Q:Option Value→Shared→Prop}(D:qY q TI TO j1 j2 j3 l1 l2 l3)(hq:IsZip z.heap q TI TO .none)(hI:fu z.heap TI (.ref j1) (.ref j2) (.ref j3))(hO:fu z.heap TO o1 o2 o3)(g1:z.heap.IsListIter j1 l1 n)(g2:z.heap.IsListIter j2 l2 n)(g3:z.heap.IsListIter j3 l3 n)(h1:z.heap.IsList l1 as)(h2:z.heap.IsList l2 bs)(h3:z.heap.IsList l3 cs)(ha:as[n]?=some a)(hb:bs[n]?=some b)(hc:cs[n]?=some c)(k:∀g,IsZip g q TI TO (rawInt z.heap.objs.size)→fu g TO a b c→g.IsListIter j1 l1 (n+1)→g.IsListIter j2 l2 (n+1)→g.IsListIter j3 l3 (n+1)→fu g z.heap.objs.size a b c→(∀y o,y≠q→y≠TO→y≠j1→y≠j2→y≠j3→z.heap.get? y=some o→g.get? y=some o)→Q (some (.ref z.heap.objs.size)) {z with heap:=g}):wpAny (model P w) Ar (pyNext (.ref q)) Q Ex z:=by
 have hT:z.TypeIs (.ref q) "zip":=⟨_,hq,rfl⟩
 unfold pyNext
 exact wpAny_bind (wpAny_attempt (wpAny_callSpecial?_slot (name:=Str.ofString "__next__") hT F.slot_zip_next (wpAny_call_entry F.slot_zip_next hT F.entry_zip_next (Tr D hq hI hO g1 g2 g3 h1 h2 h3 ha hb hc λg a1 a2 a3 a4 a5 a6 a7=>wpAny_pure (k g a1 a2 a3 a4 a5 a6 a7)) (F.args_zip_next_1 _))))
theorem TB{q TI TO j1 j2 j3 l1 l2 l3:Addr}{n:Nat}{as:Array Value}{Q:Option Value→Shared→Prop}(hh:Ar.handled=none)(D:qY q TI TO j1 j2 j3 l1 l2 l3)(hq:IsZip z.heap q TI TO .none)(hI:fu z.heap TI (.ref j1) (.ref j2) (.ref j3))(g1:z.heap.IsListIter j1 l1 n)(h1:z.heap.IsList l1 as)(ha:as[n]?=none)(k:∀g,(∀y o,y≠q→y≠j1→z.heap.get? y=some o→g.get? y=some o)→Q none {z with heap:=g}):wpAny (model P w) Ar (pyNext (.ref q)) Q Ex z:=by
 have hT:z.TypeIs (.ref q) "zip":=⟨_,hq,rfl⟩
 unfold pyNext
 refine wpAny_bind (wpAny_attempt (wpAny_callSpecial?_slot (name:=Str.ofString "__next__") hT F.slot_zip_next (wpAny_call_entry F.slot_zip_next hT F.entry_zip_next (Tx hh D hq hI g1 h1 ha λg e kp he=>?_) (F.args_zip_next_1 _))))
 obtain⟨o,ho,hc⟩:=he
 exact wpAny_bind (wpAny_isInstance (T:="StopIteration") (b:=true) ⟨o,ho,hc⟩ isSubtype_stop (wpAny_pure (k _ kp)))
abbrev pd(h:Heap)(a:Addr):Heap:=h.push {cls:=.type "list_iterator",data:=.fields #[.ref a,.int 0 0]}
abbrev ux(h:Heap)(a b:Addr):Heap:=pd (pd h a) b
abbrev xr(h:Heap)(a b c:Addr):Heap:=pd (ux h a b) c
abbrev xu(h:Heap)(a b c:Addr):Heap:=(xr h a b c).push {cls:=.type "tuple",data:=.seq #[.ref h.objs.size,.ref (pd h a).objs.size,.ref (ux h a b).objs.size]}
abbrev xw(h:Heap)(a b c:Addr):Heap:=(xu h a b c).push {cls:=.type "tuple",data:=.seq #[.none,.none,.none]}
abbrev pf(h:Heap)(a b c:Addr):Heap:=(xw h a b c).push {cls:=.type "zip",data:=.fields #[.none,.bool false,.bool false,.ref (xr h a b c).objs.size,.ref (xu h a b c).objs.size]}
theorem TC(a b c:Addr)(as bs cs:Array Value):Meets (Builtin.«zip.__new__» ⟨[.type "zip",.ref a,.ref b,.ref c],[]⟩) (λ_ R s=>s.heap.IsList a as∧s.heap.IsList b bs∧s.heap.IsList c cs∧R (.ok (.ret (.ref (xw s.heap a b c).objs.size))) {s with heap:=pf s.heap a b c}):=
 .of_wp λprog w A R s h=>by
  obtain⟨hp,g,d,tk,os⟩:=s
  obtain⟨h1,h2,h3,h⟩:=h
  have S_:=sub_zip
  have L1:Heap.IsList (Shared.heap ⟨hp,g,d,tk,os⟩) a as:=h1
  have L2:Heap.IsList (Shared.heap ⟨pd hp a,g,d,tk,os⟩) b bs:=Heap.IsList.push h2 _
  have L3:Heap.IsList (Shared.heap ⟨ux hp a b,g,d,tk,os⟩) c cs:=Heap.IsList.push (Heap.IsList.push h3 _) _
  wp_walk using wpAny_pyIter_list L1,wpAny_pyIter_list L2,wpAny_pyIter_list L3
  exact⟨_,rfl,h⟩
end
end LX
namespace LX
open PySem PySem.Spec PyProof.Rows L2
theorem TF(a b c d:Value):argsOk "object.__init__" ⟨[a,b,c,d],[]⟩:=by
 unfold argsOk
 rw[signature?_of (id:="object.__init__") (n:=['_','_','t','i','n','i','_','_']) (o:=['t','c','e','j','b','o']) (by kernel_rfl) F.owner_object]
 kernel_rfl
section
variable{P:Program}{w:World}{Ar:Around}{Ex:Value→Shared→Prop}{z:Shared}
theorem TH{a b c:Addr}{as bs cs:Array Value}{Q:Value→Shared→Prop}(h1:z.heap.IsList a as)(h2:z.heap.IsList b bs)(h3:z.heap.IsList c cs)(k:∀g,IsZip g (z.heap.objs.size+5) (z.heap.objs.size+3) (z.heap.objs.size+4) .none→fu g (z.heap.objs.size+3) (.ref z.heap.objs.size) (.ref (z.heap.objs.size+1)) (.ref (z.heap.objs.size+2))→fu g (z.heap.objs.size+4) .none .none .none→g.IsListIter z.heap.objs.size a 0→g.IsListIter (z.heap.objs.size+1) b 0→g.IsListIter (z.heap.objs.size+2) c 0→(∀y o,z.heap.get? y=some o→g.get? y=some o)→Q (.ref (z.heap.objs.size+5)) {z with heap:=g}):
  wpAny (model P w) Ar (call (.type "zip") [.ref a,.ref b,.ref c]) Q Ex z:=by
 refine callType_new F.called_zip (by decide) (Tp _ _ _) (Tq _ _ _) (λobj=>TF obj _ _ _) F.entry_zip_new (TC a b c as bs cs) ⟨h1,h2,h3,?_⟩
 have y1:(pd z.heap a).objs.size=z.heap.objs.size+1:=Heap.size_push ..
 have y2:(ux z.heap a b).objs.size=z.heap.objs.size+2:=by rw[Heap.size_push,y1]
 have y3:(xr z.heap a b c).objs.size=z.heap.objs.size+3:=by rw[Heap.size_push,y2]
 have y4:(xu z.heap a b c).objs.size=z.heap.objs.size+4:=by rw[Heap.size_push,y3]
 have y5:(xw z.heap a b c).objs.size=z.heap.objs.size+5:=by rw[Heap.size_push,y4]
 have u:∀{h:Heap} {o o':Obj} {y:Addr},h.get? y=some o'→(h.push o).get? y=some o':=λe=>Heap.get?_push_of_some _ e
 have p6:(pf z.heap a b c).get? (xw z.heap a b c).objs.size=some _:=Heap.get?_push_size _ rfl
 have p5:(pf z.heap a b c).get? (xu z.heap a b c).objs.size=some _:=u (Heap.get?_push_size _ rfl)
 have p4:(pf z.heap a b c).get? (xr z.heap a b c).objs.size=some _:=u (u (Heap.get?_push_size _ rfl))
 have p3:(pf z.heap a b c).get? (ux z.heap a b).objs.size=some _:=u (u (u (Heap.get?_push_size _ rfl)))
 have p2:(pf z.heap a b c).get? (pd z.heap a).objs.size=some _:=u (u (u (u (Heap.get?_push_size _ rfl))))
 have p1:(pf z.heap a b c).get? z.heap.objs.size=some _:=u (u (u (u (u (Heap.get?_push_size _ rfl)))))
 show _∧_
 rw[y3,y4,y5]at p6
 rw[y1,y2,y3]at p4
 rw[y4]at p5
 rw[y2]at p3
 rw[y1]at p2
 rw[y5]
 exact⟨⟨_,p6,rfl⟩,k _ p6 p4 p5 ⟨_,p1,rfl,rfl⟩ ⟨_,p2,rfl,rfl⟩ ⟨_,p3,rfl,rfl⟩ λy o e=>u (u (u (u (u (u e)))))⟩
end
end LX
namespace L2
open PySem PySem.Spec PyProof.Rows LX
def ra(K:PySem.W.Frag)(a b c:Addr):It:=
 ⟨λi H=>∃(xs ys zs:List V) (x y z:V),ah K H a xs∧ah K H b ys∧ah K H c zs∧xs[i]?=some x∧ys[i]?=some y∧zs[i]?=some z,
  λi H v U=>∃T x y z,v=.ref T∧H T=none∧U=upd H T (.tup [x,y,z])∧(∀xs,ah K H a xs→xs[i]?=some x)∧(∀ys,ah K H b ys→ys[i]?=some y)∧∀zs,ah K H c zs→zs[i]?=some z,
  λi H=>∃xs:List V,ah K H a xs∧xs.length≤i⟩
theorem TJ{P:Program}{w:World}{K:PySem.W.Frag}{elts:List Expr}{kk:Nat}{gf:Pos}{a b c q TI TO i1 i2 i3:Addr}(D:qY q TI TO i1 i2 i3 a b c):
  Turn P w K (.Tuple elts kk gf) (ra K a b c) [q,TI,TO,i1,i2,i3] q (λi h=>IsZip h q TI TO .none∧fu h TI (.ref i1) (.ref i2) (.ref i3)∧(∃x y z,fu h TO x y z)∧h.IsListIter i1 a i∧h.IsListIter i2 b i∧h.IsListIter i3 c i) where
 mem:=by simp
 obj:=λi h st y hy=>by
  obtain⟨hq,dN,⟨x1,x2,x3,eh⟩,⟨o1,e1,_,d1⟩,⟨o2,e2,_,d2⟩,⟨o3,e3,_,d3⟩⟩:=st
  have e':y=q∨y=TI∨y=TO∨y=i1∨y=i2∨y=i3:=by simpa using hy
  rcases e' with r|r|r|r|r|r
  ·rw[r];exact⟨_,hq,λv r=>nomatch r⟩
  ·rw[r];exact⟨_,dN,λv r=>nomatch r⟩
  ·rw[r];exact⟨_,eh,λv r=>nomatch r⟩
  ·rw[r];exact⟨o1,e1,λv r=>by rw[d1]at r;cases r⟩
  ·rw[r];exact⟨o2,e2,λv r=>by rw[d2]at r;cases r⟩
  ·rw[r];exact⟨o3,e3,λv r=>by rw[d3]at r;cases r⟩
 keep:=λi h h' st k=>by
  obtain⟨hq,dN,⟨x1,x2,x3,eh⟩,h1,h2,h3⟩:=st
  exact⟨k q (by simp) _ hq,k TI (by simp) _ dN,⟨x1,x2,x3,k TO (by simp) _ eh⟩,h1.at λo r=>k i1 (by simp) o r,h2.at λo r=>k i2 (by simp) o r,h3.at λo r=>k i3 (by simp) o r⟩
 item:=by
  intro X hP hw hK hc i pins s σ H E I hf st hg
  subst hP hw hK
  obtain⟨hq,dN,⟨x0,y0,z0,eh⟩,h1,h2,h3⟩:=st
  obtain⟨xs,ys,zs,x,y,z,fX,h8,xx,hx,hy,hz⟩:=hg
  obtain⟨t1,JO,p1,_⟩:=I.list fX
  obtain⟨t2,lh,p2,_⟩:=I.list h8
  obtain⟨t3,JP,p3,_⟩:=I.list xx
  obtain⟨u1,TK,TM⟩:=JO.get hx
  obtain⟨u2,tH,tI⟩:=lh.get hy
  obtain⟨u3,TN,TQ⟩:=JP.get hz
  have lq:q<s.heap.objs.size:=Heap.lt_size hq
  refine Tz D hq dN eh h1 h2 h3 p1.isList p2.isList p3.isList (a:=u1) (b:=u2) (c:=u3) (by simpa using TK) (by simpa using tH) (by simpa using TN) λh' q' tJ tK tL TR hT hk=>?_
  refine⟨_,rfl,wpAny_letOwnedTupleGo_zip (s:={s with heap:=h'}) q' λh7 TU sb=>?_⟩
  have lZ:h7.get? s.heap.objs.size=some {cls:=.type "tuple",data:=.seq #[u1,u2,u3]}:=(sb.2 _ (Nat.ne_of_gt lq)).trans hT
  have new:dI X.prog X.w (upd H s.heap.objs.size (.tup [x,y,z])) h7 s.heap.objs.size (.tup [x,y,z]):=
   ⟨by show 3≤sizeLine;decide,[u1,u2,u3],.cons TM (.cons tI (.cons TQ .nil)),⟨_,lZ,rfl,_,rfl⟩⟩
  have I1:Inv X pins σ (upd H s.heap.objs.size (.tup [x,y,z])) {s with heap:=h7}:=
   I.wo (t':=s.toks) (ch:=[q,TI,TO,i1,i2,i3]) (λy o hb r=>(sb.2 y (λr'=>hb (by simp[r']))).trans (hk y o (λr'=>hb (by simp[r'])) (λr'=>hb (by simp[r'])) (λr'=>hb (by simp[r'])) (λr'=>hb (by simp[r'])) (λr'=>hb (by simp[r'])) r)) hf (Nat.le_refl _) new
  refine⟨.ref s.heap.objs.size,_,I1,rfl,⟨_,x,y,z,rfl,I.aK.fresh (Nat.le_refl _),rfl,λl hl=>by rw[I.mV hl fX];exact hx,λl hl=>by rw[I.mV hl h8];exact hy,λl hl=>by rw[I.mV hl xx];exact hz⟩,⟨TU,?_,⟨u1,u2,u3,?_⟩,?_,?_,?_⟩,λy iO=>?_⟩
  ·exact(sb.2 _ D.JG).trans (hk _ _ D.JG D.TITO D.Td D.Te D.Tf dN)
  ·exact(sb.2 _ D.qZ).trans tJ
  ·exact tK.at λo r=>(sb.2 _ D.q_).trans r
  ·exact tL.at λo r=>(sb.2 _ D.xk).trans r
  ·exact TR.at λo r=>(sb.2 _ D.xm).trans r
  ·have bw:y<s.heap.objs.size:=by
    have e':y=q∨y=TI∨y=TO∨y=i1∨y=i2∨y=i3:=by simpa using iO
    rcases e' with r|r|r|r|r|r
    ·rw[r];exact lq
    ·rw[r];exact Heap.lt_size dN
    ·rw[r];exact Heap.lt_size eh
    ·rw[r];obtain⟨_,e1,_⟩:=h1;exact Heap.lt_size e1
    ·rw[r];obtain⟨_,e2,_⟩:=h2;exact Heap.lt_size e2
    ·rw[r];obtain⟨_,e3,_⟩:=h3;exact Heap.lt_size e3
   rw[aG (Nat.ne_of_lt bw)]
   exact(hf y iO).1
 done:=by
  intro X hP hw hK hc i pins s σ H E I hf st hg
  subst hP hw hK
  obtain⟨hq,dN,_,h1,h2,h3⟩:=st
  obtain⟨xs,fX,zZ⟩:=hg
  obtain⟨t1,rv,p,_⟩:=I.list fX
  have l1:=rv.length
  exact TB (I.ok.hd hc) D hq dN h1 p.isList (by simp;omega) λh' hk=>⟨rfl,I.zW (t':=s.toks) (ch:=[q,TI,TO,i1,i2,i3]) (λy o hb r=>hk y o (λr'=>hb (by simp[r'])) (λr'=>hb (by simp[r'])) r) hf⟩
 self:=λA i s Q E st h=>wpAny_pyIter_zip st.1 h
def JQ(K:PySem.W.Frag)(ta:TA):TI:=λσ H R=>ta σ H λvs H1=>∃a b c xs ys zs,vs=[.ref a,.ref b,.ref c]∧ah K H1 a xs∧ah K H1 b ys∧ah K H1 c zs∧R (ra K a b c) H1
theorem TV{X:Cx}{e e2 e3:Expr}{ta:TA}{p pos gf:Pos}{elts:List Expr}{kk:Nat}(hg:Gl X "zip")(hm:X.mg "zip"=none)(ha:PA X [e,e2,e3] ta)(hs:starEach [e,e2,e3] X.env=(false,eval e X.env)::starEach [e2,e3] X.env:=by rfl)(eG:(backTo pos (starEach [e2,e3] X.env)).any (·.1)=false:=by rfl):
  PI X (.Tuple elts kk gf) (.Call (.Name "zip" p) [e,e2,e3] [] pos) (JQ X.K ta):=by
 intro pins s σ H R I h
 refine Call_ (mT I hg hm zX (PyProof.Rows.callWith_type1 (a8 (ha pos pins s σ H _ I h) λus s1 ⟨vs,H1,I1,r1,q1⟩=>?_) hs eG))
 obtain⟨a,b,c,xs,ys,zs,ex,fX,h8,xx,q⟩:=q1
 subst ex
 cases r1 with
 |cons r rr=>
  cases rr with
  |cons r' rr=>
   cases rr with
   |cons TX rr=>
    cases rr
    cases r
    cases r'
    cases TX
    obtain⟨t1,JO,p1,_⟩:=I1.list fX
    obtain⟨t2,lh,p2,_⟩:=I1.list h8
    obtain⟨t3,JP,p3,_⟩:=I1.list xx
    refine TH p1.isList p2.isList p3.isList λh' hz dN eh h1 h2 h3 hk=>wpAny_pyIter_zip hz ?_
    have I2:Inv X pins σ H1 {s1 with heap:=h'}:=I1.kept (t':=s1.toks) hk
    refine⟨s1.heap.objs.size+5,[s1.heap.objs.size+5,s1.heap.objs.size+3,s1.heap.objs.size+4,s1.heap.objs.size,s1.heap.objs.size+1,s1.heap.objs.size+2],_,_,H1,rfl,I2,TJ (To s1.heap.objs.size a b c p1.lt p2.lt p3.lt),⟨hz,dN,⟨_,_,_,eh⟩,h1,h2,h3⟩,λy iO=>?_,q⟩
    have e':y=s1.heap.objs.size+5∨y=s1.heap.objs.size+3∨y=s1.heap.objs.size+4∨y=s1.heap.objs.size∨y=s1.heap.objs.size+1∨y=s1.heap.objs.size+2:=by simpa using iO
    have hle:s1.heap.objs.size≤y:=by
     rcases e' with z|z|z|z|z|z
     ·rw[z];exact Nat.le_add_right _ _
     ·rw[z];exact Nat.le_add_right _ _
     ·rw[z];exact Nat.le_add_right _ _
     ·rw[z];exact Nat.le_refl _
     ·rw[z];exact Nat.le_add_right _ _
     ·rw[z];exact Nat.le_add_right _ _
    exact I1.mY hle (I1.aK.fresh hle)
theorem TY{K:PySem.W.Frag}{a b c:Addr}{xs ys zs:List V}{g:TG}{tb:TS}{D:Ends}{σ:St}{H:Hp}(Pv:Nat→St→Hp→Prop)(h0:Pv 0 σ H)(hl:∀i σ H,Pv i σ H→ah K H a xs∧ah K H b ys∧ah K H c zs)(n:Nat)(hn:n=xs.length)(hy:n≤ys.length)(hz:n≤zs.length)(hs:∀i x y z T σ H,xs[i]?=some x→ys[i]?=some y→zs[i]?=some z→Pv i σ H→H T=none→g (.ref T) σ (upd H T (.tup [x,y,z])) λbr H2=>tb {D with nx:=Pv (i+1),ct:=Pv (i+1),bk:=D.nx} br H2)(hd:∀σ H,Pv n σ H→D.nx σ H):
  ∃W:Nat→Nat→St→Hp→Prop,(∃m,W 0 m σ H)∧∀i m σ H,W i m σ H→
   ((ra K a b c).stop i H∧D.nx σ H)∨((ra K a b c).go i H∧∃N:St→Hp→Prop,(∀az U,N az U→∃m',m'<m∧W (i+1) m' az U)∧∀x U,(ra K a b c).iL i H x U→g x σ U λbr H2=>tb {D with nx:=N,ct:=N,bk:=D.nx} br H2):=by
 refine⟨λi m σ H=>m=n-i∧i≤n∧Pv i σ H,⟨n,by simp,Nat.zero_le _,h0⟩,?_⟩
 rintro i m σ H ⟨rfl,hi,p⟩
 obtain⟨q1,q2,q3⟩:=hl i σ H p
 by_cases bw:i<n
 ·have l1:i<xs.length:=by omega
  have l2:i<ys.length:=by omega
  have l3:i<zs.length:=by omega
  refine .inr ⟨⟨xs,ys,zs,xs[i],ys[i],zs[i],q1,q2,q3,List.getElem?_eq_getElem l1,List.getElem?_eq_getElem l2,List.getElem?_eq_getElem l3⟩,Pv (i+1),λaz U p'=>⟨n-(i+1),by omega,rfl,bw,p'⟩,λx U y=>?_⟩
  obtain⟨T,x',y',z',rfl,hT,rfl,hx,AU,we⟩:=y
  exact hs i x' y' z' T σ H (hx xs q1) (AU ys q2) (we zs q3) p hT
 ·have e:i=n:=by omega
  subst e
  exact .inl ⟨⟨xs,q1,by omega⟩,hd σ H p⟩
theorem TZ{K:PySem.W.Frag}{a b:Addr}{xs ys:List V}{g:TG}{tb:TS}{D:Ends}{σ:St}{H:Hp}(Pv:Nat→St→Hp→Prop)(h0:Pv 0 σ H)(hl:∀i σ H,Pv i σ H→aY K H a xs∧ah K H b ys)(n:Nat)(hn:n=xs.length)(hy:n≤ys.length)(hs:∀i x y T σ H,xs[i]?=some x→ys[i]?=some y→Pv i σ H→H T=none→g (.ref T) σ (upd H T (.tup [x,y])) λbr H2=>tb {D with nx:=Pv (i+1),ct:=Pv (i+1),bk:=D.nx} br H2)(hd:∀σ H,Pv n σ H→D.nx σ H):
  ∃W:Nat→Nat→St→Hp→Prop,(∃m,W 0 m σ H)∧∀i m σ H,W i m σ H→
   ((qX K a b).stop i H∧D.nx σ H)∨((qX K a b).go i H∧∃N:St→Hp→Prop,(∀az U,N az U→∃m',m'<m∧W (i+1) m' az U)∧∀x U,(qX K a b).iL i H x U→g x σ U λbr H2=>tb {D with nx:=N,ct:=N,bk:=D.nx} br H2):=by
 refine⟨λi m σ H=>m=n-i∧i≤n∧Pv i σ H,⟨n,by simp,Nat.zero_le _,h0⟩,?_⟩
 rintro i m σ H ⟨rfl,hi,p⟩
 obtain⟨q1,q2⟩:=hl i σ H p
 by_cases bw:i<n
 ·have l1:i<xs.length:=by omega
  have l2:i<ys.length:=by omega
  refine .inr ⟨⟨xs,ys,xs[i],ys[i],q1,q2,List.getElem?_eq_getElem l1,List.getElem?_eq_getElem l2⟩,Pv (i+1),λaz U p'=>⟨n-(i+1),by omega,rfl,bw,p'⟩,λx U y=>?_⟩
  obtain⟨T,x',y',rfl,hT,rfl,hx,AU⟩:=y
  exact hs i x' y' T σ H (hx xs q1) (AU ys q2) p hT
 ·have e:i=n:=by omega
  subst e
  exact .inl ⟨⟨xs,q1,by omega⟩,hd σ H p⟩
end L2
namespace L2
open PySem PySem.Spec PyProof.Rows
theorem zzgE{t:TE}{σ:St}{H:Hp}{Q:VK}(k:t σ H Q):t σ H Q:=k
theorem zzgA{t:TA}{σ:St}{H:Hp}{Q:List V→Hp→Prop}(k:t σ H Q):t σ H Q:=k
theorem zzgS{t:TS}{D:Ends}{σ:St}{H:Hp}(k:t D σ H):t D σ H:=k
theorem zzgT{t:TT}{σ:St}{H:Hp}{Q:Bool→Hp→Prop}(k:t σ H Q):t σ H Q:=k
theorem zzgO{t:TO}{σ:St}{H:Hp}{Q:Option Int→Hp→Prop}(k:t σ H Q):t σ H Q:=k
theorem zzgG{t:TG}{x:V}{σ:St}{H:Hp}{R:St→Hp→Prop}(k:t x σ H R):t x σ H R:=k
end L2
local macro_rules|`(tactic| walk_at"l")=>`(tactic| repeat (with_reducible first|(refine L2.zzgE ?_;first|refine L2.bT ?_|refine L2.b5 ?_|refine L2.cz ?_|refine L2.cF ?_|refine L2.dv ?_|refine L2.cH ?_|refine L2.dq ?_|refine L2.dr ?_|refine L2.cK ?_|refine L2.dy ?_|refine L2.cM ?_|refine L2.dA ?_|refine L2.cO ?_|refine L2.dG ?_|refine L2.dz ?_|refine L2.du ?_|refine L2.cU ?_|refine L2.cQ ?_|refine L2.cZ ?_|refine L2.dC ?_|refine L2.cw ?_|refine L2.cS ?_)|(refine L2.zzgA ?_;first|refine L2.dk ?_|refine L2.dm ?_)|(refine L2.zzgS ?_;first|refine L2.bX ?_|refine L2.cg ?_|refine L2.di ?_|refine L2.dj ?_|refine L2.cB ?_|refine L2.dh ?_|refine L2.dw ?_)|refine ⟨_,rfl,?_⟩|(refine L2.zzgT ?_;first|refine L2.c6 ?_|refine L2.c9 ?_|refine L2.da ?_|refine L2.df ?_|refine L2.c_ ?_)|refine L2.cA ?_|refine L2.bW ?_|refine L2.cV ?_|refine L2.cW ?_|refine L2.cX ?_|refine L2.cY ?_|(refine L2.zzgG ?_;first|refine L2.cJ ?_|refine L2.cy ?_|refine L2.cG ?_|refine L2.cN ?_|refine L2.cP ?_|refine L2.cR ?_|refine L2.cE ?_|refine L2.cT ?_)|(refine L2.zzgO ?_;first|refine L2.dD ?_|refine L2.dF ?_)))
namespace LN
open PySem PySem.Spec PyProof.Rows L2 LX
theorem nY{c:TT}{tb:TS}{D:Ends}{σ:L2.St}{H:Hp}(W:Nat→L2.St→Hp→Prop){m:Nat}(h0:W m σ H)(hs:∀m σ H,W m σ H→c σ H λb H1=>if b=true then∃N:L2.St→Hp→Prop,(∀az U,N az U→∃m',m'<m∧W m' az U)∧tb {D with nx:=N,ct:=N,bk:=D.nx} σ H1 else D.nx σ H1):Ga c tb D σ H:=⟨W,⟨m,h0⟩,hs⟩
def bh(K:PySem.W.Frag)(H:Hp)(v:V)(q:Rat):Prop:=∃t,v=.ref t∧aY K H t [.int q.num,.int (q.den:Int)]
section
variable{K:PySem.W.Frag}{H U:Hp}{v:V}{q:Rat}{S:List Addr}
theorem bh.keep(h:bh K H v q)(k:ax S H U):bh K U v q:=let⟨t,e,z⟩:=h;⟨t,e,z.keep k⟩
theorem bh.same(h:bh K H v q)(k:au H U):bh K U v q:=let⟨t,e,z⟩:=h;⟨t,e,z.same k⟩
end
def KR:Sp:=aU (λ(d:Nat×Nat)=>[.int d.1,.int d.2]) λd H Q _=>Q (.int (Nat.gcd d.1 d.2)) H
def pz(K:PySem.W.Frag):Sp:=aU (λ(d:Int×Nat)=>[.int d.1,.int d.2]) λd H Q _=>d.2≠0∧d.2<2^8000∧∀U v,au H U→bh K U v ((d.1:Rat)/(d.2:Rat))→Q v U
def C4(K:PySem.W.Frag):Sp:=aU (λ(d:V×Rat)=>[d.1]) λd H Q _=>bh K H d.1 d.2∧∀U v,au H U→bh K U v (-d.2)→Q v U
def C5(K:PySem.W.Frag):Sp:=aU (λ(d:V×Rat)=>[d.1]) λd H Q _=>bh K H d.1 d.2∧d.2≠0∧∀U v,au H U→bh K U v (1/d.2)→Q v U
def small(q:Rat):Prop:=q.num.natAbs<2^64∧q.den<2^64
def C6(K:PySem.W.Frag):Sp:=aU (λ(d:(V×Rat)×(V×Rat))=>[d.1.1,d.2.1]) λd H Q _=>bh K H d.1.1 d.1.2∧bh K H d.2.1 d.2.2∧small d.2.2∧d.1.2.den<2^7000∧∀U v,au H U→bh K U v (d.1.2+d.2.2)→Q v U
def KS(K:PySem.W.Frag):Sp:=aU (λ(d:(V×Rat)×(V×Rat))=>[d.1.1,d.2.1]) λd H Q _=>bh K H d.1.1 d.1.2∧bh K H d.2.1 d.2.2∧small d.1.2∧d.2.2.den<2^7000∧∀U v,au H U→bh K U v (d.1.2*d.2.2)→Q v U
def xS(K:PySem.W.Frag):Sp:=aU (λ(d:V×Rat)=>[d.1]) λd H Q _=>bh K H d.1 d.2∧Q (.bl (!Ln.fits d.2)) H
section
variable{P:Program}{w:World}{K:PySem.W.Frag}{mg:Str→Option Value}{base:Heap}{A:Ad}
theorem Wf(D:aI K mg "common_divisor" AX ["a","b"]):Callee P w K mg base ao 1 "common_divisor" ["a","b"] KR:=by
 refine D.ok xE (λ_=>rfl) λf ay Ar outer s H d Q E hr h=>?_
 obtain⟨a,b⟩:=d
 refine⟨_,(af (mX PassesOwn.never (aW lg (pv 1) aM (aR _)) (af (a9 (i:=2) xE.nd rfl (Or.inl rfl) (dY Ol (pv 0) (pv 1)))
   (af (a9 (i:=0) xE.nd rfl (Or.inl rfl) (pv 1))
   (ai (a9 (i:=1) xE.nd rfl (Or.inl rfl) (pv 2))))))
   (ai (aH (pv 0)))),?_⟩
 show ba _ _ _ [some (.int a),some (.int b),none] H
 refine bX (nY (λm σ U=>∃(x y:Nat) (r:Option V),σ=[some (.int x),some (.int y),r]∧U=H∧Nat.gcd x y=Nat.gcd a b∧m=y) ⟨a,b,none,rfl,rfl,rfl,rfl⟩ ?_)
 rintro m σ U ⟨x,y,r,rfl,rfl,e,rfl⟩
 walk_at"l"
 by_cases hy:m=0
 ·subst hy
  rw[if_neg (by simp)]
  walk_at"l"
  rw[Nat.gcd_zero_right]at e
  subst e
  exact h
 ·rw[if_pos (by simp;omega)]
  refine⟨_,λ_ _ q=>q,?_⟩
  walk_at"l"
  refine km (by show(0:Int)<m;omega) ?_
  walk_at"l"
  refine⟨x%m,Nat.mod_lt _ (by omega),m,x%m,some (.int ((x%m:Nat):Int)),?_,rfl,?_,rfl⟩
  ·rw[Int.natCast_emod]
  ·rw[←LR.PZ hy];exact e
theorem Wg(T:Txt K mg A)(D:aI K mg "quotient" AY ["upper","lower"])(C7:Callee P w K mg base ao 1 "common_divisor" ["a","b"] KR):Callee P w K mg base ao 2 "quotient" ["upper","lower"] (pz K):=by
 refine D.ok JT (λ_=>rfl) λf ay Ar outer s H d Q E hr h=>?_
 obtain⟨a,b⟩:=d
 obtain⟨h0,hz,h⟩:=h
 refine⟨_,(af (a9 (i:=2) JT.nd rfl (Or.inl rfl) (aT C7 (hr.mono (by decide)) aD (aa (eB zq (by rfl) T.C2 C3 (aa (pv 0) ae)) (aa (pv 1) ae))))
   (ai (aH (gR (aa (dY Jx (pv 0) (pv 2)) (aa (dY Jx (pv 1) (pv 2)) ae)))))),?_⟩
 show ba _ _ _ [some (.int a),some (.int b),none] H
 walk_at"l"
 refine⟨(a.natAbs,b),?_,?_⟩
 ·show[V.int (if a<0 then -a else a),V.int b]++[]=[V.int (a.natAbs:Int),V.int b]
  rw[show(if a<0 then -a else a)=((a.natAbs:Nat):Int) by split<;>omega]
  rfl
 have hg:Nat.gcd a.natAbs b≠0:=λz=>h0 (Nat.eq_zero_of_gcd_eq_zero_right z)
 have hl:Nat.gcd a.natAbs b≤b:=Nat.gcd_le_right _ (Nat.pos_of_ne_zero h0)
 have hd:Jw a (Nat.gcd a.natAbs b):=⟨by omega,LR.log2_lt (Nat.lt_of_le_of_lt (Nat.le_trans hl (Nat.le_of_lt hz)) (Nat.pow_lt_pow_right (by decide) (by decide))) (by decide)⟩
 walk_at"l"
 refine km hd ?_
 walk_at"l"
 refine km hd ?_
 walk_at"l"
 refine⟨by show 2≤sizeLine;decide,λp hp=>h _ _ (au.bc hp) ⟨p,rfl,aY.of ?_⟩⟩
 rw[aw,LR.tO a h0,LR.wu a h0]
 rfl
theorem Wh(D:aI K mg "negative" AZ ["rational"]):Callee P w K mg base ao 1 "negative" ["rational"] (C4 K):=by
 refine D.ok Ub (λ_=>rfl) λf ay Ar outer s H d Q E hr h=>?_
 obtain⟨v,q⟩:=d
 obtain⟨⟨t,rfl,ht⟩,h⟩:=h
 refine⟨_,(ai (aH (gR (aa (kY k_ (a_ dM (pv 0) aM (λ_ _=>rfl))) (aa (a_ dM (pv 0) aM (λ_ _=>rfl)) ae))))),?_⟩
 show eZ _ _ [some (.ref t)] H
 walk_at"l"
 refine dB ht rfl ?_
 walk_at"l"
 refine dB ht rfl ?_
 walk_at"l"
 refine⟨by show 2≤sizeLine;decide,λp hp=>h _ _ (au.bc hp) ⟨p,rfl,aY.of ?_⟩⟩
 rw[aw]
 rfl
theorem Wi(D:aI K mg "inverse" A0 ["rational"]):Callee P w K mg base ao 1 "inverse" ["rational"] (C5 K):=by
 refine D.ok Uc (λ_=>rfl) λf ay Ar outer s H d Q E hr h=>?_
 obtain⟨v,q⟩:=d
 obtain⟨⟨t,rfl,ht⟩,h0,h⟩:=h
 have e1:=LR.HK q h0
 have e2:=LR.z_ q h0
 refine⟨_,(af (bb (aW oR (a_ dM (pv 0) aM (λ_ _=>rfl)) aM (aR _)) (ai (aH (gR (aa (kY k_ (a_ dM (pv 0) aM (λ_ _=>rfl))) (aa (kY k_ (a_ dM (pv 0) aM (λ_ _=>rfl))) ae))))) bo)
   (ai (aH (gR (aa (a_ dM (pv 0) aM (λ_ _=>rfl)) (aa (a_ dM (pv 0) aM (λ_ _=>rfl)) ae)))))),?_⟩
 show ba _ _ _ [some (.ref t)] H
 walk_at"l"
 refine dB ht rfl ?_
 walk_at"l"
 refine fm (λhc=>?_) λhc=>?_
 ·have hc:q.num<0:=of_decide_eq_true hc
  rw[if_pos hc]at e1 e2
  walk_at"l"
  refine dB ht rfl ?_
  walk_at"l"
  refine dB ht rfl ?_
  walk_at"l"
  refine⟨by show 2≤sizeLine;decide,λp hp=>h _ _ (au.bc hp) ⟨p,rfl,aY.of ?_⟩⟩
  rw[aw,e1,e2]
 ·have hc:¬q.num<0:=λz=>hc (decide_eq_true z)
  rw[if_neg hc]at e1 e2
  walk_at"l"
  refine dB ht rfl ?_
  walk_at"l"
  refine dB ht rfl ?_
  walk_at"l"
  refine⟨by show 2≤sizeLine;decide,λp hp=>h _ _ (au.bc hp) ⟨p,rfl,aY.of ?_⟩⟩
  rw[aw,e1,e2]
theorem mulL{i j:Int}(h:i.natAbs<2^64):sP i j:=.inl ⟨by omega,by omega⟩
theorem mulR{i j:Int}(h:j.natAbs<2^64):sP i j:=.inr ⟨by omega,by omega⟩
theorem KU{a b:Nat}(ha:a<2^7000)(hb:b<2^64):a*b<2^8000:=by
 have h1:a*b≤2^7000*2^64:=Nat.mul_le_mul (Nat.le_of_lt ha) (Nat.le_of_lt hb)
 rw[←Nat.pow_add]at h1
 exact Nat.lt_of_le_of_lt h1 (Nat.pow_lt_pow_right (by decide) (by decide))
theorem Wj(D:aI K mg "plus" A1 ["one","other"])(gM:Callee P w K mg base ao 2 "quotient" ["upper","lower"] (pz K)):Callee P w K mg base ao 3 "plus" ["one","other"] (C6 K):=by
 refine D.ok Ud (λ_=>rfl) λf ay Ar outer s H d Q E hr h=>?_
 obtain⟨⟨v,a⟩,u,b⟩:=d
 obtain⟨⟨t,rfl,ht⟩,⟨t',rfl,rn⟩,⟨s1,s2⟩,hz,h⟩:=h
 dsimp only at*
 refine⟨_,(ai (aH (aT gM (hr.mono (by decide)) aD (aa (dY kZ (dY m4 (a_ dM (pv 0) aM (λ_ _=>rfl)) (a_ dM (pv 1) aM (λ_ _=>rfl))) (dY m4 (a_ dM (pv 1) aM (λ_ _=>rfl)) (a_ dM (pv 0) aM (λ_ _=>rfl)))) (aa (dY m4 (a_ dM (pv 0) aM (λ_ _=>rfl)) (a_ dM (pv 1) aM (λ_ _=>rfl))) ae))))),?_⟩
 show eZ _ _ [some (.ref t),some (.ref t')] H
 walk_at"l"
 refine dB ht rfl ?_
 walk_at"l"
 refine dB rn rfl ?_
 refine km (mulR (by omega)) ?_
 walk_at"l"
 refine dB rn rfl ?_
 walk_at"l"
 refine dB ht rfl ?_
 refine km (mulL s1) ?_
 walk_at"l"
 refine dB ht rfl ?_
 walk_at"l"
 refine dB rn rfl ?_
 refine km (mulR (by omega)) ?_
 walk_at"l"
 refine⟨(a.num*(b.den:Int)+b.num*(a.den:Int),a.den*b.den),?_,Nat.mul_ne_zero a.den_nz b.den_nz,KU hz s2,λU v k r=>h U v k ?_⟩
 ·show[V.int (a.num*(b.den:Int)+b.num*(a.den:Int)),V.int ((a.den:Int)*(b.den:Int))]++[]=_
  rw[←Int.natCast_mul]
  rfl
 ·dsimp only at r
  rw[LR.HR]at r
  exact r
theorem Wk(D:aI K mg "times" A2 ["one","other"])(gM:Callee P w K mg base ao 2 "quotient" ["upper","lower"] (pz K)):Callee P w K mg base ao 3 "times" ["one","other"] (KS K):=by
 refine D.ok Ue (λ_=>rfl) λf ay Ar outer s H d Q E hr h=>?_
 obtain⟨⟨v,a⟩,u,b⟩:=d
 obtain⟨⟨t,rfl,ht⟩,⟨t',rfl,rn⟩,⟨s1,s2⟩,hz,h⟩:=h
 dsimp only at*
 refine⟨_,(ai (aH (aT gM (hr.mono (by decide)) aD (aa (dY m4 (a_ dM (pv 0) aM (λ_ _=>rfl)) (a_ dM (pv 1) aM (λ_ _=>rfl))) (aa (dY m4 (a_ dM (pv 0) aM (λ_ _=>rfl)) (a_ dM (pv 1) aM (λ_ _=>rfl))) ae))))),?_⟩
 show eZ _ _ [some (.ref t),some (.ref t')] H
 walk_at"l"
 refine dB ht rfl ?_
 walk_at"l"
 refine dB rn rfl ?_
 refine km (mulL s1) ?_
 walk_at"l"
 refine dB ht rfl ?_
 walk_at"l"
 refine dB rn rfl ?_
 refine km (mulL (by omega)) ?_
 walk_at"l"
 refine⟨(a.num*b.num,a.den*b.den),?_,Nat.mul_ne_zero a.den_nz b.den_nz,by rw[Nat.mul_comm];exact KU hz s2,λU v k r=>h U v k ?_⟩
 ·show[V.int (a.num*b.num),V.int ((a.den:Int)*(b.den:Int))]++[]=_
  rw[←Int.natCast_mul]
  rfl
 ·dsimp only at r
  rw[LR.P6]at r
  exact r
theorem Wl(T:Txt K mg A)(D:aI K mg "is_too_long" A3 ["rational"]):Callee P w K mg base ao 1 "is_too_long" ["rational"] (xS K):=by
 refine D.ok Ug (λ_=>rfl) λf ay Ar outer s H d Q E hr h=>?_
 obtain⟨v,q⟩:=d
 obtain⟨⟨t,rfl,ht⟩,h⟩:=h
 dsimp only at*
 refine⟨_,(ai (aH (sI (jt jY (eB zq (by rfl) T.C2 C3 (aa (a_ dM (pv 0) aM (λ_ _=>rfl)) ae)) (aF T.Kt) (aR _)) (vN (jt jY (a_ dM (pv 0) aM (λ_ _=>rfl)) (aF T.Kt) (aR _)))))),?_⟩
 show eZ _ _ [some (.ref t)] H
 walk_at"l"
 refine dB ht rfl ?_
 walk_at"l"
 have e1:(if q.num<0 then -q.num else q.num)=((q.num.natAbs:Nat):Int):=by split<;>omega
 refine fm (λhc=>?_) λhc=>?_
 ·have hc:=of_decide_eq_true hc
  have z:Ln.fits q=false:=by
   rw[←Bool.not_eq_true,LR.qI]
   omega
  rw[z]at h
  exact h
 ·have hc:¬_:=λz=>hc (decide_eq_true z)
  walk_at"l"
  refine dB ht rfl ?_
  walk_at"l"
  have z:decide ((1000000000000000000:Int)≤(q.den:Int))=!Ln.fits q:=by
   by_cases hd:(1000000000000000000:Int)≤(q.den:Int)
   ·rw[decide_eq_true hd,show Ln.fits q=false by rw[←Bool.not_eq_true,LR.qI];omega];rfl
   ·rw[decide_eq_false hd,show Ln.fits q=true by rw[LR.qI];omega];rfl
  rw[z]
  exact h
end
end LN
namespace LN
open PySem PySem.Spec PyProof.Rows L2 LX
open Ln (Bytes Lex Tok)
open LR (aO valOf nameOf aL bp rest bj)
def Each{α β:Type}(R:α→β→Prop)(as:List α)(bs:List β):Prop:=as.length=bs.length∧∀(i:Nat) (a:α) (b:β),as[i]?=some a→bs[i]?=some b→R a b
section
variable{α β:Type}{R R':α→β→Prop}{as xT:List α}{bs KW:List β}{a:α}{b:β}
theorem Each.nil:Each R [] []:=⟨rfl,λi a b h=>by simp at h⟩
theorem Each.imp(h:Each R as bs)(f:∀(i:Nat) a b,as[i]?=some a→bs[i]?=some b→R a b→R' a b):Each R' as bs:=⟨h.1,λi a b h1 h2=>f i a b h1 h2 (h.2 i a b h1 h2)⟩
theorem Each.at(h:Each R as bs){i:Nat}(hb:bs[i]?=some b):∃a,as[i]?=some a∧R a b:=by
 have hl:i<as.length:=by rw[h.1];exact(List.getElem?_eq_some_iff.mp hb).1
 exact⟨as[i],List.getElem?_eq_getElem hl,h.2 i _ _ (List.getElem?_eq_getElem hl) hb⟩
theorem Each.at'(h:Each R as bs){i:Nat}(ha:as[i]?=some a):∃b,bs[i]?=some b∧R a b:=by
 have hl:i<bs.length:=by rw[←h.1];exact(List.getElem?_eq_some_iff.mp ha).1
 exact⟨bs[i],List.getElem?_eq_getElem hl,h.2 i _ _ ha (List.getElem?_eq_getElem hl)⟩
theorem Each.append(h:Each R as bs)(h':Each R xT KW):Each R (as++xT) (bs++KW):=by
 refine⟨by rw[List.length_append,List.length_append,h.1,h'.1],λi a b h1 h2=>?_⟩
 by_cases hi:i<as.length
 ·rw[List.getElem?_append_left hi]at h1
  rw[List.getElem?_append_left (by rw[←h.1];exact hi)]at h2
  exact h.2 i a b h1 h2
 ·rw[List.getElem?_append_right (by omega)]at h1
  rw[List.getElem?_append_right (by rw[←h.1];omega),←h.1]at h2
  exact h'.2 _ a b h1 h2
theorem Each.one(h:R a b):Each R [a] [b]:=⟨rfl,λi x y h1 h2=>by
 cases i with
 |zero=>simp at h1 h2;rw[←h1,←h2];exact h
 |succ i=>simp at h1⟩
theorem Each.take(h:Each R as bs)(n:Nat):Each R (as.take n) (bs.take n):=by
 refine⟨by rw[List.length_take,List.length_take,h.1],λi a b h1 h2=>?_⟩
 rw[List.getElem?_take]at h1 h2
 split at h1
 ·rename_i hi;rw[if_pos hi]at h2;exact h.2 i a b h1 h2
 ·cases h1
theorem Each.drop(h:Each R as bs)(n:Nat):Each R (as.drop n) (bs.drop n):=by
 refine⟨by rw[List.length_drop,List.length_drop,h.1],λi a b h1 h2=>?_⟩
 rw[List.getElem?_drop]at h1 h2
 exact h.2 _ a b h1 h2
end
def uK(c:UInt8):V:=.int (c.toNat:Int)
def bA(b:Bytes):List V:=b.map uK
def C8(H:Hp)(b:Addr):Prop:=∃C dx fs,H b=some (.ins C dx fs)
def Off(no:List Addr)(H:Hp)(a b:Addr):Prop:=(b∈no∧∃xs,H b=some (.lst xs))∨(a≠b∧C8 H b)
theorem fP{H:Hp}{a b C C' dx bQ:Addr}{k k':Str}{v v':V}{r r':List (Str×V)}(h:H a=some (.ins C dx ((k,v)::r)))(h':H b=some (.ins C' bQ ((k',v')::r')))(n:k≠k'):a≠b:=
 bY h h' λz=>n (by injection z with _ _ z;injection z with z _;injection z)
theorem pA{H:Hp}{no:List Addr}{a b c:Addr}{xs:List V}(h:Off no H a b)(hl:H c=some (.lst xs))(n:c∉no):c≠b:=by
 rcases h with⟨h,_⟩|⟨_,C,dx,fs,h⟩
 ·exactλz=>n (z▸h)
 ·exact bY hl h λz=>by cases z
theorem C9{H:Hp}{no:List Addr}{a b C dx:Addr}{fs:List (Str×V)}(h:Off no H a b)(hl:H a=some (.ins C dx fs)):a≠b:=by
 rcases h with⟨_,xs,h⟩|⟨h,_⟩
 ·exact bY hl h λz=>by cases z
 ·exact h
def gZ(K:PySem.W.Frag)(A:Ad)(no:List Addr)(H:Hp)(a:Addr)(g:Ln.Glass):Prop:=
 ∃dx nm il i0 i1 i2 q0 q1 q2,H a=some (.ins A.eE dx (nV (.ref nm) (.ref il)))∧H nm=some (.lst (bA g.name))∧H il=some (.lst [i0,i1,i2])∧nm∉no∧il∉no∧g.index=[q0,q1,q2]∧bh K H i0 q0∧bh K H i1 q1∧bh K H i2 q2
def kN:Ln.Kind→Nat
 |.surface _=>0
 |.mirror=>1
 |.halt_=>2
def gN:Ln.Kind→Nat
 |.surface m=>m
 |_=>0
def eX(K:PySem.W.Frag)(A:Ad)(no:List Addr)(H:Hp)(a:Addr)(e:Ln.Elem):Prop:=
 ∃dx nm gp cv cn rc,H a=some (.ins A.aQ dx (bN (.int (kN e.kind)) (.ref nm) gp (.int (gN e.kind)) cv cn rc))∧H nm=some (.lst (bA e.name))∧nm∉no∧bh K H gp e.gap∧bh K H cv e.curve∧bh K H cn e.conic∧bh K H rc (e.clear.getD 0)
structure cD(K:PySem.W.Frag)(A:Ad)(no:List Addr)(H:Hp)(s gl tl:Addr)(gs es:List Addr)(S:Ln.System_):Prop where
 ins:∃dx,H s=some (.ins A.bf dx (fN (.ref gl) (.int S.start) (.ref tl)))
 ck:H gl=some (.lst (gs.map .ref))
 bu:H tl=some (.lst (es.map .ref))
 ne:gl≠tl
 ic:gl∉no
 jh:tl∉no
 nd:es.Nodup
 glasses:Each (gZ K A (gl::tl::no) H) gs S.glasses
 elems:Each (eX K A (gl::tl::no) H) es S.elems
def mn(K:PySem.W.Frag)(A:Ad)(no:List Addr)(H:Hp)(s:Addr)(S:Ln.System_):Prop:=∃gl tl gs es,cD K A no H s gl tl gs es S
section
variable{K:PySem.W.Frag}{A:Ad}{no no':List Addr}{H U:Hp}{a s:Addr}{g:Ln.Glass}{e:Ln.Elem}{W:List Addr}{S:Ln.System_}
theorem gZ.keep(h:gZ K A no H a g)(k:ax W H U)(c:∀b∈W,Off no H a b):gZ K A no U a g:=by
 obtain⟨dx,nm,il,i0,i1,i2,q0,q1,q2,h1,h2,h3,n1,n2,e,r0,r1,r2⟩:=h
 exact⟨dx,nm,il,i0,i1,i2,q0,q1,q2,k.eq _ _ h1 λz=>C9 (c _ z) h1 rfl,k.eq _ _ h2 λz=>pA (c _ z) h2 n1 rfl,k.eq _ _ h3 λz=>pA (c _ z) h3 n2 rfl,n1,n2,e,r0.keep k,r1.keep k,r2.keep k⟩
theorem eX.keep(h:eX K A no H a e)(k:ax W H U)(c:∀b∈W,Off no H a b):eX K A no U a e:=by
 obtain⟨dx,nm,gp,cv,cn,rc,h1,h2,n1,r0,r1,r2,r3⟩:=h
 exact⟨dx,nm,gp,cv,cn,rc,k.eq _ _ h1 λz=>C9 (c _ z) h1 rfl,k.eq _ _ h2 λz=>pA (c _ z) h2 n1 rfl,n1,r0.keep k,r1.keep k,r2.keep k,r3.keep k⟩
def uL(H:Hp)(b:Addr):Prop:=∃C dx k v r,H b=some (.ins C dx ((k,v)::r))∧k≠"name"∧k≠"kind"∧k≠"glasses"
theorem uL.C_{b:Addr}(h:uL H b):C8 H b:=let⟨C,dx,k,v,r,e,_⟩:=h;⟨C,dx,_,e⟩
theorem cD.keep{gl tl:Addr}{gs es:List Addr}(h:cD K A no H s gl tl gs es S)(k:ax W H U)(c:∀b∈W,(b∈no∧∃xs,H b=some (.lst xs))∨uL H b):cD K A no U s gl tl gs es S:=by
 have lst:∀l xs,H l=some (.lst xs)→l∉no→l∉W:=λl xs e n z=>by
  rcases c l z with⟨q,_⟩|q
  ·exact n q
  ·obtain⟨C,dx,fs,q⟩:=q.C_
   rw[e]at q;cases q
 obtain⟨dx,hi⟩:=h.ins
 refine⟨⟨dx,k.eq _ _ hi λz=>?_⟩,k.eq _ _ h.ck (lst _ _ h.ck h.ic),k.eq _ _ h.bu (lst _ _ h.bu h.jh),h.ne,h.ic,h.jh,h.nd,h.glasses.imp λi a g _ _ q=>q.keep k λb hb=>?_,h.elems.imp λi a g _ _ q=>q.keep k λb hb=>?_⟩
 ·rcases c _ z with⟨_,xs,q⟩|⟨C,dx,kk,v,r,q,n1,n2,n3⟩
  ·rw[hi]at q;cases q
  ·exact(fP q hi n3) rfl
 ·rcases c _ hb with⟨q1,q2⟩|q2
  ·exact .inl ⟨List.mem_cons_of_mem _ (List.mem_cons_of_mem _ q1),q2⟩
  ·obtain⟨bQ,nm,il,i0,i1,i2,q0,q1,q2',e1,_⟩:=q
   obtain⟨C,dx,kk,v,r,e,n1,n2,n3⟩:=id q2
   exact .inr ⟨Ne.symm (fP e e1 n1),q2.C_⟩
 ·rcases c _ hb with⟨q1,q2⟩|q2
  ·exact .inl ⟨List.mem_cons_of_mem _ (List.mem_cons_of_mem _ q1),q2⟩
  ·obtain⟨bQ,nm,gp,cv,cn,rc,e1,_⟩:=q
   obtain⟨C,dx,kk,v,r,e,n1,n2,n3⟩:=id q2
   exact .inr ⟨Ne.symm (fP e e1 n2),q2.C_⟩
theorem mn.keep(h:mn K A no H s S)(k:ax W H U)(c:∀b∈W,(b∈no∧∃xs,H b=some (.lst xs))∨uL H b):mn K A no U s S:=let⟨gl,tl,gs,es,q⟩:=h;⟨gl,tl,gs,es,q.keep k c⟩
theorem mn.same(h:mn K A no H s S)(k:au H U):mn K A no U s S:=h.keep k.eV λb hb=>absurd hb (by simp)
theorem gZ.same(h:gZ K A no H a g)(k:au H U):gZ K A no U a g:=h.keep k.eV λb hb=>absurd hb (by simp)
theorem eX.same(h:eX K A no H a e)(k:au H U):eX K A no U a e:=h.keep k.eV λb hb=>absurd hb (by simp)
end
def ji(K:PySem.W.Frag)(A:Ad)(no:List Addr)(H:Hp)(t:Addr)(x:Lex)(e:Nat):Prop:=
 ∃dx rw vl,H t=some (.ins A.bG dx (nW (.str (aO x.tok)) (.int x.at_) (.int e) (.ref rw) vl))∧bh K H vl (valOf x.tok)∧∀nb,x.tok=.name nb→H rw=some (.lst (bA nb))∧rw∉no
structure RD where
 (r tx sy:Addr) (b:Bytes) (i:Nat) (no:List Addr)
structure dX(K:PySem.W.Frag)(A:Ad)(H:Hp)(d:RD):Prop where
 ins:∃dx tk,H d.r=some (.ins A.aj dx (cx (.ref d.tx) (.ref d.sy) (.int d.i) tk))∧(tk=.aJ∨∃t,tk=.ref t∧(aL d.b d.i).tok≠.broken∧ji K A d.no H t (aL d.b d.i) (bp d.b d.i))
 txt:ah K H d.tx (bA d.b)
 le:d.i≤d.b.length
def Here(H:Hp)(no:List Addr):Prop:=∀b∈no,∃o,H b=some o
def Dc(H:Hp)(dx:Addr)(e:Ln.Fault):Prop:=H dx=some (XD dx [("fault",.int (e.1:Int)),("place",.int (e.2:Int))])
def bO(A:Ad)(S:List Addr)(H:Hp)(E:XK)(e:Ln.Fault):Prop:=∀U dx,ax S H U→Dc U dx e→E (.ref A.eN) (some dx) U
def Dd{α:Type}(K:PySem.W.Frag)(A:Ad)(d:RD)(S:List Addr)(H:Hp)(Q:VK)(Res:Hp→V→α→Prop)(x:α)(l:List Lex):Prop:=
 ∀U v j,l=rest d.b j→dX K A U {d with i:=j}→ax S H U→Res U v x→Q v U
section
variable{K:PySem.W.Frag}{A:Ad}{no no':List Addr}{H U H1:Hp}{t:Addr}{x:Lex}{n:Nat}{W S:List Addr}{E:XK}{e:Ln.Fault}
theorem ji.keep(h:ji K A no H t x n)(k:ax W H U)(c:∀b∈W,Off no H t b):ji K A no U t x n:=by
 obtain⟨dx,fk,vl,h1,h2,h3⟩:=h
 refine⟨dx,fk,vl,k.eq _ _ h1 λz=>C9 (c _ z) h1 rfl,h2.keep k,λnb z=>?_⟩
 obtain⟨h4,n4⟩:=h3 nb z
 exact⟨k.eq _ _ h4 λz=>pA (c _ z) h4 n4 rfl,n4⟩
theorem Here.keep(h:Here H no)(k:ax W H U)(c:∀b∈W,∃o,U b=some o):Here U no:=λb hb=>by
 obtain⟨o,ho⟩:=h b hb
 by_cases z:b∈W
 ·exact c b z
 ·exact⟨o,k.eq b o ho z⟩
theorem Here.same(h:Here H no)(k:au H U):Here U no:=λb hb=>let⟨o,ho⟩:=h b hb;⟨o,k b o ho⟩
theorem bO.after(h:bO A S H E e)(k:ax S H H1):bO A S H1 E e:=λU dx k' f=>h U dx (k.trans k') f
theorem dX.mu{d:RD}(h:dX K A H d):∀s∈[d.r],∃o,H s=some o∧mf o=true:=λs hs=>by
 rw[List.mem_singleton.mp hs]
 obtain⟨dx,tk,e,_⟩:=h.ins
 exact⟨_,e,rfl⟩
theorem dX.here{d:RD}(h:dX K A H d):∀s∈[d.r],∃o,H s=some o:=λs hs=>let⟨o,e,_⟩:=h.mu s hs;⟨o,e⟩
theorem ah.off{a:Addr}{xs:List V}(h:ah K H a xs)(k:ax S H U)(n:∀s∈S,C8 H s∨s≠a):ah K U a xs:=by
 rcases h with h|h
 ·have na:a∉S:=λz=>by
   rcases n a z with⟨C,dx,fs,q⟩|q
   ·rcases h with h|⟨u,h⟩<;>(rw[h]at q;cases q)
   ·exact q rfl
  rcases h with h|⟨u,h⟩
  ·exact .inl (.inl (k.eq a _ h na))
  ·exact .inl (.inr ⟨u,k.eq a _ h na⟩)
 ·exact .inr h
end
end LN
namespace LN
open PySem PySem.Spec PyProof.Rows L2 LX
open Ln (Bytes Lex Tok isDigit isLetter)
open LR (aO valOf nameOf aL bp rest bj runEnd isAt strOf)
def ie(H:Hp)(x dx:Addr)(o:HO):Hp:=upd (upd H dx (.own x)) x o
theorem kx{H:Hp}{x dx:Addr}{o:HO}(hx:H x=none)(hd:H dx=none):au H (ie H x dx o):=λb u e=>by
 unfold ie
 rw[aG (cp e hx),aG (cp e hd)]
 exact e
theorem pB{H:Hp}{x dx:Addr}{o:HO}:ie H x dx o x=some o:=aw
theorem pC{H:Hp}{x dx:Addr}{o o':HO}:upd (upd (upd H dx (.own x)) x o) x o'=ie H x dx o':=eP
def uM(A:Ad):Sp:=aU (λ(d:Addr×Int×Int)=>[.ref d.1,.int d.2.1,.int d.2.2]) λd H Q _=>H d.1=some (nL d.1 A.eN)∧
 ∀U dx,dx≠d.1→U d.1=some (XO d.1 A.eN dx)→U dx=some (XD dx [("fault",.int d.2.1),("place",.int d.2.2)])→(∀b o,H b=some o→b≠d.1→U b=some o)→Q .aJ U
def jj(P:Program)(w:World)(K:PySem.W.Frag)(mg:Str→Option Value)(base:Heap)(A:Ad):Prop:=
 ∃fI fd,ki K A.eN fI ["fault","place"]∧fH P w K mg base ao 1 fI fd ["self","fault","place"] (uM A)∧mg "Fault"=some (.ref A.eN)∧Binds K fd ["self","fault","place"] []
theorem gO{A:Ad}{E:XK}{t:TA}{σ:L2.St}{H:Hp}{D:Ends}(k:t σ H λvs H1=>∀e,H1 e=none→uM A (.ref e::vs) (upd H1 e (nL e A.eN)) (λv H2=>v=.aJ∧∃dx,H2 e=some (XO e A.eN dx)∧E (.ref A.eN) (some dx) (del H2 e)) E0):Js A.eN (uM A) E t D σ H:=k
theorem gP{A:Ad}{S:List Addr}{H H1:Hp}{E:XK}{f p:Nat}(hE:bO A S H E (f,p))(k:ax S H H1):∀e,H1 e=none→uM A [.ref e,.int (f:Int),.int (p:Int)] (upd H1 e (nL e A.eN)) (λv H2=>v=.aJ∧∃dx,H2 e=some (XO e A.eN dx)∧E (.ref A.eN) (some dx) (del H2 e)) E0:=by
 intro e he
 refine⟨(e,(f:Int),(p:Int)),rfl,aw,λU dx nd h1 h2 kp=>⟨rfl,dx,h1,hE _ dx (k.d6 λb o z=>?_) ?_⟩⟩
 ·have hb:b≠e:=cp z he
  rw[ma hb]
  exact kp b o (by rw[aG hb];exact z) hb
 ·show del U e dx=_
  rw[ma nd]
  exact h2
theorem Wm{C:Addr}{ta tv:TE}{f:Str}{D:Ends}{σ:L2.St}{H:Hp}(k:tv σ H λy H1=>ta σ H1 λx H2=>∃e,x=.ref e∧H2 e=some (nL e C)∧∀dx,H2 dx=none→dx≠e→D.nx σ (upd (upd H2 dx (XD dx [(f,y)])) e (XO e C dx))):Jp C ta tv f D σ H:=k
theorem Wn{C:Addr}{ta tv:TE}{f:Str}{D:Ends}{σ:L2.St}{H:Hp}(k:tv σ H λy H1=>ta σ H1 λx H2=>∃e dx fs,x=.ref e∧H2 e=some (XO e C dx)∧H2 dx=some (XD dx fs)∧fs.length<1000∧dx≠e∧D.nx σ (upd H2 dx (XD dx (d5 f y fs)))):Jq C ta tv f D σ H:=k
section
variable{P:Program}{w:World}{K:PySem.W.Frag}{mg:Str→Option Value}{base:Heap}{A:Ad}
theorem Wo{f fI:Addr}{fd:FuncData}(F:jw K "__init__" "Fault.__init__" rg f fd)(xF:ki K A.eN fI ["fault","place"]):fH P w K mg base ao 1 f fd ["self","fault","place"] (uM A):=by
 refine F.ok Ua (λvs H Q E h=>?_) (λay Ar outer s H vs Q E hr h=>?_)
 ·obtain⟨d,rfl,_⟩:=h
  rfl
 ·obtain⟨⟨e,a,b⟩,rfl,he,h⟩:=h
  dsimp only at*
  refine⟨_,(af (RN xF (by decide +kernel) rfl (pv 0) (pv 1) rfl)
   (ai (RO xF (by decide +kernel) (pv 0) (pv 2) rfl))),?_⟩
  show ba _ _ _ [some (.ref e),some (.int a),some (.int b)] H
  refine bX (Wm ?_)
  walk_at"l"
  refine⟨he,λdx hn nd=>?_⟩
  with_reducible refine Wn ?_
  walk_at"l"
  refine⟨e,dx,[("fault",.int a)],rfl,aw,by rw[aG nd,aw],by show 1<1000;decide,nd,?_⟩
  refine h _ dx nd ?_ ?_ λc o z hc=>?_
  ·rw[aG (Ne.symm nd),aw]
  ·rw[aw,eI (ks:=["fault"]) _ rfl (by decide +kernel)]
   rfl
  ·rw[aG (cp z hn),aG hc,aG (cp z hn)]
   exact z
def pD(A:Ad):Sp:=aU (λ(d:(Addr×Addr)×V×V×V×V×V)=>[.ref d.1.1,d.2.1,d.2.2.1,d.2.2.2.1,d.2.2.2.2.1,d.2.2.2.2.2]) λd H Q _=>H d.1.1=some (.ins A.bG d.1.2 [])∧Q .aJ (upd H d.1.1 (.ins A.bG d.1.2 (nW d.2.1 d.2.2.1 d.2.2.2.1 d.2.2.2.2.1 d.2.2.2.2.2)))
theorem Wq(T:Txt K mg A)(D:gn K mg A.bG "Token" "Token.__init__" A8 ["self","kind","place","end","row","value"]):Maker P w K mg base ao 1 A.bG "Token" ["self","kind","place","end","row","value"] (pD A):=by
 refine D.ok Uk (λ_=>rfl) λf ay Ar outer s H d Q E hr h=>?_
 obtain⟨⟨x,dx⟩,v1,v2,v3,v4,v5⟩:=d
 obtain⟨hx,h⟩:=h
 dsimp only at*
 refine⟨_,(af (bI (pv 0) (pv 1) rfl)
   (af (bI (pv 0) (pv 2) rfl)
   (af (bI (pv 0) (pv 3) rfl)
   (af (bI (pv 0) (pv 4) rfl)
   (ai (bI (pv 0) (pv 5) rfl)))))),?_⟩
 show ba _ _ _ [some (.ref x),some v1,some v2,some v3,some v4,some v5] H
 walk_at"l"
 refine Vb hx T.bG ?_
 walk_at"l"
 refine Vc aw T.bG ?_
 rw[eP]
 walk_at"l"
 refine Ve aw T.bG ?_
 rw[eP]
 walk_at"l"
 refine Vf aw T.bG ?_
 rw[eP]
 walk_at"l"
 refine Vg aw T.bG ?_
 rw[eP]
 exact h
end
end LN
namespace LN
open PySem PySem.Spec PyProof.Rows L2 LX
open Ln (Bytes Lex Tok isDigit isLetter)
open LR (aO valOf nameOf aL bp rest bj runEnd isAt strOf dO gJ gX)
theorem pE{b:Bytes}{i:Nat}{c:UInt8}(h:b[i]?=some c):jv (bA b) (i:Int)=some (.int (c.toNat:Int)):=hZ (by unfold bA;rw[List.getElem?_map,h];rfl)
theorem ig(b:Bytes):(bA b).length=b.length:=by unfold bA;rw[List.length_map]
theorem Wr{x:Str}{g:TG}{tt:TT}{te:TE}{vs:List Nat}{σ:L2.St}{H1:Hp}{D:Addr}{Qd:Hp→Prop}(Pv:Nat→Hp→Prop)(h0:Pv 0 (upd H1 D (.lst [])))(hs:∀i c H,x.cps[i]?=some c→Pv i H→g (.str ⟨#[c]⟩) (wipe σ vs) H λbr H2=>wipe br vs=wipe σ vs∧tt br H2 λb H3=>if b=true then te br H3 λy H4=>∃acc,H4 D=some (.lst acc)∧acc.length<sizeLine∧Pv (i+1) (upd H4 D (.lst (acc++[y])))else Pv (i+1) H3)(hd:∀H,Pv x.cps.size H→Qd H):
  ∃W:Nat→Nat→Hp→Prop,(∃m,W 0 m (upd H1 D (.lst [])))∧∀i m H,W i m H→
   ((qC x).stop i H∧Qd H)∨((qC x).go i H∧∃Nx:Hp→Prop,(∀U,Nx U→∃m',m'<m∧W (i+1) m' U)∧∀y U,(qC x).iL i H y U→g y (wipe σ vs) U λbr H2=>wipe br vs=wipe σ vs∧tt br H2 λb H3=>
    if b=true then te br H3 λy H4=>∃acc,H4 D=some (.lst acc)∧acc.length<sizeLine∧Nx (upd H4 D (.lst (acc++[y])))else Nx H3):=by
 refine⟨λi m H=>m=x.cps.size-i∧i≤x.cps.size∧Pv i H,⟨x.cps.size,by simp,Nat.zero_le _,h0⟩,?_⟩
 rintro i m H ⟨rfl,hi,p⟩
 by_cases bw:i<x.cps.size
 ·refine .inr ⟨bw,Pv (i+1),λU p'=>⟨x.cps.size-(i+1),by omega,rfl,bw,p'⟩,λy U z=>?_⟩
  obtain⟨e,c,hc,rfl⟩:=z
  subst e
  exact hs i c _ hc p
 ·have e:i=x.cps.size:=by omega
  subst e
  exact .inl ⟨Nat.le_refl _,hd H p⟩
theorem ro{σ:L2.St}{H:Hp}{B C:Hp→Prop}(k:B H):Hk σ H (λb H3=>if b=true then B H3 else C H3):=by
 show(if true=true then B H else C H)
 rw[if_pos rfl]
 exact k
def rp(z:Int):Bool:=gX z||gJ z
theorem pF(b:Bytes)(i:Nat):rp (dO b i)=isAt (λc=>isLetter c||isDigit c) b i:=by
 unfold rp
 rw[LR.QC,LR.Al,LR.QD]
def jD(x:Str):List V:=x.cps.toList.map λ(c:Nat)=>V.int (c:Int)
def De:Sp:=aU (λ(x:Str)=>[.str x]) λx H Q _=>x.cps.size≤1000000∧∀U p,au H U→H p=none→U p=some (.lst (jD x))→Q (.ref p) U
def uN(K:PySem.W.Frag):Sp:=aU (λ(d:Addr×Bytes×Nat)=>[.ref d.1,.int d.2.2]) λd H Q _=>ah K H d.1 (bA d.2.1)∧Q (.int (dO d.2.1 d.2.2)) H
def kz(f:Int→Bool):Sp:=aU (λ(d:Int)=>[.int d]) λd H Q _=>Q (.bl (f d)) H
def nZ(K:PySem.W.Frag)(f:Bytes→Nat→Nat):Sp:=aU (λ(d:Addr×Bytes×Nat)=>[.ref d.1,.int d.2.2]) λd H Q _=>ah K H d.1 (bA d.2.1)∧d.2.2≤d.2.1.length∧Q (.int (f d.2.1 d.2.2)) H
section
variable{P:Program}{w:World}{K:PySem.W.Frag}{mg:Str→Option Value}{base:Heap}{A:Ad}
theorem Ws(T:Txt K mg A)(D:aI K mg "spelled" xA ["text"]):Callee P w K mg base ao 1 "spelled" ["text"] De:=by
 refine D.ok Cn (λ_=>rfl) λf ay Ar outer s H x Q E hr h=>?_
 obtain⟨hz,h⟩:=h
 refine⟨_,(ai (aH (tF rfl Cn.nd (PD (pv 0)) (qB (N:=["text","sign"]) (sc:=aE xA) (own:=[("sign",1)]) (by decide +kernel)) (λ_ _ _ _ _=>eA (i:=1) Cn.nd rfl (Or.inl rfl)) (λ_ _ _ _ _=>qz) (λ_ _ _ _ _=>(eB Gu (by rfl) T.KJ KO (aa (pv 1) ae)))))),?_⟩
 show eZ _ _ [some (.str x),none] H
 with_reducible refine cg (rf (T_ ?_))
 refine b5 ?_
 refine⟨x,rfl,λD hD=>Wr (λi U=>au H U∧U D=some (.lst ((jD x).take i))) ⟨au.bc hD,aw⟩ (λi c U hc ⟨hs,hq⟩=>?_) (λU ⟨hs,hq⟩=>?_)⟩
 ·show gD 1 _ [some (.str x),none] _ _
  walk_at"l"
  refine⟨rfl,?_⟩
  with_reducible refine ro ?_
  walk_at"l"
  refine⟨rfl,_,hq,?_,λb o e=>?_,?_⟩
  ·rw[List.length_take,show sizeLine=16777216 from sizeLine_eq,show(jD x).length=x.cps.size by unfold jD;rw[List.length_map,Array.length_toList]]
   omega
  ·rw[aG (cp e hD)]
   exact hs b o e
  ·rw[aw,List.take_add_one]
   congr 2
   unfold jD
   rw[List.getElem?_map,Array.getElem?_toList,hc]
   rfl
 ·have e:(jD x).take x.cps.size=jD x:=List.take_of_length_le (by unfold jD;rw[List.length_map,Array.length_toList];exact Nat.le_refl _)
  rw[e]at hq
  exact h U D hs hD hq
theorem Wt(T:Txt K mg A)(D:aI K mg "byte_at" A9 ["text","place"]):Callee P w K mg base ao 1 "byte_at" ["text","place"] (uN K):=by
 refine D.ok Ul (λ_=>rfl) λf ay Ar outer s H d Q E hr h=>?_
 obtain⟨a,b,i⟩:=d
 obtain⟨ha,h⟩:=h
 dsimp only at*
 refine⟨_,(ai (aH (ql (aW oR (pv 1) (eB fK (by rfl) T.fO PySem.boot_len (aa (pv 0) ae)) (aR _)) (a_ cf (pv 0) (pv 1) (λ_ _=>rfl)) (aF T.VT)))),?_⟩
 show eZ _ _ [some (.ref a),some (.int i)] H
 walk_at"l"
 refine⟨a,_,rfl,.inl ha,?_⟩
 walk_at"l"
 rw[ig]
 refine fm (λhc=>?_) λhc=>?_
 ·have hc:=of_decide_eq_true hc
  have e:b[i]?=some b[i]:=List.getElem?_eq_getElem (by omega)
  walk_at"l"
  refine b9 ha (pE e) ?_
  unfold dO at h
  rw[e]at h
  exact h
 ·have hc:¬_:=λz=>hc (decide_eq_true z)
  walk_at"l"
  unfold dO at h
  rw[List.getElem?_eq_none (by omega)]at h
  exact h
theorem Wu(D:aI K mg "is_digit" A_ ["byte"]):Callee P w K mg base ao 1 "is_digit" ["byte"] (kz gJ):=by
 refine D.ok Um (λ_=>rfl) λf ay Ar outer s H z Q E hr h=>?_
 refine⟨_,(ai (aH (zk m5 m5 aM (pv 0) aM))),?_⟩
 show eZ _ _ [some (.int z)] H
 with_reducible refine cg ?_
 refine bT (b5 (bW ⟨_,rfl,?_⟩))
 refine fm (λhc=>?_) λhc=>?_
 ·have hc:=of_decide_eq_true hc
  refine bT (bW ?_)
  rw[show decide (z≤57)=gJ z by unfold gJ;rw[decide_eq_decide];omega]
  exact h
 ·have hc:¬_:=λz=>hc (decide_eq_true z)
  rw[show false=gJ z by unfold gJ;exact(decide_eq_false (by omega)).symm]
  exact h
theorem Wv(T:Txt K mg A)(D:aI K mg "begins_name" Ba ["byte"]):Callee P w K mg base ao 1 "begins_name" ["byte"] (kz gX):=by
 refine D.ok Uo (λ_=>rfl) λf ay Ar outer s H z Q E hr h=>?_
 refine⟨_,(ai (aH (sI (zk m5 m5 aM (pv 0) aM) (sI (zk m5 m5 aM (pv 0) aM) (vN (jt bU (pv 0) (aF T.VS) (aR _))))))),?_⟩
 show eZ _ _ [some (.int z)] H
 have last:¬(65≤z∧z≤90)→¬(97≤z∧z≤122)→Q (.bl (decide (z=95))) H:=λh1 h2=>by
  rw[show decide (z=95)=gX z by unfold gX;rw[decide_eq_decide];omega]
  exact h
 have yes:(65≤z∧z≤90)∨(97≤z∧z≤122)→Q (.bl true) H:=λh1=>by
  rw[show true=gX z by unfold gX;exact(decide_eq_true (by omega)).symm]
  exact h
 have mid:∀{x:TE},¬(65≤z∧z≤90)→(∀Q':VK,Q' (.bl (decide (z=95))) H→x [some (.int z)] H Q')→y9 (Gr (jX λi j=>.bl (decide (i≤j))) (jX λi j=>.bl (decide (i≤j))) (tC (.int 97)) (hU 0) (tC (.int 122))) x [some (.int z)] H Q:=λh1 hx=>by
  refine cw (bT (b5 (bW ⟨_,rfl,?_⟩)))
  refine fm (λhc=>?_) λhc=>?_
  ·have hc:=of_decide_eq_true hc
   refine bT (bW ⟨_,rfl,?_⟩)
   refine fm (λhd=>?_) λhd=>?_
   ·exact yes (.inr ⟨hc,of_decide_eq_true hd⟩)
   ·exact hx _ (last h1 λq=>hd (decide_eq_true q.2))
  ·refine⟨_,rfl,?_⟩
   rw[if_neg (by simp)]
   exact hx _ (last h1 λq=>hc (decide_eq_true q.1))
 with_reducible refine cg ?_
 refine cw (bT (b5 (bW ⟨_,rfl,?_⟩)))
 have fin:∀Q':VK,Q' (.bl (decide (z=95))) H→qr vY (hU 0) (tC (.int 95)) [some (.int z)] H Q':=λQ' q=>cz (b5 (bT (cA q)))
 refine fm (λhc=>?_) λhc=>?_
 ·have hc:=of_decide_eq_true hc
  refine bT (bW ⟨_,rfl,?_⟩)
  refine fm (λhd=>?_) λhd=>?_
  ·exact yes (.inl ⟨hc,of_decide_eq_true hd⟩)
  ·exact mid (λq=>hd (decide_eq_true q.2)) fin
 ·refine⟨_,rfl,?_⟩
  rw[if_neg (by simp)]
  exact mid (λq=>hc (decide_eq_true q.1)) fin
theorem Ww(D:aI K mg "continues_name" Bb ["byte"])(rB:Callee P w K mg base ao 1 "begins_name" ["byte"] (kz gX))(jE:Callee P w K mg base ao 1 "is_digit" ["byte"] (kz gJ)):Callee P w K mg base ao 2 "continues_name" ["byte"] (kz rp):=by
 refine D.ok Up (λ_=>rfl) λf ay Ar outer s H z Q E hr h=>?_
 refine⟨_,(ai (aH (sI (aT rB (hr.mono (by decide)) aD (aa (pv 0) ae)) (vN (aT jE (hr.mono (by decide)) aD (aa (pv 0) ae)))))),?_⟩
 show eZ _ _ [some (.int z)] H
 walk_at"l"
 refine⟨z,rfl,?_⟩
 walk_at"l"
 unfold rp at h
 cases hz:gX z with
 |true=>
  rw[hz]at h
  rw[if_pos rfl]
  exact h
 |false=>
  rw[hz]at h
  rw[if_neg (by simp)]
  walk_at"l"
  exact⟨z,rfl,h⟩
theorem Wx(T:Txt K mg A)(D:aI K mg "comment_end" Bc ["text","place"]):Callee P w K mg base ao 1 "comment_end" ["text","place"] (nZ K LR.lj):=by
 refine D.ok JU (λ_=>rfl) λf ay Ar outer s H d Q E hr h=>?_
 obtain⟨a,b,i⟩:=d
 obtain⟨ha,hi,h⟩:=h
 dsimp only at*
 refine⟨_,(af (mX PassesOwn.never (PW.pt (F5 (aW oR (pv 1) (eB fK (by rfl) T.fO PySem.boot_len (aa (pv 0) ae)) (aR _)) (F4 (aW lg (a_ cf (pv 0) (pv 1) (λ_ _=>rfl)) (aF T.Kv) (aR _))))) (ai (vS (i:=1) JU.nd rfl (Or.inl rfl) aM vT)))
   (ai (aH (pv 1)))),?_⟩
 show ba _ _ _ [some (.ref a),some (.int i)] H
 refine bX (nY (λm σ U=>∃j:Nat,σ=[some (.ref a),some (.int j)]∧U=H∧j≤b.length∧LR.lj b j=LR.lj b i∧m=b.length-j) ⟨i,rfl,rfl,hi,rfl,rfl⟩ ?_)
 rintro m σ U ⟨j,rfl,rfl,hj,e,rfl⟩
 have done:LR.lj b j=j→eZ (hU 1) {nx:=λ_ U=>Q .aJ U,rt:=Q} [some (.ref a),some (.int j)] U:=λz=>by
  walk_at"l"
  show Q (.int j) U
  rw[←z,e]
  exact h
 walk_at"l"
 refine⟨a,_,rfl,.inl ha,?_⟩
 walk_at"l"
 rw[ig]
 refine fm (λhc=>?_) λhc=>?_
 ·have hc:=of_decide_eq_true hc
  have ej:b[j]?=some b[j]:=List.getElem?_eq_getElem (by omega)
  walk_at"l"
  refine b9 ha (pE ej) ?_
  walk_at"l"
  refine fm (λhd=>?_) λhd=>?_
  ·refine⟨_,λ_ _ q=>q,?_⟩
   have hd:¬((b[j].toNat:Int)=10):=by simpa using hd
   refine⟨_,rfl,?_⟩
   walk_at"l"
   refine⟨_,_,rfl,rfl,b.length-(j+1),by omega,j+1,rfl,rfl,by omega,?_,rfl⟩
   rw[←e]
   exact(LR.z6 ej (by rw[bne_iff_ne];rintro z;rw[z]at hd;exact hd rfl)).symm
  ·have hd:(b[j].toNat:Int)=10:=by simpa using hd
   exact done (LR.HG ej (by rw[show b[j]=10 from UInt8.toNat_inj.mp (by show b[j].toNat=10;omega)];rfl))
 ·have hc:¬_:=λz=>hc (decide_eq_true z)
  rw[if_neg (by simp)]
  exact done (LR.HH (List.getElem?_eq_none (by omega)))
end
end LN
namespace LN
open PySem PySem.Spec PyProof.Rows L2 LX
open Ln (Bytes Lex isDigit isLetter tokenIn)
open LR (aO valOf nameOf aL bp rest bj runEnd isAt dO gJ gX)
section
variable{K:PySem.W.Frag}{H:Hp}{Q:VK}{a b:Addr}
theorem pG:∀ns:List Int,oZ K H (ns.map V.int) (ns.map PyData.int)
 |[]=>.nil
 |n::r=>.cons (.int n) (pG r)
theorem Df:∀ns ms:List Int,PyData.eqvAll (ns.map PyData.int) (ms.map PyData.int)=decide (ns=ms)
 |[],[]=>rfl
 |[],_::_=>rfl
 |_::_,[]=>rfl
 |n::r,m::t=>by
  show(PyData.eqv (.int n) (.int m)&&PyData.eqvAll (r.map PyData.int) (t.map PyData.int))=_
  rw[Df r t]
  show((n==m)&&decide (r=t))=decide (n::r=m::t)
  rw[Bool.eq_iff_iff]
  simp
theorem lay_ints:∀ns:List Int,PyData.canLayAll0 (ns.map PyData.int)=true∧PyData.depthAll (ns.map PyData.int)=0
 |[]=>⟨rfl,rfl⟩
 |n::r=>by
  obtain⟨h1,h2⟩:=lay_ints r
  refine⟨?_,?_⟩
  ·show(PyData.canLay0 (.int n)&&PyData.canLayAll0 (r.map PyData.int))=true
   rw[h1]
   rfl
  ·show max (PyData.depth (.int n)) (PyData.depthAll (r.map PyData.int))=0
   rw[h2]
   rfl
theorem KY(ns:List Int):SeqAt.shaped (.list (ns.map PyData.int))=true:=by
 obtain⟨h1,h2⟩:=lay_ints ns
 unfold SeqAt.shaped
 rw[show PyData.canLay0 (.list (ns.map PyData.int))=true from h1,show PyData.depth (.list (ns.map PyData.int))=PyData.depthAll (ns.map PyData.int)+1 from rfl,h2]
 rfl
theorem xU(ns:List Int):SeqAt.shaped (.tuple (ns.map PyData.int))=true:=by
 obtain⟨h1,h2⟩:=lay_ints ns
 unfold SeqAt.shaped
 rw[show PyData.canLay0 (.tuple (ns.map PyData.int))=true from h1,show PyData.depth (.tuple (ns.map PyData.int))=PyData.depthAll (ns.map PyData.int)+1 from rfl,h2]
 rfl
theorem KZ{ns ms:List Int}(ha:ah K H a (ns.map V.int))(hb:ah K H b (ms.map V.int))(k:Q (.bl (decide (ns=ms))) H):zK K (.ref a) (.ref b) H Q:=
 ⟨.list (ns.map .int),.list (ms.map .int),.lst ha (pG ns),.lst hb (pG ms),KY ns,KY ms,by rw[show PyData.eqv (.list (ns.map .int)) (.list (ms.map .int))=PyData.eqvAll (ns.map .int) (ms.map .int)from rfl,Df];exact k⟩
theorem K0{q q':Rat}:PyData.eqv (.tuple ([q.num,(q.den:Int)].map .int)) (.tuple ([q'.num,(q'.den:Int)].map .int))=decide (q=q'):=by
 rw[show PyData.eqv (.tuple ([q.num,(q.den:Int)].map .int)) (.tuple ([q'.num,(q'.den:Int)].map .int))=PyData.eqvAll ([q.num,(q.den:Int)].map .int) ([q'.num,(q'.den:Int)].map .int)from rfl,Df,decide_eq_decide]
 constructor
 ·intro h
  injection h with h1 h2
  injection h2 with h2 _
  exact Rat.ext h1 (by omega)
 ·rintro rfl
  rfl
theorem Dg{v u:V}{q q':Rat}(ha:bh K H v q)(hb:bh K H u q')(k:Q (.bl (decide (q=q'))) H):zK K v u H Q:=by
 obtain⟨a,rfl,ha⟩:=ha
 obtain⟨b,rfl,hb⟩:=hb
 refine⟨.tuple ([q.num,(q.den:Int)].map .int),.tuple ([q'.num,(q'.den:Int)].map .int),.tup ha (pG [q.num,(q.den:Int)]),.tup hb (pG [q'.num,(q'.den:Int)]),xU _,xU _,?_⟩
 rw[K0]
 exact k
theorem Dh{v u:V}{q q':Rat}(ha:bh K H v q)(hb:bh K H u q')(k:Q (.bl (!decide (q=q'))) H):Hh K v u H Q:=by
 obtain⟨a,rfl,ha⟩:=ha
 obtain⟨b,rfl,hb⟩:=hb
 refine⟨.tuple ([q.num,(q.den:Int)].map .int),.tuple ([q'.num,(q'.den:Int)].map .int),.tup ha (pG [q.num,(q.den:Int)]),.tup hb (pG [q'.num,(q'.den:Int)]),xU _,xU _,?_⟩
 rw[K0]
 exact k
end
theorem Di(b:Bytes):bA b=(b.map λc=>(c.toNat:Int)).map V.int:=by unfold bA uK;rw[List.map_map];rfl
theorem Wy(x:Str):jD x=(x.cps.toList.map λ(c:Nat)=>(c:Int)).map V.int:=by unfold jD;rw[List.map_map];rfl
theorem Wz(w:String)(hw:w∈LR.fY)(b:Bytes):decide ((Str.ofString w).cps.toList.map (λ(c:Nat)=>(c:Int))=b.map λc=>(c.toNat:Int))=decide (Ln.ascii w=b):=by
 rw[←LR.Ab w hw,decide_eq_decide]
 unfold LR.strOf
 constructor
 ·intro h
  refine LR.wx ?_
  unfold LR.strOf
  congr 2
  have inj:∀l m:List Nat,l.map (λ(c:Nat)=>(c:Int))=m.map (λ(c:Nat)=>(c:Int))→l=m:=λl m z=>List.map_inj_right (λa b q=>by omega) |>.mp z
  refine inj _ _ ?_
  have h':((Ln.ascii w).map (·.toNat)).map (λ(c:Nat)=>(c:Int))=b.map λc=>(c.toNat:Int):=h
  rw[List.map_map]at h'⊢
  rw[List.map_map]
  exact h'
 ·rintro rfl
  simp
def Dj(K:PySem.W.Frag)(A:Ad)(no:List Addr)(H:Hp)(Q:VK)(E:XK)(i:Nat)(y:Ln.Tok×Nat):Prop:=
 (y.1=.broken→bO A [] H E (1,i))∧(y.1≠.broken→∀U t,au H U→ji K A no U t ⟨i,y.1⟩ (i+y.2)→Q (.ref t) U)
def rC(K:PySem.W.Frag)(A:Ad)(c:Bytes→Nat→Prop):Sp:=aU (λ(d:Addr×Bytes×Nat×List Addr)=>[.ref d.1,.int d.2.2.1]) λd H Q E=>ah K H d.1 (bA d.2.1)∧c d.2.1 d.2.2.1∧Here H d.2.2.2∧Dj K A d.2.2.2 H Q E d.2.2.1 (tokenIn (d.2.1.drop d.2.2.1))
def K_(K:PySem.W.Frag)(A:Ad):Sp:=aU (λ(d:Addr×Bytes×Nat×List Addr)=>[.ref d.1,.int d.2.2.1]) λd H Q E=>ah K H d.1 (bA d.2.1)∧d.2.2.1≤d.2.1.length∧Here H d.2.2.2∧
 ((aL d.2.1 d.2.2.1).tok=.broken→bO A [] H E (1,(aL d.2.1 d.2.2.1).at_))∧((aL d.2.1 d.2.2.1).tok≠.broken→∀U t,au H U→ji K A d.2.2.2 U t (aL d.2.1 d.2.2.1) (bp d.2.1 d.2.2.1)→Q (.ref t) U)
theorem WA(b:Bytes)(i:Nat):lX (.int (dO b i)) [.int 32,.int 9,.int 10,.int 13]=isAt LR.isBlank b i:=by
 unfold dO isAt
 cases h:b[i]? with
 |none=>rfl
 |some c=>
  show(((32:Int)==(c.toNat:Int))||(((9:Int)==(c.toNat:Int))||(((10:Int)==(c.toNat:Int))||(((13:Int)==(c.toNat:Int))||false))))=(c==32||c==9||c==10||c==13)
  rw[Bool.eq_iff_iff]
  simp only[Bool.or_eq_true,beq_iff_eq,←UInt8.toNat_inj]
  show _↔(((c.toNat=32∨c.toNat=9)∨c.toNat=10)∨c.toNat=13)
  simp
  omega
section
variable{P:Program}{w:World}{K:PySem.W.Frag}{mg:Str→Option Value}{base:Heap}{A:Ad}
theorem WB(T:Txt K mg A)(D:aI K mg "blanks_end" Bd ["text","place"])(iG:Callee P w K mg base ao 1 "byte_at" ["text","place"] (uN K))(Dk:Callee P w K mg base ao 1 "comment_end" ["text","place"] (nZ K LR.lj)):
  Callee P w K mg base ao 2 "blanks_end" ["text","place"] (nZ K LR.bR):=by
 refine D.ok Co (λ_=>rfl) λf ay Ar outer s H d Q E hr h=>?_
 obtain⟨a,b,i⟩:=d
 obtain⟨ha,hi,h⟩:=h
 dsimp only at*
 refine⟨_,(af (mX PassesOwn.never (PW.pt (kW (aW G9 (aT iG (hr.mono (by decide)) aD (aa (pv 0) (aa (pv 1) ae))) (aF T.VP) (by with_unfolding_all rfl)) (mU (aW bU (aT iG (hr.mono (by decide)) aD (aa (pv 0) (aa (pv 1) ae))) (aF T.Kw) (aR _))))) (ai (bb (aW bU (a_ cf (pv 0) (pv 1) (λ_ _=>rfl)) (aF T.Kw) (aR _)) (ai (a9 (i:=1) Co.nd rfl (Or.inl rfl) (aT Dk (hr.mono (by decide)) aD (aa (pv 0) (aa (pv 1) ae))))) (ai (vS (i:=1) Co.nd rfl (Or.inl rfl) aM vT)))))
   (ai (aH (pv 1)))),?_⟩
 show ba _ _ _ [some (.ref a),some (.int i)] H
 refine bX (nY (λm σ U=>∃j:Nat,σ=[some (.ref a),some (.int j)]∧U=H∧j≤b.length∧LR.bR b j=LR.bR b i∧m=b.length-j) ⟨i,rfl,rfl,hi,rfl,rfl⟩ ?_)
 rintro m σ U ⟨j,rfl,rfl,hj,e,rfl⟩
 have body:∀c,b[j]?=some c→(c=35∨LR.isBlank c=true)→∀(N:L2.St→Hp→Prop) (t:TS),(∀(j':Nat),j<j'→j'≤b.length→LR.bR b j'=LR.bR b j→N [some (.ref a),some (.int j')] U)→True:=λ_ _ _ _ _ _=>trivial
 walk_at"l"
 refine⟨(a,b,j),rfl,ha,?_⟩
 walk_at"l"
 refine⟨_,_,rfl,.inr (T.VQ _),rfl,rfl,?_⟩
 refine⟨_,rfl,?_⟩
 rw[show(if false=true then !lX (.int (dO b j)) [.int 32,.int 9,.int 10,.int 13]else lX (.int (dO b j)) [.int 32,.int 9,.int 10,.int 13])=isAt LR.isBlank b j by rw[if_neg (by simp)];exact WA b j]
 have step:∀{c:UInt8},b[j]?=some c→(c=35∨LR.isBlank c=true)→∃N:L2.St→Hp→Prop,(∀az fb,N az fb→∃m',m'<b.length-j∧∃j:Nat,az=[some (.ref a),some (.int j)]∧fb=U∧j≤b.length∧LR.bR b j=LR.bR b i∧m'=b.length-j)∧
   ∀j':Nat,j<j'→j'≤b.length→LR.bR b j'=LR.bR b j→N [some (.ref a),some (.int j')] U:=λ{c} hc _=>
  ⟨λaz fb=>∃m',m'<b.length-j∧∃j:Nat,az=[some (.ref a),some (.int j)]∧fb=U∧j≤b.length∧LR.bR b j=LR.bR b i∧m'=b.length-j,λ_ _ q=>q,λj' h1 h2 h3=>⟨b.length-j',by omega,j',rfl,rfl,h2,h3.trans e,rfl⟩⟩
 cases hb:isAt LR.isBlank b j with
 |true=>
  obtain⟨c,hc,hp⟩:=LR.qK hb
  have bw:j<b.length:=(List.getElem?_eq_some_iff.mp hc).1
  obtain⟨N,hN,kC⟩:=step hc (.inr hp)
  rw[if_pos rfl,if_pos rfl]
  refine⟨N,hN,?_⟩
  have tN:¬((c.toNat:Int)=35):=λz=>by
   have:c=35:=UInt8.toNat_inj.mp (by show c.toNat=35;omega)
   subst this
   revert hp
   decide
  walk_at"l"
  refine b9 ha (pE hc) ?_
  walk_at"l"
  rw[if_neg (by simpa using tN)]
  refine⟨_,rfl,?_⟩
  walk_at"l"
  exact⟨_,_,rfl,rfl,kC (j+1) (by omega) (by omega) (LR.PU hc hp).symm⟩
 |false=>
  rw[if_neg (by simp)]
  walk_at"l"
  refine⟨(a,b,j),rfl,ha,?_⟩
  walk_at"l"
  rw[show decide (dO b j=35)=isAt (· ==35) b j from LR.nG b j 35]
  cases hd:isAt (· ==35) b j with
  |true=>
   obtain⟨c,hc,hp⟩:=LR.qK hd
   have hp:c=35:=by simpa using hp
   subst hp
   have bw:j<b.length:=(List.getElem?_eq_some_iff.mp hc).1
   obtain⟨N,hN,kC⟩:=step hc (.inl rfl)
   rw[if_pos rfl]
   refine⟨N,hN,?_⟩
   walk_at"l"
   refine b9 ha (pE hc) ?_
   walk_at"l"
   rw[if_pos (by decide)]
   walk_at"l"
   refine⟨(a,b,j),rfl,ha,hj,?_⟩
   refine kC _ ?_ (LR.QE hj) (LR.PR hc).symm
   have:=LR.z6 (p:=λx=>x !=10) hc (by decide)
   have h2:=LR.nz (λx=>x !=10) b (j+1)
   show j<runEnd _ b j
   rw[this]
   omega
  |false=>
   rw[if_neg (by simp)]
   walk_at"l"
   have z:LR.bR b j=j:=by
    cases hc:b[j]? with
    |none=>exact LR.PQ hc
    |some c=>
     rw[LR.iP hc]at hb hd
     exact LR.PV hc (by simpa using hd) hb
   show Q (.int j) U
   rw[←z,e]
   exact h
end
end LN
namespace LN
open PySem PySem.Spec PyProof.Rows L2 LX
open Ln (Bytes Lex isDigit isLetter tokenIn)
open LR (aO valOf nameOf aL bp rest bj runEnd isAt dO gJ gX)
theorem La{xs:List V}{i e:Nat}(hi:i≤e)(he:e≤xs.length):iw xs (some (i:Int)) (some (e:Int))=(xs.drop i).take (e-i):=by
 unfold iw
 have h1:HT.gh xs.length 0 (some (i:Int))=i:=by
  show(if(i:Int)<0 then((i:Int)+(xs.length:Int)).toNat else min (i:Int).toNat xs.length)=i
  rw[if_neg (by omega)]
  omega
 have h2:HT.gh xs.length xs.length (some (e:Int))=e:=by
  show(if(e:Int)<0 then((e:Int)+(xs.length:Int)).toNat else min (e:Int).toNat xs.length)=e
  rw[if_neg (by omega)]
  omega
 rw[h1,h2]
theorem xV{b:Bytes}{i e:Nat}(hi:i≤e)(he:e≤b.length):iw (bA b) (some (i:Int)) (some (e:Int))=bA ((b.drop i).take (e-i)):=by
 rw[La hi (by rw[ig];exact he)]
 unfold bA
 rw[List.map_take,List.map_drop]
theorem pH{A:Ad}{H1:Hp}{k p e r v:V}{Q:VK}{E:XK}(h:∀U t dx,au H1 U→U t=some (.ins A.bG dx (nW k p e r v))→Q (.ref t) U):
  ∀x dx,H1 x=none→H1 dx=none→dx≠x→pD A (.ref x::([k,p,e,r,v]++[])) (upd (upd H1 dx (.own x)) x (.ins A.bG dx [])) (λu H2=>u=.aJ∧Q (.ref x) H2) E:=
 λx dx nx nd ne=>⟨((x,dx),k,p,e,r,v),rfl,aw,rfl,by rw[pC];exact h _ x dx (kx nx nd) pB⟩
abbrev nameP:UInt8→Bool:=λx=>isLetter x||isDigit x
theorem WC{b:Bytes}{i:Nat}{c:UInt8}(hc:b[i]?=some c)(hl:isLetter c=true):tokenIn (b.drop i)=(if 32<((b.drop i).takeWhile nameP).length then(.broken,0)else if Ln.WORDS.contains ((b.drop i).takeWhile nameP)=true then(.word ((b.drop i).takeWhile nameP),((b.drop i).takeWhile nameP).length)else(.name ((b.drop i).takeWhile nameP),((b.drop i).takeWhile nameP).length)):=by
 rw[LR.jx hc]
 unfold tokenIn
 dsimp only
 rw[if_pos hl]
 rfl
theorem WD:∀w∈LR.fY,(Str.ofString w).cps.size≤1000000:=by decide +kernel
theorem g4{K:PySem.W.Frag}{mg:Str→Option Value}{A:Ad}(T:Txt K mg A)(H:Hp):bh K H (.ref A.bz) 0:=⟨_,rfl,T.VG H⟩
section
variable{P:Program}{w:World}{K:PySem.W.Frag}{mg:Str→Option Value}{base:Heap}{A:Ad}
theorem WE(D:aI K mg "name_end" Be ["text","place"])(iG:Callee P w K mg base ao 1 "byte_at" ["text","place"] (uN K))(rD:Callee P w K mg base ao 2 "continues_name" ["byte"] (kz rp)):
  Callee P w K mg base ao 3 "name_end" ["text","place"] (nZ K (runEnd nameP)):=by
 refine D.ok JV (λ_=>rfl) λf ay Ar outer s H d Q E hr h=>?_
 obtain⟨a,b,i⟩:=d
 obtain⟨ha,hi,h⟩:=h
 dsimp only at*
 refine⟨_,(af (mX PassesOwn.never (iu (aT rD (hr.mono (by decide)) aD (aa (aT iG (hr.mono (by decide)) aD (aa (pv 0) (aa (pv 1) ae))) ae))) (ai (vS (i:=1) JV.nd rfl (Or.inl rfl) aM vT)))
   (ai (aH (pv 1)))),?_⟩
 show ba _ _ _ [some (.ref a),some (.int i)] H
 refine bX (nY (λm σ U=>∃j:Nat,σ=[some (.ref a),some (.int j)]∧U=H∧j≤b.length∧runEnd nameP b j=runEnd nameP b i∧m=b.length-j) ⟨i,rfl,rfl,hi,rfl,rfl⟩ ?_)
 rintro m σ U ⟨j,rfl,rfl,hj,e,rfl⟩
 walk_at"l"
 refine⟨(a,b,j),rfl,ha,?_⟩
 walk_at"l"
 refine⟨dO b j,rfl,?_⟩
 walk_at"l"
 rw[pF]
 cases hb:isAt nameP b j with
 |true=>
  obtain⟨bw,fG⟩:=LR.Am hb
  rw[if_pos rfl]
  refine⟨_,λ_ _ q=>q,?_⟩
  refine⟨_,rfl,?_⟩
  walk_at"l"
  exact⟨_,_,rfl,rfl,b.length-(j+1),by omega,j+1,rfl,rfl,by omega,fG.symm.trans e,rfl⟩
 |false=>
  rw[if_neg (by simp)]
  walk_at"l"
  show Q (.int j) U
  rw[←LR.IA hb,e]
  exact h
theorem WG(D:aI K mg "digits_end" Bf ["text","place"])(iG:Callee P w K mg base ao 1 "byte_at" ["text","place"] (uN K))(jE:Callee P w K mg base ao 1 "is_digit" ["byte"] (kz gJ)):
  Callee P w K mg base ao 2 "digits_end" ["text","place"] (nZ K (runEnd isDigit)):=by
 refine D.ok JW (λ_=>rfl) λf ay Ar outer s H d Q E hr h=>?_
 obtain⟨a,b,i⟩:=d
 obtain⟨ha,hi,h⟩:=h
 dsimp only at*
 refine⟨_,(af (mX PassesOwn.never (iu (aT jE (hr.mono (by decide)) aD (aa (aT iG (hr.mono (by decide)) aD (aa (pv 0) (aa (pv 1) ae))) ae))) (ai (vS (i:=1) JW.nd rfl (Or.inl rfl) aM vT)))
   (ai (aH (pv 1)))),?_⟩
 show ba _ _ _ [some (.ref a),some (.int i)] H
 refine bX (nY (λm σ U=>∃j:Nat,σ=[some (.ref a),some (.int j)]∧U=H∧j≤b.length∧runEnd isDigit b j=runEnd isDigit b i∧m=b.length-j) ⟨i,rfl,rfl,hi,rfl,rfl⟩ ?_)
 rintro m σ U ⟨j,rfl,rfl,hj,e,rfl⟩
 walk_at"l"
 refine⟨(a,b,j),rfl,ha,?_⟩
 walk_at"l"
 refine⟨dO b j,rfl,?_⟩
 walk_at"l"
 rw[LR.Al]
 cases hb:isAt isDigit b j with
 |true=>
  obtain⟨bw,fG⟩:=LR.Am hb
  rw[if_pos rfl]
  refine⟨_,λ_ _ q=>q,?_⟩
  refine⟨_,rfl,?_⟩
  walk_at"l"
  exact⟨_,_,rfl,rfl,b.length-(j+1),by omega,j+1,rfl,rfl,by omega,fG.symm.trans e,rfl⟩
 |false=>
  rw[if_neg (by simp)]
  walk_at"l"
  show Q (.int j) U
  rw[←LR.IA hb,e]
  exact h
theorem WH(T:Txt K mg A)(GF:jj P w K mg base A)(D:aI K mg "name_token" Bg ["text","place"])(Dm:Callee P w K mg base ao 3 "name_end" ["text","place"] (nZ K (runEnd nameP)))(rE:Callee P w K mg base ao 1 "spelled" ["text"] De)(jk:Maker P w K mg base ao 1 A.bG "Token" ["self","kind","place","end","row","value"] (pD A)):
  Callee P w K mg base (aX P w) 4 "name_token" ["text","place"] (rC K A λb i=>isAt isLetter b i=true):=by
 obtain⟨fI,kD,xF,fh,fi,bF⟩:=GF
 refine D.eH xG (λ_=>rfl) λf ay Ar outer s H d Q E hr h=>?_
 obtain⟨a,b,i,no⟩:=d
 obtain⟨ha,hl,aZ,h⟩:=h
 dsimp only at*
 obtain⟨c,hc,hl⟩:=LR.qK hl
 have bw:i<b.length:=(List.getElem?_eq_some_iff.mp hc).1
 rw[WC hc hl]at h
 have hw:(b.drop i).takeWhile nameP=(b.drop i).take (runEnd nameP b i-i):=LR.tM nameP b i
 have lz:((b.drop i).takeWhile nameP).length=runEnd nameP b i-i:=LR.tQ nameP b i
 have h1:=LR.nz nameP b i
 have h2:=LR.wq nameP b (Nat.le_of_lt bw)
 generalize hww:(b.drop i).takeWhile nameP=ww at h hw lz
 refine⟨_,(af (a9 (i:=2) xG.nd rfl (Or.inl rfl) (aT Dm (hr.mono (by decide)) aD (aa (pv 0) (aa (pv 1) ae))))
   (af (bb (aW qt (dY oQ (pv 2) (pv 1)) (aF T.VN) (aR _)) (ai (lr xF fh (hr.mono (by decide)) rfl fi bF rfl kh (aa (aF T.CQ) (aa (pv 1) ae)))) bo)
   (af (a9 (i:=3) xG.nd rfl (Or.inl rfl) (sU sV (pv 0) (m7 (pv 1)) (m7 (pv 2))))
   (af (PS.lS (hX PassesOwn.never rfl (qo (aF T.WORDS)) (eA (i:=4) xG.nd rfl (Or.inl rfl)) (ai (bb (aW (tj hr.units) (aT rE (hr.mono (by decide)) aD (aa (pv 4) ae)) (pv 3) (aR _)) (ai (aH (lu jk (hr.mono (by decide)) aD (aa (pv 4) (aa (pv 1) (aa (pv 2) (aa (bK ae) (aa (aF T.gq) ae)))))))) bo))))
   (ai (aH (lu jk (hr.mono (by decide)) aD (aa (aF T.CV) (aa (pv 1) (aa (pv 2) (aa (pv 3) (aa (aF T.gq) ae)))))))))))),?_⟩
 show ba _ _ _ [some (.ref a),some (.int i),none,none,none] H
 walk_at"l"
 refine⟨(a,b,i),rfl,ha,Nat.le_of_lt bw,?_⟩
 dsimp only
 walk_at"l"
 refine fm (λhz=>?_) λhz=>?_
 ·have hz:=of_decide_eq_true hz
  rw[if_pos (by omega)]at h
  with_reducible refine gO ?_
  walk_at"l"
  exact gP (h.1 rfl) ax.nil
 ·have hz:¬_:=λz=>hz (decide_eq_true z)
  rw[if_neg (by omega)]at h
  walk_at"l"
  refine ph ha λfk Lb=>?_
  rw[xV h1 h2,←hw]
  walk_at"l"
  have fin:∀(U:Hp) (v:Option V),au H U→U fk=some (.lst (bA ww))→(∀n∈LR.fY,Ln.ascii n≠ww)→
    eZ (qu A.bG (pD A) [] E0 (oX (tC (.str "name")) (oX (hU 1) (oX (hU 2) (oX (hU 3) (oX (tC (.ref A.bz)) oW)))))) {nx:=λ_ U=>Q .aJ U,rt:=Q} [some (.ref a),some (.int i),some (.int (runEnd nameP b i)),some (.ref fk),v] U:=λU v s1 kE kG=>by
   walk_at"l"
   have nw:Ln.WORDS.contains ww=false:=by
    rw[←Bool.not_eq_true,List.contains_iff_mem,LR.HN]
    intro z
    obtain⟨n,hn,e⟩:=List.mem_map.mp z
    exact kG n hn e
   rw[nw,if_neg (by simp)]at h
   refine pH λfb t dx s2 ht=>h.2 (by simp) fb t (s1.trans s2) ⟨dx,fk,.ref A.bz,?_,g4 T _,λnb z=>?_⟩
   ·rw[ht,lz,show i+(runEnd nameP b i-i)=runEnd nameP b i by omega]
    rfl
   ·cases z
    refine⟨s2 _ _ kE,λz=>?_⟩
    obtain⟨o,q⟩:=aZ _ z
    rw[Lb]at q
    cases q
  with_reducible refine iD (uA (bT ?_))
  refine⟨_,rfl,⟨_,T.Ku _⟩,sO (K:=K) (a:=A.px) (xs:=LR.fY.map λn=>V.str (Str.ofString n)) (λk σ U=>∃v:Option V,σ=[some (.ref a),some (.int i),some (.int (runEnd nameP b i)),some (.ref fk),v]∧au H U∧U fk=some (.lst (bA ww))∧∀j n,j<k→LR.fY[j]?=some n→Ln.ascii n≠ww)
   ⟨none,rfl,au.bc Lb,aw,λj n hj=>absurd hj (Nat.not_lt_zero _)⟩ (λk σ U _ _=>T.Ku U) ?_ ?_⟩
  ·rintro k y σ U hy ⟨v,rfl,s1,kE,kG⟩
   obtain⟨n,hn,rfl⟩:∃n,LR.fY[k]?=some n∧y=V.str (Str.ofString n):=by
    rw[List.getElem?_map]at hy
    obtain⟨n,h1,h2⟩:=Option.map_eq_some_iff.mp hy
    exact⟨n,h1,h2.symm⟩
   have bZ:n∈LR.fY:=List.mem_of_getElem? hn
   walk_at"l"
   refine⟨_,rfl,WD n bZ,λH2 p s2 np hp=>?_⟩
   walk_at"l"
   have Lc:=s2 _ _ kE
   refine KZ (ns:=(Str.ofString n).cps.toList.map λ(c:Nat)=>(c:Int)) (ms:=ww.map λc=>(c.toNat:Int)) (ah.of (by rw[←Wy];exact hp)) (ah.of (by rw[←Di];exact Lc)) ?_
   walk_at"l"
   rw[Wz n bZ ww]
   refine fm (λhe=>?_) λhe=>?_
   ·have he:=of_decide_eq_true he
    have nw:Ln.WORDS.contains ww=true:=by
     rw[List.contains_iff_mem,LR.HN,←he]
     exact List.mem_map.mpr ⟨n,bZ,rfl⟩
    rw[nw,if_pos rfl]at h
    walk_at"l"
    refine⟨Nat.zero_le _,λq hq=>?_⟩
    walk_at"l"
    refine pH λfb t dx s3 ht=>h.2 (by simp) fb t (((s1.trans s2).trans (au.bc hq)).trans s3) ⟨dx,q,.ref A.bz,?_,g4 T _,λnb z=>by cases z⟩
    rw[ht,lz,show i+(runEnd nameP b i-i)=runEnd nameP b i by omega,show aO (.word ww)=Str.ofString n by rw[←he];exact LR.Ab n bZ]
   ·have he:¬_:=λz=>he (decide_eq_true z)
    walk_at"l"
    refine⟨s1.trans s2,Lc,λj m hj hm=>?_⟩
    by_cases uO:j=k
    ·subst uO
     rw[hn]at hm
     cases hm
     exact he
    ·exact kG j m (by omega) hm
  ·rintro σ U ⟨v,rfl,s1,kE,kG⟩
   refine fin U v s1 kE λn hn=>?_
   obtain⟨j,hj,e⟩:=List.getElem_of_mem hn
   exact kG j n (by rw[List.length_map];exact hj) (by rw[List.getElem?_eq_getElem hj,e])
end
end LN
namespace LN
open PySem PySem.Spec PyProof.Rows L2 LX
open Ln (Bytes Lex isDigit isLetter tokenIn)
open LR (aO valOf nameOf aL bp rest bj runEnd isAt dO gJ gX)
def Ld(K:PySem.W.Frag):Sp:=aU (λ(d:Addr×Bytes)=>[.ref d.1]) λd H Q _=>ah K H d.1 (bA d.2)∧(∀c∈d.2,isDigit c=true∨c=46)∧d.2.length≤100∧∀U v,au H U→bh K U v (LR.o8 d.2)→Q v U
theorem Le{α:Type}{l:List α}{i:Nat}{x:α}(h:l[i]?=some x):l.take (i+1)=l.take i++[x]:=by
 rw[List.take_add_one,h]
 rfl
def Lf(K:PySem.W.Frag)(A:Ad)(b:Bytes)(i:Nat)(no:List Addr)(H:Hp)(Q:VK)(E:XK)(e2 dg:Nat)(kd:Str):Prop:=
 i≤e2∧e2≤b.length∧∃(n k:Nat) (pt:Bool),kd=aO (.num n k pt)∧(∀c∈(b.drop i).take (e2-i),isDigit c=true∨c=46)∧e2-i≤dg+1∧
  Dj K A no H Q E i (if Ln.DIGITS<dg∨isAt nameP b e2=true∨isAt (· ==46) b e2=true then(.broken,0)else(.num n k pt,e2-i))∧LR.o8 ((b.drop i).take (e2-i))=valOf (.num n k pt)
section
variable{P:Program}{w:World}{K:PySem.W.Frag}{mg:Str→Option Value}{base:Heap}{A:Ad}
theorem WI(T:Txt K mg A)(D:aI K mg "value_of_digits" Bh ["row"])(gM:Callee P w K mg base ao 2 "quotient" ["upper","lower"] (pz K)):Callee P w K mg base ao 3 "value_of_digits" ["row"] (Ld K):=by
 refine D.ok nQ (λ_=>rfl) λf ay Ar outer s H d Q E hr h=>?_
 obtain⟨a,r⟩:=d
 obtain⟨ha,hd,hlen,h⟩:=h
 dsimp only at*
 refine⟨_,(af (a9 (i:=1) nQ.nd rfl (Or.inl rfl) aM)
   (af (a9 (i:=2) nQ.nd rfl (Or.inl rfl) aM)
   (af (a9 (i:=3) nQ.nd rfl (Or.inl rfl) F0)
   (af (hX PassesOwn.never rfl (kX (pv 0)) (eA (i:=4) nQ.nd rfl (Or.inl rfl)) (ai (bb (aW bU (pv 4) (aF T.C0) (aR _)) (ai (a9 (i:=3) nQ.nd rfl (Or.inl rfl) F0)) (af (a9 (i:=1) nQ.nd rfl (Or.inl rfl) (dY oQ (dY kZ (dY m4 (pv 1) aM) (pv 4)) (aF T.VR)))
   (ai (bb (iu (pv 3)) (ai (a9 (i:=2) nQ.nd rfl (Or.inl rfl) (dY m4 (pv 2) aM))) bo))))))
   (ai (aH (aT gM (hr.mono (by decide)) aD (aa (pv 1) (aa (pv 2) ae))))))))),?_⟩
 show ba _ _ _ [some (.ref a),none,none,none,none] H
 walk_at"l"
 with_reducible refine iD (lx ?_)
 walk_at"l"
 refine⟨⟨_,ha⟩,qp (K:=K) (a:=a) (xs:=bA r) (λk σ U=>∃(v:Option V) (n d:Nat) (pt:Bool),σ=[some (.ref a),some (.int n),some (.int d),some (.bl pt),v]∧U=H∧(r.take k).foldl LR.iR ((0,1),false)=((n,d),pt)∧d≠0∧d≤10^k)
  ⟨none,0,1,false,rfl,rfl,rfl,by decide,by decide⟩ (λk σ U _ ⟨_,_,_,_,_,e,_⟩=>by rw[e];exact ha) ?_ ?_⟩
 ·rintro k y σ U hy ⟨v,n,d,pt,rfl,rfl,hf,h0,hz⟩
  obtain⟨c,hc,rfl⟩:∃c,r[k]?=some c∧y=.int (c.toNat:Int):=by
   unfold bA at hy
   rw[List.getElem?_map]at hy
   obtain⟨c,h1,h2⟩:=Option.map_eq_some_iff.mp hy
   exact⟨c,h1,h2.symm⟩
  have hp:10^k≤10^(k+1):=Nat.pow_le_pow_right (by decide) (by omega)
  walk_at"l"
  refine fm (λhe=>?_) λhe=>?_
  ·have he:=of_decide_eq_true he
   have:c=46:=UInt8.toNat_inj.mp (by show c.toNat=46;omega)
   subst this
   walk_at"l"
   refine⟨_,n,d,true,rfl,rfl,?_,h0,by omega⟩
   rw[Le hc,List.foldl_append,hf]
   rfl
  ·have he:¬_:=λz=>he (decide_eq_true z)
   have Lg:¬c=46:=by rintro rfl;exact he rfl
   have jf:isDigit c=true:=(hd c (List.mem_of_getElem? hc)).resolve_right Lg
   have h48:48≤c.toNat:=by
    unfold isDigit at jf
    simp only[Bool.and_eq_true,decide_eq_true_eq,UInt8.le_iff_toNat_le]at jf
    exact jf.1
   have fG:LR.iR ((n,d),pt) c=((n*10+(c.toNat-48),if pt=true then d*10 else d),pt):=by unfold LR.iR;rw[if_neg Lg]
   have Lh:(r.take (k+1)).foldl LR.iR ((0,1),false)=((n*10+(c.toNat-48),if pt=true then d*10 else d),pt):=by
    rw[Le hc,List.foldl_append,hf]
    exact fG
   have hn:(n:Int)*10+(c.toNat:Int)-48=((n*10+(c.toNat-48):Nat):Int):=by omega
   walk_at"l"
   refine km (mulR (by decide)) ?_
   walk_at"l"
   rw[hn]
   cases pt with
   |true=>
    rw[if_pos rfl]
    walk_at"l"
    refine km (mulR (by decide)) ?_
    walk_at"l"
    refine⟨_,_,d*10,true,rfl,rfl,Lh,by omega,?_⟩
    rw[Nat.pow_succ]
    omega
   |false=>
    rw[if_neg (by simp)]
    walk_at"l"
    exact⟨_,_,d,false,rfl,rfl,Lh,h0,by omega⟩
 ·rintro σ U ⟨v,n,d,pt,rfl,rfl,hf,h0,hz⟩
  rw[ig,List.take_length]at hf
  rw[ig]at hz
  walk_at"l"
  refine⟨((n:Int),d),rfl,h0,Nat.lt_of_le_of_lt (Nat.le_trans hz (Nat.pow_le_pow_right (by decide) hlen)) (show 10^100<2^8000 from Nat.lt_of_lt_of_le (show 10^100<2^400 by decide) (Nat.pow_le_pow_right (by decide) (by decide))),λU v k q=>h U v k ?_⟩
  unfold LR.o8
  rw[hf]
  exact q
theorem WJ(T:Txt K mg A)(GF:jj P w K mg base A)(D:aI K mg "number_token" Bi ["text","place"])(xW:Callee P w K mg base ao 2 "digits_end" ["text","place"] (nZ K (runEnd isDigit)))(iG:Callee P w K mg base ao 1 "byte_at" ["text","place"] (uN K))(jE:Callee P w K mg base ao 1 "is_digit" ["byte"] (kz gJ))(rD:Callee P w K mg base ao 2 "continues_name" ["byte"] (kz rp))(Dn:Callee P w K mg base ao 3 "value_of_digits" ["row"] (Ld K))(jk:Maker P w K mg base ao 1 A.bG "Token" ["self","kind","place","end","row","value"] (pD A)):
  Callee P w K mg base (aX P w) 4 "number_token" ["text","place"] (rC K A λb i=>isAt isDigit b i=true):=by
 obtain⟨fI,kD,xF,fh,fi,bF⟩:=GF
 refine D.eH nR (λ_=>rfl) λf ay Ar outer s H d Q E hr h=>?_
 obtain⟨a,b,i,no⟩:=d
 obtain⟨ha,hl,aZ,h⟩:=h
 dsimp only at*
 obtain⟨c,hc,hl⟩:=LR.qK hl
 have bw:i<b.length:=(List.getElem?_eq_some_iff.mp hc).1
 rw[LR.QL hc hl]at h
 unfold LR.tR at h
 dsimp only at h
 have h1:=LR.nz isDigit b i
 have h2:=LR.wq isDigit b (Nat.le_of_lt bw)
 refine⟨_,(af (a9 (i:=2) nR.nd rfl (Or.inl rfl) (aF T.CW))
   (af (a9 (i:=3) nR.nd rfl (Or.inl rfl) (aT xW (hr.mono (by decide)) aD (aa (pv 0) (aa (pv 1) ae))))
   (af (a9 (i:=4) nR.nd rfl (Or.inl rfl) (dY oQ (pv 3) (pv 1)))
   (af (bb (PW.pt (F5 (aW bU (aT iG (hr.mono (by decide)) aD (aa (pv 0) (aa (pv 3) ae))) (aF T.C0) (aR _)) (F4 (iu (aT jE (hr.mono (by decide)) aD (aa (aT iG (hr.mono (by decide)) aD (aa (pv 0) (aa (dY kZ (pv 3) aM) ae))) ae)))))) (af (a9 (i:=2) nR.nd rfl (Or.inl rfl) (aF T.CY))
   (af (a9 (i:=3) nR.nd rfl (Or.inl rfl) (aT xW (hr.mono (by decide)) aD (aa (pv 0) (aa (dY kZ (pv 3) aM) ae))))
   (ai (a9 (i:=4) nR.nd rfl (Or.inl rfl) (dY oQ (dY oQ (pv 3) (pv 1)) aM))))) bo)
   (af (a9 (i:=5) nR.nd rfl (Or.inl rfl) (aT iG (hr.mono (by decide)) aD (aa (pv 0) (aa (pv 3) ae))))
   (af (bb (PW.pt (kW (aW qt (pv 4) (aF T.VO) (aR _)) (kW (iu (aT rD (hr.mono (by decide)) aD (aa (pv 5) ae))) (mU (aW bU (pv 5) (aF T.C0) (aR _)))))) (ai (lr xF fh (hr.mono (by decide)) rfl fi bF rfl kh (aa (aF T.CQ) (aa (pv 1) ae)))) bo)
   (ai (aH (lu jk (hr.mono (by decide)) aD (aa (pv 2) (aa (pv 1) (aa (pv 3) (aa (bK ae) (aa (aT Dn (hr.mono (by decide)) aD (aa (sU sV (pv 0) (m7 (pv 1)) (m7 (pv 3))) ae)) ae)))))))))))))),?_⟩
 show ba _ _ _ [some (.ref a),some (.int i),none,none,none,none] H
 walk_at"l"
 refine⟨(a,b,i),rfl,ha,Nat.le_of_lt bw,?_⟩
 dsimp only
 walk_at"l"
 refine⟨(a,b,runEnd isDigit b i),rfl,ha,?_⟩
 dsimp only
 walk_at"l"
 rw[show decide (dO b (runEnd isDigit b i)=46)=isAt (· ==46) b (runEnd isDigit b i)from LR.nG b _ 46]
 have last:isAt (· ==46) b (runEnd isDigit b i)=false∨isAt isDigit b (runEnd isDigit b i+1)=false→Lf K A b i no H Q E (runEnd isDigit b i) (runEnd isDigit b i-i) (Str.ofString "whole"):=λhn=>by
  have hp:(isAt (· ==46) b (runEnd isDigit b i)&&isAt isDigit b (runEnd isDigit b i+1))=false:=by
   rcases hn with hn|hn
   ·rw[hn,Bool.false_and]
   ·rw[hn,Bool.and_false]
  rw[hp]at h
  simp only[Bool.false_eq_true,if_false]at h
  exact⟨h1,h2,_,0,false,rfl,λc hc=>.inl (LR.QI b i c hc),by omega,h,LR.QK b i⟩
 cases ll:isAt (· ==46) b (runEnd isDigit b i)with
 |false=>
  have F:=last (.inl ll)
  rw[if_neg (by simp),if_neg (by simp)]
  walk_at"l"
  rw[show(runEnd isDigit b i:Int)-(i:Int)=((runEnd isDigit b i-i:Nat):Int) by omega]
  generalize runEnd isDigit b i=e2 at F⊢
  generalize e2-i=dg at F⊢
  generalize Str.ofString "whole"=kd at F⊢
  obtain⟨g1,g2,n,k,pt,rfl,gd,gl,gp,gv⟩:=F
  refine⟨(a,b,e2),rfl,ha,?_⟩
  dsimp only
  walk_at"l"
  by_cases fZ:Ln.DIGITS<dg∨isAt nameP b e2=true∨isAt (· ==46) b e2=true
  ·rw[if_pos fZ]at gp
   refine fm (λhz=>?_) λhz=>?_
   ·rw[if_pos rfl]
    with_reducible refine gO ?_
    walk_at"l"
    exact gP (gp.1 rfl) ax.nil
   ·have hz:¬_:=λz=>hz (decide_eq_true z)
    walk_at"l"
    refine⟨dO b e2,rfl,?_⟩
    walk_at"l"
    rw[pF]
    cases hn:isAt nameP b e2 with
    |true=>
     rw[if_pos rfl,if_pos rfl]
     with_reducible refine gO ?_
     walk_at"l"
     exact gP (gp.1 rfl) ax.nil
    |false=>
     rw[if_neg (by simp)]
     walk_at"l"
     rw[show decide (dO b e2=46)=isAt (· ==46) b e2 from LR.nG b e2 46]
     have uP:isAt (· ==46) b e2=true:=by
      rcases fZ with q|q|q
      ·exact absurd (show(18:Int)<(dg:Int) by have:18<dg:=q;omega) hz
      ·rw[hn]at q;cases q
      ·exact q
     rw[uP,if_pos rfl]
     with_reducible refine gO ?_
     walk_at"l"
     exact gP (gp.1 rfl) ax.nil
  ·rw[if_neg fZ]at gp
   have z1:¬Ln.DIGITS<dg:=λq=>fZ (.inl q)
   have z1:¬18<dg:=z1
   have z2:isAt nameP b e2=false:=by
    rw[←Bool.not_eq_true]
    exactλq=>fZ (.inr (.inl q))
   have z3:isAt (· ==46) b e2=false:=by
    rw[←Bool.not_eq_true]
    exactλq=>fZ (.inr (.inr q))
   rw[if_neg (by rw[decide_eq_true_eq];omega)]
   walk_at"l"
   refine⟨dO b e2,rfl,?_⟩
   walk_at"l"
   rw[pF,show isAt (λc=>isLetter c||isDigit c) b e2=false from z2,if_neg (by simp)]
   walk_at"l"
   rw[show decide (dO b e2=46)=isAt (· ==46) b e2 from LR.nG b e2 46,z3,if_neg (by simp)]
   walk_at"l"
   refine⟨Nat.zero_le _,λq hq=>?_⟩
   walk_at"l"
   have sq:=au.bc (o:=.lst []) hq
   refine ph (ha.same sq) λp hp=>?_
   rw[xV g1 g2]
   walk_at"l"
   have sp:=au.bc (o:=.lst (bA ((b.drop i).take (e2-i)))) hp
   refine⟨(p,(b.drop i).take (e2-i)),rfl,ah.of aw,gd,by rw[List.length_take];omega,λH2 v s2 hv=>?_⟩
   walk_at"l"
   refine pH λfb t dx s3 ht=>gp.2 (by simp) fb t (((sq.trans sp).trans s2).trans s3) ⟨dx,q,v,?_,?_,λnb z=>by cases z⟩
   ·rw[ht,show i+(e2-i)=e2 by omega]
   ·rw[←gv]
    exact hv.same s3
 |true=>
  rw[if_pos rfl]
  walk_at"l"
  refine⟨(a,b,runEnd isDigit b i+1),rfl,ha,?_⟩
  dsimp only
  walk_at"l"
  refine⟨_,rfl,?_⟩
  walk_at"l"
  rw[LR.Al]
  cases Dq:isAt isDigit b (runEnd isDigit b i+1)with
  |false=>
   have F:=last (.inr Dq)
   rw[if_neg (by simp)]
   walk_at"l"
   rw[show(runEnd isDigit b i:Int)-(i:Int)=((runEnd isDigit b i-i:Nat):Int) by omega]
   generalize runEnd isDigit b i=e2 at F⊢
   generalize e2-i=dg at F⊢
   generalize Str.ofString "whole"=kd at F⊢
   obtain⟨g1,g2,n,k,pt,rfl,gd,gl,gp,gv⟩:=F
   refine⟨(a,b,e2),rfl,ha,?_⟩
   dsimp only
   walk_at"l"
   by_cases fZ:Ln.DIGITS<dg∨isAt nameP b e2=true∨isAt (· ==46) b e2=true
   ·rw[if_pos fZ]at gp
    refine fm (λhz=>?_) λhz=>?_
    ·rw[if_pos rfl]
     with_reducible refine gO ?_
     walk_at"l"
     exact gP (gp.1 rfl) ax.nil
    ·have hz:¬_:=λz=>hz (decide_eq_true z)
     walk_at"l"
     refine⟨dO b e2,rfl,?_⟩
     walk_at"l"
     rw[pF]
     cases hn:isAt nameP b e2 with
     |true=>
      rw[if_pos rfl,if_pos rfl]
      with_reducible refine gO ?_
      walk_at"l"
      exact gP (gp.1 rfl) ax.nil
     |false=>
      rw[if_neg (by simp)]
      walk_at"l"
      rw[show decide (dO b e2=46)=isAt (· ==46) b e2 from LR.nG b e2 46]
      have uP:isAt (· ==46) b e2=true:=by
       rcases fZ with q|q|q
       ·exact absurd (show(18:Int)<(dg:Int) by have:18<dg:=q;omega) hz
       ·rw[hn]at q;cases q
       ·exact q
      rw[uP,if_pos rfl]
      with_reducible refine gO ?_
      walk_at"l"
      exact gP (gp.1 rfl) ax.nil
   ·rw[if_neg fZ]at gp
    have z1:¬Ln.DIGITS<dg:=λq=>fZ (.inl q)
    have z1:¬18<dg:=z1
    have z2:isAt nameP b e2=false:=by
     rw[←Bool.not_eq_true]
     exactλq=>fZ (.inr (.inl q))
    have z3:isAt (· ==46) b e2=false:=by
     rw[←Bool.not_eq_true]
     exactλq=>fZ (.inr (.inr q))
    rw[if_neg (by rw[decide_eq_true_eq];omega)]
    walk_at"l"
    refine⟨dO b e2,rfl,?_⟩
    walk_at"l"
    rw[pF,show isAt (λc=>isLetter c||isDigit c) b e2=false from z2,if_neg (by simp)]
    walk_at"l"
    rw[show decide (dO b e2=46)=isAt (· ==46) b e2 from LR.nG b e2 46,z3,if_neg (by simp)]
    walk_at"l"
    refine⟨Nat.zero_le _,λq hq=>?_⟩
    walk_at"l"
    have sq:=au.bc (o:=.lst []) hq
    refine ph (ha.same sq) λp hp=>?_
    rw[xV g1 g2]
    walk_at"l"
    have sp:=au.bc (o:=.lst (bA ((b.drop i).take (e2-i)))) hp
    refine⟨(p,(b.drop i).take (e2-i)),rfl,ah.of aw,gd,by rw[List.length_take];omega,λH2 v s2 hv=>?_⟩
    walk_at"l"
    refine pH λfb t dx s3 ht=>gp.2 (by simp) fb t (((sq.trans sp).trans s2).trans s3) ⟨dx,q,v,?_,?_,λnb z=>by cases z⟩
    ·rw[ht,show i+(e2-i)=e2 by omega]
    ·rw[←gv]
     exact hv.same s3
  |true=>
   obtain⟨Li,_⟩:=LR.Am Dq
   have h3:=LR.nz isDigit b (runEnd isDigit b i+1)
   have h4:=LR.wq isDigit b (Nat.le_of_lt Li)
   have F:Lf K A b i no H Q E (runEnd isDigit b (runEnd isDigit b i+1)) (runEnd isDigit b (runEnd isDigit b i+1)-i-1) (Str.ofString "pointed"):=by
    rw[ll,Dq]at h
    simp only[Bool.and_true,if_true]at h
    refine⟨by omega,h4,_,_,true,rfl,λc hc=>?_,by omega,h,LR.QJ ll⟩
    rw[LR.IB ll]at hc
    rcases List.mem_append.mp hc with q|q
    ·exact .inl (LR.takeWhile_all _ _ c q)
    ·rcases List.mem_cons.mp q with q|q
     ·exact .inr q
     ·exact .inl (LR.takeWhile_all _ _ c q)
   rw[if_pos rfl]
   walk_at"l"
   refine⟨(a,b,runEnd isDigit b i+1),rfl,ha,Nat.le_of_lt Li,?_⟩
   dsimp only
   walk_at"l"
   rw[show(runEnd isDigit b (runEnd isDigit b i+1):Int)-(i:Int)-1=((runEnd isDigit b (runEnd isDigit b i+1)-i-1:Nat):Int) by omega]
   generalize runEnd isDigit b (runEnd isDigit b i+1)=e2 at F⊢
   generalize e2-i-1=dg at F⊢
   generalize Str.ofString "pointed"=kd at F⊢
   obtain⟨g1,g2,n,k,pt,rfl,gd,gl,gp,gv⟩:=F
   refine⟨(a,b,e2),rfl,ha,?_⟩
   dsimp only
   walk_at"l"
   by_cases fZ:Ln.DIGITS<dg∨isAt nameP b e2=true∨isAt (· ==46) b e2=true
   ·rw[if_pos fZ]at gp
    refine fm (λhz=>?_) λhz=>?_
    ·rw[if_pos rfl]
     with_reducible refine gO ?_
     walk_at"l"
     exact gP (gp.1 rfl) ax.nil
    ·have hz:¬_:=λz=>hz (decide_eq_true z)
     walk_at"l"
     refine⟨dO b e2,rfl,?_⟩
     walk_at"l"
     rw[pF]
     cases hn:isAt nameP b e2 with
     |true=>
      rw[if_pos rfl,if_pos rfl]
      with_reducible refine gO ?_
      walk_at"l"
      exact gP (gp.1 rfl) ax.nil
     |false=>
      rw[if_neg (by simp)]
      walk_at"l"
      rw[show decide (dO b e2=46)=isAt (· ==46) b e2 from LR.nG b e2 46]
      have uP:isAt (· ==46) b e2=true:=by
       rcases fZ with q|q|q
       ·exact absurd (show(18:Int)<(dg:Int) by have:18<dg:=q;omega) hz
       ·rw[hn]at q;cases q
       ·exact q
      rw[uP,if_pos rfl]
      with_reducible refine gO ?_
      walk_at"l"
      exact gP (gp.1 rfl) ax.nil
   ·rw[if_neg fZ]at gp
    have z1:¬Ln.DIGITS<dg:=λq=>fZ (.inl q)
    have z1:¬18<dg:=z1
    have z2:isAt nameP b e2=false:=by
     rw[←Bool.not_eq_true]
     exactλq=>fZ (.inr (.inl q))
    have z3:isAt (· ==46) b e2=false:=by
     rw[←Bool.not_eq_true]
     exactλq=>fZ (.inr (.inr q))
    rw[if_neg (by rw[decide_eq_true_eq];omega)]
    walk_at"l"
    refine⟨dO b e2,rfl,?_⟩
    walk_at"l"
    rw[pF,show isAt (λc=>isLetter c||isDigit c) b e2=false from z2,if_neg (by simp)]
    walk_at"l"
    rw[show decide (dO b e2=46)=isAt (· ==46) b e2 from LR.nG b e2 46,z3,if_neg (by simp)]
    walk_at"l"
    refine⟨Nat.zero_le _,λq hq=>?_⟩
    walk_at"l"
    have sq:=au.bc (o:=.lst []) hq
    refine ph (ha.same sq) λp hp=>?_
    rw[xV g1 g2]
    walk_at"l"
    have sp:=au.bc (o:=.lst (bA ((b.drop i).take (e2-i)))) hp
    refine⟨(p,(b.drop i).take (e2-i)),rfl,ah.of aw,gd,by rw[List.length_take];omega,λH2 v s2 hv=>?_⟩
    walk_at"l"
    refine pH λfb t dx s3 ht=>gp.2 (by simp) fb t (((sq.trans sp).trans s2).trans s3) ⟨dx,q,v,?_,?_,λnb z=>by cases z⟩
    ·rw[ht,show i+(e2-i)=e2 by omega]
    ·rw[←gv]
     exact hv.same s3
end
end LN
namespace LN
open PySem PySem.Spec PyProof.Rows L2 LX
open Ln (Bytes Lex isDigit isLetter tokenIn)
open LR (aO valOf nameOf aL bp rest bj runEnd isAt dO gJ gX)
theorem WK:([.str ":",.str ",",.str ";",.str "/",.str "-"]:List V)=LR.marks.map λc=>V.str (LR.strOf [c]):=by decide +kernel
def Lj(b:Bytes)(i:Nat):Prop:=i<b.length∧isAt isLetter b i=false∧isAt isDigit b i=false
section
variable{P:Program}{w:World}{K:PySem.W.Frag}{mg:Str→Option Value}{base:Heap}{A:Ad}
theorem WL(T:Txt K mg A)(GF:jj P w K mg base A)(D:aI K mg "mark_token" Bj ["text","place"])(jk:Maker P w K mg base ao 1 A.bG "Token" ["self","kind","place","end","row","value"] (pD A)):
  Callee P w K mg base (aX P w) 3 "mark_token" ["text","place"] (rC K A Lj):=by
 obtain⟨fI,kD,xF,fh,fi,bF⟩:=GF
 refine D.eH JX (λ_=>rfl) λf ay Ar outer s H d Q E hr h=>?_
 obtain⟨a,b,i,no⟩:=d
 obtain⟨ha,⟨bw,hl,hd⟩,aZ,h⟩:=h
 dsimp only at*
 have hc:b[i]?=some b[i]:=List.getElem?_eq_getElem bw
 rw[LR.iP hc]at hl hd
 rw[LR.QM hc hl hd]at h
 generalize b[i]=c at hc hl hd h
 have hT:∀H,aY K H A.nX (LR.marks.map λc=>V.str (LR.strOf [c])):=λH=>by rw[←WK];exact T.VM H
 refine⟨_,(af (PS.lS (hX PassesOwn.never rfl (qo (aF T.VL)) (eA (i:=2) JX.nd rfl (Or.inl rfl)) (ai (bb (aW bU (eB Gu (by rfl) T.KJ KO (aa (pv 2) ae)) (a_ cf (pv 0) (pv 1) (λ_ _=>rfl)) (aR _)) (ai (aH (lu jk (hr.mono (by decide)) aD (aa (pv 2) (aa (pv 1) (aa (dY kZ (pv 1) aM) (aa (bK ae) (aa (aF T.gq) ae)))))))) bo))))
   (ai (lr xF fh (hr.mono (by decide)) rfl fi bF rfl kh (aa (aF T.CQ) (aa (pv 1) ae))))),?_⟩
 show ba _ _ _ [some (.ref a),some (.int i),none] H
 walk_at"l"
 with_reducible refine iD (uA (bT ?_))
 refine⟨_,rfl,⟨_,hT _⟩,sO (K:=K) (a:=A.nX) (xs:=LR.marks.map λc=>V.str (LR.strOf [c])) (λk σ U=>∃v:Option V,σ=[some (.ref a),some (.int i),v]∧U=H∧∀j m,j<k→LR.marks[j]?=some m→m≠c)
  ⟨none,rfl,rfl,λj n hj=>absurd hj (Nat.not_lt_zero _)⟩ (λk σ U _ _=>hT U) ?_ ?_⟩
 ·rintro k y σ U hy ⟨v,rfl,rfl,kG⟩
  obtain⟨m,hm,rfl⟩:∃m,LR.marks[k]?=some m∧y=V.str (LR.strOf [m]):=by
   rw[List.getElem?_map]at hy
   obtain⟨n,h1,h2⟩:=Option.map_eq_some_iff.mp hy
   exact⟨n,h1,h2.symm⟩
  have WM:m∈LR.marks:=List.mem_of_getElem? hm
  walk_at"l"
  refine⟨rfl,?_⟩
  walk_at"l"
  refine b9 ha (pE hc) ?_
  walk_at"l"
  rw[show(((LR.strOf [m]).cps.getD 0 0:Nat):Int)=(m.toNat:Int)from rfl]
  refine fm (λhe=>?_) λhe=>?_
  ·have he:=of_decide_eq_true he
   have:m=c:=UInt8.toNat_inj.mp (by omega)
   subst this
   rw[if_pos ((LR.nB m).mpr WM)]at h
   walk_at"l"
   refine⟨Nat.zero_le _,λq hq=>?_⟩
   walk_at"l"
   exact pH λfb t dx s3 ht=>h.2 (by simp) fb t ((au.bc hq).trans s3) ⟨dx,q,.ref A.bz,ht,g4 T _,λnb z=>by cases z⟩
  ·have he:¬_:=λz=>he (decide_eq_true z)
   walk_at"l"
   refine⟨rfl,λj n hj hn=>?_⟩
   by_cases uO:j=k
   ·subst uO
    rw[hm]at hn
    cases hn
    rintro rfl
    exact he rfl
   ·exact kG j n (by omega) hn
 ·rintro σ U ⟨v,rfl,rfl,kG⟩
  have nm:Ln.isMark c=false:=by
   rw[←Bool.not_eq_true,LR.nB]
   intro z
   obtain⟨j,hj,e⟩:=List.getElem_of_mem (show c∈LR.marks from z)
   exact kG j c (by rw[List.length_map];exact hj) (by rw[List.getElem?_eq_getElem hj,e]) rfl
  rw[nm,if_neg (by simp)]at h
  with_reducible refine gO ?_
  walk_at"l"
  exact gP (h.1 rfl) ax.nil
theorem WN(T:Txt K mg A)(D:aI K mg "token_from" Bk ["text","place"])(Dr:Callee P w K mg base ao 2 "blanks_end" ["text","place"] (nZ K LR.bR))(rB:Callee P w K mg base ao 1 "begins_name" ["byte"] (kz gX))(jE:Callee P w K mg base ao 1 "is_digit" ["byte"] (kz gJ))(Ds:Callee P w K mg base (aX P w) 4 "name_token" ["text","place"] (rC K A λb i=>isAt isLetter b i=true))(Dt:Callee P w K mg base (aX P w) 4 "number_token" ["text","place"] (rC K A λb i=>isAt isDigit b i=true))(Du:Callee P w K mg base (aX P w) 3 "mark_token" ["text","place"] (rC K A Lj))(jk:Maker P w K mg base ao 1 A.bG "Token" ["self","kind","place","end","row","value"] (pD A)):
  Callee P w K mg base (aX P w) 5 "token_from" ["text","place"] (K_ K A):=by
 refine D.eH JY (λ_=>rfl) λf ay Ar outer s H d Q E hr h=>?_
 obtain⟨a,b,i,no⟩:=d
 obtain⟨ha,hi,aZ,h⟩:=h
 dsimp only at*
 have hj:=LR.z8 hi
 have h:Dj K A no H Q E (LR.bR b i) (tokenIn (b.drop (LR.bR b i))):=h
 refine⟨_,(af (a9 (i:=2) JY.nd rfl (Or.inl rfl) (aT Dr (hr.mono (by decide)) aD (aa (pv 0) (aa (pv 1) ae))))
   (af (bb (aW bU (pv 2) (eB fK (by rfl) T.fO PySem.boot_len (aa (pv 0) ae)) (aR _)) (ai (aH (lu jk (hr.mono (by decide)) aD (aa (aF T.CZ) (aa (pv 2) (aa (pv 2) (aa (bK ae) (aa (aF T.gq) ae)))))))) bo)
   (af (bb (iu (aT rB (hr.mono (by decide)) aD (aa (a_ cf (pv 0) (pv 2) (λ_ _=>rfl)) ae))) (ai (aH (aT Ds (hr.mono (by decide)) bC (aa (pv 0) (aa (pv 2) ae))))) bo)
   (af (bb (iu (aT jE (hr.mono (by decide)) aD (aa (a_ cf (pv 0) (pv 2) (λ_ _=>rfl)) ae))) (ai (aH (aT Dt (hr.mono (by decide)) bC (aa (pv 0) (aa (pv 2) ae))))) bo)
   (ai (aH (aT Du (hr.mono (by decide)) bC (aa (pv 0) (aa (pv 2) ae))))))))),?_⟩
 show ba _ _ _ [some (.ref a),some (.int i),none] H
 walk_at"l"
 refine⟨(a,b,i),rfl,ha,hi,?_⟩
 dsimp only
 generalize LR.bR b i=j at hj h⊢
 walk_at"l"
 refine⟨a,_,rfl,.inl ha,?_⟩
 walk_at"l"
 rw[ig]
 refine fm (λhe=>?_) λhe=>?_
 ·have he:=of_decide_eq_true he
  rw[List.drop_eq_nil_of_le (by omega)]at h
  walk_at"l"
  refine⟨Nat.zero_le _,λq hq=>?_⟩
  walk_at"l"
  exact pH λfb t dx s3 ht=>h.2 (by simp[tokenIn]) fb t ((au.bc hq).trans s3) ⟨dx,q,.ref A.bz,ht,g4 T _,λnb z=>by cases z⟩
 ·have he:¬_:=λz=>he (decide_eq_true z)
  have bw:j<b.length:=by omega
  have hc:b[j]?=some b[j]:=List.getElem?_eq_getElem bw
  walk_at"l"
  refine b9 ha (pE hc) ?_
  walk_at"l"
  refine⟨_,rfl,?_⟩
  walk_at"l"
  rw[LR.Iz]
  cases hl:isLetter b[j]with
  |true=>
   rw[if_pos rfl]
   walk_at"l"
   exact⟨(a,b,j,no),rfl,ha,(LR.iP hc).trans hl,aZ,h⟩
  |false=>
   rw[if_neg (by simp)]
   walk_at"l"
   refine b9 ha (pE hc) ?_
   walk_at"l"
   refine⟨_,rfl,?_⟩
   walk_at"l"
   rw[LR.Iy]
   cases hd:isDigit b[j]with
   |true=>
    rw[if_pos rfl]
    walk_at"l"
    exact⟨(a,b,j,no),rfl,ha,(LR.iP hc).trans hd,aZ,h⟩
   |false=>
    rw[if_neg (by simp)]
    walk_at"l"
    exact⟨(a,b,j,no),rfl,ha,⟨bw,(LR.iP hc).trans hl,(LR.iP hc).trans hd⟩,aZ,h⟩
end
end LN
namespace LN
open PySem PySem.Spec PyProof.Rows L2 LX
open Ln (Bytes Lex isDigit isLetter tokenIn)
open LR (aO valOf nameOf aL bp rest bj bJ bL et)
def n6(K:PySem.W.Frag)(H:Hp)(a:Addr)(nb:Bytes):Prop:=∃C dx fs nm,H a=some (.ins C dx fs)∧gc K C∧iv K C "name"∧fs.lookup ("name":Str)=some (.ref nm)∧H nm=some (.lst (bA nb))
theorem n6.same{K:PySem.W.Frag}{H U:Hp}{a:Addr}{nb:Bytes}(h:n6 K H a nb)(s:au H U):n6 K U a nb:=let⟨C,dx,fs,nm,h1,h2,h3,h4,h5⟩:=h;⟨C,dx,fs,nm,s _ _ h1,h2,h3,h4,s _ _ h5⟩
def kH(names:List Bytes)(nb:Bytes):Int:=match names.idxOf? nb with
 |some i=>(i:Int)
 |none=> -1
def xX(K:PySem.W.Frag):Sp:=aU (λ(d:(Addr×Addr)×List Addr×List Bytes×Bytes)=>[.ref d.1.1,.ref d.1.2]) λd H Q _=>ah K H d.1.1 (d.2.1.map .ref)∧ah K H d.1.2 (bA d.2.2.2)∧Each (n6 K H) d.2.1 d.2.2.1∧∀U,au H U→Q (.int (kH d.2.2.1 d.2.2.2)) U
theorem WO{K:PySem.W.Frag}{ta:TA}{σ:L2.St}{H:Hp}{R:It→Hp→Prop}(k:ta σ H λvs H1=>∃a xs,vs=[.ref a]∧ah K H1 a xs∧R (qD K a) H1):HD K ta σ H R:=k
theorem WQ{K:PySem.W.Frag}{a:Addr}{xs:List V}{g:TG}{tb:TS}{D:Ends}{σ:L2.St}{H:Hp}(Pv:Nat→L2.St→Hp→Prop)(h0:Pv 0 σ H)(hl:∀i σ H,i≤xs.length→Pv i σ H→ah K H a xs)(hs:∀i x T σ H,xs[i]?=some x→Pv i σ H→H T=none→g (.ref T) σ (upd H T (.tup [.int (i:Nat),x])) λbr H2=>tb {D with nx:=Pv (i+1),ct:=Pv (i+1),bk:=D.nx} br H2)(hd:∀σ H,Pv xs.length σ H→D.nx σ H):
  ∃W:Nat→Nat→L2.St→Hp→Prop,(∃m,W 0 m σ H)∧∀i m σ H,W i m σ H→
   ((qD K a).stop i H∧D.nx σ H)∨((qD K a).go i H∧∃N:L2.St→Hp→Prop,(∀az U,N az U→∃m',m'<m∧W (i+1) m' az U)∧∀x U,(qD K a).iL i H x U→g x σ U λbr H2=>tb {D with nx:=N,ct:=N,bk:=D.nx} br H2):=by
 refine⟨λi m σ H=>m=xs.length-i∧i≤xs.length∧Pv i σ H,⟨xs.length,by simp,Nat.zero_le _,h0⟩,?_⟩
 rintro i m σ H ⟨rfl,hi,p⟩
 have q:=hl i σ H hi p
 by_cases bw:i<xs.length
 ·refine .inr ⟨⟨xs,xs[i],q,by simp[bw]⟩,Pv (i+1),λaz U p'=>⟨xs.length-(i+1),by omega,rfl,bw,p'⟩,λx U y=>?_⟩
  obtain⟨T,y',rfl,hT,rfl,hy⟩:=y
  exact hs i y' T σ H (hy xs q) p hT
 ·have e:i=xs.length:=by omega
  subst e
  exact .inl ⟨⟨xs,q,Nat.le_refl _⟩,hd σ H p⟩
theorem bytes_inj{a b:Bytes}:(a.map λc=>(c.toNat:Int))=(b.map λc=>(c.toNat:Int))↔a=b:=by
 constructor
 ·exactλh=>(List.map_inj_right λx y q=>UInt8.toNat_inj.mp (by omega)).mp h
 ·rintro rfl;rfl
theorem xY{K:PySem.W.Frag}{T:Addr}{x y:V}{g1 g2:TG}{σ:L2.St}{H:Hp}{Q:L2.St→Hp→Prop}(h:aY K H T [x,y])(k:g1 x σ H λaz U=>g2 y az U Q):y_ K 2 (oN g1 (oN g2 vR)) (.ref T) σ H Q:=by
 refine⟨T,[x,y],rfl,h,rfl,x,[y],rfl,?_⟩
 have mono:∀(P1 P2:L2.St→Hp→Prop),P1=P2→g1 x σ H P1→g1 x σ H P2:=λP1 P2 e q=>e▸q
 refine mono _ _ ?_ k
 funext az U
 apply propext
 constructor
 ·intro q
  refine⟨y,[],rfl,?_⟩
  have m2:∀(P1 P2:L2.St→Hp→Prop),P1=P2→g2 y az U P1→g2 y az U P2:=λP1 P2 e q=>e▸q
  refine m2 _ _ ?_ q
  funext Dv fb
  apply propext
  exact⟨λz=>⟨rfl,z⟩,λz=>z.2⟩
 ·rintro ⟨v,r,e,q⟩
  injection e with e1 e2
  subst e1 e2
  have m2:∀(P1 P2:L2.St→Hp→Prop),P1=P2→g2 y az U P1→g2 y az U P2:=λP1 P2 e q=>e▸q
  refine m2 _ _ ?_ q
  funext Dv fb
  apply propext
  exact⟨λz=>z.2,λz=>⟨rfl,z⟩⟩
section
variable{P:Program}{w:World}{K:PySem.W.Frag}{mg:Str→Option Value}{base:Heap}{A:Ad}
theorem WR(T:Txt K mg A)(D:aI K mg "place_of_name" A7 ["named","name"]):Callee P w K mg base ao 1 "place_of_name" ["named","name"] (xX K):=by
 refine D.ok Cm (λ_=>rfl) λf ay Ar outer s H d Q E hr h=>?_
 obtain⟨⟨l,nm⟩,as,names,nb⟩:=d
 obtain⟨hl,hn,he,h⟩:=h
 dsimp only at*
 refine⟨_,(af (hX PassesOwn.never rfl (PJ (by rfl) T.We (aa (pv 0) ae)) (sL rfl (jU (eA (i:=2) Cm.nd rfl (Or.inl rfl)) (jU (eA (i:=3) Cm.nd rfl (Or.inl rfl)) sJ))) (ai (bb (aW (tj hr.units) (aB (pv 3) rfl) (pv 1) (aR _)) (ai (aH (pv 2))) bo)))
   (ai (aH (kY k_ aM)))),?_⟩
 show ba _ _ _ [some (.ref l),some (.ref nm),none,none] H
 walk_at"l"
 with_reducible refine iD (WO ?_)
 walk_at"l"
 refine⟨l,_,rfl,hl,WQ (K:=K) (a:=l) (xs:=as.map .ref) (λk σ U=>∃v1 v2:Option V,σ=[some (.ref l),some (.ref nm),v1,v2]∧au H U∧∀j n,j<k→names[j]?=some n→n≠nb)
  ⟨none,none,rfl,au.refl _,λj n hj=>absurd hj (Nat.not_lt_zero _)⟩ (λk σ U _ ⟨_,_,_,s1,_⟩=>hl.same s1) ?_ ?_⟩
 ·rintro k y T' σ U hy ⟨v1,v2,rfl,s1,aZ⟩ lB
  obtain⟨a,ha,rfl⟩:∃a,as[k]?=some a∧y=V.ref a:=by
   rw[List.getElem?_map]at hy
   obtain⟨n,h1,h2⟩:=Option.map_eq_some_iff.mp hy
   exact⟨n,h1,h2.symm⟩
  have s2:=s1.trans (au.bc (o:=.tup [.int (k:Nat),.ref a]) lB)
  obtain⟨n,kI,l_⟩:=he.at' ha
  obtain⟨C,dx,fs,xZ,h1,h2,h3,h4,h5⟩:=l_.same s2
  refine xY (aY.of aw) ?_
  walk_at"l"
  refine eM h1 h2 h3 h4 ?_
  walk_at"l"
  refine KZ (ns:=n.map λc=>(c.toNat:Int)) (ms:=nb.map λc=>(c.toNat:Int)) (ah.of (by rw[←Di];exact h5)) (by rw[←Di];exact hn.same s2) ?_
  walk_at"l"
  rw[decide_eq_decide.mpr bytes_inj]
  refine fm (λhe=>?_) λhe=>?_
  ·have he:=of_decide_eq_true he
   subst he
   walk_at"l"
   have e:kH names n=(k:Int):=by
    unfold kH
    rw[show names.idxOf? n=some k from List.idxOf?_eq_some_iff.mpr ⟨(List.getElem?_eq_some_iff.mp kI).1,by rw[(List.getElem?_eq_some_iff.mp kI).2],λj hj=>?_⟩]
    have WS:j<names.length:=Nat.lt_trans hj (List.getElem?_eq_some_iff.mp kI).1
    have:=aZ j names[j] hj (List.getElem?_eq_getElem WS)
    simpa using this
   have q:=h _ s2
   rw[e]at q
   exact q
  ·have he:¬_:=λz=>he (decide_eq_true z)
   walk_at"l"
   refine⟨_,_,rfl,s2,λj m hj hm=>?_⟩
   by_cases uO:j=k
   ·subst uO
    rw[kI]at hm
    cases hm
    exact he
   ·exact aZ j m (by omega) hm
 ·rintro σ U ⟨v1,v2,rfl,s1,aZ⟩
  walk_at"l"
  have e:kH names nb= -1:=by
   unfold kH
   rw[show names.idxOf? nb=none from List.idxOf?_eq_none_iff.mpr λz=>?_]
   obtain⟨j,hj,q⟩:=List.getElem_of_mem z
   exact aZ j nb (by rw[List.length_map,he.1];exact hj) (by rw[List.getElem?_eq_getElem hj,q]) rfl
  show Q (.int (-1)) U
  rw[←e]
  exact h _ s1
end
end LN
namespace LN
open PySem PySem.Spec PyProof.Rows L2 LX
open Ln (Bytes Lex P andThen)
open LR (aO valOf nameOf aL bp rest bj bJ bL et)
theorem fc{H:Hp}{a C dx:Addr}{fs:List (Str×V)}{o:HO}(h:H a=some (.ins C dx fs)):ax [a] H (upd H a o):=
 ⟨λs hs=>⟨.ins C dx fs,(List.mem_singleton.mp hs)▸h,rfl⟩,λb u e n=>by rw[aG (λz=>n (by rw[z];exact List.mem_singleton.mpr rfl))];exact e⟩
theorem bO.less{A:Ad}{S:List Addr}{H H1:Hp}{E:XK}{e:Ln.Fault}(h:bO A S H E e)(k:ax S H H1):bO A [] H1 E e:=λU dx k' f=>h U dx (k.d6 k'.same) f
theorem lC{K:PySem.W.Frag}{A:Ad}{no:List Addr}{H:Hp}{t r dx:Addr}{x:Lex}{n:Nat}{a b c d:V}(ht:ji K A no H t x n)(hr:H r=some (.ins A.aj dx (cx a b c d))):∀s∈[r],Off no H t s:=λs hs=>by
 rw[List.mem_singleton.mp hs]
 obtain⟨bQ,fk,vl,h1,_⟩:=ht
 exact .inr ⟨fP h1 hr (by decide +kernel),_,_,_,hr⟩
def Tk(A:Ad)(d:RD)(H:Hp)(E:XK)(ks:List Str)(go:Prop):Prop:=
 ((aL d.b d.i).tok=.broken→bO A [d.r] H E (1,(aL d.b d.i).at_))∧((aL d.b d.i).tok≠.broken→if ks.contains (aO (aL d.b d.i).tok)=true then go else bO A [d.r] H E (2,(aL d.b d.i).at_))
theorem jm{α:Type}{A:Ad}{d:RD}{H H1:Hp}{E:XK}{ks:List Str}{f:Lex→P α}{Qo:α→List Lex→Prop}{go:Prop}(h:bj (andThen (bL ks) f) (rest d.b d.i) Qo (bO A [d.r] H E))(k:ax [d.r] H H1)(e1:ks.contains (Str.ofString "end")=false)(e2:ks.contains (Str.ofString "")=false)(kC:ks.contains (aO (aL d.b d.i).tok)=true→bj (f (aL d.b d.i)) (rest d.b (bp d.b d.i)) Qo (bO A [d.r] H E)→go):Tk A d H1 E ks go:=by
 rw[bJ,LR.ID]at h
 refine⟨λz=>(h.1 z).after k,λz=>?_⟩
 have q:=h.2 z
 split
 ·rename_i c
  rw[if_pos c,LR.IC (LR.IE c e1 e2)]at q
  exact kC c q
 ·rename_i c
  rw[if_neg c]at q
  exact q.after k
theorem Lk{α:Type}{A:Ad}{d:RD}{H H1:Hp}{E:XK}{ks:List Str}{f:Lex→P α}{Qo:α→List Lex→Prop}{go:Prop}(h:bj (andThen (et ks) f) (rest d.b d.i) Qo (bO A [d.r] H E))(k:ax [d.r] H H1)(kC:ks.contains (aO (aL d.b d.i).tok)=true→bj (f (aL d.b d.i)) (rest d.b d.i) Qo (bO A [d.r] H E)→go):Tk A d H1 E ks go:=by
 rw[bJ,LR.An]at h
 refine⟨λz=>(h.1 z).after k,λz=>?_⟩
 have q:=h.2 z
 split
 ·rename_i c
  rw[if_pos c]at q
  exact kC c q
 ·rename_i c
  rw[if_neg c]at q
  exact q.after k
def n8(K:PySem.W.Frag)(A:Ad):Sp:=aU (λ(d:RD)=>[.ref d.r]) λd H Q E=>dX K A H d∧Here H d.no∧
 ((aL d.b d.i).tok=.broken→bO A [d.r] H E (1,(aL d.b d.i).at_))∧((aL d.b d.i).tok≠.broken→∀U t,dX K A U d→ax [d.r] H U→ji K A d.no U t (aL d.b d.i) (bp d.b d.i)→Q (.ref t) U)
def Dx(K:PySem.W.Frag)(A:Ad):Sp:=aU (λ(d:RD×Addr×List Str)=>[.ref d.1.r,.ref d.2.1]) λd H Q E=>dX K A H d.1∧Here H d.1.no∧aY K H d.2.1 (d.2.2.map .str)∧
 Tk A d.1 H E d.2.2 (∀U t,dX K A U d.1→ax [d.1.r] H U→ji K A d.1.no U t (aL d.1.b d.1.i) (bp d.1.b d.1.i)→Q (.ref t) U)
def Ll(K:PySem.W.Frag)(A:Ad)(d:RD)(H:Hp)(Q:VK):Prop:=∀U t,dX K A U {d with i:=bp d.b d.i}→ax [d.r] H U→ji K A d.no U t (aL d.b d.i) (bp d.b d.i)→Q (.ref t) U
def uQ(K:PySem.W.Frag)(A:Ad):Sp:=aU (λ(d:RD×Addr×List Str)=>[.ref d.1.r,.ref d.2.1]) λd H Q E=>dX K A H d.1∧Here H d.1.no∧aY K H d.2.1 (d.2.2.map .str)∧Tk A d.1 H E d.2.2 (Ll K A d.1 H Q)
def kJ(K:PySem.W.Frag)(A:Ad):Sp:=aU (λ(d:RD×Str)=>[.ref d.1.r,.str d.2]) λd H Q E=>dX K A H d.1∧Here H d.1.no∧Tk A d.1 H E [d.2] (Ll K A d.1 H Q)
theorem WT(k:Str)(ks:List Str):lX (.str k) (ks.map V.str)=ks.contains k:=by
 unfold lX
 rw[List.any_map]
 induction ks with
 |nil=>rfl
 |cons a r ih=>
  rw[List.any_cons,List.contains_cons,ih]
  show((a==k)||_)=((k==a)||_)
  rw[show(a==k)=(k==a)from BEq.comm]
def Dy(A:Ad):Sp:=aU (λ(d:(Addr×Addr)×V×V)=>[.ref d.1.1,d.2.1,d.2.2]) λd H Q _=>H d.1.1=some (.ins A.aj d.1.2 [])∧Q .aJ (upd H d.1.1 (.ins A.aj d.1.2 (cx d.2.1 d.2.2 (.int 0) .aJ)))
section
variable{P:Program}{w:World}{K:PySem.W.Frag}{mg:Str→Option Value}{base:Heap}{A:Ad}
theorem WU(T:Txt K mg A)(D:gn K mg A.aj "Reader" "Reader.__init__" Bm ["self","text","system"]):Maker P w K mg base ao 1 A.aj "Reader" ["self","text","system"] (Dy A):=by
 refine D.ok Uq (λ_=>rfl) λf ay Ar outer s H d Q E hr h=>?_
 obtain⟨⟨x,dx⟩,v1,v2⟩:=d
 obtain⟨hx,h⟩:=h
 dsimp only at*
 refine⟨_,(af (bI (pv 0) (pv 1) rfl)
   (af (bI (pv 0) (pv 2) rfl)
   (af (bI (pv 0) aM rfl)
   (ai (bI (pv 0) lR rfl))))),?_⟩
 show ba _ _ _ [some (.ref x),some v1,some v2] H
 walk_at"l"
 refine Vi hx T.aj ?_
 walk_at"l"
 refine Vj aw T.aj ?_
 rw[eP]
 walk_at"l"
 refine Vm aw T.aj ?_
 rw[eP]
 walk_at"l"
 refine Vn aw T.aj ?_
 rw[eP]
 exact h
theorem WV(T:Txt K mg A)(D:bx K A.aj "ahead" "Reader.ahead" Bn ["self"])(Dz:Callee P w K mg base (aX P w) 5 "token_from" ["text","place"] (K_ K A)):
  aP P w K mg base (aX P w) 6 A.aj "ahead" ["self"] (n8 K A):=by
 refine D.eH Ur (λ_=>rfl) λf ay Ar outer s H d Q E hr h=>?_
 obtain⟨R,aZ,h1,h2⟩:=h
 obtain⟨dx,tk,hR,eK⟩:=R.ins
 refine⟨_,(af (bb (aW vZ (aB (pv 0) rfl) lR (aR _)) (ai (bI (pv 0) (aT Dz (hr.mono (by decide)) bC (aa (aB (pv 0) rfl) (aa (aB (pv 0) rfl) ae))) rfl)) bo)
   (ai (aH (aB (pv 0) rfl)))),?_⟩
 show ba _ _ _ [some (.ref d.r)] H
 walk_at"l"
 refine CL hR T.aj ?_
 walk_at"l"
 refine⟨rfl,?_⟩
 walk_at"l"
 rcases eK with rfl|⟨t,rfl,hb,ht⟩
 ·rw[if_pos (by simp)]
  walk_at"l"
  refine Vh hR T.aj ?_
  walk_at"l"
  refine Vk hR T.aj ?_
  walk_at"l"
  refine⟨(d.tx,d.b,d.i,d.no),rfl,R.txt,R.le,aZ,λz=>(h1 z).less (ax.refl R.mu),λz U t s1 ht=>?_⟩
  have eF:=s1 _ _ hR
  walk_at"l"
  refine Kh eF T.aj ?_
  walk_at"l"
  refine CL aw T.aj ?_
  have k1:ax [d.r] U (upd U d.r (.ins A.aj dx (cx (.ref d.tx) (.ref d.sy) (.int d.i) (.ref t)))):=fc eF
  refine h2 z _ t ⟨⟨dx,_,aw,.inr ⟨t,rfl,z,ht.keep k1 (lC ht eF)⟩⟩,ah.off (R.txt.same s1) k1 λs hs=>.inl (by rw[List.mem_singleton.mp hs];exact⟨_,_,_,eF⟩),R.le⟩ (s1.uz k1 R.mu) (ht.keep k1 (lC ht eF))
 ·rw[if_neg (by simp)]
  walk_at"l"
  refine CL hR T.aj ?_
  exact h2 hb H t R (ax.refl R.mu) ht
theorem WW(T:Txt K mg A)(GF:jj P w K mg base A)(D:bx K A.aj "ahead_among" "Reader.ahead_among" Bo ["self","kinds"])(fQ:aP P w K mg base (aX P w) 6 A.aj "ahead" ["self"] (n8 K A)):
  aP P w K mg base (aX P w) 7 A.aj "ahead_among" ["self","kinds"] (Dx K A):=by
 obtain⟨fI,kD,xF,fh,fi,bF⟩:=GF
 refine D.eH JZ (λ_=>rfl) λf ay Ar outer s H d Q E hr h=>?_
 obtain⟨d,ks,kl⟩:=d
 obtain⟨R,aZ,uR,h1,h2⟩:=h
 dsimp only at*
 obtain⟨dx,tk,hR,eK⟩:=R.ins
 refine⟨_,(af (a9 (i:=2) JZ.nd rfl (Or.inl rfl) (d_ (pv 0) T.aj.cl fQ (hr.mono (by decide)) bC))
   (af (bb (aW OS (aB (pv 2) rfl) (pv 1) (by with_unfolding_all rfl)) (ai (lr xF fh (hr.mono (by decide)) rfl fi bF rfl kh (aa (aF T.VD) (aa (aB (pv 2) rfl) ae)))) bo)
   (ai (aH (pv 2))))),?_⟩
 show ba _ _ _ [some (.ref d.r),some (.ref ks),none] H
 walk_at"l"
 refine aV hR (pw _ _ _ _) ?_
 walk_at"l"
 refine⟨d,rfl,R,aZ,h1,λz U t R' k' ht=>?_⟩
 walk_at"l"
 obtain⟨bQ,fk,vl,mq,_⟩:=id ht
 refine ku mq T.bG ?_
 walk_at"l"
 refine⟨_,_,rfl,.inr (uR.keep k'),rfl,?_,?_⟩
 ·rw[List.all_map]
  exact List.all_eq_true.mpr λ_ _=>rfl
 rw[if_pos rfl,WT]
 walk_at"l"
 have q:=h2 z
 cases hc:kl.contains (aO (aL d.b d.i).tok)with
 |true=>
  rw[if_pos hc]at q
  rw[if_neg (by simp)]
  walk_at"l"
  exact q U t R' k' ht
 |false=>
  rw[if_neg (by rw[hc];simp)]at q
  rw[if_pos (by simp)]
  with_reducible refine gO ?_
  walk_at"l"
  refine pq mq T.bG ?_
  walk_at"l"
  exact gP q k'
theorem WX(T:Txt K mg A)(D:bx K A.aj "take_among" "Reader.take_among" Bp ["self","kinds"])(rF:aP P w K mg base (aX P w) 7 A.aj "ahead_among" ["self","kinds"] (Dx K A)):
  aP P w K mg base (aX P w) 8 A.aj "take_among" ["self","kinds"] (uQ K A):=by
 refine D.eH J0 (λ_=>rfl) λf ay Ar outer s H d Q E hr h=>?_
 obtain⟨d,ks,kl⟩:=d
 obtain⟨R,aZ,uR,h1,h2⟩:=h
 dsimp only at*
 obtain⟨dx,tk,hR,eK⟩:=R.ins
 refine⟨_,(af (a9 (i:=2) J0.nd rfl (Or.inl rfl) (bD (pv 0) T.aj.cl rF (hr.mono (by decide)) bC (aa (pv 1) ae)))
   (af (bI (pv 0) lR rfl)
   (af (bI (pv 0) (aB (pv 2) rfl) rfl)
   (ai (aH (pv 2)))))),?_⟩
 show ba _ _ _ [some (.ref d.r),some (.ref ks),none] H
 walk_at"l"
 refine aV hR (Ki _ _ _ _) ?_
 walk_at"l"
 refine⟨(d,ks,kl),rfl,R,aZ,uR,h1,λz=>?_⟩
 have q:=h2 z
 dsimp only
 split
 ·rename_i c
  rw[if_pos c]at q
  intro U t R' k' ht
  obtain⟨bQ,ke,mr,_⟩:=R'.ins
  walk_at"l"
  refine Kh mr T.aj ?_
  walk_at"l"
  have k1:ax [d.r] U (upd U d.r (.ins A.aj bQ (cx (.ref d.tx) (.ref d.sy) (.int d.i) .aJ))):=fc mr
  have mq:=ht.keep k1 (lC ht mr)
  obtain⟨iW,fk,vl,eO,_⟩:=id mq
  refine Vd eO T.bG ?_
  walk_at"l"
  refine Vl aw T.aj ?_
  walk_at"l"
  rw[eP]
  have k2:ax [d.r] U (upd U d.r (.ins A.aj bQ (cx (.ref d.tx) (.ref d.sy) (.int (bp d.b d.i)) .aJ))):=fc mr
  exact q _ t ⟨⟨bQ,_,aw,.inl rfl⟩,ah.off R'.txt k2 λs hs=>.inl (by rw[List.mem_singleton.mp hs];exact⟨_,_,_,mr⟩),LR.QP R.le z⟩ (k'.trans k2) (ht.keep k2 (lC ht mr))
 ·rename_i c
  rw[if_neg c]at q
  exact q
theorem WY(T:Txt K mg A)(D:bx K A.aj "take" "Reader.take" Bq ["self","kind"])(jF:aP P w K mg base (aX P w) 8 A.aj "take_among" ["self","kinds"] (uQ K A)):
  aP P w K mg base (aX P w) 9 A.aj "take" ["self","kind"] (kJ K A):=by
 refine D.eH Us (λ_=>rfl) λf ay Ar outer s H d Q E hr h=>?_
 obtain⟨d,k⟩:=d
 obtain⟨R,aZ,h1,h2⟩:=h
 dsimp only at*
 obtain⟨dx,tk,hR,eK⟩:=R.ins
 refine⟨_,(ai (aH (bD (pv 0) T.aj.cl jF (hr.mono (by decide)) bC (aa (gR (aa (pv 1) ae)) ae)))),?_⟩
 show eZ _ _ [some (.ref d.r),some (.str k)] H
 walk_at"l"
 refine aV hR (xN _ _ _ _) ?_
 walk_at"l"
 refine⟨by show 1≤sizeLine;decide,λp hp=>?_⟩
 walk_at"l"
 have s1:=au.bc (o:=.tup [.str k]) hp
 have k1:ax [d.r] H (upd H p (.tup [.str k])):=s1.keep R.mu
 have R1:dX K A (upd H p (.tup [.str k])) d:=by
  refine⟨⟨dx,tk,s1 _ _ hR,eK.imp id λ⟨t,e,z,ht⟩=>⟨t,e,z,ht.keep s1.eV λb hb=>absurd hb (by simp)⟩⟩,R.txt.same s1,R.le⟩
 refine⟨(d,p,[k]),rfl,R1,aZ.same s1,aY.of aw,λz=>(h1 z).after k1,λz=>?_⟩
 have q:=h2 z
 dsimp only
 split
 ·rename_i c
  rw[if_pos c]at q
  exactλU t R' k' ht=>q U t R' (k1.trans k') ht
 ·rename_i c
  rw[if_neg c]at q
  exact q.after k1
end
end LN
namespace LN
open PySem PySem.Spec PyProof.Rows L2 LX
open Ln (Bytes Lex P andThen done need peek number value)
open LR (aO valOf nameOf aL bp rest bj bJ gH bL et)
theorem x4{α:Type}{A:Ad}{d:RD}{H H1:Hp}{E:XK}{f:Lex→P α}{Qo:α→List Lex→Prop}(h:bj (andThen peek f) (rest d.b d.i) Qo (bO A [d.r] H E))(k:ax [d.r] H H1):
  ((aL d.b d.i).tok=.broken→bO A [d.r] H1 E (1,(aL d.b d.i).at_))∧((aL d.b d.i).tok≠.broken→bj (f (aL d.b d.i)) (rest d.b d.i) Qo (bO A [d.r] H E)):=by
 rw[bJ,LR.wH]at h
 exact⟨λz=>(h.1 z).after k,h.2⟩
theorem Here.rd{K:PySem.W.Frag}{A:Ad}{no:List Addr}{H U:Hp}{d:RD}(h:Here H no)(R:dX K A U d)(k:ax [d.r] H U):Here U no:=h.keep k R.here
def iX{α:Type}(K:PySem.W.Frag)(A:Ad)(p:P α)(Res:RD→Hp→V→α→Prop):Sp:=aU (λ(d:RD)=>[.ref d.r]) λd H Q E=>dX K A H d∧Here H d.no∧bj p (rest d.b d.i) (Dd K A d [d.r] H Q (Res d)) (bO A [d.r] H E)
abbrev iY(K:PySem.W.Frag):RD→Hp→V→Rat→Prop:=λ_ H v q=>bh K H v q
def x5(K:PySem.W.Frag)(A:Ad):Sp:=aU (λ(d:(RD×Bool)×Addr×List Str)=>[.ref d.1.1.r,.bl d.1.2,.ref d.2.1]) λd H Q E=>dX K A H d.1.1∧Here H d.1.1.no∧aY K H d.2.1 (d.2.2.map .str)∧
 Tk A d.1.1 H E d.2.2 (if d.1.2=true then∀U,dX K A U d.1.1→ax [d.1.1.r] H U→Q .aJ U else bO A [d.1.1.r] H E (6,(aL d.1.1.b d.1.1.i).at_))
theorem iZ{K:PySem.W.Frag}{A:Ad}{H U:Hp}{d:RD}(R:dX K A H d)(s1:au H U):dX K A U d:=by
 obtain⟨dx,tk,hR,eK⟩:=R.ins
 exact⟨⟨dx,tk,s1 _ _ hR,eK.imp id λ⟨t,e,z,ht⟩=>⟨t,e,z,ht.keep s1.eV λb hb=>absurd hb (by simp)⟩⟩,R.txt.same s1,R.le⟩
theorem WZ{t:Ln.Tok}(h:LR.h_ t)(c:([Str.ofString "whole",Str.ofString "pointed"]:List Str).contains (aO t)=true):(∃n k,t=.num n k false)∨∃n k,t=.num n k true:=by
 rw[List.contains_cons,Bool.or_eq_true,LR.fM,decide_eq_true_eq,beq_iff_eq]at c
 rcases c with c|c
 ·exact .inl (LR.Af h c)
 ·exact .inr (LR.P5 h c)
section
variable{P:Program}{w:World}{K:PySem.W.Frag}{mg:Str→Option Value}{base:Heap}{A:Ad}
theorem W0(T:Txt K mg A)(GF:jj P w K mg base A)(D:bx K A.aj "judge" "Reader.judge" Bv ["self","stands","kinds"])(rF:aP P w K mg base (aX P w) 7 A.aj "ahead_among" ["self","kinds"] (Dx K A)):
  aP P w K mg base (aX P w) 8 A.aj "judge" ["self","stands","kinds"] (x5 K A):=by
 obtain⟨fI,kD,xF,fh,fi,bF⟩:=GF
 refine D.eH J7 (λ_=>rfl) λf ay Ar outer s H d Q E hr h=>?_
 obtain⟨⟨d,st⟩,ks,kl⟩:=d
 obtain⟨R,aZ,uR,h1,h2⟩:=h
 dsimp only at*
 obtain⟨dx,tk,hR,eK⟩:=R.ins
 refine⟨_,(af (a9 (i:=3) J7.nd rfl (Or.inl rfl) (bD (pv 0) T.aj.cl rF (hr.mono (by decide)) bC (aa (pv 2) ae)))
   (ai (bb (y8 (iu (pv 1))) (ai (lr xF fh (hr.mono (by decide)) rfl fi bF rfl kh (aa (aF T.Ks) (aa (aB (pv 3) rfl) ae)))) bo))),?_⟩
 show ba _ _ _ [some (.ref d.r),some (.bl st),some (.ref ks),none] H
 walk_at"l"
 refine aV hR (Ki _ _ _ _) ?_
 walk_at"l"
 refine⟨(d,ks,kl),rfl,R,aZ,uR,h1,λz=>?_⟩
 have q:=h2 z
 dsimp only
 split
 ·rename_i c
  rw[if_pos c]at q
  intro U t R' k' ht
  walk_at"l"
  cases st with
  |true=>
   rw[if_pos rfl]at q
   rw[if_neg (by simp)]
   walk_at"l"
   exact q U R' k'
  |false=>
   rw[if_neg (by simp)]at q
   rw[if_pos (by simp)]
   with_reducible refine gO ?_
   obtain⟨bQ,fk,vl,mq,_⟩:=id ht
   walk_at"l"
   refine pq mq T.bG ?_
   walk_at"l"
   exact gP q k'
 ·rename_i c
  rw[if_neg c]at q
  exact q
theorem W2(T:Txt K mg A)(GF:jj P w K mg base A)(D:bx K A.aj "take_number" "Reader.take_number" Bt ["self"])(fQ:aP P w K mg base (aX P w) 6 A.aj "ahead" ["self"] (n8 K A))(jF:aP P w K mg base (aX P w) 8 A.aj "take_among" ["self","kinds"] (uQ K A))(dH:aP P w K mg base (aX P w) 9 A.aj "take" ["self","kind"] (kJ K A))(gM:Callee P w K mg base ao 2 "quotient" ["upper","lower"] (pz K)):
  aP P w K mg base (aX P w) 10 A.aj "take_number" ["self"] (iX K A number (iY K)):=by
 obtain⟨fI,kD,xF,fh,fi,bF⟩:=GF
 refine D.eH Cq (λ_=>rfl) λf ay Ar outer s H d Q E hr h=>?_
 obtain⟨R,aZ,h⟩:=h
 rw[LR.gI (LR.Qa (LR.gW d.b d.i))]at h
 unfold LR.Ag at h
 obtain⟨dx,tk,hR,eK⟩:=R.ins
 refine⟨_,(af (a9 (i:=1) Cq.nd rfl (Or.inl rfl) (bD (pv 0) T.aj.cl jF (hr.mono (by decide)) bC (aa (gR (aa (aF T.CW) (aa (aF T.CY) ae))) ae)))
   (af (bb (PW.pt (kW (aW bU (aB (pv 1) rfl) (aF T.CY) (aR _)) (mU (aW lg (aB (d_ (pv 0) T.aj.cl fQ (hr.mono (by decide)) bC) rfl) bS (aR _))))) (ai (aH (aB (pv 1) rfl))) bo)
   (af (bq (bD (pv 0) T.aj.cl dH (hr.mono (by decide)) bC (aa bS ae)))
   (af (a9 (i:=2) Cq.nd rfl (Or.inl rfl) (bD (pv 0) T.aj.cl dH (hr.mono (by decide)) bC (aa (aF T.CW) ae)))
   (af (bb (aW (tj hr.units) (aB (pv 2) rfl) (aF T.gq) (aR _)) (ai (lr xF fh (hr.mono (by decide)) rfl fi bF rfl kh (aa (aF T.Ks) (aa (aB (pv 2) rfl) ae)))) bo)
   (ai (aH (aT gM (hr.mono (by decide)) aD (aa (a_ dM (aB (pv 1) rfl) aM (λ_ _=>rfl)) (aa (a_ dM (aB (pv 2) rfl) aM (λ_ _=>rfl)) ae)))))))))),?_⟩
 show ba _ _ _ [some (.ref d.r),none,none] H
 walk_at"l"
 refine aV hR (xN _ _ _ _) ?_
 walk_at"l"
 refine⟨by show 2≤sizeLine;decide,λp hp=>?_⟩
 walk_at"l"
 have s1:=au.bc (o:=.tup [.str "whole",.str "pointed"]) hp
 have k1:ax [d.r] H (upd H p (.tup [.str "whole",.str "pointed"])):=s1.keep R.mu
 refine⟨(d,p,[Str.ofString "whole",Str.ofString "pointed"]),rfl,iZ R s1,aZ.same s1,aY.of aw,?_⟩
 dsimp only
 refine jm h k1 (by decide +kernel) (by decide +kernel) λc h=>?_
 intro U t R' k' ht
 have k2:=k1.trans k'
 obtain⟨bQ,ke,mr,_⟩:=R'.ins
 obtain⟨lD,fk,vl,eO,DA,_⟩:=id ht
 walk_at"l"
 refine ku eO T.bG ?_
 walk_at"l"
 rcases WZ (LR.nA d.b d.i) c with⟨n,k,hk⟩|⟨n,k,hk⟩
 ·rw[hk]at h DA⊢
  have n1:¬(aO (.num n k false)=Str.ofString "pointed"):=by show¬(Str.ofString "whole"=Str.ofString "pointed");decide +kernel
  rw[if_neg n1]at h
  rw[if_neg (by rw[decide_eq_true_eq];exact n1)]
  walk_at"l"
  refine aV mr (pw _ _ _ _) ?_
  walk_at"l"
  have q:=x4 (d:={d with i:=bp d.b d.i}) h k2
  refine⟨{d with i:=bp d.b d.i},rfl,R',aZ.rd R' k2,q.1,λz H2 t2 R2 k3 mw=>?_⟩
  have h:=q.2 z
  have k4:=k2.trans k3
  obtain⟨iW,Lm,Lo,og,_⟩:=id mw
  have pI:=(ht.keep k3 (lC ht mr))
  obtain⟨W3,W4,Lp,W5,Lq,_⟩:=id pI
  rw[hk]at Lq
  walk_at"l"
  refine ku og T.bG ?_
  walk_at"l"
  by_cases hs:aO (aL d.b (bp d.b d.i)).tok=LR.o4
  ·rw[if_pos hs]at h
   rw[show(!decide (aO (aL d.b (bp d.b d.i)).tok=Str.ofString "/"))=false by rw[decide_eq_true (show aO (aL d.b (bp d.b d.i)).tok=Str.ofString "/" by rw[hs];decide +kernel)];rfl,if_neg (by simp)]
   obtain⟨ij,tkr,DB,_⟩:=R2.ins
   walk_at"l"
   refine aV DB (ib _ _ _ _) ?_
   walk_at"l"
   refine⟨({d with i:=bp d.b d.i},LR.o4),by rw[show LR.o4=Str.ofString "/" by decide +kernel];rfl,R2,aZ.rd R2 k4,?_⟩
   dsimp only
   refine jm (d:={d with i:=bp d.b d.i}) h k4 (by decide +kernel) (by decide +kernel) λc3 h=>?_
   intro H3 t3 R3 k5 uS
   have k6:=k4.trans k5
   obtain⟨lE,oh,fR,_⟩:=R3.ins
   walk_at"l"
   refine aV fR (ib _ _ _ _) ?_
   walk_at"l"
   refine⟨({d with i:=bp d.b (bp d.b d.i)},Str.ofString "whole"),rfl,R3,aZ.rd R3 k6,?_⟩
   dsimp only
   refine jm (d:={d with i:=bp d.b (bp d.b d.i)}) h k6 (by decide +kernel) (by decide +kernel) λc4 h=>?_
   intro H4 t4 R4 k7 oj
   have k8:=k6.trans k7
   dsimp only at h c4
   rw[LR.fM,decide_eq_true_eq]at c4
   obtain⟨m,j,hm⟩:=LR.Af (LR.nA _ _) c4
   obtain⟨Lr,rw4,vl4,DC,x6,_⟩:=id oj
   dsimp only at x6
   rw[hm]at h x6
   have om:=(pI.keep k5 (lC pI DB)).keep k7 (lC (pI.keep k5 (lC pI DB)) fR)
   obtain⟨x8,rw5,vl5,W6,Ls,_⟩:=id om
   rw[hk]at Ls
   walk_at"l"
   refine uH DC T.bG ?_
   walk_at"l"
   refine Dg x6 (g4 T _) ?_
   walk_at"l"
   rw[bJ,gH]at h
   have vm:valOf (.num m j false)=((m:Nat):Rat):=rfl
   have vn:valOf (.num n k false)=((n:Nat):Rat):=rfl
   refine fm (λh0=>?_) λh0=>?_
   ·have h0:=of_decide_eq_true h0
    rw[if_neg (by rw[h0];simp)]at h
    with_reducible refine gO ?_
    walk_at"l"
    refine pq DC T.bG ?_
    walk_at"l"
    exact gP h k8
   ·have h0:¬_:=λz=>h0 (decide_eq_true z)
    rw[if_pos (bne_iff_ne.mpr h0)]at h
    walk_at"l"
    refine uH W6 T.bG ?_
    obtain⟨tu,rfl,hu⟩:=Ls
    obtain⟨tl,rfl,hl⟩:=x6
    rw[vn]at hu
    rw[vm]at hl h0
    walk_at"l"
    refine dB hu rfl ?_
    walk_at"l"
    refine uH DC T.bG ?_
    walk_at"l"
    refine dB hl rfl ?_
    walk_at"l"
    have DD:m≠0:=λz=>h0 (by rw[z];rfl)
    have hb:m<10^18:=by
     have:=LR.Qg d.b (bp d.b (bp d.b d.i))
     rw[hm]at this
     exact this.1
    refine⟨((n:Int),m),rfl,DD,Nat.lt_trans hb (Nat.lt_of_lt_of_le (show 10^18<2^60 by decide) (Nat.pow_le_pow_right (by decide) (by decide))),λH5 v s5 hv=>?_⟩
    refine h H5 v _ rfl (iZ R4 s5) (k8.d6 s5) ?_
    rw[vn,vm]
    exact hv
  ·rw[if_neg hs]at h
   rw[show(!decide (aO (aL d.b (bp d.b d.i)).tok=Str.ofString "/"))=true by rw[decide_eq_false (show¬aO (aL d.b (bp d.b d.i)).tok=Str.ofString "/" fromλz=>hs (by rw[z];decide +kernel))];rfl,if_pos rfl]
   walk_at"l"
   refine uH W5 T.bG ?_
   exact h H2 Lp _ rfl R2 k4 Lq
 ·rw[hk]at h DA⊢
  rw[if_pos (show aO (.num n k true)=Str.ofString "pointed" from rfl)]at h
  rw[if_pos (by rw[decide_eq_true_eq];rfl),if_pos rfl]
  walk_at"l"
  refine uH eO T.bG ?_
  exact h U vl _ rfl R' k2 DA
end
end LN
namespace LN
open PySem PySem.Spec PyProof.Rows L2 LX
open Ln (Bytes Lex P andThen done need peek number value curveIn)
open LR (aO valOf nameOf aL bp rest bj bJ gH bL et)
theorem W7{t:Ln.Tok}{a b:Str}(e:a=b):decide (aO t=a)=decide (aO t=b):=by rw[e]
section
variable{P:Program}{w:World}{K:PySem.W.Frag}{mg:Str→Option Value}{base:Heap}{A:Ad}
theorem W8(T:Txt K mg A)(D:bx K A.aj "take_value" "Reader.take_value" Bu ["self"])(fQ:aP P w K mg base (aX P w) 6 A.aj "ahead" ["self"] (n8 K A))(dH:aP P w K mg base (aX P w) 9 A.aj "take" ["self","kind"] (kJ K A))(jn:aP P w K mg base (aX P w) 10 A.aj "take_number" ["self"] (iX K A number (iY K)))(rG:Callee P w K mg base ao 1 "negative" ["rational"] (C4 K)):
  aP P w K mg base (aX P w) 11 A.aj "take_value" ["self"] (iX K A value (iY K)):=by
 refine D.eH Ut (λ_=>rfl) λf ay Ar outer s H d Q E hr h=>?_
 obtain⟨R,aZ,h⟩:=h
 unfold Ln.value at h
 rw[LR.gI (LR.HY (c:=45) (by decide) _ _ (LR.gW d.b d.i))]at h
 obtain⟨dx,tk,hR,eK⟩:=R.ins
 refine⟨_,(af (bb (aW bU (aB (d_ (pv 0) T.aj.cl fQ (hr.mono (by decide)) bC) rfl) bS (aR _)) (af (bq (bD (pv 0) T.aj.cl dH (hr.mono (by decide)) bC (aa bS ae)))
   (ai (aH (aT rG (hr.mono (by decide)) aD (aa (d_ (pv 0) T.aj.cl jn (hr.mono (by decide)) bC) ae))))) bo)
   (ai (aH (d_ (pv 0) T.aj.cl jn (hr.mono (by decide)) bC)))),?_⟩
 show ba _ _ _ [some (.ref d.r)] H
 walk_at"l"
 refine aV hR (pw _ _ _ _) ?_
 walk_at"l"
 have q:=x4 h (ax.refl R.mu)
 refine⟨d,rfl,R,aZ,q.1,λz H1 t R1 k1 ht=>?_⟩
 have h:=q.2 z
 obtain⟨lD,jG,mx,eO,_⟩:=id ht
 obtain⟨oo,rH,eF,_⟩:=R1.ins
 walk_at"l"
 refine ku eO T.bG ?_
 walk_at"l"
 have es:Str.ofString "-"=LR.strOf [45]:=by decide +kernel
 rw[W7 es]
 by_cases hm:aO (aL d.b d.i).tok=LR.strOf [45]
 ·rw[if_pos hm]at h
  rw[if_pos (decide_eq_true hm)]
  walk_at"l"
  refine aV eF (ib _ _ _ _) ?_
  walk_at"l"
  refine⟨(d,LR.strOf [45]),by rw[←es];rfl,R1,aZ.rd R1 k1,?_⟩
  dsimp only
  refine jm h k1 (by decide +kernel) (by decide +kernel) λc h=>?_
  intro H2 t2 R2 k2 mw
  have k3:=k1.trans k2
  obtain⟨iW,my,fS,_⟩:=R2.ins
  walk_at"l"
  refine aV fS (uI _ _ _ _) ?_
  walk_at"l"
  rw[bJ]at h
  refine⟨{d with i:=bp d.b d.i},rfl,R2,aZ.rd R2 k3,h.mono (λq l h' H3 v j hl R3 k4 hv=>?_) λe h'=>h'.after k3⟩
  walk_at"l"
  refine⟨(v,q),rfl,hv,λH4 v' s4 m6=>?_⟩
  exact h' H4 v' j hl (iZ R3 s4) ((k3.trans k4).d6 s4) m6
 ·rw[if_neg hm]at h
  rw[if_neg (by rw[decide_eq_true_eq];exact hm)]
  walk_at"l"
  refine aV eF (uI _ _ _ _) ?_
  walk_at"l"
  exact⟨d,rfl,R1,aZ.rd R1 k1,h.mono (λq l h' H3 v j hl R3 k4 hv=>h' H3 v j hl R3 (k1.trans k4) hv) λe h'=>h'.after k1⟩
theorem W9(T:Txt K mg A)(D:bx K A.aj "take_conic" "Reader.take_conic" BA ["self"])(fQ:aP P w K mg base (aX P w) 6 A.aj "ahead" ["self"] (n8 K A))(dH:aP P w K mg base (aX P w) 9 A.aj "take" ["self","kind"] (kJ K A))(rJ:aP P w K mg base (aX P w) 11 A.aj "take_value" ["self"] (iX K A value (iY K))):
  aP P w K mg base (aX P w) 12 A.aj "take_conic" ["self"] (iX K A LR.t6 (iY K)):=by
 refine D.eH Uw (λ_=>rfl) λf ay Ar outer s H d Q E hr h=>?_
 obtain⟨R,aZ,h⟩:=h
 unfold LR.t6 at h
 rw[LR.gI (LR.tT (w:="conic") (by decide) _ _ (LR.gW d.b d.i))]at h
 obtain⟨dx,tk,hR,eK⟩:=R.ins
 refine⟨_,(af (bb (aW lg (aB (d_ (pv 0) T.aj.cl fQ (hr.mono (by decide)) bC) rfl) bS (aR _)) (ai (aH (aF T.gq))) bo)
   (af (bq (bD (pv 0) T.aj.cl dH (hr.mono (by decide)) bC (aa bS ae)))
   (ai (aH (d_ (pv 0) T.aj.cl rJ (hr.mono (by decide)) bC))))),?_⟩
 show ba _ _ _ [some (.ref d.r)] H
 walk_at"l"
 refine aV hR (pw _ _ _ _) ?_
 walk_at"l"
 have q:=x4 h (ax.refl R.mu)
 refine⟨d,rfl,R,aZ,q.1,λz H1 t R1 k1 ht=>?_⟩
 have h:=q.2 z
 obtain⟨lD,jG,mx,eO,_⟩:=id ht
 obtain⟨oo,rH,eF,_⟩:=R1.ins
 walk_at"l"
 refine ku eO T.bG ?_
 walk_at"l"
 by_cases hm:aO (aL d.b d.i).tok=Str.ofString "conic"
 ·rw[if_pos hm]at h
  rw[decide_eq_true hm,if_neg (by simp)]
  walk_at"l"
  refine aV eF (ib _ _ _ _) ?_
  walk_at"l"
  refine⟨(d,Str.ofString "conic"),rfl,R1,aZ.rd R1 k1,?_⟩
  dsimp only
  refine jm h k1 (by decide +kernel) (by decide +kernel) λc h=>?_
  intro H2 t2 R2 k2 mw
  have k3:=k1.trans k2
  obtain⟨iW,my,fS,_⟩:=R2.ins
  walk_at"l"
  refine aV fS (Kl _ _ _ _) ?_
  walk_at"l"
  exact⟨{d with i:=bp d.b d.i},rfl,R2,aZ.rd R2 k3,h.mono (λq l h' H3 v j hl R3 k4 hv=>h' H3 v j hl R3 (k3.trans k4) hv) λe h'=>h'.after k3⟩
 ·rw[if_neg hm]at h
  rw[decide_eq_false hm,if_pos (by simp)]
  walk_at"l"
  exact h H1 _ d.i rfl R1 k1 (g4 T _)
theorem W_(T:Txt K mg A)(D:bx K A.aj "take_reach" "Reader.take_reach" BB ["self"])(fQ:aP P w K mg base (aX P w) 6 A.aj "ahead" ["self"] (n8 K A))(dH:aP P w K mg base (aX P w) 9 A.aj "take" ["self","kind"] (kJ K A))(jn:aP P w K mg base (aX P w) 10 A.aj "take_number" ["self"] (iX K A number (iY K)))(mz:aP P w K mg base (aX P w) 8 A.aj "judge" ["self","stands","kinds"] (x5 K A)):
  aP P w K mg base (aX P w) 11 A.aj "take_reach" ["self"] (iX K A LR.t8 (iY K)):=by
 refine D.eH J8 (λ_=>rfl) λf ay Ar outer s H d Q E hr h=>?_
 obtain⟨R,aZ,h⟩:=h
 unfold LR.t8 at h
 rw[LR.gI (LR.tT (w:="clear") (by decide) _ _ (LR.gW d.b d.i))]at h
 obtain⟨dx,tk,hR,eK⟩:=R.ins
 refine⟨_,(af (bb (aW lg (aB (d_ (pv 0) T.aj.cl fQ (hr.mono (by decide)) bC) rfl) bS (aR _)) (ai (aH (aF T.gq))) bo)
   (af (bq (bD (pv 0) T.aj.cl dH (hr.mono (by decide)) bC (aa bS ae)))
   (af (a9 (i:=1) J8.nd rfl (Or.inl rfl) (d_ (pv 0) T.aj.cl jn (hr.mono (by decide)) bC))
   (af (bq (bD (pv 0) T.aj.cl mz (hr.mono (by decide)) bC (aa (jt (zL hr.units) (pv 1) (aF T.gq) (aR _)) (aa (gR (aa bS ae)) ae))))
   (ai (aH (pv 1))))))),?_⟩
 show ba _ _ _ [some (.ref d.r),none] H
 walk_at"l"
 refine aV hR (pw _ _ _ _) ?_
 walk_at"l"
 have q:=x4 h (ax.refl R.mu)
 refine⟨d,rfl,R,aZ,q.1,λz H1 t R1 k1 ht=>?_⟩
 have h:=q.2 z
 obtain⟨lD,jG,mx,eO,_⟩:=id ht
 obtain⟨oo,rH,eF,_⟩:=R1.ins
 walk_at"l"
 refine ku eO T.bG ?_
 walk_at"l"
 by_cases hm:aO (aL d.b d.i).tok=Str.ofString "clear"
 ·rw[if_pos hm]at h
  rw[decide_eq_true hm,if_neg (by simp)]
  walk_at"l"
  refine aV eF (ib _ _ _ _) ?_
  walk_at"l"
  refine⟨(d,Str.ofString "clear"),rfl,R1,aZ.rd R1 k1,?_⟩
  dsimp only
  refine jm h k1 (by decide +kernel) (by decide +kernel) λc h=>?_
  intro H2 t2 R2 k2 mw
  have k3:=k1.trans k2
  obtain⟨iW,my,fS,_⟩:=R2.ins
  walk_at"l"
  refine aV fS (uI _ _ _ _) ?_
  walk_at"l"
  rw[bJ]at h
  refine⟨{d with i:=bp d.b d.i},rfl,R2,aZ.rd R2 k3,h.mono (λq l h' H3 v j hl R3 k4 hv=>?_) λe h'=>h'.after k3⟩
  subst hl
  have k5:=k3.trans k4
  obtain⟨lE,oh,fR,_⟩:=R3.ins
  walk_at"l"
  refine aV fR (CM _ _ _ _) ?_
  walk_at"l"
  refine Dh hv (g4 T _) ?_
  walk_at"l"
  refine⟨by show 1≤sizeLine;decide,λp hp=>?_⟩
  walk_at"l"
  have s1:=au.bc (o:=.tup [.str ";"]) hp
  have k6:=k5.d6 s1
  refine⟨(({d with i:=j},!decide (q=0)),p,[LR.semi]),rfl,iZ R3 s1,(aZ.rd R3 k5).same s1,aY.of (by rw[aw,show LR.semi=Str.ofString ";" by decide +kernel];rfl),?_⟩
  dsimp only
  refine Lk (d:={d with i:=j}) h' k6 λc h=>?_
  rw[bJ,gH]at h
  by_cases q0:q=0
  ·rw[if_neg (by rw[q0];simp)]at h
   rw[decide_eq_true q0,if_neg (by simp)]
   exact h.after k6
  ·rw[if_pos (bne_iff_ne.mpr q0)]at h
   rw[decide_eq_false q0,if_pos (by simp)]
   intro H4 R4 k7
   walk_at"l"
   exact h H4 v j rfl R4 (k6.trans k7) ((hv.same s1).keep k7)
 ·rw[if_neg hm]at h
  rw[decide_eq_false hm,if_pos (by simp)]
  walk_at"l"
  exact h H1 _ d.i rfl R1 k1 (g4 T _)
theorem Xa(T:Txt K mg A)(D:bx K A.aj "take_curve" "Reader.take_curve" Bz ["self"])(jF:aP P w K mg base (aX P w) 8 A.aj "take_among" ["self","kinds"] (uQ K A))(rJ:aP P w K mg base (aX P w) 11 A.aj "take_value" ["self"] (iX K A value (iY K)))(mz:aP P w K mg base (aX P w) 8 A.aj "judge" ["self","stands","kinds"] (x5 K A))(rK:Callee P w K mg base ao 1 "inverse" ["rational"] (C5 K)):
  aP P w K mg base (aX P w) 12 A.aj "take_curve" ["self"] (iX K A LR.t_ (iY K)):=by
 refine D.eH Cr (λ_=>rfl) λf ay Ar outer s H d Q E hr h=>?_
 obtain⟨R,aZ,h⟩:=h
 unfold LR.t_ at h
 obtain⟨dx,tk,hR,eK⟩:=R.ins
 refine⟨_,(af (a9 (i:=1) Cr.nd rfl (Or.inl rfl) (bD (pv 0) T.aj.cl jF (hr.mono (by decide)) bC (aa (gR (aa bS (aa bS (aa bS ae)))) ae)))
   (af (bb (aW bU (aB (pv 1) rfl) bS (aR _)) (ai (aH (aF T.gq))) bo)
   (af (a9 (i:=2) Cr.nd rfl (Or.inl rfl) (d_ (pv 0) T.aj.cl rJ (hr.mono (by decide)) bC))
   (af (bb (aW bU (aB (pv 1) rfl) bS (aR _)) (ai (aH (pv 2))) bo)
   (af (bq (bD (pv 0) T.aj.cl mz (hr.mono (by decide)) bC (aa (jt (zL hr.units) (pv 2) (aF T.gq) (aR _)) (aa (gR (aa bS (aa bS (aa bS ae)))) ae))))
   (ai (aH (aT rK (hr.mono (by decide)) aD (aa (pv 2) ae))))))))),?_⟩
 show ba _ _ _ [some (.ref d.r),none,none] H
 walk_at"l"
 refine aV hR (xN _ _ _ _) ?_
 walk_at"l"
 refine⟨by show 3≤sizeLine;decide,λp hp=>?_⟩
 walk_at"l"
 have s1:=au.bc (o:=.tup [.str "flat",.str "curve",.str "radius"]) hp
 have k1:ax [d.r] H (upd H p (.tup [.str "flat",.str "curve",.str "radius"])):=s1.keep R.mu
 refine⟨(d,p,[Str.ofString "flat",Str.ofString "curve",Str.ofString "radius"]),rfl,iZ R s1,aZ.same s1,aY.of aw,?_⟩
 dsimp only
 refine jm h k1 (by decide +kernel) (by decide +kernel) λc h=>?_
 intro H2 t R2 k2 ht
 have k3:=k1.trans k2
 obtain⟨iW,my,fS,_⟩:=R2.ins
 obtain⟨lD,jG,mx,eO,_⟩:=id ht
 walk_at"l"
 refine ku eO T.bG ?_
 walk_at"l"
 by_cases hf:aO (aL d.b d.i).tok=Str.ofString "flat"
 ·rw[if_pos hf]at h
  rw[if_pos (decide_eq_true hf)]
  walk_at"l"
  exact h H2 _ _ rfl R2 k3 (g4 T _)
 ·rw[if_neg hf]at h
  rw[if_neg (by rw[decide_eq_true_eq];exact hf)]
  walk_at"l"
  refine aV fS (Kl _ _ _ _) ?_
  walk_at"l"
  rw[bJ]at h
  refine⟨{d with i:=bp d.b d.i},rfl,R2,aZ.rd R2 k3,h.mono (λq l h' H3 v j hl R3 k4 hv=>?_) λe h'=>h'.after k3⟩
  subst hl
  have k5:=k3.trans k4
  have uS:=ht.keep k4 (lC ht fS)
  obtain⟨W3,W4,Lp,pI,_⟩:=id uS
  obtain⟨lE,oh,fR,_⟩:=R3.ins
  walk_at"l"
  refine ku pI T.bG ?_
  walk_at"l"
  by_cases gr:aO (aL d.b d.i).tok=Str.ofString "curve"
  ·rw[if_pos gr]at h'
   rw[if_pos (decide_eq_true gr)]
   walk_at"l"
   exact h' H3 v j rfl R3 k5 hv
  ·rw[if_neg gr]at h'
   rw[if_neg (by rw[decide_eq_true_eq];exact gr)]
   walk_at"l"
   refine aV fR (CM _ _ _ _) ?_
   walk_at"l"
   refine Dh hv (g4 T _) ?_
   walk_at"l"
   refine⟨by show 3≤sizeLine;decide,λp' gL=>?_⟩
   walk_at"l"
   have s2:=au.bc (o:=.tup [.str "conic",.str "clear",.str ";"]) gL
   have k6:=k5.d6 s2
   refine⟨(({d with i:=j},!decide (q=0)),p',[Str.ofString "conic",Str.ofString "clear",LR.semi]),rfl,iZ R3 s2,(aZ.rd R3 k5).same s2,aY.of (by rw[aw,show LR.semi=Str.ofString ";" by decide +kernel];rfl),?_⟩
   dsimp only
   refine Lk (d:={d with i:=j}) h' k6 λc h=>?_
   rw[bJ,gH]at h
   by_cases q0:q=0
   ·rw[if_neg (by rw[q0];simp)]at h
    rw[decide_eq_true q0,if_neg (by simp)]
    exact h.after k6
   ·rw[if_pos (bne_iff_ne.mpr q0)]at h
    rw[decide_eq_false q0,if_pos (by simp)]
    intro H4 R4 k7
    walk_at"l"
    refine⟨(v,q),rfl,(hv.same s2).keep k7,q0,λH5 v' s5 m6=>?_⟩
    exact h H5 v' j rfl (iZ R4 s5) ((k6.trans k7).d6 s5) m6
end
end LN
namespace LN
open PySem PySem.Spec PyProof.Rows L2 LX
open Ln (Bytes Lex P andThen done need peek number value curveIn)
open LR (aO valOf nameOf aL bp rest bj bJ gH bL et)
theorem gZ.named{K:PySem.W.Frag}{mg:Str→Option Value}{A:Ad}(T:Txt K mg A){no:List Addr}{H:Hp}{a:Addr}{g:Ln.Glass}(h:gZ K A no H a g):n6 K H a g.name:=by
 obtain⟨dx,nm,il,i0,i1,i2,q0,q1,q2,h1,h2,_⟩:=h
 exact⟨_,_,_,nm,h1,T.eE.cl,T.eE.at 0 rfl,ef (ks:=["name","indices"]) 0 rfl rfl (by decide +kernel),h2⟩
theorem eX.named{K:PySem.W.Frag}{mg:Str→Option Value}{A:Ad}(T:Txt K mg A){no:List Addr}{H:Hp}{a:Addr}{e:Ln.Elem}(h:eX K A no H a e):n6 K H a e.name:=by
 obtain⟨dx,nm,gp,cv,cn,rc,h1,h2,_⟩:=h
 exact⟨_,_,_,nm,h1,T.aQ.cl,T.aQ.at 1 rfl,ef (ks:=["kind","name","gap","glass","curve","conic","reach"]) 1 rfl rfl (by decide +kernel),h2⟩
theorem Each.mapR{α β γ:Type}{R:α→β→Prop}{R':α→γ→Prop}{f:β→γ}{as:List α}{bs:List β}(h:Each R as bs)(i:∀a b,R a b→R' a (f b)):Each R' as (bs.map f):=by
 refine⟨by rw[List.length_map];exact h.1,λj a c h1 h2=>?_⟩
 rw[List.getElem?_map]at h2
 obtain⟨b,hb,rfl⟩:=Option.map_eq_some_iff.mp h2
 exact i a b (h.2 j a b h1 hb)
theorem oq{A:Ad}{no:List Addr}{H:Hp}{r dx:Addr}{a b c d:V}(hR:H r=some (.ins A.aj dx (cx a b c d))):∀s∈[r],(s∈no∧∃xs,H s=some (.lst xs))∨uL H s:=λs hs=>by
 rw[List.mem_singleton.mp hs]
 exact .inr ⟨_,_,_,_,_,hR,by decide +kernel,by decide +kernel,by decide +kernel⟩
def Xb:RD→Hp→V→Bytes→Prop:=λd H v nb=>∃rw,v=.ref rw∧H rw=some (.lst (bA nb))∧rw∉d.no
def DE(K:PySem.W.Frag)(A:Ad):Sp:=aU (λ(d:RD×Addr×List Addr×List Bytes)=>[.ref d.1.r,.ref d.2.1]) λd H Q E=>dX K A H d.1∧Here H d.1.no∧
 (∀U,ax [d.1.r] H U→ah K U d.2.1 (d.2.2.1.map .ref)∧Each (n6 K U) d.2.2.1 d.2.2.2)∧bj (LR.wI d.2.2.2) (rest d.1.b d.1.i) (Dd K A d.1 [d.1.r] H Q (Xb d.1)) (bO A [d.1.r] H E)
def DF(K:PySem.W.Frag)(A:Ad):Sp:=aU (λ(d:RD×List Bytes)=>[.ref d.1.r]) λd H Q E=>dX K A H d.1∧Here H d.1.no∧
 (∀U,ax [d.1.r] H U→∃dx gl st tl as,U d.1.sy=some (.ins A.bf dx (fN (.ref gl) st tl))∧ah K U gl (as.map .ref)∧Each (n6 K U) as d.2)∧
 bj (LR.t5 d.2) (rest d.1.b d.1.i) (Dd K A d.1 [d.1.r] H Q (λ_ v i=>v=.int ((i:Nat):Int))) (bO A [d.1.r] H E)
def Lu(A:Ad):Sp:=aU (λ(d:(Addr×Addr)×V×V)=>[.ref d.1.1,d.2.1,d.2.2]) λd H Q _=>H d.1.1=some (.ins A.eE d.1.2 [])∧Q .aJ (upd H d.1.1 (.ins A.eE d.1.2 (nV d.2.1 d.2.2)))
def Lv(A:Ad):Sp:=aU (λ(d:(Addr×Addr)×V×V)=>[.ref d.1.1,d.2.1,d.2.2]) λd H Q _=>H d.1.1=some (.ins A.aQ d.1.2 [])∧Q .aJ (upd H d.1.1 (.ins A.aQ d.1.2 (bN d.2.1 d.2.2 (.ref A.bz) (.int 0) (.ref A.bz) (.ref A.bz) (.ref A.bz))))
def Lw(A:Ad):Sp:=aU (λ(d:Addr×Addr)=>[.ref d.1]) λd H Q _=>H d.1=some (.ins A.bf d.2 [])∧
 ∀U gl tl,U d.1=some (.ins A.bf d.2 (fN (.ref gl) (.int 0) (.ref tl)))→U gl=some (.lst [])→U tl=some (.lst [])→gl≠tl→H gl=none→H tl=none→(∀b o,H b=some o→b≠d.1→U b=some o)→Q .aJ U
theorem Xc{names:List Bytes}{nb:Bytes}:decide (0≤kH names nb)=names.contains nb:=by
 unfold kH
 cases h:names.idxOf? nb with
 |none=>
  have:=List.idxOf?_eq_none_iff.mp h
  show decide ((0:Int)≤ -1)=_
  rw[show names.contains nb=false by rw[←Bool.not_eq_true,List.contains_iff_mem];exact this]
  rfl
 |some i=>
  have:=List.idxOf?_eq_some_iff.mp h
  rw[show names.contains nb=true by rw[List.contains_iff_mem];obtain⟨h1,h2,_⟩:=this;exact h2▸List.getElem_mem h1]
  show decide ((0:Int)≤(i:Int))=true
  exact decide_eq_true (by omega)
section
variable{P:Program}{w:World}{K:PySem.W.Frag}{mg:Str→Option Value}{base:Heap}{A:Ad}
theorem Xd(T:Txt K mg A)(D:gn K mg A.eE "Glass" "Glass.__init__" A4 ["self","name","indices"]):Maker P w K mg base ao 1 A.eE "Glass" ["self","name","indices"] (Lu A):=by
 refine D.ok Uh (λ_=>rfl) λf ay Ar outer s H d Q E hr h=>?_
 obtain⟨⟨x,dx⟩,v1,v2⟩:=d
 obtain⟨hx,h⟩:=h
 dsimp only at*
 refine⟨_,(af (bI (pv 0) (pv 1) rfl)
   (ai (bI (pv 0) (pv 2) rfl))),?_⟩
 show ba _ _ _ [some (.ref x),some v1,some v2] H
 walk_at"l"
 refine UZ hx T.eE ?_
 walk_at"l"
 refine U0 aw T.eE ?_
 rw[eP]
 exact h
theorem Xe(T:Txt K mg A)(D:gn K mg A.aQ "Element" "Element.__init__" A5 ["self","kind","name"]):Maker P w K mg base ao 1 A.aQ "Element" ["self","kind","name"] (Lv A):=by
 refine D.ok Ui (λ_=>rfl) λf ay Ar outer s H d Q E hr h=>?_
 obtain⟨⟨x,dx⟩,v1,v2⟩:=d
 obtain⟨hx,h⟩:=h
 dsimp only at*
 refine⟨_,(af (bI (pv 0) (pv 1) rfl)
   (af (bI (pv 0) (pv 2) rfl)
   (af (bI (pv 0) (aF T.gq) rfl)
   (af (bI (pv 0) aM rfl)
   (af (bI (pv 0) (aF T.gq) rfl)
   (af (bI (pv 0) (aF T.gq) rfl)
   (ai (bI (pv 0) (aF T.gq) rfl)))))))),?_⟩
 show ba _ _ _ [some (.ref x),some v1,some v2] H
 walk_at"l"
 refine U1 hx T.aQ ?_
 walk_at"l"
 refine U2 aw T.aQ ?_
 rw[eP]
 walk_at"l"
 refine U3 aw T.aQ ?_
 rw[eP]
 walk_at"l"
 refine U4 aw T.aQ ?_
 rw[eP]
 walk_at"l"
 refine U5 aw T.aQ ?_
 rw[eP]
 walk_at"l"
 refine U6 aw T.aQ ?_
 rw[eP]
 walk_at"l"
 refine U7 aw T.aQ ?_
 rw[eP]
 exact h
theorem Xf(T:Txt K mg A)(D:gn K mg A.bf "System" "System.__init__" A6 ["self"]):Maker P w K mg base ao 1 A.bf "System" ["self"] (Lw A):=by
 refine D.ok Uj (λ_=>rfl) λf ay Ar outer s H d Q E hr h=>?_
 obtain⟨x,dx⟩:=d
 obtain⟨hx,h⟩:=h
 dsimp only at*
 refine⟨_,(af (bI (pv 0) (bK ae) rfl)
   (af (bI (pv 0) aM rfl)
   (ai (bI (pv 0) (bK ae) rfl)))),?_⟩
 show ba _ _ _ [some (.ref x)] H
 walk_at"l"
 refine⟨Nat.zero_le _,λgl md=>?_⟩
 have xg:x≠gl:=cp hx md
 walk_at"l"
 refine U8 (by rw[aG xg];exact hx) T.bf ?_
 walk_at"l"
 refine U9 aw T.bf ?_
 rw[eP]
 walk_at"l"
 refine⟨Nat.zero_le _,λtl iS=>?_⟩
 have xt:x≠tl:=λz=>by rw[←z,aw]at iS;cases iS
 rw[aG (Ne.symm xt)]at iS
 have gt:gl≠tl:=λz=>by rw[←z,aw]at iS;cases iS
 rw[aG (Ne.symm gt)]at iS
 walk_at"l"
 refine Va (by rw[aG xt,aw]) T.bf ?_
 refine h _ gl tl aw ?_ ?_ gt md iS λb o hb wN=>?_
 ·rw[aG (Ne.symm xg),aG gt,aG (Ne.symm xg),aw]
 ·rw[aG (Ne.symm xt),aw]
 ·rw[aG wN,aG (cp hb iS),aG wN,aG (cp hb md)]
  exact hb
theorem Xg(T:Txt K mg A)(GF:jj P w K mg base A)(D:bx K A.aj "take_new_name" "Reader.take_new_name" Br ["self","named"])(dH:aP P w K mg base (aX P w) 9 A.aj "take" ["self","kind"] (kJ K A))(mB:Callee P w K mg base ao 1 "place_of_name" ["named","name"] (xX K)):aP P w K mg base (aX P w) 10 A.aj "take_new_name" ["self","named"] (DE K A):=by
 obtain⟨fI,kD,xF,fh,fi,bF⟩:=GF
 refine D.eH J6 (λ_=>rfl) λf ay Ar outer s H d Q E hr h=>?_
 obtain⟨d,nl,as,names⟩:=d
 obtain⟨R,aZ,iA,h⟩:=h
 dsimp only at*
 unfold LR.wI at h
 obtain⟨dx,tk,hR,eK⟩:=R.ins
 refine⟨_,(af (a9 (i:=2) J6.nd rfl (Or.inl rfl) (bD (pv 0) T.aj.cl dH (hr.mono (by decide)) bC (aa (aF T.CV) ae)))
   (af (bb (aW jY (aT mB (hr.mono (by decide)) aD (aa (pv 1) (aa (aB (pv 2) rfl) ae))) aM (aR _)) (ai (lr xF fh (hr.mono (by decide)) rfl fi bF rfl kh (aa (aF T.VE) (aa (aB (pv 2) rfl) ae)))) bo)
   (ai (aH (aB (pv 2) rfl))))),?_⟩
 show ba _ _ _ [some (.ref d.r),some (.ref nl),none] H
 walk_at"l"
 refine aV hR (ib _ _ _ _) ?_
 walk_at"l"
 refine⟨(d,Str.ofString "name"),rfl,R,aZ,?_⟩
 dsimp only
 refine jm h (ax.refl R.mu) (by decide +kernel) (by decide +kernel) λc h=>?_
 intro H1 t R1 k1 ht
 rw[LR.fM,decide_eq_true_eq]at c
 obtain⟨nb,uT⟩:=LR.Ae (LR.nA d.b d.i) c
 obtain⟨lD,jG,mx,eO,_,ot⟩:=id ht
 obtain⟨ot,Lx⟩:=ot nb uT
 rw[uT]at h
 obtain⟨c1,c2⟩:=iA H1 k1
 walk_at"l"
 refine CK eO T.bG ?_
 walk_at"l"
 refine⟨((nl,jG),as,names,nb),rfl,c1,ah.of ot,c2,λH2 s2=>?_⟩
 dsimp only
 walk_at"l"
 rw[Xc]
 rw[bJ,gH]at h
 have og:=s2 _ _ eO
 cases hc:names.contains nb with
 |true=>
  rw[if_neg (by rw[show nameOf (.name nb)=nb from rfl,hc];simp)]at h
  rw[if_pos rfl]
  with_reducible refine gO ?_
  walk_at"l"
  refine pq og T.bG ?_
  walk_at"l"
  exact gP h (k1.d6 s2)
 |false=>
  rw[if_pos (by rw[show nameOf (.name nb)=nb from rfl,hc];rfl)]at h
  rw[if_neg (by simp)]
  walk_at"l"
  refine CK og T.bG ?_
  exact h H2 _ _ rfl (iZ R1 s2) (k1.d6 s2) ⟨jG,rfl,s2 _ _ ot,Lx⟩
theorem Xh(T:Txt K mg A)(GF:jj P w K mg base A)(D:bx K A.aj "take_glass_number" "Reader.take_glass_number" Bs ["self"])(dH:aP P w K mg base (aX P w) 9 A.aj "take" ["self","kind"] (kJ K A))(mB:Callee P w K mg base ao 1 "place_of_name" ["named","name"] (xX K)):aP P w K mg base (aX P w) 10 A.aj "take_glass_number" ["self"] (DF K A):=by
 obtain⟨fI,kD,xF,fh,fi,bF⟩:=GF
 refine D.eH Cp (λ_=>rfl) λf ay Ar outer s H d Q E hr h=>?_
 obtain⟨d,names⟩:=d
 obtain⟨R,aZ,iA,h⟩:=h
 dsimp only at*
 unfold LR.t5 at h
 obtain⟨dx,tk,hR,eK⟩:=R.ins
 refine⟨_,(af (a9 (i:=1) Cp.nd rfl (Or.inl rfl) (bD (pv 0) T.aj.cl dH (hr.mono (by decide)) bC (aa (aF T.CV) ae)))
   (af (a9 (i:=2) Cp.nd rfl (Or.inl rfl) (aT mB (hr.mono (by decide)) aD (aa (aB (aB (pv 0) rfl) rfl) (aa (aB (pv 1) rfl) ae))))
   (af (bb (aW oR (pv 2) aM (aR _)) (ai (lr xF fh (hr.mono (by decide)) rfl fi bF rfl kh (aa (aF T.VF) (aa (aB (pv 1) rfl) ae)))) bo)
   (ai (aH (pv 2)))))),?_⟩
 show ba _ _ _ [some (.ref d.r),none,none] H
 walk_at"l"
 refine aV hR (ib _ _ _ _) ?_
 walk_at"l"
 refine⟨(d,Str.ofString "name"),rfl,R,aZ,?_⟩
 dsimp only
 refine jm h (ax.refl R.mu) (by decide +kernel) (by decide +kernel) λc h=>?_
 intro H1 t R1 k1 ht
 rw[LR.fM,decide_eq_true_eq]at c
 obtain⟨nb,uT⟩:=LR.Ae (LR.nA d.b d.i) c
 obtain⟨lD,jG,mx,eO,_,ot⟩:=id ht
 obtain⟨ot,Lx⟩:=ot nb uT
 rw[uT]at h
 obtain⟨g5,gl,st,tl,as,cs,c1,c2⟩:=iA H1 k1
 obtain⟨oo,rH,eF,_⟩:=R1.ins
 walk_at"l"
 refine mj eF T.aj ?_
 walk_at"l"
 refine jC cs T.bf ?_
 walk_at"l"
 refine CK eO T.bG ?_
 walk_at"l"
 refine⟨((gl,jG),as,names,nb),rfl,c1,ah.of ot,c2,λH2 s2=>?_⟩
 dsimp only
 walk_at"l"
 have og:=s2 _ _ eO
 have e:nameOf (.name nb)=nb:=rfl
 rw[e]at h
 unfold kH
 cases hi:names.idxOf? nb with
 |none=>
  rw[hi]at h
  dsimp only
  rw[if_pos (by decide)]
  with_reducible refine gO ?_
  walk_at"l"
  refine pq og T.bG ?_
  walk_at"l"
  exact gP h (k1.d6 s2)
 |some i=>
  rw[hi]at h
  dsimp only
  rw[if_neg (by rw[decide_eq_true_eq];omega)]
  walk_at"l"
  exact h H2 _ _ rfl (iZ R1 s2) (k1.d6 s2) rfl
end
end LN
namespace LN
open PySem PySem.Spec PyProof.Rows L2 LX
open Ln (Bytes Lex P andThen done need peek number value curveIn)
open LR (aO valOf nameOf aL bp rest bj bJ gH bL et)
theorem bO.to{A:Ad}{S S':List Addr}{H H1:Hp}{E:XK}{e:Ln.Fault}(h:bO A S H E e)(k:ax S H H1)(sub:∀s∈S',s∈S):bO A S' H1 E e:=λU dx k' f=>h U dx (k.sub k' λs hs=>.inl (sub s hs)) f
theorem ax.weak{S S':List Addr}{H H1:Hp}(k:ax S' H H1)(sub:∀s∈S',s∈S)(mu:∀s∈S,∃o,H s=some o∧mf o=true):ax S H H1:=⟨mu,λb o e n=>k.eq b o e λz=>n (sub b z)⟩
theorem fz{H:Hp}{a:Addr}{xs:List V}{o:HO}(h:H a=some (.lst xs)):ax [a] H (upd H a o):=
 ⟨λs hs=>⟨.lst xs,(List.mem_singleton.mp hs)▸h,rfl⟩,λb u e n=>by rw[aG (λz=>n (by rw[z];exact List.mem_singleton.mpr rfl))];exact e⟩
theorem uU{α:Type}{A:Ad}{d:RD}{S:List Addr}{H H1:Hp}{E:XK}{ks:List Str}{f:Lex→P α}{Qo:α→List Lex→Prop}{go:Prop}(h:bj (andThen (bL ks) f) (rest d.b d.i) Qo (bO A S H E))(k:ax S H H1)(hr:d.r∈S)(e1:ks.contains (Str.ofString "end")=false)(e2:ks.contains (Str.ofString "")=false)(kC:ks.contains (aO (aL d.b d.i).tok)=true→bj (f (aL d.b d.i)) (rest d.b (bp d.b d.i)) Qo (bO A S H E)→go):Tk A d H1 E ks go:=by
 rw[bJ,LR.ID]at h
 have sub:∀s∈[d.r],s∈S:=λs hs=>by rw[List.mem_singleton.mp hs];exact hr
 refine⟨λz=>(h.1 z).to k sub,λz=>?_⟩
 have q:=h.2 z
 split
 ·rename_i c
  rw[if_pos c,LR.IC (LR.IE c e1 e2)]at q
  exact kC c q
 ·rename_i c
  rw[if_neg c]at q
  exact q.to k sub
theorem Xi{α:Type}{A:Ad}{d:RD}{S:List Addr}{H H1:Hp}{E:XK}{ks:List Str}{f:Lex→P α}{Qo:α→List Lex→Prop}{go:Prop}(h:bj (andThen (et ks) f) (rest d.b d.i) Qo (bO A S H E))(k:ax S H H1)(hr:d.r∈S)(kC:ks.contains (aO (aL d.b d.i).tok)=true→bj (f (aL d.b d.i)) (rest d.b d.i) Qo (bO A S H E)→go):Tk A d H1 E ks go:=by
 rw[bJ,LR.An]at h
 have sub:∀s∈[d.r],s∈S:=λs hs=>by rw[List.mem_singleton.mp hs];exact hr
 refine⟨λz=>(h.1 z).to k sub,λz=>?_⟩
 have q:=h.2 z
 split
 ·rename_i c
  rw[if_pos c]at q
  exact kC c q
 ·rename_i c
  rw[if_neg c]at q
  exact q.to k sub
theorem Ly{α:Type}{A:Ad}{d:RD}{S:List Addr}{H H1:Hp}{E:XK}{f:Lex→P α}{Qo:α→List Lex→Prop}(h:bj (andThen peek f) (rest d.b d.i) Qo (bO A S H E))(k:ax S H H1)(hr:d.r∈S):
  ((aL d.b d.i).tok=.broken→bO A [d.r] H1 E (1,(aL d.b d.i).at_))∧((aL d.b d.i).tok≠.broken→bj (f (aL d.b d.i)) (rest d.b d.i) Qo (bO A S H E)):=by
 rw[bJ,LR.wH]at h
 exact⟨λz=>(h.1 z).to k λs hs=>by rw[List.mem_singleton.mp hs];exact hr,h.2⟩
section
variable{K:PySem.W.Frag}{A:Ad}{no no':List Addr}{H:Hp}{a p s gl tl:Addr}{g:Ln.Glass}{e:Ln.Elem}{S:Ln.System_}{gs es:List Addr}{d:RD}
theorem gZ.add(h:gZ K A no H a g)(sub:∀b∈no',b∈no∨H b=none):gZ K A no' H a g:=by
 obtain⟨dx,nm,il,i0,i1,i2,q0,q1,q2,h1,h2,h3,n1,n2,r⟩:=h
 exact⟨dx,nm,il,i0,i1,i2,q0,q1,q2,h1,h2,h3,λz=>(sub _ z).elim n1 λq=>(by rw[h2]at q;cases q),λz=>(sub _ z).elim n2 λq=>(by rw[h3]at q;cases q),r⟩
theorem eX.add(h:eX K A no H a e)(sub:∀b∈no',b∈no∨H b=none):eX K A no' H a e:=by
 obtain⟨dx,nm,gp,cv,cn,rc,h1,h2,n1,r⟩:=h
 exact⟨dx,nm,gp,cv,cn,rc,h1,h2,λz=>(sub _ z).elim n1 λq=>(by rw[h2]at q;cases q),r⟩
theorem cD.add(h:cD K A no H s gl tl gs es S)(sub:∀b∈no',b∈no∨H b=none):cD K A no' H s gl tl gs es S:=by
 have Lz:∀b∈gl::tl::no',b∈gl::tl::no∨H b=none:=λb hb=>by
  rcases List.mem_cons.mp hb with q|q
  ·exact .inl (q▸List.mem_cons_self)
  ·rcases List.mem_cons.mp q with q|q
   ·exact .inl (q▸List.mem_cons_of_mem _ List.mem_cons_self)
   ·exact(sub b q).imp (λq=>List.mem_cons_of_mem _ (List.mem_cons_of_mem _ q)) id
 exact⟨h.ins,h.ck,h.bu,h.ne,λz=>(sub _ z).elim h.ic λq=>(by rw[h.ck]at q;cases q),λz=>(sub _ z).elim h.jh λq=>(by rw[h.bu]at q;cases q),h.nd,h.glasses.imp λ_ _ _ _ _ q=>q.add Lz,h.elems.imp λ_ _ _ _ _ q=>q.add Lz⟩
theorem cD.Xj(h:cD K A no H s gl tl gs es S)(hg:gZ K A (gl::tl::no) H a g):cD K A no (upd H gl (.lst (gs.map .ref++[.ref a]))) s gl tl (gs++[a]) es {S with glasses:=S.glasses++[g]}:=by
 have k:ax [gl] H (upd H gl (.lst (gs.map .ref++[.ref a]))):=fz h.ck
 have off:∀x,∀b∈[gl],Off (gl::tl::no) H x b:=λx b hb=>by
  rw[List.mem_singleton.mp hb]
  exact .inl ⟨List.mem_cons_self,_,h.ck⟩
 obtain⟨dx,hi⟩:=h.ins
 refine⟨⟨dx,by rw[aG (bY hi h.ck λz=>by cases z)];exact hi⟩,by rw[aw,List.map_append];rfl,by rw[aG (Ne.symm h.ne)];exact h.bu,h.ne,h.ic,h.jh,h.nd,?_,h.elems.imp λ_ _ _ _ _ q=>q.keep k (off _)⟩
 exact(h.glasses.imp λ_ _ _ _ _ q=>q.keep k (off _)).append (Each.one (hg.keep k (off _)))
theorem ji.add{t:Addr}{x:Lex}{n:Nat}(h:ji K A no H t x n)(sub:∀b∈no',b∈no∨H b=none):ji K A no' H t x n:=by
 obtain⟨dx,fk,vl,h1,h2,h3⟩:=h
 refine⟨dx,fk,vl,h1,h2,λnb z=>?_⟩
 obtain⟨q1,q2⟩:=h3 nb z
 exact⟨q1,λz=>(sub _ z).elim q2 λq=>(by rw[q1]at q;cases q)⟩
theorem LA(R:dX K A H d)(sub:∀b∈no',b∈d.no∨H b=none):dX K A H {d with no:=no'}:=by
 obtain⟨dx,tk,hR,eK⟩:=R.ins
 exact⟨⟨dx,tk,hR,eK.imp id λ⟨t,e,z,ht⟩=>⟨t,e,z,ht.add sub⟩⟩,R.txt,R.le⟩
theorem DG{xs:List V}{o:HO}(R:dX K A H d)(hp:H p=some (.lst xs))(m:p∈d.no)(ht:ah K (upd H p o) d.tx (bA d.b)):dX K A (upd H p o) d:=by
 obtain⟨dx,tk,hR,eK⟩:=R.ins
 have k:=fz (o:=o) hp
 exact⟨⟨dx,tk,by rw[aG (bY hR hp (by intro z;cases z))];exact hR,eK.imp id λ⟨t,e,z,ht⟩=>⟨t,e,z,ht.keep k λb hb=>by rw[List.mem_singleton.mp hb];exact .inl ⟨m,_,hp⟩⟩⟩,ht,R.le⟩
end
structure RS where
 (d:RD) (gl tl:Addr) (gs es:List Addr) (S:Ln.System_) (N:List Addr)
abbrev RS.S4(x:RS):List Addr:=[x.d.r,x.d.sy,x.gl,x.tl]
structure bH(K:PySem.W.Frag)(A:Ad)(H:Hp)(x:RS):Prop where
 rd:dX K A H x.d
 no:x.d.no=x.gl::x.tl::x.N
 here:Here H x.N
 sys:cD K A x.N H x.d.sy x.gl x.tl x.gs x.es x.S
 tg:x.d.tx≠x.gl
 tt:x.d.tx≠x.tl
 uV:x.S.glasses.length≤16
 uW:x.S.elems.length≤16
section
variable{K:PySem.W.Frag}{A:Ad}{H U:Hp}{x:RS}
theorem bH.mu(h:bH K A H x):∀s∈x.S4,∃o,H s=some o∧mf o=true:=λs hs=>by
 obtain⟨dx,tk,hR,_⟩:=h.rd.ins
 obtain⟨bQ,hi⟩:=h.sys.ins
 rcases List.mem_cons.mp hs with q|hs
 ·exact⟨_,q▸hR,rfl⟩
 rcases List.mem_cons.mp hs with q|hs
 ·exact⟨_,q▸hi,rfl⟩
 rcases List.mem_cons.mp hs with q|hs
 ·exact⟨_,q▸h.sys.ck,rfl⟩
 ·exact⟨_,(List.mem_singleton.mp hs)▸h.sys.bu,rfl⟩
theorem bH.f6(h:bH K A H x):Here H x.d.no:=λb hb=>by
 rw[h.no]at hb
 rcases List.mem_cons.mp hb with q|hb
 ·exact⟨_,q▸h.sys.ck⟩
 rcases List.mem_cons.mp hb with q|hb
 ·exact⟨_,q▸h.sys.bu⟩
 ·exact h.here b hb
theorem bH.r4(x:RS):x.d.r∈x.S4:=List.mem_cons_self
theorem bH.g6(x:RS):∀s∈[x.d.r],s∈x.S4:=λs hs=>by rw[List.mem_singleton.mp hs];exact List.mem_cons_self
theorem bH.DH(h:bH K A H x)(k:ax x.S4 H U):ah K U x.d.tx (bA x.d.b):=by
 obtain⟨dx,tk,hR,_⟩:=h.rd.ins
 obtain⟨bQ,hi⟩:=h.sys.ins
 refine ah.off h.rd.txt k λs hs=>?_
 rcases List.mem_cons.mp hs with q|hs
 ·exact .inl ⟨_,_,_,q▸hR⟩
 rcases List.mem_cons.mp hs with q|hs
 ·exact .inl ⟨_,_,_,q▸hi⟩
 rcases List.mem_cons.mp hs with q|hs
 ·exact .inr (q▸Ne.symm h.tg)
 ·exact .inr ((List.mem_singleton.mp hs)▸Ne.symm h.tt)
theorem bH.go(h:bH K A H x){j:Nat}(R:dX K A U {x.d with i:=j})(k:ax [x.d.r] H U):bH K A U {x with d:={x.d with i:=j}}:=by
 obtain⟨dx,tk,hR,_⟩:=h.rd.ins
 refine⟨R,h.no,h.here.keep k R.here,h.sys.keep k (oq hR),h.tg,h.tt,h.uV,h.uW⟩
end
end LN
namespace LN
open PySem PySem.Spec PyProof.Rows L2 LX
open Ln (Bytes Lex P andThen done need peek number value curveIn)
open LR (aO valOf nameOf aL bp rest bj bJ gH bL et)
def x9(K:PySem.W.Frag)(A:Ad)(x:RS)(H:Hp)(Q:VK):Ln.Glass→List Lex→Prop:=λg l=>
 ∀U j uX,l=rest x.d.b j→bH K A U {x with d:={x.d with i:=j},gs:=uX,S:={x.S with glasses:=x.S.glasses++[g]}}→ax x.S4 H U→Q .aJ U
def LB(K:PySem.W.Frag)(A:Ad):Sp:=aU (λ(x:RS)=>[.ref x.d.r]) λx H Q E=>bH K A H x∧bj (Ln.glass x.S.glasses) (rest x.d.b x.d.i) (x9 K A x H Q) (bO A x.S4 H E)
theorem Xk(q:Rat):decide ((q.den:Int)≤q.num)=decide (1≤q):=decide_eq_decide.mpr (LR.P0 q).symm
theorem Xl(k:Nat):([.str ",",.str ",",.str ";"]:List V)[k]?=if k<3 then some (.str (LR.strOf [LR.ka k]))else none:=by
 match k with
 |0=>decide +kernel
 |1=>decide +kernel
 |2=>decide +kernel
 |k+3=>
  rw[if_neg (by omega)]
  rfl
section
variable{P:Program}{w:World}{K:PySem.W.Frag}{mg:Str→Option Value}{base:Heap}{A:Ad}
set_option maxHeartbeats 8000000 in
theorem Xm(T:Txt K mg A)(GF:jj P w K mg base A)(D:bx K A.aj "read_glass" "Reader.read_glass" Bw ["self"])(dH:aP P w K mg base (aX P w) 9 A.aj "take" ["self","kind"] (kJ K A))(rL:aP P w K mg base (aX P w) 10 A.aj "take_new_name" ["self","named"] (DE K A))(jn:aP P w K mg base (aX P w) 10 A.aj "take_number" ["self"] (iX K A number (iY K)))(mz:aP P w K mg base (aX P w) 8 A.aj "judge" ["self","stands","kinds"] (x5 K A))(DI:Maker P w K mg base ao 1 A.eE "Glass" ["self","name","indices"] (Lu A)):
  aP P w K mg base (aX P w) 11 A.aj "read_glass" ["self"] (LB K A):=by
 obtain⟨fI,kD,xF,fh,fi,bF⟩:=GF
 refine D.eH rh (λ_=>rfl) λf ay Ar outer s H x Q E hr h=>?_
 obtain⟨X,h⟩:=h
 unfold Ln.glass at h
 rw[LR.gI (LR.tS (w:="glass") (by decide) _ (LR.gW x.d.b x.d.i))]at h
 obtain⟨dx,tk,hR,eK⟩:=X.rd.ins
 refine⟨_,(af (a9 (i:=1) rh.nd rfl (Or.inl rfl) (bD (pv 0) T.aj.cl dH (hr.mono (by decide)) bC (aa bS ae)))
   (af (bb (aW bU (eB fK (by rfl) T.fO PySem.boot_len (aa (aB (aB (pv 0) rfl) rfl) ae)) (aF T.VH) (aR _)) (ai (lr xF fh (hr.mono (by decide)) rfl fi bF rfl kh (aa (aF T.Kr) (aa (aB (pv 1) rfl) ae)))) bo)
   (af (a9 (i:=2) rh.nd rfl (Or.inl rfl) (bD (pv 0) T.aj.cl rL (hr.mono (by decide)) bC (aa (aB (aB (pv 0) rfl) rfl) ae)))
   (af (bq (bD (pv 0) T.aj.cl dH (hr.mono (by decide)) bC (aa bS ae)))
   (af (a9 (i:=3) rh.nd rfl (Or.inl rfl) (bK ae))
   (af (hX PassesOwn.leaving rfl (qo (gR (aa bS (aa bS (aa bS ae))))) (eA (i:=4) rh.nd rfl (Or.inl rfl)) (af (a9 (i:=5) rh.nd rfl (Or.inl rfl) (d_ (pv 0) T.aj.cl jn (hr.mono (by decide)) bC))
   (af (bq (bD (pv 0) T.aj.cl mz (hr.mono (by decide)) bC (aa (jt jY (a_ dM (pv 5) aM (λ_ _=>rfl)) (a_ dM (pv 5) aM (λ_ _=>rfl)) (aR _)) (aa (gR (aa (pv 4) ae)) ae))))
   (af (bq (bD (pv 0) T.aj.cl dH (hr.mono (by decide)) bC (aa (pv 4) ae)))
   (ai (bq (gT PySem.F.plainAttrs_list PySem.F.slot_list_append PySem.F.type_list_append ni (pv 3) (aa (pv 5) ae))))))))
   (ai (bq (gT PySem.F.plainAttrs_list PySem.F.slot_list_append PySem.F.type_list_append ni (aB (aB (pv 0) rfl) rfl) (aa (lu DI (hr.mono (by decide)) aD (aa (pv 2) (aa (pv 3) ae))) ae)))))))))),?_⟩
 show ba _ _ _ [some (.ref x.d.r),none,none,none,none,none] H
 walk_at"l"
 refine aV hR (ib _ _ _ _) ?_
 walk_at"l"
 refine⟨(x.d,Str.ofString "glass"),rfl,X.rd,X.f6,?_⟩
 dsimp only
 refine uU h (ax.refl X.mu) (bH.r4 x) (by decide +kernel) (by decide +kernel) λc h=>?_
 intro H1 t R1 k1 ht
 have X1:=X.go R1 k1
 have K1:=ax.weak k1 (bH.g6 x) X.mu
 obtain⟨oo,rH,eF,_⟩:=R1.ins
 obtain⟨g5,uY⟩:=X1.sys.ins
 obtain⟨lD,jG,mx,eO,_⟩:=id ht
 rw[bJ,gH]at h
 walk_at"l"
 refine mj eF T.aj ?_
 walk_at"l"
 refine jC uY T.bf ?_
 walk_at"l"
 refine⟨_,_,rfl,.inl (ah.of X1.sys.ck),?_⟩
 walk_at"l"
 have el:((x.gs.map V.ref).length:Int)=(x.S.glasses.length:Int):=by rw[List.length_map,X.sys.glasses.1]
 have gle:=X.uV
 refine fm (λhz=>?_) λhz=>?_
 ·have hz:=of_decide_eq_true hz
  dsimp only at hz
  rw[el]at hz
  rw[if_neg (by rw[decide_eq_true_eq];show¬(x.S.glasses.length<16);omega)]at h
  with_reducible refine gO ?_
  walk_at"l"
  refine pq eO T.bG ?_
  walk_at"l"
  exact gP h K1
 have hz:¬_:=λz=>hz (decide_eq_true z)
 dsimp only at hz
 rw[el]at hz
 have ou:x.S.glasses.length<16:=by omega
 rw[if_pos (decide_eq_true (show x.S.glasses.length<Ln.GLASSES from ou))]at h
 rw[LR.gI (LR.IG (λg:Ln.Glass=>g.name) x.S.glasses (λnb=>andThen (Ln.mark 58) λ_=>andThen (Ln.index 44) λa=>andThen (Ln.index 44) λb=>andThen (Ln.index 59) λc=>(done (⟨nb,[a,b,c]⟩:Ln.Glass):Ln.P Ln.Glass)) (LR.gW _ _)),bJ]at h
 walk_at"l"
 refine aV eF (Kj _ _ _ _) ?_
 walk_at"l"
 refine mj eF T.aj ?_
 walk_at"l"
 refine jC uY T.bf ?_
 walk_at"l"
 refine⟨({x.d with i:=bp x.d.b x.d.i},x.gl,x.gs,x.S.glasses.map λg=>g.name),rfl,R1,X1.f6,λU k'=>?_,h.mono (λnb l h H2 v j hl R2 k2 hv=>?_) λe h'=>h'.to K1 (bH.g6 x)⟩
 ·have q:=X1.sys.keep k' (oq eF)
  exact⟨ah.of q.ck,q.glasses.mapR λa b z=>z.named T⟩
 subst hl
 obtain⟨dZ,rfl,bZ,kI⟩:=hv
 have X2:=X1.go (j:=j) R2 k2
 have K2:=K1.sub k2 λs hs=>.inl (bH.g6 x s hs)
 obtain⟨iW,my,fS,_⟩:=R2.ins
 rw[LR.gI (LR.wB (c:=58) (by decide) _ (LR.gW _ _))]at h
 walk_at"l"
 refine aV fS (ib _ _ _ _) ?_
 walk_at"l"
 refine⟨({x.d with i:=j},LR.strOf [58]),by rw[show LR.strOf [58]=Str.ofString ":" by decide +kernel];rfl,R2,X2.f6,?_⟩
 dsimp only
 refine uU (d:={x.d with i:=j}) h K2 (bH.r4 x) (by decide +kernel) (by decide +kernel) λc h=>?_
 intro H3 t3 R3 k3 uS
 have X3:=X2.go R3 k3
 have K3:=K2.sub k3 λs hs=>.inl (bH.g6 x s hs)
 have LC:H3 dZ=some (.lst (bA nb)):=k3.eq _ _ bZ λz=>bY bZ fS (λq=>by cases q) (List.mem_singleton.mp z)
 have h:bj (LR.ua nb []) (rest x.d.b (bp x.d.b j)) (x9 K A x H Q) (bO A x.S4 H E):=h
 walk_at"l"
 refine⟨Nat.zero_le _,λil gF=>?_⟩
 walk_at"l"
 have s4:=au.bc (o:=.lst []) gF
 have K4:=K3.d6 s4
 have LD:il∉x.d.no:=λz=>by
  obtain⟨o,q⟩:=X3.f6 il z
  rw[gF]at q
  cases q
 have Xn:∀b∈il::x.N,b∈x.N∨H3 b=none:=λb hb=>by
  rcases List.mem_cons.mp hb with q|q
  ·exact .inr (q▸gF)
  ·exact .inl q
 have Xo:∀b∈x.gl::x.tl::il::x.N,b∈x.d.no∨H3 b=none:=λb hb=>by
  rw[X.no]
  rcases List.mem_cons.mp hb with q|q
  ·exact .inl (q▸List.mem_cons_self)
  rcases List.mem_cons.mp q with q|q
  ·exact .inl (q▸List.mem_cons_of_mem _ List.mem_cons_self)
  rcases List.mem_cons.mp q with q|q
  ·exact .inr (q▸gF)
  ·exact .inl (List.mem_cons_of_mem _ (List.mem_cons_of_mem _ q))
 have S4:cD K A (il::x.N) (upd H3 il (.lst [])) x.d.sy x.gl x.tl x.gs x.es x.S:=(X3.sys.add Xn).keep s4.eV λb hb=>absurd hb (by simp)
 have R4:dX K A (upd H3 il (.lst [])) {x.d with i:=bp x.d.b j,no:=x.gl::x.tl::il::x.N}:=iZ (LA R3 Xo) s4
 refine⟨by show 3≤sizeLine;decide,λtp uZ=>?_⟩
 have s5:=au.bc (o:=.tup [.str ",",.str ",",.str ";"]) uZ
 refine⟨tp,rfl,⟨_,aY.of aw⟩,sO (K:=K) (a:=tp) (xs:=[.str ",",.str ",",.str ";"]) (λk σ U=>∃(v4 v5:Option V) (vs:List V) (qs:List Rat) (j:Nat),σ=[some (.ref x.d.r),some (.ref t),some (.ref dZ),some (.ref il),v4,v5]∧qs.length=k∧
   dX K A U {x.d with i:=j,no:=x.gl::x.tl::il::x.N}∧cD K A (il::x.N) U x.d.sy x.gl x.tl x.gs x.es x.S∧Here U (il::x.N)∧U il=some (.lst vs)∧Each (bh K U) vs qs∧ax x.S4 H U∧U dZ=some (.lst (bA nb))∧aY K U tp [.str ",",.str ",",.str ";"]∧bj (LR.ua nb qs) (rest x.d.b j) (x9 K A x H Q) (bO A x.S4 H E))
  ⟨none,none,[],[],_,rfl,rfl,iZ R4 s5,S4.keep s5.eV λb hb=>absurd hb (by simp),λb hb=>?_,s5 _ _ aw,Each.nil,K4.d6 s5,s5 _ _ (s4 _ _ LC),aY.of aw,h⟩ (λk σ U _ ⟨_,_,_,_,_,_,_,_,_,_,_,_,_,_,q,_⟩=>q) ?_ ?_⟩
 ·rcases List.mem_cons.mp hb with q|q
  ·exact⟨.lst [],s5 _ _ (by rw[q];exact aw)⟩
  ·obtain⟨o,z⟩:=X3.here b q
   exact⟨o,s5 _ _ (s4 _ _ z)⟩
 ·rintro k y σ H5 hy ⟨v4,v5,vs,qs,j5,rfl,x_,R5,S5,N5,yb,E5,K5,yc,LF,h⟩
  subst x_
  rw[Xl]at hy
  split at hy
  case isFalse=>cases hy
  rename_i Xp
  cases hy
  rw[LR.Q1 nb qs Xp,bJ]at h
  unfold Ln.index at h
  rw[bJ]at h
  obtain⟨x8,LG,pJ,_⟩:=R5.ins
  have u0:Here H5 (x.gl::x.tl::il::x.N):=λb hb=>by
   rcases List.mem_cons.mp hb with q|q
   ·exact⟨_,q▸S5.ck⟩
   rcases List.mem_cons.mp q with q|q
   ·exact⟨_,q▸S5.bu⟩
   ·exact N5 b q
  walk_at"l"
  refine aV pJ (uI _ _ _ _) ?_
  walk_at"l"
  refine⟨{x.d with i:=j5,no:=x.gl::x.tl::il::x.N},rfl,R5,u0,h.mono (λq l h H6 v j6 hl R6 k6 hv=>?_) λe h'=>h'.to K5 (bH.g6 x)⟩
  subst hl
  have K6:=K5.sub k6 λs hs=>.inl (bH.g6 x s hs)
  have Xq:=oq (no:=il::x.N) pJ
  have S6:=S5.keep k6 Xq
  have LH:∀{l:Addr} {xs:List V},H5 l=some (.lst xs)→l∉[x.d.r]:=λhl z=>bY hl pJ (λq=>by cases q) (List.mem_singleton.mp z)
  have LI:=k6.eq _ _ yb (LH yb)
  have LJ:=k6.eq _ _ yc (LH yc)
  have D6:=u0.rd R6 k6
  obtain⟨DJ,Xr,yd,_⟩:=R6.ins
  have E6:Each (bh K H6) vs qs:=E5.imp λ_ _ _ _ _ z=>z.keep k6
  have Xs:=LF.keep k6
  have h:bj (andThen (Ln.mark (LR.ka qs.length)) λe=>andThen (need (decide (1≤q)) 6 e) λ_=>done q) (rest x.d.b j6) _ _:=h
  rw[LR.gI (LR.II (LR.IK _) _ _ (LR.gW _ _))]at h
  obtain⟨tv,rfl,LK⟩:=id hv
  walk_at"l"
  refine aV yd (CM _ _ _ _) ?_
  walk_at"l"
  refine dB LK rfl ?_
  walk_at"l"
  refine dB LK rfl ?_
  walk_at"l"
  rw[Xk]
  refine⟨by show 1≤sizeLine;decide,λp hp=>?_⟩
  walk_at"l"
  have s7:=au.bc (o:=.tup [.str (LR.strOf [LR.ka qs.length])]) hp
  have K7:=K6.d6 s7
  refine⟨(({x.d with i:=j6,no:=x.gl::x.tl::il::x.N},decide (1≤q)),p,[LR.strOf [LR.ka qs.length]]),rfl,iZ R6 s7,D6.same s7,aY.of aw,?_⟩
  dsimp only
  have nE:([LR.strOf [LR.ka qs.length]]:List Str).contains (Str.ofString "end")=false∧([LR.strOf [LR.ka qs.length]]:List Str).contains (Str.ofString "")=false:=by
   have key:∀c∈LR.marks,([LR.strOf [c]]:List Str).contains (Str.ofString "end")=false∧([LR.strOf [c]]:List Str).contains (Str.ofString "")=false:=by decide +kernel
   exact key _ (LR.IK _)
  refine Xi (d:={x.d with i:=j6,no:=x.gl::x.tl::il::x.N}) h K7 (bH.r4 x) λc h=>?_
  rw[bJ,gH]at h
  by_cases q1:1≤q
  ·rw[if_pos (decide_eq_true q1)]at h
   rw[if_pos (decide_eq_true q1)]
   intro H8 R8 k8
   have K8:=K7.sub k8 λs hs=>.inl (bH.g6 x s hs)
   have pK:=s7 _ _ yd
   have S8:=(S6.keep s7.eV λb hb=>absurd hb (by simp)).keep k8 (oq pK)
   have LL:∀{l:Addr} {xs:List V},upd H6 p (.tup [.str (LR.strOf [LR.ka qs.length])]) l=some (.lst xs)→l∉[x.d.r]:=λhl z=>bY hl pK (λq=>by cases q) (List.mem_singleton.mp z)
   have LM:=k8.eq _ _ (s7 _ _ LI) (LL (s7 _ _ LI))
   have LO:=k8.eq _ _ (s7 _ _ LJ) (LL (s7 _ _ LJ))
   have Xt:=(hv.same s7).keep k8
   have D8:=(D6.same s7).rd R8 k8
   obtain⟨Xu,Xv,u4,_⟩:=R8.ins
   walk_at"l"
   refine aV u4 (ib _ _ _ _) ?_
   walk_at"l"
   refine⟨({x.d with i:=j6,no:=x.gl::x.tl::il::x.N},LR.strOf [LR.ka qs.length]),rfl,R8,D8,?_⟩
   dsimp only
   refine uU (d:={x.d with i:=j6,no:=x.gl::x.tl::il::x.N}) h K8 (bH.r4 x) nE.1 nE.2 λc h=>?_
   intro H9 t9 R9 k9 ht9
   have K9:=K8.sub k9 λs hs=>.inl (bH.g6 x s hs)
   have S9:=S8.keep k9 (oq u4)
   have LP:∀{l:Addr} {xs:List V},H8 l=some (.lst xs)→l∉[x.d.r]:=λhl z=>bY hl u4 (λq=>by cases q) (List.mem_singleton.mp z)
   have pL:=k9.eq _ _ LM (LP LM)
   have Xw:=k9.eq _ _ LO (LP LO)
   have DK:=Xt.keep k9
   have D9:=D8.rd R9 k9
   have E9:Each (bh K H9) vs qs:=E6.imp λ_ _ _ _ _ z=>((z.same s7).keep k8).keep k9
   have Xx:=((Xs.same s7).keep k8).keep k9
   walk_at"l"
   refine⟨.inl ⟨rfl,_,ah.of pL⟩,?_⟩
   walk_at"l"
   refine nP pL (by rw[E9.1,show sizeLine=16777216 from sizeLine_eq];omega) ?_
   have kl:ax [il] H9 (upd H9 il (.lst (vs++[.ref tv]))):=fz pL
   have LQ:ax x.S4 H (upd H9 il (.lst (vs++[.ref tv]))):=K9.sub kl λs hs=>.inr (by
    rw[List.mem_singleton.mp hs]
    cases hq:H il with
    |none=>rfl
    |some o=>
     by_cases hm:il∈x.S4
     ·exfalso
      have hn:il∉x.S4:=λz=>by
       rcases List.mem_cons.mp z with z|z
       ·exact bY pL (R9.ins.choose_spec.choose_spec.1) (λq=>by cases q) z
       rcases List.mem_cons.mp z with z|z
       ·obtain⟨dd,hd⟩:=S9.ins
        exact bY pL hd (λq=>by cases q) z
       rcases List.mem_cons.mp z with z|z
       ·exact S9.ic (z▸List.mem_cons_self)
       ·exact S9.jh ((List.mem_singleton.mp z)▸List.mem_cons_self)
      exact hn hm
     ·have q:=K3.eq il o hq hm
      rw[gF]at q
      cases q)
   have mem:il∈x.gl::x.tl::il::x.N:=List.mem_cons_of_mem _ (List.mem_cons_of_mem _ List.mem_cons_self)
   have Xy:dZ≠il:=λz=>by rw[←z,LC]at gF;cases gF
   refine⟨_,_,vs++[.ref tv],qs++[q],bp x.d.b j6,rfl,by rw[List.length_append];rfl,DG R9 pL mem (X.DH LQ),S9.keep kl λb hb=>.inl (by rw[List.mem_singleton.mp hb];exact⟨List.mem_cons_self,_,pL⟩),λb hb=>?_,aw,(E9.imp λ_ _ _ _ _ z=>z.keep kl).append (Each.one (DK.keep kl)),LQ,by rw[aG Xy];exact Xw,Xx.keep kl,h⟩
   by_cases z:b=il
   ·exact⟨.lst (vs++[.ref tv]),by rw[z];exact aw⟩
   ·obtain⟨o,q⟩:=D9 b (List.mem_cons_of_mem _ (List.mem_cons_of_mem _ hb))
    exact⟨o,by rw[aG z];exact q⟩
  ·rw[if_neg (by rw[decide_eq_true_eq];exact q1)]at h
   rw[if_neg (by rw[decide_eq_true_eq];exact q1)]
   exact h.to K7 (bH.g6 x)
 ·rintro σ H5 ⟨v4,v5,vs,qs,j5,rfl,x_,R5,S5,N5,yb,E5,K5,yc,LF,h⟩
  rw[LR.Q2 nb qs x_]at h
  have h:x9 K A x H Q ⟨nb,qs⟩ (rest x.d.b j5):=h
  obtain⟨x8,LG,pJ,_⟩:=R5.ins
  obtain⟨adq,Xz⟩:=S5.ins
  walk_at"l"
  refine mj pJ T.aj ?_
  walk_at"l"
  refine jC Xz T.bf ?_
  refine⟨.inl ⟨rfl,_,ah.of S5.ck⟩,?_⟩
  walk_at"l"
  intro g ik ng DL neg
  refine⟨((g,ik),.ref dZ,.ref il),rfl,aw,rfl,?_⟩
  rw[pC]
  walk_at"l"
  have sg:=kx (o:=.ins A.eE ik (nV (.ref dZ) (.ref il))) ng DL
  have S6:=S5.keep sg.eV λb hb=>absurd hb (by simp)
  obtain⟨q0,q1,q2,rfl⟩:∃q0 q1 q2,qs=[q0,q1,q2]:=by
   match qs,x_ with
   |[a,b,c],_=>exact⟨a,b,c,rfl⟩
  obtain⟨i0,i1,i2,rfl⟩:∃i0 i1 i2,vs=[i0,i1,i2]:=by
   have:=E5.1
   match vs,this with
   |[a,b,c],_=>exact⟨a,b,c,rfl⟩
  have G:gZ K A (x.gl::x.tl::x.N) (ie H5 g ik (.ins A.eE ik (nV (.ref dZ) (.ref il)))) g ⟨nb,[q0,q1,q2]⟩:=by
   refine⟨ik,dZ,il,i0,i1,i2,q0,q1,q2,pB,sg _ _ yc,sg _ _ yb,?_,?_,rfl,(E5.2 0 _ _ rfl rfl).same sg,(E5.2 1 _ _ rfl rfl).same sg,(E5.2 2 _ _ rfl rfl).same sg⟩
   ·have q:dZ∉x.d.no:=kI
    rw[X.no]at q
    exact q
   ·rw[X.no]at LD
    exact LD
  refine nP S6.ck (by rw[List.length_map,S5.glasses.1,show sizeLine=16777216 from sizeLine_eq];omega) ?_
  have S7:=(S6.add (no':=x.N) λb hb=>.inl (List.mem_cons_of_mem _ hb)).Xj G
  have kg:ax [x.gl] (ie H5 g ik (.ins A.eE ik (nV (.ref dZ) (.ref il)))) (upd (ie H5 g ik (.ins A.eE ik (nV (.ref dZ) (.ref il)))) x.gl (.lst (x.gs.map .ref++[.ref g]))):=fz S6.ck
  have K7:=(K5.d6 sg).sub kg λs hs=>.inl (by rw[List.mem_singleton.mp hs];exact List.mem_cons_of_mem _ (List.mem_cons_of_mem _ List.mem_cons_self))
  have R7:=DG (o:=.lst (x.gs.map .ref++[.ref g])) (iZ R5 sg) S6.ck List.mem_cons_self (X.DH K7)
  refine h _ j5 (x.gs++[g]) rfl ⟨LA R7 (no':=x.d.no) λb hb=>.inl ?_,X.no,λb hb=>?_,S7,X.tg,X.tt,?_,X.uW⟩ K7
  ·rw[X.no]at hb
   rcases List.mem_cons.mp hb with q|q
   ·exact q▸List.mem_cons_self
   rcases List.mem_cons.mp q with q|q
   ·exact q▸List.mem_cons_of_mem _ List.mem_cons_self
   ·exact List.mem_cons_of_mem _ (List.mem_cons_of_mem _ (List.mem_cons_of_mem _ q))
  ·obtain⟨o,q⟩:=N5 b (List.mem_cons_of_mem _ hb)
   exact⟨o,kg.eq b o (sg _ _ q) λz=>S6.ic (by rw[←List.mem_singleton.mp z];exact List.mem_cons_of_mem _ hb)⟩
  ·show(x.S.glasses++[_]).length≤16
   rw[List.length_append]
   exact ou
end
end LN
namespace LN
open PySem PySem.Spec PyProof.Rows L2 LX
open Ln (Bytes Lex andThen done need peek number value curveIn)
open LR (aO valOf nameOf aL bp rest bj bJ gH bL et)
def LS(K:PySem.W.Frag)(A:Ad)(x:RS)(H:Hp)(Q:VK):List Ln.Glass→List Lex→Prop:=λgl l=>
 ∀U j uX,l=rest x.d.b j→bH K A U {x with d:={x.d with i:=j},gs:=uX,S:={x.S with glasses:=gl}}→ax x.S4 H U→Q .aJ U
def LU(K:PySem.W.Frag)(A:Ad):Sp:=aU (λ(x:RS)=>[.ref x.d.r]) λx H Q E=>bH K A H x∧x.S.glasses=[]∧bj (andThen (Ln.glass []) λg=>Ln.glassesIn (Ln.GLASSES+1) [g]) (rest x.d.b x.d.i) (LS K A x H Q) (bO A x.S4 H E)
def ye(names:List Bytes):Ln.P Nat:=andThen (Ln.word "start") λ_=>andThen (LR.t5 names) λm=>andThen (Ln.mark 59) λ_=>done m
def LV(K:PySem.W.Frag)(A:Ad):Sp:=aU (λ(x:RS)=>[.ref x.d.r]) λx H Q E=>bH K A H x∧bj (ye (x.S.glasses.map λg=>g.name)) (rest x.d.b x.d.i)
 (λm l=>∀U j,l=rest x.d.b j→bH K A U {x with d:={x.d with i:=j},S:={x.S with start:=m}}→ax x.S4 H U→Q .aJ U) (bO A x.S4 H E)
section
variable{K:PySem.W.Frag}{A:Ad}{no:List Addr}{H:Hp}{s gl tl dx:Addr}{S:Ln.System_}{gs es:List Addr}{d:RD}{o:HO}
theorem cD.XA(h:cD K A no H s gl tl gs es S)(hi:H s=some (.ins A.bf dx (fN (.ref gl) (.int S.start) (.ref tl))))(m:Nat):cD K A no (upd H s (.ins A.bf dx (fN (.ref gl) (.int m) (.ref tl)))) s gl tl gs es {S with start:=m}:=by
 have k:ax [s] H (upd H s (.ins A.bf dx (fN (.ref gl) (.int m) (.ref tl)))):=fc hi
 refine⟨⟨dx,aw⟩,by rw[aG (bY h.ck hi λz=>by cases z)];exact h.ck,by rw[aG (bY h.bu hi λz=>by cases z)];exact h.bu,h.ne,h.ic,h.jh,h.nd,h.glasses.imp λ_ _ _ _ _ q=>q.keep k λb hb=>?_,h.elems.imp λ_ _ _ _ _ q=>q.keep k λb hb=>?_⟩
 ·rw[List.mem_singleton.mp hb]
  obtain⟨bQ,nm,il,i0,i1,i2,q0,q1,q2,h1,_⟩:=q
  exact .inr ⟨fP h1 hi (by decide +kernel),_,_,_,hi⟩
 ·rw[List.mem_singleton.mp hb]
  obtain⟨bQ,nm,gp,cv,cn,rc,h1,_⟩:=q
  exact .inr ⟨fP h1 hi (by decide +kernel),_,_,_,hi⟩
theorem XB{a b c:V}(R:dX K A H d)(hs:H s=some (.ins A.bf dx (fN a b c))):dX K A (upd H s o) d:=by
 obtain⟨bQ,tk,hR,eK⟩:=R.ins
 have k:=fc (o:=o) hs
 refine⟨⟨bQ,tk,by rw[aG (fP hR hs (by decide +kernel))];exact hR,eK.imp id λ⟨t,e,z,ht⟩=>⟨t,e,z,ht.keep k λb hb=>?_⟩⟩,ah.off R.txt k λb hb=>.inl (by rw[List.mem_singleton.mp hb];exact⟨_,_,_,hs⟩),R.le⟩
 rw[List.mem_singleton.mp hb]
 obtain⟨iW,Lm,Lo,h1,_⟩:=ht
 exact .inr ⟨fP h1 hs (by decide +kernel),_,_,_,hs⟩
end
section
variable{P:Program}{w:World}{K:PySem.W.Frag}{mg:Str→Option Value}{base:Heap}{A:Ad}
theorem XE(T:Txt K mg A)(D:bx K A.aj "read_glasses" "Reader.read_glasses" Bx ["self"])(fQ:aP P w K mg base (aX P w) 6 A.aj "ahead" ["self"] (n8 K A))(yf:aP P w K mg base (aX P w) 11 A.aj "read_glass" ["self"] (LB K A)):aP P w K mg base (aX P w) 12 A.aj "read_glasses" ["self"] (LU K A):=by
 refine D.eH Uu (λ_=>rfl) λf ay Ar outer s H x Q E hr h=>?_
 obtain⟨X,h0,h⟩:=h
 rw[bJ]at h
 obtain⟨dx,tk,hR,eK⟩:=X.rd.ins
 refine⟨_,(af (bq (d_ (pv 0) T.aj.cl yf (hr.mono (by decide)) bC))
   (ai (mX PassesOwn.leaving (aW bU (aB (d_ (pv 0) T.aj.cl fQ (hr.mono (by decide)) bC) rfl) bS (aR _)) (ai (bq (d_ (pv 0) T.aj.cl yf (hr.mono (by decide)) bC)))))),?_⟩
 show ba _ _ _ [some (.ref x.d.r)] H
 walk_at"l"
 refine aV hR (Km _ _ _ _) ?_
 walk_at"l"
 refine⟨x,rfl,X,?_⟩
 rw[h0]
 refine h.mono (λg l h H1 j XF hl X1 k1=>?_) λe h'=>h'
 subst hl
 rw[h0]at X1
 walk_at"l"
 refine nY (λm σ U=>∃(j:Nat) (uX:List Addr) (l:List Ln.Glass),σ=[some (.ref x.d.r)]∧bH K A U {x with d:={x.d with i:=j},gs:=uX,S:={x.S with glasses:=l}}∧ax x.S4 H U∧18≤l.length+m∧bj (Ln.glassesIn m l) (rest x.d.b j) (LS K A x H Q) (bO A x.S4 H E)) (m:=17)
  ⟨j,XF,[g],rfl,X1,k1,by show 18≤1+17;decide,h⟩ ?_
 rintro m σ H2 ⟨j2,DM,l2,rfl,X2,k2,hm,h⟩
 have wb:l2.length≤16:=X2.uV
 obtain⟨m',rfl⟩:∃m',m=m'+1:=⟨m-1,by omega⟩
 obtain⟨iW,my,fS,_⟩:=X2.rd.ins
 unfold Ln.glassesIn at h
 have q:=Ly (d:={x.d with i:=j2}) h k2 (bH.r4 x)
 walk_at"l"
 refine aV fS (pw _ _ _ _) ?_
 walk_at"l"
 refine⟨{x.d with i:=j2},rfl,X2.rd,X2.f6,q.1,λz H3 t R3 k3 ht=>?_⟩
 have h:=q.2 z
 have X3:=X2.go (j:=j2) R3 k3
 have K3:=k2.sub k3 λs hs=>.inl (bH.g6 x s hs)
 obtain⟨lD,jG,mx,eO,_⟩:=id ht
 obtain⟨lE,oh,fR,_⟩:=X3.rd.ins
 walk_at"l"
 refine ku eO T.bG ?_
 walk_at"l"
 have ew:(aL x.d.b j2).isWord "glass"=decide (aO (aL x.d.b j2).tok=Str.ofString "glass"):=LR.j0 (LR.nA _ _) (by decide)
 dsimp only at h
 by_cases hk:aO (aL x.d.b j2).tok=Str.ofString "glass"
 ·rw[ew,if_pos (decide_eq_true hk),bJ]at h
  rw[if_pos (decide_eq_true hk)]
  refine⟨_,λ_ _ q=>q,?_⟩
  walk_at"l"
  refine aV fR (Km _ _ _ _) ?_
  walk_at"l"
  refine⟨{x with d:={x.d with i:=j2},gs:=DM,S:={x.S with glasses:=l2}},rfl,X3,h.mono (λg l h H4 j4 XG hl X4 k4=>?_) λe h'=>h'.to K3 λ_ hs=>hs⟩
  subst hl
  walk_at"l"
  refine⟨m',Nat.lt_succ_self _,j4,XG,l2++[g],rfl,X4,K3.trans k4,by rw[List.length_append];show 18≤l2.length+1+m';omega,h⟩
 ·rw[ew,if_neg (by rw[decide_eq_true_eq];exact hk)]at h
  rw[if_neg (by rw[decide_eq_true_eq];exact hk)]
  exact h H3 j2 DM rfl X3 K3
theorem XH(T:Txt K mg A)(D:bx K A.aj "read_start" "Reader.read_start" By ["self"])(dH:aP P w K mg base (aX P w) 9 A.aj "take" ["self","kind"] (kJ K A))(rM:aP P w K mg base (aX P w) 10 A.aj "take_glass_number" ["self"] (DF K A)):aP P w K mg base (aX P w) 11 A.aj "read_start" ["self"] (LV K A):=by
 refine D.eH Uv (λ_=>rfl) λf ay Ar outer s H x Q E hr h=>?_
 obtain⟨X,h⟩:=h
 unfold ye at h
 rw[LR.gI (LR.tS (w:="start") (by decide) _ (LR.gW x.d.b x.d.i))]at h
 obtain⟨dx,tk,hR,eK⟩:=X.rd.ins
 refine⟨_,(af (bq (bD (pv 0) T.aj.cl dH (hr.mono (by decide)) bC (aa bS ae)))
   (af (bI (aB (pv 0) rfl) (d_ (pv 0) T.aj.cl rM (hr.mono (by decide)) bC) rfl)
   (ai (bq (bD (pv 0) T.aj.cl dH (hr.mono (by decide)) bC (aa bS ae)))))),?_⟩
 show ba _ _ _ [some (.ref x.d.r)] H
 walk_at"l"
 refine aV hR (ib _ _ _ _) ?_
 walk_at"l"
 refine⟨(x.d,Str.ofString "start"),rfl,X.rd,X.f6,?_⟩
 dsimp only
 refine uU h (ax.refl X.mu) (bH.r4 x) (by decide +kernel) (by decide +kernel) λc h=>?_
 intro H1 t R1 k1 ht
 have X1:=X.go R1 k1
 have K1:=ax.weak k1 (bH.g6 x) X.mu
 obtain⟨oo,rH,eF,_⟩:=R1.ins
 rw[bJ]at h
 walk_at"l"
 refine aV eF (Kk _ _ _ _) ?_
 walk_at"l"
 refine⟨({x.d with i:=bp x.d.b x.d.i},x.S.glasses.map λg=>g.name),rfl,R1,X1.f6,λU k'=>?_,h.mono (λm l h H2 v j hl R2 k2 hv=>?_) λe h'=>h'.to K1 (bH.g6 x)⟩
 ·have q:=X1.sys.keep k' (oq eF)
  obtain⟨g5,hi⟩:=q.ins
  exact⟨g5,x.gl,_,_,x.gs,hi,ah.of q.ck,q.glasses.mapR λa b z=>z.named T⟩
 subst hl
 subst hv
 have X2:=X1.go (j:=j) R2 k2
 have K2:=K1.sub k2 λs hs=>.inl (bH.g6 x s hs)
 obtain⟨iW,my,fS,_⟩:=R2.ins
 obtain⟨g5,pM⟩:=X2.sys.ins
 walk_at"l"
 refine mj fS T.aj ?_
 walk_at"l"
 refine Kg pM T.bf ?_
 have ks:ax [x.d.sy] H2 (upd H2 x.d.sy (.ins A.bf g5 (fN (.ref x.gl) (.int m) (.ref x.tl)))):=fc pM
 have K3:=K2.sub ks λs hs=>.inl (by rw[List.mem_singleton.mp hs];exact List.mem_cons_of_mem _ List.mem_cons_self)
 have R3:=XB (o:=.ins A.bf g5 (fN (.ref x.gl) (.int m) (.ref x.tl))) R2 pM
 have X3:bH K A (upd H2 x.d.sy (.ins A.bf g5 (fN (.ref x.gl) (.int m) (.ref x.tl)))) {x with d:={x.d with i:=j},S:={x.S with start:=m}}:=
  ⟨R3,X.no,X2.here.keep ks λb hb=>⟨.ins A.bf g5 (fN (.ref x.gl) (.int m) (.ref x.tl)),by rw[List.mem_singleton.mp hb];exact aw⟩,X2.sys.XA pM m,X.tg,X.tt,X.uV,X.uW⟩
 obtain⟨lE,oh,fR,_⟩:=R3.ins
 rw[LR.gI (LR.wB (c:=59) (by decide) _ (LR.gW _ _))]at h
 walk_at"l"
 refine aV fR (ib _ _ _ _) ?_
 walk_at"l"
 refine⟨({x.d with i:=j},LR.strOf [59]),by rw[show LR.strOf [59]=Str.ofString ";" by decide +kernel];rfl,R3,X3.f6,?_⟩
 dsimp only
 refine uU (d:={x.d with i:=j}) h K3 (bH.r4 x) (by decide +kernel) (by decide +kernel) λc h=>?_
 intro H4 t4 R4 k4 oj
 walk_at"l"
 exact h H4 _ rfl (X3.go R4 k4) (K3.sub k4 λs hs=>.inl (bH.g6 x s hs))
end
end LN
namespace LN
open PySem PySem.Spec PyProof.Rows L2 LX
open Ln (Bytes Lex andThen done need peek number value curveIn)
open LR (aO valOf nameOf aL bp rest bj bJ gH bL et)
theorem mC{t u:TS}{D:Ends}{σ:List (Option V)}{H:Hp}(J:List (Option V)→Hp→Prop)(h1:∀az U,J az U→u D az U)(h2:(∀az U,J az U→u D az U)→t {D with nx:=u D} σ H):ba t u D σ H:=h2 h1
theorem XI{H:Hp}{a b C C' dx bQ:Addr}{k k' k2 yg:Str}{v v' v2 XJ:V}{r r':List (Str×V)}(h:H a=some (.ins C dx ((k,v)::(k2,v2)::r)))(h':H b=some (.ins C' bQ ((k',v')::(yg,XJ)::r')))(n:k2≠yg):a≠b:=
 bY h h' λz=>n (by injection z with _ _ z;injection z with _ z;injection z with z _;injection z)
theorem ow{S:List Addr}{H H1:Hp}{e:Addr}(k:ax S H H1)(here:∀s∈S,∃o,H1 s=some o)(n:H1 e=none):H e=none:=by
 cases h:H e with
 |none=>rfl
 |some o=>
  by_cases m:e∈S
  ·obtain⟨o',q⟩:=here e m
   rw[n]at q;cases q
  ·rw[k.eq e o h m]at n;cases n
theorem yh{α β:Type}{p q:Ln.P α}{f:α→Ln.P β}{l:List Lex}(h:p l=q l):andThen p f l=andThen q f l:=by
 unfold andThen;rw[h]
section
variable{K:PySem.W.Frag}{A:Ad}{H U H0:Hp}{e dx nm:Addr}{x:RS}{d:RD}{o:HO}{v0 v1 v2 v3 v4 v5 v6:V}{nb:Bytes}{j:Nat}
theorem XM(R:dX K A H d)(hs:H e=some (.ins A.aQ dx (bN v0 v1 v2 v3 v4 v5 v6))):dX K A (upd H e o) d:=by
 obtain⟨bQ,tk,hR,eK⟩:=R.ins
 have k:=fc (o:=o) hs
 refine⟨⟨bQ,tk,by rw[aG (fP hR hs (by decide +kernel))];exact hR,eK.imp id λ⟨t,e,z,ht⟩=>⟨t,e,z,ht.keep k λb hb=>?_⟩⟩,ah.off R.txt k λb hb=>.inl (by rw[List.mem_singleton.mp hb];exact⟨_,_,_,hs⟩),R.le⟩
 rw[List.mem_singleton.mp hb]
 obtain⟨iW,Lm,Lo,h1,_⟩:=ht
 exact .inr ⟨XI h1 hs (by decide +kernel),_,_,_,hs⟩
structure kK(K:PySem.W.Frag)(A:Ad)(H0 H:Hp)(x:RS)(e dx nm:Addr)(nb:Bytes)(j:Nat)(fs:List (Str×V)):Prop where
 rd:dX K A H {x.d with i:=j}
 kp:ax [x.d.r] H0 H
 el:H e=some (.ins A.aQ dx fs)
 nl:H nm=some (.lst (bA nb))
 no:H0 e=none
theorem kK.go(h:kK K A H0 H x e dx nm nb j (bN v0 v1 v2 v3 v4 v5 v6)){j':Nat}(R:dX K A U {x.d with i:=j'})(k:ax [x.d.r] H U):kK K A H0 U x e dx nm nb j' (bN v0 v1 v2 v3 v4 v5 v6):=by
 obtain⟨bQ,tk,hR,_⟩:=h.rd.ins
 exact⟨R,h.kp.trans k,k.eq _ _ h.el λz=>fP h.el hR (by decide +kernel) (List.mem_singleton.mp z),k.eq _ _ h.nl λz=>bY h.nl hR (λq=>by cases q) (List.mem_singleton.mp z),h.no⟩
theorem kK.put{w0 w1 w2 w3 w4 w5 w6:V}(h:kK K A H0 H x e dx nm nb j (bN v0 v1 v2 v3 v4 v5 v6)):kK K A H0 (upd H e (.ins A.aQ dx (bN w0 w1 w2 w3 w4 w5 w6))) x e dx nm nb j (bN w0 w1 w2 w3 w4 w5 w6):=
 ⟨XM h.rd h.el,h.kp.sub (fc h.el) λs hs=>.inr (by rw[List.mem_singleton.mp hs];exact h.no),aw,by rw[aG (bY h.nl h.el λq=>by cases q)];exact h.nl,h.no⟩
theorem kK.u5{w0 w1 w2 w3 w4 w5 w6:V}(h:kK K A H0 H x e dx nm nb j (bN v0 v1 v2 v3 v4 v5 v6)):ax [e] H (upd H e (.ins A.aQ dx (bN w0 w1 w2 w3 w4 w5 w6))):=fc h.el
end
def DN(K:PySem.W.Frag)(A:Ad)(x:RS)(H:Hp)(Q:VK):Ln.Elem→List Lex→Prop:=λe l=>
 ∀U j a,l=rest x.d.b j→x.S.elems.length<16→bH K A U {x with d:={x.d with i:=j}}→ax [x.d.r] H U→H a=none→eX K A x.d.no U a e→Q (.ref a) U
def DO(K:PySem.W.Frag)(A:Ad):Sp:=aU (λ(x:RS)=>[.ref x.d.r]) λx H Q E=>bH K A H x∧bj (Ln.elem x.S.glasses x.S.elems) (rest x.d.b x.d.i) (DN K A x H Q) (bO A [x.d.r] H E)
section
variable{P:Program}{w:World}{K:PySem.W.Frag}{mg:Str→Option Value}{base:Heap}{A:Ad}
set_option maxHeartbeats 8000000 in
theorem XN(T:Txt K mg A)(GF:jj P w K mg base A)(D:bx K A.aj "take_thing" "Reader.take_thing" BC ["self"])(dH:aP P w K mg base (aX P w) 9 A.aj "take" ["self","kind"] (kJ K A))(jF:aP P w K mg base (aX P w) 8 A.aj "take_among" ["self","kinds"] (uQ K A))(rL:aP P w K mg base (aX P w) 10 A.aj "take_new_name" ["self","named"] (DE K A))(jn:aP P w K mg base (aX P w) 10 A.aj "take_number" ["self"] (iX K A number (iY K)))(rM:aP P w K mg base (aX P w) 10 A.aj "take_glass_number" ["self"] (DF K A))(DP:aP P w K mg base (aX P w) 12 A.aj "take_curve" ["self"] (iX K A LR.t_ (iY K)))(DQ:aP P w K mg base (aX P w) 12 A.aj "take_conic" ["self"] (iX K A LR.t6 (iY K)))(DR:aP P w K mg base (aX P w) 11 A.aj "take_reach" ["self"] (iX K A LR.t8 (iY K)))(DS:Maker P w K mg base ao 1 A.aQ "Element" ["self","kind","name"] (Lv A)):
  aP P w K mg base (aX P w) 13 A.aj "take_thing" ["self"] (DO K A):=by
 obtain⟨fI,kD,xF,fh,fi,bF⟩:=GF
 refine D.eH xH (λ_=>rfl) λf ay Ar outer s H x Q E hr h=>?_
 obtain⟨X,h⟩:=h
 unfold Ln.elem at h
 rw[LR.gI (LR.Q5 _ _ (LR.gW x.d.b x.d.i))]at h
 obtain⟨dx,tk,hR,eK⟩:=X.rd.ins
 refine⟨_,(af (a9 (i:=1) xH.nd rfl (Or.inl rfl) (bD (pv 0) T.aj.cl jF (hr.mono (by decide)) bC (aa (aF T.CS) ae)))
   (af (bb (aW bU (eB fK (by rfl) T.fO PySem.boot_len (aa (aB (aB (pv 0) rfl) rfl) ae)) (aF T.VI) (aR _)) (ai (lr xF fh (hr.mono (by decide)) rfl fi bF rfl kh (aa (aF T.Kr) (aa (aB (pv 1) rfl) ae)))) bo)
   (af (a9 (i:=2) xH.nd rfl (Or.inl rfl) (bD (pv 0) T.aj.cl rL (hr.mono (by decide)) bC (aa (aB (aB (pv 0) rfl) rfl) ae)))
   (af (a9 (i:=3) xH.nd rfl (Or.inl rfl) (lu DS (hr.mono (by decide)) aD (aa (gT PySem.F.plainAttrs_tuple PySem.F.slot_tuple_index PySem.F.type_tuple_index Sr (aF T.CS) (aa (aB (pv 1) rfl) ae)) (aa (pv 2) ae))))
   (af (bq (bD (pv 0) T.aj.cl dH (hr.mono (by decide)) bC (aa bS ae)))
   (af (bI (pv 3) (d_ (pv 0) T.aj.cl jn (hr.mono (by decide)) bC) rfl)
   (af (bb (aW bU (aB (pv 3) rfl) (aF T.xQ) (aR _)) (af (bq (bD (pv 0) T.aj.cl dH (hr.mono (by decide)) bC (aa bS ae)))
   (ai (bI (pv 3) (d_ (pv 0) T.aj.cl rM (hr.mono (by decide)) bC) rfl))) bo)
   (af (bb (aW lg (aB (pv 3) rfl) (aF T.CU) (aR _)) (af (bI (pv 3) (d_ (pv 0) T.aj.cl DP (hr.mono (by decide)) bC) rfl)
   (ai (bI (pv 3) (d_ (pv 0) T.aj.cl DQ (hr.mono (by decide)) bC) rfl))) bo)
   (af (bI (pv 3) (d_ (pv 0) T.aj.cl DR (hr.mono (by decide)) bC) rfl)
   (af (bq (bD (pv 0) T.aj.cl dH (hr.mono (by decide)) bC (aa bS ae)))
   (ai (aH (pv 3))))))))))))),?_⟩
 show ba _ _ _ [some (.ref x.d.r),none,none,none] H
 walk_at"l"
 refine aV hR (xN _ _ _ _) ?_
 walk_at"l"
 refine⟨(x.d,A.mm,LR.qM),rfl,X.rd,X.f6,T.CT H,?_⟩
 dsimp only
 refine jm h (ax.refl X.rd.mu) (by decide +kernel) (by decide +kernel) λc h=>?_
 intro H1 t R1 k1 ht
 have X1:=X.go R1 k1
 obtain⟨oo,rH,eF,_⟩:=R1.ins
 obtain⟨g5,uY⟩:=X1.sys.ins
 obtain⟨lD,jG,mx,eO,_⟩:=id ht
 rw[bJ,gH]at h
 walk_at"l"
 refine mj eF T.aj ?_
 walk_at"l"
 refine eW uY T.bf ?_
 walk_at"l"
 refine⟨_,_,rfl,.inl (ah.of X1.sys.bu),?_⟩
 walk_at"l"
 have el:((x.es.map V.ref).length:Int)=(x.S.elems.length:Int):=by rw[List.length_map,X.sys.elems.1]
 have ele:=X.uW
 refine fm (λhz=>?_) λhz=>?_
 ·have hz:=of_decide_eq_true hz
  dsimp only at hz
  rw[el]at hz
  rw[if_neg (by rw[decide_eq_true_eq];show¬(x.S.elems.length<16);omega)]at h
  with_reducible refine gO ?_
  walk_at"l"
  refine pq eO T.bG ?_
  walk_at"l"
  exact gP h k1
 have hz:¬_:=λz=>hz (decide_eq_true z)
 dsimp only at hz
 rw[el]at hz
 have ou:x.S.elems.length<16:=by omega
 rw[if_pos (decide_eq_true (show x.S.elems.length<Ln.ELEMS from ou))]at h
 rw[LR.gI (LR.IG (λg:Ln.Elem=>g.name) x.S.elems (λnb=>andThen (Ln.word "after") λ_=>andThen number λg=>Ln.elemRest x.S.glasses (aL x.d.b x.d.i) nb g) (LR.gW _ _)),bJ]at h
 walk_at"l"
 refine aV eF (Kj _ _ _ _) ?_
 walk_at"l"
 refine mj eF T.aj ?_
 walk_at"l"
 refine eW uY T.bf ?_
 walk_at"l"
 refine⟨({x.d with i:=bp x.d.b x.d.i},x.tl,x.es,x.S.elems.map λg=>g.name),rfl,R1,X1.f6,λU k'=>?_,h.mono (λnb l h H2 v j hl R2 k2 hv=>?_) λe h'=>h'.after k1⟩
 ·have q:=X1.sys.keep k' (oq eF)
  exact⟨ah.of q.bu,q.elems.mapR λa b z=>z.named T⟩
 subst hl
 obtain⟨dZ,rfl,bZ,kI⟩:=hv
 have K2:=k1.trans k2
 have mw:=ht.keep k2 (lC ht eF)
 obtain⟨adu,adv,adw,og,_⟩:=id mw
 have tok:LR.h_ (aL x.d.b x.d.i).tok:=LR.nA _ _
 walk_at"l"
 refine⟨.inr (.inl ⟨rfl,T.Wb⟩),?_⟩
 walk_at"l"
 refine ku og T.bG ?_
 walk_at"l"
 have XQ:∃kn:Nat,((aO (aL x.d.b x.d.i).tok=Str.ofString "surface"∧kn=0)∨(aO (aL x.d.b x.d.i).tok≠Str.ofString "surface"∧aO (aL x.d.b x.d.i).tok=Str.ofString "mirror"∧kn=1)∨(aO (aL x.d.b x.d.i).tok≠Str.ofString "surface"∧aO (aL x.d.b x.d.i).tok≠Str.ofString "mirror"∧aO (aL x.d.b x.d.i).tok=Str.ofString "stop"∧kn=2)):=by
  rcases LR.IM x.S.glasses tok c nb 0 with⟨a,_⟩|⟨a,b,_⟩|⟨a,b,c,_⟩
  ·exact⟨0,.inl ⟨a,rfl⟩⟩
  ·exact⟨1,.inr (.inl ⟨a,b,rfl⟩)⟩
  ·exact⟨2,.inr (.inr ⟨a,b,c,rfl⟩)⟩
 obtain⟨kn,yi⟩:=XQ
 refine⟨A.mm,_,_,_,_,kn,rfl,rfl,T.CT _,yi,?_⟩
 walk_at"l"
 intro e b_ ng DL neg
 refine⟨((e,b_),.int kn,.ref dZ),rfl,aw,rfl,?_⟩
 rw[pC]
 walk_at"l"
 have sg:=kx (o:=.ins A.aQ b_ (bN (.int kn) (.ref dZ) (.ref A.bz) (.int 0) (.ref A.bz) (.ref A.bz) (.ref A.bz))) ng DL
 have T3:kK K A H (ie H2 e b_ (.ins A.aQ b_ (bN (.int kn) (.ref dZ) (.ref A.bz) (.int 0) (.ref A.bz) (.ref A.bz) (.ref A.bz)))) x e b_ dZ nb j (bN (.int kn) (.ref dZ) (.ref A.bz) (.int 0) (.ref A.bz) (.ref A.bz) (.ref A.bz)):=
  ⟨iZ R2 sg,K2.d6 sg,pB,sg _ _ bZ,ow K2 R2.here ng⟩
 obtain⟨lE,oh,fR,_⟩:=T3.rd.ins
 rw[LR.gI (LR.tS (w:="after") (by decide) _ (LR.gW _ _))]at h
 refine aV fR (ib _ _ _ _) ?_
 walk_at"l"
 refine⟨({x.d with i:=j},Str.ofString "after"),rfl,T3.rd,(X.go T3.rd T3.kp).f6,?_⟩
 dsimp only
 refine jm (d:={x.d with i:=j}) h T3.kp (by decide +kernel) (by decide +kernel) λc4 h=>?_
 intro H4 t4 R4 k4 oj
 have T4:=T3.go R4 k4
 obtain⟨Lr,XR,DT,_⟩:=T4.rd.ins
 rw[bJ]at h
 walk_at"l"
 refine aV DT (uI _ _ _ _) ?_
 walk_at"l"
 refine⟨{x.d with i:=bp x.d.b j},rfl,R4,(X.go R4 T4.kp).f6,h.mono (λg l h H5 gv j5 hl R5 k5 hg=>?_) λe h'=>h'.after T4.kp⟩
 subst hl
 have T5:=T4.go R5 k5
 walk_at"l"
 refine uF T5.el T.aQ ?_
 have T6:=T5.put (w0:=.int kn) (w1:=.ref dZ) (w2:=gv) (w3:=.int 0) (w4:=.ref A.bz) (w5:=.ref A.bz) (w6:=.ref A.bz)
 have DU:=hg.keep (T5.u5 (w0:=.int kn) (w1:=.ref dZ) (w2:=gv) (w3:=.int 0) (w4:=.ref A.bz) (w5:=.ref A.bz) (w6:=.ref A.bz))
 with_reducible refine mC (λaz U=>∃kd j,az=[some (.ref x.d.r),some (.ref t),some (.ref dZ),some (.ref e)]∧kK K A H U x e b_ dZ nb j (bN (.int (kN kd)) (.ref dZ) gv (.int (gN kd)) (.ref A.bz) (.ref A.bz) (.ref A.bz))∧bh K U gv g∧bj (LR.qN nb g kd) (rest x.d.b j) (DN K A x H Q) (bO A [x.d.r] H E)) ?_ ?_
 ·rintro az H7 ⟨kd,j7,rfl,T7,u6,h⟩
  with_reducible refine mC (λaz U=>∃j cv cn c k,az=[some (.ref x.d.r),some (.ref t),some (.ref dZ),some (.ref e)]∧kK K A H U x e b_ dZ nb j (bN (.int (kN kd)) (.ref dZ) gv (.int (gN kd)) cv cn (.ref A.bz))∧bh K U gv g∧bh K U cv c∧bh K U cn k∧
   bj (andThen Ln.clearEnd λcl=>done ⟨nb,g,kd,c,k,cl⟩) (rest x.d.b j) (DN K A x H Q) (bO A [x.d.r] H E)) ?_ ?_
  ·rintro az H8 ⟨j8,cv,cn,c8,k8,rfl,T8,XS,DV,XT,h⟩
   rw[LR.gI (yh (LR.QU (LR.gW _ _) (LR.IH _ _))),LR.eD,bJ]at h
   obtain⟨Xu,Xv,u4,_⟩:=T8.rd.ins
   walk_at"l"
   refine aV u4 (Vs _ _ _ _) ?_
   walk_at"l"
   refine⟨{x.d with i:=j8},rfl,T8.rd,(X.go T8.rd T8.kp).f6,h.mono (λrq l h H9 rv j9 hl R9 k9 XU=>?_) λe h'=>h'.after T8.kp⟩
   subst hl
   have T9:=T8.go R9 k9
   walk_at"l"
   refine CI T9.el T.aQ ?_
   have lG:=T9.put (w0:=.int (kN kd)) (w1:=.ref dZ) (w2:=gv) (w3:=.int (gN kd)) (w4:=cv) (w5:=cn) (w6:=rv)
   have yj:=T9.u5 (w0:=.int (kN kd)) (w1:=.ref dZ) (w2:=gv) (w3:=.int (gN kd)) (w4:=cv) (w5:=cn) (w6:=rv)
   obtain⟨adx,ady,XW,_⟩:=lG.rd.ins
   rw[LR.eD]at h
   walk_at"l"
   refine aV XW (ib _ _ _ _) ?_
   walk_at"l"
   refine⟨({x.d with i:=j9},LR.semi),by rw[show LR.semi=Str.ofString ";" by decide +kernel];rfl,lG.rd,(X.go lG.rd lG.kp).f6,?_⟩
   dsimp only
   refine jm (d:={x.d with i:=j9}) h lG.kp (by decide +kernel) (by decide +kernel) λc h=>?_
   intro XX t11 LW u7 adz
   have pN:=lG.go LW u7
   walk_at"l"
   refine h XX _ e rfl ou (X.go LW pN.kp) pN.kp pN.no ⟨b_,dZ,gv,cv,cn,rv,pN.el,pN.nl,kI,((XS.keep k9).keep yj).keep u7,((DV.keep k9).keep yj).keep u7,((XT.keep k9).keep yj).keep u7,?_⟩
   rw[show(⟨nb,g,kd,c8,k8,LR.o9 rq⟩:Ln.Elem).clear.getD 0=rq from LR.IP rq]
   exact(XU.keep yj).keep u7
  ·intro tail
   walk_at"l"
   refine ko T7.el T.aQ ?_
   walk_at"l"
   by_cases hs:kd.isStop=true
   ·have ek:kN kd=2:=by
     cases kd with
     |surface m=>cases hs
     |mirror=>cases hs
     |halt_=>rfl
    unfold LR.qN at h
    rw[if_pos hs]at h
    rw[ek,if_neg (by decide)]
    rw[ek]at T7
    refine tail _ _ ⟨j7,_,_,0,0,rfl,by rw[ek];exact T7,u6,g4 T _,g4 T _,h⟩
   ·have ek:kN kd≠2:=by
     cases kd with
     |surface m=>show(0:Nat)≠2;decide
     |mirror=>show(1:Nat)≠2;decide
     |halt_=>exact absurd rfl hs
    unfold LR.qN at h
    rw[if_neg hs,LR.QS,LR.eD,LR.gI (yh (LR.QY (LR.IH _ _))),bJ]at h
    rw[if_pos (by rw[Bool.not_eq_true',decide_eq_false_iff_not];omega)]
    obtain⟨rN,XY,pK,_⟩:=T7.rd.ins
    walk_at"l"
    refine aV pK (Vq _ _ _ _) ?_
    walk_at"l"
    refine⟨{x.d with i:=j7},rfl,T7.rd,(X.go T7.rd T7.kp).f6,h.mono (λcq l h H8 cv j8 hl R8 k8 DV=>?_) λe h'=>h'.after T7.kp⟩
    subst hl
    have T8:=T7.go R8 k8
    walk_at"l"
    refine xM T8.el T.aQ ?_
    have T9:=T8.put (w0:=.int (kN kd)) (w1:=.ref dZ) (w2:=gv) (w3:=.int (gN kd)) (w4:=cv) (w5:=.ref A.bz) (w6:=.ref A.bz)
    have yk:=T8.u5 (w0:=.int (kN kd)) (w1:=.ref dZ) (w2:=gv) (w3:=.int (gN kd)) (w4:=cv) (w5:=.ref A.bz) (w6:=.ref A.bz)
    obtain⟨dx9,tk9,XZ,_⟩:=T9.rd.ins
    rw[LR.eD,bJ]at h
    walk_at"l"
    refine aV XZ (Vr _ _ _ _) ?_
    walk_at"l"
    refine⟨{x.d with i:=j8},rfl,T9.rd,(X.go T9.rd T9.kp).f6,h.mono (λkq l h Pl kv X0 hl X6 DW X8=>?_) λe h'=>h'.after T9.kp⟩
    subst hl
    have lG:=T9.go X6 DW
    walk_at"l"
    refine Kf lG.el T.aQ ?_
    have pN:=lG.put (w0:=.int (kN kd)) (w1:=.ref dZ) (w2:=gv) (w3:=.int (gN kd)) (w4:=cv) (w5:=kv) (w6:=.ref A.bz)
    have DX:=lG.u5 (w0:=.int (kN kd)) (w1:=.ref dZ) (w2:=gv) (w3:=.int (gN kd)) (w4:=cv) (w5:=kv) (w6:=.ref A.bz)
    exact tail _ _ ⟨X0,cv,kv,cq,kq,rfl,pN,(((u6.keep k8).keep yk).keep DW).keep DX,((DV.keep yk).keep DW).keep DX,X8.keep DX,h⟩
 ·intro tail
  walk_at"l"
  refine ko T6.el T.aQ ?_
  walk_at"l"
  rcases LR.IM x.S.glasses tok c nb g with⟨a,e1⟩|⟨a,b,e1⟩|⟨a,b,c3,e1⟩
  ·obtain rfl:kn=0:=by
    rcases yi with⟨_,z⟩|⟨z,_⟩|⟨z,_⟩
    ·exact z
    ·exact absurd a z
    ·exact absurd a z
   rw[e1]at h
   unfold LR.IL at h
   rw[LR.gI (LR.tS (w:="into") (by decide) _ (LR.gW _ _))]at h
   rw[if_pos (by decide)]
   obtain⟨DJ,Xr,yd,_⟩:=T6.rd.ins
   walk_at"l"
   refine aV yd (ib _ _ _ _) ?_
   walk_at"l"
   refine⟨({x.d with i:=j5},Str.ofString "into"),rfl,T6.rd,(X.go T6.rd T6.kp).f6,?_⟩
   dsimp only
   refine jm (d:={x.d with i:=j5}) h T6.kp (by decide +kernel) (by decide +kernel) λc7 h=>?_
   intro H7 t7 R7 k7 ht7
   have T7:=T6.go R7 k7
   have X7:=X.go R7 T7.kp
   obtain⟨rN,XY,pK,_⟩:=T7.rd.ins
   rw[LR.gI (yh (LR.IF _ (LR.gW _ _))),bJ]at h
   walk_at"l"
   refine aV pK (Kk _ _ _ _) ?_
   walk_at"l"
   refine⟨({x.d with i:=bp x.d.b j5},x.S.glasses.map λg=>g.name),rfl,R7,X7.f6,λU k'=>?_,h.mono (λm l h H8 v j8 hl R8 k8 hv=>?_) λe h'=>h'.after T7.kp⟩
   ·have q:=X7.sys.keep k' (oq pK)
    obtain⟨g5,hi⟩:=q.ins
    exact⟨g5,x.gl,_,_,x.gs,hi,ah.of q.ck,q.glasses.mapR λa b z=>z.named T⟩
   subst hl
   subst hv
   have T8:=T7.go R8 k8
   walk_at"l"
   refine Kd T8.el T.aQ ?_
   have T9:=T8.put (w0:=.int (kN (.surface m))) (w1:=.ref dZ) (w2:=gv) (w3:=.int (gN (.surface m))) (w4:=.ref A.bz) (w5:=.ref A.bz) (w6:=.ref A.bz)
   have yk:=T8.u5 (w0:=.int (kN (.surface m))) (w1:=.ref dZ) (w2:=gv) (w3:=.int (gN (.surface m))) (w4:=.ref A.bz) (w5:=.ref A.bz) (w6:=.ref A.bz)
   exact tail _ _ ⟨.surface m,j8,rfl,T9,((DU.keep k7).keep k8).keep yk,h⟩
  ·obtain rfl:kn=1:=by
    rcases yi with⟨z,_⟩|⟨_,_,z⟩|⟨_,z,_⟩
    ·exact absurd z a
    ·exact z
    ·exact absurd b z
   rw[e1]at h
   rw[if_neg (by decide)]
   exact tail _ _ ⟨.mirror,j5,rfl,T6,DU,h⟩
  ·obtain rfl:kn=2:=by
    rcases yi with⟨z,_⟩|⟨_,z,_⟩|⟨_,_,_,z⟩
    ·exact absurd z a
    ·exact absurd z b
    ·exact z
   rw[e1]at h
   rw[if_neg (by decide)]
   exact tail _ _ ⟨.halt_,j5,rfl,T6,DU,h⟩
end
end LN
namespace LR
open Ln PySem
theorem X9{w:String}{l r:List Lex}{a:Nat}(h:word w l=.ok (a,r)):r=l.drop 1:=by
 cases l with
 |nil=>cases h
 |cons x t=>
  obtain⟨xa,xt⟩:=x
  cases xt with
  |broken=>cases h
  |word b=>
   cases hw:(b==ascii w)with
   |true=>
    have e:word w (⟨xa,.word b⟩::t)=.ok (xa,t):=by
     show andThen (need (b==ascii w) 2 xa) (λ_=>andThen pass λ_=>done xa) (⟨xa,.word b⟩::t)=_
     rw[hw];rfl
    rw[e]at h;cases h;rfl
   |false=>
    have e:word w (⟨xa,.word b⟩::t)=.error (2,xa):=by
     show andThen (need (b==ascii w) 2 xa) (λ_=>andThen pass λ_=>done xa) (⟨xa,.word b⟩::t)=_
     rw[hw];rfl
    rw[e]at h;cases h
  |name b=>cases h
  |num a b c=>cases h
  |mark c=>cases h
  |end_=>cases h
end LR
namespace LN
open PySem PySem.Spec PyProof.Rows L2 LX
open Ln (Bytes Lex andThen done need peek number value curveIn)
open LR (aO valOf nameOf aL bp rest bj bJ gH bL et)
theorem X_{α:Type}(l:List Ln.Glass)(f:Nat→Ln.P α){t:List Lex}(h:LR.Toks t):andThen (Ln.word "start") (λ_=>andThen (Ln.glassNamed l) λm=>andThen (Ln.mark 59) λ_=>f m) t=andThen (ye (l.map λg=>g.name)) f t:=by
 unfold ye
 rw[LR.eD]
 refine LR.o5 λa r e=>?_
 rw[LR.eD,yh (LR.IF l (by rw[LR.X9 e];exact h.drop 1))]
 refine LR.o5 λm r' e'=>?_
 rw[LR.eD]
 rfl
section
variable{K:PySem.W.Frag}{A:Ad}{no no':List Addr}{H:Hp}{a p s gl tl:Addr}{g:Ln.Glass}{e:Ln.Elem}{S:Ln.System_}{gs es:List Addr}{d:RD}
theorem cD.Ya(h:cD K A no H s gl tl gs es S)(hg:eX K A (gl::tl::no) H a e)(n:a∉es):cD K A no (upd H tl (.lst (es.map .ref++[.ref a]))) s gl tl gs (es++[a]) {S with elems:=S.elems++[e]}:=by
 have k:ax [tl] H (upd H tl (.lst (es.map .ref++[.ref a]))):=fz h.bu
 have off:∀x,∀b∈[tl],Off (gl::tl::no) H x b:=λx b hb=>by
  rw[List.mem_singleton.mp hb]
  exact .inl ⟨List.mem_cons_of_mem _ List.mem_cons_self,_,h.bu⟩
 obtain⟨dx,hi⟩:=h.ins
 refine⟨⟨dx,by rw[aG (bY hi h.bu λz=>by cases z)];exact hi⟩,by rw[aG h.ne];exact h.ck,by rw[aw,List.map_append];rfl,h.ne,h.ic,h.jh,?_,h.glasses.imp λ_ _ _ _ _ q=>q.keep k (off _),?_⟩
 ·rw[List.nodup_append]
  refine⟨h.nd,by simp,λx hx y hy z=>n ?_⟩
  rw[List.mem_singleton.mp hy]at z
  exact z▸hx
 ·exact(h.elems.imp λ_ _ _ _ _ q=>q.keep k (off _)).append (Each.one (hg.keep k (off _)))
theorem cD.fresh(h:cD K A no H s gl tl gs es S)(n:H a=none):a∉es:=λm=>by
 obtain⟨i,hi⟩:=List.getElem?_of_mem m
 obtain⟨b,_,dx,nm,gp,cv,cn,rc,q,_⟩:=h.elems.at' hi
 rw[n]at q;cases q
end
theorem rO{A:Ad}{S:List Addr}{H H2:Hp}{E:XK}{e:Ln.Fault}(h:bO A [] H E e)(s:au H H2)(n:∀s∈S,H s=none):bO A S H2 E e:=λU dx k f=>h U dx (s.eV.sub k λs hs=>.inr (n s hs)) f
theorem u9{S:List Addr}{H H2 H3:Hp}(s:au H H2)(k:ax S H2 H3)(n:∀s∈S,H s=none):au H H3:=(s.eV.sub k λs hs=>.inr (n s hs)).same
theorem Yb:Ln.system=andThen (andThen (Ln.glass []) λg=>Ln.glassesIn (Ln.GLASSES+1) [g]) λl=>andThen (Ln.word "start") λ_=>andThen (Ln.glassNamed l) λm=>andThen (Ln.mark 59) λ_=>andThen (Ln.elemsIn l (Ln.ELEMS+2) []) λes=>done ⟨l,m,es⟩:=by
 rw[LR.eD];rfl
def LY(K:PySem.W.Frag)(A:Ad)(x:RS)(H:Hp)(Q:VK):List Ln.Elem→List Lex→Prop:=λes l=>
 ∀U j gB,l=rest x.d.b j→bH K A U {x with d:={x.d with i:=j},es:=gB,S:={x.S with elems:=es}}→ax x.S4 H U→Q .aJ U
def LZ(K:PySem.W.Frag)(A:Ad):Sp:=aU (λ(x:RS)=>[.ref x.d.r]) λx H Q E=>bH K A H x∧x.S.elems=[]∧bj (Ln.elemsIn x.S.glasses (Ln.ELEMS+2) []) (rest x.d.b x.d.i) (LY K A x H Q) (bO A x.S4 H E)
def Yc(K:PySem.W.Frag)(A:Ad)(no:List Addr)(H:Hp)(Q:VK):Ln.System_→List Lex→Prop:=λS _=>∀U s,au H U→H s=none→mn K A no U s S→Q (.ref s) U
def L0(K:PySem.W.Frag)(A:Ad):Sp:=aU (λ(d:Addr×Bytes×List Addr)=>[.ref d.1]) λd H Q E=>H d.1=some (.lst (bA d.2.1))∧Here H d.2.2∧bj Ln.system (rest d.2.1 0) (Yc K A d.2.2 H Q) (bO A [] H E)
structure Yd where
 (tx:Addr) (b:Bytes) (s gl tl:Addr) (gs es:List Addr) (S:Ln.System_) (N:List Addr)
def u_(S:Ln.System_):Ln.P Ln.Elem:=andThen (Ln.elem S.glasses S.elems) λ(e:Ln.Elem)=>andThen peek λ(x:Lex)=>andThen (need x.isEnd 2 x.at_) λ_=>done e
def L4(K:PySem.W.Frag)(A:Ad):Sp:=aU (λ(d:Yd)=>[.ref d.tx,.ref d.s]) λd H Q E=>H d.tx=some (.lst (bA d.b))∧Here H d.N∧cD K A d.N H d.s d.gl d.tl d.gs d.es d.S∧d.tx≠d.gl∧d.tx≠d.tl∧d.S.glasses.length≤16∧d.S.elems.length≤16∧
 bj (u_ d.S) (rest d.b 0) (λe _=>∀U a,au H U→H a=none→eX K A (d.gl::d.tl::d.N) U a e→Q (.ref a) U) (bO A [] H E)
section
variable{P:Program}{w:World}{K:PySem.W.Frag}{mg:Str→Option Value}{base:Heap}{A:Ad}
theorem Ye(T:Txt K mg A)(D:bx K A.aj "read_things" "Reader.read_things" BD ["self"])(fQ:aP P w K mg base (aX P w) 6 A.aj "ahead" ["self"] (n8 K A))(rP:aP P w K mg base (aX P w) 13 A.aj "take_thing" ["self"] (DO K A)):aP P w K mg base (aX P w) 14 A.aj "read_things" ["self"] (LZ K A):=by
 refine D.eH Ux (λ_=>rfl) λf ay Ar outer s H x Q E hr h=>?_
 obtain⟨X,h0,h⟩:=h
 refine⟨_,(ai (mX PassesOwn.leaving (aW lg (aB (d_ (pv 0) T.aj.cl fQ (hr.mono (by decide)) bC) rfl) (aF T.CZ) (aR _)) (ai (bq (gT PySem.F.plainAttrs_list PySem.F.slot_list_append PySem.F.type_list_append ni (aB (aB (pv 0) rfl) rfl) (aa (d_ (pv 0) T.aj.cl rP (hr.mono (by decide)) bC) ae)))))),?_⟩
 refine nY (λm σ U=>∃(j:Nat) (gB:List Addr) (l:List Ln.Elem),σ=[some (.ref x.d.r)]∧bH K A U {x with d:={x.d with i:=j},es:=gB,S:={x.S with elems:=l}}∧ax x.S4 H U∧18≤l.length+m∧bj (Ln.elemsIn x.S.glasses m l) (rest x.d.b j) (LY K A x H Q) (bO A x.S4 H E)) (m:=18)
  ⟨x.d.i,x.es,[],rfl,by rw[←h0];exact X,ax.refl X.mu,by show 18≤0+18;decide,h⟩ ?_
 rintro m σ H2 ⟨j2,rQ,l2,rfl,X2,k2,hm,h⟩
 have wb:l2.length≤16:=X2.uW
 obtain⟨m',rfl⟩:∃m',m=m'+1:=⟨m-1,by omega⟩
 obtain⟨iW,my,fS,_⟩:=X2.rd.ins
 unfold Ln.elemsIn at h
 have q:=Ly (d:={x.d with i:=j2}) h k2 (bH.r4 x)
 walk_at"l"
 refine aV fS (pw _ _ _ _) ?_
 walk_at"l"
 refine⟨{x.d with i:=j2},rfl,X2.rd,X2.f6,q.1,λz H3 t R3 k3 ht=>?_⟩
 have h:=q.2 z
 have X3:=X2.go (j:=j2) R3 k3
 have K3:=k2.sub k3 λs hs=>.inl (bH.g6 x s hs)
 obtain⟨lD,jG,mx,eO,_⟩:=id ht
 obtain⟨lE,oh,fR,_⟩:=X3.rd.ins
 obtain⟨adB,Yf⟩:=X3.sys.ins
 walk_at"l"
 refine ku eO T.bG ?_
 walk_at"l"
 have ew:(aL x.d.b j2).isEnd=decide (aO (aL x.d.b j2).tok=Str.ofString "end"):=LR.HQ (LR.nA _ _)
 dsimp only at h
 by_cases hk:aO (aL x.d.b j2).tok=Str.ofString "end"
 ·rw[ew,if_pos (decide_eq_true hk)]at h
  rw[if_neg (by rw[decide_eq_true hk];decide)]
  exact h H3 j2 rQ rfl X3 K3
 ·rw[ew,if_neg (by rw[decide_eq_true_eq];exact hk),bJ]at h
  rw[if_pos (by rw[decide_eq_false hk];decide)]
  refine⟨_,λ_ _ q=>q,?_⟩
  walk_at"l"
  refine mj fR T.aj ?_
  walk_at"l"
  refine eW Yf T.bf ?_
  refine⟨.inl ⟨rfl,_,ah.of X3.sys.bu⟩,?_⟩
  walk_at"l"
  refine aV fR (Kn _ _ _ _) ?_
  walk_at"l"
  refine⟨{x with d:={x.d with i:=j2},es:=rQ,S:={x.S with elems:=l2}},rfl,X3,h.mono (λe l h H4 j4 a hl ou X4 k4 na ha=>?_) λe h'=>h'.to K3 λs hs=>bH.g6 x s hs⟩
  subst hl
  walk_at"l"
  have K4:=K3.sub k4 λs hs=>.inl (bH.g6 x s hs)
  have Yg:l2.length<16:=ou
  refine nP X4.sys.bu (by rw[List.length_map,X4.sys.elems.1,show sizeLine=16777216 from sizeLine_eq];show l2.length<_;omega) ?_
  rw[X.no]at ha
  have hn:x.d.no=x.gl::x.tl::x.N:=X.no
  have kt:ax [x.tl] H4 (upd H4 x.tl (.lst (rQ.map .ref++[.ref a]))):=fz X4.sys.bu
  have K5:=K4.sub kt λs hs=>.inl (by rw[List.mem_singleton.mp hs];exact List.mem_cons_of_mem _ (List.mem_cons_of_mem _ (List.mem_cons_of_mem _ List.mem_cons_self)))
  have S5:=X4.sys.Ya ha (X3.sys.fresh na)
  have R5:=DG (o:=.lst (rQ.map .ref++[.ref a])) X4.rd X4.sys.bu (by show x.tl∈x.d.no;rw[hn];exact List.mem_cons_of_mem _ List.mem_cons_self) (X.DH K5)
  refine⟨m',Nat.lt_succ_self _,j4,rQ++[a],l2++[e],rfl,⟨R5,X.no,λb hb=>?_,S5,X.tg,X.tt,X.uV,?_⟩,K5,by rw[List.length_append];show 18≤l2.length+1+m';omega,h⟩
  ·obtain⟨o,q⟩:=X4.here b hb
   exact⟨o,kt.eq b o q λz=>X4.sys.jh (by rw[←List.mem_singleton.mp z];exact hb)⟩
  ·show(l2++[e]).length≤16
   rw[List.length_append]
   exact Yg
theorem Yh(T:Txt K mg A)(D:aI K mg "system_of" BE ["text"])(rR:Maker P w K mg base ao 1 A.aj "Reader" ["self","text","system"] (Dy A))(DY:Maker P w K mg base ao 1 A.bf "System" ["self"] (Lw A))(DZ:aP P w K mg base (aX P w) 12 A.aj "read_glasses" ["self"] (LU K A))(D0:aP P w K mg base (aX P w) 11 A.aj "read_start" ["self"] (LV K A))(D1:aP P w K mg base (aX P w) 14 A.aj "read_things" ["self"] (LZ K A)):Callee P w K mg base (aX P w) 15 "system_of" ["text"] (L0 K A):=by
 refine D.eH J9 (λ_=>rfl) λf ay Ar outer s H d Q E hr h=>?_
 obtain⟨tx,b,no⟩:=d
 obtain⟨kL,aZ,h⟩:=h
 dsimp only at*
 refine⟨_,(af (a9 (i:=1) J9.nd rfl (Or.inl rfl) (lu rR (hr.mono (by decide)) aD (aa (pv 0) (aa (AW DY (hr.mono (by decide)) aD) ae))))
   (af (bq (d_ (pv 1) T.aj.cl DZ (hr.mono (by decide)) bC))
   (af (bq (d_ (pv 1) T.aj.cl D0 (hr.mono (by decide)) bC))
   (af (bq (d_ (pv 1) T.aj.cl D1 (hr.mono (by decide)) bC))
   (ai (aH (aB (pv 1) rfl))))))),?_⟩
 show ba _ _ _ [some (.ref tx),none] H
 walk_at"l"
 intro sy g5 rS D2 ne1
 refine⟨(sy,g5),rfl,aw,λH1 gl tl AK md iS gt ic jh sm=>⟨rfl,?_⟩⟩
 have s1:au H H1:=λb o e=>sm b o (kx rS D2 _ _ e) (cp e rS)
 have D3:H gl=none:=(kx rS D2).free ic
 have D4:H tl=none:=(kx rS D2).free jh
 walk_at"l"
 intro r ij nr D5 Yi
 refine⟨((r,ij),.ref tx,.ref sy),rfl,aw,rfl,?_⟩
 rw[pC]
 have s2:=kx (o:=.ins A.aj ij (cx (.ref tx) (.ref sy) (.int 0) .aJ)) nr D5
 have X:bH K A (ie H1 r ij (.ins A.aj ij (cx (.ref tx) (.ref sy) (.int 0) .aJ))) {d:=⟨r,tx,sy,b,0,gl::tl::no⟩,gl:=gl,tl:=tl,gs:=[],es:=[],S:=⟨[],0,[]⟩,N:=no}:=by
  refine⟨⟨⟨ij,.aJ,pB,.inl rfl⟩,ah.of (s2 _ _ (s1 _ _ kL)),Nat.zero_le _⟩,rfl,(aZ.same s1).same s2,⟨⟨g5,s2 _ _ AK⟩,s2 _ _ md,s2 _ _ iS,gt,λz=>?_,λz=>?_,List.nodup_nil,Each.nil,Each.nil⟩,cp kL D3,cp kL D4,Nat.zero_le _,Nat.zero_le _⟩
  ·obtain⟨o,q⟩:=aZ _ z
   rw[D3]at q;cases q
  ·obtain⟨o,q⟩:=aZ _ z
   rw[D4]at q;cases q
 generalize Yj:ie H1 r ij (.ins A.aj ij (cx (.ref tx) (.ref sy) (.int 0) .aJ))=H2 at X s2⊢
 have s2:=s1.trans s2
 have nw:∀a∈[r,sy,gl,tl],H a=none:=by
  intro a ha
  simp only[List.mem_cons,List.mem_nil_iff,or_false]at ha
  rcases ha with rfl|rfl|rfl|rfl
  ·exact s1.free nr
  ·exact rS
  ·exact D3
  ·exact D4
 rw[Yb,bJ]at h
 obtain⟨iW,my,fS,_⟩:=X.rd.ins
 walk_at"l"
 refine aV fS (Vo _ _ _ _) ?_
 walk_at"l"
 refine⟨_,rfl,X,rfl,h.mono (λl t h H3 j3 gs3 hl X3 k3=>?_) λe h'=>rO h' s2 nw⟩
 subst hl
 have s3:=u9 s2 k3 nw
 obtain⟨lE,oh,fR,_⟩:=X3.rd.ins
 rw[LR.gI (X_ l (λm=>andThen (Ln.elemsIn l (Ln.ELEMS+2) []) λes=>done (⟨l,m,es⟩:Ln.System_)) (LR.gW _ _)),bJ]at h
 walk_at"l"
 refine aV fR (Vp _ _ _ _) ?_
 walk_at"l"
 refine⟨_,rfl,X3,h.mono (λm t h H4 j4 hl X4 k4=>?_) λe h'=>rO h' s3 nw⟩
 subst hl
 have s4:=u9 s3 k4 nw
 obtain⟨Lr,XR,DT,_⟩:=X4.rd.ins
 rw[bJ]at h
 walk_at"l"
 refine aV DT (Vt _ _ _ _) ?_
 walk_at"l"
 refine⟨_,rfl,X4,rfl,h.mono (λes t h H5 j5 es5 hl X5 k5=>?_) λe h'=>rO h' s4 nw⟩
 have s5:=u9 s4 k5 nw
 obtain⟨x8,LG,pJ,_⟩:=X5.rd.ins
 walk_at"l"
 refine mj pJ T.aj ?_
 exact h H5 sy s5 rS ⟨_,_,_,_,X5.sys⟩
theorem Yk(T:Txt K mg A)(D:aI K mg "thing_of" BF ["text","system"])(rR:Maker P w K mg base ao 1 A.aj "Reader" ["self","text","system"] (Dy A))(rP:aP P w K mg base (aX P w) 13 A.aj "take_thing" ["self"] (DO K A))(dH:aP P w K mg base (aX P w) 9 A.aj "take" ["self","kind"] (kJ K A)):Callee P w K mg base (aX P w) 14 "thing_of" ["text","system"] (L4 K A):=by
 refine D.eH Cs (λ_=>rfl) λf ay Ar outer s H d Q E hr h=>?_
 obtain⟨tx,b,sy,gl,tl,gs,es,S,no⟩:=d
 obtain⟨kL,aZ,hS,tg,tt,L5,Yl,h⟩:=h
 dsimp only at*
 refine⟨_,(af (a9 (i:=2) Cs.nd rfl (Or.inl rfl) (lu rR (hr.mono (by decide)) aD (aa (pv 0) (aa (pv 1) ae))))
   (af (a9 (i:=3) Cs.nd rfl (Or.inl rfl) (d_ (pv 2) T.aj.cl rP (hr.mono (by decide)) bC))
   (af (bq (bD (pv 2) T.aj.cl dH (hr.mono (by decide)) bC (aa (aF T.CZ) ae)))
   (ai (aH (pv 3)))))),?_⟩
 show ba _ _ _ [some (.ref tx),some (.ref sy),none,none] H
 walk_at"l"
 intro r ij nr D5 Yi
 refine⟨((r,ij),.ref tx,.ref sy),rfl,aw,rfl,?_⟩
 rw[pC]
 have s2:=kx (o:=.ins A.aj ij (cx (.ref tx) (.ref sy) (.int 0) .aJ)) nr D5
 have X:bH K A (ie H r ij (.ins A.aj ij (cx (.ref tx) (.ref sy) (.int 0) .aJ))) {d:=⟨r,tx,sy,b,0,gl::tl::no⟩,gl:=gl,tl:=tl,gs:=gs,es:=es,S:=S,N:=no}:=
  ⟨⟨⟨ij,.aJ,pB,.inl rfl⟩,ah.of (s2 _ _ kL),Nat.zero_le _⟩,rfl,aZ.same s2,hS.keep s2.eV λb hb=>absurd hb (by simp),tg,tt,L5,Yl⟩
 generalize Yj:ie H r ij (.ins A.aj ij (cx (.ref tx) (.ref sy) (.int 0) .aJ))=H2 at X s2⊢
 have nw:∀a∈[r],H a=none:=λa ha=>by rw[List.mem_singleton.mp ha];exact nr
 unfold u_ at h
 rw[bJ]at h
 obtain⟨iW,my,fS,_⟩:=X.rd.ins
 walk_at"l"
 refine aV fS (Kn _ _ _ _) ?_
 walk_at"l"
 refine⟨_,rfl,X,h.mono (λe l h H3 j3 a hl ou X3 k3 na ha=>?_) λe h'=>rO h' s2 nw⟩
 subst hl
 have s3:=u9 s2 k3 nw
 obtain⟨lE,oh,fR,_⟩:=X3.rd.ins
 walk_at"l"
 refine aV fR (ib _ _ _ _) ?_
 walk_at"l"
 rw[bJ,LR.wH]at h
 refine⟨(⟨r,tx,sy,b,j3,gl::tl::no⟩,Str.ofString "end"),rfl,X3.rd,X3.f6,λz=>rO (h.1 z) s3 nw,λz=>?_⟩
 have h:=h.2 z
 rw[bJ,gH,LR.HQ (LR.nA _ _)]at h
 rw[LR.fM]
 dsimp only
 by_cases hk:aO (aL b j3).tok=Str.ofString "end"
 ·rw[if_pos (decide_eq_true hk)]at h
  rw[if_pos (decide_eq_true hk)]
  intro H4 t R4 k4 ht
  walk_at"l"
  refine h H4 a (u9 s3 k4 nw) (s2.free na) (ha.keep k4 λb' tG=>?_)
  rw[List.mem_singleton.mp tG]
  obtain⟨b_,nm,gp,cv,cn,rc,he,_⟩:=ha
  exact .inr ⟨fP he fR (by decide +kernel),_,_,_,fR⟩
 ·rw[if_neg (by rw[decide_eq_true_eq];exact hk)]at h
  rw[if_neg (by rw[decide_eq_true_eq];exact hk)]
  exact rO h s3 nw
end
end LN
namespace LN
open PySem PySem.Spec PyProof.Rows L2 LX
open Ln (Bytes Lex andThen done need peek number value curveIn)
open LR (aO valOf nameOf aL bp rest bj bJ gH bL et b4 iT)
theorem L6{K:PySem.W.Frag}{ta:TA}{σ:L2.St}{H:Hp}{R:It→Hp→Prop}(k:ta σ H λvs H1=>∃a b xs ys,vs=[.ref a,.ref b]∧ah K H1 a xs∧ah K H1 b ys∧R (qG K a b) H1):HE K ta σ H R:=k
theorem L7{K:PySem.W.Frag}{a b:Addr}{xs ys:List V}{g:TG}{tb:TS}{D:Ends}{σ:L2.St}{H:Hp}(Pv:Nat→L2.St→Hp→Prop)(h0:Pv 0 σ H)(hl:∀i σ H,Pv i σ H→ah K H a xs∧ah K H b ys)(n:Nat)(hn:n=min xs.length ys.length)(hs:∀i x y T σ H,xs[i]?=some x→ys[i]?=some y→Pv i σ H→H T=none→g (.ref T) σ (upd H T (.tup [x,y])) λbr H2=>tb {D with nx:=Pv (i+1),ct:=Pv (i+1),bk:=D.nx} br H2)(hd:∀σ H,Pv n σ H→D.nx σ H):
  ∃W:Nat→Nat→L2.St→Hp→Prop,(∃m,W 0 m σ H)∧∀i m σ H,W i m σ H→
   ((qG K a b).stop i H∧D.nx σ H)∨((qG K a b).go i H∧∃N:L2.St→Hp→Prop,(∀az U,N az U→∃m',m'<m∧W (i+1) m' az U)∧∀x U,(qG K a b).iL i H x U→g x σ U λbr H2=>tb {D with nx:=N,ct:=N,bk:=D.nx} br H2):=by
 refine⟨λi m σ H=>m=n-i∧i≤n∧Pv i σ H,⟨n,by simp,Nat.zero_le _,h0⟩,?_⟩
 rintro i m σ H ⟨rfl,hi,p⟩
 obtain⟨q1,q2⟩:=hl i σ H p
 by_cases bw:i<n
 ·have l1:i<xs.length:=by omega
  have l2:i<ys.length:=by omega
  refine .inr ⟨⟨xs,ys,xs[i],ys[i],q1,q2,List.getElem?_eq_getElem l1,List.getElem?_eq_getElem l2⟩,Pv (i+1),λaz U p'=>⟨n-(i+1),by omega,rfl,bw,p'⟩,λx U y=>?_⟩
  obtain⟨T,x',y',rfl,hT,rfl,hx,hy⟩:=y
  exact hs i x' y' T σ H (hx xs q1) (hy ys q2) p hT
 ·have e:i=n:=by omega
  subst e
  exact .inl ⟨⟨xs,ys,q1,q2,by omega⟩,hd σ H p⟩
theorem va{f:Nat→V}{i:Nat}:jv ((List.range (i+1)).map f) (-1)=some (f i):=by
 unfold jv m8
 rw[List.length_map,List.length_range,if_neg (by decide),if_pos (by omega)]
 show((List.range (i+1)).map f)[(-1+((i+1:Nat):Int)).toNat]?=_
 rw[show(-1+((i+1:Nat):Int)).toNat=i by omega,List.getElem?_map,List.getElem?_range (by omega)]
 rfl
theorem L8{f:Nat→V}{i:Nat}:(List.range (i+1)).map f++[f (i+1)]=(List.range (i+1+1)).map f:=by
 rw[List.range_succ (n:=i+1),List.map_append];rfl
theorem mD{H H1:Hp}{p:Addr}{xs:List V}{o:HO}(s:au H H1)(h:H1 p=some (.lst xs))(n:H p=none):au H (upd H1 p o):=s.sub (fz h) λb hb=>by rw[List.mem_singleton.mp hb];exact n
structure SD where
 (s gl tl:Addr) (gs es:List Addr) (S:Ln.System_) (no:List Addr)
abbrev ey(K:PySem.W.Frag)(A:Ad)(H:Hp)(d:SD):Prop:=cD K A d.no H d.s d.gl d.tl d.gs d.es d.S
abbrev gu(S:Ln.System_)(i:Nat):V:=.int (S.medium i:Nat)
abbrev mE(S:Ln.System_)(i:Nat):V:=.int (b4 S i)
def D7(K:PySem.W.Frag)(A:Ad):Sp:=aU (λ(d:SD)=>[.ref d.s]) λd H Q _=>ey K A H d∧d.S.elems.length≤16∧∀U p,au H U→H p=none→U p=some (.lst ((List.range (d.S.elems.length+1)).map (gu d.S)))→Q (.ref p) U
def yl(K:PySem.W.Frag)(A:Ad):Sp:=aU (λ(d:SD)=>[.ref d.tl]) λd H Q _=>ey K A H d∧d.S.elems.length≤16∧∀U p,au H U→H p=none→U p=some (.lst ((List.range (d.S.elems.length+1)).map (mE d.S)))→Q (.ref p) U
def D_(K:PySem.W.Frag):Sp:=aU (λ(d:(V×Rat)×Int)=>[d.1.1,.int d.2]) λd H Q _=>bh K H d.1.1 d.1.2∧(d.2=1∨d.2= -1)∧∀U v,au H U→bh K U v ((d.2:Rat)*d.1.2)→Q v U
def L9(K:PySem.W.Frag)(A:Ad):Sp:=aU (λ(d:SD×Nat)=>[.ref d.1.tl,.int d.2]) λd H Q _=>ey K A H d.1∧LR.Good d.1.S∧d.2<d.1.S.elems.length∧∀U v,au H U→bh K U v (Ln.place d.1.S d.2)→Q v U
section
variable{K:PySem.W.Frag}{A:Ad}{H U:Hp}{d:SD}
theorem g7(h:ey K A H d)(s:au H U):ey K A U d:=h.keep s.eV λb hb=>absurd hb (by simp)
theorem ym(h:ey K A H d){i:Nat}{x:V}(hx:(d.es.map V.ref)[i]?=some x):∃a e,x=.ref a∧d.es[i]?=some a∧d.S.elems[i]?=some e∧eX K A (d.gl::d.tl::d.no) H a e:=by
 rw[List.getElem?_map]at hx
 obtain⟨a,h1,h2⟩:=Option.map_eq_some_iff.mp hx
 obtain⟨e,h3,h4⟩:=h.elems.at' h1
 exact⟨a,e,h2.symm,h1,h3,h4⟩
theorem ox(h:ey K A H d):(d.es.map V.ref).length=d.S.elems.length:=by rw[List.length_map];exact h.elems.1
end
section
variable{P:Program}{w:World}{K:PySem.W.Frag}{mg:Str→Option Value}{base:Heap}{A:Ad}
theorem Ym(T:Txt K mg A)(D:aI K mg "media_of" BG ["system"]):Callee P w K mg base ao 1 "media_of" ["system"] (D7 K A):=by
 refine D.ok Ct (λ_=>rfl) λf ay Ar outer s H d Q E hr h=>?_
 obtain⟨S,iU,h⟩:=h
 obtain⟨dx,hi⟩:=S.ins
 refine⟨_,(af (a9 (i:=1) Ct.nd rfl (Or.inl rfl) (bK (aa (aB (pv 0) rfl) ae)))
   (af (hX PassesOwn.never rfl (kX (aB (pv 0) rfl)) (eA (i:=2) Ct.nd rfl (Or.inl rfl)) (ai (bq (gT PySem.F.plainAttrs_list PySem.F.slot_list_append PySem.F.type_list_append ni (pv 1) (aa (ql (aW bU (aB (pv 2) rfl) (aF T.xQ) (aR _)) (aB (pv 2) rfl) (a_ cf (pv 1) (kY k_ aM) (λ_ _=>rfl))) ae)))))
   (ai (aH (pv 1))))),?_⟩
 show ba _ _ _ [some (.ref d.s),none,none] H
 walk_at"l"
 refine CJ hi T.bf ?_
 walk_at"l"
 refine⟨by show 1≤sizeLine;decide,λp hp=>?_⟩
 have s1:=au.bc (o:=.lst [.int d.S.start]) hp
 walk_at"l"
 with_reducible refine iD (lx ?_)
 walk_at"l"
 refine eW (s1 _ _ hi) T.bf ?_
 refine⟨d.tl,rfl,⟨_,ah.of (s1 _ _ S.bu)⟩,qp (K:=K) (a:=d.tl) (xs:=d.es.map .ref) (λk σ U=>∃v:Option V,σ=[some (.ref d.s),some (.ref p),v]∧au H U∧U p=some (.lst ((List.range (k+1)).map (gu d.S)))∧k≤16)
  ⟨none,rfl,s1,aw,Nat.zero_le _⟩ (λk σ U _ ⟨_,_,s2,_⟩=>ah.of (s2 _ _ S.bu)) ?_ ?_⟩
 ·rintro k y σ U hy ⟨v,rfl,s2,fU,Yn⟩
  obtain⟨a,e,rfl,ha,he,hE⟩:=ym S hy
  have kl:k<d.S.elems.length:=(List.getElem?_eq_some_iff.mp he).1
  obtain⟨b_,nm,gp,cv,cn,rc,bP,_⟩:=hE.same s2
  walk_at"l"
  refine⟨.inl ⟨rfl,_,ah.of fU⟩,?_⟩
  walk_at"l"
  refine ko bP T.aQ ?_
  walk_at"l"
  have fin:∀v,v=gu d.S (k+1)→tf (.ref p) [v] U λ_ H1=>∃v:Option V,[some (V.ref d.s),some (V.ref p),some (V.ref a)]=[some (.ref d.s),some (.ref p),v]∧au H H1∧H1 p=some (.lst ((List.range (k+1+1)).map (gu d.S)))∧k+1≤16:=by
   rintro v rfl
   refine nP fU (by rw[List.length_map,List.length_range,show sizeLine=16777216 from sizeLine_eq];omega) ?_
   exact⟨_,rfl,mD s2 fU hp,by rw[aw,L8],by omega⟩
  have ms:=LR.Q_ he
  by_cases hk:kN e.kind=0
  ·rw[if_pos (decide_eq_true (by rw[hk];rfl))]
   walk_at"l"
   refine CG bP T.aQ ?_
   walk_at"l"
   refine fin _ ?_
   unfold gu
   rw[ms]
   cases i4:e.kind with
   |surface m=>rfl
   |mirror=>rw[i4]at hk;cases hk
   |halt_=>rw[i4]at hk;cases hk
  ·rw[if_neg (λz=>hk (by have:=of_decide_eq_true z;omega))]
   walk_at"l"
   refine b9 (ah.of fU) va ?_
   walk_at"l"
   refine fin _ ?_
   unfold gu
   rw[ms]
   cases i4:e.kind with
   |surface m=>rw[i4]at hk;exact absurd rfl hk
   |mirror=>rfl
   |halt_=>rfl
 ·rintro σ U ⟨v,rfl,s2,fU,_⟩
  walk_at"l"
  rw[ox S]at fU
  exact h U p s2 hp fU
theorem Yo(T:Txt K mg A)(D:aI K mg "ways_of" BH ["things"]):Callee P w K mg base ao 1 "ways_of" ["things"] (yl K A):=by
 refine D.ok Cu (λ_=>rfl) λf ay Ar outer s H d Q E hr h=>?_
 obtain⟨S,iU,h⟩:=h
 refine⟨_,(af (a9 (i:=1) Cu.nd rfl (Or.inl rfl) (bK (aa (aF T.Kz) ae)))
   (af (hX PassesOwn.never rfl (kX (pv 0)) (eA (i:=2) Cu.nd rfl (Or.inl rfl)) (ai (bq (gT PySem.F.plainAttrs_list PySem.F.slot_list_append PySem.F.type_list_append ni (pv 1) (aa (ql (aW bU (aB (pv 2) rfl) (aF T.VJ) (aR _)) (kY k_ (a_ cf (pv 1) (kY k_ aM) (λ_ _=>rfl))) (a_ cf (pv 1) (kY k_ aM) (λ_ _=>rfl))) ae)))))
   (ai (aH (pv 1))))),?_⟩
 show ba _ _ _ [some (.ref d.tl),none,none] H
 walk_at"l"
 refine⟨by show 1≤sizeLine;decide,λp hp=>?_⟩
 have s1:=au.bc (o:=.lst [.int 1]) hp
 walk_at"l"
 with_reducible refine iD (lx ?_)
 walk_at"l"
 refine⟨⟨_,ah.of (s1 _ _ S.bu)⟩,qp (K:=K) (a:=d.tl) (xs:=d.es.map .ref) (λk σ U=>∃v:Option V,σ=[some (.ref d.tl),some (.ref p),v]∧au H U∧U p=some (.lst ((List.range (k+1)).map (mE d.S)))∧k≤16)
  ⟨none,rfl,s1,by rw[aw];show _=some (HO.lst [.int (b4 d.S 0)]);rw[LR.Q7],Nat.zero_le _⟩ (λk σ U _ ⟨_,_,s2,_⟩=>ah.of (s2 _ _ S.bu)) ?_ ?_⟩
 ·rintro k y σ U hy ⟨v,rfl,s2,fU,Yn⟩
  obtain⟨a,e,rfl,ha,he,hE⟩:=ym S hy
  have kl:k<d.S.elems.length:=(List.getElem?_eq_some_iff.mp he).1
  obtain⟨b_,nm,gp,cv,cn,rc,bP,_⟩:=hE.same s2
  walk_at"l"
  refine⟨.inl ⟨rfl,_,ah.of fU⟩,?_⟩
  walk_at"l"
  refine ko bP T.aQ ?_
  walk_at"l"
  have fin:∀v,v=mE d.S (k+1)→tf (.ref p) [v] U λ_ H1=>∃v:Option V,[some (V.ref d.tl),some (V.ref p),some (V.ref a)]=[some (.ref d.tl),some (.ref p),v]∧au H H1∧H1 p=some (.lst ((List.range (k+1+1)).map (mE d.S)))∧k+1≤16:=by
   rintro v rfl
   refine nP fU (by rw[List.length_map,List.length_range,show sizeLine=16777216 from sizeLine_eq];omega) ?_
   exact⟨_,rfl,mD s2 fU hp,by rw[aw,L8],by omega⟩
  have ms:=LR.Q9 he
  by_cases hk:kN e.kind=1
  ·rw[if_pos (decide_eq_true (by rw[hk];rfl))]
   walk_at"l"
   refine b9 (ah.of fU) va ?_
   walk_at"l"
   refine fin _ ?_
   unfold mE
   rw[ms,if_pos]
   cases i4:e.kind with
   |surface m=>rw[i4]at hk;cases hk
   |mirror=>rfl
   |halt_=>rw[i4]at hk;cases hk
  ·rw[if_neg (λz=>hk (by have:=of_decide_eq_true z;omega))]
   walk_at"l"
   refine b9 (ah.of fU) va ?_
   walk_at"l"
   refine fin _ ?_
   unfold mE
   rw[ms,if_neg]
   cases i4:e.kind with
   |surface m=>exact Bool.noConfusion
   |mirror=>rw[i4]at hk;exact absurd rfl hk
   |halt_=>exact Bool.noConfusion
 ·rintro σ U ⟨v,rfl,s2,fU,_⟩
  walk_at"l"
  rw[ox S]at fU
  exact h U p s2 hp fU
theorem Yp(T:Txt K mg A)(D:aI K mg "along" BI ["rational","way"]):Callee P w K mg base ao 1 "along" ["rational","way"] (D_ K):=by
 refine D.ok Uy (λ_=>rfl) λf ay Ar outer s H d Q E hr h=>?_
 obtain⟨⟨v,q⟩,wy⟩:=d
 obtain⟨⟨t,rfl,ht⟩,hw,h⟩:=h
 dsimp only at*
 refine⟨_,(ai (aH (gR (aa (dY m4 (a_ dM (pv 0) aM (λ_ _=>rfl)) (pv 1)) (aa (a_ dM (pv 0) aM (λ_ _=>rfl)) ae))))),?_⟩
 show eZ _ _ [some (.ref t),some (.int wy)] H
 walk_at"l"
 refine dB ht rfl ?_
 walk_at"l"
 refine km (mulR (by rcases hw with rfl|rfl<;>decide)) ?_
 walk_at"l"
 refine dB ht rfl ?_
 walk_at"l"
 refine⟨by show 2≤sizeLine;decide,λp hp=>?_⟩
 refine h _ _ (au.bc hp) ⟨p,rfl,aY.of ?_⟩
 rw[aw]
 rcases hw with rfl|rfl
 ·rw[show(((1:Int):Rat)*q)=q from Rat.one_mul q,Int.mul_one]
 ·rw[show(((-1:Int):Rat)*q)= -q by rw[show(((-1:Int):Rat))= -1 from rfl,Rat.neg_mul,Rat.one_mul],show q.num*(-1)= -q.num by omega]
  rfl
end
end LN
namespace LN
open PySem PySem.Spec PyProof.Rows L2 LX
open LR (b4 iT)
section
variable{X:Cx}{K:PySem.W.Frag}{e:Expr}{f:Str}{ta:TE}{pos:Pos}
theorem Yq(h:X.K=K):v_ X (zF K):=h▸cf
theorem Yr(h:X.K=K)(he:PE X e ta)(hb:attributeBase e f X.env (eval e X.env)=eval e X.env):PE X (.Attribute e f pos) (zy K ta f):=h▸aB he hb
end
theorem Ys{xs:List V}{e:Nat}(he:e≤xs.length):iw xs none (some (e:Int))=xs.take e:=by
 unfold iw
 rw[HT.GV,HT.GW,Nat.min_eq_left he]
 rfl
theorem L_{q:Rat}(h:q.num.natAbs<10^18∧q.den<10^18):small q:=⟨by have:=h.1;omega,by have:=h.2;omega⟩
def rT(S:Ln.System_)(n k:Nat):List Rat:=(List.range k).flatMap λj=>Ln.indices S (n+j)
theorem yn(S:Ln.System_)(n k:Nat):rT S n (k+1)=rT S n k++Ln.indices S (n+k):=by
 unfold rT
 rw[List.range_succ,List.flatMap_append]
 simp
theorem Ma(S:Ln.System_)(n:Nat):∀k,(rT S n k).length=3*k
 |0=>rfl
 |k+1=>by
  rw[yn,List.length_append,Ma S n k]
  show 3*k+(Ln.indices S (n+k)).length=_
  rw[show(Ln.indices S (n+k)).length=3 by unfold Ln.indices Ln.LINES;rw[List.length_map,List.length_range]]
  omega
def Mb(K:PySem.W.Frag)(A:Ad):Sp:=aU (λ(d:SD×Nat)=>[.ref d.1.s,.int d.2]) λd H Q _=>ey K A H d.1∧LR.Good d.1.S∧d.2<d.1.S.elems.length∧
 ∀U p vs,au H U→H p=none→U p=some (.lst vs)→Each (bh K U) vs (Ln.indices d.1.S d.2++Ln.indices d.1.S (d.2+1))→Q (.ref p) U
theorem Each.same{K:PySem.W.Frag}{H U:Hp}{vs:List V}{qs:List Rat}(h:Each (bh K H) vs qs)(s:au H U):Each (bh K U) vs qs:=h.imp λ_ _ _ _ _ q=>q.same s
theorem Each.keepR{K:PySem.W.Frag}{H U:Hp}{S:List Addr}{vs:List V}{qs:List Rat}(h:Each (bh K H) vs qs)(s:ax S H U):Each (bh K U) vs qs:=h.imp λ_ _ _ _ _ q=>q.keep s
section
variable{P:Program}{w:World}{K:PySem.W.Frag}{mg:Str→Option Value}{base:Heap}{A:Ad}
theorem Yt(T:Txt K mg A)(D:aI K mg "place_of" BJ ["things","number"])(mF:Callee P w K mg base ao 1 "ways_of" ["things"] (yl K A))(rV:Callee P w K mg base ao 3 "plus" ["one","other"] (C6 K))(rW:Callee P w K mg base ao 1 "along" ["rational","way"] (D_ K)):Callee P w K mg base ao 4 "place_of" ["things","number"] (L9 K A):=by
 refine D.ok uC (λ_=>rfl) λf ay Ar outer s H d Q E hr h=>?_
 obtain⟨d,n⟩:=d
 obtain⟨S,hg,hn,h⟩:=h
 dsimp only at*
 have iU:d.S.elems.length≤16:=hg.el
 refine⟨_,(af (a9 (i:=2) uC.nd rfl (Or.inl rfl) (aF T.gq))
   (af (hX PassesOwn.never rfl (HF (by rfl) T.xR (aa (sU sV (pv 0) GZ (m7 (dY kZ (pv 1) aM))) (aa (aT mF (hr.mono (by decide)) aD (aa (pv 0) ae)) ae))) (sL rfl (jU (eA (i:=3) uC.nd rfl (Or.inl rfl)) (jU (eA (i:=4) uC.nd rfl (Or.inl rfl)) sJ))) (ai (a9 (i:=2) uC.nd rfl (Or.inl rfl) (aT rV (hr.mono (by decide)) aD (aa (pv 2) (aa (aT rW (hr.mono (by decide)) aD (aa (aB (pv 3) rfl) (aa (pv 4) ae))) ae))))))
   (ai (aH (pv 2))))),?_⟩
 show ba _ _ _ [some (.ref d.tl),some (.int n),none,none,none] H
 walk_at"l"
 with_reducible refine iD (L6 ?_)
 walk_at"l"
 refine ph (ah.of S.bu) λq hq=>?_
 rw[show iw (d.es.map V.ref) none (some ((n:Int)+1))=(d.es.map V.ref).take (n+1)from Ys (e:=n+1) (by rw[ox S];omega)]
 have s1:=au.bc (o:=.lst ((d.es.map V.ref).take (n+1))) hq
 walk_at"l"
 refine⟨d,rfl,g7 S s1,iU,λH2 p s2 hp fU=>?_⟩
 walk_at"l"
 have s3:=s1.trans s2
 refine⟨q,p,_,_,rfl,ah.of (s2 _ _ aw),ah.of fU,L7 (K:=K) (a:=q) (b:=p) (xs:=(d.es.map V.ref).take (n+1)) (ys:=(List.range (d.S.elems.length+1)).map (mE d.S)) (λk σ U=>∃(v3 v4:Option V) (pv:V),σ=[some (.ref d.tl),some (.int n),some pv,v3,v4]∧au H2 U∧bh K U pv (iT d.S k))
  ⟨none,none,_,rfl,au.refl _,g4 T _⟩ (λk σ U ⟨_,_,_,_,s4,_⟩=>⟨ah.of (s4 _ _ (s2 _ _ aw)),ah.of (s4 _ _ fU)⟩) (n+1) (by rw[List.length_take,List.length_map,S.elems.1,List.length_map,List.length_range];omega) ?_ ?_⟩
 ·rintro k x y T' σ U hx hy ⟨v3,v4,pv,rfl,s4,oy⟩ lB
  have kn:k<n+1:=by
   have:=(List.getElem?_eq_some_iff.mp hx).1
   rw[List.length_take]at this
   omega
  rw[List.getElem?_take_of_lt kn]at hx
  obtain⟨a,e,rfl,ha,he,hE⟩:=ym S hx
  have s5:=s4.trans (au.bc (o:=.tup [.ref a,y]) lB)
  obtain⟨b_,nm,gp,cv,cn,rc,bP,bZ,aZ,ip,_⟩:=hE.same (s3.trans s5)
  obtain rfl:y=mE d.S k:=by
   rw[List.getElem?_map,List.getElem?_range (by omega)]at hy
   exact(Option.some.inj hy).symm
  refine xY (aY.of aw) ?_
  walk_at"l"
  refine pj bP T.aQ ?_
  walk_at"l"
  refine⟨((gp,e.gap),b4 d.S k),rfl,ip,LR.wJ _ _,λH6 v6 s6 Yu=>?_⟩
  walk_at"l"
  have ge:=hg.elems e (List.mem_of_getElem? he)
  refine⟨((pv,iT d.S k),v6,((b4 d.S k:Int):Rat)*e.gap),rfl,(oy.same (au.bc lB)).same s6,Yu,L_ (LR.Rg ge.iB),LR.Rc hg (by omega),λH7 v7 s7 Yv=>?_⟩
  walk_at"l"
  refine⟨_,_,v7,rfl,(s5.trans s6).trans s7,?_⟩
  rw[LR.IS,(LR.IU he).2]
  exact Yv
 ·rintro σ U ⟨v3,v4,pv,rfl,s4,oy⟩
  walk_at"l"
  exact h U pv (s3.trans s4) oy
theorem Yw(T:Txt K mg A)(D:aI K mg "indices_beside" xB ["system","number"])(rX:Callee P w K mg base ao 1 "media_of" ["system"] (D7 K A))(mF:Callee P w K mg base ao 1 "ways_of" ["things"] (yl K A))(rW:Callee P w K mg base ao 1 "along" ["rational","way"] (D_ K)):Callee P w K mg base ao 2 "indices_beside" ["system","number"] (Mb K A):=by
 refine D.ok nS (λ_=>rfl) λf ay Ar outer s H d Q E hr h=>?_
 obtain⟨d,n⟩:=d
 obtain⟨S,hg,hn,h⟩:=h
 dsimp only at*
 have iU:d.S.elems.length≤16:=hg.el
 refine⟨_,(af (a9 (i:=2) nS.nd rfl (Or.inl rfl) (aT rX (hr.mono (by decide)) aD (aa (pv 0) ae)))
   (af (a9 (i:=3) nS.nd rfl (Or.inr rfl) (aT mF (hr.mono (by decide)) aD (aa (aB (pv 0) rfl) ae)))
   (af (a9 (i:=4) nS.nd rfl (Or.inl rfl) (bK ae))
   (af (hX PassesOwn.never rfl (qo (gR (aa (pv 1) (aa (dY kZ (pv 1) aM) ae)))) (eA (i:=5) nS.nd rfl (Or.inr rfl)) (af (a9 (i:=6) nS.nd rfl (Or.inl rfl) (a_ cf (aB (pv 0) rfl) (a_ cf (pv 2) (pv 5) (λ_ _=>rfl)) (λ_ _=>rfl)))
   (ai (bq (gT PySem.F.plainAttrs_list PySem.F.slot_list_extend PySem.F.type_list_extend wa (pv 4) (aa (tF rfl nS.nd (kX (aB (pv 6) rfl)) (qB (N:=["system","number","media","ways","indices","side","glass","index"]) (sc:=aE xB) (own:=[("index",7)]) (by decide +kernel)) (λ_ _ _ _ _=>eA (i:=7) nS.nd rfl (Or.inl rfl)) (λ_ _ _ _ _=>qz) (λ_ _ _ _ _=>(aT rW (hr.mono (by decide)) aD (aa (pv 7) (aa (a_ (Yq (K:=K) rfl) (pv 3) (pv 5) (λ_ _=>rfl)) ae))))) ae))))))
   (ai (aH (pv 4))))))),?_⟩
 show ba _ _ _ [some (.ref d.s),some (.int n),none,none,none,none,none,none] H
 walk_at"l"
 refine⟨d,rfl,S,iU,λH1 m s1 DD hm=>?_⟩
 have S1:=g7 S s1
 obtain⟨dx,hi⟩:=S1.ins
 walk_at"l"
 refine eW hi T.bf ?_
 walk_at"l"
 refine⟨d,rfl,S1,iU,λH2 wl s2 Yx hw=>?_⟩
 walk_at"l"
 refine⟨Nat.zero_le _,λp hp=>?_⟩
 have sp:=au.bc (o:=.lst []) hp
 have Yy:H p=none:=(s1.trans s2).free hp
 walk_at"l"
 with_reducible refine iD (uA ?_)
 walk_at"l"
 refine⟨by show 2≤sizeLine;decide,λtp uZ=>?_⟩
 have mG:=au.bc (o:=.tup [.int n,.int ((n:Int)+1)]) uZ
 refine⟨tp,rfl,⟨_,aY.of aw⟩,sO (K:=K) (a:=tp) (xs:=[.int n,.int ((n:Int)+1)]) (λk σ U=>∃(v5 v6:Option V) (vs:List V),σ=[some (.ref d.s),some (.int n),some (.ref m),some (.ref wl),some (.ref p),v5,v6,none]∧au H2 U∧aY K U tp [.int n,.int ((n:Int)+1)]∧U p=some (.lst vs)∧Each (bh K U) vs (rT d.S n k))
  ⟨none,none,[],rfl,sp.trans mG,aY.of aw,mG _ _ aw,Each.nil⟩ (λk σ U _ ⟨_,_,_,_,_,q,_⟩=>q) ?_ ?_⟩
 ·rintro k y σ U hy ⟨v5,v6,vs,rfl,s3,vb,oy,hE⟩
  have k2:k<2:=(List.getElem?_eq_some_iff.mp hy).1
  obtain rfl:y=.int ((n+k:Nat):Int):=by
   match k,k2,hy with
   |0,_,hy=>exact(Option.some.inj hy).symm
   |1,_,hy=>exact(Option.some.inj hy).symm
  have S3:=g7 S1 (s2.trans s3)
  obtain⟨lE,yo⟩:=S3.ins
  have ml:=LR.tZ hg (n+k)
  have mH:d.S.glasses[d.S.medium (n+k)]?=some d.S.glasses[d.S.medium (n+k)]:=List.getElem?_eq_getElem ml
  obtain⟨ga,vc,hG⟩:=S3.glasses.at mH
  obtain⟨ik,nm,il,i0,i1,i2,q0,q1,q2,iH,bZ,gF,n1,n2,ei,r0,r1,r2⟩:=hG
  walk_at"l"
  refine jC yo T.bf ?_
  walk_at"l"
  refine b9 (ah.of (s3 _ _ (s2 _ _ hm))) (v:=gu d.S (n+k)) (hZ (by rw[List.getElem?_map,List.getElem?_range (by omega)];rfl)) ?_
  refine b9 (ah.of S3.ck) (v:=.ref ga) (hZ (by rw[List.getElem?_map,vc];rfl)) ?_
  walk_at"l"
  refine⟨.inl ⟨rfl,_,ah.of oy⟩,?_⟩
  walk_at"l"
  refine rf (lx ?_)
  walk_at"l"
  refine CF iH T.eE ?_
  refine⟨il,rfl,⟨_,ah.of gF⟩,λDl hD=>wm (K:=K) (a:=il) (xs:=[i0,i1,i2]) (λj H4=>au U H4∧∃ws,H4 Dl=some (.lst ws)∧Each (bh K H4) ws ((([q0,q1,q2]:List Rat).take j).map λq=>((b4 d.S (n+k):Int):Rat)*q))
   ⟨au.bc hD,[],aw,Each.nil⟩ (λj H4 _ ⟨s4,_⟩=>ah.of (s4 _ _ gF)) (λj x H4 hx ⟨s4,ws,oz,hW⟩=>?_) (λH4 ⟨s4,ws,oz,hW⟩=>?_)⟩
  ·show gD 7 _ [some (.ref d.s),some (.int n),some (.ref m),some (.ref wl),some (.ref p),some (.int ((n+k:Nat):Int)),some (.ref ga),none] _ _
   walk_at"l"
   refine⟨rfl,?_⟩
   with_reducible refine ro ?_
   walk_at"l"
   refine b9 (ah.of (s4 _ _ (s3 _ _ hw))) (v:=mE d.S (n+k)) (hZ (by rw[List.getElem?_map,List.getElem?_range (by omega)];rfl)) ?_
   walk_at"l"
   have j3:j<3:=(List.getElem?_eq_some_iff.mp hx).1
   have Yz:∃q,([q0,q1,q2]:List Rat)[j]?=some q∧bh K U x q:=by
    match j,j3,hx with
    |0,_,hx=>exact⟨q0,rfl,(Option.some.inj hx)▸r0⟩
    |1,_,hx=>exact⟨q1,rfl,(Option.some.inj hx)▸r1⟩
    |2,_,hx=>exact⟨q2,rfl,(Option.some.inj hx)▸r2⟩
   obtain⟨q,hq,Ea⟩:=Yz
   refine⟨((x,q),b4 d.S (n+k)),rfl,Ea.same s4,LR.wJ _ _,λH5 v5 s5 YA=>?_⟩
   have yp:=s5 _ _ oz
   refine⟨ws,yp,?_,?_⟩
   ·rw[hW.1,List.length_map,List.length_take,show sizeLine=16777216 from sizeLine_eq]
    show min j 3<_
    omega
   ·refine⟨mD (s4.trans s5) yp hD,ws++[v5],aw,?_⟩
    rw[List.take_add_one,hq,List.map_append]
    exact((hW.same s5).keepR (fz yp)).append (Each.one (YA.keep (fz yp)))
  ·walk_at"l"
   have gw:=s4 _ _ oy
   refine xy gw oz ?_ ?_
   ·rw[hE.1,hW.1,Ma,List.length_map,List.length_take,show sizeLine=16777216 from sizeLine_eq]
    show 3*k+min 3 3≤_
    omega
   ·refine⟨_,_,vs++ws,rfl,mD (s3.trans s4) gw hp,(vb.same s4).keep (fz gw),aw,?_⟩
    rw[yn,LR.Rf mH ei,ei]
    exact((hE.same s4).keepR (fz gw)).append (hW.keepR (fz gw))
 ·rintro σ U ⟨v5,v6,vs,rfl,s3,vb,oy,hE⟩
  walk_at"l"
  refine h U p vs ((s1.trans s2).trans s3) Yy oy ?_
  have e:rT d.S n 2=Ln.indices d.S n++Ln.indices d.S (n+1):=by
   rw[yn,yn];rfl
  rw[←e]
  exact hE
end
end LN
namespace LN
open PySem PySem.Spec PyProof.Rows L2 LX
open LR (b4 iT)
def vd(K:PySem.W.Frag)(A:Ad)(d:SD)(H:Hp)(Q:VK)(S':Ln.System_)(ans:List Int):Prop:=∀U p Eb gB,ax (d.s::d.tl::d.es) H U→H p=none→U p=some (.lst (ans.map V.int))→cD K A d.no U d.s d.gl Eb d.gs gB S'→Q (.ref p) U
def oA(K:PySem.W.Frag)(A:Ad)(d:SD)(H:Hp)(Q:VK)(c:Wrlnsb.Call):Prop:=∀S',(Wrlnsb.does d.S c).1=some S'→vd K A d H Q S' (WrlnsbNeutral.told (Wrlnsb.does d.S c).2)
section
variable{K:PySem.W.Frag}{A:Ad}{H U:Hp}{d:SD}{no:List Addr}{s gl tl a dx:Addr}{gs es:List Addr}{S:Ln.System_}{e e':Ln.Elem}{i:Nat}{v0 v1 v2 v3 v4 v5 v6:V}
theorem cD.yq(h:cD K A no H s gl tl gs es S)(ha:es[i]?=some a)(k:ax [a] H U)(hi:H a=some (.ins A.aQ dx (bN v0 v1 v2 v3 v4 v5 v6)))(hE:eX K A (gl::tl::no) U a e'):cD K A no U s gl tl gs es {S with elems:=S.elems.set i e'}:=by
 obtain⟨g5,hs⟩:=h.ins
 have off:∀b,b≠a→∀c∈[a],Off (gl::tl::no) H b c:=λb n c hc=>by
  rw[List.mem_singleton.mp hc]
  exact .inr ⟨n,_,_,_,hi⟩
 refine⟨⟨g5,k.eq _ _ hs λz=>fP hs hi (by decide +kernel) (List.mem_singleton.mp z)⟩,k.eq _ _ h.ck λz=>bY h.ck hi (λq=>by cases q) (List.mem_singleton.mp z),k.eq _ _ h.bu λz=>bY h.bu hi (λq=>by cases q) (List.mem_singleton.mp z),h.ne,h.ic,h.jh,h.nd,h.glasses.imp λ_ b g _ _ q=>q.keep k (off b ?_),?_⟩
 ·obtain⟨bQ,nm,il,i0,i1,i2,q0,q1,q2,h1,_⟩:=q
  exact fP h1 hi (by decide +kernel)
 ·refine⟨by rw[List.length_set];exact h.elems.1,λj b c hb hc=>?_⟩
  by_cases z:i=j
  ·subst z
   rw[ha]at hb
   cases hb
   rw[List.getElem?_set_self (by rw[←h.elems.1];exact(List.getElem?_eq_some_iff.mp ha).1)]at hc
   cases hc
   exact hE
  ·rw[List.getElem?_set_ne z]at hc
   refine(h.elems.2 j b c hb hc).keep k (off b λq=>z ?_)
   subst q
   exact(List.getElem?_inj (List.getElem?_eq_some_iff.mp ha).1 h.nd).mp (ha.trans hb.symm)
theorem YB(hi:i<S.elems.length):Ln.setElem S i e'={S with elems:=S.elems.set i e'}:=by
 unfold Ln.setElem
 rw[List.set_eq_take_append_cons_drop,if_pos hi]
theorem cD.Mc(h:cD K A no H s gl tl gs es S){gB:List Addr}{l:List Ln.Elem}(nd:gB.Nodup)(hE:Each (eX K A (gl::tl::no) H) gB l):cD K A no (upd H tl (.lst (gB.map .ref))) s gl tl gs gB {S with elems:=l}:=by
 have k:ax [tl] H (upd H tl (.lst (gB.map .ref))):=fz h.bu
 have off:∀x,∀b∈[tl],Off (gl::tl::no) H x b:=λx b hb=>by
  rw[List.mem_singleton.mp hb]
  exact .inl ⟨List.mem_cons_of_mem _ List.mem_cons_self,_,h.bu⟩
 obtain⟨dx,hi⟩:=h.ins
 exact⟨⟨dx,by rw[aG (bY hi h.bu λz=>by cases z)];exact hi⟩,by rw[aG h.ne];exact h.ck,aw,h.ne,h.ic,h.jh,nd,h.glasses.imp λ_ _ _ _ _ q=>q.keep k (off _),hE.imp λ_ _ _ _ _ q=>q.keep k (off _)⟩
theorem kM(h:ey K A H d):∀b∈d.s::d.tl::d.es,∃o,H b=some o∧mf o=true:=λb hb=>by
 rcases List.mem_cons.mp hb with q|hb
 ·obtain⟨dx,hi⟩:=h.ins
  exact⟨_,q▸hi,rfl⟩
 rcases List.mem_cons.mp hb with q|hb
 ·exact⟨_,q▸h.bu,rfl⟩
 ·obtain⟨i,hi⟩:=List.getElem?_of_mem hb
  obtain⟨e,_,dx,nm,gp,cv,cn,rc,q,_⟩:=h.elems.at' hi
  exact⟨_,q,rfl⟩
end
def Md(K:PySem.W.Frag):Sp:=aU (λ(d:(Ln.Elem×Nat)×V×Rat)=>[.int (kN d.1.1.kind),.int d.1.2,d.2.1]) λd H Q _=>bh K H d.2.1 d.2.2∧Q (.bl (Wrlnsb.maySet d.1.1 d.1.2 d.2.2)) H
def ve(bM:Nat)(v v0 v1 v2 v3 v4 v5 v6:V):List (Str×V):=if bM=0 then bN v0 v1 v v3 v4 v5 v6 else if bM=1 then bN v0 v1 v2 v3 v v5 v6 else if bM=2 then bN v0 v1 v2 v3 v4 v v6 else bN v0 v1 v2 v3 v4 v5 v
structure YC where
 (a dx:Addr) (bM:Nat) (v v0 v1 v2 v3 v4 v5 v6:V)
def Me(A:Ad):Sp:=aU (λ(d:YC)=>[.ref d.a,.int d.bM,d.v]) λd H Q _=>H d.a=some (.ins A.aQ d.dx (bN d.v0 d.v1 d.v2 d.v3 d.v4 d.v5 d.v6))∧Q .aJ (upd H d.a (.ins A.aQ d.dx (ve d.bM d.v d.v0 d.v1 d.v2 d.v3 d.v4 d.v5 d.v6)))
def Mf(K:PySem.W.Frag)(A:Ad):Sp:=aU (λ(d:SD×Nat×Nat×Int×Nat)=>[.ref d.1.s,.int d.2.1,.int d.2.2.1,.int d.2.2.2.1,.int d.2.2.2.2]) λd H Q _=>ey K A H d.1∧LR.Good d.1.S∧d.2.2.2.2<2^63∧oA K A d.1 H Q (.set d.2.1 d.2.2.1 d.2.2.2.1 d.2.2.2.2)
def Mg(K:PySem.W.Frag)(A:Ad):Sp:=aU (λ(d:SD×Nat)=>[.ref d.1.s,.int d.2]) λd H Q _=>ey K A H d.1∧LR.Good d.1.S∧oA K A d.1 H Q (.drop d.2)
theorem yr(q:Rat):decide (0≤q.num)=decide (0≤q):=decide_eq_decide.mpr Rat.num_nonneg
theorem Mh(k:Ln.Kind):(!decide (((kN k:Nat):Int)=2))=!k.isStop:=by cases k<;>rfl
section
variable{P:Program}{w:World}{K:PySem.W.Frag}{mg:Str→Option Value}{base:Heap}{A:Ad}
theorem YD(T:Txt K mg A)(D:aI K mg "can_be" BM ["kind","what","value"]):Callee P w K mg base ao 1 "can_be" ["kind","what","value"] (Md K):=by
 refine D.ok Uz (λ_=>rfl) λf ay Ar outer s H d Q E hr h=>?_
 obtain⟨⟨e,bM⟩,v,q⟩:=d
 obtain⟨hv,h⟩:=h
 dsimp only at*
 obtain⟨t,rfl,ht⟩:=id hv
 refine⟨_,(af (bb (PW.pt (kW (aW bU (pv 1) (aF T.KA) (aR _)) (mU (aW bU (pv 1) (aF T.KC) (aR _))))) (ai (aH (jt jY (a_ dM (pv 2) aM (λ_ _=>rfl)) aM (aR _)))) bo)
   (ai (aH (sI (jt lg (pv 0) (aF T.CU) (aR _)) (vN (jt (tj hr.units) (pv 2) (aF T.gq) (aR _))))))),?_⟩
 show ba _ _ _ [some (.int (kN e.kind)),some (.int bM),some (.ref t)] H
 walk_at"l"
 unfold Wrlnsb.maySet at h
 by_cases h0:bM=0
 ·rw[if_pos (decide_eq_true (by omega))]
  walk_at"l"
  rw[if_pos rfl]
  rw[if_pos (.inl h0)]at h
  walk_at"l"
  refine dB ht rfl ?_
  walk_at"l"
  first
   |(rw[yr];exact h)
   |(rw[show decide (q.num≥0)=decide (0≤q)from yr q];exact h)
 ·rw[if_neg (λz=>h0 (by have:=of_decide_eq_true z;omega))]
  walk_at"l"
  by_cases h3:bM=3
  ·rw[if_pos (decide_eq_true (by omega))]
   rw[if_pos (.inr h3)]at h
   walk_at"l"
   refine dB ht rfl ?_
   walk_at"l"
   first
    |(rw[yr];exact h)
    |(rw[show decide (q.num≥0)=decide (0≤q)from yr q];exact h)
  ·rw[if_neg (λz=>h3 (by have:=of_decide_eq_true z;omega))]
   rw[if_neg (by omega)]at h
   walk_at"l"
   rw[Mh]
   cases hs:e.kind.isStop with
   |false=>
    rw[hs]at h
    rw[if_pos (by decide)]
    exact h
   |true=>
    rw[hs]at h
    rw[if_neg (by decide)]
    walk_at"l"
    refine Dg hv (g4 T _) ?_
    exact h
theorem YE(T:Txt K mg A)(D:aI K mg "give" BN ["thing","what","value"]):Callee P w K mg base ao 1 "give" ["thing","what","value"] (Me A):=by
 refine D.ok UA (λ_=>rfl) λf ay Ar outer s H d Q E hr h=>?_
 obtain⟨a,dx,bM,v,v0,v1,v2,v3,v4,v5,v6⟩:=d
 obtain⟨hi,h⟩:=h
 dsimp only at*
 unfold ve at h
 refine⟨_,(ai (bb (aW bU (pv 1) (aF T.KA) (aR _)) (ai (bI (pv 0) (pv 2) rfl)) (ai (bb (aW bU (pv 1) (aF T.VX) (aR _)) (ai (bI (pv 0) (pv 2) rfl)) (ai (bb (aW bU (pv 1) (aF T.VY) (aR _)) (ai (bI (pv 0) (pv 2) rfl)) (ai (bI (pv 0) (pv 2) rfl)))))))),?_⟩
 show vO _ _ _ _ [some (.ref a),some (.int bM),some v] H
 walk_at"l"
 by_cases h0:bM=0
 ·rw[if_pos (decide_eq_true (by omega))]
  rw[if_pos h0]at h
  walk_at"l"
  exact uF hi T.aQ h
 rw[if_neg (λz=>h0 (by have:=of_decide_eq_true z;omega))]
 rw[if_neg h0]at h
 walk_at"l"
 by_cases h1:bM=1
 ·rw[if_pos (decide_eq_true (by omega))]
  rw[if_pos h1]at h
  walk_at"l"
  exact xM hi T.aQ h
 rw[if_neg (λz=>h1 (by have:=of_decide_eq_true z;omega))]
 rw[if_neg h1]at h
 walk_at"l"
 by_cases h2:bM=2
 ·rw[if_pos (decide_eq_true (by omega))]
  rw[if_pos h2]at h
  walk_at"l"
  exact Kf hi T.aQ h
 rw[if_neg (λz=>h2 (by have:=of_decide_eq_true z;omega))]
 rw[if_neg h2]at h
 walk_at"l"
 exact CI hi T.aQ h
end
end LN
namespace LN
open PySem PySem.Spec PyProof.Rows L2 LX
open LR (b4 iT)
section
variable{K:PySem.W.Frag}{A:Ad}{H U:Hp}{d:SD}{Q:VK}{S':Ln.System_}
theorem vd.no(h:vd K A d H Q d.S [z])(S:ey K A H d)(s:au H U)(l:List V)(e:l=[V.int z]):∀p,U p=none→Q (.ref p) (upd U p (.lst l)):=λp hp=>by
 subst e
 have s2:=s.trans (au.bc (o:=.lst [V.int z]) hp)
 exact h _ p d.tl d.es (s2.keep (kM S)) (s.free hp) aw (g7 S s2)
end
theorem rY(S:Ln.System_)(n bM:Nat)(p:Int)(q:Nat):Wrlnsb.does S (.set n bM p q)=(match S.elems[n]? with
  |none=>(some S,Wrlnsb.no (-1))
  |some e=>if 3<bM∨q=0 then(some S,Wrlnsb.no (-1))else if Wrlnsb.maySet e bM (Wrlnsb.frac p q)=false then(some S,Wrlnsb.no (-5))else Wrlnsb.changed S (Ln.setElem S n (Ln.setNum e bM (Wrlnsb.frac p q)))):=rfl
theorem lH{z:Int}{c:Wrlnsb.Call}{K:PySem.W.Frag}{A:Ad}{d:SD}{H:Hp}{Q:VK}(h:oA K A d H Q c)(e:Wrlnsb.does d.S c=(some d.S,Wrlnsb.no z)):vd K A d H Q d.S [z]:=by
 have q:=h d.S (by rw[e])
 rw[e]at q
 exact q
theorem vf{S:Ln.System_}{c:Wrlnsb.Call}{K:PySem.W.Frag}{A:Ad}{d:SD}{H:Hp}{Q:VK}(h:oA K A d H Q c)(e:Wrlnsb.does d.S c=(some S,Wrlnsb.good)):vd K A d H Q S [0]:=by
 have q:=h S (by rw[e])
 rw[e]at q
 exact q
section
variable{P:Program}{w:World}{K:PySem.W.Frag}{mg:Str→Option Value}{base:Heap}{A:Ad}
theorem YF(T:Txt K mg A)(D:aI K mg "set_number" BO ["system","number","what","upper","lower"])(gM:Callee P w K mg base ao 2 "quotient" ["upper","lower"] (pz K))(Ec:Callee P w K mg base ao 1 "can_be" ["kind","what","value"] (Md K))(mI:Callee P w K mg base ao 1 "is_too_long" ["rational"] (xS K))(Ed:Callee P w K mg base ao 1 "give" ["thing","what","value"] (Me A)):Callee P w K mg base ao 3 "set_number" ["system","number","what","upper","lower"] (Mf K A):=by
 refine D.ok Cy (λ_=>rfl) λf ay Ar outer s H d Q E hr h=>?_
 obtain⟨d,n,bM,p,q⟩:=d
 obtain⟨S,hg,hq,h⟩:=h
 dsimp only at*
 obtain⟨dx,hi⟩:=S.ins
 have lJ:((d.es.map V.ref).length:Int)=(d.S.elems.length:Int):=by rw[ox S]
 refine⟨_,(af (bb (PW.pt (kW (aW jY (pv 1) (eB fK (by rfl) T.fO PySem.boot_len (aa (aB (pv 0) rfl) ae)) (aR _)) (kW (aW qt (pv 2) (aF T.KC) (aR _)) (mU (aW bU (pv 4) aM (aR _)))))) (ai (aH (bK (aa (aF T.ly) ae)))) bo)
   (af (a9 (i:=5) Cy.nd rfl (Or.inl rfl) (a_ cf (aB (pv 0) rfl) (pv 1) (λ_ _=>rfl)))
   (af (a9 (i:=6) Cy.nd rfl (Or.inl rfl) (aT gM (hr.mono (by decide)) aD (aa (pv 3) (aa (pv 4) ae))))
   (af (bb (y8 (iu (aT Ec (hr.mono (by decide)) aD (aa (aB (pv 5) rfl) (aa (pv 2) (aa (pv 6) ae)))))) (ai (aH (bK (aa (aF T.VW) ae)))) bo)
   (af (bb (iu (aT mI (hr.mono (by decide)) aD (aa (pv 6) ae))) (ai (aH (bK (aa (aF T.C1) ae)))) bo)
   (af (bq (aT Ed (hr.mono (by decide)) aD (aa (pv 5) (aa (pv 2) (aa (pv 6) ae)))))
   (ai (aH (bK (aa aM ae)))))))))),?_⟩
 show ba _ _ _ [some (.ref d.s),some (.int n),some (.int bM),some (.int p),some (.int q),none,none] H
 have none_:∀(l:List V),Wrlnsb.does d.S (.set n bM p q)=(some d.S,Wrlnsb.no (-1))→l=[V.int (-1)]→∀p,H p=none→Q (.ref p) (upd H p (.lst l)):=λl e e2=>(lH h e).no S (au.refl _) l e2
 walk_at"l"
 refine eW hi T.bf ?_
 walk_at"l"
 refine⟨_,_,rfl,.inl (ah.of S.bu),?_⟩
 walk_at"l"
 by_cases h1:d.S.elems.length≤n
 ·have e1:Wrlnsb.does d.S (.set n bM p q)=(some d.S,Wrlnsb.no (-1)):=by
   rw[rY]
   rw[List.getElem?_eq_none h1]
  rw[if_pos (decide_eq_true (by rw[lJ];omega))]
  rw[if_pos rfl]
  walk_at"l"
  refine⟨by show 1≤sizeLine;decide,none_ _ e1 rfl⟩
 have bw:n<d.S.elems.length:=by omega
 have he:d.S.elems[n]?=some d.S.elems[n]:=List.getElem?_eq_getElem bw
 rw[if_neg (λz=>h1 (by have:=of_decide_eq_true z;rw[lJ]at this;omega))]
 walk_at"l"
 by_cases h2:3<bM
 ·have e1:Wrlnsb.does d.S (.set n bM p q)=(some d.S,Wrlnsb.no (-1)):=by
   rw[rY]
   rw[he]
   dsimp only
   rw[if_pos (.inl h2)]
  rw[if_pos (decide_eq_true (by omega))]
  rw[if_pos rfl]
  walk_at"l"
  refine⟨by show 1≤sizeLine;decide,none_ _ e1 rfl⟩
 rw[if_neg (λz=>h2 (by have:=of_decide_eq_true z;omega))]
 walk_at"l"
 by_cases h3:q=0
 ·have e1:Wrlnsb.does d.S (.set n bM p q)=(some d.S,Wrlnsb.no (-1)):=by
   rw[rY]
   rw[he]
   dsimp only
   rw[if_pos (.inr h3)]
  rw[if_pos (decide_eq_true (by omega))]
  walk_at"l"
  refine⟨by show 1≤sizeLine;decide,none_ _ e1 rfl⟩
 rw[if_neg (λz=>h3 (by have:=of_decide_eq_true z;omega))]
 walk_at"l"
 refine eW hi T.bf ?_
 walk_at"l"
 obtain⟨a,ha,hE⟩:=S.elems.at he
 refine b9 (ah.of S.bu) (v:=.ref a) (hZ (by rw[List.getElem?_map,ha];rfl)) ?_
 walk_at"l"
 refine⟨(p,q),rfl,h3,Nat.lt_trans hq (Nat.pow_lt_pow_right (by decide) (by decide)),λH1 v s1 hv=>?_⟩
 have S1:=g7 S s1
 obtain⟨b_,nm,gp,cv,cn,rc,bP,bZ,aZ,ip,gr,jH,jI⟩:=hE.same s1
 walk_at"l"
 refine ko bP T.aQ ?_
 walk_at"l"
 refine⟨((d.S.elems[n],bM),v,Wrlnsb.frac p q),rfl,hv,?_⟩
 walk_at"l"
 have dn:Wrlnsb.does d.S (.set n bM p q)=if Wrlnsb.maySet d.S.elems[n] bM (Wrlnsb.frac p q)=false then(some d.S,Wrlnsb.no (-5))else Wrlnsb.changed d.S (Ln.setElem d.S n (Ln.setNum d.S.elems[n] bM (Wrlnsb.frac p q))):=by
  rw[rY,he]
  dsimp only
  rw[if_neg (by omega)]
 cases hm:Wrlnsb.maySet d.S.elems[n] bM (Wrlnsb.frac p q)with
 |false=>
  rw[hm,if_pos rfl]at dn
  dsimp only
  rw[if_pos (by decide)]
  walk_at"l"
  exact⟨by show 1≤sizeLine;decide,(lH h dn).no S s1 _ rfl⟩
 |true=>
  rw[hm,if_neg (by decide)]at dn
  dsimp only
  rw[if_neg (by decide)]
  have ge:=hg.elems _ (List.mem_of_getElem? he)
  unfold Wrlnsb.changed at dn
  rw[LR.Ip hg,LR.Iq ge (by omega)]at dn
  walk_at"l"
  refine⟨(v,Wrlnsb.frac p q),rfl,hv,?_⟩
  walk_at"l"
  cases hf:Ln.fits (Wrlnsb.frac p q)with
  |false=>
   rw[hf,if_pos rfl]at dn
   dsimp only
   rw[if_pos (by decide)]
   walk_at"l"
   exact⟨by show 1≤sizeLine;decide,(lH h dn).no S s1 _ rfl⟩
  |true=>
   rw[hf,if_neg (by decide)]at dn
   dsimp only
   rw[if_neg (by decide)]
   walk_at"l"
   refine⟨⟨a,b_,bM,v,_,_,_,_,_,_,_⟩,rfl,bP,?_⟩
   walk_at"l"
   refine⟨by show 1≤sizeLine;decide,λpr kO=>?_⟩
   have k2:=fc (o:=.ins A.aQ b_ (ve bM v (.int (kN d.S.elems[n].kind)) (.ref nm) gp (.int (gN d.S.elems[n].kind)) cv cn rc)) bP
   have Ee:eX K A (d.gl::d.tl::d.no) (upd H1 a (.ins A.aQ b_ (ve bM v (.int (kN d.S.elems[n].kind)) (.ref nm) gp (.int (gN d.S.elems[n].kind)) cv cn rc))) a (Ln.setNum d.S.elems[n] bM (Wrlnsb.frac p q)):=by
    have oU:upd H1 a (.ins A.aQ b_ (ve bM v (.int (kN d.S.elems[n].kind)) (.ref nm) gp (.int (gN d.S.elems[n].kind)) cv cn rc)) nm=some (.lst (bA d.S.elems[n].name)):=by
     rw[aG (bY bZ bP λz=>by cases z)];exact bZ
    have rZ:=hv.keep k2
    have g2:=ip.keep k2
    have c2:=gr.keep k2
    have n2:=jH.keep k2
    have r2:=jI.keep k2
    match bM,h2 with
    |0,_=>exact⟨b_,nm,v,cv,cn,rc,aw,oU,aZ,rZ,c2,n2,r2⟩
    |1,_=>exact⟨b_,nm,gp,v,cn,rc,aw,oU,aZ,g2,rZ,n2,r2⟩
    |2,_=>exact⟨b_,nm,gp,cv,v,rc,aw,oU,aZ,g2,c2,rZ,r2⟩
    |3,_=>exact⟨b_,nm,gp,cv,cn,v,aw,oU,aZ,g2,c2,n2,by rw[show(Ln.setNum d.S.elems[n] 3 (Wrlnsb.frac p q)).clear.getD 0=Wrlnsb.frac p q from LR.IP _];exact rZ⟩
    |k+4,z=>exact absurd z (by omega)
   have S2:=S1.yq ha k2 bP Ee
   rw[←YB bw]at S2
   have sp:=au.bc (o:=.lst [V.int 0]) kO
   refine vf h dn _ pr d.tl d.es ?_ ?_ aw (S2.keep sp.eV λb hb=>absurd hb (by simp))
   ·refine((s1.keep (kM S)).sub k2 λb hb=>.inl ?_).d6 sp
    rw[List.mem_singleton.mp hb]
    exact List.mem_cons_of_mem _ (List.mem_cons_of_mem _ (List.mem_of_getElem? ha))
   ·refine s1.free ?_
    rw[aG (λz=>by rw[←z,aw]at kO;cases kO)]at kO
    exact kO
end
end LN
namespace LN
open PySem PySem.Spec PyProof.Rows L2 LX
open LR (b4 iT)
theorem Each.erase{α β:Type}{R:α→β→Prop}{as:List α}{bs:List β}(h:Each R as bs)(n:Nat):Each R (as.eraseIdx n) (bs.eraseIdx n):=by
 rw[List.eraseIdx_eq_take_drop_succ,List.eraseIdx_eq_take_drop_succ]
 exact(h.take n).append (h.drop (n+1))
theorem YG{α β:Type}(f:α→β)(l:List α)(n:Nat):(l.map f).eraseIdx n=(l.eraseIdx n).map f:=by
 rw[List.eraseIdx_eq_take_drop_succ,List.eraseIdx_eq_take_drop_succ,List.map_append,List.map_take,List.map_drop]
theorem YH{α:Type}(l:List α)(n:Nat)(x:α)(h:n+1<l.length):(l.set (n+1) x).eraseIdx n=l.take n++x::l.drop (n+2):=by
 rw[List.eraseIdx_eq_take_drop_succ,List.take_set_of_le (by omega),List.drop_set,if_neg (by omega),show n+1-(n+1)=0 by omega]
 rw[List.drop_eq_getElem_cons h]
 rfl
theorem YI{α:Type}(l:List α)(n:Nat)(h:l.length≤n+1):l.eraseIdx n=l.take n:=by
 rw[List.eraseIdx_eq_take_drop_succ,List.drop_of_length_le h,List.append_nil]
theorem YJ{α:Type}{l:List α}(h:l.Nodup)(n:Nat):(l.eraseIdx n).Nodup:=List.Sublist.nodup (List.eraseIdx_sublist l n) h
theorem Ef(S:Ln.System_)(n:Nat):Wrlnsb.does S (.drop n)=if S.count≤n then(some S,Wrlnsb.no (-1))else Wrlnsb.changed S (Ln.drop S n):=rfl
theorem YK{H:Hp}{Q:VK}{l:Addr}{xs:List V}{n:Nat}{y:V}(h:H l=some (.lst xs))(hn:xs[n]?=some y)(b:n<1000000)(k:Q y (upd H l (.lst (xs.eraseIdx n)))):Hd (.ref l) [.int (n:Int)] H Q:=by
 have hl:=(List.getElem?_eq_some_iff.mp hn).1
 exact⟨l,xs,n,n,y,rfl,rfl,h,by omega,by omega,(G2 (by unfold m8;rw[if_pos (by omega),if_pos (by omega)];rfl)).1,hn,k⟩
theorem vg{q:Rat}(h:Ln.fits q=true):small q:=by
 unfold Ln.fits at h
 rw[Bool.and_eq_true,decide_eq_true_eq,decide_eq_true_eq]at h
 exact L_ h
section
variable{P:Program}{w:World}{K:PySem.W.Frag}{mg:Str→Option Value}{base:Heap}{A:Ad}
theorem YL(T:Txt K mg A)(D:aI K mg "drop" BL ["system","number"])(rV:Callee P w K mg base ao 3 "plus" ["one","other"] (C6 K))(mI:Callee P w K mg base ao 1 "is_too_long" ["rational"] (xS K)):
  Callee P w K mg base ao 4 "drop" ["system","number"] (Mg K A):=by
 refine D.ok Cw (λ_=>rfl) λf ay Ar outer s H d Q E hr h=>?_
 obtain⟨d,n⟩:=d
 obtain⟨S,hg,h⟩:=h
 dsimp only at*
 obtain⟨dx,hi⟩:=S.ins
 have lJ:((d.es.map V.ref).length:Int)=(d.S.elems.length:Int):=by rw[ox S]
 have iU:d.S.elems.length≤16:=hg.el
 refine⟨_,(af (a9 (i:=2) Cw.nd rfl (Or.inl rfl) (aB (pv 0) rfl))
   (af (bb (aW jY (pv 1) (eB fK (by rfl) T.fO PySem.boot_len (aa (pv 2) ae)) (aR _)) (ai (aH (bK (aa (aF T.ly) ae)))) bo)
   (af (bb (aW oR (dY kZ (pv 1) aM) (eB fK (by rfl) T.fO PySem.boot_len (aa (pv 2) ae)) (aR _)) (af (a9 (i:=3) Cw.nd rfl (Or.inl rfl) (aT rV (hr.mono (by decide)) aD (aa (aB (a_ cf (pv 2) (pv 1) (λ_ _=>rfl)) rfl) (aa (aB (a_ cf (pv 2) (dY kZ (pv 1) aM) (λ_ _=>rfl)) rfl) ae))))
   (af (bb (iu (aT mI (hr.mono (by decide)) aD (aa (pv 3) ae))) (ai (aH (bK (aa (aF T.C1) ae)))) bo)
   (ai (bI (a_ cf (pv 2) (dY kZ (pv 1) aM) (λ_ _=>rfl)) (pv 3) rfl)))) bo)
   (af (bq (gT PySem.F.plainAttrs_list PySem.F.slot_list_pop PySem.F.type_list_pop OY (pv 2) (aa (pv 1) ae)))
   (ai (aH (bK (aa aM ae)))))))),?_⟩
 show ba _ _ _ [some (.ref d.s),some (.int n),none,none] H
 walk_at"l"
 refine eW hi T.bf ?_
 walk_at"l"
 refine⟨_,_,rfl,.inl (ah.of S.bu),?_⟩
 walk_at"l"
 have dd:=Ef d.S n
 by_cases h1:d.S.elems.length≤n
 ·rw[if_pos (show d.S.count≤n from h1)]at dd
  rw[if_pos (decide_eq_true (by rw[lJ];omega))]
  walk_at"l"
  exact⟨by show 1≤sizeLine;decide,(lH h dd).no S (au.refl _) _ rfl⟩
 have bw:n<d.S.elems.length:=by omega
 rw[if_neg (show¬d.S.count≤n from h1)]at dd
 have he:d.S.elems[n]?=some d.S.elems[n]:=List.getElem?_eq_getElem bw
 obtain⟨a,ha,hE⟩:=S.elems.at he
 rw[if_neg (λz=>h1 (by have:=of_decide_eq_true z;rw[lJ]at this;omega))]
 with_reducible refine cB ?_
 with_reducible refine mC (λaz U=>∃(v3:Option V) (S':Ln.System_),az=[some (.ref d.s),some (.int n),some (.ref d.tl),v3]∧ax (d.s::d.tl::d.es) H U∧cD K A d.no U d.s d.gl d.tl d.gs d.es S'∧Wrlnsb.does d.S (.drop n)=(some {S' with elems:=S'.elems.eraseIdx n},Wrlnsb.good)) ?_ ?_
 ·rintro az H2 ⟨v3,S',rfl,k2,S2,e2⟩
  walk_at"l"
  refine⟨.inl ⟨rfl,_,ah.of S2.bu⟩,?_⟩
  walk_at"l"
  refine YK S2.bu (y:=.ref a) (by rw[List.getElem?_map,ha];rfl) (by omega) ?_
  walk_at"l"
  rw[YG]
  have S3:=S2.Mc (YJ S2.nd n) (S2.elems.erase n)
  refine⟨by show 1≤sizeLine;decide,λp hp=>?_⟩
  have sp:=au.bc (o:=.lst [V.int 0]) hp
  have k3:ax [d.tl] H2 (upd H2 d.tl (.lst ((d.es.eraseIdx n).map .ref))):=fz S2.bu
  refine vf h e2 _ p d.tl _ ((k2.sub k3 λb hb=>.inl ?_).d6 sp) ?_ aw (S3.keep sp.eV λb hb=>absurd hb (by simp))
  ·rw[List.mem_singleton.mp hb]
   exact List.mem_cons_of_mem _ List.mem_cons_self
  ·have nt:d.tl≠p:=λz=>by rw[←z,aw]at hp;cases hp
   rw[aG (Ne.symm nt)]at hp
   refine ow k2 (λb hb=>?_) hp
   obtain⟨o,q,_⟩:=kM (d:={d with S:=S'}) S2 b hb
   exact⟨o,q⟩
 ·intro tail
  walk_at"l"
  refine⟨_,_,rfl,.inl (ah.of S.bu),?_⟩
  walk_at"l"
  by_cases h2:n+1<d.S.elems.length
  ·rw[if_pos (decide_eq_true (by rw[lJ];omega))]
   have qE:d.S.elems[n+1]?=some d.S.elems[n+1]:=List.getElem?_eq_getElem h2
   obtain⟨a',qS,YM⟩:=S.elems.at qE
   obtain⟨b_,nm,gp,cv,cn,rc,bP,bZ,aZ,ip,gr,jH,jI⟩:=hE
   obtain⟨Eg,xZ,YN,Eh,Ei,Ej,Mi,Mj,kG,YO,YQ,YR,YS⟩:=YM
   have ge:=hg.elems _ (List.mem_of_getElem? he)
   have YT:=hg.elems _ (List.mem_of_getElem? qE)
   rw[LR.Iu he qE]at dd
   unfold Wrlnsb.changed at dd
   rw[LR.Iv hg he qE,Rat.add_comm d.S.elems[n+1].gap]at dd
   walk_at"l"
   refine b9 (ah.of S.bu) (v:=.ref a) (hZ (by rw[List.getElem?_map,ha];rfl)) ?_
   walk_at"l"
   refine pj bP T.aQ ?_
   walk_at"l"
   refine b9 (ah.of S.bu) (v:=.ref a') (hZ (j:=n+1) (by rw[List.getElem?_map,qS];rfl)) ?_
   walk_at"l"
   refine pj Mi T.aQ ?_
   walk_at"l"
   refine⟨((gp,d.S.elems[n].gap),YN,d.S.elems[n+1].gap),rfl,ip,YO,vg YT.iB,Nat.lt_trans (vg ge.iB).2 (Nat.pow_lt_pow_right (by decide) (by decide)),λH1 v s1 hv=>?_⟩
   walk_at"l"
   refine⟨(v,d.S.elems[n].gap+d.S.elems[n+1].gap),rfl,hv,?_⟩
   dsimp only
   walk_at"l"
   cases hf:Ln.fits (d.S.elems[n].gap+d.S.elems[n+1].gap)with
   |false=>
    rw[hf,if_pos rfl]at dd
    rw[if_pos (by decide)]
    walk_at"l"
    exact⟨by show 1≤sizeLine;decide,(lH h dd).no S s1 _ rfl⟩
   |true=>
    rw[hf,if_neg (by decide)]at dd
    rw[if_neg (by decide)]
    have S1:=g7 S s1
    have mJ:=s1 _ _ Mi
    walk_at"l"
    refine b9 (ah.of S1.bu) (v:=.ref a') (hZ (j:=n+1) (by rw[List.getElem?_map,qS];rfl)) ?_
    refine uF mJ T.aQ ?_
    have k2:=fc (o:=.ins A.aQ Eg (bN (.int (kN d.S.elems[n+1].kind)) (.ref xZ) v (.int (gN d.S.elems[n+1].kind)) Eh Ei Ej)) mJ
    have Ee:eX K A (d.gl::d.tl::d.no) (upd H1 a' (.ins A.aQ Eg (bN (.int (kN d.S.elems[n+1].kind)) (.ref xZ) v (.int (gN d.S.elems[n+1].kind)) Eh Ei Ej))) a' {d.S.elems[n+1]with gap:=d.S.elems[n].gap+d.S.elems[n+1].gap}:=
     ⟨Eg,xZ,v,Eh,Ei,Ej,aw,by rw[aG (bY (s1 _ _ Mj) mJ λz=>by cases z)];exact s1 _ _ Mj,kG,hv.keep k2,(YQ.same s1).keep k2,(YR.same s1).keep k2,(YS.same s1).keep k2⟩
    refine tail _ _ ⟨_,_,rfl,(s1.keep (kM S)).sub k2 λb hb=>.inl ?_,S1.yq qS k2 mJ Ee,?_⟩
    ·rw[List.mem_singleton.mp hb]
     exact List.mem_cons_of_mem _ (List.mem_cons_of_mem _ (List.mem_of_getElem? qS))
    ·rw[dd,YH _ _ _ h2]
  ·rw[if_neg (λz=>h2 (by have:=of_decide_eq_true z;rw[lJ]at this;omega))]
   rw[LR.Ir hg (by omega)]at dd
   unfold Wrlnsb.changed at dd
   rw[LR.Qw hg,if_neg (by decide)]at dd
   exact tail _ _ ⟨_,d.S,rfl,ax.refl (kM S),S,by rw[dd,YI _ _ (by omega)]⟩
end
end LN
namespace LN
open PySem PySem.Spec PyProof.Rows L2 LX
open LR (b4 iT)
structure YU where
 (a:Addr) (e:Ln.Elem) (no:List Addr) (fv:V) (f:Rat)
def mK(f:Rat)(e:Ln.Elem):List Rat:=[e.gap*f,e.curve*(1/f),e.clear.getD 0*f]
def Ml(K:PySem.W.Frag)(A:Ad):Sp:=aU (λ(d:YU)=>[.ref d.a,d.fv]) λd H Q _=>eX K A d.no H d.a d.e∧bh K H d.fv d.f∧d.f≠0∧small d.f∧small d.e.gap∧small d.e.curve∧small (d.e.clear.getD 0)∧
 ∀U t vs,au H U→H t=none→U t=some (.tup vs)→Each (bh K U) vs (mK d.f d.e)→Q (.ref t) U
def pO(qs:List Rat):Bool:=qs.any λq=>!Ln.fits q
def Mm(K:PySem.W.Frag):Sp:=aU (λ(d:Addr×List V×List Rat)=>[.ref d.1]) λd H Q _=>aY K H d.1 d.2.1∧Each (bh K H) d.2.1 d.2.2∧d.2.2.length≤100∧∀U,au H U→Q (.bl (pO d.2.2)) U
theorem den_inv{f:Rat}(h:f≠0)(s:small f):(1/f).den<2^7000:=by
 have e:=LR.z_ f h
 have h1:(1/f).den<2^64:=by
  have:=s.1
  split at e<;>omega
 exact Nat.lt_trans h1 (Nat.pow_lt_pow_right (by decide) (by decide))
theorem Mn{n:Nat}(h:n<2^64):n<2^7000:=Nat.lt_trans h (Nat.pow_lt_pow_right (by decide) (by decide))
section
variable{P:Program}{w:World}{K:PySem.W.Frag}{mg:Str→Option Value}{base:Heap}{A:Ad}
theorem YV(T:Txt K mg A)(D:aI K mg "scaled" BP ["thing","factor"])(vh:Callee P w K mg base ao 3 "times" ["one","other"] (KS K))(rK:Callee P w K mg base ao 1 "inverse" ["rational"] (C5 K)):
  Callee P w K mg base ao 4 "scaled" ["thing","factor"] (Ml K A):=by
 refine D.ok UB (λ_=>rfl) λf ay Ar outer s H d Q E hr h=>?_
 obtain⟨a,e,no,fv,fq⟩:=d
 obtain⟨hE,hf,f0,sf,s1,s2,s3,h⟩:=h
 dsimp only at*
 obtain⟨b_,nm,gp,cv,cn,rc,bP,bZ,aZ,ip,gr,jH,jI⟩:=hE
 refine⟨_,(ai (aH (gR (aa (aT vh (hr.mono (by decide)) aD (aa (aB (pv 0) rfl) (aa (pv 1) ae))) (aa (aT vh (hr.mono (by decide)) aD (aa (aB (pv 0) rfl) (aa (aT rK (hr.mono (by decide)) aD (aa (pv 1) ae)) ae))) (aa (aT vh (hr.mono (by decide)) aD (aa (aB (pv 0) rfl) (aa (pv 1) ae))) ae)))))),?_⟩
 show eZ _ _ [some (.ref a),some fv] H
 walk_at"l"
 refine pj bP T.aQ ?_
 walk_at"l"
 refine⟨((gp,e.gap),fv,fq),rfl,ip,hf,s1,Mn sf.2,λH1 v1 z1 Az=>?_⟩
 walk_at"l"
 refine uG (z1 _ _ bP) T.aQ ?_
 walk_at"l"
 refine⟨(fv,fq),rfl,hf.same z1,f0,λH2 v2 z2 rZ=>?_⟩
 walk_at"l"
 refine⟨((cv,e.curve),v2,1/fq),rfl,(gr.same z1).same z2,rZ,s2,den_inv f0 sf,λH3 v3 z3 YW=>?_⟩
 walk_at"l"
 have vi:=(z1.trans z2).trans z3
 refine CH (vi _ _ bP) T.aQ ?_
 walk_at"l"
 refine⟨((rc,e.clear.getD 0),fv,fq),rfl,jI.same vi,hf.same vi,s3,Mn sf.2,λH4 v4 z4 YX=>?_⟩
 walk_at"l"
 refine⟨by show 3≤sizeLine;decide,λp hp=>?_⟩
 have zp:=au.bc (o:=.tup [v1,v3,v4]) hp
 have YY:=(z2.trans z3).trans z4
 refine h _ p _ ((vi.trans z4).trans zp) ((vi.trans z4).free hp) aw ?_
 exact((Each.one ((Az.same YY).same zp)).append ((Each.one ((YW.same z4).same zp)).append (Each.one (YX.same zp))))
theorem YZ(T:Txt K mg A)(D:aI K mg "has_too_long" xC ["values"])(mI:Callee P w K mg base ao 1 "is_too_long" ["rational"] (xS K)):Callee P w K mg base ao 2 "has_too_long" ["values"] (Mm K):=by
 refine D.ok Cz (λ_=>rfl) λf ay Ar outer s H d Q E hr h=>?_
 obtain⟨t,vs,qs⟩:=d
 obtain⟨ht,hv,hl,h⟩:=h
 dsimp only at*
 refine⟨_,(ai (aH (eB (Hg rfl) (by rfl) T.KN KP (aa (tF rfl Cz.nd (qo (pv 0)) (qB (N:=["values","value"]) (sc:=aE xC) (own:=[("value",1)]) (by decide +kernel)) (λ_ _ _ _ _=>eA (i:=1) Cz.nd rfl (Or.inl rfl)) (λ_ _ _ _ _=>qz) (λ_ _ _ _ _=>(aT mI (hr.mono (by decide)) aD (aa (pv 1) ae)))) ae)))),?_⟩
 show eZ _ _ [some (.ref t),none] H
 walk_at"l"
 refine rf (uA ?_)
 walk_at"l"
 refine⟨⟨_,ht⟩,λDl hD=>Pz (K:=K) (a:=t) (xs:=vs) (λj H4=>au H H4∧H4 Dl=some (.lst (((qs.take j).map λq=>!Ln.fits q).map V.bl)))
  ⟨au.bc hD,aw⟩ (λj H4 _ ⟨s4,_⟩=>ht.same s4) (λj x H4 hx ⟨s4,oz⟩=>?_) (λH4 ⟨s4,oz⟩=>?_)⟩
 ·show gD 1 _ [some (.ref t),none] _ _
  walk_at"l"
  refine⟨rfl,?_⟩
  with_reducible refine ro ?_
  walk_at"l"
  obtain⟨q,hq,Ea⟩:=hv.at' hx
  refine⟨(x,q),rfl,Ea.same s4,?_⟩
  have jl:j<qs.length:=(List.getElem?_eq_some_iff.mp hq).1
  refine⟨_,oz,?_,mD s4 oz hD,?_⟩
  ·rw[List.length_map,List.length_map,List.length_take,show sizeLine=16777216 from sizeLine_eq]
   omega
  ·rw[aw,List.take_add_one,hq,List.map_append,List.map_append]
   rfl
 ·walk_at"l"
  refine⟨Dl,qs.map λq=>!Ln.fits q,rfl,ah.of ?_,?_⟩
  ·rw[oz,hv.1,List.take_length]
  ·have e:(qs.map λq=>!Ln.fits q).any id=pO qs:=by
    unfold pO
    rw[List.any_map];rfl
   rw[e]
   exact h H4 s4
end
end LN
namespace LN
open PySem PySem.Spec PyProof.Rows L2 LX
open LR (b4 iT kb)
def oB(K:PySem.W.Frag)(f:Rat)(H:Hp)(t:Addr)(e:Ln.Elem):Prop:=∃vs,aY K H t vs∧Each (bh K H) vs (mK f e)
theorem oB.keep{K:PySem.W.Frag}{f:Rat}{H U:Hp}{t:Addr}{e:Ln.Elem}{W:List Addr}(h:oB K f H t e)(k:ax W H U):oB K f U t e:=let⟨vs,a,b⟩:=h;⟨vs,a.keep k,b.keepR k⟩
theorem oB.same{K:PySem.W.Frag}{f:Rat}{H U:Hp}{t:Addr}{e:Ln.Elem}(h:oB K f H t e)(k:au H U):oB K f U t e:=h.keep k.eV
theorem Ek(S:Ln.System_)(p:Int)(q:Nat):Wrlnsb.does S (.scale p q)=if q=0∨p≤0 then(some S,Wrlnsb.no (-1))else Wrlnsb.changed S (Ln.scale (Wrlnsb.frac p q) S):=rfl
theorem Y0{S:Ln.System_}(h:LR.Good S)(f:Rat):Ln.systemFits (Ln.scale f S)=!((S.elems.map λe=>pO (mK f e)).any id):=by
 rw[LR.Qy h,List.any_map]
 induction S.elems with
 |nil=>rfl
 |cons a r ih=>
  rw[List.all_cons,List.any_cons,ih,Bool.not_or]
  congr 1
  show _=!((mK f a).any λq=>!Ln.fits q)
  unfold mK
  simp only[List.any_cons,List.any_nil,Bool.or_false,Bool.not_or,Bool.not_not]
def Mo(K:PySem.W.Frag)(A:Ad):Sp:=aU (λ(d:SD×Int×Nat)=>[.ref d.1.s,.int d.2.1,.int d.2.2]) λd H Q _=>ey K A H d.1∧LR.Good d.1.S∧d.2.1.natAbs<2^64∧d.2.2<2^64∧oA K A d.1 H Q (.scale d.2.1 d.2.2)
theorem Y1:small 0:=⟨by decide,by decide⟩
theorem Y2{n:Nat}{e:Ln.Elem}(g:LR.fg n e):small (e.clear.getD 0):=by
 cases h:e.clear with
 |none=>exact Y1
 |some q=>exact vg (g.clear q h).2
section
variable{P:Program}{w:World}{K:PySem.W.Frag}{mg:Str→Option Value}{base:Heap}{A:Ad}
theorem Y3(T:Txt K mg A)(D:aI K mg "scale" uB ["system","upper","lower"])(gM:Callee P w K mg base ao 2 "quotient" ["upper","lower"] (pz K))(El:Callee P w K mg base ao 4 "scaled" ["thing","factor"] (Ml K A))(Em:Callee P w K mg base ao 2 "has_too_long" ["values"] (Mm K)):Callee P w K mg base ao 5 "scale" ["system","upper","lower"] (Mo K A):=by
 refine D.ok nU (λ_=>rfl) λf ay Ar outer s H d Q E hr h=>?_
 obtain⟨d,p,q⟩:=d
 obtain⟨S,hg,hp,hq,h⟩:=h
 dsimp only at*
 obtain⟨dx,hi⟩:=S.ins
 have iU:d.S.elems.length≤16:=hg.el
 have dd:=Ek d.S p q
 refine⟨_,(af (bb (PW.pt (kW (aW m5 (pv 1) aM (aR _)) (mU (aW bU (pv 2) aM (aR _))))) (ai (aH (bK (aa (aF T.ly) ae)))) bo)
   (af (a9 (i:=3) nU.nd rfl (Or.inr rfl) (aT gM (hr.mono (by decide)) aD (aa (pv 1) (aa (pv 2) ae))))
   (af (Pt rfl nU.nd (i:=4) rfl rfl (Py rfl rfl rfl (by decide +kernel)) (kX (aB (pv 0) rfl)) (qB (N:=["system","upper","lower","factor","rows","thing","row"]) (sc:=aE uB) (own:=[("thing",5)]) (by decide +kernel)) (λ_ _ _ _ _=>eA (i:=5) nU.nd rfl (Or.inl rfl)) (λ_ _ _ _ _=>qz) (λ_ _ _ _ _=>(aT El (hr.mono (by decide)) aD (aa (pv 5) (aa (pv 3) ae)))))
   (af (bb (iu (eB (Hg rfl) (by rfl) T.KN KP (aa (tF rfl nU.nd (kX (pv 4)) (qB (N:=["system","upper","lower","factor","rows","thing","row"]) (sc:=aE uB) (own:=[("row",6)]) (by decide +kernel)) (λ_ _ _ _ _=>eA (i:=6) nU.nd rfl (Or.inl rfl)) (λ_ _ _ _ _=>qz) (λ_ _ _ _ _=>(aT Em (hr.mono (by decide)) aD (aa (pv 6) ae)))) ae))) (ai (aH (bK (aa (aF T.C1) ae)))) bo)
   (af (hX PassesOwn.never rfl (HF (by rfl) T.xR (aa (aB (pv 0) rfl) (aa (pv 4) ae))) (sL rfl (jU (eA (i:=5) nU.nd rfl (Or.inl rfl)) (jU (eA (i:=6) nU.nd rfl (Or.inl rfl)) sJ))) (af (bI (pv 5) (a_ dM (pv 6) aM (λ_ _=>rfl)) rfl)
   (af (bI (pv 5) (a_ dM (pv 6) aM (λ_ _=>rfl)) rfl)
   (ai (bI (pv 5) (a_ dM (pv 6) aM (λ_ _=>rfl)) rfl)))))
   (ai (aH (bK (aa aM ae))))))))),?_⟩
 show ba _ _ _ [some (.ref d.s),some (.int p),some (.int q),none,none,none,none] H
 walk_at"l"
 by_cases h1:p≤0
 ·rw[if_pos (.inr h1)]at dd
  rw[if_pos (decide_eq_true (by omega))]
  rw[if_pos rfl]
  walk_at"l"
  exact⟨by show 1≤sizeLine;decide,(lH h dd).no S (au.refl _) _ rfl⟩
 rw[if_neg (λz=>h1 (by have:=of_decide_eq_true z;omega))]
 walk_at"l"
 by_cases h2:q=0
 ·rw[if_pos (.inl h2)]at dd
  rw[if_pos (decide_eq_true (by omega))]
  walk_at"l"
  exact⟨by show 1≤sizeLine;decide,(lH h dd).no S (au.refl _) _ rfl⟩
 rw[if_neg (λz=>h2 (by have:=of_decide_eq_true z;omega))]
 rw[if_neg (by omega)]at dd
 walk_at"l"
 refine⟨(p,q),rfl,h2,Nat.lt_trans hq (Nat.pow_lt_pow_right (by decide) (by decide)),λH1 fv s1 hf=>?_⟩
 have hf:bh K H1 fv (Wrlnsb.frac p q):=hf
 have f0:Wrlnsb.frac p q≠0:=LR.IW (by omega) h2
 have fs:small (Wrlnsb.frac p q):=LR.Ro hp h2 hq
 generalize Wrlnsb.frac p q=fq at hf f0 fs dd
 have S1:=g7 S s1
 walk_at"l"
 refine rf (lx ?_)
 walk_at"l"
 refine eW (s1 _ _ hi) T.bf ?_
 refine⟨d.tl,rfl,⟨_,ah.of S1.bu⟩,λDl hD=>wm (K:=K) (a:=d.tl) (xs:=d.es.map .ref) (λj H4=>au H1 H4∧∃ts:List Addr,H4 Dl=some (.lst (ts.map .ref))∧Each (oB K fq H4) ts (d.S.elems.take j))
  ⟨au.bc hD,[],aw,Each.nil⟩ (λj H4 _ ⟨s4,_⟩=>ah.of (s4 _ _ S1.bu)) (λj x H4 hx ⟨s4,ts,vj,hT⟩=>?_) (λH4 ⟨s4,ts,vj,hT⟩=>?_)⟩
 ·show gD 5 _ [some (.ref d.s),some (.int p),some (.int q),some fv,none,none,none] _ _
  walk_at"l"
  refine⟨rfl,?_⟩
  with_reducible refine ro ?_
  walk_at"l"
  obtain⟨a,e,rfl,ha,he,hE⟩:=ym S1 hx
  have ge:=hg.elems _ (List.mem_of_getElem? he)
  have jl:j<d.S.elems.length:=(List.getElem?_eq_some_iff.mp he).1
  refine⟨⟨a,e,_,fv,fq⟩,rfl,hE.same s4,hf.same s4,f0,fs,vg ge.iB,vg ge.iQ,Y2 ge,λH5 t vs s5 nt ht hv=>?_⟩
  have En:=s5 _ _ vj
  refine⟨_,En,?_,mD (s4.trans s5) En hD,ts++[t],?_,?_⟩
  ·rw[List.length_map,hT.1,List.length_take,show sizeLine=16777216 from sizeLine_eq]
   omega
  ·rw[aw,List.map_append];rfl
  ·rw[List.take_add_one,he]
   have k5:ax [Dl] H5 (upd H5 Dl (.lst (ts.map .ref++[.ref t]))):=fz En
   exact((hT.imp λ_ _ _ _ _ q=>(q.same s5).keep k5)).append (Each.one ⟨vs,(aY.of ht).keep k5,hv.keepR k5⟩)
 rw[List.length_map,S1.elems.1,List.take_length]at hT
 walk_at"l"
 refine rf (lx ?_)
 walk_at"l"
 refine⟨⟨_,ah.of vj⟩,λBl hB=>wm (K:=K) (a:=Dl) (xs:=ts.map .ref) (λj H5=>au H4 H5∧H5 Bl=some (.lst (((d.S.elems.take j).map λe=>pO (mK fq e)).map V.bl)))
  ⟨au.bc hB,aw⟩ (λj H5 _ ⟨s5,_⟩=>ah.of (s5 _ _ vj)) (λj x H5 hx ⟨s5,yu⟩=>?_) (λH5 ⟨s5,yu⟩=>?_)⟩
 ·show gD 6 _ [some (.ref d.s),some (.int p),some (.int q),some fv,some (.ref Dl),none,none] _ _
  walk_at"l"
  refine⟨rfl,?_⟩
  with_reducible refine ro ?_
  walk_at"l"
  rw[List.getElem?_map]at hx
  obtain⟨t,ht,rfl⟩:=Option.map_eq_some_iff.mp hx
  obtain⟨e,he,vs,vk,r8⟩:=hT.at' ht
  have jl:j<d.S.elems.length:=(List.getElem?_eq_some_iff.mp he).1
  refine⟨(t,vs,mK fq e),rfl,vk.same s5,r8.same s5,by show 3≤100;decide,λH6 s6=>?_⟩
  have Mp:=s6 _ _ yu
  refine⟨_,Mp,?_,mD (s5.trans s6) Mp hB,?_⟩
  ·rw[List.length_map,List.length_map,List.length_take,show sizeLine=16777216 from sizeLine_eq]
   omega
  ·rw[aw,List.take_add_one,he,List.map_append,List.map_append]
   rfl
 rw[List.length_map,hT.1,List.take_length]at yu
 walk_at"l"
 refine⟨Bl,d.S.elems.map λe=>pO (mK fq e),rfl,ah.of yu,?_⟩
 walk_at"l"
 have yw:=(s1.trans s4).trans s5
 unfold Wrlnsb.changed at dd
 rw[Y0 hg]at dd
 cases hl:(d.S.elems.map λe=>pO (mK fq e)).any id with
 |true=>
  rw[hl,if_pos (by decide)]at dd
  rw[if_pos rfl]
  walk_at"l"
  exact⟨by show 1≤sizeLine;decide,(lH h dd).no S yw _ rfl⟩
 |false=>
  rw[hl,if_neg (by decide)]at dd
  rw[if_neg (by decide)]
  walk_at"l"
  with_reducible refine iD (L6 ?_)
  walk_at"l"
  have S5:=g7 S yw
  refine eW (yw _ _ hi) T.bf ?_
  walk_at"l"
  have u0:=s5 _ _ vj
  have nD:H Dl=none:=s1.free hD
  refine⟨d.tl,Dl,_,_,rfl,ah.of S5.bu,ah.of u0,L7 (K:=K) (a:=d.tl) (b:=Dl) (xs:=d.es.map V.ref) (ys:=ts.map V.ref) (λk σ U=>∃(v5 v6:Option V),σ=[some (.ref d.s),some (.int p),some (.int q),some fv,some (.ref Dl),v5,v6]∧ax (d.s::d.tl::d.es) H U∧
    cD K A d.no U d.s d.gl d.tl d.gs d.es {d.S with elems:=kb fq d.S.elems k}∧U Dl=some (.lst (ts.map .ref))∧Each (oB K fq U) ts d.S.elems)
   ⟨_,_,rfl,yw.keep (kM S),S5,u0,hT.imp λ_ _ _ _ _ q=>q.same s5⟩ (λk σ U ⟨_,_,_,_,S',ur,_⟩=>⟨ah.of S'.bu,ah.of ur⟩) d.S.elems.length (by rw[List.length_map,List.length_map,S.elems.1,hT.1];omega) ?_ ?_⟩
  ·rintro k x y T' σ U hx hy ⟨v5,v6,rfl,k6,S6,Eo,Ep⟩ lB
   rw[List.getElem?_map]at hx hy
   obtain⟨a,ha,rfl⟩:=Option.map_eq_some_iff.mp hx
   obtain⟨t,ht,rfl⟩:=Option.map_eq_some_iff.mp hy
   have sT:=au.bc (o:=.tup [.ref a,.ref t]) lB
   obtain⟨e,he,vs,vk,r8⟩:=Ep.at' ht
   have hE:=S6.elems.2 k a e ha (LR.Rl he)
   have S7:=S6.keep sT.eV λb hb=>absurd hb (by simp)
   obtain⟨b_,nm,gp,cv,cn,rc,bP,bZ,aZ,ip,gr,jH,jI⟩:=hE.same sT
   obtain⟨r0,r1,r2,rfl⟩:∃r0 r1 r2,vs=[r0,r1,r2]:=by
    match vs,r8.1 with
    |[a,b,c],_=>exact⟨a,b,c,rfl⟩
   have q0:bh K U r0 (e.gap*fq):=r8.2 0 _ _ rfl rfl
   have q1:bh K U r1 (e.curve*(1/fq)):=r8.2 1 _ _ rfl rfl
   have q2:bh K U r2 (e.clear.getD 0*fq):=r8.2 2 _ _ rfl rfl
   refine xY (aY.of aw) ?_
   walk_at"l"
   refine dB (vk.same sT) rfl ?_
   walk_at"l"
   refine uF bP T.aQ ?_
   walk_at"l"
   refine dB ((vk.same sT).keep (fc bP)) rfl ?_
   walk_at"l"
   refine xM aw T.aQ ?_
   rw[eP]
   walk_at"l"
   refine dB ((vk.same sT).keep (fc bP)) rfl ?_
   walk_at"l"
   refine CI aw T.aQ ?_
   rw[eP]
   have k7:=fc (o:=.ins A.aQ b_ (bN (.int (kN e.kind)) (.ref nm) r0 (.int (gN e.kind)) r1 cn r2)) bP
   have Y4:eX K A (d.gl::d.tl::d.no) (upd (upd U T' (.tup [.ref a,.ref t])) a (.ins A.aQ b_ (bN (.int (kN e.kind)) (.ref nm) r0 (.int (gN e.kind)) r1 cn r2))) a (Ln.scaleElem fq e):=
    ⟨b_,nm,r0,r1,cn,r2,aw,by rw[aG (bY bZ bP λz=>by cases z)];exact bZ,aZ,by rw[LR.Ri];exact(q0.same sT).keep k7,by rw[LR.Rj];exact(q1.same sT).keep k7,jH.keep k7,by rw[LR.Rk];exact(q2.same sT).keep k7⟩
   have S8:=S7.yq ha k7 bP Y4
   refine⟨_,_,rfl,(k6.d6 sT).sub k7 λb hb=>.inl ?_,?_,k7.eq _ _ (sT _ _ Eo) λz=>bY (sT _ _ Eo) bP (λq=>by cases q) (List.mem_singleton.mp z),Ep.imp λ_ _ _ _ _ q=>(q.same sT).keep k7⟩
   ·rw[List.mem_singleton.mp hb]
    exact List.mem_cons_of_mem _ (List.mem_cons_of_mem _ (List.mem_of_getElem? ha))
   ·have e8:(kb fq d.S.elems k).set k (Ln.scaleElem fq e)=kb fq d.S.elems (k+1):=LR.Rm he
    rw[←e8]
    exact S8
  ·rintro σ U ⟨v5,v6,rfl,k6,S6,Eo,Ep⟩
   walk_at"l"
   refine⟨by show 1≤sizeLine;decide,λpr kO=>?_⟩
   have sp:=au.bc (o:=.lst [V.int 0]) kO
   rw[LR.Rn]at S6
   refine vf h dd _ pr d.tl d.es (k6.d6 sp) ?_ aw (S6.keep sp.eV λb hb=>absurd hb (by simp))
   refine ow k6 (λb hb=>?_) kO
   obtain⟨o,q,_⟩:=kM (d:={d with S:={d.S with elems:=d.S.elems.map (Ln.scaleElem fq)}}) S6 b hb
   exact⟨o,q⟩
end
end LN
namespace LN
open PySem PySem.Spec PyProof.Rows L2 LX
open LR (rest bj)
theorem Er(S:Ln.System_)(n:Nat)(b:Ln.Bytes):Wrlnsb.does S (.put n b)=if S.count<n∨Wrlnsb.TEXT<b.length then(some S,Wrlnsb.no (-1))else(match Ln.readElem S b with
  |.ok e=>(some (Ln.put S n e),Wrlnsb.good)
  |.error f=>(some S,Wrlnsb.faulty f)):=rfl
theorem Y5(S:Ln.System_)(b:Ln.Bytes):Ln.readElem S b=Ln.had (u_ S (rest b 0)):=by
 unfold Ln.readElem u_
 rw[LR.HJ]
theorem Y6{α:Type}{l:List α}{a:α}(h:l.Nodup)(n:a∉l)(i:Nat):(l.take i++a::l.drop i).Nodup:=by
 refine(List.Perm.nodup_iff List.perm_middle).mpr (List.nodup_cons.mpr ⟨?_,?_⟩)
 ·rw[List.take_append_drop];exact n
 ·rw[List.take_append_drop];exact h
theorem Each.insert{α β:Type}{R:α→β→Prop}{as:List α}{bs:List β}{a:α}{b:β}(h:Each R as bs)(q:R a b)(n:Nat):Each R (as.take n++a::as.drop n) (bs.take n++b::bs.drop n):=(h.take n).append ((Each.one q).append (h.drop n))
theorem yx{C:Addr}{ta:TE}{f:Str}{σ:L2.St}{H:Hp}{Q:VK}(k:ta σ H λx H1=>∃e dx fs v,x=.ref e∧H1 e=some (XC e C dx)∧H1 dx=some (XD dx fs)∧fs.lookup f=some v∧Q v H1):Jr C ta f σ H Q:=k
theorem Mq{H:Hp}{dx:Addr}{e:Ln.Fault}(h:Dc H dx e):∃fs,H dx=some (XD dx fs)∧fs.lookup ("fault":Str)=some (.int (e.1:Int))∧fs.lookup ("place":Str)=some (.int (e.2:Int)):=⟨_,h,by rfl,by rfl⟩
theorem m3{σ:L2.St}(h:σ.length=5):∃a b c d e,σ=[a,b,c,d,e]:=by
 match σ,h with
 |[a,b,c,d,e],_=>exact⟨a,b,c,d,e,rfl⟩
def Mr(A:Ad)(H:Hp)(G:Ln.Fault→Prop):XK:=λcls dx U=>∃(f:Ln.Fault) (bQ:Addr),cls=.ref A.eN∧dx=some bQ∧au H U∧Dc U bQ f∧G f
structure Y7 where
 (d:SD) (n:Nat) (tx:Addr) (b:Ln.Bytes)
def Ms(K:PySem.W.Frag)(A:Ad):Sp:=aU (λ(x:Y7)=>[.ref x.d.s,.int x.n,.ref x.tx]) λx H Q _=>ey K A H x.d∧LR.Good x.d.S∧H x.tx=some (.lst (bA x.b))∧x.tx≠x.d.gl∧x.tx≠x.d.tl∧Here H x.d.no∧oA K A x.d H Q (.put x.n x.b)
section
variable{P:Program}{w:World}{K:PySem.W.Frag}{mg:Str→Option Value}{base:Heap}{A:Ad}
theorem Y8(T:Txt K mg A)(GF:jj P w K mg base A)(D:aI K mg "put" BK ["system","number","text"])(Es:Callee P w K mg base (aX P w) 14 "thing_of" ["text","system"] (L4 K A)):
  Callee P w K mg base ao 15 "put" ["system","number","text"] (Ms K A):=by
 obtain⟨fI,kD,xF,fh,fi,bF⟩:=GF
 refine D.ok Cv (λ_=>rfl) λf ay Ar outer s H d Q E hr h=>?_
 obtain⟨d,n,tx,b⟩:=d
 obtain⟨S,hg,kL,tg,tt,aZ,h⟩:=h
 dsimp only at*
 obtain⟨dx,hi⟩:=S.ins
 have lJ:((d.es.map V.ref).length:Int)=(d.S.elems.length:Int):=by rw[ox S]
 have vo:((bA b).length:Int)=(b.length:Int):=by rw[ig]
 have dd:=Er d.S n b
 have um:∀cls dx U,Mr A H (λf=>Wrlnsb.does d.S (.put n b)=(some d.S,Wrlnsb.faulty f)) cls dx U→cls=.ref A.eN:=λ_ _ _ ⟨_,_,e,_⟩=>e
 refine⟨_,(af (bb (PW.pt (kW (aW qt (pv 1) (eB fK (by rfl) T.fO PySem.boot_len (aa (aB (pv 0) rfl) ae)) (aR _)) (mU (aW qt (eB fK (by rfl) T.fO PySem.boot_len (aa (pv 2) ae)) (aF T.Ky) (aR _))))) (ai (aH (bK (aa (aF T.ly) ae)))) bo)
   (af (Jv xF rfl fi rfl Cv.nd (i:=4) rfl rfl rfl rfl um (λEt Eu hR=>(ai (a9 (i:=3) Cv.nd rfl (Or.inl rfl) (aT Es (hr.mono (by decide)) (Raises.passes hR rfl) (aa (pv 2) (aa (pv 0) ae)))))) (λe_ Et Eu=>(ai (aH (bK (aa (aF T.Kx) (aa (wU xF (by decide +kernel) (pv 4) rfl) (aa (wU xF (by decide +kernel) (pv 4) rfl) ae))))))))
   (af (bq (gT PySem.F.plainAttrs_list PySem.F.slot_list_insert PySem.F.type_list_insert Sm (aB (pv 0) rfl) (aa (pv 1) (aa (pv 3) ae))))
   (ai (aH (bK (aa aM ae))))))),?_⟩
 show ba _ _ _ [some (.ref d.s),some (.int n),some (.ref tx),none,none] H
 walk_at"l"
 refine eW hi T.bf ?_
 walk_at"l"
 refine⟨_,_,rfl,.inl (ah.of S.bu),?_⟩
 walk_at"l"
 by_cases h1:d.S.elems.length<n
 ·rw[if_pos (.inl h1)]at dd
  rw[if_pos (decide_eq_true (by rw[lJ];omega))]
  rw[if_pos rfl]
  walk_at"l"
  exact⟨by show 1≤sizeLine;decide,(lH h dd).no S (au.refl _) _ rfl⟩
 rw[if_neg (λz=>h1 (by have:=of_decide_eq_true z;rw[lJ]at this;omega))]
 walk_at"l"
 refine⟨_,_,rfl,.inl (ah.of kL),?_⟩
 walk_at"l"
 by_cases h2:16384<b.length
 ·rw[if_pos (.inr h2)]at dd
  rw[if_pos (decide_eq_true (by rw[vo];omega))]
  walk_at"l"
  exact⟨by show 1≤sizeLine;decide,(lH h dd).no S (au.refl _) _ rfl⟩
 rw[if_neg (λz=>h2 (by have:=of_decide_eq_true z;rw[vo]at this;omega))]
 rw[if_neg (λz=>z.elim h1 h2),Y5]at dd
 walk_at"l"
 refine⟨?_,λaz U bQ e hl he ⟨ft,fB,_,ed,s1,hF,dE⟩=>?_⟩
 ·walk_at"l"
  refine⟨⟨tx,b,d.s,d.gl,d.tl,d.gs,d.es,d.S,d.no⟩,rfl,kL,aZ,S,tg,tt,hg.gl,hg.el,?_⟩
  unfold bj
  cases hp:u_ d.S (rest b 0)with
  |error f=>
   rw[hp]at dd
   exactλU dx k fl=>⟨f,dx,rfl,rfl,k.same,fl,dd⟩
  |ok y=>
   rw[hp]at dd
   have dd:Wrlnsb.does d.S (.put n b)=(some (Ln.put d.S n y.1),Wrlnsb.good):=dd
   intro H1 a s1 na ha
   have S1:=g7 S s1
   obtain⟨oo,vp⟩:=S1.ins
   have iU:d.S.elems.length≤16:=hg.el
   walk_at"l"
   refine eW vp T.bf ?_
   refine⟨.inl ⟨rfl,_,ah.of S1.bu⟩,?_⟩
   walk_at"l"
   refine Si S1.bu (by rw[List.length_map,S.elems.1];omega) (by omega) (by rw[List.length_map,S.elems.1,show sizeLine=16777216 from sizeLine_eq];omega) ?_
   walk_at"l"
   have S2:=S1.Mc (Y6 S1.nd (S.fresh na) n) (S1.elems.insert ha n)
   have ek:((d.es.map V.ref).take n++V.ref a::(d.es.map V.ref).drop n)=(d.es.take n++a::d.es.drop n).map V.ref:=by
    rw[List.map_append,List.map_cons,List.map_take,List.map_drop]
   rw[ek]
   refine⟨by show 1≤sizeLine;decide,λp hp=>?_⟩
   have sp:=au.bc (o:=.lst [V.int 0]) hp
   have k3:ax [d.tl] H1 (upd H1 d.tl (.lst ((d.es.take n++a::d.es.drop n).map .ref))):=fz S1.bu
   refine vf h dd _ p d.tl _ (((s1.keep (kM S)).sub k3 λb hb=>.inl ?_).d6 sp) ?_ aw (S2.keep sp.eV λb hb=>absurd hb (by simp))
   ·rw[List.mem_singleton.mp hb]
    exact List.mem_cons_of_mem _ List.mem_cons_self
   ·have nt:d.tl≠p:=λz=>by rw[←z,aw]at hp;cases hp
    rw[aG (Ne.symm nt)]at hp
    exact s1.free hp
 ·obtain⟨a0,a1,a2,a3,a4,rfl⟩:=m3 hl
  cases ed
  obtain⟨fs,jA,l1,l2⟩:=Mq hF
  have s2:=au.bc (o:=XC e A.eN bQ) he
  show eZ _ _ [a0,a1,a2,a3,some (.ref e)] _
  walk_at"l"
  refine yx ?_
  walk_at"l"
  refine⟨e,bQ,fs,_,rfl,aw,s2 _ _ jA,l1,?_⟩
  walk_at"l"
  refine yx ?_
  walk_at"l"
  refine⟨e,bQ,fs,_,rfl,aw,s2 _ _ jA,l2,?_⟩
  walk_at"l"
  refine⟨by show 3≤sizeLine;decide,λp hp=>?_⟩
  have sp:=au.bc (o:=.lst [V.int (-7),.int (ft.1:Int),.int (ft.2:Int)]) hp
  have s3:=(s1.trans s2).trans sp
  have q:=h d.S (by rw[dE])
  rw[dE]at q
  exact q _ p d.tl d.es (s3.keep (kM S)) ((s1.trans s2).free hp) aw (g7 S s3)
end
end LN
namespace LR
open Ln PySem
def jJ(s:System_)(k:Nat):List Elem:=(List.range k).map (turned s)++s.elems.drop k
theorem Y9{s:System_}{k:Nat}{e:Elem}(h:s.elems[k]?=some e):(jJ s k)[k]?=some e:=by
 unfold jJ
 rw[List.getElem?_append_right (by rw[List.length_map,List.length_range];omega),List.length_map,List.length_range,List.getElem?_drop,show k+(k-k)=k by omega]
 exact h
theorem Y_{s:System_}{k:Nat}{e:Elem}(h:s.elems[k]?=some e):(jJ s k).set k (turned s k)=jJ s (k+1):=by
 have hk:=(List.getElem?_eq_some_iff.mp h).1
 unfold jJ
 rw[List.set_append_right _ _ (by rw[List.length_map,List.length_range];omega),List.length_map,List.length_range,show k-k=0 by omega,List.range_succ,List.map_append,List.append_assoc]
 congr 1
 rw[List.drop_eq_getElem_cons hk]
 rfl
theorem Za(s:System_):jJ s s.elems.length=(List.range s.elems.length).map (turned s):=by
 unfold jJ
 rw[List.drop_length,List.append_nil]
def oC(s:System_):List Rat:=(s.elems.drop 1).map (λe=>e.gap)++[0]
theorem Zb{s:System_}{k:Nat}(h:k<s.elems.length):(oC s)[k]?=some (turned s k).gap:=by
 unfold oC
 show _=some (if k+1<s.elems.length then(s.elem (k+1)).gap else 0)
 by_cases h1:k+1<s.elems.length
 ·rw[if_pos h1,List.getElem?_append_left (by rw[List.length_map,List.length_drop];omega),List.getElem?_map,List.getElem?_drop,Nat.add_comm 1 k,List.getElem?_eq_getElem h1,l7 (List.getElem?_eq_getElem h1)]
  rfl
 ·rw[if_neg h1,List.getElem?_append_right (by rw[List.length_map,List.length_drop];omega),List.length_map,List.length_drop,show k-(s.elems.length-1)=0 by omega]
  rfl
theorem Zc(s:System_):(oC s).length=s.elems.length-1+1:=by
 unfold oC
 rw[List.length_append,List.length_map,List.length_drop];rfl
end LR
namespace LN
open PySem PySem.Spec PyProof.Rows L2 LX
open LR (b4 jJ oC)
theorem Zd{K:PySem.W.Frag}{T:Addr}{x y z:V}{g1 g2 g3:TG}{σ:L2.St}{H:Hp}{Q:L2.St→Hp→Prop}(h:aY K H T [x,y,z])(k:g1 x σ H λaz U=>g2 y az U λDv fb=>g3 z Dv fb Q):y_ K 3 (oN g1 (oN g2 (oN g3 vR))) (.ref T) σ H Q:=by
 have e0:∀(Q:L2.St→Hp→Prop),(λσ H=>vR [] σ H Q)=Q:=λQ=>by
  funext σ H;apply propext;exact⟨λq=>q.2,λq=>⟨rfl,q⟩⟩
 have e1:∀(g:TG) (u:mW) (v:V) (r:List V) (Q:L2.St→Hp→Prop),(λσ H=>oN g u (v::r) σ H Q)=λσ H=>g v σ H λaz U=>u r az U Q:=λg u v r Q=>by
  funext σ H;apply propext
  exact⟨λ⟨v',r',e,q⟩=>by injection e with a b;subst a b;exact q,λq=>⟨v,r,rfl,q⟩⟩
 refine⟨T,[x,y,z],rfl,h,rfl,x,[y,z],rfl,?_⟩
 rw[e1,e1,e0]
 exact k
theorem Ze{K:PySem.W.Frag}{ta:TA}{σ:L2.St}{H:Hp}{R:It→Hp→Prop}(k:ta σ H λvs H1=>∃a b c xs ys zs,vs=[.ref a,.ref b,.ref c]∧ah K H1 a xs∧ah K H1 b ys∧ah K H1 c zs∧R (ra K a b c) H1):JQ K ta σ H R:=k
theorem Zf{K:PySem.W.Frag}{ta:TA}{σ:L2.St}{H:Hp}{Q:VK}(k:ta σ H λvs H1=>∃a xs,vs=[.ref a]∧ah K H1 a xs∧∀l,H1 l=none→Q (.ref l) (upd H1 l (.lst xs.reverse))):JC K ta σ H Q:=k
theorem Zg{xs:List V}{i:Nat}(hi:i≤xs.length):iw xs (some (i:Int)) none=xs.drop i:=by
 unfold iw
 rw[HT.GV,HT.GW,Nat.min_eq_left hi]
 exact List.take_of_length_le (by rw[List.length_drop];omega)
theorem Zh{xs:List V}:iw xs (some 1) none=xs.drop 1:=by
 cases xs with
 |nil=>rfl
 |cons a r=>exact Zg (i:=1) (by simp)
theorem Each.reverse{α β:Type}{R:α→β→Prop}{as:List α}{bs:List β}(h:Each R as bs):Each R as.reverse bs.reverse:=by
 refine⟨by rw[List.length_reverse,List.length_reverse];exact h.1,λi a b h1 h2=>?_⟩
 have hl:i<as.length:=by have:=(List.getElem?_eq_some_iff.mp h1).1;rwa [List.length_reverse]at this
 rw[List.getElem?_reverse hl]at h1
 rw[List.getElem?_reverse (by rw[←h.1];exact hl),←h.1]at h2
 exact h.2 _ a b h1 h2
def Mt(K:PySem.W.Frag)(A:Ad):Sp:=aU (λ(d:SD)=>[.ref d.s]) λd H Q _=>ey K A H d∧LR.Good d.S∧Here H d.no∧oA K A d H Q .reverse
def pP(S:Ln.System_)(k:Nat)(q:Ln.Kind):Ln.Kind:=match q with
 |.surface _=>.surface (S.medium k)
 |q=>q
theorem Mu(S:Ln.System_)(n:Nat):b4 S n=1↔S.mirrors n%2=0:=by
 unfold LR.b4
 split
 ·rename_i h;exact⟨λ_=>h,λ_=>rfl⟩
 ·rename_i h;exact⟨λz=>absurd z (by decide),λz=>absurd z h⟩
section
variable{P:Program}{w:World}{K:PySem.W.Frag}{mg:Str→Option Value}{base:Heap}{A:Ad}
set_option maxHeartbeats 8000000 in
theorem Zi(T:Txt K mg A)(D:aI K mg "turn_round" xD ["system"])(rX:Callee P w K mg base ao 1 "media_of" ["system"] (D7 K A))(mF:Callee P w K mg base ao 1 "ways_of" ["things"] (yl K A))(rG:Callee P w K mg base ao 1 "negative" ["rational"] (C4 K)):
  Callee P w K mg base ao 2 "turn_round" ["system"] (Mt K A):=by
 refine D.ok mi (λ_=>rfl) λf ay Ar outer s H d Q E hr h=>?_
 obtain⟨S,hg,aZ,h⟩:=h
 have iU:d.S.elems.length≤16:=hg.el
 refine⟨_,(af (a9 (i:=1) mi.nd rfl (Or.inl rfl) (aT rX (hr.mono (by decide)) aD (aa (pv 0) ae)))
   (af (a9 (i:=2) mi.nd rfl (Or.inl rfl) (jt bU (a_ cf (aT mF (hr.mono (by decide)) aD (aa (aB (pv 0) rfl) ae)) (kY k_ aM) (λ_ _=>rfl)) (aF T.Kz) (aR _)))
   (af (a9 (i:=3) mi.nd rfl (Or.inl rfl) (dY qx (tF rfl mi.nd (kX (sU sV (aB (pv 0) rfl) (m7 aM) GZ)) (qB (N:=["system","media","turns_axis","gaps","thing","gap","medium"]) (sc:=aE xD) (own:=[("thing",4)]) (by decide +kernel)) (λ_ _ _ _ _=>eA (i:=4) mi.nd rfl (Or.inl rfl)) (λ_ _ _ _ _=>qz) (λ_ _ _ _ _=>(Yr (K:=K) rfl (pv 4) rfl))) (bK (aa (aF T.gq) ae))))
   (af (hX PassesOwn.never rfl (TV (by rfl) T.xR (aa (aB (pv 0) rfl) (aa (pv 3) (aa (pv 1) ae)))) (sL rfl (jU (eA (i:=4) mi.nd rfl (Or.inl rfl)) (jU (eA (i:=5) mi.nd rfl (Or.inl rfl)) (jU (eA (i:=6) mi.nd rfl (Or.inl rfl)) sJ)))) (af (bI (pv 4) (pv 5) rfl)
   (af (bb (aW bU (aB (pv 4) rfl) (aF T.xQ) (aR _)) (ai (bI (pv 4) (pv 6) rfl)) bo)
   (ai (bb (iu (pv 2)) (ai (bI (pv 4) (aT rG (hr.mono (by decide)) aD (aa (aB (pv 4) rfl) ae)) rfl)) bo)))))
   (af (bI (pv 0) (SJ rfl (by rfl) T.Wc (by rfl) T.Wd (aa (aB (pv 0) rfl) ae)) rfl)
   (af (bI (pv 0) (a_ cf (pv 1) (kY k_ aM) (λ_ _=>rfl)) rfl)
   (ai (aH (bK (aa aM ae)))))))))),?_⟩
 show ba _ _ _ [some (.ref d.s),none,none,none,none,none,none] H
 walk_at"l"
 refine⟨d,rfl,S,iU,λH1 m s1 DD hm=>?_⟩
 have S1:=g7 S s1
 obtain⟨dx,hi⟩:=S1.ins
 walk_at"l"
 refine eW hi T.bf ?_
 walk_at"l"
 refine⟨d,rfl,S1,iU,λH2 wl s2 Yx hw=>?_⟩
 walk_at"l"
 refine b9 (ah.of hw) va ?_
 walk_at"l"
 have S2:=g7 S1 s2
 have yy:=s2 _ _ hi
 refine rf (lx ?_)
 walk_at"l"
 refine eW yy T.bf ?_
 walk_at"l"
 refine ph (ah.of S2.bu) λcl iA=>?_
 rw[Zh,←List.map_drop]
 have s3:=au.bc (o:=.lst ((d.es.drop 1).map V.ref)) iA
 have S3:=g7 S2 s3
 refine⟨cl,rfl,⟨_,ah.of aw⟩,λDl hD=>wm (K:=K) (a:=cl) (xs:=(d.es.drop 1).map V.ref) (λj H4=>au (upd H2 cl (.lst ((d.es.drop 1).map V.ref))) H4∧∃vs,H4 Dl=some (.lst vs)∧Each (bh K H4) vs (((d.S.elems.drop 1).take j).map λe=>e.gap))
  ⟨au.bc hD,[],aw,by rw[List.take_zero];exact Each.nil⟩ (λj H4 _ ⟨s4,_⟩=>ah.of (s4 _ _ aw)) (λj x H4 hx ⟨s4,vs,pQ,hV⟩=>?_) (λH4 ⟨s4,vs,pQ,hV⟩=>?_)⟩
 ·show gD 4 _ [some (.ref d.s),some (.ref m),some (.bl (decide (b4 d.S d.S.elems.length=1))),none,none,none,none] _ _
  walk_at"l"
  refine⟨rfl,?_⟩
  with_reducible refine ro ?_
  walk_at"l"
  rw[List.getElem?_map]at hx
  obtain⟨a,ha,rfl⟩:=Option.map_eq_some_iff.mp hx
  obtain⟨e,he,hE⟩:=(S3.elems.drop 1).at' ha
  obtain⟨b_,nm,gp,cv,cn,rc,bP,bZ,kI,ip,_⟩:=hE.same s4
  have jl:j<d.S.elems.length:=by
   have:=(List.getElem?_eq_some_iff.mp he).1
   rw[List.length_drop]at this;omega
  refine pj bP T.aQ ?_
  refine⟨vs,pQ,?_,mD s4 pQ hD,vs++[gp],aw,?_⟩
  ·rw[hV.1,List.length_map,List.length_take,show sizeLine=16777216 from sizeLine_eq]
   omega
  ·rw[List.take_add_one,he,List.map_append]
   exact(hV.keepR (fz pQ)).append (Each.one (ip.keep (fz pQ)))
 have e4:((d.S.elems.drop 1).take ((d.es.drop 1).map V.ref).length)=d.S.elems.drop 1:=List.take_of_length_le (by rw[List.length_map,List.length_drop,List.length_drop,S.elems.1];exact Nat.le_refl _)
 rw[e4]at hV
 walk_at"l"
 refine⟨by show 1≤sizeLine;decide,λzl nu=>?_⟩
 have s5:=au.bc (o:=.lst [V.ref A.bz]) nu
 walk_at"l"
 refine rb (s5 _ _ pQ) aw ?_ λjK Mv=>?_
 ·rw[hV.1,List.length_map,List.length_drop,show sizeLine=16777216 from sizeLine_eq]
  show _+1≤_
  omega
 have s6:=au.bc (o:=.lst (vs++[V.ref A.bz])) Mv
 have Ew:=((((s1.trans s2).trans s3).trans s4).trans s5).trans s6
 have S6:=g7 S Ew
 have hG:Each (bh K (upd (upd H4 zl (.lst [V.ref A.bz])) jK (.lst (vs++[V.ref A.bz])))) (vs++[V.ref A.bz]) (oC d.S):=((hV.same s5).same s6).append (Each.one (g4 T _))
 have yz:upd (upd H4 zl (.lst [V.ref A.bz])) jK (.lst (vs++[V.ref A.bz])) jK=some (.lst (vs++[V.ref A.bz])):=aw
 have Ey:=s6 _ _ (s5 _ _ (s4 _ _ (s3 _ _ (s2 _ _ hm))))
 generalize upd (upd H4 zl (.lst [V.ref A.bz])) jK (.lst (vs++[V.ref A.bz]))=H6 at Ew S6 hG yz Ey
 generalize vs++[V.ref A.bz]=gv at hG yz
 clear hV e4 pQ s5 nu s6 Mv
 walk_at"l"
 with_reducible refine iD (Ze ?_)
 walk_at"l"
 obtain⟨DJ,Ez⟩:=S6.ins
 refine eW Ez T.bf ?_
 walk_at"l"
 refine⟨d.tl,jK,m,_,_,_,rfl,ah.of S6.bu,ah.of yz,ah.of Ey,TY (K:=K) (a:=d.tl) (b:=jK) (c:=m) (xs:=d.es.map V.ref) (ys:=gv) (zs:=(List.range (d.S.elems.length+1)).map (gu d.S))
  (λk σ U=>∃(v4 v5 v6:Option V),σ=[some (.ref d.s),some (.ref m),some (.bl (decide (b4 d.S d.S.elems.length=1))),some (.ref jK),v4,v5,v6]∧ax (d.s::d.tl::d.es) H U∧
    cD K A d.no U d.s d.gl d.tl d.gs d.es {d.S with elems:=jJ d.S k}∧U jK=some (.lst gv)∧Each (bh K U) gv (oC d.S)∧U m=some (.lst ((List.range (d.S.elems.length+1)).map (gu d.S))))
  ⟨none,none,none,rfl,Ew.keep (kM S),S6,yz,hG,Ey⟩ (λk σ U ⟨_,_,_,_,_,S',o7,_,Zj⟩=>⟨ah.of S'.bu,ah.of o7,ah.of Zj⟩) d.S.elems.length (by rw[ox S]) (by rw[hG.1,LR.Zc];omega) (by rw[List.length_map,List.length_range];omega) ?_ ?_⟩
 ·rintro k x y z T' σ U hx hy hz ⟨v4,v5,v6,rfl,k7,S7,u6,EB,EC⟩ lB
  have kl:k<d.S.elems.length:=by have:=(List.getElem?_eq_some_iff.mp hx).1;rwa [ox S]at this
  rw[List.getElem?_map]at hx
  obtain⟨a,ha,rfl⟩:=Option.map_eq_some_iff.mp hx
  obtain⟨e,he⟩:∃e,d.S.elems[k]?=some e:=⟨_,List.getElem?_eq_getElem kl⟩
  have hE:=S7.elems.2 k a e ha (LR.Y9 he)
  obtain rfl:z=gu d.S k:=by
   rw[List.getElem?_map,List.getElem?_range (by omega)]at hz
   exact(Option.some.inj hz).symm
  obtain⟨g,Mw,Zk⟩:=EB.at' hy
  rw[LR.Zb kl]at Mw
  cases Mw
  have sT:=au.bc (o:=.tup [.ref a,y,gu d.S k]) lB
  obtain⟨b_,nm,gp,cv,cn,rc,bP,bZ,kI,ip,gr,jH,jI⟩:=hE.same sT
  have tk:(Ln.turned d.S k).kind=pP d.S k e.kind:=by
   unfold Ln.turned
   rw[LR.l7 he]
   unfold pP
   dsimp only
   cases e.kind<;>rfl
  have tn:(Ln.turned d.S k).name=e.name:=by unfold Ln.turned;rw[LR.l7 he]
  have tc:(Ln.turned d.S k).conic=e.conic:=by unfold Ln.turned;rw[LR.l7 he]
  have tl:(Ln.turned d.S k).clear=e.clear:=by unfold Ln.turned;rw[LR.l7 he]
  have tv:(Ln.turned d.S k).curve=if d.S.mirrors d.S.elems.length%2=0 then -e.curve else e.curve:=by
   unfold Ln.turned
   rw[LR.l7 he]
   rfl
  have ek:kN (pP d.S k e.kind)=kN e.kind:=by cases e.kind<;>rfl
  have fin:∀(H9:Hp) (cq:V),ax [a] (upd U T' (.tup [.ref a,y,gu d.S k])) H9→H9 a=some (.ins A.aQ b_ (bN (.int (kN e.kind)) (.ref nm) y (.int (gN (pP d.S k e.kind))) cq cn rc))→bh K H9 cq (Ln.turned d.S k).curve→
    ∃(v4 v5 v6:Option V),[some (V.ref d.s),some (.ref m),some (.bl (decide (b4 d.S d.S.elems.length=1))),some (.ref jK),some (.ref a),some y,some (gu d.S k)]=[some (.ref d.s),some (.ref m),some (.bl (decide (b4 d.S d.S.elems.length=1))),some (.ref jK),v4,v5,v6]∧ax (d.s::d.tl::d.es) H H9∧
    cD K A d.no H9 d.s d.gl d.tl d.gs d.es {d.S with elems:=jJ d.S (k+1)}∧H9 jK=some (.lst gv)∧Each (bh K H9) gv (oC d.S)∧H9 m=some (.lst ((List.range (d.S.elems.length+1)).map (gu d.S))):=by
   intro H9 cq k9 h9 Zl
   have lst:∀b xs,U b=some (.lst xs)→H9 b=some (.lst xs):=λb xs hb=>k9.eq _ _ (sT _ _ hb) λq=>bY (sT _ _ hb) bP (λw=>by cases w) (List.mem_singleton.mp q)
   have Zm:eX K A (d.gl::d.tl::d.no) H9 a (Ln.turned d.S k):=by
    refine⟨b_,nm,y,cq,cn,rc,by rw[tk,ek];exact h9,?_,kI,(Zk.same sT).keep k9,Zl,by rw[tc];exact jH.keep k9,by rw[tl];exact jI.keep k9⟩
    rw[tn]
    exact k9.eq _ _ bZ λq=>bY bZ bP (λw=>by cases w) (List.mem_singleton.mp q)
   have S9:=(S7.keep sT.eV λb hb=>absurd hb (by simp)).yq ha k9 bP Zm
   refine⟨_,_,_,rfl,(k7.d6 sT).sub k9 λb hb=>.inl ?_,?_,lst _ _ u6,(EB.same sT).keepR k9,lst _ _ EC⟩
   ·rw[List.mem_singleton.mp hb]
    exact List.mem_cons_of_mem _ (List.mem_cons_of_mem _ (List.mem_of_getElem? ha))
   ·have e8:(jJ d.S k).set k (Ln.turned d.S k)=jJ d.S (k+1):=LR.Y_ he
    rw[←e8]
    exact S9
  refine Zd (aY.of aw) ?_
  walk_at"l"
  refine uF bP T.aQ ?_
  with_reducible refine mC (λaz fb=>az=[some (V.ref d.s),some (.ref m),some (.bl (decide (b4 d.S d.S.elems.length=1))),some (.ref jK),some (.ref a),some y,some (gu d.S k)]∧fb=upd (upd U T' (.tup [.ref a,y,gu d.S k])) a (.ins A.aQ b_ (bN (.int (kN e.kind)) (.ref nm) y (.int (gN (pP d.S k e.kind))) cv cn rc))) ?_ ?_
  ·rintro az H8 ⟨rfl,rfl⟩
   have k8:=fc (o:=.ins A.aQ b_ (bN (.int (kN e.kind)) (.ref nm) y (.int (gN (pP d.S k e.kind))) cv cn rc)) bP
   walk_at"l"
   by_cases yA:b4 d.S d.S.elems.length=1
   ·rw[if_pos (decide_eq_true yA)]
    rw[if_pos ((Mu _ _).mp yA)]at tv
    walk_at"l"
    refine uG aw T.aQ ?_
    walk_at"l"
    refine⟨(cv,e.curve),rfl,gr.keep k8,λH9 v9 s9 DK=>?_⟩
    walk_at"l"
    have h9:=s9 _ _ (aw (H:=upd U T' (.tup [.ref a,y,gu d.S k])) (a:=a) (o:=.ins A.aQ b_ (bN (.int (kN e.kind)) (.ref nm) y (.int (gN (pP d.S k e.kind))) cv cn rc)))
    refine xM h9 T.aQ ?_
    exact fin _ v9 ((k8.d6 s9).trans (fc h9)) aw (by rw[tv];exact DK.keep (fc h9))
   ·rw[if_neg (by rw[decide_eq_true_eq];exact yA)]
    rw[if_neg (λq=>yA ((Mu _ _).mpr q))]at tv
    exact fin _ cv k8 aw (by rw[tv];exact gr.keep k8)
  ·intro tail
   walk_at"l"
   refine ko aw T.aQ ?_
   walk_at"l"
   by_cases iN:kN e.kind=0
   ·rw[if_pos (decide_eq_true (by rw[iN];rfl))]
    walk_at"l"
    refine Kd aw T.aQ ?_
    rw[eP]
    refine tail _ _ ⟨rfl,?_⟩
    cases i4:e.kind with
    |surface q=>rfl
    |mirror=>rw[i4]at iN;cases iN
    |halt_=>rw[i4]at iN;cases iN
   ·rw[if_neg (λq=>iN (by have:=of_decide_eq_true q;omega))]
    refine tail _ _ ⟨rfl,?_⟩
    cases i4:e.kind with
    |surface q=>rw[i4]at iN;exact absurd rfl iN
    |mirror=>rfl
    |halt_=>rfl
 ·rintro σ U ⟨v4,v5,v6,rfl,k7,S7,u6,EB,EC⟩
  rw[LR.Za]at S7
  obtain⟨rN,vq⟩:=S7.ins
  walk_at"l"
  refine Zf ?_
  walk_at"l"
  refine eW vq T.bf ?_
  walk_at"l"
  refine⟨d.tl,_,rfl,ah.of S7.bu,λl hl=>?_⟩
  have sl:=au.bc (o:=.lst (d.es.map V.ref).reverse) hl
  have r9:=sl _ _ vq
  have Mx:=sl _ _ EC
  have Zn:d.s≠l:=cp vq hl
  walk_at"l"
  refine U_ r9 T.bf ?_
  have kA:=fc (o:=.ins A.bf rN (fN (.ref d.gl) (.int d.S.start) (.ref l))) r9
  have Zo:=kA.eq _ _ Mx λq=>bY Mx r9 (λw=>by cases w) (List.mem_singleton.mp q)
  walk_at"l"
  refine b9 (ah.of Zo) va ?_
  walk_at"l"
  refine Kg aw T.bf ?_
  rw[eP]
  have k9:=fc (o:=.ins A.bf rN (fN (.ref d.gl) (gu d.S d.S.elems.length) (.ref l))) r9
  walk_at"l"
  refine⟨by show 1≤sizeLine;decide,λp hp=>?_⟩
  have sp:=au.bc (o:=.lst [V.int 0]) hp
  have My:∀b∈d.s::d.tl::d.es,∃o,U b=some o:=λb hb=>by
   obtain⟨o,q,_⟩:=kM (d:={d with S:={d.S with elems:=(List.range d.S.elems.length).map (Ln.turned d.S)}}) S7 b hb
   exact⟨o,q⟩
  have Zp:Here U d.no:=aZ.keep k7 My
  have Zq:l∉d.no:=λq=>by
   obtain⟨o,w⟩:=Zp l q
   rw[hl]at w;cases w
  have sub:∀b∈d.gl::l::d.no,b∈d.gl::d.tl::d.no∨U b=none:=λb hb=>by
   rcases List.mem_cons.mp hb with q|hb
   ·exact .inl (q▸List.mem_cons_self)
   rcases List.mem_cons.mp hb with q|hb
   ·exact .inr (q▸hl)
   ·exact .inl (List.mem_cons_of_mem _ (List.mem_cons_of_mem _ hb))
  have Mz:∀b,b≠d.s→∀c∈[d.s],Off (d.gl::l::d.no) (upd U l (.lst (d.es.map V.ref).reverse)) b c:=λb n c hc=>by
   rw[List.mem_singleton.mp hc]
   exact .inr ⟨n,_,_,_,r9⟩
  have eR:Wrlnsb.does d.S .reverse=(some (Ln.reverse d.S),Wrlnsb.good):=rfl
  have S9:cD K A d.no (upd (upd U l (.lst (d.es.map V.ref).reverse)) d.s (.ins A.bf rN (fN (.ref d.gl) (gu d.S d.S.elems.length) (.ref l)))) d.s d.gl l d.gs d.es.reverse (Ln.reverse d.S):=by
   refine⟨⟨rN,aw⟩,k9.eq _ _ (sl _ _ S7.ck) λq=>bY (sl _ _ S7.ck) r9 (λw=>by cases w) (List.mem_singleton.mp q),?_,cp S7.ck hl,S7.ic,Zq,(List.Perm.nodup_iff (List.reverse_perm _)).mpr S7.nd,S7.glasses.imp λi b g _ _ q=>((q.add sub).same sl).keep k9 (Mz b ?_),?_⟩
   ·rw[aG (Ne.symm Zn),aw,List.map_reverse]
   ·obtain⟨bQ,nm,il,i0,i1,i2,q0,q1,q2,h1,_⟩:=q
    exact fP h1 vq (by decide +kernel)
   ·show Each _ d.es.reverse ((List.range d.S.elems.length).reverse.map (Ln.turned d.S))
    rw[List.map_reverse]
    refine S7.elems.reverse.imp λi b g _ _ q=>((q.add sub).same sl).keep k9 (Mz b ?_)
    obtain⟨bQ,nm,gp,cv,cn,rc,h1,_⟩:=q
    exact fP h1 vq (by decide +kernel)
  refine vf h eR _ p l _ ((((k7.d6 sl).sub k9 λb hb=>.inl ?_)).d6 sp) ?_ aw (S9.keep sp.eV λb hb=>absurd hb (by simp))
  ·rw[List.mem_singleton.mp hb]
   exact List.mem_cons_self
  ·have n1:d.s≠p:=λq=>by rw[←q,aw]at hp;cases hp
   rw[aG (Ne.symm n1)]at hp
   have n2:l≠p:=λq=>by rw[←q,aw]at hp;cases hp
   rw[aG (Ne.symm n2)]at hp
   exact ow k7 My hp
end
end LN
namespace LN
open PySem PySem.Spec PyProof.Rows L2 LX
open Ln (Bytes textOf)
structure FD where
 (f dx rl:Addr)
def d8(A:Ad)(H:Hp)(x:FD)(acc:Bytes):Prop:=H x.f=some (.ins A.aS x.dx (jg (.ref x.rl)))∧H x.rl=some (.lst (bA acc))
def Puts(A:Ad)(x:FD)(acc:Bytes)(H:Hp)(Q:VK)(row:Ln.Row):Prop:=acc.length+(textOf row).length≤1000000∧∀U,ax [x.rl] H U→d8 A U x (acc++textOf row)→Q .aJ U
theorem Zr(t:Bytes):jD (LR.strOf t)=bA t:=by
 unfold jD LR.strOf bA
 rw[List.map_map]
 rfl
theorem yB(a b:Bytes):bA a++bA b=bA (a++b):=by unfold bA;rw[List.map_append]
theorem ED(t:Bytes):(textOf [t]).length=t.length+1:=by rw[LR.wK,List.length_append];rfl
theorem d8.mu{A:Ad}{H:Hp}{x:FD}{acc:Bytes}(h:d8 A H x acc):∀s∈[x.rl],∃o,H s=some o∧mf o=true:=λs hs=>⟨_,(List.mem_singleton.mp hs)▸h.2,rfl⟩
theorem d8.ne{A:Ad}{H:Hp}{x:FD}{acc:Bytes}(h:d8 A H x acc):x.f≠x.rl:=bY h.1 h.2 λz=>by cases z
theorem d8.same{A:Ad}{H U:Hp}{x:FD}{acc:Bytes}(h:d8 A H x acc)(s:au H U):d8 A U x acc:=⟨s _ _ h.1,s _ _ h.2⟩
theorem d8.up{A:Ad}{H:Hp}{x:FD}{acc:Bytes}(h:d8 A H x acc)(fC:Bytes):d8 A (upd H x.rl (.lst (bA fC))) x fC:=⟨by rw[aG h.ne];exact h.1,aw⟩
theorem Puts.sub{A:Ad}{x:FD}{acc:Bytes}{H H1:Hp}{Q:VK}{r1 r2:Ln.Row}(h:Puts A x acc H Q (r1++r2))(k:ax [x.rl] H H1):Puts A x (acc++textOf r1) H1 Q r2:=by
 obtain⟨h1,h2⟩:=h
 rw[LR.lp,List.length_append]at h1
 refine⟨by rw[List.length_append];omega,λU k' fo=>h2 U (k.trans k') ?_⟩
 rw[LR.lp,←List.append_assoc]
 exact fo
theorem Puts.fst{A:Ad}{x:FD}{acc:Bytes}{H:Hp}{Q Q':VK}{r1 r2:Ln.Row}(h:Puts A x acc H Q (r1++r2))(k:∀H1,ax [x.rl] H H1→d8 A H1 x (acc++textOf r1)→Puts A x (acc++textOf r1) H1 Q r2→Q' .aJ H1):Puts A x acc H Q' r1:=by
 refine⟨?_,λH1 k1 fo=>k H1 k1 fo (h.sub k1)⟩
 have h1:=h.1
 rw[LR.lp,List.length_append]at h1
 omega
theorem Puts.nil{A:Ad}{x:FD}{acc:Bytes}{H:Hp}{Q:VK}(h:Puts A x acc H Q [])(fo:d8 A H x acc):Q .aJ H:=h.2 H (ax.refl fo.mu) (by rw[show textOf []=[]from rfl,List.append_nil];exact fo)
def pR(A:Ad):Sp:=aU (λ(d:FD×Bytes×Bytes)=>[.ref d.1.f,.str (LR.strOf d.2.2)]) λd H Q _=>d8 A H d.1 d.2.1∧Puts A d.1 d.2.1 H Q [d.2.2]
def yC(A:Ad):Sp:=aU (λ(d:FD×Bytes×Addr×Bytes)=>[.ref d.1.f,.ref d.2.2.1]) λd H Q _=>d8 A H d.1 d.2.1∧H d.2.2.1=some (.lst (bA d.2.2.2))∧d.2.2.2≠[59]∧Puts A d.1 d.2.1 H Q [d.2.2.2]
def yD(K:PySem.W.Frag)(A:Ad):Sp:=aU (λ(d:FD×Bytes×V×Rat)=>[.ref d.1.f,d.2.2.1]) λd H Q _=>d8 A H d.1 d.2.1∧bh K H d.2.2.1 d.2.2.2∧Ln.fits d.2.2.2=true∧Puts A d.1 d.2.1 H Q (Ln.valueRow d.2.2.2)
def i5(t:Bytes)(q:Rat):Ln.Row:=if q=0 then[]else[t]++Ln.valueRow q
def EE(K:PySem.W.Frag)(A:Ad):Sp:=aU (λ(d:FD×Bytes×Bytes×V×Rat)=>[.ref d.1.f,.str (LR.strOf d.2.2.1),d.2.2.2.1]) λd H Q _=>d8 A H d.1 d.2.1∧bh K H d.2.2.2.1 d.2.2.2.2∧Ln.fits d.2.2.2.2=true∧Puts A d.1 d.2.1 H Q (i5 d.2.2.1 d.2.2.2.2)
def MA(A:Ad):Sp:=aU (λ(d:Addr×Addr)=>[.ref d.1]) λd H Q _=>H d.1=some (.ins A.aS d.2 [])∧∀rl,H rl=none→Q .aJ (upd (upd H rl (.lst [])) d.1 (.ins A.aS d.2 (jg (.ref rl))))
theorem r_{t:Bytes}{s:Str}(e:s=LR.strOf t):V.str s=V.str (LR.strOf t):=by rw[e]
section
variable{P:Program}{w:World}{K:PySem.W.Frag}{mg:Str→Option Value}{base:Heap}{A:Ad}
theorem Zs(T:Txt K mg A)(D:gn K mg A.aS "Form" "Form.__init__" BQ ["self"]):Maker P w K mg base ao 1 A.aS "Form" ["self"] (MA A):=by
 refine D.ok UC (λ_=>rfl) λf ay Ar outer s H d Q E hr h=>?_
 obtain⟨x,dx⟩:=d
 obtain⟨hx,h⟩:=h
 dsimp only at*
 refine⟨_,(ai (bI (pv 0) (bK ae) rfl)),?_⟩
 show v8 _ _ _ _ _ [some (.ref x)] H
 walk_at"l"
 refine⟨Nat.zero_le _,λrl vt=>?_⟩
 walk_at"l"
 refine Vu (by rw[aG (cp hx vt)];exact hx) T.aS ?_
 exact h rl vt
theorem Zt(T:Txt K mg A)(D:bx K A.aS "put_name" "Form.put_name" BR ["self","name"]):aP P w K mg base ao 1 A.aS "put_name" ["self","name"] (yC A):=by
 refine D.ok UD (λ_=>rfl) λf ay Ar outer s H d Q E hr h=>?_
 obtain⟨x,acc,nm,nb⟩:=d
 obtain⟨fo,hn,Zu,h⟩:=h
 dsimp only at*
 have hl:=h.1
 rw[ED]at hl
 refine⟨_,(af (bq (gT PySem.F.plainAttrs_list PySem.F.slot_list_extend PySem.F.type_list_extend wa (aB (pv 0) rfl) (aa (pv 1) ae)))
   (ai (bq (gT PySem.F.plainAttrs_list PySem.F.slot_list_append PySem.F.type_list_append ni (aB (pv 0) rfl) (aa (aF T.KD) ae))))),?_⟩
 show ba _ _ _ [some (.ref x.f),some (.ref nm)] H
 walk_at"l"
 refine uJ fo.1 T.aS ?_
 refine⟨.inl ⟨rfl,_,ah.of fo.2⟩,?_⟩
 walk_at"l"
 refine xy fo.2 hn (by rw[ig,ig,show sizeLine=16777216 from sizeLine_eq];omega) ?_
 rw[yB]
 have ez:=fo.up (acc++nb)
 walk_at"l"
 refine uJ ez.1 T.aS ?_
 refine⟨.inl ⟨rfl,_,ah.of ez.2⟩,?_⟩
 walk_at"l"
 refine nP ez.2 (by rw[ig,List.length_append,show sizeLine=16777216 from sizeLine_eq];omega) ?_
 rw[eP]
 refine h.2 _ (fz fo.2) ⟨by rw[aG fo.ne];exact fo.1,?_⟩
 rw[aw,LR.wK,if_neg Zu,←List.append_assoc,←yB (acc++nb)]
 rfl
theorem Zv(T:Txt K mg A)(D:bx K A.aS "put" "Form.put" BS ["self","text"])(rE:Callee P w K mg base ao 1 "spelled" ["text"] De):aP P w K mg base ao 2 A.aS "put" ["self","text"] (pR A):=by
 refine D.ok UE (λ_=>rfl) λf ay Ar outer s H d Q E hr h=>?_
 obtain⟨x,acc,t⟩:=d
 obtain⟨fo,h⟩:=h
 dsimp only at*
 have hl:=h.1
 rw[ED]at hl
 refine⟨_,(af (bq (gT PySem.F.plainAttrs_list PySem.F.slot_list_extend PySem.F.type_list_extend wa (aB (pv 0) rfl) (aa (aT rE (hr.mono (by decide)) aD (aa (pv 1) ae)) ae)))
   (ai (bq (gT PySem.F.plainAttrs_list PySem.F.slot_list_append PySem.F.type_list_append ni (aB (pv 0) rfl) (aa (ql (aW bU (pv 1) bS (aR _)) (aF T.Kv) (aF T.KD)) ae))))),?_⟩
 show ba _ _ _ [some (.ref x.f),some (.str (LR.strOf t))] H
 walk_at"l"
 refine uJ fo.1 T.aS ?_
 refine⟨.inl ⟨rfl,_,ah.of fo.2⟩,?_⟩
 walk_at"l"
 refine⟨LR.strOf t,rfl,?_,λH1 p s1 hp gx=>?_⟩
 ·unfold LR.strOf
  simp
  omega
 rw[Zr]at gx
 have ez:=fo.same s1
 walk_at"l"
 refine xy ez.2 gx (by rw[ig,ig,show sizeLine=16777216 from sizeLine_eq];omega) ?_
 rw[yB]
 have eg:=ez.up (acc++t)
 walk_at"l"
 refine uJ eg.1 T.aS ?_
 refine⟨.inl ⟨rfl,_,ah.of eg.2⟩,?_⟩
 walk_at"l"
 have Zw:decide (LR.strOf t=Str.ofString ";")=decide (t=[59]):=by
  rw[show Str.ofString ";"=LR.strOf [59] by decide +kernel]
  exact decide_eq_decide.mpr ⟨λz=>LR.wx z,λz=>by rw[z]⟩
 rw[Zw]
 have fin:∀v:V,v=uK (if t=[59]then 10 else 32)→tf (.ref x.rl) [v] (upd H1 x.rl (.lst (bA (acc++t)))) λ_ H2=>Q .aJ H2:=by
  rintro v rfl
  refine nP eg.2 (by rw[ig,List.length_append,show sizeLine=16777216 from sizeLine_eq];omega) ?_
  rw[eP]
  have k1:ax [x.rl] H1 (upd H1 x.rl (.lst (bA (acc++t)++[uK (if t=[59]then 10 else 32)]))):=fz ez.2
  refine h.2 _ (s1.uz k1 fo.mu) ⟨by rw[aG ez.ne];exact ez.1,?_⟩
  rw[aw,LR.wK,←List.append_assoc,←yB (acc++t)]
  rfl
 by_cases yE:t=[59]
 ·rw[if_pos (decide_eq_true yE)]
  walk_at"l"
  exact fin _ (by rw[if_pos yE];rfl)
 ·rw[if_neg (by rw[decide_eq_true_eq];exact yE)]
  walk_at"l"
  exact fin _ (by rw[if_neg yE];rfl)
end
end LN
namespace LN
open PySem PySem.Spec PyProof.Rows L2 LX
open Ln (Bytes textOf)
theorem MB{n:Nat}(h:n<10^18):n.log2<1920:=by
 by_cases z:n=0
 ·subst z;decide
 ·exact(Nat.log2_lt z).mpr (Nat.lt_trans h (Nat.lt_of_lt_of_le (by decide:(10:Nat)^18<2^60) (Nat.pow_le_pow_right (by decide) (by decide))))
theorem Zx(n:Int):(if n<0 then -n else n)=((n.natAbs:Nat):Int):=by split<;>omega
section
variable{P:Program}{w:World}{K:PySem.W.Frag}{mg:Str→Option Value}{base:Heap}{A:Ad}
theorem Zy(T:Txt K mg A)(D:bx K A.aS "put_rational" "Form.put_rational" BU ["self","rational"])(eL:aP P w K mg base ao 2 A.aS "put" ["self","text"] (pR A)):
  aP P w K mg base ao 3 A.aS "put_rational" ["self","rational"] (yD K A):=by
 refine D.ok UG (λ_=>rfl) λf ay Ar outer s H d Q E hr h=>?_
 obtain⟨x,acc,v,q⟩:=d
 obtain⟨fo,⟨t,rfl,ht⟩,hf,h⟩:=h
 dsimp only at*
 have hb:=LR.Ao hf
 unfold Ln.valueRow at h
 refine⟨_,(af (bb (aW oR (a_ dM (pv 1) aM (λ_ _=>rfl)) aM (aR _)) (ai (bq (bD (pv 0) T.aS.cl eL (hr.mono (by decide)) aD (aa bS ae)))) bo)
   (af (bq (bD (pv 0) T.aS.cl eL (hr.mono (by decide)) aD (aa (GU Gs (by rfl) T.KL KQ (aa (eB zq (by rfl) T.C2 C3 (aa (a_ dM (pv 1) aM (λ_ _=>rfl)) ae)) ae)) ae)))
   (ai (bb (aW lg (a_ dM (pv 1) aM (λ_ _=>rfl)) aM (aR _)) (af (bq (bD (pv 0) T.aS.cl eL (hr.mono (by decide)) aD (aa bS ae)))
   (ai (bq (bD (pv 0) T.aS.cl eL (hr.mono (by decide)) aD (aa (GU Gs (by rfl) T.KL KQ (aa (a_ dM (pv 1) aM (λ_ _=>rfl)) ae)) ae))))) bo)))),?_⟩
 show ba _ _ _ [some (.ref x.f),some (.ref t)] H
 refine mC (λaz U=>∃fC,az=[some (.ref x.f),some (.ref t)]∧aY K U t [.int q.num,.int (q.den:Int)]∧d8 A U x fC∧Puts A x fC U Q (Ln.numberRow q)) ?_ ?_
 ·rintro az H1 ⟨EF,rfl,mq,ez,h⟩
  unfold Ln.numberRow at h
  walk_at"l"
  refine aV ez.1 (iE _) ?_
  walk_at"l"
  refine dB mq rfl ?_
  walk_at"l"
  rw[Zx]
  refine⟨by rw[Int.natAbs_natCast];exact MB hb.1,?_⟩
  walk_at"l"
  refine⟨(x,EF,Ln.decimal q.num.natAbs),by rw[LR.IX];rfl,ez,h.fst λH2 k2 eg h=>?_⟩
  have mw:=mq.keep k2
  walk_at"l"
  refine dB mw rfl ?_
  walk_at"l"
  by_cases hd:q.den=1
  ·rw[if_pos hd]at h
   rw[if_neg (by rw[hd];decide)]
   exact h.nil eg
  ·rw[if_neg hd]at h
   rw[if_pos (by rw[Bool.not_eq_true',decide_eq_false_iff_not];omega)]
   walk_at"l"
   refine aV eg.1 (iE _) ?_
   walk_at"l"
   refine⟨(x,_,Ln.ascii "/"),by rw[show Str.ofString "/"=LR.strOf (Ln.ascii "/") by decide +kernel];rfl,eg,h.fst λH3 k3 jL h=>?_⟩
   have uS:=mw.keep k3
   walk_at"l"
   refine aV jL.1 (iE _) ?_
   walk_at"l"
   refine dB uS rfl ?_
   walk_at"l"
   refine⟨by rw[Int.natAbs_natCast];exact MB hb.2,?_⟩
   walk_at"l"
   exact⟨(x,_,Ln.decimal q.den),by rw[LR.IX];rfl,jL,h⟩
 ·intro tail
  walk_at"l"
  refine dB ht rfl ?_
  walk_at"l"
  rw[LR.Rr]
  by_cases hn:q<0
  ·rw[if_pos hn]at h
   rw[if_pos (decide_eq_true hn)]
   walk_at"l"
   refine aV fo.1 (iE _) ?_
   walk_at"l"
   refine⟨(x,acc,Ln.ascii "-"),by rw[show Str.ofString "-"=LR.strOf (Ln.ascii "-") by decide +kernel];rfl,fo,h.fst λH2 k2 eg h=>?_⟩
   exact tail _ _ ⟨_,rfl,ht.keep k2,eg,h⟩
  ·rw[if_neg hn]at h
   rw[if_neg (by rw[decide_eq_true_eq];exact hn)]
   exact tail _ _ ⟨acc,rfl,ht,fo,h⟩
theorem Zz(T:Txt K mg A)(D:bx K A.aS "put_unless_zero" "Form.put_unless_zero" BW ["self","word","value"])(eL:aP P w K mg base ao 2 A.aS "put" ["self","text"] (pR A))(mL:aP P w K mg base ao 3 A.aS "put_rational" ["self","rational"] (yD K A)):aP P w K mg base ao 4 A.aS "put_unless_zero" ["self","word","value"] (EE K A):=by
 refine D.ok UH (λ_=>rfl) λf ay Ar outer s H d Q E hr h=>?_
 obtain⟨x,acc,t,v,q⟩:=d
 obtain⟨fo,hv,hf,h⟩:=h
 dsimp only at*
 refine⟨_,(ai (bb (aW (zL hr.units) (pv 2) (aF T.gq) (aR _)) (af (bq (bD (pv 0) T.aS.cl eL (hr.mono (by decide)) aD (aa (pv 1) ae)))
   (ai (bq (bD (pv 0) T.aS.cl mL (hr.mono (by decide)) aD (aa (pv 2) ae))))) bo)),?_⟩
 show vO _ _ _ _ [some (.ref x.f),some (.str (LR.strOf t)),some v] H
 walk_at"l"
 refine Dh hv (g4 T _) ?_
 walk_at"l"
 unfold i5 at h
 by_cases q0:q=0
 ·rw[if_pos q0]at h
  rw[decide_eq_true q0,if_neg (by decide)]
  exact h.nil fo
 ·rw[if_neg q0]at h
  rw[decide_eq_false q0,if_pos (by decide)]
  walk_at"l"
  refine aV fo.1 (iE _) ?_
  walk_at"l"
  refine⟨(x,acc,t),rfl,fo,h.fst λH2 k2 eg h=>?_⟩
  walk_at"l"
  refine aV eg.1 (CN _) ?_
  walk_at"l"
  exact⟨(x,_,v,q),rfl,eg,hv.keep k2,hf,h⟩
end
structure EA where
 (x:FD) (acc:Bytes) (a:Addr) (e:Ln.Elem) (no:List Addr) (n:Nat)
def MC(K:PySem.W.Frag)(A:Ad):Sp:=aU (λ(d:EA)=>[.ref d.x.f,.ref d.a]) λd H Q _=>d8 A H d.x d.acc∧eX K A d.no H d.a d.e∧d.x.rl∈d.no∧LR.fg d.n d.e∧Puts A d.x d.acc H Q (Ln.shapeRow d.e)
structure GA where
 (x:FD) (acc:Bytes) (a:Addr) (g:Ln.Glass) (no:List Addr)
def MD(K:PySem.W.Frag)(A:Ad):Sp:=aU (λ(d:GA)=>[.ref d.x.f,.ref d.a]) λd H Q _=>d8 A H d.x d.acc∧gZ K A d.no H d.a d.g∧d.x.rl∈d.no∧LR.GoodG d.g∧Puts A d.x d.acc H Q d.g.row
theorem sh{A:Ad}{H:Hp}{x:FD}{acc:Bytes}{no:List Addr}(fo:d8 A H x acc)(m:x.rl∈no)(a:Addr):∀b∈[x.rl],Off no H a b:=λb hb=>by
 rw[List.mem_singleton.mp hb]
 exact .inl ⟨m,_,fo.2⟩
def vv(a b c:Rat):Nat→Ln.Row
 |0=>Ln.w ":"++(Ln.numberRow a++(Ln.w ","++(Ln.numberRow b++(Ln.w ","++(Ln.numberRow c++Ln.w ";")))))
 |1=>Ln.w ","++(Ln.numberRow b++(Ln.w ","++(Ln.numberRow c++Ln.w ";")))
 |2=>Ln.w ","++(Ln.numberRow c++Ln.w ";")
 |_=>Ln.w ";"
def mM:Nat→Bytes
 |0=>Ln.ascii ":"
 |_=>Ln.ascii ","
theorem one_nonneg{q:Rat}(h:1≤q):0≤q:=Rat.le_trans (by decide) h
theorem ZA{K:PySem.W.Frag}{ta:TA}{σ:L2.St}{H:Hp}{R:It→Hp→Prop}(k:ta σ H λvs H1=>∃a b xs ys,vs=[.ref a,.ref b]∧aY K H1 a xs∧ah K H1 b ys∧R (qX K a b) H1):JF K ta σ H R:=k
section
variable{P:Program}{w:World}{K:PySem.W.Frag}{mg:Str→Option Value}{base:Heap}{A:Ad}
theorem ZC(T:Txt K mg A)(D:bx K A.aS "put_shape" "Form.put_shape" BX ["self","thing"])(eL:aP P w K mg base ao 2 A.aS "put" ["self","text"] (pR A))(pS:aP P w K mg base ao 4 A.aS "put_unless_zero" ["self","word","value"] (EE K A)):aP P w K mg base ao 5 A.aS "put_shape" ["self","thing"] (MC K A):=by
 refine D.ok UI (λ_=>rfl) λf ay Ar outer s H d Q E hr h=>?_
 obtain⟨x,acc,a,e,no,n⟩:=d
 obtain⟨fo,hE,hm,hg,h⟩:=h
 dsimp only at*
 obtain⟨b_,nm,gp,cv,cn,rc,bP,bZ,aZ,ip,gr,jH,jI⟩:=hE
 refine⟨_,(af (bb (aW (tj hr.units) (aB (pv 1) rfl) (aF T.gq) (aR _)) (ai (bq (bD (pv 0) T.aS.cl eL (hr.mono (by decide)) aD (aa bS ae)))) bo)
   (af (bq (bD (pv 0) T.aS.cl pS (hr.mono (by decide)) aD (aa bS (aa (aB (pv 1) rfl) ae))))
   (ai (bq (bD (pv 0) T.aS.cl pS (hr.mono (by decide)) aD (aa bS (aa (aB (pv 1) rfl) ae))))))),?_⟩
 show ba _ _ _ [some (.ref x.f),some (.ref a)] H
 have ins:∀U,ax [x.rl] H U→U a=some (.ins A.aQ b_ (bN (.int (kN e.kind)) (.ref nm) gp (.int (gN e.kind)) cv cn rc)):=λU k=>k.eq _ _ bP λz=>bY bP fo.2 (λq=>by cases q) (List.mem_singleton.mp z)
 have e1:Ln.shapeRow e=(if e.curve=0 then Ln.w "flat" else[])++(i5 (Ln.ascii "curve") e.curve++i5 (Ln.ascii "conic") e.conic):=by
  unfold Ln.shapeRow i5
  by_cases c0:e.curve=0
  ·rw[if_pos c0,if_pos c0,if_pos c0];rfl
  ·rw[if_neg c0,if_neg c0,if_neg c0];rfl
 rw[e1]at h
 refine mC (λaz U=>∃fC,az=[some (.ref x.f),some (.ref a)]∧ax [x.rl] H U∧d8 A U x fC∧Puts A x fC U Q (i5 (Ln.ascii "curve") e.curve++i5 (Ln.ascii "conic") e.conic)) ?_ ?_
 ·rintro az H1 ⟨EF,rfl,k1,ez,h⟩
  walk_at"l"
  refine aV ez.1 (CO _) ?_
  walk_at"l"
  refine uG (ins _ k1) T.aQ ?_
  walk_at"l"
  refine⟨(x,EF,Ln.ascii "curve",cv,e.curve),by rw[show Str.ofString "curve"=LR.strOf (Ln.ascii "curve") by decide +kernel];rfl,ez,gr.keep k1,hg.iQ,h.fst λH2 k2 eg h=>?_⟩
  have yF:=k1.trans k2
  walk_at"l"
  refine aV eg.1 (CO _) ?_
  walk_at"l"
  refine Ke (ins _ yF) T.aQ ?_
  walk_at"l"
  exact⟨(x,_,Ln.ascii "conic",cn,e.conic),by rw[show Str.ofString "conic"=LR.strOf (Ln.ascii "conic") by decide +kernel];rfl,eg,jH.keep yF,hg.je,h⟩
 ·intro tail
  walk_at"l"
  refine uG bP T.aQ ?_
  walk_at"l"
  refine Dg gr (g4 T _) ?_
  walk_at"l"
  by_cases c0:e.curve=0
  ·rw[if_pos c0]at h
   rw[if_pos (decide_eq_true c0)]
   walk_at"l"
   refine aV fo.1 (iE _) ?_
   walk_at"l"
   refine⟨(x,acc,Ln.ascii "flat"),by rw[show Str.ofString "flat"=LR.strOf (Ln.ascii "flat") by decide +kernel];rfl,fo,h.fst λH2 k2 eg h=>?_⟩
   exact tail _ _ ⟨_,rfl,k2,eg,h⟩
  ·rw[if_neg c0]at h
   rw[if_neg (by rw[decide_eq_true_eq];exact c0)]
   exact tail _ _ ⟨acc,rfl,ax.refl fo.mu,fo,h⟩
theorem ZD(T:Txt K mg A)(D:bx K A.aS "put_glass" "Form.put_glass" BV ["self","glass"])(eL:aP P w K mg base ao 2 A.aS "put" ["self","text"] (pR A))(lK:aP P w K mg base ao 1 A.aS "put_name" ["self","name"] (yC A))(mL:aP P w K mg base ao 3 A.aS "put_rational" ["self","rational"] (yD K A)):aP P w K mg base ao 4 A.aS "put_glass" ["self","glass"] (MD K A):=by
 refine D.ok CA (λ_=>rfl) λf ay Ar outer s H d Q E hr h=>?_
 obtain⟨x,acc,a,g,no⟩:=d
 obtain⟨fo,hG,hm,hg,h⟩:=h
 dsimp only at*
 obtain⟨qa,qb,qc,ei,ha,hb,hc⟩:=hg.index
 refine⟨_,(af (bq (bD (pv 0) T.aS.cl eL (hr.mono (by decide)) aD (aa bS ae)))
   (af (bq (bD (pv 0) T.aS.cl lK (hr.mono (by decide)) aD (aa (aB (pv 1) rfl) ae)))
   (af (hX PassesOwn.never rfl (Tc (by rfl) T.xR (aa (gR (aa bS (aa bS (aa bS ae)))) (aa (aB (pv 1) rfl) ae))) (sL rfl (jU (eA (i:=2) CA.nd rfl (Or.inl rfl)) (jU (eA (i:=3) CA.nd rfl (Or.inl rfl)) sJ))) (af (bq (bD (pv 0) T.aS.cl eL (hr.mono (by decide)) aD (aa (pv 2) ae)))
   (ai (bq (bD (pv 0) T.aS.cl mL (hr.mono (by decide)) aD (aa (pv 3) ae))))))
   (ai (bq (bD (pv 0) T.aS.cl eL (hr.mono (by decide)) aD (aa bS ae))))))),?_⟩
 show ba _ _ _ [some (.ref x.f),some (.ref a),none,none] H
 have ZE:∀U,ax [x.rl] H U→gZ K A no U a g:=λU k=>hG.keep k (sh fo hm a)
 have e1:g.row=Ln.w "glass"++([g.name]++vv qa qb qc 0):=by
  unfold Ln.Glass.row
  rw[ei]
  rfl
 rw[e1]at h
 walk_at"l"
 refine aV fo.1 (iE _) ?_
 walk_at"l"
 refine⟨(x,acc,Ln.ascii "glass"),by rw[show Str.ofString "glass"=LR.strOf (Ln.ascii "glass") by decide +kernel];rfl,fo,h.fst λH1 k1 ez h=>?_⟩
 obtain⟨ik,nm,il,i0,i1,i2,q0,q1,q2,iH,bZ,gF,n1,n2,si,r0,r1,r2⟩:=ZE H1 k1
 obtain⟨rfl,rfl,rfl⟩:qa=q0∧qb=q1∧qc=q2:=by
  rw[ei]at si
  injection si with a1 si
  injection si with a2 si
  injection si with a3 _
  exact⟨a1,a2,a3⟩
 walk_at"l"
 refine aV ez.1 (xO _) ?_
 walk_at"l"
 refine xK iH T.eE ?_
 walk_at"l"
 refine⟨(x,_,nm,g.name),rfl,ez,bZ,hg.name.2,h.fst λH2 k2 eg h=>?_⟩
 have ZF:=k2.eq _ _ iH λz=>bY iH ez.2 (λq=>by cases q) (List.mem_singleton.mp z)
 have ME:=k2.eq _ _ gF λz=>pA (sh ez hm a _ z) gF n2 rfl
 walk_at"l"
 with_reducible refine iD (ZA ?_)
 walk_at"l"
 refine⟨by show 3≤sizeLine;decide,λtp uZ=>?_⟩
 have mG:=au.bc (o:=.tup [.str ":",.str ",",.str ","]) uZ
 walk_at"l"
 refine CF (mG _ _ ZF) T.eE ?_
 walk_at"l"
 have jL:=eg.same mG
 have rr:∀k v,([i0,i1,i2]:List V)[k]?=some v→∃q,bh K H1 v q∧Ln.fits q=true∧1≤q∧k<3∧vv qa qb qc k=[mM k]++(Ln.valueRow q++vv qa qb qc (k+1)):=by
  intro k v hv
  match k,hv with
  |0,hv=>exact⟨qa,(Option.some.inj hv)▸r0,ha.2,ha.1,by decide,by rw[LR.ub (one_nonneg ha.1)];rfl⟩
  |1,hv=>exact⟨qb,(Option.some.inj hv)▸r1,hb.2,hb.1,by decide,by rw[LR.ub (one_nonneg hb.1)];rfl⟩
  |2,hv=>exact⟨qc,(Option.some.inj hv)▸r2,hc.2,hc.1,by decide,by rw[LR.ub (one_nonneg hc.1)];rfl⟩
  |k+3,hv=>cases hv
 refine⟨tp,il,_,_,rfl,aY.of aw,ah.of (mG _ _ ME),TZ (K:=K) (a:=tp) (b:=il) (xs:=[.str ":",.str ",",.str ","]) (ys:=[i0,i1,i2]) (λk σ U=>∃(v2 v3:Option V) (fC:Bytes),σ=[some (.ref x.f),some (.ref a),v2,v3]∧aY K U tp [.str ":",.str ",",.str ","]∧U il=some (.lst [i0,i1,i2])∧ax [x.rl] H1 U∧d8 A U x fC∧Puts A x fC U Q (vv qa qb qc k))
  ⟨none,none,_,rfl,aY.of aw,mG _ _ ME,k2.d6 mG,jL,?_⟩ (λk σ U ⟨_,_,_,_,q1,q2,_⟩=>⟨q1,ah.of q2⟩) 3 rfl (Nat.le_refl _) ?_ ?_⟩
 ·exact⟨h.1,λU k' f'=>h.2 U (mG.uz k' eg.mu) f'⟩
 ·rintro k m v T' σ U pU hv ⟨v2,v3,fC,rfl,vb,MF,k3,vw,h⟩ lB
  obtain⟨q,hq,hf,h1,ZG,er⟩:=rr k v hv
  rw[er]at h
  obtain rfl:m=.str (LR.strOf (mM k)):=by
   match k,ZG,pU with
   |0,_,pU=>exact((Option.some.inj pU).symm).trans (r_ (t:=mM 0) (by decide +kernel))
   |1,_,pU=>exact((Option.some.inj pU).symm).trans (r_ (t:=mM 1) (by decide +kernel))
   |2,_,pU=>exact((Option.some.inj pU).symm).trans (r_ (t:=mM 2) (by decide +kernel))
  have sT:=au.bc (o:=.tup [.str (LR.strOf (mM k)),v]) lB
  refine xY (aY.of aw) ?_
  have jM:=vw.same sT
  walk_at"l"
  refine aV jM.1 (iE _) ?_
  walk_at"l"
  have h:Puts A x fC (upd U T' (.tup [.str (LR.strOf (mM k)),v])) Q ([mM k]++(Ln.valueRow q++vv qa qb qc (k+1))):=⟨h.1,λU k' f'=>h.2 U (sT.uz k' vw.mu) f'⟩
  refine⟨(x,fC,mM k),rfl,jM,h.fst λH5 k5 jo h=>?_⟩
  walk_at"l"
  refine aV jo.1 (CN _) ?_
  walk_at"l"
  have MG:=(k3.d6 sT).trans k5
  refine⟨(x,_,v,q),rfl,jo,hq.keep MG,hf,h.fst λH6 k6 iI h=>?_⟩
  have ZH:=MG.trans k6
  have ZI:=k5.trans k6
  refine⟨_,_,_,rfl,((vb.same sT).keep k5).keep k6,ZI.eq _ _ (sT _ _ MF) λz=>?_,ZH,iI,h⟩
  exact pA (sh ez hm a _ z) gF n2 rfl
 ·rintro σ U ⟨v2,v3,fC,rfl,vb,MF,k3,vw,h⟩
  walk_at"l"
  refine aV vw.1 (iE _) ?_
  walk_at"l"
  exact⟨(x,fC,Ln.ascii ";"),by rw[show Str.ofString ";"=LR.strOf (Ln.ascii ";") by decide +kernel];rfl,vw,h⟩
end
end LN
namespace LN
open PySem PySem.Spec PyProof.Rows L2 LX
open Ln (Bytes textOf)
def EG:Ln.Kind→Bytes
 |.surface _=>Ln.ascii "surface"
 |.mirror=>Ln.ascii "mirror"
 |.halt_=>Ln.ascii "stop"
def MH(G:List Ln.Glass):Ln.Kind→Ln.Row
 |.surface m=>Ln.w "into"++[((G[m]?).map λ(g:Ln.Glass)=>g.name).getD []]
 |_=>[]
def sj(e:Ln.Elem):Ln.Row:=if e.kind.isStop=true then[]else Ln.shapeRow e
theorem ZJ{n:Nat}{e:Ln.Elem}(h:LR.fg n e):Ln.clearRow e=i5 (Ln.ascii "clear") (e.clear.getD 0)++Ln.w ";":=by
 unfold Ln.clearRow
 congr 1
 unfold i5
 cases hc:e.clear with
 |none=>rfl
 |some q=>
  have hq:=(h.clear q hc).1
  show _=if q=0 then[]else _
  rw[if_neg (Rat.ne_of_gt hq)]
  show _=[Ln.ascii "clear"]++Ln.valueRow q
  rw[LR.ub (Rat.le_of_lt hq)]
  rfl
theorem ZK{n:Nat}{e:Ln.Elem}(G:List Ln.Glass)(h:LR.fg n e):Ln.elemRow G e=[EG e.kind]++([e.name]++(Ln.w "after"++(Ln.valueRow e.gap++(MH G e.kind++(sj e++(i5 (Ln.ascii "clear") (e.clear.getD 0)++Ln.w ";")))))):=by
 have hc:=ZJ h
 rw[LR.ub h.gap,←hc]
 unfold Ln.elemRow Ln.afterRow sj
 cases hk:e.kind with
 |surface m=>simp only[List.append_assoc];rfl
 |mirror=>simp only[List.append_assoc];rfl
 |halt_=>simp only[List.append_assoc];rfl
structure ZL where
 (x:FD) (acc:Bytes) (a:Addr) (e:Ln.Elem) (no:List Addr) (gl:Addr) (gs:List Addr) (G:List Ln.Glass)
def MI(K:PySem.W.Frag)(A:Ad):Sp:=aU (λ(d:ZL)=>[.ref d.x.f,.ref d.a,.ref d.gl]) λd H Q _=>d8 A H d.x d.acc∧eX K A d.no H d.a d.e∧d.x.rl∈d.no∧LR.fg d.G.length d.e∧(∀g∈d.G,LR.GoodG g)∧H d.gl=some (.lst (d.gs.map .ref))∧d.gl≠d.x.rl∧Each (gZ K A d.no H) d.gs d.G∧Puts A d.x d.acc H Q (Ln.elemRow d.G d.e)
def MJ(K:PySem.W.Frag)(A:Ad):Sp:=aU (λ(d:SD)=>[.ref d.s]) λd H Q _=>ey K A H d∧LR.Good d.S∧∀U p,au H U→H p=none→U p=some (.lst (bA (Ln.print d.S)))→Q (.ref p) U
section
variable{P:Program}{w:World}{K:PySem.W.Frag}{mg:Str→Option Value}{base:Heap}{A:Ad}
theorem ZM(T:Txt K mg A)(D:bx K A.aS "put_thing" "Form.put_thing" BY ["self","thing","glasses"])(eL:aP P w K mg base ao 2 A.aS "put" ["self","text"] (pR A))(lK:aP P w K mg base ao 1 A.aS "put_name" ["self","name"] (yC A))(mL:aP P w K mg base ao 3 A.aS "put_rational" ["self","rational"] (yD K A))(EH:aP P w K mg base ao 5 A.aS "put_shape" ["self","thing"] (MC K A))(pS:aP P w K mg base ao 4 A.aS "put_unless_zero" ["self","word","value"] (EE K A)):
  aP P w K mg base ao 6 A.aS "put_thing" ["self","thing","glasses"] (MI K A):=by
 refine D.ok UJ (λ_=>rfl) λf ay Ar outer s H d Q E hr h=>?_
 obtain⟨x,acc,a,e,no,gl,gs,G⟩:=d
 obtain⟨fo,hE,hm,hg,hG,md,ic,ZN,h⟩:=h
 dsimp only at*
 have ZO:=hE
 obtain⟨b_,nm,gp,cv,cn,rc,bP,bZ,aZ,ip,gr,jH,jI⟩:=hE
 refine⟨_,(af (bq (bD (pv 0) T.aS.cl eL (hr.mono (by decide)) aD (aa (a_ dM (aF T.CS) (aB (pv 1) rfl) (λ_ _=>rfl)) ae)))
   (af (bq (bD (pv 0) T.aS.cl lK (hr.mono (by decide)) aD (aa (aB (pv 1) rfl) ae)))
   (af (bq (bD (pv 0) T.aS.cl eL (hr.mono (by decide)) aD (aa bS ae)))
   (af (bq (bD (pv 0) T.aS.cl mL (hr.mono (by decide)) aD (aa (aB (pv 1) rfl) ae)))
   (af (bb (aW bU (aB (pv 1) rfl) (aF T.xQ) (aR _)) (af (bq (bD (pv 0) T.aS.cl eL (hr.mono (by decide)) aD (aa bS ae)))
   (ai (bq (bD (pv 0) T.aS.cl lK (hr.mono (by decide)) aD (aa (aB (a_ cf (pv 2) (aB (pv 1) rfl) (λ_ _=>rfl)) rfl) ae))))) bo)
   (af (bb (aW lg (aB (pv 1) rfl) (aF T.CU) (aR _)) (ai (bq (bD (pv 0) T.aS.cl EH (hr.mono (by decide)) aD (aa (pv 1) ae)))) bo)
   (af (bq (bD (pv 0) T.aS.cl pS (hr.mono (by decide)) aD (aa bS (aa (aB (pv 1) rfl) ae))))
   (ai (bq (bD (pv 0) T.aS.cl eL (hr.mono (by decide)) aD (aa bS ae))))))))))),?_⟩
 show ba _ _ _ [some (.ref x.f),some (.ref a),some (.ref gl)] H
 have ins:∀U,ax [x.rl] H U→U a=some (.ins A.aQ b_ (bN (.int (kN e.kind)) (.ref nm) gp (.int (gN e.kind)) cv cn rc)):=λU k=>k.eq _ _ bP λz=>bY bP fo.2 (λq=>by cases q) (List.mem_singleton.mp z)
 rw[ZK G hg]at h
 walk_at"l"
 refine aV fo.1 (iE _) ?_
 walk_at"l"
 refine ko bP T.aQ ?_
 refine dB (T.CT _) (v:=.str (LR.strOf (EG e.kind))) ?_ ?_
 ·cases e.kind with
  |surface m=>exact congrArg some (r_ (t:=Ln.ascii "surface") (by decide +kernel))
  |mirror=>exact congrArg some (r_ (t:=Ln.ascii "mirror") (by decide +kernel))
  |halt_=>exact congrArg some (r_ (t:=Ln.ascii "stop") (by decide +kernel))
 walk_at"l"
 refine⟨(x,acc,EG e.kind),rfl,fo,h.fst λH1 k1 ez h=>?_⟩
 walk_at"l"
 refine aV ez.1 (xO _) ?_
 walk_at"l"
 refine Kc (ins _ k1) T.aQ ?_
 walk_at"l"
 refine⟨(x,_,nm,e.name),rfl,ez,k1.eq _ _ bZ λz=>pA (sh fo hm a _ z) bZ aZ rfl,hg.name.2,h.fst λH2 k2 eg h=>?_⟩
 have yF:=k1.trans k2
 walk_at"l"
 refine aV eg.1 (iE _) ?_
 walk_at"l"
 refine⟨(x,_,Ln.ascii "after"),by rw[show Str.ofString "after"=LR.strOf (Ln.ascii "after") by decide +kernel];rfl,eg,h.fst λH3 k3 jL h=>?_⟩
 have sk:=yF.trans k3
 walk_at"l"
 refine aV jL.1 (CN _) ?_
 walk_at"l"
 refine pj (ins _ sk) T.aQ ?_
 walk_at"l"
 refine⟨(x,_,gp,e.gap),rfl,jL,ip.keep sk,hg.iB,h.fst λH4 k4 jM h=>?_⟩
 have so:=sk.trans k4
 obtain⟨yG,jM,h⟩:∃yG,d8 A H4 x yG∧Puts A x yG H4 Q (MH G e.kind++(sj e++(i5 (Ln.ascii "clear") (e.clear.getD 0)++Ln.w ";"))):=⟨_,jM,h⟩
 with_reducible refine mC (λaz U=>∃fC,az=[some (.ref x.f),some (.ref a),some (.ref gl)]∧ax [x.rl] H U∧d8 A U x fC∧Puts A x fC U Q (sj e++(i5 (Ln.ascii "clear") (e.clear.getD 0)++Ln.w ";"))) ?_ ?_
 ·rintro az H5 ⟨mO,rfl,k5,jo,h⟩
  with_reducible refine mC (λaz U=>∃fC,az=[some (.ref x.f),some (.ref a),some (.ref gl)]∧ax [x.rl] H U∧d8 A U x fC∧Puts A x fC U Q (i5 (Ln.ascii "clear") (e.clear.getD 0)++Ln.w ";")) ?_ ?_
  ·rintro az H6 ⟨ZP,rfl,k6,iI,h⟩
   walk_at"l"
   refine aV iI.1 (CO _) ?_
   walk_at"l"
   refine CH (ins _ k6) T.aQ ?_
   walk_at"l"
   refine⟨(x,ZP,Ln.ascii "clear",rc,e.clear.getD 0),by rw[show Str.ofString "clear"=LR.strOf (Ln.ascii "clear") by decide +kernel];rfl,iI,jI.keep k6,?_,h.fst λH7 k7 yH h=>?_⟩
   ·cases hc:e.clear with
    |none=>show Ln.fits 0=true;decide +kernel
    |some q=>exact(hg.clear q hc).2
   walk_at"l"
   refine aV yH.1 (iE _) ?_
   walk_at"l"
   exact⟨(x,_,Ln.ascii ";"),by rw[show Str.ofString ";"=LR.strOf (Ln.ascii ";") by decide +kernel];rfl,yH,h⟩
  ·intro tail
   walk_at"l"
   refine ko (ins _ k5) T.aQ ?_
   walk_at"l"
   rw[Mh]
   unfold sj at h
   by_cases hs:e.kind.isStop=true
   ·rw[if_pos hs]at h
    rw[hs,if_neg (by decide)]
    exact tail _ _ ⟨mO,rfl,k5,jo,h⟩
   ·rw[if_neg hs]at h
    rw[if_pos (by rw[Bool.not_eq_true'];exact Bool.not_eq_true _▸hs)]
    walk_at"l"
    refine aV jo.1 (Vw _) ?_
    walk_at"l"
    refine⟨⟨x,mO,a,e,no,G.length⟩,rfl,jo,ZO.keep k5 (sh fo hm a),hm,hg,h.fst λH6 k6 iI h=>?_⟩
    exact tail _ _ ⟨_,rfl,k5.trans k6,iI,h⟩
 ·intro tail
  walk_at"l"
  refine ko (ins _ so) T.aQ ?_
  walk_at"l"
  cases hk:e.kind with
  |surface m=>
   rw[hk]at h
   rw[if_pos (by show decide (((0:Nat):Int)=0)=true;decide)]
   have w9:=hg.into m hk
   have mH:G[m]?=some G[m]:=List.getElem?_eq_getElem w9
   obtain⟨ga,vc,EI⟩:=ZN.at mH
   have h:Puts A x yG H4 Q (Ln.w "into"++([((G[m]?).map λ(g:Ln.Glass)=>g.name).getD []]++(sj e++(i5 (Ln.ascii "clear") (e.clear.getD 0)++Ln.w ";")))):=by
    rw[←List.append_assoc]
    exact h
   rw[mH]at h
   walk_at"l"
   refine aV jM.1 (iE _) ?_
   walk_at"l"
   refine⟨(x,_,Ln.ascii "into"),by rw[show Str.ofString "into"=LR.strOf (Ln.ascii "into") by decide +kernel];rfl,jM,h.fst λH5 k5 jo h=>?_⟩
   have pV:=so.trans k5
   obtain⟨ik,EJ,il,i0,i1,i2,q0,q1,q2,iH,EK,_⟩:=EI.keep pV (sh fo hm ga)
   have ZQ:=pV.eq _ _ md λz=>ic (List.mem_singleton.mp z)
   have MK:=ins _ pV
   rw[hk]at MK
   walk_at"l"
   refine aV jo.1 (xO _) ?_
   walk_at"l"
   refine CG MK T.aQ ?_
   refine b9 (ah.of ZQ) (v:=.ref ga) (hZ (j:=m) (by rw[List.getElem?_map,vc];rfl)) ?_
   refine xK iH T.eE ?_
   walk_at"l"
   refine⟨(x,_,EJ,G[m].name),rfl,jo,EK,(hG _ (List.getElem_mem w9)).name.2,h.fst λH6 k6 iI h=>?_⟩
   exact tail _ _ ⟨_,rfl,pV.trans k6,iI,h⟩
  |mirror=>
   rw[hk]at h
   rw[if_neg (by decide)]
   exact tail _ _ ⟨_,rfl,so,jM,h⟩
  |halt_=>
   rw[hk]at h
   rw[if_neg (by decide)]
   exact tail _ _ ⟨_,rfl,so,jM,h⟩
theorem ZR(T:Txt K mg A)(D:aI K mg "one_form" BZ ["system"])(EL:Maker P w K mg base ao 1 A.aS "Form" ["self"] (MA A))(EM:aP P w K mg base ao 4 A.aS "put_glass" ["self","glass"] (MD K A))(eL:aP P w K mg base ao 2 A.aS "put" ["self","text"] (pR A))(lK:aP P w K mg base ao 1 A.aS "put_name" ["self","name"] (yC A))(EN:aP P w K mg base ao 6 A.aS "put_thing" ["self","thing","glasses"] (MI K A)):Callee P w K mg base ao 7 "one_form" ["system"] (MJ K A):=by
 refine D.ok xI (λ_=>rfl) λf ay Ar outer s H d Q E hr h=>?_
 obtain⟨S,hg,h⟩:=h
 have iU:d.S.elems.length≤16:=hg.el
 have L5:d.S.glasses.length≤16:=hg.gl
 refine⟨_,(af (a9 (i:=1) xI.nd rfl (Or.inl rfl) (AW EL (hr.mono (by decide)) aD))
   (af (hX PassesOwn.never rfl (kX (aB (pv 0) rfl)) (eA (i:=2) xI.nd rfl (Or.inl rfl)) (ai (bq (bD (pv 1) T.aS.cl EM (hr.mono (by decide)) aD (aa (pv 2) ae)))))
   (af (bq (bD (pv 1) T.aS.cl eL (hr.mono (by decide)) aD (aa bS ae)))
   (af (bq (bD (pv 1) T.aS.cl lK (hr.mono (by decide)) aD (aa (aB (a_ cf (aB (pv 0) rfl) (aB (pv 0) rfl) (λ_ _=>rfl)) rfl) ae)))
   (af (bq (bD (pv 1) T.aS.cl eL (hr.mono (by decide)) aD (aa bS ae)))
   (af (hX PassesOwn.never rfl (kX (aB (pv 0) rfl)) (eA (i:=3) xI.nd rfl (Or.inl rfl)) (ai (bq (bD (pv 1) T.aS.cl EN (hr.mono (by decide)) aD (aa (pv 3) (aa (aB (pv 0) rfl) ae))))))
   (ai (aH (aB (pv 1) rfl))))))))),?_⟩
 show ba _ _ _ [some (.ref d.s),none,none,none] H
 walk_at"l"
 intro ff fB nf ZS nef
 refine⟨(ff,fB),rfl,aw,λrl vt=>⟨rfl,?_⟩⟩
 have s0:=kx (o:=.ins A.aS fB []) nf ZS
 have pW:H rl=none:=s0.free vt
 have ZT:ff≠rl:=λz=>by
  have q:=vt
  rw[←z,aw]at q;cases q
 have s1:au H (upd (upd (upd (upd H fB (.own ff)) ff (.ins A.aS fB [])) rl (.lst [])) ff (.ins A.aS fB (jg (.ref rl)))):=λb o e=>by
  rw[aG (cp e nf),aG (cp e pW)]
  exact s0 _ _ e
 have ez:d8 A (upd (upd (upd (upd H fB (.own ff)) ff (.ins A.aS fB [])) rl (.lst [])) ff (.ins A.aS fB (jg (.ref rl)))) ⟨ff,fB,rl⟩ []:=⟨aw,by rw[aG (Ne.symm ZT),aw];rfl⟩
 dsimp only
 generalize upd (upd (upd (upd H fB (.own ff)) ff (.ins A.aS fB [])) rl (.lst [])) ff (.ins A.aS fB (jg (.ref rl)))=H1 at s1 ez⊢
 have S1:cD K A (rl::d.no) H1 d.s d.gl d.tl d.gs d.es d.S:=(S.add (no':=rl::d.no) λb hb=>by
  rcases List.mem_cons.mp hb with q|q
  ·exact .inr (q▸pW)
  ·exact .inl q).keep s1.eV λb hb=>absurd hb (by simp)
 have ML:rl∈d.gl::d.tl::rl::d.no:=List.mem_cons_of_mem _ (List.mem_cons_of_mem _ List.mem_cons_self)
 have Sk:∀U,ax [rl] H1 U→cD K A (rl::d.no) U d.s d.gl d.tl d.gs d.es d.S:=λU k=>S1.keep k λb hb=>.inl (by rw[List.mem_singleton.mp hb];exact⟨List.mem_cons_self,_,ez.2⟩)
 have ZU:∀U,ax [rl] H1 U→au H U:=λU k=>s1.sub k λb hb=>by rw[List.mem_singleton.mp hb];exact pW
 obtain⟨oo,vp⟩:=S1.ins
 walk_at"l"
 with_reducible refine iD (lx ?_)
 walk_at"l"
 refine jC vp T.bf ?_
 refine⟨d.gl,rfl,⟨_,ah.of S1.ck⟩,qp (K:=K) (a:=d.gl) (xs:=d.gs.map .ref) (λk σ U=>∃v2:Option V,σ=[some (.ref d.s),some (.ref ff),v2,none]∧ax [rl] H1 U∧d8 A U ⟨ff,fB,rl⟩ (textOf ((d.S.glasses.take k).flatMap Ln.Glass.row)))
  ⟨none,rfl,ax.refl ez.mu,ez⟩ (λk σ U _ ⟨_,_,k2,_⟩=>ah.of (Sk _ k2).ck) ?_ ?_⟩
 ·rintro k y σ U hy ⟨v2,rfl,k2,eg⟩
  rw[List.getElem?_map]at hy
  obtain⟨a,ha,rfl⟩:=Option.map_eq_some_iff.mp hy
  have S2:=Sk _ k2
  obtain⟨g,MM,hG⟩:=S2.glasses.at' ha
  have gg:=hg.glasses g (List.mem_of_getElem? MM)
  walk_at"l"
  refine aV eg.1 (Vv _) ?_
  walk_at"l"
  have b1:=(LR.Sh.flat (f:=Ln.Glass.row) (n:=15) (d.S.glasses.take k) λg mH=>LR.wL (hg.glasses g (List.mem_of_mem_take mH))).text
  have b2:=(LR.wL gg).text
  have b3:(d.S.glasses.take k).length≤16:=by rw[List.length_take];omega
  have hb:(textOf ((d.S.glasses.take k).flatMap Ln.Glass.row)).length+(textOf g.row).length≤1000000:=by omega
  refine⟨⟨⟨ff,fB,rl⟩,_,a,g,_⟩,rfl,eg,hG,ML,gg,hb,λH3 k3 jL=>⟨_,rfl,k2.trans k3,?_⟩⟩
  rw[List.take_add_one,MM,List.flatMap_append,LR.lp]
  rw[show(some g).toList.flatMap Ln.Glass.row=g.row by simp]
  exact jL
 ·rintro σ H2 ⟨v2,rfl,k2,eg⟩
  rw[List.length_map,S.glasses.1,List.take_length]at eg
  have b1:=(LR.Sh.flat (f:=Ln.Glass.row) (n:=15) d.S.glasses λg mH=>LR.wL (hg.glasses g mH)).text
  obtain⟨g0,fG⟩:∃g0,d.S.glasses[d.S.start]?=some g0:=⟨_,List.getElem?_eq_getElem hg.start⟩
  have MN:=hg.glasses _ (List.mem_of_getElem? fG)
  have S2:=Sk _ k2
  obtain⟨iW,yy⟩:=S2.ins
  walk_at"l"
  refine aV eg.1 (iE _) ?_
  walk_at"l"
  have l5:(textOf [Ln.ascii "start"]).length=6:=rfl
  have l1:(textOf [Ln.ascii ";"]).length=2:=rfl
  have ln:=ED g0.name
  have nl:=MN.name.1
  have ZV:(textOf (d.S.glasses.flatMap Ln.Glass.row)).length+(textOf [Ln.ascii "start"]).length≤1000000:=by omega
  have ZW:(textOf (d.S.glasses.flatMap Ln.Glass.row)++textOf [Ln.ascii "start"]).length+(textOf [g0.name]).length≤1000000:=by rw[List.length_append];omega
  have ZX:(textOf (d.S.glasses.flatMap Ln.Glass.row)++textOf [Ln.ascii "start"]++textOf [g0.name]).length+(textOf [Ln.ascii ";"]).length≤1000000:=by rw[List.length_append,List.length_append];omega
  refine⟨(⟨ff,fB,rl⟩,_,Ln.ascii "start"),by rw[show Str.ofString "start"=LR.strOf (Ln.ascii "start") by decide +kernel];rfl,eg,ZV,λH3 k3 jL=>?_⟩
  have sk:=k2.trans k3
  have S3:=Sk _ sk
  obtain⟨lE,yo⟩:=S3.ins
  obtain⟨ga,vc,EI⟩:=S3.glasses.at fG
  obtain⟨ik,EJ,il,i0,i1,i2,q0,q1,q2,iH,EK,_⟩:=EI
  walk_at"l"
  refine aV jL.1 (xO _) ?_
  walk_at"l"
  refine jC yo T.bf ?_
  walk_at"l"
  refine CJ yo T.bf ?_
  refine b9 (ah.of S3.ck) (v:=.ref ga) (hZ (by rw[List.getElem?_map,vc];rfl)) ?_
  refine xK iH T.eE ?_
  walk_at"l"
  refine⟨(⟨ff,fB,rl⟩,_,EJ,g0.name),rfl,jL,EK,MN.name.2,ZW,λH4 k4 jM=>?_⟩
  have so:=sk.trans k4
  walk_at"l"
  refine aV jM.1 (iE _) ?_
  walk_at"l"
  refine⟨(⟨ff,fB,rl⟩,_,Ln.ascii ";"),by rw[show Str.ofString ";"=LR.strOf (Ln.ascii ";") by decide +kernel];rfl,jM,ZX,λH5 k5 jo=>?_⟩
  have pV:=so.trans k5
  obtain⟨mO,e5,l5,jo⟩:∃mO,mO=textOf (d.S.glasses.flatMap Ln.Glass.row++(Ln.w "start"++([((d.S.glasses[d.S.start]?).map λ(g:Ln.Glass)=>g.name).getD []]++Ln.w ";")))∧mO.length≤10000∧d8 A H5 ⟨ff,fB,rl⟩ mO:=by
   refine⟨_,?_,?_,jo⟩
   ·rw[fG,LR.lp,LR.lp,LR.lp,←List.append_assoc,←List.append_assoc]
    rfl
   ·show(textOf (d.S.glasses.flatMap Ln.Glass.row)++textOf [Ln.ascii "start"]++textOf [g0.name]++textOf [Ln.ascii ";"]).length≤10000
    rw[List.length_append,List.length_append,List.length_append]
    omega
  have S5:=Sk _ pV
  obtain⟨x8,ZY⟩:=S5.ins
  walk_at"l"
  with_reducible refine iD (lx ?_)
  walk_at"l"
  refine eW ZY T.bf ?_
  refine⟨d.tl,rfl,⟨_,ah.of S5.bu⟩,qp (K:=K) (a:=d.tl) (xs:=d.es.map .ref) (λk σ U=>∃v3:Option V,σ=[some (.ref d.s),some (.ref ff),v2,v3]∧ax [rl] H1 U∧d8 A U ⟨ff,fB,rl⟩ (mO++textOf ((d.S.elems.take k).flatMap (Ln.elemRow d.S.glasses))))
   ⟨none,rfl,pV,by rw[List.take_zero];rw[show textOf (([]:List Ln.Elem).flatMap (Ln.elemRow d.S.glasses))=[]from rfl,List.append_nil];exact jo⟩ (λk σ U _ ⟨_,_,k6,_⟩=>ah.of (Sk _ k6).bu) ?_ ?_⟩
  ·rintro k y σ U hy ⟨v3,rfl,k6,iI⟩
   rw[List.getElem?_map]at hy
   obtain⟨a,ha,rfl⟩:=Option.map_eq_some_iff.mp hy
   have S6:=Sk _ k6
   obtain⟨DJ,Ez⟩:=S6.ins
   obtain⟨e,MO,hE⟩:=S6.elems.at' ha
   have ge:=hg.elems e (List.mem_of_getElem? MO)
   walk_at"l"
   refine aV iI.1 (Vx _) ?_
   walk_at"l"
   refine jC Ez T.bf ?_
   walk_at"l"
   have b6:=(LR.Sh.flat (f:=Ln.elemRow d.S.glasses) (n:=24) (d.S.elems.take k) λe ZZ=>LR.As hg.glasses (hg.elems e (List.mem_of_mem_take ZZ))).text
   have b7:=(LR.As hg.glasses ge).text
   have b8:(d.S.elems.take k).length≤16:=by rw[List.length_take];omega
   have Z0:(mO++textOf ((d.S.elems.take k).flatMap (Ln.elemRow d.S.glasses))).length+(textOf (Ln.elemRow d.S.glasses e)).length≤1000000:=by rw[List.length_append];omega
   refine⟨⟨⟨ff,fB,rl⟩,_,a,e,_,d.gl,d.gs,d.S.glasses⟩,rfl,iI,hE,ML,ge,hg.glasses,S6.ck,λz=>S6.ic (by rw[show d.gl=rl from z];exact List.mem_cons_self),S6.glasses,Z0,λH7 k7 yH=>⟨_,rfl,k6.trans k7,?_⟩⟩
   rw[List.take_add_one,MO,List.flatMap_append,LR.lp,←List.append_assoc]
   rw[show(some e).toList.flatMap (Ln.elemRow d.S.glasses)=Ln.elemRow d.S.glasses e by simp]
   exact yH
  ·rintro σ H6 ⟨v3,rfl,k6,iI⟩
   rw[List.length_map,S.elems.1,List.take_length,e5,←LR.lp]at iI
   walk_at"l"
   refine uJ iI.1 T.aS ?_
   refine h H6 rl (ZU _ k6) pW ?_
   have ep:Ln.print d.S=textOf (d.S.glasses.flatMap Ln.Glass.row++(Ln.w "start"++([((d.S.glasses[d.S.start]?).map λ(g:Ln.Glass)=>g.name).getD []]++Ln.w ";"))++d.S.elems.flatMap (Ln.elemRow d.S.glasses)):=by
    unfold Ln.print
    simp only[List.append_assoc]
   rw[ep]
   exact iI.2
end
end LN
namespace LN
open PySem PySem.Spec PyProof.Rows L2 LX
open Ln (Bytes)
def Tells(H:Hp)(Q:VK)(ans:List Int):Prop:=∀U p,au H U→H p=none→U p=some (.lst (ans.map V.int))→Q (.ref p) U
theorem Tells.lst{H U:Hp}{Q:VK}{ans:List Int}(h:Tells H Q ans)(s:au H U)(l:List V)(e:l=ans.map V.int):∀p,U p=none→Q (.ref p) (upd U p (.lst l)):=λp hp=>by
 subst e
 exact h _ p (s.trans (au.bc hp)) (s.free hp) aw
theorem MP(b:Bytes):bA b=(b.map λ(c:UInt8)=>((c.toNat:Nat):Int)).map V.int:=by
 unfold bA uK
 rw[List.map_map]
 rfl
def jN(qs:List Rat):List Int:=qs.flatMap λ(q:Rat)=>[q.num,(q.den:Int)]
def EO:Sp:=aU (λ(d:Addr×Bytes)=>[.ref d.1]) λd H Q _=>H d.1=some (.lst (bA d.2))∧d.2.length≤1000000∧Tells H Q (WrlnsbNeutral.told (.bytes d.2))
def MQ(K:PySem.W.Frag)(A:Ad):Sp:=aU (λ(d:SD)=>[.ref d.s]) λd H Q _=>ey K A H d∧Tells H Q (WrlnsbNeutral.told (Wrlnsb.tell d.S .count))
def ER(K:PySem.W.Frag)(A:Ad):Sp:=aU (λ(d:SD×Nat)=>[.ref d.1.s,.int d.2]) λd H Q _=>ey K A H d.1∧if d.2=0 then Q (.ref d.1.gl) H else if d.2=1 then Q (.ref d.1.tl) H else Q .aJ H
def MR(K:PySem.W.Frag)(A:Ad):Sp:=aU (λ(d:SD×Nat×Nat)=>[.ref d.1.s,.int d.2.1,.int d.2.2]) λd H Q _=>ey K A H d.1∧LR.Good d.1.S∧Tells H Q (WrlnsbNeutral.told (Wrlnsb.tell d.1.S (.name d.2.1 d.2.2)))
def MS(K:PySem.W.Frag)(A:Ad):Sp:=aU (λ(d:(SD×Nat)×Addr×Bytes)=>[.ref d.1.1.s,.int d.1.2,.ref d.2.1]) λd H Q _=>ey K A H d.1.1∧H d.2.1=some (.lst (bA d.2.2))∧Tells H Q (WrlnsbNeutral.told (Wrlnsb.tell d.1.1.S (.find d.1.2 d.2.2)))
structure FA where
 (a:Addr) (tup:Bool) (vs:List V) (qs:List Rat)
def yI(K:PySem.W.Frag):Sp:=aU (λ(d:FA)=>[.ref d.a]) λd H Q _=>(if d.tup=true then aY K H d.a d.vs else ah K H d.a d.vs)∧Each (bh K H) d.vs d.qs∧d.qs.length≤100∧Tells H Q (jN d.qs)
def MT(K:PySem.W.Frag)(A:Ad):Sp:=aU (λ(d:SD×Nat)=>[.ref d.1.s,.int d.2]) λd H Q _=>ey K A H d.1∧Tells H Q (WrlnsbNeutral.told (Wrlnsb.tell d.1.S (.look d.2)))
def MU(K:PySem.W.Frag)(A:Ad):Sp:=aU (λ(d:SD×Nat)=>[.ref d.1.s,.int d.2]) λd H Q _=>ey K A H d.1∧Tells H Q (WrlnsbNeutral.told (Wrlnsb.tell d.1.S (.index d.2)))
def MV(K:PySem.W.Frag)(A:Ad):Sp:=aU (λ(d:SD×Nat)=>[.ref d.1.s,.int d.2]) λd H Q _=>ey K A H d.1∧LR.Good d.1.S∧Tells H Q (WrlnsbNeutral.told (Wrlnsb.tell d.1.S (.thing d.2)))
theorem pX(qs:List Rat):(jN qs).length=2*qs.length:=by
 unfold jN
 induction qs with
 |nil=>rfl
 |cons q r ih=>rw[List.flatMap_cons,List.length_append,ih];show 2+2*r.length=2*(r.length+1);omega
theorem Z2{qs:List Rat}{q:Rat}{k:Nat}(h:qs[k]?=some q):jN (qs.take (k+1))=jN (qs.take k)++[q.num,(q.den:Int)]:=by
 unfold jN
 rw[List.take_add_one,h,List.flatMap_append]
 rfl
theorem sr(n:List Nat)(l:List Rat):WrlnsbNeutral.told (.fractions n l)=0::(n.map λ(k:Nat)=>(k:Int))++jN l:=rfl
theorem MW(S:Ln.System_)(sort:Nat)(nb:Bytes):Wrlnsb.tell S (.find sort nb)=(match Wrlnsb.names S sort with
  |none=>Wrlnsb.no (-1)
  |some l=>match l.idxOf? nb with
   |some i=>.numbers [(i:Int)]
   |none=>Wrlnsb.no (-4)):=rfl
theorem MX(S:Ln.System_)(sort n:Nat):Wrlnsb.tell S (.name sort n)=(match(Wrlnsb.names S sort).bind λ(l:List Bytes)=>l[n]? with
  |some b=>.bytes b
  |none=>Wrlnsb.no (-1)):=rfl
section
variable{P:Program}{w:World}{K:PySem.W.Frag}{mg:Str→Option Value}{base:Heap}{A:Ad}
theorem Z3(T:Txt K mg A)(D:aI K mg "bytes_told" B8 ["row"]):Callee P w K mg base ao 1 "bytes_told" ["row"] EO:=by
 refine D.ok UR (λ_=>rfl) λf ay Ar outer s H d Q E hr h=>?_
 obtain⟨a,b⟩:=d
 obtain⟨ha,hl,h⟩:=h
 dsimp only at*
 refine⟨_,(ai (aH (dY qx (bK (aa aM (aa (eB fK (by rfl) T.fO PySem.boot_len (aa (pv 0) ae)) ae))) (pv 0)))),?_⟩
 show eZ _ _ [some (.ref a)] H
 walk_at"l"
 refine⟨_,_,rfl,.inl (ah.of ha),?_⟩
 walk_at"l"
 refine⟨by show 2≤sizeLine;decide,λq hq=>?_⟩
 have s1:=au.bc (o:=.lst [.int 0,.int ((bA b).length:Nat)]) hq
 walk_at"l"
 refine rb aw (s1 _ _ ha) ?_ ?_
 ·rw[ig,show sizeLine=16777216 from sizeLine_eq]
  show 2+_≤_
  omega
 ·refine h.lst s1 _ ?_
  rw[ig,MP]
  rfl
theorem Z4(T:Txt K mg A)(D:aI K mg "count" B9 ["system"]):Callee P w K mg base ao 1 "count" ["system"] (MQ K A):=by
 refine D.ok US (λ_=>rfl) λf ay Ar outer s H d Q E hr h=>?_
 obtain⟨S,h⟩:=h
 obtain⟨dx,hi⟩:=S.ins
 refine⟨_,(ai (aH (bK (aa aM (aa (eB fK (by rfl) T.fO PySem.boot_len (aa (aB (pv 0) rfl) ae)) (aa (eB fK (by rfl) T.fO PySem.boot_len (aa (aB (pv 0) rfl) ae)) (aa (aB (pv 0) rfl) ae))))))),?_⟩
 show eZ _ _ [some (.ref d.s)] H
 walk_at"l"
 refine jC hi T.bf ?_
 walk_at"l"
 refine⟨_,_,rfl,.inl (ah.of S.ck),?_⟩
 walk_at"l"
 refine eW hi T.bf ?_
 walk_at"l"
 refine⟨_,_,rfl,.inl (ah.of S.bu),?_⟩
 walk_at"l"
 refine CJ hi T.bf ?_
 walk_at"l"
 refine⟨by show 4≤sizeLine;decide,h.lst (au.refl _) _ ?_⟩
 rw[List.length_map,List.length_map,S.glasses.1,S.elems.1]
 rfl
theorem Z5(T:Txt K mg A)(D:aI K mg "named_of_sort" B_ ["system","sort"]):Callee P w K mg base ao 1 "named_of_sort" ["system","sort"] (ER K A):=by
 refine D.ok UT (λ_=>rfl) λf ay Ar outer s H d Q E hr h=>?_
 obtain⟨d,n⟩:=d
 obtain⟨S,h⟩:=h
 dsimp only at*
 obtain⟨dx,hi⟩:=S.ins
 refine⟨_,(af (bb (aW bU (pv 1) (aF T.GLASSES) (aR _)) (ai (aH (aB (pv 0) rfl))) bo)
   (af (bb (aW bU (pv 1) (aF T.Wa) (aR _)) (ai (aH (aB (pv 0) rfl))) bo)
   (ai (aH lR)))),?_⟩
 show ba _ _ _ [some (.ref d.s),some (.int n)] H
 walk_at"l"
 by_cases h0:n=0
 ·rw[if_pos h0]at h
  rw[if_pos (decide_eq_true (by omega))]
  walk_at"l"
  exact jC hi T.bf h
 rw[if_neg h0]at h
 rw[if_neg (λz=>h0 (by have:=of_decide_eq_true z;omega))]
 walk_at"l"
 by_cases h1:n=1
 ·rw[if_pos h1]at h
  rw[if_pos (decide_eq_true (by omega))]
  walk_at"l"
  exact eW hi T.bf h
 rw[if_neg h1]at h
 rw[if_neg (λz=>h1 (by have:=of_decide_eq_true z;omega))]
 walk_at"l"
 exact h
theorem Z6(T:Txt K mg A)(D:aI K mg "name_told" Ca ["system","sort","number"])(su:Callee P w K mg base ao 1 "named_of_sort" ["system","sort"] (ER K A))(sv:Callee P w K mg base ao 1 "bytes_told" ["row"] EO):
  Callee P w K mg base ao 2 "name_told" ["system","sort","number"] (MR K A):=by
 refine D.ok J_ (λ_=>rfl) λf ay Ar outer s H d Q E hr h=>?_
 obtain⟨d,sort,n⟩:=d
 obtain⟨S,hg,h⟩:=h
 dsimp only at*
 rw[MX]at h
 unfold Wrlnsb.names at h
 refine⟨_,(af (a9 (i:=3) J_.nd rfl (Or.inl rfl) (aT su (hr.mono (by decide)) aD (aa (pv 0) (aa (pv 1) ae))))
   (af (bb (PW.pt (kW (aW vZ (pv 3) lR (aR _)) (mU (aW jY (pv 2) (eB fK (by rfl) T.fO PySem.boot_len (aa (pv 3) ae)) (aR _))))) (ai (aH (bK (aa (aF T.ly) ae)))) bo)
   (ai (aH (aT sv (hr.mono (by decide)) aD (aa (aB (a_ cf (pv 3) (pv 2) (λ_ _=>rfl)) rfl) ae)))))),?_⟩
 show ba _ _ _ [some (.ref d.s),some (.int sort),some (.int n),none] H
 walk_at"l"
 refine⟨(d,sort),rfl,S,?_⟩
 dsimp only
 by_cases h0:sort=0
 ·rw[if_pos h0]at h⊢
  walk_at"l"
  refine⟨rfl,?_⟩
  walk_at"l"
  rw[if_neg (by simp)]
  walk_at"l"
  refine⟨_,_,rfl,.inl (ah.of S.ck),?_⟩
  walk_at"l"
  by_cases hn:d.S.glasses.length≤n
  ·rw[if_pos (decide_eq_true (by rw[List.length_map,S.glasses.1];omega))]
   walk_at"l"
   refine⟨by show 1≤sizeLine;decide,Tells.lst (ans:=[-1]) ?_ (au.refl _) _ rfl⟩
   have e:((some (d.S.glasses.map λg=>g.name)).bind λl=>l[n]?)=none:=by
    show(d.S.glasses.map λg=>g.name)[n]?=none
    rw[List.getElem?_map,List.getElem?_eq_none hn];rfl
   rw[e]at h
   exact h
  ·rw[if_neg (λz=>hn (by have:=of_decide_eq_true z;rw[List.length_map,S.glasses.1]at this;omega))]
   obtain⟨g,lL⟩:∃g,d.S.glasses[n]?=some g:=⟨_,List.getElem?_eq_getElem (by omega)⟩
   obtain⟨a,ha,hG⟩:=S.glasses.at lL
   obtain⟨ik,nm,il,i0,i1,i2,q0,q1,q2,iH,bZ,_⟩:=hG
   have e:((some (d.S.glasses.map λg=>g.name)).bind λl=>l[n]?)=some g.name:=by
    show(d.S.glasses.map λg=>g.name)[n]?=_
    rw[List.getElem?_map,lL];rfl
   rw[e]at h
   have nl:=(hg.glasses g (List.mem_of_getElem? lL)).name.1
   walk_at"l"
   refine b9 (ah.of S.ck) (v:=.ref a) (hZ (by rw[List.getElem?_map,ha];rfl)) ?_
   refine xK iH T.eE ?_
   walk_at"l"
   exact⟨(nm,g.name),rfl,bZ,Nat.le_trans nl (by decide),h⟩
 rw[if_neg h0]at h⊢
 by_cases h1:sort=1
 ·rw[if_pos h1]at h⊢
  walk_at"l"
  refine⟨rfl,?_⟩
  walk_at"l"
  rw[if_neg (by simp)]
  walk_at"l"
  refine⟨_,_,rfl,.inl (ah.of S.bu),?_⟩
  walk_at"l"
  by_cases hn:d.S.elems.length≤n
  ·rw[if_pos (decide_eq_true (by rw[List.length_map,S.elems.1];omega))]
   walk_at"l"
   refine⟨by show 1≤sizeLine;decide,Tells.lst (ans:=[-1]) ?_ (au.refl _) _ rfl⟩
   have e:((some (d.S.elems.map λg=>g.name)).bind λl=>l[n]?)=none:=by
    show(d.S.elems.map λg=>g.name)[n]?=none
    rw[List.getElem?_map,List.getElem?_eq_none hn];rfl
   rw[e]at h
   exact h
  ·rw[if_neg (λz=>hn (by have:=of_decide_eq_true z;rw[List.length_map,S.elems.1]at this;omega))]
   obtain⟨g,lL⟩:∃g,d.S.elems[n]?=some g:=⟨_,List.getElem?_eq_getElem (by omega)⟩
   obtain⟨a,ha,hG⟩:=S.elems.at lL
   obtain⟨ik,nm,gp,cv,cn,rc,iH,bZ,_⟩:=hG
   have e:((some (d.S.elems.map λg=>g.name)).bind λl=>l[n]?)=some g.name:=by
    show(d.S.elems.map λg=>g.name)[n]?=_
    rw[List.getElem?_map,lL];rfl
   rw[e]at h
   have nl:=(hg.elems g (List.mem_of_getElem? lL)).name.1
   walk_at"l"
   refine b9 (ah.of S.bu) (v:=.ref a) (hZ (by rw[List.getElem?_map,ha];rfl)) ?_
   refine Kc iH T.aQ ?_
   walk_at"l"
   exact⟨(nm,g.name),rfl,bZ,Nat.le_trans nl (by decide),h⟩
 rw[if_neg h1]at h⊢
 walk_at"l"
 refine⟨rfl,?_⟩
 walk_at"l"
 rw[if_pos (by simp)]
 rw[if_pos rfl]
 walk_at"l"
 exact⟨by show 1≤sizeLine;decide,Tells.lst (ans:=[-1]) h (au.refl _) _ rfl⟩
theorem Z7(T:Txt K mg A)(D:aI K mg "find" Cb ["system","sort","name"])(su:Callee P w K mg base ao 1 "named_of_sort" ["system","sort"] (ER K A))(mB:Callee P w K mg base ao 1 "place_of_name" ["named","name"] (xX K)):
  Callee P w K mg base ao 2 "find" ["system","sort","name"] (MS K A):=by
 refine D.ok CC (λ_=>rfl) λf ay Ar outer s H d Q E hr h=>?_
 obtain⟨⟨d,sort⟩,nm,nb⟩:=d
 obtain⟨S,hn,h⟩:=h
 dsimp only at*
 rw[MW]at h
 unfold Wrlnsb.names at h
 refine⟨_,(af (a9 (i:=3) CC.nd rfl (Or.inl rfl) (aT su (hr.mono (by decide)) aD (aa (pv 0) (aa (pv 1) ae))))
   (af (bb (aW vZ (pv 3) lR (aR _)) (ai (aH (bK (aa (aF T.ly) ae)))) bo)
   (af (a9 (i:=4) CC.nd rfl (Or.inl rfl) (aT mB (hr.mono (by decide)) aD (aa (pv 3) (aa (pv 2) ae))))
   (ai (aH (ql (aW oR (pv 4) aM (aR _)) (bK (aa (aF T.VV) ae)) (bK (aa aM (aa (pv 4) ae))))))))),?_⟩
 show ba _ _ _ [some (.ref d.s),some (.int sort),some (.ref nm),none,none] H
 have fin:∀(names:List Bytes) (H1:Hp),au H H1→Tells H Q (WrlnsbNeutral.told (match names.idxOf? nb with
   |some i=>.numbers [(i:Int)]
   |none=>Wrlnsb.no (-4)))→(if decide (kH names nb<0)=true then∀(l:List V),l=[V.int (-4)]→∀p,H1 p=none→Q (.ref p) (upd H1 p (.lst l))else∀(l:List V),l=[V.int 0,V.int (kH names nb)]→∀p,H1 p=none→Q (.ref p) (upd H1 p (.lst l))):=by
  intro names H1 s1 h
  unfold kH
  cases hi:names.idxOf? nb with
  |none=>
   rw[hi]at h
   rw[if_pos (by decide)]
   exactλl e=>h.lst s1 l e
  |some i=>
   rw[hi]at h
   dsimp only
   rw[if_neg (by rw[decide_eq_true_eq];omega)]
   exactλl e=>h.lst s1 l e
 walk_at"l"
 refine⟨(d,sort),rfl,S,?_⟩
 dsimp only
 by_cases h0:sort=0
 ·rw[if_pos h0]at h⊢
  walk_at"l"
  refine⟨rfl,?_⟩
  walk_at"l"
  rw[if_neg (by simp)]
  walk_at"l"
  refine⟨((d.gl,nm),d.gs,d.S.glasses.map λg=>g.name,nb),rfl,ah.of S.ck,ah.of hn,S.glasses.mapR λa b z=>z.named T,λH1 s1=>?_⟩
  dsimp only
  have q:=fin _ H1 s1 h
  walk_at"l"
  split
  ·rename_i c
   rw[if_pos c]at q
   walk_at"l"
   exact⟨by show 1≤sizeLine;decide,q _ rfl⟩
  ·rename_i c
   rw[if_neg c]at q
   walk_at"l"
   exact⟨by show 2≤sizeLine;decide,q _ rfl⟩
 rw[if_neg h0]at h⊢
 by_cases h1:sort=1
 ·rw[if_pos h1]at h⊢
  walk_at"l"
  refine⟨rfl,?_⟩
  walk_at"l"
  rw[if_neg (by simp)]
  walk_at"l"
  refine⟨((d.tl,nm),d.es,d.S.elems.map λg=>g.name,nb),rfl,ah.of S.bu,ah.of hn,S.elems.mapR λa b z=>z.named T,λH1 s1=>?_⟩
  dsimp only
  have q:=fin _ H1 s1 h
  walk_at"l"
  split
  ·rename_i c
   rw[if_pos c]at q
   walk_at"l"
   exact⟨by show 1≤sizeLine;decide,q _ rfl⟩
  ·rename_i c
   rw[if_neg c]at q
   walk_at"l"
   exact⟨by show 2≤sizeLine;decide,q _ rfl⟩
 rw[if_neg h1]at h⊢
 walk_at"l"
 refine⟨rfl,?_⟩
 walk_at"l"
 rw[if_pos (by simp)]
 walk_at"l"
 exact⟨by show 1≤sizeLine;decide,Tells.lst (ans:=[-1]) h (au.refl _) _ rfl⟩
end
end LN
namespace LN
open PySem PySem.Spec PyProof.Rows L2 LX
open Ln (Bytes)
theorem MY(S:Ln.System_)(n:Nat):Wrlnsb.tell S (.look n)=(match S.elems[n]? with
  |some e=>.fractions (Wrlnsb.kindOf e.kind) [e.gap,e.curve,e.conic,e.clear.getD 0]
  |none=>Wrlnsb.no (-1)):=rfl
theorem MZ(S:Ln.System_)(n:Nat):Wrlnsb.tell S (.index n)=(match S.glasses[n]? with
  |some x=>.fractions [] x.index
  |none=>Wrlnsb.no (-1)):=rfl
theorem M0(S:Ln.System_)(n:Nat):Wrlnsb.tell S (.thing n)=if S.count≤n then Wrlnsb.no (-1)else .fractions [(Ln.thing S n).does] ((Ln.thing S n).z::((Ln.thing S n).before++(Ln.thing S n).behind)):=rfl
theorem M1(k:Ln.Kind):(Wrlnsb.kindOf k).map (λ(k:Nat)=>(k:Int))=[(kN k:Int),(gN k:Int)]:=by cases k<;>rfl
theorem Z8(k:Ln.Kind):k.number=kN k:=by cases k<;>rfl
section
variable{P:Program}{w:World}{K:PySem.W.Frag}{mg:Str→Option Value}{base:Heap}{A:Ad}
theorem Z9(T:Txt K mg A)(D:aI K mg "fractions_told" Cc ["values"]):Callee P w K mg base ao 1 "fractions_told" ["values"] (yI K):=by
 refine D.ok uD (λ_=>rfl) λf ay Ar outer s H d Q E hr h=>?_
 obtain⟨a,tup,vs,qs⟩:=d
 obtain⟨ha,hV,hl,h⟩:=h
 dsimp only at*
 have step:∀(p k:Nat) (y:V) (U:Hp),vs[k]?=some y→au H U→H p=none→U p=some (.lst ((jN (qs.take k)).map V.int))→AL K (.ref p) [y] U λ_ H1=>au H H1∧H1 p=some (.lst ((jN (qs.take (k+1))).map V.int)):=by
  intro p k y U hy s1 hp gx
  obtain⟨q,hq,t,rfl,ht⟩:=hV.at' hy
  have kl:=(List.getElem?_eq_some_iff.mp hq).1
  refine Sg gx (ht.same s1) ?_ ⟨mD s1 gx hp,?_⟩
  ·rw[List.length_map,pX,List.length_take,show sizeLine=16777216 from sizeLine_eq]
   show _+2≤_
   omega
  ·rw[aw,Z2 hq,List.map_append]
   rfl
 cases tup with
 |true=>
  have ha:aY K H a vs:=ha
  refine⟨_,(af (a9 (i:=1) uD.nd rfl (Or.inl rfl) (bK ae))
   (af (hX PassesOwn.never rfl (qo (pv 0)) (eA (i:=2) uD.nd rfl (Or.inl rfl)) (ai (bq (gT PySem.F.plainAttrs_list PySem.F.slot_list_extend PySem.F.type_list_extend Jy (pv 1) (aa (pv 2) ae)))))
   (ai (aH (pv 1))))),?_⟩
  show ba _ _ _ [some (.ref a),none,none] H
  walk_at"l"
  refine⟨Nat.zero_le _,λp hp=>?_⟩
  walk_at"l"
  with_reducible refine iD (uA ?_)
  walk_at"l"
  have s0:=au.bc (o:=.lst []) hp
  refine⟨⟨_,ha.same s0⟩,sO (K:=K) (a:=a) (xs:=vs) (λk σ U=>∃v2:Option V,σ=[some (.ref a),some (.ref p),v2]∧au H U∧U p=some (.lst ((jN (qs.take k)).map V.int)))
   ⟨none,rfl,s0,aw⟩ (λk σ U _ ⟨_,_,s1,_⟩=>ha.same s1) ?_ ?_⟩
  ·rintro k y σ U hy ⟨v2,rfl,s1,gx⟩
   walk_at"l"
   refine⟨.inl ⟨rfl,_,ah.of gx⟩,?_⟩
   walk_at"l"
   obtain⟨l,b,xs,zs,e1,e2,e3,e4,e5,e6,e7⟩:=step p k y U hy s1 hp gx
   exact⟨l,b,xs,zs,e1,e2,e3,e4,e5,_,rfl,e6,e7⟩
  ·rintro σ U ⟨v2,rfl,s1,gx⟩
   rw[hV.1,List.take_length]at gx
   walk_at"l"
   exact h U p s1 hp gx
 |false=>
  have ha:ah K H a vs:=ha
  refine⟨_,(af (a9 (i:=1) uD.nd rfl (Or.inl rfl) (bK ae))
   (af (hX PassesOwn.never rfl (kX (pv 0)) (eA (i:=2) uD.nd rfl (Or.inl rfl)) (ai (bq (gT PySem.F.plainAttrs_list PySem.F.slot_list_extend PySem.F.type_list_extend Jy (pv 1) (aa (pv 2) ae)))))
   (ai (aH (pv 1))))),?_⟩
  show ba _ _ _ [some (.ref a),none,none] H
  walk_at"l"
  refine⟨Nat.zero_le _,λp hp=>?_⟩
  walk_at"l"
  with_reducible refine iD (lx ?_)
  walk_at"l"
  have s0:=au.bc (o:=.lst []) hp
  refine⟨⟨_,ha.same s0⟩,qp (K:=K) (a:=a) (xs:=vs) (λk σ U=>∃v2:Option V,σ=[some (.ref a),some (.ref p),v2]∧au H U∧U p=some (.lst ((jN (qs.take k)).map V.int)))
   ⟨none,rfl,s0,aw⟩ (λk σ U _ ⟨_,_,s1,_⟩=>ha.same s1) ?_ ?_⟩
  ·rintro k y σ U hy ⟨v2,rfl,s1,gx⟩
   walk_at"l"
   refine⟨.inl ⟨rfl,_,ah.of gx⟩,?_⟩
   walk_at"l"
   obtain⟨l,b,xs,zs,e1,e2,e3,e4,e5,e6,e7⟩:=step p k y U hy s1 hp gx
   exact⟨l,b,xs,zs,e1,e2,e3,e4,e5,_,rfl,e6,e7⟩
  ·rintro σ U ⟨v2,rfl,s1,gx⟩
   rw[hV.1,List.take_length]at gx
   walk_at"l"
   exact h U p s1 hp gx
theorem Z_(T:Txt K mg A)(D:aI K mg "look" Cd ["system","number"])(mP:Callee P w K mg base ao 1 "fractions_told" ["values"] (yI K)):Callee P w K mg base ao 2 "look" ["system","number"] (MT K A):=by
 refine D.ok Ka (λ_=>rfl) λf ay Ar outer s H d Q E hr h=>?_
 obtain⟨d,n⟩:=d
 obtain⟨S,h⟩:=h
 dsimp only at*
 rw[MY]at h
 obtain⟨dx,hi⟩:=S.ins
 refine⟨_,(af (bb (aW jY (pv 1) (eB fK (by rfl) T.fO PySem.boot_len (aa (aB (pv 0) rfl) ae)) (aR _)) (ai (aH (bK (aa (aF T.ly) ae)))) bo)
   (af (a9 (i:=2) Ka.nd rfl (Or.inl rfl) (a_ cf (aB (pv 0) rfl) (pv 1) (λ_ _=>rfl)))
   (ai (aH (dY qx (bK (aa aM (aa (aB (pv 2) rfl) (aa (aB (pv 2) rfl) ae)))) (aT mP (hr.mono (by decide)) aD (aa (gR (aa (aB (pv 2) rfl) (aa (aB (pv 2) rfl) (aa (aB (pv 2) rfl) (aa (aB (pv 2) rfl) ae))))) ae))))))),?_⟩
 show ba _ _ _ [some (.ref d.s),some (.int n),none] H
 walk_at"l"
 refine eW hi T.bf ?_
 walk_at"l"
 refine⟨_,_,rfl,.inl (ah.of S.bu),?_⟩
 walk_at"l"
 by_cases hn:d.S.elems.length≤n
 ·rw[List.getElem?_eq_none hn]at h
  rw[if_pos (decide_eq_true (by rw[List.length_map,S.elems.1];omega))]
  walk_at"l"
  exact⟨by show 1≤sizeLine;decide,Tells.lst (ans:=[-1]) h (au.refl _) _ rfl⟩
 rw[if_neg (λz=>hn (by have:=of_decide_eq_true z;rw[List.length_map,S.elems.1]at this;omega))]
 obtain⟨e,he⟩:∃e,d.S.elems[n]?=some e:=⟨_,List.getElem?_eq_getElem (by omega)⟩
 rw[he]at h
 dsimp only at h
 rw[sr,M1]at h
 obtain⟨a,ha,hE⟩:=S.elems.at he
 obtain⟨b_,nm,gp,cv,cn,rc,bP,bZ,aZ,ip,gr,jH,jI⟩:=hE
 walk_at"l"
 refine eW hi T.bf ?_
 walk_at"l"
 refine b9 (ah.of S.bu) (v:=.ref a) (hZ (by rw[List.getElem?_map,ha];rfl)) ?_
 walk_at"l"
 refine ko bP T.aQ ?_
 walk_at"l"
 refine CG bP T.aQ ?_
 walk_at"l"
 refine⟨by show 3≤sizeLine;decide,λq hq=>?_⟩
 have s1:=au.bc (o:=.lst [.int 0,.int (kN e.kind:Nat),.int (gN e.kind:Nat)]) hq
 have mJ:=s1 _ _ bP
 walk_at"l"
 refine pj mJ T.aQ ?_
 walk_at"l"
 refine uG mJ T.aQ ?_
 walk_at"l"
 refine Ke mJ T.aQ ?_
 walk_at"l"
 refine CH mJ T.aQ ?_
 walk_at"l"
 refine⟨by show 4≤sizeLine;decide,λt ht=>?_⟩
 have s2:=au.bc (o:=.tup [gp,cv,cn,rc]) ht
 have vx:=s1.trans s2
 walk_at"l"
 refine⟨⟨t,true,[gp,cv,cn,rc],[e.gap,e.curve,e.conic,e.clear.getD 0]⟩,rfl,aY.of aw,(Each.one (ip.same vx)).append ((Each.one (gr.same vx)).append ((Each.one (jH.same vx)).append (Each.one (jI.same vx)))),by show 4≤100;decide,λH3 p s3 hp ES=>?_⟩
 refine rb (s3 _ _ (s2 _ _ aw)) ES ?_ (h.lst (vx.trans s3) _ ?_)
 ·rw[List.length_map,pX,show sizeLine=16777216 from sizeLine_eq]
  show 3+2*4≤_
  omega
 ·rw[List.map_append]
  rfl
theorem aaa(T:Txt K mg A)(D:aI K mg "index_told" Ce ["system","number"])(mP:Callee P w K mg base ao 1 "fractions_told" ["values"] (yI K)):Callee P w K mg base ao 2 "index_told" ["system","number"] (MU K A):=by
 refine D.ok UU (λ_=>rfl) λf ay Ar outer s H d Q E hr h=>?_
 obtain⟨d,n⟩:=d
 obtain⟨S,h⟩:=h
 dsimp only at*
 rw[MZ]at h
 obtain⟨dx,hi⟩:=S.ins
 refine⟨_,(af (bb (aW jY (pv 1) (eB fK (by rfl) T.fO PySem.boot_len (aa (aB (pv 0) rfl) ae)) (aR _)) (ai (aH (bK (aa (aF T.ly) ae)))) bo)
   (ai (aH (dY qx (bK (aa aM ae)) (aT mP (hr.mono (by decide)) aD (aa (aB (a_ cf (aB (pv 0) rfl) (pv 1) (λ_ _=>rfl)) rfl) ae)))))),?_⟩
 show ba _ _ _ [some (.ref d.s),some (.int n)] H
 walk_at"l"
 refine jC hi T.bf ?_
 walk_at"l"
 refine⟨_,_,rfl,.inl (ah.of S.ck),?_⟩
 walk_at"l"
 by_cases hn:d.S.glasses.length≤n
 ·rw[List.getElem?_eq_none hn]at h
  rw[if_pos (decide_eq_true (by rw[List.length_map,S.glasses.1];omega))]
  walk_at"l"
  exact⟨by show 1≤sizeLine;decide,Tells.lst (ans:=[-1]) h (au.refl _) _ rfl⟩
 rw[if_neg (λz=>hn (by have:=of_decide_eq_true z;rw[List.length_map,S.glasses.1]at this;omega))]
 obtain⟨g,lL⟩:∃e,d.S.glasses[n]?=some e:=⟨_,List.getElem?_eq_getElem (by omega)⟩
 rw[lL]at h
 dsimp only at h
 rw[sr]at h
 obtain⟨a,ha,hG⟩:=S.glasses.at lL
 obtain⟨ik,nm,il,i0,i1,i2,q0,q1,q2,iH,bZ,gF,n1,n2,ei,r0,r1,r2⟩:=hG
 rw[ei]at h
 walk_at"l"
 refine⟨by show 1≤sizeLine;decide,λq hq=>?_⟩
 have s1:=au.bc (o:=.lst [.int 0]) hq
 walk_at"l"
 refine jC (s1 _ _ hi) T.bf ?_
 walk_at"l"
 refine b9 (ah.of (s1 _ _ S.ck)) (v:=.ref a) (hZ (by rw[List.getElem?_map,ha];rfl)) ?_
 refine CF (s1 _ _ iH) T.eE ?_
 walk_at"l"
 refine⟨⟨il,false,[i0,i1,i2],[q0,q1,q2]⟩,rfl,ah.of (s1 _ _ gF),(Each.one (r0.same s1)).append ((Each.one (r1.same s1)).append (Each.one (r2.same s1))),by show 3≤100;decide,λH3 p s3 hp ES=>?_⟩
 refine rb (s3 _ _ aw) ES ?_ (h.lst (s1.trans s3) _ ?_)
 ·rw[List.length_map,pX,show sizeLine=16777216 from sizeLine_eq]
  show 1+2*3≤_
  omega
 ·rw[List.map_append]
  rfl
theorem aab(T:Txt K mg A)(D:aI K mg "thing_told" Cf ["system","number"])(ET:Callee P w K mg base ao 4 "place_of" ["things","number"] (L9 K A))(mP:Callee P w K mg base ao 1 "fractions_told" ["values"] (yI K))(EU:Callee P w K mg base ao 2 "indices_beside" ["system","number"] (Mb K A)):
  Callee P w K mg base ao 5 "thing_told" ["system","number"] (MV K A):=by
 refine D.ok Kb (λ_=>rfl) λf ay Ar outer s H d Q E hr h=>?_
 obtain⟨d,n⟩:=d
 obtain⟨S,hg,h⟩:=h
 dsimp only at*
 rw[M0]at h
 obtain⟨dx,hi⟩:=S.ins
 refine⟨_,(af (bb (aW jY (pv 1) (eB fK (by rfl) T.fO PySem.boot_len (aa (aB (pv 0) rfl) ae)) (aR _)) (ai (aH (bK (aa (aF T.ly) ae)))) bo)
   (af (a9 (i:=2) Kb.nd rfl (Or.inl rfl) (aT ET (hr.mono (by decide)) aD (aa (aB (pv 0) rfl) (aa (pv 1) ae))))
   (ai (aH (dY qx (bK (aa aM (aa (aB (a_ cf (aB (pv 0) rfl) (pv 1) (λ_ _=>rfl)) rfl) ae))) (aT mP (hr.mono (by decide)) aD (aa (dY qx (bK (aa (pv 2) ae)) (aT EU (hr.mono (by decide)) aD (aa (pv 0) (aa (pv 1) ae)))) ae))))))),?_⟩
 show ba _ _ _ [some (.ref d.s),some (.int n),none] H
 walk_at"l"
 refine eW hi T.bf ?_
 walk_at"l"
 refine⟨_,_,rfl,.inl (ah.of S.bu),?_⟩
 walk_at"l"
 by_cases hn:d.S.elems.length≤n
 ·rw[if_pos (show d.S.count≤n from hn)]at h
  rw[if_pos (decide_eq_true (by rw[List.length_map,S.elems.1];omega))]
  walk_at"l"
  exact⟨by show 1≤sizeLine;decide,Tells.lst (ans:=[-1]) h (au.refl _) _ rfl⟩
 rw[if_neg (λz=>hn (by have:=of_decide_eq_true z;rw[List.length_map,S.elems.1]at this;omega))]
 rw[if_neg (show¬d.S.count≤n from hn),sr]at h
 obtain⟨e,he⟩:∃e,d.S.elems[n]?=some e:=⟨_,List.getElem?_eq_getElem (by omega)⟩
 have hd:([(Ln.thing d.S n).does].map λ(k:Nat)=>(k:Int))=[(kN e.kind:Int)]:=by
  show[(((d.S.elem n).kind.number:Nat):Int)]=_
  rw[LR.l7 he,Z8]
 rw[hd]at h
 have h:Tells H Q (0::[(kN e.kind:Int)]++jN (Ln.place d.S n::(Ln.indices d.S n++Ln.indices d.S (n+1)))):=h
 walk_at"l"
 refine eW hi T.bf ?_
 walk_at"l"
 refine⟨(d,n),rfl,S,hg,by show n<d.S.elems.length;omega,λH1 v s1 hv=>?_⟩
 have S1:=g7 S s1
 have vp:=s1 _ _ hi
 obtain⟨a,ha,hE⟩:=S1.elems.at he
 obtain⟨b_,nm,gp,cv,cn,rc,bP,_⟩:=hE
 walk_at"l"
 refine eW vp T.bf ?_
 walk_at"l"
 refine b9 (ah.of S1.bu) (v:=.ref a) (hZ (by rw[List.getElem?_map,ha];rfl)) ?_
 refine ko bP T.aQ ?_
 walk_at"l"
 refine⟨by show 2≤sizeLine;decide,λq hq=>?_⟩
 have s2:=au.bc (o:=.lst [.int 0,.int (kN e.kind:Nat)]) hq
 walk_at"l"
 refine⟨by show 1≤sizeLine;decide,λr kE=>?_⟩
 have s3:=au.bc (o:=.lst [v]) kE
 have M3:=(s1.trans s2).trans s3
 walk_at"l"
 refine⟨(d,n),rfl,g7 S M3,hg,by show n<d.S.elems.length;omega,λH4 p vs s4 hp gw yJ=>?_⟩
 walk_at"l"
 have l6:vs.length=6:=by
  rw[yJ.1,List.length_append]
  show(Ln.indices d.S n).length+(Ln.indices d.S (n+1)).length=6
  unfold Ln.indices Ln.LINES
  simp
 refine rb (s4 _ _ aw) gw (by rw[l6,show sizeLine=16777216 from sizeLine_eq];show 1+6≤_;omega) λc hc=>?_
 have s5:=au.bc (o:=.lst ([v]++vs)) hc
 have EV:=s4.trans s5
 walk_at"l"
 refine⟨⟨c,false,[v]++vs,Ln.place d.S n::(Ln.indices d.S n++Ln.indices d.S (n+1))⟩,rfl,ah.of aw,(Each.one (((hv.same s2).same s3).same EV)).append (yJ.same s5),?_,λH6 p6 s6 hp6 aac=>?_⟩
 ·show(Ln.indices d.S n++Ln.indices d.S (n+1)).length+1≤100
  rw[←yJ.1,l6];decide
 refine rb (s6 _ _ (EV _ _ (s3 _ _ aw))) aac ?_ (h.lst ((M3.trans EV).trans s6) _ ?_)
 ·have l6':(Ln.indices d.S n++Ln.indices d.S (n+1)).length=6:=yJ.1.symm.trans l6
  rw[List.length_map,pX,show sizeLine=16777216 from sizeLine_eq]
  show 2+2*((Ln.indices d.S n++Ln.indices d.S (n+1)).length+1)≤_
  omega
 ·rw[List.map_append]
  rfl
end
end LN
namespace LN
open PySem PySem.Spec PyProof.Rows L2 LX
open Ln (Bytes)
structure CD where
 (c dx nl:Addr) (xs:List Int)
theorem kP.EW{K:PySem.W.Frag}{H:Hp}{a:Addr}{xs:List V}(h:kP K H a xs):ah K H a xs:=h.imp (λq=>.inr q) id
theorem kP.keep{K:PySem.W.Frag}{H U:Hp}{a:Addr}{xs:List V}{S:List Addr}(h:kP K H a xs)(k:ax S H U):kP K U a xs:=h.imp (λ⟨o,e⟩=>⟨o,k.eq _ _ e λz=>by
 obtain⟨u,e2,m⟩:=k.mu a z
 rw[e]at e2
 cases e2
 cases m⟩) id
theorem kP.same{K:PySem.W.Frag}{H U:Hp}{a:Addr}{xs:List V}(h:kP K H a xs)(s:au H U):kP K U a xs:=h.keep s.eV
def f7(K:PySem.W.Frag)(A:Ad)(H:Hp)(d:CD)(i:Nat):Prop:=H d.c=some (.ins A.bE d.dx (gY (.ref d.nl) (.int i)))∧kP K H d.nl (d.xs.map V.int)∧i≤d.xs.length
theorem f7.up{K:PySem.W.Frag}{A:Ad}{H:Hp}{d:CD}{i:Nat}(h:f7 K A H d i){j:Nat}(hj:j≤d.xs.length):f7 K A (upd H d.c (.ins A.bE d.dx (gY (.ref d.nl) (.int j)))) d j:=⟨aw,h.2.1.keep (fc h.1),hj⟩
theorem f7.same{K:PySem.W.Frag}{A:Ad}{H U:Hp}{d:CD}{i:Nat}(h:f7 K A H d i)(s:au H U):f7 K A U d i:=⟨s _ _ h.1,h.2.1.same s,h.2.2⟩
def M4(A:Ad):Sp:=aU (λ(d:Addr×Addr)=>[.ref d.1]) λd H Q _=>H d.1=some (.ins A.cj d.2 [])∧Q .aJ (upd H d.1 (.ins A.cj d.2 (fw .aJ)))
def M5(A:Ad):Sp:=aU (λ(d:(Addr×Addr)×V)=>[.ref d.1.1,d.2]) λd H Q _=>H d.1.1=some (.ins A.bE d.1.2 [])∧Q .aJ (upd H d.1.1 (.ins A.bE d.1.2 (gY d.2 (.int 0))))
def M6(K:PySem.W.Frag)(A:Ad):Sp:=aU (λ(d:CD×Nat)=>[.ref d.1.c]) λd H Q _=>f7 K A H d.1 d.2∧Q (.bl (decide (d.2=d.1.xs.length))) H
def EX(K:PySem.W.Frag)(A:Ad):Sp:=aU (λ(d:CD×Nat)=>[.ref d.1.c]) λd H Q _=>f7 K A H d.1 d.2∧∃z,d.1.xs[d.2]?=some z∧∀U,ax [d.1.c] H U→f7 K A U d.1 (d.2+1)→Q (.int z) U
def EY(K:PySem.W.Frag)(A:Ad):Sp:=aU (λ(d:CD×Nat×Nat)=>[.ref d.1.c,.int d.2.2]) λd H Q _=>f7 K A H d.1 d.2.1∧d.2.1+d.2.2≤d.1.xs.length∧∀U p,ax [d.1.c] H U→f7 K A U d.1 (d.2.1+d.2.2)→H p=none→U p=some (.lst (((d.1.xs.drop d.2.1).take d.2.2).map V.int))→Q (.ref p) U
def M7(K:PySem.W.Frag)(A:Ad):Sp:=aU (λ(d:CD×Nat×Nat)=>[.ref d.1.c]) λd H Q _=>f7 K A H d.1 d.2.1∧d.1.xs[d.2.1]?=some (d.2.2:Int)∧d.2.1+1+d.2.2≤d.1.xs.length∧∀U p,ax [d.1.c] H U→f7 K A U d.1 (d.2.1+1+d.2.2)→H p=none→U p=some (.lst (((d.1.xs.drop (d.2.1+1)).take d.2.2).map V.int))→Q (.ref p) U
theorem M8{K:PySem.W.Frag}{ta tv:TE}{rd:V→V→Hp→VK→Prop}{f:Str}{D:Ends}{σ:L2.St}{H:Hp}(k:ta σ H λx H1=>∃a C dx fs v,x=.ref a∧H1 a=some (.ins C dx fs)∧gc K C∧iv K C f∧fs.lookup f=some v∧tv σ H1 λy H2=>rd v y H2 λz H3=>∃bQ kT,H3 a=some (.ins C bQ kT)∧kT.length<1000∧D.nx σ (upd H3 a (.ins C bQ (d5 f z kT)))):GD K ta tv rd f D σ H:=k
theorem M9(nl v z:V):d5 "place" z (gY nl v)=gY nl z:=(jB (ks:=["numbers","place"]) z 1 rfl rfl (by decide +kernel)).trans rfl
section
variable{P:Program}{w:World}{K:PySem.W.Frag}{mg:Str→Option Value}{base:Heap}{A:Ad}
theorem aad(T:Txt K mg A)(D:gn K mg A.cj "Kept" "Kept.__init__" B0 ["self"]):Maker P w K mg base ao 1 A.cj "Kept" ["self"] (M4 A):=by
 refine D.ok UK (λ_=>rfl) λf ay Ar outer s H d Q E hr h=>?_
 obtain⟨x,dx⟩:=d
 obtain⟨hx,h⟩:=h
 dsimp only at*
 refine⟨_,(ai (bI (pv 0) lR rfl)),?_⟩
 show v8 _ _ _ _ _ [some (.ref x)] H
 walk_at"l"
 exact Vy hx T.cj h
theorem aae(T:Txt K mg A)(D:gn K mg A.bE "Calls" "Calls.__init__" B1 ["self","numbers"]):Maker P w K mg base ao 1 A.bE "Calls" ["self","numbers"] (M5 A):=by
 refine D.ok UL (λ_=>rfl) λf ay Ar outer s H d Q E hr h=>?_
 obtain⟨⟨x,dx⟩,v⟩:=d
 obtain⟨hx,h⟩:=h
 dsimp only at*
 refine⟨_,(af (bI (pv 0) (pv 1) rfl)
   (ai (bI (pv 0) aM rfl))),?_⟩
 show ba _ _ _ [some (.ref x),some v] H
 walk_at"l"
 refine Vz hx T.bE ?_
 walk_at"l"
 refine VA aw T.bE ?_
 rw[eP]
 exact h
theorem aaf(T:Txt K mg A)(D:bx K A.bE "at_end" "Calls.at_end" B2 ["self"]):aP P w K mg base ao 1 A.bE "at_end" ["self"] (M6 K A):=by
 refine D.ok UM (λ_=>rfl) λf ay Ar outer s H d Q E hr h=>?_
 obtain⟨d,i⟩:=d
 obtain⟨ca,h⟩:=h
 dsimp only at*
 refine⟨_,(ai (aH (jt bU (aB (pv 0) rfl) (eB fK (by rfl) T.fO PySem.boot_len (aa (aB (pv 0) rfl) ae)) (aR _)))),?_⟩
 show eZ _ _ [some (.ref d.c)] H
 walk_at"l"
 refine xP ca.1 T.bE ?_
 walk_at"l"
 refine CP ca.1 T.bE ?_
 walk_at"l"
 refine⟨_,_,rfl,.inl (ca.2.1.EW),?_⟩
 walk_at"l"
 rw[List.length_map,show decide ((i:Int)=(d.xs.length:Int))=decide (i=d.xs.length)from decide_eq_decide.mpr (by omega)]
 exact h
theorem aag(T:Txt K mg A)(D:bx K A.bE "next_number" "Calls.next_number" B3 ["self"]):aP P w K mg base ao 1 A.bE "next_number" ["self"] (EX K A):=by
 refine D.ok UN (λ_=>rfl) λf ay Ar outer s H d Q E hr h=>?_
 obtain⟨d,i⟩:=d
 obtain⟨ca,z,hz,h⟩:=h
 dsimp only at*
 have il:=(List.getElem?_eq_some_iff.mp hz).1
 refine⟨_,(af (GG (pv 0) aM GH)
   (ai (aH (a_ cf (aB (pv 0) rfl) (dY oQ (aB (pv 0) rfl) aM) (λ_ _=>rfl))))),?_⟩
 show ba _ _ _ [some (.ref d.c)] H
 walk_at"l"
 refine M8 ?_
 walk_at"l"
 refine⟨_,_,_,_,_,rfl,ca.1,T.bE.cl,T.bE.at 1 rfl,ef (ks:=["numbers","place"]) 1 rfl rfl (by decide +kernel),?_⟩
 walk_at"l"
 refine⟨_,_,rfl,rfl,_,_,ca.1,(by show 2<1000;decide),?_⟩
 rw[M9]
 have iq:=ca.up (j:=i+1) (by omega)
 walk_at"l"
 refine CP iq.1 T.bE ?_
 walk_at"l"
 refine xP iq.1 T.bE ?_
 walk_at"l"
 refine b9 (iq.2.1.EW) (v:=.int z) ?_ (h _ (fc ca.1) iq)
 rw[show(((i+1:Nat):Int)-1)=((i:Nat):Int) by omega]
 exact hZ (by rw[List.getElem?_map,hz];rfl)
theorem aah(T:Txt K mg A)(D:bx K A.bE "next_numbers" "Calls.next_numbers" B4 ["self","many"]):aP P w K mg base ao 1 A.bE "next_numbers" ["self","many"] (EY K A):=by
 refine D.ok UO (λ_=>rfl) λf ay Ar outer s H d Q E hr h=>?_
 obtain⟨d,i,n⟩:=d
 obtain⟨ca,hn,h⟩:=h
 dsimp only at*
 refine⟨_,(af (GG (pv 0) (pv 1) GH)
   (ai (aH (sU sV (aB (pv 0) rfl) (m7 (dY oQ (aB (pv 0) rfl) (pv 1))) (m7 (aB (pv 0) rfl)))))),?_⟩
 show ba _ _ _ [some (.ref d.c),some (.int n)] H
 walk_at"l"
 refine M8 ?_
 walk_at"l"
 refine⟨_,_,_,_,_,rfl,ca.1,T.bE.cl,T.bE.at 1 rfl,ef (ks:=["numbers","place"]) 1 rfl rfl (by decide +kernel),?_⟩
 walk_at"l"
 refine⟨_,_,rfl,rfl,_,_,ca.1,(by show 2<1000;decide),?_⟩
 rw[M9]
 have iq:=ca.up (j:=i+n) hn
 walk_at"l"
 refine CP iq.1 T.bE ?_
 walk_at"l"
 refine xP iq.1 T.bE ?_
 walk_at"l"
 refine xP iq.1 T.bE ?_
 walk_at"l"
 refine ph (iq.2.1.EW) λp hp=>?_
 have k1:=fc (o:=.ins A.bE d.dx (gY (.ref d.nl) (.int ((i+n:Nat):Int)))) ca.1
 have e:iw (d.xs.map V.int) (some (((i+n:Nat):Int)-(n:Int))) (some ((i+n:Nat):Int))=((d.xs.drop i).take n).map V.int:=by
  rw[show(((i+n:Nat):Int)-(n:Int))=((i:Nat):Int) by omega,La (by omega) (by rw[List.length_map];exact hn),show i+n-i=n by omega,List.map_take,List.map_drop]
 have np:d.c≠p:=λz=>by rw[←z,aw]at hp;cases hp
 rw[e]
 refine h _ p (k1.d6 (au.bc hp)) (iq.same (au.bc hp)) ?_ aw
 have gL:upd H d.c (.ins A.bE d.dx (gY (.ref d.nl) (.int ((i+n:Nat):Int)))) p=none:=hp
 rw[aG (Ne.symm np)]at gL
 exact gL
theorem aai(T:Txt K mg A)(D:bx K A.bE "next_row" "Calls.next_row" B5 ["self"])(sx:aP P w K mg base ao 1 A.bE "next_number" ["self"] (EX K A))(sA:aP P w K mg base ao 1 A.bE "next_numbers" ["self","many"] (EY K A)):
  aP P w K mg base ao 2 A.bE "next_row" ["self"] (M7 K A):=by
 refine D.ok UP (λ_=>rfl) λf ay Ar outer s H d Q E hr h=>?_
 obtain⟨d,i,n⟩:=d
 obtain⟨ca,hz,hn,h⟩:=h
 dsimp only at*
 refine⟨_,(ai (aH (bD (pv 0) T.bE.cl sA (hr.mono (by decide)) aD (aa (d_ (pv 0) T.bE.cl sx (hr.mono (by decide)) aD) ae)))),?_⟩
 show eZ _ _ [some (.ref d.c)] H
 walk_at"l"
 refine aV ca.1 (Kq _ _) ?_
 walk_at"l"
 refine aV ca.1 (Kp _ _) ?_
 walk_at"l"
 refine⟨(d,i),rfl,ca,_,hz,λH1 k1 iq=>?_⟩
 walk_at"l"
 refine⟨(d,i+1,n),rfl,iq,hn,λH2 p k2 yK hp fU=>h H2 p (k1.trans k2) yK ?_ fU⟩
 refine ow k1 (λs hs=>?_) hp
 rw[List.mem_singleton.mp hs]
 exact⟨_,iq.1⟩
end
end LN
namespace LN
open PySem PySem.Spec PyProof.Rows L2 LX
open Ln (Bytes)
open LR (rest bj)
def f9:Wrlnsb.Call→Nat
 |.read _=>0
 |.forget=>1
 |.print=>2
 |.count=>3
 |.name _ _=>4
 |.find _ _=>5
 |.look _=>6
 |.index _=>7
 |.thing _=>8
 |.put _ _=>9
 |.drop _=>10
 |.set _ _ _ _=>11
 |.scale _ _=>12
 |.reverse=>13
def f_:Wrlnsb.Call→List Int
 |.name s i=>[(s:Int),(i:Int)]
 |.find s _=>[(s:Int)]
 |.look i=>[(i:Int)]
 |.index i=>[(i:Int)]
 |.thing i=>[(i:Int)]
 |.put i _=>[(i:Int)]
 |.drop i=>[(i:Int)]
 |.set i w p q=>[(i:Int),(w:Int),p,(q:Int)]
 |.scale p q=>[p,(q:Int)]
 |_=>[]
def i6:Wrlnsb.Call→Bytes
 |.read b=>b
 |.find _ b=>b
 |.put _ b=>b
 |_=>[]
def hasB:Wrlnsb.Call→Bool
 |.read _=>true
 |.find _ _=>true
 |.put _ _=>true
 |_=>false
def EZ:Wrlnsb.Call→Prop
 |.set _ _ _ q=>q<2^63
 |.scale p q=>p.natAbs<2^64∧q<2^64
 |_=>True
def M_:Wrlnsb.Call→Bool
 |.print=>true
 |.count=>true
 |.name _ _=>true
 |.find _ _=>true
 |.look _=>true
 |.index _=>true
 |.thing _=>true
 |_=>false
def E2:Wrlnsb.Call→Bool
 |.put _ _=>true
 |.drop _=>true
 |.set _ _ _ _=>true
 |.scale _ _=>true
 |.reverse=>true
 |_=>false
structure QA where
 (d:SD) (c:Wrlnsb.Call) (wl rl:Addr)
def Na(K:PySem.W.Frag)(A:Ad):Sp:=aU (λ(x:QA)=>[.ref x.d.s,.int (f9 x.c),.ref x.wl,.ref x.rl]) λx H Q _=>ey K A H x.d∧LR.Good x.d.S∧H x.wl=some (.lst ((f_ x.c).map V.int))∧H x.rl=some (.lst (bA (i6 x.c)))∧M_ x.c=true∧Tells H Q (WrlnsbNeutral.told (Wrlnsb.tell x.d.S x.c))
def Nb(K:PySem.W.Frag)(A:Ad):Sp:=aU (λ(x:QA)=>[.ref x.d.s,.int (f9 x.c),.ref x.wl,.ref x.rl]) λx H Q _=>ey K A H x.d∧LR.Good x.d.S∧H x.wl=some (.lst ((f_ x.c).map V.int))∧H x.rl=some (.lst (bA (i6 x.c)))∧x.rl≠x.d.gl∧x.rl≠x.d.tl∧Here H x.d.no∧E2 x.c=true∧EZ x.c∧oA K A x.d H Q x.c
def Nc:Sp:=aU (λ(k:Nat)=>[.int k]) λk H Q _=>∀U,au H U→Q (.bl (decide (k=0)||(decide (k=5)||decide (k=9)))) U
theorem aaj(k a b c:Int):lX (.int k) [.int a,.int b,.int c]=(decide (k=a)||(decide (k=b)||decide (k=c))):=by
 unfold lX
 simp only[List.any_cons,List.any_nil,Bool.or_false]
 have e:∀x:Int,lW (V.int x) (V.int k)=decide (k=x):=λx=>by
  show(x==k)=decide (k=x)
  rw[show(x==k)=(k==x)from BEq.comm]
  rfl
 rw[e,e,e]
section
variable{P:Program}{w:World}{K:PySem.W.Frag}{mg:Str→Option Value}{base:Heap}{A:Ad}
theorem aak(T:Txt K mg A)(D:aI K mg "has_row" Cj ["call"]):Callee P w K mg base ao 1 "has_row" ["call"] Nc:=by
 refine D.ok UY (λ_=>rfl) λf ay Ar outer s H k Q E hr h=>?_
 refine⟨_,(ai (aH (jt G9 (pv 0) (gR (aa (aF T.KG) (aa (aF T.KH) (aa (aF T.KI) ae)))) (by with_unfolding_all rfl)))),?_⟩
 show eZ _ _ [some (.int k)] H
 walk_at"l"
 refine⟨by show 3≤sizeLine;decide,λt ht=>?_⟩
 walk_at"l"
 refine⟨_,_,rfl,.inr (aY.of aw),rfl,rfl,?_⟩
 rw[aaj]
 have q:=h _ (au.bc (o:=.tup [.int 0,.int 5,.int 9]) ht)
 rw[show decide (k=0)=decide ((k:Int)=0)from decide_eq_decide.mpr (by omega),show decide (k=5)=decide ((k:Int)=5)from decide_eq_decide.mpr (by omega),show decide (k=9)=decide ((k:Int)=9)from decide_eq_decide.mpr (by omega)]at q
 exact q
theorem aal(T:Txt K mg A)(D:aI K mg "asked" Cg ["system","call","wholes","row"])(sv:Callee P w K mg base ao 1 "bytes_told" ["row"] EO)(E3:Callee P w K mg base ao 7 "one_form" ["system"] (MJ K A))(E4:Callee P w K mg base ao 1 "count" ["system"] (MQ K A))(E7:Callee P w K mg base ao 2 "name_told" ["system","sort","number"] (MR K A))(E8:Callee P w K mg base ao 2 "find" ["system","sort","name"] (MS K A))(E_:Callee P w K mg base ao 2 "look" ["system","number"] (MT K A))(Fb:Callee P w K mg base ao 2 "index_told" ["system","number"] (MU K A))(Fc:Callee P w K mg base ao 5 "thing_told" ["system","number"] (MV K A)):Callee P w K mg base ao 8 "asked" ["system","call","wholes","row"] (Na K A):=by
 refine D.ok UW (λ_=>rfl) λf ay Ar outer s H x Q E hr h=>?_
 obtain⟨d,c,wl,rl⟩:=x
 obtain⟨S,hg,hw,kE,hc,h⟩:=h
 dsimp only at*
 refine⟨_,(af (bb (aW bU (pv 1) (aF T.V0) (aR _)) (ai (aH (aT sv (hr.mono (by decide)) aD (aa (aT E3 (hr.mono (by decide)) aD (aa (pv 0) ae)) ae)))) bo)
   (af (bb (aW bU (pv 1) (aF T.V1) (aR _)) (ai (aH (aT E4 (hr.mono (by decide)) aD (aa (pv 0) ae)))) bo)
   (af (bb (aW bU (pv 1) (aF T.V2) (aR _)) (ai (aH (aT E7 (hr.mono (by decide)) aD (aa (pv 0) (aa (a_ cf (pv 2) aM (λ_ _=>rfl)) (aa (a_ cf (pv 2) aM (λ_ _=>rfl)) ae)))))) bo)
   (af (bb (aW bU (pv 1) (aF T.KH) (aR _)) (ai (aH (aT E8 (hr.mono (by decide)) aD (aa (pv 0) (aa (a_ cf (pv 2) aM (λ_ _=>rfl)) (aa (pv 3) ae)))))) bo)
   (af (bb (aW bU (pv 1) (aF T.V3) (aR _)) (ai (aH (aT E_ (hr.mono (by decide)) aD (aa (pv 0) (aa (a_ cf (pv 2) aM (λ_ _=>rfl)) ae))))) bo)
   (af (bb (aW bU (pv 1) (aF T.V4) (aR _)) (ai (aH (aT Fb (hr.mono (by decide)) aD (aa (pv 0) (aa (a_ cf (pv 2) aM (λ_ _=>rfl)) ae))))) bo)
   (ai (aH (aT Fc (hr.mono (by decide)) aD (aa (pv 0) (aa (a_ cf (pv 2) aM (λ_ _=>rfl)) ae))))))))))),?_⟩
 show ba _ _ _ [some (.ref d.s),some (.int (f9 c)),some (.ref wl),some (.ref rl)] H
 cases c with
 |print=>
  walk_at"l"
  rw[if_pos (by rfl)]
  walk_at"l"
  refine⟨d,rfl,S,hg,λH1 p s1 hp gx=>?_⟩
  walk_at"l"
  refine⟨(p,Ln.print d.S),rfl,gx,Nat.le_trans (LR.Jb hg) (by decide),λH2 q s2 hq l8=>h H2 q (s1.trans s2) (s1.free hq) l8⟩
 |count=>
  walk_at"l"
  rw[if_neg (by intro z;cases z)]
  walk_at"l"
  rw[if_pos (by rfl)]
  walk_at"l"
  exact⟨d,rfl,S,h⟩
 |name a b=>
  walk_at"l"
  rw[if_neg (by intro z;cases z)]
  walk_at"l"
  rw[if_neg (by intro z;cases z)]
  walk_at"l"
  rw[if_pos (by rfl)]
  walk_at"l"
  refine b9 (ah.of hw) rfl ?_
  walk_at"l"
  refine b9 (ah.of hw) rfl ?_
  walk_at"l"
  exact⟨(d,a,b),rfl,S,hg,h⟩
 |find a b=>
  walk_at"l"
  rw[if_neg (by intro z;cases z)]
  walk_at"l"
  rw[if_neg (by intro z;cases z)]
  walk_at"l"
  rw[if_neg (by intro z;cases z)]
  walk_at"l"
  rw[if_pos (by rfl)]
  walk_at"l"
  refine b9 (ah.of hw) rfl ?_
  walk_at"l"
  exact⟨((d,a),rl,b),rfl,S,kE,h⟩
 |look a=>
  walk_at"l"
  rw[if_neg (by intro z;cases z)]
  walk_at"l"
  rw[if_neg (by intro z;cases z)]
  walk_at"l"
  rw[if_neg (by intro z;cases z)]
  walk_at"l"
  rw[if_neg (by intro z;cases z)]
  walk_at"l"
  rw[if_pos (by rfl)]
  walk_at"l"
  refine b9 (ah.of hw) rfl ?_
  walk_at"l"
  exact⟨(d,a),rfl,S,h⟩
 |index a=>
  walk_at"l"
  rw[if_neg (by intro z;cases z)]
  walk_at"l"
  rw[if_neg (by intro z;cases z)]
  walk_at"l"
  rw[if_neg (by intro z;cases z)]
  walk_at"l"
  rw[if_neg (by intro z;cases z)]
  walk_at"l"
  rw[if_neg (by intro z;cases z)]
  walk_at"l"
  rw[if_pos (by rfl)]
  walk_at"l"
  refine b9 (ah.of hw) rfl ?_
  walk_at"l"
  exact⟨(d,a),rfl,S,h⟩
 |thing a=>
  walk_at"l"
  rw[if_neg (by intro z;cases z)]
  walk_at"l"
  rw[if_neg (by intro z;cases z)]
  walk_at"l"
  rw[if_neg (by intro z;cases z)]
  walk_at"l"
  rw[if_neg (by intro z;cases z)]
  walk_at"l"
  rw[if_neg (by intro z;cases z)]
  walk_at"l"
  rw[if_neg (by intro z;cases z)]
  walk_at"l"
  refine b9 (ah.of hw) rfl ?_
  walk_at"l"
  exact⟨(d,a),rfl,S,hg,h⟩
 |_=>cases hc
theorem aam(T:Txt K mg A)(D:aI K mg "edited" Ci ["system","call","wholes","row"])(Fd:Callee P w K mg base ao 15 "put" ["system","number","text"] (Ms K A))(Fe:Callee P w K mg base ao 4 "drop" ["system","number"] (Mg K A))(Ff:Callee P w K mg base ao 3 "set_number" ["system","number","what","upper","lower"] (Mf K A))(Fg:Callee P w K mg base ao 5 "scale" ["system","upper","lower"] (Mo K A))(Fh:Callee P w K mg base ao 2 "turn_round" ["system"] (Mt K A)):
  Callee P w K mg base ao 16 "edited" ["system","call","wholes","row"] (Nb K A):=by
 refine D.ok UX (λ_=>rfl) λf ay Ar outer s H x Q E hr h=>?_
 obtain⟨d,c,wl,rl⟩:=x
 obtain⟨S,hg,hw,kE,ng,nt,aZ,hc,ok,h⟩:=h
 dsimp only at*
 refine⟨_,(af (bb (aW bU (pv 1) (aF T.KI) (aR _)) (ai (aH (aT Fd (hr.mono (by decide)) aD (aa (pv 0) (aa (a_ cf (pv 2) aM (λ_ _=>rfl)) (aa (pv 3) ae)))))) bo)
   (af (bb (aW bU (pv 1) (aF T.V6) (aR _)) (ai (aH (aT Fe (hr.mono (by decide)) aD (aa (pv 0) (aa (a_ cf (pv 2) aM (λ_ _=>rfl)) ae))))) bo)
   (af (bb (aW bU (pv 1) (aF T.V7) (aR _)) (ai (aH (aT Ff (hr.mono (by decide)) aD (aa (pv 0) (aa (a_ cf (pv 2) aM (λ_ _=>rfl)) (aa (a_ cf (pv 2) aM (λ_ _=>rfl)) (aa (a_ cf (pv 2) aM (λ_ _=>rfl)) (aa (a_ cf (pv 2) aM (λ_ _=>rfl)) ae)))))))) bo)
   (af (bb (aW bU (pv 1) (aF T.V8) (aR _)) (ai (aH (aT Fg (hr.mono (by decide)) aD (aa (pv 0) (aa (a_ cf (pv 2) aM (λ_ _=>rfl)) (aa (a_ cf (pv 2) aM (λ_ _=>rfl)) ae)))))) bo)
   (ai (aH (aT Fh (hr.mono (by decide)) aD (aa (pv 0) ae)))))))),?_⟩
 show ba _ _ _ [some (.ref d.s),some (.int (f9 c)),some (.ref wl),some (.ref rl)] H
 cases c with
 |put a b=>
  walk_at"l"
  rw[if_pos (by rfl)]
  walk_at"l"
  refine b9 (ah.of hw) rfl ?_
  walk_at"l"
  exact⟨⟨d,a,rl,b⟩,rfl,S,hg,kE,ng,nt,aZ,h⟩
 |drop a=>
  walk_at"l"
  rw[if_neg (by intro z;cases z)]
  walk_at"l"
  rw[if_pos (by rfl)]
  walk_at"l"
  refine b9 (ah.of hw) rfl ?_
  walk_at"l"
  exact⟨(d,a),rfl,S,hg,h⟩
 |set a b p q=>
  walk_at"l"
  rw[if_neg (by intro z;cases z)]
  walk_at"l"
  rw[if_neg (by intro z;cases z)]
  walk_at"l"
  rw[if_pos (by rfl)]
  walk_at"l"
  refine b9 (ah.of hw) rfl ?_
  walk_at"l"
  refine b9 (ah.of hw) rfl ?_
  walk_at"l"
  refine b9 (ah.of hw) rfl ?_
  walk_at"l"
  refine b9 (ah.of hw) rfl ?_
  walk_at"l"
  exact⟨(d,a,b,p,q),rfl,S,hg,ok,h⟩
 |scale p q=>
  walk_at"l"
  rw[if_neg (by intro z;cases z)]
  walk_at"l"
  rw[if_neg (by intro z;cases z)]
  walk_at"l"
  rw[if_neg (by intro z;cases z)]
  walk_at"l"
  rw[if_pos (by rfl)]
  walk_at"l"
  refine b9 (ah.of hw) rfl ?_
  walk_at"l"
  refine b9 (ah.of hw) rfl ?_
  walk_at"l"
  exact⟨(d,p,q),rfl,S,hg,ok.1,ok.2,h⟩
 |reverse=>
  walk_at"l"
  rw[if_neg (by intro z;cases z)]
  walk_at"l"
  rw[if_neg (by intro z;cases z)]
  walk_at"l"
  rw[if_neg (by intro z;cases z)]
  walk_at"l"
  rw[if_neg (by intro z;cases z)]
  walk_at"l"
  exact⟨d,rfl,S,hg,aZ,h⟩
 |_=>cases hc
end
end LN
namespace LR
open Ln PySem
theorem aan{p:Int}{q:Nat}(hp:0<p)(hq:q≠0):(0:Rat)<(p:Rat)/(q:Rat):=by
 have h0:(0:Rat)≤(p:Rat)/(q:Rat):=by
  have e:((p.toNat:Nat):Rat)=(p:Rat):=by
   rw[show(p:Rat)=(((p.toNat:Nat):Int):Rat) by rw[Int.toNat_of_nonneg (by omega)]]
   rfl
  rw[←e]
  exact Ic p.toNat q
 exact Rat.lt_of_le_of_ne h0 (Ne.symm (IW hp hq))
theorem aao{s:System_}(g:Good s){c:Wrlnsb.Call}(hc:LN.E2 c=true):∃s',(Wrlnsb.does s c).1=some s'∧Good s':=by
 cases c with
 |put i b=>
  rw[LN.Er]
  split
  ·exact⟨s,rfl,g⟩
  ·cases hr:readElem s b with
   |error f=>exact⟨s,rfl,g⟩
   |ok e=>
    have q:=Qp hr
    exact⟨_,rfl,Qs g q.1 q.2 i⟩
 |drop i=>
  rw[LN.Ef]
  split
  ·exact⟨s,rfl,g⟩
  ·rename_i hi
   have bw:i<s.elems.length:=Nat.lt_of_not_le hi
   unfold Wrlnsb.changed
   split
   ·exact⟨s,rfl,g⟩
   ·rename_i hf
    refine⟨_,rfl,?_⟩
    by_cases h2:i+1<s.elems.length
    ·rw[Iu (List.getElem?_eq_getElem bw) (List.getElem?_eq_getElem h2)]at hf⊢
     rw[Iv g (List.getElem?_eq_getElem bw) (List.getElem?_eq_getElem h2)]at hf
     exact Qx g (List.getElem?_eq_getElem bw) (List.getElem?_eq_getElem h2) (by simpa using hf)
    ·rw[Ir g (by omega)]
     exact Qv g
 |set i bM p q=>
  rw[LN.rY]
  cases he:s.elems[i]? with
  |none=>exact⟨s,rfl,g⟩
  |some e=>
   dsimp only
   split
   ·exact⟨s,rfl,g⟩
   ·rename_i h1
    split
    ·exact⟨s,rfl,g⟩
    ·rename_i h2
     have ge:=g.elems e (List.mem_of_getElem? he)
     unfold Wrlnsb.changed
     split
     ·exact⟨s,rfl,g⟩
     ·rename_i h3
      rw[Ip g,Iq ge (by omega)]at h3
      exact⟨_,rfl,Qt g (Qu ge (by omega) (by simpa using h2) (by simpa using h3)) (List.getElem?_eq_some_iff.mp he).1⟩
 |scale p q=>
  rw[LN.Ek]
  split
  ·exact⟨s,rfl,g⟩
  ·rename_i h1
   unfold Wrlnsb.changed
   split
   ·exact⟨s,rfl,g⟩
   ·rename_i h2
    exact⟨_,rfl,Qz g (aan (by omega) (by omega)) (by simpa using h2)⟩
 |reverse=>exact⟨_,rfl,QB g⟩
 |_=>cases hc
end LR
namespace LN
open PySem PySem.Spec PyProof.Rows L2 LX
open Ln (Bytes)
open LR (rest bj)
structure RA where
 (kp bV:Addr) (v:V) (tx:Addr) (b:Bytes) (no:List Addr)
def Nd(K:PySem.W.Frag)(A:Ad):Sp:=aU (λ(x:RA)=>[.ref x.kp,.ref x.tx]) λx H Q _=>H x.kp=some (.ins A.cj x.bV (fw x.v))∧H x.tx=some (.lst (bA x.b))∧Here H x.no∧
 (if Wrlnsb.TEXT<x.b.length then Tells H Q [-1]else match Ln.read x.b with
  |.ok t=>∀U p s,ax [x.kp] H U→U x.kp=some (.ins A.cj x.bV (fw (.ref s)))→mn K A x.no U s t→H p=none→U p=some (.lst [.int 0,.int (t.count:Nat)])→Q (.ref p) U
  |.error f=>Tells H Q (WrlnsbNeutral.told (Wrlnsb.faulty f)))
def Nf(A:Ad):Sp:=aU (λ(x:(Addr×Addr)×V)=>[.ref x.1.1]) λx H Q _=>H x.1.1=some (.ins A.cj x.1.2 (fw x.2))∧∀U p,ax [x.1.1] H U→U x.1.1=some (.ins A.cj x.1.2 (fw .aJ))→H p=none→U p=some (.lst [.int 0])→Q (.ref p) U
theorem aap(b:Bytes):Ln.read b=Ln.had (Ln.system (rest b 0)):=by
 unfold Ln.read
 rw[LR.HJ]
theorem wj{σ:L2.St}(h:σ.length=4):∃a b c d,σ=[a,b,c,d]:=by
 match σ,h with
 |[a,b,c,d],_=>exact⟨a,b,c,d,rfl⟩
section
variable{P:Program}{w:World}{K:PySem.W.Frag}{mg:Str→Option Value}{base:Heap}{A:Ad}
theorem aaq(T:Txt K mg A)(D:aI K mg "forget" B7 ["kept"]):Callee P w K mg base ao 1 "forget" ["kept"] (Nf A):=by
 refine D.ok UQ (λ_=>rfl) λf ay Ar outer s H x Q E hr h=>?_
 obtain⟨⟨kp,bV⟩,v⟩:=x
 obtain⟨hk,h⟩:=h
 dsimp only at*
 refine⟨_,(af (bI (pv 0) lR rfl)
   (ai (aH (bK (aa aM ae))))),?_⟩
 show ba _ _ _ [some (.ref kp)] H
 walk_at"l"
 refine Ko hk T.cj ?_
 walk_at"l"
 refine⟨by show 1≤sizeLine;decide,λp hp=>?_⟩
 have sp:=au.bc (o:=.lst [V.int 0]) hp
 have np:kp≠p:=λz=>by rw[←z,aw]at hp;cases hp
 refine h _ p ((fc hk).d6 sp) (sp _ _ aw) ?_ aw
 rw[aG (Ne.symm np)]at hp
 exact hp
theorem aar(T:Txt K mg A)(GF:jj P w K mg base A)(D:aI K mg "read" B6 ["kept","text"])(Fi:Callee P w K mg base (aX P w) 15 "system_of" ["text"] (L0 K A)):Callee P w K mg base ao 16 "read" ["kept","text"] (Nd K A):=by
 obtain⟨fI,kD,xF,fh,fi,bF⟩:=GF
 refine D.ok CB (λ_=>rfl) λf ay Ar outer s H x Q E hr h=>?_
 obtain⟨kp,bV,v,tx,b,no⟩:=x
 obtain⟨hk,kL,aZ,h⟩:=h
 dsimp only at*
 have vo:((bA b).length:Int)=(b.length:Int):=by rw[ig]
 have um:∀cls dx U,Mr A H (λf=>Tells H Q (WrlnsbNeutral.told (Wrlnsb.faulty f))) cls dx U→cls=.ref A.eN:=λ_ _ _ ⟨_,_,e,_⟩=>e
 refine⟨_,(af (bb (aW qt (eB fK (by rfl) T.fO PySem.boot_len (aa (pv 1) ae)) (aF T.Ky) (aR _)) (ai (aH (bK (aa (aF T.ly) ae)))) bo)
   (af (Jv xF rfl fi rfl CB.nd (i:=3) rfl rfl rfl rfl um (λEt Eu hR=>(ai (a9 (i:=2) CB.nd rfl (Or.inl rfl) (aT Fi (hr.mono (by decide)) (Raises.passes hR rfl) (aa (pv 1) ae))))) (λe_ Et Eu=>(ai (aH (bK (aa (aF T.Kx) (aa (wU xF (by decide +kernel) (pv 3) rfl) (aa (wU xF (by decide +kernel) (pv 3) rfl) ae))))))))
   (af (bI (pv 0) (pv 2) rfl)
   (ai (aH (bK (aa aM (aa (eB fK (by rfl) T.fO PySem.boot_len (aa (aB (pv 2) rfl) ae)) ae)))))))),?_⟩
 show ba _ _ _ [some (.ref kp),some (.ref tx),none,none] H
 walk_at"l"
 refine⟨_,_,rfl,.inl (ah.of kL),?_⟩
 walk_at"l"
 by_cases h2:16384<b.length
 ·rw[if_pos (show Wrlnsb.TEXT<b.length from h2)]at h
  rw[if_pos (decide_eq_true (by rw[vo];omega))]
  walk_at"l"
  exact⟨by show 1≤sizeLine;decide,h.lst (au.refl _) _ rfl⟩
 rw[if_neg (λz=>h2 (by have:=of_decide_eq_true z;rw[vo]at this;omega))]
 rw[if_neg (show¬Wrlnsb.TEXT<b.length from h2),aap]at h
 walk_at"l"
 refine⟨?_,λaz U bQ e hl he ⟨ft,fB,_,ed,s1,hF,dE⟩=>?_⟩
 ·walk_at"l"
  refine⟨(tx,b,no),rfl,kL,aZ,?_⟩
  unfold bj
  cases hp:Ln.system (rest b 0)with
  |error f=>
   rw[hp]at h
   exactλU dx k fl=>⟨f,dx,rfl,rfl,k.same,fl,h⟩
  |ok y=>
   rw[hp]at h
   intro H1 sy s1 ns hS
   obtain⟨gl,tl,gs,es,S1⟩:=id hS
   obtain⟨g5,hi⟩:=S1.ins
   have sC:=s1 _ _ hk
   walk_at"l"
   refine Ko sC T.cj ?_
   have k2:=fc (o:=.ins A.cj bV (fw (.ref sy))) sC
   have pM:mn K A no (upd H1 kp (.ins A.cj bV (fw (.ref sy)))) sy y.1:=hS.keep k2 λb hb=>.inr (by rw[List.mem_singleton.mp hb];exact⟨_,_,_,_,_,sC,by decide +kernel,by decide +kernel,by decide +kernel⟩)
   obtain⟨gl2,tl2,DM,rQ,S2⟩:=id pM
   obtain⟨adV,yy⟩:=S2.ins
   walk_at"l"
   refine eW yy T.bf ?_
   walk_at"l"
   refine⟨_,_,rfl,.inl (ah.of S2.bu),?_⟩
   walk_at"l"
   refine⟨by show 2≤sizeLine;decide,λp hp=>?_⟩
   rw[List.length_map,S2.elems.1]
   have sp:=au.bc (o:=.lst [V.int 0,.int (y.1.elems.length:Nat)]) hp
   have np:kp≠p:=λz=>by rw[←z,aw]at hp;cases hp
   refine h _ p sy ((s1.uz k2 (λs hs=>⟨_,(List.mem_singleton.mp hs)▸hk,rfl⟩)).d6 sp) (sp _ _ aw) (pM.same sp) ?_ aw
   rw[aG (Ne.symm np)]at hp
   exact s1.free hp
 ·obtain⟨a0,a1,a2,a3,rfl⟩:=wj hl
  cases ed
  obtain⟨fs,jA,l1,l2⟩:=Mq hF
  have s2:=au.bc (o:=XC e A.eN bQ) he
  show eZ _ _ [a0,a1,a2,some (.ref e)] _
  walk_at"l"
  refine yx ?_
  walk_at"l"
  refine⟨e,bQ,fs,_,rfl,aw,s2 _ _ jA,l1,?_⟩
  walk_at"l"
  refine yx ?_
  walk_at"l"
  refine⟨e,bQ,fs,_,rfl,aw,s2 _ _ jA,l2,?_⟩
  walk_at"l"
  exact⟨by show 3≤sizeLine;decide,dE.lst (s1.trans s2) _ rfl⟩
end
end LN
namespace LN
open PySem PySem.Spec PyProof.Rows L2 LX
open Ln (Bytes)
def gQ(K:PySem.W.Frag)(A:Ad)(H:Hp)(kp bV:Addr)(no:List Addr):Wrlnsb.State→Prop
 |none=>H kp=some (.ins A.cj bV (fw .aJ))
 |some S=>∃d:SD,d.S=S∧d.no=no∧H kp=some (.ins A.cj bV (fw (.ref d.s)))∧ey K A H d∧LR.Good S
def vy(H:Hp)(no:List Addr):Prop:=∀b∈no,∃xs,H b=some (.lst xs)
def g8(no:List Addr)(H U:Hp):Prop:=∀b∈no,∀xs,H b=some (.lst xs)→U b=some (.lst xs)
def kQ(c:Wrlnsb.Call):List Int:=if hasB c=true then((i6 c).length:Int)::(i6 c).map λ(c:UInt8)=>((c.toNat:Nat):Int)else[]
structure NA where
 (kp bV:Addr) (cd:CD) (i:Nat) (st:Wrlnsb.State) (no:List Addr) (c:Wrlnsb.Call) (t:List Int)
def Ng(K:PySem.W.Frag)(A:Ad):Sp:=aU (λ(x:NA)=>[.ref x.kp,.ref x.cd.c]) λx H Q _=>gQ K A H x.kp x.bV x.no x.st∧f7 K A H x.cd x.i∧vy H x.no∧x.cd.xs.drop x.i=(f9 x.c:Int)::(f_ x.c++(kQ x.c++x.t))∧EZ x.c∧
 ∀U p,gQ K A U x.kp x.bV x.no (Wrlnsb.step x.st x.c).1→f7 K A U x.cd (x.cd.xs.length-x.t.length)→g8 x.no H U→H p=none→U p=some (.lst ((WrlnsbNeutral.told (Wrlnsb.step x.st x.c).2).map V.int))→Q (.ref p) U
section
variable{K:PySem.W.Frag}{A:Ad}{H U:Hp}{kp bV:Addr}{no:List Addr}{st:Wrlnsb.State}{d:SD}{cd:CD}{i:Nat}
theorem gQ.v(h:gQ K A H kp bV no st):∃v,H kp=some (.ins A.cj bV (fw v)):=by
 cases st with
 |none=>exact⟨_,h⟩
 |some S=>obtain⟨d,_,_,h,_⟩:=h;exact⟨_,h⟩
theorem gQ.aas(h:gQ K A H kp bV no st)(ca:f7 K A H cd i)(k:ax [cd.c] H U):gQ K A U kp bV no st:=by
 have vz:∀v,H kp=some (.ins A.cj bV (fw v))→U kp=some (.ins A.cj bV (fw v)):=λv hv=>k.eq _ _ hv λz=>fP hv ca.1 (by decide +kernel) (List.mem_singleton.mp z)
 cases st with
 |none=>exact vz _ h
 |some S=>
  obtain⟨d,e1,e2,h1,h2,h3⟩:=h
  exact⟨d,e1,e2,vz _ h1,h2.keep k λb hb=>.inr (by rw[List.mem_singleton.mp hb];exact⟨_,_,_,_,_,ca.1,by decide +kernel,by decide +kernel,by decide +kernel⟩),h3⟩
theorem gQ.same(h:gQ K A H kp bV no st)(s:au H U):gQ K A U kp bV no st:=by
 cases st with
 |none=>exact s _ _ h
 |some S=>
  obtain⟨d,e1,e2,h1,h2,h3⟩:=h
  exact⟨d,e1,e2,s _ _ h1,g7 h2 s,h3⟩
theorem vy.here(h:vy H no):Here H no:=λb hb=>let⟨xs,e⟩:=h b hb;⟨_,e⟩
theorem g8.of_keep{W:List Addr}(k:ax W H U)(n:∀b∈no,∀xs,H b=some (.lst xs)→b∉W):g8 no H U:=λb hb xs e=>k.eq _ _ e (n b hb xs e)
theorem g8.same(s:au H U):g8 no H U:=λb _ xs e=>s _ _ e
theorem g8.trans{H1:Hp}(a:g8 no H H1)(b:g8 no H1 U):g8 no H U:=λc hc xs e=>b c hc xs (a c hc xs e)
theorem g8.aat(s:g8 no H U)(h:vy H no):vy U no:=λb hb=>let⟨xs,e⟩:=h b hb;⟨xs,s b hb xs e⟩
theorem Nh{b C dx:Addr}{k:Str}{v:V}{r:List (Str×V)}(S:ey K A H d)(hb:H b=some (.ins C dx ((k,v)::r)))(n1:k≠"glasses")(n2:k≠"kind"):b∉d.s::d.tl::d.es:=λm=>by
 rcases List.mem_cons.mp m with q|m
 ·obtain⟨bQ,hi⟩:=S.ins
  exact fP hb hi n1 q
 rcases List.mem_cons.mp m with q|m
 ·exact bY hb S.bu (λz=>by cases z) q
 ·obtain⟨j,hj⟩:=List.getElem?_of_mem m
  obtain⟨e,_,bQ,nm,gp,cv,cn,rc,he,_⟩:=S.elems.at' hj
  exact fP hb he n2 rfl
theorem aau{b:Addr}{xs:List V}(S:ey K A H d)(hb:H b=some (.lst xs))(m:b∈d.no):b∉d.s::d.tl::d.es:=λm'=>by
 rcases List.mem_cons.mp m' with q|m'
 ·obtain⟨bQ,hi⟩:=S.ins
  exact bY hb hi (λz=>by cases z) q
 rcases List.mem_cons.mp m' with q|m'
 ·exact S.jh (q▸m)
 ·obtain⟨j,hj⟩:=List.getElem?_of_mem m'
  obtain⟨e,_,bQ,nm,gp,cv,cn,rc,he,_⟩:=S.elems.at' hj
  exact bY hb he (λz=>by cases z) rfl
end
theorem Ni(st:Wrlnsb.State)(b:Bytes):Wrlnsb.step st (.read b)=if Wrlnsb.TEXT<b.length then(st,Wrlnsb.no (-1))else(match Ln.read b with
  |.ok t=>(some t,.numbers [(t.count:Int)])
  |.error f=>(st,Wrlnsb.faulty f)):=rfl
theorem step_forget(st:Wrlnsb.State):Wrlnsb.step st .forget=(none,Wrlnsb.good):=by cases st<;>rfl
theorem classify(c:Wrlnsb.Call):(∃b,c=.read b)∨c=.forget∨(M_ c=true∧2≤f9 c∧f9 c≤8∧(∀S,Wrlnsb.step (some S) c=(some S,Wrlnsb.tell S c))∧Wrlnsb.step none c=(none,Wrlnsb.no (-2)))∨
  (E2 c=true∧8<f9 c∧(∀S,Wrlnsb.step (some S) c=Wrlnsb.does S c)∧Wrlnsb.step none c=(none,Wrlnsb.no (-2))):=by
 cases c with
 |read b=>exact .inl ⟨b,rfl⟩
 |forget=>exact .inr (.inl rfl)
 |print=>exact .inr (.inr (.inl ⟨rfl,by decide,by decide,λ_=>rfl,rfl⟩))
 |count=>exact .inr (.inr (.inl ⟨rfl,by decide,by decide,λ_=>rfl,rfl⟩))
 |name a b=>exact .inr (.inr (.inl ⟨rfl,by show 2≤4;decide,by show 4≤8;decide,λ_=>rfl,rfl⟩))
 |find a b=>exact .inr (.inr (.inl ⟨rfl,by show 2≤5;decide,by show 5≤8;decide,λ_=>rfl,rfl⟩))
 |look a=>exact .inr (.inr (.inl ⟨rfl,by show 2≤6;decide,by show 6≤8;decide,λ_=>rfl,rfl⟩))
 |index a=>exact .inr (.inr (.inl ⟨rfl,by show 2≤7;decide,by show 7≤8;decide,λ_=>rfl,rfl⟩))
 |thing a=>exact .inr (.inr (.inl ⟨rfl,by show 2≤8;decide,by show 8≤8;decide,λ_=>rfl,rfl⟩))
 |put a b=>exact .inr (.inr (.inr ⟨rfl,by show 8<9;decide,λ_=>rfl,rfl⟩))
 |drop a=>exact .inr (.inr (.inr ⟨rfl,by show 8<10;decide,λ_=>rfl,rfl⟩))
 |set a b p q=>exact .inr (.inr (.inr ⟨rfl,by show 8<11;decide,λ_=>rfl,rfl⟩))
 |scale p q=>exact .inr (.inr (.inr ⟨rfl,by show 8<12;decide,λ_=>rfl,rfl⟩))
 |reverse=>exact .inr (.inr (.inr ⟨rfl,by decide,λ_=>rfl,rfl⟩))
theorem aav(c:Wrlnsb.Call):jv [V.int 0,.int 0,.int 0,.int 0,.int 2,.int 1,.int 1,.int 1,.int 1,.int 1,.int 1,.int 4,.int 2,.int 0] ((f9 c:Nat):Int)=some (.int ((f_ c).length:Nat)):=by cases c<;>rfl
theorem aaw(c:Wrlnsb.Call):(decide (f9 c=0)||(decide (f9 c=5)||decide (f9 c=9)))=hasB c:=by cases c<;>rfl
theorem aax{c:Wrlnsb.Call}(h:hasB c=false):i6 c=[]:=by cases c<;>first|rfl|cases h
theorem yL{α:Type}{xs a b:List α}{i:Nat}(h:xs.drop i=a++b):xs.drop (i+a.length)=b:=by
 rw[←List.drop_drop,h,List.drop_left]
theorem Nj{α:Type}{xs a b:List α}{i:Nat}(h:xs.drop i=a++b):(xs.drop i).take a.length=a:=by
 rw[h,List.take_left]
theorem Nk{α:Type}{xs a:List α}{i:Nat}(h:xs.drop i=a):xs.length-i=a.length:=by rw[←h,List.length_drop]
section
variable{P:Program}{w:World}{K:PySem.W.Frag}{mg:Str→Option Value}{base:Heap}{A:Ad}
set_option maxHeartbeats 8000000 in
theorem aay(T:Txt K mg A)(D:aI K mg "next_answer" Ck ["kept","calls"])(sx:aP P w K mg base ao 1 A.bE "next_number" ["self"] (EX K A))(sA:aP P w K mg base ao 1 A.bE "next_numbers" ["self","many"] (EY K A))(Fj:Callee P w K mg base ao 1 "has_row" ["call"] Nc)(Fl:aP P w K mg base ao 2 A.bE "next_row" ["self"] (M7 K A))(Fm:Callee P w K mg base ao 16 "read" ["kept","text"] (Nd K A))(Fn:Callee P w K mg base ao 1 "forget" ["kept"] (Nf A))(Fo:Callee P w K mg base ao 8 "asked" ["system","call","wholes","row"] (Na K A))(Fp:Callee P w K mg base ao 16 "edited" ["system","call","wholes","row"] (Nb K A)):Callee P w K mg base ao 17 "next_answer" ["kept","calls"] (Ng K A):=by
 refine D.ok xJ (λ_=>rfl) λf ay Ar outer s H x Q E hr h=>?_
 obtain⟨kp,bV,cd,i,st,no,c,t⟩:=x
 obtain⟨Nl,ca,aZ,hd,Fq,h⟩:=h
 dsimp only at*
 have hlen:=Nk hd
 rw[List.length_cons,List.length_append,List.length_append]at hlen
 have d1:cd.xs.drop (i+1)=f_ c++(kQ c++t):=yL (a:=[(f9 c:Int)]) hd
 have d2:cd.xs.drop (i+1+(f_ c).length)=kQ c++t:=yL d1
 have hz:cd.xs[i]?=some (f9 c:Int):=by
  have q:(cd.xs.drop i)[0]?=some (f9 c:Int):=by rw[hd];rfl
  rw[List.getElem?_drop]at q
  exact q
 refine⟨_,(af (a9 (i:=2) xJ.nd rfl (Or.inl rfl) (d_ (pv 1) T.bE.cl sx (hr.mono (by decide)) aD))
   (af (a9 (i:=3) xJ.nd rfl (Or.inl rfl) (bD (pv 1) T.bE.cl sA (hr.mono (by decide)) aD (aa (a_ dM (aF T.V9) (pv 2) (λ_ _=>rfl)) ae)))
   (af (a9 (i:=4) xJ.nd rfl (Or.inl rfl) (ql (iu (aT Fj (hr.mono (by decide)) aD (aa (pv 2) ae))) (d_ (pv 1) T.bE.cl Fl (hr.mono (by decide)) aD) (bK ae)))
   (af (bb (aW bU (pv 2) (aF T.KG) (aR _)) (ai (aH (aT Fm (hr.mono (by decide)) aD (aa (pv 0) (aa (pv 4) ae))))) bo)
   (af (bb (aW bU (pv 2) (aF T.VZ) (aR _)) (ai (aH (aT Fn (hr.mono (by decide)) aD (aa (pv 0) ae)))) bo)
   (af (bb (aW vZ (aB (pv 0) rfl) lR (aR _)) (ai (aH (bK (aa (aF T.VU) ae)))) bo)
   (af (bb (aW m5 (pv 2) (aF T.V5) (aR _)) (ai (aH (aT Fo (hr.mono (by decide)) aD (aa (aB (pv 0) rfl) (aa (pv 2) (aa (pv 3) (aa (pv 4) ae))))))) bo)
   (ai (aH (aT Fp (hr.mono (by decide)) aD (aa (aB (pv 0) rfl) (aa (pv 2) (aa (pv 3) (aa (pv 4) ae)))))))))))))),?_⟩
 show ba _ _ _ [some (.ref kp),some (.ref cd.c),none,none,none] H
 walk_at"l"
 refine aV ca.1 (Kp _ _) ?_
 walk_at"l"
 refine⟨(cd,i),rfl,ca,_,hz,λH1 k1 iq=>?_⟩
 walk_at"l"
 refine aV iq.1 (Kq _ _) ?_
 walk_at"l"
 refine dB (T.V_ _) (aav c) ?_
 walk_at"l"
 refine⟨(cd,i+1,(f_ c).length),rfl,iq,by show i+1+(f_ c).length≤cd.xs.length;omega,λH2 wl k2 yK lz Fs=>?_⟩
 dsimp only at Fs yK
 rw[Nj d1]at Fs
 have Sf:=k1.trans k2
 have cin:∀{U:Hp} {j:Nat},f7 K A U cd j→∀s∈[cd.c],∃o,U s=some o:=λq s hs=>⟨_,(List.mem_singleton.mp hs)▸q.1⟩
 with_reducible refine cy ?_
 with_reducible refine mC (λaz U=>∃rl,az=[some (.ref kp),some (.ref cd.c),some (.int (f9 c:Nat)),some (.ref wl),some (.ref rl)]∧ax [cd.c] H U∧f7 K A U cd (cd.xs.length-t.length)∧U wl=some (.lst ((f_ c).map V.int))∧U rl=some (.lst (bA (i6 c)))∧H rl=none) ?_ ?_
 ·rintro az H3 ⟨rl,rfl,k3,fV,Nm,Ft,pW⟩
  have mQ:=Nl.aas ca k3
  have vA:g8 no H H3:=g8.of_keep k3 λb hb xs e z=>bY e ca.1 (λq=>by cases q) (List.mem_singleton.mp z)
  have Nn:=vA.aat aZ
  have nb:∀p,H3 p=none→H p=none:=λp hp=>ow k3 (cin fV) hp
  have tells:∀ans,gQ K A H3 kp bV no (Wrlnsb.step st c).1→WrlnsbNeutral.told (Wrlnsb.step st c).2=ans→Tells H3 Q ans:=λans q e H4 p s4 hp gw=>h H4 p (q.same s4) (fV.same s4) (vA.trans (g8.same s4)) (nb p hp) (by rw[e];exact gw)
  obtain⟨v,hv⟩:=mQ.v
  rcases classify c with⟨b,rfl⟩|rfl|⟨ak,yg,k8,e1,e2⟩|⟨ek,k8,e1,e2⟩
  ·walk_at"l"
   rw[if_pos (by rfl)]
   walk_at"l"
   rw[Ni]at h tells
   refine⟨⟨kp,bV,v,rl,b,no⟩,rfl,hv,Ft,Nn.here,?_⟩
   dsimp only
   by_cases hT:Wrlnsb.TEXT<b.length
   ·rw[if_pos hT]at tells⊢
    exact tells _ mQ rfl
   ·rw[if_neg hT]at tells h⊢
    cases sD:Ln.read b with
    |error f=>
     rw[sD]at tells
     exact tells _ mQ rfl
    |ok S=>
     rw[sD]at h
     intro H4 p sy k4 Fu hS hp gw
     obtain⟨gl,tl,gs,es,S4⟩:=hS
     refine h H4 p ⟨⟨sy,gl,tl,gs,es,S,no⟩,rfl,rfl,Fu,S4,LR.Qn sD⟩ ⟨?_,fV.2.1.keep k4,fV.2.2⟩ (vA.trans (g8.of_keep k4 λb hb xs e z=>bY e hv (λq=>by cases q) (List.mem_singleton.mp z))) (nb p hp) gw
     ·exact k4.eq _ _ fV.1 λz=>fP fV.1 hv (by decide +kernel) (List.mem_singleton.mp z)
  ·walk_at"l"
   rw[if_neg (by intro z;cases z)]
   walk_at"l"
   rw[if_pos (by rfl)]
   walk_at"l"
   rw[step_forget]at h
   refine⟨((kp,bV),v),rfl,hv,λH4 p k4 Fu hp gw=>?_⟩
   refine h H4 p Fu ⟨?_,fV.2.1.keep k4,fV.2.2⟩ (vA.trans (g8.of_keep k4 λb hb xs e z=>bY e hv (λq=>by cases q) (List.mem_singleton.mp z))) (nb p hp) gw
   ·exact k4.eq _ _ fV.1 λz=>fP fV.1 hv (by decide +kernel) (List.mem_singleton.mp z)
  ·walk_at"l"
   rw[if_neg (λz=>by have:=of_decide_eq_true z;omega)]
   walk_at"l"
   rw[if_neg (λz=>by have:=of_decide_eq_true z;omega)]
   cases st with
   |none=>
    rw[e2]at tells
    walk_at"l"
    refine rj mQ T.cj ?_
    walk_at"l"
    refine⟨rfl,?_⟩
    walk_at"l"
    rw[if_pos (by simp)]
    walk_at"l"
    exact⟨by show 1≤sizeLine;decide,(tells [-2] mQ rfl).lst (au.refl _) _ rfl⟩
   |some S=>
    rw[e1]at tells
    obtain⟨d,rfl,rfl,hk,hS,hG⟩:=id mQ
    walk_at"l"
    refine rj hk T.cj ?_
    walk_at"l"
    refine⟨rfl,?_⟩
    walk_at"l"
    rw[if_neg (by simp)]
    walk_at"l"
    rw[if_pos (decide_eq_true (by omega))]
    walk_at"l"
    refine rj hk T.cj ?_
    walk_at"l"
    exact⟨⟨d,c,wl,rl⟩,rfl,hS,hG,Nm,Ft,ak,tells _ mQ rfl⟩
  ·walk_at"l"
   rw[if_neg (λz=>by have:=of_decide_eq_true z;omega)]
   walk_at"l"
   rw[if_neg (λz=>by have:=of_decide_eq_true z;omega)]
   cases st with
   |none=>
    rw[e2]at tells
    walk_at"l"
    refine rj mQ T.cj ?_
    walk_at"l"
    refine⟨rfl,?_⟩
    walk_at"l"
    rw[if_pos (by simp)]
    walk_at"l"
    exact⟨by show 1≤sizeLine;decide,(tells [-2] mQ rfl).lst (au.refl _) _ rfl⟩
   |some S=>
    rw[e1]at h
    obtain⟨d,rfl,rfl,iN,Fv,hG⟩:=id Nl
    have hS:ey K A H3 d:=Fv.keep k3 λb hb=>.inr (by rw[List.mem_singleton.mp hb];exact⟨_,_,_,_,_,ca.1,by decide +kernel,by decide +kernel,by decide +kernel⟩)
    have hk:H3 kp=some (.ins A.cj bV (fw (.ref d.s))):=k3.eq _ _ iN λz=>fP iN ca.1 (by decide +kernel) (List.mem_singleton.mp z)
    walk_at"l"
    refine rj hk T.cj ?_
    walk_at"l"
    refine⟨rfl,?_⟩
    walk_at"l"
    rw[if_neg (by simp)]
    walk_at"l"
    rw[if_neg (λz=>by have:=of_decide_eq_true z;omega)]
    walk_at"l"
    refine rj hk T.cj ?_
    walk_at"l"
    refine⟨⟨d,c,wl,rl⟩,rfl,hS,hG,Nm,Ft,Ne.symm (cp Fv.ck pW),Ne.symm (cp Fv.bu pW),Nn.here,ek,Fq,λS' eS H4 p Eb gB k4 hp gw S4=>?_⟩
    obtain⟨S'',e3,g3⟩:=LR.aao hG ek
    rw[e3]at eS
    cases eS
    refine h H4 p ?_ ⟨k4.eq _ _ fV.1 (Nh hS fV.1 (by decide +kernel) (by decide +kernel)),fV.2.1.keep k4,fV.2.2⟩ (vA.trans (g8.of_keep k4 λb hb xs e=>aau hS e hb)) (nb p hp) gw
    rw[e3]
    exact⟨⟨d.s,d.gl,Eb,d.gs,gB,S',d.no⟩,rfl,rfl,k4.eq _ _ hk (Nh hS hk (by decide +kernel) (by decide +kernel)),S4,g3⟩
 ·intro tail
  walk_at"l"
  refine⟨f9 c,rfl,λH3 s3=>?_⟩
  walk_at"l"
  rw[aaw]
  have fV:=yK.same s3
  have yM:=Sf.d6 s3
  have Fw:=s3 _ _ Fs
  cases hB:hasB c with
  |true=>
   rw[if_pos rfl]
   unfold kQ at d2 hlen
   rw[if_pos hB]at d2 hlen
   rw[List.length_cons,List.length_map]at hlen
   have d3:cd.xs.drop (i+1+(f_ c).length+1)=((i6 c).map λ(c:UInt8)=>((c.toNat:Nat):Int))++t:=yL (a:=[((i6 c).length:Int)]) d2
   have hz3:cd.xs[i+1+(f_ c).length]?=some ((i6 c).length:Int):=by
    have q:(cd.xs.drop (i+1+(f_ c).length))[0]?=some ((i6 c).length:Int):=by rw[d2];rfl
    rw[List.getElem?_drop]at q
    exact q
   have tk:=Nj d3
   rw[List.length_map]at tk
   walk_at"l"
   refine aV fV.1 (VC _ _) ?_
   walk_at"l"
   refine⟨(cd,i+1+(f_ c).length,(i6 c).length),rfl,fV,hz3,by show i+1+(f_ c).length+1+(i6 c).length≤cd.xs.length;omega,λH4 p k4 pY hp gw=>?_⟩
   dsimp only at gw pY
   rw[tk,←MP]at gw
   refine tail _ _ ⟨p,rfl,yM.trans k4,?_,k4.eq _ _ Fw λz=>bY Fw fV.1 (λq=>by cases q) (List.mem_singleton.mp z),gw,ow yM (cin fV) hp⟩
   rw[show cd.xs.length-t.length=i+1+(f_ c).length+1+(i6 c).length by omega]
   exact pY
  |false=>
   rw[if_neg (by decide)]
   unfold kQ at hlen
   rw[hB,if_neg (by decide),List.length_nil]at hlen
   walk_at"l"
   refine⟨Nat.zero_le _,λp hp=>?_⟩
   have sp:=au.bc (o:=.lst []) hp
   refine tail _ _ ⟨p,rfl,yM.d6 sp,?_,sp _ _ Fw,by rw[aw,aax hB];rfl,ow yM (cin fV) hp⟩
   rw[show cd.xs.length-t.length=i+1+(f_ c).length by omega]
   exact fV.same sp
end
end LN
namespace LN
open PySem
open Ln (Bytes)
open WrlnsbNeutral (callOf asked1 text n_ whole32)
theorem aaz(c:List (List Int)):PyWrlnsb.whole c=c:=by
 unfold PyWrlnsb.whole
 split<;>rfl
theorem Fx(p:Int)(r:List Int):PyFlat.call PyWrlnsb.shape (p::r)=(match PyWrlnsb.shape p with
  |none=>none
  |some (n,k)=>if r.length<n then none else match PyFlat.rows k (r.drop n)with
   |none=>none
   |some (xs,t)=>some ((p::r.take n)::xs,t)):=rfl
theorem kR{p:Int}{r t:List Int}{n:Nat}{cc:List (List Int)}(hs:PyWrlnsb.shape p=some (n,0))(h:PyFlat.call PyWrlnsb.shape (p::r)=some (cc,t)):cc=[p::r.take n]∧t=r.drop n∧n≤r.length:=by
 rw[Fx,hs]at h
 dsimp only at h
 split at h
 ·cases h
 ·rename_i hl
  have h:some ((p::r.take n)::[],r.drop n)=some (cc,t):=h
  injection h with h
  injection h with h1 h2
  exact⟨h1.symm,h2.symm,Nat.le_of_not_lt hl⟩
theorem Fy{p:Int}{r t:List Int}{n:Nat}{cc:List (List Int)}(hs:PyWrlnsb.shape p=some (n,1))(h:PyFlat.call PyWrlnsb.shape (p::r)=some (cc,t)):∃row,cc=[p::r.take n,row]∧r.drop n=(row.length:Int)::(row++t)∧n≤r.length:=by
 rw[Fx,hs]at h
 dsimp only at h
 split at h
 ·cases h
 ·rename_i hl
  unfold PyFlat.rows at h
  cases hd:r.drop n with
  |nil=>
   rw[hd]at h
   cases h
  |cons m q=>
   rw[hd]at h
   unfold PyFlat.row at h
   dsimp only at h
   by_cases hm:0≤m∧m.toNat≤q.length
   ·rw[if_pos hm]at h
    have h:some ((p::r.take n)::[q.take m.toNat],q.drop m.toNat)=some (cc,t):=h
    injection h with h
    injection h with h1 h2
    refine⟨q.take m.toNat,h1.symm,?_,Nat.le_of_not_lt hl⟩
    rw[←h2,List.take_append_drop,List.length_take,Nat.min_eq_left hm.2,Int.toNat_of_nonneg hm.1]
   ·rw[if_neg hm]at h
    cases h
theorem Np:∀(row:List Int),(row.all λ(z:Int)=>decide (0≤z)&&decide (z≤255))=true→((text row).map λ(c:UInt8)=>((c.toNat:Nat):Int))=row
 |[],_=>rfl
 |z::r,h=>by
  rw[List.all_cons,Bool.and_eq_true,Bool.and_eq_true,decide_eq_true_eq,decide_eq_true_eq]at h
  have ih:=Np r h.2
  unfold text at ih⊢
  rw[List.map_cons,List.map_cons,ih]
  congr 1
  rw[UInt8.toNat_ofNat',Nat.mod_eq_of_lt (by show z.toNat<256;omega)]
  omega
theorem text_len(row:List Int):(text row).length=row.length:=by unfold text;rw[List.length_map]
theorem lM{z:Int}(h:whole32 z=true):((n_ z:Nat):Int)=z:=by
 unfold WrlnsbNeutral.whole32 at h
 rw[Bool.and_eq_true,decide_eq_true_eq,decide_eq_true_eq]at h
 show((z.toNat:Nat):Int)=z
 omega
theorem Fz{row t:List Int}{c:Wrlnsb.Call}(hb:hasB c=true)(e:i6 c=text row)(ha:(row.all λ(z:Int)=>decide (0≤z)&&decide (z≤255))=true):(row.length:Int)::(row++t)=kQ c++t:=by
 unfold kQ
 rw[if_pos hb,e,Np row ha,text_len]
 rfl
theorem aaA{l t:List Int}{cc:List (List Int)}(h:PyFlat.call PyWrlnsb.shape l=some (cc,t))(ha:asked1 cc=true):∃c,callOf cc=some c∧l=(f9 c:Int)::(f_ c++(kQ c++t))∧EZ c:=by
 cases l with
 |nil=>cases h
 |cons p r=>
  by_cases p0:p=0
  ·subst p0
   obtain⟨row,rfl,e,hl⟩:=Fy (n:=0) rfl h
   exact⟨.read (text row),rfl,by rw[←Fz (c:=.read (text row)) rfl rfl ha];exact congrArg (List.cons 0) e,trivial⟩
  by_cases p1:p=1
  ·subst p1
   obtain⟨rfl,rfl,hl⟩:=kR (n:=0) rfl h
   exact⟨.forget,rfl,rfl,trivial⟩
  by_cases p2:p=2
  ·subst p2
   obtain⟨rfl,rfl,hl⟩:=kR (n:=0) rfl h
   exact⟨.print,rfl,rfl,trivial⟩
  by_cases p3:p=3
  ·subst p3
   obtain⟨rfl,rfl,hl⟩:=kR (n:=0) rfl h
   exact⟨.count,rfl,rfl,trivial⟩
  by_cases p4:p=4
  ·subst p4
   obtain⟨rfl,rfl,hl⟩:=kR (n:=2) rfl h
   match r,hl with
   |a::b::r,_=>
    have q:(whole32 a&&whole32 b)=true:=ha
    rw[Bool.and_eq_true]at q
    exact⟨.name (n_ a) (n_ b),rfl,by show 4::a::b::r=4::((n_ a:Nat):Int)::((n_ b:Nat):Int)::r;rw[lM q.1,lM q.2],trivial⟩
  by_cases p5:p=5
  ·subst p5
   obtain⟨row,rfl,e,hl⟩:=Fy (n:=1) rfl h
   match r,hl with
   |a::r,_=>
    have q:(whole32 a&&(row.all λ(z:Int)=>decide (0≤z)&&decide (z≤255)))=true:=ha
    rw[Bool.and_eq_true]at q
    refine⟨.find (n_ a) (text row),rfl,?_,trivial⟩
    rw[←Fz (c:=.find (n_ a) (text row)) rfl rfl q.2]
    show 5::a::r=5::((n_ a:Nat):Int)::_
    rw[lM q.1]
    exact congrArg (λx=>(5:Int)::a::x) e
  by_cases p6:p=6
  ·subst p6
   obtain⟨rfl,rfl,hl⟩:=kR (n:=1) rfl h
   match r,hl with
   |a::r,_=>exact⟨.look (n_ a),rfl,by show 6::a::r=6::((n_ a:Nat):Int)::r;rw[lM ha],trivial⟩
  by_cases p7:p=7
  ·subst p7
   obtain⟨rfl,rfl,hl⟩:=kR (n:=1) rfl h
   match r,hl with
   |a::r,_=>exact⟨.index (n_ a),rfl,by show 7::a::r=7::((n_ a:Nat):Int)::r;rw[lM ha],trivial⟩
  by_cases p8:p=8
  ·subst p8
   obtain⟨rfl,rfl,hl⟩:=kR (n:=1) rfl h
   match r,hl with
   |a::r,_=>exact⟨.thing (n_ a),rfl,by show 8::a::r=8::((n_ a:Nat):Int)::r;rw[lM ha],trivial⟩
  by_cases p9:p=9
  ·subst p9
   obtain⟨row,rfl,e,hl⟩:=Fy (n:=1) rfl h
   match r,hl with
   |a::r,_=>
    have q:(whole32 a&&(row.all λ(z:Int)=>decide (0≤z)&&decide (z≤255)))=true:=ha
    rw[Bool.and_eq_true]at q
    refine⟨.put (n_ a) (text row),rfl,?_,trivial⟩
    rw[←Fz (c:=.put (n_ a) (text row)) rfl rfl q.2]
    show 9::a::r=9::((n_ a:Nat):Int)::_
    rw[lM q.1]
    exact congrArg (λx=>(9:Int)::a::x) e
  by_cases Nq:p=10
  ·subst Nq
   obtain⟨rfl,rfl,hl⟩:=kR (n:=1) rfl h
   match r,hl with
   |a::r,_=>exact⟨.drop (n_ a),rfl,by show 10::a::r=10::((n_ a:Nat):Int)::r;rw[lM ha],trivial⟩
  by_cases Nr:p=11
  ·subst Nr
   obtain⟨rfl,rfl,hl⟩:=kR (n:=4) rfl h
   match r,hl with
   |a::b::u::v::r,_=>
    have q:(whole32 a&&(whole32 b&&((decide (-9223372036854775808≤u)&&decide (u≤9223372036854775807))&&WrlnsbNeutral.natural v 63)))=true:=ha
    rw[Bool.and_eq_true,Bool.and_eq_true,Bool.and_eq_true]at q
    have qv:=q.2.2.2
    unfold WrlnsbNeutral.natural at qv
    rw[Bool.and_eq_true,decide_eq_true_eq,decide_eq_true_eq]at qv
    have ev:((n_ v:Nat):Int)=v:=Int.toNat_of_nonneg qv.1
    exact⟨.set (n_ a) (n_ b) u (n_ v),rfl,by show 11::a::b::u::v::r=11::((n_ a:Nat):Int)::((n_ b:Nat):Int)::u::((n_ v:Nat):Int)::r;rw[lM q.1,lM q.2.1,ev],by show n_ v<2^63;have:=qv.2;omega⟩
  by_cases Nt:p=12
  ·subst Nt
   obtain⟨rfl,rfl,hl⟩:=kR (n:=2) rfl h
   match r,hl with
   |u::v::r,_=>
    have q:((decide (-9223372036854775808≤u)&&decide (u≤9223372036854775807))&&WrlnsbNeutral.natural v 63)=true:=ha
    rw[Bool.and_eq_true,Bool.and_eq_true,decide_eq_true_eq,decide_eq_true_eq]at q
    have qv:=q.2
    unfold WrlnsbNeutral.natural at qv
    rw[Bool.and_eq_true,decide_eq_true_eq,decide_eq_true_eq]at qv
    have ev:((n_ v:Nat):Int)=v:=Int.toNat_of_nonneg qv.1
    exact⟨.scale u (n_ v),rfl,by show 12::u::v::r=12::u::((n_ v:Nat):Int)::r;rw[ev],by constructor<;>(have:=qv.2;omega)⟩
  by_cases Nu:p=13
  ·subst Nu
   obtain⟨rfl,rfl,hl⟩:=kR (n:=0) rfl h
   exact⟨.reverse,rfl,rfl,trivial⟩
  exfalso
  have hs:PyWrlnsb.shape p=none:=by
   unfold PyWrlnsb.shape
   rw[if_neg p0,if_neg p1,if_neg p2,if_neg p3,if_neg p4,if_neg p5,if_neg p6,if_neg p7,if_neg p8,if_neg p9,if_neg Nq,if_neg Nr,if_neg Nt,if_neg Nu]
  rw[Fx,hs]at h
  cases h
theorem FC(s t:Ln.System_):(WrlnsbNeutral.told (Wrlnsb.changed s t).2).length≤40002:=by
 unfold Wrlnsb.changed
 split
 ·show 1≤40002;decide
 ·show 1≤40002;decide
theorem aaB{S:Ln.System_}(g:LR.Good S)(c:Wrlnsb.Call):(WrlnsbNeutral.told (Wrlnsb.tell S c)).length≤40002:=by
 have nm:∀{b:Bytes},b.length≤40000→(WrlnsbNeutral.told (.bytes b)).length≤40002:=λ{b} h=>by
  show(b.map _).length+1+1≤40002
  rw[List.length_map];omega
 have sE:(WrlnsbNeutral.told (Wrlnsb.no (-1))).length≤40002:=by decide
 cases c with
 |print=>exact nm (LR.Jb g)
 |count=>show 4≤40002;decide
 |name a b=>
  rw[MX]
  unfold Wrlnsb.names
  split
  ·rename_i x hx
   refine nm (Nat.le_trans (m:=32) ?_ (by decide))
   split at hx
   ·have hx:(S.glasses.map λg=>g.name)[b]?=some x:=hx
    rw[List.getElem?_map]at hx
    obtain⟨y,hy,rfl⟩:=Option.map_eq_some_iff.mp hx
    exact(g.glasses y (List.mem_of_getElem? hy)).name.1
   ·split at hx
    ·have hx:(S.elems.map λg=>g.name)[b]?=some x:=hx
     rw[List.getElem?_map]at hx
     obtain⟨y,hy,rfl⟩:=Option.map_eq_some_iff.mp hx
     exact(g.elems y (List.mem_of_getElem? hy)).name.1
    ·cases hx
  ·exact sE
 |find a b=>
  rw[MW]
  split
  ·exact sE
  ·split
   ·show 2≤40002;decide
   ·show 1≤40002;decide
 |look a=>
  rw[MY]
  split
  ·rw[sr,M1,List.length_append,pX]
   show 3+2*4≤40002;decide
  ·exact sE
 |index a=>
  rw[MZ]
  split
  ·rename_i x hx
   obtain⟨a,b,c,e,_⟩:=(g.glasses x (List.mem_of_getElem? hx)).index
   rw[sr,e,List.length_append,pX]
   show 1+2*3≤40002;decide
  ·exact sE
 |thing a=>
  rw[M0]
  split
  ·exact sE
  ·rw[sr,List.length_append,pX]
   show 2+2*((Ln.indices S a++Ln.indices S (a+1)).length+1)≤40002
   unfold Ln.indices Ln.LINES
   rw[List.length_append,List.length_map,List.length_map,List.length_range]
   decide
 |_=>exact sE
theorem aaC{st:Wrlnsb.State}(g:∀S,st=some S→LR.Good S)(c:Wrlnsb.Call):(WrlnsbNeutral.told (Wrlnsb.step st c).2).length≤40002:=by
 rcases classify c with⟨b,rfl⟩|rfl|⟨ak,yg,k8,e1,e2⟩|⟨ek,k8,e1,e2⟩
 ·rw[Ni]
  split
  ·show 1≤40002;decide
  ·split
   ·show 2≤40002;decide
   ·show 3≤40002;decide
 ·rw[step_forget];show 1≤40002;decide
 ·cases st with
  |none=>rw[e2];show 1≤40002;decide
  |some S=>rw[e1];exact aaB (g S rfl) c
 ·cases st with
  |none=>rw[e2];show 1≤40002;decide
  |some S=>
   rw[e1]
   cases c with
   |put a b=>
    rw[Er]
    split
    ·show 1≤40002;decide
    ·split
     ·show 1≤40002;decide
     ·show 3≤40002;decide
   |drop a=>
    rw[Ef]
    split
    ·show 1≤40002;decide
    ·exact FC _ _
   |set a b p q=>
    rw[rY]
    split
    ·show 1≤40002;decide
    ·split
     ·show 1≤40002;decide
     ·split
      ·show 1≤40002;decide
      ·exact FC _ _
   |scale p q=>
    rw[Ek]
    split
    ·show 1≤40002;decide
    ·exact FC _ _
   |reverse=>show 1≤40002;decide
   |_=>cases ek
end LN
namespace LN
open PySem PySem.Spec PyProof.Rows L2 LX
def aaD(K:PySem.W.Frag)(A:Ad):Sp:=aU (λ(d:Addr×List Int)=>[.ref d.1]) λd H Q _=>kP K H d.1 (d.2.map V.int)∧PyWrlnsb.answers_asked d.2=true∧∀U p,U p=some (.lst ((PyWrlnsb.answers d.2).map V.int))→Q (.ref p) U
theorem aaE{xs:List Int}(h:PyWrlnsb.answers_asked xs=true):∃cs,PyFlat.calls PyWrlnsb.shape xs.length xs=some cs∧PyWrlnsb.answers xs=PyFlat.told (PyFlat.played WrlnsbNeutral.step WrlnsbNeutral.start cs)∧cs.length≤400∧cs.all WrlnsbNeutral.asked1=true:=by
 unfold PyWrlnsb.answers_asked PyWrlnsb.calls at h
 unfold PyWrlnsb.answers PyWrlnsb.calls
 cases hc:PyFlat.calls PyWrlnsb.shape xs.length xs with
 |none=>rw[hc]at h;cases h
 |some cs=>
  rw[hc]at h
  have e:cs.map PyWrlnsb.whole=cs:=by
   rw[show(PyWrlnsb.whole:List (List Int)→List (List Int))=id from funext aaz,List.map_id]
  have h:(PyFlat.atMost 400 (cs.map PyWrlnsb.whole)&&WrlnsbNeutral.asked (cs.map PyWrlnsb.whole))=true:=h
  rw[e,Bool.and_eq_true]at h
  unfold PyFlat.atMost WrlnsbNeutral.asked at h
  rw[Bool.and_eq_true,decide_eq_true_eq]at h
  refine⟨cs,rfl,?_,h.1,h.2.1⟩
  show PyFlat.told (PyFlat.played WrlnsbNeutral.step WrlnsbNeutral.start (cs.map PyWrlnsb.whole))=_
  rw[e]
theorem aaF{f:Nat}{p:Int}{r:List Int}{cs:List (List (List Int))}(h:PyFlat.calls PyWrlnsb.shape f (p::r)=some cs):∃f' cc t pZ,PyFlat.call PyWrlnsb.shape (p::r)=some (cc,t)∧PyFlat.calls PyWrlnsb.shape f' t=some pZ∧cs=cc::pZ:=by
 cases f with
 |zero=>cases h
 |succ f=>
  have h:(match PyFlat.call PyWrlnsb.shape (p::r)with
   |none=>none
   |some (c,t)=>match PyFlat.calls PyWrlnsb.shape f t with
    |none=>none
    |some cs=>some (c::cs))=some cs:=h
  cases hc:PyFlat.call PyWrlnsb.shape (p::r)with
  |none=>rw[hc]at h;cases h
  |some y=>
   obtain⟨cc,t⟩:=y
   rw[hc]at h
   dsimp only at h
   cases hd:PyFlat.calls PyWrlnsb.shape f t with
   |none=>rw[hd]at h;cases h
   |some pZ=>
    rw[hd]at h
    injection h with h
    exact⟨f,cc,t,pZ,rfl,hd,h.symm⟩
theorem aaG{f:Nat}{cs:List (List (List Int))}(h:PyFlat.calls PyWrlnsb.shape f []=some cs):cs=[]:=by
 cases f with
 |zero=>injection h with h;exact h.symm
 |succ f=>injection h with h;exact h.symm
theorem aaH{st:Wrlnsb.State}{cc:List (List Int)}{c:Wrlnsb.Call}(h:WrlnsbNeutral.callOf cc=some c)(cs:List (List (List Int))):PyFlat.told (PyFlat.played WrlnsbNeutral.step st (cc::cs))=((WrlnsbNeutral.told (Wrlnsb.step st c).2).length:Int)::(WrlnsbNeutral.told (Wrlnsb.step st c).2++PyFlat.told (PyFlat.played WrlnsbNeutral.step (Wrlnsb.step st c).1 cs)):=by
 have e:WrlnsbNeutral.step st cc=((Wrlnsb.step st c).1,WrlnsbNeutral.told (Wrlnsb.step st c).2):=by
  unfold WrlnsbNeutral.step
  rw[h]
 show PyFlat.told ((WrlnsbNeutral.step st cc).2::PyFlat.played WrlnsbNeutral.step (WrlnsbNeutral.step st cc).1 cs)=_
 rw[e]
 unfold PyFlat.told
 rw[List.flatMap_cons]
 rfl
section
variable{K:PySem.W.Frag}{A:Ad}{H U:Hp}{kp bV tl:Addr}{no:List Addr}{st:Wrlnsb.State}{xs:List V}
theorem gQ.aaI(h:gQ K A H kp bV no st)(m:tl∈no)(ht:H tl=some (.lst xs))(k:ax [tl] H U):gQ K A U kp bV no st:=by
 have vz:∀v,H kp=some (.ins A.cj bV (fw v))→U kp=some (.ins A.cj bV (fw v)):=λv hv=>k.eq _ _ hv λz=>bY hv ht (λq=>by cases q) (List.mem_singleton.mp z)
 cases st with
 |none=>exact vz _ h
 |some S=>
  obtain⟨d,e1,e2,h1,h2,h3⟩:=h
  exact⟨d,e1,e2,vz _ h1,h2.keep k λb hb=>.inl (by rw[List.mem_singleton.mp hb,e2];exact⟨m,_,ht⟩),h3⟩
theorem gQ.good(h:gQ K A H kp bV no st):∀S,st=some S→LR.Good S:=λS e=>by
 subst e
 obtain⟨d,e1,e2,h1,h2,h3⟩:=h
 exact h3
end
section
variable{P:Program}{w:World}{K:PySem.W.Frag}{mg:Str→Option Value}{base:Heap}{A:Ad}
theorem aaJ{fA:Addr}{Nv:FuncData}(T:Txt K mg A)(F:jw K "answers" "answers" mh fA Nv)(FE:Maker P w K mg base ao 1 A.cj "Kept" ["self"] (M4 A))(FG:Maker P w K mg base ao 1 A.bE "Calls" ["self","numbers"] (M5 A))(FH:aP P w K mg base ao 1 A.bE "at_end" ["self"] (M6 K A))(FI:Callee P w K mg base ao 17 "next_answer" ["kept","calls"] (Ng K A)):fH P w K mg base ao 18 fA Nv ["calls"] (aaD K A):=by
 refine F.ok uE (λvs H Q E h=>?_) (λay Ar outer s H vs Q E hr h=>?_)
 ·obtain⟨d,rfl,_⟩:=h
  rfl
 obtain⟨d,rfl,h⟩:=h
 obtain⟨nl,xs⟩:=d
 obtain⟨hnl,aaK,h⟩:=h
 dsimp only at*
 obtain⟨FJ,aaL,oE,hlen,gy⟩:=aaE aaK
 refine⟨_,(af (a9 (i:=1) uE.nd rfl (Or.inl rfl) (AW FE (hr.mono (by decide)) aD))
   (af (a9 (i:=2) uE.nd rfl (Or.inl rfl) (lu FG (hr.mono (by decide)) aD (aa (pv 0) ae)))
   (af (a9 (i:=3) uE.nd rfl (Or.inl rfl) (bK ae))
   (af (mX PassesOwn.never (y8 (iu (d_ (pv 2) T.bE.cl FH (hr.mono (by decide)) aD))) (af (a9 (i:=4) uE.nd rfl (Or.inl rfl) (aT FI (hr.mono (by decide)) aD (aa (pv 1) (aa (pv 2) ae))))
   (af (bq (gT PySem.F.plainAttrs_list PySem.F.slot_list_append PySem.F.type_list_append ni (pv 3) (aa (eB fK (by rfl) T.fO PySem.boot_len (aa (pv 4) ae)) ae)))
   (ai (bq (gT PySem.F.plainAttrs_list PySem.F.slot_list_extend PySem.F.type_list_extend wa (pv 3) (aa (pv 4) ae)))))))
   (ai (aH (pv 3))))))),?_⟩
 show ba _ _ _ [some (.ref nl),none,none,none,none] H
 walk_at"l"
 intro kp bV nk ndk nek
 refine⟨(kp,bV),rfl,aw,rfl,?_⟩
 rw[pC]
 have s1:=kx (o:=.ins A.cj bV (fw .aJ)) nk ndk
 have sC:ie H kp bV (.ins A.cj bV (fw .aJ)) kp=some (.ins A.cj bV (fw .aJ)):=pB
 dsimp only
 generalize ie H kp bV (.ins A.cj bV (fw .aJ))=H1 at s1 sC
 walk_at"l"
 intro c kS nc ndc nec
 refine⟨((c,kS),.ref nl),rfl,aw,rfl,?_⟩
 rw[pC]
 have s2:=kx (o:=.ins A.bE kS (gY (.ref nl) (.int 0))) nc ndc
 have Nw:ie H1 c kS (.ins A.bE kS (gY (.ref nl) (.int 0))) c=some (.ins A.bE kS (gY (.ref nl) (.int 0))):=pB
 dsimp only
 generalize ie H1 c kS (.ins A.bE kS (gY (.ref nl) (.int 0)))=H2 at s2 Nw
 walk_at"l"
 refine⟨Nat.zero_le _,λtl iS=>?_⟩
 have s3:=au.bc (o:=.lst []) iS
 have Ny:f7 K A (upd H2 tl (.lst [])) ⟨c,kS,nl,xs⟩ 0:=⟨s3 _ _ Nw,((hnl.same s1).same s2).same s3,Nat.zero_le _⟩
 have Nz:gQ K A (upd H2 tl (.lst [])) kp bV [tl] none:=s3 _ _ (s2 _ _ sC)
 have NB:upd H2 tl (.lst []) tl=some (.lst (([]:List Int).map V.int)):=aw
 generalize upd H2 tl (.lst [])=H3 at Ny Nz NB
 walk_at"l"
 refine nY (λm σ U=>∃(v4:Option V) (i:Nat) (st:Wrlnsb.State) (acc:List Int) (cs:List (List (List Int))) (ff:Nat),σ=[some (.ref nl),some (.ref kp),some (.ref c),some (.ref tl),v4]∧gQ K A U kp bV [tl] st∧f7 K A U ⟨c,kS,nl,xs⟩ i∧U tl=some (.lst (acc.map V.int))∧
   PyFlat.calls PyWrlnsb.shape ff (xs.drop i)=some cs∧cs.all WrlnsbNeutral.asked1=true∧acc++PyFlat.told (PyFlat.played WrlnsbNeutral.step st cs)=PyWrlnsb.answers xs∧acc.length+40003*cs.length≤16001200∧m=cs.length) (m:=FJ.length)
  ⟨none,0,none,[],FJ,xs.length,rfl,Nz,Ny,NB,aaL,gy,oE.symm,by show 0+40003*FJ.length≤16001200;omega,rfl⟩ ?_
 rintro m σ H4 ⟨v4,i,st,acc,cs,ff,rfl,NC,pY,oj,yN,gy,oE,hlen,rfl⟩
 walk_at"l"
 refine aV pY.1 (VB _ _) ?_
 walk_at"l"
 refine⟨(⟨c,kS,nl,xs⟩,i),rfl,pY,?_⟩
 dsimp only
 walk_at"l"
 have il:i≤xs.length:=pY.2.2
 by_cases hi:i=xs.length
 ·rw[decide_eq_true hi,if_neg (by decide)]
  have hd:xs.drop i=[]:=by rw[hi];exact List.drop_length
  rw[hd]at yN
  have e:=aaG yN
  subst e
  have oE:acc++[]=PyWrlnsb.answers xs:=oE
  rw[List.append_nil]at oE
  walk_at"l"
  exact h H4 tl (by rw[←oE];exact oj)
 ·rw[decide_eq_false hi,if_pos (by decide)]
  refine⟨_,λ_ _ q=>q,?_⟩
  obtain⟨p,r,kO⟩:∃p r,xs.drop i=p::r:=by
   cases hx:xs.drop i with
   |nil=>rw[List.drop_eq_nil_iff]at hx;omega
   |cons p r=>exact⟨p,r,rfl⟩
  rw[kO]at yN
  obtain⟨f',cc,t,pZ,aaM,aaN,rfl⟩:=aaF yN
  rw[List.all_cons,Bool.and_eq_true]at gy
  obtain⟨cl,iA,aaO,Fq⟩:=aaA aaM gy.1
  rw[aaH iA]at oE
  have hd:xs.drop i=(f9 cl:Int)::(f_ cl++(kQ cl++t)):=kO.trans aaO
  have hl:=aaC NC.good cl
  rw[List.length_cons]at hlen
  walk_at"l"
  refine⟨⟨kp,bV,⟨c,kS,nl,xs⟩,i,st,[tl],cl,t⟩,rfl,NC,pY,λb hb=>⟨_,(List.mem_singleton.mp hb)▸oj⟩,hd,Fq,λH5 q w_ vB g_ hq qT=>?_⟩
  dsimp only at w_ vB g_ qT
  have om:=g_ tl (List.mem_singleton.mpr rfl) _ oj
  have nq:q≠tl:=λz=>by rw[z,oj]at hq;cases hq
  walk_at"l"
  refine⟨.inl ⟨rfl,_,ah.of om⟩,?_⟩
  walk_at"l"
  refine⟨_,_,rfl,.inl (ah.of qT),?_⟩
  walk_at"l"
  refine nP om (by rw[List.length_map,show sizeLine=16777216 from sizeLine_eq];omega) ?_
  walk_at"l"
  have k6:ax [tl] H5 (upd H5 tl (.lst (acc.map V.int++[.int (((WrlnsbNeutral.told (Wrlnsb.step st cl).2).map V.int).length:Nat)]))):=fz om
  refine⟨.inl ⟨rfl,_,ah.of aw⟩,?_⟩
  walk_at"l"
  refine xy aw (by rw[aG nq];exact qT) ?_ ?_
  ·rw[List.length_append,List.length_map,List.length_map,show sizeLine=16777216 from sizeLine_eq]
   show acc.length+1+_≤_
   omega
  rw[eP]
  have k7:=fz (o:=.lst (acc.map V.int++[.int (((WrlnsbNeutral.told (Wrlnsb.step st cl).2).map V.int).length:Nat)]++(WrlnsbNeutral.told (Wrlnsb.step st cl).2).map V.int)) om
  have hlx:=Nk hd
  rw[List.length_cons,List.length_append,List.length_append]at hlx
  refine⟨pZ.length,by rw[List.length_cons];omega,_,xs.length-t.length,(Wrlnsb.step st cl).1,acc++(((WrlnsbNeutral.told (Wrlnsb.step st cl).2).length:Int)::WrlnsbNeutral.told (Wrlnsb.step st cl).2),pZ,f',rfl,w_.aaI (List.mem_singleton.mpr rfl) om k7,⟨k7.eq _ _ vB.1 λz=>bY vB.1 om (λq=>by cases q) (List.mem_singleton.mp z),vB.2.1.keep k7,vB.2.2⟩,?_,?_,gy.2,?_,?_,rfl⟩
  ·rw[aw,List.map_append,List.length_map,List.append_assoc]
   rfl
  ·have e:xs.drop (i+((f9 cl:Int)::(f_ cl++kQ cl)).length)=t:=yL (by rw[hd];simp only[List.cons_append,List.append_assoc])
   rw[List.length_cons,List.length_append]at e
   rw[show xs.length-t.length=i+((f_ cl).length+(kQ cl).length+1) by omega,e]
   exact aaN
  ·rw[←oE,List.append_assoc]
   rfl
  ·rw[List.length_append,List.length_cons]
   omega
end
end LN
namespace LN
open PySem PySem.Spec PyProof.Rows L2 LX
open Ln (number value)
theorem fin(P:Program)(w:World)(K:PySem.W.Frag)(mg:Str→Option Value)(fa eN eE aQ bf bG aj aS cj bE bz mm px nX rk rm:Addr)(f:Facts K mg eN eE aQ bf bG aj aS cj bE bz mm px nX rk rm)(hfa:mg "answers"=some (.ref fa)):Goal P w K mg fa:=by
 obtain⟨_,Nv,FA,bA,e⟩:=f.ans
 cases hfa.symm.trans e
 obtain⟨fF,fdF,FF,xF,mF,bF⟩:=f.vE
 refine⟨Nv,bA,λbase _ _=>?_⟩
 let A:Ad:=⟨eN,eE,aQ,bf,bG,aj,aS,cj,bE,bz,mm,px,nX,rk,rm⟩
 have GF:jj P w K mg base A:=⟨fF,_,xF,Wo FF xF,mF,bF⟩
 exact
  have C7:=Wf (P:=P) (w:=w) (base:=base) f.ac9
  have gM:=Wg (P:=P) (w:=w) (base:=base) f.T f.ael C7
  have rG:=Wh (P:=P) (w:=w) (base:=base) f.negative
  have rK:=Wi (P:=P) (w:=w) (base:=base) f.inverse
  have rV:=Wj (P:=P) (w:=w) (base:=base) f.plus gM
  have vh:=Wk (P:=P) (w:=w) (base:=base) f.times gM
  have mI:=Wl (P:=P) (w:=w) (base:=base) f.T f.aem
  have jk:=Wq (P:=P) (w:=w) (base:=base) f.T f.Token
  have rE:=Ws (P:=P) (w:=w) (base:=base) f.T f.spelled
  have iG:=Wt (P:=P) (w:=w) (base:=base) f.T f.byte_at
  have jE:=Wu (P:=P) (w:=w) (base:=base) f.aen
  have rB:=Wv (P:=P) (w:=w) (base:=base) f.T f.aeo
  have rD:=Ww (P:=P) (w:=w) (base:=base) f.aep rB jE
  have Dk:=Wx (P:=P) (w:=w) (base:=base) f.T f.aeq
  have Dr:=WB (P:=P) (w:=w) (base:=base) f.T f.aer iG Dk
  have Dm:=WE (P:=P) (w:=w) (base:=base) f.aes iG rD
  have xW:=WG (P:=P) (w:=w) (base:=base) f.aet iG jE
  have Ds:=WH (P:=P) (w:=w) (base:=base) f.T GF f.aeu Dm rE jk
  have Dn:=WI (P:=P) (w:=w) (base:=base) f.T f.aev gM
  have Dt:=WJ (P:=P) (w:=w) (base:=base) f.T GF f.aew xW iG jE rD Dn jk
  have Du:=WL (P:=P) (w:=w) (base:=base) f.T GF f.aex jk
  have Dz:=WN (P:=P) (w:=w) (base:=base) f.T f.aey Dr rB jE Ds Dt Du jk
  have mB:=WR (P:=P) (w:=w) (base:=base) f.T f.aez
  have rR:=WU (P:=P) (w:=w) (base:=base) f.T f.Reader
  have fQ:=WV (P:=P) (w:=w) (base:=base) f.T f.aeA Dz
  have rF:=WW (P:=P) (w:=w) (base:=base) f.T GF f.aeB fQ
  have jF:=WX (P:=P) (w:=w) (base:=base) f.T f.aeC rF
  have dH:=WY (P:=P) (w:=w) (base:=base) f.T f.aeD jF
  have mz:=W0 (P:=P) (w:=w) (base:=base) f.T GF f.aeE rF
  have jn:=W2 (P:=P) (w:=w) (base:=base) f.T GF f.aeF fQ jF dH gM
  have rJ:=W8 (P:=P) (w:=w) (base:=base) f.T f.aeG fQ dH jn rG
  have DQ:=W9 (P:=P) (w:=w) (base:=base) f.T f.aeH fQ dH rJ
  have DR:=W_ (P:=P) (w:=w) (base:=base) f.T f.aeI fQ dH jn mz
  have DP:=Xa (P:=P) (w:=w) (base:=base) f.T f.aeJ jF rJ mz rK
  have DI:=Xd (P:=P) (w:=w) (base:=base) f.T f.Glass
  have DS:=Xe (P:=P) (w:=w) (base:=base) f.T f.Element
  have DY:=Xf (P:=P) (w:=w) (base:=base) f.T f.System
  have rL:=Xg (P:=P) (w:=w) (base:=base) f.T GF f.aeK dH mB
  have rM:=Xh (P:=P) (w:=w) (base:=base) f.T GF f.aeL dH mB
  have yf:=Xm (P:=P) (w:=w) (base:=base) f.T GF f.aeM dH rL jn mz DI
  have DZ:=XE (P:=P) (w:=w) (base:=base) f.T f.aeN fQ yf
  have D0:=XH (P:=P) (w:=w) (base:=base) f.T f.aeO dH rM
  have rP:=XN (P:=P) (w:=w) (base:=base) f.T GF f.aeP dH jF rL jn rM DP DQ DR DS
  have D1:=Ye (P:=P) (w:=w) (base:=base) f.T f.aeQ fQ rP
  have Fi:=Yh (P:=P) (w:=w) (base:=base) f.T f.aeR rR DY DZ D0 D1
  have Es:=Yk (P:=P) (w:=w) (base:=base) f.T f.aeS rR rP dH
  have rX:=Ym (P:=P) (w:=w) (base:=base) f.T f.aeT
  have mF:=Yo (P:=P) (w:=w) (base:=base) f.T f.aeU
  have rW:=Yp (P:=P) (w:=w) (base:=base) f.T f.along
  have ET:=Yt (P:=P) (w:=w) (base:=base) f.T f.aeV mF rV rW
  have EU:=Yw (P:=P) (w:=w) (base:=base) f.T f.aeW rX mF rW
  have Ec:=YD (P:=P) (w:=w) (base:=base) f.T f.aeX
  have Ed:=YE (P:=P) (w:=w) (base:=base) f.T f.give
  have Ff:=YF (P:=P) (w:=w) (base:=base) f.T f.aeY gM Ec mI Ed
  have Fe:=YL (P:=P) (w:=w) (base:=base) f.T f.drop rV mI
  have El:=YV (P:=P) (w:=w) (base:=base) f.T f.scaled vh rK
  have Em:=YZ (P:=P) (w:=w) (base:=base) f.T f.aeZ mI
  have Fg:=Y3 (P:=P) (w:=w) (base:=base) f.T f.scale gM El Em
  have Fd:=Y8 (P:=P) (w:=w) (base:=base) f.T GF f.put Es
  have Fh:=Zi (P:=P) (w:=w) (base:=base) f.T f.ae0 rX mF rG
  have EL:=Zs (P:=P) (w:=w) (base:=base) f.T f.Form
  have lK:=Zt (P:=P) (w:=w) (base:=base) f.T f.ae1
  have eL:=Zv (P:=P) (w:=w) (base:=base) f.T f.ae2 rE
  have mL:=Zy (P:=P) (w:=w) (base:=base) f.T f.ae3 eL
  have pS:=Zz (P:=P) (w:=w) (base:=base) f.T f.ae4 eL mL
  have EH:=ZC (P:=P) (w:=w) (base:=base) f.T f.ae5 eL pS
  have EM:=ZD (P:=P) (w:=w) (base:=base) f.T f.ae6 eL lK mL
  have EN:=ZM (P:=P) (w:=w) (base:=base) f.T f.ae7 eL lK mL EH pS
  have E3:=ZR (P:=P) (w:=w) (base:=base) f.T f.ae8 EL EM eL lK EN
  have sv:=Z3 (P:=P) (w:=w) (base:=base) f.T f.ae9
  have E4:=Z4 (P:=P) (w:=w) (base:=base) f.T f.count
  have su:=Z5 (P:=P) (w:=w) (base:=base) f.T f.afa
  have E7:=Z6 (P:=P) (w:=w) (base:=base) f.T f.afb su sv
  have E8:=Z7 (P:=P) (w:=w) (base:=base) f.T f.find su mB
  have mP:=Z9 (P:=P) (w:=w) (base:=base) f.T f.afc
  have E_:=Z_ (P:=P) (w:=w) (base:=base) f.T f.look mP
  have Fb:=aaa (P:=P) (w:=w) (base:=base) f.T f.afd mP
  have Fc:=aab (P:=P) (w:=w) (base:=base) f.T f.afe ET mP EU
  have FE:=aad (P:=P) (w:=w) (base:=base) f.T f.Kept
  have FG:=aae (P:=P) (w:=w) (base:=base) f.T f.Calls
  have FH:=aaf (P:=P) (w:=w) (base:=base) f.T f.aff
  have sx:=aag (P:=P) (w:=w) (base:=base) f.T f.afg
  have sA:=aah (P:=P) (w:=w) (base:=base) f.T f.afh
  have Fl:=aai (P:=P) (w:=w) (base:=base) f.T f.afi sx sA
  have Fj:=aak (P:=P) (w:=w) (base:=base) f.T f.afj
  have Fo:=aal (P:=P) (w:=w) (base:=base) f.T f.asked sv E3 E4 E7 E8 E_ Fb Fc
  have Fp:=aam (P:=P) (w:=w) (base:=base) f.T f.afk Fd Fe Ff Fg Fh
  have Fn:=aaq (P:=P) (w:=w) (base:=base) f.T f.forget
  have Fm:=aar (P:=P) (w:=w) (base:=base) f.T GF f.read Fi
  have FI:=aay (P:=P) (w:=w) (base:=base) f.T f.afl sx sA Fj Fl Fm Fn Fo Fp
  have acL:=aaJ (P:=P) (w:=w) (base:=base) f.T FA FE FG FH FI
  acL
end LN
open PySem PySem.W PyProof.Rows
set_option maxRecDepth 100000 in
set_option maxHeartbeats 0 in
theorem PySem.Challenge.cw_lensrows_s01_answers_holds : PySem.Challenge.rw_lensrows_s01_answers.Holds := by
  w_on; k_headS; (case hw => exact ⟨[.list []], by decide +kernel, by decide +kernel⟩)
  k_fillS
  refine L2.ad1 (r := PySem.Challenge.rw_lensrows_s01_answers) (k := 18) (CX := L2.ao) (ps := ["calls"]) (sp := LN.aba) (by decide +kernel) rfl rfl ⟨rfl, by decide, by decide⟩ (fun w h Y => PySem.W.kIn_of Y) ?F ?S (fun _ _ _ _ z => z)
  case F =>
    intro w mg fa h Y KX G hmg
    refine' LN.afp LN.fin hmg ?hza1 ?hza2 ?hza3 ?hza4 ?hza5 ?hza6 ?hza7 ?hza8 ?hza9 ?hza10 ?hza11 ?hza12 ?hza13 ?hza14 ?hza15 ?hzz
    case hza1 | hza2 | hza3 | hza4 | hza5 | hza6 | hza7 | hza8 | hza9 | hza10 | hza11 | hza12 | hza13 | hza14 | hza15 => k_is
    case hzz =>
      constructor
      case T =>
        constructor
        all_goals first
          | exact ⟨_, PySem.W.mg_of KX G (by k_is), ⟨_, rfl⟩⟩
          | exact PySem.W.mg_none_of KX G (by k_is)
          | (dsimp only; exact ⟨_, PySem.W.mg_of KX G (by k_is), rfl⟩)
          | (dsimp only; intro _; exact .inr ⟨_, _, _, (by k_is), (by rfl), (by rfl), (by first | (show 2 ≤ sizeLine; decide) | (show 3 ≤ sizeLine; decide) | (show 4 ≤ sizeLine; decide) | (show 5 ≤ sizeLine; decide) | (show 12 ≤ sizeLine; decide) | (show 14 ≤ sizeLine; decide)), (by repeat (first | exact .nil | refine .cons ⟨_, rfl⟩ ?_))⟩)
          | (dsimp only; refine ⟨⟨by k_is, by k_is, by k_is, by k_is⟩, ?_⟩; simp only [List.mem_cons, List.mem_nil_iff, or_false, forall_eq_or_imp, forall_eq]; (repeat' apply And.intro) <;> (show PySem.W.findIn _ _ _ = _; k_is))
          | (dsimp only; exact ⟨_, (by k_is), (by rfl), (by rfl)⟩)
      all_goals first
        | (refine' LN.ad4 KX G ?hza ?hzl ?hzc ?hzk ?hzb; (case hza => k_is); (case hzl => k_is); (case hzc => k_is); (case hzk => k_is); (case hzb => (intro _ _ _ _ _ _ us hl; first | exact (match us, hl with | [_], _ => rfl) | exact (match us, hl with | [_, _], _ => rfl) | exact (match us, hl with | [_, _, _], _ => rfl) | exact (match us, hl with | [_, _, _, _], _ => rfl) | exact (match us, hl with | [_, _, _, _, _], _ => rfl) | exact (match us, hl with | [_, _, _, _, _, _], _ => rfl) | exact (match us, hl with | [_, _, _, _, _, _, _], _ => rfl) | exact (match us, hl with | [_, _, _, _, _, _, _, _], _ => rfl))))
        | (refine' LN.ad5 ?hza ?hzi ?hzl ?hzc ?hzk ?hzb; (case hza => k_is); (case hzi => k_is); (case hzl => k_is); (case hzc => k_is); (case hzk => k_is); (case hzb => (intro _ _ _ _ _ _ us hl; first | exact (match us, hl with | [_], _ => rfl) | exact (match us, hl with | [_, _], _ => rfl) | exact (match us, hl with | [_, _, _], _ => rfl) | exact (match us, hl with | [_, _, _, _], _ => rfl) | exact (match us, hl with | [_, _, _, _, _], _ => rfl) | exact (match us, hl with | [_, _, _, _, _, _], _ => rfl) | exact (match us, hl with | [_, _, _, _, _, _, _], _ => rfl) | exact (match us, hl with | [_, _, _, _, _, _, _, _], _ => rfl))))
        | (refine' LN.ad6 KX G ?hzg ?hzm ?hza ?hzi ?hzj ?hzl ?hzc ?hzk ?hzb; (case hzg => k_is); (case hzm => k_is); (case hza => k_is); (case hzi => k_is); (case hzj => k_is); (case hzl => k_is); (case hzc => k_is); (case hzk => k_is); (case hzb => (intro _ _ _ _ _ _ us hl; first | exact (match us, hl with | [_], _ => rfl) | exact (match us, hl with | [_, _], _ => rfl) | exact (match us, hl with | [_, _, _], _ => rfl) | exact (match us, hl with | [_, _, _, _], _ => rfl) | exact (match us, hl with | [_, _, _, _, _], _ => rfl) | exact (match us, hl with | [_, _, _, _, _, _], _ => rfl) | exact (match us, hl with | [_, _, _, _, _, _, _], _ => rfl) | exact (match us, hl with | [_, _, _, _, _, _, _, _], _ => rfl))))
        | (refine' LN.afn KX G ?hzf1 ?hzf2 ?hzf3 ?hzf4 ?hzf5 ?hzf6 ?hzf7 ?hzf8 ?hzf9 ?hzf10 ?hzf11 ?hzf12 ?hzf13; (case hzf1 => k_is); (case hzf2 => k_is); (case hzf3 => k_is); (case hzf4 => first | k_is | kernel_rfl | rfl | decide +kernel); (case hzf5 => k_is); (case hzf6 => k_is); (case hzf7 => k_is); (case hzf8 => k_is); (case hzf9 => k_is); (case hzf10 => k_is); (case hzf11 => k_is); (case hzf12 => k_is); (case hzf13 => k_is))
        | (refine' LN.afo KX G ?hza ?hzl ?hzc ?hzk; (case hza => k_is); (case hzl => k_is); (case hzc => k_is); (case hzk => k_is))
  case S =>
    intro K H xs a hO hwi hask hx
    cases hx with
    | cons h1 h2 =>
      cases h2
      cases h1 with
      | lst hs ha =>
        have e := L2.aaQ a.1 _ ha
        subst e
        refine ⟨(_, a.1), rfl, ?_, hask, fun H' p hp => .lst (L2.ah.of hp) (L2.aaP _)⟩
        rcases hs with (q | q) | q
        · rcases hO _ with z | ⟨o, u, z⟩
          · rw [q] at z; cases z
          · rw [q] at z; cases z
        · exact .inl q
        · exact .inr q
